import PyProof.Rows.All
import Wide.All
import OpenK.AllK
import Wide.FinOn
import Lean
import PyProof.EqAt
import PyProof.EqKinds
import PyProof.TupleCall
import PyProof.NeKinds
import PyProof.Draws
import PyProof.ZipIter
import PyProof.DictUpdate
import PyProof.AutoSeq1
import PyProof.ListRange
import PyProof.ListMulRoad
import PyProof.FactsAll.tuple_2
import PyProof.Rows.SortShell
import PyProof.EnumFor
import PyProof.EnumMake
import PyProof.EnumStmt
import PyProof.Rows.SortWalk
import KE.KDictList
import PyProof.SumAny
import PyProof.ConsumeWalk
import PyProof.WalksMore
import PyProof.Rows.TupAssign
import PyProof.ExcArgsOwn
import PySem.Challenge.RW_kindleweb_k01_webs_made
set_option Elab.async false
set_option linter.all false
set_option maxRecDepth 100000
set_option maxHeartbeats 4000000
section
open PySem PySem.Spec PyProof.Rows
def aH1:=@wpAny_bind
def aH2:=@Heap.get?_push_of_some
def aH3:=@List.size_toArray
def aH4:=@List.mem_cons
def aH5:=@List.getElem?_eq_getElem
def aH6:=@List.not_mem_nil
def aH7:=@Nat.le_refl
def aH8:=@decide_eq_false
def aH9:=@wpAny_pure
def aI0:=@wpS_bind
def aI1:=@Heap.lt_size
def aI2:=@decide_eq_true
def aI3:=@List.mem_singleton
def aI5:=@Nat.lt_of_lt_of_le
def aI6:=@wpS_pure
def aJ0:=@Bool.false_ne_true
def aJ1:=@List.length_map
def aJ2:=@List.mem_cons_of_mem
def aJ3:=@Heap.get?_push_size
def aJ9:=@List.mem_cons_self
def aK0:=@List.getElem?_set_ne
def aK6:=@List.append_assoc
def aK7:=@Bool.false_eq_true
def aK9:=@List.mem_append_right
def aL0:=@List.getElem?_eq_some_iff
def aL1:=@List.length_append
def aL2:=@List.getElem?_map
def aL5:=@Nat.ne_of_lt
def aL6:=@Option.some.inj
def aL7:=@or_false
def aL8:=@Int.emod_lt_of_pos
def aL9:=@List.getD_eq_getElem?_getD
def aM2:=@List.take_append_drop
def aM3:=@Int.emod_nonneg
def aM4:=@List.map_cons
def aM5:=@wpAny_field
def aM6:=@List.length_cons
def aM7:=@List.map_append
def aM8:=@List.take_of_length_le
def aM9:=@decide_eq_true_eq
def aN0:=@Array.getElem_mem
def aN1:=@Nat.lt_irrefl
def aN2:=@List.mem_append
def aN3:=@PySem.mem_of_lookup
def aN4:=@Nat.zero_le
def aN6:=@List.pairwise_append
def aN9:=@Nat.lt_or_ge
def aO0:=@wpAny_callSpecial?_slot
def aO1:=@Array.toList_append
def aO3:=@PySem.W.kia_one
def aO4:=@List.length_set
def aO5:=@List.lookup_cons
def aO7:=@Nat.le_trans
def aO8:=@wpAny_mono
def aO9:=@wpAny_setField_rec
def aP4:=@if_false
def aP5:=@List.length_drop
def aP6:=@wpAny_call_entry
def aP7:=@wpAny_newObj_type
def aP8:=@List.getElem?_set_self
def aP9:=@wpS_forRange
def aQ4:=@beq_self_eq_true
def aQ5:=@List.replicate_succ
def aQ8:=@Heap.size_push
def aR3:=@Bool.and_eq_true
def aR4:=@List.pairwise_iff_getElem
def aR5:=@wpAny_holding
def aR7:=@Nat.ne_of_gt
def aR8:=@List.append_nil
def aR9:=@List.mem_map
def aS1:=@List.zip_cons_cons
def aS3:=@List.getElem_mem
def aS4:=@decide_eq_false_iff_not
def aS5:=@PyProof.Rows.callWith_type1
def aS6:=@Nat.le_of_lt
def aS8:=@Bool.eq_false_iff
def aT0:=@List.take_add_one
def aT4:=@PyProof.Rows.slot_tuple_getitem
def aT5:=@List.getElem?_append_left
def aT7:=@Nat.le_add_right
def aU1:=@List.mem_of_getElem?
def aU3:=@List.flatten_cons
def aU4:=@List.pairwise_singleton
def aU5:=@PySem.F.plainAttrs_list
def aV3:=@Array.getD_eq_getD_getElem?
def aV4:=@List.length_take
def aV5:=@List.all_eq_true
def aV7:=@List.getElem?_append_right
def aV8:=@Obj.data_mapFields
def aV9:=@wpAny_seqItems
def aW0:=@wpAny_pyIter_tuple
def aW1:=@Nat.eq_or_lt_of_le
def aW3:=@List.length_singleton
def aW4:=@List.perm_append_comm
def aW5:=@Array.getElem?_toList
def aW6:=@Bool.eq_iff_iff
def aX1:=@List.mem_append_left
def aX2:=@wpAny_truthy_bool
def aX6:=@List.pairwise_map
def aX7:=@Int.le_refl
def aX8:=@wpS_mono
def aY0:=@wpAny_rule
def aY1:=@List.all_cons
def aY4:=@List.drop_take
end
abbrev aa:=List (Int×Int)
abbrev ac:=PySem.W.Frag
abbrev ae:=List (List Int)
abbrev af:=List Int
namespace L2
open PySem PySem.Spec PyProof.Rows
abbrev aM:=Sum Int Str
def k9:aM->Value->Bool
 |.inl k,v=>Value.isInt k v
 |.inr x,v=>Value.isStrOf x v
def M8 (w:World):aM->Int
 |.inl k=>hashInt k
 |.inr x=>hashStr w x
theorem hU:∀{k:aM}{v:Value},k9 k v=true->(∃i t,k=Sum.inl i/\v=Value.int i t)∨(∃x t,k=Sum.inr x/\v=Value.str x t)
 |.inl i,v,h=>by
  obtain⟨t,e⟩:=Value.isInt_shape (k:=i) (v:=v) h
  exact .inl ⟨i,t,rfl,e⟩
 |.inr x,v,h=>by
  obtain⟨t,e⟩:=Value.isStrOf_shape (x:=x) (v:=v) h
  exact .inr ⟨x,t,rfl,e⟩
theorem M9 (i:Int)(t:Tok):k9 (.inl i) (.int i t)=true:=by simp[k9,Value.isInt]
theorem N0 (x:Str)(t:Tok):k9 (.inr x) (.str x t)=true:=by simp[k9,Value.isStrOf]
theorem N1 (a b:Int):decide ((Sum.inl a:aM)=Sum.inl b)=(a==b):=by
 by_cases e:a=b
 ·subst e;simp
 ·have h:¬(Sum.inl a:aM)=Sum.inl b:=λq=>e (Sum.inl.inj q)
  rw[aH8 h]
  exact (beq_eq_false_iff_ne.mpr e).symm
theorem N3 (a b:Str):decide ((Sum.inr a:aM)=Sum.inr b)=decide (a=b):=by
 by_cases e:a=b
 ·subst e;simp
 ·have h:¬(Sum.inr a:aM)=Sum.inr b:=λq=>e (Sum.inr.inj q)
  rw[aH8 h,aH8 e]
theorem N4 (a:Int)(b:Str):decide ((Sum.inl a:aM)=Sum.inr b)=false:=aH8 (λq=>nomatch q)
theorem N5 (a:Str)(b:Int):decide ((Sum.inr a:aM)=Sum.inl b)=false:=aH8 (λq=>nomatch q)
def eU (prog:Program)(w:World):PySem.KeyKind prog w aM where
 is:=k9
 hash:=M8 w
 inj:=λv a b ha hb=>by
  rcases hU ha with⟨i,t,rfl,rfl⟩|⟨x,t,rfl,rfl⟩
  ·rcases hU hb with⟨j,u,rfl,e⟩|⟨y,u,rfl,e⟩
   ·injection e with e1 _;rw[e1]
   ·exact nomatch e
  ·rcases hU hb with⟨j,u,rfl,e⟩|⟨y,u,rfl,e⟩
   ·exact nomatch e
   ·injection e with e1 _;rw[e1]
 byValue:=λk v h=>by
  rcases hU h with⟨i,t,rfl,rfl⟩|⟨x,t,rfl,rfl⟩<;>rfl
 pyHash:=λhv h=>by
  rcases hU hv with⟨i,t,rfl,rfl⟩|⟨x,t,rfl,rfl⟩
  ·exact wpAny_pyHash_int h
  ·exact wpAny_pyHash_str h
 eqBool:=λhu hv h=>by
  rcases hU hu with⟨i,t,rfl,rfl⟩|⟨x,t,rfl,rfl⟩
  ·rcases hU hv with⟨j,u,rfl,rfl⟩|⟨y,u,rfl,rfl⟩
   ·rw[N1]at h;exact wpAny_eqBool_int h
   ·rw[N4]at h;exact SeqAt.EqAt.int_str i t y u _ _ _ _ h
  ·rcases hU hv with⟨j,u,rfl,rfl⟩|⟨y,u,rfl,rfl⟩
   ·rw[N5]at h;exact SeqAt.EqAt.str_int x t j u _ _ _ _ h
   ·rw[N3]at h;exact wpAny_eqBool_str h
 «strs»:=λk x t v h=>by
  rcases hU h with⟨i,u,rfl,e⟩|⟨y,u,rfl,e⟩
  ·exact nomatch e
  ·injection e with e1 _
   subst e1
   cases v<;>rfl
theorem N6 (prog:Program)(w:World)(i:Int)(t:Tok):(eU prog w).is (.inl i) (.int i t)=true:=M9 i t
theorem N7 (prog:Program)(w:World)(x:Str)(t:Tok):(eU prog w).is (.inr x) (.str x t)=true:=N0 x t
inductive V where
 |non|bl (b:Bool)|int (i:Int)|str (x:Str)|byt (b:Array UInt8)|flt (b:UInt64)|ref (a:Addr)|ty (n:String)
 deriving DecidableEq
def aT:V->Value->Prop
 |.non,u=>u=Value.none
 |.bl b,u=>u=Value.bool b
 |.int i,u=>∃t,u=Value.int i t
 |.str x,u=>∃t,u=Value.str x t
 |.byt b,u=>∃t,u=Value.bytes b t
 |.flt b,u=>∃t,u=Value.float b t
 |.ref a,u=>u=Value.ref a
 |.ty n,u=>u=Value.type n
abbrev aL:List V->List Value->Prop:=Paired aT
theorem aL.length {xs:List V}{us:List Value}(r:aL xs us):xs.length=us.length:=Paired.length r
theorem aL.get:∀{xs:List V}{us:List Value}{i:Nat}{x:V},aL xs us->xs[i]? = some x->∃u,us[i]? = some u/\aT x u
 |_,_,_,_,.nil,e=>by simp at e
 |_,_,0,_,.cons r _,e=>by simp at e;subst e;exact⟨_,rfl,r⟩
 |_,_,i+1,x,.cons _ t,e=>by
  obtain⟨u,h1,h2⟩:=aL.get (i:=i) (x:=x) t (by simpa using e)
  exact⟨u,by simpa using h1,h2⟩
theorem aL.set {x:V}{u:Value}(r:aT x u):∀{xs:List V}{us:List Value} (i:Nat),aL xs us->aL (xs.set i x) (us.set i u)
 |_,_,_,.nil=>.nil
 |_,_,0,.cons _ t=>.cons r t
 |_,_,i+1,.cons q t=>.cons q (aL.set r i t)
theorem aL.append:∀{xs ys:List V}{us ws:List Value},aL xs us->aL ys ws->aL (xs++ys) (us++ws)
 |_,_,_,_,.nil,s=>s
 |_,_,_,_,.cons r t,s=>.cons r (aL.append t s)
theorem aL.take:∀{xs:List V}{us:List Value} (n:Nat),aL xs us->aL (xs.take n) (us.take n)
 |_,_,0,_=>.nil
 |_,_,_+1,.nil=>.nil
 |_,_,n+1,.cons r t=>.cons r (aL.take n t)
theorem aL.drop:∀{xs:List V}{us:List Value} (n:Nat),aL xs us->aL (xs.drop n) (us.drop n)
 |_,_,0,r=>r
 |_,_,_+1,.nil=>.nil
 |_,_,n+1,.cons _ t=>aL.drop n t
def kA:Option V->Option Value->Prop
 |some v,some u=>aT v u
 |none,none=>True
 |_,_=>False
def KV {κ:Type}:List (κ×V)->List (κ×Value)->Prop:=Paired λ(p:κ×V) (q:κ×Value)=>p.1=q.1/\aT p.2 q.2
def kV:aM->V
 |.inl i=>.int i
 |.inr x=>.str x
inductive HO where
 |lst (xs:List V)
 |tup (xs:List V)
 |dK (kvs:List (aM×V))|dT (kvs:List (List aM×V))
 |set (S:Int->Bool) (n:Nat)
 |ins (C dx:Addr) (fs:List (Str×V))
 |own (x:Addr)
 |xd (fs:List (Str×V))
 |met (f x:Addr)
 |rng (lo hi:Int)
 |frz (o:Obj) (u:HO)
 |tbl (ps:Array Value)
 |ext (φ:Heap->Prop)
abbrev Hp:=Addr->Option HO
def upd (H:Hp)(a:Addr)(o:HO):Hp:=λb=>if b=a then some o else H b
theorem b7 {H:Hp}{a:Addr}{o:HO}:upd H a o a=some o:=by unfold upd;rw[if_pos rfl]
theorem aJ {H:Hp}{a b:Addr}{o:HO}(h:b≠a):upd H a o b=H b:=by unfold upd;rw[if_neg h]
theorem N8 {H:Hp}{a b:Addr}{o u:HO}(h:H a=some o)(h':H b=some u)(d:o≠u):a≠b:=by
 intro e;subst e;rw[h]at h';exact d (aL6 h')
theorem c9 {H:Hp}{a b:Addr}{o:HO}(h:H a=some o)(h':H b=none):a≠b:=by
 intro e;subst e;rw[h]at h';cases h'
def hV (h:Heap)(a:Addr):Prop:=∀o,h.get? a=some o->o.dict=none
theorem hV.new (h:Heap)(o:Obj)(d:o.dict=none)(s:o.isFreed=false:=by rfl):hV (h.push o) h.objs.size:=λu e=>by
 rw[aJ3 h (o:=o) s]at e
 cases e;exact d
theorem hV.stay {h h':Heap}{a:Addr}{o:Obj}(n:hV h a)(e:h.get? a=some o)(e':h'.get? a=some o):hV h' a:=λu hu=>by
 rw[e']at hu;cases hu;exact n _ e
section
variable (P:Program)(w:World)
def bH (H:Hp)(h:Heap)(a:Addr):HO->Prop
 |.lst xs=>xs.length<=sizeLine/\∃(its:List Value) (n:Nat),aL xs its/\h.get? a=some { cls:=.type "list",data:=.seq its.toArray n }
 |.tup xs=>xs.length<=sizeLine/\∃its:List Value,aL xs its/\IsTup h a its.toArray/\hV h a
 |.dK kvs=>kvs.length<=sizeLine/\(a==sysModules)=false/\∃vs,KV kvs vs/\h.DictOf (eU P w) a vs
 |.dT kvs=>kvs.length<=sizeLine/\(a==sysModules)=false/\∃xs:List (List aM×Addr×Value),
   Paired (λ(p:List aM×V) (q:List aM×Addr×Value)=>p.1=q.1/\H q.2.1=some (.tup (p.1.map kV))/\aT p.2 q.2.2) kvs xs/\
   ∃o es ep,h.get? a=some o/\o.ExactDict/\o.data = .dict es ep/\es.toList=xs.map (entryOfKey (tupleKind (eU P w)))/\(xs.map (·.1)).Nodup
 |.set S n=>h.SetOf (intKind P w) a S n
 |.ins C dx fs=>H dx=some (.own a)/\fs.length<=1000/\dx≠a/\h.get? a=some (PySem.W.instObj C dx)/\
   ∃mA,h.Ns1 dx mA/\(∀f,kA (fs.lookup f) (mA f))/\PySem.Within mA (fs.map (·.1))
 |.own _=>∃o,h.get? a=some o
 |.xd fs=>∃mA,h.Ns1 a mA/\∀f,kA (fs.lookup f) (mA f)
 |.rng lo hi=>∃t u v,h.get? a=some { cls:=.type "range",data:=.fields #[.int lo t,.int hi u,.int 1 v] }
 |.frz o u=>h.get? a=some o/\bH H h a u
 |.tbl ps=>h.get? a=some { cls:=.none,data:=.fields ps }
 |.met f x=>h.get? a=some (PySem.W.methodObj (.ref f) (.ref x))
 |.ext φ=>φ h/\(∃o,h.get? a=some o)/\∀h1 h2:Heap,φ h1->(∀o,h1.get? a=some o->h2.get? a=some o)->φ h2
def bF (H:Hp)(h:Heap):Prop:=∀a o,H a=some o->bH P w H h a o
end
section
variable {P:Program}{w:World}{H H':Hp}{h h':Heap}{a:Addr}{o:HO}
theorem bH.lt (x:bH P w H h a o):a<h.objs.size:=by
 cases o with
 |lst xs=>obtain⟨_,_,_,_,e⟩:=x;exact aI1 e
 |tup xs=>obtain⟨_,_,_,p,_⟩:=x;exact p.lt
 |dK kvs=>obtain⟨_,_,_,_,o,_,_,e,_⟩:=x;exact aI1 e
 |dT kvs=>obtain⟨_,_,_,_,o,_,_,e,_⟩:=x;exact aI1 e
 |set S n=>obtain⟨o,_,_,_,e,_⟩:=x;exact aI1 e
 |ins C dx fs=>obtain⟨_,_,_,e,_⟩:=x;exact aI1 e
 |own y=>obtain⟨_,e⟩:=x;exact aI1 e
 |xd fs=>obtain⟨_,⟨_,_,_,e,_⟩,_⟩:=x;exact aI1 e
 |rng lo hi=>obtain⟨_,_,_,e⟩:=x;exact aI1 e
 |frz ob u=>obtain⟨e,_⟩:=x;exact aI1 e
 |tbl ps=>exact aI1 (show h.get? a=some _ from x)
 |met f y=>exact aI1 (show h.get? a=some _ from x)
 |ext φ=>obtain⟨_,⟨_,e⟩,_⟩:=x;exact aI1 e
theorem Paired.mapP {α β:Type}{F G:α->β->Prop}:∀{l₁:List α}{l₂:List β},Paired F l₁ l₂->(∀a b,F a b->G a b)->Paired G l₁ l₂
 |_,_,.nil,_=>.nil
 |_,_,.cons r t,f=>.cons (f _ _ r) (Paired.mapP t f)
theorem bH.stay (x:bH P w H h a o)(k:∀b u,(b=a∨H b=some (.own a))->h.get? b=some u->h'.get? b=some u)(ho:∀b,H b=some (.own a)->H' b=some (.own a))(ht:∀b xs,H b=some (.tup xs)->H' b=some (.tup xs)):bH P w H' h' a o:=by
 induction o with
 |lst xs=>obtain⟨z,its,n,r,e⟩:=x;exact⟨z,its,n,r,k _ _ (.inl rfl) e⟩
 |tup xs=>obtain⟨z,its,r,⟨ob,e,c⟩,nd⟩:=x;exact⟨z,its,r,⟨ob,k _ _ (.inl rfl) e,c⟩,nd.stay e (k _ _ (.inl rfl) e)⟩
 |dK kvs=>obtain⟨z,y,vs,r,ob,es,ep,e,c⟩:=x;exact⟨z,y,vs,r,ob,es,ep,k _ _ (.inl rfl) e,c⟩
 |dT kvs=>
  obtain⟨z,y,xs,r,ob,es,ep,e,c⟩:=x
  exact⟨z,y,xs,Paired.mapP r λp q z=>⟨z.1,ht _ _ z.2.1,z.2.2⟩,ob,es,ep,k _ _ (.inl rfl) e,c⟩
 |set S n=>obtain⟨ob,es,ep,t,e,c⟩:=x;exact⟨ob,es,ep,t,k _ _ (.inl rfl) e,c⟩
 |ins C dx fs=>
  obtain⟨d,z,ne,e,mA,⟨od,es,ep,e2,c⟩,r⟩:=x
  exact⟨ho _ d,z,ne,k _ _ (.inl rfl) e,mA,⟨od,es,ep,k _ _ (.inr d) e2,c⟩,r⟩
 |own y=>obtain⟨ob,e⟩:=x;exact⟨ob,k _ _ (.inl rfl) e⟩
 |xd fs=>obtain⟨mA,⟨od,es,ep,e,c⟩,r⟩:=x;exact⟨mA,⟨od,es,ep,k _ _ (.inl rfl) e,c⟩,r⟩
 |rng lo hi=>obtain⟨t,u,v,e⟩:=x;exact⟨t,u,v,k _ _ (.inl rfl) e⟩
 |frz ob u ih=>obtain⟨e,q⟩:=x;exact⟨k _ _ (.inl rfl) e,ih q⟩
 |tbl ps=>
  have e:h.get? a=some { cls:=.none,data:=.fields ps }:=x
  show h'.get? a=some { cls:=.none,data:=.fields ps }
  exact k a _ (.inl rfl) e
 |met f y=>
  have e:h.get? a=some (PySem.W.methodObj (.ref f) (.ref y)):=x
  show h'.get? a=some (PySem.W.methodObj (.ref f) (.ref y))
  exact k a _ (.inl rfl) e
 |ext φ=>obtain⟨p,⟨o,e⟩,st⟩:=x;exact⟨st _ _ p λo q=>k _ _ (.inl rfl) q,⟨o,k _ _ (.inl rfl) e⟩,st⟩
theorem bF.lt (x:bF P w H h)(e:H a=some o):a<h.objs.size:=(x a o e).lt
theorem bF.fresh (x:bF P w H h)(e:h.objs.size<=a):H a=none:=by
 cases q:H a with
 |none=>rfl
 |some u=>exact absurd (aI5 (x.lt q) e) (aN1 _)
theorem bF.kept (x:bF P w H h)(k:∀b u,h.get? b=some u->h'.get? b=some u):bF P w H h':=λa o e=>
 (x a o e).stay (λb u _ q=>k b u q) (λ_ q=>q) λ_ _ q=>q
theorem bF.laid (x:bF P w H h)(k:∀b u,h.get? b=some u->h'.get? b=some u)(hp:h.objs.size<=a)(new:bH P w (upd H a o) h' a o):bF P w (upd H a o) h':=λb u e=>by
 have hn:=x.fresh hp
 by_cases hb:b=a
 ·subst hb;rw[b7]at e;cases e;exact new
 ·rw[aJ hb]at e
  exact (x b u e).stay (λc v _ q=>k c v q) (λc q=>by rw[aJ (c9 q hn)];exact q) λc xs q=>by rw[aJ (c9 q hn)];exact q
end
def Rd (H:Hp)(a:Addr)(u:HO):Prop:=H a=some u∨∃o,H a=some (.frz o u)
theorem Rd.ok {P:Program}{w:World}{H:Hp}{h:Heap}{a:Addr}{u:HO}(r:Rd H a u)(x:bF P w H h):bH P w H h a u:=by
 rcases r with r|⟨o,r⟩
 ·exact x a u r
 ·obtain⟨_,q⟩:=x a _ r
  exact q
def lM:Option HO->Prop
 |some (.lst _)=>True
 |some (.dK _)=>True
 |some (.dT _)=>True
 |some (.set _ _)=>True
 |some (.ins _ _ _)=>True
 |some (.ext _)=>True
 |_=>False
section
variable {P:Program}{w:World}{H:Hp}{h h':Heap}{x e:Addr}{o':HO}
theorem bF.write (ok:bF P w H h)(mu:lM (H x))(he:e=x∨H e=some (.own x))(k:∀b u,b≠e->h.get? b=some u->h'.get? b=some u)(heo:∃u,h'.get? e=some u)(new:bH P w (upd H x o') h' x o'):bF P w (upd H x o') h':=λb u q=>by
 have nown:∀c y,H c=some (.own y)->c≠x:=λc y r z=>by subst z;rw[r]at mu;exact mu
 have ntup:∀c xs,H c=some (.tup xs)->c≠x:=λc xs r z=>by subst z;rw[r]at mu;exact mu
 by_cases hb:b=x
 ·subst hb;rw[b7]at q;cases q;exact new
 ·rw[aJ hb]at q
  by_cases hbe:b=e
  ·have q':H b=some (.own x):=by
    rcases he with z|z
    ·exact absurd (hbe.trans z) hb
    ·rw[hbe];exact z
   rw[q]at q';cases q'
   obtain⟨v,hv⟩:=heo
   exact⟨v,by rw[hbe];exact hv⟩
  ·refine (ok b u q).stay (λc v hc r=>k c v ?_ r) (λc r=>by rw[aJ (nown c b r)];exact r) λc xs r=>by rw[aJ (ntup c xs r)];exact r
   rcases hc with rfl|hc
   ·exact hbe
   ·rintro rfl
    rcases he with z|z
    ·exact nown c b hc z
    ·rw[hc]at z;cases z;exact hb rfl
end
structure Un (fs ex:List Addr)(H H':Hp)(h h':Heap):Prop where
 keep:∀b o,h.get? b=some o->H b=none->b∉fs->b∉ex->h'.get? b=some o
 slot:∀b o,h.get? b=some o->H b=none->b∈fs->b∉ex->∃sl,h'.get? b=some { o with slots:=sl }
 free:∀b o,h.get? b=some o->H b=none->b∉ex->H' b=none
 there:∀b o,h.get? b=some o->b∉ex->∃o',h'.get? b=some o'
 tups:∀b xs,H b=some (.tup xs)->H' b=some (.tup xs)
 frzs:∀b o u,H b=some (.frz o u)->H' b=some (.frz o u)
 tbls:∀b ps,H b=some (.tbl ps)->∃more,H' b=some (.tbl (ps++more))
section
variable {fs fs' ex ex':List Addr}{H H1 H2:Hp}{h h1 h2 h':Heap}{a x e:Addr}{o:HO}
theorem Un.any (u:Un fs ex H H1 h h1){b:Addr}{ob:Obj}(q:h.get? b=some ob)(n:H b=none)(hx:b∉ex):∃sl,h1.get? b=some { ob with slots:=sl }:=by
 by_cases hb:b∈fs
 ·exact u.slot b ob q n hb hx
 ·exact⟨ob.slots,u.keep b ob q n hb hx⟩
theorem Un.kept (k:∀b u,h.get? b=some u->h'.get? b=some u):Un fs ex H H h h':=
 ⟨λb ob q _ _ _=>k b ob q,λb ob q _ _ _=>⟨ob.slots,k b ob q⟩,λ_ _ _ n _=>n,λb ob q _=>⟨ob,k b ob q⟩,λ_ _ q=>q,λ_ _ _ q=>q,λ_ ps q=>⟨#[],by rw[q];simp⟩⟩
theorem Un.refl:Un fs ex H H h h:=Un.kept λ_ _ q=>q
theorem Un.laid (k:∀b u,h.get? b=some u->h'.get? b=some u)(hp:h.objs.size<=a)(hn:H a=none):Un fs ex H (upd H a o) h h' where
 keep:=λb u q _ _ _=>k b u q
 slot:=λb u q _ _ _=>⟨u.slots,k b u q⟩
 free:=λb u q n _=>by rw[aJ (aL5 (aI5 (aI1 q) hp))];exact n
 there:=λb u q _=>⟨u,k b u q⟩
 tups:=λb xs q=>by rw[aJ (c9 q hn)];exact q
 frzs:=λb u xs q=>by rw[aJ (c9 q hn)];exact q
 tbls:=λb ps q=>⟨#[],by rw[aJ (c9 q hn),q];simp⟩
theorem Un.write (mu:lM (H x))(he:e=x∨H e=some (.own x))(k:∀b u,b≠e->h.get? b=some u->h'.get? b=some u)(heo:∃u,h'.get? e=some u):Un fs ex H (upd H x o) h h':=by
 have hx:∀b,H b=none->b≠x:=λb n z=>by subst z;rw[n]at mu;exact mu
 have hb:∀b,H b=none->b≠e:=λb n z=>by
  subst z
  rcases he with r|r
  ·exact hx b n r
  ·rw[n]at r;cases r
 have hm:∀b u,H b=some u->¬lM (some u)->b≠x:=λb u q nm z=>by subst z;rw[q]at mu;exact nm mu
 refine⟨λb u q n _ _=>k b u (hb b n) q,λb u q n _ _=>⟨u.slots,k b u (hb b n) q⟩,λb u q n _=>by rw[aJ (hx b n)];exact n,λb u q _=>?_,
  λb xs q=>by rw[aJ (hm b _ q λz=>z)];exact q,λb u xs q=>by rw[aJ (hm b _ q λz=>z)];exact q,λb ps q=>⟨#[],by rw[aJ (hm b _ q λz=>z),q];simp⟩⟩
 by_cases hbe:b=e
 ·subst hbe;exact heo
 ·exact⟨u,k b u hbe q⟩
end
def nO (h:Heap)(H:Hp):List Addr:=(List.range h.objs.size).filter λa=>(H a).isSome
def hZ (h:Heap)(H:Hp):Heap:=PySem.W.hideAll h (nO h H)
theorem N9 (h:Heap)(H:Hp):(hZ h H).objs.size=h.objs.size:=PySem.W.hideAll_size _ _
theorem O0 {h:Heap}{H:Hp}{b:Addr}{o:Obj}(e:h.get? b=some o)(n:H b=none):(hZ h H).get? b=some o:=
 PySem.W.hideAll_get _ e λhm=>by
  have q:(H b).isSome=true:=(List.mem_filter.mp hm).2
  rw[n]at q;simp at q
theorem O1 {h:Heap}{H:Hp}{b:Addr}{o:Obj}(e:(hZ h H).get? b=some o):h.get? b=some o/\H b=none:=by
 have e':h.get? b=some o:=PySem.W.of_hideAll (nO h H) e
 refine⟨e',?_⟩
 cases q:H b with
 |none=>rfl
 |some x=>
  have hm:b∈nO h H:=List.mem_filter.mpr ⟨List.mem_range.mpr (aI1 e'),by simp[q]⟩
  have z:(hZ h H).get? b=none:=PySem.W.hideAll_none (nO h H) hm
  rw[z]at e;cases e
def lN (g h:Heap)(L:Addr):List (Addr×Obj):=(List.range h.objs.size).filterMap λa=>if a=L∨(g.get? a).isSome=true then none else (h.get? a).map λo=>(a,o)
theorem uT {g h:Heap}{L a:Addr}{o:Obj}(h1:a≠L)(h2:g.get? a=none)(h3:h.get? a=some o):(a,o)∈lN g h L:=
 List.mem_filterMap.mpr ⟨a,List.mem_range.mpr (aI1 h3),by simp[h1,h2,h3]⟩
theorem O2 {g h:Heap}{L:Addr}{p:Addr×Obj}(hp:p∈lN g h L):p.1≠L/\g.get? p.1=none/\h.get? p.1=some p.2:=by
 obtain⟨b,_,e⟩:=List.mem_filterMap.mp hp
 split at e
 ·cases e
 ·rename_i hn
  cases q:h.get? b with
  |none=>rw[q]at e;simp at e
  |some u=>
   rw[q]at e
   simp only[Option.map_some,Option.some.injEq]at e
   subst e
   refine⟨λz=>hn (.inl z),?_,q⟩
   show g.get? b=none
   cases r:g.get? b with
   |none=>rfl
   |some v=>exact (hn (.inr (by simp[r]))).elim
def bW (g h:Heap)(L d:Addr):List (Addr×Obj):=(lN g h L).filter λp=>decide (p.1≠d)
theorem O3 {g h:Heap}{L:Addr}:News g L h (lN g h L):=λp hp=>let ⟨a,b,c⟩:=O2 hp;⟨c,a,b⟩
structure Mod (K:ac)(mg:Str->Option Value)(base:Heap):Prop where
 kin:K.In base
 glob:base.Ns mainGlobals mg
 blt:∃mb,base.Ns builtinsNs mb/\∀x:Str,x≠"__name__"->mb x=bootBuiltins x
 nolimit:base.NoLimit
structure Cx where
 prog:Program
 w:World
 K:ac
 mg:Str->Option Value
 base:Heap
 A:Around
 N:List Str
 s₀:Shared
 H₀:Hp
 env:Env
 outer:List Env
 stack:List Env
 ex:List Addr
 fn:Str->Bool
 calm:Bool
 pn:List (Addr×Obj)
 xe:Value->Shared->Prop
def aZ (l:List Env):List Addr:=l.filterMap (·.frame)
abbrev Cx.fs (X:Cx):List Addr:=aZ X.outer
def eV (sc:Scope)(x:Str):Prop:=sc.names.lookup x=some .local∨sc.names.lookup x=some .cell∨sc.names.lookup x=some .free
def fJ (sc:Scope)(x:Str):Prop:=sc.names.lookup x=some .local∨sc.names.lookup x=some .cell
def O4 (env:Env)(h:Heap)(m:Str->Option Value)(x:Str)(u:Value):Prop:=
 (env.kindOf x=some .local/\m x=some u)∨((env.kindOf x=some .cell∨env.kindOf x=some .free)/\∃c,env.cells.lookup x=some c/\h.IsCell c (some u))
structure Cx.Ok (X:Cx):Prop where
 mod:Mod X.K X.mg X.base
 kind:X.env.scope.kind = .function
 glob:X.env.globals=mainGlobals
 blt:X.env.builtins=builtinsNs
 above:X.s₀.heap.objs.size<=X.env.locals
 inj:∀x y c,X.env.cells.lookup x=some c->X.env.cells.lookup y=some c->x=y
 has:∀x,(X.env.kindOf x=some .cell∨X.env.kindOf x=some .free)->∃c,X.env.cells.lookup x=some c
 cab:∀x c,X.fn x=true->X.env.cells.lookup x=some c->X.s₀.heap.objs.size<=c
 hd:X.calm=true->X.A.handled=none
 frames:X.A.frames=some X.stack
 stk:X.stack=X.outer∨(X.stack=X.env::X.outer/\X.env.frame=some X.env.locals)
 exf:∀b∈X.ex,b≠X.env.locals/\∀x c,X.env.cells.lookup x=some c->c≠b
 bs:∀b o,X.base.get? b=some o->X.s₀.heap.get? b=some o/\X.H₀ b=none
 bsz:X.base.objs.size<=X.s₀.heap.objs.size
 noex:∀b o,X.base.get? b=some o->b∉X.ex
 exfs:∀b∈X.ex,b∉X.fs
 funs:X.s₀.heap.FunFrames X.base X.outer
 frf:∀b∈X.fs,X.H₀ b=none
structure a6 (X:Cx)(pins:List (Addr×Obj))(σ:List (Option V))(H:Hp)(s:Shared):Prop where
 ok:X.Ok
 os:s.os=X.s₀.os
 bare:AllBare s.gens
 base:Un X.fs X.ex X.H₀ H X.s₀.heap s.heap
 loc:∃m,s.heap.Ns X.env.locals m/\∀(i:Nat) (x:Str) (v:V),X.N[i]? = some x->σ[i]? = some (some v)->eV X.env.scope x->∃u,aT v u/\O4 X.env s.heap m x u
 cell:∀x c,X.env.cells.lookup x=some c->∃v,s.heap.IsCell c v
 free:H X.env.locals=none
 freeC:∀x c,X.env.cells.lookup x=some c->H c=none
 pin:∀p∈X.pn++pins,s.heap.get? p.1=some p.2/\H p.1=none/\p.1≠X.env.locals/\p.1∉X.fs/\∀v,p.2.data≠.cell v
 hok:bF X.prog X.w H s.heap
 len:σ.length=X.N.length
section
variable {X:Cx}{pins:List (Addr×Obj)}{σ:List (Option V)}{H H':Hp}{s:Shared}{h':Heap}
theorem Cx.Ok.nofr (ok:X.Ok){b:Addr}{o:Obj}(e:X.base.get? b=some o):b∉X.fs:=λhb=>by
 have:=(ok.funs.mem hb).1
 rw[e]at this;cases this
theorem a6.bs (I:a6 X pins σ H s):∀b o,X.base.get? b=some o->s.heap.get? b=some o/\H b=none:=λb o e=>
 ⟨I.base.keep b o (I.ok.bs b o e).1 (I.ok.bs b o e).2 (I.ok.nofr e) (I.ok.noex b o e),I.base.free b o (I.ok.bs b o e).1 (I.ok.bs b o e).2 (I.ok.noex b o e)⟩
theorem a6.bk (I:a6 X pins σ H s):∀b o,X.base.get? b=some o->s.heap.get? b=some o:=λb o e=>(I.bs b o e).1
theorem a6.mod (I:a6 X pins σ H s):Mod X.K X.mg X.base:=I.ok.mod
theorem a6.kIn (I:a6 X pins σ H s):X.K.In s.heap:=I.ok.mod.kin.keeps I.bk
theorem a6.fr (I:a6 X pins σ H s):∃m,Fr X.base X.env.locals s.heap m:=
 let ⟨m,hn,_⟩:=I.loc
 ⟨m,hn,I.bk,aO7 I.ok.bsz I.ok.above⟩
theorem a6.lt (I:a6 X pins σ H s):X.env.locals<s.heap.objs.size:=let ⟨_,hn,_⟩:=I.loc;hn.lt
theorem a6.sz (I:a6 X pins σ H s):X.s₀.heap.objs.size<=s.heap.objs.size:=aO7 I.ok.above (aS6 I.lt)
theorem a6.nofs (I:a6 X pins σ H s){a:Addr}(h:s.heap.objs.size<=a):a∉X.fs:=λhb=>by
 obtain⟨_,o,ho,_⟩:=I.ok.funs.mem hb
 exact absurd (aI5 (aI1 ho) (aO7 I.sz h)) (aN1 _)
theorem a6.cne (I:a6 X pins σ H s):∀x c,X.env.cells.lookup x=some c->c≠X.env.locals:=λx c e z=>by
 obtain⟨v,o,ho,hd⟩:=I.cell x c e
 obtain⟨m,⟨o',es,ep,ho',hd',_⟩,_⟩:=I.loc
 rw[z,ho']at ho;cases ho;rw[hd']at hd;cases hd
theorem a6.funs (I:a6 X pins σ H s):s.heap.FunFrames X.base X.outer:=by
 have all:∀(l:List Env),(∀b∈aZ l,b∈X.fs)->X.s₀.heap.FunFrames X.base l->s.heap.FunFrames X.base l:=by
  intro l
  induction l with
  |nil=>intro _ _;trivial
  |cons env r ih=>
   intro hs hl
   obtain⟨hk,⟨L,o,hf,hn,ho,hd⟩,hr⟩:=hl
   have hL:L∈X.fs:=hs L (by unfold aZ;rw[List.filterMap_cons,hf];exact aJ9)
   obtain⟨sl,e⟩:=I.base.slot L o ho (I.ok.frf L hL) hL λz=>I.ok.exfs L z hL
   exact⟨hk,⟨L,_,hf,hn,e,hd⟩,ih (λb hb=>hs b (by unfold aZ;rw[List.filterMap_cons,hf];exact aJ2 _ hb)) hr⟩
 exact all X.outer (λ_ hb=>hb) I.ok.funs
theorem a6.stack (I:a6 X pins σ H s):s.heap.FunFrames X.base X.stack:=by
 rcases I.ok.stk with e|⟨e,hf⟩
 ·rw[e];exact I.funs
 ·rw[e]
  obtain⟨m,hn,_⟩:=I.loc
  refine .cons (by rw[I.ok.kind];decide) hf hn ?_ I.funs
  exact Heap.get?_none_of_le (aO7 I.ok.bsz I.ok.above)
theorem a6.stkSub (I:a6 X pins σ H s):∀b∈aZ X.stack,b∈X.env.locals::X.fs:=λb hb=>by
 rcases I.ok.stk with e|⟨e,hf⟩
 ·rw[e]at hb;exact aJ2 _ hb
 ·rw[e]at hb
  unfold aZ at hb
  rw[List.filterMap_cons,hf]at hb
  exact hb
theorem a6.stkFree (I:a6 X pins σ H s):∀b∈aZ X.stack,H b=none:=λb hb=>by
 rcases aH4.mp (I.stkSub b hb) with e|hb
 ·rw[e];exact I.free
 ·obtain⟨_,o,ho,_⟩:=I.ok.funs.mem hb
  exact I.base.free b o ho (I.ok.frf b hb) λz=>I.ok.exfs b z hb
theorem a6.step {g':Array GenState}{t':Nat}{d':Drawn}{ch:List Addr}(I:a6 X pins σ H s)(hch:∀b∈ch,(b∈X.ex∨X.s₀.heap.objs.size<=b)/\b≠X.env.locals/\(∀x c,X.env.cells.lookup x=some c->c≠b)/\∀p∈X.pn++pins,p.1≠b)(keep:∀b o,b≠X.env.locals->b∉X.fs->b∉ch->s.heap.get? b=some o->H b=none->h'.get? b=some o)(slot:∀b o,b≠X.env.locals->b∈X.fs->b∉ch->s.heap.get? b=some o->H b=none->∃sl,h'.get? b=some { o with slots:=sl })(free:∀b o,b∉ch->s.heap.get? b=some o->H b=none->H' b=none)(there:∀b o,b∉ch->s.heap.get? b=some o->∃o',h'.get? b=some o')(tups:∀b xs,H b=some (.tup xs)->H' b=some (.tup xs))(frzs:∀b o u,H b=some (.frz o u)->H' b=some (.frz o u))(tbls:∀b ps,H b=some (.tbl ps)->∃more,H' b=some (.tbl (ps++more)))(ns:∀m,s.heap.Ns X.env.locals m->h'.Ns X.env.locals m)(hok:bF X.prog X.w H' h')(hg:AllBare g') :
  a6 X pins σ H' { s with heap:=h',gens:=g',drawn:=d',toks:=t' }:=by
 have neL:∀b o,X.s₀.heap.get? b=some o->b≠X.env.locals:=λb o e=>aL5 (aI5 (aI1 e) I.ok.above)
 have neC:∀b o,X.s₀.heap.get? b=some o->b∉X.ex->b∉ch:=λb o e hx hb=>by
  rcases (hch b hb).1 with z|z
  ·exact hx z
  ·exact absurd (aI5 (aI1 e) z) (aN1 _)
 have cellK:∀x c,X.env.cells.lookup x=some c->∀v,s.heap.IsCell c v->h'.IsCell c v:=λx c e v ⟨o,ho,hd⟩=>by
  have nch:c∉ch:=λz=>(hch c z).2.2.1 x c e rfl
  by_cases hc:c∈X.fs
  ·obtain⟨sl,q⟩:=slot c o (I.cne x c e) hc nch ho (I.freeC x c e)
   exact⟨_,q,hd⟩
  ·exact⟨o,keep c o (I.cne x c e) hc nch ho (I.freeC x c e),hd⟩
 refine⟨I.ok,I.os,hg,⟨λb o e n hb hx=>?_,λb o e n hb hx=>?_,λb o e n hx=>?_,λb o e hx=>?_,λb xs e=>tups b xs (I.base.tups b xs e),λb o xs e=>frzs b o xs (I.base.frzs b o xs e),λb ps e=>?_⟩,?_,λx c e=>?_,?_,λx c e=>?_,λp hp=>?_,hok,I.len⟩
 ·exact keep b o (neL b o e) hb (neC b o e hx) (I.base.keep b o e n hb hx) (I.base.free b o e n hx)
 ·obtain⟨sl,e1⟩:=I.base.slot b o e n hb hx
  obtain⟨sl',e2⟩:=slot b _ (neL b o e) hb (neC b o e hx) e1 (I.base.free b o e n hx)
  exact⟨sl',e2⟩
 ·obtain⟨o',e1⟩:=I.base.there b o e hx
  exact free b o' (neC b o e hx) e1 (I.base.free b o e n hx)
 ·obtain⟨o',e1⟩:=I.base.there b o e hx
  exact there b o' (neC b o e hx) e1
 ·obtain⟨m1,e1⟩:=I.base.tbls b ps e
  obtain⟨m2,e2⟩:=tbls b _ e1
  exact⟨m1++m2,by rw[e2,Array.append_assoc]⟩
 ·obtain⟨m,hn,hl⟩:=I.loc
  refine⟨m,ns m hn,λi x v e1 e2 e3=>?_⟩
  obtain⟨u,r,l⟩:=hl i x v e1 e2 e3
  refine⟨u,r,?_⟩
  rcases l with l|⟨k,c,e,z⟩
  ·exact .inl l
  ·exact .inr ⟨k,c,e,cellK x c e _ z⟩
 ·obtain⟨v,z⟩:=I.cell x c e
  exact⟨v,cellK x c e v z⟩
 ·obtain⟨m,⟨o,_,_,ho,_⟩,_⟩:=I.loc
  exact free _ o (λz=>(hch _ z).2.1 rfl) ho I.free
 ·obtain⟨v,o,ho,hd⟩:=I.cell x c e
  exact free c o (λz=>(hch c z).2.2.1 x c e rfl) ho (I.freeC x c e)
 ·obtain⟨e,n,ne,nf,d⟩:=I.pin p hp
  have nch:p.1∉ch:=λz=>(hch p.1 z).2.2.2 p hp rfl
  exact⟨keep p.1 p.2 ne nf nch e n,free p.1 p.2 nch e n,ne,nf,d⟩
theorem a6.un {t':Nat}(I:a6 X pins σ H s)(u:Un X.fs [] H H' s.heap h')(hok:bF X.prog X.w H' h'):a6 X pins σ H' { s with heap:=h',toks:=t' }:=by
 obtain⟨m,⟨o,es,ep,ho,r⟩,_⟩:=id I.loc
 obtain⟨sl,hL⟩:=u.any ho I.free (by simp)
 exact I.step (g':=s.gens) (d':=s.drawn) (ch:=[]) (λ_ z=>nomatch z) (λb o _ hb _ e n=>u.keep b o e n hb (by simp)) (λb o _ hb _ e n=>u.slot b o e n hb (by simp)) (λb o _ e n=>u.free b o e n (by simp)) (λb o _ e=>u.there b o e (by simp)) u.tups u.frzs u.tbls (λm' hm=>by
  obtain⟨o',es',ep',ho',r'⟩:=hm
  rw[ho]at ho';cases ho'
  exact⟨_,es',ep',hL,r'⟩) hok I.bare
theorem a6.call {g':Array GenState}{t':Nat}{d':Drawn}{ch:List Addr}(I:a6 X pins σ H s)(u:Un (aZ X.stack) ch H H' s.heap h')(hok:bF X.prog X.w H' h')(hg:AllBare g')(hch:∀b∈ch,(b∈X.ex∨X.s₀.heap.objs.size<=b)/\b≠X.env.locals/\(∀x c,X.env.cells.lookup x=some c->c≠b)/\∀p∈X.pn++pins,p.1≠b) :
  a6 X pins σ H' { s with heap:=h',gens:=g',drawn:=d',toks:=t' }:=by
 obtain⟨m,⟨o,es,ep,ho,r⟩,_⟩:=id I.loc
 obtain⟨sl,hL⟩:=u.any ho I.free λz=>(hch _ z).2.1 rfl
 exact I.step (ch:=ch) hch (λb o hL hb hc e n=>u.keep b o e n (λz=>(aH4.mp (I.stkSub b z)).elim hL hb) hc) (λb o _ _ hc e n=>u.any e n hc) (λb o hc e n=>u.free b o e n hc) (λb o hc e=>u.there b o e hc) u.tups u.frzs u.tbls (λm' hm=>by
  obtain⟨o',es',ep',ho',r'⟩:=hm
  rw[ho]at ho';cases ho'
  exact⟨_,es',ep',hL,r'⟩) hok hg
theorem a6.turned {t':Nat}{it:Addr}(I:a6 X pins σ H s)(k:∀b o,b≠it->s.heap.get? b=some o->h'.get? b=some o)(hn:H it=none)(hL:it≠X.env.locals)(h1:it∈X.ex∨X.s₀.heap.objs.size<=it)(h2:∀x c,X.env.cells.lookup x=some c->c≠it)(h3:∀p∈X.pn++pins,p.1≠it):a6 X pins σ H { s with heap:=h',toks:=t' }:=by
 have nit:∀b u,H b=some u->b≠it:=λb u e z=>by rw[z,hn]at e;cases e
 refine I.step (g':=s.gens) (d':=s.drawn) (ch:=[it]) (λb hb=>?_) (λb o _ _ hc e _=>k b o (λz=>hc (by simp[z])) e) (λb o _ _ hc e _=>⟨o.slots,k b o (λz=>hc (by simp[z])) e⟩) (λ_ _ _ _ n=>n)
  (λb o hc e=>⟨o,k b o (λz=>hc (by simp[z])) e⟩) (λ_ _ e=>e) (λ_ _ _ e=>e) (λb ps e=>⟨#[],by rw[e];simp⟩) (λm hm=>?_) (λb u e=>?_) I.bare
 ·have e:b=it:=by simpa using hb
  subst e
  exact⟨h1,hL,h2,h3⟩
 ·obtain⟨o,es,ep,ho,r⟩:=hm
  exact⟨o,es,ep,k _ o (Ne.symm hL) ho,r⟩
 ·refine (I.hok b u e).stay (λc v hc q=>k c v ?_ q) (λ_ q=>q) λ_ _ q=>q
  rcases hc with z|z
  ·rw[z];exact nit b u e
  ·exact nit c _ z
theorem a6.tok (I:a6 X pins σ H s)(t:Nat):a6 X pins σ H { s with toks:=t }:=I.un (h':=s.heap) (t':=t) Un.refl I.hok
theorem a6.kept {t':Nat}(I:a6 X pins σ H s)(k:∀b u,s.heap.get? b=some u->h'.get? b=some u):a6 X pins σ H { s with heap:=h',toks:=t' }:=I.un (Un.kept k) (I.hok.kept k)
theorem a6.laid {a:Addr}{o:HO}{t':Nat}(I:a6 X pins σ H s)(k:∀b u,s.heap.get? b=some u->h'.get? b=some u)(hp:s.heap.objs.size<=a)(new:bH X.prog X.w (upd H a o) h' a o) :
  a6 X pins σ (upd H a o) { s with heap:=h',toks:=t' }:=I.un (Un.laid k hp (I.hok.fresh hp)) (I.hok.laid k hp new)
theorem a6.write {x e:Addr}{o:HO}{t':Nat}(I:a6 X pins σ H s)(mu:lM (H x))(he:e=x∨H e=some (.own x))(k:∀b u,b≠e->s.heap.get? b=some u->h'.get? b=some u)(heo:∃u,h'.get? e=some u)(new:bH X.prog X.w (upd H x o) h' x o):a6 X pins σ (upd H x o) { s with heap:=h',toks:=t' }:=I.un (Un.write mu he k heo) (I.hok.write mu he k heo new)
theorem a6.weak {σ':List (Option V)}(I:a6 X pins σ H s)(hl:σ'.length=σ.length)(w:∀(i:Nat) v,σ'[i]? = some (some v)->σ[i]? = some (some v)):a6 X pins σ' H s:=
 ⟨I.ok,I.os,I.bare,I.base,let ⟨m,hn,hl'⟩:=I.loc;⟨m,hn,λi x v e1 e2 e3=>hl' i x v e1 (w i v e2) e3⟩,I.cell,I.free,I.freeC,I.pin,I.hok,hl.trans I.len⟩
theorem a6.pins_of {pins':List (Addr×Obj)}(I:a6 X pins σ H s)(h:∀p∈pins',s.heap.get? p.1=some p.2/\H p.1=none/\p.1≠X.env.locals/\p.1∉X.fs/\∀v,p.2.data≠.cell v):a6 X pins' σ H s:=
 ⟨I.ok,I.os,I.bare,I.base,I.loc,I.cell,I.free,I.freeC,λp hp=>(aN2.mp hp).elim (λz=>I.pin p (aX1 _ z)) (h p),I.hok,I.len⟩
theorem qG {N:List Str}(hN:N.Nodup){i j:Nat}{x:Str}(a:N[i]? = some x)(b:N[j]? = some x):i=j:=by
 obtain⟨h1,e1⟩:=aL0.mp a
 obtain⟨h2,e2⟩:=aL0.mp b
 exact (List.getElem_inj hN).mp (e1.trans e2.symm)
theorem O5 {M:Model}{A:Around}{E:Value->Shared->Prop}{i:Nat}{x:Str}{v:V}{u:Value}{Q:Unit->Shared->Prop}(I:a6 X pins σ H s)(hN:X.N.Nodup)(hi:X.N[i]? = some x)(hx:fJ X.env.scope x)(r:aT v u)(h:∀s',a6 X pins (σ.set i (some v)) H s'->(∃a,Heap.SameBut a s.heap s'.heap/\(a=X.env.locals∨X.env.cells.lookup x=some a))->Q () s')(hf:X.fn x=true∨X.env.scope.names.lookup x=some .local:=by first|exact .inl rfl|exact .inr rfl|assumption):wpAny M A (storeName X.env x u) Q E s:=by
 obtain⟨m,hn,hl⟩:=id I.loc
 have hcls:(X.env.scope.kind==.class||(X.env.scope.kind==.module&&X.env.locals != X.env.globals))=false:=by rw[I.ok.kind];rfl
 have hiσ:i<σ.length:=by rw[I.len];exact (aL0.mp hi).1
 have cne:=I.cne
 have tracked:∀{a:Addr}{h':Heap},(∃o,s.heap.get? a=some o/\H a=none)->Heap.SameBut a s.heap h'->bF X.prog X.w H h':=λ{a h'} ha hs b ob e=>by
  obtain⟨_,_,hfree⟩:=ha
  refine (I.hok b ob e).stay (λc w' hc q=>(hs.2 c ?_).trans q) (λ_ q=>q) λ_ _ q=>q
  rintro rfl
  rcases hc with rfl|hc
  ·rw[hfree]at e;cases e
  ·rw[hfree]at hc;cases hc
 rcases hx with hk|hk
 ·refine wpAny_storeName_local hk hn (λh' hn' hs=>?_) hcls
  obtain⟨oL,_,_,hoL,_⟩:=id hn
  refine h _ ⟨I.ok,I.os,I.bare,⟨λb o e n hb hx=>?_,λb o e n hb hx=>?_,I.base.free,λb o e hx=>?_,I.base.tups,I.base.frzs,I.base.tbls⟩,⟨_,hn',λj y v' e1 e2 e3=>?_⟩,λy c e=>?_,I.free,I.freeC,λp hp=>?_,tracked ⟨oL,hoL,I.free⟩ hs,by simpa using I.len⟩ ⟨_,hs,.inl rfl⟩
  ·exact (hs.2 b (aL5 (aI5 (aI1 e) I.ok.above))).trans (I.base.keep b o e n hb hx)
  ·obtain⟨sl,e1⟩:=I.base.slot b o e n hb hx
   exact⟨sl,(hs.2 b (aL5 (aI5 (aI1 e) I.ok.above))).trans e1⟩
  ·obtain⟨o',e1⟩:=I.base.there b o e hx
   exact⟨o',(hs.2 b (aL5 (aI5 (aI1 e) I.ok.above))).trans e1⟩
  ·by_cases hj:j=i
   ·subst hj
    rw[hi]at e1;cases e1
    rw[aP8 hiσ]at e2
    cases e2
    exact⟨u,r,.inl ⟨hk,by simp⟩⟩
   ·rw[aK0 (Ne.symm hj)]at e2
    obtain⟨u',r',q⟩:=hl j y v' e1 e2 e3
    refine⟨u',r',?_⟩
    rcases q with⟨k,e⟩|⟨k,c,e,z⟩
    ·refine .inl ⟨k,?_⟩
     have:y≠x:=λe=>hj (qG hN e1 (e▸hi))
     simp[this,e]
    ·exact .inr ⟨k,c,e,z.sameBut hs (cne y c e)⟩
  ·obtain⟨w',z⟩:=I.cell y c e
   exact⟨w',z.sameBut hs (cne y c e)⟩
  ·obtain⟨e,n,ne,nf,d⟩:=I.pin p hp
   exact⟨(hs.2 p.1 ne).trans e,n,ne,nf,d⟩
 ·have hfn:X.fn x=true:=by
   rcases hf with z|z
   ·exact z
   ·rw[z]at hk;cases hk
  obtain⟨c,hc⟩:=I.ok.has x (.inl hk)
  obtain⟨w',z⟩:=I.cell x c hc
  refine wpAny_storeName_cell I.ok.kind hk hc z (λh' hc' hs=>?_)
  obtain⟨oc,hoc,hocd⟩:=id z
  refine h { s with heap:=h' } ⟨I.ok,I.os,I.bare,⟨λb o e n hb hx=>?_,λb o e n hb hx=>?_,I.base.free,λb o e hx=>?_,I.base.tups,I.base.frzs,I.base.tbls⟩,⟨m,hn.sameBut hs (Ne.symm (cne x c hc)),λj y v' e1 e2 e3=>?_⟩,λy c' e=>?_,I.free,I.freeC,λp hp=>?_,tracked ⟨oc,hoc,I.freeC x c hc⟩ hs,by simpa using I.len⟩ ⟨c,hs,.inr hc⟩
  ·exact (hs.2 b (aL5 (aI5 (aI1 e) (I.ok.cab x c hfn hc)))).trans (I.base.keep b o e n hb hx)
  ·obtain⟨sl,e1⟩:=I.base.slot b o e n hb hx
   exact⟨sl,(hs.2 b (aL5 (aI5 (aI1 e) (I.ok.cab x c hfn hc)))).trans e1⟩
  ·obtain⟨o',e1⟩:=I.base.there b o e hx
   exact⟨o',(hs.2 b (aL5 (aI5 (aI1 e) (I.ok.cab x c hfn hc)))).trans e1⟩
  ·by_cases hj:j=i
   ·subst hj
    rw[hi]at e1;cases e1
    rw[aP8 hiσ]at e2
    cases e2
    exact⟨u,r,.inr ⟨.inl hk,c,hc,hc'⟩⟩
   ·rw[aK0 (Ne.symm hj)]at e2
    obtain⟨u',r',q⟩:=hl j y v' e1 e2 e3
    refine⟨u',r',?_⟩
    rcases q with q|⟨k,c',e,z'⟩
    ·exact .inl q
    ·refine .inr ⟨k,c',e,z'.sameBut hs ?_⟩
     rintro rfl
     exact hj (qG hN e1 (I.ok.inj _ _ _ e hc▸hi))
  ·by_cases hcc:c'=c
   ·subst hcc;exact⟨_,hc'⟩
   ·obtain⟨w2,z2⟩:=I.cell y c' e
    exact⟨w2,z2.sameBut hs hcc⟩
  ·obtain⟨e,n,ne,nf,d⟩:=I.pin p hp
   refine⟨(hs.2 p.1 ?_).trans e,n,ne,nf,d⟩
   intro q
   rw[q,hoc]at e
   have q':oc=p.2:=aL6 e
   exact d w' (by rw[<- q'];exact hocd)
theorem qH {M:Model}{A:Around}{E:Value->Shared->Prop}{i:Nat}{x:Str}{v:V}{u:Value}{Q:Unit->Shared->Prop}(I:a6 X pins σ H s)(hN:X.N.Nodup)(hi:X.N[i]? = some x)(hx:fJ X.env.scope x)(r:aT v u)(h:∀s',a6 X pins (σ.set i (some v)) H s'->Q () s')(hf:X.fn x=true∨X.env.scope.names.lookup x=some .local:=by first|exact .inl rfl|exact .inr rfl|assumption):wpAny M A (storeName X.env x u) Q E s:=
 O5 I hN hi hx r (λs' I' _=>h s' I') hf
theorem a6.call' {s':Shared}{ch:List Addr}(I:a6 X pins σ H s)(ho:s'.os=s.os)(u:Un (aZ X.stack) ch H H' s.heap s'.heap)(hok:bF X.prog X.w H' s'.heap)(hg:AllBare s'.gens)(hch:∀b∈ch,(b∈X.ex∨X.s₀.heap.objs.size<=b)/\b≠X.env.locals/\(∀x c,X.env.cells.lookup x=some c->c≠b)/\∀p∈X.pn++pins,p.1≠b):a6 X pins σ H' s':=by
 obtain⟨h',g',d',t',o'⟩:=s'
 have e:o'=s.os:=ho
 subst e
 exact I.call (g':=g') (t':=t') (d':=d') u hok hg hch
end
abbrev XK:=Value->Option Addr->Hp->Prop
abbrev St:=List (Option V)
abbrev VK:=V->Hp->Prop
abbrev TE:=St->Hp->VK->Prop
abbrev TT:=St->Hp->(Bool->Hp->Prop)->Prop
abbrev TA:=St->Hp->(List V->Hp->Prop)->Prop
structure bN where
 nx:St->Hp->Prop
 rt:VK
 bk:St->Hp->Prop:=λ_ _=>False
 ct:St->Hp->Prop:=λ_ _=>False
abbrev TS:=bN->St->Hp->Prop
def EP (X:Cx)(pins:List (Addr×Obj))(σ:St)(Q:VK)(u:Value)(s':Shared):Prop:=∃v H',a6 X pins σ H' s'/\aT v u/\Q v H'
def TP (X:Cx)(pins:List (Addr×Obj))(σ:St)(Q:Bool->Hp->Prop)(b:Bool)(s':Shared):Prop:=∃H',a6 X pins σ H' s'/\Q b H'
def AP (X:Cx)(pins:List (Addr×Obj))(σ:St)(Q:List V->Hp->Prop)(us:List Value)(s':Shared):Prop:=∃vs H',a6 X pins σ H' s'/\aL vs us/\Q vs H'
def SP (X:Cx)(pins:List (Addr×Obj))(D:bN)(f:Flow)(s':Shared):Prop:=
 match f with
 |.next=>∃σ' H',a6 X pins σ' H' s'/\D.nx σ' H'
 |.brk=>∃σ' H',a6 X pins σ' H' s'/\D.bk σ' H'
 |.cont=>∃σ' H',a6 X pins σ' H' s'/\D.ct σ' H'
 |.ret u=>∃v σ' H',a6 X pins σ' H' s'/\aT v u/\D.rt v H'
def PE (X:Cx)(e:Expr)(t:TE):Prop:=
 ∀(pins:List (Addr×Obj)) (s:Shared) (σ:St) (H:Hp) (Q:VK),a6 X pins σ H s->t σ H Q->wpAny (model X.prog X.w) X.A (eval e X.env) (EP X pins σ Q) X.xe s
def PT (X:Cx)(e:Expr)(t:TT):Prop:=
 ∀(pins:List (Addr×Obj)) (s:Shared) (σ:St) (H:Hp) (Q:Bool->Hp->Prop),a6 X pins σ H s->t σ H Q->wpAny (model X.prog X.w) X.A (isTrue e X.env (eval e X.env)) (TP X pins σ Q) X.xe s
def PW (X:Cx)(e:Expr)(t:TT):Prop:=
 ∀(whole:Sem Value) (pins:List (Addr×Obj)) (s:Shared) (σ:St) (H:Hp) (Q:Bool->Hp->Prop),a6 X pins σ H s->t σ H Q->wpAny (model X.prog X.w) X.A (isTrue e X.env whole) (TP X pins σ Q) X.xe s
theorem PW.pt {X:Cx}{e:Expr}{t:TT}(h:PW X e t):PT X e t:=h _
def PA (X:Cx)(es:List Expr)(t:TA):Prop:=
 ∀(pos:Pos) (pins:List (Addr×Obj)) (s:Shared) (σ:St) (H:Hp) (Q:List V->Hp->Prop),a6 X pins σ H s->t σ H Q->wpAny (model X.prog X.w) X.A (spliced (backTo pos (starEach es X.env))) (AP X pins σ Q) X.xe s
def PS (X:Cx)(st:Stmt)(t:TS):Prop:=
 ∀(pins:List (Addr×Obj)) (s:Shared) (σ:St) (H:Hp) (D:bN),a6 X pins σ H s->t D σ H->wpAny (model X.prog X.w) X.A (exec st X.env) (SP X pins D) X.xe s
def cN (X:Cx)(st:List Stmt)(t:TS):Prop:=
 ∀(pins:List (Addr×Obj)) (s:Shared) (σ:St) (H:Hp) (D:bN),a6 X pins σ H s->t D σ H->wpAny (model X.prog X.w) X.A (execs st X.env) (SP X pins D) X.xe s
theorem aQ {α:Type}{t:Sem α}{Q Q':α->Shared->Prop}{M:Model}{A:Around}{E:Value->Shared->Prop}{s:Shared}(h:wpAny M A t Q E s)(hQ:∀a s,Q a s->Q' a s):wpAny M A t Q' E s:=aO8 h hQ λ_ _ x=>x
section
variable {X:Cx}
theorem bin {a b:Expr}{ta tb:TE}(ha:PE X a ta)(hb:PE X b tb){pins:List (Addr×Obj)}{s:Shared}{σ:St}{H:Hp}{R:V->V->Hp->Prop}(I:a6 X pins σ H s)(h:ta σ H λx H1=>tb σ H1 λy H2=>R x y H2){α:Type}{Q:α->Shared->Prop}{f:Value->Value->Sem α}(hf:∀v u s2 x y H2,a6 X pins σ H2 s2->aT x v->aT y u->R x y H2->wpAny (model X.prog X.w) X.A (f v u) Q X.xe s2) :
  wpAny (model X.prog X.w) X.A (eval a X.env) (λv s₁=>wpAny (model X.prog X.w) X.A (eval b X.env) (λu s₂=>wpAny (model X.prog X.w) X.A (f v u) Q X.xe s₂) X.xe s₁) X.xe s:=by
 refine aQ (ha pins s σ H _ I h) λv s1 ⟨x,H1,I1,r1,q1⟩=>?_
 refine aQ (hb pins s1 σ H1 _ I1 q1) λu s2 ⟨y,H2,I2,r2,q2⟩=>?_
 exact hf v u s2 x y H2 I2 r1 r2 q2
def fM (i:Nat):TE:=λσ H Q=>∃v,σ[i]? = some (some v)/\Q v H
def tC (v:V):TE:=λ_ H Q=>Q v H
theorem fZ {i:Nat}{x:Str}{pos:Pos}(hN:X.N[i]? = some x)(hv:eV X.env.scope x)(hd:(x==("__debug__":Str))=false:=by decide)(hcd:(x==("__classdict__":Str))=false:=by decide):PE X (.Name x pos) (fM i):=by
 intro pins s σ H Q I h
 obtain⟨v,e,h⟩:=h
 obtain⟨m,hn,hl⟩:=I.loc
 obtain⟨u,r,l⟩:=hl i x v hN e hv
 have fin:EP X pins σ Q u s:=⟨v,H,I,r,h⟩
 rcases l with⟨hk,hm⟩|⟨hk,c,hc,hcell⟩
 ·exact wpAny_Name (wpAny_loadName_local I.ok.kind hk hn hm fin) hd
 ·rcases hk with hk|hk
  ·exact wpAny_Name (wpAny_loadName_cell I.ok.kind hk hc hcell fin) hd
  ·exact wpAny_Name (wpAny_loadName_free I.ok.kind hk hc hcell fin hcd) hd
theorem qI {i j pos}:PE X (.Constant (.int i) j pos) (tC (.int i)):=λ_ _ _ H _ I h=>wpAny_Constant_int ⟨.int i,H,I.tok _,⟨_,rfl⟩,h⟩
theorem O6 {b j pos}:PE X (.Constant (.bool b) j pos) (tC (.bl b)):=λ_ _ _ H _ I h=>Constant_bool ⟨.bl b,H,I,rfl,h⟩
theorem O7 {j pos}:PE X (.Constant .none j pos) (tC .non):=λ_ _ _ H _ I h=>Constant_none ⟨.non,H,I,rfl,h⟩
theorem O8 {x j pos}:PE X (.Constant (.str x) j pos) (tC (.str x)):=λ_ _ _ H _ I h=>Calls.Constant_str ⟨.str x,H,I.tok _,⟨_,rfl⟩,h⟩
def Gl (X:Cx)(x:Str):Prop:=X.env.kindOf x=some .globalImplicit
theorem lO {E:Value->Shared->Prop}{pins:List (Addr×Obj)}{s:Shared}{σ:St}{H:Hp}{x:Str}{u:Value}{pos:Pos}{Q:Value->Shared->Prop}(I:a6 X pins σ H s)(hg:Gl X x)(hm:X.mg x=some u)(h:Q u s)(hd:(x==("__debug__":Str))=false:=by decide):wpAny (model X.prog X.w) X.A (eval (.Name x pos) X.env) Q E s:=
 Calls.Name_function_global I.ok.kind hg (Calls.loadGlobal_global (by rw[I.ok.glob];exact I.mod.glob.keeps I.bk) hm h) hd
theorem jC {E:Value->Shared->Prop}{pins:List (Addr×Obj)}{s:Shared}{σ:St}{H:Hp}{x:Str}{u:Value}{pos:Pos}{Q:Value->Shared->Prop}(I:a6 X pins σ H s)(hg:Gl X x)(hm:X.mg x=none)(hv:bootBuiltins x=some u)(h:Q u s)(hn:x≠"__name__":=by decide)(hd:(x==("__debug__":Str))=false:=by decide):wpAny (model X.prog X.w) X.A (eval (.Name x pos) X.env) Q E s:=by
 obtain⟨mb,h1,h2⟩:=I.mod.blt
 exact Calls.Name_function_global I.ok.kind hg (Calls.loadGlobal_builtin (by rw[I.ok.glob];exact I.mod.glob.keeps I.bk) hm (by rw[I.ok.blt];exact h1.keeps I.bk) ((h2 x hn).trans hv) h) hd
theorem qJ {x:Str}{v:V}{u:Value}{pos:Pos}(hg:Gl X x)(hm:X.mg x=some u)(r:aT v u)(hd:(x==("__debug__":Str))=false:=by decide):PE X (.Name x pos) (tC v):=
 λ_ _ _ H _ I h=>lO I hg hm ⟨v,H,I,r,h⟩ hd
theorem uU {x:Str}{v:V}{u:Value}{pos:Pos}(hg:Gl X x)(hm:X.mg x=none)(hv:bootBuiltins x=some u)(r:aT v u)(hn:x≠"__name__":=by decide)(hd:(x==("__debug__":Str))=false:=by decide):PE X (.Name x pos) (tC v):=
 λ_ _ _ H _ I h=>jC I hg hm hv ⟨v,H,I,r,h⟩ hn hd
variable {a b:Expr}{ta tb:TE}{pos:Pos}
def PC (X:Cx)(op:CmpOp)(a b:Expr)(t:TE):Prop:=
 ∀(pins:List (Addr×Obj)) (s:Shared) (σ:St) (H:Hp) (Q:VK),a6 X pins σ H s->t σ H Q->
  wpAny (model X.prog X.w) X.A (eval a X.env) (λv s₁=>wpAny (model X.prog X.w) X.A (eval b X.env) (λu s₂=>wpAny (model X.prog X.w) X.A (compareOp op v u) (EP X pins σ Q) X.xe s₂) X.xe s₁) X.xe s
def tB (t:TE):TT:=λσ H Q=>t σ H λx H1=>∃c,x = .bl c/\Q c H1
theorem aG4 {op:CmpOp}{t:TE}(h:PC X op a b t)(h1:behindInMarks op b=false:=by first|exact nobehind _ (by decide) (by decide)|rfl):PT X (.Compare a [op] [b] pos) (tB t):=by
 intro pins s σ H Q I hw
 refine wpAny_isTrue_Compare1 (aQ (h pins s σ H _ I hw) λv s1 h1=>aQ h1 λu s2 h2=>aQ h2 λc s3 ⟨x,H1,I1,r1,q1⟩=>?_) h1
 obtain⟨d,rfl,q⟩:=q1
 cases r1
 exact aX2 ⟨H1,I1,q⟩
theorem O9 {e:Expr}{t:TE}(h:PE X e t)(he:∀whole,isTrue e X.env whole=(do let v <- whole;standAt e.pos;holding [v] (truthy v)):=by intro _;rfl):PT X e (tB t):=by
 intro pins s σ H Q I hw
 refine isTrue_plain (aQ (h pins s σ H _ I hw) λv s1 ⟨x,H1,I1,r1,q1⟩=>?_) (he _)
 obtain⟨d,rfl,q⟩:=q1
 cases r1
 exact aX2 ⟨H1,I1,q⟩
variable {tA tB':TT}{bW:List Expr}
def uV (t u:TT):TT:=λσ H Q=>t σ H λc H1=>if c=true then u σ H1 Q else Q false H1
def uW (t u:TT):TT:=λσ H Q=>t σ H λc H1=>if c=true then Q true H1 else u σ H1 Q
def uX (t:TT):TT:=λσ H Q=>t σ H λc H1=>Q (!c) H1
theorem P0 (ha:PT X a tA):PW X (.BoolOp .And [a] pos) tA:=by
 intro wh pins s σ H Q I h
 refine isTrue_and (aQ (ha pins s σ H Q I h) λc s1 e=>?_)
 cases c with
 |true=>exact isTrue_and_nil e
 |false=>exact e
theorem P3 (ha:PT X a tA):PW X (.BoolOp .Or [a] pos) tA:=by
 intro wh pins s σ H Q I h
 refine isTrue_or (aQ (ha pins s σ H Q I h) λc s1 e=>?_)
 cases c with
 |false=>exact isTrue_or_nil e
 |true=>exact e
theorem P4 (ha:PT X a tA)(hb:PW X (.BoolOp .And (b::bW) pos) tB'):PW X (.BoolOp .And (a::b::bW) pos) (uV tA tB'):=by
 intro wh pins s σ H Q I h
 refine isTrue_and (aQ (ha pins s σ H _ I h) λc s1 ⟨H1,I1,q1⟩=>?_)
 cases c with
 |true=>exact hb wh pins s1 σ H1 Q I1 q1
 |false=>exact⟨H1,I1,q1⟩
theorem P5 (ha:PT X a tA)(hb:PW X (.BoolOp .Or (b::bW) pos) tB'):PW X (.BoolOp .Or (a::b::bW) pos) (uW tA tB'):=by
 intro wh pins s σ H Q I h
 refine isTrue_or (aQ (ha pins s σ H _ I h) λc s1 ⟨H1,I1,q1⟩=>?_)
 cases c with
 |true=>exact⟨H1,I1,q1⟩
 |false=>exact hb wh pins s1 σ H1 Q I1 q1
theorem P6 (ha:PT X a tA):PT X (.UnaryOp .Not a pos) (uX tA):=by
 intro pins s σ H Q I h
 exact isTrue_not (ha pins s σ H (λc H1=>Q (!c) H1) I h)
def uY (ta tb:TE):TE:=λσ H Q=>ta σ H λx H1=>∃c,x = .bl c/\if c=true then tb σ H1 Q else Q (.bl false) H1
def uZ (ta:TE):TE:=λσ H Q=>ta σ H λx H1=>∃c,x = .bl c/\Q (.bl (!c)) H1
theorem P7 {op}{t:TE}(h:PE X a t):PE X (.BoolOp op [a] pos) t:=λpins s σ H Q I hw=>BoolOp_one (h pins s σ H Q I hw)
theorem P8 (ha:PE X a ta)(hb:PE X (.BoolOp .And (b::bW) pos) tb):PE X (.BoolOp .And (a::b::bW) pos) (uY ta tb):=by
 intro pins s σ H Q I h
 refine BoolOp_and (aQ (ha pins s σ H _ I h) λv s1 ⟨x,H1,I1,r1,q1⟩=>?_)
 obtain⟨c,rfl,q1⟩:=q1
 cases r1
 refine aX2 ?_
 cases c with
 |true=>exact hb pins s1 σ H1 Q I1 q1
 |false=>exact⟨.bl false,H1,I1,rfl,q1⟩
theorem P9 (ha:PE X a ta):PE X (.UnaryOp .Not a pos) (uZ ta):=by
 intro pins s σ H Q I h
 refine UnaryOp_ (aQ (ha pins s σ H _ I h) λv s1 ⟨x,H1,I1,r1,q1⟩=>?_)
 obtain⟨c,rfl,q1⟩:=q1
 cases r1
 exact not_of (aX2 ⟨.bl (!c),H1,I1,rfl,q1⟩)
end
def aP (K:ac)(H:Hp)(a:Addr)(xs:List V):Prop:=
 Rd H a (.lst xs) ∨
  ∃(o:Obj) (its:Array Value) (n:Nat),K.lookup a=some o/\o.cls = .type "list"/\o.dict=none/\o.data = .seq its n/\its.size<=sizeLine/\aL xs its.toList
def aN (K:ac)(H:Hp)(a:Addr)(xs:List V):Prop:=
 Rd H a (.tup xs) ∨
  ∃(o:Obj) (its:Array Value) (n:Nat),K.lookup a=some o/\o.cls = .type "tuple"/\o.data = .seq its n/\its.size<=sizeLine/\aL xs its.toList
def Q3:Value->Option V
 |.none=>some .non
 |.bool b=>some (.bl b)
 |.int i _=>some (.int i)
 |.str x _=>some (.str x)
 |.bytes b _=>some (.byt b)
 |.float b _=>some (.flt b)
 |.ref a=>some (.ref a)
 |.type n=>some (.ty n)
 |_=>none
theorem aT.abs {x:V}{u:Value}(r:aT x u):Q3 u=some x:=by
 cases x with
 |non=>cases r;rfl
 |bl _=>cases r;rfl
 |int _=>obtain⟨t,rfl⟩:=r;rfl
 |str _=>obtain⟨t,rfl⟩:=r;rfl
 |byt _=>obtain⟨t,rfl⟩:=r;rfl
 |flt _=>obtain⟨t,rfl⟩:=r;rfl
 |ref _=>cases r;rfl
 |ty _=>cases r;rfl
theorem aT.inj {x y:V}{u:Value}(r:aT x u)(q:aT y u):x=y:=aL6 (r.abs.symm.trans q.abs)
theorem aL.inj:∀{xs ys:List V}{us:List Value},aL xs us->aL ys us->xs=ys
 |_,_,_,.nil,.nil=>rfl
 |_,_,_,.cons r t,.cons r' t'=>by rw[r.inj r',aL.inj t t']
section
variable {X:Cx}{pins:List (Addr×Obj)}{σ:St}{H:Hp}{s:Shared}{a:Addr}{xs ys:List V}
theorem aP.of {K:ac}(h:H a=some (.lst xs)):aP K H a xs:=.inl (.inl h)
theorem aN.of {K:ac}(h:H a=some (.tup xs)):aN K H a xs:=.inl (.inl h)
theorem a6.list (I:a6 X pins σ H s)(h:aP X.K H a xs):∃its:List Value,aL xs its/\PlainL s.heap a its.toArray/\xs.length<=sizeLine:=by
 rcases h with h|⟨o,its,n,hk,hc,hd,hs,hz,r⟩
 ·obtain⟨z,its,n,r,e⟩:=h.ok I.hok
  exact⟨its,r,⟨_,n,e,rfl,rfl,rfl⟩,z⟩
 ·refine⟨its.toList,r,⟨o,n,I.kIn a o hk,hc,hd,by simpa using hs⟩,?_⟩
  have e:=r.length
  simp only[Array.length_toList]at e
  omega
theorem a6.tuple (I:a6 X pins σ H s)(h:aN X.K H a xs):∃its:List Value,aL xs its/\IsTup s.heap a its.toArray/\xs.length<=sizeLine:=by
 rcases h with h|⟨o,its,n,hk,hc,hs,hz,r⟩
 ·obtain⟨z,its,r,p,_⟩:=h.ok I.hok
  exact⟨its,r,p,z⟩
 ·refine⟨its.toList,r,⟨o,I.kIn a o hk,hc,n,by simpa using hs⟩,?_⟩
  have e:=r.length
  simp only[Array.length_toList]at e
  omega
theorem a6.list_inj (I:a6 X pins σ H s)(h:aP X.K H a xs)(h':aP X.K H a ys):xs=ys:=by
 obtain⟨its,r,⟨o,n,e,_,_,d⟩,_⟩:=I.list h
 obtain⟨its',r',⟨o',n',e',_,_,d'⟩,_⟩:=I.list h'
 rw[e]at e';cases e'
 rw[d]at d'
 injection d' with d1 _
 have:its=its':=by simpa using congrArg Array.toList d1
 subst this
 exact r.inj r'
theorem a6.tuple_inj (I:a6 X pins σ H s)(h:aN X.K H a xs)(h':aN X.K H a ys):xs=ys:=by
 obtain⟨its,r,⟨o,e,_,n,d⟩,_⟩:=I.tuple h
 obtain⟨its',r',⟨o',e',_,n',d'⟩,_⟩:=I.tuple h'
 rw[e]at e';cases e'
 rw[d]at d'
 injection d' with d1 _
 have:its=its':=by simpa using congrArg Array.toList d1
 subst this
 exact r.inj r'
end
abbrev Cx.wish (X:Cx)(E:Value->Shared->Prop):Cx:={ X with xe:=E }
abbrev Cx.nox (X:Cx):Cx:=X.wish λ_ _=>False
theorem Cx.Ok.wish {X:Cx}(ok:X.Ok)(E:Value->Shared->Prop):(X.wish E).Ok:=
 ⟨ok.mod,ok.kind,ok.glob,ok.blt,ok.above,ok.inj,ok.has,ok.cab,ok.hd,ok.frames,ok.stk,ok.exf,ok.bs,ok.bsz,ok.noex,ok.exfs,ok.funs,ok.frf⟩
theorem Cx.Ok.unwish {X:Cx}{E:Value->Shared->Prop}(ok:(X.wish E).Ok):X.Ok:=
 ⟨ok.mod,ok.kind,ok.glob,ok.blt,ok.above,ok.inj,ok.has,ok.cab,ok.hd,ok.frames,ok.stk,ok.exf,ok.bs,ok.bsz,ok.noex,ok.exfs,ok.funs,ok.frf⟩
section
variable {X:Cx}{pins:List (Addr×Obj)}{σ:St}{H:Hp}{s:Shared}{E:Value→Shared→Prop}
theorem a6.wish (I:a6 X pins σ H s)(E:Value->Shared->Prop):a6 (X.wish E) pins σ H s:=⟨I.ok.wish E,I.os,I.bare,I.base,I.loc,I.cell,I.free,I.freeC,I.pin,I.hok,I.len⟩
theorem a6.unwish (I:a6 (X.wish E) pins σ H s):a6 X pins σ H s:=⟨I.ok.unwish,I.os,I.bare,I.base,I.loc,I.cell,I.free,I.freeC,I.pin,I.hok,I.len⟩
theorem SP.unwish {D:bN}{f:Flow}{s':Shared}(h:SP (X.wish E) pins D f s'):SP X pins D f s':=by
 cases f with
 |next=>obtain⟨σ',H',I,q⟩:=h;exact⟨σ',H',I.unwish,q⟩
 |brk=>obtain⟨σ',H',I,q⟩:=h;exact⟨σ',H',I.unwish,q⟩
 |cont=>obtain⟨σ',H',I,q⟩:=h;exact⟨σ',H',I.unwish,q⟩
 |ret u=>obtain⟨v,σ',H',I,r,q⟩:=h;exact⟨v,σ',H',I.unwish,r,q⟩
theorem cN.nox {st:List Stmt}{t:TS}(h:cN X.nox st t):cN X st t:=λpins s σ H D I hw=>
 aO8 (h pins s σ H D (I.wish _) hw) (λ_ _ q=>q.unwish) λ_ _ z=>False.elim z
end
section
variable {X:Cx}{st:Stmt}{bW:List Stmt}{t u:TS}{e:Expr}{te:TE}{pos:Pos}
def v3:TS:=λD σ H=>D.nx σ H
def kB (t u:TS):TS:=λD σ H=>t { D with nx:=u D } σ H
theorem Q4:cN X [] v3:=λ_ _ σ H _ I h=>wpAny_execs_nil ⟨σ,H,I,h⟩
theorem lP (h1:PS X st t)(h2:cN X bW u):cN X (st::bW) (kB t u):=by
 intro pins s σ H D I h
 refine wpAny_execs_cons (aQ (h1 pins s σ H { D with nx:=u D } I h) λf s1 q=>?_)
 cases f with
 |next=>
  obtain⟨σ',H',I',q⟩:=q
  exact h2 pins s1 σ' H' D I' q
 |ret v=>exact q
 |brk=>exact q
 |cont=>exact q
theorem v4 (h1:PS X st t):cN X [st] t:=by
 intro pins s σ H D I h
 refine wpAny_execs_cons (aQ (h1 pins s σ H D I h) λf s1 q=>?_)
 cases f with
 |next=>exact wpAny_execs_nil q
 |ret v=>exact q
 |brk=>exact q
 |cont=>exact q
theorem a6.quiet {pins:List (Addr×Obj)}{σ:St}{H:Hp}{s:Shared}(I:a6 X pins σ H s):interactive X.env=false:=by simp[interactive,I.ok.kind]
def i4 (te:TE):TS:=λD σ H=>te σ H λ_ H1=>D.nx σ H1
theorem kC (he:PE X e te)(hs:swapsWith e none pos.line X.env=pure false:=by rfl):PS X (.Expr e pos) (i4 te):=by
 intro pins s σ H D I h
 exact wpAny_Expr_any (aQ (he pins s σ H _ I h) λv s1 ⟨x,H1,I1,r1,q1⟩=>⟨σ,H1,I1,q1⟩) I.quiet hs
def qK (te:TE):TS:=λD σ H=>te σ H D.rt
theorem v7 (he:PE X e te):PS X (.Return (some e) pos) (qK te):=by
 intro pins s σ H D I h
 exact wpAny_Return_some (aQ (he pins s σ H _ I h) λv s1 ⟨x,H1,I1,r1,q1⟩=>⟨x,σ,H1,I1,r1,q1⟩)
def qL (c:TT)(t u:TS):TS:=λD σ H=>c σ H λb H1=>if b=true then t D σ H1 else u D σ H1
theorem v8 {c:Expr}{a b:List Stmt}{tc:TT}(hc:PT X c tc)(ha:cN X a t)(hb:cN X b u):PS X (.If c a b pos) (qL tc t u):=by
 intro pins s σ H D I h
 refine wpAny_If (aQ (hc pins s σ H _ I h) λd s1 ⟨H1,I1,q1⟩=>?_)
 cases d with
 |true=>exact ha pins s1 σ H1 D I1 q1
 |false=>exact hb pins s1 σ H1 D I1 q1
end
abbrev TG:=V->St->Hp->(St->Hp->Prop)->Prop
abbrev jD:=List V->St->Hp->(St->Hp->Prop)->Prop
def PG (X:Cx)(target:Expr)(t:TG):Prop:=
 ∀(pins:List (Addr×Obj)) (s:Shared) (σ:St) (H:Hp) (v:V) (u:Value) (Q:St->Hp->Prop),a6 X pins σ H s->aT v u->t v σ H Q->
  wpAny (model X.prog X.w) X.A (assign target X.env u) (λ_ s'=>∃σ' H',a6 X pins σ' H' s'/\Q σ' H') X.xe s
def nP (X:Cx)(ts:List Expr)(t:jD):Prop:=
 ∀(pins:List (Addr×Obj)) (s:Shared) (σ:St) (H:Hp) (vs:List V) (us:List Value) (Q:St->Hp->Prop),a6 X pins σ H s->aL vs us->t vs σ H Q->
  wpAny (model X.prog X.w) X.A (assignInOrder ((assignEach ts X.env).map (·.2)) us) (λ_ s'=>∃σ' H',a6 X pins σ' H' s'/\Q σ' H') X.xe s
abbrev nQ:=V->V->V->Hp->(Hp->Prop)->Prop
def v9 (X:Cx)(t:nQ):Prop:=
 ∀(pins:List (Addr×Obj)) (s:Shared) (σ:St) (H:Hp) (o i v:V) (ov iv u:Value) (Q:Hp->Prop),a6 X pins σ H s->aT o ov->aT i iv->aT v u->t o i v H Q->
  wpAny (model X.prog X.w) X.A (setItem ov iv u) (λ_ s'=>∃H',a6 X pins σ H' s'/\Q H') X.xe s
section
variable {X:Cx}{pos:Pos}
def dB (i:Nat):TG:=λv σ H Q=>Q (σ.set i (some v)) H
theorem iP {i:Nat}{x:Str}(hN:X.N.Nodup)(hi:X.N[i]? = some x)(hx:fJ X.env.scope x)(hf:X.fn x=true∨X.env.scope.names.lookup x=some .local:=by first|exact .inl rfl|exact .inr rfl|assumption):PG X (.Name x pos) (dB i):=by
 intro pins s σ H v u Q I r h
 exact wpAny_assign_Name (qH I hN hi hx r (λs' I'=>⟨_,H,I',h⟩) hf)
def kD:jD:=λvs σ H Q=>vs = []/\Q σ H
def g9 (t:TG)(u:jD):jD:=λvs σ H Q=>∃v r,vs=v::r/\t v σ H λσ' H'=>u r σ' H' Q
theorem qM:nP X [] kD:=by
 intro pins s σ H vs us Q I r h
 obtain⟨e,h⟩:=h
 subst e
 cases r
 exact assignInOrder_nil ⟨σ,H,I,h⟩
theorem kE {e:Expr}{es:List Expr}{t:TG}{u:jD}(h1:PG X e t)(h2:nP X es u)(hs:(assignEach (e::es) X.env).map (·.2)=assign e X.env::(assignEach es X.env).map (·.2):=by rfl):nP X (e::es) (g9 t u):=by
 intro pins s σ H vs us Q I r h
 obtain⟨v,vr,e1,h⟩:=h
 subst e1
 cases r with
 |cons r rr=>
  rw[hs]
  refine assignInOrder_cons (aQ (h1 pins s σ H _ _ _ I r h) λ_ s1 ⟨σ1,H1,I1,q1⟩=>?_)
  exact h2 pins s1 σ1 H1 _ _ Q I1 rr q1
def kF (K:ac)(n:Nat)(t:jD):TG:=λv σ H Q=>∃a xs,v = .ref a/\aN K H a xs/\xs.length=n/\t xs σ H Q
theorem qN {es:List Expr}{k:Nat}{t:jD}{n:Nat}(hc:X.calm=true)(h:nP X es t)(hn:(assignEach es X.env).length=n:=by rfl)(hst:(assignEach es X.env).findIdx? (·.1)=none:=by rfl):PG X (.Tuple es k pos) (kF X.K n t):=by
 intro pins s σ H v u Q I r hw
 obtain⟨a,xs,e1,hq,hl,hw⟩:=hw
 subst e1
 cases r
 obtain⟨its,rv,ht,hz⟩:=I.tuple hq
 refine assign_Tuple_tuple (I.ok.hd hc) ht (by simp[hn,<- hl,rv.length]) hst λh' hx=>?_
 have I1:a6 X pins σ H { s with heap:=h' }:=I.kept (t':=s.toks) λb o e=>hx b o (aL5 (aI1 e)) e
 exact h pins _ σ H xs _ Q I1 (by simpa using rv) hw
def nR (to ti:TE)(t:nQ):TG:=λv σ H Q=>to σ H λo H1=>ti σ H1 λi H2=>t o i v H2 λH3=>Q σ H3
theorem Q5 {o i:Expr}{to ti:TE}{t:nQ}(ho:PE X o to)(hi:PE X i ti)(hs:v9 X t)(ha:∀v,assign (.Subscript o i pos) X.env v=(do
   let ov <- holding [v] (eval o X.env)
   let iv <- holding [v,ov] (eval i X.env)
   standAt pos
   holding [v,ov,iv] (setItem ov iv v)
   release [v,ov,iv] []):=by intro _;rfl):PG X (.Subscript o i pos) (nR to ti t):=by
 intro pins s σ H v u Q I r h
 rw[ha]
 refine aH1 (aR5 (aQ (ho pins s σ H _ I h) λov s1 ⟨x,H1,I1,r1,q1⟩=>?_))
 refine aH1 (aR5 (aQ (hi pins s1 σ H1 _ I1 q1) λiv s2 ⟨y,H2,I2,r2,q2⟩=>?_))
 refine aH1 (wpAny_standAt (aH1 (aR5 (aQ (hs pins s2 σ H2 x y v ov iv u _ I2 r1 r2 r q2) λ_ s3 ⟨H3,I3,q3⟩=>?_))))
 exact wpAny_release ⟨σ,H3,I3,q3⟩
def iQ (te:TE)(g:TG):TS:=λD σ H=>te σ H λx H1=>g x σ H1 D.nx
theorem vA {tg e:Expr}{te:TE}{g:TG}(he:PE X e te)(hg:PG X tg g)(hs:swapsWithSole [tg] e pos.line X.env=pure false:=by rfl)(hw:swappedStores [tg] e X.env=pure none:=by rfl)(h1:(assignEach [tg] X.env).map (·.2) = [assign tg X.env]:=by rfl):PS X (.Assign [tg] e pos) (iQ te g):=by
 intro pins s σ H D I h
 refine wpAny_Assign_stores (aQ (he pins s σ H _ I h) λv s1 ⟨x,H1,I1,r1,q1⟩=>?_) hs hw
 rw[h1]
 exact aQ (hg pins s1 σ H1 x v _ I1 r1 q1) λ_ s2 q=>q
theorem qO {i:Nat}{x:Str}{e:Expr}{te:TE}{pos':Pos}(hN:X.N.Nodup)(hi:X.N[i]? = some x)(hx:fJ X.env.scope x)(he:PE X e te)(hs:swapsWith e (some (.Name x pos')) pos.line X.env=pure false:=by rfl)(hf:X.fn x=true∨X.env.scope.names.lookup x=some .local:=by first|exact .inl rfl|exact .inr rfl|assumption) :
  PS X (.Assign [.Name x pos'] e pos) (iQ te (dB i)):=by
 intro pins s σ H D I h
 refine wpAny_Assign_Name (aQ (he pins s σ H _ I h) λv s1 ⟨y,H1,I1,r1,q1⟩=>?_) hs
 exact qH I1 hN hi hx r1 (λs2 I2=>⟨_,H1,I2,q1⟩) hf
end
structure It where
 go:Nat->Hp->Prop
 yld:Nat->Hp->V->Hp->Prop
 stop:Nat->Hp->Prop
def dC (X:Cx)(pins:List (Addr×Obj))(H:Hp)(b:Addr):Prop:=
 H b=none/\b≠X.env.locals/\b∉X.fs/\(b∈X.ex∨X.s₀.heap.objs.size<=b)/\(∀x c,X.env.cells.lookup x=some c->c≠b)/\∀p∈X.pn++pins,p.1≠b
theorem a6.fpOk {X:Cx}{pins:List (Addr×Obj)}{σ:St}{H H':Hp}{s:Shared}{b:Addr}(I:a6 X pins σ H s)(hb:s.heap.objs.size<=b)(hn:H' b=none):dC X pins H' b:=by
 refine⟨hn,aR7 (aI5 I.lt hb),I.nofs hb,.inr (aO7 I.sz hb),λx c e z=>?_,λp hp z=>?_⟩
 ·obtain⟨v,q⟩:=I.cell x c e
  exact absurd (aI5 q.lt (by rw[z];exact hb)) (aN1 _)
 ·exact absurd (aI5 (aI1 (I.pin p hp).1) (by rw[z];exact hb)) (aN1 _)
structure gA (P:Program)(w:World)(K:ac)(tg:Expr)(J:It)(fp:List Addr)(it:Addr)(tn:Nat->Heap->Prop):Prop where
 mem:it∈fp
 obj:∀i h,tn i h->∀b∈fp,∃o,h.get? b=some o/\∀v,o.data≠.cell v
 keep:∀i h h',tn i h->(∀b∈fp,∀o,h.get? b=some o->h'.get? b=some o)->tn i h'
 item:∀(X:Cx),X.prog=P->X.w=w->X.K=K->X.calm=true->∀(i:Nat) (pins:List (Addr×Obj)) (s:Shared) (σ:St) (H:Hp) (E:Value->Shared->Prop),a6 X pins σ H s->(∀b∈fp,dC X pins H b)->tn i s.heap->J.go i H->
  wpAny (model P w) X.A (pyNext (.ref it)) (λr s1=>∃u,r=some u/\
   wpAny (model P w) X.A (letOwnedTupleGo tg (.ref it) u) (λ_ s2=>∃x H',a6 X pins σ H' s2/\aT x u/\J.yld i H x H'/\tn (i+1) s2.heap/\∀b∈fp,H' b=none) E s1) E s
 done:∀(X:Cx),X.prog=P->X.w=w->X.K=K->X.calm=true->∀(i:Nat) (pins:List (Addr×Obj)) (s:Shared) (σ:St) (H:Hp) (E:Value->Shared->Prop),a6 X pins σ H s->(∀b∈fp,dC X pins H b)->tn i s.heap->J.stop i H->
  wpAny (model P w) X.A (pyNext (.ref it)) (λr s1=>r=none/\a6 X pins σ H s1) E s
 self:∀(A:Around) (i:Nat) (s:Shared) (Q:Value->Shared->Prop) (E:Value->Shared->Prop),tn i s.heap->Q (.ref it) s->wpAny (model P w) A (pyIter (.ref it)) Q E s
abbrev TI:=St->Hp->(It->Hp->Prop)->Prop
def vB (X:Cx)(pins:List (Addr×Obj))(σ:St)(tg:Expr)(R:It->Hp->Prop)(itv:Value)(s2:Shared):Prop:=
 ∃(it:Addr) (fp:List Addr) (tn:Nat->Heap->Prop) (J:It) (H':Hp),itv = .ref it/\a6 X pins σ H' s2/\gA X.prog X.w X.K tg J fp it tn/\tn 0 s2.heap/\(∀b∈fp,dC X pins H' b)/\R J H'
def PI (X:Cx)(tg iter:Expr)(wi:TI):Prop:=
 ∀(pins:List (Addr×Obj)) (s:Shared) (σ:St) (H:Hp) (R:It->Hp->Prop),a6 X pins σ H s->wi σ H R->
  wpAny (model X.prog X.w) X.A (eval iter X.env) (λv s1=>wpAny (model X.prog X.w) X.A (pyIter v) (vB X pins σ tg R) X.xe s1) X.xe s
theorem qP {M:Model}{A:Around}{E:Value->Shared->Prop}{s:Shared}{tg:Expr}{it:Addr}{u:Value}{o:Obj}{n:String}{vs:Array Value}{Q:Unit->Shared->Prop}(ho:s.heap.get? it=some o)(hc:o.cls = .type n)(hd:o.data = .fields vs)(hn:["enumerate","zip","dict_itemiterator","dict_reverseitemiterator","odict_iterator","itertools.zip_longest","itertools.pairwise"].contains n=false)(hQ:Q () s):wpAny M A (letOwnedTupleGo tg (.ref it) u) Q E s:=by
  unfold letOwnedTupleGo
  cases tg<;>first
    |exact aH9 hQ
    |(cases u<;>first
        |exact aH9 hQ
        | (refine aH1 (wpAny_load ho ?_)
           rw[hc,hd]
           show wpAny M A (if (["enumerate","zip","dict_itemiterator","dict_reverseitemiterator","odict_iterator","itertools.zip_longest","itertools.pairwise"].contains n&&vs[0]?==some (rawInt _))=true then _ else _) Q E s
           rw[if_neg (by intro h;rw[hn,Bool.false_and]at h;cases h)]
           exact aH9 hQ))
def qQ (K:ac)(a:Addr):It:=
 ⟨λi H=>∃xs x,aP K H a xs/\xs[i]? = some x,λi H x H'=>H'=H/\∀xs,aP K H a xs->xs[i]? = some x,λi H=>∃xs,aP K H a xs/\xs.length<=i⟩
def qR (K:ac)(a:Addr):It:=
 ⟨λi H=>∃xs x,aN K H a xs/\xs[i]? = some x,λi H x H'=>H'=H/\∀xs,aN K H a xs->xs[i]? = some x,λi H=>∃xs,aN K H a xs/\xs.length<=i⟩
def lQ (lo:Int)(n:Nat):It:=⟨λi _=>i<n,λi H x H'=>H'=H/\x = .int (lo+i),λi _=>n<=i⟩
theorem Q6 {P:Program}{w:World}{K:ac}{tg:Expr}(a it:Addr):gA P w K tg (qQ K a) [it] it (λi h=>h.IsListIter it a i) where
 mem:=by simp
 obj:=λi h st b hb=>by
  have e:b=it:=by simpa using hb
  subst e
  obtain⟨o,e,c,d⟩:=st
  exact⟨o,e,λv z=>by rw[d]at z;cases z⟩
 keep:=λi h h' st k=>st.at λo e=>k it (by simp) o e
 item:=by
  intro X hP hw hK hc i pins s σ H E I hf st hg
  subst hP hw hK
  obtain⟨xs,x,hq,hx⟩:=hg
  obtain⟨its,rv,p,hz⟩:=I.list hq
  obtain⟨u,hu,ru⟩:=rv.get hx
  obtain⟨f0,f1,f2,f3,f4,f5⟩:=hf it (by simp)
  refine wpAny_pyNext_list_item st p.isList (x:=u) (by simpa using hu) λh' st' sb=>?_
  have I1:a6 X pins σ H { s with heap:=h' }:=I.turned (t':=s.toks) (λb o hb e=>(sb.2 b hb).trans e) f0 f1 f3 f4 f5
  obtain⟨o,e,c,d⟩:=id st'
  exact⟨u,rfl,qP (s:={ s with heap:=h' }) e c d (by decide) ⟨x,H,I1,ru,⟨rfl,λys hy=>by rw[I.list_inj hy hq];exact hx⟩,st',λb hb=>(hf b hb).1⟩⟩
 done:=by
  intro X hP hw hK hc i pins s σ H E I hf st hg
  subst hP hw hK
  obtain⟨xs,hq,hx⟩:=hg
  obtain⟨its,rv,p,hz⟩:=I.list hq
  obtain⟨f0,f1,f2,f3,f4,f5⟩:=hf it (by simp)
  have hl:=rv.length
  exact wpAny_pyNext_list_end (I.ok.hd hc) st p.isList (by simp;omega) λh' eb=>⟨rfl,I.turned (t':=s.toks) (λb o hb e=>eb b o hb e) f0 f1 f3 f4 f5⟩
 self:=λ_ _ _ _ _ st h=>wpAny_pyIter_listiter st h
theorem Q7 {P:Program}{w:World}{K:ac}{tg:Expr}(a it:Addr):gA P w K tg (qR K a) [it] it (λi h=>h.IsTupleIter it a i) where
 mem:=by simp
 obj:=λi h st b hb=>by
  have e:b=it:=by simpa using hb
  subst e
  obtain⟨o,e,c,d⟩:=st
  exact⟨o,e,λv z=>by rw[d]at z;cases z⟩
 keep:=λi h h' st k=>st.at λo e=>k it (by simp) o e
 item:=by
  intro X hP hw hK hc i pins s σ H E I hf st hg
  subst hP hw hK
  obtain⟨xs,x,hq,hx⟩:=hg
  obtain⟨its,rv,p,hz⟩:=I.tuple hq
  obtain⟨u,hu,ru⟩:=rv.get hx
  obtain⟨f0,f1,f2,f3,f4,f5⟩:=hf it (by simp)
  refine wpAny_pyNext_tuple_item st (show s.heap.IsTuple a its.toArray from p) (x:=u) (by simpa using hu) λh' st' sb=>?_
  have I1:a6 X pins σ H { s with heap:=h' }:=I.turned (t':=s.toks) (λb o hb e=>(sb.2 b hb).trans e) f0 f1 f3 f4 f5
  obtain⟨o,e,c,d⟩:=id st'
  exact⟨u,rfl,qP (s:={ s with heap:=h' }) e c d (by decide) ⟨x,H,I1,ru,⟨rfl,λys hy=>by rw[I.tuple_inj hy hq];exact hx⟩,st',λb hb=>(hf b hb).1⟩⟩
 done:=by
  intro X hP hw hK hc i pins s σ H E I hf st hg
  subst hP hw hK
  obtain⟨xs,hq,hx⟩:=hg
  obtain⟨its,rv,p,hz⟩:=I.tuple hq
  obtain⟨f0,f1,f2,f3,f4,f5⟩:=hf it (by simp)
  have hl:=rv.length
  exact wpAny_pyNext_tuple_end (I.ok.hd hc) st (show s.heap.IsTuple a its.toArray from p) (by simp;omega) λh' eb=>⟨rfl,I.turned (t':=s.toks) (λb o hb e=>eb b o hb e) f0 f1 f3 f4 f5⟩
 self:=λ_ _ _ _ _ st h=>wpAny_pyIter_tupleiter st h
theorem Q8 {P:Program}{w:World}{K:ac}{tg:Expr}(it:Addr)(lo:Int)(n:Nat):gA P w K tg (lQ lo n) [it] it (λi h=>IsRangeIter h it (lo+(i:Nat)*1) ((n:Int)-(i:Nat)) 1) where
 mem:=by simp
 obj:=λi h st b hb=>by
  have e:b=it:=by simpa using hb
  subst e
  exact⟨_,st,λv z=>by
   have z':Data.fields _=Data.cell v:=z
   cases z'⟩
 keep:=λi h h' st k=>k it (by simp) _ st
 item:=by
  intro X hP hw hK hc i pins s σ H E I hf st hg
  subst hP hw hK
  obtain⟨f0,f1,f2,f3,f4,f5⟩:=hf it (by simp)
  have W:=Walks.range (prog:=X.prog) (w:=X.w) (I.ok.hd hc) it lo 1 n
  refine W.item i s _ _ hg st λv h' tk hv st' kk=>?_
  obtain⟨t,rfl⟩:=hv
  have I1:a6 X pins σ H { s with heap:=h',toks:=tk }:=I.turned (λb o hb e=>kk b o (by simpa using hb) e) f0 f1 f3 f4 f5
  refine⟨_,rfl,qP (s:={ s with heap:=h',toks:=tk }) (n:="range_iterator") st' rfl rfl (by decide) ⟨.int (lo+i),H,I1,⟨t,?_⟩,⟨rfl,rfl⟩,st',λb hb=>(hf b hb).1⟩⟩
  rw[Int.mul_one]
 done:=by
  intro X hP hw hK hc i pins s σ H E I hf st hg
  subst hP hw hK
  obtain⟨f0,f1,f2,f3,f4,f5⟩:=hf it (by simp)
  exact wpAny_pyNext_range_end (I.ok.hd hc) st (by have:n<=i:=hg;omega) λh' eb=>⟨rfl,I.turned (t':=s.toks) (λb o hb e=>eb b o hb e) f0 f1 f3 f4 f5⟩
 self:=λ_ _ _ _ _ st h=>wpAny_pyIter_rangeiter st h
section
variable {X:Cx}{tg:Expr}
theorem vC {pins:List (Addr×Obj)}{σ:St}{H:Hp}{s:Shared}{R:It->Hp->Prop}{E:Value->Shared->Prop}{lo hi:Int}{t u v:Tok}{tk:Nat}(I:a6 X pins σ H s)(h1:-(2^62)<=lo)(h2:lo<2^62)(h3:-(2^62)<=hi)(h4:hi<2^62)(q:R (lQ lo (hi-lo).toNat) H):wpAny (model X.prog X.w) X.A (pyIter (.ref s.heap.objs.size)) (vB X pins σ tg R) E { s with heap:=s.heap.push { cls:=.type "range",data:=.fields #[.int lo t,.int hi u,.int 1 v] },toks:=tk }:=by
 refine wpAny_pyIter_range (IsRange.new ..) (small_one h1 h2 h3 h4) ?_
 have I1:a6 X pins σ H { s with heap:=s.heap.push { cls:=.type "range",data:=.fields #[.int lo t,.int hi u,.int 1 v] },toks:=tk }:=I.kept λb o e=>aH2 _ e
 refine⟨(s.heap.push { cls:=.type "range",data:=.fields #[.int lo t,.int hi u,.int 1 v] }).objs.size,[(s.heap.push { cls:=.type "range",data:=.fields #[.int lo t,.int hi u,.int 1 v] }).objs.size],_,_,H,rfl,
  I1.kept (t':=tk) λb o e=>aH2 _ e,Q8 _ lo (hi-lo).toNat,?_,λb hb=>?_,q⟩
 ·have e1:lo+((0:Nat):Int)*1=lo:=by simp
  have e2:(((hi-lo).toNat:Nat):Int)-((0:Nat):Int)=Builtin.Range.rangeSize lo hi 1:=by rw[rangeSize_one];split<;>omega
  show IsRangeIter _ _ (lo+((0:Nat):Int)*1) ((((hi-lo).toNat:Nat):Int)-((0:Nat):Int)) 1
  rw[e1,e2]
  exact aJ3 _ rfl
 ·have e:b=(s.heap.push { cls:=.type "range",data:=.fields #[.int lo t,.int hi u,.int 1 v] }).objs.size:=by simpa using hb
  subst e
  exact I1.fpOk (aH7 _) (I1.hok.fresh (aH7 _))
def vD (ta:TA):TI:=λσ H R=>ta σ H λvs H1=>∃j:Int,vs = [.int j]/\-(2^62)<=j/\j<2^62/\R (lQ 0 j.toNat) H1
def vE (ta:TA):TI:=λσ H R=>ta σ H λvs H1=>∃i j:Int,vs = [.int i,.int j]/\(-(2^62)<=i/\i<2^62/\-(2^62)<=j/\j<2^62)/\R (lQ i (j-i).toNat) H1
theorem Q9 {a:Expr}{ta:TA}{p pos:Pos}(hg:Gl X "range")(hm:X.mg "range" = none)(ha:PA X [a] ta)(hs:starEach [a] X.env = [(false,eval a X.env)]:=by rfl):PI X tg (.Call (.Name "range" p) [a] [] pos) (vD ta):=by
 intro pins s σ H R I h
 refine Call_ (jC I hg hm boot_range (aS5 (aQ (ha pos pins s σ H _ I h) λus s1 ⟨vs,H1,I1,r1,q1⟩=>?_) hs rfl))
 obtain⟨j,e,q1,q2,q⟩:=q1
 subst e
 cases r1 with
 |cons r rr=>
  cases rr
  obtain⟨t,rfl⟩:=r
  exact call_range_1 (vC I1 (by omega) (by omega) q1 q2 (by simpa using q))
theorem R0 {a b:Expr}{ta:TA}{p pos:Pos}(hg:Gl X "range")(hm:X.mg "range" = none)(ha:PA X [a,b] ta)(hs:starEach [a,b] X.env = [(false,eval a X.env),(false,eval b X.env)]:=by rfl)(hs2:starEach [b] X.env = [(false,eval b X.env)]:=by rfl) :
  PI X tg (.Call (.Name "range" p) [a,b] [] pos) (vE ta):=by
 intro pins s σ H R I h
 refine Call_ (jC I hg hm boot_range (aS5 (aQ (ha pos pins s σ H _ I h) λus s1 ⟨vs,H1,I1,r1,q1⟩=>?_) (by rw[hs,hs2]) (by rw[hs2];rfl)))
 obtain⟨i,j,e,⟨q1,q2,q3,q4⟩,q⟩:=q1
 subst e
 cases r1 with
 |cons r rr=>
  cases rr with
  |cons r' rr=>
   cases rr
   obtain⟨t,rfl⟩:=r
   obtain⟨t',rfl⟩:=r'
   exact call_range_2 (vC I1 q1 q2 q3 q4 q)
def vF (wi:TI)(g:TG)(tb:TS):TS:=λD σ H=>wi σ H λJ H1=>∃W:Nat->Nat->St->Hp->Prop,(∃m,W 0 m σ H1)/\∀i m σ H,W i m σ H->
 (J.stop i H/\D.nx σ H)∨(J.go i H/\∃N:St->Hp->Prop,(∀σ' H',N σ' H'->∃m',m'<m/\W (i+1) m' σ' H')/\∀x H',J.yld i H x H'->g x σ H' λσ2 H2=>tb { D with nx:=N,ct:=N,bk:=D.nx } σ2 H2)
def kG (fp:List Addr)(h:Heap):List (Addr×Obj):=fp.filterMap λb=>(h.get? b).map λo=>(b,o)
theorem kH {fp:List Addr}{h:Heap}{b:Addr}{o:Obj}(hb:b∈fp)(e:h.get? b=some o):(b,o)∈kG fp h:=List.mem_filterMap.mpr ⟨b,hb,by rw[e];rfl⟩
theorem R1 {fp:List Addr}{h:Heap}{p:Addr×Obj}(hp:p∈kG fp h):p.1∈fp/\h.get? p.1=some p.2:=by
 obtain⟨b,hb,e⟩:=List.mem_filterMap.mp hp
 cases q:h.get? b with
 |none=>rw[q]at e;cases e
 |some o=>
  rw[q]at e
  have e':(b,o)=p:=aL6 e
  subst e'
  exact⟨hb,q⟩
theorem a6.pinned {pins:List (Addr×Obj)}{σ:St}{H:Hp}{s:Shared}{fp:List Addr}(I:a6 X pins σ H s)(hf:∀b∈fp,dC X pins H b)(ho:∀b∈fp,∃o,s.heap.get? b=some o/\∀v,o.data≠.cell v):a6 X (pins++kG fp s.heap) σ H s:=
 I.pins_of λp hp=>(aN2.mp hp).elim (λz=>I.pin p (aK9 _ z)) λz=>by
  obtain⟨hb,e⟩:=R1 z
  obtain⟨f0,f1,f2,_⟩:=hf p.1 hb
  obtain⟨o,e',d⟩:=ho p.1 hb
  rw[e]at e';cases e'
  exact⟨e,f0,f1,f2,d⟩
theorem a6.unpinned {pins pl:List (Addr×Obj)}{σ:St}{H:Hp}{s:Shared}(I:a6 X (pins++pl) σ H s):a6 X pins σ H s:=I.pins_of λp hp=>I.pin p (aK9 _ (aX1 _ hp))
theorem R3 {iter:Expr}{body:List Stmt}{wi:TI}{g:TG}{tb:TS}{pos:Pos}(hp:PassesOwn (model X.prog X.w) X.A X.env X.xe)(hc:X.calm=true)(hi:PI X tg iter wi)(hg:PG X tg g)(hb:cN X body tb)(hs:∀x,foldedSetIterable iter X.env x=pure x:=by intro _;rfl):PS X (.For tg iter body [] pos) (vF wi g tb):=by
 intro pins s σ H D I h
 refine wpAny_For (aQ (hi pins s σ H _ I h) λv s1 h1=>aQ h1 λitv s2 h2=>?_) hs
 obtain⟨it,fp,tn,J,H2,e,I2,T,st2,f2,W,⟨m0,w0⟩,turn⟩:=h2
 subst e
 have stat:∀{H':Hp},(∀b∈fp,H' b=none)->∀b∈fp,dC X pins H' b:=λhn b hb=>⟨hn b hb,(f2 b hb).2⟩
 refine codeAny_forLoop_any (λn s'=>∃i σ' H',a6 X pins σ' H' s'/\tn i s'.heap/\(∀b∈fp,H' b=none)/\W i n σ' H') ?_ m0 ⟨0,σ,H2,I2,st2,λb hb=>(f2 b hb).1,w0⟩
 rintro n s3 ⟨i,σ3,H3,I3,st3,fr3,w3⟩
 rcases turn i n σ3 H3 w3 with⟨stop,qn⟩|⟨go,N,hN,step⟩
 ·refine wpAny_passesOwn hp (aQ (T.done X rfl rfl rfl hc i pins s3 σ3 H3 X.xe I3 (stat fr3) st3 stop) λr s4 ⟨hr,I4⟩=>?_)
  subst hr
  exact wpAny_execs_nil ⟨σ3,H3,I4,qn⟩
 ·refine wpAny_passesOwn hp (aQ (T.item X rfl rfl rfl hc i pins s3 σ3 H3 X.xe I3 (stat fr3) st3 go) λr s4 ⟨u,hr,h4⟩=>?_)
  subst hr
  refine wpAny_passesOwn hp (aQ h4 λ_ s5 ⟨x,H5,I5,r5,y5,st5,fr5⟩=>?_)
  have I5':=I5.pinned (stat fr5) (T.obj _ _ st5)
  refine wpAny_passesOwn hp (aQ (hg _ s5 σ3 H5 x u _ I5' r5 (step x H5 y5)) λ_ s6 ⟨σ6,H6,I6,q6⟩=>?_)
  refine wpAny_passesOwn hp (aQ (hb _ s6 σ6 H6 _ I6 q6) λf s7 q7=>?_)
  have again:∀{σ7:St}{H7:Hp},a6 X (pins++kG fp s5.heap) σ7 H7 s7->N σ7 H7->∃m,m<n/\∃i σ' H',a6 X pins σ' H' s7/\tn i s7.heap/\(∀b∈fp,H' b=none)/\W i m σ' H':=λ{σ7 H7} I7 n7=>by
   obtain⟨m',hm,w7⟩:=hN σ7 H7 n7
   refine⟨m',hm,i+1,σ7,H7,I7.unpinned,T.keep _ _ _ st5 λb hb o e=>(I7.pin (b,o) (aK9 _ (aK9 _ (kH hb e)))).1,λb hb=>?_,w7⟩
   obtain⟨o,e,d⟩:=T.obj _ _ st5 b hb
   exact (I7.pin (b,o) (aK9 _ (aK9 _ (kH hb e)))).2.1
  cases f with
  |next=>obtain⟨σ7,H7,I7,n7⟩:=q7;exact again I7 n7
  |cont=>obtain⟨σ7,H7,I7,n7⟩:=q7;exact again I7 n7
  |brk=>obtain⟨σ7,H7,I7,q7⟩:=q7;exact⟨σ7,H7,I7.unpinned,q7⟩
  |ret v=>obtain⟨x7,σ7,H7,I7,r7,q7⟩:=q7;exact⟨x7,σ7,H7,I7.unpinned,r7,q7⟩
end
abbrev R2:=V->V->Hp->VK->Prop
def cA (X:Cx)(f:Value->Value->Sem Value)(r:R2):Prop:=
 ∀(pins:List (Addr×Obj)) (s:Shared) (σ:St) (H:Hp) (x y:V) (v u:Value) (Q:VK),a6 X pins σ H s->aT x v->aT y u->r x y H Q->
  wpAny (model X.prog X.w) X.A (f v u) (EP X pins σ Q) X.xe s
def qS (X:Cx)(f:Value->Sem Value)(r:V->Hp->VK->Prop):Prop:=
 ∀(pins:List (Addr×Obj)) (s:Shared) (σ:St) (H:Hp) (x:V) (v:Value) (Q:VK),a6 X pins σ H s->aT x v->r x H Q->
  wpAny (model X.prog X.w) X.A (f v) (EP X pins σ Q) X.xe s
def cG (X:Cx)(f:Value)(r:List V->Hp->VK->Prop):Prop:=
 ∀(pins:List (Addr×Obj)) (s:Shared) (σ:St) (H:Hp) (xs:List V) (us:List Value) (Q:VK),a6 X pins σ H s->aL xs us->r xs H Q->
  wpAny (model X.prog X.w) X.A (call f us) (EP X pins σ Q) X.xe s
def kI (r:R2)(ta tb:TE):TE:=λσ H Q=>ta σ H λx H1=>tb σ H1 λy H2=>r x y H2 Q
def R4 (r:V->Hp->VK->Prop)(ta:TE):TE:=λσ H Q=>ta σ H λx H1=>r x H1 Q
def rI (C:Int->Int->Prop)(g:Int->Int->V):R2:=λx y H Q=>∃i j,x = .int i/\y = .int j/\C i j/\Q (g i j) H
def gS (g:Int->Int->V):R2:=λx y H Q=>∃i j,x = .int i/\y = .int j/\Q (g i j) H
def rU (g:Int->V):V->Hp->VK->Prop:=λx H Q=>∃i,x = .int i/\Q (g i) H
section
variable {X:Cx}{a b c:Expr}{ta tb tc:TE}{pos:Pos}
theorem qT (ha:PE X a ta)(hb:PE X b tb){pins:List (Addr×Obj)}{s:Shared}{σ:St}{H:Hp}{R:V->V->Hp->Prop}(I:a6 X pins σ H s)(h:ta σ H λx H1=>tb σ H1 λy H2=>R x y H2){Q:Value->Shared->Prop}{f:Value->Value->Sem Value}(hf:∀v u s2 x y H2,a6 X pins σ H2 s2->aT x v->aT y u->R x y H2->wpAny (model X.prog X.w) X.A (f v u) Q X.xe s2) :
  wpAny (model X.prog X.w) X.A (eval a X.env) (λv s₁=>wpAny (model X.prog X.w) X.A (eval b X.env) (λu s₂=>wpAny (model X.prog X.w) X.A (f v u) Q X.xe s₂) X.xe s₁) X.xe s:=by
 refine aQ (ha pins s σ H _ I h) λv s1 ⟨x,H1,I1,r1,q1⟩=>?_
 refine aQ (hb pins s1 σ H1 _ I1 q1) λu s2 ⟨y,H2,I2,r2,q2⟩=>?_
 exact hf v u s2 x y H2 I2 r1 r2 q2
theorem R5 {op:Operator}{r:R2}(ho:cA X (binaryOp op) r)(ha:PE X a ta)(hb:PE X b tb):PE X (.BinOp a op b pos) (kI r ta tb):=by
 intro pins s σ H Q I h
 exact wpAny_BinOp (qT ha hb I h λv u s2 x y H2 I2 rx ry q=>ho pins s2 σ H2 x y v u Q I2 rx ry q)
theorem R6 {op:UnaryOp}{r:V->Hp->VK->Prop}(ho:qS X (unaryOp op) r)(ha:PE X a ta):PE X (.UnaryOp op a pos) (R4 r ta):=by
 intro pins s σ H Q I h
 exact UnaryOp_ (aQ (ha pins s σ H _ I h) λv s1 ⟨x,H1,I1,r1,q1⟩=>ho pins s1 σ H1 x v Q I1 r1 q1)
theorem nS {f:Value->Value->Sem Value}{C:Int->Int->Prop}{g:Int->Int->Int}(rule:∀(i j:Int) (t u:Tok) (s:Shared) (Q:Value->Shared->Prop) (E:Value->Shared->Prop),C i j->Q (.int (g i j) s.toks) { s with toks:=s.toks+1 }->wpAny (model X.prog X.w) X.A (f (.int i t) (.int j u)) Q E s) :
  cA X f (rI C λi j=>.int (g i j)):=by
 intro pins s σ H x y v u Q I rx ry h
 obtain⟨i,j,rfl,rfl,hc,q⟩:=h
 obtain⟨t,rfl⟩:=rx
 obtain⟨t',rfl⟩:=ry
 exact rule i j t t' s _ _ hc ⟨.int (g i j),H,I.tok _,⟨_,rfl⟩,q⟩
theorem vG {f:Value->Value->Sem Value}{g:Int->Int->Int}(rule:∀(i j:Int) (t u:Tok) (s:Shared) (Q:Value->Shared->Prop) (E:Value->Shared->Prop),Q (.int (g i j) s.toks) { s with toks:=s.toks+1 }->wpAny (model X.prog X.w) X.A (f (.int i t) (.int j u)) Q E s) :
  cA X f (gS λi j=>.int (g i j)):=by
 intro pins s σ H x y v u Q I rx ry h
 obtain⟨i,j,rfl,rfl,q⟩:=h
 obtain⟨t,rfl⟩:=rx
 obtain⟨t',rfl⟩:=ry
 exact rule i j t t' s _ _ ⟨.int (g i j),H,I.tok _,⟨_,rfl⟩,q⟩
theorem qU {f:Value->Value->Sem Value}{g:Int->Int->Bool}(rule:∀(i j:Int) (t u:Tok) (s:Shared) (Q:Value->Shared->Prop) (E:Value->Shared->Prop),Q (.bool (g i j)) s->wpAny (model X.prog X.w) X.A (f (.int i t) (.int j u)) Q E s) :
  cA X f (gS λi j=>.bl (g i j)):=by
 intro pins s σ H x y v u Q I rx ry h
 obtain⟨i,j,rfl,rfl,q⟩:=h
 obtain⟨t,rfl⟩:=rx
 obtain⟨t',rfl⟩:=ry
 exact rule i j t t' s _ _ ⟨.bl (g i j),H,I,rfl,q⟩
def qV (i j:Int):Prop:=0<j/\j<1073741824
def qW (i j:Int):Prop:=0<=j/\j<=1000000/\i.natAbs<2^64
def lR (i j:Int):Prop:=(-(2^64)<i/\i<2^64)∨(-(2^64)<j/\j<2^64)
theorem lR.ok {i j:Int}(h:lR i j):IntMulOk i j:=by
 rcases h with⟨h1,h2⟩|⟨h1,h2⟩
 ·exact .of_left (intBits_le_64 h1 h2)
 ·exact .of_right (intBits_le_64 h1 h2)
theorem R7:cA X (binaryOp .Add) (gS λi j=>.int (i+j)):=vG λ_ _ _ _ _ _ _ q=>add_int q
theorem R8:cA X (binaryOp .Sub) (gS λi j=>.int (i-j)):=vG λ_ _ _ _ _ _ _ q=>sub_int q
theorem R9:cA X (binaryOp .Mult) (rI lR λi j=>.int (i*j)):=nS λ_ _ _ _ _ _ _ hc q=>mul_int q hc.ok
theorem S0:cA X (binaryOp .FloorDiv) (rI qV λi j=>.int (i/j)):=nS λi j _ _ _ _ _ hc q=>by
 have h1:(0:Int)<j:=hc.1
 have h2:j<1073741824:=hc.2
 exact floordiv_int (by omega) (by rw[Int.fdiv_eq_ediv_of_nonneg i (by omega)];exact q) (.inl (PyProof.noPylong_small (by omega)))
theorem S2:cA X (binaryOp .Mod) (rI (λ_ j=>0<j) λi j=>.int (i%j)):=nS λi j _ _ _ _ _ hc q=>by
 have h1:(0:Int)<j:=hc
 exact mod_int' (by omega) (by rw[Int.fmod_eq_emod_of_nonneg i (by omega)];exact q)
theorem S3:cA X (binaryOp .Pow) (rI qW λi j=>.int (i^j.toNat)):=nS λ_ _ _ _ _ _ _ hc q=>pow_int_small hc.1 hc.2.1 hc.2.2 q
theorem S4 {f:Value->Sem Value}{g:Int->Int}(rule:∀(i:Int) (t:Tok) (s:Shared) (Q:Value->Shared->Prop) (E:Value->Shared->Prop),Q (.int (g i) s.toks) { s with toks:=s.toks+1 }->wpAny (model X.prog X.w) X.A (f (.int i t)) Q E s) :
  qS X f (rU λi=>.int (g i)):=by
 intro pins s σ H x v Q I rx h
 obtain⟨i,rfl,q⟩:=h
 obtain⟨t,rfl⟩:=rx
 exact rule i t s _ _ ⟨.int (g i),H,I.tok _,⟨_,rfl⟩,q⟩
theorem S5:qS X (unaryOp .USub) (rU λi=>.int (-i)):=S4 λ_ _ _ _ _ q=>neg_int q
end
def vH:V->V->Bool
 |.non,.non=>true|.non,.int _=>true|.int _,.non=>true|.non,.bl _=>true|.bl _,.non=>true|.non,.str _=>true|.str _,.non=>true
 |.int _,.int _=>true|.bl _,.bl _=>true|.str _,.str _=>true|.byt _,.byt _=>true
 |.int _,.str _=>true|.str _,.int _=>true|.bl _,.str _=>true|.str _,.bl _=>true
 |_,_=>false
def vI:R2:=λx y H Q=>vH x y=true/\Q (.bl (decide (x=y))) H
def vJ:R2:=λx y H Q=>vH x y=true/\Q (.bl (!decide (x=y))) H
theorem vK {i j:Int}:decide (V.int i=V.int j)=(i==j):=by
 rw[aW6]
 simp
theorem vL {i j:Bool}:decide (V.bl i=V.bl j)=(i==j):=by
 rw[aW6]
 simp
theorem vM {i j:Str}:decide (V.str i=V.str j)=(i==j):=by
 rw[aW6]
 simp
theorem vN {i j:Array UInt8}:decide (V.byt i=V.byt j)=(i.toList==j.toList):=by
 rw[aW6]
 cases i
 cases j
 simp
section
variable {X:Cx}{a b c:Expr}{ta tb tc:TE}{pos:Pos}
theorem bP {pins:List (Addr×Obj)}{σ:St}{H:Hp}{s:Shared}{Q:VK}{k k':Bool}(I:a6 X pins σ H s)(q:Q (.bl k) H)(e:k=k'):EP X pins σ Q (.bool k') s:=by
 subst e
 exact⟨.bl k,H,I,rfl,q⟩
theorem vO:cA X (compareOp .Eq) vI:=by
 intro pins s σ H x y v u Q I rx ry h
 obtain⟨hs,q⟩:=h
 cases x with
 |non=>
  cases rx
  cases y with
  |non=>cases ry;exact PySem.EqNone.eq_none_none (bP I q (by simp))
  |bl j=>cases ry;exact PySem.EqNone.eq_none_bool (bP I q (by simp))
  |int j=>obtain⟨t',rfl⟩:=ry;exact PySem.EqNone.eq_none_int (bP I q (by simp))
  |str j=>obtain⟨t',rfl⟩:=ry;exact PySem.EqNone.eq_none_str (bP I q (by simp))
  |_=>exact absurd (show false=true from hs) aJ0
 |bl i=>
  cases rx
  cases y with
  |non=>cases ry;exact PySem.EqNone.eq_bool_none (bP I q (by simp))
  |bl j=>cases ry;exact eq_bool (bP I q vL)
  |str j=>obtain⟨t',rfl⟩:=ry;exact PySem.EqMixed.eq_bool_str (bP I q (by simp))
  |_=>exact absurd (show false=true from hs) aJ0
 |int i=>
  obtain⟨t,rfl⟩:=rx
  cases y with
  |non=>cases ry;exact PySem.EqNone.eq_int_none (bP I q (by simp))
  |int j=>obtain⟨t',rfl⟩:=ry;exact eq_int (bP I q vK)
  |str j=>obtain⟨t',rfl⟩:=ry;exact PySem.EqMixed.eq_int_str (bP I q (by simp))
  |_=>exact absurd (show false=true from hs) aJ0
 |str i=>
  obtain⟨t,rfl⟩:=rx
  cases y with
  |non=>cases ry;exact PySem.EqNone.eq_str_none (bP I q (by simp))
  |bl j=>cases ry;exact PySem.EqMixed.eq_str_bool (bP I q (by simp))
  |int j=>obtain⟨t',rfl⟩:=ry;exact PySem.EqMixed.eq_str_int (bP I q (by simp))
  |str j=>obtain⟨t',rfl⟩:=ry;exact eq_str (bP I q vM)
  |_=>exact absurd (show false=true from hs) aJ0
 |byt i=>
  obtain⟨t,rfl⟩:=rx
  cases y with
  |byt j=>obtain⟨t',rfl⟩:=ry;exact PySem.W.eq_bytes (bP I q vN)
  |_=>exact absurd (show false=true from hs) aJ0
 |_=>cases y<;>exact absurd (show false=true from hs) aJ0
theorem S6:cA X (compareOp .NotEq) vJ:=by
 intro pins s σ H x y v u Q I rx ry h
 obtain⟨hs,q⟩:=h
 cases x with
 |non=>
  cases rx
  cases y with
  |non=>cases ry;exact PySem.EqNone.ne_none_none (bP I q (by simp))
  |bl j=>cases ry;exact PySem.EqNone.ne_none_bool (bP I q (by simp))
  |int j=>obtain⟨t',rfl⟩:=ry;exact PySem.EqNone.ne_none_int (bP I q (by simp))
  |str j=>obtain⟨t',rfl⟩:=ry;exact PySem.EqNone.ne_none_str (bP I q (by simp))
  |_=>exact absurd (show false=true from hs) aJ0
 |bl i=>
  cases rx
  cases y with
  |non=>cases ry;exact PySem.EqNone.ne_bool_none (bP I q (by simp))
  |bl j=>cases ry;exact ne_bool (bP I q (congrArg not vL))
  |str j=>obtain⟨t',rfl⟩:=ry;exact PySem.EqMixed.ne_bool_str (bP I q (by simp))
  |_=>exact absurd (show false=true from hs) aJ0
 |int i=>
  obtain⟨t,rfl⟩:=rx
  cases y with
  |non=>cases ry;exact PySem.EqNone.ne_int_none (bP I q (by simp))
  |int j=>obtain⟨t',rfl⟩:=ry;exact ne_int (bP I q (congrArg not vK))
  |str j=>obtain⟨t',rfl⟩:=ry;exact PySem.EqMixed.ne_int_str (bP I q (by simp))
  |_=>exact absurd (show false=true from hs) aJ0
 |str i=>
  obtain⟨t,rfl⟩:=rx
  cases y with
  |non=>cases ry;exact PySem.EqNone.ne_str_none (bP I q (by simp))
  |bl j=>cases ry;exact PySem.EqMixed.ne_str_bool (bP I q (by simp))
  |int j=>obtain⟨t',rfl⟩:=ry;exact PySem.EqMixed.ne_str_int (bP I q (by simp))
  |str j=>obtain⟨t',rfl⟩:=ry;exact ne_str (bP I q (congrArg not vM))
  |_=>exact absurd (show false=true from hs) aJ0
 |byt i=>
  obtain⟨t,rfl⟩:=rx
  cases y with
  |byt j=>obtain⟨t',rfl⟩:=ry;exact PySem.W.ne_bytes (bP I q (congrArg not vN))
  |_=>exact absurd (show false=true from hs) aJ0
 |_=>cases y<;>exact absurd (show false=true from hs) aJ0
theorem vP:cA X (compareOp .Lt) (gS λi j=>.bl (decide (i<j))):=qU λ_ _ _ _ _ _ _ q=>lt_int q
theorem S7:cA X (compareOp .Gt) (gS λi j=>.bl (decide (j<i))):=qU λ_ _ _ _ _ _ _ q=>gt_int q
theorem S8:cA X (compareOp .GtE) (gS λi j=>.bl (decide (j<=i))):=qU λ_ _ _ _ _ _ _ q=>ge_int q
theorem iR (b:Expr){op:CmpOp}(h:op≠.In:=by decide)(h2:op≠.NotIn:=by decide):behindInMarks op b=false:=by
 have e1:(op==CmpOp.In)=false:=by cases op<;>first|rfl|exact absurd rfl h
 have e2:(op==CmpOp.NotIn)=false:=by cases op<;>first|rfl|exact absurd rfl h2
 cases b<;>simp[behindInMarks,e1,e2]
theorem S9 {op:CmpOp}{r:R2}(ho:cA X (compareOp op) r)(ha:PE X a ta)(hb:PE X b tb)(hm:behindInMarks op b=false):PE X (.Compare a [op] [b] pos) (kI r ta tb):=by
 intro pins s σ H Q I h
 exact wpAny_Compare1 (qT ha hb I h λv u s2 x y H2 I2 rx ry q=>ho pins s2 σ H2 x y v u Q I2 rx ry q) hm
def T0 (t:TE):TT:=λσ H Q=>t σ H λx H'=>∃k,x = .bl k/\Q k H'
theorem T1 {op:CmpOp}{r:R2}(ho:cA X (compareOp op) r)(ha:PE X a ta)(hb:PE X b tb)(hm:behindInMarks op b=false):PT X (.Compare a [op] [b] pos) (T0 (kI r ta tb)):=by
 intro pins s σ H Q I h
 refine wpAny_isTrue_Compare1 (aQ (ha pins s σ H _ I h) λv s1 ⟨x,H1,I1,r1,q1⟩=>aQ (hb pins s1 σ H1 _ I1 q1) λu s2 ⟨y,H2,I2,r2,q2⟩=>
  aQ (ho pins s2 σ H2 x y v u _ I2 r1 r2 q2) λc s3 ⟨z,H3,I3,r3,k,e,q3⟩=>?_) hm
 subst e
 cases r3
 exact aX2 ⟨H3,I3,q3⟩
theorem lS:(sizeLine:Nat)<2^63:=by rw[sizeLine_eq];decide
theorem gT {x:V}{us:List Value}(r:aL [x] us):∃u,us = [u]/\aT x u:=by
 cases r with
 |cons r1 r2=>cases r2;exact⟨_,rfl,r1⟩
theorem kJ {x y:V}{us:List Value}(r:aL [x,y] us):∃u w',us = [u,w']/\aT x u/\aT y w':=by
 cases r with
 |cons r1 r2=>
  cases r2 with
  |cons r3 r4=>cases r4;exact⟨_,_,rfl,r1,r3⟩
theorem T2 (hc:X.calm=true):cG X (.builtin "max") (λxs H Q=>∃i j,xs = [.int i,.int j]/\Q (.int (if j>i then j else i)) H):=by
 intro pins s σ H xs us Q I r h
 obtain⟨i,j,rfl,q⟩:=h
 obtain⟨u,w',rfl,⟨t,rfl⟩,⟨t',rfl⟩⟩:=kJ r
 refine max_two_ints (I.ok.hd hc) λh' tk k=>⟨_,H,I.kept k,?_,q⟩
 by_cases hj:j>i
 ·rw[if_pos hj,if_pos hj];exact⟨_,rfl⟩
 ·rw[if_neg hj,if_neg hj];exact⟨_,rfl⟩
theorem T3 (hc:X.calm=true):cG X (.builtin "min") (λxs H Q=>∃i j,xs = [.int i,.int j]/\Q (.int (if j<i then j else i)) H):=by
 intro pins s σ H xs us Q I r h
 obtain⟨i,j,rfl,q⟩:=h
 obtain⟨u,w',rfl,⟨t,rfl⟩,⟨t',rfl⟩⟩:=kJ r
 refine min_two_ints (I.ok.hd hc) λh' tk k=>⟨_,H,I.kept k,?_,q⟩
 by_cases hj:j<i
 ·rw[if_pos hj,if_pos hj];exact⟨_,rfl⟩
 ·rw[if_neg hj,if_neg hj];exact⟨_,rfl⟩
end
structure qX (h:Heap)(x dx C:Addr)(mA:Str->Option Value):Prop where
 obj:h.get? x=some (PySem.W.instObj C dx)
 ns:h.Ns1 dx mA
 ne:dx≠x
theorem T4 {h:Heap}{dx:Addr}{mA:Str->Option Value}(n:h.Ns1 dx mA):∃od,h.get? dx=some od/\∀name,PySem.W.lookIn name od=some (mA name):=by
 obtain⟨o,es,ep,ho,hd,hk,_,hm⟩:=n
 refine⟨o,ho,λname=>?_⟩
 have e:=hm name
 unfold nsFind findBy at e
 rw[<- Array.find?_toList]at e
 unfold PySem.W.lookIn
 rw[hd]
 dsimp only
 split
 ·rename_i y q
  rw[q]at e
  exact congrArg some e
 ·rename_i q
  rw[q]at e
  have a:es.toList.any (·.refKey)=false:=by
   rw[List.any_eq_false]
   intro y hy
   obtain⟨z,t,hkey⟩:=hk y (Array.mem_toList_iff.mp hy)
   simp[DictEntry.refKey,hkey]
  have a':¬es.toList.any (·.refKey)=true:=by rw[a];exact aJ0
  rw[if_neg a']
  exact congrArg some e
theorem qX.look {h:Heap}{x dx C:Addr}{mA:Str->Option Value}(I:qX h x dx C mA):∃od,PySem.W.InstAt h x (PySem.W.instObj C dx) C (some od)/\∀name,PySem.W.lookIn name od=some (mA name):=
 let ⟨od,ho,hl⟩:=T4 I.ns
 ⟨od,⟨I.obj,rfl,rfl,ho⟩,hl⟩
section
variable {P:Program}{w:World}{H H':Hp}{h h':Heap}{a C dx:Addr}{fs fs':List (Str×V)}
theorem T5 (hok:bF P w H h)(e:H a=some (.ins C dx fs)):∃mA,qX h a dx C mA/\(∀f,kA (fs.lookup f) (mA f))/\PySem.Within mA (fs.map (·.1))/\fs.length<=1000/\H dx=some (.own a):=by
 obtain⟨d,z,ne,ob,mA,n,r,q⟩:=(show bH P w H h a (.ins C dx fs) from hok a _ e)
 exact⟨mA,⟨ob,n,ne⟩,r,q,z,d⟩
end
structure qY (K:ac)(C:Addr):Prop where
 pg:PySem.W.plainGet K C Str.empty=true
 hd:PySem.W.hasDictIn K C=true
 po:PySem.W.plainOver K C=true
 sa:PySem.W.findIn K (.ref C) "__setattr__" = some (some (.builtin "object.__setattr__"))
theorem qY.get {K:ac}{C:Addr}(c:qY K C)(f:Str):PySem.W.plainGet K C f=true:=c.pg
section
variable {X:Cx}{pins:List (Addr×Obj)}{σ:St}{H:Hp}{s:Shared}{A:Around}{E:Value→Shared→Prop}{Q:Value→Shared→Prop}{c:Value}{b:Bool}
inductive eD (K:ac)(H:Hp):V->Value->Prop where
 |non:eD K H .non (.type "NoneType")
 |bl (x:Bool):eD K H (.bl x) (.type "bool")
 |int (i:Int):eD K H (.int i) (.type "int")
 |str (x:Str):eD K H (.str x) (.type "str")
 |flt (x:UInt64):eD K H (.flt x) (.type "float")
 |lst {a:Addr}{xs:List V} (e:H a=some (.lst xs)):eD K H (.ref a) (.type "list")
 |frz {a:Addr}{o:Obj}{xs:List V} (e:H a=some (.frz o (.lst xs))):eD K H (.ref a) (.type "list")
 |tup {a:Addr}{xs:List V} (e:H a=some (.tup xs)):eD K H (.ref a) (.type "tuple")
 |dK {a:Addr}{kvs:List (aM×V)} (e:H a=some (.dK kvs)):eD K H (.ref a) (.type "dict")
 |dT {a:Addr}{kvs:List (List aM×V)} (e:H a=some (.dT kvs)):eD K H (.ref a) (.type "dict")
 |ins {a C dx:Addr}{fs:List (Str×V)} (e:H a=some (.ins C dx fs)) (cl:qY K C) (ha:PySem.W.findIn K (.ref C) "__class__" = some (some (.builtin "object.__class__")))
   (hn:PySem.W.specialIn K (.builtin "object.__class__") "__get__" = some (some (.builtin "getset_descriptor.__get__"))) (htk:PySem.W.takesIn K (.builtin "object.__class__")=some true)
   (hm:PySem.W.mroIn K C (.type "object")=some true):eD K H (.ref a) (.ref C)
theorem T6 {x:V}{u t:Value}(I:a6 X pins σ H s)(rx:aT x u)(ty:eD X.K H x t)(e:PySem.W.kitOne X.K t c=some b)(h:∀tk,Q (.bool b) { s with toks:=tk }) :
  wpAny (model X.prog X.w) A (call (.builtin "isinstance") [u,c]) Q E s:=by
 cases ty with
 |non=>cases (show u=Value.none from rx);exact aO3 PySem.W.kitx_none I.kIn True.intro e (λz=>nomatch z) h
 |bl y=>cases (show u=Value.bool y from rx);exact aO3 PySem.W.kitx_bool I.kIn True.intro e (λz=>nomatch z) h
 |int i=>obtain⟨t,q⟩:=(show ∃t,u=Value.int i t from rx);cases q;exact aO3 PySem.W.kitx_int I.kIn True.intro e (λz=>nomatch z) h
 |str y=>obtain⟨t,q⟩:=(show ∃t,u=Value.str y t from rx);cases q;exact aO3 PySem.W.kitx_str I.kIn True.intro e (λz=>nomatch z) h
 |flt y=>obtain⟨t,q⟩:=(show ∃t,u=Value.float y t from rx);cases q;exact aO3 PySem.W.kitx_float I.kIn True.intro e (λz=>nomatch z) h
 |@lst a xs ea=>
  cases (show u=Value.ref a from rx)
  obtain⟨_,_,n,_,h1⟩:=(show bH X.prog X.w H s.heap a (.lst xs) from I.hok a _ ea)
  exact aO3 PySem.W.kitx_list I.kIn ⟨_,h1,rfl⟩ e (λz=>nomatch z) h
 |@frz a ob xs ea=>
  cases (show u=Value.ref a from rx)
  obtain⟨_,_,_,n,_,h1⟩:=(show bH X.prog X.w H s.heap a (.frz ob (.lst xs)) from I.hok a _ ea)
  exact aO3 PySem.W.kitx_list I.kIn ⟨_,h1,rfl⟩ e (λz=>nomatch z) h
 |@tup a xs ea=>
  cases (show u=Value.ref a from rx)
  obtain⟨_,_,_,p,_⟩:=(show bH X.prog X.w H s.heap a (.tup xs) from I.hok a _ ea)
  obtain⟨o,h1,h2,_⟩:=p
  exact aO3 PySem.W.kitx_tuple I.kIn ⟨o,h1,h2⟩ e (λz=>nomatch z) h
 |@dK a kvs ea=>
  cases (show u=Value.ref a from rx)
  obtain⟨_,_,vs,_,p⟩:=(show bH X.prog X.w H s.heap a (.dK kvs) from I.hok a _ ea)
  obtain⟨o,es,ep,h1,h2,_⟩:=p
  exact aO3 PySem.W.kitx_dict I.kIn ⟨o,h1,h2.1⟩ e (λz=>nomatch z) h
 |@dT a kvs ea=>
  cases (show u=Value.ref a from rx)
  obtain⟨_,_,xs,_,o,es,ep,h1,h2,_⟩:=(show bH X.prog X.w H s.heap a (.dT kvs) from I.hok a _ ea)
  exact aO3 PySem.W.kitx_dict I.kIn ⟨o,h1,h2.1⟩ e (λz=>nomatch z) h
 |@ins a C dx fs ea cl ha hn htk hm=>
  cases (show u=Value.ref a from rx)
  obtain⟨mA,O,_⟩:=T5 I.hok ea
  obtain⟨od,J,_⟩:=O.look
  exact aO3 (PySem.W.kitx_own (cl.get _) cl.hd ha hn htk hm) I.kIn J e (λz=>nomatch z) h
end
structure bJ (k:Nat)(A:Around):Prop where
 hd:A.handled=none
 dp:A.depth+3*k+5<recursionLimit
 un:A.units+16*k+200<cLine
theorem bJ.mono {j k:Nat}{A:Around}(r:bJ k A)(h:j<=k):bJ j A:=⟨r.hd,by have:=r.dp;omega,by have:=r.un;omega⟩
theorem bJ.deeper {k:Nat}{A:Around}(r:bJ (k+1) A)(env:Env):bJ k (A.deeper env):=
 ⟨r.hd,by have:=r.dp;show A.depth+1+3*k+5<_;omega,by have:=r.un;show A.units+3+16*k+200<_;omega⟩
theorem bJ.depth {k:Nat}{A:Around}(r:bJ k A):A.depth<recursionLimit:=by have:=r.dp;omega
theorem bJ.units {k:Nat}{A:Around}(r:bJ k A):A.units+64<cLine:=by have:=r.un;omega
def gB:TA:=λ_ H Q=>Q [] H
def dL (ta:TE)(tr:TA):TA:=λσ H Q=>ta σ H λx H1=>tr σ H1 λxs H2=>Q (x::xs) H2
section
variable {X:Cx}{e:Expr}{es:List Expr}{te:TE}{t:TA}{pos:Pos}
theorem dU:PA X [] gB:=λ_ _ _ _ H Q I h=>Calls.spliced_nil ⟨[],H,I,.nil,h⟩
theorem cI (ha:PE X e te)(hr:PA X es t)(hs:starEach (e::es) X.env=(false,eval e X.env)::starEach es X.env:=by rfl):PA X (e::es) (dL te t):=by
 intro pos pins s σ H Q I h
 rw[hs]
 show wpAny _ _ (spliced ((false,eval e X.env)::backTo pos (starEach es X.env))) _ _ s
 refine Calls.spliced_cons (aQ (ha pins s σ H _ I h) λu s1 ⟨x,H1,I1,r1,q1⟩=>?_)
 exact aQ (hr pos pins s1 σ H1 _ I1 q1) λus s2 ⟨xs,H2,I2,r2,q2⟩=>⟨x::xs,H2,I2,.cons r1 r2,q2⟩
def vQ (t:TA):TE:=λσ H Q=>t σ H λxs H1=>xs.length<=sizeLine/\∀p,H1 p=none->Q (.ref p) (upd H1 p (.tup xs))
def nT (t:TA):TE:=λσ H Q=>t σ H λxs H1=>xs.length<=sizeLine/\∀p,H1 p=none->Q (.ref p) (upd H1 p (.lst xs))
theorem vR {x1}(h:PA X es t):PE X (.Tuple es x1 pos) (vQ t):=by
 intro pins s σ H Q I hq
 refine wpAny_Tuple_spliced (aQ (h pos pins s σ H _ I hq) λus s1 ⟨xs,H1,I1,r,z,q⟩=>⟨by rw[<- r.length];exact z,?_⟩)
 have hf:H1 s1.heap.objs.size=none:=I1.hok.fresh (aH7 _)
 refine⟨.ref s1.heap.objs.size,upd H1 s1.heap.objs.size (.tup xs),I1.laid (t':=s1.toks) (λb u e=>aH2 _ e) (aH7 _) ?_,rfl,q _ hf⟩
 exact⟨z,us,r,⟨_,aJ3 _ rfl,rfl,_,rfl⟩,hV.new _ _ rfl⟩
theorem qZ (h:PA X es t):PE X (.List es pos) (nT t):=by
 intro pins s σ H Q I hq
 refine wpAny_List_spliced (aQ (h pos pins s σ H _ I hq) λus s1 ⟨xs,H1,I1,r,z,q⟩=>⟨by rw[<- r.length];exact z,?_⟩)
 have hf:H1 s1.heap.objs.size=none:=I1.hok.fresh (aH7 _)
 refine⟨.ref s1.heap.objs.size,upd H1 s1.heap.objs.size (.lst xs),I1.laid (t':=s1.toks) (λb u e=>aH2 _ e) (aH7 _) ?_,rfl,q _ hf⟩
 exact⟨z,us,0,r,aJ3 _ rfl⟩
end
abbrev Sp:=List V->Hp->VK->XK->Prop
abbrev fN:=List Env->Hp->Shared->XK->Value->Shared->Prop
structure nU (P:Program)(w:World)(K:ac)(mg:Str->Option Value)(base:Heap)(A:Around)(outer:List Env)(s:Shared)(H:Hp):Prop where
 frames:A.frames=some outer
 mod:Mod K mg base
 bs:∀b o,base.get? b=some o->s.heap.get? b=some o/\H b=none
 bsz:base.objs.size<=s.heap.objs.size
 funs:s.heap.FunFrames base outer
 frf:∀b∈aZ outer,H b=none
 hok:bF P w H s.heap
 bare:AllBare s.gens
def CE (outer:List Env)(P:Program)(w:World)(H:Hp)(s:Shared)(Q:VK)(u:Value)(s':Shared):Prop:=
 ∃v H',s'.os=s.os/\AllBare s'.gens/\Un (aZ outer) [] H H' s.heap s'.heap/\bF P w H' s'.heap/\aT v u/\Q v H'
def CR (CX:fN)(outer:List Env)(P:Program)(w:World)(H:Hp)(s:Shared)(Q:VK)(E:XK)(r:Result)(s':Shared):Prop:=
 match r with
 |.ok (.ret u)=>CE outer P w H s Q u s'
 |.ok _=>False
 |.error e=>CX outer H s E e s'
structure cR (P:Program)(w:World)(K:ac)(mg:Str->Option Value)(base:Heap)(CX:fN)(k:Nat)(f:Addr)(fd:FuncData)(ps:List Str)(sp:Sp):Prop where
 len:∀vs H Q E,sp vs H Q E->vs.length=ps.length
 run:∀(A:Around) (outer:List Env) (s:Shared) (H:Hp) (args:Args) (us:List Value) (vs:List V) (Q:VK) (E:XK),bJ k A->nU P w K mg base A outer s H->BindsTo s fd args (ps.zip us)->aL vs us->sp vs H Q E->
  codeAny (model P w) A (.call (.ref f) args) (CR CX outer P w H s Q E) s
theorem cR.imp {P:Program}{w:World}{K:ac}{mg:Str->Option Value}{base:Heap}{CX:fN}{k:Nat}{f:Addr}{fd:FuncData}{ps:List Str}{sp sp':Sp}(F:cR P w K mg base CX k f fd ps sp)(h:∀vs H Q E,sp' vs H Q E->sp vs H Q E):cR P w K mg base CX k f fd ps sp':=
 ⟨λvs H Q E q=>F.len vs H Q E (h _ _ _ _ q),λA outer s H args us vs Q E hr he hb hv hs=>F.run A outer s H args us vs Q E hr he hb hv (h _ _ _ _ hs)⟩
section
variable {X:Cx}{pins:List (Addr×Obj)}{σ:St}{H:Hp}{s s':Shared}
theorem a6.env0 (I:a6 X pins σ H s):nU X.prog X.w X.K X.mg X.base X.A X.stack s H:=
 ⟨I.ok.frames,I.ok.mod,I.bs,aO7 I.ok.bsz I.sz,I.stack,I.stkFree,I.hok,I.bare⟩
theorem a6.after {Q:VK}{u:Value}(I:a6 X pins σ H s)(h:CE X.stack X.prog X.w H s Q u s'):EP X pins σ Q u s':=by
 obtain⟨v,H',os,bare,un,hok,r,q⟩:=h
 obtain⟨hh,g,d,t,os'⟩:=s'
 obtain rfl:os'=s.os:=os
 exact⟨v,H',I.call (h':=hh) (g':=g) (d':=d) (t':=t) (ch:=[]) un hok bare (λb z=>absurd z (by simp)),r,q⟩
end
def nV (sp:Sp)(dvs:List V)(E:XK)(t:TA):TE:=λσ H Q=>t σ H λvs H1=>sp (vs++dvs) H1 Q E
def i5 (K:ac)(fd:FuncData)(ps:List Str)(ds:List Value):Prop:=
 ∀(s:Shared) (us:List Value),K.In s.heap->(us++ds).length=ps.length->BindsTo s fd ⟨us,[]⟩ (ps.zip (us++ds))
theorem i5.all {K:ac}{fd:FuncData}{ps:List Str}(h:∀us:List Value,us.length=ps.length->bindArgs fd ⟨us,[]⟩=pure (ps.zip us)):i5 K fd ps []:=λs us _ hl=>by
 rw[aR8]at hl ⊢
 exact .of_eq (h us hl)
def jE (CX:fN)(X:Cx)(E:XK):Prop:=∀(pins:List (Addr×Obj)) (σ:St) (H:Hp) (s:Shared) (e:Value) (s':Shared),a6 X pins σ H s->CX X.stack H s E e s'->X.xe e s'
section
variable {X:Cx}{CX:fN}{k:Nat}{f C:Addr}{fd:FuncData}{ps:List Str}{sp:Sp}{dvs:List V}{ds:List Value}{E:XK}{x m:Str}{p pos apos:Pos}{e o:Expr}{es:List Expr}{ta:TE}{t:TA}
theorem T7 {pins:List (Addr×Obj)}{σ:St}{H:Hp}{s:Shared}{Q:VK}{us:List Value}{vs:List V}(F:cR X.prog X.w X.K X.mg X.base CX k f fd ps sp)(hr:bJ k X.A)(hb:i5 X.K fd ps ds)(hd:aL dvs ds)(hx:jE CX X E)(I:a6 X pins σ H s)(r:aL vs us)(h:sp (vs++dvs) H Q E):wpAny (model X.prog X.w) X.A (call (.ref f) us) (EP X pins σ Q) X.xe s:=by
 have r2:aL (vs++dvs) (us++ds):=r.append hd
 have hl:(us++ds).length=ps.length:=by rw[<- r2.length];exact F.len _ _ _ _ h
 refine wpAny_call (codeAny_mono (F.run X.A X.stack s H ⟨us,[]⟩ (us++ds) (vs++dvs) Q E hr I.env0 (hb s us I.kIn hl) r2 h) λr s' hq=>?_)
 cases r with
 |error e=>exact hx pins σ H s e s' I hq
 |ok fl=>
  cases fl with
  |ret u=>exact I.after hq
  |next=>exact False.elim hq
  |brk=>exact False.elim hq
  |cont=>exact False.elim hq
theorem nW (F:cR X.prog X.w X.K X.mg X.base CX k f fd ps sp)(hr:bJ k X.A)(hg:Gl X x)(hm:X.mg x=some (.ref f))(hk:PySem.W.keepIn X.K (.ref f)=true)(hb:i5 X.K fd ps ds)(hd:aL dvs ds)(hx:jE CX X E)(ha:PA X (e::es) t)(hdb:(x==("__debug__":Str))=false:=by decide)(he:starEach (e::es) X.env=(false,eval e X.env)::starEach es X.env:=by rfl)(hpl:(backTo pos (starEach es X.env)).any (·.1)=false:=by rfl) :
  PE X (.Call (.Name x p) (e::es) [] pos) (nV sp dvs E t):=by
 intro pins s σ H Q I h
 refine wpAny_Call_Name_kw (lO I hg hm ?_ hdb)
 refine PySem.W.callWith_K (h₀:=X.base) I.ok.mod.kin hk (aQ (ha pos pins s σ H _ I h) λus s1 ⟨vs,H1,I1,r,q⟩=>⟨I1.kIn,?_⟩) he hpl
 exact T7 F hr hb hd hx I1 r q
end
def PK (X:Cx)(kws:List Keyword)(t:TA):Prop:=
 ∀(pos:Pos) (pins:List (Addr×Obj)) (s:Shared) (σ:St) (H:Hp) (Q:List V->Hp->Prop),a6 X pins σ H s->t σ H Q->wpAny (model X.prog X.w) X.A (evalAll ((backToKw pos (keywordEach kws X.env)).map (·.2))) (AP X pins σ Q) X.xe s
structure FnScope (N P:List Str)(sc:Scope):Prop where
 kind:sc.kind = .function
 co:sc.isCoroutine=false
 gen:sc.isGenerator=false
 nd:N.Nodup
 pre:N.take P.length=P
 par:∀x∈P,sc.names.lookup x=some .local∨sc.names.lookup x=some .cell
 nofree:∀y∈sc.names,y.2≠.free
theorem vS {kindOf:Str->Option NameKind}{x:Str}:∀{binds:List (Str×Value)}{m:Str->Option Value},(∀v,(x,v)∉binds)->bindL kindOf binds m x=m x
 |[],_,_=>rfl
 |(n,v)::r,m,h=>by
  unfold bindL
  rw[vS λw hw=>h w (aJ2 _ hw)]
  split
  ·have:x≠n:=by rintro rfl;exact h v aJ9
   simp[this]
  ·rfl
theorem vT {kindOf:Str->Option NameKind}{x:Str}:∀{binds:List (Str×Value)}{m:Str->Option Value},(∀v,(x,v)∉binds)->bindC kindOf binds m x=m x
 |[],_,_=>rfl
 |(n,v)::r,m,h=>by
  unfold bindC
  rw[vT λw hw=>h w (aJ2 _ hw)]
  split
  ·rfl
  ·have:x≠n:=by rintro rfl;exact h v aJ9
   simp[this]
theorem vU {kindOf:Str->Option NameKind}{x:Str}{v:Value}:∀{P:List Str}{vs:List Value}{i:Nat}{m:Str->Option Value},P.Nodup->P[i]? = some x->vs[i]? = some v->kindOf x=some .local->
  bindL kindOf (P.zip vs) m x=some v
 |[],_,_,_,_,h,_,_=>by simp at h
 |_::_,[],_,_,_,_,h,_=>by simp at h
 |p::P,w::vs,0,m,nd,h1,h2,hk=>by
  simp at h1 h2;subst h1;subst h2
  show bindL kindOf ((p,w)::P.zip vs) m p=_
  unfold bindL
  rw[vS λv hv=>(List.nodup_cons.mp nd).1 (List.of_mem_zip hv).1,if_pos hk]
  simp
 |p::P,w::vs,i+1,m,nd,h1,h2,hk=>by
  show bindL kindOf ((p,w)::P.zip vs) m x=_
  unfold bindL
  exact vU (i:=i) (List.nodup_cons.mp nd).2 (by simpa using h1) (by simpa using h2) hk
theorem vV {kindOf:Str->Option NameKind}{x:Str}{v:Value}:∀{P:List Str}{vs:List Value}{i:Nat}{m:Str->Option Value},P.Nodup->P[i]? = some x->vs[i]? = some v->kindOf x≠some .local->
  bindC kindOf (P.zip vs) m x=some v
 |[],_,_,_,_,h,_,_=>by simp at h
 |_::_,[],_,_,_,_,h,_=>by simp at h
 |p::P,w::vs,0,m,nd,h1,h2,hk=>by
  simp at h1 h2;subst h1;subst h2
  show bindC kindOf ((p,w)::P.zip vs) m p=_
  unfold bindC
  rw[vT λv hv=>(List.nodup_cons.mp nd).1 (List.of_mem_zip hv).1,if_neg hk]
  simp
 |p::P,w::vs,i+1,m,nd,h1,h2,hk=>by
  show bindC kindOf ((p,w)::P.zip vs) m x=_
  unfold bindC
  exact vV (i:=i) (List.nodup_cons.mp nd).2 (by simpa using h1) (by simpa using h2) hk
def eF (N:List Str)(vs:List V):St:=vs.map some++List.replicate (N.length-vs.length) none
def bX (CX:fN)(P:Program)(w:World)(K:ac)(mg:Str->Option Value)(base:Heap)(N:List Str)(qual:Str)(scope:Scope)(f:Addr)(cd:Value)(A:Around)(outer:List Env)(s:Shared)(H:Hp)(E:XK):Cx where
 prog:=P
 w:=w
 K:=K
 mg:=mg
 base:=base
 A:=A.deeper (envOfC qual scope s.heap.objs.size f cd)
 N:=N
 s₀:=s
 H₀:=H
 env:=envOfC qual scope s.heap.objs.size f cd
 outer:=outer
 stack:=envOfC qual scope s.heap.objs.size f cd::outer
 ex:=[]
 calm:=true
 fn:=λ_=>true
 pn:=[]
 xe:=λe s'=>wpAny (model P w) (A.deeper (envOfC qual scope s.heap.objs.size f cd)) (leaving (envOfC qual scope s.heap.objs.size f cd) e) (λ_ s''=>CX outer H s E e s'') (λe' s''=>CX outer H s E e' s'') s'
theorem vW {sc:Scope}{n:Nat}{x:Str}(h:sc.names.lookup x=some .cell):∃c,(cellsFrom n sc.names []).lookup x=some c:=by
 have q:=PySem.W.cellsFrom_some sc.names n [] (.inl h)
 exact Option.isSome_iff_exists.mp q
theorem T8 {CX:fN}{P:Program}{w:World}{K:ac}{mg:Str->Option Value}{base:Heap}{N ps:List Str}{qual:Str}{scope:Scope}{f:Addr}{cd:Value}{A:Around}{outer:List Env}{s s1:Shared}{H:Hp}{E:XK}{us:List Value}{vs:List V}(S:FnScope N ps scope)(hd:A.handled=none)(e0:nU P w K mg base A outer s H)(hl:vs.length=ps.length)(r:aL vs us)(x:InCallC s s.heap.objs.size (bindL (envOfC qual scope s.heap.objs.size f cd).kindOf (ps.zip us) λ_=>none) (cellsFrom (s.heap.objs.size+1) scope.names []) (bindC (envOfC qual scope s.heap.objs.size f cd).kindOf (ps.zip us) λ_=>none) s1) :
  a6 (bX CX P w K mg base N qual scope f cd A outer s H E) [] (eF N vs) H s1:=by
 have hpl:ps.length<=N.length:=by have:=congrArg List.length S.pre;rw[aV4]at this;omega
 obtain⟨h1,tk,rfl,hk⟩:=x.done
 have noA:∀b:Addr,b∉(bX CX P w K mg base N qual scope f cd A outer s H E).ex:=λb z=>absurd (show b∈([]:List Addr) from z) (by simp)
 refine⟨⟨e0.mod,S.kind,rfl,rfl,aH7 _,λy z c h1 h2=>?_,λy hy=>?_,λy c _ h=>?_,λ_=>hd,Around.frames_deeper e0.frames,.inr ⟨rfl,rfl⟩,λb z=>absurd z (noA b),e0.bs,e0.bsz,λb _ _=>noA b,λb z=>absurd z (noA b),e0.funs,e0.frf⟩,
  rfl,e0.bare,Un.kept hk,⟨_,x.toInCall.ns,λi y v h1 h2 h3=>?_⟩,λy c h=>⟨_,x.cell y c h⟩,e0.hok.fresh (aH7 _),λy c h=>?_,λp hp=>absurd (show p∈([]:List (Addr×Obj)) from hp) (by simp),e0.hok.kept hk,?_⟩
 ·exact name_of_addr x.apart (aN3 h1) (aN3 h2)
 ·have hy:scope.names.lookup y=some .cell∨scope.names.lookup y=some .free:=hy
  rcases hy with hy|hy
  ·exact vW hy
  ·exact absurd rfl (S.nofree _ (aN3 hy))
 ·exact aS6 (x.above y c (aN3 h))
 ·have hi:i<vs.length:=by
   unfold eF at h2
   by_cases hi:i<vs.length
   ·exact hi
   ·rw[aV7 (by simpa using hi)]at h2
    rw[List.getElem?_replicate]at h2
    split at h2<;>cases h2
  have ha:vs[i]? = some v:=by
   unfold eF at h2
   rw[aT5 (by simpa using hi),aL2]at h2
   cases e:vs[i]? with
   |none=>rw[e]at h2;cases h2
   |some a=>rw[e]at h2;cases h2;rfl
  obtain⟨u,hu,rv⟩:=r.get ha
  have hp:ps[i]? = some y:=by
   rw[<- S.pre,List.getElem?_take_of_lt (by omega)];exact h1
  have ndP:ps.Nodup:=by rw[<- S.pre];exact S.nd.sublist (List.take_sublist _ _)
  refine⟨u,rv,?_⟩
  rcases S.par y (aU1 hp) with k|k
  ·exact .inl ⟨k,vU ndP hp hu k⟩
  ·obtain⟨c,e⟩:=vW (n:=s.heap.objs.size+1) k
   refine .inr ⟨.inl k,c,e,?_⟩
   have q:=x.cell y c e
   rw[vV ndP hp hu (by show scope.names.lookup y≠_;rw[k];decide)]at q
   exact q
 ·exact e0.hok.fresh (aS6 (x.above y c (aN3 h)))
 ·unfold eF
  show _=N.length
  rw[aL1,aJ1,List.length_replicate]
  omega
theorem vX {CX:fN}{P:Program}{w:World}{K:ac}{mg:Str->Option Value}{base:Heap}{k:Nat}{f:Addr}{name qual:Str}{params:Arguments}{body:List Stmt}{scope:Scope}{dV kV doc pm cdv ct oc:Value}{an od:Option Addr}{osl:Array (Option Value)}{N ps:List Str}{sp:Sp}(lk:K.lookup f=some ⟨oc,od,.func (PySem.W.fnOf name qual params body scope dV kV doc pm an cdv ct),osl⟩)(hcd:PySem.W.codeIn K cdv qual=true)(S:FnScope N ps scope)(len:∀vs H Q E,sp vs H Q E->vs.length=ps.length)(hbody:∀(A:Around) (outer:List Env) (s:Shared) (H:Hp) (vs:List V) (Q:VK) (E:XK),bJ k (A.deeper (envOfC qual scope s.heap.objs.size f cdv))->sp vs H Q E->
   ∃t,cN (bX CX P w K mg base N qual scope f cdv A outer s H E) body t/\t { nx:=λ_ H'=>Q .non H',rt:=Q } (eF N vs) H) :
  cR P w K mg base CX (k+1) f (PySem.W.fnOf name qual params body scope dV kV doc pm an cdv ct) ps sp:=by
 refine⟨len,λA outer s H args us vs Q E hr e0 hb r hsp=>?_⟩
 have hl:=len _ _ _ _ hsp
 have KX:K.In s.heap:=e0.mod.kin.keeps λb o e=>(e0.bs b o e).1
 have lim:s.heap.NoLimit:=e0.mod.nolimit.keeps λb o e=>(e0.bs b o e).1
 have hkind:∀y∈ps.zip us,scope.names.lookup y.1=some .local∨(scope.names.lookup y.1=some .cell/\((cellsFrom (s.heap.objs.size+1) scope.names []).lookup y.1).isSome=true):=λ⟨n,v⟩ hy=>by
  rcases S.par n (List.of_mem_zip hy).1 with q|q
  ·exact .inl q
  ·exact .inr ⟨q,PySem.W.cellsFrom_some _ _ _ (.inl q)⟩
 refine codeAny_call_function hr.depth (KX _ _ lk) rfl S.co S.gen rfl (PySem.W.codeRec_of KX hcd) (hb _ _ _ _ ?_)
 refine wpAny_newFunctionEnv_cells S.kind hkind λenv he s1 x=>?_
 subst he
 refine⟨lim.keeps x.toInCall.keep,codeAny_func ?_⟩
 obtain⟨t,ht,hq⟩:=hbody A outer s H vs Q E (hr.deeper _) hsp
 have I:a6 (bX CX P w K mg base N qual scope f cdv A outer s H E) [] (eF N vs) H s1:=T8 S hr.hd e0 hl r x
 refine aO8 (ht [] s1 (eF N vs) H _ I hq) (λfl s' hs=>?_) λe s' hs=>hs
 have fin:∀{σ':St}{H':Hp}{v:V}{u:Value},a6 (bX CX P w K mg base N qual scope f cdv A outer s H E) [] σ' H' s'->aT v u->Q v H'->CE outer P w H s Q u s':=
  λ{σ' H' v u} J rv q=>⟨v,H',J.os,J.bare,J.base,J.hok,rv,q⟩
 cases fl with
 |ret u=>
  obtain⟨v,σ',H',J,rv,q⟩:=hs
  exact fin J rv q
 |next=>
  obtain⟨σ',H',J,q⟩:=hs
  exact fin (v:=V.non) (u:=Value.none) J rfl q
 |brk=>
  obtain⟨_,_,_,q⟩:=hs
  exact False.elim q
 |cont=>
  obtain⟨_,_,_,q⟩:=hs
  exact False.elim q
section
variable {X:Cx}{x:Str}{p pos:Pos}{e:Expr}{es:List Expr}{t:TA}{id T:String}{r:List V→Hp→VK→Prop}
def r6 (r:List V->Hp->VK->Prop)(t:TA):TE:=λσ H Q=>t σ H λvs H1=>r vs H1 Q
theorem nX (hc:cG X (.builtin id) r)(hg:Gl X x)(hm:X.mg x=none)(hv:bootBuiltins x=some (.builtin id))(ha:PA X (e::es) t)(hn:x≠"__name__":=by decide)(hdb:(x==("__debug__":Str))=false:=by decide)(he:starEach (e::es) X.env=(false,eval e X.env)::starEach es X.env:=by rfl)(hpl:(backTo pos (starEach es X.env)).any (·.1)=false:=by rfl):PE X (.Call (.Name x p) (e::es) [] pos) (r6 r t):=by
 intro pins s σ H Q I h
 refine wpAny_Call_Name_kw (jC I hg hm hv ?_ hn hdb)
 exact PyProof.Rows.callWith_builtin1 (aQ (ha pos pins s σ H _ I h) λus s1 ⟨vs,H1,I1,r1,q1⟩=>hc pins s1 σ H1 vs us Q I1 r1 q1) he hpl
theorem T9 (hc:cG X (.type T) r)(hg:Gl X x)(hm:X.mg x=none)(hv:bootBuiltins x=some (.type T))(ha:PA X (e::es) t)(hn:x≠"__name__":=by decide)(hdb:(x==("__debug__":Str))=false:=by decide)(he:starEach (e::es) X.env=(false,eval e X.env)::starEach es X.env:=by rfl)(hpl:(backTo pos (starEach es X.env)).any (·.1)=false:=by rfl):PE X (.Call (.Name x p) (e::es) [] pos) (r6 r t):=by
 intro pins s σ H Q I h
 refine wpAny_Call_Name_kw (jC I hg hm hv ?_ hn hdb)
 exact aS5 (aQ (ha pos pins s σ H _ I h) λus s1 ⟨vs,H1,I1,r1,q1⟩=>hc pins s1 σ H1 vs us Q I1 r1 q1) he hpl
end
end L2
namespace HT
open PySem PyProof.Rows
def bD:af->af->Bool
 |[],[]=>false
 |[],_::_=>true
 |_::_,[]=>false
 |x::xs,y::ys=>if x=y then bD xs ys else decide (x<y)
theorem gU (x y:Int)(xs ys:af):bD (x::xs) (y::ys)=if x=y then bD xs ys else decide (x<y):=rfl
theorem r9:bD [] []=false:=rfl
theorem U0 (y:Int)(ys:af):bD [] (y::ys)=true:=rfl
theorem U1 (x:Int)(xs:af):bD (x::xs) []=false:=rfl
theorem U2 (A:Around)(s:Shared)(a:Int)(t:Tok)(c:Int)(u:Tok):∃e,SeqAt.EqAt A s (.int a t) (.int c u) e/\(e=true↔a=c):=
 ⟨(a==c),SeqAt.EqAt.int_int a t c u,by simp⟩
theorem U3 (A:Around)(s:Shared)(a:Int)(t:Tok)(c:Int)(u:Tok)(prog:Program)(w:World)(E:Value->Shared->Prop)(Q:Value->Shared->Prop)(h:Q (.bool (decide (a<c))) s) :
  wpAny (model prog w) A (richCompare .Lt (.int a t) (.int c u)) Q E s:=
 (PyProof.Rows.lt_int h:wpAny (model prog w) A (compareOp .Lt (.int a t) (.int c u)) Q E s)
section
open PySem.SeqAt
open PySem.AutoSeq1 (wpAny_loadPart')
open PySem.MeetsSeq PySem.MeetsSeq2 PySem.MeetsSeq3
theorem U4 (l b:Addr)(items items2:Array Value)(n n2:Nat)(dd dd2:Option Addr)(sl sl2:Array (Option Value))(ns ms:af)(hi:IntsAre items.toList ns)(hj:IntsAre items2.toList ms) :
  Meets (Builtin.«tuple.__lt__» ⟨[.ref l,.ref b],[]⟩)
   (λ_ R s=>s.heap.get? l=some { cls:=.type "tuple",dict:=dd,data:=.seq items n,slots:=sl }/\s.heap.get? b=some { cls:=.type "tuple",dict:=dd2,data:=.seq items2 n2,slots:=sl2 }/\
    R (.ok (.ret (.bool (bD ns ms)))) s):=
 .of_wp λprog w A R s h=>by
  obtain⟨hp,g,d,tk,os⟩:=s;obtain⟨hl,hb,h⟩:=h
  have f2:=AutoSeq1.sub_tuple_tuple
  have z1:items.size=ns.length:=by rw[<- hi.length];simp
  have z2:items2.size=ms.length:=by rw[<- hj.length];simp
  wp_walk using wpAny_loadPart' hl,wpAny_loadPart' hb,wpAny_forIn_list _ (λbW b s'=>b.1=none/\s'=⟨hp,g,d,tk,os⟩/\∃(vs ws:List Value) (ns' ms':af),bW=vs.zip ws/\
   IntsAre vs ns'/\IntsAre ws ms'/\ns'.length+items2.size=ms'.length+items.size/\R (.ok (.ret (.bool (bD ns' ms')))) ⟨hp,g,d,tk,os⟩) _
  case turn=>
   rintro⟨y,x⟩ bW b s' ⟨hb',rfl,vs,ws,ns',ms',hz,hvi,hwi,hlen,hR⟩
   cases hvi with
   |nil=>rw[List.zip_nil_left]at hz;cases hz
   |cons a t hvi'=>
    cases hwi with
    |nil=>rw[List.zip_nil_right]at hz;cases hz
    |cons c u hwi'=>
     rw[aS1]at hz
     injection hz with hyx hrest
     injection hyx with hy hx
     subst hy hx
     rw[gU]at hR
     simp only[aM6]at hlen
     obtain⟨e,he,hiff⟩:=U2 A.in1 ⟨hp,g,d,tk,os⟩ a t c u
     refine aH1 (he prog w _ _ ?_)
     cases e with
     |true=>
      rw[if_pos (hiff.mp rfl)]at hR
      wp_walk
      exact⟨rfl,rfl,_,_,_,_,hrest,hvi',hwi',by omega,hR⟩
     |false=>
      rw[if_neg (λq=>absurd (hiff.mpr q) aJ0)]at hR
      have hri:=U3 A.in1 ⟨hp,g,d,tk,os⟩ a t c u prog w
      wp_walk using hri
      exact⟨_,rfl,by simpa using hR⟩
  case fin=>
   rintro⟨b1,b2⟩ s' ⟨hb',rfl,vs,ws,ns',ms',hz,hvi,hwi,hlen,hR⟩
   simp only at hb'
   subst hb'
   have hv:bD ns' ms'=decide (items.size<items2.size):=by
    cases hvi with
    |nil=>
     cases hwi with
     |nil=>
      simp only[List.length_nil]at hlen
      rw[r9]
      exact (aH8 (by omega)).symm
     |cons c u hw=>
      simp only[List.length_nil,aM6]at hlen
      rw[U0]
      exact (aI2 (by omega)).symm
    |cons a t hv=>
     cases hwi with
     |nil=>
      simp only[List.length_nil,aM6]at hlen
      rw[U1]
      exact (aH8 (by omega)).symm
     |cons c u hw=>
      rw[aS1]at hz
      cases hz
   rw[hv]at hR
   wp_walk
   exact⟨_,rfl,by simpa[Builtin.Tuple.tupleCompareSizes] using hR⟩
  case h=>
   exact⟨rfl,rfl,items.toList,items2.toList,ns,ms,rfl,hi,hj,by omega,h⟩
end
section
variable {prog:Program}{w:World}{A:Around}{E:Value→Shared→Prop}{s:Shared}
theorem U5 {l b:Addr}{items items2:Array Value}{ns ms:af}{Q:Value->Shared->Prop}(hl:IsTup s.heap l items)(hb:IsTup s.heap b items2)(hi:IntsAre items.toList ns)(hj:IntsAre items2.toList ms)(hu:A.units<cLine)(h:Q (.bool (bD ns ms)) s):wpAny (model prog w) A (compareOp .Lt (.ref l) (.ref b)) Q E s:=by
 obtain⟨⟨cls,dd,data,sl⟩,ho,hc,n,hd⟩:=id hl
 obtain⟨⟨cls2,dd2,data2,sl2⟩,ho2,hc2,n2,hd2⟩:=id hb
 simp only at hc hd hc2 hd2
 subst hc hd hc2 hd2
 exact richCompare_meets_room (op:=.Lt) ⟨_,ho,rfl⟩ ⟨_,ho2,rfl⟩ PySem.F.slot_tuple_lt PySem.F.entry_tuple_lt (PySem.F.args_tuple_lt_2 _ _) (U4 l b items items2 n n2 dd dd2 sl sl2 ns ms hi hj)
  ⟨ho,ho2,show Value.bool (bD ns ms)≠Value.notImplemented/\Q (.bool (bD ns ms)) s from ⟨(λx=>nomatch x),h⟩⟩ hu
def aR (n d:Nat):Option Int->Nat
 |none=>d
 |some v=>if v<0 then (v+(n:Int)).toNat else min v.toNat n
theorem U6 (n d:Nat):aR n d none=d:=rfl
theorem vY (n d k:Nat):aR n d (some (k:Int))=min k n:=by
 show (if (k:Int)<0 then ((k:Int)+(n:Int)).toNat else min (k:Int).toNat n)=min k n
 rw[if_neg (by omega),Int.toNat_natCast]
theorem U7 (n d:Nat)(hd:d<=n)(o:Option Int):aR n d o<=n:=by
 cases o with
 |none=>exact hd
 |some v=>
  show (if v<0 then (v+(n:Int)).toNat else min v.toNat n)<=n
  by_cases hv:v<0
  ·rw[if_pos hv];omega
  ·rw[if_neg hv];exact Nat.min_le_right _ _
theorem vZ (v:Int)(n d:Nat):(if v<0 then max (v+(n:Int)) 0 else min v (n:Int))=((aR n d (some v):Nat):Int):=by
 show (if v<0 then max (v+(n:Int)) 0 else min v (n:Int))=(((if v<0 then (v+(n:Int)).toNat else min v.toNat n):Nat):Int)
 by_cases hv:v<0
 ·simp only[if_pos hv];omega
 ·simp only[if_neg hv];omega
theorem U8 (lo hi:Option Int)(n:Nat):Builtin.Slice.sliceAdjust lo hi 1 (n:Int)=(((aR n 0 lo:Nat):Int),((aR n n hi:Nat):Int)):=by
 have h1:¬((1:Int)<0):=by omega
 unfold Builtin.Slice.sliceAdjust
 simp only[h1,aP4]
 refine Prod.ext ?_ ?_
 ·cases lo with
  |none=>rfl
  |some v=>exact vZ v n 0
 ·cases hi with
  |none=>rfl
  |some v=>exact vZ v n n
theorem U9 (i j:Nat):Builtin.Slice.slicePlaces (i:Int) (j:Int) 1=j-i:=by
 unfold Builtin.Slice.slicePlaces
 have h1:(1:Int)>0:=by omega
 simp only[h1,if_true,Int.ediv_one]
 split<;>omega
theorem w4 {v:Value}{o:Option Int}{Q:Option Int->Shared->Prop}(p:IsPart v o)(h:Q o s):wpAny (model prog w) A (Builtin.Slice.slicePartIndex v) Q E s:=by
 cases p with
 |none=>exact slicePart_none h
 |int i t=>exact slicePart_int h
theorem w5 {sl:Addr}{vl vu:Value}{lo hi:Option Int}{n:Nat}{Q:Int×Int×Nat->Shared->Prop}(hs:s.heap.IsSliceOf sl vl vu .none)(pl:IsPart vl lo)(pu:IsPart vu hi)(h:Q (((aR n 0 lo:Nat):Int),1,aR n n hi-aR n 0 lo) s):wpAny (model prog w) A (Builtin.Slice.sliceApplied (.ref sl) (pure (n:Int))) Q E s:=by
 obtain⟨os,hos,hcs,hds⟩:=id hs
 unfold Builtin.Slice.sliceApplied Builtin.Slice.sliceFields
 refine aH1 (aH1 (aM5 hos hds (x:=vl) rfl (aH1 (aM5 hos hds (x:=vu) rfl (aH1 (aM5 hos hds (x:=.none) rfl (aH9 ?_)))))))
 refine aH1 (slicePart_none ?_)
 show wpAny _ _ (if ((1:Int)==0)=true then _ else _) _ _ s
 rw[if_neg (by decide)]
 refine aH1 (w4 pl (aH1 (w4 pu (aH1 (aH9 ?_)))))
 show wpAny _ _ (match Builtin.Slice.sliceAdjust lo hi 1 (n:Int) with|(lo,hi)=>pure (lo,(1:Int),Builtin.Slice.slicePlaces lo hi 1)) _ _ s
 rw[U8 lo hi n]
 show wpAny _ _ (pure (((aR n 0 lo:Nat):Int),(1:Int),Builtin.Slice.slicePlaces ((aR n 0 lo:Nat):Int) ((aR n n hi:Nat):Int) 1)) _ _ s
 rw[U9]
 exact aH9 h
theorem V0 (xs:Array Value)(i k:Nat):((List.range k).filterMap λ(m:Nat)=>xs[((i:Int)+(m:Int)*1).toNat]?).toArray=((xs.toList.drop i).take k).toArray:=by
 have e:(λ(m:Nat)=>xs[((i:Int)+(m:Int)*1).toNat]?)=λm=>xs[i+m]?:=by
  funext m
  have:((i:Int)+(m:Int)*1).toNat=i+m:=by omega
  rw[this]
 rw[e]
 have:=pick_run xs i k
 rw[List.filterMap_map]at this
 have e2:((λx=>xs[x]?) ∘ λx=>i+x)=λm=>xs[i+m]?:=rfl
 rw[e2]at this
 rw[this]
theorem V1 {t sl:Addr}{items:Array Value}{vl vu:Value}{lo hi:Option Int}{Q:Value->Shared->Prop}(ht:IsTup s.heap t items)(hs:s.heap.IsSliceOf sl vl vu .none)(pl:IsPart vl lo)(pu:IsPart vu hi)(hw:¬(aR items.size 0 lo=0/\aR items.size items.size hi=items.size))(h:Q (.ref s.heap.objs.size) { s with heap:=s.heap.push { cls:=.type "tuple",data:=.seq ((items.toList.drop (aR items.size 0 lo)).take (aR items.size items.size hi-aR items.size 0 lo)).toArray } })(hsz:items.size<=sizeLine):wpAny (model prog w) A (getItem (.ref t) (.ref sl)) Q E s:=by
 have htake:sizeOk (.seq ((items.toList.drop (aR items.size 0 lo)).take (aR items.size items.size hi-aR items.size 0 lo)).toArray):=by
  show ((items.toList.drop (aR items.size 0 lo)).take (aR items.size items.size hi-aR items.size 0 lo)).toArray.size<=sizeLine
  rw[aH3,aV4,aP5,Array.length_toList]
  omega
 have hj:aR items.size items.size hi<=items.size:=U7 _ _ (aH7 _) hi
 obtain⟨os,hos,hcs,hds⟩:=id hs
 have hTs:s.TypeIs (.ref sl) "slice":=⟨os,hos,hcs⟩
 unfold getItem
 try with_reducible refine aR5 ?_
 first|refine aH1 (aH9 ?_)|skip
 refine aH1 (wpAny_sequenceKey ht.typeIs (by decide) ?_)
 refine aH1 (aO0 (name:=Str.ofString "__getitem__") ht.typeIs aT4
  (aP6 aT4 ht.typeIs entry_tuple_getitem ?_ (args_tuple_getitem _ _)))
 show wpAny _ _ (Builtin.Tuple.tupleItemsOf (.ref t) >>= _) _ _ s
 refine aH1 (tupleItemsOf_ ht ?_)
 refine aH1 (wpAny_typeOf hTs ?_)
 rw[if_pos (by decide)]
 refine aH1 (w5 hs pl pu ?_)
 have hno:¬((((aR items.size 0 lo:Nat):Int)==0&&(1:Int)==1&&(aR items.size items.size hi-aR items.size 0 lo)==items.size)=true):=by
  intro q
  rw[aR3,aR3]at q
  have q1:((aR items.size 0 lo:Nat):Int)=0:=eq_of_beq q.1.1
  have q2:aR items.size items.size hi-aR items.size 0 lo=items.size:=eq_of_beq q.2
  exact hw ⟨by omega,by omega⟩
 show wpAny _ _ (if (((aR items.size 0 lo:Nat):Int)==0&&(1:Int)==1&&(aR items.size items.size hi-aR items.size 0 lo)==items.size)=true then _ else _) _ _ s
 rw[if_neg hno,V0]
 first
  |exact aH1 (m:=Builtin.Tuple.tupleExact _) (aP7 (aH9 ⟨_,rfl,aH9 h⟩) htake)
  |exact aH1 (m:=Builtin.Tuple.tupleExact _) (aP7 (aH1 (aH9 (aH9 ⟨_,rfl,aH9 h⟩))) htake)
  |exact aH1 (aH1 (m:=Builtin.Tuple.tupleExact _) (aP7 (aH9 (aH9 ⟨_,rfl,aH9 h⟩)) htake))
  |exact aH1 (aH1 (m:=Builtin.Tuple.tupleExact _) (aP7 (aH9 ⟨_,rfl,aH9 h⟩) htake))
end
end HT
namespace L2
open PySem PySem.Spec PyProof.Rows
abbrev TO:=St->Hp->(Option Int->Hp->Prop)->Prop
def PO (X:Cx)(e:Option Expr)(t:TO):Prop:=
 ∀(pins:List (Addr×Obj)) (s:Shared) (σ:St) (H:Hp) (Q:Option Int->Hp->Prop),a6 X pins σ H s->t σ H Q->
  wpAny (model X.prog X.w) X.A (evalPart e X.env) (λu s'=>∃o H',a6 X pins σ H' s'/\IsPart u o/\Q o H') X.xe s
def V2:TO:=λ_ H Q=>Q none H
def V3 (t:TE):TO:=λσ H Q=>t σ H λx H1=>∃i,x = .int i/\Q (some i) H1
theorem jF {ns:af}:∀{us:List Value},aL (ns.map V.int) us->IntsAre us ns:=by
 induction ns with
 |nil=>intro us r;rw[List.map_nil]at r;cases r;exact .nil
 |cons n ns ih=>
  intro us r
  rw[aM4]at r
  cases r with
  |cons r1 r2=>
   obtain⟨t,e⟩:=r1
   subst e
   exact .cons n t (ih r2)
section
variable {X:Cx}{e:Expr}{te:TE}{lo hi:Option Expr}{tl th:TO}{pos p2:Pos}
theorem V4:PO X none V2:=by
 intro pins s σ H Q I h
 rw[evalPart_none]
 exact aH9 ⟨none,H,I,.none,h⟩
theorem V5 (h:PE X e te):PO X (some e) (V3 te):=by
 intro pins s σ H Q I hw
 rw[evalPart_some]
 refine aQ (h pins s σ H _ I hw) λu s1 ⟨x,H1,I1,r1,q1⟩=>?_
 obtain⟨i,rfl,q⟩:=q1
 obtain⟨t,rfl⟩:=r1
 exact⟨some i,H1,I1,.int i t,q⟩
def iS (X:Cx)(r:V->Option Int->Option Int->Hp->VK->Prop):Prop:=
 ∀(pins:List (Addr×Obj)) (s:Shared) (σ:St) (H:Hp) (x:V) (v vl vu:Value) (lo hi:Option Int) (sl:Addr) (Q:VK),a6 X pins σ H s->aT x v->s.heap.IsSliceOf sl vl vu .none->IsPart vl lo->IsPart vu hi->r x lo hi H Q->
  ∃T id,typeLookup (.type T) "__getitem__" = pure (some (.builtin id))/\s.TypeIs v T/\wpAny (model X.prog X.w) X.A (getItem v (.ref sl)) (EP X pins σ Q) X.xe s
theorem iS.or {r r':V->Option Int->Option Int->Hp->VK->Prop}(h:iS X r)(h':iS X r'):iS X (λx lo hi H Q=>r x lo hi H Q∨r' x lo hi H Q):=by
 intro pins s σ H x v vl vu lo hi sl Q I rx hs pl pu q
 rcases q with q|q
 ·exact h pins s σ H x v vl vu lo hi sl Q I rx hs pl pu q
 ·exact h' pins s σ H x v vl vu lo hi sl Q I rx hs pl pu q
def V6 (r:V->Option Int->Option Int->Hp->VK->Prop)(te:TE)(tl th:TO):TE:=λσ H Q=>te σ H λx H1=>tl σ H1 λl H2=>th σ H2 λu H3=>r x l u H3 Q
theorem V7 {r:V->Option Int->Option Int->Hp->VK->Prop}(hr:iS X r)(he:PE X e te)(hl:PO X lo tl)(hu:PO X hi th):PE X (.Subscript e (.Slice lo hi none p2) pos) (V6 r te tl th):=by
 intro pins s σ H Q I h
 refine Subscript_ (aQ (he pins s σ H _ I h) λv s1 ⟨x,H1,I1,r1,q1⟩=>?_)
 refine wpAny_Slice (aQ (hl pins s1 σ H1 _ I1 q1) λvl s2 ⟨l,H2,I2,pl,q2⟩=>aQ (hu pins s2 σ H2 _ I2 q2) λvu s3 ⟨u,H3,I3,pu,q3⟩=>?_)
 rw[evalPart_none]
 refine aH9 ?_
 have I4:a6 X pins σ H3 { s3 with heap:=s3.heap.push { cls:=.type "slice",data:=.fields #[vl,vu,.none] } }:=I3.kept (t':=s3.toks) λb ob q=>aH2 _ q
 obtain⟨T,id,hT,ht,hg⟩:=hr pins { s3 with heap:=s3.heap.push { cls:=.type "slice",data:=.fields #[vl,vu,.none] } } σ H3 x v vl vu l u s3.heap.objs.size Q I4 r1 (Heap.IsSliceOf.new ..) pl pu q3
 show wpAny (model X.prog X.w) X.A (subscriptTail e (.Slice lo hi none p2) v (.ref s3.heap.objs.size)) (EP X pins σ Q) X.xe { s3 with heap:=s3.heap.push { cls:=.type "slice",data:=.fields #[vl,vu,.none] } }
 exact tail_any (ops:=[.ref s3.heap.objs.size,v]) ht hT hg (by with_unfolding_all rfl)
def gC (xs:List V)(lo hi:Option Int):List V:=(xs.drop (HT.aR xs.length 0 lo)).take (HT.aR xs.length xs.length hi-HT.aR xs.length 0 lo)
theorem w6 (xs:List V)(lo hi:Option Int):(gC xs lo hi).length<=xs.length:=by
 unfold gC
 rw[aV4,aP5]
 omega
def V8 (K:ac):V->Option Int->Option Int->Hp->VK->Prop:=λx lo hi H Q=>∃a xs,x = .ref a/\aN K H a xs/\
 ¬(HT.aR xs.length 0 lo=0/\HT.aR xs.length xs.length hi=xs.length)/\∀p,H p=none->Q (.ref p) (upd H p (.tup (gC xs lo hi)))
theorem V9:iS X (V8 X.K):=by
 intro pins s σ H x v vl vu lo hi sl Q I rx hs pl pu h
 obtain⟨a,xs,rfl,hx,hw,q⟩:=h
 cases rx
 obtain⟨its,r,ht,hz⟩:=I.tuple hx
 have hlen:its.toArray.size=xs.length:=by rw[aH3];exact r.length.symm
 refine⟨"tuple",_,PyProof.Rows.slot_tuple_getitem.lookup,ht.typeIs,?_⟩
 refine HT.V1 ht hs pl pu (by rw[hlen];exact hw) ?_ (by rw[hlen];exact hz)
 rw[hlen]
 refine⟨.ref s.heap.objs.size,_,I.laid (t':=s.toks) (o:=.tup (gC xs lo hi)) (λb ob q=>aH2 _ q) (aH7 _) ?_,rfl,q _ (I.hok.fresh (aH7 _))⟩
 exact⟨aO7 (w6 xs lo hi) hz,_,(r.drop (HT.aR xs.length 0 lo)).take (HT.aR xs.length xs.length hi-HT.aR xs.length 0 lo),IsTup.new _ _,hV.new _ _ rfl⟩
def rA (K:ac):R2:=λx y H Q=>∃a b ns ms,x = .ref a/\y = .ref b/\aN K H a (ns.map V.int)/\aN K H b (ms.map V.int)/\Q (.bl (HT.bD ns ms)) H
theorem W0 (hu:X.A.units<cLine):cA X (compareOp .Lt) (rA X.K):=by
 intro pins s σ H x y v u Q I rx ry h
 obtain⟨a,b,ns,ms,rfl,rfl,ha,hb,q⟩:=h
 cases rx
 cases ry
 obtain⟨its,r1,p1,_⟩:=I.tuple ha
 obtain⟨its2,r2,p2,_⟩:=I.tuple hb
 have i1:IntsAre its.toArray.toList ns:=jF r1
 have i2:IntsAre its2.toArray.toList ms:=jF r2
 exact HT.U5 p1 p2 i1 i2 hu ⟨.bl (HT.bD ns ms),H,I,rfl,q⟩
end
def gD (n:Nat)(i:Int):Option Nat:=if 0<=i then (if i<n then some i.toNat else none) else if -(n:Int)<=i then some (i+n).toNat else none
def atI {α:Type}(xs:List α)(i:Int):Option α:=(gD xs.length i).bind λj=>xs[j]?
theorem w9 {n:Nat}{i:Int}{j:Nat}(h:gD n i=some j):seqIndex? i n=some j/\j<n/\-(n:Int)<=i/\i<n:=by
 unfold gD at h
 by_cases h0:0<=i
 ·rw[if_pos h0]at h
  by_cases h1:i<n
  ·rw[if_pos h1]at h
   have e:i.toNat=j:=aL6 h
   exact⟨by rw[seqIndex_of h0 h1,e],by omega,by omega,h1⟩
  ·rw[if_neg h1]at h;cases h
 ·rw[if_neg h0]at h
  by_cases h1:-(n:Int)<=i
  ·rw[if_pos h1]at h
   have e:(i+n).toNat=j:=aL6 h
   exact⟨by rw[seqIndex_neg (by omega) h1,e],by omega,h1,by omega⟩
  ·rw[if_neg h1]at h;cases h
theorem rB {α:Type}{xs:List α}{i:Int}{v:α}(h:atI xs i=some v):∃j,seqIndex? i xs.length=some j/\xs[j]? = some v/\j<xs.length/\-(xs.length:Int)<=i/\i<xs.length:=by
 unfold atI at h
 cases e:gD xs.length i with
 |none=>rw[e]at h;cases h
 |some j=>
  rw[e]at h
  obtain⟨h1,h2,h3,h4⟩:=w9 e
  exact⟨j,h1,h,h2,h3,h4⟩
theorem lT {α:Type}{xs:List α}{j:Nat}{v:α}(h:xs[j]? = some v):atI xs (j:Int)=some v:=by
 have hj:j<xs.length:=(aL0.mp h).1
 have e:gD xs.length (j:Int)=some j:=by
  unfold gD
  rw[if_pos (by omega),if_pos (by omega)];simp
 unfold atI;rw[e];exact h
def wA (b:Expr):Prop:=∀o i,subscripted b false o i=operate [o,i] (getItem o i)
def i6 (X:Cx)(r:R2):Prop:=
 ∀(value slice:Expr) (pins:List (Addr×Obj)) (s:Shared) (σ:St) (H:Hp) (x y:V) (v u:Value) (Q:VK),a6 X pins σ H s->aT x v->aT y u->r x y H Q->
  subscripted slice false v u=operate [v,u] (getItem v u)->wpAny (model X.prog X.w) X.A (subscriptTail value slice v u) (EP X pins σ Q) X.xe s
def W4 (X:Cx)(id:String)(r:V->List V->Hp->VK->Prop):Prop:=
 ∀(pins:List (Addr×Obj)) (s:Shared) (σ:St) (H:Hp) (x:V) (xs:List V) (v:Value) (us:List Value) (Q:VK),a6 X pins σ H s->aT x v->aL xs us->r x xs H Q->
  wpAny (model X.prog X.w) X.A (call (.builtin id) (v::us)) (EP X pins σ Q) X.xe s
section
variable {X:Cx}{a b:Expr}{ta tb:TE}{pos:Pos}
theorem i6.or {r r':R2}(h:i6 X r)(h':i6 X r'):i6 X (λx y H Q=>r x y H Q∨r' x y H Q):=by
 intro value slice pins s σ H x y v u Q I rx ry q hs
 rcases q with q|q
 ·exact h value slice pins s σ H x y v u Q I rx ry q hs
 ·exact h' value slice pins s σ H x y v u Q I rx ry q hs
theorem rC {r:R2}(hr:i6 X r)(ha:PE X a ta)(hb:PE X b tb)(hs:wA b):PE X (.Subscript a b pos) (kI r ta tb):=by
 intro pins s σ H Q I h
 exact Subscript_ (qT ha hb I h λv u s2 x y H2 I2 rx ry q=>hr a b pins s2 σ H2 x y v u Q I2 rx ry q (hs _ _))
def rD (K:ac):R2:=λx y H Q=>∃p xs i v,x = .ref p/\y = .int i/\aP K H p xs/\atI xs i=some v/\Q v H
def wB (K:ac):R2:=λx y H Q=>∃p xs i v,x = .ref p/\y = .int i/\aN K H p xs/\atI xs i=some v/\Q v H
def wC:R2:=λx y H Q=>∃z i c,x = .str z/\y = .int i/\z.length<=sizeLine/\atI z.cps.toList i=some c/\Q (.str ⟨#[c]⟩) H
theorem rE:i6 X (rD X.K):=by
 intro value slice pins s σ H x y v u Q I rx ry h hs
 obtain⟨p,xs,i,z,rfl,rfl,hq,he,q⟩:=h
 cases rx
 obtain⟨t,rfl⟩:=ry
 obtain⟨its,r,pl,hz⟩:=I.list hq
 obtain⟨j,h1,h2,h3,h4,h5⟩:=rB he
 obtain⟨w,ew,rw'⟩:=r.get h2
 have hl:=r.length
 have hn:=lS
 have fin:EP X pins σ Q w s:=⟨z,H,I,rw',q⟩
 by_cases h0:0<=i
 ·have hj:i.toNat=j:=by
   rw[seqIndex_of h0 h5]at h1
   exact aL6 h1
  exact item_listR pl.isList h0 (by omega) (by rw[hj];simpa using ew) fin hs
 ·have hj:(i+(its.toArray.size:Int)).toNat=j:=by
   rw[seqIndex_neg (by omega) h4]at h1
   rw[aH3,<- hl]
   exact aL6 h1
  exact subscriptTail_builtinR (x:=w) pl.isList.typeIs slot_list_getitem.lookup
   (wpAny_getItem_list_neg (Q:=λr s'=>r=w/\EP X pins σ Q r s') pl.isList (by omega) (by rw[aH3]<;>omega) (by omega) (by rw[hj];simpa using ew) ⟨rfl,fin⟩) hs
theorem W5:i6 X (wB X.K):=by
 intro value slice pins s σ H x y v u Q I rx ry h hs
 obtain⟨p,xs,i,z,rfl,rfl,hq,he,q⟩:=h
 cases rx
 obtain⟨t,rfl⟩:=ry
 obtain⟨its,r,pl,hz⟩:=I.tuple hq
 obtain⟨j,h1,h2,h3,h4,h5⟩:=rB he
 obtain⟨w,ew,rw'⟩:=r.get h2
 have hl:=r.length
 have hn:=lS
 have fin:EP X pins σ Q w s:=⟨z,H,I,rw',q⟩
 exact subscriptTail_builtinR (x:=w) pl.typeIs slot_tuple_getitem.lookup
  (getItem_tuple (j:=j) (Q:=λr s'=>r=w/\EP X pins σ Q r s') pl (by omega) (by omega) (by rw[aH3,<- hl];exact h1) (by simpa using ew) ⟨rfl,fin⟩) hs
theorem W6:i6 X wC:=by
 intro value slice pins s σ H x y v u Q I rx ry h hs
 obtain⟨z,i,c,rfl,rfl,hz,he,q⟩:=h
 obtain⟨t,rfl⟩:=rx
 obtain⟨t',rfl⟩:=ry
 obtain⟨j,h1,h2,h3,h4,h5⟩:=rB he
 have hl:z.cps.toList.length=z.length:=by simp[Str.length]
 rw[hl]at h1 h4 h5
 have hn:=lS
 exact tail_any (typeIs_str s z t) slot_str_getitem.lookup (getItem_str (c:=c) (by
  have e1:decide (i < -(2^63:Int))=false:=aH8 (by omega)
  have e2:decide (i >= 2^63)=false:=aH8 (by omega)
  rw[e1,e2,Bool.or_false]) (by rw[h1];simpa using h2) ⟨.str ⟨#[c]⟩,H,I.tok _,⟨_,rfl⟩,q⟩) hs
def wD (K:ac):R2:=λx y H Q=>rD K x y H Q∨wB K x y H Q∨wC x y H Q
theorem W7:i6 X (wD X.K):=rE.or (W5.or W6)
theorem W8 (its:List Value)(n j:Nat)(u:Value):Obj.mapSeq (·.setIfInBounds j u) { cls:=.type "list",data:=.seq its.toArray n }={ cls:=.type "list",data:=.seq (its.set j u).toArray n }:=by
 simp[Obj.mapSeq]
theorem a6.lst {pins:List (Addr×Obj)}{σ:St}{H:Hp}{s:Shared}{p:Addr}{xs:List V}(I:a6 X pins σ H s)(h:H p=some (.lst xs)) :
  ∃(its:List Value) (n:Nat),aL xs its/\s.heap.get? p=some { cls:=.type "list",data:=.seq its.toArray n }/\xs.length<=sizeLine:=by
 obtain⟨z,its,n,r,e⟩:=I.hok p _ h
 exact⟨its,n,r,e,z⟩
theorem a6.lstUpd {pins:List (Addr×Obj)}{σ:St}{H:Hp}{s:Shared}{p:Addr}{xs ys:List V}{its its':List Value}{n n':Nat}{f:Obj->Obj}(I:a6 X pins σ H s)(h:H p=some (.lst xs))(ho:s.heap.get? p=some { cls:=.type "list",data:=.seq its.toArray n })(hf:f { cls:=.type "list",data:=.seq its.toArray n }={ cls:=.type "list",data:=.seq its'.toArray n' })(r:aL ys its')(hz:ys.length<=sizeLine)(t:Nat) :
  a6 X pins σ (upd H p (.lst ys)) { s with heap:=s.heap.update p f,toks:=t }:=by
 have e:(s.heap.update p f).get? p=some { cls:=.type "list",data:=.seq its'.toArray n' }:=by
  rw[Heap.get?_update_self f ho (by rw[hf]<;>rfl),hf]
 refine I.write (x:=p) (e:=p) (by rw[h];trivial) (.inl rfl) (λb u hb q=>(Heap.get?_update_other _ _ (Ne.symm hb)).trans q) ⟨_,e⟩ ?_
 exact⟨hz,its',n',r,e⟩
def rF:V->V->V->Hp->(Hp->Prop)->Prop:=λo i v H Q=>∃p xs k j,o = .ref p/\i = .int k/\H p=some (.lst xs)/\gD xs.length k=some j/\Q (upd H p (.lst (xs.set j v)))
theorem W9:v9 X rF:=by
 intro pins s σ H o i v ov iv u Q I ro ri rv h
 obtain⟨p,xs,k,j,rfl,rfl,hp,hj,q⟩:=h
 cases ro
 obtain⟨t,rfl⟩:=ri
 obtain⟨its,n,r,ho,hz⟩:=I.lst hp
 obtain⟨h1,h2,h3,h4⟩:=w9 hj
 have hl:=r.length
 have hn:=lS
 have I':a6 X pins σ (upd H p (.lst (xs.set j v))) { s with heap:=s.heap.update p (Obj.mapSeq (·.setIfInBounds j u)) }:=
  I.lstUpd hp ho (W8 its n j u) (r.set rv j) (by rw[aO4];exact hz) s.toks
 by_cases h0:0<=k
 ·have hk:k.toNat=j:=by
   rw[seqIndex_of h0 h4]at h1
   exact aL6 h1
  exact PySem.W.ki_setAt ho h0 (by omega) (by rw[aH3,<- hl];exact h4) (by rw[hk];exact⟨_,I',q⟩)
 ·have hk:(k+(its.toArray.size:Int)).toNat=j:=by
   rw[seqIndex_neg (by omega) h3]at h1
   rw[aH3,<- hl]
   exact aL6 h1
  exact PySem.W.ki_setBack ho (by omega) (by rw[aH3,<- hl];exact h3) (by omega) (by rw[hk];exact⟨_,I',q⟩)
theorem X0 (lo hi:Option Int)(n:Nat):(sliceBounds lo hi none n).1=((HT.aR n 0 lo:Nat):Int)/\(sliceBounds lo hi none n).2.1=((HT.aR n n hi:Nat):Int)/\(sliceBounds lo hi none n).2.2=1:=by
 refine⟨?_,?_,rfl⟩
 ·cases lo with
  |none=>simp[sliceBounds,HT.aR]
  |some i=>
   simp only[sliceBounds,HT.aR,Option.getD_none,show (1:Int)>0 by decide,if_true]
   by_cases h:i<0
   ·simp only[h,if_true]<;>omega
   ·simp only[h,aP4]<;>omega
 ·cases hi with
  |none=>simp[sliceBounds,HT.aR]
  |some i=>
   simp only[sliceBounds,HT.aR,Option.getD_none,show (1:Int)>0 by decide,if_true]
   by_cases h:i<0
   ·simp only[h,if_true]<;>omega
   ·simp only[h,aP4]<;>omega
theorem X1 (its:List Value)(lo hi:Option Int):slicePick its.toArray lo hi none=((its.drop (HT.aR its.length 0 lo)).take (HT.aR its.length its.length hi-HT.aR its.length 0 lo)).toArray:=by
 obtain⟨h1,h2,h3⟩:=X0 lo hi its.toArray.size
 unfold slicePick
 rw[h1,h2,h3]
 simp only[sliceRange_one,pick_run,aH3]<;>rfl
def X2 (K:ac):V->Option Int->Option Int->Hp->VK->Prop:=λx lo hi H Q=>∃a xs,x = .ref a/\aP K H a xs/\∀p,H p=none->Q (.ref p) (upd H p (.lst (gC xs lo hi)))
theorem X3:iS X (X2 X.K):=by
 intro pins s σ H x v vl vu lo hi sl Q I rx hs pl pu h
 obtain⟨a,xs,rfl,hx,q⟩:=h
 cases rx
 obtain⟨its,r,ht,hz⟩:=I.list hx
 have hlen:=r.length
 refine⟨"list",_,slot_list_getitem.lookup,ht.isList.typeIs,?_⟩
 refine wpAny_getItem_list_slice ht.isList hs pl pu .none (by simp) ?_ (by rw[aH3]<;>omega)
 rw[X1,<- hlen]
 refine⟨.ref s.heap.objs.size,_,I.laid (t':=s.toks) (o:=.lst (gC xs lo hi)) (λb ob q=>aH2 _ q) (aH7 _) ?_,rfl,q _ (I.hok.fresh (aH7 _))⟩
 exact⟨aO7 (w6 xs lo hi) hz,_,0,(r.drop (HT.aR xs.length 0 lo)).take (HT.aR xs.length xs.length hi-HT.aR xs.length 0 lo),aJ3 _ rfl⟩
theorem X4:cG X (.builtin "len") (λxs H Q=>∃p ys,xs = [.ref p]/\(aP X.K H p ys∨aN X.K H p ys)/\Q (.int ys.length) H):=by
 intro pins s σ H xs us Q I r h
 obtain⟨p,ys,rfl,hq,q⟩:=h
 obtain⟨u,rfl,rx⟩:=gT r
 cases rx
 have hn:=lS
 rcases hq with hq|hq
 ·obtain⟨its,r',pl,hz⟩:=I.list hq
  have hlen:=r'.length
  exact Calls.call_len_list pl.isList (by simp only[aH3]<;>omega) ⟨.int ys.length,H,I.tok _,⟨s.toks+1,by rw[aH3,hlen]⟩,q⟩
 ·obtain⟨its,r',pl,hz⟩:=I.tuple hq
  have hlen:=r'.length
  exact len_tuple pl (by simp only[aH3]<;>omega) ⟨.int ys.length,H,I.tok _,⟨s.toks+1,by rw[aH3,hlen]⟩,q⟩
theorem cG.or {f:Value}{r r':List V->Hp->VK->Prop}(h:cG X f r)(h':cG X f r'):cG X f (λxs H Q=>r xs H Q∨r' xs H Q):=by
 intro pins s σ H xs us Q I rs q
 rcases q with q|q
 ·exact h pins s σ H xs us Q I rs q
 ·exact h' pins s σ H xs us Q I rs q
theorem X5:cG X (.type "list") (λxs H Q=>∃p ys,xs = [.ref p]/\(aP X.K H p ys∨aN X.K H p ys)/\∀l,H l=none->Q (.ref l) (upd H l (.lst ys))):=by
 intro pins s σ H xs us Q I r h
 obtain⟨p,ys,rfl,hq,q⟩:=h
 obtain⟨u,rfl,rx⟩:=gT r
 cases rx
 have fin:∀(its:List Value),aL ys its->ys.length<=sizeLine->∀(h':Heap) (c':Nat),(∀b o',s.heap.get? b=some o'->h'.get? b=some o')->
   h'.get? s.heap.objs.size=some { cls:=.type "list",dict:=none,data:=.seq its.toArray c',slots:=#[] }->EP X pins σ Q (.ref s.heap.objs.size) { s with heap:=h' }:=λits r' hz h' c' kp e=>
  ⟨.ref s.heap.objs.size,_,I.laid (t':=s.toks) kp (aH7 _) (show bH X.prog X.w _ h' _ (.lst ys) from ⟨hz,its,c',r',e⟩),rfl,q _ (I.hok.fresh (aH7 _))⟩
 rcases hq with hq|hq
 ·obtain⟨its,r',pl,hz⟩:=I.list hq
  have hlen:=r'.length
  obtain⟨o,ho,hc,n,hd⟩:=pl.isList
  exact call_list_seq p (.inl rfl) ho hc hd (λh' c' kp e=>fin its r' hz h' c' kp e) (by simp only[aH3]<;>omega)
 ·obtain⟨its,r',pl,hz⟩:=I.tuple hq
  have hlen:=r'.length
  obtain⟨o,ho,hc,n,hd⟩:=pl
  exact call_list_seq p (.inr rfl) ho hc hd (λh' c' kp e=>fin its r' hz h' c' kp e) (by simp only[aH3]<;>omega)
theorem X6:cG X (.type "tuple") (λxs H Q=>∃p ys,xs = [.ref p]/\((aP X.K H p ys/\∀l,H l=none->Q (.ref l) (upd H l (.tup ys)))∨(aN X.K H p ys/\Q (.ref p) H))):=by
 intro pins s σ H xs us Q I r h
 obtain⟨p,ys,rfl,h⟩:=h
 obtain⟨u,rfl,rx⟩:=gT r
 cases rx
 rcases h with⟨hq,q⟩|⟨hq,q⟩
 ·obtain⟨its,r',pl,hz⟩:=I.list hq
  have hlen:=r'.length
  refine call_tuple_list pl.isList (λh' kp=>?_) (by simp only[aH3]<;>omega)
  have I1:a6 X pins σ H { s with heap:=h' }:=I.kept (t':=s.toks) kp
  have I2:a6 X pins σ (upd H h'.objs.size (.tup ys)) { s with heap:=h'.push { cls:=.type "tuple",data:=.seq its.toArray } }:=
   I1.laid (t':=s.toks) (λb o e=>aH2 _ e) (aH7 _) (show bH X.prog X.w _ _ _ (.tup ys) from ⟨hz,its,r',IsTup.new _ _,hV.new _ _ rfl⟩)
  exact⟨.ref h'.objs.size,_,I2,rfl,q _ (I1.hok.fresh (aH7 _))⟩
 ·obtain⟨its,r',pl,hz⟩:=I.tuple hq
  exact call_tuple_same pl ⟨.ref p,H,I,rfl,q⟩
def gE (K:ac)(T:String)(x:V)(H:Hp):Prop:=match x with
 |.str _=>T="str"
 |.int _=>T="int"
 |.ref p=>(T="list"/\∃xs,aP K H p xs)∨(T="tuple"/\∃o,K.lookup p=some o/\o.cls = .type "tuple"/\o.dict=none) ∨
   (T="dict"/\((∃kvs,H p=some (.dK kvs))∨∃kvs,H p=some (.dT kvs)))∨(T="set"/\∃S n,H p=some (.set S n))
 |_=>False
theorem X7 {pins:List (Addr×Obj)}{σ:St}{H:Hp}{s:Shared}{T:String}{x:V}{v:Value}(I:a6 X pins σ H s)(r:aT x v)(ty:gE X.K T x H) :
  s.TypeIs v T/\∀a,v = .ref a->∃ob,s.heap.get? a=some ob/\ob.dict=none:=by
 cases x with
 |str z=>
  obtain⟨t,rfl⟩:=r
  cases (show T="str" from ty)
  exact⟨typeIs_str s z t,λ_ e=>nomatch e⟩
 |int i=>
  obtain⟨t,rfl⟩:=r
  cases (show T="int" from ty)
  exact⟨typeIs_int s i t,λ_ e=>nomatch e⟩
 |ref p=>
  cases r
  rcases ty with⟨rfl,xs,hq⟩|⟨rfl,o,hk,hc,hd⟩|⟨rfl,hk⟩|⟨rfl,S,n,hk⟩
  ·obtain⟨its,_,pl,_⟩:=I.list hq
   refine⟨pl.isList.typeIs,λa e=>?_⟩
   cases e
   obtain⟨o,n,e,c,hd,_⟩:=pl
   exact⟨o,e,hd⟩
  ·refine⟨⟨o,I.kIn p o hk,hc⟩,λa e=>?_⟩
   cases e
   exact⟨o,I.kIn _ o hk,hd⟩
  ·have z:∃o,s.heap.get? p=some o/\o.ExactDict:=by
    rcases hk with⟨kvs,hk⟩|⟨kvs,hk⟩
    ·obtain⟨_,_,_,_,o,_,_,e,ex,_⟩:=I.hok p _ hk
     exact⟨o,e,ex⟩
    ·obtain⟨_,_,_,_,o,_,_,e,ex,_⟩:=I.hok p _ hk
     exact⟨o,e,ex⟩
   obtain⟨o,e,ex⟩:=z
   refine⟨⟨o,e,ex.1⟩,λa e2=>?_⟩
   cases e2
   exact⟨o,e,ex.2.1⟩
  ·obtain⟨o,_,_,_,e,ex,_⟩:=I.hok p _ hk
   refine⟨⟨o,e,ex.1⟩,λa e2=>?_⟩
   cases e2
   exact⟨o,e,ex.2.1⟩
 |_=>exact False.elim ty
def lU (K:ac)(T:String)(r:V->List V->Hp->VK->Prop)(to:TE)(t:TA):TE:=λσ H Q=>to σ H λx H1=>gE K T x H1/\t σ H1 λxs H2=>r x xs H2 Q
variable {o e:Expr}{es:List Expr}{to:TE}{t:TA}{name:Str}{apos cpos:Pos}{T id:String}{r:V→List V→Hp→VK→Prop}
theorem lV (pa:PlainAttrs T)(slot:Slot T name id)(hty:typeOf (.builtin id)=pure (.type "method_descriptor"))(hm:W4 X id r)(ho:PE X o to)(ha:PA X (e::es) t)(hbase:attributeBase o name X.env (eval o X.env)=eval o X.env:=by rfl)(hfew:((backTo cpos (starEach (e::es) X.env)).all (λx=>!x.1)&&(backToKw cpos (keywordEach [] X.env)).all (λx=>x.1.isSome)
  &&decide ((e::es).length+([]:List Keyword).length+(if ([]:List Keyword).isEmpty then 0 else 1)<30))=true:=by rfl)(hline:(apos.endLine==cpos.line)=true:=by rfl)(hs:starEach (e::es) X.env=(false,eval e X.env)::starEach es X.env:=by rfl)(hplain:(backTo cpos (starEach es X.env)).any (·.1)=false:=by rfl) :
  PE X (.Call (.Attribute o name apos) (e::es) [] cpos) (lU X.K T r to t):=by
 intro pins s σ H Q I h
 refine wpAny_Call_method_late hbase hfew hline rfl (aQ (ho pins s σ H _ I h) λv s1 ⟨x,H1,I1,r1,ty,q1⟩=>?_)
 obtain⟨h1,h2⟩:=X7 I1 r1 ty
 refine⟨T,id,pa,slot,hty,h1,h2,?_⟩
 have hA:=ha cpos pins s1 σ H1 _ I1 q1
 rw[hs]at hA ⊢
 refine Calls.callWith_builtin (by show (false||(backTo cpos (starEach es X.env)).any (·.1))=false;rw[hplain]<;>rfl) (Calls.evalArgs_plain ?_)
 exact aQ hA λus s2 ⟨vs,H2,I2,r2,q2⟩=>hm pins s2 σ H2 x vs v us Q I2 r1 r2 q2
end
def lW (X:Cx)(id:String)(r:V->List V->Hp->VK->Prop):Prop:=
 ∀(pins:List (Addr×Obj)) (s:Shared) (σ:St) (H:Hp) (x:V) (xs:List V) (v:Value) (us:List Value) (Q:VK),a6 X pins σ H s->aT x v->aL xs us->r x xs H Q->
  wpAny (model X.prog X.w) X.A (call (.builtin id) (v::us)) (EP X pins σ Q) X.xe s
theorem aL.one {x:V}{us:List Value}(h:aL [x] us):∃u,us = [u]/\aT x u:=by
 cases h with
 |cons r t=>
  cases t
  exact⟨_,rfl,r⟩
theorem aL.two {x y:V}{us:List Value}(h:aL [x,y] us):∃u v,us = [u,v]/\aT x u/\aT y v:=by
 cases h with
 |cons r t=>
  cases t with
  |cons q t=>
   cases t
   exact⟨_,_,rfl,r,q⟩
theorem aL.rep {xs:List V}{us:List Value}(h:aL xs us):∀k:Nat,aL (List.replicate k xs).flatten (List.replicate k us).flatten
 |0=>.nil
 |k+1=>by
  rw[aQ5,aQ5,aU3,aU3]
  exact aL.append h (aL.rep h k)
theorem wE (its:List Value):∀(k:Nat) (acc:List Value),
  List.foldl (λx1 x2=>x1++x2) acc.toArray (List.replicate k its.toArray)=(acc++(List.replicate k its).flatten).toArray
 |0,acc=>by simp
 |k+1,acc=>by
  have e:acc.toArray++its.toArray=(acc++its).toArray:=by simp
  have e2:(acc++its)++(List.replicate k its).flatten=acc++(List.replicate (k+1) its).flatten:=by
   rw[aQ5,aU3,aK6]
  rw[<- e2,<- wE its k (acc++its),<- e,aQ5,List.foldl_cons]
section
variable {X:Cx}{pins:List (Addr×Obj)}{σ:St}{H:Hp}{s:Shared}{l b:Addr}{xs ys zs:List V}
theorem a6.lset {its its':List Value}{n:Nat}{f:Array Value->Array Value}{t':Nat}(I:a6 X pins σ H s)(hH:H l=some (.lst xs))(e:s.heap.get? l=some { cls:=.type "list",data:=.seq its.toArray n })(hf:f its.toArray=its'.toArray)(hv:aL ys its')(hz:ys.length<=sizeLine) :
  a6 X pins σ (upd H l (.lst ys)) { s with heap:=s.heap.update l (Obj.mapSeq f),toks:=t' }:=by
 have q:=PySem.IsL.update e f
 rw[hf]at q
 refine I.write (x:=l) (e:=l) (by rw[hH];exact trivial) (.inl rfl) (λb' u hb hu=>(Heap.get?_update_other s.heap (Obj.mapSeq f) (Ne.symm hb)).trans hu) ⟨_,q⟩ ?_
 exact⟨hz,its',_,hv,q⟩
theorem a6.lnew {its:List Value}{t':Nat}(I:a6 X pins σ H s)(hv:aL ys its)(hz:ys.length<=sizeLine) :
  a6 X pins σ (upd H s.heap.objs.size (.lst ys)) { s with heap:=s.heap.push { cls:=.type "list",data:=.seq its.toArray },toks:=t' }:=
 I.laid (λ_ _ q=>aH2 _ q) (aH7 _) ⟨hz,its,0,hv,aJ3 _ rfl⟩
theorem a6.fresh (I:a6 X pins σ H s):H s.heap.objs.size=none:=I.hok.fresh (aH7 _)
theorem a6.lstM (I:a6 X pins σ H s)(hH:H l=some (.lst xs)):xs.length<=sizeLine/\∃(its:List Value) (n:Nat),aL xs its/\xs.length=its.length/\s.heap.get? l=some { cls:=.type "list",data:=.seq its.toArray n }:=by
 obtain⟨z,its,n,r,e⟩:=I.hok l _ hH
 exact⟨z,its,n,r,r.length,e⟩
theorem rG {n:Nat}(h:n<=sizeLine):Builtin.List.listTooLong n=false:=by
 unfold Builtin.List.listTooLong
 exact aH8 (by omega)
end
section
variable {X:Cx}
def rH:V->List V->Hp->VK->Prop:=λx vs H Q=>∃l xs y,x = .ref l/\vs = [y]/\H l=some (.lst xs)/\xs.length<sizeLine/\Q .non (upd H l (.lst (xs++[y])))
theorem lX:lW X "list.append" rH:=by
 intro pins s σ H x vs v us Q I rx rv h
 obtain⟨l,xs,y,rfl,rfl,hH,hz,q⟩:=h
 cases rx
 obtain⟨u,rfl,ru⟩:=rv.one
 obtain⟨z,its,n,r,hl,e⟩:=I.lstM hH
 refine call_meets F.slot_list_append ⟨_,e,rfl⟩ F.entry_list_append (F.args_list_append_2 _ _) (PySem.list_append l its.toArray n u (by rw[aH3];omega)) ⟨e,?_⟩
 refine⟨.non,_,I.lset (its':=its++[u]) hH e (by simp) (r.append (.cons ru .nil)) ?_,rfl,q⟩
 rw[aL1,aW3]
 omega
def wF:V->List V->Hp->VK->Prop:=λx vs H Q=>∃l b xs zs,x = .ref l/\vs = [.ref b]/\H l=some (.lst xs)/\H b=some (.lst zs)/\xs.length+zs.length<=sizeLine/\Q .non (upd H l (.lst (xs++zs)))
theorem X8:lW X "list.extend" wF:=by
 intro pins s σ H x vs v us Q I rx rv h
 obtain⟨l,b,xs,zs,rfl,rfl,hH,hB,hz,q⟩:=h
 cases rx
 obtain⟨u,rfl,ru⟩:=rv.one
 cases ru
 obtain⟨z,its,n,r,hl,e⟩:=I.lstM hH
 obtain⟨z2,its2,n2,r2,hl2,e2⟩:=I.lstM hB
 have hsz:its.toArray.size+its2.toArray.size<=sizeLine:=by rw[aH3,aH3];omega
 have hlong:¬(!its.toArray.isEmpty&&Builtin.List.listTooLong (its.toArray.size+its2.toArray.size))=true:=by
  rw[rG hsz,Bool.and_false]
  exact aJ0
 refine call_meets F.slot_list_extend ⟨_,e,rfl⟩ F.entry_list_extend (F.args_list_extend_2 _ _)
  (AutoSeq1.list_extend_list_list_0 l its.toArray n b its2.toArray n2 hlong (by rw[aH3];omega) (by omega)) ⟨e,e2,?_⟩
 refine⟨.non,_,I.lset (its':=its++its2) hH e (by simp) (r.append r2) ?_,rfl,q⟩
 rw[aL1]
 omega
def wG:R2:=λx y H Q=>∃l b xs zs,x = .ref l/\y = .ref b/\H l=some (.lst xs)/\H b=some (.lst zs)/\xs.length+zs.length<=sizeLine/\∀p,H p=none->Q (.ref p) (upd H p (.lst (xs++zs)))
theorem X9:cA X (binaryOp .Add) wG:=by
 intro pins s σ H x y v u Q I rx ry h
 obtain⟨l,b,xs,zs,rfl,rfl,hH,hB,hz,q⟩:=h
 cases rx
 cases ry
 obtain⟨z,its,n,r,hl,e⟩:=I.lstM hH
 obtain⟨z2,its2,n2,r2,hl2,e2⟩:=I.lstM hB
 refine PySem.P.add_list e e2 ?_ (by rw[aH3,aH3];omega)
 have ea:its.toArray++its2.toArray=(its++its2).toArray:=by simp
 rw[ea]
 exact⟨.ref _,_,I.lnew (t':=s.toks) (r.append r2) (by rw[aL1];omega),rfl,q _ I.fresh⟩
def wH:R2:=λx y H Q=>∃l k xs,x = .ref l/\y = .int k/\H l=some (.lst xs)/\-(2^63)<=k/\k<2^63/\xs.length*k.toNat<=sizeLine/\
 ∀p,H p=none->Q (.ref p) (upd H p (.lst (List.replicate k.toNat xs).flatten))
theorem Y0 {α:Type}(xs:List α)(k:Nat):(List.replicate k xs).flatten.length=k*xs.length:=by
 induction k with
 |zero=>simp
 |succ k ih=>rw[aQ5,aU3,aL1,ih,Nat.succ_mul,Nat.add_comm]
theorem Y1:cA X (binaryOp .Mult) wH:=by
 intro pins s σ H x y v u Q I rx ry h
 obtain⟨l,k,xs,rfl,rfl,hH,h1,h2,hz,q⟩:=h
 cases rx
 obtain⟨t,rfl⟩:=ry
 obtain⟨z,its,n,r,hl,e⟩:=I.lstM hH
 have hlen:its.toArray.size*k.toNat<=sizeLine:=by rw[aH3,<- hl];exact hz
 have hcap:¬its.toArray.size*k.toNat>(2^63-1)/8:=by
  have:(sizeLine:Nat)<=(2^63-1)/8:=by decide
  omega
 have hfit:¬(!Builtin.List.listFitsIndex k)=true:=by
  rw[fitsIndex_both h1 h2]
  exact aJ0
 have hlong:¬Builtin.List.listTooLong (its.toArray.size*k.toNat)=true:=by
  rw[rG hlen]
  exact aJ0
 have hnew:List.foldl (λx1 x2=>x1++x2) #[] (List.replicate (if its.toArray.isEmpty=true then 0 else k.toNat) its.toArray)=(List.replicate k.toNat its).flatten.toArray:=by
  have f0:∀m:Nat,List.foldl (λx1 x2=>x1++x2) #[] (List.replicate m its.toArray)=(List.replicate m its).flatten.toArray:=λm=>by
   have:=wE its m []
   rw[List.nil_append]at this
   exact this
  rw[f0]
  cases its with
  |nil=>simp
  |cons a r'=>rw[if_neg (by simp)]
 refine wpAny_binaryOp_repeat_ref (T:="list") (U:="int") (by decide) ⟨_,e,rfl⟩ (λs'=>typeIs_int s' k t) noFill_list_mul F.fills_int_mul F.slot_int_rmul repeat_list F.slot_int_index.lookup
  (call_meets F.slot_int_rmul (typeIs_int s k t) F.entry_int_rmul (F.args_int_rmul_2 _ _) (int___rmul___int_list k t l its.toArray n)
   ⟨e,rfl,⟨_,e,rfl⟩,call_meets F.slot_list_mul ⟨_,e,rfl⟩ F.entry_list_mul (F.args_list_mul_2 _ _) (AutoListH.list___mul___list_int_3 l its.toArray n k t hfit hcap hlong) ⟨e,?_⟩⟩)
 rw[hnew]
 exact⟨.ref _,_,I.lnew (t':=s.toks) (r.rep k.toNat) (by rw[Y0,Nat.mul_comm];exact hz),rfl,q _ I.fresh⟩
end
section
variable {κ:Type}[DecidableEq κ]
def gV (kvs:List (κ×V))(k:κ):Option V:=(kvs.find? λkv=>decide (kv.1=k)).map (·.2)
def eG (kvs:List (κ×V))(k:κ)(v:V):List (κ×V):=
 if (kvs.any λkv=>decide (kv.1=k))=true then kvs.map (λkv=>if kv.1=k then (kv.1,v) else kv) else kvs++[(k,v)]
theorem wI {p:κ×V}{r:List (κ×V)}{k:κ}(e:p.1=k):gV (p::r) k=some p.2:=by simp[gV,List.find?_cons,e]
theorem wJ {p:κ×V}{r:List (κ×V)}{k:κ}(e:¬p.1=k):gV (p::r) k=gV r k:=by simp[gV,List.find?_cons,e]
theorem wK (k:κ):∀kvs:List (κ×V),(kvs.any λkv=>decide (kv.1=k))=(gV kvs k).isSome
 |[]=>rfl
 |p::r=>by
  rw[List.any_cons]
  by_cases e:p.1=k
  ·simp only[wI e,aI2 e,Bool.true_or,Option.isSome_some]
  ·rw[wJ e,aH8 e,Bool.false_or];exact wK k r
theorem wL (kvs:List (κ×V))(k:κ)(v:V):(eG kvs k v).length<=kvs.length+1:=by
 unfold eG
 split
 ·rw[aJ1];omega
 ·rw[aL1,aM6,List.length_nil];omega
theorem kA.isSome_eq {o:Option V}{u:Option Value}(r:kA o u):o.isSome=u.isSome:=by
 cases o with
 |none=>cases u with
  |none=>rfl
  |some _=>exact (show False from r).elim
 |some _=>cases u with
  |none=>exact (show False from r).elim
  |some _=>rfl
theorem KV.any {kvs:List (κ×V)}{vs:List (κ×Value)}(r:KV kvs vs)(k:κ):(kvs.any λkv=>decide (kv.1=k))=vs.any λkv=>decide (kv.1=k):=by
 unfold KV at r
 induction r with
 |nil=>rfl
 |cons h t ih=>rw[List.any_cons,List.any_cons,ih,h.1]
theorem KV.repl {kvs:List (κ×V)}{vs:List (κ×Value)}(r:KV kvs vs)(k:κ){y:V}{u:Value}(ry:aT y u) :
  KV (kvs.map λkv=>if kv.1=k then (kv.1,y) else kv) (vs.map λkv=>if kv.1=k then (kv.1,u) else kv):=by
 unfold KV at r ⊢
 induction r with
 |nil=>exact .nil
 |@cons p q ps qs h t ih=>
  rw[aM4,aM4]
  refine .cons ?_ ih
  obtain⟨h1,h2⟩:=h
  by_cases e:p.1=k
  ·rw[if_pos e,if_pos (h1.symm.trans e)];exact⟨h1,ry⟩
  ·rw[if_neg e,if_neg (λz=>e (h1.trans z))];exact⟨h1,h2⟩
theorem KV.put {kvs:List (κ×V)}{vs:List (κ×Value)}(r:KV kvs vs)(k:κ){y:V}{u:Value}(ry:aT y u):KV (eG kvs k y) (stored vs k u):=by
 unfold eG stored
 rw[r.any k]
 by_cases e:(vs.any λkv=>decide (kv.1=k))=true
 ·rw[if_pos e,if_pos e];exact r.repl k ry
 ·rw[if_neg e,if_neg e];exact Paired.snoc r ⟨rfl,ry⟩
theorem KV.length {kvs:List (κ×V)}{vs:List (κ×Value)}(r:KV kvs vs):kvs.length=vs.length:=Paired.length r
end
theorem wM {P:Program}{w:World}{k:aM}{u:Value}(r:aT (kV k) u):(eU P w).is k u=true:=by
 cases k with
 |inl i=>obtain⟨t,e⟩:=(show ∃t,u=Value.int i t from r);subst e;exact N6 P w i t
 |inr x=>obtain⟨t,e⟩:=(show ∃t,u=Value.str x t from r);subst e;exact N7 P w x t
theorem wN {P:Program}{w:World}:∀{ks:List aM}{us:List Value},aL (ks.map kV) us->ItemsAre (eU P w) ks us
 |[],_,r=>by rw[List.map_nil]at r;cases r;exact .nil
 |k::ks,_,r=>by
  rw[aM4]at r
  cases r with
  |cons h t=>exact .cons (wM h) (wN t)
abbrev KT (H:Hp):List (List aM×V)->List (List aM×Addr×Value)->Prop:=Paired λp q=>p.1=q.1/\H q.2.1=some (.tup (p.1.map kV))/\aT p.2 q.2.2
theorem KT.val {H:Hp}{kvs:List (List aM×V)}{xs:List (List aM×Addr×Value)}(r:KT H kvs xs)(k:List aM):kA (gV kvs k) ((atKey xs k).map (·.2)):=by
 induction r with
 |nil=>exact True.intro
 |@cons p q ps qs h t ih=>
  obtain⟨h1,_,h2⟩:=h
  by_cases e:p.1=k
  ·have e':q.1=k:=h1.symm.trans e
   have b:atKey (q::qs) k=some q.2:=by simp[atKey,List.find?_cons,e']
   rw[wI e,b];exact h2
  ·have e':¬q.1=k:=λz=>e (h1.trans z)
   have b:atKey (q::qs) k=atKey qs k:=by simp[atKey,List.find?_cons,e']
   rw[wJ e,b];exact ih
theorem KT.repl {H:Hp}{kvs:List (List aM×V)}{xs:List (List aM×Addr×Value)}(r:KT H kvs xs)(k:List aM){y:V}{u:Value}(ry:aT y u) :
  KT H (kvs.map λkv=>if kv.1=k then (kv.1,y) else kv) (xs.map (putAt k u)):=by
 induction r with
 |nil=>exact .nil
 |@cons p q ps qs h t ih=>
  rw[aM4,aM4]
  refine .cons ?_ ih
  obtain⟨h1,h2,h3⟩:=h
  unfold putAt
  by_cases e:p.1=k
  ·rw[if_pos e,if_pos (h1.symm.trans e)];exact⟨h1,h2,ry⟩
  ·rw[if_neg e,if_neg (λz=>e (h1.trans z))];exact⟨h1,h2,h3⟩
theorem KT.put {H:Hp}{kvs:List (List aM×V)}{xs:List (List aM×Addr×Value)}(r:KT H kvs xs)(k:List aM){b:Addr}{y:V}{u:Value}(hb:H b=some (.tup (k.map kV)))(ry:aT y u) :
  KT H (eG kvs k y) (storedH xs k b u):=by
 have e:(kvs.any λkv=>decide (kv.1=k))=(atKey xs k).isSome:=by
  rw[wK,(r.val k).isSome_eq,Option.isSome_map]
 unfold eG storedH
 rw[e]
 by_cases q:(atKey xs k).isSome=true
 ·rw[if_pos q,if_pos q];exact r.repl k ry
 ·rw[if_neg q,if_neg q];exact Paired.snoc r ⟨rfl,hb,ry⟩
theorem KT.keeps {H H':Hp}{kvs:List (List aM×V)}{xs:List (List aM×Addr×Value)}(r:KT H kvs xs)(ht:∀b ys,H b=some (.tup ys)->H' b=some (.tup ys)):KT H' kvs xs:=
 Paired.mapP r λ_ _ z=>⟨z.1,ht _ _ z.2.1,z.2.2⟩
section
variable {P:Program}{w:World}{H:Hp}{h:Heap}{a:Addr}
theorem wO {u:HO}(ok:bF P w H h)(e:Rd H a u):bH P w H h a u:=e.ok ok
theorem wP {kvs:List (aM×V)}(ok:bF P w H h)(e:Rd H a (.dK kvs)):kvs.length<=sizeLine/\(a==sysModules)=false/\∃vs,KV kvs vs/\h.DictOf (eU P w) a vs:=
 show bH P w H h a (.dK kvs) from wO ok e
theorem Y2 {kvs:List (aM×V)}(ok:bF P w H h)(e:H a=some (.dK kvs)):kvs.length<=sizeLine/\(a==sysModules)=false/\∃vs,KV kvs vs/\h.DictOf (eU P w) a vs:=wP ok (.inl e)
theorem wQ {ks:List aM}(ok:bF P w H h)(e:H a=some (.tup (ks.map kV))):(tupleKind (eU P w)).is h ks a:=by
 obtain⟨_,its,r,⟨o,h1,h2,n,h3⟩,_⟩:=(show bH P w H h a (.tup (ks.map kV)) from ok a _ e)
 exact⟨o,its.toArray,n,h1,h2,h3,by simpa using wN r⟩
theorem Y3 {kvs:List (List aM×V)}(ok:bF P w H h)(e:Rd H a (.dT kvs)):kvs.length<=sizeLine/\(a==sysModules)=false/\
  ∃xs,KT H kvs xs/\h.DictOfH (tupleKind (eU P w)) a xs:=by
 obtain⟨z,y,xs,r,o,es,ep,h1,h2,h3,h4,h5⟩:=(show bH P w H h a (.dT kvs) from wO ok e)
 refine⟨z,y,xs,r,o,es,ep,h1,h2,h3,h4,λx hx=>?_,h5⟩
 have all:∀{l:List (List aM×V)}{m:List (List aM×Addr×Value)},KT H l m->∀x∈m,(tupleKind (eU P w)).is h x.1 x.2.1:=by
  intro l m q
  induction q with
  |nil=>intro x hx;exact nomatch hx
  |@cons p q ps qs hq t ih=>
   intro x hx
   rcases aH4.mp hx with e|hx
   ·subst e
    exact wQ ok (by rw[<- hq.1];exact hq.2.1)
   ·exact ih x hx
 exact all r x hx
theorem Y4 {kvs:List (List aM×V)}(ok:bF P w H h)(e:H a=some (.dT kvs)):kvs.length<=sizeLine/\(a==sysModules)=false/\
  ∃xs,KT H kvs xs/\h.DictOfH (tupleKind (eU P w)) a xs:=Y3 ok (.inl e)
end
def lY (H:Hp)(a:Addr)(y v:V)(H':Hp):Prop:=
 (∃kvs k,H a=some (.dK kvs)/\y=kV k/\kvs.length<sizeLine/\H'=upd H a (.dK (eG kvs k v))) ∨
 ∃kvs k b,H a=some (.dT kvs)/\y = .ref b/\H b=some (.tup (k.map kV))/\kvs.length<sizeLine/\H'=upd H a (.dT (eG kvs k v))
theorem lY.t {H:Hp}{a b:Addr}{kvs:List (List aM×V)}{k:List aM}{v:V}(e:H a=some (.dT kvs))(eb:H b=some (.tup (k.map kV)))(hl:kvs.length<sizeLine) :
  lY H a (.ref b) v (upd H a (.dT (eG kvs k v))):=.inr ⟨kvs,k,b,e,rfl,eb,hl,rfl⟩
section
variable {X:Cx}{pins:List (Addr×Obj)}{σ:St}{H:Hp}{s:Shared}{a:Addr}{y v:V}{u r:Value}{o:Option V}{A:Around}{E:Value→Shared→Prop}
theorem a6.big (I:a6 X pins σ H s):sysModules<s.heap.objs.size:=by
 have h:mainGlobals<s.heap.objs.size:=(I.mod.glob.keeps I.bk).lt
 exact Nat.lt_trans (by decide) h
theorem wR {h':Heap}{t':Nat}{ob:HO}(I:a6 X pins σ H s)(mu:lM (H a))(hs:Heap.SameBut a s.heap h')(he:∃q,h'.get? a=some q)(new:bH X.prog X.w (upd H a ob) h' a ob) :
  a6 X pins σ (upd H a ob) { s with heap:=h',toks:=t' }:=
 I.write (x:=a) (e:=a) mu (.inl rfl) (λb q hb z=>(hs.2 b hb).trans z) he new
theorem Y5 {P:Program}{w:World}{H':Hp}{h':Heap}{kvs:List (aM×V)}{vs:List (aM×Value)}(z:kvs.length<=sizeLine)(hd:(a==sysModules)=false)(rel:KV kvs vs)(dd:h'.DictOf (eU P w) a vs) :
  bH P w H' h' a (.dK kvs):=⟨z,hd,vs,rel,dd⟩
theorem Y6 {H':Hp}{Q:Unit->Shared->Prop}(hu:A.units+1<cLine)(I:a6 X pins σ H s)(g:lY H a y v H')(ry:aT y u)(rv:aT v r)(h:∀s',a6 X pins σ H' s'->Q () s') :
  wpAny (model X.prog X.w) A (setItem (.ref a) u r) Q E s:=by
 rcases g with⟨kvs,k,e,ey,l,eH⟩|⟨kvs,k,b,e,ey,eb,l,eH⟩
 ·subst ey eH
  obtain⟨z,hd,vs,rel,dd⟩:=Y2 I.hok e
  have hz:vs.length<=sizeLine:=by rw[<- rel.length];exact z
  have hl:(eG kvs k v).length<=sizeLine:=by have:=wL kvs k v;omega
  refine wpAny_setItem_pairs (hsz:=hz) (wM ry) dd λh' dd' hs=>h _ ?_
  have he:∃q,h'.get? a=some q:=let ⟨q,_,_,hq,_⟩:=dd';⟨q,hq⟩
  exact wR I (by rw[e];exact True.intro) hs he (Y5 hl hd (rel.put k rv) dd')
 ·subst ey eH
  cases (show u=Value.ref b from ry)
  obtain⟨z,hd,xs,rel,dd⟩:=Y4 I.hok e
  have hz:xs.length<=sizeLine:=by rw[<- Paired.length rel];exact z
  have hl:(eG kvs k v).length<=sizeLine:=by have:=wL kvs k v;omega
  refine wpAny_setItem_heap (hsz:=hz) (tupleKind_room_in1 hu) (wQ I.hok eb) dd λh' dd' hs=>h _ ?_
  obtain⟨q,es,ep,hq,h2,h3,h4,_,h5⟩:=dd'
  refine wR I (by rw[e];exact True.intro) hs ⟨q,hq⟩ ⟨hl,hd,_,(rel.put k eb rv).keeps λc ys ec=>?_,q,es,ep,hq,h2,h3,h4,h5⟩
  rw[aJ (N8 ec e (λz=>nomatch z))]
  exact ec
end
section
variable {X:Cx}{pins:List (Addr×Obj)}{σ:St}{H:Hp}{s:Shared}{a:Addr}{kvs:List (aM×V)}{k:aM}{u:Value}{A:Around}{E:Value→Shared→Prop}
theorem Y7 {Q:Value->Shared->Prop}(I:a6 X pins σ H s)(e:Rd H a (.dK kvs))(h:∀t s',a6 X pins σ H s'->Q (.int kvs.length t) s'):wpAny (model X.prog X.w) A (call (.builtin "len") [.ref a]) Q E s:=by
 obtain⟨z,hd,vs,rel,dd⟩:=wP I.hok e
 refine call_len_dict hd dd (by rw[<- rel.length];rw[sizeLine_eq]at z;omega) ?_
 rw[<- rel.length]
 exact h _ _ (I.tok _)
end
def wS (td ty tv:TE):TS:=λD σ H=>tv σ H λv H1=>td σ H1 λx H2=>ty σ H2 λy H3=>∃a H4,x = .ref a/\lY H3 a y v H4/\D.nx σ H4
section
variable {X:Cx}{o i e value:Expr}{pos pos' tpos:Pos}{td ty tv:TE}
theorem Y8 (hu:X.A.units+1<cLine)(ho:PE X o td)(hi:PE X i ty)(hv:PE X value tv)(hs:swapsWith value (some (.Subscript o i pos')) pos.line X.env=pure false) :
  PS X (.Assign [.Subscript o i pos'] value pos) (wS td ty tv):=by
 intro pins s σ H D I h
 refine wpAny_Assign_Subscript (aQ (hv pins s σ H _ I h) λr s1 ⟨v,H1,I1,rv,q1⟩=>aQ (ho pins s1 σ H1 _ I1 q1) λu s2 ⟨x,H2,I2,rx,q2⟩=>aQ (hi pins s2 σ H2 _ I2 q2) λiv s3 ⟨y,H3,I3,ry,a,H4,ex,g,q3⟩=>?_) hs
 subst ex
 obtain rfl:u=Value.ref a:=rx
 exact Y6 hu I3 g ry rv λs4 I4=>⟨σ,H4,I4,q3⟩
end
theorem Y9 {P:Program}{w:World}{H:Hp}(h:Heap)(hb:sysModules<h.objs.size):bH P w H (h.push { cls:=.type "dict",data:=.dict #[] }) h.objs.size (.dT []):=
 ⟨aN4 _,beq_eq_false_iff_ne.mpr (Ne.symm (aL5 hb)),[],.nil,_,#[],0,aJ3 _ rfl,⟨rfl,rfl,rfl⟩,rfl,rfl,List.nodup_nil⟩
def wT:TE:=λ_ H Q=>∀p,H p=none->Q (.ref p) (upd H p (.dT []))
section
variable {X:Cx}{pos:Pos}
theorem Z0:PE X (.Dict [] [] pos) wT:=λpins s σ H Q I h=>
 wpAny_Dict_empty ⟨.ref s.heap.objs.size,_,I.laid (a:=s.heap.objs.size) (o:=.dT []) (t':=s.toks) (λ_ _ q=>aH2 _ q) (aH7 _) (Y9 s.heap I.big),rfl,h _ (I.hok.fresh (aH7 _))⟩
end
structure M1 (X:Cx)(o:Expr)(m:Str)(apos:Pos)(e:Expr)(cpos:Pos):Prop where
 base:attributeBase o m X.env (eval o X.env)=eval o X.env
 few:((backTo cpos (starEach [e] X.env)).all (λx=>!x.1)&&(backToKw cpos (keywordEach [] X.env)).all (λx=>x.1.isSome)
 &&decide (([e]:List Expr).length+([]:List Keyword).length+(if ([]:List Keyword).isEmpty then 0 else 1)<30))=true
 line:(apos.endLine==cpos.line)=true
 trees:backTo cpos (starEach [e] X.env) = [(false,eval e X.env)]
structure M2 (X:Cx)(o:Expr)(m:Str)(apos:Pos)(e f:Expr)(cpos:Pos):Prop where
 base:attributeBase o m X.env (eval o X.env)=eval o X.env
 few:((backTo cpos (starEach [e,f] X.env)).all (λx=>!x.1)&&(backToKw cpos (keywordEach [] X.env)).all (λx=>x.1.isSome)
 &&decide (([e,f]:List Expr).length+([]:List Keyword).length+(if ([]:List Keyword).isEmpty then 0 else 1)<30))=true
 line:(apos.endLine==cpos.line)=true
 trees:backTo cpos (starEach [e,f] X.env) = [(false,eval e X.env),(false,eval f X.env)]
end L2
namespace Att
open PySem PySem.W PySem.Calls PyProof.Rows
theorem Z1 {P:Params}{h:Heap}:∀(ns:af) (vs:List Value),WellAll P h vs (ns.map WData.int)->IntsAre vs ns:=by
 intro ns
 induction ns with
 |nil=>
  intro vs w
  rw[List.map_nil]at w
  cases w
  exact .nil
 |cons n ns ih=>
  intro vs w
  rw[aM4]at w
  cases w with
  |cons a b=>
   cases a
   exact .cons _ _ (ih _ b)
theorem wU {l:OpenLaw}{n:Nat}(hn:l.most=some n){P:Params}{h:Heap}{args:List WData}{vals:List Value}(hpre:l.row.toRowW.claim.pre args=true)(hwl:WellAll P h vals args) :
  ∃a vs ns,vals = [Value.ref a]/\args = [WData.list (ns.map WData.int)]/\h.get? a=some { cls:=.type "list",data:=.seq vs.toArray }/\IntsAre vs ns/\ns.length<=n:=by
 have hsh:WShape.hasAll [] args [.list .int]=true:=(pre_splitW hpre).1
 have hc:l.pre.holds [] { args:=args }=true:=(pre_splitW hpre).2
 obtain⟨d,r,rfl,h1,h2⟩:=hasAllW_cons hsh
 obtain rfl:=hasAllW_nil h2
 obtain⟨xs,rfl,h3⟩:=hasW_list h1
 obtain⟨ns,rfl⟩:=items_int h3
 have hlen:ns.length<=n:=by
  unfold OpenLaw.pre at hc
  have h4:(WTm.not (.lt (.lit (.int (n:Int))) (.len (.arg 0)))).holds [] { args:=[.list (ns.map .int)] }=true:=by
   have h4:=(holds_andW hc).1
   rw[hn]at h4
   exact h4
  have h5:=condW_of h4 (w_not (w_lt w_lit (w_len_list (w_arg rfl))))
  rw[aJ1]at h5
  refine Nat.le_of_not_lt λq=>?_
  have q':(n:Int)<((ns.length:Nat):Int):=by omega
  first
   |(rw[aI2 q']at h5;exact absurd h5 (by decide))
   |(simp at h5;omega)
 cases hwl with
 |cons w1 w2=>
  cases w2
  cases w1 with
  |list ho hall=>exact⟨_,_,ns,rfl,rfl,ho,Z1 ns _ hall,hlen⟩
theorem wV (l:OpenLaw)(args:List WData):l.row.toRowW.claim.post args (.bool true) args=true:=
 postW_of (r:=l.row.toRowW) (X:=(true==true))
  (show WShape.has [] (.bool true) .bool=true by first|rfl|decide|simp[WShape.has,WShape.arms,WShape.armsAll])
  (show (WTm.eq .res (.lit (.bool true))).value [] { args:=args,res:=some (.bool true),after:=args }=some (.bool (true==true)) from w_eq_bool (w_res rfl) w_lit) rfl
theorem aG5 {l:OpenLaw}{n:Nat}{q:Program}{loose:List Str}{XP:(Str->Option Value)->Heap->Prop}{YP:World->Heap->Prop}{d:DefRec}{x:Str}(hn:l.most=some n)(hdf:d.params.defaults = [])(hbind:∀pm cd doc v:Value,bindArgs (docDef d.name d.params d.body d.scope pm cd doc) ⟨[v],[]⟩=pure [(x,v)])(hx:d.scope.names.lookup x=some .local∨d.scope.names.lookup x=some .cell)(hk:d.scope.kind = .function)(hco:d.scope.isCoroutine=false)(hgen:d.scope.isGenerator=false)(body:∀(w:World) (s₀ s₁ s:Shared) (mg mb:Str->Option Value) (fa:Addr) (o:Obj) (pm cd doc:Value) (a:Addr) (vs:List Value) (ns:af),
   Ground q loose [] XP w s₀ mg mb s₁.heap->YP w s₁.heap->
   s₁.heap.get? fa=some o->o.data = .func (docDef d.name d.params d.body d.scope pm cd doc)->s₁.heap.CodeRec cd d.name->mg d.name=some (.ref fa)->
   s₁.heap.get? a=some { cls:=.type "list",data:=.seq vs.toArray }->IntsAre vs ns->ns.length<=n->
   s.gens = #[]->s.os=s₁.os->
   Fr s₁.heap s₁.heap.objs.size s.heap (bindL (envOfC d.name d.scope s₁.heap.objs.size fa cd).kindOf [(x,.ref a)] λ_=>none)->
   Cl s₁.heap.objs.size (cellsFrom (s₁.heap.objs.size+1) d.scope.names []) s.heap (bindC (envOfC d.name d.scope s₁.heap.objs.size fa cd).kindOf [(x,.ref a)] λ_=>none)->
   wpAny (model l.prog w) (callerA.deeper (envOfC d.name d.scope s₁.heap.objs.size fa cd)) (execs d.body (envOfC d.name d.scope s₁.heap.objs.size fa cd))
    (λf s'=>f = .ret (.bool true)/\OldK s₁.heap s'.heap/\s'.os=s₁.os/\AllBare s'.gens) (λ_ _=>False) s) :
  WalkO q loose XP YP l.row.toRowW d [] (λf vs=>PySem.call f vs):=by
 intro w s₀ s₁ mg mb G Y fa o pm cd doc dV kV ho hd hcd hD hmg hg args vals as hpre hlay hrd hwl hlo
 obtain rfl:dV = .none:=Dflts.none hD hdf
 obtain rfl:kV = .none:=Dflts.noKw hD
 obtain⟨a,vs,ns,rfl,rfl,hobj,hints,hlen⟩:=wU hn hpre hwl
 refine enter_call ?_
 refine call_cells_ret (o:=o) (by rw[depth_caller];decide) ho (fd_plain hd) G.T.nolimit hcd (hbind pm cd doc (.ref a)) (λy hy=>?_) (λh₁ tk F X=>?_) hco hgen hk
 ·obtain rfl:y=(x,Value.ref a):=aI3.mp hy
  rcases hx with e|e
  ·exact .inl e
  ·exact .inr ⟨e,cellsFrom_some _ _ _ (.inl e)⟩
 ·refine aO8 (body w s₀ s₁ { s₁ with heap:=h₁,toks:=tk } mg mb fa o pm cd doc a vs ns G Y ho (fd_plain hd) hcd hmg hobj hints hlen hg rfl F X) (λf s' hq=>?_) (λ_ _ hq=>hq)
  obtain⟨rfl,h2,h3,h4⟩:=hq
  exact⟨.inl ⟨.bool true,.bool true,[],rfl,λ_=>rfl,.bool true,wV l _,λ_=>⟨List.Pairwise.nil,λ_ hm=>(nomatch hm)⟩⟩,h2,h3,h4⟩
theorem Z2 {l:OpenLaw}{n:Nat}{q:Program}{loose:List Str}{XP:(Str->Option Value)->Heap->Prop}{YP:World->Heap->Prop}{d:DefRec}(hn:l.most=some n)(hdf:d.params.defaults = [])(call:∀(w:World) (s₀ s₁:Shared) (mg mb:Str->Option Value) (fa:Addr) (o:Obj) (pm cd doc:Value) (a:Addr) (vs:List Value) (ns:af),
   Ground q loose [] XP w s₀ mg mb s₁.heap->YP w s₁.heap->
   s₁.heap.get? fa=some o->o.data = .func (docDef d.name d.params d.body d.scope pm cd doc)->s₁.heap.CodeRec cd d.name->mg d.name=some (.ref fa)->
   s₁.heap.get? a=some { cls:=.type "list",data:=.seq vs.toArray }->IntsAre vs ns->ns.length<=n->s₁.gens = #[]->
   codeAny (model l.prog w) callerA (.call (.ref fa) ⟨[.ref a],[]⟩) (λr s'=>r = .ok (.ret (.bool true))/\OldK s₁.heap s'.heap/\s'.os=s₁.os/\AllBare s'.gens) s₁) :
  WalkO q loose XP YP l.row.toRowW d [] (λf vs=>PySem.call f vs):=by
 intro w s₀ s₁ mg mb G Y fa o pm cd doc dV kV ho hd hcd hD hmg hg args vals as hpre hlay hrd hwl hlo
 obtain rfl:dV = .none:=Dflts.none hD hdf
 obtain rfl:kV = .none:=Dflts.noKw hD
 obtain⟨a,vs,ns,rfl,rfl,hobj,hints,hlen⟩:=wU hn hpre hwl
 refine enter_call (codeAny_mono (call w s₀ s₁ mg mb fa o pm cd doc a vs ns G Y ho (fd_plain hd) hcd hmg hobj hints hlen hg) λr s' hq=>?_)
 obtain⟨rfl,h2,h3,h4⟩:=hq
 exact⟨.inl ⟨.bool true,.bool true,[],rfl,λ_=>rfl,.bool true,wV l _,λ_=>⟨List.Pairwise.nil,λ_ hm=>(nomatch hm)⟩⟩,h2,h3,h4⟩
end Att
namespace L2
open PySem PySem.Spec PyProof.Rows
theorem wW:∀{vs:List Value}{ns:af},IntsAre vs ns->aL (ns.map V.int) vs
 |_,_,.nil=>.nil
 |_,_,.cons n t h=>.cons ⟨t,rfl⟩ (wW h)
def nY (H:Hp):Prop:=∀b,H b=none∨∃o xs,H b=some (.frz o (.lst xs))
theorem Z3 {P:Program}{w:World}{K:ac}{mg mb:Str->Option Value}{CX:fN}{k:Nat}{fa a:Addr}{fd:FuncData}{x:Str}{sp:Sp}{s₁:Shared}{vs:List Value}{ns:af}(KX:K.In s₁.heap)(hns:s₁.heap.Ns mainGlobals mg)(hb:s₁.heap.Ns builtinsNs mb)(hbb:∀x:Str,x≠"__name__"->mb x=bootBuiltins x)(hlim:s₁.heap.NoLimit)(hg:s₁.gens = #[])(ha:s₁.heap.get? a=some { cls:=.type "list",data:=.seq vs.toArray })(hi:IntsAre vs ns)(hl:ns.length<=sizeLine)(hr:bJ k callerA)(F:∀base:Heap,K.In base->base.Ns mainGlobals mg->cR P w K mg base CX k fa fd [x] sp)(hbind:∀(s:Shared) (u:Value),BindsTo s fd ⟨[u],[]⟩ [(x,u)])(hsp:∀H:Hp,nY H->aP K H a (ns.map V.int)->sp [.ref a] H (λv _=>v = .bl true) λ_ _ _=>False)(hCX:∀H e s',CX [] H s₁ (λ_ _ _=>False) e s'->False) :
  codeAny (model P w) callerA (.call (.ref fa) ⟨[.ref a],[]⟩) (λr s'=>r = .ok (.ret (.bool true))/\OldK s₁.heap s'.heap/\s'.os=s₁.os/\AllBare s'.gens) s₁:=by
 have rv:=wW hi
 have lenV:=hi.length
 have core:∀H:Hp,nY H->aP K H a (ns.map V.int)->bF P w H s₁.heap->(∀b,H b≠none->b=a)->(H a≠none->K.lookup a=none)->
   codeAny (model P w) callerA (.call (.ref fa) ⟨[.ref a],[]⟩) (λr s'=>r = .ok (.ret (.bool true))/\OldK s₁.heap s'.heap/\s'.os=s₁.os/\AllBare s'.gens) s₁:=by
  intro H hO hS hok hA hK
  have base_of:∀{b:Addr}{o:Obj},s₁.heap.get? b=some o->H b=none->(hZ s₁.heap H).get? b=some o:=λe n=>O0 e n
  have noA:∀{b:Addr}{o:Obj}{es:Array DictEntry}{ep:Nat},s₁.heap.get? b=some o->o.data = .dict es ep->H b=none:=λ{b o es ep} e d=>by
   cases q:H b with
   |none=>rfl
   |some u=>
    have e':b=a:=hA b (by rw[q];simp)
    subst e'
    rw[ha]at e;cases e
    have d':Data.seq vs.toArray _=Data.dict es ep:=d
    cases d'
  have nsK:∀{b:Addr}{m:Str->Option Value},s₁.heap.Ns b m->(hZ s₁.heap H).Ns b m:=λ{b m} ⟨o,es,ep,e,d,r⟩=>⟨o,es,ep,base_of e (noA e d),d,r⟩
  have hKb:K.In (hZ s₁.heap H):=λb o e=>base_of (KX b o e) (by
   cases q:H b with
   |none=>rfl
   |some u=>
    have e':b=a:=hA b (by rw[q];simp)
    subst e'
    rw[hK (by rw[q];simp)]at e;cases e)
  have hM:Mod K mg (hZ s₁.heap H):=⟨hKb,nsK hns,⟨mb,nsK hb,hbb⟩,let ⟨mc,h1,h2⟩:=hlim;⟨mc,nsK h1,h2⟩⟩
  have e0:nU P w K mg (hZ s₁.heap H) callerA [] s₁ H:=⟨rfl,hM,λb o e=>O1 e,Nat.le_of_eq (N9 _ _),trivial,λb hb=>absurd (show b∈([]:List Addr) from hb) (by simp),hok,.of_eq hg⟩
  refine codeAny_mono ((F _ hKb (nsK hns)).run callerA [] s₁ H ⟨[.ref a],[]⟩ [.ref a] [.ref a] _ _ hr e0 (hbind s₁ (.ref a)) (.cons rfl .nil) (hsp H hO hS)) λr s' h=>?_
  cases r with
  |error e=>exact (hCX H e s' h).elim
  |ok fl=>
   cases fl with
   |next=>exact False.elim h
   |brk=>exact False.elim h
   |cont=>exact False.elim h
   |ret u=>
    obtain⟨v,H',os,bare,un,hok',r',q⟩:=h
    have q':v = .bl true:=q
    subst q'
    obtain rfl:u=Value.bool true:=r'
    refine⟨rfl,OldK.of_keep λb o e=>?_,os,bare⟩
    cases q:H b with
    |none=>exact un.keep b o e q (by intro z;exact absurd (show b∈([]:List Addr) from z) (by simp)) (by simp)
    |some u=>
     rcases hO b with z|⟨ob,xs,z⟩
     ·rw[q]at z;cases z
     ·have z2:=un.frzs b ob _ z
      obtain⟨e1,_⟩:=hok b _ z
      obtain⟨e2,_⟩:=hok' b _ z2
      rw[e]at e1;cases e1
      exact e2
 cases hk:K.lookup a with
 |some o=>
  have e:=KX a o hk
  rw[ha]at e
  cases e
  refine core (λ_=>none) (λ_=>.inl rfl) (.inr ⟨_,vs.toArray,_,hk,rfl,rfl,rfl,by rw[aH3,lenV];exact hl,by simpa using rv⟩) (λb u z=>by have z':(none:Option HO)=some u:=z;cases z') (λb z=>absurd rfl z) λz=>absurd rfl z
 |none=>
  refine core (λb=>if b=a then some (.frz { cls:=.type "list",data:=.seq vs.toArray } (.lst (ns.map V.int))) else none) (λb=>?_) (.inl (.inr ⟨{ cls:=.type "list",data:=.seq vs.toArray },if_pos rfl⟩)) (λb u z=>?_) (λb z=>?_) λ_=>hk
  ·by_cases hb:b=a
   ·exact .inr ⟨_,_,if_pos hb⟩
   ·exact .inl (if_neg hb)
  ·by_cases hb:b=a
   ·have z':=(if_pos hb).symm.trans z
    cases z'
    subst hb
    exact⟨ha,by rw[aJ1];exact hl,vs,_,rv,ha⟩
   ·have z':=(if_neg hb).symm.trans z
    cases z'
  ·by_cases hb:b=a
   ·exact hb
   ·exact absurd (if_neg hb) z
theorem Z4 {l:PySem.W.OpenLaw}{n k:Nat}{q:Program}{loose:List Str}{XP:(Str->Option Value)->Heap->Prop}{YP:World->Heap->Prop}{d:DefRec}{K:Params->ac}{CX:World->fN}{sp:World->Sp}{x:Str}(hn:l.most=some n)(hn2:n<=sizeLine)(hdf:d.params.defaults = [])(hr:bJ k callerA)(hY:∀(w:World) (h:Heap),YP w h->(K w.params).In h)(F:∀(w:World) (mg:Str->Option Value) (fa:Addr) (h:Heap),(K w.params).In h->h.Ns mainGlobals mg->mg d.name=some (.ref fa)->
   ∃fd:FuncData,(∀(s:Shared) (u:Value),BindsTo s fd ⟨[u],[]⟩ [(x,u)])/\
    ∀base:Heap,(K w.params).In base->base.Ns mainGlobals mg->cR l.prog w (K w.params) mg base (CX w) k fa fd [x] (sp w))(hsp:∀(w:World) (H:Hp) (a:Addr) (ns:af),ns.length<=n->nY H->aP (K w.params) H a (ns.map V.int)->sp w [.ref a] H (λv _=>v = .bl true) λ_ _ _=>False)(hCX:∀(w:World) (H:Hp) (s:Shared) (e:Value) (s':Shared),CX w [] H s (λ_ _ _=>False) e s'->False) :
  PySem.W.WalkO q loose XP YP l.row.toRowW d [] (λf vs=>PySem.call f vs):=by
 refine Att.Z2 hn hdf λw s₀ s₁ mg mb fa o pm cd doc a vs ns G Y ho hd hcd hmg hobj hints hlen hg=>?_
 have KX:=hY w _ Y
 obtain⟨fd,hb,hF⟩:=F w mg fa _ KX G.T.g hmg
 exact Z3 KX G.T.g G.T.b G.T.builtins G.T.nolimit hg hobj hints (aO7 hlen hn2) hr hF hb (λH hO hS=>hsp w H a ns hlen hO hS) λH e s'=>hCX w H s₁ e s'
def gF (s:Stmt):Arguments:=match s with
 |.FunctionDef _ a _ _ _ _ _ _ _ _=>a
 |_=>{ posonlyargs:=[],args:=[],vararg:=none,kwonlyargs:=[],kw_defaults:=[],kwarg:=none,defaults:=[] }
def cS (s:Stmt):List Stmt:=match s with
 |.FunctionDef _ _ b _ _ _ _ _ _ _=>b
 |_=>[]
def aU (s:Stmt):Scope:=match s with
 |.FunctionDef _ _ _ _ _ _ sc _ _ _=>sc
 |_=>{ kind:=.function,names:=[],isGenerator:=false,isCoroutine:=false }
abbrev dM:fN:=λ_ _ _ _ _ _=>False
abbrev E0:XK:=λ_ _ _=>False
theorem wX {X:Cx}:jE dM X E0:=λ_ _ _ _ _ _ _ h=>h.elim
structure dD (K:ac)(x qual:Str)(st:Stmt)(f:Addr)(fd:FuncData):Prop where
 ex:∃(oc:Value) (od:Option Addr) (kV doc pm:Value) (an:Option Addr) (cdv ct:Value) (osl:Array (Option Value)),
  fd=PySem.W.fnOf x qual (gF st) (cS st) (aU st) .none kV doc pm an cdv ct/\K.lookup f=some ⟨oc,od,.func fd,osl⟩/\PySem.W.codeIn K cdv qual=true
 kp:PySem.W.keepIn K (.ref f)=true
section
variable {P:Program}{w:World}{K:ac}{mg:Str→Option Value}{base:Heap}
theorem dD.ok {x qual:Str}{st:Stmt}{f:Addr}{fd:FuncData}{N ps:List Str}{k:Nat}{sp:Sp}(F:dD K x qual st f fd)(S:FnScope N ps (aU st))(len:∀vs H Q E,sp vs H Q E->vs.length=ps.length)(hbody:∀(cdv:Value) (A:Around) (outer:List Env) (s:Shared) (H:Hp) (vs:List V) (Q:VK) (E:XK),bJ k (A.deeper (envOfC qual (aU st) s.heap.objs.size f cdv))->sp vs H Q E->
   ∃t,cN (bX dM P w K mg base N qual (aU st) f cdv A outer s H E).nox (cS st) t/\t { nx:=λ_ H'=>Q .non H',rt:=Q } (eF N vs) H):cR P w K mg base dM (k+1) f fd ps sp:=by
 obtain⟨oc,od,kV,doc,pm,an,cdv,ct,osl,rfl,lk,hcd⟩:=F.ex
 refine vX lk hcd S len λA outer s H vs Q E hr hsp=>?_
 obtain⟨t,h,q⟩:=hbody cdv A outer s H vs Q E hr hsp
 exact⟨t,h.nox,q⟩
theorem dD.binds {x qual:Str}{st:Stmt}{f:Addr}{fd:FuncData}{ps:List Str}(F:dD K x qual st f fd)(h:∀(kV doc pm:Value) (an:Option Addr) (cdv ct:Value) (us:List Value),us.length=ps.length->bindArgs (PySem.W.fnOf x qual (gF st) (cS st) (aU st) .none kV doc pm an cdv ct) ⟨us,[]⟩=pure (ps.zip us)):i5 K fd ps []:=by
 obtain⟨oc,od,kV,doc,pm,an,cdv,ct,osl,rfl,lk,hcd⟩:=F.ex
 exact .all (h kV doc pm an cdv ct)
theorem Z5 {x qual:Str}{st:Stmt}{f:Addr}{oc:Value}{od an:Option Addr}{osl:Array (Option Value)}{kV doc pm cdv ct:Value}(l:K.lookup f=some ⟨oc,od,.func (PySem.W.fnOf x qual (gF st) (cS st) (aU st) .none kV doc pm an cdv ct),osl⟩)(c:PySem.W.codeIn K cdv qual=true)(k:PySem.W.keepIn K (.ref f)=true):dD K x qual st f (PySem.W.fnOf x qual (gF st) (cS st) (aU st) .none kV doc pm an cdv ct):=⟨⟨oc,od,kV,doc,pm,an,cdv,ct,osl,rfl,l,c⟩,k⟩
end
theorem wY {A:Around}{k:Nat}(hr:bJ k A):A.units+1<cLine:=Nat.lt_of_le_of_lt (Nat.add_le_add_left (by decide:1<=64) _) hr.units
theorem wZ {n:Nat}(h:n<=1000):n<sizeLine:=Nat.lt_of_le_of_lt h (by decide)
section
variable {X:Cx}
theorem Z6:cG X (.builtin "len") (λxs H Q=>∃a kvs,xs = [V.ref a]/\H a=some (.dK kvs)/\Q (.int kvs.length) H):=by
 intro pins s σ H xs us Q I r h
 obtain⟨a,kvs,rfl,ha,q⟩:=h
 obtain⟨u,rfl,ru⟩:=gT r
 cases ru
 exact Y7 I (.inl ha) λt s' I'=>⟨.int kvs.length,H,I',⟨t,rfl⟩,q⟩
end
theorem aV {A B:Prop}(h:B):if false=true then A else B:=by
 rw[if_neg aJ0]
 exact h
theorem b9 {A B:Prop}(h:A):if true=true then A else B:=by
 rw[if_pos rfl]
 exact h
def aH (H H':Hp):Prop:=∀b o,H b=some o->H' b=some o
theorem aH.refl (H:Hp):aH H H:=λ_ _ h=>h
theorem aH.trans {H H1 H2:Hp}(a:aH H H1)(b:aH H1 H2):aH H H2:=λc o h=>b c o (a c o h)
theorem aH.free {H H':Hp}(e:aH H H'){l:Addr}(h:H' l=Option.none):H l=Option.none:=by
 cases q:H l with
 |none=>rfl
 |some o=>
  rw[e l o q]at h
  cases h
def cW (cells:List (Str×Addr)):List (Str×NameKind)->List (Str×Addr)->List (Str×Addr)
 |[],cs=>cs
 |(n,k)::r,cs=>cW cells r (if k==.free then (n,(cells.lookup n).getD 0)::cs else cs)
theorem rJ {env:Env}:∀(ns:List (Str×NameKind)) (cs:List (Str×Addr)),(∀x∈ns,x.2 = .free->∃c,env.cells.lookup x.1=some c)->
  (forIn ns cs (λ(x:Str×NameKind) r=>(match x with
   |(name,kind)=>if (kind==.free)=true then (do let y <- cellOf env name;pure (ForInStep.yield ((name,y)::r))) else pure (ForInStep.yield r)):_->_->Sem _))=(pure (cW env.cells ns cs):Sem (List (Str×Addr)))
 |[],cs,_=>by rw[List.forIn_nil];rfl
 |(n,k)::r,cs,h=>by
  rw[List.forIn_cons]
  have hr:∀x∈r,x.2 = .free->∃c,env.cells.lookup x.1=some c:=λx hx=>h x (aJ2 _ hx)
  cases hk:(k==NameKind.free) with
  |true=>
   have e:k = .free:=by simpa using hk
   obtain⟨c,hc⟩:=h (n,k) aJ9 e
   simp only[hk,if_true]
   have e1:cellOf env n=pure c:=by unfold cellOf;rw[hc]
   rw[e1]
   show ((pure c >>= λy=>pure (ForInStep.yield ((n,y)::cs))) >>= _:Sem _)=_
   rw[pure_bind,pure_bind]
   have:=rJ (env:=env) r ((n,c)::cs) hr
   refine this.trans ?_
   unfold cW
   simp only[hk,if_true,hc,Option.getD_some]
   cases r<;>rfl
  |false=>
   simp only[hk,aK7,aP4]
   rw[pure_bind]
   have:=rJ (env:=env) r cs hr
   refine this.trans ?_
   conv=>rhs;unfold cW
   simp only[hk,aK7,aP4]
theorem x5 {scope:Scope}{env:Env}(h:∀x∈scope.names,x.2 = .free->∃c,env.cells.lookup x.1=some c):closureFor scope env=pure (cW env.cells scope.names []):=by
 have e:=rJ (env:=env) scope.names [] h
 unfold closureFor
 rw[show (pure (cW env.cells scope.names []):Sem (List (Str×Addr)))=(pure (cW env.cells scope.names []) >>= pure) by rw[pure_bind]]
 rw[<- e]
theorem lZ {cells:List (Str×Addr)}:∀(ns:List (Str×NameKind)) (cs:List (Str×Addr)) {x:Str}{c:Addr},(∀y∈ns,y.2 = .free->∃c,cells.lookup y.1=some c)->
  (∀x c,cs.lookup x=some c->cells.lookup x=some c)->(cW cells ns cs).lookup x=some c->cells.lookup x=some c
 |[],cs,x,c,_,hc,h=>hc x c h
 |(n,k)::r,cs,x,c,hn,hc,h=>by
  unfold cW at h
  have hr:∀y∈r,y.2 = .free->∃c,cells.lookup y.1=some c:=λy hy=>hn y (aJ2 _ hy)
  cases hk:(k==NameKind.free) with
  |false=>
   simp only[hk,aK7,aP4]at h
   exact lZ r cs hr hc h
  |true=>
   simp only[hk,if_true]at h
   refine lZ r _ hr (λy d e=>?_) h
   obtain⟨c0,h0⟩:=hn (n,k) aJ9 (by simpa using hk)
   have h0:cells.lookup n=some c0:=h0
   rw[h0]at e
   rw[aO5]at e
   by_cases hyn:y=n
   ·subst hyn
    simp only[aQ4,Option.getD_some]at e
    rw[h0];exact e
   ·have:(y==n)=false:=beq_eq_false_iff_ne.mpr hyn
    simp only[this]at e
    exact hc y d e
theorem rK {cells:List (Str×Addr)}:∀(ns:List (Str×NameKind)) (cs:List (Str×Addr)) {x:Str},((x,NameKind.free)∈ns∨∃c,cs.lookup x=some c)->∃c,(cW cells ns cs).lookup x=some c
 |[],cs,x,h=>by
  rcases h with h|h
  ·simp at h
  ·exact h
 |(n,k)::r,cs,x,h=>by
  unfold cW
  refine rK r _ ?_
  rcases h with h|⟨c,h⟩
  ·rcases aH4.mp h with e|e
   ·cases e
    exact .inr ⟨_,by simp[aO5];rfl⟩
   ·exact .inl e
  ·right
   cases hk:(k==NameKind.free) with
   |false=>exact⟨c,by simpa[hk] using h⟩
   |true=>
    simp only[if_true]
    rw[aO5]
    by_cases hxn:(x==n)=true
    ·simp only[hxn];exact⟨_,rfl⟩
    ·simp only[aS8.mpr hxn];exact⟨c,h⟩
theorem nZ {env:Env}:∀{names:List (Str×NameKind)}{x:Str}{k:NameKind},(names.map λ(n,k)=>if (k==NameKind.free&&env.scope.kind==.function&&env.kindOf n==some .cell) then (n,NameKind.cell) else (n,k)).lookup x=some k->
  names.lookup x=some k∨(names.lookup x=some .free/\k = .cell)
 |[],_,_,h=>by simp at h
 |(n,q)::r,x,k,h=>by
  have ih:=@nZ env r x k
  rw[aM4]at h
  by_cases hx:(x==n)=true
  ·have e:x=n:=by simpa using hx
   subst e
   by_cases hc:(q==NameKind.free&&env.scope.kind==.function&&env.kindOf x==some .cell)=true
   ·simp only[hc,if_true,aO5,aQ4]at h
    have hq:q = .free:=by simp at hc;exact hc.1.1
    exact .inr ⟨by simp[aO5,hq],(aL6 h).symm⟩
   ·simp only[hc,aK7,aP4,aO5,aQ4]at h
    exact .inl (by simp[aO5];exact aL6 h)
  ·have hx':(x==n)=false:=aS8.mpr hx
   have h':(r.map λ(n,k)=>if (k==NameKind.free&&env.scope.kind==.function&&env.kindOf n==some .cell) then (n,NameKind.cell) else (n,k)).lookup x=some k:=by
    by_cases hc:(q==NameKind.free&&env.scope.kind==.function&&env.kindOf n==some .cell)=true
    ·simp only[hc,if_true,aO5,hx']at h;exact h
    ·simp only[hc,aK7,aP4,aO5,hx']at h;exact h
   simp only[aO5,hx']
   exact ih h'
def cX (fr:List (Option Nat))(σ:St):St:=fr.map λo=>o.bind λj=>(σ[j]?).join
def Wk (σ₁ σ₂:St):Prop:=σ₁.length=σ₂.length/\∀(i:Nat) v,σ₁[i]? = some (some v)->σ₂[i]? = some (some v)
theorem i7:∀(ns:List (Str×NameKind)) (n:Nat) (cs:List (Str×Addr)),cellsFrom n ns cs=cellsFrom n ns []++cs
 |[],_,_=>rfl
 |(x,k)::r,n,cs=>by
  unfold cellsFrom
  split
  ·rw[i7 r (n+1) ((x,n)::cs),i7 r (n+1) [(x,n)]];simp
  ·exact i7 r n cs
theorem rL:∀(ns:List (Str×NameKind)) (n:Nat) {x:Str}{c:Addr},(x,c)∈cellsFrom n ns []->(x,NameKind.cell)∈ns
 |[],_,_,_,h=>by simp[cellsFrom]at h
 |(y,k)::r,n,x,c,h=>by
  unfold cellsFrom at h
  split at h
  ·rename_i hk
   rw[i7]at h
   rcases aN2.mp h with z|z
   ·exact aJ2 _ (rL r _ z)
   ·rw[aI3]at z
    cases z
    have:k = .cell:=by simpa using hk
    rw[this];exact aJ9
  ·exact aJ2 _ (rL r _ h)
theorem o0:∀(ns:List (Str×NameKind)) (n:Nat) {x:Str},(x,NameKind.cell)∈ns->∃c,(x,c)∈cellsFrom n ns []
 |(y,k)::r,n,x,h=>by
  unfold cellsFrom
  rcases aH4.mp h with z|z
  ·cases z
   rw[if_pos (by rfl),i7]
   exact⟨n,aK9 _ (by simp)⟩
  ·split
   ·obtain⟨c,hc⟩:=o0 r (n+1) z
    rw[i7]
    exact⟨c,aX1 _ hc⟩
   ·exact o0 r n z
theorem rM {α:Type}:∀{l:List (Str×α)}{x:Str}{c:α},(x,c)∈l->∃d,l.lookup x=some d
 |(y,v)::r,x,c,h=>by
  rw[aO5]
  cases hb:x==y with
  |true=>exact⟨v,rfl⟩
  |false=>
   rcases aH4.mp h with z|z
   ·cases z;simp at hb
   ·exact rM z
theorem o4 {α:Type}{x:Str}:∀(l r:List (Str×α)),(l++r).lookup x=(match l.lookup x with|some v=>some v|none=>r.lookup x)
 |[],_=>rfl
 |(y,v)::l,r=>by
  rw[List.cons_append,aO5,aO5]
  cases hb:x==y with
  |true=>rfl
  |false=>exact o4 l r
def cY (X:Cx)(scope:Scope)(C:Addr):List (Str×Addr):=cellsFrom (C+1) scope.names (cW X.env.cells scope.names [])
theorem iT {X:Cx}{scope:Scope}{C:Addr}{x:Str}{c:Addr}(h:(cY X scope C).lookup x=some c) :
  (x,c)∈cellsFrom (C+1) scope.names []∨((∀d,(x,d)∉cellsFrom (C+1) scope.names [])/\(cW X.env.cells scope.names []).lookup x=some c):=by
 unfold cY at h
 rw[i7,o4]at h
 cases e:(cellsFrom (C+1) scope.names []).lookup x with
 |some v=>rw[e]at h;cases h;exact .inl (aN3 e)
 |none=>
  rw[e]at h
  refine .inr ⟨λd hd=>?_,h⟩
  obtain⟨d',z⟩:=rM hd
  rw[e]at z;cases z
theorem Z7 {X:Cx}{scope:Scope}{C:Addr}{x:Str}{c:Addr}(hn:(x,NameKind.cell)∉scope.names)(h:(cW X.env.cells scope.names []).lookup x=some c):(cY X scope C).lookup x=some c:=by
 unfold cY
 rw[i7,o4]
 cases e:(cellsFrom (C+1) scope.names []).lookup x with
 |some v=>exact absurd (rL _ _ (aN3 e)) hn
 |none=>exact h
theorem x6 {X:Cx}{scope:Scope}{C:Addr}{x:Str}(h:(x,NameKind.cell)∈scope.names∨∃c,(cW X.env.cells scope.names []).lookup x=some c):∃c,(cY X scope C).lookup x=some c:=by
 unfold cY
 rw[i7,o4]
 cases e:(cellsFrom (C+1) scope.names []).lookup x with
 |some v=>exact⟨v,rfl⟩
 |none=>
  rcases h with h|h
  ·obtain⟨c,hc⟩:=o0 scope.names (C+1) h
   obtain⟨d,hd⟩:=rM hc
   rw[e]at hd;cases hd
  ·exact h
def bY (X:Cx)(scope:Scope)(N:List Str)(s:Shared)(H:Hp)(C:Addr)(fp:List Addr)(E:Value->Shared->Prop):Cx:=
 { X with N:=N,s₀:=s,H₀:=H,env:=compEnvC scope (cY X scope C) C X.env,outer:=X.stack,ex:=fp,fn:=λx=>scope.names.lookup x==some .cell,pn:=[],xe:=E }
structure eW (X:Cx)(scope:Scope)(N:List Str)(fr:List (Option Nat)):Prop where
 kind:scope.kind = .function
 own:∀y∈scope.names,y.2 = .cell->scope.names.lookup y.1=some .cell
 names:∀y∈scope.names,y.2 = .local->scope.names.lookup y.1=some .local
 free:∀y∈scope.names,y.2 = .free->X.env.scope.names.lookup y.1=some .cell∨X.env.scope.names.lookup y.1=some .free
 len:fr.length=N.length
 from_:∀(i j:Nat),fr[i]? = some (some j)->∃x,N[i]? = some x/\X.N[j]? = some x/\scope.names.lookup x=some .free
section
variable {X:Cx}{pins:List (Addr×Obj)}{σ:St}{H:Hp}{s:Shared}{scope:Scope}{N:List Str}{fr:List (Option Nat)}
theorem eW.cells (S:eW X scope N fr)(I:a6 X pins σ H s):∀y∈scope.names,y.2 = .free->∃c,X.env.cells.lookup y.1=some c:=λy hy hk=>I.ok.has y.1 (S.free y hy hk)
theorem x8 {C D:Addr}{fp:List Addr}{E:Value->Shared->Prop}{h1:Heap}{tk:Nat}{m:Str->Option Value}(S:eW X scope N fr)(I:a6 X pins σ H s)(hf:∀b∈fp,dC X pins H b)(hfl:∀b∈fp,b<s.heap.objs.size)(hD:s.heap.objs.size<=D)(hC:s.heap.objs.size<=C)(hDC:D<C)(old:∀b o,s.heap.get? b=some o->h1.get? b=some o)(hns:h1.Ns C m)(hacc:h1.get? D=some { cls:=.type "list",data:=.seq #[] 0 })(hco:CellsOk h1 (C+1) (cellsFrom (C+1) scope.names [])) :
  a6 (bY X scope N s H C fp E) [] (cX fr σ) (upd H D (.lst [])) { s with heap:=h1,toks:=tk }:=by
 have hHD:H D=none:=I.hok.fresh hD
 have cl:=S.cells I
 have cs:∀{x:Str}{c:Addr},(cW X.env.cells scope.names []).lookup x=some c->X.env.cells.lookup x=some c:=λ{x c} h=>lZ scope.names [] cl (λ_ _ z=>by simp at z) h
 have clt:∀{x:Str}{c:Addr},X.env.cells.lookup x=some c->c<s.heap.objs.size:=λ{x c} h=>by obtain⟨v,z⟩:=I.cell x c h;exact z.lt
 have nge:∀{x:Str}{c:Addr},(x,c)∈cellsFrom (C+1) scope.names []->C<c:=λ{x c} h=>(hco.empty x c h).2
 refine⟨⟨I.ok.mod,?_,I.ok.glob,I.ok.blt,hC,?_,?_,?_,I.ok.hd,I.ok.frames,.inl rfl,?_,I.bs,aO7 I.ok.bsz I.sz,?_,?_,I.stack,I.stkFree⟩,rfl,I.bare,Un.laid old hD hHD,⟨m,hns,?_⟩,?_,?_,?_,λp hp=>absurd (show p∈([]:List (Addr×Obj)) from hp) (by simp),?_,?_⟩
 ·exact S.kind
 ·intro x y c h1 h2
  rcases iT h1 with a|⟨_,a⟩<;>rcases iT h2 with b|⟨_,b⟩
  ·exact name_of_addr hco.apart a b
  ·exact absurd (aI5 (Nat.lt_trans (nge a) (clt (cs b))) hC) (aN1 _)
  ·exact absurd (aI5 (Nat.lt_trans (nge b) (clt (cs a))) hC) (aN1 _)
  ·exact I.ok.inj x y c (cs a) (cs b)
 ·intro x hx
  have hx:(relabel scope X.env).names.lookup x=some .cell∨(relabel scope X.env).names.lookup x=some .free:=hx
  have fin:(x,NameKind.free)∈scope.names->∃c,(cY X scope C).lookup x=some c:=λz=>x6 (.inr (rK scope.names [] (.inl z)))
  rcases hx with hx|hx
  ·rcases nZ hx with z|z
   ·exact x6 (.inl (aN3 z))
   ·exact fin (aN3 z.1)
  ·rcases nZ hx with z|z
   ·exact fin (aN3 z)
   ·exact absurd z.2 (by decide)
 ·intro x c hx h
  have hx:(scope.names.lookup x==some NameKind.cell)=true:=hx
  have hx:scope.names.lookup x=some .cell:=by simpa using hx
  rcases iT h with a|⟨a,_⟩
  ·exact aO7 hC (aS6 (nge a))
  ·obtain⟨d,hd⟩:=o0 scope.names (C+1) (aN3 hx)
   exact absurd hd (a d)
 ·intro b hb
  refine⟨aL5 (aI5 (hfl b hb) hC),λx c e=>?_⟩
  rcases iT e with a|⟨_,a⟩
  ·exact aR7 (Nat.lt_trans (aI5 (hfl b hb) hC) (nge a))
  ·exact (hf b hb).2.2.2.2.1 x c (cs a)
 ·intro b o e hb
  rcases (hf b hb).2.2.2.1 with z|z
  ·exact I.ok.noex b o e z
  ·exact absurd (aI5 (aI1 e) (aO7 I.ok.bsz z)) (aN1 _)
 ·intro b hb z
  rcases aH4.mp (I.stkSub b z) with e|e
  ·exact (hf b hb).2.1 e
  ·exact (hf b hb).2.2.1 e
 ·intro i x v e1 e2 e3
  have e2:(fr.map λo=>o.bind λj=>(σ[j]?).join)[i]? = some (some v):=e2
  rw[aL2]at e2
  cases ef:fr[i]? with
  |none=>rw[ef]at e2;cases e2
  |some o=>
   rw[ef]at e2
   cases o with
   |none=>cases e2
   |some j=>
    have e2:some ((σ[j]?).join)=some (some v):=e2
    have ej:σ[j]? = some (some v):=by
     cases q:σ[j]? with
     |none=>rw[q]at e2;cases e2
     |some w=>rw[q]at e2;cases w with
      |none=>cases e2
      |some w=>cases e2;rfl
    obtain⟨y,a1,a2,a4⟩:=S.from_ i j ef
    have e1:N[i]? = some x:=e1
    rw[e1]at a1
    cases a1
    have a3:(x,NameKind.free)∈scope.names:=aN3 a4
    have vis:eV X.env.scope x:=(S.free _ a3 rfl).elim (λz=>.inr (.inl z)) λz=>.inr (.inr z)
    obtain⟨m0,hn0,hl0⟩:=I.loc
    obtain⟨u,r,l⟩:=hl0 j x v a2 ej vis
    refine⟨u,r,.inr ⟨?_,?_⟩⟩
    ·have e3:(relabel scope X.env).names.lookup x=some .local∨(relabel scope X.env).names.lookup x=some .cell∨(relabel scope X.env).names.lookup x=some .free:=e3
     rcases e3 with z|z|z
     ·rcases nZ z with y|y
      ·rw[a4]at y;cases y
      ·exact absurd y.2 (by decide)
     ·exact .inl z
     ·exact .inr z
    ·obtain⟨c,hc⟩:=rK (cells:=X.env.cells) scope.names [] (x:=x) (.inl a3)
     refine⟨c,Z7 (λz=>by have:=S.own _ z rfl;rw[a4]at this;cases this) hc,?_⟩
     have hc':=cs hc
     have S1:=S.free (x,.free) a3 rfl
     rcases l with⟨k,_⟩|⟨_,c2,hc2,z⟩
     ·have k:X.env.scope.names.lookup x=some .local:=k
      rcases S1 with q|q<;>(have q:X.env.scope.names.lookup x=_:=q;rw[k]at q;cases q)
     ·rw[hc']at hc2;cases hc2
      obtain⟨oc,ho,hd⟩:=z
      exact⟨oc,old c oc ho,hd⟩
 ·intro x c e
  rcases iT e with a|⟨_,a⟩
  ·exact⟨_,(hco.empty x c a).1⟩
  ·obtain⟨v,oc,ho,hd⟩:=I.cell x c (cs a)
   exact⟨v,oc,old c oc ho,hd⟩
 ·show upd H D (.lst []) C=none
  rw[aJ (aR7 hDC)];exact I.hok.fresh hC
 ·intro x c e
  show upd H D (.lst []) c=none
  rcases iT e with a|⟨_,a⟩
  ·rw[aJ (aR7 (Nat.lt_trans hDC (nge a)))];exact I.hok.fresh (aO7 hC (aS6 (nge a)))
  ·have q:=cs a
   rw[aJ (aL5 (aI5 (clt q) hD))]
   exact I.freeC x c q
 ·exact I.hok.laid old hD ⟨aN4 _,[],0,.nil,hacc⟩
 ·show (cX fr σ).length=N.length
  unfold cX;rw[aJ1];exact S.len
end
def jG (X:Cx)(ifs:List Expr)(t:TT):Prop:=
 ∀(pins:List (Addr×Obj)) (s:Shared) (σ:St) (H:Hp) (Q:Bool->Hp->Prop),a6 X pins σ H s->t σ H Q->
  wpAny (model X.prog X.w) X.A (forIn ifs true λc r=>if r=true then do let ok <- isTrue c X.env (eval c X.env);pure (ForInStep.yield ok) else pure (ForInStep.yield r)) (TP X pins σ Q) X.xe s
def x9:TT:=λ_ H Q=>Q true H
theorem Z8 {X:Cx}:jG X [] x9:=λ_ _ _ H _ I h=>wpAny_tests_nil ⟨H,I,h⟩
section
variable {prog:Program}{w:World}{A:Around}
def o7 (prog:Program)(w:World)(A:Around)(elt tg:Expr)(ifs:List Expr)(it acc:Value)(env:Env)(lost:Value->Shared->Prop)(stop next:Shared->Prop)(s:Shared):Prop:=
 let M:=model prog w
 let tests:Sem Bool:=forIn ifs true λc r=>if r=true then do let ok <- isTrue c env (eval c env);pure (ForInStep.yield ok) else pure (ForInStep.yield r)
 let put:Shared->Prop:=wpAny M A (eval elt env) (λx=>wpAny M A (call (.builtin "list.append") [acc,x]) (λ_=>next) lost) lost
 let taken:Value->Shared->Prop:=λv=>wpAny M A (letOwnedTupleGo tg it v) (λ_=>wpAny M A (assign tg env v) (λ_=>wpAny M A tests (λok s'=>if ok=true then put s' else next s') lost) lost) lost
 wpAny M A (pyNext it) (λr s'=>match r with
  |none=>stop s'
  |some v=>taken v s') lost s
theorem xA {R:Result->Shared->Prop}{s:Shared}{elt tg iter:Expr}{ifs:List Expr}{scope:Scope}{pos:Pos}{it acc:Value}{env:Env}(I:Nat->Shared->Prop)(turn:∀n s,I n s->o7 prog w A elt tg ifs it acc env (notedBy (model prog w) A env λe=>R (.error e)) (R (.ok .next)) (λs'=>∃m,m<n/\I m s') s)(n:Nat)(h:I n s) :
  codeAny (model prog w) A (.compLoop (.ListComp elt [⟨tg,iter,ifs,0⟩] scope pos) 0 it acc env) R s:=by
 apply codeAny_loop rfl I _ n h
 intro k s1 h1
 change wpAny _ A ((compTurn _ 0 it acc env).onRaise (λx=>do noteFrame x env;theTreesLotGoes x)) _ _ s1
 apply wpAny_noted
 rw[compTurn_list]
 have t:=turn k s1 h1
 unfold o7 at t
 apply aH1
 apply wpAny_standAt
 apply aH1
 refine aO8 t (λr s2 h2=>?_) λ_ _ z=>z
 cases r with
 |none=>exact aH9 h2
 |some v=>
  apply aH1
  refine aO8 h2 (λ_ s3 h3=>?_) λ_ _ z=>z
  apply aH1
  refine aO8 h3 (λ_ s4 h4=>?_) λ_ _ z=>z
  apply aH1
  refine aO8 h4 (λok s5 h5=>?_) λ_ _ z=>z
  cases ok with
  |false=>exact aH9 ⟨rfl,h5⟩
  |true=>
   apply aH1
   apply aH1
   refine aO8 h5 (λx s6 h6=>?_) λ_ _ z=>z
   apply aH1
   exact aO8 h6 (λ_ s7 h7=>aH9 (aH9 ⟨rfl,h7⟩)) λ_ _ z=>z
end
def o8 (g:TG)(tc:TT)(te:TE)(σ0:St)(J:It)(D:Addr)(Q:VK)(W:Nat->Nat->List V->Hp->Prop):Prop:=
 ∀i m acc H',W i m acc H'->H' D=some (.lst acc)/\((J.stop i H'/\Q (.ref D) H')∨(J.go i H'/\∀x H2,J.yld i H' x H2->g x σ0 H2 λσ2 H3=>Wk σ0 σ2/\tc σ2 H3 λb H4=>
  if b=true then te σ2 H4 λv H5=>H5 D=some (.lst acc)/\acc.length<sizeLine/\∃m',m'<m/\W (i+1) m' (acc++[v]) (upd H5 D (.lst (acc++[v]))) else ∃m',m'<m/\W (i+1) m' acc H4))
section
variable {M:Model}{A:Around}{E:Value→Shared→Prop}{s:Shared}
theorem xB {scope:Scope}{globals:Addr}{cl:List (Str×Addr)}{qual:Str}{func:Option Addr}{code:Value}{builtins:Addr}{outer:Env}{Q:Env->Shared->Prop}(hQ:∀h',h'.Ns s.heap.objs.size (λ_=>none)->(∀b o,s.heap.get? b=some o->h'.get? b=some o)->CellsOk h' (s.heap.objs.size+1) (cellsFrom (s.heap.objs.size+1) scope.names [])->
   Q (newEnv scope s.heap.objs.size globals (cellsFrom (s.heap.objs.size+1) scope.names cl) qual func code (some outer) builtins) { s with heap:=h' }) :
  wpAny M A (newFunctionEnv scope globals cl [] qual func code (some outer) builtins) Q E s:=by
 simp only[newFunctionEnv,Option.isSome_some,if_true]
 refine aH1 (wpAny_alloc ?_)
 refine aH1 (wpAny_layCells _ (λname kind cells=>by cases hkc:kind==NameKind.cell<;>simp[hkc]) _ _ _ _ ?_)
 have ok:=cellsFrom_ok scope.names (s.heap.push { cls:=.type "dict",data:=.dict #[] }) (s.heap.objs.size+1) [] ⟨λ_ _ hm=>(nomatch hm),List.Pairwise.nil⟩ (by rw[aQ8];exact aH7 _)
 rw[aQ8]at ok
 rw[show ({ s with heap:=s.heap.push { cls:=.type "dict",data:=.dict #[] } }:Shared).heap.objs.size=s.heap.objs.size+1 from aQ8 ..]
 rw[List.forIn_nil]
 refine aH1 (aH9 (aH9 (hQ _ ((Heap.Ns.new s.heap (.type "dict")).keeps (pushCells_keeps _ _)) (λb o e=>pushCells_keeps _ _ b o (aH2 _ e)) ok)))
end
section
variable {X:Cx}{pins:List (Addr×Obj)}{σ:St}{H:Hp}{s:Shared}{scope:Scope}{N:List Str}{fr:List (Option Nat)}{tg iter elt:Expr}{ifs:List Expr}{pos:Pos}{wi:TI}{g:TG}{tc:TT}{te:TE}
structure rN (X:Cx)(scope:Scope)(N:List Str)(tg:Expr)(ifs:List Expr)(elt:Expr)(s:Shared)(H:Hp)(g:TG)(tc:TT)(te:TE):Prop where
 tg:∀(C:Addr) (fp:List Addr),PG (bY X scope N s H C fp λ_ _=>False) tg g
 ifs:∀(C:Addr) (fp:List Addr),jG (bY X scope N s H C fp λ_ _=>False) ifs tc
 elt:∀(C:Addr) (fp:List Addr),PE (bY X scope N s H C fp λ_ _=>False) elt te
theorem rO {C:Addr}{fp:List Addr}{E:Value->Shared->Prop}{pins':List (Addr×Obj)}{σ':St}{H':Hp}{s':Shared}(I:a6 X pins σ H s)(hf:∀b∈fp,dC X pins H b)(I':a6 (bY X scope N s H C fp E) pins' σ' H' s'):a6 X pins σ H' s':=
 I.call' (ch:=fp) I'.os I'.base I'.hok I'.bare λb hb=>⟨(hf b hb).2.2.2.1,(hf b hb).2.1,(hf b hb).2.2.2.2.1,(hf b hb).2.2.2.2.2⟩
theorem Z9 {Rr:Value->Addr->Result->Shared->Prop}{J:It}{fp:List Addr}{it:Addr}{tn:Nat->Heap->Prop}{Q:VK}(hc:X.calm=true)(S:eW X scope N fr)(B:rN X scope N tg ifs elt s H g tc te)(I:a6 X pins σ H s)(T:gA X.prog X.w X.K tg J fp it tn)(hst:tn 0 s.heap)(hf:∀b∈fp,dC X pins H b)(h:∀D,H D=none->∃W:Nat->Nat->List V->Hp->Prop,(∃m,W 0 m [] (upd H D (.lst [])))/\o8 g tc te (cX fr σ) J D Q W)(hend:∀(D C:Addr) (s':Shared) (H':Hp) (m:Str->Option Value),s.heap.objs.size<=C->s.heap.objs.size<=D->a6 X pins σ H' s'->s'.heap.Ns C m->H' C=none->Q (.ref D) H'->Rr (.ref D) C (.ok .next) s') :
  wpAny (model X.prog X.w) X.A (newList []) (λacc s₃=>wpAny (model X.prog X.w) X.A (newFunctionEnv scope X.env.globals (cW X.env.cells scope.names []) [] X.env.qual none .none (some X.env)) (λcenv s₄=>
   codeAny (model X.prog X.w) X.A (.compStart (.ListComp elt [⟨tg,iter,ifs,0⟩] scope pos) 0 (.ref it) acc { cenv with scope:=relabel scope X.env }) (Rr acc cenv.locals) s₄) X.xe s₃) X.xe s:=by
 refine aP7 (xB (λh₁ hns₁ keep₁ hco₁=>?_))
 dsimp only at hns₁ keep₁ hco₁ ⊢
 generalize hH2:s.heap.push { cls:=.type "list",dict:=none,data:=.seq ([]:List Value).toArray }=H2 at hns₁ keep₁ hco₁ ⊢
 have hC:H2.objs.size=s.heap.objs.size+1:=by rw[<- hH2,aQ8]
 have hDC:s.heap.objs.size<H2.objs.size:=by rw[hC];exact Nat.lt_succ_self _
 have hCle:s.heap.objs.size<=H2.objs.size:=by rw[hC];exact Nat.le_succ _
 have old:∀b o,s.heap.get? b=some o->h₁.get? b=some o:=λb o e=>keep₁ b o (hH2▸aH2 _ e)
 have hacc:h₁.get? s.heap.objs.size=some { cls:=.type "list",data:=.seq #[] 0 }:=keep₁ _ _ (hH2▸aJ3 _ rfl)
 have hfl:∀b∈fp,b<s.heap.objs.size:=λb hb=>by obtain⟨o,e,_⟩:=T.obj _ _ hst b hb;exact aI1 e
 obtain⟨W,⟨m0,w0⟩,turn⟩:=h s.heap.objs.size (I.hok.fresh (aH7 _))
 have st1:tn 0 h₁:=T.keep _ _ _ hst λb _ o e=>old b o e
 have fr0:∀b∈fp,upd H s.heap.objs.size (.lst []) b=none:=λb hb=>by rw[aJ (aL5 (hfl b hb))];exact (hf b hb).1
 have stat:∀{H':Hp},(∀b∈fp,H' b=none)->∀b∈fp,dC (bY X scope N s H H2.objs.size fp λ_ _=>False) [] H' b:=λ{H'} hn b hb=>by
  have f:=hf b hb
  refine⟨hn b hb,aL5 (aI5 (hfl b hb) hCle),λz=>?_,.inl hb,λx c e=>(iT e).elim (λz=>aR7 (Nat.lt_trans (aI5 (hfl b hb) hCle) (hco₁.empty x c z).2)) λz=>f.2.2.2.2.1 x c (lZ scope.names [] (S.cells I) (λ_ _ z=>by simp at z) z.2),λp hp=>absurd (show p∈([]:List (Addr×Obj)) from hp) (by simp)⟩
  rcases aH4.mp (I.stkSub b z) with e|e
  ·exact f.2.1 e
  ·exact f.2.2.1 e
 generalize hX:bY X scope N s H H2.objs.size fp (λ_ _=>False)=Y at stat
 have I0:a6 Y [] (cX fr σ) (upd H s.heap.objs.size (.lst [])) { s with heap:=h₁ }:=hX▸x8 S I hf hfl (aH7 _) hCle hDC old hns₁ hacc hco₁
 have bt:PG Y tg g:=hX▸B.tg H2.objs.size fp
 have bi:jG Y ifs tc:=hX▸B.ifs H2.objs.size fp
 have be:PE Y elt te:=hX▸B.elt H2.objs.size fp
 have eP:Y.prog=X.prog:=by rw[<- hX];rfl
 have ew:Y.w=X.w:=by rw[<- hX];rfl
 have eK:Y.K=X.K:=by rw[<- hX];rfl
 have eA:Y.A=X.A:=by rw[<- hX];rfl
 have eE:Y.env=compEnvC scope (cY X scope H2.objs.size) H2.objs.size X.env:=by rw[<- hX];rfl
 have eX:Y.xe=λ_ _=>False:=by rw[<- hX];rfl
 have ec:Y.calm=true:=by rw[<- hX];exact hc
 have never:∀{E:Value->Shared->Prop} (e:Value) (s':Shared),Y.xe e s'->E e s':=λ{E} e s' z=>by rw[eX]at z;exact z.elim
 have out:∀{pins' σ' H' s'},a6 Y pins' σ' H' s'->a6 X pins σ H' s':=λ{_ _ _ _} I'=>rO (C:=H2.objs.size) (E:=λ_ _=>False) (scope:=scope) (N:=N) I hf (hX▸I')
 have loop:codeAny (model X.prog X.w) X.A (.compLoop (.ListComp elt [⟨tg,iter,ifs,0⟩] scope pos) 0 (.ref it) (.ref s.heap.objs.size) (compEnvC scope (cY X scope H2.objs.size) H2.objs.size X.env))
   (Rr (.ref s.heap.objs.size) H2.objs.size) { s with heap:=h₁ }:=by
  refine xA (λn s'=>∃i acc H',a6 Y [] (cX fr σ) H' s'/\tn i s'.heap/\(∀b∈fp,H' b=none)/\W i n acc H') ?_ m0 ⟨0,[],_,I0,st1,fr0,w0⟩
  rintro n s3 ⟨i,acc,H3,I3,st3,fr3,w3⟩
  unfold o7
  dsimp only
  obtain⟨hD3,step⟩:=turn i n acc H3 w3
  rcases step with⟨stop,qn⟩|⟨go,step⟩
  ·have z:=T.done Y eP ew eK ec i [] s3 _ H3 (notedBy (model X.prog X.w) X.A (compEnvC scope (cY X scope H2.objs.size) H2.objs.size X.env) λe s'=>Rr (.ref s.heap.objs.size) H2.objs.size (.error e) s') I3 (stat fr3) st3 stop
   rw[eA]at z
   refine aQ z λr s4 ⟨hr,I4⟩=>?_
   subst hr
   obtain⟨m4,hn4,_⟩:=I4.loc
   rw[eE]at hn4
   have f4:=I4.free
   rw[eE]at f4
   exact hend _ _ s4 H3 m4 hCle (aH7 _) (out I4) hn4 f4 qn
  ·have z:=T.item Y eP ew eK ec i [] s3 _ H3 (notedBy (model X.prog X.w) X.A (compEnvC scope (cY X scope H2.objs.size) H2.objs.size X.env) λe s'=>Rr (.ref s.heap.objs.size) H2.objs.size (.error e) s') I3 (stat fr3) st3 go
   rw[eA]at z
   refine aQ z λr s4 ⟨u,hr,h4⟩=>?_
   subst hr
   refine aQ h4 λ_ s5 ⟨x,H5,I5,r5,y5,st5,fr5⟩=>?_
   have I5':=I5.pinned (stat fr5) (T.obj _ _ st5)
   have q1:=bt _ s5 _ H5 x u _ I5' r5 (step x H5 y5)
   rw[eP,ew,eA,eE]at q1
   refine aO8 q1 (λ_ s6 ⟨σ6,H6,I6,wk,q6⟩=>?_) never
   have q2:=bi _ s6 σ6 H6 _ I6 q6
   rw[eP,ew,eA,eE]at q2
   refine aO8 q2 (λb s7 ⟨H7,I7,q7⟩=>?_) never
   have again:∀{H8:Hp}{s8:Shared}{acc':List V},a6 Y ([]++kG fp s5.heap) σ6 H8 s8->(∃m',m'<n/\W (i+1) m' acc' H8)->∃m,m<n/\∃i acc H',a6 Y [] (cX fr σ) H' s8/\tn i s8.heap/\(∀b∈fp,H' b=none)/\W i m acc H':=λ{H8 s8 acc'} I8 n8=>by
    obtain⟨m',hm,w8⟩:=n8
    refine⟨m',hm,i+1,acc',H8,(I8.unpinned).weak wk.1 wk.2,T.keep _ _ _ st5 λb hb o e=>(I8.pin (b,o) (aK9 _ (aK9 _ (kH hb e)))).1,λb hb=>?_,w8⟩
    obtain⟨o,e,d⟩:=T.obj _ _ st5 b hb
    exact (I8.pin (b,o) (aK9 _ (aK9 _ (kH hb e)))).2.1
   cases b with
   |false=>
    rw[if_neg aJ0]at q7 ⊢
    exact again I7 q7
   |true=>
    rw[if_pos rfl]at q7 ⊢
    have q3:=be _ s7 σ6 H7 _ I7 q7
    rw[eP,ew,eA,eE]at q3
    refine aO8 q3 (λv s8 ⟨y,H8,I8,r8,hD8,hz8,q8⟩=>?_) never
    have q4:=lX _ s8 σ6 H8 (.ref s.heap.objs.size) [y] (.ref s.heap.objs.size) [v] (λ_ H9=>∃m',m'<n/\W (i+1) m' (acc++[y]) H9) I8 rfl (.cons r8 .nil) ⟨_,_,_,rfl,rfl,hD8,hz8,q8⟩
    rw[eP,ew,eA]at q4
    exact aO8 q4 (λ_ s9 ⟨_,H9,I9,_,q9⟩=>again I9 q9) never
 exact codeAny_compStart_list loop (T.self _ 0 _ _ _ st1 loop)
end
section
variable {X:Cx}{scope:Scope}{N:List Str}{fr:List (Option Nat)}{tg iter elt:Expr}{ifs:List Expr}{pos:Pos}{wi:TI}{g:TG}{tc:TT}{te:TE}
theorem a6.drop {pins:List (Addr×Obj)}{σ:St}{H H':Hp}{s s':Shared}{C:Addr}{h':Heap}(I0:a6 X pins σ H s)(hC:s.heap.objs.size<=C){σ':St}(I:a6 X pins σ' H' s')(hn:H' C=none)(sb:Heap.SameBut C s'.heap h'):a6 X pins σ' H' { s' with heap:=h' }:=by
 refine I.turned (t':=s'.toks) (it:=C) (λb o hb e=>(sb.2 b hb).trans e) hn (aR7 (aI5 I0.lt hC)) (.inr (aO7 I0.sz hC)) (λx c e z=>?_) λp hp z=>?_
 ·obtain⟨v,q⟩:=I0.cell x c e
  exact absurd (aI5 q.lt (by rw[z];exact hC)) (aN1 _)
 ·exact absurd (aI5 (aI1 (I0.pin p hp).1) (by rw[z];exact hC)) (aN1 _)
variable {gh:Hp→TG}{tch:Hp→TT}{teh:Hp→TE}
def xC (wi:TI)(fr:List (Option Nat))(gh:Hp->TG)(tch:Hp->TT)(teh:Hp->TE):TE:=λσ H Q=>wi σ H λJ H1=>∀D,H1 D=none->
 ∃W:Nat->Nat->List V->Hp->Prop,(∃m,W 0 m [] (upd H1 D (.lst [])))/\o8 (gh H1) (tch H1) (teh H1) (cX fr σ) J D Q W
theorem aa0 (hc:X.calm=true)(S:eW X scope N fr)(hi:PI X tg iter wi)(B:∀(s:Shared) (H:Hp),rN X scope N tg ifs elt s H (gh H) (tch H) (teh H))(hs:∀x,foldedSetIterable iter X.env x=pure x:=by intro _;rfl):PE X (.ListComp elt [⟨tg,iter,ifs,0⟩] scope pos) (xC wi fr gh tch teh):=by
 intro pins s σ H Q I h
 rw[eval_ListComp]
 refine wpAny_comprehension_free (use:=none) rfl hs (x5 (S.cells I)) S.kind S.names (aQ (hi pins s σ H _ I h) λv s1 h1=>aQ h1 λitv s2 h2=>?_)
 obtain⟨it,fp,tn,J,H2,e,I2,T,st2,f2,hW⟩:=h2
 subst e
 refine Z9 (Rr:=λacc C=>compPost (model X.prog X.w) X.A X.xe none (EP X pins σ Q) acc C) hc S (B _ _) I2 T st2 f2 hW ?_
 intro D C s' H' m hC hD I' hns hHC q
 exact⟨m,hns,λh' sb=>⟨.ref D,H',I2.drop hC I' hHC sb,rfl,q⟩⟩
end
theorem b8 {H:Hp}{p:Addr}(h:H p=none)(o:HO):aH H (upd H p o):=λb u q=>by rw[aJ (c9 q h)];exact q
end L2
namespace Srt
open PySem PySem.W PyProof.Rows
abbrev G (p:Array Nat)(i:Nat):Nat:=p.getD i 0
theorem m3 {p q:Array Nat}{i j:Nat}(h:p[i]? = q[j]?):G p i=G q j:=by
 unfold G;rw[aV3,aV3,h]
theorem rP {p:Array Nat}{i j:Nat}(hj:j<=p.size)(k:Nat):G (kas_rev p i j) k=if i<=k/\k<j then G p (i+j-1-k) else G p k:=by
 have e:=getElem?_mirror_all (i:=i) hj k
 unfold kas_rev
 by_cases h1:i<=k/\k<j
 ·rw[if_pos h1]at e ⊢;exact m3 e
 ·rw[if_neg h1]at e ⊢;exact m3 e
theorem aa1 {p:Array Nat}{src d:Nat}(hs:src<p.size)(hd:d<=src)(k:Nat):G (bubble p src d) k=if k=src-d then G p src else if src-d<k/\k<=src then G p (k-1) else G p k:=by
 have e:=getElem?_bubble hs d hd k
 by_cases h1:k=src-d
 ·rw[if_pos h1]at e ⊢;exact m3 e
 ·rw[if_neg h1]at e ⊢
  by_cases h2:src-d<k/\k<=src
  ·rw[if_pos h2]at e ⊢;exact m3 e
  ·rw[if_neg h2]at e ⊢;exact m3 e
def PP (n:Nat)(p:Array Nat):Prop:=p.toList.Perm (List.range n)
theorem PP.size {n:Nat}{p:Array Nat}(h:PP n p):p.size=n:=by
 have:=h.length_eq
 rw[List.length_range]at this
 simpa using this
theorem PP.lt {n:Nat}{p:Array Nat}(h:PP n p){k:Nat}(hk:k<n):G p k<n:=by
 have hs:=h.size
 have hk':k<p.toList.length:=by simpa[hs] using hk
 have e:G p k=p.toList[k]:=by
  unfold G;rw[aV3];simp[hs,hk]
 have m:p.toList[k]∈p.toList:=aS3 hk'
 rw[e]
 exact List.mem_range.mp (h.mem_iff.mp m)
theorem PP.of {n:Nat}{p q:Array Nat}(h:PP n p)(e:q.Perm p):PP n q:=(Array.perm_iff_toList_perm.mp e).trans h
theorem PP.rev {n:Nat}{p:Array Nat}(h:PP n p)(i j:Nat):PP n (kas_rev p i j):=h.of (mirror_perm _ _ _ _)
theorem PP.bub {n:Nat}{p:Array Nat}(h:PP n p)(i j:Nat):PP n (bubble p i j):=h.of (bubble_perm _ _ _)
structure rQ (c:Nat->Nat->Bool):Prop where
 asym:∀{i j},c i j=true->c j i=false
 ntr:∀{i j k},c i j=false->c j k=false->c i k=false
section
variable {c:Nat→Nat→Bool}(O:rQ c)
def Le (c:Nat->Nat->Bool)(i j:Nat):Prop:=c j i=false
include O
theorem le_refl (i:Nat):Le c i i:=by
 unfold Le
 cases h:c i i with
 |false=>rfl
 |true=>have:=O.asym h;rw[h]at this;exact this
theorem le_trans {i j k:Nat}(h1:Le c i j)(h2:Le c j k):Le c i k:=O.ntr h2 h1
theorem o9 {i j:Nat}(h:c i j=true):Le c i j:=O.asym h
omit O
def eI (c:Nat->Nat->Bool)(p:Array Nat)(n:Nat):Prop:=∀a b,a<=b->b<n->Le c (G p a) (G p b)
def iU (c:Nat->Nat->Bool)(p:Array Nat)(n:Nat):Prop:=∀a b,a<=b->b<n->Le c (G p b) (G p a)
include O
theorem aa2 {p:Array Nat}{n:Nat}(h:eI c p n)(h1:1<=n)(hl:Le c (G p (n-1)) (G p n)):eI c p (n+1):=λa b hab hb=>by
 by_cases hbn:b<n
 ·exact h a b hab hbn
 ·have e:b=n:=by omega
  subst e
  by_cases han:a=b
  ·subst han;exact le_refl O _
  ·exact le_trans O (h a (b-1) (by omega) (by omega)) hl
theorem oA {p:Array Nat}{n:Nat}(h:iU c p n)(h1:1<=n)(hl:Le c (G p n) (G p (n-1))):iU c p (n+1):=λa b hab hb=>by
 by_cases hbn:b<n
 ·exact h a b hab hbn
 ·have e:b=n:=by omega
  subst e
  by_cases han:a=b
  ·subst han;exact le_refl O _
  ·exact le_trans O hl (h a (b-1) (by omega) (by omega))
omit O
def bQ {α:Type}(n:Nat)(c:Nat->Nat->Bool)(R:α->Prop):KasT α->Prop
 |.ret a=>R a
 |.ask i j k=>i<n/\j<n/\bQ n c R (k (c i j))
theorem bQ.mono {α:Type}{n:Nat}{R R':α->Prop}(h:∀a,R a->R' a):∀(t:KasT α),bQ n c R t->bQ n c R' t
 |.ret a,q=>h a q
 |.ask i j k,q=>⟨q.1,q.2.1,bQ.mono h (k (c i j)) q.2.2⟩
theorem bQ.bind {α β:Type}{n:Nat}{R:α->Prop}{R':β->Prop}{f:α->KasT β}(h:∀a,R a->bQ n c R' (f a)):∀(t:KasT α),bQ n c R t->bQ n c R' (t.bind f)
 |.ret a,q=>h a q
 |.ask i j k,q=>⟨q.1,q.2.1,bQ.bind h (k (c i j)) q.2.2⟩
theorem bQ.run {α:Type}{n:Nat}{R:α->Prop}{I:Shared->Prop}{cmp:Nat->Nat->(Bool->Shared->Prop)->Shared->Prop}{Q:α->Shared->Prop}(hc:∀i j C s,i<n->j<n->I s->(∀s',I s'->C (c i j) s')->cmp i j C s)(hQ:∀a s,R a->I s->Q a s):∀(t:KasT α) (s:Shared),I s->bQ n c R t->t.kasWp cmp Q s
 |.ret a,s,hI,q=>hQ a s q hI
 |.ask i j k,s,hI,q=>hc i j _ s q.1 q.2.1 hI λs' hI'=>bQ.run hc hQ (k (c i j)) s' hI' q.2.2
include O
theorem rR {n:Nat}{p:Array Nat}(hp:PP n p):∀(f m:Nat),1<=m->m+f<=n->eI c p m->bQ n c (λr=>m<=r/\r<=m+f/\eI c p r/\(r<m+f->c (G p r) (G p (r-1))=true)) (kas_asc p f m)
 |0,m,_,_,h=>⟨aH7 _,aH7 _,h,λz=>absurd z (aN1 _)⟩
 |f+1,m,h1,h2,h=>by
  refine⟨hp.lt (by omega),hp.lt (by omega),?_⟩
  by_cases hc:c (p.getD m 0) (p.getD (m-1) 0)=true
  ·simp only[hc,if_true]
   exact⟨aH7 _,by omega,h,λ_=>hc⟩
  ·have hc':c (p.getD m 0) (p.getD (m-1) 0)=false:=aS8.mpr hc
   simp only[hc',aK7,aP4]
   refine bQ.mono (λr q=>⟨by omega,by omega,q.2.2.1,λz=>q.2.2.2 (by omega)⟩) _ (rR hp f (m+1) (by omega) (by omega) (aa2 O h h1 hc'))
omit O
def jH (c:Nat->Nat->Bool)(i j:Nat):Prop:=Le c i j/\Le c j i
include O
theorem rS {p q:Array Nat}{n:Nat}(h:iU c p n)(e:∀k,k<n->jH c (G q k) (G p k)):iU c q n:=λa b hab hb=>
 le_trans O (e b hb).1 (le_trans O (h a b hab hb) (e a (by omega)).2)
theorem xD {n m i:Nat}{p:Array Nat}(hp:PP n p)(hm:m<=n)(h:∀a,i<=a->a<m->jH c (G p a) (G p (m-1))):∀k,jH c (G (kas_rev p i m) k) (G p k):=λk=>by
 rw[rP (by rw[hp.size];exact hm)]
 by_cases hk:i<=k/\k<m
 ·rw[if_pos hk]
  have h1:=h (i+m-1-k) (by omega) (by omega)
  have h2:=h k hk.1 hk.2
  exact⟨le_trans O h1.1 h2.2,le_trans O h2.1 h1.2⟩
 ·rw[if_neg hk];exact⟨le_refl O _,le_refl O _⟩
omit O
def DI (c:Nat->Nat->Bool)(n:Nat)(p:Array Nat)(m q:Nat):Prop:=PP n p/\1<=m/\m<=n/\iU c p m/\q+1<=m/\∀a,m-(q+1)<=a->a<m->jH c (G p a) (G p (m-1))
include O
theorem xE {n m q:Nat}{p:Array Nat}(h:DI c n p m q):PP n (kas_rev p (m-(q+1)) m)/\∀k,jH c (G (kas_rev p (m-(q+1)) m) k) (G p k):=
 ⟨h.1.rev _ _,xD O h.1 h.2.2.1 h.2.2.2.2.2⟩
theorem oB {n:Nat}:∀(f:Nat) (p:Array Nat) (m q:Nat),m+f<=n->DI c n p m q->bQ n c (λr=>DI c n r.1 r.2.1 r.2.2) (kas_desc f p m q)
 |0,p,m,q,_,h=>h
 |f+1,p,m,q,hf,h=>by
  have hp:=h.1
  have h1:=h.2.1
  refine⟨hp.lt (by omega),hp.lt (by omega),?_⟩
  by_cases hc:c (p.getD m 0) (p.getD (m-1) 0)=true
  ·simp only[hc,if_true]
   have dn:iU c p (m+1):=oA O h.2.2.2.1 h1 (o9 O hc)
   by_cases hq:q>0
   ·simp only[hq,if_true]
    obtain⟨pr,er⟩:=xE O h
    refine oB f _ (m+1) 0 (by omega) ⟨pr,by omega,by omega,rS O dn λk _=>er k,by omega,λa h1 h2=>?_⟩
    have e:a=m+1-1:=by omega
    rw[e];exact⟨le_refl O _,le_refl O _⟩
   ·simp only[hq,aP4]
    refine oB f p (m+1) 0 (by omega) ⟨hp,by omega,by omega,dn,by omega,λa h1 h2=>?_⟩
    have e:a=m+1-1:=by omega
    rw[e];exact⟨le_refl O _,le_refl O _⟩
  ·have hc':c (p.getD m 0) (p.getD (m-1) 0)=false:=aS8.mpr hc
   simp only[hc',aK7,aP4]
   refine⟨hp.lt (by omega),hp.lt (by omega),?_⟩
   by_cases hd:c (p.getD (m-1) 0) (p.getD m 0)=true
   ·simp only[hd,if_true]
    exact h
   ·have hd':c (p.getD (m-1) 0) (p.getD m 0)=false:=aS8.mpr hd
    simp only[hd',aK7,aP4]
    have ee:jH c (G p (m-1)) (G p m):=⟨hc',hd'⟩
    refine oB f p (m+1) (q+1) (by omega) ⟨hp,by omega,by omega,oA O h.2.2.2.1 h1 ee.2,by have:=h.2.2.2.2.1;omega,λa h1 h2=>?_⟩
    rw[Nat.add_sub_cancel]
    by_cases ha:a=m
    ·rw[ha];exact⟨le_refl O _,le_refl O _⟩
    ·have z:=h.2.2.2.2.2 a (by omega) (by omega)
     exact⟨le_trans O z.1 ee.1,le_trans O ee.2 z.2⟩
omit O
def CI (c:Nat->Nat->Bool)(n:Nat)(r:Nat×Array Nat):Prop:=PP n r.2/\1<=r.1/\r.1<=n/\eI c r.2 r.1
include O
theorem xF {n m:Nat}{p:Array Nat}(hp:PP n p)(h1:1<=m)(hm:m<=n)(h:iU c p m):bQ n c (CI c n) (kas_tail3 m n p):=by
 have ha:eI c (kas_rev p 0 m) m:=λa b hab hb=>by
  rw[rP (by rw[hp.size];exact hm),rP (by rw[hp.size];exact hm),if_pos ⟨aN4 _,by omega⟩,if_pos ⟨aN4 _,hb⟩]
  exact h _ _ (by omega) (by omega)
 refine bQ.bind (R:=λr=>m<=r/\r<=m+(n-m)/\eI c (kas_rev p 0 m) r/\_) (λr q=>?_) _ (rR O (hp.rev 0 m) (n-m) m h1 (by omega) ha)
 exact⟨hp.rev _ _,by have:=q.1;omega,by have:=q.2.1;omega,q.2.2.1⟩
theorem xG {n m:Nat}{p:Array Nat}(hp:PP n p)(h1:1<=m)(hm:m+1<=n)(h:iU c p (m+1)):bQ n c (CI c n) (kas_descPart m n p):=by
 refine bQ.bind (R:=λr=>DI c n r.1 r.2.1 r.2.2) (λr q=>?_) _ (oB O (n-(m+1)) p (m+1) 0 (by omega) ⟨hp,by omega,hm,h,by omega,λa h1 h2=>?_⟩)
 ·by_cases hq:r.2.2>0
  ·rw[if_pos hq]
   obtain⟨pr,er⟩:=xE O q
   exact xF O pr q.2.1 q.2.2.1 (rS O q.2.2.2.1 λk _=>er k)
  ·rw[if_neg hq]
   exact xF O q.1 q.2.1 q.2.2.1 q.2.2.2.1
 ·have e:a=m+1-1:=by omega
  rw[e];exact⟨le_refl O _,le_refl O _⟩
theorem aa3 {n:Nat}{p:Array Nat}(hp:PP n p)(hn:1<=n):bQ n c (CI c n) (kas_count n p):=by
 have a1:eI c p 1:=λa b hab hb=>by
  have e1:a=0:=by omega
  have e2:b=0:=by omega
  rw[e1,e2];exact le_refl O _
 refine bQ.bind (R:=λr=>1<=r/\r<=1+(n-1)/\eI c p r/\(r<1+(n-1)->c (G p r) (G p (r-1))=true)) (λm q=>?_) _ (rR O hp (n-1) 1 (aH7 _) (by omega) a1)
 obtain⟨q1,q2,q3,q4⟩:=q
 by_cases hm:(m==n)=true
 ·rw[if_pos hm]
  exact⟨hp,q1,by omega,q3⟩
 ·rw[if_neg hm]
  have hne:m≠n:=by simpa using hm
  have hc:=q4 (by omega)
  by_cases h1:m>1
  ·rw[if_pos h1]
   refine⟨hp.lt (by omega),hp.lt (by omega),?_⟩
   by_cases hd:c (p.getD 0 0) (p.getD (m-1) 0)=true
   ·simp only[hd,if_true]
    exact⟨hp,q1,by omega,q3⟩
   ·have hd':c (p.getD 0 0) (p.getD (m-1) 0)=false:=aS8.mpr hd
    simp only[hd',aK7,aP4]
    have eq:∀a,0<=a->a<m->jH c (G p a) (G p (m-1)):=λa _ ha=>⟨q3 a (m-1) (by omega) (by omega),le_trans O hd' (q3 0 a (aN4 _) ha)⟩
    have er:=xD O hp (by omega:m<=n) eq
    refine xG O (hp.rev 0 m) q1 (by omega) (rS O (p:=p) ?_ λk _=>er k)
    refine oA O (λa b hab hb=>?_) q1 (o9 O hc)
    exact le_trans O (eq b (aN4 _) hb).1 (eq a (aN4 _) (by omega)).2
  ·rw[if_neg h1]
   have e:m=1:=by omega
   subst e
   refine xG O hp (aH7 _) (by omega) (oA O (λa b hab hb=>?_) (aH7 _) (o9 O hc))
   have e1:a=0:=by omega
   have e2:b=0:=by omega
   rw[e1,e2];exact le_refl O _
theorem rT {n k:Nat}{p:Array Nat}(hp:PP n p)(hk:k<n)(ha:eI c p k):∀(f l r:Nat),l<=r->r<=k->r-l<=f->(∀a,a<l->Le c (G p a) (G p k))->(∀a,r<=a->a<k->Le c (G p k) (G p a))->
  bQ n c (λl=>l<=k/\(∀a,a<l->Le c (G p a) (G p k))/\∀a,l<=a->a<k->Le c (G p k) (G p a)) (kas_place p k f l r)
 |0,l,r,h1,h2,h3,hl,hr=>⟨by omega,hl,λa h4 h5=>hr a (by omega) h5⟩
 |f+1,l,r,h1,h2,h3,hl,hr=>by
  unfold kas_place
  by_cases hlr:l >= r
  ·rw[if_pos hlr]
   exact⟨by omega,hl,λa h4 h5=>hr a (by omega) h5⟩
  ·rw[if_neg hlr]
   refine⟨hp.lt hk,hp.lt (by omega),?_⟩
   by_cases hc:c (p.getD k 0) (p.getD ((l+r)/2) 0)=true
   ·simp only[hc,if_true]
    exact rT hp hk ha f l ((l+r)/2) (by omega) (by omega) (by omega) hl λa h4 h5=>le_trans O (o9 O hc) (ha _ _ h4 h5)
   ·have hc':c (p.getD k 0) (p.getD ((l+r)/2) 0)=false:=aS8.mpr hc
    simp only[hc',aK7,aP4]
    exact rT hp hk ha f ((l+r)/2+1) r (by omega) h2 (by omega) (λa h4=>le_trans O (ha a ((l+r)/2) (by omega) (by omega)) hc') hr
theorem xH {n:Nat}:∀(f:Nat) (p:Array Nat) (k:Nat),PP n p->k+f<=n->eI c p k->bQ n c (λq=>PP n q/\eI c q (k+f)) (kas_bin f p k)
 |0,p,k,hp,_,h=>⟨hp,h⟩
 |f+1,p,k,hp,hk,h=>by
  refine bQ.bind (R:=λl=>l<=k/\(∀a,a<l->Le c (G p a) (G p k))/\∀a,l<=a->a<k->Le c (G p k) (G p a)) (λl q=>?_) _ (rT O hp (by omega) h k 0 k (aN4 _) (aH7 _) (by omega) (λa z=>absurd z (Nat.not_lt_zero _)) λa h1 h2=>absurd h2 (by omega))
  obtain⟨q1,q2,q3⟩:=q
  have e:∀a,G (bubble p k (k-l)) a=if a=l then G p k else if l<a/\a<=k then G p (a-1) else G p a:=λa=>by
   rw[aa1 (by rw[hp.size];omega) (by omega),show k-(k-l)=l by omega]
  refine bQ.mono (λr z=>⟨z.1,by rw[show k+(f+1)=k+1+f by omega];exact z.2⟩) _ (xH f _ (k+1) (hp.bub _ _) (by omega) λa b hab hb=>?_)
  rw[e,e]
  by_cases ha:a=l
  ·rw[if_pos ha]
   by_cases hb':b=l
   ·rw[if_pos hb'];exact le_refl O _
   ·rw[if_neg hb',if_pos (by omega)];exact q3 _ (by omega) (by omega)
  ·rw[if_neg ha]
   by_cases ha2:l<a/\a<=k
   ·rw[if_pos ha2,if_neg (by omega),if_pos (by omega)]
    exact h _ _ (by omega) (by omega)
   ·rw[if_neg ha2]
    by_cases hb':b=l
    ·rw[if_pos hb'];exact q2 a (by omega)
    ·rw[if_neg hb']
     by_cases hb2:l<b/\b<=k
     ·rw[if_pos hb2];exact h _ _ (by omega) (by omega)
     ·rw[if_neg hb2];exact h _ _ hab (by omega)
theorem aa4 {n:Nat}(hn:1<=n):bQ n c (λq=>PP n q/\eI c q n) (kas_sort n):=by
 have hp:PP n (List.toArray (List.range n)):=by unfold PP;simp
 refine bQ.bind (R:=CI c n) (λr q=>?_) _ (aa3 O hp hn)
 obtain⟨q1,q2,q3,q4⟩:=q
 by_cases h:r.1<n
 ·rw[if_pos h]
  have e:max r.1 1=r.1:=by omega
  rw[e]
  exact bQ.mono (λp z=>⟨z.1,by rw[show r.1+(n-r.1)=n by omega]at z;exact z.2⟩) _ (xH O (n-r.1) r.2 r.1 q1 (by omega) q4)
 ·rw[if_neg h]
  have e:r.1=n:=by omega
  exact⟨q1,by rw[e]at q4;exact q4⟩
end
end Srt
namespace L2
open PySem PySem.Spec PyProof.Rows
theorem bH.there {P:Program}{w:World}{H:Hp}{h:Heap}{a:Addr}{o:HO}(x:bH P w H h a o):∃u,h.get? a=some u:=by
 cases o with
 |lst xs=>obtain⟨_,_,_,_,e⟩:=x;exact⟨_,e⟩
 |tup xs=>obtain⟨_,_,_,⟨o,e,_⟩,_⟩:=x;exact⟨_,e⟩
 |dK kvs=>obtain⟨_,_,_,_,o,_,_,e,_⟩:=x;exact⟨_,e⟩
 |dT kvs=>obtain⟨_,_,_,_,o,_,_,e,_⟩:=x;exact⟨_,e⟩
 |set S n=>obtain⟨o,_,_,_,e,_⟩:=x;exact⟨_,e⟩
 |ins C dx fs=>obtain⟨_,_,_,e,_⟩:=x;exact⟨_,e⟩
 |own y=>exact x
 |xd fs=>obtain⟨_,⟨_,_,_,e,_⟩,_⟩:=x;exact⟨_,e⟩
 |rng lo hi=>obtain⟨_,_,_,e⟩:=x;exact⟨_,e⟩
 |frz ob u=>obtain⟨e,_⟩:=x;exact⟨_,e⟩
 |tbl ps=>exact⟨_,(show h.get? a=some _ from x)⟩
 |met f y=>exact⟨_,(show h.get? a=some _ from x)⟩
 |ext φ=>obtain⟨_,z,_⟩:=x;exact z
section
variable {X:Cx}{pins:List (Addr×Obj)}{σ:St}{H:Hp}{s:Shared}{h':Heap}{a:Addr}{o:HO}{t':Nat}
theorem a6.laidF (I:a6 X pins σ H s)(hn:s.heap.get? a=none)(k:∀b u,b≠X.env.locals->s.heap.get? b=some u->h'.get? b=some u)(ns:∀m,s.heap.Ns X.env.locals m->h'.Ns X.env.locals m)(new:bH X.prog X.w (upd H a o) h' a o):H a=none/\a6 X pins σ (upd H a o) { s with heap:=h',toks:=t' }:=by
 have hHn:H a=none:=by
  cases q:H a with
  |none=>rfl
  |some u=>obtain⟨z,e⟩:=(I.hok a u q).there;rw[hn]at e;cases e
 have ne:∀b u,s.heap.get? b=some u->b≠a:=λb u e z=>by rw[z,hn]at e;cases e
 have hL:=I.free
 refine⟨hHn,I.step (g':=s.gens) (d':=s.drawn) (ch:=[]) (λ_ z=>nomatch z) (λb o' h1 _ _ e _=>k b o' h1 e) (λb o' h1 _ _ e _=>⟨o'.slots,k b o' h1 e⟩) (λb o' _ e n=>by rw[aJ (ne b o' e)];exact n) (λb o' _ e=>?_)
  (λb xs q=>by rw[aJ (c9 q hHn)];exact q) (λb u xs q=>by rw[aJ (c9 q hHn)];exact q) (λb ps q=>⟨#[],by rw[aJ (c9 q hHn),q];simp⟩) ns (λb u q=>?_) I.bare⟩
 ·by_cases hb:b=X.env.locals
  ·obtain⟨m,hm,_⟩:=I.loc
   obtain⟨o2,_,_,e2,_⟩:=ns m hm
   exact⟨o2,by rw[hb];exact e2⟩
  ·exact⟨o',k b o' hb e⟩
 ·by_cases hb:b=a
  ·subst hb;rw[b7]at q;cases q;exact new
  ·rw[aJ hb]at q
   refine (I.hok b u q).stay (λc v hc e=>k c v ?_ e) (λc e=>by rw[aJ (c9 e hHn)];exact e) λc xs e=>by rw[aJ (c9 e hHn)];exact e
   rcases hc with z|z
   ·rw[z];intro y;rw[y,hL]at q;cases q
   ·intro y;rw[y,hL]at z;cases z
theorem a6.newsAll (I:a6 X pins σ H s){news:List (Addr×Obj)}{m:Str->Option Value}(hs:∀p∈lN X.base s.heap X.env.locals,p∈news)(F:Fr X.base X.env.locals h' m)(N:News X.base X.env.locals h' news) :
  ∀b o,b≠X.env.locals->s.heap.get? b=some o->h'.get? b=some o:=λb o h1 e=>by
 cases q:X.base.get? b with
 |some u=>
  have:=I.bk b u q
  rw[e]at this;cases this
  exact F.keep b _ q
 |none=>exact (N (b,o) (hs _ (uT h1 q e))).1
end
theorem aa5 {α:Type}{d:α}(l:List α){p:List Nat}(h:p.Perm (List.range l.length)):(p.map λi=>l.getD i d).Perm l:=by
 have e:(List.range l.length).map (λi=>l.getD i d)=l:=by
  apply List.ext_getElem
  ·simp
  ·intro i h1 h2
   simp at h1
   simp[h1]
 have:=h.map λi=>l.getD i d
 rw[e]at this
 exact this
theorem m5:∀{xs:List V}{us:List Value} (i:Nat),i<xs.length->aL xs us->aT (xs.getD i .non) (us.getD i Value.none)
 |_,_,_,h,.nil=>by simp at h
 |_,_,0,_,.cons r _=>by simpa using r
 |_,_,i+1,h,.cons _ t=>by
  have:=m5 i (by simpa using h) t
  simpa using this
theorem xI {xs:List V}{us:List Value}(r:aL xs us):∀{p:List Nat},(∀i∈p,i<xs.length)->aL (p.map λi=>xs.getD i .non) (p.map λi=>us.getD i Value.none)
 |[],_=>.nil
 |i::p,h=>.cons (m5 i (h i aJ9) r) (xI r λj hj=>h j (aJ2 _ hj))
theorem rV {α:Type}:∀l:List α,(l.zip l).map (·.2)=l
 |[]=>rfl
 |a::l=>by
  show a::((l.zip l).map (·.2))=a::l
  rw[rV l]
theorem aa6 {prog:Program}{w:World}{A:Around}{E:Value->Shared->Prop}{s:Shared}{a:Addr}{vs:List Value}{n:Nat}{P:PySem.Fin->Shared->Prop}(e:s.heap.get? a=some (seqObj "list" vs.toArray n))(few:vs.length<2)(q:P (.done (.ret .none)) { s with heap:=sortedHeap s.heap a vs vs.toArray }):wpAny (model prog w) A (Builtin.«list.sort» ⟨[.ref a],[]⟩) P E s:=by
 have big:vs.length<=sizeLine:=aO7 (aS6 few) (by decide)
 have la:=aI1 e
 have c:vs.toArray.size<2:=by simpa using few
 have same:(arrOf (SortSt.mk' general' (vs.toArray.zip vs.toArray) #[] 7 none)).map (·.2)=vs.toArray:=by
  change (vs.toArray.zip vs.toArray).map (·.2)=vs.toArray
  apply Array.ext'
  simpa using rV vs
 obtain⟨k,ek⟩:∃k,(s.heap.update a (Obj.mapSeq λ_=>#[])).get? a=some (seqObj "list" #[] k):=⟨_,get?_update_seq e λ_=>#[]⟩
 have there:(((s.heap.update a (Obj.mapSeq λ_=>#[])).push (seqObj "tuple" vs.toArray 0)).push (seqObj "list" #[] 0)).get? a=some (seqObj "list" #[] k):=
  aH2 _ (aH2 _ ek)
 rw[list_sort_plain]
 apply aH1
 apply listItems_at e rfl
 apply aH1
 refine listUpdate_at e rfl ?_ (by simpa using big) (aN4 _)
 apply aH1
 apply seqEpoch_at ek rfl
 apply aH1
 refine wpAny_newTuple ?_ big
 apply aH1
 refine wpAny_newList ?_ (aN4 _)
 apply aR5
 simp only[c,if_true,StateT.run_pure]
 apply aH1
 apply aH9
 apply aH1
 apply aH9
 apply aH1
 apply seqEpoch_at there rfl
 apply aH1
 refine listUpdate_at there rfl ?_ (aN4 _) (by rw[same,aH3];exact Nat.le_succ_of_le big)
 rw[same]
 simp only[bne_self_eq_false,aK7,aP4]
 exact aH9 q
theorem xJ {prog:Program}{w:World}{A:Around}{E:Value->Shared->Prop}{s:Shared}{l:Addr}{vs:List Value}{Q:Value->Shared->Prop}(hl:s.heap.IsList l vs.toArray)(few:vs.length<2)(q:Q (.ref (s.heap.objs.size+1)) { s with heap:=sortedAll s.heap vs vs.toArray }):wpAny (model prog w) A (call (.builtin "sorted") [.ref l]) Q E s:=by
 have big:vs.length<=sizeLine:=aO7 (aS6 few) (by decide)
 apply Calls.call_function_entry kind_sorted plain_sorted entry_sorted (args_sorted1 _)
 simp only[Builtin.«sorted»]
 apply aH1 (m:=checkCount "sorted" 1 1 _)
 apply aH9
 apply aH1
 refine collect_list hl ?_ big
 apply aH1
 refine wpAny_newList ?_ big
 have one:((s.heap.push (seqObj "list" #[] 0)).update s.heap.objs.size (Obj.mapSeq (·++vs.toArray))).objs.size=s.heap.objs.size+1:=(Heap.size_update _ _ _).trans (size_push' _ _)
 have at1:(((s.heap.push (seqObj "list" #[] 0)).update s.heap.objs.size (Obj.mapSeq (·++vs.toArray))).push (seqObj "list" vs.toArray 0)).get? (s.heap.objs.size+1)=some (seqObj "list" vs.toArray 0):=one▸aJ3 _ rfl
 change wpAny _ _ _ _ _ { s with heap:=((s.heap.push (seqObj "list" #[] 0)).update s.heap.objs.size (Obj.mapSeq (·++vs.toArray))).push (seqObj "list" vs.toArray 0) }
 rw[one]
 apply aH1
 apply aR5
 refine aP6 slot_list_sort ⟨_,at1,rfl⟩ entry_list_sort ?_ (args_list_sort _)
 refine aa6 at1 few ⟨_,rfl,?_⟩
 exact aH9 ⟨_,rfl,q⟩
theorem xK:∀{a b:af},HT.bD a b=true->HT.bD b a=false
 |[],[],h=>by cases h
 |[],_::_,_=>rfl
 |_::_,[],h=>by cases h
 |x::xs,y::ys,h=>by
  rw[HT.gU]at h ⊢
  by_cases e:x=y
  ·rw[if_pos e]at h;rw[if_pos e.symm];exact xK h
  ·rw[if_neg e]at h;rw[if_neg (Ne.symm e)]
   have:=of_decide_eq_true h
   exact aH8 (by omega)
theorem xL:∀{a b c:af},HT.bD a b=false->HT.bD b c=false->HT.bD a c=false
 |[],[],c,_,h=>h
 |[],_::_,_,h,_=>by cases h
 |_::_,[],[],_,_=>rfl
 |_::_,[],_::_,_,h=>by cases h
 |_::_,_::_,[],_,_=>rfl
 |x::xs,y::ys,z::zs,h1,h2=>by
  rw[HT.gU]at h1 h2 ⊢
  by_cases e1:x=y
  ·rw[if_pos e1]at h1
   by_cases e2:y=z
   ·rw[if_pos e2]at h2;rw[if_pos (e1.trans e2)];exact xL h1 h2
   ·rw[if_neg e2]at h2;rw[if_neg (by rw[e1];exact e2)];rw[e1];exact h2
  ·rw[if_neg e1]at h1
   have k1:=of_decide_eq_false h1
   by_cases e2:y=z
   ·rw[<- e2,if_neg e1];exact h1
   ·rw[if_neg e2]at h2
    have k2:=of_decide_eq_false h2
    rw[if_neg (by omega)]
    exact aH8 (by omega)
section
variable {prog:Program}{w:World}{A:Around}{s:Shared}{Q:Bool→Shared→Prop}
theorem rW:∀{us ws:List Value}{xs ys:af} (i:Nat),IntsAre us xs->IntsAre ws ys->Q (HT.bD xs ys) s->PySem.W.KatLex prog w A true (decide (us.length<ws.length)) Q (us.zip ws) i s
 |_,_,_,_,_,.nil,.nil,h=>h
 |_,_,_,_,_,.nil,.cons _ _ _,h=>h
 |_,_,_,_,_,.cons _ _ _,.nil,h=>h
 |_,_,_,_,i,.cons (vs:=us) x t hx,.cons (vs:=ws) y u hy,h=>by
  refine PySem.W.kat_cons (wpAny_eqBool_int ?_)
  rw[HT.gU]at h
  by_cases e:x=y
  ·rw[if_pos e]at h
   have eb:(x==y)=true:=by simpa using e
   rw[eb]
   refine PySem.W.kat_yes ?_
   have e2:decide ((Value.int x t::us).length<(Value.int y u::ws).length)=decide (us.length<ws.length):=by simp
   rw[e2]
   exact rW (i+1) hx hy h
  ·rw[if_neg e]at h
   have eb:(x==y)=false:=by simpa using e
   rw[eb]
   refine PySem.W.kat_no ?_
   cases hi:(true&&i==0) with
   |true=>exact PySem.W.kat_lt_int h
   |false=>exact PySem.W.kat_one _ _ (lt_int h)
end
def xM (K:ac):List V->Hp->VK->Prop:=λxs H Q=>∃(a:Addr) (ys:List V) (key:V->af),xs = [.ref a]/\aP K H a ys/\ys.length<64/\(∀y∈ys,∃b,y = .ref b/\aN K H b ((key y).map V.int)/\key y≠[])/\
 ∀l (zs:List V),H l=none->zs.Perm ys->zs.Pairwise (λu v=>HT.bD (key v) (key u)=false)->Q (.ref l) (upd H l (.lst zs))
theorem aa7 {c:Nat->Nat->Bool}{R:V->V->Prop}{ys:List V}{p:Array Nat}{n:Nat}(hp:Srt.PP n p)(ha:Srt.eI c p n)(hR:∀i j,Srt.Le c i j->R (ys.getD i .non) (ys.getD j .non)) :
  (p.toList.map λi=>ys.getD i .non).Pairwise R:=by
 rw[aX6,aR4]
 intro i j hi hj hij
 have hs:=hp.size
 have h1:i<n:=by rw[<- hs];simpa using hi
 have h2:j<n:=by rw[<- hs];simpa using hj
 have q:=ha i j (aS6 hij) h2
 have e:∀k (hk:k<p.toList.length),Srt.G p k=p.toList[k]:=λk hk=>by
  have hk':k<p.size:=by simpa using hk
  unfold Srt.G;rw[aV3];simp[hk']
 rw[e i hi,e j hj]at q
 exact hR _ _ q
theorem aa8 {X:Cx}:cG X (.builtin "sorted") (xM X.K):=by
 intro pins s σ H xs us Q I r h
 obtain⟨a,ys,key,rfl,hs,h64,hk,q⟩:=h
 obtain⟨u,rfl,ru⟩:=gT r
 cases ru
 obtain⟨its,rv,p,hz⟩:=I.list hs
 have hl:=rv.length
 by_cases h2:its.length<2
 ·
  refine xJ p.isList h2 ?_
  obtain⟨e,he⟩:=sortedAll_at s.heap its its.toArray
  have hn:s.heap.objs.size<=s.heap.objs.size+1:=Nat.le_succ _
  refine⟨.ref (s.heap.objs.size+1),upd H (s.heap.objs.size+1) (.lst ys),I.laid (t':=s.toks) (λ_ _=>sortedAll_old) hn ⟨hz,its,e,rv,he⟩,rfl,q _ ys (I.hok.fresh hn) (List.Perm.refl _) ?_⟩
  match ys,hl with
  |[],_=>exact List.Pairwise.nil
  |[_],_=>exact aU4 _ _
  |_::_::_,hl=>simp at hl;omega
 ·obtain⟨m,F⟩:=I.fr
  have hL:∀{b:Addr}{k:af},aN X.K H b (k.map V.int)->b≠X.env.locals:=λ{b k} z e=>by
   obtain⟨its',_,⟨ob,e1,c1,_⟩,_⟩:=I.tuple z
   obtain⟨m',⟨o',es',ep',e2,d2,_⟩,_⟩:=I.loc
   rcases z with (z|⟨_,z⟩)|⟨o3,its3,n3,z3,zc,zd,_⟩
   ·rw[e,I.free]at z;cases z
   ·rw[e,I.free]at z;cases z
   ·have:=I.kIn b o3 z3
    rw[e,e2]at this
    cases this
    rw[d2]at zd;cases zd
  refine PySem.W.kat_sorted F (O3 (g:=X.base) (h:=s.heap) (L:=X.env.locals)) p.isList (by omega) (by omega) λD e1 h' F' N' hD=>?_
  have keep:=I.newsAll (λp hp=>aJ2 _ hp) F' N'
  have look:∀i,i<ys.length->∃(b:Addr) (ob:Obj) (us:List Value) (n:Nat),its.getD i Value.none = .ref b/\h'.get? b=some ob/\ob.cls = .type "tuple"/\ob.data = .seq us.toArray n/\IntsAre us (key (ys.getD i .non))/\key (ys.getD i .non)≠[]:=λi hi=>by
   have hy:ys.getD i .non∈ys:=by
    rw[aL9,aH5 hi];exact aS3 hi
   obtain⟨b,eb,sq,ne⟩:=hk _ hy
   have rr:=m5 i hi rv
   rw[eb]at rr
   have rr:its.getD i Value.none = .ref b:=rr
   obtain⟨us,ru,⟨ob,e1,c1,n1,d1⟩,_⟩:=I.tuple sq
   exact⟨b,ob,us,n1,rr,keep b ob (hL sq) e1,c1,d1,jF ru,ne⟩
  have firsts:∀{xs:List V}{vs:List Value},aL xs vs->(∀y∈xs,∃b,y = .ref b/\aN X.K H b ((key y).map V.int)/\key y≠[])->∃fs:List Value,PySem.W.KatTups h' vs fs/\fs.length=vs.length/\∀v∈fs,∃i t,v=Value.int i t:=by
   intro xs vs r
   induction r with
   |nil=>intro _;exact⟨[],PySem.W.KatTups.nil,rfl,λ_ z=>nomatch z⟩
   |@cons x v xs vs rx rt ih=>
    intro hh
    obtain⟨fs,t1,t2,t3⟩:=ih λy hy=>hh y (aJ2 _ hy)
    obtain⟨b,eb,sq,ne⟩:=hh x aJ9
    subst eb
    cases rx
    obtain⟨us,ru,⟨ob,e1,c1,n1,d1⟩,_⟩:=I.tuple sq
    have ia:=jF ru
    generalize key (V.ref b)=kk at ia ne
    cases ia with
    |nil=>exact absurd rfl ne
    |@cons n t vs0 ns0 ht=>
     exact⟨Value.int n t::fs,PySem.W.KatTups.cons (keep b ob (hL sq) e1) c1 d1 (by simp) t1,by simp[t2],λv hv=>(aH4.mp hv).elim (λz=>⟨n,t,z⟩) (t3 v)⟩
  obtain⟨fs,t1,t2,t3⟩:=firsts rv hk
  refine PySem.W.kat_kind (T:=.type "int") t1 (by omega) (λv hv=>?_) (by decide) ?_
  ·obtain⟨i,t,rfl⟩:=t3 v hv
   exact PySem.W.Looks.now
  let c:Nat->Nat->Bool:=λi j=>HT.bD (key (ys.getD i .non)) (key (ys.getD j .non))
  have O:Srt.rQ c:=⟨λh=>xK h,λh1 h2=>xL h1 h2⟩
  have ok:=Srt.aa4 (n:=its.length) O (by omega)
  refine Srt.bQ.run (I:=λs'=>s'={ s with heap:=h' }) (λi j C s' hi hj hI hC=>?_) (λpa s' hR hI=>?_) _ _ rfl ok
  ·subst hI
   obtain⟨b1,o1,u1,n1,g1,g2,_,g4,g5,_⟩:=look i (by omega)
   obtain⟨b2,o2,u2,n2,k1,k2,_,k4,k5,_⟩:=look j (by omega)
   show wpAny _ _ (keyLt' (tuples' (Value.type "int" != Value.type "tuple")) (its.getD i Value.none) (its.getD j Value.none)) _ _ _
   rw[g1,k1]
   have eT:(Value.type "int" != Value.type "tuple")=true:=by decide
   rw[eT]
   refine PySem.W.kat_lt g2 g4 k2 k4 ?_
   have:=rW (prog:=X.prog) (w:=X.w) (A:=X.A.in1.in1) (s:={ s with heap:=h' }) (Q:=C) 0 g5 k5 (hC _ rfl)
   simpa using this
  ·subst hI
   obtain⟨hp,hasc⟩:=hR
   refine PySem.W.KasFin.intro F' N' (PySem.W.UpdF.head λp hp=>aL5 (hD p hp)) λh2 cc F2 N2=>?_
   have keep2:=I.newsAll (λp hp=>aJ2 _ hp) F2 N2
   have hDn:s.heap.get? D=none:=by
    cases z:s.heap.get? D with
    |none=>rfl
    |some o=>
     obtain⟨_,n1,n2⟩:=N2 (D,_) aJ9
     exact absurd (hD _ (uT n1 n2 z)) (aN1 _)
   have hpl:∀i∈pa.toList,i<ys.length:=λi hi=>by
    have:=List.mem_range.mp (hp.mem_iff.mp hi);omega
   have hp':pa.toList.Perm (List.range ys.length):=by rw[hl];exact hp
   have pm:=aa5 (d:=V.non) ys hp'
   obtain⟨hDo,hDL,hDb⟩:=N2 (D,_) aJ9
   obtain⟨hHD,I2⟩:=I.laidF (t':=s.toks) (a:=D) (o:=.lst (pa.toList.map λi=>ys.getD i .non)) hDn keep2 (λm' hm'=>by
     have e:m'=m:=funext λnm=>Heap.Ns.agree hm' F.ns nm
     rw[e];exact F2.ns) ⟨by rw[pm.length_eq];exact hz,_,cc,xI rv hpl,hDo⟩
   exact⟨.ref D,_,I2,rfl,q D _ hHD pm (aa7 hp hasc λi j hle=>hle)⟩
end L2
namespace Raw
open PySem PySem.W PySem.Calls PyProof.Rows
def fO (h:Heap)(d:Addr)(es:Array DictEntry)(ep:Nat):Prop:=∃o,h.get? d=some o/\o.ExactDict/\o.data = .dict es ep
theorem fO.ty {s:Shared}{d:Addr}{es:Array DictEntry}{ep:Nat}(x:fO s.heap d es ep):s.TypeIs (.ref d) "dict":=x.elim λo y=>⟨o,y.1,y.2.1.1⟩
theorem fO.lt {h:Heap}{d:Addr}{es:Array DictEntry}{ep:Nat}(x:fO h d es ep):d<h.objs.size:=x.elim λ_ y=>aI1 y.1
theorem fO.keep {h h':Heap}{d:Addr}{es:Array DictEntry}{ep:Nat}(x:fO h d es ep)(k:∀o,h.get? d=some o->h'.get? d=some o):fO h' d es ep:=x.elim λo y=>⟨o,k o y.1,y.2⟩
section
variable {prog:Program}{w:World}{A:Around}{E:Value→Shared→Prop}{s:Shared}{d it:Addr}{es:Array DictEntry}{ep i:Nat}
theorem made (far:(d==sysModules)=false)(x:fO s.heap d es ep){Q:Value->Shared->Prop}(q:Q (.ref s.heap.objs.size) { s with heap:=s.heap.push { cls:=.type "dict_keyiterator",data:=.fields #[.ref d,.int 0 0,.int es.size 0,.int ep 0] } }):wpAny (model prog w) A (pyIter (.ref d)) Q E s:=by
 have T:=x.ty
 obtain⟨o,e1,e2,e3⟩:=x
 apply wpAny_pyIter_slot T PySem.F.slot_dict_iter
 apply aP6 PySem.F.slot_dict_iter T PySem.F.entry_dict_iter _ (PySem.F.args_dict_iter_1 _)
 simp only[Builtin.«dict.__iter__»,Builtin.Dict.dictSlotNone]
 apply aH1
 apply aH1
 apply wpAny_notOrdered_dict T
 apply aH9
 change wpAny _ _ (Builtin.Dict.showsAll d >>= _) _ _ s
 have far':Builtin.Dict.showsAll d=pure ():=by
  unfold Builtin.Dict.showsAll
  simp only[far,aK7,aP4]
 rw[far',pure_bind]
 apply aH1
 apply wpAny_dictEntries e1 e3
 apply aH1
 apply wpAny_dictEpoch e1 e3
 apply aH1
 refine aP7 (aH9 ?_)
 refine⟨.ref s.heap.objs.size,rfl,"dict_keyiterator",_,⟨_,aJ3 _ rfl,rfl⟩,PySem.F.slot_dict_keyiterator_next.lookup,?_⟩
 simpa only[rawInt] using q
theorem turn (hh:A.handled=none)(hi:s.heap.IsKeyIter it d i es.size ep)(x:fO s.heap d es ep){Q:Option Value->Shared->Prop}(yes:∀(lt:i<es.size) h',h'.IsKeyIter it d (i+1) es.size ep->Heap.SameBut it s.heap h'->Q (some es[i].key) { s with heap:=h' })(no:es.size<=i->∀h',Heap.ExtBut it s.heap h'->Q none { s with heap:=h' }):wpAny (model prog w) A (pyNext (.ref it)) Q E s:=by
 have T:=hi.typeIs
 obtain⟨oi,f1,f2,f3⟩:=hi
 obtain⟨o,e1,e2,e3⟩:=x
 have slot:=PySem.F.slot_dict_keyiterator_next
 have plain:Builtin.Dict_items.ownsTuple "dict_keyiterator" = false:=by decide
 have isref:(Value.ref d==Value.none)=false:=rfl
 have nn:¬(i:Int)<0:=by omega
 unfold pyNext
 apply aH1
 apply wpAny_attempt
 apply aO0 (name:=Str.ofString "__next__") T slot
 apply aP6 slot T PySem.F.entry_dict_keyiterator_next _ (PySem.F.args_dict_keyiterator_next_1 _)
 apply aH1
 apply aH9
 apply aH1
 apply aH1
 apply aH1
 first
  |apply wpAny_typeNameOfWhole_keyiter T
  |apply wpAny_typeNameOf_keyiter T
 apply aH9
 apply aH1
 apply wpAny_fieldsOf f1 f3
 simp only[plain,aK7,aP4]
 change wpAny _ _ (if (Value.ref d==Value.none)=true then _ else _) _ _ s
 have adr:Builtin.Dict_items.addrOf (Value.ref d)=pure d:=rfl
 simp only[isref,aK7,aP4,adr,pure_bind]
 apply aH1
 apply wpAny_dictEntries e1 e3
 simp only[bne_self_eq_false,aK7,aP4]
 apply aH1
 apply wpAny_dictEpoch e1 e3
 simp only[bne_self_eq_false,aK7,aP4]
 apply aH9
 simp only[nn,aP4,Int.toNat_natCast]
 by_cases lt:i<es.size
 ·simp only[Array.getElem?_eq_getElem lt]
  apply aH1
  apply aH1
  first
   |apply wpAny_typeNameOfWhole_keyiter T
   |apply wpAny_typeNameOf_keyiter T
  apply aH9
  apply aH1
  apply wpAny_isOneOf_keyiter T
  change wpAny _ _ (setField (.ref it) 1 (rawInt ((i:Int)+1)) >>= _) _ _ s
  apply aH1
  refine wpAny_setField f1 f3 (by simp) ?_
  have again:(s.heap.update it (Obj.mapFields (·.setIfInBounds 1 (rawInt ((i:Int)+1))))).IsKeyIter it d (i+1) es.size ep:=by
   refine⟨_,Heap.get?_update_self _ f1 (Obj.isFreed_of_fields (aV8 f3 _)),?_,?_⟩
   ·rw[Obj.cls_mapFields];exact f2
   ·rw[aV8 f3];simp[rawInt]
  apply aH1
  apply aR5
  apply aH1
  refine wpAny_isOneOf_keyiter (s:={ s with heap:=s.heap.update it (Obj.mapFields (·.setIfInBounds 1 (rawInt ((i:Int)+1)))) }) again.typeIs ?_
  change wpAny _ _ (pure es[i].key) _ _ _
  apply aH9
  apply aH9
  exact⟨es[i].key,rfl,aH9 (yes lt _ again (Heap.SameBut.update ..))⟩
 ·have ge:es.size<=i:=Nat.le_of_not_lt lt
  simp only[Array.getElem?_eq_none ge]
  apply aH1
  apply aH1
  first
   |apply wpAny_typeNameOfWhole_keyiter T
   |apply wpAny_typeNameOf_keyiter T
  apply aH9
  change wpAny _ _ (setField (.ref it) 0 .none >>= _) _ _ s
  apply aH1
  refine wpAny_setField f1 f3 (by simp) ?_
  apply aH1
  simp only[newExc,newTuple]
  apply aH1
  refine aP7 ?_ (by size_fits)
  apply aH1
  refine wpAny_of_eq (a:=Value.none) (by first|rfl|(simp only[firstArgMember];rfl)) ?_
  refine aP7 ?_ (by size_fits)
  unfold raiseNew
  apply aH1
  apply wpAny_handled
  have quiet:A.in1.handled=none:=hh
  rw[quiet]
  refine wpAny_throw ?_
  apply aH1
  refine wpAny_isInstance (T:="StopIteration") (b:=true) ⟨_,aJ3 _ rfl,rfl⟩ isSubtype_stop ?_
  exact aH9 (no ge _ (((Heap.SameBut.update ..).extBut.push _).push _))
theorem aa9 (hh:A.handled=none)(ne:d≠it):Walks prog w A it [it,d] [it] es.size (λi v=>∃lt:i<es.size,es[i].key=v) (λi h=>h.IsKeyIter it d i es.size ep/\fO h d es ep) where
 sub:=by intro b hb;rw[aI3.mp hb];exact aJ9
 frame:=by
  intro i h h' st hk
  exact⟨st.1.at (hk it aJ9),st.2.keep (hk d (aJ2 _ aJ9))⟩
 item:=by
  intro i s Q E lt st hQ
  refine turn hh st.1 st.2 (λlt' h' again sb=>?_) λge=>absurd lt (Nat.not_lt.mpr ge)
  exact hQ _ h' s.toks ⟨lt',rfl⟩ ⟨again,st.2.keep λo e=>sb.extBut d o ne e⟩ λb o hb e=>sb.extBut b o (λz=>hb (aI3.mpr z)) e
 done:=by
  intro s Q E st hQ
  refine turn hh st.1 st.2 (λlt=>absurd lt (aN1 _)) λ_ h' eb=>?_
  exact hQ h' s.toks λb o hb e=>eb b o (λz=>hb (aI3.mpr z)) e
 self:=by intro i s Q E st hQ;exact wpAny_pyIter_keyiter st.1 hQ
theorem ab0 (far:(d==sysModules)=false):KdlSrc prog w "dict" d d es.size (λi v=>∃lt:i<es.size,es[i].key=v) (λh=>fO h d es ep) where
 type:=λ_ x=>x.ty
 there:=λ_ x=>⟨x.lt,x.lt⟩
 keep:=λ_ _ x k=>x.keep (k d (.inl rfl))
 notList:=by decide
 notTuple:=by decide
 hint:=λ_ _ _ _ x q=>kdl_hint_dict x.ty q
 iter:=λ_ _ hh x=>⟨_,_,λ_ _ q=>made far x q,aa9 hh (aL5 x.lt),⟨_,aJ3 _ rfl,rfl,rfl⟩,x.keep λo e=>aH2 _ e⟩
end
end Raw
namespace L2
open PySem PySem.Spec PyProof.Rows
section
variable {X:Cx}{pins:List (Addr×Obj)}{σ:St}{H:Hp}{s:Shared}{a:Addr}
def oD (H:Hp)(y:V)(k:List aM):Prop:=∃q,y = .ref q/\H q=some (.tup (k.map kV))
theorem ab1 {kvs:List (List aM×V)}(I:a6 X pins σ H s)(h:H a=some (.dT kvs)):∃es ep ys,Raw.fO s.heap a es ep/\(a==sysModules)=false/\Paired (oD H) ys (kvs.map (·.1))/\aL ys (es.toList.map (·.key))/\kvs.length<=sizeLine:=by
 obtain⟨z,far,xs,rel,o,es,ep,e1,e2,e3,e4,nd⟩:=(show bH X.prog X.w H s.heap a (.dT kvs) from I.hok a _ h)
 refine⟨es,ep,xs.map λq=>V.ref q.2.1,⟨o,e1,e2,e3⟩,far,?_,?_,z⟩
 ·clear e4 nd h z
  induction rel with
  |nil=>exact .nil
  |cons r rs ih=>exact .cons ⟨_,rfl,r.2.1⟩ ih
 ·rw[e4]
  clear rel e4 nd
  induction xs with
  |nil=>exact .nil
  |cons q qs ih=>exact .cons rfl ih
theorem ab2 {es:Array DictEntry}{acc:Array Value}(h:ItemsOf (λi v=>∃lt:i<es.size,es[i].key=v) acc es.size):acc.toList=es.toList.map (·.key):=by
 apply List.ext_getElem?
 intro j
 have h1:=h.1
 by_cases hj:j<es.size
 ·have hj':j<acc.size:=by rw[h1];exact hj
  obtain⟨_,e⟩:=h.2 j acc[j] (by simp[hj'])
  rw[aL2]
  simp[hj,hj',e]
 ·have hj':¬j<acc.size:=by rw[h1];exact hj
  rw[aL2]
  simp[Nat.le_of_not_lt hj,Nat.le_of_not_lt hj']
theorem ab3 (hc:X.calm=true):cG X (.type "list") (λxs H Q=>∃a kvs,xs = [.ref a]/\H a=some (.dT kvs)/\∀l ys,H l=none->Paired (oD H) ys (kvs.map (·.1))->Q (.ref l) (upd H l (.lst ys))):=by
 intro pins s σ H xs us Q I r h
 obtain⟨a,kvs,rfl,ha,q⟩:=h
 obtain⟨u,rfl,ru⟩:=gT r
 cases ru
 obtain⟨es,ep,ys,rd,far,pk,vk,z⟩:=ab1 I ha
 have hl:=vk.length
 have hl2:=pk.length
 rw[aJ1]at hl hl2
 have hsz:es.toList.length=es.size:=Array.length_toList
 refine PySem.W.kdl_call (Raw.ab0 far) (I.ok.hd hc) rd (by omega) λh' tk acc c kp e it=>?_
 refine⟨.ref s.heap.objs.size,_,I.laid (t':=tk) kp (aH7 _) (show bH X.prog X.w _ h' _ (.lst ys) from ⟨by omega,acc.toList,c,by rw[ab2 it];exact vk,by simpa using e⟩),rfl,q _ ys (I.hok.fresh (aH7 _)) pk⟩
end
section
variable {X:Cx}
theorem ab4:cG X (.builtin "isinstance") (λxs H Q=>∃x t n b,xs = [x,.ty n]/\eD X.K H x t/\PySem.W.kitOne X.K t (.type n)=some b/\Q (.bl b) H):=by
 intro pins s σ H xs us Q I r h
 obtain⟨x,t,n,b,rfl,ty,e,q⟩:=h
 obtain⟨u,u',rfl,ru,ru'⟩:=kJ r
 cases ru'
 exact T6 I ru ty e λtk=>⟨.bl b,H,I.tok tk,rfl,q⟩
end
def xN (outer:List (Str×NameKind))(XN:List Str)(names:List (Str×NameKind))(N:List Str)(fr:List (Option Nat)):Bool:=
 names.all (λy=>!(y.2==.cell)||names.lookup y.1==some .cell)&&names.all (λy=>!(y.2==.local)||names.lookup y.1==some .local) &&
 names.all (λy=>!(y.2==.free)||(outer.lookup y.1==some .cell||outer.lookup y.1==some .free))&&fr.length==N.length &&
 (fr.zip N).all (λp=>match p.1 with
  |none=>true
  |some j=>XN[j]?==some p.2&&names.lookup p.2==some .free)
theorem eW.of {X:Cx}{scope:Scope}{N:List Str}{fr:List (Option Nat)}(hk:scope.kind = .function)(h:xN X.env.scope.names X.N scope.names N fr=true):eW X scope N fr:=by
 unfold xN at h
 simp only[aR3]at h
 obtain⟨⟨⟨⟨h1,h2⟩,h3⟩,h4⟩,h5⟩:=h
 refine⟨hk,λy hy e=>?_,λy hy e=>?_,λy hy e=>?_,by simpa using h4,λi j e=>?_⟩
 ·have:=aV5.mp h1 y hy
  rw[e]at this;simpa using this
 ·have:=aV5.mp h2 y hy
  rw[e]at this;simpa using this
 ·have:=aV5.mp h3 y hy
  rw[e]at this;simpa using this
 ·have hl:fr.length=N.length:=by simpa using h4
  have hi:i<fr.length:=(aL0.mp e).1
  have m:(some j,N[i]'(by omega))∈fr.zip N:=by
   have:(fr.zip N)[i]? = some (some j,N[i]'(by omega)):=by
    rw[List.getElem?_zip_eq_some]
    exact⟨e,by simp⟩
   exact aU1 this
  have:=aV5.mp h5 _ m
  simp only[aR3,beq_iff_eq]at this
  exact⟨N[i]'(by omega),by simp,this.1,this.2⟩
def oE (ls:aa)(k:Int):af:=ls.flatMap λl=>(if l.1=k then [l.2] else [])++(if l.2=k then [l.1] else [])
theorem ab5 {α:Type}{xs:List α}{i:Int}{v:α}(h0:0<=i)(h:xs[i.toNat]? = some v):atI xs i=some v:=by
 have:=lT h
 rwa [show ((i.toNat:Nat):Int)=i by omega]at this
theorem jI {n:Nat}(h:n<=16000000):n<sizeLine:=by rw[sizeLine_eq];omega
theorem m6 {K:ac}{H:Hp}{p:Addr}{xs:List V}(h:aP K H p xs):gE K "list" (.ref p) H:=.inl ⟨rfl,xs,h⟩
end L2
namespace Zp
open PySem PyProof.Rows
section
variable {prog:Program}{w:World}{A:Around}{E:Value→Shared→Prop}{s:Shared}
theorem xO {it t:Addr}{i:Nat}{items:Array Value}{x:Value}{Q:Value->Shared->Prop}(hi:s.heap.IsTupleIter it t i)(ht:s.heap.IsTuple t items)(hx:items[i]? = some x)(q:∀h',h'.IsTupleIter it t (i+1)->Heap.SameBut it s.heap h'->Q x { s with heap:=h' }):wpAny (model prog w) A (Builtin.SmallTypes.nextOf (.ref it)) Q E s:=by
 have T:=hi.typeIs
 obtain⟨o,e1,e2,e3⟩:=hi
 obtain⟨u,f1,_,k,f3⟩:=ht
 have slot:=PySem.F.slot_tuple_iterator_next
 have isref:(Value.ref t==Value.none)=false:=rfl
 unfold Builtin.SmallTypes.nextOf
 apply aH1
 apply aO0 (name:=Str.ofString "__next__") T slot
 apply aP6 slot T PySem.F.entry_tuple_iterator_next _ (PySem.F.args_tuple_iterator_next_1 _)
 change wpAny _ _ (field (.ref it) 0 >>= _) _ _ s
 apply aH1
 refine aM5 e1 e3 (x:=.ref t) rfl ?_
 change wpAny _ _ (if (Value.ref t==Value.none)=true then _ else _) _ _ s
 simp only[isref,aK7,aP4]
 change wpAny _ _ (field (.ref it) 1 >>= _) _ _ s
 apply aH1
 refine aM5 e1 e3 (x:=.int i 0) rfl ?_
 change wpAny _ _ (seqItems? (.ref t) >>= _) _ _ s
 apply aH1
 apply aV9 f1 f3
 simp only[Int.toNat_natCast,hx]
 apply aH1
 refine wpAny_setField e1 e3 (by simp) ?_
 apply aH9
 refine⟨x,rfl,aH9 (q _ ⟨_,Heap.get?_update_self _ e1 (Obj.isFreed_of_fields (aV8 e3 _)),?_,?_⟩ (Heap.SameBut.update ..))⟩
 ·rw[Obj.cls_mapFields];exact e2
 ·rw[aV8 e3];simp[rawInt]
theorem xP {it t:Addr}{i:Nat}{items:Array Value}{Q:Value->Shared->Prop}(hh:A.handled=none)(hi:s.heap.IsTupleIter it t i)(ht:s.heap.IsTuple t items)(hx:items[i]? = none)(q:∀h' e,Heap.ExtBut it s.heap h'->(∃o,h'.get? e=some o/\o.cls = .type "StopIteration")->E (.ref e) { s with heap:=h' }):wpAny (model prog w) A (Builtin.SmallTypes.nextOf (.ref it)) Q E s:=by
 have T:=hi.typeIs
 obtain⟨o,e1,e2,e3⟩:=hi
 obtain⟨u,f1,_,k,f3⟩:=ht
 have slot:=PySem.F.slot_tuple_iterator_next
 have isref:(Value.ref t==Value.none)=false:=rfl
 unfold Builtin.SmallTypes.nextOf
 apply aH1
 apply aO0 (name:=Str.ofString "__next__") T slot
 apply aP6 slot T PySem.F.entry_tuple_iterator_next _ (PySem.F.args_tuple_iterator_next_1 _)
 change wpAny _ _ (field (.ref it) 0 >>= _) _ _ s
 apply aH1
 refine aM5 e1 e3 (x:=.ref t) rfl ?_
 change wpAny _ _ (if (Value.ref t==Value.none)=true then _ else _) _ _ s
 simp only[isref,aK7,aP4]
 change wpAny _ _ (field (.ref it) 1 >>= _) _ _ s
 apply aH1
 refine aM5 e1 e3 (x:=.int i 0) rfl ?_
 change wpAny _ _ (seqItems? (.ref t) >>= _) _ _ s
 apply aH1
 apply aV9 f1 f3
 simp only[Int.toNat_natCast,hx]
 apply aH1
 apply aY0
 apply aH1
 refine wpAny_setField e1 e3 (by simp) ?_
 apply aH1
 simp only[newExc,newTuple]
 apply aH1
 refine aP7 ?_ (by size_fits)
 apply aH1
 refine wpAny_of_eq (a:=Value.none) (by first|rfl|(simp only[firstArgMember];rfl)) ?_
 refine aP7 ?_ (by size_fits)
 unfold raiseNew
 apply aH1
 apply wpAny_handled
 have quiet:A.in1.handled=none:=hh
 rw[quiet]
 refine wpAny_throw ?_
 exact q _ _ (((Heap.SameBut.update ..).extBut.push _).push _) ⟨_,aJ3 _ rfl,rfl⟩
theorem ab6 (hh:A.handled=none)(it t:Addr)(ne:t≠it)(items:Array Value):Draws prog w A it [it,t] items.size (λi v=>items[i]? = some v) (λi h=>h.IsTupleIter it t i/\h.IsTuple t items) where
 live:=λ_ _ st=>st.1.elim λo y=>⟨o,y.1⟩
 frame:=λ_ _ _ st k=>⟨st.1.at λo e=>k it aJ9 o e,st.2.elim λo y=>⟨o,k t (aJ2 _ aJ9) o y.1,y.2⟩⟩
 item:=λi s Q E lt st q=>xO st.1 st.2 (Array.getElem?_eq_getElem lt) λh' again sb=>q _ h' s.toks (Array.getElem?_eq_getElem lt) ⟨again,st.2.elim λo y=>⟨o,sb.extBut t o ne y.1,y.2⟩⟩ sb
 done:=λs Q E st q=>xP hh st.1 st.2 (Array.getElem?_eq_none (aH7 _)) q
end
structure Ap (z TI TO i1 i2:Addr)(fp1 fp2:List Addr):Prop where
 TIz:TI≠z
 TOz:TO≠z
 TITO:TI≠TO
 z1:z∉fp1
 z2:z∉fp2
 o1:TO∉fp1
 o2:TO∉fp2
 t1:TI∉fp1
 t2:TI∉fp2
 m1:i1∈fp1
 m2:i2∈fp2
 n1:i1∉fp2
 n2:i2∉fp1
structure rX (z TI TO i1 i2:Addr)(St1 St2:Nat->Heap->Prop)(f0:Value)(i j:Nat)(h:Heap):Prop where
 zz:IsZip h z TI TO f0
 ti:IsPair h TI (.ref i1) (.ref i2)
 to_:∃a b,IsPair h TO a b
 s1:St1 i h
 s2:St2 j h
section
variable {prog:Program}{w:World}{A:Around}{E:Value→Shared→Prop}{s:Shared}{z TI TO i1 i2:Addr}{fp1 fp2:List Addr}{n1 n2:Nat}{P1 P2:Nat→Value→Prop}{St1 St2:Nat→Heap→Prop}
theorem kK (ap:Ap z TI TO i1 i2 fp1 fp2){b:Addr}(h:b∉fp1):b≠i1:=λe=>h (e▸ap.m1)
theorem oF (ap:Ap z TI TO i1 i2 fp1 fp2){b:Addr}(h:b∉fp2):b≠i2:=λe=>h (e▸ap.m2)
theorem item (D1:Draws prog w A.in1 i1 fp1 n1 P1 St1)(D2:Draws prog w A.in1 i2 fp2 n2 P2 St2)(ap:Ap z TI TO i1 i2 fp1 fp2){i:Nat}(l1:i<n1)(l2:i<n2)(st:rX z TI TO i1 i2 St1 St2 .none i i s.heap){Q:Option Value->Shared->Prop}(q:∀x y h' tk,P1 i x->P2 i y->rX z TI TO i1 i2 St1 St2 (rawInt s.heap.objs.size) (i+1) (i+1) h'->IsPair h' s.heap.objs.size x y->(∀c o,c≠z->c≠TO->c≠i1->c≠i2->s.heap.get? c=some o->h'.get? c=some o)->
   h'.objs.size=s.heap.objs.size+1->Q (some (.ref s.heap.objs.size)) { s with heap:=h',toks:=tk }):wpAny (model prog w) A (pyNext (.ref z)) Q E s:=by
 obtain⟨hz,hti,⟨a,b,hto⟩,h1,h2⟩:=st
 have T:s.TypeIs (.ref z) "zip":=⟨_,hz,rfl⟩
 have slot:=PySem.F.slot_zip_next
 unfold pyNext
 apply aH1
 apply wpAny_attempt
 apply aO0 (name:=Str.ofString "__next__") T slot
 apply aP6 slot T PySem.F.entry_zip_next _ (PySem.F.args_zip_next_1 _)
 change wpAny _ _ (field (.ref z) 2 >>= _) _ _ _
 apply aH1
 refine aM5 hz rfl (x:=.bool false) rfl ?_
 change wpAny _ _ (field (.ref z) 3 >>= _) _ _ _
 apply aH1
 refine aM5 hz rfl (x:=.ref TI) rfl ?_
 apply aH1
 apply aV9 hti rfl
 change wpAny _ _ (Builtin.SmallTypes.ownedTupleIsFree (.ref z) >>= _) _ _ _
 apply aH1
 unfold Builtin.SmallTypes.ownedTupleIsFree
 apply aH1
 refine aM5 hz rfl (x:=.none) rfl (aH9 ?_)
 simp only[if_true]
 apply aH1
 apply aY0
 apply aH1
 refine aM5 hz rfl (x:=.ref TO) rfl ?_
 apply aH1
 refine aO9 hz (by simp) λg1 hz1 sb1=>?_
 have k1:∀c o,c≠z->s.heap.get? c=some o->g1.get? c=some o:=λc o c1 e=>sb1.extBut c o c1 e
 apply aH1
 simp only[List.zipIdx_cons,List.zipIdx_nil,List.forIn_cons,List.forIn_nil]
 apply aH1
 apply aH1
 apply wpAny_onRaise
 change wpAny _ _ (Builtin.SmallTypes.nextOf (.ref i1) >>= _) _ _ _
 apply aH1
 refine D1.item i { s with heap:=g1 } _ _ l1 (D1.frame _ _ _ h1 λc hc o e=>k1 c o (λy=>ap.z1 (y▸hc)) e) λx g2 tk2 px st1 sb2=>aH9 ?_
 have k2:∀c o,c≠z->c≠i1->s.heap.get? c=some o->g2.get? c=some o:=λc o c1 c2 e=>sb2.extBut c o c2 (k1 c o c1 e)
 have to2:IsPair g2 TO a b:=k2 _ _ ap.TOz (kK ap ap.o1) hto
 apply aH1
 apply aV9 to2 rfl
 apply aH1
 refine wpAny_updateSeq_pair to2 λg3 to3 sb3=>?_
 have to3:IsPair g3 TO x b:=to3
 apply aH1
 apply wpAny_letGo
 apply aH9
 apply aH1
 apply aH1
 apply wpAny_onRaise
 change wpAny _ _ (Builtin.SmallTypes.nextOf (.ref i2) >>= _) _ _ _
 apply aH1
 have k3:∀c o,c≠z->c≠i1->c≠TO->s.heap.get? c=some o->g3.get? c=some o:=λc o c1 c2 c3 e=>sb3.extBut c o c3 (k2 c o c1 c2 e)
 refine D2.item i { s with heap:=g3,toks:=tk2 } _ _ l2 (D2.frame _ _ _ h2 λc hc o e=>k3 c o (λy=>ap.z2 (y▸hc)) (λy=>ap.n1 (y▸hc)) (λy=>ap.o2 (y▸hc)) e) λy g4 tk4 py st2 sb4=>aH9 ?_
 have to4:IsPair g4 TO x b:=sb4.extBut _ _ (oF ap ap.o2) to3
 apply aH1
 apply aV9 to4 rfl
 apply aH1
 refine wpAny_updateSeq_pair to4 λg5 to5 sb5=>?_
 have to5:IsPair g5 TO x y:=to5
 apply aH1
 apply wpAny_letGo
 apply aH9
 apply aH9
 apply aH1
 apply aV9 to5 rfl
 apply aH1
 refine wpAny_newTuple ?_ (by show 2<=sizeLine;decide)
 have size:g5.objs.size=s.heap.objs.size:=by rw[sb5.1,sb4.1,sb3.1,sb2.1,sb1.1]
 have k5:∀c o,c≠z->c≠TO->c≠i1->c≠i2->s.heap.get? c=some o->g5.get? c=some o:=λc o c1 c2 c3 c4 e=>sb5.extBut c o c2 (sb4.extBut c o c4 (k3 c o c1 c3 c2 e))
 have z5:IsZip g5 z TI TO .ellipsis:=sb5.extBut _ _ (Ne.symm ap.TOz) (sb4.extBut _ _ (oF ap ap.z2) (sb3.extBut _ _ (Ne.symm ap.TOz) (sb2.extBut _ _ (kK ap ap.z1) hz1)))
 change wpAny _ _ (Builtin.SmallTypes.ownedTupleHandOut (.ref z) (.ref g5.objs.size) >>= _) _ _ _
 apply aH1
 unfold Builtin.SmallTypes.ownedTupleHandOut
 apply aH1
 have z6:IsZip (g5.push { cls:=.type "tuple",data:=.seq #[x,y] }) z TI TO .ellipsis:=aH2 _ z5
 refine aO9 z6 (by simp) λg7 z7 sb7=>?_
 have z7:IsZip g7 z TI TO (rawInt g5.objs.size):=z7
 refine aO9 z7 (by simp) λg8 z8 sb8=>?_
 have z8:IsZip g8 z TI TO (rawInt g5.objs.size):=z8
 have zlt:z<g5.objs.size:=aI1 z5
 have up:∀c o,c≠z->g5.get? c=some o->g8.get? c=some o:=λc o c1 e=>sb8.extBut c o c1 (sb7.extBut c o c1 (aH2 _ e))
 have p8:IsPair g8 g5.objs.size x y:=sb8.extBut _ _ (aR7 zlt) (sb7.extBut _ _ (aR7 zlt) (aJ3 _ rfl))
 have s8:g8.objs.size=g5.objs.size+1:=by rw[sb8.1,sb7.1,aQ8]
 have f1:St1 (i+1) g8:=D1.frame _ _ _ st1 λc hc o e=>up c o (λy=>ap.z1 (y▸hc)) (sb5.extBut c o (λy=>ap.o1 (y▸hc)) (sb4.extBut c o (λy=>ap.n2 (y▸hc)) (sb3.extBut c o (λy=>ap.o1 (y▸hc)) e)))
 have f2:St2 (i+1) g8:=D2.frame _ _ _ st2 λc hc o e=>up c o (λy=>ap.z2 (y▸hc)) (sb5.extBut c o (λy=>ap.o2 (y▸hc)) e)
 have ti8:IsPair g8 TI (.ref i1) (.ref i2):=up _ _ ap.TIz (k5 _ _ ap.TIz ap.TITO (kK ap ap.t1) (oF ap ap.t2) hti)
 rw[size]at z8 p8 s8
 apply aH9
 refine⟨_,rfl,aH9 ?_⟩
 change Q (some (.ref g5.objs.size)) _
 rw[size]
 exact q x y g8 tk4 px py ⟨z8,ti8,⟨x,y,up _ _ ap.TOz to5⟩,f1,f2⟩ p8 (λc o c1 c2 c3 c4 e=>up c o c1 (k5 c o c1 c2 c3 c4 e)) s8
theorem fin (D1:Draws prog w A.in1 i1 fp1 n1 P1 St1)(D2:Draws prog w A.in1 i2 fp2 n2 P2 St2)(ap:Ap z TI TO i1 i2 fp1 fp2){i:Nat}(le:i=n1∨(i<n1/\i=n2))(st:rX z TI TO i1 i2 St1 St2 .none i i s.heap){Q:Option Value->Shared->Prop}(q:∀h' tk,(∀c o,c≠z->c≠TO->c≠i1->c≠i2->s.heap.get? c=some o->h'.get? c=some o)->Q none { s with heap:=h',toks:=tk }):wpAny (model prog w) A (pyNext (.ref z)) Q E s:=by
 obtain⟨hz,hti,⟨a,b,hto⟩,h1,h2⟩:=st
 have T:s.TypeIs (.ref z) "zip":=⟨_,hz,rfl⟩
 have slot:=PySem.F.slot_zip_next
 unfold pyNext
 apply aH1
 apply wpAny_attempt
 apply aO0 (name:=Str.ofString "__next__") T slot
 apply aP6 slot T PySem.F.entry_zip_next _ (PySem.F.args_zip_next_1 _)
 change wpAny _ _ (field (.ref z) 2 >>= _) _ _ _
 apply aH1
 refine aM5 hz rfl (x:=.bool false) rfl ?_
 change wpAny _ _ (field (.ref z) 3 >>= _) _ _ _
 apply aH1
 refine aM5 hz rfl (x:=.ref TI) rfl ?_
 apply aH1
 apply aV9 hti rfl
 change wpAny _ _ (Builtin.SmallTypes.ownedTupleIsFree (.ref z) >>= _) _ _ _
 apply aH1
 unfold Builtin.SmallTypes.ownedTupleIsFree
 apply aH1
 refine aM5 hz rfl (x:=.none) rfl (aH9 ?_)
 simp only[if_true]
 apply aH1
 apply aY0
 apply aH1
 refine aM5 hz rfl (x:=.ref TO) rfl ?_
 apply aH1
 refine aO9 hz (by simp) λg1 hz1 sb1=>?_
 have k1:∀c o,c≠z->s.heap.get? c=some o->g1.get? c=some o:=λc o c1 e=>sb1.extBut c o c1 e
 apply aH1
 simp only[List.zipIdx_cons,List.zipIdx_nil,List.forIn_cons,List.forIn_nil]
 apply aH1
 apply aH1
 apply wpAny_onRaise
 change wpAny _ _ (Builtin.SmallTypes.nextOf (.ref i1) >>= _) _ _ _
 apply aH1
 have z1:IsZip g1 z TI TO .ellipsis:=hz1
 rcases le with rfl|⟨lt,rfl⟩
 ·refine D1.done { s with heap:=g1 } _ _ (D1.frame _ _ _ h1 λc hc o e=>k1 c o (λy=>ap.z1 (y▸hc)) e) λg2 e eb ex=>?_
  have z2:IsZip g2 z TI TO .ellipsis:=eb _ _ (kK ap ap.z1) z1
  refine aO9 z2 (by simp) λg3 z3 sb3=>?_
  obtain⟨oe,eo,co⟩:=ex
  have ne:e≠z:=λy=>by
   rw[y,z2]at eo
   have:=aL6 eo
   rw[<- this]at co;exact absurd (show Value.type "zip" = Value.type "StopIteration" from co) (by decide)
  apply aH1
  refine wpAny_isInstance (T:="StopIteration") (b:=true) ⟨oe,sb3.extBut _ _ ne eo,co⟩ isSubtype_stop ?_
  exact aH9 (q g3 s.toks λc o c1 _ c3 _ e=>sb3.extBut c o c1 (eb c o c3 (k1 c o c1 e)))
 ·refine D1.item i { s with heap:=g1 } _ _ lt (D1.frame _ _ _ h1 λc hc o e=>k1 c o (λy=>ap.z1 (y▸hc)) e) λx g2 tk2 px st1 sb2=>aH9 ?_
  have k2:∀c o,c≠z->c≠i1->s.heap.get? c=some o->g2.get? c=some o:=λc o c1 c2 e=>sb2.extBut c o c2 (k1 c o c1 e)
  have to2:IsPair g2 TO a b:=k2 _ _ ap.TOz (kK ap ap.o1) hto
  apply aH1
  apply aV9 to2 rfl
  apply aH1
  refine wpAny_updateSeq_pair to2 λg3 to3 sb3=>?_
  apply aH1
  apply wpAny_letGo
  apply aH9
  apply aH1
  apply aH1
  apply wpAny_onRaise
  change wpAny _ _ (Builtin.SmallTypes.nextOf (.ref i2) >>= _) _ _ _
  apply aH1
  have k3:∀c o,c≠z->c≠i1->c≠TO->s.heap.get? c=some o->g3.get? c=some o:=λc o c1 c2 c3 e=>sb3.extBut c o c3 (k2 c o c1 c2 e)
  refine D2.done { s with heap:=g3,toks:=tk2 } _ _ (D2.frame _ _ _ h2 λc hc o e=>k3 c o (λy=>ap.z2 (y▸hc)) (λy=>ap.n1 (y▸hc)) (λy=>ap.o2 (y▸hc)) e) λg4 e eb ex=>?_
  have z4:IsZip g4 z TI TO .ellipsis:=eb _ _ (oF ap ap.z2) (sb3.extBut _ _ (Ne.symm ap.TOz) (sb2.extBut _ _ (kK ap ap.z1) z1))
  refine aO9 z4 (by simp) λg5 z5 sb5=>?_
  obtain⟨oe,eo,co⟩:=ex
  have ne:e≠z:=λy=>by
   rw[y,z4]at eo
   have:=aL6 eo
   rw[<- this]at co;exact absurd (show Value.type "zip" = Value.type "StopIteration" from co) (by decide)
  apply aH1
  refine wpAny_isInstance (T:="StopIteration") (b:=true) ⟨oe,sb5.extBut _ _ ne eo,co⟩ isSubtype_stop ?_
  exact aH9 (q g5 tk2 λc o c1 c2 c3 c4 e=>sb5.extBut c o c1 (eb c o c4 (k3 c o c1 c3 c2 e)))
end
def eY (h:Heap)(t u:Addr):Heap:=
 ((((h.push { cls:=.type "tuple_iterator",data:=.fields #[.ref t,.int 0 0] }).push { cls:=.type "tuple_iterator",data:=.fields #[.ref u,.int 0 0] }).push { cls:=.type "tuple",data:=.seq #[.ref h.objs.size,.ref (h.objs.size+1)] }).push
  { cls:=.type "tuple",data:=.seq #[.none,.none] }).push { cls:=.type "zip",data:=.fields #[.none,.bool false,.bool false,.ref (h.objs.size+2),.ref (h.objs.size+3)] }
theorem ab7 (t u:Addr)(xs ys:Array Value):Meets (Builtin.«zip.__new__» ⟨[.type "zip",.ref t,.ref u],[]⟩) (λ_ R s=>s.heap.IsTuple t xs/\s.heap.IsTuple u ys/\R (.ok (.ret (.ref (s.heap.objs.size+4)))) { s with heap:=eY s.heap t u }):=
 .of_wp λprog w A R s h=>by
  obtain⟨hp,g,d,tk,os⟩:=s
  obtain⟨ht,hu,h⟩:=h
  have sub:=sub_zip
  have a1:Heap.IsTuple (Shared.heap ⟨hp,g,d,tk,os⟩) t xs:=ht
  have a2:Heap.IsTuple (Shared.heap ⟨hp.push { cls:=.type "tuple_iterator",data:=.fields #[.ref t,.int 0 0] },g,d,tk,os⟩) u ys:=hu.elim λo y=>⟨o,aH2 _ y.1,y.2⟩
  wp_walk using aW0 a1,aW0 a2
  have e:∀(o:Obj) (k:Heap),(k.push o).objs.size=k.objs.size+1:=λo k=>aQ8 ..
  refine⟨_,rfl,?_⟩
  simp only[eY,e]at h ⊢
  exact h
section
variable {prog:Program}{w:World}{A:Around}{E:Value→Shared→Prop}{s:Shared}
theorem ab8 {t u:Addr}{xs ys:Array Value}{Q:Value->Shared->Prop}(ht:s.heap.IsTuple t xs)(hu:s.heap.IsTuple u ys)(q:∀h',IsZip h' (s.heap.objs.size+4) (s.heap.objs.size+2) (s.heap.objs.size+3) .none->IsPair h' (s.heap.objs.size+2) (.ref s.heap.objs.size) (.ref (s.heap.objs.size+1))->
   IsPair h' (s.heap.objs.size+3) .none .none->h'.IsTupleIter s.heap.objs.size t 0->h'.IsTupleIter (s.heap.objs.size+1) u 0->(∀c o,s.heap.get? c=some o->h'.get? c=some o)->Q (.ref (s.heap.objs.size+4)) { s with heap:=h' }) :
  wpAny (model prog w) A (call (.type "zip") [.ref t,.ref u]) Q E s:=by
 refine callType_new PySem.F.called_zip (by decide) (PySem.F.typeCall_zip_2 _ _) (PySem.F.newCall_zip_2 _ _) (λobj=>PySem.F.args_object_init_3 obj _ _) PySem.F.entry_zip_new (ab7 t u xs ys) ⟨ht,hu,?_⟩
 have e:∀(o:Obj) (k:Heap),(k.push o).objs.size=k.objs.size+1:=λo k=>aQ8 ..
 have p0:∀(k:Heap) (o:Obj) (m:Nat),o.isFreed=false->m=k.objs.size->(k.push o).get? m=some o:=λk o m f z=>by rw[z];exact aJ3 _ f
 have g0:(eY s.heap t u).get? s.heap.objs.size=some { cls:=.type "tuple_iterator",data:=.fields #[.ref t,.int 0 0] }:=by
  unfold eY
  exact aH2 _ (aH2 _ (aH2 _ (aH2 _ (p0 _ _ _ rfl rfl))))
 have g1:(eY s.heap t u).get? (s.heap.objs.size+1)=some { cls:=.type "tuple_iterator",data:=.fields #[.ref u,.int 0 0] }:=by
  unfold eY
  exact aH2 _ (aH2 _ (aH2 _ (p0 _ _ _ rfl (by simp only[e]))))
 have g2:(eY s.heap t u).get? (s.heap.objs.size+2)=some { cls:=.type "tuple",data:=.seq #[.ref s.heap.objs.size,.ref (s.heap.objs.size+1)] }:=by
  unfold eY
  exact aH2 _ (aH2 _ (p0 _ _ _ rfl (by simp only[e])))
 have g3:(eY s.heap t u).get? (s.heap.objs.size+3)=some { cls:=.type "tuple",data:=.seq #[.none,.none] }:=by
  unfold eY
  exact aH2 _ (p0 _ _ _ rfl (by simp only[e]))
 have g4:(eY s.heap t u).get? (s.heap.objs.size+4)=some { cls:=.type "zip",data:=.fields #[.none,.bool false,.bool false,.ref (s.heap.objs.size+2),.ref (s.heap.objs.size+3)] }:=by
  unfold eY
  exact p0 _ _ _ rfl (by simp only[e])
 refine⟨⟨_,g4,rfl⟩,q _ g4 g2 g3 ⟨_,g0,rfl,rfl⟩ ⟨_,g1,rfl,rfl⟩ λc o z=>?_⟩
 unfold eY
 exact aH2 _ (aH2 _ (aH2 _ (aH2 _ (aH2 _ z))))
end
end Zp
namespace L2
open PySem PySem.Spec PyProof.Rows
def rY (K:ac)(a b:Addr):It:=
  ⟨λi H=>∃xs ys x y,aN K H a xs/\aN K H b ys/\xs[i]? = some x/\ys[i]? = some y,
   λi H v H'=>∃T x y,H T=none/\v = .ref T/\H'=upd H T (.tup [x,y])/\∀xs ys,aN K H a xs->aN K H b ys->xs[i]? = some x/\ys[i]? = some y,
   λi H=>∃xs ys,aN K H a xs/\aN K H b ys/\(i=xs.length∨(i<xs.length/\i=ys.length))⟩
def Sq (t:Bool)(K:ac)(H:Hp)(a:Addr)(xs:List V):Prop:=match t with
 |true=>aN K H a xs
 |false=>aP K H a xs
def eZ (t:Bool)(h:Heap)(i a:Addr)(n:Nat):Prop:=match t with
 |true=>h.IsTupleIter i a n
 |false=>h.IsListIter i a n
def xQ (t:Bool)(h:Heap)(a:Addr)(xs:Array Value):Prop:=match t with
 |true=>h.IsTuple a xs
 |false=>h.IsList a xs
theorem eZ.at {h h':Heap}{i a:Addr}{n:Nat}:∀{t:Bool},eZ t h i a n->(∀o,h.get? i=some o->h'.get? i=some o)->eZ t h' i a n
 |true,x,k=>Heap.IsTupleIter.at x k
 |false,x,k=>Heap.IsListIter.at x k
theorem eZ.ob {h:Heap}{i a:Addr}{n:Nat}:∀{t:Bool},eZ t h i a n->∃o,h.get? i=some o/\∀v,o.data≠.cell v
 |true,⟨o,f,_,d⟩=>⟨o,f,λv q=>by rw[d]at q;cases q⟩
 |false,⟨o,f,_,d⟩=>⟨o,f,λv q=>by rw[d]at q;cases q⟩
theorem eZ.draws {prog:Program}{w:World}{A:Around}:∀(t:Bool) (hh:A.handled=none) (it a:Addr) (ne:a≠it) (items:Array Value),Draws prog w A it [it,a] items.size (λi v=>items[i]? = some v) (λi h=>eZ t h it a i/\xQ t h a items)
 |true,hh,it,a,ne,items=>Zp.ab6 hh it a ne items
 |false,hh,it,a,ne,items=>Draws.list hh it a ne items
section
variable {X:Cx}{pins:List (Addr×Obj)}{σ:St}{H:Hp}{s:Shared}{a:Addr}{xs ys:List V}
theorem Sq.get (I:a6 X pins σ H s):∀{t:Bool},Sq t X.K H a xs->∃us,aL xs us/\xQ t s.heap a us.toArray
 |true,h=>by obtain⟨us,r,p,_⟩:=I.tuple h;exact⟨us,r,p⟩
 |false,h=>by obtain⟨us,r,p,_⟩:=I.list h;exact⟨us,r,p.isList⟩
theorem Sq.inj (I:a6 X pins σ H s):∀{t:Bool},Sq t X.K H a xs->Sq t X.K H a ys->xs=ys
 |true,h,g=>I.tuple_inj h g
 |false,h,g=>I.list_inj h g
theorem Sq.off (I:a6 X pins σ H s)(he:H a=none)(hb:X.base.get? a=none):∀{t:Bool},Sq t X.K H a xs->False
 |true,h=>by
  rcases h with (h|⟨_,h⟩)|⟨o,_,_,h,_⟩
  ·rw[he]at h;cases h
  ·rw[he]at h;cases h
  ·have:=I.ok.mod.kin a o h
   rw[hb]at this;cases this
 |false,h=>by
  rcases h with (h|⟨_,h⟩)|⟨o,_,_,h,_⟩
  ·rw[he]at h;cases h
  ·rw[he]at h;cases h
  ·have:=I.ok.mod.kin a o h
   rw[hb]at this;cases this
end
def ab9 (t1 t2:Bool)(K:ac)(a b:Addr):It:=
  ⟨λi H=>∃xs ys x y,Sq t1 K H a xs/\Sq t2 K H b ys/\xs[i]? = some x/\ys[i]? = some y,
   λi H v H'=>∃T x y,H T=none/\v = .ref T/\H'=upd H T (.tup [x,y])/\∀xs ys,Sq t1 K H a xs->Sq t2 K H b ys->xs[i]? = some x/\ys[i]? = some y,
   λi H=>∃xs ys,Sq t1 K H a xs/\Sq t2 K H b ys/\(i=xs.length∨(i<xs.length/\i=ys.length))⟩
structure rZ (t1 t2:Bool)(z TI TO i1 i2 a b:Addr)(i:Nat)(h:Heap):Prop where
 zz:IsZip h z TI TO .none
 ti:IsPair h TI (.ref i1) (.ref i2)
 to_:∃x y,IsPair h TO x y
 s1:eZ t1 h i1 a i
 s2:eZ t2 h i2 b i
theorem xR (t1 t2:Bool){P:Program}{w:World}{K:ac}{elts:List Expr}{k:Nat}{pos:Pos}(a b z TI TO i1 i2:Addr)(d:[z,TI,TO,i1,i2].Nodup) :
  gA P w K (.Tuple elts k pos) (ab9 t1 t2 K a b) [z,TI,TO,i1,i2] z (rZ t1 t2 z TI TO i1 i2 a b):=by
 have nd:z≠TI/\z≠TO/\z≠i1/\z≠i2/\TI≠TO/\TI≠i1/\TI≠i2/\TO≠i1/\TO≠i2/\i1≠i2:=by
  simp only[List.nodup_cons,aH4,aH6,aL7,not_or]at d
  obtain⟨⟨a1,a2,a3,a4⟩,⟨b1,b2,b3⟩,⟨c1,c2⟩,e1,_⟩:=d
  exact⟨a1,a2,a3,a4,b1,b2,b3,c1,c2,e1⟩
 obtain⟨n1,n2,n3,n4,n5,n6,n7,n8,n9,n10⟩:=nd
 have offBase:∀{X:Cx}{pins:List (Addr×Obj)}{σ:St}{H:Hp}{s:Shared},a6 X pins σ H s->(∀c∈[z,TI,TO,i1,i2],dC X pins H c)->∀c∈[z,TI,TO,i1,i2],X.base.get? c=none:=by
  intro X pins σ H s I hf c hc
  cases q:X.base.get? c with
  |none=>rfl
  |some o=>
   rcases (hf c hc).2.2.2.1 with h|h
   ·exact absurd h (I.ok.noex c o q)
   ·exact absurd (aI5 (aI1 q) (aO7 I.ok.bsz h)) (aN1 _)
 have off:∀{t:Bool}{X:Cx}{pins:List (Addr×Obj)}{σ:St}{H:Hp}{s:Shared}{c:Addr}{zs:List V},a6 X pins σ H s->(∀c∈[z,TI,TO,i1,i2],dC X pins H c)->Sq t X.K H c zs->c∉[z,TI,TO,i1,i2]:=by
  intro t X pins σ H s c zs I hf hc hm
  exact Sq.off I (hf c hm).1 (offBase I hf c hm) hc
 have ap:∀{c e:Addr},c∉[z,TI,TO,i1,i2]->e∉[z,TI,TO,i1,i2]->Zp.Ap z TI TO i1 i2 [i1,c] [i2,e]:=λ{c e} hc he=>by
  simp only[aH4,aH6,aL7,not_or]at hc he
  obtain⟨c1,c2,c3,c4,c5⟩:=hc
  obtain⟨e1,e2,e3,e4,e5⟩:=he
  have two:∀{q u v:Addr},q≠u->q≠v->q∉[u,v]:=λ{q u v} h1 h2 hm=>by
   simp only[aH4,aH6,aL7]at hm
   exact hm.elim h1 h2
  exact⟨n1.symm,n2.symm,n5,two n3 (Ne.symm c1),two n4 (Ne.symm e1),two n8 (Ne.symm c3),two n9 (Ne.symm e3),two n6 (Ne.symm c2),two n7 (Ne.symm e2),aJ9,aJ9,two n10 (Ne.symm e4),two n10.symm (Ne.symm c5)⟩
 refine⟨by simp,λi h st c hc=>?_,λi h h' st kp=>?_,?_,?_,λA i s Q E st q=>wpAny_pyIter_zip st.zz q⟩
 ·simp only[aH4,aH6,aL7]at hc
  obtain⟨x,y,to⟩:=st.to_
  rcases hc with rfl|rfl|rfl|rfl|rfl
  ·exact⟨_,st.zz,λv q=>by cases q⟩
  ·exact⟨_,st.ti,λv q=>by cases q⟩
  ·exact⟨_,to,λv q=>by cases q⟩
  ·exact st.s1.ob
  ·exact st.s2.ob
 ·obtain⟨x,y,to⟩:=st.to_
  exact⟨kp z (by simp) _ st.zz,kp TI (by simp) _ st.ti,⟨x,y,kp TO (by simp) _ to⟩,st.s1.at λo e=>kp i1 (by simp) o e,st.s2.at λo e=>kp i2 (by simp) o e⟩
 ·
  intro X hP hw hK hc i pins s σ H E I hf st hg
  subst hP hw hK
  obtain⟨xs,ys,x,y,ha,hb,hx,hy⟩:=hg
  obtain⟨us,ru,pu⟩:=Sq.get I ha
  obtain⟨vs,rv,pv'⟩:=Sq.get I hb
  obtain⟨ux,eux,rux⟩:=ru.get hx
  obtain⟨vy,evy,rvy⟩:=rv.get hy
  have fa:=off I hf ha
  have fb:=off I hf hb
  have hh:X.A.in1.handled=none:=I.ok.hd hc
  have l1:i<us.toArray.size:=by simpa using (aL0.mp eux).1
  have l2:i<vs.toArray.size:=by simpa using (aL0.mp evy).1
  have fa':a≠i1:=λq=>fa (by rw[q];simp)
  have fb':b≠i2:=λq=>fb (by rw[q];simp)
  have D1:=eZ.draws t1 (prog:=X.prog) (w:=X.w) hh i1 a fa' us.toArray
  have D2:=eZ.draws t2 (prog:=X.prog) (w:=X.w) hh i2 b fb' vs.toArray
  refine Zp.item D1 D2 (ap fa fb) l1 l2 ⟨st.zz,st.ti,st.to_,⟨st.s1,pu⟩,⟨st.s2,pv'⟩⟩ λp q h' tk hp hq st' pr kp sz=>⟨_,rfl,?_⟩
  obtain rfl:p=ux:=by
   have:us.toArray[i]? = some ux:=by simpa using eux
   rw[this]at hp;exact (aL6 hp).symm
  obtain rfl:q=vy:=by
   have:vs.toArray[i]? = some vy:=by simpa using evy
   rw[this]at hq;exact (aL6 hq).symm
  refine wpAny_letOwnedTupleGo_zip (s:={ s with heap:=h',toks:=tk }) st'.zz λg zz sb=>?_
  have hzl:z<s.heap.objs.size:=aI1 st.zz
  have up:∀c o,c≠z->c≠TO->c≠i1->c≠i2->s.heap.get? c=some o->g.get? c=some o:=λc o c1 c2 c3 c4 e=>sb.extBut c o c1 (kp c o c1 c2 c3 c4 e)
  have hT:H s.heap.objs.size=none:=I.hok.fresh (aH7 _)
  have prG:IsPair g s.heap.objs.size p q:=sb.extBut _ _ (aR7 hzl) pr
  have fpn:∀c u,H c=some u->c∉[z,TI,TO,i1,i2]:=λc u e hm=>by rw[(hf c hm).1]at e;cases e
  have upH:∀c o u,H c=some u->s.heap.get? c=some o->g.get? c=some o:=λc o u e z=>by
   have:=fpn c u e
   simp only[aH4,aH6,aL7,not_or]at this
   exact up c o this.1 this.2.2.1 this.2.2.2.1 this.2.2.2.2 z
  have ns:∀m,s.heap.Ns X.env.locals m->g.Ns X.env.locals m:=λm hm=>by
   obtain⟨o,es,ep,e1,e2⟩:=hm
   exact⟨o,es,ep,up _ o (Ne.symm (hf z (by simp)).2.1) (Ne.symm (hf TO (by simp)).2.1) (Ne.symm (hf i1 (by simp)).2.1) (Ne.symm (hf i2 (by simp)).2.1) e1,e2⟩
  have I2:a6 X pins σ (upd H s.heap.objs.size (.tup [x,y])) { s with heap:=g,toks:=tk }:=by
   refine I.step (g':=s.gens) (d':=s.drawn) (ch:=[z,TO,i1,i2]) (λc hc'=>?_) (λc o _ _ hc' e _=>?_) (λc o _ _ hc' e _=>⟨o.slots,?_⟩) (λc o _ e n=>?_) (λc o hc' e=>⟨o,?_⟩)
    (λc zs e=>by rw[aJ (c9 e hT)];exact e) (λc u zs e=>by rw[aJ (c9 e hT)];exact e) (λc ps e=>⟨#[],by rw[aJ (c9 e hT),e];simp⟩) ns (λc u e=>?_) I.bare
   ·have hm:c∈[z,TI,TO,i1,i2]:=by
     simp only[aH4,aH6,aL7]at hc' ⊢
     rcases hc' with h|h|h|h<;>simp[h]
    exact⟨(hf c hm).2.2.2.1,(hf c hm).2.1,(hf c hm).2.2.2.2.1,(hf c hm).2.2.2.2.2⟩
   ·simp only[aH4,aH6,aL7,not_or]at hc'
    exact up c o hc'.1 hc'.2.1 hc'.2.2.1 hc'.2.2.2 e
   ·simp only[aH4,aH6,aL7,not_or]at hc'
    exact up c o hc'.1 hc'.2.1 hc'.2.2.1 hc'.2.2.2 e
   ·rw[aJ (aL5 (aI1 e))];exact n
   ·simp only[aH4,aH6,aL7,not_or]at hc'
    exact up c o hc'.1 hc'.2.1 hc'.2.2.1 hc'.2.2.2 e
   ·by_cases hcT:c=s.heap.objs.size
    ·subst hcT
     rw[b7]at e;cases e
     exact⟨by show 2<=sizeLine;decide,[p,q],.cons rux (.cons rvy .nil),⟨_,prG,rfl,_,rfl⟩,λu e=>by rw[prG]at e;cases e;rfl⟩
    ·rw[aJ hcT]at e
     refine (I.hok c u e).stay (λc' o' hc2 q'=>?_) (λc' q'=>by rw[aJ (c9 q' hT)];exact q') λc' zs q'=>by rw[aJ (c9 q' hT)];exact q'
     rcases hc2 with rfl|hc2
     ·exact upH _ _ _ e q'
     ·exact upH _ _ _ hc2 q'
  obtain⟨x',y',to'⟩:=st'.to_
  refine⟨.ref s.heap.objs.size,_,I2,rfl,⟨_,x,y,hT,rfl,rfl,λxs' ys' ha' hb'=>?_⟩,⟨zz,sb.extBut _ _ n1.symm st'.ti,⟨x',y',sb.extBut _ _ n2.symm to'⟩,st'.s1.1.at λo e=>sb.extBut _ o n3.symm e,st'.s2.1.at λo e=>sb.extBut _ o n4.symm e⟩,λc hc'=>?_⟩
  ·rw[Sq.inj I ha' ha,Sq.inj I hb' hb];exact⟨hx,hy⟩
  ·obtain⟨o,e,_⟩:∃o,s.heap.get? c=some o/\True:=by
    simp only[aH4,aH6,aL7]at hc'
    obtain⟨x2,y2,to2⟩:=st.to_
    obtain⟨o1,f1,_⟩:=st.s1.ob
    obtain⟨o2,f2,_⟩:=st.s2.ob
    rcases hc' with rfl|rfl|rfl|rfl|rfl
    ·exact⟨_,st.zz,trivial⟩
    ·exact⟨_,st.ti,trivial⟩
    ·exact⟨_,to2,trivial⟩
    ·exact⟨_,f1,trivial⟩
    ·exact⟨_,f2,trivial⟩
   rw[aJ (aL5 (aI1 e))];exact (hf c hc').1
 ·
  intro X hP hw hK hc i pins s σ H E I hf st hg
  subst hP hw hK
  obtain⟨xs,ys,ha,hb,hi⟩:=hg
  obtain⟨us,ru,pu⟩:=Sq.get I ha
  obtain⟨vs,rv,pv'⟩:=Sq.get I hb
  have fa:=off I hf ha
  have fb:=off I hf hb
  have hh:X.A.in1.handled=none:=I.ok.hd hc
  have fa':a≠i1:=λq=>fa (by rw[q];simp)
  have fb':b≠i2:=λq=>fb (by rw[q];simp)
  have D1:=eZ.draws t1 (prog:=X.prog) (w:=X.w) hh i1 a fa' us.toArray
  have D2:=eZ.draws t2 (prog:=X.prog) (w:=X.w) hh i2 b fb' vs.toArray
  have e1:=ru.length
  have e2:=rv.length
  refine Zp.fin D1 D2 (ap fa fb) (by simp only[aH3];omega) ⟨st.zz,st.ti,st.to_,⟨st.s1,pu⟩,⟨st.s2,pv'⟩⟩ λg tk kp=>⟨rfl,?_⟩
  have fpn:∀c u,H c=some u->c∉[z,TI,TO,i1,i2]:=λc u e hm=>by rw[(hf c hm).1]at e;cases e
  have upH:∀c o u,H c=some u->s.heap.get? c=some o->g.get? c=some o:=λc o u e z=>by
   have:=fpn c u e
   simp only[aH4,aH6,aL7,not_or]at this
   exact kp c o this.1 this.2.2.1 this.2.2.2.1 this.2.2.2.2 z
  have ns:∀m,s.heap.Ns X.env.locals m->g.Ns X.env.locals m:=λm hm=>by
   obtain⟨o,es,ep,e1,e2⟩:=hm
   exact⟨o,es,ep,kp _ o (Ne.symm (hf z (by simp)).2.1) (Ne.symm (hf TO (by simp)).2.1) (Ne.symm (hf i1 (by simp)).2.1) (Ne.symm (hf i2 (by simp)).2.1) e1,e2⟩
  refine I.step (g':=s.gens) (d':=s.drawn) (ch:=[z,TO,i1,i2]) (λc hc'=>?_) (λc o _ _ hc' e _=>?_) (λc o _ _ hc' e _=>⟨o.slots,?_⟩) (λc o _ e n=>n) (λc o hc' e=>⟨o,?_⟩)
   (λc zs e=>e) (λc u zs e=>e) (λc ps e=>⟨#[],by rw[e];simp⟩) ns (λc u e=>?_) I.bare
  ·have hm:c∈[z,TI,TO,i1,i2]:=by
    simp only[aH4,aH6,aL7]at hc' ⊢
    rcases hc' with h|h|h|h<;>simp[h]
   exact⟨(hf c hm).2.2.2.1,(hf c hm).2.1,(hf c hm).2.2.2.2.1,(hf c hm).2.2.2.2.2⟩
  ·simp only[aH4,aH6,aL7,not_or]at hc'
   exact kp c o hc'.1 hc'.2.1 hc'.2.2.1 hc'.2.2.2 e
  ·simp only[aH4,aH6,aL7,not_or]at hc'
   exact kp c o hc'.1 hc'.2.1 hc'.2.2.1 hc'.2.2.2 e
  ·simp only[aH4,aH6,aL7,not_or]at hc'
   exact kp c o hc'.1 hc'.2.1 hc'.2.2.1 hc'.2.2.2 e
  ·refine (I.hok c u e).stay (λc' o' hc2 q'=>?_) (λ_ q'=>q') λ_ _ q'=>q'
   rcases hc2 with rfl|hc2
   ·exact upH _ _ _ e q'
   ·exact upH _ _ _ hc2 q'
abbrev ac0:=rZ true true
theorem ac1 {P:Program}{w:World}{K:ac}{elts:List Expr}{k:Nat}{pos:Pos}(a b z TI TO i1 i2:Addr)(d:[z,TI,TO,i1,i2].Nodup) :
  gA P w K (.Tuple elts k pos) (rY K a b) [z,TI,TO,i1,i2] z (ac0 z TI TO i1 i2 a b):=xR true true a b z TI TO i1 i2 d
section
variable {X:Cx}
theorem ac2 (hc:X.calm=true):cG X (.builtin "all") (λxs H Q=>∃(a:Addr) (bs:List Bool),xs = [.ref a]/\aP X.K H a (bs.map V.bl)/\Q (.bl (bs.all id)) H):=by
 intro pins s σ H xs us Q I r h
 obtain⟨a,bs,rfl,hq,q⟩:=h
 obtain⟨u,rfl,ru⟩:=gT r
 cases ru
 obtain⟨its,rv,p,hz⟩:=I.list hq
 have hl:=rv.length
 rw[aJ1]at hl
 have hlt:a<s.heap.objs.size:=by obtain⟨o,e,_⟩:=p.isList;exact aI1 e
 refine call_all_walk (wpAny_pyIter_list p.isList ?_)
 have hh:X.A.in1.handled=none:=I.ok.hd hc
 refine⟨s.heap.objs.size,_,_,_,_,_,λi=>bs.getD i false,rfl,Walks.list hh s.heap.objs.size a (aL5 hlt) its.toArray,⟨⟨_,aJ3 _ rfl,rfl,rfl⟩,p.isList.push _⟩,?_,λh' tk kp=>?_⟩
 ·intro i v s' Q' E' hP hQ'
  have hi:its[i]? = some v:=by simpa using hP
  have hil:i<bs.length:=by rw[hl];exact (aL0.mp hi).1
  obtain⟨u,e1,e2⟩:=rv.get (i:=i) (x:=.bl bs[i]) (by simp[hil])
  rw[hi]at e1;cases e1
  cases e2
  have:bs.getD i false=bs[i]:=by rw[aL9,aH5 hil];rfl
  have hQ2:Q' (bs.getD i false) s':=hQ'
  rw[this]at hQ2
  exact aX2 hQ2
 ·have all_eq:(List.range its.toArray.size).all (λi=>bs.getD i false)=bs.all id:=by
   rw[aH3,<- hl]
   clear q rv hz hl hq hlt p hh kp
   induction bs with
   |nil=>rfl
   |cons b r ih=>
    rw[aM6,List.range_succ_eq_map,aY1,List.all_map,aY1,<- ih]
    rfl
  rw[all_eq]
  refine⟨.bl (bs.all id),H,I.kept (t':=tk) (h':=h') λb o e=>kp b o (λz=>?_) (aH2 _ e),rfl,q⟩
  rw[aI3.mp z]at e
  exact absurd (aI1 e) (aN1 _)
end
end L2
namespace HT
open PySem PyProof.Rows
section
variable {prog:Program}{w:World}{A:Around}{E:Value→Shared→Prop}{s:Shared}
theorem ac3 {t sl:Addr}{items:Array Value}{vl vu:Value}{lo hi:Option Int}{Q:Value->Shared->Prop}(ht:IsTup s.heap t items)(hs:s.heap.IsSliceOf sl vl vu .none)(pl:IsPart vl lo)(pu:IsPart vu hi)(h1:aR items.size 0 lo=0)(h2:aR items.size items.size hi=items.size)(h:Q (.ref t) s):wpAny (model prog w) A (getItem (.ref t) (.ref sl)) Q E s:=by
 obtain⟨o,e1,e2,e3⟩:=id hs
 have T:s.TypeIs (.ref sl) "slice":=⟨o,e1,e2⟩
 unfold getItem
 try with_reducible refine aR5 ?_
 first|refine aH1 (aH9 ?_)|skip
 apply aH1
 apply wpAny_sequenceKey ht.typeIs (by decide)
 apply aH1
 apply aO0 (name:=Str.ofString "__getitem__") ht.typeIs aT4
 apply aP6 aT4 ht.typeIs entry_tuple_getitem _ (args_tuple_getitem _ _)
 change wpAny _ _ (Builtin.Tuple.tupleItemsOf (.ref t) >>= _) _ _ s
 apply aH1
 apply tupleItemsOf_ ht
 apply aH1
 apply wpAny_typeOf T
 rw[if_pos (by decide)]
 apply aH1
 apply w5 hs pl pu
 rw[h1,h2]
 have yes:((((0:Nat):Int)==0&&(1:Int)==1&&(items.size-0)==items.size)=true):=by simp
 change wpAny _ _ (if ((((0:Nat):Int)==0&&(1:Int)==1&&(items.size-0)==items.size)=true) then _ else _) _ _ s
 rw[if_pos yes]
 apply aH1
 unfold Builtin.Tuple.tupleIsExact
 apply aH1
 apply wpAny_typeOf ht.typeIs
 apply aH9
 change wpAny _ _ (rule "tuple.getitem.whole" >>= λ_=>ret (Value.ref t)) _ _ s
 apply aH1
 apply aY0
 exact aH9 ⟨_,rfl,aH9 h⟩
end
end HT
namespace L2
open PySem PySem.Spec PyProof.Rows
section
variable {X:Cx}
def ac4 (K:ac):V->Option Int->Option Int->Hp->VK->Prop:=λx lo hi H Q=>∃a xs,x = .ref a/\aN K H a xs/\(∀p,H p=none->Q (.ref p) (upd H p (.tup (gC xs lo hi))))/\(gC xs lo hi=xs->Q (.ref a) H)
theorem ac5:iS X (ac4 X.K):=by
 intro pins s σ H x v vl vu lo hi sl Q I rx hs pl pu h
 obtain⟨a,xs,ex,hx,q1,q2⟩:=h
 by_cases hw:HT.aR xs.length 0 lo=0/\HT.aR xs.length xs.length hi=xs.length
 ·subst ex
  cases rx
  obtain⟨its,r,ht,hz⟩:=I.tuple hx
  have hlen:its.toArray.size=xs.length:=by rw[aH3];exact r.length.symm
  refine⟨"tuple",_,PyProof.Rows.slot_tuple_getitem.lookup,ht.typeIs,?_⟩
  refine HT.ac3 ht hs pl pu (by rw[hlen];exact hw.1) (by rw[hlen];exact hw.2) ⟨.ref a,H,I,rfl,q2 ?_⟩
  unfold gC
  rw[hw.1,hw.2]
  simp
 ·exact V9 pins s σ H x v vl vu lo hi sl Q I rx hs pl pu ⟨a,xs,ex,hx,hw,q1⟩
end
def sA (K:ac)(a b:Addr):It:=
  ⟨λi H=>∃xs ys x y,aP K H a xs/\aP K H b ys/\xs[i]? = some x/\ys[i]? = some y,
   λi H v H'=>∃T x y,H T=none/\v = .ref T/\H'=upd H T (.tup [x,y])/\∀xs ys,aP K H a xs->aP K H b ys->xs[i]? = some x/\ys[i]? = some y,
   λi H=>∃xs ys,aP K H a xs/\aP K H b ys/\(i=xs.length∨(i<xs.length/\i=ys.length))⟩
abbrev ac6:=rZ false false
theorem ac7 {P:Program}{w:World}{K:ac}{elts:List Expr}{k:Nat}{pos:Pos}(a b z TI TO i1 i2:Addr)(d:[z,TI,TO,i1,i2].Nodup) :
  gA P w K (.Tuple elts k pos) (sA K a b) [z,TI,TO,i1,i2] z (ac6 z TI TO i1 i2 a b):=xR false false a b z TI TO i1 i2 d
theorem ac8 (l:Addr)(items:Array Value)(n:Nat)(b:Addr)(items2:Array Value)(n2:Nat)(dd:Option Addr)(ss:Array (Option Value))(h0:¬(!items.isEmpty&&Builtin.List.listTooLong (items.size+items2.size))=true)(h1:items.size<=sizeLine)(h2:items.size+items2.size<=sizeLine+1) :
  Meets (Builtin.«list.extend» ⟨[.ref l,.ref b],[]⟩) (λ_ R s=>s.heap.get? l=some { cls:=.type "list",dict:=none,data:=.seq items n,slots:=#[] }/\s.heap.get? b=some { cls:=.type "tuple",dict:=dd,data:=.seq items2 n2,slots:=ss }/\R (.ok (.ret Value.none)) { s with heap:=s.heap.update l (Obj.mapSeq λx=>x++items2),toks:=s.toks }):=
 .of_wp λprog w A R s h=>by
  obtain⟨hp,g,d,tk,os⟩:=s;obtain⟨hl,hb,h⟩:=h;have f2:=AutoSeq1.sub_tuple_tuple;have f3:=AutoSeq1.sub_list_list;have f4:=AutoSeq1.sub_tuple_list;have f5:=AutoSeq1.sub_list_tuple
  have hz':(items++items2).size<=sizeLine+1:=by rw[Array.size_append];exact h2
  wp_walk using (wpAny_updateSeq hl rfl (hz:=h1) (_hz':=hz')),AutoSeq1.wpAny_loadPart' hl,AutoSeq1.wpAny_loadPart' hb
  exact⟨_,rfl,h⟩
def xS (K:ac):V->List V->Hp->VK->Prop:=λx vs H Q=>∃(l b:Addr) (xs zs:List V),x = .ref l/\vs = [.ref b]/\H l=some (.lst xs)/\aN K H b zs/\xs.length+zs.length<=sizeLine/\Q .non (upd H l (.lst (xs++zs)))
theorem ac9 {X:Cx}:lW X "list.extend" (xS X.K):=by
 intro pins s σ H x vs v us Q I rx rv h
 obtain⟨l,b,xs,zs,rfl,rfl,hH,hB,hz,q⟩:=h
 cases rx
 obtain⟨u,rfl,ru⟩:=rv.one
 cases ru
 obtain⟨z,its,n,r,hl,e⟩:=I.lstM hH
 obtain⟨its2,r2,⟨⟨cls,dd,data,ss⟩,e2,hc,n2,hd⟩,z2⟩:=I.tuple hB
 cases hc
 cases hd
 have hl2:=r2.length
 have hsz:its.toArray.size+its2.toArray.size<=sizeLine:=by rw[aH3,aH3];omega
 have hlong:¬(!its.toArray.isEmpty&&Builtin.List.listTooLong (its.toArray.size+its2.toArray.size))=true:=by
  rw[rG hsz,Bool.and_false]
  exact aJ0
 refine call_meets F.slot_list_extend ⟨_,e,rfl⟩ F.entry_list_extend (F.args_list_extend_2 _ _)
  (ac8 l its.toArray n b its2.toArray n2 dd ss hlong (by rw[aH3];omega) (by omega)) ⟨e,e2,?_⟩
 refine⟨.non,_,I.lset (its':=its++its2) hH e (by simp) (r.append r2) ?_,rfl,q⟩
 rw[aL1]
 omega
end L2
namespace PP
open PySem L2
inductive PV where
 |non|bl (b:Bool)|int (i:Int)|str (x:Str)|tup (xs:List PV)|lst (xs:List PV)
 |dK (kvs:List (aM×PV))|dT (kvs:List (List aM×PV))|scr (ns:af)|kt (xs:List PV)|exc (c:Str)|fK (kvs:List (aM×PV))|fT (kvs:List (List aM×PV))|fL (xs:List PV)|fn (x:Str)|ob (a:Addr)
mutual
def flat:PV->Bool
 |.tup xs=>flats xs
 |.lst _=>false
 |.dK _=>false
 |.dT _=>false
 |.non=>true
 |.bl _=>true
 |.int _=>true
 |.str _=>true
 |.scr _=>true
 |.kt xs=>flats xs
 |.exc _=>true
 |.fK _=>false
 |.fT _=>false
 |.fL xs=>flats xs
 |.fn _=>true
 |.ob _=>true
def flats:List PV->Bool
 |[]=>true
 |x::r=>flat x&&flats r
end
def i8 (K:ac)(H:Hp)(a:Addr)(ns:af):Prop:=(∃o,H a=some (.frz o (.lst (ns.map V.int)))) ∨
  ∃(o:Obj) (its:Array Value) (n:Nat),K.lookup a=some o/\o.cls = .type "list"/\o.dict=none/\o.data = .seq its n/\its.size<=sizeLine/\aL (ns.map V.int) its.toList
def kL (K:ac)(a:Addr)(us:List V):Prop:=∃(o:Obj) (its:Array Value) (n:Nat),K.lookup a=some o/\o.cls = .type "tuple"/\o.data = .seq its n/\its.size<=sizeLine/\aL us its.toList
mutual
inductive aF (K:ac)(M:Addr->Prop)(H:Hp):V->PV->Prop
 |non:aF K M H .non .non
 |bl (b:Bool):aF K M H (.bl b) (.bl b)
 |int (i:Int):aF K M H (.int i) (.int i)
 |str (x:Str):aF K M H (.str x) (.str x)
 |tup {a:Addr}{us:List V}{xs:List PV}:H a=some (.tup us)->Reps K M H us xs->aF K M H (.ref a) (.tup xs)
 |lst {a:Addr}{us:List V}{xs:List PV}:M a->H a=some (.lst us)->Reps K M H us xs->aF K M H (.ref a) (.lst xs)
 |dK {a:Addr}{kvs:List (aM×V)}{ps:List (aM×PV)}:M a->H a=some (.dK kvs)->kvs.map (·.1)=ps.map (·.1)->Reps K M H (kvs.map (·.2)) (ps.map (·.2))->aF K M H (.ref a) (.dK ps)
 |dT {a:Addr}{kvs:List (List aM×V)}{ps:List (List aM×PV)}:M a->H a=some (.dT kvs)->kvs.map (·.1)=ps.map (·.1)->Reps K M H (kvs.map (·.2)) (ps.map (·.2))->aF K M H (.ref a) (.dT ps)
 |scr {a:Addr}{ns:af}:i8 K H a ns->aF K M H (.ref a) (.scr ns)
 |kt {a:Addr}{us:List V}{xs:List PV}:kL K a us->Reps K M H us xs->aF K M H (.ref a) (.kt xs)
 |exc {a C:Addr}{o:Obj}{c:Str}:H a=some (.frz o (.own a))->PySem.W.nsIn K mainGlobals c=some (some (.ref C))->o.cls = .ref C->aF K M H (.ref a) (.exc c)
 |fK {a:Addr}{o:Obj}{kvs:List (aM×V)}{ps:List (aM×PV)}:H a=some (.frz o (.dK kvs))->kvs.map (·.1)=ps.map (·.1)->Reps K M H (kvs.map (·.2)) (ps.map (·.2))->aF K M H (.ref a) (.fK ps)
 |fT {a:Addr}{o:Obj}{kvs:List (List aM×V)}{ps:List (List aM×PV)}:H a=some (.frz o (.dT kvs))->kvs.map (·.1)=ps.map (·.1)->Reps K M H (kvs.map (·.2)) (ps.map (·.2))->aF K M H (.ref a) (.fT ps)
 |fL {a:Addr}{o:Obj}{us:List V}{xs:List PV}:H a=some (.frz o (.lst us))->Reps K M H us xs->aF K M H (.ref a) (.fL xs)
 |fn {f:Addr}{x:Str}:PySem.W.nsIn K mainGlobals x=some (some (.ref f))->aF K M H (.ref f) (.fn x)
 |ob {a:Addr}:aF K M H (.ref a) (.ob a)
inductive Reps (K:ac)(M:Addr->Prop)(H:Hp):List V->List PV->Prop
 |nil:Reps K M H [] []
 |cons {v:V}{x:PV}{vs:List V}{xs:List PV}:aF K M H v x->Reps K M H vs xs->Reps K M H (v::vs) (x::xs)
end
def sB:HO->Bool
 |.frz _ _=>true
 |_=>false
def xT:HO->Bool
 |.frz _ u=>sB u
 |.ins _ _ _=>true
 |_=>false
structure dN (M M':Addr->Prop)(H H':Hp):Prop where
 lst:∀a us,M a->H a=some (.lst us)->M' a/\H' a=some (.lst us)
 dK:∀a kvs,M a->H a=some (.dK kvs)->M' a/\H' a=some (.dK kvs)
 dT:∀a kvs,M a->H a=some (.dT kvs)->M' a/\H' a=some (.dT kvs)
 tup:∀a us,H a=some (.tup us)->H' a=some (.tup us)
 frz:∀a o u,H a=some (.frz o u)->sB u=false->H' a=some (.frz o u)
theorem i8.keep {K:ac}{H H':Hp}{a:Addr}{ns:af}(k:∀a o u,H a=some (.frz o u)->sB u=false->H' a=some (.frz o u))(h:i8 K H a ns):i8 K H' a ns:=
 h.elim (λ⟨o,e⟩=>.inl ⟨o,k _ _ _ e rfl⟩) .inr
mutual
theorem aF.keep {K:ac}{M M':Addr->Prop}{H H':Hp}(k:dN M M' H H'):∀{v:V}{x:PV},aF K M H v x->aF K M' H' v x
 |_,_,.non=>.non
 |_,_,.bl b=>.bl b
 |_,_,.int i=>.int i
 |_,_,.str x=>.str x
 |_,_,.tup h r=>.tup (k.tup _ _ h) (Reps.keep k r)
 |_,_,.lst m h r=>.lst (k.lst _ _ m h).1 (k.lst _ _ m h).2 (Reps.keep k r)
 |_,_,.dK m h e r=>.dK (k.dK _ _ m h).1 (k.dK _ _ m h).2 e (Reps.keep k r)
 |_,_,.dT m h e r=>.dT (k.dT _ _ m h).1 (k.dT _ _ m h).2 e (Reps.keep k r)
 |_,_,.scr h=>.scr (h.keep k.frz)
 |_,_,.kt h r=>.kt h (Reps.keep k r)
 |_,_,.exc h e c=>.exc (k.frz _ _ _ h rfl) e c
 |_,_,.fK h e r=>.fK (k.frz _ _ _ h rfl) e (Reps.keep k r)
 |_,_,.fT h e r=>.fT (k.frz _ _ _ h rfl) e (Reps.keep k r)
 |_,_,.fL h r=>.fL (k.frz _ _ _ h rfl) (Reps.keep k r)
 |_,_,.fn h=>.fn h
 |_,_,.ob=>.ob
theorem Reps.keep {K:ac}{M M':Addr->Prop}{H H':Hp}(k:dN M M' H H'):∀{vs:List V}{xs:List PV},Reps K M H vs xs->Reps K M' H' vs xs
 |_,_,.nil=>.nil
 |_,_,.cons r t=>.cons (aF.keep k r) (Reps.keep k t)
end
mutual
theorem aF.flat {K:ac}{M M':Addr->Prop}{H:Hp}{v:V}{x:PV}(f:flat x=true)(r:aF K M H v x):aF K M' H v x:=by
 cases r with
 |non=>exact .non
 |bl b=>exact .bl b
 |int i=>exact .int i
 |str x=>exact .str x
 |tup h r=>exact .tup h (Reps.flat (by unfold PP.flat at f;exact f) r)
 |lst m h r=>unfold PP.flat at f;cases f
 |dK m h e r=>unfold PP.flat at f;cases f
 |dT m h e r=>unfold PP.flat at f;cases f
 |scr h=>exact .scr h
 |kt h r=>exact .kt h (Reps.flat (by unfold PP.flat at f;exact f) r)
 |exc h e c=>exact .exc h e c
 |fK h e r=>unfold PP.flat at f;cases f
 |fT h e r=>unfold PP.flat at f;cases f
 |fL h r=>exact .fL h (Reps.flat (by unfold PP.flat at f;exact f) r)
 |fn h=>exact .fn h
 |ob=>exact .ob
theorem Reps.flat {K:ac}{M M':Addr->Prop}{H:Hp}{vs:List V}{xs:List PV}(f:flats xs=true)(r:Reps K M H vs xs):Reps K M' H vs xs:=by
 cases r with
 |nil=>exact .nil
 |cons r t=>
  unfold PP.flats at f
  rw[aR3]at f
  exact .cons (aF.flat f.1 r) (Reps.flat f.2 t)
end
theorem dN.same {M M':Addr->Prop}{H H':Hp}(s:aH H H')(m:∀a,M a->M' a):dN M M' H H':=
 ⟨λa _ h e=>⟨m a h,s _ _ e⟩,λa _ h e=>⟨m a h,s _ _ e⟩,λa _ h e=>⟨m a h,s _ _ e⟩,λ_ _ e=>s _ _ e,λ_ _ _ e _=>s _ _ e⟩
theorem aF.same {K:ac}{M M':Addr->Prop}{H H':Hp}{v:V}{x:PV}(r:aF K M H v x)(s:aH H H')(m:∀a,M a->M' a):aF K M' H' v x:=r.keep (.same s m)
theorem Reps.same {K:ac}{M M':Addr->Prop}{H H':Hp}{v:List V}{x:List PV}(r:Reps K M H v x)(s:aH H H')(m:∀a,M a->M' a):Reps K M' H' v x:=r.keep (.same s m)
def dO:HO->Bool
 |.lst _=>true
 |.dK _=>true
 |.dT _=>true
 |_=>false
theorem dN.upd {M M':Addr->Prop}{H:Hp}{a:Addr}{o o':HO}(h:H a=some o')(mu:dO o'=true)(m:∀b,M b->b≠a/\M' b):dN M M' H (upd H a o):=
 ⟨λb _ hb e=>⟨(m b hb).2,by rw[aJ (m b hb).1];exact e⟩,λb _ hb e=>⟨(m b hb).2,by rw[aJ (m b hb).1];exact e⟩,λb _ hb e=>⟨(m b hb).2,by rw[aJ (m b hb).1];exact e⟩,
  λb _ e=>by rw[aJ (λz=>by rw[z,h]at e;cases e;cases mu)];exact e,
  λb _ _ e _=>by rw[aJ (λz=>by rw[z,h]at e;cases e;cases mu)];exact e⟩
theorem Reps.length {K:ac}{M:Addr->Prop}{H:Hp}:∀{vs:List V}{xs:List PV},Reps K M H vs xs->vs.length=xs.length
 |_,_,.nil=>rfl
 |_,_,.cons _ t=>congrArg (·+1) t.length
theorem Reps.get {K:ac}{M:Addr->Prop}{H:Hp}:∀{vs:List V}{xs:List PV}{i:Nat}{v:V},Reps K M H vs xs->vs[i]? = some v->∃x,xs[i]? = some x/\aF K M H v x
 |_,_,_,_,.nil,e=>by simp at e
 |_,_,0,_,.cons r _,e=>by simp at e;subst e;exact⟨_,rfl,r⟩
 |_,_,i+1,v,.cons _ t,e=>by
  rw[List.getElem?_cons_succ]at e
  obtain⟨x,h1,h2⟩:=t.get e
  exact⟨x,by rw[List.getElem?_cons_succ];exact h1,h2⟩
theorem Reps.at {K:ac}{M:Addr->Prop}{H:Hp}:∀{vs:List V}{xs:List PV}{i:Nat}{x:PV},Reps K M H vs xs->xs[i]? = some x->∃v,vs[i]? = some v/\aF K M H v x
 |_,_,_,_,.nil,e=>by simp at e
 |_,_,0,_,.cons r _,e=>by simp at e;subst e;exact⟨_,rfl,r⟩
 |_,_,i+1,v,.cons _ t,e=>by
  rw[List.getElem?_cons_succ]at e
  obtain⟨x,h1,h2⟩:=t.at e
  exact⟨x,by rw[List.getElem?_cons_succ];exact h1,h2⟩
theorem Reps.append {K:ac}{M:Addr->Prop}{H:Hp}:∀{vs:List V}{xs:List PV}{us:List V}{ys:List PV},Reps K M H vs xs->Reps K M H us ys->Reps K M H (vs++us) (xs++ys)
 |_,_,_,_,.nil,s=>s
 |_,_,_,_,.cons r t,s=>.cons r (t.append s)
theorem Reps.set {K:ac}{M:Addr->Prop}{H:Hp}{v:V}{x:PV}(q:aF K M H v x):∀(i:Nat) {vs:List V}{xs:List PV},Reps K M H vs xs->Reps K M H (vs.set i v) (xs.set i x)
 |_,_,_,.nil=>.nil
 |0,_,_,.cons r t=>.cons q t
 |i+1,_,_,.cons r t=>.cons r (Reps.set q i t)
theorem Reps.take {K:ac}{M:Addr->Prop}{H:Hp}:∀(n:Nat) {vs:List V}{xs:List PV},Reps K M H vs xs->Reps K M H (vs.take n) (xs.take n)
 |0,_,_,_=>by simp;exact .nil
 |_+1,_,_,.nil=>.nil
 |n+1,_,_,.cons r t=>.cons r (Reps.take n t)
theorem Reps.drop {K:ac}{M:Addr->Prop}{H:Hp}:∀(n:Nat) {vs:List V}{xs:List PV},Reps K M H vs xs->Reps K M H (vs.drop n) (xs.drop n)
 |0,_,_,r=>r
 |_+1,_,_,.nil=>.nil
 |n+1,_,_,.cons _ t=>Reps.drop n t
abbrev intz (ns:af):List PV:=ns.map PV.int
theorem Reps.intz {K:ac}{M:Addr->Prop}{H:Hp}:∀(ns:af),Reps K M H (ns.map V.int) (intz ns)
 |[]=>.nil
 |n::r=>.cons (.int n) (Reps.intz r)
theorem Reps.ofInts {K:ac}{M:Addr->Prop}{H:Hp}:∀{ns:af}{us:List V},Reps K M H us (PP.intz ns)->us=ns.map V.int
 |[],_,.nil=>rfl
 |n::r,_,.cons q t=>by
  cases q
  rw[Reps.ofInts t];rfl
theorem cT:∀(ns:af),flats (intz ns)=true
 |[]=>rfl
 |n::r=>by show (flat (.int n)&&flats (intz r))=true;rw[cT r];rfl
inductive Tg|rd|sh|nw|fr
inductive Slot|sh (g:Bool) (x:PV)|own (x:PV)|kp (g:Bool) (a:Addr) (st un:List PV)
def Slot.val:Slot->PV
 |.sh _ x=>x
 |.own x=>x
 |.kp _ a _ _=>.ob a
def Slot.tag:Slot->Tg
 |.sh true _=>.nw
 |.sh false _=>.sh
 |.own _=>.rd
 |.kp _ _ _ _=>.nw
abbrev b6:=List (Option Slot)
def Ms (H0:Hp)(W:Addr->Prop):Bool->Addr->Prop
 |false,a=>¬W a
 |true,a=>¬W a/\H0 a=none
def Mg (H0:Hp)(W:Addr->Prop)(Hs:Hp):Tg->Addr->Prop
 |.rd,_=>True
 |.sh,a=>¬W a
 |.nw,a=>¬W a/\H0 a=none
 |.fr,a=>Hs a=none
def gG (K:ac)(M:Addr->Prop)(H:Hp)(a:Addr):PV->Prop
 |.lst xs=>∃us,H a=some (.lst us)/\Reps K M H us xs
 |.dK ps=>∃kvs,H a=some (.dK kvs)/\kvs.map (·.1)=ps.map (·.1)/\Reps K M H (kvs.map (·.2)) (ps.map (·.2))
 |.dT ps=>∃kvs,H a=some (.dT kvs)/\kvs.map (·.1)=ps.map (·.1)/\Reps K M H (kvs.map (·.2)) (ps.map (·.2))
 |_=>False
def gW (K:ac)(H0 H:Hp)(a:Addr)(st un:List PV):Prop:=∃(C dx l1 l2:Addr) (o1 o2:Obj) (us1 us2:List V),PySem.W.nsIn K mainGlobals "Keeper" = some (some (.ref C))/\(H0 a=none/\H0 dx=none/\H0 l1=none/\H0 l2=none)/\l1≠l2/\H dx=some (.own a)/\
 H a=some (.ins C dx [("standing",.ref l1),("undone",.ref l2)])/\H l1=some (.frz o1 (.frz o1 (.lst us1)))/\H l2=some (.frz o2 (.frz o2 (.lst us2)))/\Reps K (λ_=>False) H us1 st/\Reps K (λ_=>False) H us2 un
theorem gW.keep {K:ac}{H0 H H':Hp}{a:Addr}{st un:List PV}(k:dN (λ_=>False) (λ_=>False) H H')(f:∀b o,H b=some o->dO o=false->H' b=some o)(h:gW K H0 H a st un):gW K H0 H' a st un:=by
 obtain⟨C,dx,l1,l2,o1,o2,us1,us2,h1,h2,h3,h4,h5,h6,h7,r1,r2⟩:=h
 exact⟨C,dx,l1,l2,o1,o2,us1,us2,h1,h2,h3,f _ _ h4 rfl,f _ _ h5 rfl,f _ _ h6 rfl,f _ _ h7 rfl,r1.keep k,r2.keep k⟩
theorem gW.same {K:ac}{H0 H H':Hp}{a:Addr}{st un:List PV}(s:aH H H')(h:gW K H0 H a st un):gW K H0 H' a st un:=h.keep (.same s λ_ z=>z) λ_ _ e _=>s _ _ e
theorem gW.upd {K:ac}{H0 H:Hp}{a c:Addr}{o o':HO}{st un:List PV}(e:H c=some o')(mu:dO o'=true)(h:gW K H0 H a st un):gW K H0 (upd H c o) a st un:=
 h.keep (.upd e mu λ_ z=>z.elim) λb u e2 m2=>by rw[aJ (λz=>by rw[z,e]at e2;cases e2;rw[mu]at m2;cases m2)];exact e2
def xU (K:ac)(H0:Hp)(W:Addr->Prop)(H:Hp)(v:V):Slot->Prop
 |.sh g x=>aF K (Ms H0 W g) H v x
 |.own x=>∃a,v = .ref a/\W a/\gG K (Ms H0 W true) H a x
 |.kp g a st un=>v = .ref a/\gW K (cond g H0 λ_=>none) H a st un
structure PX (K:ac)(H0:Hp)(W:Addr->Prop)(σ:St)(ρ:b6)(H:Hp):Prop where
 len:ρ.length=σ.length
 same:aH H0 H
 wm:∀a,W a->H0 a=none/\∃o,H a=some o/\dO o=true
 sl:∀(i:Nat) (m:Slot),ρ[i]? = some (some m)->∃v,σ[i]? = some (some v)/\xU K H0 W H v m
 dis:∀(i j:Nat) (x y:PV) (a:Addr),ρ[i]? = some (some (.own x))->ρ[j]? = some (some (.own y))->σ[i]? = some (some (.ref a))->σ[j]? = some (some (.ref a))->i=j
theorem gG.keep {K:ac}{M M':Addr->Prop}{H H':Hp}{a:Addr}(k:dN M M' H H')(ha:∀o,H a=some o->H' a=some o):∀{x:PV},gG K M H a x->gG K M' H' a x
 |.lst _,⟨us,e,r⟩=>⟨us,ha _ e,r.keep k⟩
 |.dK _,⟨us,e,q,r⟩=>⟨us,ha _ e,q,r.keep k⟩
 |.dT _,⟨us,e,q,r⟩=>⟨us,ha _ e,q,r.keep k⟩
theorem gG.at {K:ac}{M:Addr->Prop}{H:Hp}{a:Addr}:∀{x:PV},gG K M H a x->∃o,H a=some o/\dO o=true
 |.lst _,⟨us,e,r⟩=>⟨_,e,rfl⟩
 |.dK _,⟨us,e,q,r⟩=>⟨_,e,rfl⟩
 |.dT _,⟨us,e,q,r⟩=>⟨_,e,rfl⟩
theorem gG.rep {K:ac}{M M':Addr->Prop}{H:Hp}{a:Addr}(m:∀b,M b->M' b)(ha:M' a):∀{x:PV},gG K M H a x->aF K M' H (.ref a) x
 |.lst _,⟨us,e,r⟩=>.lst ha e (r.same (aH.refl _) m)
 |.dK _,⟨us,e,q,r⟩=>.dK ha e q (r.same (aH.refl _) m)
 |.dT _,⟨us,e,q,r⟩=>.dT ha e q (r.same (aH.refl _) m)
section
variable {K:ac}{H0:Hp}{W W':Addr→Prop}{σ:St}{ρ:b6}{H H':Hp}
theorem PX.mono (p:PX K H0 W σ ρ H)(s:aH H H'):PX K H0 W σ ρ H':=by
 refine⟨p.len,p.same.trans s,λa h=>⟨(p.wm a h).1,let ⟨o,e,m⟩:=(p.wm a h).2;⟨o,s _ _ e,m⟩⟩,λi m h=>?_,p.dis⟩
 obtain⟨v,e,r⟩:=p.sl i m h
 refine⟨v,e,?_⟩
 cases m with
 |sh g x=>exact aF.same r s λ_ z=>z
 |own x=>
  obtain⟨a,e1,e2,r⟩:=r
  exact⟨a,e1,e2,r.keep (.same s λ_ z=>z) λ_ z=>s _ _ z⟩
 |kp g a st un=>exact⟨r.1,r.2.same s⟩
theorem PX.new (p:PX K H0 W σ ρ H){a:Addr}(h:H a=none):¬W a/\H0 a=none:=
 ⟨λz=>(by obtain⟨_,o,e,_⟩:=p.wm a z;rw[h]at e;cases e),p.same.free h⟩
theorem Mg.back {g:Tg}{H1:Hp}(s:aH H H1){a:Addr}(h:Mg H0 W H1 g a):Mg H0 W H g a:=by
 cases g with
 |fr=>exact s.free h
 |rd=>exact h
 |sh=>exact h
 |nw=>exact h
end
abbrev PK:=PV->Tg->Prop
abbrev aD:=b6->PK->Prop
abbrev cH:=b6->(Bool->Prop)->Prop
abbrev bS:=b6->(List (PV×Tg)->Prop)->Prop
inductive fP (K:ac)(H0:Hp)(W:Addr->Prop)(Hs H:Hp):List V->List (PV×Tg)->Prop
 |nil:fP K H0 W Hs H [] []
 |cons {v:V}{x:PV}{g:Tg}{vs:List V}{xs:List (PV×Tg)}:aF K (Mg H0 W Hs g) H v x->fP K H0 W Hs H vs xs->fP K H0 W Hs H (v::vs) ((x,g)::xs)
def oG (K:ac)(H0:Hp)(W:Addr->Prop)(H:Hp)(Q:PK)(Q':VK):Prop:=∀v H' x g,aH H H'->aF K (Mg H0 W H g) H' v x->Q x g->Q' v H'
def LE (X:Cx)(t:aD):TE:=λσ H Q'=>∃(W:Addr->Prop) (ρ:b6) (Q:PK),PX X.K X.H₀ W σ ρ H/\t ρ Q/\oG X.K X.H₀ W H Q Q'
def LT (X:Cx)(t:cH):TT:=λσ H Q'=>∃(W:Addr->Prop) (ρ:b6) (Q:Bool->Prop),PX X.K X.H₀ W σ ρ H/\t ρ Q/\∀b H',aH H H'->Q b->Q' b H'
def LA (X:Cx)(t:bS):TA:=λσ H Q'=>∃(W:Addr->Prop) (ρ:b6) (Q:List (PV×Tg)->Prop),PX X.K X.H₀ W σ ρ H/\t ρ Q/\∀vs H' xs,aH H H'->fP X.K X.H₀ W H H' vs xs->Q xs->Q' vs H'
theorem fP.same {K:ac}{H0:Hp}{W:Addr->Prop}{Hs Hs' H H':Hp}(s:aH H H')(b:aH Hs' Hs):∀{vs:List V}{xs:List (PV×Tg)},fP K H0 W Hs H vs xs->fP K H0 W Hs' H' vs xs
 |_,_,.nil=>.nil
 |_,_,.cons r t=>.cons (r.same s λ_ z=>Mg.back b z) (t.same s b)
theorem fP.any {K:ac}{H0:Hp}{W:Addr->Prop}{Hs H:Hp}:∀{vs:List V}{xs:List (PV×Tg)},fP K H0 W Hs H vs xs->Reps K (λ_=>True) H vs (xs.map (·.1))
 |_,_,.nil=>.nil
 |_,_,.cons r t=>.cons (r.same (aH.refl _) λ_ _=>trivial) t.any
def Nw:Tg->PV->Prop
 |.fr,_=>True
 |.nw,_=>True
 |_,x=>flat x=true
def m7 (xs:List (PV×Tg)):Prop:=∀p∈xs,Nw p.2 p.1
section
variable {K:ac}{H0 Hs H:Hp}{W:Addr→Prop}{σ:St}{ρ:b6}
theorem Nw.rep {g:Tg}{x:PV}{v:V}(px:PX K H0 W σ ρ Hs)(n:Nw g x)(r:aF K (Mg H0 W Hs g) H v x):aF K (Ms H0 W true) H v x:=by
 cases g with
 |fr=>exact r.same (aH.refl _) λa z=>px.new z
 |nw=>exact r.same (aH.refl _) λa z=>z
 |sh=>exact r.flat n
 |rd=>exact r.flat n
theorem m7.reps {vs:List V}:∀{xs:List (PV×Tg)}{vs:List V},PX K H0 W σ ρ Hs->m7 xs->fP K H0 W Hs H vs xs->Reps K (Ms H0 W true) H vs (xs.map (·.1))
 |_,_,px,n,.nil=>.nil
 |_,_,px,n,.cons r t=>.cons (Nw.rep px (n _ aJ9) r) (m7.reps (vs:=vs) px (λp hp=>n p (aJ2 _ hp)) t)
theorem xV {v:V}{m:Slot}(r:xU K H0 W H v m):aF K (Mg H0 W Hs m.tag) H v m.val:=by
 cases m with
 |sh g x=>
  cases g with
  |true=>exact aF.same r (aH.refl _) λ_ z=>z
  |false=>exact aF.same r (aH.refl _) λ_ z=>z
 |own x=>
  obtain⟨a,rfl,_,r⟩:=r
  exact r.rep (λ_ _=>trivial) trivial
 |kp g a st un=>obtain⟨rfl,_⟩:=r;exact .ob
end
section
variable {X:Cx}{σ:St}{H:Hp}{Q':VK}{ta tb:aD}
def a5 (i:Nat):aD:=λρ Q=>∃m,ρ[i]? = some (some m)/\Q m.val m.tag
def qC (x:PV):aD:=λ_ Q=>Q x .fr
theorem ad0 {i:Nat}(h:LE X (a5 i) σ H Q'):fM i σ H Q':=by
 obtain⟨W,ρ,Q,px,⟨m,e,q⟩,k⟩:=h
 obtain⟨v,ev,r⟩:=px.sl i m e
 exact⟨v,ev,k v H _ _ (aH.refl _) (xV r) q⟩
theorem m8 {x:PV}{v:V}(hr:∀M,aF X.K M H v x)(h:LE X (qC x) σ H Q'):tC v σ H Q':=by
 obtain⟨W,ρ,Q,px,q,k⟩:=h
 exact k v H _ _ (aH.refl _) (hr _) q
def dW (X:Cx)(R:PV->Tg->PV->Tg->PK->Prop)(r:R2):Prop:=∀(W:Addr->Prop) (Hs H:Hp) (u v:V) (x y:PV) (g g':Tg) (Q:PK) (Q':VK),aH Hs H->
 (∀a,Hs a=none->¬W a/\X.H₀ a=none)->aF X.K (Mg X.H₀ W Hs g) H u x->aF X.K (Mg X.H₀ W Hs g') H v y->R x g y g' Q->(∀w H' z gz,aH H H'->aF X.K (Mg X.H₀ W Hs gz) H' w z->Q z gz->Q' w H')->r u v H Q'
def q2 (R:PV->Tg->PV->Tg->PK->Prop)(ta tb:aD):aD:=λρ Q=>ta ρ λx g=>tb ρ λy g'=>R x g y g' Q
theorem oH {R:PV->Tg->PV->Tg->PK->Prop}{r:R2}(c:dW X R r)(h:LE X (q2 R ta tb) σ H Q'):kI r (LE X ta) (LE X tb) σ H Q':=by
 obtain⟨W,ρ,Q,px,q,k⟩:=h
 refine⟨W,ρ,_,px,q,λu H1 x g s1 r1 q1=>⟨W,ρ,_,px.mono s1,q1,λv H2 y g' s2 r2 q2=>?_⟩⟩
 exact c W H H2 u v x y g g' Q Q' (s1.trans s2) (λa z=>px.new z) (r1.same s2 λ_ z=>z) (r2.same (aH.refl _) λ_ z=>Mg.back s1 z) q2 λw H' z gz s3 r3 q3=>k w H' z gz ((s1.trans s2).trans s3) r3 q3
def RI (C:Int->Int->Prop)(f:Int->Int->PV):PV->Tg->PV->Tg->PK->Prop:=λx _ y _ Q=>∃i j,x = .int i/\y = .int j/\C i j/\Q (f i j) .fr
def fA (f:Int->Int->PV):PV->Tg->PV->Tg->PK->Prop:=λx _ y _ Q=>∃i j,x = .int i/\y = .int j/\Q (f i j) .fr
theorem oI {C:Int->Int->Prop}{f:Int->Int->Int}:dW X (RI C λi j=>.int (f i j)) (rI C λi j=>.int (f i j)):=by
 rintro W Hs H u v x y g g' Q Q' s n r1 r2 ⟨i,j,rfl,rfl,c,q⟩ k
 cases r1;cases r2
 exact⟨i,j,rfl,rfl,c,k _ _ _ _ (aH.refl _) (.int _) q⟩
theorem xW {f:Int->Int->Int}:dW X (fA λi j=>.int (f i j)) (gS λi j=>.int (f i j)):=by
 rintro W Hs H u v x y g g' Q Q' s n r1 r2 ⟨i,j,rfl,rfl,q⟩ k
 cases r1;cases r2
 exact⟨i,j,rfl,rfl,k _ _ _ _ (aH.refl _) (.int _) q⟩
theorem oJ {f:Int->Int->Bool}:dW X (fA λi j=>.bl (f i j)) (gS λi j=>.bl (f i j)):=by
 rintro W Hs H u v x y g g' Q Q' s n r1 r2 ⟨i,j,rfl,rfl,q⟩ k
 cases r1;cases r2
 exact⟨i,j,rfl,rfl,k _ _ _ _ (aH.refl _) (.bl _) q⟩
def jJ (neg:Bool):PV->Tg->PV->Tg->PK->Prop:=λx _ y _ Q=>(∃i j,x = .int i/\y = .int j/\Q (.bl (if neg=true then !decide (i=j) else decide (i=j))) .fr)∨(∃i j,x = .bl i/\y = .bl j/\Q (.bl (if neg=true then !decide (i=j) else decide (i=j))) .fr)
theorem xX (i j:Int):decide (V.int i=V.int j)=decide (i=j):=by
 rw[aW6,aM9,aM9];exact⟨λz=>V.int.inj z,λz=>congrArg V.int z⟩
theorem xY (i j:Bool):decide (V.bl i=V.bl j)=decide (i=j):=by
 rw[aW6,aM9,aM9];exact⟨λz=>V.bl.inj z,λz=>congrArg V.bl z⟩
theorem xZ:dW X (jJ false) vI:=by
 rintro W Hs H u v x y g g' Q Q' s n r1 r2 (⟨i,j,rfl,rfl,q⟩|⟨i,j,rfl,rfl,q⟩) k
 ·cases r1;cases r2
  exact⟨rfl,by rw[xX];exact k _ _ _ _ (aH.refl _) (.bl _) q⟩
 ·cases r1;cases r2
  exact⟨rfl,by rw[xY];exact k _ _ _ _ (aH.refl _) (.bl _) q⟩
theorem ad1:dW X (jJ true) vJ:=by
 rintro W Hs H u v x y g g' Q Q' s n r1 r2 (⟨i,j,rfl,rfl,q⟩|⟨i,j,rfl,rfl,q⟩) k
 ·cases r1;cases r2
  exact⟨rfl,by rw[xX];exact k _ _ _ _ (aH.refl _) (.bl _) q⟩
 ·cases r1;cases r2
  exact⟨rfl,by rw[xY];exact k _ _ _ _ (aH.refl _) (.bl _) q⟩
def aS (t:aD):cH:=λρ Q=>t ρ λx _=>∃b,x = .bl b/\Q b
theorem y3 {t:aD}{Q':Bool->Hp->Prop}(h:LT X (aS t) σ H Q'):LE X t σ H λx H'=>∃k,x = .bl k/\Q' k H':=by
 obtain⟨W,ρ,Q,px,q,k⟩:=h
 refine⟨W,ρ,_,px,q,?_⟩
 rintro v H1 x g s r ⟨b,rfl,q⟩
 cases r
 exact⟨b,rfl,k _ _ s q⟩
def fQ (t u:cH):cH:=λρ Q=>t ρ λc=>if c=true then u ρ Q else Q false
def gH (t u:cH):cH:=λρ Q=>t ρ λc=>if c=true then Q true else u ρ Q
def fB (t:cH):cH:=λρ Q=>t ρ λc=>Q (!c)
variable {t u:cH}{Qb:Bool→Hp→Prop}
theorem ad2 (h:LT X (fQ t u) σ H Qb):uV (LT X t) (LT X u) σ H Qb:=by
 obtain⟨W,ρ,Q,px,q,k⟩:=h
 refine⟨W,ρ,_,px,q,λb H1 s1 q1=>?_⟩
 cases b with
 |true=>exact b9 ⟨W,ρ,Q,px.mono s1,by simpa using q1,λb H2 s2 q2=>k _ _ (s1.trans s2) q2⟩
 |false=>exact aV (k _ _ s1 (by simpa using q1))
theorem ad3 (h:LT X (gH t u) σ H Qb):uW (LT X t) (LT X u) σ H Qb:=by
 obtain⟨W,ρ,Q,px,q,k⟩:=h
 refine⟨W,ρ,_,px,q,λb H1 s1 q1=>?_⟩
 cases b with
 |false=>exact aV ⟨W,ρ,Q,px.mono s1,by simpa using q1,λb H2 s2 q2=>k _ _ (s1.trans s2) q2⟩
 |true=>exact b9 (k _ _ s1 (by simpa using q1))
theorem ad4 (h:LT X (fB t) σ H Qb):uX (LT X t) σ H Qb:=by
 obtain⟨W,ρ,Q,px,q,k⟩:=h
 exact⟨W,ρ,_,px,q,λb H1 s1 q1=>k _ _ s1 q1⟩
def kM (ta tb:aD):aD:=λρ Q=>ta ρ λx _=>∃c,x = .bl c/\if c=true then tb ρ Q else Q (.bl false) .fr
def m9 (ta:aD):aD:=λρ Q=>ta ρ λx _=>∃c,x = .bl c/\Q (.bl (!c)) .fr
theorem oG.back {K:ac}{H0:Hp}{W:Addr->Prop}{H H1:Hp}{Q:PK}(k:oG K H0 W H Q Q')(s:aH H H1):oG K H0 W H1 Q Q':=λv H' x g s' r q=>k v H' x g (s.trans s') (r.same (aH.refl _) λ_ z=>Mg.back s z) q
theorem ad5 (h:LE X (kM ta tb) σ H Q'):uY (LE X ta) (LE X tb) σ H Q':=by
 obtain⟨W,ρ,Q,px,q,k⟩:=h
 refine⟨W,ρ,_,px,q,?_⟩
 rintro v H1 x g s1 r ⟨c,rfl,q⟩
 cases r
 refine⟨c,rfl,?_⟩
 cases c with
 |true=>exact b9 ⟨W,ρ,Q,px.mono s1,by simpa using q,k.back s1⟩
 |false=>exact aV (k _ _ _ _ s1 (.bl _) (by simpa using q))
theorem ad6 (h:LE X (m9 ta) σ H Q'):uZ (LE X ta) σ H Q':=by
 obtain⟨W,ρ,Q,px,q,k⟩:=h
 refine⟨W,ρ,_,px,q,?_⟩
 rintro v H1 x g s1 r ⟨c,rfl,q⟩
 cases r
 exact⟨c,rfl,k _ _ _ _ s1 (.bl _) q⟩
def aB:bS:=λ_ Q=>Q []
def a7 (te:aD)(tr:bS):bS:=λρ Q=>te ρ λx g=>tr ρ λxs=>Q ((x,g)::xs)
variable {Qa:List V→Hp→Prop}{tr:bS}
theorem ad7 (h:LA X aB σ H Qa):gB σ H Qa:=by
 obtain⟨W,ρ,Q,px,q,k⟩:=h
 exact k _ _ _ (aH.refl _) .nil q
theorem ad8 (h:LA X (a7 ta tr) σ H Qa):dL (LE X ta) (LA X tr) σ H Qa:=by
 obtain⟨W,ρ,Q,px,q,k⟩:=h
 refine⟨W,ρ,_,px,q,λv H1 x g s1 r1 q1=>⟨W,ρ,_,px.mono s1,q1,λvs H2 xs s2 r2 q2=>?_⟩⟩
 exact k _ _ _ (s1.trans s2) (.cons (r1.same s2 λ_ z=>z) (r2.same (aH.refl _) s1)) q2
def dE (t:bS):aD:=λρ Q=>t ρ λxs=>xs.length<=1000/\flats (xs.map (·.1))=true/\Q (.tup (xs.map (·.1))) .fr
def dP (t:bS):aD:=λρ Q=>t ρ λxs=>xs.length<=1000/\flats (xs.map (·.1))=true/\Q (.lst (xs.map (·.1))) .fr
theorem fP.length {K:ac}{H0:Hp}{W:Addr->Prop}{Hs H:Hp}:∀{vs:List V}{xs:List (PV×Tg)},fP K H0 W Hs H vs xs->vs.length=xs.length
 |_,_,.nil=>rfl
 |_,_,.cons _ t=>congrArg (·+1) t.length
theorem mB {n:Nat}(h:n<=1000):n<=sizeLine:=aS6 (wZ h)
theorem ad9 (h:LE X (dE tr) σ H Q'):vQ (LA X tr) σ H Q':=by
 obtain⟨W,ρ,Q,px,q,k⟩:=h
 refine⟨W,ρ,_,px,q,?_⟩
 rintro vs H1 xs s1 r ⟨hl,n,q⟩
 refine⟨by rw[r.length];exact mB hl,λp hp=>k _ _ _ .fr (s1.trans (b8 hp _)) (.tup b7 ?_) q⟩
 exact (r.any.flat n).same (b8 hp _) λ_ z=>z
theorem ae0 (h:LE X (dP tr) σ H Q'):nT (LA X tr) σ H Q':=by
 obtain⟨W,ρ,Q,px,q,k⟩:=h
 refine⟨W,ρ,_,px,q,?_⟩
 rintro vs H1 xs s1 r ⟨hl,n,q⟩
 refine⟨by rw[r.length];exact mB hl,λp hp=>k _ _ _ .fr (s1.trans (b8 hp _)) (.lst (s1.free hp) b7 ?_) q⟩
 exact (r.any.flat n).same (b8 hp _) λ_ z=>z
def eJ (X:Cx)(R:List PV->(PV->Prop)->Prop)(r:List V->Hp->VK->Prop):Prop:=∀(H:Hp) (vs:List V) (xs:List PV) (Q:PV->Prop) (Q':VK),Reps X.K (λ_=>True) H vs xs->R xs Q->
 (∀w H' z,aH H H'->aF X.K (λa=>H a=none) H' w z->Q z->Q' w H')->r vs H Q'
def aI (R:List PV->(PV->Prop)->Prop)(t:bS):aD:=λρ Q=>t ρ λxs=>R (xs.map (·.1)) λz=>Q z .fr
theorem yA {R:List PV->(PV->Prop)->Prop}{r:List V->Hp->VK->Prop}(c:eJ X R r)(h:LE X (aI R tr) σ H Q'):r6 r (LA X tr) σ H Q':=by
 obtain⟨W,ρ,Q,px,q,k⟩:=h
 refine⟨W,ρ,_,px,q,λvs H1 xs s1 r1 q1=>c H1 vs _ _ Q' r1.any q1 λw H' z s2 r2 q2=>k w H' z .fr (s1.trans s2) (r2.same (aH.refl _) λ_ z=>s1.free z) q2⟩
end
structure dX where
 nx:b6->Prop
 rt:PV->Prop
 bk:b6->Prop:=λ_=>False
 ct:b6->Prop:=λ_=>False
abbrev aK:=dX->b6->Prop
def Ev (W:Addr->Prop)(H:Hp)(W':Addr->Prop)(H':Hp):Prop:=∀b o,H b=some o->¬W b->xT o=false->H' b=some o/\¬W' b
theorem Ev.trans {W W1 W2:Addr->Prop}{H H1 H2:Hp}(a:Ev W H W1 H1)(b:Ev W1 H1 W2 H2):Ev W H W2 H2:=λc o h n z=>let ⟨h1,n1⟩:=a c o h n z;b c o h1 n1 z
theorem Ev.same {W:Addr->Prop}{H H':Hp}(s:aH H H'):Ev W H W H':=λc o h n _=>⟨s _ _ h,n⟩
theorem Ev.refl (W:Addr->Prop)(H:Hp):Ev W H W H:=Ev.same (aH.refl _)
structure mC (X:Cx)(W:Addr->Prop)(H:Hp)(D':dX)(D:bN):Prop where
 nx:∀W' σ' H' ρ',Ev W H W' H'->PX X.K X.H₀ W' σ' ρ' H'->D'.nx ρ'->D.nx σ' H'
 rt:∀v H' x,aH X.H₀ H'->aF X.K (λa=>X.H₀ a=none) H' v x->D'.rt x->D.rt v H'
 bk:∀W' σ' H' ρ',Ev W H W' H'->PX X.K X.H₀ W' σ' ρ' H'->D'.bk ρ'->D.bk σ' H'
 ct:∀W' σ' H' ρ',Ev W H W' H'->PX X.K X.H₀ W' σ' ρ' H'->D'.ct ρ'->D.ct σ' H'
theorem mC.step {X:Cx}{W W1:Addr->Prop}{H H1:Hp}{D':dX}{D:bN}(k:mC X W H D' D)(e:Ev W H W1 H1):mC X W1 H1 D' D:=
 ⟨λW' σ' H' ρ' e'=>k.nx W' σ' H' ρ' (e.trans e'),k.rt,λW' σ' H' ρ' e'=>k.bk W' σ' H' ρ' (e.trans e'),λW' σ' H' ρ' e'=>k.ct W' σ' H' ρ' (e.trans e')⟩
def LS (X:Cx)(t:aK):TS:=λD σ H=>∃(W:Addr->Prop) (ρ:b6) (D':dX),PX X.K X.H₀ W σ ρ H/\t D' ρ/\mC X W H D' D
theorem fC {α:Type}{l:List α}{i j:Nat}{a b:α}(h:(l.set i a)[j]? = some b):(j=i/\i<l.length/\b=a)∨(j≠i/\l[j]? = some b):=by
 by_cases e:j=i
 ·subst e
  have hl:j<(l.set j a).length:=(aL0.mp h).1
  rw[aO4]at hl
  rw[aP8 hl]at h
  exact .inl ⟨rfl,hl,(aL6 h).symm⟩
 ·rw[aK0 (Ne.symm e)]at h
  exact .inr ⟨e,h⟩
section
variable {K:ac}{H0:Hp}{W W':Addr→Prop}{σ:St}{ρ:b6}{H H' Hs:Hp}
theorem PX.setSh {i:Nat}{v:V}{g:Bool}{x:PV}(p:PX K H0 W σ ρ H)(r:aF K (Ms H0 W g) H v x):PX K H0 W (σ.set i (some v)) (ρ.set i (some (.sh g x))) H:=by
 refine⟨by rw[aO4,aO4];exact p.len,p.same,p.wm,λj m h=>?_,λj k y z a h1 h2 h3 h4=>?_⟩
 ·rcases fC h with⟨rfl,hl,e⟩|⟨hne,h⟩
  ·cases e
   rw[p.len]at hl
   exact⟨v,aP8 hl,r⟩
  ·obtain⟨u,e,q⟩:=p.sl j m h
   exact⟨u,by rw[aK0 (Ne.symm hne)];exact e,q⟩
 ·rcases fC h1 with⟨_,_,e⟩|⟨n1,h1⟩
  ·cases e
  ·rcases fC h2 with⟨_,_,e⟩|⟨n2,h2⟩
   ·cases e
   ·rw[aK0 (Ne.symm n1)]at h3
    rw[aK0 (Ne.symm n2)]at h4
    exact p.dis j k y z a h1 h2 h3 h4
theorem PX.setNone {i:Nat}{o:Option V}(p:PX K H0 W σ ρ H):PX K H0 W (σ.set i o) (ρ.set i none) H:=by
 refine⟨by rw[aO4,aO4];exact p.len,p.same,p.wm,λj m h=>?_,λj k y z a h1 h2 h3 h4=>?_⟩
 ·rcases fC h with⟨rfl,hl,e⟩|⟨hne,h⟩
  ·cases e
  ·obtain⟨u,e,q⟩:=p.sl j m h
   exact⟨u,by rw[aK0 (Ne.symm hne)];exact e,q⟩
 ·rcases fC h1 with⟨_,_,e⟩|⟨n1,h1⟩
  ·cases e
  ·rcases fC h2 with⟨_,_,e⟩|⟨n2,h2⟩
   ·cases e
   ·rw[aK0 (Ne.symm n1)]at h3
    rw[aK0 (Ne.symm n2)]at h4
    exact p.dis j k y z a h1 h2 h3 h4
def kN (W:Addr->Prop)(a:Addr):Addr->Prop:=λb=>W b∨b=a
theorem sC {g:Bool}{a b:Addr}(n:b≠a)(h:Ms H0 W g b):Ms H0 (kN W a) g b:=by
 cases g with
 |true=>exact⟨λz=>z.elim h.1 n,h.2⟩
 |false=>exact λz=>z.elim h n
theorem PX.setOwn {i:Nat}{a:Addr}{x:PV}(p:PX K H0 W σ ρ Hs)(s:aH Hs H)(ha:Hs a=none)(r:gG K (Ms H0 (kN W a) true) H a x):PX K H0 (kN W a) (σ.set i (some (.ref a))) (ρ.set i (some (.own x))) H:=by
 have old:∀b o,Hs b=some o->b≠a:=λb o e z=>by rw[z,ha]at e;cases e
 have kp:∀g,dN (Ms H0 W g) (Ms H0 (kN W a) g) Hs H:=λg=>⟨λb _ m e=>⟨sC (old _ _ e) m,s _ _ e⟩,λb _ m e=>⟨sC (old _ _ e) m,s _ _ e⟩,λb _ m e=>⟨sC (old _ _ e) m,s _ _ e⟩,λ_ _ e=>s _ _ e,λ_ _ _ e _=>s _ _ e⟩
 have wa:¬W a:=(p.new ha).1
 refine⟨by rw[aO4,aO4];exact p.len,p.same.trans s,λb z=>?_,λj m h=>?_,λj k y z b h1 h2 h3 h4=>?_⟩
 ·rcases z with z|rfl
  ·obtain⟨h1,o,h2,h3⟩:=p.wm b z
   exact⟨h1,o,s _ _ h2,h3⟩
  ·exact⟨(p.new ha).2,r.at⟩
 ·rcases fC h with⟨rfl,hl,e⟩|⟨hne,h⟩
  ·cases e
   rw[p.len]at hl
   exact⟨_,aP8 hl,a,rfl,.inr rfl,r⟩
  ·obtain⟨u,e,q⟩:=p.sl j m h
   refine⟨u,by rw[aK0 (Ne.symm hne)];exact e,?_⟩
   cases m with
   |sh g y=>exact aF.keep (kp g) q
   |own y=>
    obtain⟨b,e1,e2,q⟩:=q
    exact⟨b,e1,.inl e2,q.keep (kp true) λo z=>s _ _ z⟩
   |kp g c st un=>exact⟨q.1,q.2.same s⟩
 ·have ne:∀{j:Nat}{y:PV},ρ[j]? = some (some (.own y))->σ[j]?≠some (some (.ref a)):=λ{j y} h1 h2=>by
   obtain⟨u,e,c,e1,e2,_⟩:=p.sl j _ h1
   rw[h2]at e
   cases e
   cases e1
   exact wa e2
  rcases fC h1 with⟨e1,l1,_⟩|⟨n1,h1⟩
  ·rcases fC h2 with⟨e2,_,_⟩|⟨n2,h2⟩
   ·rw[e1,e2]
   ·rw[e1,aP8 (by rw[<- p.len];exact l1)]at h3
    rw[aK0 (Ne.symm n2)]at h4
    cases h3
    exact absurd h4 (ne h2)
  ·rw[aK0 (Ne.symm n1)]at h3
   rcases fC h2 with⟨e2,l2,_⟩|⟨n2,h2⟩
   ·rw[e2,aP8 (by rw[<- p.len];exact l2)]at h4
    cases h4
    exact absurd h3 (ne h1)
   ·rw[aK0 (Ne.symm n2)]at h4
    exact p.dis j k y z b h1 h2 h3 h4
theorem Ev.own {a:Addr}(s:aH Hs H)(ha:Hs a=none):Ev W Hs (kN W a) H:=λb o e n _=>⟨s _ _ e,λz=>z.elim n λz=>by rw[z,ha]at e;cases e⟩
theorem kO {g:Bool}{a b:Addr}(wa:W a)(h:Ms H0 W g b):b≠a:=by
 cases g with
 |true=>exact λz=>h.1 (by rw[z];exact wa)
 |false=>exact λz=>h (by rw[z];exact wa)
theorem PX.updOwn {i:Nat}{a:Addr}{x y:PV}{o:HO}(p:PX K H0 W σ ρ H)(hi:ρ[i]? = some (some (.own x)))(ha:σ[i]? = some (some (.ref a)))(wa:W a)(mu:dO o=true)(r:gG K (Ms H0 W true) (upd H a o) a y) :
  PX K H0 W σ (ρ.set i (some (.own y))) (upd H a o):=by
 obtain⟨w0,o',e',mu'⟩:=p.wm a wa
 have kp:∀g,dN (Ms H0 W g) (Ms H0 W g) H (upd H a o):=λg=>.upd e' mu' λb m=>⟨kO wa m,m⟩
 refine⟨by rw[aO4];exact p.len,λb u e=>by rw[aJ (λz=>by rw[z,w0]at e;cases e)];exact p.same _ _ e,λb z=>?_,λj m h=>?_,λj k y' z b h1 h2 h3 h4=>?_⟩
 ·by_cases e:b=a
  ·subst e;exact⟨w0,o,b7,mu⟩
  ·obtain⟨h1,o2,h2,h3⟩:=p.wm b z
   exact⟨h1,o2,by rw[aJ e];exact h2,h3⟩
 ·rcases fC h with⟨rfl,hl,e⟩|⟨hne,h⟩
  ·cases e
   exact⟨_,ha,a,rfl,wa,r⟩
  ·obtain⟨u,e,q⟩:=p.sl j m h
   refine⟨u,e,?_⟩
   cases m with
   |sh g y=>exact aF.keep (kp g) q
   |own y=>
    obtain⟨b,e1,e2,q⟩:=q
    have hb:b≠a:=λz=>by
     subst e1
     rw[z]at e
     exact hne (p.dis j i _ _ a h hi e ha)
    exact⟨b,e1,e2,q.keep (kp true) λo z=>by rw[aJ hb];exact z⟩
   |kp g c st un=>exact⟨q.1,q.2.upd e' mu'⟩
 ·have g1:∃y,ρ[j]? = some (some (.own y)):=by
   rcases fC h1 with⟨e,_,_⟩|⟨_,h⟩
   ·exact⟨x,by rw[e];exact hi⟩
   ·exact⟨_,h⟩
  have g2:∃y,ρ[k]? = some (some (.own y)):=by
   rcases fC h2 with⟨e,_,_⟩|⟨_,h⟩
   ·exact⟨x,by rw[e];exact hi⟩
   ·exact⟨_,h⟩
  obtain⟨y1,g1⟩:=g1
  obtain⟨y2,g2⟩:=g2
  exact p.dis j k y1 y2 b g1 g2 h3 h4
theorem Ev.upd {a:Addr}{o:HO}(wa:W a):Ev W H W (upd H a o):=λb u e n _=>⟨by rw[aJ (λz=>n (by rw[z];exact wa))];exact e,n⟩
end
section
variable {X:Cx}{σ:St}{H:Hp}{D:bN}{te:aD}{t u:aK}
def cB:aK:=λD ρ=>D.nx ρ
def aO (t u:aK):aK:=λD ρ=>t { D with nx:=u D } ρ
theorem ae1 (h:LS X cB D σ H):v3 D σ H:=by
 obtain⟨W,ρ,D',px,q,k⟩:=h
 exact k.nx W σ H ρ (Ev.refl _ _) px q
theorem ae2 (h:LS X (aO t u) D σ H):kB (LS X t) (LS X u) D σ H:=by
 obtain⟨W,ρ,D',px,q,k⟩:=h
 exact⟨W,ρ,_,px,q,λW' σ' H' ρ' e px' q'=>⟨W',ρ',D',px',q',k.step e⟩,k.rt,k.bk,k.ct⟩
def sD:Tg->PV->Bool
 |.fr,_=>true
 |.nw,_=>true
 |_,x=>flat x
def oK:Tg->PV->Prop
 |.rd,x=>flat x=true
 |_,_=>True
theorem yB {K:ac}{H0 Hs H:Hp}{W:Addr->Prop}{σ:St}{ρ:b6}{g:Tg}{x:PV}{v:V}(px:PX K H0 W σ ρ Hs)(n:oK g x)(r:aF K (Mg H0 W Hs g) H v x):aF K (Ms H0 W (sD g x)) H v x:=by
 cases g with
 |fr=>exact Nw.rep (g:=.fr) px trivial r
 |nw=>exact Nw.rep (g:=.nw) px trivial r
 |sh=>
  show aF K (Ms H0 W (flat x)) H v x
  cases e:flat x with
  |true=>exact r.flat e
  |false=>exact r.same (aH.refl _) λ_ z=>z
 |rd=>exact r.flat n
def bG (i:Nat)(te:aD):aK:=λD ρ=>te ρ λx g=>oK g x/\D.nx (ρ.set i (some (.sh (sD g x) x)))
theorem yC {i:Nat}(h:LS X (bG i te) D σ H):iQ (LE X te) (dB i) D σ H:=by
 obtain⟨W,ρ,D',px,q,k⟩:=h
 refine⟨W,ρ,_,px,q,?_⟩
 rintro v H1 x g s r ⟨n,q⟩
 exact k.nx W _ H1 _ (Ev.same s) ((px.mono s).setSh (yB px n r)) q
def yD:PV->Bool
 |.lst xs=>flats xs
 |.dK ps=>flats (ps.map (·.2))
 |.dT ps=>flats (ps.map (·.2))
 |_=>false
theorem ae3 {K:ac}{M:Addr->Prop}{H:Hp}{v:V}{x:PV}(r:aF K M H v x)(o:yD x=true):∃a,v = .ref a/\M a/\∀M',gG K M' H a x:=by
 cases r with
 |lst m e r=>exact⟨_,rfl,m,λ_=>⟨_,e,r.flat o⟩⟩
 |dK m e q r=>exact⟨_,rfl,m,λ_=>⟨_,e,q,r.flat o⟩⟩
 |dT m e q r=>exact⟨_,rfl,m,λ_=>⟨_,e,q,r.flat o⟩⟩
 |_=>cases o
def gI (i:Nat)(te:aD):aK:=λD ρ=>te ρ λx g=>g = .fr/\yD x=true/\D.nx (ρ.set i (some (.own x)))
theorem ae4 {i:Nat}(h:LS X (gI i te) D σ H):iQ (LE X te) (dB i) D σ H:=by
 obtain⟨W,ρ,D',px,q,k⟩:=h
 refine⟨W,ρ,_,px,q,?_⟩
 rintro v H1 x g s r ⟨rfl,o,q⟩
 obtain⟨a,rfl,m,w⟩:=ae3 r o
 exact k.nx _ _ H1 _ (Ev.own s m) (px.setOwn s m (w _)) q
def bZ (te:aD):aK:=λD ρ=>te ρ λx g=>Nw g x/\D.rt x
theorem ae5 (h:LS X (bZ te) D σ H):qK (LE X te) D σ H:=by
 obtain⟨W,ρ,D',px,q,k⟩:=h
 refine⟨W,ρ,_,px,q,?_⟩
 rintro v H1 x g s r ⟨n,q⟩
 exact k.rt v H1 x (px.same.trans s) ((Nw.rep px n r).same (aH.refl _) λ_ z=>z.2) q
def Slot.nw:Slot->Prop
 |.own _=>True
 |.kp _ _ _ _=>True
 |.sh true _=>True
 |.sh false x=>flat x=true
def sE (i:Nat):aK:=λD ρ=>∃m,ρ[i]? = some (some m)/\m.nw/\D.rt m.val
theorem ae6 {i:Nat}(h:LS X (sE i) D σ H):qK (fM i) D σ H:=by
 obtain⟨W,ρ,D',px,⟨m,hi,n,q⟩,k⟩:=h
 obtain⟨v,ev,r⟩:=px.sl i _ hi
 refine⟨v,ev,k.rt v H _ px.same ?_ q⟩
 cases m with
 |own x=>
  obtain⟨a,rfl,wa,r⟩:=r
  exact r.rep (λ_ z=>z.2) (px.wm a wa).1
 |sh g x=>
  cases g with
  |true=>exact aF.same r (aH.refl _) λ_ z=>z.2
  |false=>exact aF.flat n r
 |kp g a st un=>obtain⟨rfl,_⟩:=r;exact .ob
def bC (c:cH)(t u:aK):aK:=λD ρ=>c ρ λb=>if b=true then t D ρ else u D ρ
theorem ae7 {c:cH}(h:LS X (bC c t u) D σ H):qL (LT X c) (LS X t) (LS X u) D σ H:=by
 obtain⟨W,ρ,D',px,q,k⟩:=h
 refine⟨W,ρ,_,px,q,λb H1 s q1=>?_⟩
 cases b with
 |true=>exact b9 ⟨W,ρ,D',px.mono s,by simpa using q1,k.step (Ev.same s)⟩
 |false=>exact aV ⟨W,ρ,D',px.mono s,by simpa using q1,k.step (Ev.same s)⟩
end
theorem lim {n:Nat}(h:n<=16000000):n<=sizeLine:=aS6 (jI h)
theorem aF.sqT {K:ac}{M:Addr->Prop}{H:Hp}{v:V}{xs:List PV}(r:aF K M H v (.tup xs)):∃a us,v = .ref a/\H a=some (.tup us)/\Reps K M H us xs:=by
 cases r with
 |tup e r=>exact⟨_,_,rfl,e,r⟩
theorem aF.sqL {K:ac}{M:Addr->Prop}{H:Hp}{v:V}{xs:List PV}(r:aF K M H v (.lst xs)):∃a us,v = .ref a/\M a/\H a=some (.lst us)/\Reps K M H us xs:=by
 cases r with
 |lst m e r=>exact⟨_,_,rfl,m,e,r⟩
theorem i8.sqL {K:ac}{H:Hp}{a:Addr}{ns:af}(h:i8 K H a ns):aP K H a (ns.map V.int):=h.elim (λz=>.inl (.inr z)) .inr
def i9:PV->Option (List PV)
 |.tup xs=>some xs
 |.lst xs=>some xs
 |.scr ns=>some (intz ns)
 |.kt xs=>some xs
 |.fL xs=>some xs
 |_=>none
theorem aF.seq {K:ac}{M:Addr->Prop}{H:Hp}{v:V}{x:PV}{xs:List PV}(r:aF K M H v x)(e:i9 x=some xs):∃a us,v = .ref a/\(aP K H a us∨aN K H a us)/\Reps K M H us xs:=by
 cases r with
 |tup h r=>cases e;exact⟨_,_,rfl,.inr (aN.of h),r⟩
 |lst m h r=>cases e;exact⟨_,_,rfl,.inl (aP.of h),r⟩
 |scr h=>cases e;exact⟨_,_,rfl,.inl h.sqL,Reps.intz _⟩
 |kt h r=>cases e;exact⟨_,_,rfl,.inr (.inr h),r⟩
 |fL h r=>cases e;exact⟨_,_,rfl,.inl (.inl (.inr ⟨_,h⟩)),r⟩
 |_=>cases e
section
variable {X:Cx}{σ:St}{H:Hp}{D:bN}{te ti to:aD}{t u:aK}{Q':VK}
theorem _root_.PP.PX.updL {K:ac}{H0:Hp}{W:Addr->Prop}{σ:St}{ρ:b6}{H:Hp}{i:Nat}{a:Addr}{x:PV}{us:List V}{ys:List PV}(p:PX K H0 W σ ρ H)(hi:ρ[i]? = some (some (.own x)))(ha:σ[i]? = some (some (.ref a)))(wa:W a)(r:Reps K (Ms H0 W true) (upd H a (.lst us)) us ys) :
  PX K H0 W σ (ρ.set i (some (.own (.lst ys)))) (upd H a (.lst us)):=p.updOwn hi ha wa rfl (y:=.lst ys) ⟨us,b7,r⟩
def iV (i:Nat)(te:aD):aK:=λD ρ=>∃xs,ρ[i]? = some (some (.own (.lst xs)))/\te ρ λx g=>Nw g x/\xs.length<16000000/\D.nx (ρ.set i (some (.own (.lst (xs++[x])))))
theorem ae8 {i:Nat}(h:LS X (iV i te) D σ H):i4 (lU X.K "list" rH (fM i) (dL (LE X te) gB)) D σ H:=by
 obtain⟨W,ρ,D',px,⟨xs,hi,q⟩,k⟩:=h
 obtain⟨v,ev,a,rfl,wa,us,ea,r⟩:=px.sl i _ hi
 refine⟨_,ev,m6 (aP.of ea),W,ρ,_,px,q,?_⟩
 rintro w H1 x g s rx ⟨n,hl,q⟩
 have ea1:=s _ _ ea
 refine⟨a,us,w,rfl,rfl,ea1,jI (by rw[r.length];omega),?_⟩
 refine k.nx W σ _ _ ((Ev.same s).trans (Ev.upd wa)) ((px.mono s).updL hi ev wa ?_) q
 exact ((r.same s λ_ z=>z).append (.cons (Nw.rep px n rx) .nil)).keep (.upd ea1 rfl λb m=>⟨kO wa m,m⟩)
def yE (K:ac):V->List V->Hp->VK->Prop:=λx vs H Q=>wF x vs H Q∨xS K x vs H Q
def sF (i:Nat)(te:aD):aK:=λD ρ=>∃xs,ρ[i]? = some (some (.own (.lst xs)))/\te ρ λy g=>∃ys,(y = .tup ys∨y = .lst ys)/\(Nw g y∨flats ys=true)/\xs.length+ys.length<=16000000/\D.nx (ρ.set i (some (.own (.lst (xs++ys)))))
theorem ae9 {i:Nat}(h:LS X (sF i te) D σ H):i4 (lU X.K "list" (yE X.K) (fM i) (dL (LE X te) gB)) D σ H:=by
 obtain⟨W,ρ,D',px,⟨xs,hi,q⟩,k⟩:=h
 obtain⟨v,ev,a,rfl,wa,us,ea,r⟩:=px.sl i _ hi
 refine⟨_,ev,m6 (aP.of ea),W,ρ,_,px,q,?_⟩
 rintro w H1 y g s ry ⟨ys,hy,n,hl,q⟩
 have ea1:=s _ _ ea
 have key:∀(zs:List V),Reps X.K (Ms X.H₀ W true) H1 zs ys->D.nx σ (upd H1 a (.lst (us++zs))):=λzs rz=>by
  refine k.nx W σ _ _ ((Ev.same s).trans (Ev.upd wa)) ((px.mono s).updL hi ev wa ?_) q
  exact ((r.same s λ_ z=>z).append rz).keep (.upd ea1 rfl λb m=>⟨kO wa m,m⟩)
 have lr:=r.length
 rcases hy with rfl|rfl
 ·obtain⟨b,zs,rfl,eb,rz⟩:=ry.sqT
  have lz:=rz.length
  refine .inr ⟨a,b,us,zs,rfl,rfl,ea1,aN.of eb,lim (by omega),key zs ?_⟩
  rcases n with n|n
  ·obtain⟨b',zs',e1,e2,rz'⟩:=(Nw.rep px n ry).sqT
   cases e1;rw[eb]at e2;cases e2;exact rz'
  ·exact rz.flat n
 ·obtain⟨b,zs,rfl,_,eb,rz⟩:=ry.sqL
  have lz:=rz.length
  refine .inl ⟨a,b,us,zs,rfl,rfl,ea1,eb,lim (by omega),key zs ?_⟩
  rcases n with n|n
  ·obtain⟨b',zs',e1,_,e2,rz'⟩:=(Nw.rep px n ry).sqL
   cases e1;rw[eb]at e2;cases e2;exact rz'
  ·exact rz.flat n
def mD (i:Nat)(tk te:aD):aK:=λD ρ=>te ρ λx g=>∃xs,ρ[i]? = some (some (.own (.lst xs)))/\tk ρ λy _=>∃n j,y = .int n/\gD xs.length n=some j/\Nw g x/\D.nx (ρ.set i (some (.own (.lst (xs.set j x)))))
theorem af0 {i:Nat}{tk:aD}(h:LS X (mD i tk te) D σ H):iQ (LE X te) (nR (fM i) (LE X tk) rF) D σ H:=by
 obtain⟨W,ρ,D',px,q,k⟩:=h
 refine⟨W,ρ,_,px,q,?_⟩
 rintro w H1 x g s rx ⟨xs,hi,q1⟩
 obtain⟨v,ev,a,rfl,wa,us,ea,r⟩:=(px.mono s).sl i _ hi
 refine⟨_,ev,W,ρ,_,px.mono s,q1,?_⟩
 rintro kv H2 y gy s2 ry ⟨n,j,rfl,hj,nw,q2⟩
 cases ry
 have ea2:=s2 _ _ ea
 refine⟨a,us,n,j,rfl,rfl,ea2,by rw[r.length];exact hj,?_⟩
 refine k.nx W σ _ _ ((Ev.same (s.trans s2)).trans (Ev.upd wa)) ((px.mono (s.trans s2)).updL hi ev wa ?_) q2
 exact (Reps.set ((Nw.rep px nw rx).same s2 λ_ z=>z) j (r.same s2 λ_ z=>z)).keep (.upd ea2 rfl λb m=>⟨kO wa m,m⟩)
end
theorem Reps.atI {K:ac}{M:Addr->Prop}{H:Hp}{us:List V}{xs:List PV}{i:Int}{z:PV}(r:Reps K M H us xs)(h:L2.atI xs i=some z):∃v,L2.atI us i=some v/\aF K M H v z:=by
 unfold L2.atI at h ⊢
 rw[r.length]
 cases e:gD xs.length i with
 |none=>rw[e]at h;cases h
 |some j=>rw[e]at h;exact r.at h
section
variable {X:Cx}{σ:St}{H:Hp}{Q':VK}{ta tb te:aD}{tr:bS}
def sG:PV->Tg->PV->Tg->PK->Prop:=λx g y _ Q=>∃xs i z,i9 x=some xs/\y = .int i/\L2.atI xs i=some z/\Q z g
theorem af1:dW X sG (wD X.K):=by
 rintro W Hs H u v x y g g' Q Q' s n r1 r2 ⟨xs,i,z,e,rfl,hz,q⟩ k
 cases r2
 obtain⟨a,us,rfl,hs,r⟩:=r1.seq e
 obtain⟨v,hv,rv⟩:=r.atI hz
 rcases hs with hs|hs
 ·exact .inl ⟨a,us,i,v,rfl,rfl,hs,hv,k v H z g (aH.refl _) rv q⟩
 ·exact .inr (.inl ⟨a,us,i,v,rfl,rfl,hs,hv,k v H z g (aH.refl _) rv q⟩)
def oM:PV->Option Nat
 |.tup xs=>some xs.length
 |.lst xs=>some xs.length
 |.scr ns=>some ns.length
 |.dK ps=>some ps.length
 |.kt xs=>some xs.length
 |.fL xs=>some xs.length
 |_=>none
def c7:List PV->(PV->Prop)->Prop:=λxs Q=>∃x n,xs = [x]/\oM x=some n/\Q (.int n)
theorem Reps.one {K:ac}{M:Addr->Prop}{H:Hp}{vs:List V}{x:PV}(r:Reps K M H vs [x]):∃v,vs = [v]/\aF K M H v x:=by
 cases r with
 |cons r t=>cases t;exact⟨_,rfl,r⟩
theorem Reps.two {K:ac}{M:Addr->Prop}{H:Hp}{vs:List V}{x y:PV}(r:Reps K M H vs [x,y]):∃v w,vs = [v,w]/\aF K M H v x/\aF K M H w y:=by
 cases r with
 |cons r t=>
  obtain⟨w,rfl,q⟩:=t.one
  exact⟨_,_,rfl,r,q⟩
theorem af2:eJ X c7 (λxs H Q=>(∃p ys,xs = [.ref p]/\(aP X.K H p ys∨aN X.K H p ys)/\Q (.int ys.length) H)∨∃a kvs,xs = [V.ref a]/\H a=some (.dK kvs)/\Q (.int kvs.length) H):=by
 rintro H vs xs Q Q' r ⟨x,n,rfl,e,q⟩ k
 obtain⟨v,rfl,r1⟩:=r.one
 have fin:∀{m:Nat},m=n->Q' (.int m) H:=λ{m} z=>by rw[z];exact k _ _ _ (aH.refl _) (.int _) q
 cases r1 with
 |tup h r2=>cases e;exact .inl ⟨_,_,rfl,.inr (aN.of h),fin r2.length⟩
 |lst m h r2=>cases e;exact .inl ⟨_,_,rfl,.inl (aP.of h),fin r2.length⟩
 |scr h=>cases e;exact .inl ⟨_,_,rfl,.inl h.sqL,fin (by rw[aJ1])⟩
 |kt h r2=>cases e;exact .inl ⟨_,_,rfl,.inr (.inr h),fin r2.length⟩
 |fL h r2=>cases e;exact .inl ⟨_,_,rfl,.inl (.inl (.inr ⟨_,h⟩)),fin r2.length⟩
 |dK m h e' r=>
  cases e
  refine .inr ⟨_,_,rfl,h,fin ?_⟩
  have:=congrArg List.length e'
  rw[aJ1,aJ1]at this
  exact this
 |_=>cases e
def seqT:PV->Option (List PV)
 |.kt _=>none
 |x=>i9 x
def yF:List PV->(PV->Prop)->Prop:=λxs Q=>∃x ys,xs = [x]/\seqT x=some ys/\flats ys=true/\Q (.tup ys)
def kQ:List PV->(PV->Prop)->Prop:=λxs Q=>∃x ys,xs = [x]/\i9 x=some ys/\flats ys=true/\Q (.lst ys)
theorem af3:eJ X (λxs Q=>yF xs Q/\∀ns,xs≠[.scr ns]) (λxs H Q=>∃p ys,xs = [.ref p]/\((aP X.K H p ys/\∀l,H l=none->Q (.ref l) (upd H l (.tup ys)))∨(aN X.K H p ys/\Q (.ref p) H))):=by
 rintro H vs xs Q Q' r ⟨⟨x,ys,rfl,e,f,q⟩,nsc⟩ k
 obtain⟨v,rfl,r1⟩:=r.one
 cases r1 with
 |tup h r2=>cases e;exact⟨_,_,rfl,.inr ⟨aN.of h,k _ _ _ (aH.refl _) (.tup h (r2.flat f)) q⟩⟩
 |lst m h r2=>cases e;exact⟨_,_,rfl,.inl ⟨aP.of h,λl hl=>k _ _ _ (b8 hl _) (.tup b7 ((r2.flat f).same (b8 hl _) λ_ z=>z)) q⟩⟩
 |scr h=>exact absurd rfl (nsc _)
 |fL h r2=>cases e;exact⟨_,_,rfl,.inl ⟨.inl (.inr ⟨_,h⟩),λl hl=>k _ _ _ (b8 hl _) (.tup b7 ((r2.flat f).same (b8 hl _) λ_ z=>z)) q⟩⟩
 |_=>cases e
theorem af4:eJ X kQ (λxs H Q=>∃p ys,xs = [.ref p]/\(aP X.K H p ys∨aN X.K H p ys)/\∀l,H l=none->Q (.ref l) (upd H l (.lst ys))):=by
 rintro H vs xs Q Q' r ⟨x,ys,rfl,e,f,q⟩ k
 obtain⟨v,rfl,r1⟩:=r.one
 obtain⟨a,us,rfl,hs,r2⟩:=r1.seq e
 exact⟨_,_,rfl,hs,λl hl=>k _ _ _ (b8 hl _) (.lst hl b7 ((r2.flat f).same (b8 hl _) λ_ z=>z)) q⟩
def sH:List PV->(PV->Prop)->Prop:=λxs Q=>∃bs:List Bool,xs = [.lst (bs.map PV.bl)]/\Q (.bl (bs.all id))
theorem Reps.ofBls {K:ac}{M:Addr->Prop}{H:Hp}:∀{ns:List Bool}{us:List V},Reps K M H us (ns.map PV.bl)->us=ns.map V.bl
 |[],_,.nil=>rfl
 |n::r,_,.cons q t=>by
  cases q
  rw[Reps.ofBls t];rfl
theorem af5:eJ X sH (λxs H Q=>∃(a:Addr) (bs:List Bool),xs = [.ref a]/\aP X.K H a (bs.map V.bl)/\Q (.bl (bs.all id)) H):=by
 rintro H vs xs Q Q' r ⟨bs,rfl,q⟩ k
 obtain⟨v,rfl,r1⟩:=r.one
 obtain⟨a,us,rfl,_,h,r2⟩:=r1.sqL
 obtain rfl:=r2.ofBls
 exact⟨a,bs,rfl,aP.of h,k _ _ _ (aH.refl _) (.bl _) q⟩
def sI:List PV->(PV->Prop)->Prop:=λxs Q=>∃i j,xs = [.int i,.int j]/\Q (.int (if j<i then j else i))
def sJ:List PV->(PV->Prop)->Prop:=λxs Q=>∃i j,xs = [.int i,.int j]/\Q (.int (if j>i then j else i))
theorem af6:eJ X sI (λxs H Q=>∃i j,xs = [.int i,.int j]/\Q (.int (if j<i then j else i)) H):=by
 rintro H vs xs Q Q' r ⟨i,j,rfl,q⟩ k
 obtain⟨v,w,rfl,r1,r2⟩:=r.two
 cases r1;cases r2
 exact⟨i,j,rfl,k _ _ _ (aH.refl _) (.int _) q⟩
theorem af7:eJ X sJ (λxs H Q=>∃i j,xs = [.int i,.int j]/\Q (.int (if j>i then j else i)) H):=by
 rintro H vs xs Q Q' r ⟨i,j,rfl,q⟩ k
 obtain⟨v,w,rfl,r1,r2⟩:=r.two
 cases r1;cases r2
 exact⟨i,j,rfl,k _ _ _ (aH.refl _) (.int _) q⟩
abbrev cO:=List PV->(PV->Prop)->Prop
def mE (K:ac)(p:cO):Sp:=λvs H Q _=>∃xs Qp,Reps K (λ_=>True) H vs xs/\p xs Qp/\∀v H' x,aH H H'->aF K (λa=>H a=none) H' v x->Qp x->Q v H'
theorem af8 {p:cO}{E:XK}(h:LE X (aI p tr) σ H Q'):nV (mE X.K p) [] E (LA X tr) σ H Q':=by
 obtain⟨W,ρ,Q,px,q,k⟩:=h
 refine⟨W,ρ,_,px,q,λvs H1 xs s1 r1 q1=>⟨_,_,by rw[aR8];exact r1.any,q1,λv H' x s2 r2 q2=>k v H' x .fr (s1.trans s2) (r2.same (aH.refl _) λ_ z=>s1.free z) q2⟩⟩
end
structure iW (K:ac)(H0:Hp)(W:Addr->Prop)(g:Bool)(H1:Hp)(J:It)(xs:List PV):Prop where
 go:∀W' H' i,Ev W H1 W' H'->i<xs.length->J.go i H'
 yld:∀W' H' i v H2,Ev W H1 W' H'->J.yld i H' v H2->i<xs.length->aH H' H2/\∃x,xs[i]? = some x/\aF K (Ms H0 W' g) H2 v x
 stop:∀W' H',Ev W H1 W' H'->J.stop xs.length H'
abbrev dF:=b6->(List PV->Bool->Prop)->Prop
def LI (X:Cx)(t:dF):TI:=λσ H R=>∃(W:Addr->Prop) (ρ:b6) (Q:List PV->Bool->Prop),PX X.K X.H₀ W σ ρ H/\t ρ Q/\∀J H1 xs g,aH H H1->iW X.K X.H₀ W g H1 J xs->Q xs g->R J H1
theorem Ev.keep {H0:Hp}{W W':Addr->Prop}{H H':Hp}{g:Bool}(e:Ev W H W' H')(tw:∀a,W a->∃o,H a=some o/\dO o=true):dN (Ms H0 W g) (Ms H0 W' g) H H':=by
 have m:∀{a:Addr}{o:HO},Ms H0 W g a->H a=some o->xT o=false->Ms H0 W' g a/\H' a=some o:=λ{a o} z h hk=>by
  cases g with
  |true=>
   obtain⟨h1,h2⟩:=e a _ h z.1 hk
   exact⟨⟨h2,z.2⟩,h1⟩
  |false=>
   obtain⟨h1,h2⟩:=e a _ h z hk
   exact⟨h2,h1⟩
 refine⟨λa _ z h=>m z h rfl,λa _ z h=>m z h rfl,λa _ z h=>m z h rfl,λa _ h=>(e a _ h (λz=>?_) rfl).1,λa _ _ h f=>(e a _ h (λz=>?_) f).1⟩
 ·obtain⟨o,h',mu⟩:=tw a z;rw[h]at h';cases h';cases mu
 ·obtain⟨o,h',mu⟩:=tw a z;rw[h]at h';cases h';cases mu
section
variable {X:Cx}{σ:St}{H:Hp}{te:aD}{tr:bS}{R:It→Hp→Prop}
def yG (K:ac)(tl:TE):TI:=λσ H R=>tl σ H λx H1=>∃a,x = .ref a/\((∃xs,aP K H1 a xs/\R (qQ K a) H1)∨(∃xs,aN K H1 a xs/\R (qR K a) H1))
def oN:Tg->List PV->Bool
 |.fr,_=>true
 |.nw,_=>true
 |_,xs=>flats xs
def mF (te:aD):dF:=λρ Q=>te ρ λx g=>∃xs,i9 x=some xs/\(g = .rd->flat x=true)/\Q xs (oN g xs)
theorem sK {K:ac}{H0:Hp}{W:Addr->Prop}{g:Bool}{H1:Hp}{a:Addr}{us:List V}{xs:List PV}(tw:∀a,W a->∃o,H1 a=some o/\dO o=true)(ha:∀W' H',Ev W H1 W' H'->aP K H' a us)(r:Reps K (Ms H0 W g) H1 us xs):iW K H0 W g H1 (qQ K a) xs:=by
 have lr:=r.length
 refine⟨λW' H' i e hi=>⟨us,us[i]'(by omega),ha W' H' e,by simp⟩,λW' H' i v H2 e y hi=>?_,λW' H' e=>⟨us,ha W' H' e,by omega⟩⟩
 obtain⟨rfl,y⟩:=y
 obtain⟨x,hx,rx⟩:=r.get (y us (ha W' _ e))
 exact⟨aH.refl _,x,hx,rx.keep (e.keep tw)⟩
theorem yH {K:ac}{H0:Hp}{W:Addr->Prop}{g:Bool}{H1:Hp}{a:Addr}{us:List V}{xs:List PV}(tw:∀a,W a->∃o,H1 a=some o/\dO o=true)(ha:∀W' H',Ev W H1 W' H'->aN K H' a us)(r:Reps K (Ms H0 W g) H1 us xs):iW K H0 W g H1 (qR K a) xs:=by
 have lr:=r.length
 refine⟨λW' H' i e hi=>⟨us,us[i]'(by omega),ha W' H' e,by simp⟩,λW' H' i v H2 e y hi=>?_,λW' H' e=>⟨us,ha W' H' e,by omega⟩⟩
 obtain⟨rfl,y⟩:=y
 obtain⟨x,hx,rx⟩:=r.get (y us (ha W' _ e))
 exact⟨aH.refl _,x,hx,rx.keep (e.keep tw)⟩
theorem jK {K:ac}{H0 Hs H:Hp}{W:Addr->Prop}{σ:St}{ρ:b6}{g:Tg}{us:List V}{xs:List PV}(px:PX K H0 W σ ρ Hs)(hg:g = .rd->flats xs=true)(r:Reps K (Mg H0 W Hs g) H us xs):Reps K (Ms H0 W (oN g xs)) H us xs:=by
 cases g with
 |fr=>exact r.same (aH.refl _) λ_ z=>px.new z
 |nw=>exact r.same (aH.refl _) λ_ z=>z
 |sh=>
  show Reps K (Ms H0 W (flats xs)) H us xs
  cases e:flats xs with
  |true=>exact r.flat e
  |false=>exact r.same (aH.refl _) λ_ z=>z
 |rd=>exact r.flat (hg rfl)
theorem af9 (h:LI X (mF te) σ H R):yG X.K (LE X te) σ H R:=by
 obtain⟨W,ρ,Q,px,q,k⟩:=h
 refine⟨W,ρ,_,px,q,?_⟩
 rintro v H1 x g s r ⟨xs,e,hg,q⟩
 have px1:=px.mono s
 have tw:∀a,W a->∃o,H1 a=some o/\dO o=true:=λa z=>(px1.wm a z).2
 cases r with
 |tup h r=>
  cases e
  refine⟨_,rfl,.inr ⟨_,aN.of h,k _ _ _ _ s (yH tw (λW' H' e=>aN.of (e _ _ h (λz=>?_) rfl).1) (jK px (λz=>by have:=hg z;unfold flat at this;exact this) r)) q⟩⟩
  obtain⟨o,h',mu⟩:=tw _ z;rw[h]at h';cases h';cases mu
 |@lst a us xs' m h r=>
  cases e
  have wa:¬W a:=by
   cases g with
   |fr=>exact (px.new m).1
   |nw=>exact m.1
   |sh=>exact m
   |rd=>have:=hg rfl;unfold flat at this;cases this
  exact⟨_,rfl,.inl ⟨_,aP.of h,k _ _ _ _ s (sK tw (λW' H' e=>aP.of (e _ _ h wa rfl).1) (jK px (λz=>by have:=hg z;unfold flat at this;cases this) r)) q⟩⟩
 |scr h=>
  cases e
  refine⟨_,rfl,.inl ⟨_,h.sqL,k _ _ _ _ s (sK tw (λW' H' e=>(i8.keep (λa o u hz f=>(e _ _ hz (λz=>?_) f).1) h).sqL) (jK (g:=g) px (λz=>cT _) (Reps.intz _))) q⟩⟩
  obtain⟨o,h',mu⟩:=tw _ z;rw[hz]at h';cases h';cases mu
 |kt h r=>
  cases e
  exact⟨_,rfl,.inr ⟨_,.inr h,k _ _ _ _ s (yH tw (λW' H' e=>.inr h) (jK px (λz=>by have:=hg z;unfold flat at this;exact this) r)) q⟩⟩
 |fL h r=>
  cases e
  refine⟨_,rfl,.inl ⟨_,.inl (.inr ⟨_,h⟩),k _ _ _ _ s (sK tw (λW' H' e=>.inl (.inr ⟨_,(e _ _ h (λz=>?_) rfl).1⟩)) (jK px (λz=>by have:=hg z;unfold flat at this;exact this) r)) q⟩⟩
  obtain⟨o,h',mu⟩:=tw _ z;rw[h]at h';cases h';cases mu
 |_=>cases e
def iA (lo:Int)(n:Nat):List PV:=(List.range n).map λ(i:Nat)=>PV.int (lo+(i:Int))
theorem gJ (lo:Int)(n:Nat):(iA lo n).length=n:=by unfold iA;rw[aJ1,List.length_range]
theorem yI {lo:Int}{n i:Nat}(h:i<n):(iA lo n)[i]? = some (.int (lo+i)):=by unfold iA;rw[aL2,List.getElem?_range h];rfl
def iX (te:aD):dF:=λρ Q=>te ρ λx _=>∃j:Int,x = .int j/\-1000000<=j/\j<=1000000/\Q (iA 0 j.toNat) true
def oO (ta tb:aD):dF:=λρ Q=>ta ρ λx _=>tb ρ λy _=>∃i j:Int,x = .int i/\y = .int j/\(-1000000<=i/\i<=1000000/\-1000000<=j/\j<=1000000)/\Q (iA i (j-i).toNat) true
theorem yJ {K:ac}{H0:Hp}{W:Addr->Prop}{H1:Hp}(lo:Int)(n:Nat):iW K H0 W true H1 (lQ lo n) (iA lo n):=by
 refine⟨λW' H' i e hi=>by rw[gJ]at hi;exact hi,λW' H' i v H2 e y hi=>?_,λW' H' e=>by show n<=(iA lo n).length;rw[gJ];exact aH7 _⟩
 rw[gJ]at hi
 obtain⟨rfl,rfl⟩:=y
 exact⟨aH.refl _,_,yI hi,.int _⟩
theorem ag0 (h:LI X (iX te) σ H R):vD (dL (LE X te) gB) σ H R:=by
 obtain⟨W,ρ,Q,px,q,k⟩:=h
 refine⟨W,ρ,_,px,q,?_⟩
 rintro v H1 x g s r ⟨j,rfl,h1,h2,q⟩
 cases r
 exact⟨j,rfl,by omega,by omega,k _ _ _ _ s (yJ 0 j.toNat) q⟩
theorem ag1 {ta tb:aD}(h:LI X (oO ta tb) σ H R):vE (dL (LE X ta) (dL (LE X tb) gB)) σ H R:=by
 obtain⟨W,ρ,Q,px,q,k⟩:=h
 refine⟨W,ρ,_,px,q,λv H1 x g s r q=>⟨W,ρ,_,px.mono s,q,?_⟩⟩
 rintro w H2 y g' s2 r2 ⟨i,j,rfl,rfl,h,q⟩
 cases r;cases r2
 exact⟨i,j,rfl,by omega,k _ _ _ _ (s.trans s2) (yJ i (j-i).toNat) q⟩
end
abbrev gK:=PV->Bool->b6->(b6->Prop)->Prop
def jL (K:ac)(own:Nat->Prop)(p:gK)(t:TG):Prop:=∀(H0:Hp) (W:Addr->Prop) (σ:St) (ρ:b6) (H:Hp) (v:V) (x:PV) (g:Bool) (Q:b6->Prop) (Q':St->Hp->Prop),
 PX K H0 W σ ρ H->aF K (Ms H0 W g) H v x->p x g ρ Q->(∀σ' ρ',PX K H0 W σ' ρ' H->(∀i,¬own i->σ'[i]? = σ[i]?)->σ'.length=σ.length->Q ρ'->Q' σ' H)->t v σ H Q'
def dY (i:Nat):gK:=λx g ρ Q=>Q (ρ.set i (some (.sh (g||flat x) x)))
theorem oP {K:ac}{H0 H:Hp}{W:Addr->Prop}{v:V}{x:PV}{g:Bool}(r:aF K (Ms H0 W g) H v x):aF K (Ms H0 W (g||flat x)) H v x:=by
 cases g with
 |true=>exact r
 |false=>
  show aF K (Ms H0 W (flat x)) H v x
  cases e:flat x with
  |true=>exact r.flat e
  |false=>exact r
theorem yK (K:ac)(i:Nat):jL K (· = i) (dY i) (dB i):=by
 intro H0 W σ ρ H v x g Q Q' px r q k
 exact k _ _ (px.setSh (oP r)) (λj hj=>by rw[aK0 (Ne.symm hj)]) (aO4 ..) q
def jM (i j:Nat):gK:=λx g ρ Q=>∃y z,x = .tup [y,z]/\Q ((ρ.set i (some (.sh (g||flat y) y))).set j (some (.sh (g||flat z) z)))
theorem sL (K:ac)(i j:Nat):jL K (λk=>k=i∨k=j) (jM i j) (kF K 2 (g9 (dB i) (g9 (dB j) kD))):=by
 intro H0 W σ ρ H v x g Q Q' px r q k
 obtain⟨y,z,rfl,q⟩:=q
 obtain⟨a,us,rfl,h,r⟩:=r.sqT
 obtain⟨u1,u2,rfl,r1,r2⟩:=r.two
 refine⟨a,_,rfl,aN.of h,rfl,u1,_,rfl,u2,_,rfl,rfl,k _ _ ((px.setSh (oP r1)).setSh (oP r2)) (λk hk=>?_) (by rw[aO4,aO4]) q⟩
 rw[aK0 (λe=>hk (.inr e.symm)),aK0 (λe=>hk (.inl e.symm))]
section
variable {X:Cx}{σ:St}{H:Hp}{D:bN}
def dZ (ti:dF)(p:gK)(tb:aK):aK:=λD ρ=>ti ρ λxs g=>∃I:Nat->b6->Prop,I 0 ρ/\(∀i x ρ',xs[i]? = some x->I i ρ'->p x g ρ' λρ2=>tb { D with nx:=I (i+1),ct:=I (i+1),bk:=D.nx } ρ2)/\∀ρ',I xs.length ρ'->D.nx ρ'
theorem ag2 {ti:dF}{p:gK}{g:TG}{tb:aK}{own:Nat->Prop}(hg:jL X.K own p g)(h:LS X (dZ ti p tb) D σ H):vF (LI X ti) g (LS X tb) D σ H:=by
 obtain⟨W,ρ,D',px,q,k⟩:=h
 refine⟨W,ρ,_,px,q,?_⟩
 rintro J H1 xs gb s it ⟨I,i0,turn,fin⟩
 refine⟨λi m σ2 H2=>m=xs.length-i/\i<=xs.length/\∃W2 ρ2,PX X.K X.H₀ W2 σ2 ρ2 H2/\Ev W H1 W2 H2/\I i ρ2,⟨xs.length,by omega,aN4 _,W,ρ,px.mono s,Ev.refl _ _,i0⟩,?_⟩
 rintro i m σ2 H2 ⟨rfl,hi,W2,ρ2,px2,e2,i2⟩
 have e0:Ev W H W2 H2:=(Ev.same s).trans e2
 by_cases hlt:i<xs.length
 ·refine .inr ⟨it.go W2 H2 i e2 hlt,λσ3 H3=>∃W3 ρ3,PX X.K X.H₀ W3 σ3 ρ3 H3/\Ev W H1 W3 H3/\I (i+1) ρ3,λσ3 H3 ⟨W3,ρ3,a,b,c⟩=>⟨xs.length-(i+1),by omega,rfl,hlt,W3,ρ3,a,b,c⟩,λv H3 y=>?_⟩
  obtain⟨s3,x,hx,rx⟩:=it.yld W2 H2 i v H3 e2 y hlt
  refine hg X.H₀ W2 σ2 ρ2 H3 v x gb _ _ (px2.mono s3) rx (turn i x ρ2 hx i2) λσ4 ρ4 px4 _ _ q4=>?_
  have e3:Ev W H1 W2 H3:=e2.trans (Ev.same s3)
  have e3':Ev W H W2 H3:=e0.trans (Ev.same s3)
  exact⟨W2,ρ4,_,px4,q4,λW' σ' H' ρ' e p q=>⟨W',ρ',p,e3.trans e,q⟩,k.rt,λW' σ' H' ρ' e p q=>k.nx W' σ' H' ρ' (e3'.trans e) p q,λW' σ' H' ρ' e p q=>⟨W',ρ',p,e3.trans e,q⟩⟩
 ·have e:i=xs.length:=by omega
  subst e
  exact .inl ⟨it.stop W2 H2 e2,k.nx W2 σ2 H2 ρ2 e0 px2 (fin ρ2 i2)⟩
end
def kR (fr:List (Option Nat))(ρ:b6):b6:=fr.map λo=>o.bind λj=>(ρ[j]?).join.map λm=>Slot.sh false m.val
def jN (D:Addr):Addr->Prop:=λa=>a=D
theorem ag3 {K:ac}{H0:Hp}{W:Addr->Prop}{σ:St}{ρ:b6}{H1 H':Hp}{D:Addr}{acc:List V}{fr:List (Option Nat)}(px:PX K H0 W σ ρ H1)(hD:H1 D=none)(s:aH H1 H')(ha:H' D=some (.lst acc)) :
  PX K H1 (jN D) (cX fr σ) (kR fr ρ) H':=by
 have old:∀{a:Addr}{o:HO},H1 a=some o->a≠D:=λ{a o} e z=>by rw[z,hD]at e;cases e
 refine⟨by unfold cX kR;rw[aJ1,aJ1],s,λa z=>by cases z;exact⟨hD,_,ha,rfl⟩,λi m h=>?_,λi j x y a h1=>?_⟩
 ·unfold kR at h
  rw[aL2]at h
  cases ef:fr[i]? with
  |none=>rw[ef]at h;cases h
  |some o=>
   rw[ef]at h
   cases o with
   |none=>cases h
   |some j=>
    have h:some ((ρ[j]?).join.map λm=>Slot.sh false m.val)=some (some m):=h
    cases er:ρ[j]? with
    |none=>rw[er]at h;cases h
    |some o=>
     rw[er]at h
     cases o with
     |none=>cases h
     |some m0=>
      cases h
      obtain⟨v,ev,r⟩:=px.sl j m0 er
      refine⟨v,?_,?_⟩
      ·unfold cX
       rw[aL2,ef]
       show some ((σ[j]?).join)=_
       rw[ev];rfl
      ·have r':aF K (λ_=>True) H1 v m0.val:=(xV (Hs:=H1) r).same (aH.refl _) λ_ _=>trivial
       exact r'.keep ⟨λa _ _ e=>⟨old e,s _ _ e⟩,λa _ _ e=>⟨old e,s _ _ e⟩,λa _ _ e=>⟨old e,s _ _ e⟩,λ_ _ e=>s _ _ e,λ_ _ _ e _=>s _ _ e⟩
 ·unfold kR at h1
  rw[aL2]at h1
  cases ef:fr[i]? with
  |none=>rw[ef]at h1;cases h1
  |some o=>
   rw[ef]at h1
   cases o with
   |none=>cases h1
   |some j=>
    have h1:some ((ρ[j]?).join.map λm=>Slot.sh false m.val)=some (some (Slot.own x)):=h1
    cases er:ρ[j]? with
    |none=>rw[er]at h1;cases h1
    |some o=>
     rw[er]at h1
     cases o with
     |none=>cases h1
     |some m0=>cases h1
section
variable {X:Cx}{σ:St}{H:Hp}{Q':VK}
abbrev _root_.L2.Cx.frm (X:Cx)(H1:Hp):Cx:={ X with H₀:=H1 }
def kS (ti:dF)(fr:List (Option Nat))(p:gK)(tc:cH)(te:aD):aD:=λρ Q=>ti ρ λxs g=>xs.length<=16000000/\∃I:Nat->List PV->Prop,I 0 []/\
 (∀i x acc,xs[i]? = some x->I i acc->p x false (kR fr ρ) λρ2=>tc ρ2 λb=>if b=true then te ρ2 λy gy=>Nw gy y/\I (i+1) (acc++[y]) else I (i+1) acc)/\∀acc,I xs.length acc->Q (.lst acc) .fr
theorem yL {ti:dF}{fr:List (Option Nat)}{p:gK}{g:TG}{tc:cH}{te:aD}{own:Nat->Prop}(hg:jL X.K own p g)(ho:∀i,own i->fr[i]? = some none)(h:LE X (kS ti fr p tc te) σ H Q') :
  xC (LI X ti) fr (λ_=>g) (λH1=>LT (X.frm H1) tc) (λH1=>LE (X.frm H1) te) σ H Q':=by
 obtain⟨W,ρ,Q,px,q,k⟩:=h
 refine⟨W,ρ,_,px,q,?_⟩
 rintro J H1 xs gb s it ⟨hl,I,i0,turn,fin⟩ D hD
 have px1:=px.mono s
 refine⟨λi m acc H'=>m=xs.length-i/\i<=xs.length/\aH H1 H'/\H' D=some (.lst acc)/\∃ys,Reps X.K (Ms H1 (jN D) true) H' acc ys/\ys.length<=i/\I i ys,⟨xs.length,by omega,aN4 _,b8 hD _,b7,[],.nil,aH7 _,i0⟩,?_⟩
 rintro i m acc H' ⟨rfl,hi,sm,ha,ys,ry,hy,iy⟩
 refine⟨ha,?_⟩
 have ev:Ev W H1 (kN W D) H':=Ev.own sm hD
 by_cases hlt:i<xs.length
 ·refine .inr ⟨it.go _ H' i ev hlt,λv H2 y=>?_⟩
  obtain⟨s2,x,hx,rx⟩:=it.yld _ H' i v H2 ev y hlt
  have ha2:=s2 _ _ ha
  have pxb:PX X.K H1 (jN D) (cX fr σ) (kR fr ρ) H2:=ag3 px1 hD (sm.trans s2) ha2
  have rx':aF X.K (Ms H1 (jN D) false) H2 v x:=rx.same (aH.refl _) λa z=>by
   cases gb with
   |true=>exact λe=>z.1 (.inr e)
   |false=>exact λe=>z (.inr e)
  refine hg H1 (jN D) _ _ H2 v x false _ _ pxb rx' (turn i x ys hx iy) λσ2 ρ2 px2 hown hlen q2=>⟨⟨hlen.symm,λj w e=>?_⟩,?_⟩
  ·by_cases oj:own j
   ·have:=ho j oj
    unfold cX at e
    rw[aL2,this]at e
    cases e
   ·rw[hown j oj];exact e
  ·refine⟨jN D,ρ2,_,px2,q2,λb H4 s4 q4=>?_⟩
   have ha4:=s4 _ _ ha2
   have sm4:=(sm.trans s2).trans s4
   cases b with
   |false=>
    refine aV ⟨xs.length-(i+1),by omega,rfl,hlt,sm4,ha4,ys,ry.same (s2.trans s4) λ_ z=>z,by omega,by simpa using q4⟩
   |true=>
    refine b9 ⟨jN D,ρ2,_,px2.mono s4,by simpa using q4,?_⟩
    rintro w H5 y gy s5 ryy ⟨nw,q5⟩
    have ha5:=s5 _ _ ha4
    have lr:=ry.length
    refine⟨ha5,jI (by omega),xs.length-(i+1),by omega,rfl,hlt,λb o e=>?_,b7,ys++[y],?_,by rw[aL1,aW3];omega,q5⟩
    ·rw[aJ (λz=>by rw[z,hD]at e;cases e)]
     exact s5 _ _ (sm4 _ _ e)
    ·exact ((ry.same ((s2.trans s4).trans s5) λ_ z=>z).append (.cons (Nw.rep (px2.mono s4) nw ryy) .nil)).keep (.upd ha5 rfl λb m=>⟨m.1,m⟩)
 ·have e:i=xs.length:=by omega
  subst e
  refine .inl ⟨it.stop _ H' ev,k _ H' _ .fr (s.trans sm) (.lst (s.free hD) ha (ry.same (aH.refl _) λ_ z=>s.free z.2)) (fin ys iy)⟩
def iY:cH:=λ_ Q=>Q true
theorem ag4 {Qb:Bool->Hp->Prop}(h:LT X iY σ H Qb):x9 σ H Qb:=by
 obtain⟨W,ρ,Q,px,q,k⟩:=h
 exact k _ _ (aH.refl _) q
end
section
variable {κ:Type}[DecidableEq κ]
def oQ (ps:List (κ×PV))(k:κ):Option PV:=(ps.find? λp=>decide (p.1=k)).map (·.2)
def eL (ps:List (κ×PV))(k:κ)(x:PV):List (κ×PV):=if (ps.any λp=>decide (p.1=k))=true then ps.map (λp=>if p.1=k then (p.1,x) else p) else ps++[(k,x)]
variable {K:ac}{M:Addr→Prop}{H:Hp}
theorem ag5 (k:κ):∀{kvs:List (κ×V)}{ps:List (κ×PV)},kvs.map (·.1)=ps.map (·.1)->Reps K M H (kvs.map (·.2)) (ps.map (·.2))->(oQ ps k=none->gV kvs k=none)/\∀x,oQ ps k=some x->∃v,gV kvs k=some v/\aF K M H v x
 |[],[],_,_=>⟨λ_=>rfl,λx h=>by cases h⟩
 |[],_::_,e,_=>by cases e
 |_::_,[],e,_=>by cases e
 |(k1,v)::kvs,(k2,x)::ps,e,r=>by
  injection e with e1 e2
  have e1:k1=k2:=e1
  subst e1
  cases r with
  |cons r t=>
   obtain⟨h1,h2⟩:=ag5 k e2 t
   unfold oQ gV at h1 h2 ⊢
   by_cases e:k1=k
   ·simp only[List.find?_cons,e,decide_true,Option.map_some]
    exact⟨λz=>(by cases z),λy z=>(by cases z;exact⟨v,rfl,r⟩)⟩
   ·simp only[List.find?_cons,e,decide_false]
    exact⟨h1,h2⟩
theorem ag6 (k:κ){kvs:List (κ×V)}{ps:List (κ×PV)}(e:kvs.map (·.1)=ps.map (·.1)):(kvs.any λp=>decide (p.1=k))=ps.any λp=>decide (p.1=k):=by
 have h1:(kvs.any λp=>decide (p.1=k))=(kvs.map (·.1)).any λz=>decide (z=k):=by rw[List.any_map];rfl
 have h2:(ps.any λp=>decide (p.1=k))=(ps.map (·.1)).any λz=>decide (z=k):=by rw[List.any_map];rfl
 rw[h1,h2,e]
theorem yM (k:κ){w:V}{y:PV}(q:aF K M H w y):∀{kvs:List (κ×V)}{ps:List (κ×PV)},kvs.map (·.1)=ps.map (·.1)->Reps K M H (kvs.map (·.2)) (ps.map (·.2))->
  (kvs.map λkv=>if kv.1=k then (kv.1,w) else kv).map (·.1)=(ps.map λkv=>if kv.1=k then (kv.1,y) else kv).map (·.1)/\Reps K M H ((kvs.map λkv=>if kv.1=k then (kv.1,w) else kv).map (·.2)) ((ps.map λkv=>if kv.1=k then (kv.1,y) else kv).map (·.2))
 |[],[],_,_=>⟨rfl,.nil⟩
 |[],_::_,e,_=>by cases e
 |_::_,[],e,_=>by cases e
 |(k1,v)::kvs,(k2,x)::ps,e,r=>by
  injection e with e1 e2
  have e1:k1=k2:=e1
  subst e1
  cases r with
  |cons r t=>
   obtain⟨h1,h2⟩:=yM k q e2 t
   by_cases e:k1=k
   ·simp only[aM4,e,if_true]
    exact⟨by rw[h1],.cons q h2⟩
   ·simp only[aM4,e,aP4]
    exact⟨by rw[h1],.cons r h2⟩
theorem ag7 (k:κ){w:V}{y:PV}(q:aF K M H w y){kvs:List (κ×V)}{ps:List (κ×PV)}(e:kvs.map (·.1)=ps.map (·.1))(r:Reps K M H (kvs.map (·.2)) (ps.map (·.2))) :
  (eG kvs k w).map (·.1)=(eL ps k y).map (·.1)/\Reps K M H ((eG kvs k w).map (·.2)) ((eL ps k y).map (·.2)):=by
 unfold eG eL
 rw[ag6 k e]
 split
 ·exact yM k q e r
 ·rw[aM7,aM7,aM7,aM7,e]
  exact⟨rfl,r.append (.cons q .nil)⟩
end
def kP:aM->PV
 |.inl i=>.int i
 |.inr x=>.str x
theorem ag8 {K:ac}{M:Addr->Prop}{H:Hp}{v:V}{k:aM}(r:aF K M H v (kP k)):v=kV k:=by
 cases k with
 |inl i=>cases r;rfl
 |inr x=>cases r;rfl
theorem yN {K:ac}{M:Addr->Prop}{H:Hp}:∀{ks:List aM}{us:List V},Reps K M H us (ks.map kP)->us=ks.map kV
 |[],_,.nil=>rfl
 |k::r,_,.cons q t=>by rw[ag8 q,yN t];rfl
section
variable {X:Cx}{σ:St}{H:Hp}{D:bN}{tk td te:aD}{Q':VK}
theorem PX.updT {K:ac}{H0:Hp}{W:Addr->Prop}{σ:St}{ρ:b6}{H:Hp}{i:Nat}{a:Addr}{x:PV}{kvs:List (List aM×V)}{ps:List (List aM×PV)}(p:PX K H0 W σ ρ H)(hi:ρ[i]? = some (some (.own x)))(ha:σ[i]? = some (some (.ref a)))(wa:W a)(r:kvs.map (·.1)=ps.map (·.1)/\Reps K (Ms H0 W true) (upd H a (.dT kvs)) (kvs.map (·.2)) (ps.map (·.2))):PX K H0 W σ (ρ.set i (some (.own (.dT ps)))) (upd H a (.dT kvs)):=p.updOwn hi ha wa rfl (y:=.dT ps) ⟨kvs,b7,r⟩
theorem ag9 {κ α β:Type}{l:List (κ×α)}{m:List (κ×β)}(e:l.map (·.1)=m.map (·.1)):l.length=m.length:=by
 have:=congrArg List.length e
 rw[aJ1,aJ1]at this
 exact this
def sM (i:Nat)(tk te:aD):aK:=λD ρ=>te ρ λz g=>∃ps,ρ[i]? = some (some (.own (.dT ps)))/\tk ρ λy _=>∃k,y = .tup (k.map kP)/\Nw g z/\ps.length<16000000/\D.nx (ρ.set i (some (.own (.dT (eL ps k z)))))
theorem ah0 {i:Nat}(h:LS X (sM i tk te) D σ H):wS (fM i) (LE X tk) (LE X te) D σ H:=by
 obtain⟨W,ρ,D',px,q,k⟩:=h
 refine⟨W,ρ,_,px,q,?_⟩
 rintro w H1 z g s rz ⟨ps,hi,q⟩
 obtain⟨v,ev,a,rfl,wa,kvs,ea,e1,r⟩:=(px.mono s).sl i _ hi
 refine⟨_,ev,W,ρ,_,px.mono s,q,?_⟩
 rintro kv H2 y g' s2 ry ⟨kk,rfl,nw,hl,q⟩
 obtain⟨b,us,rfl,hb,rb⟩:=ry.sqT
 obtain rfl:=yN rb
 have ea2:=s2 _ _ ea
 refine⟨a,_,rfl,lY.t ea2 hb (jI (by rw[ag9 e1];omega)),?_⟩
 refine k.nx W σ _ _ ((Ev.same (s.trans s2)).trans (Ev.upd wa)) ((px.mono (s.trans s2)).updT hi ev wa ?_) q
 obtain⟨h1,h2⟩:=ag7 kk ((Nw.rep px nw rz).same s2 λ_ z=>z) e1 (r.same s2 λ_ z=>z)
 exact⟨h1,h2.keep (.upd ea2 rfl λb m=>⟨kO wa m,m⟩)⟩
theorem ah1 (h:LE X (qC (.dT [])) σ H Q'):wT σ H Q':=by
 obtain⟨W,ρ,Q,px,q,k⟩:=h
 exact λp hp=>k _ _ _ .fr (b8 hp _) (.dT hp b7 rfl .nil) q
end
def bK:Nat->PV->PV->Bool
 |_,.non,.non=>true
 |_,.bl a,.bl b=>a==b
 |_,.int a,.int b=>a==b
 |_,.str a,.str b=>a==b
 |n+1,.tup xs,.tup ys=>(xs.zip ys).all (λp=>bK n p.1 p.2)&&xs.length==ys.length
 |n+1,.lst xs,.lst ys=>(xs.zip ys).all (λp=>bK n p.1 p.2)&&xs.length==ys.length
 |n+1,.kt xs,.kt ys=>(xs.zip ys).all (λp=>bK n p.1 p.2)&&xs.length==ys.length
 |_,_,_=>false
def cC:Nat->PV->PV->Bool
 |_,.non,.non=>true
 |_,.bl _,.bl _=>true
 |_,.int _,.int _=>true
 |_,.str _,.str _=>true
 |_,.non,.int _=>true
 |_,.int _,.non=>true
 |n+1,.tup xs,.tup ys=>(xs.zip ys).all (λp=>cC n p.1 p.2)
 |n+1,.lst xs,.lst ys=>(xs.zip ys).all (λp=>cC n p.1 p.2)
 |n+1,.kt xs,.kt ys=>(xs.zip ys).all (λp=>cC n p.1 p.2)
 |_+1,.non,.tup _=>true
 |_+1,.tup _,.non=>true
 |_,_,_=>false
theorem ah2 (n:Nat)(a b:Int):bK n (.int a) (.int b)=(a==b):=by cases n<;>rfl
theorem sN (n:Nat):∀(a b:af),((((intz a).zip (intz b)).all λp=>bK n p.1 p.2)&&(intz a).length==(intz b).length)=decide (a=b)
 |[],[]=>rfl
 |[],_::_=>by simp
 |_::_,[]=>by simp
 |x::a,y::b=>by
  have ih:=sN n a b
  simp only[aM4,aS1,aY1,aM6,ah2]at ih ⊢
  by_cases e:x=y
  ·subst e
   have:((intz a).length+1==(intz b).length+1)=((intz a).length==(intz b).length):=by simp
   rw[this,aQ4,Bool.true_and,ih]
   simp
  ·have:(x==y)=false:=beq_eq_false_iff_ne.mpr e
   rw[this,Bool.false_and,Bool.false_and]
   simp[e]
theorem ah3 (n:Nat)(a b:af):bK (n+1) (.tup (intz a)) (.tup (intz b))=decide (a=b):=sN n a b
theorem ah4 (n:Nat)(a b:af):bK (n+1) (.lst (intz a)) (.lst (intz b))=decide (a=b):=sN n a b
theorem sO (n:Nat):∀(a b:af),(((intz a).zip (intz b)).all λp=>cC n p.1 p.2)=true
 |[],_=>by simp
 |_::_,[]=>by simp
 |x::a,y::b=>by
  simp only[aM4,aS1,aY1,sO n a b,Bool.and_true]
  cases n<;>rfl
theorem ah5 (n:Nat)(a b:af):cC (n+1) (.tup (intz a)) (.tup (intz b))=true:=sO n a b
theorem ah6 (n:Nat)(a b:af):cC (n+1) (.lst (intz a)) (.lst (intz b))=true:=sO n a b
def jO (ta:aD):aD:=λρ Q=>ta ρ λx _=>∃i,x = .int i/\Q (.int (-i)) .fr
def yO:PV->Option String
 |.non=>some "NoneType"
 |.bl _=>some "bool"
 |.int _=>some "int"
 |.str _=>some "str"
 |.tup _=>some "tuple"
 |.kt _=>some "tuple"
 |.lst _=>some "list"
 |_=>none
def iB (K:ac)(n:String)(te:aD):aD:=λρ Q=>te ρ λx _=>∃T b,yO x=some T/\PySem.W.kitOne K (.type T) (.type n)=some b/\Q (.bl b) .fr
def sP (n:Nat)(neg:Bool):PV->Tg->PV->Tg->PK->Prop:=λx _ y _ Q=>((∃xs ys,x = .tup xs/\y = .tup ys)∨(∃xs ys,x = .lst xs/\y = .lst ys))/\cC (n+1) x y=true/\Q (.bl (if neg=true then !bK (n+1) x y else bK (n+1) x y)) .fr
abbrev kT:=b6->(Option Int->Prop)->Prop
def e8 (xs:List PV)(lo hi:Option Int):List PV:=(xs.drop (HT.aR xs.length 0 lo)).take (HT.aR xs.length xs.length hi-HT.aR xs.length 0 lo)
def yP:PV->List PV->PV
 |.tup _,ys=>.tup ys
 |.kt _,ys=>.tup ys
 |_,ys=>.lst ys
def mG:kT:=λ_ Q=>Q none
def mH (te:aD):kT:=λρ Q=>te ρ λx _=>∃i,x = .int i/\Q (some i)
def mI (te:aD)(tl th:kT):aD:=λρ Q=>te ρ λx _=>tl ρ λlo=>th ρ λhi=>∃xs,seqT x=some xs/\flats xs=true/\Q (yP x (e8 xs lo hi)) .fr
def cZ (N:List Str)(xs:List PV):b6:=xs.map (λx=>some (.sh (flat x) x))++List.replicate (N.length-xs.length) none
abbrev eM (ta tb:aD):aD:=q2 (fA λi j=>.int (i+j)) ta tb
abbrev oR (ta tb:aD):aD:=q2 (fA λi j=>.int (i-j)) ta tb
abbrev jP (ta tb:aD):aD:=q2 (RI lR λi j=>.int (i*j)) ta tb
abbrev bI (ta tb:aD):aD:=q2 (RI qV λi j=>.int (i/j)) ta tb
abbrev aX (ta tb:aD):aD:=q2 (RI (λ_ j=>0<j) λi j=>.int (i%j)) ta tb
abbrev yQ (ta tb:aD):aD:=q2 (RI qW λi j=>.int (i^j.toNat)) ta tb
abbrev mJ (ta tb:aD):aD:=q2 (fA λi j=>.bl (decide (i<j))) ta tb
abbrev fD (ta tb:aD):aD:=q2 (fA λi j=>.bl (decide (j<i))) ta tb
abbrev qGe (ta tb:aD):aD:=q2 (fA λi j=>.bl (decide (j<=i))) ta tb
abbrev dG (ta tb:aD):aD:=q2 (jJ false) ta tb
abbrev mK (ta tb:aD):aD:=q2 (jJ true) ta tb
abbrev bL (ta tb:aD):aD:=q2 sG ta tb
def fE:List PV->(PV->Prop)->Prop:=λxs Q=>yF xs Q/\∀ns,xs≠[.scr ns]
def QE (X:Cx)(e:Expr)(t:aD):Prop:=PE X e (LE X t)
def QT (X:Cx)(e:Expr)(t:cH):Prop:=PT X e (LT X t)
def QW (X:Cx)(e:Expr)(t:cH):Prop:=PW X e (LT X t)
def QA (X:Cx)(es:List Expr)(t:bS):Prop:=PA X es (LA X t)
def QS (X:Cx)(st:Stmt)(t:aK):Prop:=PS X st (LS X t)
def dQ (X:Cx)(st:List Stmt)(t:aK):Prop:=cN X st (LS X t)
def QI (X:Cx)(tg iter:Expr)(t:dF):Prop:=PI X tg iter (LI X t)
section
variable {X:Cx}
theorem bT {e:Expr}{t t':TE}(h:PE X e t)(m:∀σ H Q,t' σ H Q->t σ H Q):PE X e t':=λpins s σ H Q I q=>h pins s σ H Q I (m σ H Q q)
theorem sQ {e:Expr}{t t':TT}(h:PT X e t)(m:∀σ H Q,t' σ H Q->t σ H Q):PT X e t':=λpins s σ H Q I q=>h pins s σ H Q I (m σ H Q q)
theorem yR {e:Expr}{t t':TT}(h:PW X e t)(m:∀σ H Q,t' σ H Q->t σ H Q):PW X e t':=λwh pins s σ H Q I q=>h wh pins s σ H Q I (m σ H Q q)
theorem yS {e:List Expr}{t t':TA}(h:PA X e t)(m:∀σ H Q,t' σ H Q->t σ H Q):PA X e t':=λpos pins s σ H Q I q=>h pos pins s σ H Q I (m σ H Q q)
theorem dH {e:Stmt}{t t':TS}(h:PS X e t)(m:∀D σ H,t' D σ H->t D σ H):PS X e t':=λpins s σ H D I q=>h pins s σ H D I (m D σ H q)
theorem jQ {e:List Stmt}{t t':TS}(h:cN X e t)(m:∀D σ H,t' D σ H->t D σ H):cN X e t':=λpins s σ H D I q=>h pins s σ H D I (m D σ H q)
theorem mL {tg e:Expr}{t t':TI}(h:PI X tg e t)(m:∀σ H R,t' σ H R->t σ H R):PI X tg e t':=λpins s σ H R I q=>h pins s σ H R I (m σ H R q)
variable {a b c e o:Expr}{es bW:List Expr}{ta tb te to tk:aD}{tr:bS}{tA tB' tc:cH}{pos p2 px:Pos}{st:Stmt}{sts:List Stmt}{t u:aK}
theorem qv (i:Nat){x:Str}{pos:Pos}(hN:X.N[i]? = some x:=by rfl)(hv:eV X.env.scope x:=by first|exact Or.inl rfl|exact Or.inr (Or.inl rfl)|exact Or.inr (Or.inr rfl))(hd:(x==("__debug__":Str))=false:=by decide)(hcd:(x==("__classdict__":Str))=false:=by decide):QE X (.Name x pos) (a5 i):=bT (fZ hN hv hd hcd) λ_ _ _=>ad0
theorem aA {i j}:QE X (.Constant (.int i) j pos) (qC (.int i)):=bT qI λ_ _ _=>m8 λ_=>.int i
theorem gL {i j}:QE X (.Constant (.bool i) j pos) (qC (.bl i)):=bT O6 λ_ _ _=>m8 λ_=>.bl i
theorem ah7 {j}:QE X (.Constant .none j pos) (qC .non):=bT O7 λ_ _ _=>m8 λ_=>.non
theorem mM {i j}:QE X (.Constant (.str i) j pos) (qC (.str i)):=bT O8 λ_ _ _=>m8 λ_=>.str i
theorem iZ {op:Operator}{R:PV->Tg->PV->Tg->PK->Prop}{r:R2}(ho:cA X (binaryOp op) r)(cv:dW X R r)(ha:QE X a ta)(hb:QE X b tb):QE X (.BinOp a op b pos) (q2 R ta tb):=bT (R5 ho ha hb) λ_ _ _=>oH cv
theorem fF (ha:QE X a ta)(hb:QE X b tb):QE X (.BinOp a .Add b pos) (q2 (fA λi j=>.int (i+j)) ta tb):=iZ R7 xW ha hb
theorem sR (ha:QE X a ta)(hb:QE X b tb):QE X (.BinOp a .Sub b pos) (q2 (fA λi j=>.int (i-j)) ta tb):=iZ R8 xW ha hb
theorem jR (ha:QE X a ta)(hb:QE X b tb):QE X (.BinOp a .Mult b pos) (q2 (RI lR λi j=>.int (i*j)) ta tb):=iZ R9 oI ha hb
theorem bU (ha:QE X a ta)(hb:QE X b tb):QE X (.BinOp a .FloorDiv b pos) (q2 (RI qV λi j=>.int (i/j)) ta tb):=iZ S0 oI ha hb
theorem bA (ha:QE X a ta)(hb:QE X b tb):QE X (.BinOp a .Mod b pos) (q2 (RI (λ_ j=>0<j) λi j=>.int (i%j)) ta tb):=iZ S2 oI ha hb
theorem yT (ha:QE X a ta)(hb:QE X b tb):QE X (.BinOp a .Pow b pos) (q2 (RI qW λi j=>.int (i^j.toNat)) ta tb):=iZ S3 oI ha hb
theorem yU {op:CmpOp}{R:PV->Tg->PV->Tg->PK->Prop}{r:R2}(ho:cA X (compareOp op) r)(cv:dW X R r)(ha:QE X a ta)(hb:QE X b tb)(hm:behindInMarks op b=false):QE X (.Compare a [op] [b] pos) (q2 R ta tb):=bT (S9 ho ha hb hm) λ_ _ _=>oH cv
theorem kU {op:CmpOp}{R:PV->Tg->PV->Tg->PK->Prop}{r:R2}(ho:cA X (compareOp op) r)(cv:dW X R r)(ha:QE X a ta)(hb:QE X b tb)(hm:behindInMarks op b=false):QT X (.Compare a [op] [b] pos) (aS (q2 R ta tb)):=sQ (T1 ho ha hb hm) λ_ _ _ h=>oH cv (y3 h)
theorem ah8 (ha:QE X a ta)(hb:QE X b tb):QE X (.Compare a [.Eq] [b] pos) (q2 (jJ false) ta tb):=yU vO xZ ha hb (iR _)
theorem mO (ha:QE X a ta)(hb:QE X b tb):QT X (.Compare a [.Lt] [b] pos) (aS (q2 (fA λi j=>.bl (decide (i<j))) ta tb)):=kU vP oJ ha hb (iR _)
theorem jS (ha:QE X a ta)(hb:QE X b tb):QT X (.Compare a [.Gt] [b] pos) (aS (q2 (fA λi j=>.bl (decide (j<i))) ta tb)):=kU S7 oJ ha hb (iR _)
theorem ah9 (ha:QE X a ta)(hb:QE X b tb):QT X (.Compare a [.GtE] [b] pos) (aS (q2 (fA λi j=>.bl (decide (j<=i))) ta tb)):=kU S8 oJ ha hb (iR _)
theorem gM (ha:QE X a ta)(hb:QE X b tb):QT X (.Compare a [.Eq] [b] pos) (aS (q2 (jJ false) ta tb)):=kU vO xZ ha hb (iR _)
theorem mP (ha:QE X a ta)(hb:QE X b tb):QT X (.Compare a [.NotEq] [b] pos) (aS (q2 (jJ true) ta tb)):=kU S6 ad1 ha hb (iR _)
theorem gN (h:QE X e te)(he:∀whole,isTrue e X.env whole=(do let v <- whole;standAt e.pos;holding [v] (truthy v)):=by intro _;rfl):QT X e (aS te):=sQ (O9 h he) λ_ _ _ h=>y3 h
theorem mQ (ha:QT X a tA):QW X (.BoolOp .And [a] pos) tA:=P0 ha
theorem j4 (ha:QT X a tA):QW X (.BoolOp .Or [a] pos) tA:=P3 ha
theorem mR (ha:QT X a tA)(hb:QW X (.BoolOp .And (b::bW) pos) tB'):QW X (.BoolOp .And (a::b::bW) pos) (fQ tA tB'):=yR (P4 ha hb) λ_ _ _=>ad2
theorem iC (ha:QT X a tA)(hb:QW X (.BoolOp .Or (b::bW) pos) tB'):QW X (.BoolOp .Or (a::b::bW) pos) (gH tA tB'):=yR (P5 ha hb) λ_ _ _=>ad3
theorem fG (h:QW X e tA):QT X e tA:=PW.pt h
theorem gO (ha:QT X a tA):QT X (.UnaryOp .Not a pos) (fB tA):=sQ (P6 ha) λ_ _ _=>ad4
theorem oS {op}(h:QE X a ta):QE X (.BoolOp op [a] pos) ta:=P7 h
theorem oU (ha:QE X a ta)(hb:QE X (.BoolOp .And (b::bW) pos) tb):QE X (.BoolOp .And (a::b::bW) pos) (kM ta tb):=bT (P8 ha hb) λ_ _ _=>ad5
theorem sS (ha:QE X a ta):QE X (.UnaryOp .Not a pos) (m9 ta):=bT (P9 ha) λ_ _ _=>ad6
theorem aG:QA X [] aB:=yS dU λ_ _ _=>ad7
theorem a8 (ha:QE X e te)(hr:QA X es tr)(hs:starEach (e::es) X.env=(false,eval e X.env)::starEach es X.env:=by rfl):QA X (e::es) (a7 te tr):=yS (cI ha hr hs) λ_ _ _=>ad8
theorem e9 {x1}(h:QA X es tr):QE X (.Tuple es x1 pos) (dE tr):=bT (vR h) λ_ _ _=>ad9
theorem fH (h:QA X es tr):QE X (.List es pos) (dP tr):=bT (qZ h) λ_ _ _=>ae0
theorem bV (ha:QE X a ta)(hb:QE X b tb)(hs:wA b:=by exact λ_ _=>rfl):QE X (.Subscript a b pos) (q2 sG ta tb):=bT (rC W7 ha hb hs) λ_ _ _=>oH af1
theorem ai0:QE X (.Dict [] [] pos) (qC (.dT [])):=bT Z0 λ_ _ _=>ah1
theorem j5 {x:Str}{id:String}{R:List PV->(PV->Prop)->Prop}{r:List V->Hp->VK->Prop}(hc:cG X (.builtin id) r)(cv:eJ X R r)(hg:Gl X x)(hm:X.mg x=none)(hv:bootBuiltins x=some (.builtin id))(ha:QA X (e::es) tr)(hn:x≠"__name__":=by decide)(hdb:(x==("__debug__":Str))=false:=by decide)(he:starEach (e::es) X.env=(false,eval e X.env)::starEach es X.env:=by rfl)(hpl:(backTo pos (starEach es X.env)).any (·.1)=false:=by rfl):QE X (.Call (.Name x p2) (e::es) [] pos) (aI R tr):=bT (nX hc hg hm hv ha hn hdb he hpl) λ_ _ _=>yA cv
theorem sT {x:Str}{T:String}{R:List PV->(PV->Prop)->Prop}{r:List V->Hp->VK->Prop}(hc:cG X (.type T) r)(cv:eJ X R r)(hg:Gl X x)(hm:X.mg x=none)(hv:bootBuiltins x=some (.type T))(ha:QA X (e::es) tr)(hn:x≠"__name__":=by decide)(hdb:(x==("__debug__":Str))=false:=by decide)(he:starEach (e::es) X.env=(false,eval e X.env)::starEach es X.env:=by rfl)(hpl:(backTo pos (starEach es X.env)).any (·.1)=false:=by rfl):QE X (.Call (.Name x p2) (e::es) [] pos) (aI R tr):=bT (T9 hc hg hm hv ha hn hdb he hpl) λ_ _ _=>yA cv
theorem cJ:dQ X [] cB:=jQ Q4 λ_ _ _=>ae1
theorem aY (h1:QS X st t)(h2:dQ X sts u):dQ X (st::sts) (aO t u):=jQ (lP h1 h2) λ_ _ _=>ae2
theorem aW (h1:QS X st t):dQ X [st] t:=v4 h1
theorem cK {i:Nat}{x:Str}(hN:X.N.Nodup)(he:QE X e te)(hi:X.N[i]? = some x:=by rfl)(hx:fJ X.env.scope x:=by first|exact Or.inl rfl|exact Or.inr rfl)(hs:swapsWith e (some (.Name x p2)) pos.line X.env=pure false:=by rfl)(hf:X.fn x=true∨X.env.scope.names.lookup x=some .local:=by first|exact .inl rfl|exact .inr rfl) :
  QS X (.Assign [.Name x p2] e pos) (bG i te):=dH (qO hN hi hx he hs hf) λ_ _ _=>yC
theorem iD {i:Nat}{x:Str}(hN:X.N.Nodup)(he:QE X e te)(hi:X.N[i]? = some x:=by rfl)(hx:fJ X.env.scope x:=by first|exact Or.inl rfl|exact Or.inr rfl)(hs:swapsWith e (some (.Name x p2)) pos.line X.env=pure false:=by rfl)(hf:X.fn x=true∨X.env.scope.names.lookup x=some .local:=by first|exact .inl rfl|exact .inr rfl) :
  QS X (.Assign [.Name x p2] e pos) (gI i te):=dH (qO hN hi hx he hs hf) λ_ _ _=>ae4
theorem cF (he:QE X e te):QS X (.Return (some e) pos) (bZ te):=dH (v7 he) λ_ _ _=>ae5
theorem ai1 (i:Nat){x:Str}(hN:X.N[i]? = some x:=by rfl)(hv:eV X.env.scope x:=by first|exact Or.inl rfl|exact Or.inr (Or.inl rfl)|exact Or.inr (Or.inr rfl))(hd:(x==("__debug__":Str))=false:=by decide)(hcd:(x==("__classdict__":Str))=false:=by decide) :
  QS X (.Return (some (.Name x p2)) pos) (sE i):=dH (v7 (fZ hN hv hd hcd)) λ_ _ _=>ae6
theorem cL {sa sb:List Stmt}(hc:QT X c tc)(ha:dQ X sa t)(hb:dQ X sb u):QS X (.If c sa sb pos) (bC tc t u):=dH (v8 hc ha hb) λ_ _ _=>ae7
theorem kW (i:Nat){x:Str}{apos cpos xpos:Pos}(he:QE X e te)(hN:X.N[i]? = some x:=by rfl)(hv:eV X.env.scope x:=by first|exact Or.inl rfl|exact Or.inr (Or.inl rfl)|exact Or.inr (Or.inr rfl))(hd:(x==("__debug__":Str))=false:=by decide)(hcd:(x==("__classdict__":Str))=false:=by decide)(hbase:attributeBase (.Name x xpos) "append" X.env (eval (.Name x xpos) X.env)=eval (.Name x xpos) X.env:=by rfl)(hfew:((backTo cpos (starEach [e] X.env)).all (λx=>!x.1)&&(backToKw cpos (keywordEach [] X.env)).all (λx=>x.1.isSome)&&decide (([e]:List Expr).length+([]:List Keyword).length+(if ([]:List Keyword).isEmpty then 0 else 1)<30))=true:=by rfl)(hline:(apos.endLine==cpos.line)=true:=by rfl)(hs:starEach [e] X.env=(false,eval e X.env)::starEach [] X.env:=by rfl)(hplain:(backTo cpos (starEach [] X.env)).any (·.1)=false:=by rfl)(hsw:swapsWith (.Call (.Attribute (.Name x xpos) "append" apos) [e] [] cpos) none pos.line X.env=pure false:=by rfl) :
  QS X (.Expr (.Call (.Attribute (.Name x xpos) "append" apos) [e] [] cpos) pos) (iV i te):=
 dH (kC (lV aU5 PySem.F.slot_list_append PySem.F.type_list_append lX (fZ hN hv hd hcd) (cI he dU hs) hbase hfew hline hs hplain) hsw) λ_ _ _=>ae8
theorem ai2 {i:Nat}{x:Str}{xpos tpos:Pos}(hu:X.A.units+1<cLine)(hk:QE X a tk)(he:QE X e te)(hN:X.N[i]? = some x:=by rfl)(hv:eV X.env.scope x:=by first|exact Or.inl rfl|exact Or.inr (Or.inl rfl)|exact Or.inr (Or.inr rfl))(hd:(x==("__debug__":Str))=false:=by decide)(hcd:(x==("__classdict__":Str))=false:=by decide)(hs:swapsWith e (some (.Subscript (.Name x xpos) a tpos)) pos.line X.env=pure false:=by rfl):QS X (.Assign [.Subscript (.Name x xpos) a tpos] e pos) (sM i tk te):=dH (Y8 hu (fZ hN hv hd hcd) hk he hs) λ_ _ _=>ah0
theorem ai3 {tg l:Expr}{tl:TE}(hl:PE X l tl):PI X tg l (yG X.K tl):=by
 intro pins s σ H R I h
 refine aQ (hl pins s σ H _ I h) λv s1 ⟨x,H1,I1,r1,q1⟩=>?_
 obtain⟨a,e,q⟩:=q1
 subst e
 cases r1
 rcases q with⟨xs,hq,q⟩|⟨xs,hq,q⟩
 ·obtain⟨its,rv,p,hz⟩:=I1.list hq
  refine wpAny_pyIter_list p.isList ?_
  refine⟨s1.heap.objs.size,[s1.heap.objs.size],_,_,H1,rfl,I1.kept (t':=s1.toks) λb o e=>aH2 _ e,Q6 a _,⟨_,aJ3 _ rfl,rfl,rfl⟩,λb hb=>?_,q⟩
  have e:b=s1.heap.objs.size:=by simpa using hb
  subst e
  exact I1.fpOk (aH7 _) (I1.hok.fresh (aH7 _))
 ·obtain⟨its,rv,p,hz⟩:=I1.tuple hq
  refine aW0 (show s1.heap.IsTuple a its.toArray from p) ?_
  refine⟨s1.heap.objs.size,[s1.heap.objs.size],_,_,H1,rfl,I1.kept (t':=s1.toks) λb o e=>aH2 _ e,Q7 a _,⟨_,aJ3 _ rfl,rfl,rfl⟩,λb hb=>?_,q⟩
  have e:b=s1.heap.objs.size:=by simpa using hb
  subst e
  exact I1.fpOk (aH7 _) (I1.hok.fresh (aH7 _))
theorem sU {tg l:Expr}(hl:QE X l te):QI X tg l (mF te):=mL (ai3 hl) λ_ _ _=>af9
theorem kX {tg:Expr}(hg:Gl X "range")(hm:X.mg "range" = none)(ha:QE X a ta)(hs:starEach [a] X.env = [(false,eval a X.env)]:=by rfl):QI X tg (.Call (.Name "range" p2) [a] [] pos) (iX ta):=mL (Q9 hg hm (cI ha dU hs) hs) λ_ _ _=>ag0
theorem yV {tg:Expr}(hg:Gl X "range")(hm:X.mg "range" = none)(ha:QE X a ta)(hb:QE X b tb)(hs:starEach [a,b] X.env = [(false,eval a X.env),(false,eval b X.env)]:=by rfl)(hs2:starEach [b] X.env = [(false,eval b X.env)]:=by rfl) :
  QI X tg (.Call (.Name "range" p2) [a,b] [] pos) (oO ta tb):=mL (R0 hg hm (cI ha (cI hb dU hs2) (by rw[hs,hs2])) hs hs2) λ_ _ _=>ag1
theorem yW {tg:Expr}{body:List Stmt}{ti:dF}{p:gK}{g:TG}{own:Nat->Prop}(hp:PassesOwn (model X.prog X.w) X.A X.env X.xe)(hc:X.calm=true)(hi:QI X tg e ti)(hg:PG X tg g)(ht:jL X.K own p g)(hb:dQ X body t)(hs:∀x,foldedSetIterable e X.env x=pure x:=by intro _;rfl):QS X (.For tg e body [] pos) (dZ ti p t):=dH (R3 hp hc hi hg hb hs) λ_ _ _=>ag2 ht
end
section
variable {X:Cx}{pins:List (Addr×Obj)}{σ:St}{H:Hp}{s:Shared}{K:ac}{M M':Addr→Prop}
theorem kL.inj {a:Addr}{us ws:List V}(h:kL K a us)(h':kL K a ws):us=ws:=by
 obtain⟨o,its,n,e1,_,e2,_,v⟩:=h
 obtain⟨o',its',n',e1',_,e2',_,v'⟩:=h'
 rw[e1]at e1';cases e1'
 rw[e2]at e2';cases e2'
 exact v.inj v'
theorem Reps.self_of {n:Nat}(ih:∀{v:V}{x y:PV},aF K M H v x->aF K M' H v y->cC n x y=true->bK n x y=true):∀{vs:List V}{xs ys:List PV},Reps K M H vs xs->Reps K M' H vs ys->((xs.zip ys).all λp=>cC n p.1 p.2)=true->(((xs.zip ys).all λp=>bK n p.1 p.2)&&xs.length==ys.length)=true
 |_,_,_,.nil,.nil,_=>rfl
 |_,_,_,.cons r t,.cons r' t',o=>by
  simp only[aS1,aY1,aR3]at o
  have h1:=ih r r' o.1
  have h2:=Reps.self_of ih t t' o.2
  simp only[aS1,aY1,h1,Bool.true_and,aM6]at h2 ⊢
  rw[<- h2]
  congr 1
  simp
theorem aF.self:∀(n:Nat) {v:V}{x y:PV},aF K M H v x->aF K M' H v y->cC n x y=true->bK n x y=true:=by
 intro n
 induction n with
 |zero=>
  intro v x y r r' o
  cases r with
  |non=>cases r';rfl
  |bl b=>cases r';exact aQ4 b
  |int i=>cases r';exact aQ4 i
  |str z=>cases r';exact aQ4 z
  |_=>cases o
 |succ n ih=>
  intro v x y r r' o
  cases r with
  |non=>cases r';rfl
  |bl b=>cases r';exact aQ4 b
  |int i=>cases r';exact aQ4 i
  |str z=>cases r';exact aQ4 z
  |tup h rr=>
   cases r' with
   |tup h' rr'=>rw[h]at h';cases h';exact Reps.self_of ih rr rr' o
   |_=>cases o
  |lst _ h rr=>
   cases r' with
   |lst _ h' rr'=>rw[h]at h';cases h';exact Reps.self_of ih rr rr' o
   |_=>cases o
  |kt h rr=>
   cases r' with
   |kt h' rr'=>cases kL.inj h h';exact Reps.self_of ih rr rr' o
   |_=>cases o
  |_=>cases o
theorem Reps.self (n:Nat){vs:List V}{xs ys:List PV}(r:Reps K M H vs xs)(r':Reps K M' H vs ys)(o:((xs.zip ys).all λp=>cC n p.1 p.2)=true):(((xs.zip ys).all λp=>bK n p.1 p.2)&&xs.length==ys.length)=true:=Reps.self_of (aF.self n) r r' o
theorem iE (n:Nat)(xs ys:List PV):(List.range (min xs.length ys.length)).all (λj=>bK n (xs.getD j .non) (ys.getD j .non))=(xs.zip ys).all λp=>bK n p.1 p.2:=by
 rw[aW6]
 simp only[aV5,List.mem_range]
 constructor
 ·intro h p hp
  obtain⟨j,hj,e⟩:=List.getElem_of_mem hp
  have hj':j<min xs.length ys.length:=by simpa using hj
  have:=h j hj'
  rw[List.getElem_zip]at e
  subst e
  have h1:j<xs.length:=by omega
  have h2:j<ys.length:=by omega
  simpa[aL9,h1,h2] using this
 ·intro h j hj
  have h1:j<xs.length:=by omega
  have h2:j<ys.length:=by omega
  have hz:j<(xs.zip ys).length:=by simp;omega
  have:=h _ (aS3 hz)
  rw[List.getElem_zip]at this
  simpa[aL9,h1,h2] using this
theorem ai4 (I:a6 X pins σ H s):∀(n:Nat) {A:Around}{v w:V}{x y:PV}{a b:Value},A.units+n<cLine->aF X.K M H v x->aF X.K M' H w y->aT v a->aT w b->cC n x y=true->SeqAt.EqAt A s a b (bK n x y):=by
 intro n
 induction n with
 |zero=>
  intro A v w x y a b hu rx ry ra rb o
  cases rx with
  |non=>
   cases ra
   cases ry with
   |non=>cases rb;exact SeqAt.EqAt.same _
   |int i=>obtain⟨t',rfl⟩:=rb;exact SeqAt.EqAt.none_int _ _
   |_=>cases o
  |bl i=>
   cases ra
   cases ry with
   |bl j=>cases rb;exact SeqAt.EqAt.bool_bool _ _
   |_=>cases o
  |int i=>
   obtain⟨t,rfl⟩:=ra
   cases ry with
   |int j=>obtain⟨t',rfl⟩:=rb;exact SeqAt.EqAt.int_int _ _ _ _
   |non=>cases rb;exact SeqAt.EqAt.int_none _ _
   |_=>cases o
  |str i=>
   obtain⟨t,rfl⟩:=ra
   cases ry with
   |str j=>obtain⟨t',rfl⟩:=rb;exact SeqAt.EqAt.str_str _ _ _ _
   |_=>cases o
  |_=>cases o
 |succ n ih=>
  intro A v w x y a b hu rx ry ra rb o
  have items:∀{us ws:List V}{xs ys:List PV}{its its2:List Value},Reps X.K M H us xs->Reps X.K M' H ws ys->aL us its->aL ws its2->((xs.zip ys).all λp=>cC n p.1 p.2)=true->
    ∀j (h1:j<its.toArray.size) (h2:j<its2.toArray.size),SeqAt.EqAt A.in1 s its.toArray[j] its2.toArray[j] (bK n (xs.getD j .non) (ys.getD j .non)):=λ{us ws xs ys its its2} r1 r2 v1 v2 ok j h1 h2=>by
   have l1:=v1.length
   have l2:=v2.length
   have m1:=r1.length
   have m2:=r2.length
   have k1:j<its.length:=by simpa using h1
   have k2:j<its2.length:=by simpa using h2
   have j1:j<us.length:=by omega
   have j2:j<ws.length:=by omega
   have i1:j<xs.length:=by omega
   have i2:j<ys.length:=by omega
   obtain⟨u,hu',ru⟩:=v1.get (aH5 j1)
   obtain⟨u2,hu2',ru2⟩:=v2.get (aH5 j2)
   obtain⟨x,hx,rx⟩:=r1.get (aH5 j1)
   obtain⟨y,hy,ry⟩:=r2.get (aH5 j2)
   have e1:its.toArray[j]=u:=by
    rw[aH5 k1]at hu'
    simpa using hu'
   have e2:its2.toArray[j]=u2:=by
    rw[aH5 k2]at hu2'
    simpa using hu2'
   have ok':cC n x y=true:=by
    rw[aV5]at ok
    have hz:j<(xs.zip ys).length:=by simp;omega
    have:=ok _ (aS3 hz)
    rw[List.getElem_zip]at this
    rw[aH5 i1]at hx
    rw[aH5 i2]at hy
    cases hx;cases hy
    exact this
   rw[e1,e2]
   have g1:xs.getD j .non=x:=by rw[aL9,hx];rfl
   have g2:ys.getD j .non=y:=by rw[aL9,hy];rfl
   rw[g1,g2]
   exact ih (by show A.units+1+n<cLine;omega) rx ry ru ru2 ok'
  have huA:A.units<cLine:=by omega
  cases rx with
  |@kt p us xs h1 r1=>
   obtain⟨its,v1,p1,_⟩:=I.tuple (.inr h1)
   cases (show a=Value.ref p from ra)
   cases ry with
   |@kt p2 ws ys h2 r2=>
    obtain⟨its2,v2,p2',_⟩:=I.tuple (.inr h2)
    cases (show b=Value.ref p2 from rb)
    by_cases e:p=p2
    ·subst e
     have:=aF.self (K:=X.K) (M:=M) (M':=M') (n+1) (.kt h1 r1) (.kt h2 r2) o
     rw[this]
     exact SeqAt.EqAt.same _
    ·have:=SeqAt.RcAt.tuples p1 p2' huA (items r1 r2 v1 v2 o)
     refine .of_refs e ?_
     have l1:=v1.length
     have l2:=v2.length
     have m1:=r1.length
     have m2:=r2.length
     rw[aH3,aH3,<- l1,<- l2,m1,m2,iE]at this
     exact this
   |_=>cases o
  |@tup p us xs h1 r1=>
   obtain⟨its,v1,p1,_⟩:=I.tuple (aN.of (K:=X.K) h1)
   cases (show a=Value.ref p from ra)
   cases ry with
   |@tup p2 ws ys h2 r2=>
    obtain⟨its2,v2,p2',_⟩:=I.tuple (aN.of (K:=X.K) h2)
    cases (show b=Value.ref p2 from rb)
    by_cases e:p=p2
    ·subst e
     have:=aF.self (K:=X.K) (M:=M) (M':=M') (n+1) (.tup h1 r1) (.tup h2 r2) o
     rw[this]
     exact SeqAt.EqAt.same _
    ·have:=SeqAt.RcAt.tuples p1 p2' huA (items r1 r2 v1 v2 o)
     refine .of_refs e ?_
     have l1:=v1.length
     have l2:=v2.length
     have m1:=r1.length
     have m2:=r2.length
     rw[aH3,aH3,<- l1,<- l2,m1,m2,iE]at this
     exact this
   |non=>cases rb;exact SeqAt.EqAt.tuple_none p1 huA
   |_=>cases o
  |@lst p us xs _ h1 r1=>
   obtain⟨its,v1,p1,_⟩:=I.list (aP.of (K:=X.K) h1)
   cases (show a=Value.ref p from ra)
   cases ry with
   |@lst p2 ws ys _ h2 r2=>
    obtain⟨its2,v2,p2',_⟩:=I.list (aP.of (K:=X.K) h2)
    cases (show b=Value.ref p2 from rb)
    have l1:=v1.length
    have l2:=v2.length
    have m1:=r1.length
    have m2:=r2.length
    by_cases e:p=p2
    ·subst e
     rw[h1]at h2;cases h2
     have:=Reps.self n r1 r2 o
     show SeqAt.EqAt A s _ _ ((xs.zip ys).all (λp=>bK n p.1 p.2)&&xs.length==ys.length)
     rw[this]
     exact SeqAt.EqAt.same _
    ·refine .of_refs e ?_
     by_cases hl:xs.length=ys.length
     ·have:=SeqAt.RcAt.lists p1.isList p2'.isList (by rw[aH3,aH3];omega) huA (items r1 r2 v1 v2 o)
      have hm:min xs.length ys.length=its.length:=by omega
      rw[aH3,<- hm,iE]at this
      show SeqAt.RcAt A s _ _ ((xs.zip ys).all (λp=>bK n p.1 p.2)&&xs.length==ys.length)
      rw[show (xs.length==ys.length)=true by simpa using hl,Bool.and_true]
      exact this
     ·have:=SeqAt.RcAt.lists_lengths (A:=A) p1.isList p2'.isList (by rw[aH3,aH3];simp;omega) huA
      show SeqAt.RcAt A s _ _ ((xs.zip ys).all (λp=>bK n p.1 p.2)&&xs.length==ys.length)
      rw[show (xs.length==ys.length)=false by simpa using hl,Bool.and_false]
      exact this
   |_=>cases o
  |non=>
   cases ra
   cases ry with
   |non=>cases rb;exact SeqAt.EqAt.same _
   |int i=>obtain⟨t',rfl⟩:=rb;exact SeqAt.EqAt.none_int _ _
   |@tup p2 ws ys h2 r2=>
    obtain⟨its2,v2,p2',_⟩:=I.tuple (aN.of (K:=X.K) h2)
    cases (show b=Value.ref p2 from rb)
    exact SeqAt.EqAt.none_tuple p2' huA
   |_=>cases o
  |bl i=>
   cases ra
   cases ry with
   |bl j=>cases rb;exact SeqAt.EqAt.bool_bool _ _
   |_=>cases o
  |int i=>
   obtain⟨t,rfl⟩:=ra
   cases ry with
   |int j=>obtain⟨t',rfl⟩:=rb;exact SeqAt.EqAt.int_int _ _ _ _
   |non=>cases rb;exact SeqAt.EqAt.int_none _ _
   |_=>cases o
  |str i=>
   obtain⟨t,rfl⟩:=ra
   cases ry with
   |str j=>obtain⟨t',rfl⟩:=rb;exact SeqAt.EqAt.str_str _ _ _ _
   |_=>cases o
  |_=>cases o
end
structure Bt (mg:Str->Option Value):Prop where
 len:mg "len" = none
 range:mg "range" = none
 tuple:mg "tuple" = none
 list:mg "list" = none
 sorted:mg "sorted" = none
 all:mg "all" = none
 any:mg "any" = none
 zip:mg "zip" = none
 min:mg "min" = none
 max:mg "max" = none
 sum:mg "sum" = none
 isinst:mg "isinstance" = none
 int:mg "int" = none
 bool:mg "bool" = none
 enum:mg "enumerate" = none
section
variable {X:Cx}{a b c e o:Expr}{es bW:List Expr}{ta tb te to tk:aD}{tr:bS}{tA tB' tc:cH}{pos p2 px:Pos}{st:Stmt}{sts:List Stmt}{t u:aK}
theorem dR (B:Bt X.mg)(ha:QA X [e] tr)(hg:Gl X "len":=by rfl)(he:starEach [e] X.env=(false,eval e X.env)::starEach [] X.env:=by rfl)(hpl:(backTo pos (starEach [] X.env)).any (·.1)=false:=by rfl):QE X (.Call (.Name "len" p2) [e] [] pos) (aI c7 tr):=
 j5 (X4.or Z6) af2 hg B.len PySem.boot_len ha (he:=he) (hpl:=hpl)
theorem fR (B:Bt X.mg)(ha:QA X [e] tr)(hg:Gl X "tuple":=by rfl)(he:starEach [e] X.env=(false,eval e X.env)::starEach [] X.env:=by rfl)(hpl:(backTo pos (starEach [] X.env)).any (·.1)=false:=by rfl):QE X (.Call (.Name "tuple" p2) [e] [] pos) (aI fE tr):=
 sT X6 af3 hg B.tuple PyProof.Rows.boot_tuple ha (he:=he) (hpl:=hpl)
theorem oV (B:Bt X.mg)(ha:QA X [e] tr)(hg:Gl X "list":=by rfl)(he:starEach [e] X.env=(false,eval e X.env)::starEach [] X.env:=by rfl)(hpl:(backTo pos (starEach [] X.env)).any (·.1)=false:=by rfl):QE X (.Call (.Name "list" p2) [e] [] pos) (aI kQ tr):=
 sT X5 af4 hg B.list PyProof.Rows.boot_list ha (he:=he) (hpl:=hpl)
theorem ai5 (B:Bt X.mg)(hc:X.calm=true)(ha:QA X [e] tr)(hg:Gl X "all":=by rfl)(he:starEach [e] X.env=(false,eval e X.env)::starEach [] X.env:=by rfl)(hpl:(backTo pos (starEach [] X.env)).any (·.1)=false:=by rfl):QE X (.Call (.Name "all" p2) [e] [] pos) (aI sH tr):=
 j5 (ac2 hc) af5 hg B.all PyProof.Rows.boot_all ha (he:=he) (hpl:=hpl)
theorem ai6 (B:Bt X.mg)(hc:X.calm=true)(ha:QA X [a,b] tr)(hg:Gl X "min":=by rfl)(he:starEach [a,b] X.env=(false,eval a X.env)::starEach [b] X.env:=by rfl)(hpl:(backTo pos (starEach [b] X.env)).any (·.1)=false:=by rfl):QE X (.Call (.Name "min" p2) [a,b] [] pos) (aI sI tr):=
 j5 (T3 hc) af6 hg B.min PyProof.Rows.boot_min ha (he:=he) (hpl:=hpl)
theorem ai7 (B:Bt X.mg)(hc:X.calm=true)(ha:QA X [a,b] tr)(hg:Gl X "max":=by rfl)(he:starEach [a,b] X.env=(false,eval a X.env)::starEach [b] X.env:=by rfl)(hpl:(backTo pos (starEach [b] X.env)).any (·.1)=false:=by rfl):QE X (.Call (.Name "max" p2) [a,b] [] pos) (aI sJ tr):=
 j5 (T2 hc) af7 hg B.max PyProof.Rows.boot_max ha (he:=he) (hpl:=hpl)
theorem oW (ha:QE X a ta):QE X (.UnaryOp .USub a pos) (jO ta):=bT (R6 S5 ha) λσ H Q' h=>by
 obtain⟨W,ρ,Q,px,q,k⟩:=h
 refine⟨W,ρ,_,px,q,?_⟩
 rintro v H1 x g s r ⟨i,rfl,q⟩
 cases r
 exact⟨i,rfl,k _ _ _ .fr s (.int _) q⟩
theorem aF.kt_ {K:ac}{M:Addr->Prop}{H:Hp}{v:V}{xs:List PV}(r:aF K M H v (.kt xs)):∃a us,v = .ref a/\kL K a us/\Reps K M H us xs:=by
 cases r with
 |kt h r=>exact⟨_,_,rfl,h,r⟩
def yX (K:ac)(H:Hp)(x:V)(t:Value):Prop:=eD K H x t∨∃a us,x = .ref a/\aN K H a us/\t = .type "tuple"
theorem ai8:cG X (.builtin "isinstance") (λxs H Q=>∃x t n b,xs = [x,.ty n]/\yX X.K H x t/\PySem.W.kitOne X.K t (.type n)=some b/\Q (.bl b) H):=by
 intro pins s σ H xs us Q I r h
 obtain⟨x,t,n,b,rfl,ty,e,q⟩:=h
 rcases ty with ty|⟨a,ws,rfl,hs,rfl⟩
 ·exact ab4 pins s σ H _ us Q I r ⟨x,t,n,b,rfl,ty,e,q⟩
 obtain⟨u,u',rfl,ru,ru'⟩:=kJ r
 cases ru'
 cases (show u=Value.ref a from ru)
 obtain⟨its,_,⟨o,h1,h2,_⟩,_⟩:=I.tuple hs
 exact aO3 PySem.W.kitx_tuple I.kIn ⟨o,h1,h2⟩ e (λz=>nomatch z) λtk=>⟨.bl b,H,I.tok tk,rfl,q⟩
theorem ai9 {K:ac}{M:Addr->Prop}{H:Hp}{v:V}{x:PV}{T:String}(r:aF K M H v x)(e:yO x=some T):yX K H v (.type T):=by
 cases r with
 |non=>cases e;exact .inl .non
 |bl b=>cases e;exact .inl (.bl b)
 |int i=>cases e;exact .inl (.int i)
 |str i=>cases e;exact .inl (.str i)
 |tup h _=>cases e;exact .inl (.tup h)
 |lst _ h _=>cases e;exact .inl (.lst h)
 |kt h _=>cases e;exact .inr ⟨_,_,rfl,.inr h,rfl⟩
 |_=>cases e
theorem sV {x:Str}{n:String}(B:Bt X.mg)(hn:bootBuiltins x=some (.type n))(hm:X.mg x=none)(ha:QE X a ta)(hg:Gl X "isinstance":=by rfl)(hgx:Gl X x:=by rfl)(hx:x≠"__name__":=by decide)(hdx:(x==("__debug__":Str))=false:=by decide)(he:starEach [a,.Name x px] X.env=(false,eval a X.env)::starEach [.Name x px] X.env:=by rfl)(he2:starEach [.Name x px] X.env=(false,eval (.Name x px) X.env)::starEach [] X.env:=by rfl)(hpl:(backTo pos (starEach [.Name x px] X.env)).any (·.1)=false:=by rfl):QE X (.Call (.Name "isinstance" p2) [a,.Name x px] [] pos) (iB X.K n ta):=
 bT (nX ai8 hg B.isinst PyProof.Rows.boot_isinstance (cI ha (cI (uU (v:=.ty n) hgx hm hn rfl hx hdx) dU he2) he) (he:=he) (hpl:=hpl)) λσ H Q' h=>by
  obtain⟨W,ρ,Q,px,q,k⟩:=h
  refine⟨W,ρ,_,px,q,?_⟩
  rintro v H1 x g s r ⟨T,b,e,kt,q⟩
  exact⟨v,_,n,b,rfl,ai9 r e,kt,k _ _ _ .fr s (.bl _) q⟩
theorem aj0 (B:Bt X.mg)(ha:QE X a ta)(hg:Gl X "isinstance":=by rfl)(hgx:Gl X "int":=by rfl)(he:starEach [a,.Name "int" px] X.env=(false,eval a X.env)::starEach [.Name "int" px] X.env:=by rfl)(he2:starEach [.Name "int" px] X.env=(false,eval (.Name "int" px) X.env)::starEach [] X.env:=by rfl)(hpl:(backTo pos (starEach [.Name "int" px] X.env)).any (·.1)=false:=by rfl):QE X (.Call (.Name "isinstance" p2) [a,.Name "int" px] [] pos) (iB X.K "int" ta):=sV B PyProof.Rows.boot_int B.int ha (hg:=hg) (hgx:=hgx) (he:=he) (he2:=he2) (hpl:=hpl)
theorem aj1 (B:Bt X.mg)(ha:QE X a ta)(hg:Gl X "isinstance":=by rfl)(hgx:Gl X "bool":=by rfl)(he:starEach [a,.Name "bool" px] X.env=(false,eval a X.env)::starEach [.Name "bool" px] X.env:=by rfl)(he2:starEach [.Name "bool" px] X.env=(false,eval (.Name "bool" px) X.env)::starEach [] X.env:=by rfl)(hpl:(backTo pos (starEach [.Name "bool" px] X.env)).any (·.1)=false:=by rfl):QE X (.Call (.Name "isinstance" p2) [a,.Name "bool" px] [] pos) (iB X.K "bool" ta):=sV B PyProof.Rows.boot_bool B.bool ha (hg:=hg) (hgx:=hgx) (he:=he) (he2:=he2) (hpl:=hpl)
theorem sW (B:Bt X.mg)(ha:QE X a ta)(hg:Gl X "isinstance":=by rfl)(hgx:Gl X "tuple":=by rfl)(he:starEach [a,.Name "tuple" px] X.env=(false,eval a X.env)::starEach [.Name "tuple" px] X.env:=by rfl)(he2:starEach [.Name "tuple" px] X.env=(false,eval (.Name "tuple" px) X.env)::starEach [] X.env:=by rfl)(hpl:(backTo pos (starEach [.Name "tuple" px] X.env)).any (·.1)=false:=by rfl):QE X (.Call (.Name "isinstance" p2) [a,.Name "tuple" px] [] pos) (iB X.K "tuple" ta):=sV B PyProof.Rows.boot_tuple B.tuple ha (hg:=hg) (hgx:=hgx) (he:=he) (he2:=he2) (hpl:=hpl)
def sX (K:ac)(n:Nat)(neg:Bool):R2:=λv w H Q=>∃x y,aF K (λ_=>True) H v x/\aF K (λ_=>True) H w y/\((∃xs ys,x = .tup xs/\y = .tup ys)∨(∃xs ys,x = .lst xs/\y = .lst ys)∨(∃xs ys,x = .kt xs/\y = .kt ys))/\cC (n+1) x y=true/\Q (.bl (if neg=true then !bK (n+1) x y else bK (n+1) x y)) H
theorem kY {pins:List (Addr×Obj)}{σ:St}{H:Hp}{s:Shared}{M M':Addr->Prop}(I:a6 X pins σ H s){n:Nat}{A:Around}(hu:A.units+(n+1)<cLine){us ws:List V}{xs ys:List PV}{its its2:List Value}(r1:Reps X.K M H us xs)(r2:Reps X.K M' H ws ys)(v1:aL us its)(v2:aL ws its2)(ok:((xs.zip ys).all λp=>cC n p.1 p.2)=true):∀j (h1:j<its.toArray.size) (h2:j<its2.toArray.size),SeqAt.EqAt A.in1 s its.toArray[j] its2.toArray[j] (bK n (xs.getD j .non) (ys.getD j .non)):=by
 intro j h1 h2
 have l1:=v1.length
 have l2:=v2.length
 have m1:=r1.length
 have m2:=r2.length
 have k1:j<its.length:=by simpa using h1
 have k2:j<its2.length:=by simpa using h2
 have j1:j<us.length:=by omega
 have j2:j<ws.length:=by omega
 have i1:j<xs.length:=by omega
 have i2:j<ys.length:=by omega
 obtain⟨u,hu',ru⟩:=v1.get (aH5 j1)
 obtain⟨u2,hu2',ru2⟩:=v2.get (aH5 j2)
 obtain⟨x,hx,rx⟩:=r1.get (aH5 j1)
 obtain⟨y,hy,ry⟩:=r2.get (aH5 j2)
 have e1:its.toArray[j]=u:=by
  rw[aH5 k1]at hu'
  simpa using hu'
 have e2:its2.toArray[j]=u2:=by
  rw[aH5 k2]at hu2'
  simpa using hu2'
 have ok':cC n x y=true:=by
  rw[aV5]at ok
  have hz:j<(xs.zip ys).length:=by simp;omega
  have:=ok _ (aS3 hz)
  rw[List.getElem_zip]at this
  rw[aH5 i1]at hx
  rw[aH5 i2]at hy
  cases hx;cases hy
  exact this
 rw[e1,e2]
 have g1:xs.getD j .non=x:=by rw[aL9,hx];rfl
 have g2:ys.getD j .non=y:=by rw[aL9,hy];rfl
 rw[g1,g2]
 exact ai4 I n (by show A.units+1+n<cLine;omega) rx ry ru ru2 ok'
theorem aG6 (n:Nat)(hu:X.A.units+(n+1)<cLine):cA X (compareOp .Eq) (sX X.K n false):=by
 intro pins s σ H v w a b Q I ra rb h
 obtain⟨x,y,rx,ry,kd,o,q⟩:=h
 have hu0:X.A.units<cLine:=by omega
 rcases kd with⟨xs,ys,rfl,rfl⟩|⟨xs,ys,rfl,rfl⟩|⟨xs,ys,rfl,rfl⟩
 ·obtain⟨p,us,rfl,h1,r1⟩:=rx.sqT
  obtain⟨p2,ws,rfl,h2,r2⟩:=ry.sqT
  cases ra;cases rb
  obtain⟨its,v1,p1,_⟩:=I.tuple (aN.of (K:=X.K) h1)
  obtain⟨its2,v2,p2',_⟩:=I.tuple (aN.of (K:=X.K) h2)
  have l1:=v1.length
  have l2:=v2.length
  have m1:=r1.length
  have m2:=r2.length
  have:=SeqAt.RcAt.tuples p1 p2' hu0 (kY I hu r1 r2 v1 v2 o)
  rw[aH3,aH3,<- l1,<- l2,m1,m2,iE]at this
  exact this _ _ _ _ ⟨.bl _,H,I,rfl,q⟩
 ·obtain⟨p,us,rfl,_,h1,r1⟩:=rx.sqL
  obtain⟨p2,ws,rfl,_,h2,r2⟩:=ry.sqL
  cases ra;cases rb
  obtain⟨its,v1,p1,_⟩:=I.list (aP.of (K:=X.K) h1)
  obtain⟨its2,v2,p2',_⟩:=I.list (aP.of (K:=X.K) h2)
  have l1:=v1.length
  have l2:=v2.length
  have m1:=r1.length
  have m2:=r2.length
  have q:Q (.bl ((xs.zip ys).all (λp=>bK n p.1 p.2)&&xs.length==ys.length)) H:=q
  by_cases hl:xs.length=ys.length
  ·have:=SeqAt.RcAt.lists p1.isList p2'.isList (by rw[aH3,aH3];omega) hu0 (kY I hu r1 r2 v1 v2 o)
   have hm:min xs.length ys.length=its.length:=by omega
   rw[aH3,<- hm,iE]at this
   rw[show (xs.length==ys.length)=true by simpa using hl,Bool.and_true]at q
   exact this _ _ _ _ ⟨.bl _,H,I,rfl,q⟩
  ·have:=SeqAt.RcAt.lists_lengths (A:=X.A) p1.isList p2'.isList (by rw[aH3,aH3];simp;omega) hu0
   rw[show (xs.length==ys.length)=false by simpa using hl,Bool.and_false]at q
   exact this _ _ _ _ ⟨.bl _,H,I,rfl,q⟩
 ·obtain⟨p,us,rfl,h1,r1⟩:=rx.kt_
  obtain⟨p2,ws,rfl,h2,r2⟩:=ry.kt_
  cases ra;cases rb
  obtain⟨its,v1,p1,_⟩:=I.tuple (.inr h1)
  obtain⟨its2,v2,p2',_⟩:=I.tuple (.inr h2)
  have l1:=v1.length
  have l2:=v2.length
  have m1:=r1.length
  have m2:=r2.length
  have:=SeqAt.RcAt.tuples p1 p2' hu0 (kY I hu r1 r2 v1 v2 o)
  rw[aH3,aH3,<- l1,<- l2,m1,m2,iE]at this
  exact this _ _ _ _ ⟨.bl _,H,I,rfl,q⟩
theorem aj2 (n:Nat)(hu:X.A.units+(n+1)<cLine):cA X (compareOp .NotEq) (sX X.K n true):=by
 intro pins s σ H v w a b Q I ra rb h
 obtain⟨x,y,rx,ry,kd,o,q⟩:=h
 have hu0:X.A.units<cLine:=by omega
 rcases kd with⟨xs,ys,rfl,rfl⟩|⟨xs,ys,rfl,rfl⟩|⟨xs,ys,rfl,rfl⟩
 ·obtain⟨p,us,rfl,h1,r1⟩:=rx.sqT
  obtain⟨p2,ws,rfl,h2,r2⟩:=ry.sqT
  cases ra;cases rb
  obtain⟨its,v1,p1,_⟩:=I.tuple (aN.of (K:=X.K) h1)
  obtain⟨its2,v2,p2',_⟩:=I.tuple (aN.of (K:=X.K) h2)
  have l1:=v1.length
  have l2:=v2.length
  have m1:=r1.length
  have m2:=r2.length
  have:=SeqAt.RcNeAt.tuples p1 p2' hu0 (kY I hu r1 r2 v1 v2 o)
  rw[aH3,aH3,<- l1,<- l2,m1,m2,iE]at this
  exact this _ _ _ _ ⟨.bl _,H,I,rfl,q⟩
 ·obtain⟨p,us,rfl,_,h1,r1⟩:=rx.sqL
  obtain⟨p2,ws,rfl,_,h2,r2⟩:=ry.sqL
  cases ra;cases rb
  obtain⟨its,v1,p1,_⟩:=I.list (aP.of (K:=X.K) h1)
  obtain⟨its2,v2,p2',_⟩:=I.list (aP.of (K:=X.K) h2)
  have l1:=v1.length
  have l2:=v2.length
  have m1:=r1.length
  have m2:=r2.length
  have q:Q (.bl (!((xs.zip ys).all (λp=>bK n p.1 p.2)&&xs.length==ys.length))) H:=q
  by_cases hl:xs.length=ys.length
  ·have:=SeqAt.RcNeAt.lists p1.isList p2'.isList (by rw[aH3,aH3];omega) hu0 (kY I hu r1 r2 v1 v2 o)
   have hm:min xs.length ys.length=its.length:=by omega
   rw[aH3,<- hm,iE]at this
   rw[show (xs.length==ys.length)=true by simpa using hl,Bool.and_true]at q
   exact this _ _ _ _ ⟨.bl _,H,I,rfl,q⟩
  ·have:=SeqAt.RcNeAt.lists_lengths (A:=X.A) p1.isList p2'.isList (by rw[aH3,aH3];simp;omega) hu0
   rw[show (xs.length==ys.length)=false by simpa using hl,Bool.and_false]at q
   exact this _ _ _ _ ⟨.bl _,H,I,rfl,q⟩
 ·obtain⟨p,us,rfl,h1,r1⟩:=rx.kt_
  obtain⟨p2,ws,rfl,h2,r2⟩:=ry.kt_
  cases ra;cases rb
  obtain⟨its,v1,p1,_⟩:=I.tuple (.inr h1)
  obtain⟨its2,v2,p2',_⟩:=I.tuple (.inr h2)
  have l1:=v1.length
  have l2:=v2.length
  have m1:=r1.length
  have m2:=r2.length
  have:=SeqAt.RcNeAt.tuples p1 p2' hu0 (kY I hu r1 r2 v1 v2 o)
  rw[aH3,aH3,<- l1,<- l2,m1,m2,iE]at this
  exact this _ _ _ _ ⟨.bl _,H,I,rfl,q⟩
theorem aj3 {n:Nat}{neg:Bool}:dW X (sP n neg) (sX X.K n neg):=by
 rintro W Hs H u v x y g g' Q Q' s n r1 r2 ⟨kd,o,q⟩ k
 exact⟨x,y,r1.same (aH.refl _) λ_ _=>trivial,r2.same (aH.refl _) λ_ _=>trivial,kd.elim .inl λz=>.inr (.inl z),o,k _ _ _ .fr (aH.refl _) (.bl _) q⟩
theorem aj4 (hu:X.A.units+3<cLine)(ha:QE X a ta)(hb:QE X b tb):QT X (.Compare a [.NotEq] [b] pos) (aS (q2 (sP 2 true) ta tb)):=kU (aj2 2 hu) aj3 ha hb (iR _)
end
end PP
namespace PP
open PySem L2 PyProof.Rows
def LO (X:Cx)(t:kT):TO:=λσ H Q'=>∃(W:Addr->Prop) (ρ:b6) (Q:Option Int->Prop),PX X.K X.H₀ W σ ρ H/\t ρ Q/\∀o H',aH H H'->Q o->Q' o H'
def QO (X:Cx)(e:Option Expr)(t:kT):Prop:=PO X e (LO X t)
theorem Reps.cut {K:ac}{M:Addr->Prop}{H:Hp}{us:List V}{xs:List PV}(r:Reps K M H us xs)(lo hi:Option Int):Reps K M H (gC us lo hi) (e8 xs lo hi):=by
 unfold gC e8
 rw[r.length]
 exact (r.drop _).take _
section
variable {X:Cx}{a b c e o:Expr}{es bW:List Expr}{ta tb te to tk:aD}{tr:bS}{tA tB' tc:cH}{pos p2 px:Pos}{st:Stmt}{sts:List Stmt}{t u:aK}
theorem oX:QO X none mG:=λpins s σ H Q I h=>V4 pins s σ H Q I (by
 obtain⟨W,ρ,Q1,px,q,k⟩:=h
 exact k _ _ (aH.refl _) q)
theorem oY (h:QE X e te):QO X (some e) (mH te):=λpins s σ H Q I hq=>V5 h pins s σ H Q I (by
 obtain⟨W,ρ,Q1,px,q,k⟩:=hq
 refine⟨W,ρ,_,px,q,?_⟩
 rintro v H1 x g s r ⟨i,rfl,q⟩
 cases r
 exact⟨i,rfl,k _ _ s q⟩)
theorem oZ {lo hi:Option Expr}{tl th:kT}{sp:Pos}(he:QE X e te)(hl:QO X lo tl)(hh:QO X hi th):QE X (.Subscript e (.Slice lo hi none sp) pos) (mI te tl th):=bT (V7 (X3.or ac5) he hl hh) λσ H Q' h=>by
 obtain⟨W,ρ,Q,px,q,k⟩:=h
 refine⟨W,ρ,_,px,q,λv H1 x g s1 r1 q1=>⟨W,ρ,_,px.mono s1,q1,λlo H2 s2 q2=>⟨W,ρ,_,px.mono (s1.trans s2),q2,?_⟩⟩⟩
 rintro hi H3 s3 ⟨xs,e,f,q3⟩
 have S:=(s1.trans s2).trans s3
 have r3:=r1.same (M':=Mg X.H₀ W H g) (s2.trans s3) λ_ z=>z
 cases r3 with
 |tup h r=>
  cases e
  refine .inr ⟨_,_,rfl,aN.of h,λp hp=>k _ _ _ .fr (S.trans (b8 hp _)) (.tup b7 (((r.flat f).cut lo hi).same (b8 hp _) λ_ z=>z)) q3,λec=>k _ _ _ .fr S (.tup h ?_) q3⟩
  have:=(r.flat (M':=Mg X.H₀ W H .fr) f).cut lo hi
  rw[ec]at this
  exact this
 |lst m h r=>
  cases e
  exact .inl ⟨_,_,rfl,aP.of h,λp hp=>k _ _ _ .fr (S.trans (b8 hp _)) (.lst (S.free hp) b7 (((r.flat f).cut lo hi).same (b8 hp _) λ_ z=>z)) q3⟩
 |scr h=>
  cases e
  exact .inl ⟨_,_,rfl,h.sqL,λp hp=>k _ _ _ .fr (S.trans (b8 hp _)) (.lst (S.free hp) b7 (((Reps.intz _).cut lo hi).same (b8 hp _) λ_ z=>z)) q3⟩
 |fL h r=>
  cases e
  exact .inl ⟨_,_,rfl,.inl (.inr ⟨_,h⟩),λp hp=>k _ _ _ .fr (S.trans (b8 hp _)) (.lst (S.free hp) b7 (((r.flat f).cut lo hi).same (b8 hp _) λ_ z=>z)) q3⟩
 |_=>cases e
structure Df (P:Program)(w:World)(K:ac)(mg:Str->Option Value)(base:Heap)(k:Nat)(x:Str)(ps:List Str)(p:cO):Prop where
 ex:∃f fd,cR P w K mg base dM k f fd ps (mE K p)/\i5 K fd ps []/\PySem.W.keepIn K (.ref f)=true/\mg x=some (.ref f)
theorem cQ {k j:Nat}{x:Str}{ps:List Str}{p:cO}(d:Df X.prog X.w X.K X.mg X.base k x ps p)(hr:bJ j X.A)(ha:QA X (e::es) tr)(hkj:k<=j:=by decide)(hg:Gl X x:=by rfl)(hdb:(x==("__debug__":Str))=false:=by decide)(he:starEach (e::es) X.env=(false,eval e X.env)::starEach es X.env:=by rfl)(hpl:(backTo pos (starEach es X.env)).any (·.1)=false:=by rfl):QE X (.Call (.Name x p2) (e::es) [] pos) (aI p tr):=by
 obtain⟨f,fd,F,b,kp,m⟩:=d.ex
 exact bT (nW F (hr.mono hkj) hg m kp b .nil wX ha hdb he hpl) λ_ _ _=>af8
theorem p5 {K:ac}{H:Hp}{N:List Str}{vs:List V}{xs:List PV}(r:Reps K (λ_=>True) H vs xs):PX K H (λ_=>False) (L2.eF N vs) (cZ N xs) H:=by
 have lr:=r.length
 have own:∀{i:Nat}{m:Slot},(cZ N xs)[i]? = some (some m)->∃x,xs[i]? = some x/\m = .sh (flat x) x:=λ{i m} h=>by
  unfold cZ at h
  by_cases hi:i<xs.length
  ·rw[aT5 (by simpa using hi),aL2]at h
   rw[aH5 hi]at h ⊢
   cases h
   exact⟨_,rfl,rfl⟩
  ·rw[aV7 (by simpa using hi),List.getElem?_replicate]at h
   split at h<;>cases h
 refine⟨by unfold L2.eF cZ;simp[lr],aH.refl _,λa z=>z.elim,λi m h=>?_,λi j x y a h1=>?_⟩
 ·obtain⟨x,hx,rfl⟩:=own h
  obtain⟨v,hv,rx⟩:=r.at hx
  refine⟨v,?_,oP (g:=false) (rx.same (aH.refl _) λ_ _ z=>z)⟩
  have hi:i<vs.length:=(aL0.mp hv).1
  unfold L2.eF
  rw[aT5 (by simpa using hi),aL2,hv];rfl
 ·obtain⟨x,_,e⟩:=own h1
  cases e
theorem Df.of {P:Program}{w:World}{K:ac}{mg:Str->Option Value}{base:Heap}{k:Nat}{x:Str}{ps N:List Str}{p:cO}{st:Stmt}{f:Addr}{fd:FuncData}(F:dD K x x st f fd)(m:mg x=some (.ref f))(S:FnScope N ps (aU st))(hb:∀(kV doc pm:Value) (an:Option Addr) (cdv ct:Value) (us:List Value),us.length=ps.length->bindArgs (PySem.W.fnOf x x (gF st) (cS st) (aU st) .none kV doc pm an cdv ct) ⟨us,[]⟩=pure (ps.zip us))(len:∀xs Q,p xs Q->xs.length=ps.length)(body:∀(cdv:Value) (A:Around) (outer:List Env) (s:Shared) (H:Hp) (E:XK),bJ k (A.deeper (envOfC x (aU st) s.heap.objs.size f cdv))->
   ∃t,dQ (bX dM P w K mg base N x (aU st) f cdv A outer s H E).nox (cS st) t/\∀xs Q,p xs Q->t { nx:=λ_=>Q .non,rt:=Q } (cZ N xs)):Df P w K mg base (k+1) x ps p:=by
 refine⟨f,fd,F.ok S (λvs H Q E h=>?_) (λcdv A outer s H vs Q E hr h=>?_),F.binds hb,F.kp,m⟩
 ·obtain⟨xs,Qp,r,q,_⟩:=h
  rw[r.length];exact len xs Qp q
 ·obtain⟨xs,Qp,r,q,k⟩:=h
  obtain⟨t,ht,hq⟩:=body cdv A outer s H E hr
  refine⟨_,ht,λ_=>False,cZ N xs,_,p5 r,hq xs Qp q,?_,?_,?_,?_⟩
  ·exact λW' σ' H' ρ' e px q=>k _ _ _ px.same .non q
  ·exact λv H' x s r q=>k _ _ _ s r q
  ·exact λW' σ' H' ρ' e px q=>q
  ·exact λW' σ' H' ρ' e px q=>q
theorem gX (i:Nat){x:Str}{tp:Pos}{body:List Stmt}{ti:dF}(hN:X.N.Nodup)(hi:QI X (.Name x tp) e ti)(hb:dQ X body t)(hx:X.N[i]? = some x:=by rfl)(hl:fJ X.env.scope x:=by first|exact Or.inl rfl|exact Or.inr rfl)(hf:X.fn x=true∨X.env.scope.names.lookup x=some .local:=by first|exact .inl rfl|exact .inr rfl)(hp:PassesOwn (model X.prog X.w) X.A X.env X.xe:=by exact PassesOwn.never)(hc:X.calm=true:=by rfl)(hs:∀x,foldedSetIterable e X.env x=pure x:=by intro _;rfl):QS X (.For (.Name x tp) e body [] pos) (dZ ti (dY i) t):=
 yW hp hc hi (iP hN hx hl hf) (yK _ i) hb hs
theorem aj5 (i j:Nat){x y:Str}{tp xp yp:Pos}{kt:Nat}{body:List Stmt}{ti:dF}(hN:X.N.Nodup)(hi:QI X (.Tuple [.Name x xp,.Name y yp] kt tp) e ti)(hb:dQ X body t)(hx:X.N[i]? = some x:=by rfl)(hy:X.N[j]? = some y:=by rfl)(hlx:fJ X.env.scope x:=by first|exact Or.inl rfl|exact Or.inr rfl)(hly:fJ X.env.scope y:=by first|exact Or.inl rfl|exact Or.inr rfl)(hfx:X.fn x=true∨X.env.scope.names.lookup x=some .local:=by first|exact .inl rfl|exact .inr rfl)(hfy:X.fn y=true∨X.env.scope.names.lookup y=some .local:=by first|exact .inl rfl|exact .inr rfl)(hp:PassesOwn (model X.prog X.w) X.A X.env X.xe:=by exact PassesOwn.never)(hc:X.calm=true:=by rfl)(hs:∀x,foldedSetIterable e X.env x=pure x:=by intro _;rfl):QS X (.For (.Tuple [.Name x xp,.Name y yp] kt tp) e body [] pos) (dZ ti (jM i j) t):=
 yW hp hc hi (qN hc (kE (iP hN hx hlx hfx) (kE (iP hN hy hly hfy) qM))) (sL _ i j) hb hs
abbrev gY:Value->Shared->Prop:=λ_ _=>False
section
variable {scope:Scope}{N:List Str}{fr:List (Option Nat)}{x y:Str}{tp xp yp:Pos}{kt:Nat}{iter elt:Expr}{ti:dF}
theorem yY {Y:Cx}:jG Y [] (LT Y iY):=λpins s σ H Q I h=>Z8 pins s σ H Q I (ag4 h)
end
theorem aj6:lW X "list.extend" (yE X.K):=λpins s σ H x xs v us Q I rx rs h=>h.elim (X8 pins s σ H x xs v us Q I rx rs) (ac9 pins s σ H x xs v us Q I rx rs)
end
end PP
namespace SO
open PySem PyProof.Rows
section
variable (rk:Keyed→Int)
def Kr (xs:Array Keyed)(i:Nat):Int:=((xs[i]?).map rk).getD 0
def Up (xs:Array Keyed)(lo hi:Nat):Prop:=∀i j,lo<=i->i<=j->j<hi->Kr rk xs i<=Kr rk xs j
def Dn (xs:Array Keyed)(lo hi:Nat):Prop:=∀i j,lo<=i->i<=j->j<hi->Kr rk xs j<=Kr rk xs i
end
variable {rk:Keyed→Int}
theorem jT {xs ys:Array Keyed}{i j:Nat}(h:xs[i]? = ys[j]?):Kr rk xs i=Kr rk ys j:=by unfold Kr;rw[h]
theorem p6 {xs:Array Keyed}{i j:Nat}(hj:j<=xs.size)(k:Nat):Kr rk (mirror xs i j ((j-i)/2)) k=Kr rk xs (if i<=k/\k<j then i+j-1-k else k):=by
 refine jT ?_
 rw[getElem?_mirror_all hj]
 split<;>rfl
theorem sY {xs:Array Keyed}{i j:Nat}(hj:j<=xs.size)(e:∀k,i<=k->k<j->Kr rk xs k=Kr rk xs (j-1))(k:Nat):Kr rk (mirror xs i j ((j-i)/2)) k=Kr rk xs k:=by
 rw[p6 hj]
 split
 ·rename_i h;rw[e k h.1 h.2,e _ (by omega) (by omega)]
 ·rfl
theorem aj7 {xs:Array Keyed}{src d:Nat}(hs:src<xs.size)(hd:d<=src)(k:Nat):Kr rk (bubble xs src d) k=Kr rk xs (if k=src-d then src else if src-d<k/\k<=src then k-1 else k):=by
 refine jT ?_
 rw[getElem?_bubble hs d hd]
 repeat' split
 all_goals rfl
structure SB (κ:SortKind)(a0:Array Keyed)(pd:Array (Nat×Nat×Nat))(st:SortSt):Prop where
 pm:(arrOf st).Perm a0
 kd:kindOf st=κ
 ok:failedOf st=none
 pd:pendingOf st=pd
section
variable {κ:SortKind}{a0:Array Keyed}{pd:Array (Nat×Nat×Nat)}{st:SortSt}{prog:Program}{w:World}{A:Around}{E:Value→Shared→Prop}{s:Shared}{Ok:Keyed→Prop}
theorem SB.sz (h:SB κ a0 pd st):(arrOf st).size=a0.size:=h.pm.size_eq
theorem SB.put (h:SB κ a0 pd st){xs:Array Keyed}(hp:xs.Perm (arrOf st)):SB κ a0 pd (setArr st xs):=⟨hp.trans h.pm,h.kd,h.ok,h.pd⟩
def c8 (prog:Program)(w:World)(A:Around)(E:Value->Shared->Prop)(s:Shared)(κ:SortKind)(Ok:Keyed->Prop)(rk:Keyed->Int):Prop:=
 ∀(x y:Keyed),Ok x->Ok y->∀(st:SortSt) (Q:Option Bool->SortSt->Prop),kindOf st=κ->Q (some (decide (rk x<rk y))) st->wpS (model prog w) A E s (lt' x y) Q st
def bE (Ok:Keyed->Prop)(xs:Array Keyed):Prop:=∀x∈xs,Ok x
theorem SB.all (h:SB κ a0 pd st)(o:bE Ok a0):bE Ok (arrOf st):=λx hx=>o x (h.pm.mem_iff.mp hx)
theorem cM {xs:Array Keyed}{i:Nat}{Q:Keyed->SortSt->Prop}(hi:i<xs.size)(h:Q xs[i] st):wpS (model prog w) A E s (elem' xs i) Q st:=by
 rw[elem'_eq,getElem?_pos xs i hi];exact aI6 h
theorem bR {xs:Array Keyed}{i:Nat}(hi:i<xs.size):Kr rk xs i=rk xs[i]:=by unfold Kr;rw[getElem?_pos xs i hi];rfl
theorem mS (c:c8 prog w A E s κ Ok rk)(o:bE Ok a0)(b:SB κ a0 pd st){i j:Nat}{Q:Option Bool->SortSt->Prop}(hi:i<a0.size)(hj:j<a0.size)(h:Q (some (decide (Kr rk (arrOf st) i<Kr rk (arrOf st) j))) st):wpS (model prog w) A E s (ltAt' i j) Q st:=by
 have hi':i<(arrOf st).size:=by rw[b.sz];exact hi
 have hj':j<(arrOf st).size:=by rw[b.sz];exact hj
 rw[ltAt'_eq]
 refine aI0 (wpS_get (aI0 (cM hi' (aI0 (cM hj' ?_)))))
 refine c _ _ (b.all o _ (aN0 hi')) (b.all o _ (aN0 hj')) st Q b.kd ?_
 rw[<- bR (rk:=rk) hi',<- bR (rk:=rk) hj'];exact h
theorem p9 {i j:Nat}{Q:Unit->SortSt->Prop}(h:Q () (setArr st (mirror (arrOf st) i j ((j-i)/2)))):wpS (model prog w) A E s (reverseSlice' i j) Q st:=by
 rw[reverseSlice'_eq];exact wpS_modify h
abbrev CS:=Option (Option Nat)×Nat
abbrev DS:=Option (Option Nat)×Nat×Nat
def mT (lo b nrem:Nat):StateT SortSt Sem CS:=forIn [b:nrem] ((none,b):CS) λ_ r=>do
 match <- ltAt' (lo+r.2) (lo+r.2-1) with
 |some q=>if q=true then pure (ForInStep.done (none,r.2)) else pure (ForInStep.yield (none,r.2+1))
 |_=>pure (ForInStep.done (some none,r.2))
def sZ (lo b nrem:Nat):StateT SortSt Sem DS:=forIn [b:nrem] ((none,b,0):DS) λ_ r=>do
 match <- ltAt' (lo+r.2.1) (lo+r.2.1-1) with
 |some q=>
  if q=true then (if r.2.2>0 then do reverseSlice' (lo+r.2.1-(r.2.2+1)) (lo+r.2.1);pure (ForInStep.yield (none,r.2.1+1,0)) else pure (ForInStep.yield (none,r.2.1+1,0)))
  else do
   match <- ltAt' (lo+r.2.1-1) (lo+r.2.1) with
   |some q=>if q=true then pure (ForInStep.done (none,r.2.1,r.2.2)) else pure (ForInStep.yield (none,r.2.1+1,r.2.2+1))
   |_=>pure (ForInStep.done (some none,r.2.1,r.2.2))
 |_=>pure (ForInStep.done (some none,r.2.1,r.2.2))
theorem yZ (c:c8 prog w A E s κ Ok rk)(o:bE Ok a0)(b:SB κ a0 pd st){lo n nrem:Nat}{Q:CS->SortSt->Prop}(hz:lo+nrem<=a0.size)(h1:1<=n)(hn:n<=nrem)(u:Up rk (arrOf st) lo (lo+n))(h:∀m,n<=m->m<=nrem->Up rk (arrOf st) lo (lo+m)->(m=nrem∨Kr rk (arrOf st) (lo+m)<Kr rk (arrOf st) (lo+m-1))->Q (none,m) st):wpS (model prog w) A E s (mT lo n nrem) Q st:=by
 unfold mT
 refine aP9 (I:=λx r st'=>st'=st/\r=(none,x)/\Up rk (arrOf st) lo (lo+x)) ?_ ?_ ⟨rfl,rfl,u⟩
 ·rintro x r st' hx hx' ⟨rfl,rfl,u'⟩
  refine aI0 (mS c o b (by omega) (by omega) ?_)
  by_cases hq:Kr rk (arrOf st') (lo+x)<Kr rk (arrOf st') (lo+x-1)
  ·rw[aI2 hq]
   exact aI6 (h x hx (by omega) u' (.inr hq))
  ·rw[aH8 hq]
   refine aI6 ⟨rfl,rfl,λi j hi hij hj=>?_⟩
   rcases aN9 j (lo+x) with z|z
   ·exact u' i j hi hij z
   ·have ej:j=lo+x:=by omega
    subst ej
    rcases aW1 hij with z|z
    ·rw[z];exact aX7 _
    ·have:=u' i (lo+x-1) hi (by omega) (by omega)
     omega
 ·rintro r st' ⟨rfl,rfl,u'⟩
  have em:max n nrem=nrem:=by omega
  rw[em]at u' ⊢
  exact h nrem hn (aH7 _) u' (.inl rfl)
structure mU (rk:Keyed->Int)(xs ys:Array Keyed)(lo m q:Nat):Prop where
 dn:Dn rk ys lo (lo+m)
 le:q+1<=m
 eq:∀i,lo+m-(q+1)<=i->i<lo+m->Kr rk ys i=Kr rk ys (lo+m-1)
 low:∀i,i<lo->Kr rk ys i=Kr rk xs i
theorem aj8 (c:c8 prog w A E s κ Ok rk)(o:bE Ok a0)(b:SB κ a0 pd st){lo n nrem:Nat}{xs:Array Keyed}{Q:DS->SortSt->Prop}(hz:lo+nrem<=a0.size)(h1:1<=n)(hn:n<=nrem)(u:mU rk xs (arrOf st) lo n 0)(h:∀m q st',SB κ a0 pd st'->n<=m->m<=nrem->mU rk xs (arrOf st') lo m q->Q (none,m,q) st'):wpS (model prog w) A E s (sZ lo n nrem) Q st:=by
 unfold sZ
 refine aP9 (I:=λx r st'=>∃q,r=(none,x,q)/\SB κ a0 pd st'/\mU rk xs (arrOf st') lo x q) ?_ ?_ ⟨0,rfl,b,u⟩
 ·rintro x r st' hx hx' ⟨q,rfl,b',f⟩
  have sz:=b'.sz
  dsimp only
  refine aI0 (mS c o b' (by omega) (by omega) ?_)
  by_cases hq:Kr rk (arrOf st') (lo+x)<Kr rk (arrOf st') (lo+x-1)
  ·rw[aI2 hq]
   have nx:∀ys:Array Keyed,(∀k,Kr rk ys k=Kr rk (arrOf st') k)->mU rk xs ys lo (x+1) 0:=λys e=>by
    refine⟨λi j hi hij hj=>?_,by omega,λi h1 h2=>by rw[show i=lo+(x+1)-1 by omega],λi hi=>(e i).trans (f.low i hi)⟩
    rw[e,e]
    rcases aN9 j (lo+x) with z|z
    ·exact f.dn i j hi hij z
    ·have ej:j=lo+x:=by omega
     subst ej
     rcases aW1 hij with z|z
     ·rw[z];exact aX7 _
     ·have:=f.dn i (lo+x-1) hi (by omega) (by omega)
      omega
   dsimp only
   rw[if_pos rfl]
   by_cases hp:q>0
   ·rw[if_pos hp]
    exact aI0 (p9 (aI6 ⟨0,rfl,b'.put (mirror_perm _ _ _ _),nx _ (sY (by omega) f.eq)⟩))
   ·rw[if_neg hp]
    exact aI6 ⟨0,rfl,b',nx _ λ_=>rfl⟩
  ·rw[aH8 hq]
   dsimp only
   rw[if_neg aJ0]
   refine aI0 (mS c o b' (by omega) (by omega) ?_)
   by_cases hl:Kr rk (arrOf st') (lo+x-1)<Kr rk (arrOf st') (lo+x)
   ·rw[aI2 hl]
    exact aI6 (h x q st' b' hx (by omega) f)
   ·rw[aH8 hl]
    have ex:Kr rk (arrOf st') (lo+x)=Kr rk (arrOf st') (lo+x-1):=by omega
    refine aI6 ⟨q+1,rfl,b',λi j hi hij hj=>?_,by have:=f.le;omega,λi h1 h2=>?_,f.low⟩
    ·rcases aN9 j (lo+x) with z|z
     ·exact f.dn i j hi hij z
     ·have ej:j=lo+x:=by omega
      subst ej
      rcases aW1 hij with z|z
      ·rw[z];exact aX7 _
      ·rw[ex];exact f.dn i (lo+x-1) hi (by omega) (by omega)
    ·rw[show lo+(x+1)-1=lo+x by omega]
     rcases aN9 i (lo+x) with z|z
     ·rw[ex];exact f.eq i (by omega) z
     ·rw[show i=lo+x by omega]
 ·rintro r st' ⟨q,rfl,b',f⟩
  have em:max n nrem=nrem:=by omega
  rw[em]at f ⊢
  exact h nrem q st' b' hn (aH7 _) f
theorem z9 (c:c8 prog w A E s κ Ok rk)(o:bE Ok a0)(b:SB κ a0 pd st){lo nrem:Nat}(n:Nat){xs:Array Keyed}{Q:Option Nat->SortSt->Prop}{K:DS->StateT SortSt Sem (Option Nat)}{k:CS->StateT SortSt Sem (Option Nat)}(hz:lo+nrem<=a0.size)(hn:n+1<=nrem)(hK:∀m q,K (none,m,q)=if q>0 then reverseSlice' (lo+m-(q+1)) (lo+m) >>= λ_=>reverseSlice' lo (lo+m) >>= λ_=>mT lo m nrem >>= k else reverseSlice' lo (lo+m) >>= λ_=>mT lo m nrem >>= k)(hk:∀m,k (none,m)=pure (some m))(u:mU rk xs (arrOf st) lo (n+1) 0)(h:∀m st',SB κ a0 pd st'->1<=m->m<=nrem->Up rk (arrOf st') lo (lo+m)->(∀i,i<lo->Kr rk (arrOf st') i=Kr rk xs i)->Q (some m) st'):wpS (model prog w) A E s (liftM (rule "list.sort.descending-run") >>= λ_=>sZ lo (n+1) nrem >>= K) Q st:=by
 refine aI0 (wpS_lift (aY0 ⟨rfl,?_⟩))
 refine aI0 (aj8 c o b hz (by omega) hn u λm q st1 b1 m1 m2 f=>?_)
 have fin:∀st2:SortSt,SB κ a0 pd st2->(∀k,Kr rk (arrOf st2) k=Kr rk (arrOf st1) k)->
   wpS (model prog w) A E s (reverseSlice' lo (lo+m) >>= λ_=>mT lo m nrem >>= k) Q st2:=λst2 b2 e=>by
  have sz:=b2.sz
  have low:∀i,i<lo->Kr rk (mirror (arrOf st2) lo (lo+m) ((lo+m-lo)/2)) i=Kr rk xs i:=λi hi=>by
   rw[p6 (by omega),if_neg (by omega),e]
   exact f.low i hi
  refine aI0 (p9 (aI0 (yZ (κ:=κ) c o (b2.put (mirror_perm _ _ _ _)) hz (by omega) m2 ?_ λm' h1 h2 up _=>by rw[hk];exact aI6 (h m' _ (b2.put (mirror_perm _ _ _ _)) (by omega) h2 up low))))
  ·intro i j hi hij hj
   show Kr rk (mirror (arrOf st2) lo (lo+m) _) i<=Kr rk (mirror (arrOf st2) lo (lo+m) _) j
   rw[p6 (by omega),p6 (by omega),if_pos (by omega),if_pos (by omega),e,e]
   exact f.dn _ _ (by omega) (by omega) (by omega)
 rw[hK]
 by_cases hp:q>0
 ·rw[if_pos hp]
  have sz:=b1.sz
  exact aI0 (p9 (fin _ (b1.put (mirror_perm _ _ _ _)) (sY (by omega) f.eq)))
 ·rw[if_neg hp]
  exact fin st1 b1 λ_=>rfl
theorem aj9 (c:c8 prog w A E s κ Ok rk)(o:bE Ok a0)(b:SB κ a0 pd st){lo nrem:Nat}{Q:Option Nat->SortSt->Prop}(hz:lo+nrem<=a0.size)(h1:1<=nrem)(h:∀m st',SB κ a0 pd st'->1<=m->m<=nrem->Up rk (arrOf st') lo (lo+m)->(∀i,i<lo->Kr rk (arrOf st') i=Kr rk (arrOf st) i)->Q (some m) st'):wpS (model prog w) A E s (countRun' lo nrem) Q st:=by
 rw[countRun'_eq]
 refine aI0 (yZ (n:=1) c o b hz (aH7 _) h1 (λi j hi hij hj=>by rw[show i=j by omega];exact aX7 _) λn n1 n2 un on=>?_)
 dsimp only
 by_cases en:(n==nrem)=true
 ·rw[if_pos en]
  exact aI6 (h n st b n1 n2 un λ_ _=>rfl)
 ·rw[if_neg en]
  have en':n≠nrem:=by simpa using en
  have lt:=on.resolve_left en'
  have sz:=b.sz
  by_cases g:n>1
  ·rw[if_pos g]
   refine aI0 (mS c o b (by omega) (by omega) ?_)
   by_cases hq:Kr rk (arrOf st) lo<Kr rk (arrOf st) (lo+n-1)
   ·rw[aI2 hq]
    exact aI6 (h n st b n1 n2 un λ_ _=>rfl)
   ·rw[aH8 hq]
    dsimp only
    rw[if_neg aJ0]
    have all:∀k,lo<=k->k<lo+n->Kr rk (arrOf st) k=Kr rk (arrOf st) (lo+n-1):=λk k1 k2=>by
     have a1:=un lo k (aH7 _) k1 k2
     have a2:=un k (lo+n-1) k1 (by omega) (by omega)
     omega
    have sm:=sY (rk:=rk) (xs:=arrOf st) (i:=lo) (j:=lo+n) (by omega) all
    refine aI0 (p9 (z9 (xs:=arrOf st) (κ:=κ) c o (b.put (mirror_perm _ _ _ _)) n hz (by omega) (λ_ _=>rfl) (λ_=>rfl) ⟨λi j hi hij hj=>?_,by omega,λi h1 h2=>by rw[show i=lo+(n+1)-1 by omega],λi _=>sm i⟩ h))
    show Kr rk (mirror (arrOf st) lo (lo+n) _) j<=Kr rk (mirror (arrOf st) lo (lo+n) _) i
    rw[sm,sm]
    rcases aN9 j (lo+n) with z|z
    ·rw[all i hi (by omega),all j (by omega) z];exact aX7 _
    ·have ej:j=lo+n:=by omega
     subst ej
     rcases aW1 hij with z|z
     ·rw[z];exact aX7 _
     ·rw[all i hi (by omega)];exact Int.le_of_lt lt
  ·rw[if_neg g]
   have e1:n=1:=by omega
   subst e1
   refine z9 (xs:=arrOf st) c o b 1 hz (by omega) (λ_ _=>rfl) (λ_=>rfl) ⟨λi j hi hij hj=>?_,by omega,λi h1 h2=>by rw[show i=lo+(1+1)-1 by omega],λi _=>rfl⟩ h
   rcases aW1 hij with z|z
   ·rw[z];exact aX7 _
   ·have ei:i=lo+1-1:=by omega
    have ej:j=lo+1:=by omega
    rw[ei,ej];exact Int.le_of_lt lt
theorem ak0 (c:c8 prog w A E s κ Ok rk)(o:bE Ok a0)(b:SB κ a0 pd st){lo n q:Nat}{Q:Bool->SortSt->Prop}(hz:lo+n<=a0.size)(hq:q<=n)(u:Up rk (arrOf st) lo (lo+q))(h:∀st',SB κ a0 pd st'->Up rk (arrOf st') lo (lo+n)->(∀i,i<lo->Kr rk (arrOf st') i=Kr rk (arrOf st) i)->Q true st'):wpS (model prog w) A E s (binarySort' lo n q) Q st:=by
 rw[binarySort'_eq]
 refine aI0 (aX8 (aP9 (I:=λk r st'=>r=(none,())/\SB κ a0 pd st'/\Up rk (arrOf st') lo (lo+min k n)/\∀i,i<lo->Kr rk (arrOf st') i=Kr rk (arrOf st) i)
  (Q:=λr st'=>r=(none,())/\SB κ a0 pd st'/\Up rk (arrOf st') lo (lo+n)/\∀i,i<lo->Kr rk (arrOf st') i=Kr rk (arrOf st) i) ?_ ?_ ?_) ?_)
 ·rintro k r st1 hk hkn ⟨rfl,b1,u1,l1⟩
  rw[show min k n=k by omega]at u1
  have hk0:lo+k<a0.size:=by omega
  have sz:=b1.sz
  refine aI0 (aX8 (aP9 (I:=λx r st'=>st'=st1/\∃l g,r=(none,l,g)/\l<=g/\g<=k/\g-l<=k-x/\(∀i,i<l->Kr rk (arrOf st1) (lo+i)<=Kr rk (arrOf st1) (lo+k))/\∀i,g<=i->i<k->Kr rk (arrOf st1) (lo+k)<Kr rk (arrOf st1) (lo+i))
   (Q:=λr st'=>st'=st1/\∃l g,r=(none,l,g)/\l<=k/\(∀i,i<l->Kr rk (arrOf st1) (lo+i)<=Kr rk (arrOf st1) (lo+k))/\∀i,l<=i->i<k->Kr rk (arrOf st1) (lo+k)<Kr rk (arrOf st1) (lo+i)) ?_ ?_ ?_) ?_)
  ·rintro x r st2 _ hx ⟨rfl,l,g,rfl,d1,d2,d3,f1,f2⟩
   dsimp only
   by_cases hlg:l >= g
   ·rw[if_pos hlg]
    have e:g=l:=by omega
    subst e
    exact aI6 ⟨rfl,g,g,rfl,d2,f1,f2⟩
   ·rw[if_neg hlg]
    refine aI0 (mS c o b1 hk0 (by omega) ?_)
    by_cases hc:Kr rk (arrOf st2) (lo+k)<Kr rk (arrOf st2) (lo+(l+g)/2)
    ·rw[aI2 hc]
     refine aI6 ⟨rfl,l,(l+g)/2,rfl,by omega,by omega,by omega,f1,λi i1 i2=>?_⟩
     have:=u1 (lo+(l+g)/2) (lo+i) (by omega) (by omega) (by omega)
     omega
    ·rw[aH8 hc]
     refine aI6 ⟨rfl,(l+g)/2+1,g,rfl,by omega,d2,by omega,λi i1=>?_,f2⟩
     have:=u1 (lo+i) (lo+(l+g)/2) (by omega) (by omega) (by omega)
     omega
  ·rintro r st2 ⟨rfl,l,g,rfl,d1,d2,d3,f1,f2⟩
   have e:g=l:=by omega
   subst e
   exact⟨rfl,g,g,rfl,d2,f1,f2⟩
  ·exact⟨rfl,0,k,rfl,by omega,by omega,by omega,λi hi=>absurd hi (by omega),λi i1 i2=>absurd i1 (by omega)⟩
  ·rintro r st2 ⟨rfl,l,g,rfl,d,f1,f2⟩
   dsimp only
   rw[moveDown'_eq]
   have kb:∀i,Kr rk (bubble (arrOf st2) (lo+k) (lo+k-(lo+l))) i=Kr rk (arrOf st2) (if i=lo+l then lo+k else if lo+l<i/\i<=lo+k then i-1 else i):=λi=>by
    rw[aj7 (by omega) (by omega),show lo+k-(lo+k-(lo+l))=lo+l by omega]
   refine aI0 (wpS_modify (aI6 ⟨rfl,b1.put (bubble_perm _ _ _),λi j hi hij hj=>?_,λi hi=>?_⟩))
   ·show Kr rk (bubble (arrOf st2) (lo+k) (lo+k-(lo+l))) i<=Kr rk (bubble (arrOf st2) (lo+k) (lo+k-(lo+l))) j
    rw[kb,kb]
    rw[show min (k+1) n=k+1 by omega]at hj
    have v1:∀p,lo<=p->p<lo+l->Kr rk (arrOf st2) p<=Kr rk (arrOf st2) (lo+k):=λp p1 p2=>by have:=f1 (p-lo) (by omega);rwa [show lo+(p-lo)=p by omega]at this
    have v2:∀p,lo+l<=p->p<lo+k->Kr rk (arrOf st2) (lo+k)<Kr rk (arrOf st2) p:=λp p1 p2=>by have:=f2 (p-lo) (by omega) (by omega);rwa [show lo+(p-lo)=p by omega]at this
    repeat' split
    all_goals first
     |(exfalso;omega)
     |exact aX7 _
     |exact v1 _ (by omega) (by omega)
     |exact Int.le_of_lt (v2 _ (by omega) (by omega))
     |exact u1 _ _ (by omega) (by omega) (by omega)
   ·show Kr rk (bubble (arrOf st2) (lo+k) (lo+k-(lo+l))) i=_
    rw[kb,if_neg (by omega),if_neg (by omega)]
    exact l1 i hi
 ·rintro r st1 ⟨rfl,b1,u1,l1⟩
  rw[show min (max (max q 1) n) n=n by omega]at u1
  exact⟨rfl,b1,u1,l1⟩
 ·refine⟨rfl,b,λi j hi hij hj=>?_,λ_ _=>rfl⟩
  rcases aN9 j (lo+q) with z|z
  ·exact u i j hi hij z
  ·rw[show i=j by omega];exact aX7 _
 ·rintro r st1 ⟨rfl,b1,u1,l1⟩
  exact aI6 (h st1 b1 u1 l1)
end
def j6:Bool->Keyed->Array Keyed->Nat->Nat->Nat->StateT SortSt Sem (Option Nat):=sortPriv% PySem.Builtin.gallop
def jU (lf:Bool)(key:Keyed)(xs:Array Keyed)(bs i:Nat):StateT SortSt Sem (Option Bool):=do
 let z <- elem' xs (bs+i)
 if lf then lt' z key else return (<- lt' key z).map (!·)
theorem ak1 (lf:Bool)(key:Keyed)(xs:Array Keyed)(bs n h:Nat):j6 lf key xs bs n h=(do
 let mut la:=0
 let mut of:=1
 let mut l:=0
 let mut g:=0
 let some rt <- jU lf key xs bs h|return none
 if rt then
  let mx:=n-h
  for _ in [0:n] do
   if of >= mx then break
   let some mr <- jU lf key xs bs (h+of)|return none
   if !mr then break
   la:=of
   of:=2*of+1
  l:=h+la+1
  g:=h+min of mx
 else
  let mx:=h+1
  for _ in [0:n] do
   if of >= mx then break
   let some fd <- jU lf key xs bs (h-of)|return none
   if fd then break
   la:=of
   of:=2*of+1
  l:=h+1-min of mx
  g:=h-la
 for _ in [0:n] do
  if l >= g then break
  let m:=l+(g-l)/2
  let some mr <- jU lf key xs bs m|return none
  if mr then l:=m+1 else g:=m
 return some g):=rfl
section
variable {rk:Keyed→Int}{κ:SortKind}{st:SortSt}{prog:Program}{w:World}{A:Around}{E:Value→Shared→Prop}{s:Shared}{Ok:Keyed→Prop}
def bO (rk:Keyed->Int)(lf:Bool)(key:Keyed)(xs:Array Keyed)(bs i:Nat):Bool:=if lf then decide (Kr rk xs (bs+i)<rk key) else decide (Kr rk xs (bs+i)<=rk key)
theorem pA (c:c8 prog w A E s κ Ok rk)(hk:kindOf st=κ){lf:Bool}{key:Keyed}{xs:Array Keyed}{bs i:Nat}{Q:Option Bool->SortSt->Prop}(ok:Ok key)(o:bE Ok xs)(hi:bs+i<xs.size)(h:Q (some (bO rk lf key xs bs i)) st):wpS (model prog w) A E s (jU lf key xs bs i) Q st:=by
 unfold jU
 refine aI0 (cM hi ?_)
 unfold bO at h
 rw[bR hi]at h
 cases lf with
 |true=>
  simp only[if_true]at h ⊢
  exact c _ _ (o _ (aN0 hi)) ok st Q hk h
 |false=>
  simp only[aK7,aP4]at h ⊢
  refine aI0 (c _ _ ok (o _ (aN0 hi)) st _ hk (aI6 ?_))
  have e:(!decide (rk key<rk xs[bs+i]))=decide (rk xs[bs+i]<=rk key):=by
   by_cases z:rk xs[bs+i]<=rk key
   ·rw[aI2 z,aH8 (by omega)];rfl
   ·rw[aH8 z,aI2 (by omega)];rfl
  show Q (some (!decide (rk key<rk xs[bs+i]))) st
  rw[e];exact h
abbrev GS:=Option (Option Nat)×Nat×Nat
def zA (lf:Bool)(key:Keyed)(xs:Array Keyed)(bs n l g:Nat):StateT SortSt Sem GS:=forIn [0:n] ((none,l,g):GS) λ_ r=>
 if r.2.1 >= r.2.2 then pure (ForInStep.done (none,r.2.1,r.2.2)) else do
  match <- jU lf key xs bs (r.2.1+(r.2.2-r.2.1)/2) with
  |some q=>if q=true then pure (ForInStep.yield (none,r.2.1+(r.2.2-r.2.1)/2+1,r.2.2)) else pure (ForInStep.yield (none,r.2.1,r.2.1+(r.2.2-r.2.1)/2))
  |_=>pure (ForInStep.done (some none,r.2.1,r.2.2))
theorem zB (c:c8 prog w A E s κ Ok rk)(hk:kindOf st=κ){lf:Bool}{key:Keyed}{xs:Array Keyed}{bs n l g:Nat}{Q:GS->SortSt->Prop}(ok:Ok key)(o:bE Ok xs)(hz:bs+n<=xs.size)(mono:∀i j,i<=j->j<n->bO rk lf key xs bs j=true->bO rk lf key xs bs i=true)(hlg:l<=g)(hg:g<=n)(h1:∀i,i<l->bO rk lf key xs bs i=true)(h2:∀i,g<=i->i<n->bO rk lf key xs bs i=false)(hq:∀k,k<=n->(∀i,i<k->bO rk lf key xs bs i=true)->(∀i,k<=i->i<n->bO rk lf key xs bs i=false)->Q (none,k,k) st):wpS (model prog w) A E s (zA lf key xs bs n l g) Q st:=by
 unfold zA
 refine aP9 (I:=λx r st'=>st'=st/\∃l g,r=(none,l,g)/\l<=g/\g<=n/\g-l<=n-x/\(∀i,i<l->bO rk lf key xs bs i=true)/\∀i,g<=i->i<n->bO rk lf key xs bs i=false) ?_ ?_ ⟨rfl,l,g,rfl,hlg,hg,by omega,h1,h2⟩
 ·rintro x r st' _ hx ⟨rfl,l,g,rfl,d1,d2,d3,f1,f2⟩
  dsimp only
  by_cases hc:l >= g
  ·rw[if_pos hc]
   have e:g=l:=by omega
   subst e
   exact aI6 (hq g d2 f1 f2)
  ·rw[if_neg hc]
   refine aI0 (pA c hk ok o (by omega) ?_)
   cases z:bO rk lf key xs bs (l+(g-l)/2) with
   |true=>exact aI6 ⟨rfl,_,_,rfl,by omega,d2,by omega,λi hi=>mono i (l+(g-l)/2) (by omega) (by omega) z,f2⟩
   |false=>
    refine aI6 ⟨rfl,_,_,rfl,by omega,by omega,by omega,f1,λi i1 i2=>?_⟩
    cases y:bO rk lf key xs bs i with
    |false=>rfl
    |true=>rw[mono _ i i1 i2 y]at z;cases z
 ·rintro r st' ⟨rfl,l,g,rfl,d1,d2,d3,f1,f2⟩
  have e:g=l:=by omega
  subst e
  exact hq g d2 f1 f2
theorem kZ (c:c8 prog w A E s κ Ok rk)(hk:kindOf st=κ){lf:Bool}{key:Keyed}{xs:Array Keyed}{bs n h:Nat}{Q:Option Nat->SortSt->Prop}(ok:Ok key)(o:bE Ok xs)(hh:h<n)(hz:bs+n<=xs.size)(u:Up rk xs bs (bs+n))(hq:∀k,k<=n->(∀i,i<k->bO rk lf key xs bs i=true)->(∀i,k<=i->i<n->bO rk lf key xs bs i=false)->Q (some k) st):wpS (model prog w) A E s (j6 lf key xs bs n h) Q st:=by
 have mono:∀i j,i<=j->j<n->bO rk lf key xs bs j=true->bO rk lf key xs bs i=true:=λi j hij hj e=>by
  have:=u (bs+i) (bs+j) (by omega) (by omega) (by omega)
  unfold bO at e ⊢
  cases lf with
  |true=>simp only[if_true,aM9]at e ⊢;omega
  |false=>simp only[aK7,aP4,aM9]at e ⊢;omega
 have monf:∀i j,i<=j->j<n->bO rk lf key xs bs i=false->bO rk lf key xs bs j=false:=λi j hij hj e=>by
  cases z:bO rk lf key xs bs j with
  |false=>rfl
  |true=>rw[mono i j hij hj z]at e;cases e
 rw[ak1]
 refine aI0 (pA c hk ok o (by omega) ?_)
 dsimp only
 cases z:bO rk lf key xs bs h with
 |true=>
  rw[if_pos rfl]
  refine aI0 (aX8 (aP9 (I:=λx r st'=>st'=st/\∃la of,r=(none,la,of)/\la<of/\x<of/\h+la<n/\bO rk lf key xs bs (h+la)=true)
   (Q:=λr st'=>st'=st/\∃la of,r=(none,la,of)/\la<of/\h+la<n/\bO rk lf key xs bs (h+la)=true/\(of<n-h->bO rk lf key xs bs (h+of)=false)) ?_ ?_ ⟨rfl,0,1,rfl,by omega,by omega,by omega,z⟩) ?_)
  ·rintro x r st' _ hx ⟨rfl,la,of,rfl,d1,d2,d3,f⟩
   dsimp only
   by_cases hc:of >= n-h
   ·rw[if_pos hc]
    exact aI6 ⟨rfl,la,of,rfl,d1,d3,f,λy=>absurd y (by omega)⟩
   ·rw[if_neg hc]
    refine aI0 (pA c hk ok o (by omega) ?_)
    cases y:bO rk lf key xs bs (h+of) with
    |true=>exact aI6 ⟨rfl,of,2*of+1,rfl,by omega,by omega,by omega,y⟩
    |false=>exact aI6 ⟨rfl,la,of,rfl,d1,d3,f,λ_=>y⟩
  ·rintro r st' ⟨rfl,la,of,rfl,d1,d2,d3,f⟩
   exact⟨rfl,la,of,rfl,d1,d3,f,λy=>absurd y (by omega)⟩
  ·rintro r st' ⟨rfl,la,of,rfl,d1,d3,f,ft⟩
   dsimp only
   refine aI0 (zB (l:=h+la+1) (g:=h+min of (n-h)) c hk ok o hz mono (by omega) (by omega) (λi hi=>mono i (h+la) (by omega) d3 f) (λi i1 i2=>?_) λk k1 k2 k3=>aI6 (hq k k1 k2 k3))
   rcases aN9 of (n-h) with y|y
   ·exact monf (h+of) i (by omega) i2 (ft y)
   ·exact absurd i1 (by omega)
 |false=>
  rw[if_neg aJ0]
  refine aI0 (aX8 (aP9 (I:=λx r st'=>st'=st/\∃la of,r=(none,la,of)/\la<of/\x<of/\la<=h/\bO rk lf key xs bs (h-la)=false)
   (Q:=λr st'=>st'=st/\∃la of,r=(none,la,of)/\la<of/\la<=h/\bO rk lf key xs bs (h-la)=false/\(of<h+1->bO rk lf key xs bs (h-of)=true)) ?_ ?_ ⟨rfl,0,1,rfl,by omega,by omega,by omega,z⟩) ?_)
  ·rintro x r st' _ hx ⟨rfl,la,of,rfl,d1,d2,d3,f⟩
   dsimp only
   by_cases hc:of >= h+1
   ·rw[if_pos hc]
    exact aI6 ⟨rfl,la,of,rfl,d1,d3,f,λy=>absurd y (by omega)⟩
   ·rw[if_neg hc]
    refine aI0 (pA c hk ok o (by omega) ?_)
    cases y:bO rk lf key xs bs (h-of) with
    |false=>exact aI6 ⟨rfl,of,2*of+1,rfl,by omega,by omega,by omega,y⟩
    |true=>exact aI6 ⟨rfl,la,of,rfl,d1,d3,f,λ_=>y⟩
  ·rintro r st' ⟨rfl,la,of,rfl,d1,d2,d3,f⟩
   exact⟨rfl,la,of,rfl,d1,d3,f,λy=>absurd y (by omega)⟩
  ·rintro r st' ⟨rfl,la,of,rfl,d1,d3,f,ft⟩
   dsimp only
   refine aI0 (zB (l:=h+1-min of (h+1)) (g:=h-la) c hk ok o hz mono (by omega) (by omega) (λi hi=>?_) (λi i1 i2=>monf (h-la) i i1 i2 f) λk k1 k2 k3=>aI6 (hq k k1 k2 k3))
   rcases aN9 of (h+1) with y|y
   ·exact mono i (h-of) (by omega) (by omega) (ft y)
   ·exact absurd hi (by omega)
end
def l8:Nat->StateT SortSt Sem Unit:=sortPriv% PySem.Builtin.setMinGallop
def t5:Array Keyed->Array Keyed->StateT SortSt Sem (Array Keyed):=sortPriv% PySem.Builtin.mergeLo
theorem ak2 (g:Nat):l8 g=modify (λst=>SortSt.mk' (kindOf st) (arrOf st) (pendingOf st) g (failedOf st)):=rfl
abbrev LS:=Option (Array Keyed)×Array Keyed×Nat×Nat×Nat×Nat×Nat
abbrev t6:=Option (Array Keyed)×Array Keyed×Nat×Nat×Nat×Nat
abbrev LO:=Option (Array Keyed)×Array Keyed×Nat×Nat×Nat
def pB (x y o:Array Keyed)(i j mg p q:Nat):StateT SortSt Sem (ForInStep LS):=do
 let v <- elem' x i
 if (i+1+1==x.size)=true then pure (.done (some (o.push v++y.extract j y.size++x.extract (i+1) x.size),o.push v,i+1,j,mg,p,q))
 else if (decide (p<7)&&decide (q<7))=true then pure (.done (none,o.push v,i+1,j,mg,p,q)) else pure (.yield (none,o.push v,i+1,j,mg,p,q))
def pC (x y o:Array Keyed)(i j mg p q:Nat):StateT SortSt Sem (ForInStep LS):=do
 let v <- elem' y j
 if (j+1==y.size)=true then pure (.done (some (o.push v++x.extract i x.size++y.extract (j+1) y.size),o.push v,i,j+1,mg,p,q)) else do
  let u <- elem' x i
  match <- j6 true u y (j+1) (y.size-(j+1)) 0 with
  |some k=>
   if k>0 then
    if (j+1+k==y.size)=true then pure (.done (some (o.push v++y.extract (j+1) (j+1+k)++x.extract i x.size++y.extract (j+1+k) y.size),o.push v++y.extract (j+1) (j+1+k),i,j+1+k,mg,p,k))
    else pB x y (o.push v++y.extract (j+1) (j+1+k)) i (j+1+k) mg p k
   else pB x y (o.push v) i (j+1) mg p k
  |_=>pure (.done (some (o.push v++x.extract i x.size++y.extract (j+1) y.size),o.push v,i,j+1,mg,p,q))
def pD (x y o:Array Keyed)(i j mg p q:Nat):StateT SortSt Sem (ForInStep LS):=do
 l8 mg
 let v <- elem' y j
 match <- j6 false v x i (x.size-i) 0 with
 |some k=>
  if k>0 then
   if (i+k+1==x.size)=true then pure (.done (some (o++x.extract i (i+k)++y.extract j y.size++x.extract (i+k) x.size),o++x.extract i (i+k),i+k,j,mg,k,q))
   else if (i+k==x.size)=true then pure (.done (some (o++x.extract i (i+k)++x.extract (i+k) x.size++y.extract j y.size),o++x.extract i (i+k),i+k,j,mg,k,q))
   else pC x y (o++x.extract i (i+k)) (i+k) j mg k q
  else pC x y o i j mg k q
 |_=>pure (.done (some (o++x.extract i x.size++y.extract j y.size),o,i,j,mg,p,q))
def t7 (x y o:Array Keyed)(i j mg p q:Nat):StateT SortSt Sem LS:=forIn [0:x.size+y.size] ((none,o,i,j,mg,p,q):LS) λ_ r=>
 if r.2.2.2.2.1>1 then pD x y r.2.1 r.2.2.1 r.2.2.2.1 (r.2.2.2.2.1-1) r.2.2.2.2.2.1 r.2.2.2.2.2.2 else pD x y r.2.1 r.2.2.1 r.2.2.2.1 r.2.2.2.2.1 r.2.2.2.2.2.1 r.2.2.2.2.2.2
def t8 (x y o:Array Keyed)(i j mg:Nat):StateT SortSt Sem t6:=forIn [0:x.size+y.size] ((none,o,i,j,0,0):t6) λ_ r=>do
 let v <- elem' y r.2.2.2.1
 let u <- elem' x r.2.2.1
 match <- lt' v u with
 |some q=>
  if q=true then do
   let v <- elem' y r.2.2.2.1
   if (r.2.2.2.1+1==y.size)=true then pure (.done (some (r.2.1.push v++x.extract r.2.2.1 x.size++y.extract (r.2.2.2.1+1) y.size),r.2.1.push v,r.2.2.1,r.2.2.2.1+1,0,r.2.2.2.2.2+1))
   else if r.2.2.2.2.2+1 >= mg then pure (.done (none,r.2.1.push v,r.2.2.1,r.2.2.2.1+1,0,r.2.2.2.2.2+1)) else pure (.yield (none,r.2.1.push v,r.2.2.1,r.2.2.2.1+1,0,r.2.2.2.2.2+1))
  else do
   let u <- elem' x r.2.2.1
   if (r.2.2.1+1+1==x.size)=true then pure (.done (some (r.2.1.push u++y.extract r.2.2.2.1 y.size++x.extract (r.2.2.1+1) x.size),r.2.1.push u,r.2.2.1+1,r.2.2.2.1,r.2.2.2.2.1+1,0))
   else if r.2.2.2.2.1+1 >= mg then pure (.done (none,r.2.1.push u,r.2.2.1+1,r.2.2.2.1,r.2.2.2.2.1+1,0)) else pure (.yield (none,r.2.1.push u,r.2.2.1+1,r.2.2.2.1,r.2.2.2.2.1+1,0))
 |_=>pure (.done (some (r.2.1++x.extract r.2.2.1 x.size++y.extract r.2.2.2.1 y.size),r.2.1,r.2.2.1,r.2.2.2.1,r.2.2.2.2.1,r.2.2.2.2.2))
def zC (x y o:Array Keyed)(i j mg:Nat):StateT SortSt Sem LO:=forIn [0:x.size+y.size] ((none,o,i,j,mg):LO) λ_ r=>do
 let u <- t8 x y r.2.1 r.2.2.1 r.2.2.2.1 r.2.2.2.2
 match u.1 with
 |some z=>pure (.done (some z,u.2.1,u.2.2.1,u.2.2.2.1,r.2.2.2.2))
 |none=>do
  liftM (rule "list.sort.gallop")
  let v <- t7 x y u.2.1 u.2.2.1 u.2.2.2.1 (r.2.2.2.2+1) u.2.2.2.2.1 u.2.2.2.2.2
  match v.1 with
  |some z=>pure (.done (some z,v.2.1,v.2.2.1,v.2.2.2.1,v.2.2.2.2.1))
  |none=>do
   l8 (v.2.2.2.2.1+1)
   pure (.yield (none,v.2.1,v.2.2.1,v.2.2.2.1,v.2.2.2.2.1+1))
theorem ak3 (x y:Array Keyed):t5 x y=(do
 liftM (rule "list.sort.merge-lo")
 let v <- elem' y 0
 if (1==y.size)=true then pure (#[v]++x.extract 0 x.size++y.extract 1 y.size)
 else if (0+1==x.size)=true then pure (#[v]++y.extract 1 y.size++x.extract 0 x.size)
 else do
  let z <- get
  let r <- zC x y #[v] 0 1 (gallopOf z)
  match r.1 with
  |some z=>pure z
  |none=>unsupported "internal:list.sort.merge-bound"):=by kernel_rfl
section
variable (rk:Keyed→Int)
def Sd (l:List Keyed):Prop:=l.Pairwise λa b=>rk a<=rk b
structure MI (xs ys o:List Keyed)(i j:Nat):Prop where
 pm:o.Perm (xs.take i++ys.take j)
 sx:Sd rk (o++xs.drop i)
 sy:Sd rk (o++ys.drop j)
end
variable {rk:Keyed→Int}{xs ys o:List Keyed}{i j:Nat}
theorem Sd.ins {o a b d:List Keyed}(h1:Sd rk (o++a))(h2:Sd rk (o++(b++d)))(h:∀u∈b,∀t∈a,rk u<=rk t):Sd rk ((o++b)++a):=by
 unfold Sd at *
 rw[aK6]
 obtain⟨p1,p2,p3⟩:=aN6.mp h1
 obtain⟨q1,q2,q3⟩:=aN6.mp h2
 obtain⟨r1,r2,r3⟩:=aN6.mp q2
 refine aN6.mpr ⟨p1,aN6.mpr ⟨r1,p2,h⟩,λu hu t ht=>?_⟩
 rcases aN2.mp ht with z|z
 ·exact q3 u hu t (aX1 _ z)
 ·exact p3 u hu t z
theorem MI.ofy (m:MI rk xs ys o i j)(k:Nat)(h:∀u∈(ys.drop j).take k,∀t∈xs.drop i,rk u<=rk t):MI rk xs ys (o++(ys.drop j).take k) i (j+k):=by
 have e:(ys.drop j).take k++ys.drop (j+k)=ys.drop j:=by rw[<- List.drop_drop];exact aM2 k _
 refine⟨?_,Sd.ins m.sx (d:=ys.drop (j+k)) (by rw[e];exact m.sy) h,by rw[aK6,e];exact m.sy⟩
 rw[List.take_add,<- aK6]
 exact m.pm.append_right _
theorem MI.ofx (m:MI rk xs ys o i j)(k:Nat)(h:∀u∈(xs.drop i).take k,∀t∈ys.drop j,rk u<=rk t):MI rk xs ys (o++(xs.drop i).take k) (i+k) j:=by
 have e:(xs.drop i).take k++xs.drop (i+k)=xs.drop i:=by rw[<- List.drop_drop];exact aM2 k _
 refine⟨?_,by rw[aK6,e];exact m.sx,Sd.ins m.sy (d:=xs.drop (i+k)) (by rw[e];exact m.sx) h⟩
 rw[List.take_add]
 refine (m.pm.append_right _).trans ?_
 rw[aK6,aK6]
 exact (aW4).append_left _
theorem MI.fin (m:MI rk xs ys o i j)(h:xs.length<=i∨ys.length<=j):(o++xs.drop i++ys.drop j).Perm (xs++ys)/\Sd rk (o++xs.drop i++ys.drop j):=by
 refine⟨?_,?_⟩
 ·rw[aK6]
  refine (m.pm.append_right _).trans ?_
  have e1:xs=xs.take i++xs.drop i:=(aM2 i xs).symm
  have e2:ys=ys.take j++ys.drop j:=(aM2 j ys).symm
  conv=>rhs;rw[e1,e2]
  rw[aK6,aK6]
  refine List.Perm.append_left _ ?_
  rw[<- aK6,<- aK6]
  exact (aW4).append_right _
 ·rcases h with h|h
  ·rw[List.drop_eq_nil_of_le h,aR8];exact m.sy
  ·rw[List.drop_eq_nil_of_le h,aR8];exact m.sx
theorem MI.lst (m:MI rk xs ys o i j)(h:∀u∈ys,∀t∈xs.drop i,rk u<=rk t):(o++ys.drop j++xs.drop i).Perm (xs++ys)/\Sd rk (o++ys.drop j++xs.drop i):=by
 have m2:=m.ofy ys.length λu hu t ht=>h u (List.mem_of_mem_drop (List.mem_of_mem_take hu)) t ht
 have e:(ys.drop j).take ys.length=ys.drop j:=aM8 (by simp)
 rw[e]at m2
 have f:=m2.fin (.inr (by omega))
 rw[List.drop_eq_nil_of_le (as:=ys) (i:=j+ys.length) (by omega),aR8]at f
 exact f
theorem zD {x:Array Keyed}{i k:Nat}{u:Keyed}(h:u∈(x.toList.drop i).take k):∃t,t<k/\i+t<x.size/\rk u=Kr rk x (i+t):=by
 obtain⟨t,ht,e⟩:=List.getElem_of_mem h
 have h1:t<k/\i+t<x.size:=by simp at ht;omega
 refine⟨t,h1.1,h1.2,?_⟩
 rw[bR h1.2,<- e]
 simp
theorem mV {x:Array Keyed}{i:Nat}{u:Keyed}(h:u∈x.toList.drop i):∃t,i+t<x.size/\rk u=Kr rk x (i+t):=by
 obtain⟨t,ht,e⟩:=List.getElem_of_mem h
 have h1:i+t<x.size:=by simp at ht;omega
 refine⟨t,h1,?_⟩
 rw[bR h1,<- e]
 simp
theorem Sd.up {x:Array Keyed}(h:Sd rk x.toList)(lo hi:Nat)(hh:hi<=x.size):Up rk x lo hi:=λi j _ hij hj=>by
 rw[bR (by omega:i<x.size),bR (by omega:j<x.size)]
 rcases aW1 hij with z|z
 ·subst z;exact aX7 _
 ·have:=aR4.mp h i j (by simp;omega) (by simp;omega) z
  simpa using this
theorem zE (x:Array Keyed)(i k:Nat):(x.extract i (i+k)).toList=(x.toList.drop i).take k:=by
 simp[List.extract]
theorem pE (x:Array Keyed)(i:Nat):(x.extract i x.size).toList=x.toList.drop i:=by
 simp[List.extract]
 exact aM8 (by simp)
theorem jV {x:Array Keyed}{i:Nat}(h:i<x.size):[x[i]]=(x.toList.drop i).take 1:=by
 rw[List.drop_eq_getElem_cons (by simpa using h)];simp
structure Gq (st st':SortSt):Prop where
 kd:kindOf st'=kindOf st
 ar:arrOf st'=arrOf st
 pd:pendingOf st'=pendingOf st
 ok:failedOf st'=failedOf st
theorem Gq.refl (st:SortSt):Gq st st:=⟨rfl,rfl,rfl,rfl⟩
section
variable {κ:SortKind}{st:SortSt}{prog:Program}{w:World}{A:Around}{E:Value→Shared→Prop}{s:Shared}{Ok:Keyed→Prop}
theorem pF {st0:SortSt}{g:Nat}{Q:Unit->SortSt->Prop}(q:Gq st0 st)(h:∀st',Gq st0 st'->Q () st'):wpS (model prog w) A E s (l8 g) Q st:=by
 rw[ak2];exact wpS_modify (h _ ⟨q.kd,q.ar,q.pd,q.ok⟩)
def dA (rk:Keyed->Int)(x y r:Array Keyed):Prop:=r.toList.Perm (x.toList++y.toList)/\Sd rk r.toList
theorem MI.y1 {x y o:Array Keyed}(m:MI rk x.toList y.toList o.toList i j)(hj:j<y.size)(h:∀t,i+t<x.size->rk y[j]<=Kr rk x (i+t)):MI rk x.toList y.toList (o.push y[j]).toList i (j+1):=by
 have:=m.ofy 1 λu hu t ht=>?_
 ·rw[<- jV hj]at this;simpa using this
 ·rw[<- jV hj,aI3]at hu
  subst hu
  obtain⟨q,q1,q2⟩:=mV (rk:=rk) ht
  rw[q2];exact h q q1
theorem MI.x1 {x y o:Array Keyed}(m:MI rk x.toList y.toList o.toList i j)(hi:i<x.size)(h:∀t,j+t<y.size->rk x[i]<=Kr rk y (j+t)):MI rk x.toList y.toList (o.push x[i]).toList (i+1) j:=by
 have:=m.ofx 1 λu hu t ht=>?_
 ·rw[<- jV hi]at this;simpa using this
 ·rw[<- jV hi,aI3]at hu
  subst hu
  obtain⟨q,q1,q2⟩:=mV (rk:=rk) ht
  rw[q2];exact h q q1
theorem MI.yk {x y o:Array Keyed}(m:MI rk x.toList y.toList o.toList i j)(k:Nat)(h:∀p t,p<k->j+p<y.size->i+t<x.size->Kr rk y (j+p)<=Kr rk x (i+t)):MI rk x.toList y.toList (o++y.extract j (j+k)).toList i (j+k):=by
 have:=m.ofy k λu hu t ht=>?_
 ·rw[<- zE]at this;rw[aO1];exact this
 ·obtain⟨p,p1,p2,p3⟩:=zD (rk:=rk) hu
  obtain⟨q,q1,q2⟩:=mV (rk:=rk) ht
  rw[q2,p3];exact h p q p1 p2 q1
theorem MI.xk {x y o:Array Keyed}(m:MI rk x.toList y.toList o.toList i j)(k:Nat)(h:∀p t,p<k->i+p<x.size->j+t<y.size->Kr rk x (i+p)<=Kr rk y (j+t)):MI rk x.toList y.toList (o++x.extract i (i+k)).toList (i+k) j:=by
 have:=m.ofx k λu hu t ht=>?_
 ·rw[<- zE]at this;rw[aO1];exact this
 ·obtain⟨p,p1,p2,p3⟩:=zD (rk:=rk) hu
  obtain⟨q,q1,q2⟩:=mV (rk:=rk) ht
  rw[q2,p3];exact h p q p1 p2 q1
theorem l9 {key:Keyed}{xs:Array Keyed}{bs i:Nat}:bO rk false key xs bs i=decide (Kr rk xs (bs+i)<=rk key):=rfl
theorem lA {key:Keyed}{xs:Array Keyed}{bs i:Nat}:bO rk true key xs bs i=decide (Kr rk xs (bs+i)<rk key):=rfl
def GI (rk:Keyed->Int)(x y:Array Keyed)(lb:Nat)(st:SortSt)(c:LS)(st':SortSt):Prop:=Gq st st'/\∃o i j mg p q,c=(none,o,i,j,mg,p,q)/\MI rk x.toList y.toList o.toList i j/\i+1<x.size/\j<y.size/\lb<=i+j
def GQ (rk:Keyed->Int)(x y:Array Keyed)(lb:Nat)(st:SortSt)(c:LS)(st':SortSt):Prop:=Gq st st'/\((∃r o i j mg p q,c=(some r,o,i,j,mg,p,q)/\dA rk x y r)∨∃o i j mg p q,c=(none,o,i,j,mg,p,q)/\MI rk x.toList y.toList o.toList i j/\i+1<x.size/\j<y.size/\lb<=i+j)
def GR (rk:Keyed->Int)(x y:Array Keyed)(lb:Nat)(st:SortSt)(r:ForInStep LS)(st':SortSt):Prop:=match r with|.done c=>GQ rk x y lb st c st'|.yield c=>GI rk x y lb st c st'
theorem MI.done {x y o:Array Keyed}(m:MI rk x.toList y.toList o.toList i j)(hh:x.size<=i∨y.size<=j):dA rk x y (o++x.extract i x.size++y.extract j y.size):=by
 unfold dA
 rw[aO1,aO1,pE,pE]
 exact m.fin (by simpa using hh)
theorem MI.last {x y o:Array Keyed}(m:MI rk x.toList y.toList o.toList i j)(x0:0<x.size)(hl:∀u∈y.toList,rk u<=rk x[x.size-1])(hh:i+1=x.size):dA rk x y (o++y.extract j y.size++x.extract i x.size):=by
 unfold dA
 rw[aO1,aO1,pE,pE]
 refine m.lst λu hu t ht=>?_
 obtain⟨q,q1,q2⟩:=mV (rk:=rk) ht
 have e:i+q=x.size-1:=by omega
 rw[q2,e,bR (by omega)]
 exact hl u hu
theorem zF {st0:SortSt}{x y o:Array Keyed}{mg p q lb:Nat}(x0:0<x.size)(hl:∀u∈y.toList,rk u<=rk x[x.size-1])(g:Gq st0 st)(m:MI rk x.toList y.toList o.toList i j)(hi:i+1<x.size)(hj:j<y.size)(hb:lb<=i+j)(hm:∀t,j+t<y.size->rk x[i]<=Kr rk y (j+t)):wpS (model prog w) A E s (pB x y o i j mg p q) (GR rk x y lb st0) st:=by
 unfold pB
 have hi':i<x.size:=by omega
 have m':=m.x1 hi' hm
 refine aI0 (cM hi' ?_)
 by_cases he:(i+1+1==x.size)=true
 ·rw[if_pos he]
  have he:i+1+1=x.size:=by simpa using he
  exact aI6 ⟨g,.inl ⟨_,_,_,_,_,_,_,rfl,m'.last x0 hl he⟩⟩
 ·rw[if_neg he]
  have he:i+1+1≠x.size:=by simpa using he
  split
  ·exact aI6 ⟨g,.inr ⟨_,_,_,_,_,_,rfl,m',by omega,hj,by omega⟩⟩
  ·exact aI6 ⟨g,_,_,_,_,_,_,rfl,m',by omega,hj,by omega⟩
theorem zG (c:c8 prog w A E s κ Ok rk){st0:SortSt}(hk:kindOf st0=κ){x y o:Array Keyed}{mg p q lb:Nat}(ox:bE Ok x)(oy:bE Ok y)(sx:Sd rk x.toList)(sy:Sd rk y.toList)(x0:0<x.size)(hl:∀u∈y.toList,rk u<=rk x[x.size-1])(g:Gq st0 st)(m:MI rk x.toList y.toList o.toList i j)(hi:i+1<x.size)(hj:j<y.size)(hb:lb<=i+j)(hm:∀t,i+t<x.size->rk y[j]<=Kr rk x (i+t)):wpS (model prog w) A E s (pC x y o i j mg p q) (GR rk x y lb st0) st:=by
 unfold pC
 have hi':i<x.size:=by omega
 have m':=m.y1 hj hm
 refine aI0 (cM hj ?_)
 by_cases he:(j+1==y.size)=true
 ·rw[if_pos he]
  have he:j+1=y.size:=by simpa using he
  exact aI6 ⟨g,.inl ⟨_,_,_,_,_,_,_,rfl,m'.done (.inr (by omega))⟩⟩
 ·rw[if_neg he]
  have he:j+1≠y.size:=by simpa using he
  refine aI0 (cM hi' (aI0 (kZ c (g.kd.trans hk) (ox _ (aN0 hi')) oy (by omega) (by omega) (sy.up _ _ (by omega)) λk k1 k2 k3=>?_)))
  dsimp only
  have ux:=sx.up 0 _ (aH7 x.size)
  have mk:=m'.yk k λp t hp _ ht=>by
   have a1:=k2 p hp
   rw[lA,aM9]at a1
   have a2:=ux i (i+t) (by omega) (by omega) ht
   rw[bR hi']at a2
   omega
  have km:∀t,j+1+k+t<y.size->rk x[i]<=Kr rk y (j+1+k+t):=λt ht=>by
   have a1:=k3 (k+t) (by omega) (by omega)
   rw[lA,aS4,<- Nat.add_assoc]at a1
   omega
  by_cases hk0:k>0
  ·rw[if_pos hk0]
   by_cases hf:(j+1+k==y.size)=true
   ·rw[if_pos hf]
    have hf:j+1+k=y.size:=by simpa using hf
    exact aI6 ⟨g,.inl ⟨_,_,_,_,_,_,_,rfl,mk.done (.inr (by omega))⟩⟩
   ·rw[if_neg hf]
    have hf:j+1+k≠y.size:=by simpa using hf
    exact zF x0 hl g mk hi (by omega) (by omega) km
  ·rw[if_neg hk0]
   have e0:k=0:=by omega
   subst e0
   exact zF x0 hl g m' hi (by omega) (by omega) km
theorem zH (c:c8 prog w A E s κ Ok rk){st0:SortSt}(hk:kindOf st0=κ){x y o:Array Keyed}{mg p q lb:Nat}(ox:bE Ok x)(oy:bE Ok y)(sx:Sd rk x.toList)(sy:Sd rk y.toList)(x0:0<x.size)(hl:∀u∈y.toList,rk u<=rk x[x.size-1])(g:Gq st0 st)(m:MI rk x.toList y.toList o.toList i j)(hi:i+1<x.size)(hj:j<y.size)(hb:lb<=i+j) :
  wpS (model prog w) A E s (pD x y o i j mg p q) (GR rk x y lb st0) st:=by
 unfold pD
 refine aI0 (pF g λst4 q4=>aI0 (cM hj (aI0 (kZ c (q4.kd.trans hk) (oy _ (aN0 hj)) ox (by omega) (by omega) (sx.up _ _ (by omega)) λk k1 k2 k3=>?_))))
 dsimp only
 have uy:=sy.up 0 _ (aH7 y.size)
 have mk:=m.xk k λp t hp _ ht=>by
  have a1:=k2 p hp
  rw[l9,aM9]at a1
  have a2:=uy j (j+t) (by omega) (by omega) ht
  rw[bR hj]at a2
  omega
 have km:∀t,i+k+t<x.size->rk y[j]<=Kr rk x (i+k+t):=λt ht=>by
  have a1:=k3 (k+t) (by omega) (by omega)
  rw[l9,aS4,<- Nat.add_assoc]at a1
  omega
 by_cases hk0:k>0
 ·rw[if_pos hk0]
  by_cases he:(i+k+1==x.size)=true
  ·rw[if_pos he]
   exact aI6 ⟨q4,.inl ⟨_,_,_,_,_,_,_,rfl,mk.last x0 hl (by simpa using he)⟩⟩
  ·rw[if_neg he]
   have he:i+k+1≠x.size:=by simpa using he
   by_cases hf:(i+k==x.size)=true
   ·rw[if_pos hf]
    have hf:i+k=x.size:=by simpa using hf
    exact aI6 ⟨q4,.inl ⟨_,_,_,_,_,_,_,rfl,mk.done (.inl (by omega))⟩⟩
   ·rw[if_neg hf]
    have hf:i+k≠x.size:=by simpa using hf
    exact zG c hk ox oy sx sy x0 hl q4 mk (by omega) hj (by omega) km
 ·rw[if_neg hk0]
  have e0:k=0:=by omega
  subst e0
  exact zG c hk ox oy sx sy x0 hl q4 m hi hj hb km
theorem ak4 (c:c8 prog w A E s κ Ok rk){st0:SortSt}(hk:kindOf st0=κ){x y o:Array Keyed}{mg p q lb:Nat}(ox:bE Ok x)(oy:bE Ok y)(sx:Sd rk x.toList)(sy:Sd rk y.toList)(x0:0<x.size)(hl:∀u∈y.toList,rk u<=rk x[x.size-1])(g:Gq st0 st)(m:MI rk x.toList y.toList o.toList i j)(hi:i+1<x.size)(hj:j<y.size)(hb:lb<=i+j) :
  wpS (model prog w) A E s (t7 x y o i j mg p q) (GQ rk x y lb st0) st:=by
 unfold t7
 refine aP9 (I:=λ_=>GI rk x y lb st0) ?_ ?_ ⟨g,o,i,j,_,p,q,rfl,m,hi,hj,hb⟩
 ·rintro t c3 st3 _ _ ⟨q3,o,i,j,mg,p,q,rfl,m,hi,hj,pr3⟩
  dsimp only
  split
  ·exact aX8 (zH c hk ox oy sx sy x0 hl q3 m hi hj pr3) λr _ hr=>by cases r<;>exact hr
  ·exact aX8 (zH c hk ox oy sx sy x0 hl q3 m hi hj pr3) λr _ hr=>by cases r<;>exact hr
 ·rintro c3 st3 ⟨q3,o,i,j,mg,p,q,rfl,m,hi,hj,pr3⟩
  exact⟨q3,.inr ⟨_,_,_,_,_,_,rfl,m,hi,hj,pr3⟩⟩
theorem ak5 (c:c8 prog w A E s κ Ok rk){st0:SortSt}(hk:kindOf st0=κ){x y o:Array Keyed}{mg:Nat}{Q:t6->SortSt->Prop}(ox:bE Ok x)(oy:bE Ok y)(sx:Sd rk x.toList)(sy:Sd rk y.toList)(x0:0<x.size)(hl:∀u∈y.toList,rk u<=rk x[x.size-1])(g:Gq st0 st)(m:MI rk x.toList y.toList o.toList i j)(hi:i+1<x.size)(hj:j<y.size)(h1:∀r o' i' j' p q st',Gq st0 st'->dA rk x y r->Q (some r,o',i',j',p,q) st')(h2:∀o' i' j' p q st',Gq st0 st'->MI rk x.toList y.toList o'.toList i' j'->i'+1<x.size->j'<y.size->i+j+1<=i'+j'->Q (none,o',i',j',p,q) st') :
  wpS (model prog w) A E s (t8 x y o i j mg) Q st:=by
 have ux:Up rk x 0 x.size:=sx.up 0 _ (aH7 _)
 have uy:Up rk y 0 y.size:=sy.up 0 _ (aH7 _)
 unfold t8
 refine aP9 (I:=λt c st'=>Gq st0 st'/\∃o i' j' p q,c=(none,o,i',j',p,q)/\MI rk x.toList y.toList o.toList i' j'/\i'+1<x.size/\j'<y.size/\i+j+t<=i'+j') ?_ ?_ ⟨g,o,i,j,0,0,rfl,m,hi,hj,by omega⟩
 ·rintro t c2 st2 _ ht ⟨q2,o,i',j',p,q,rfl,m,hi,hj,pr2⟩
  dsimp only
  have hi':i'<x.size:=by omega
  refine aI0 (cM hj (aI0 (cM hi' (aI0 (c _ _ (oy _ (aN0 hj)) (ox _ (aN0 hi')) st2 _ (q2.kd.trans hk) ?_)))))
  by_cases hc:rk y[j']<rk x[i']
  ·rw[aI2 hc]
   dsimp only
   rw[if_pos rfl]
   have m':=m.y1 hj λt ht=>by
    have:=ux i' (i'+t) (by omega) (by omega) ht
    rw[bR hi']at this
    omega
   refine aI0 (cM hj ?_)
   by_cases he:(j'+1==y.size)=true
   ·rw[if_pos he]
    have he:j'+1=y.size:=by simpa using he
    exact aI6 (h1 _ _ _ _ _ _ _ q2 (m'.done (.inr (by omega))))
   ·rw[if_neg he]
    have he:j'+1≠y.size:=by simpa using he
    split
    ·exact aI6 (h2 _ _ _ _ _ _ q2 m' hi (by omega) (by omega))
    ·exact aI6 ⟨q2,_,_,_,_,_,rfl,m',hi,by omega,by omega⟩
  ·rw[aH8 hc]
   dsimp only
   rw[if_neg aJ0]
   have m':=m.x1 hi' λt ht=>by
    have:=uy j' (j'+t) (by omega) (by omega) ht
    rw[bR hj]at this
    omega
   refine aI0 (cM hi' ?_)
   by_cases he:(i'+1+1==x.size)=true
   ·rw[if_pos he]
    exact aI6 (h1 _ _ _ _ _ _ _ q2 (m'.last x0 hl (by simpa using he)))
   ·rw[if_neg he]
    have he:i'+1+1≠x.size:=by simpa using he
    split
    ·exact aI6 (h2 _ _ _ _ _ _ q2 m' (by omega) hj (by omega))
    ·exact aI6 ⟨q2,_,_,_,_,_,rfl,m',by omega,hj,by omega⟩
 ·rintro c2 st2 ⟨q2,o,i',j',p,q,rfl,m,hi,hj,pr2⟩
  exact h2 _ _ _ _ _ _ q2 m hi hj (by omega)
theorem ak6 (c:c8 prog w A E s κ Ok rk)(hk:kindOf st=κ){x y:Array Keyed}{Q:Array Keyed->SortSt->Prop}(ox:bE Ok x)(oy:bE Ok y)(sx:Sd rk x.toList)(sy:Sd rk y.toList)(x0:0<x.size)(y0:0<y.size)(hf:∀t∈x.toList,rk y[0]<=rk t)(hl:∀u∈y.toList,rk u<=rk x[x.size-1])(h:∀r st',Gq st st'->dA rk x y r->Q r st'):wpS (model prog w) A E s (t5 x y) Q st:=by
 rw[ak3]
 refine aI0 (wpS_lift (aY0 ⟨rfl,aI0 (cM y0 ?_)⟩))
 have m0:MI rk x.toList y.toList (#[y[0]]:Array Keyed).toList 0 1:=by
  have mm:MI rk x.toList y.toList [] 0 0:=⟨by simp,sx,sy⟩
  have:=mm.ofy 1 λu hu t ht=>?_
  ·rw[<- jV y0]at this;exact this
  ·rw[<- jV y0,aI3]at hu
   subst hu
   exact hf t ht
 by_cases e1:(1==y.size)=true
 ·rw[if_pos e1]
  have e1:1=y.size:=by simpa using e1
  exact aI6 (h _ st (Gq.refl st) (m0.done (.inr (by omega))))
 ·rw[if_neg e1]
  have e1:1≠y.size:=by simpa using e1
  by_cases e2:(0+1==x.size)=true
  ·rw[if_pos e2]
   exact aI6 (h _ st (Gq.refl st) (m0.last x0 hl (by simpa using e2)))
  ·rw[if_neg e2]
   have e2:0+1≠x.size:=by simpa using e2
   refine aI0 (wpS_get ?_)
   unfold zC
   refine aI0 (aX8 (aP9
    (I:=λn c st'=>Gq st st'/\∃o i j mg,c=(none,o,i,j,mg)/\MI rk x.toList y.toList o.toList i j/\i+1<x.size/\j<y.size/\n+1<=i+j)
    (Q:=λc st'=>Gq st st'/\∃r o i j mg,c=(some r,o,i,j,mg)/\dA rk x y r) ?_ ?_ ⟨Gq.refl st,_,0,1,_,rfl,m0,by omega,by omega,by omega⟩) ?_)
   ·rintro n c1 st1 _ hn ⟨q1,o,i,j,mg,rfl,m,hi,hj,pr⟩
    dsimp only
    refine aI0 (ak5 c hk ox oy sx sy x0 hl q1 m hi hj (λr o' i' j' p q st' g md=>aI6 ⟨g,r,_,_,_,_,rfl,md⟩) λo' i' j' p q st' g m' hi' hj' pr'=>?_)
    refine aI0 (wpS_lift (aY0 ⟨rfl,?_⟩))
    refine aI0 (aX8 (ak4 c hk ox oy sx sy x0 hl g m' hi' hj' pr') ?_)
    rintro c3 st3 ⟨q3,⟨r,o,i3,j3,mg,p,q,rfl,md⟩|⟨o,i3,j3,mg,p,q,rfl,m,hi,hj,pr3⟩⟩
    ·exact aI6 ⟨q3,r,_,_,_,_,rfl,md⟩
    ·exact aI0 (pF q3 λst4 q4=>aI6 ⟨q4,o,i3,j3,_,rfl,m,hi,hj,by omega⟩)
   ·rintro c1 st1 ⟨q1,o,i,j,mg,rfl,m,hi,hj,pr⟩
    exact absurd pr (by omega)
   ·rintro c1 st1 ⟨q1,r,o,i,j,mg,rfl,md⟩
    exact aI6 (h r _ q1 md)
end
def t9:Array Keyed->Array Keyed->StateT SortSt Sem (Array Keyed):=sortPriv% PySem.Builtin.mergeHi
abbrev LH:=Option (Array Keyed)×Nat×Nat×Array Keyed×Nat×Nat×Nat
abbrev tD:=Option (Array Keyed)×Nat×Nat×Array Keyed×Nat×Nat
abbrev LP:=Option (Array Keyed)×Nat×Nat×Array Keyed×Nat
def pG (x y o:Array Keyed)(i j mg p q:Nat):StateT SortSt Sem (ForInStep LH):=do
 let v <- elem' x (i-1)
 if (i-1==0)=true then pure (.done (some (x.extract 0 (i-1)++y.extract 0 j++(o.push v).reverse),i-1,j,o.push v,mg,p,q))
 else if (decide (p<7)&&decide (q<7))=true then pure (.done (none,i-1,j,o.push v,mg,p,q)) else pure (.yield (none,i-1,j,o.push v,mg,p,q))
def pH (x y o:Array Keyed)(i j mg p q:Nat):StateT SortSt Sem (ForInStep LH):=do
 let v <- elem' y (j-1)
 if (j-1==1)=true then pure (.done (some (y.extract 0 (j-1)++x.extract 0 i++(o.push v).reverse),i,j-1,o.push v,mg,p,q)) else do
  let u <- elem' x (i-1)
  match <- j6 true u y 0 (j-1) (j-1-1) with
  |some z=>
   if j-1-z>0 then
    if (z==1)=true then pure (.done (some (y.extract 0 z++x.extract 0 i++(o.push v++(y.extract z (j-1)).reverse).reverse),i,z,o.push v++(y.extract z (j-1)).reverse,mg,p,j-1-z))
    else if (z==0)=true then pure (.done (some (x.extract 0 i++y.extract 0 z++(o.push v++(y.extract z (j-1)).reverse).reverse),i,z,o.push v++(y.extract z (j-1)).reverse,mg,p,j-1-z))
    else pG x y (o.push v++(y.extract z (j-1)).reverse) i z mg p (j-1-z)
   else pG x y (o.push v) i (j-1) mg p (j-1-z)
  |_=>pure (.done (some (x.extract 0 i++y.extract 0 (j-1)++(o.push v).reverse),i,j-1,o.push v,mg,p,q))
def pI (x y o:Array Keyed)(i j mg p q:Nat):StateT SortSt Sem (ForInStep LH):=do
 l8 mg
 let v <- elem' y (j-1)
 match <- j6 false v x 0 i (i-1) with
 |some z=>
  if i-z>0 then
   if (z==0)=true then pure (.done (some (x.extract 0 z++y.extract 0 j++(o++(x.extract z i).reverse).reverse),z,j,o++(x.extract z i).reverse,mg,i-z,q))
   else pH x y (o++(x.extract z i).reverse) z j mg (i-z) q
  else pH x y o i j mg (i-z) q
 |_=>pure (.done (some (x.extract 0 i++y.extract 0 j++o.reverse),i,j,o,mg,p,q))
def tE (x y o:Array Keyed)(i j mg p q:Nat):StateT SortSt Sem LH:=forIn [0:x.size+y.size] ((none,i,j,o,mg,p,q):LH) λ_ r=>
 if r.2.2.2.2.1>1 then pI x y r.2.2.2.1 r.2.1 r.2.2.1 (r.2.2.2.2.1-1) r.2.2.2.2.2.1 r.2.2.2.2.2.2 else pI x y r.2.2.2.1 r.2.1 r.2.2.1 r.2.2.2.2.1 r.2.2.2.2.2.1 r.2.2.2.2.2.2
def tF (x y o:Array Keyed)(i j mg:Nat):StateT SortSt Sem tD:=forIn [0:x.size+y.size] ((none,i,j,o,0,0):tD) λ_ r=>do
 let v <- elem' y (r.2.2.1-1)
 let u <- elem' x (r.2.1-1)
 match <- lt' v u with
 |some q=>
  if q=true then do
   let u <- elem' x (r.2.1-1)
   if (r.2.1-1==0)=true then pure (.done (some (x.extract 0 (r.2.1-1)++y.extract 0 r.2.2.1++(r.2.2.2.1.push u).reverse),r.2.1-1,r.2.2.1,r.2.2.2.1.push u,r.2.2.2.2.1+1,0))
   else if r.2.2.2.2.1+1 >= mg then pure (.done (none,r.2.1-1,r.2.2.1,r.2.2.2.1.push u,r.2.2.2.2.1+1,0)) else pure (.yield (none,r.2.1-1,r.2.2.1,r.2.2.2.1.push u,r.2.2.2.2.1+1,0))
  else do
   let v <- elem' y (r.2.2.1-1)
   if (r.2.2.1-1==1)=true then pure (.done (some (y.extract 0 (r.2.2.1-1)++x.extract 0 r.2.1++(r.2.2.2.1.push v).reverse),r.2.1,r.2.2.1-1,r.2.2.2.1.push v,0,r.2.2.2.2.2+1))
   else if r.2.2.2.2.2+1 >= mg then pure (.done (none,r.2.1,r.2.2.1-1,r.2.2.2.1.push v,0,r.2.2.2.2.2+1)) else pure (.yield (none,r.2.1,r.2.2.1-1,r.2.2.2.1.push v,0,r.2.2.2.2.2+1))
 |_=>pure (.done (some (x.extract 0 r.2.1++y.extract 0 r.2.2.1++r.2.2.2.1.reverse),r.2.1,r.2.2.1,r.2.2.2.1,r.2.2.2.2.1,r.2.2.2.2.2))
def zI (x y o:Array Keyed)(i j mg:Nat):StateT SortSt Sem LP:=forIn [0:x.size+y.size] ((none,i,j,o,mg):LP) λ_ r=>do
 let u <- tF x y r.2.2.2.1 r.2.1 r.2.2.1 r.2.2.2.2
 match u.1 with
 |some z=>pure (.done (some z,u.2.1,u.2.2.1,u.2.2.2.1,r.2.2.2.2))
 |none=>do
  liftM (rule "list.sort.gallop")
  let v <- tE x y u.2.2.2.1 u.2.1 u.2.2.1 (r.2.2.2.2+1) u.2.2.2.2.1 u.2.2.2.2.2
  match v.1 with
  |some z=>pure (.done (some z,v.2.1,v.2.2.1,v.2.2.2.1,v.2.2.2.2.1))
  |none=>do
   l8 (v.2.2.2.2.1+1)
   pure (.yield (none,v.2.1,v.2.2.1,v.2.2.2.1,v.2.2.2.2.1+1))
theorem ak7 (x y:Array Keyed):t9 x y=(do
 liftM (rule "list.sort.merge-hi")
 let v <- elem' x (x.size-1)
 if (x.size-1==0)=true then pure (x.extract 0 (x.size-1)++y.extract 0 y.size++(#[v]:Array Keyed).reverse)
 else if (y.size==1)=true then pure (y.extract 0 y.size++x.extract 0 (x.size-1)++(#[v]:Array Keyed).reverse)
 else do
  let z <- get
  let r <- zI x y #[v] (x.size-1) y.size (gallopOf z)
  match r.1 with
  |some z=>pure z
  |none=>unsupported "internal:list.sort.merge-bound"):=by kernel_rfl
structure MH (rk:Keyed->Int)(xs ys o:List Keyed)(i j:Nat):Prop where
 pm:o.Perm (xs.drop i++ys.drop j)
 sx:Sd rk (xs.take i++o)
 sy:Sd rk (ys.take j++o)
variable {rk:Keyed→Int}{xs ys o:List Keyed}{i j:Nat}
theorem Sd.insR {o a b d:List Keyed}(h1:Sd rk (a++o))(h2:Sd rk ((d++b)++o))(h:∀t∈a,∀u∈b,rk t<=rk u):Sd rk (a++(b++o)):=by
 unfold Sd at *
 obtain⟨p1,p2,p3⟩:=aN6.mp h1
 obtain⟨q1,q2,q3⟩:=aN6.mp h2
 obtain⟨r1,r2,r3⟩:=aN6.mp q1
 refine aN6.mpr ⟨p1,aN6.mpr ⟨r2,p2,λu hu t ht=>q3 u (aK9 _ hu) t ht⟩,λu hu t ht=>?_⟩
 rcases aN2.mp ht with z|z
 ·exact h u hu t z
 ·exact p3 u hu t z
theorem pJ (l:List Keyed){z j:Nat}(h:z<=j):l.take z++(l.take j).drop z=l.take j:=by
 have e:l.take z=(l.take j).take z:=by rw[List.take_take,Nat.min_eq_left h]
 rw[e];exact aM2 z _
theorem tG (l:List Keyed){z j:Nat}(h:z<=j):(l.take j).drop z++l.drop j=l.drop z:=by
 rw[aY4,show l.drop j=(l.drop z).drop (j-z) by rw[List.drop_drop,Nat.add_sub_cancel' h]]
 exact aM2 _ _
theorem MH.ofy (m:MH rk xs ys o i j){z:Nat}(hz:z<=j)(h:∀t∈xs.take i,∀u∈(ys.take j).drop z,rk t<=rk u):MH rk xs ys ((ys.take j).drop z++o) i z:=by
 refine⟨?_,Sd.insR m.sx (d:=ys.take z) (by rw[pJ _ hz];exact m.sy) h,by rw[<- aK6,pJ _ hz];exact m.sy⟩
 rw[<- tG ys hz]
 refine (m.pm.append_left _).trans ?_
 rw[<- aK6,<- aK6]
 exact (aW4).append_right _
theorem MH.ofx (m:MH rk xs ys o i j){z:Nat}(hz:z<=i)(h:∀t∈ys.take j,∀u∈(xs.take i).drop z,rk t<=rk u):MH rk xs ys ((xs.take i).drop z++o) z j:=by
 refine⟨?_,by rw[<- aK6,pJ _ hz];exact m.sx,Sd.insR m.sy (d:=xs.take z) (by rw[pJ _ hz];exact m.sx) h⟩
 rw[<- tG xs hz,aK6]
 exact m.pm.append_left _
theorem MH.fin (m:MH rk xs ys o i j)(h:i=0∨j=0):(xs.take i++ys.take j++o).Perm (xs++ys)/\Sd rk (xs.take i++ys.take j++o):=by
 refine⟨?_,?_⟩
 ·have e1:xs=xs.take i++xs.drop i:=(aM2 i xs).symm
  have e2:ys=ys.take j++ys.drop j:=(aM2 j ys).symm
  conv=>rhs;rw[e1,e2]
  rw[aK6,aK6]
  refine List.Perm.append_left _ ((m.pm.append_left _).trans ?_)
  rw[<- aK6,<- aK6]
  exact (aW4).append_right _
 ·rcases h with h|h
  ·subst h;simpa using m.sy
  ·subst h;simpa using m.sx
theorem MH.fst (m:MH rk xs ys o i j)(h:∀t∈ys.take j,∀u∈xs,rk t<=rk u):(ys.take j++xs.take i++o).Perm (xs++ys)/\Sd rk (ys.take j++xs.take i++o):=by
 have m2:=m.ofx (aN4 i) λt ht u hu=>h t ht u (List.mem_of_mem_take (List.mem_of_mem_drop hu))
 have f:=m2.fin (.inl rfl)
 simpa using f
theorem mW {x:Array Keyed}{i:Nat}{u:Keyed}(h:u∈x.toList.take i):∃t,t<i/\t<x.size/\rk u=Kr rk x t:=by
 obtain⟨t,ht,e⟩:=List.getElem_of_mem h
 have h1:t<i/\t<x.size:=by simp at ht;omega
 refine⟨t,h1.1,h1.2,?_⟩
 rw[bR h1.2,<- e]
 simp
theorem mX {x:Array Keyed}{z i:Nat}{u:Keyed}(h:u∈(x.toList.take i).drop z):∃t,z<=t/\t<i/\t<x.size/\rk u=Kr rk x t:=by
 obtain⟨t,ht,e⟩:=List.getElem_of_mem h
 have h1:z+t<i/\z+t<x.size:=by simp at ht;omega
 refine⟨z+t,by omega,h1.1,h1.2,?_⟩
 rw[bR h1.2,<- e]
 simp
theorem jW (x:Array Keyed)(z i:Nat):(x.extract z i).toList=(x.toList.take i).drop z:=by
 rw[aY4];simp[List.extract]
theorem pK (x:Array Keyed)(i:Nat):(x.extract 0 i).toList=x.toList.take i:=by
 simp[List.extract]
theorem mY {x:Array Keyed}{i:Nat}(h:i<x.size):[x[i]]=(x.toList.take (i+1)).drop i:=by
 rw[aY4,jV h,show i+1-i=1 by omega]
section
variable {κ:SortKind}{st:SortSt}{prog:Program}{w:World}{A:Around}{E:Value→Shared→Prop}{s:Shared}{Ok:Keyed→Prop}
theorem MH.y1 {x y o:Array Keyed}(m:MH rk x.toList y.toList o.toList.reverse i (j+1))(hj:j<y.size)(h:∀t,t<i->t<x.size->Kr rk x t<=rk y[j]):MH rk x.toList y.toList (o.push y[j]).toList.reverse i j:=by
 have:=m.ofy (Nat.le_succ j) λt ht u hu=>?_
 ·rw[<- mY hj]at this;simpa using this
 ·rw[<- mY hj,aI3]at hu
  subst hu
  obtain⟨q,q1,q2,q3⟩:=mW (rk:=rk) ht
  rw[q3];exact h q q1 q2
theorem MH.x1 {x y o:Array Keyed}(m:MH rk x.toList y.toList o.toList.reverse (i+1) j)(hi:i<x.size)(h:∀t,t<j->t<y.size->Kr rk y t<=rk x[i]):MH rk x.toList y.toList (o.push x[i]).toList.reverse i j:=by
 have:=m.ofx (Nat.le_succ i) λt ht u hu=>?_
 ·rw[<- mY hi]at this;simpa using this
 ·rw[<- mY hi,aI3]at hu
  subst hu
  obtain⟨q,q1,q2,q3⟩:=mW (rk:=rk) ht
  rw[q3];exact h q q1 q2
theorem MH.yk {x y o:Array Keyed}(m:MH rk x.toList y.toList o.toList.reverse i j){z:Nat}(hz:z<=j)(h:∀t p,t<i->t<x.size->z<=p->p<j->p<y.size->Kr rk x t<=Kr rk y p):MH rk x.toList y.toList (o++(y.extract z j).reverse).toList.reverse i z:=by
 have:=m.ofy hz λt ht u hu=>?_
 ·rw[<- jW]at this;simpa using this
 ·obtain⟨q,q1,q2,q3⟩:=mW (rk:=rk) ht
  obtain⟨p,p1,p2,p3,p4⟩:=mX (rk:=rk) hu
  rw[q3,p4];exact h q p q1 q2 p1 p2 p3
theorem MH.xk {x y o:Array Keyed}(m:MH rk x.toList y.toList o.toList.reverse i j){z:Nat}(hz:z<=i)(h:∀t p,t<j->t<y.size->z<=p->p<i->p<x.size->Kr rk y t<=Kr rk x p):MH rk x.toList y.toList (o++(x.extract z i).reverse).toList.reverse z j:=by
 have:=m.ofx hz λt ht u hu=>?_
 ·rw[<- jW]at this;simpa using this
 ·obtain⟨q,q1,q2,q3⟩:=mW (rk:=rk) ht
  obtain⟨p,p1,p2,p3,p4⟩:=mX (rk:=rk) hu
  rw[q3,p4];exact h q p q1 q2 p1 p2 p3
theorem MH.done {x y o:Array Keyed}(m:MH rk x.toList y.toList o.toList.reverse i j)(hh:i=0∨j=0):dA rk x y (x.extract 0 i++y.extract 0 j++o.reverse):=by
 unfold dA
 rw[aO1,aO1,pK,pK,Array.toList_reverse]
 exact m.fin hh
theorem MH.frst {x y o:Array Keyed}(m:MH rk x.toList y.toList o.toList.reverse i j)(y0:0<y.size)(hf:∀t∈x.toList,rk y[0]<=rk t)(hh:j=1):dA rk x y (y.extract 0 j++x.extract 0 i++o.reverse):=by
 unfold dA
 rw[aO1,aO1,pK,pK,Array.toList_reverse]
 refine m.fst λt ht u hu=>?_
 subst hh
 obtain⟨q,q1,q2,q3⟩:=mW (rk:=rk) ht
 have e:q=0:=by omega
 subst e
 rw[q3,bR y0]
 exact hf u hu
structure HB (rk:Keyed->Int)(x y:Array Keyed)(lb i j:Nat)(o:Array Keyed):Prop where
 m:MH rk x.toList y.toList o.toList.reverse i j
 i0:0<i
 i1:i<x.size
 j0:1<j
 j1:j<=y.size
 pr:i+j+lb<=x.size+y.size
def HI (rk:Keyed->Int)(x y:Array Keyed)(lb:Nat)(st:SortSt)(c:LH)(st':SortSt):Prop:=Gq st st'/\∃i j o mg p q,c=(none,i,j,o,mg,p,q)/\HB rk x y lb i j o
def HQ (rk:Keyed->Int)(x y:Array Keyed)(lb:Nat)(st:SortSt)(c:LH)(st':SortSt):Prop:=Gq st st'/\((∃r i j o mg p q,c=(some r,i,j,o,mg,p,q)/\dA rk x y r)∨∃i j o mg p q,c=(none,i,j,o,mg,p,q)/\HB rk x y lb i j o)
def HR (rk:Keyed->Int)(x y:Array Keyed)(lb:Nat)(st:SortSt)(r:ForInStep LH)(st':SortSt):Prop:=match r with|.done c=>HQ rk x y lb st c st'|.yield c=>HI rk x y lb st c st'
theorem zJ {st0:SortSt}{x y o:Array Keyed}{i j mg p q lb:Nat}(g:Gq st0 st)(b:HB rk x y lb (i+1) j o)(hm:∀(hi:i<x.size) t,t<j->t<y.size->Kr rk y t<=rk x[i]):wpS (model prog w) A E s (pG x y o (i+1) j mg p q) (HR rk x y lb st0) st:=by
 unfold pG
 obtain⟨m,i0,i1,j0,j1,pr⟩:=b
 have hi':i<x.size:=by omega
 have m':=m.x1 hi' (hm hi')
 simp only[Nat.add_sub_cancel]
 refine aI0 (cM hi' ?_)
 by_cases he:(i==0)=true
 ·rw[if_pos he]
  have he:i=0:=by simpa using he
  exact aI6 ⟨g,.inl ⟨_,_,_,_,_,_,_,rfl,m'.done (.inl he)⟩⟩
 ·rw[if_neg he]
  have he:i≠0:=by simpa using he
  split
  ·exact aI6 ⟨g,.inr ⟨_,_,_,_,_,_,rfl,m',by omega,by omega,j0,j1,by omega⟩⟩
  ·exact aI6 ⟨g,_,_,_,_,_,_,rfl,m',by omega,by omega,j0,j1,by omega⟩
theorem zK (c:c8 prog w A E s κ Ok rk){st0:SortSt}(hk:kindOf st0=κ){x y o:Array Keyed}{i j mg p q lb:Nat}(ox:bE Ok x)(oy:bE Ok y)(sx:Sd rk x.toList)(sy:Sd rk y.toList)(y0:0<y.size)(hf:∀t∈x.toList,rk y[0]<=rk t)(g:Gq st0 st)(b:HB rk x y lb (i+1) (j+1) o)(hm:∀(hj:j<y.size) t,t<i+1->t<x.size->Kr rk x t<=rk y[j]):wpS (model prog w) A E s (pH x y o (i+1) (j+1) mg p q) (HR rk x y lb st0) st:=by
 unfold pH
 obtain⟨m,i0,i1,j0,j1,pr⟩:=b
 have hi':i<x.size:=by omega
 have hj:j<y.size:=by omega
 have m':=m.y1 hj (hm hj)
 simp only[Nat.add_sub_cancel]
 refine aI0 (cM hj ?_)
 by_cases he:(j==1)=true
 ·rw[if_pos he]
  have he:j=1:=by simpa using he
  exact aI6 ⟨g,.inl ⟨_,_,_,_,_,_,_,rfl,m'.frst y0 hf he⟩⟩
 ·rw[if_neg he]
  have he:j≠1:=by simpa using he
  refine aI0 (cM hi' (aI0 (kZ c (g.kd.trans hk) (ox _ (aN0 hi')) oy (by omega) (by omega) (sy.up _ _ (by omega)) λz k1 k2 k3=>?_)))
  dsimp only
  have ux:=sx.up 0 _ (aH7 x.size)
  have mk:=m'.yk k1 λt p ht ht' hp hp' _=>by
   have a1:=k3 p hp hp'
   rw[lA,aS4,Nat.zero_add]at a1
   have a2:=ux t i (by omega) (by omega) hi'
   rw[bR (i:=i) hi']at a2
   omega
  have km:∀(hi:i<x.size) t,t<z->t<y.size->Kr rk y t<=rk x[i]:=λ_ t ht _=>by
   have a1:=k2 t ht
   rw[lA,aM9,Nat.zero_add]at a1
   omega
  by_cases hk0:j-z>0
  ·rw[if_pos hk0]
   by_cases h1:(z==1)=true
   ·rw[if_pos h1]
    have h1:z=1:=by simpa using h1
    exact aI6 ⟨g,.inl ⟨_,_,_,_,_,_,_,rfl,mk.frst y0 hf h1⟩⟩
   ·rw[if_neg h1]
    have h1:z≠1:=by simpa using h1
    by_cases h0:(z==0)=true
    ·rw[if_pos h0]
     have h0:z=0:=by simpa using h0
     exact aI6 ⟨g,.inl ⟨_,_,_,_,_,_,_,rfl,mk.done (.inr h0)⟩⟩
    ·rw[if_neg h0]
     have h0:z≠0:=by simpa using h0
     exact zJ g ⟨mk,by omega,i1,by omega,by omega,by omega⟩ km
  ·rw[if_neg hk0]
   have e0:z=j:=by omega
   subst e0
   exact zJ g ⟨m',by omega,i1,by omega,by omega,by omega⟩ km
theorem zL (c:c8 prog w A E s κ Ok rk){st0:SortSt}(hk:kindOf st0=κ){x y o:Array Keyed}{i j mg p q lb:Nat}(ox:bE Ok x)(oy:bE Ok y)(sx:Sd rk x.toList)(sy:Sd rk y.toList)(y0:0<y.size)(hf:∀t∈x.toList,rk y[0]<=rk t)(g:Gq st0 st)(b:HB rk x y lb i (j+1) o) :
  wpS (model prog w) A E s (pI x y o i (j+1) mg p q) (HR rk x y lb st0) st:=by
 unfold pI
 obtain⟨m,i0,i1,j0,j1,pr⟩:=b
 have hj:j<y.size:=by omega
 simp only[Nat.add_sub_cancel]
 refine aI0 (pF g λst4 q4=>aI0 (cM hj (aI0 (kZ c (q4.kd.trans hk) (oy _ (aN0 hj)) ox (by omega) (by omega) (sx.up _ _ (by omega)) λz k1 k2 k3=>?_))))
 dsimp only
 have uy:=sy.up 0 _ (aH7 y.size)
 have mk:=m.xk k1 λt p ht ht' hp hp' _=>by
  have a1:=k3 p hp hp'
  rw[l9,aS4,Nat.zero_add]at a1
  have a2:=uy t j (by omega) (by omega) hj
  rw[bR (i:=j) hj]at a2
  omega
 have km:∀(hj:j<y.size) t,t<z->t<x.size->Kr rk x t<=rk y[j]:=λ_ t ht _=>by
  have a1:=k2 t ht
  rw[l9,aM9,Nat.zero_add]at a1
  exact a1
 by_cases hk0:i-z>0
 ·rw[if_pos hk0]
  by_cases he:(z==0)=true
  ·rw[if_pos he]
   exact aI6 ⟨q4,.inl ⟨_,_,_,_,_,_,_,rfl,mk.done (.inl (by simpa using he))⟩⟩
  ·rw[if_neg he]
   have he:z≠0:=by simpa using he
   obtain⟨z2,rfl⟩:∃z2,z=z2+1:=⟨z-1,by omega⟩
   exact zK c hk ox oy sx sy y0 hf q4 ⟨mk,by omega,by omega,j0,j1,by omega⟩ km
 ·rw[if_neg hk0]
  have e0:z=i:=by omega
  subst e0
  obtain⟨z2,rfl⟩:∃z2,z=z2+1:=⟨z-1,by omega⟩
  exact zK c hk ox oy sx sy y0 hf q4 ⟨m,i0,i1,j0,j1,pr⟩ km
theorem ak8 (c:c8 prog w A E s κ Ok rk){st0:SortSt}(hk:kindOf st0=κ){x y o:Array Keyed}{i j mg p q lb:Nat}(ox:bE Ok x)(oy:bE Ok y)(sx:Sd rk x.toList)(sy:Sd rk y.toList)(y0:0<y.size)(hf:∀t∈x.toList,rk y[0]<=rk t)(g:Gq st0 st)(b:HB rk x y lb i j o) :
  wpS (model prog w) A E s (tE x y o i j mg p q) (HQ rk x y lb st0) st:=by
 unfold tE
 refine aP9 (I:=λ_=>HI rk x y lb st0) ?_ ?_ ⟨g,i,j,o,_,p,q,rfl,b⟩
 ·rintro t c3 st3 _ _ ⟨q3,i,j,o,mg,p,q,rfl,b3⟩
  obtain⟨j3,rfl⟩:∃j3,j=j3+1:=⟨j-1,by have:=b3.j0;omega⟩
  dsimp only
  split
  ·exact aX8 (zL c hk ox oy sx sy y0 hf q3 b3) λr _ hr=>by cases r<;>exact hr
  ·exact aX8 (zL c hk ox oy sx sy y0 hf q3 b3) λr _ hr=>by cases r<;>exact hr
 ·rintro c3 st3 ⟨q3,i,j,o,mg,p,q,rfl,b3⟩
  exact⟨q3,.inr ⟨_,_,_,_,_,_,rfl,b3⟩⟩
theorem ak9 (c:c8 prog w A E s κ Ok rk){st0:SortSt}(hk:kindOf st0=κ){x y o:Array Keyed}{i j mg n:Nat}{Q:tD->SortSt->Prop}(ox:bE Ok x)(oy:bE Ok y)(sx:Sd rk x.toList)(sy:Sd rk y.toList)(y0:0<y.size)(hf:∀t∈x.toList,rk y[0]<=rk t)(g:Gq st0 st)(b:HB rk x y n i j o)(h1:∀r i' j' o' p q st',Gq st0 st'->dA rk x y r->Q (some r,i',j',o',p,q) st')(h2:∀i' j' o' p q st',Gq st0 st'->HB rk x y (n+1) i' j' o'->Q (none,i',j',o',p,q) st') :
  wpS (model prog w) A E s (tF x y o i j mg) Q st:=by
 have ux:Up rk x 0 x.size:=sx.up 0 _ (aH7 _)
 have uy:Up rk y 0 y.size:=sy.up 0 _ (aH7 _)
 unfold tF
 refine aP9 (I:=λt c st'=>Gq st0 st'/\∃i j o p q,c=(none,i,j,o,p,q)/\HB rk x y (n+t) i j o) ?_ ?_ ⟨g,i,j,o,0,0,rfl,b⟩
 ·rintro t c2 st2 _ ht ⟨q2,i',j',o,p,q,rfl,m,i0,i1,j0,j1,pr⟩
  obtain⟨i2,rfl⟩:∃i2,i'=i2+1:=⟨i'-1,by omega⟩
  obtain⟨j2,rfl⟩:∃j2,j'=j2+1:=⟨j'-1,by omega⟩
  simp only[Nat.add_sub_cancel]
  have hi:i2<x.size:=by omega
  have hj:j2<y.size:=by omega
  refine aI0 (cM hj (aI0 (cM hi (aI0 (c _ _ (oy _ (aN0 hj)) (ox _ (aN0 hi)) st2 _ (q2.kd.trans hk) ?_)))))
  by_cases hc:rk y[j2]<rk x[i2]
  ·rw[aI2 hc]
   dsimp only
   rw[if_pos rfl]
   have m':=m.x1 hi λt ht _=>by
    have:=uy t j2 (by omega) (by omega) hj
    rw[bR hj]at this
    omega
   refine aI0 (cM hi ?_)
   by_cases he:(i2==0)=true
   ·rw[if_pos he]
    exact aI6 (h1 _ _ _ _ _ _ _ q2 (m'.done (.inl (by simpa using he))))
   ·rw[if_neg he]
    have he:i2≠0:=by simpa using he
    split
    ·exact aI6 (h2 _ _ _ _ _ _ q2 ⟨m',by omega,by omega,j0,j1,by omega⟩)
    ·exact aI6 ⟨q2,_,_,_,_,_,rfl,m',by omega,by omega,j0,j1,by omega⟩
  ·rw[aH8 hc]
   dsimp only
   rw[if_neg aJ0]
   have m':=m.y1 hj λt ht _=>by
    have:=ux t i2 (by omega) (by omega) hi
    rw[bR hi]at this
    omega
   refine aI0 (cM hj ?_)
   by_cases he:(j2==1)=true
   ·rw[if_pos he]
    exact aI6 (h1 _ _ _ _ _ _ _ q2 (m'.frst y0 hf (by simpa using he)))
   ·rw[if_neg he]
    have he:j2≠1:=by simpa using he
    split
    ·exact aI6 (h2 _ _ _ _ _ _ q2 ⟨m',i0,i1,by omega,by omega,by omega⟩)
    ·exact aI6 ⟨q2,_,_,_,_,_,rfl,m',i0,i1,by omega,by omega,by omega⟩
 ·rintro c2 st2 ⟨q2,i',j',o,p,q,rfl,m,i0,i1,j0,j1,pr⟩
  exact h2 _ _ _ _ _ _ q2 ⟨m,i0,i1,j0,j1,by omega⟩
theorem al0 (c:c8 prog w A E s κ Ok rk)(hk:kindOf st=κ){x y:Array Keyed}{Q:Array Keyed->SortSt->Prop}(ox:bE Ok x)(oy:bE Ok y)(sx:Sd rk x.toList)(sy:Sd rk y.toList)(x0:0<x.size)(y0:0<y.size)(hf:∀t∈x.toList,rk y[0]<=rk t)(hl:∀u∈y.toList,rk u<=rk x[x.size-1])(h:∀r st',Gq st st'->dA rk x y r->Q r st'):wpS (model prog w) A E s (t9 x y) Q st:=by
 rw[ak7]
 refine aI0 (wpS_lift (aY0 ⟨rfl,aI0 (cM (by omega:x.size-1<x.size) ?_)⟩))
 have m0:MH rk x.toList y.toList (#[x[x.size-1]]:Array Keyed).toList.reverse (x.size-1) y.size:=by
  have mm:MH rk x.toList y.toList [] x.size y.size:=⟨by simp,by rw[aM8 (by simp),aR8];exact sx,by rw[aM8 (by simp),aR8];exact sy⟩
  have e:=mY (x:=x) (i:=x.size-1) (by omega)
  rw[show x.size-1+1=x.size by omega]at e
  have:=mm.ofx (Nat.sub_le x.size 1) λt ht u hu=>?_
  ·rw[<- e]at this;simpa using this
  ·rw[<- e,aI3]at hu
   subst hu
   exact hl t (List.mem_of_mem_take ht)
 by_cases e1:(x.size-1==0)=true
 ·rw[if_pos e1]
  exact aI6 (h _ st (Gq.refl st) (m0.done (.inl (by simpa using e1))))
 ·rw[if_neg e1]
  have e1:x.size-1≠0:=by simpa using e1
  by_cases e2:(y.size==1)=true
  ·rw[if_pos e2]
   exact aI6 (h _ st (Gq.refl st) (m0.frst y0 hf (by simpa using e2)))
  ·rw[if_neg e2]
   have e2:y.size≠1:=by simpa using e2
   refine aI0 (wpS_get ?_)
   unfold zI
   refine aI0 (aX8 (aP9
    (I:=λn c st'=>Gq st st'/\∃i j o mg,c=(none,i,j,o,mg)/\HB rk x y (n+1) i j o)
    (Q:=λc st'=>Gq st st'/\∃r i j o mg,c=(some r,i,j,o,mg)/\dA rk x y r) ?_ ?_ ⟨Gq.refl st,_,_,_,_,rfl,m0,by omega,by omega,by omega,by omega,by omega⟩) ?_)
   ·rintro n c1 st1 _ hn ⟨q1,i,j,o,mg,rfl,b⟩
    dsimp only
    refine aI0 (ak9 c hk ox oy sx sy y0 hf q1 b (λr o' i' j' p q st' g md=>aI6 ⟨g,r,_,_,_,_,rfl,md⟩) λi' j' o' p q st' g b'=>?_)
    refine aI0 (wpS_lift (aY0 ⟨rfl,?_⟩))
    refine aI0 (aX8 (ak8 c hk ox oy sx sy y0 hf g b') ?_)
    rintro c3 st3 ⟨q3,⟨r,i3,j3,o,mg,p,q,rfl,md⟩|⟨i3,j3,o,mg,p,q,rfl,b3⟩⟩
    ·exact aI6 ⟨q3,r,_,_,_,_,rfl,md⟩
    ·exact aI0 (pF q3 λst4 q4=>aI6 ⟨q4,i3,j3,o,_,rfl,b3⟩)
   ·rintro c1 st1 ⟨q1,i,j,o,mg,rfl,b⟩
    have:=b.pr
    exact absurd this (by omega)
   ·rintro c1 st1 ⟨q1,r,i,j,o,mg,rfl,md⟩
    exact aI6 (h r _ q1 md)
end
theorem al1 (i:Nat):mergeAt' i=(do
 let z <- get
 let (some (sa,na,pw),some (sb,nb,_)):=((pendingOf z)[i]?,(pendingOf z)[i+1]?)|unsupported "internal:list.sort.pending"
 set (SortSt.mk' (kindOf z) (arrOf z) (((pendingOf z).setIfInBounds i (sa,na+nb,pw)).eraseIdxIfInBounds (i+1)) (gallopOf z) (failedOf z))
 let some k <- j6 false (<- elem' (arrOf z) sb) (arrOf z) sa na 0|return false
 let (sa,na):=(sa+k,na-k)
 if na==0 then return true
 let some nb <- j6 true (<- elem' (arrOf z) (sa+na-1)) (arrOf z) sb nb (nb-1)|return false
 if nb==0 then return true
 let x:=(arrOf z).extract sa sb
 let y:=(arrOf z).extract sb (sb+nb)
 let m <- if na<=nb then t5 x y else t9 x y
 modify λz=>setArr z (m.toList.zipIdx.foldl (λa (p,j)=>a.setIfInBounds (sa+j) p) (arrOf z))
 return (failedOf (<- get)).isNone):=rfl
variable {rk:Keyed→Int}
theorem al2 {σ:Type}{M:Model}{A:Around}{E:Value->Shared->Prop}{s:Shared}{a b:σ}{Q:PUnit->σ->Prop}(h:Q ⟨⟩ a):wpS M A E s (set a:StateT σ Sem PUnit) Q b:=by
 unfold wpS;rw[StateT.run_set];exact aH9 ⟨rfl,h⟩
theorem zM (o:Nat):∀(m:List Keyed) (n:Nat) (a:Array Keyed) (t:Nat),o+n+m.length<=a.size->
  ((m.zipIdx n).foldl (λa (p,j)=>a.setIfInBounds (o+j) p) a)[t]? = if o+n<=t/\t<o+n+m.length then m[t-(o+n)]? else a[t]?
 |[],n,a,t,_=>by
  show a[t]? = _
  rw[if_neg (λz=>Nat.not_lt_of_ge z.1 z.2)]
 |p::m,n,a,t,h=>by
  rw[List.zipIdx_cons,List.foldl_cons]
  have h':o+(n+1)+m.length<=(a.setIfInBounds (o+n) p).size:=by rw[Array.size_setIfInBounds];simp at h;omega
  have ih:=zM o m (n+1) (a.setIfInBounds (o+n) p) t h'
  refine ih.trans ?_
  have hs:o+n<a.size:=by simp at h;omega
  rw[Array.getElem?_setIfInBounds]
  by_cases e:o+n=t
  ·subst e
   rw[if_neg (by omega),if_pos rfl,if_pos hs,if_pos (by simp),Nat.sub_self];rfl
  ·rw[if_neg e]
   by_cases c:o+n<=t/\t<o+n+(p::m).length
   ·rw[if_pos c,if_pos (by simp at c;omega)]
    rw[show t-(o+n)=(t-(o+(n+1)))+1 by omega];rfl
   ·rw[if_neg c,if_neg (by simp at c ⊢;omega)]
theorem zN {a:Array Keyed}{lo hi:Nat}(u:Up rk a lo hi)(hh:hi<=a.size):Sd rk (a.extract lo hi).toList:=by
 unfold Sd
 rw[aR4]
 intro i j hi' hj hij
 have h2:lo+j<hi:=by simp at hj;omega
 have:=u (lo+i) (lo+j) (by omega) (by omega) h2
 rw[bR (by omega:lo+i<a.size),bR (by omega:lo+j<a.size)]at this
 simpa using this
theorem zO {a:Array Keyed}{lo mid hi:Nat}(u:Up rk a lo mid)(v:Up rk a mid hi)(h0:lo<mid)(h1:mid<hi)(h:Kr rk a (mid-1)<=Kr rk a mid):Up rk a lo hi:=λi j hi' hij hj=>by
 rcases aN9 j mid with z|z
 ·exact u i j hi' hij z
 ·rcases aN9 i mid with y|y
  ·have a1:=u i (mid-1) hi' (by omega) (by omega)
   have a2:=v mid j (aH7 _) z hj
   omega
  ·exact v i j y hij hj
theorem zP {a:Array Keyed}{lo hi t:Nat}(h:t<hi-lo)(hh:hi<=a.size):Kr rk (a.extract lo hi) t=Kr rk a (lo+t):=by
 refine jT ?_
 rw[Array.getElem?_extract_of_lt (by omega)]
 exact (getElem?_pos a (lo+t) (by omega)).symm
section
variable {κ:SortKind}{a0:Array Keyed}{pd:Array (Nat×Nat×Nat)}{st:SortSt}{prog:Program}{w:World}{A:Around}{E:Value→Shared→Prop}{s:Shared}{Ok:Keyed→Prop}
theorem al3 {a m:Array Keyed}{p x e:Nat}(hpx:p<=x)(hxe:x<=e)(he:e<=a.size)(md:dA rk (a.extract p x) (a.extract x e) m) :
  let r:=m.toList.zipIdx.foldl (λa (q,j)=>a.setIfInBounds (p+j) q) a
  r.Perm a/\(∀t,(t<p∨e<=t)->Kr rk r t=Kr rk a t)/\(∀t t',p<=t->t<=t'->t'<e->Kr rk r t<=Kr rk r t')/\∀t,p<=t->t<e->∃t',p<=t'/\t'<e/\Kr rk r t=Kr rk a t':=by
 intro r
 have ml:m.toList.length=e-p:=by
  rw[md.1.length_eq];simp;omega
 have g:∀t,r[t]? = if p<=t/\t<e then m[t-p]? else a[t]?:=λt=>by
  have:=zM p m.toList 0 a t (by omega)
  rw[show r=(m.toList.zipIdx 0).foldl (λa (q,j)=>a.setIfInBounds (p+j) q) a from rfl,this]
  simp only[Nat.add_zero,ml,show p+(e-p)=e by omega,aW5]
 have ex:(a.extract p x).toList++(a.extract x e).toList=(a.toList.take e).drop p:=by
  rw[jW,jW,aY4,aY4,aY4]
  rw[show x=p+(x-p) by omega,<- List.drop_drop,show p+(x-p)-p=x-p by omega,show e-(p+(x-p))=(e-p)-(x-p) by omega]
  have:=aM2 (x-p) ((a.toList.drop p).take (e-p))
  rw[List.take_take,aY4,Nat.min_eq_left (by omega)]at this
  exact this
 have rl:r.toList=a.toList.take p++(m.toList++a.toList.drop e):=by
  apply List.ext_getElem?
  intro t
  rw[aW5,g]
  rcases aN9 t p with z|z
  ·rw[if_neg (by omega),aT5 (by simp;omega),List.getElem?_take_of_lt z,aW5]
  ·rw[aV7 (by simp;omega)]
   have lp:(a.toList.take p).length=p:=by simp;omega
   rw[lp]
   rcases aN9 t e with y|y
   ·rw[if_pos ⟨z,y⟩,aT5 (by omega),aW5]
   ·rw[if_neg (by omega),aV7 (by omega),ml,List.getElem?_drop,aW5]
    congr 1;omega
 have mp:m.toList.Perm ((a.toList.take e).drop p):=ex▸md.1
 refine⟨?_,λt ht=>jT (by rw[g,if_neg (by omega)]),λt t' h1 h2 h3=>?_,λt h1 h2=>?_⟩
 ·refine Array.perm_iff_toList_perm.mpr ?_
  rw[rl]
  have:a.toList=a.toList.take p++((a.toList.take e).drop p++a.toList.drop e):=by
   rw[tG _ (by omega:p<=e)];exact (aM2 p _).symm
  conv=>rhs;rw[this]
  exact (mp.append_right _).append_left _
 ·have e1:Kr rk r t=Kr rk m (t-p):=jT (by rw[g,if_pos (by omega)])
  have e2:Kr rk r t'=Kr rk m (t'-p):=jT (by rw[g,if_pos (by omega)])
  rw[e1,e2]
  have ms:m.size=e-p:=by rw[<- ml];simp
  exact md.2.up 0 m.size (aH7 _) (t-p) (t'-p) (by omega) (by omega) (by omega)
 ·have e1:Kr rk r t=Kr rk m (t-p):=jT (by rw[g,if_pos (by omega)])
  have ms:m.size=e-p:=by rw[<- ml];simp
  have hm:t-p<m.size:=by omega
  have mm:m[t-p]∈(a.toList.take e).drop p:=mp.mem_iff.mp (by simp)
  obtain⟨t',q1,q2,q3,q4⟩:=mX (rk:=rk) mm
  exact⟨t',q1,q2,by rw[e1,bR hm];exact q4⟩
theorem al4 (c:c8 prog w A E s κ Ok rk)(o:bE Ok a0)(b:SB κ a0 pd st){i sa na pw sb nb pw':Nat}{Q:Bool->SortSt->Prop}(e1:pd[i]? = some (sa,na,pw))(e2:pd[i+1]? = some (sb,nb,pw'))(hs:sb=sa+na)(n0:0<na)(m0:0<nb)(hz:sb+nb<=a0.size)(u:Up rk (arrOf st) sa sb)(v:Up rk (arrOf st) sb (sb+nb))(h:∀st',SB κ a0 ((pd.setIfInBounds i (sa,na+nb,pw)).eraseIdxIfInBounds (i+1)) st'->Up rk (arrOf st') sa (sb+nb)->(∀t,(t<sa∨sb+nb<=t)->Kr rk (arrOf st') t=Kr rk (arrOf st) t)->Q true st'):wpS (model prog w) A E s (mergeAt' i) Q st:=by
 have sz:=b.sz
 rw[al1]
 refine aI0 (wpS_get ?_)
 rw[b.pd,e1,e2]
 dsimp only
 refine aI0 (al2 ?_)
 generalize hst:SortSt.mk' (kindOf st) (arrOf st) ((pd.setIfInBounds i (sa,na+nb,pw)).eraseIdxIfInBounds (i+1)) (gallopOf st) (failedOf st)=st1
 have b1:SB κ a0 ((pd.setIfInBounds i (sa,na+nb,pw)).eraseIdxIfInBounds (i+1)) st1:=by rw[<- hst];exact⟨b.pm,b.kd,b.ok,rfl⟩
 have ar:arrOf st1=arrOf st:=by rw[<- hst]
 have oa:=b.all o
 have hsb:sb<(arrOf st).size:=by omega
 refine aI0 (cM hsb (aI0 (kZ c b1.kd (oa _ (aN0 hsb)) oa n0 (by omega) (hs▸u) λk k1 k2 k3=>?_)))
 dsimp only
 have k2':∀t,sa<=t->t<sa+k->Kr rk (arrOf st) t<=Kr rk (arrOf st) sb:=λt t1 t2=>by
  have:=k2 (t-sa) (by omega)
  rw[l9,aM9,show sa+(t-sa)=t by omega]at this
  rw[bR hsb];exact this
 have k3':∀t,sa+k<=t->t<sb->Kr rk (arrOf st) sb<Kr rk (arrOf st) t:=λt t1 t2=>by
  have:=k3 (t-sa) (by omega) (by omega)
  rw[l9,aS4,show sa+(t-sa)=t by omega]at this
  rw[bR hsb];omega
 by_cases ek:(na-k==0)=true
 ·rw[if_pos ek]
  have ek:na-k=0:=by simpa using ek
  refine aI6 (h st1 b1 ?_ λt _=>by rw[ar])
  rw[ar]
  exact zO u v (by omega) (by omega) (k2' (sb-1) (by omega) (by omega))
 ·rw[if_neg ek]
  have ek:na-k≠0:=by simpa using ek
  have el:sa+k+(na-k)-1=sb-1:=by omega
  rw[el]
  have hsl:sb-1<(arrOf st).size:=by omega
  refine aI0 (cM hsl (aI0 (kZ c b1.kd (oa _ (aN0 hsl)) oa (by omega) (by omega) v λl l1 l2 l3=>?_)))
  dsimp only
  have l2':∀t,sb<=t->t<sb+l->Kr rk (arrOf st) t<Kr rk (arrOf st) (sb-1):=λt t1 t2=>by
   have:=l2 (t-sb) (by omega)
   rw[lA,aM9,show sb+(t-sb)=t by omega]at this
   rw[bR hsl];exact this
  have l3':∀t,sb+l<=t->t<sb+nb->Kr rk (arrOf st) (sb-1)<=Kr rk (arrOf st) t:=λt t1 t2=>by
   have:=l3 (t-sb) (by omega) (by omega)
   rw[lA,aS4,show sb+(t-sb)=t by omega]at this
   rw[bR hsl];omega
  by_cases en:(l==0)=true
  ·rw[if_pos en]
   have en:l=0:=by simpa using en
   subst en
   refine aI6 (h st1 b1 ?_ λt _=>by rw[ar])
   rw[ar]
   exact zO u v (by omega) (by omega) (l3' sb (by omega) (by omega))
  ·rw[if_neg en]
   have en:l≠0:=by simpa using en
   have sub:∀p e,bE Ok ((arrOf st).extract p e):=λp e z hz=>oa z (by
    have:z∈((arrOf st).extract p e).toList:=Array.mem_toList_iff.mpr hz
    rw[jW]at this
    exact Array.mem_toList_iff.mp (List.mem_of_mem_take (List.mem_of_mem_drop this)))
   have sx:Sd rk ((arrOf st).extract (sa+k) sb).toList:=zN (λi j h1 h2 h3=>u i j (by omega) h2 h3) (by omega)
   have sy:Sd rk ((arrOf st).extract sb (sb+l)).toList:=zN (λi j h1 h2 h3=>v i j h1 h2 (by omega)) (by omega)
   have x0:0<((arrOf st).extract (sa+k) sb).size:=by simp;omega
   have y0:0<((arrOf st).extract sb (sb+l)).size:=by simp;omega
   have hf:∀t∈((arrOf st).extract (sa+k) sb).toList,rk ((arrOf st).extract sb (sb+l))[0]<=rk t:=λt ht=>by
    rw[jW]at ht
    obtain⟨t',q1,q2,q3,q4⟩:=mX (rk:=rk) ht
    rw[q4,<- bR (rk:=rk) y0,zP (by omega) (by omega)]
    exact Int.le_of_lt (k3' t' q1 q2)
   have hl:∀t∈((arrOf st).extract sb (sb+l)).toList,rk t<=rk ((arrOf st).extract (sa+k) sb)[((arrOf st).extract (sa+k) sb).size-1]:=λt ht=>by
    rw[jW]at ht
    obtain⟨t',q1,q2,q3,q4⟩:=mX (rk:=rk) ht
    have e:((arrOf st).extract (sa+k) sb).size=sb-(sa+k):=by simp;omega
    rw[q4,<- bR (rk:=rk) (by omega),zP (by omega) (by omega),e,show sa+k+(sb-(sa+k)-1)=sb-1 by omega]
    exact Int.le_of_lt (l2' t' q1 q2)
   have fin:∀(m:Array Keyed) (st2:SortSt),Gq st1 st2->dA rk ((arrOf st).extract (sa+k) sb) ((arrOf st).extract sb (sb+l)) m->
     wpS (model prog w) A E s (do modify (λz=>setArr z (m.toList.zipIdx.foldl (λa (p,j)=>a.setIfInBounds (sa+k+j) p) (arrOf z)));return (failedOf (<- get)).isNone) Q st2:=λm st2 g md=>by
    have b2:SB κ a0 ((pd.setIfInBounds i (sa,na+nb,pw)).eraseIdxIfInBounds (i+1)) st2:=⟨by rw[g.ar];exact b1.pm,g.kd.trans b1.kd,g.ok.trans b1.ok,g.pd.trans b1.pd⟩
    have a2:arrOf st2=arrOf st:=g.ar.trans ar
    obtain⟨r1,r2,r3,r4⟩:=al3 (by omega) (by omega) (by omega) md
    generalize hr:m.toList.zipIdx.foldl (λa (q,j)=>a.setIfInBounds (sa+k+j) q) (arrOf st)=r at r1 r2 r3 r4
    refine aI0 (wpS_modify (aI0 (wpS_get (aI6 ?_))))
    have b3:=b2.put (xs:=m.toList.zipIdx.foldl (λa (q,j)=>a.setIfInBounds (sa+k+j) q) (arrOf st2)) (by rw[a2,hr];exact r1)
    have er:arrOf (setArr st2 (m.toList.zipIdx.foldl (λa (q,j)=>a.setIfInBounds (sa+k+j) q) (arrOf st2)))=r:=by rw[<- hr,a2]
    have tr:(failedOf (setArr st2 (m.toList.zipIdx.foldl (λa (q,j)=>a.setIfInBounds (sa+k+j) q) (arrOf st2)))).isNone=true:=by rw[b3.ok];rfl
    rw[tr]
    refine h _ b3 (λi j hi hij hj=>?_) λt ht=>?_
    ·rw[er]
     have bl:∀t,sa<=t->t<sa+k->∀t',sa+k<=t'->t'<sb+l->Kr rk (arrOf st) t<=Kr rk (arrOf st) t':=λt t1 t2 t' t3 t4=>by
      rcases aN9 t' sb with z|z
      ·exact u t t' t1 (by omega) z
      ·have a1:=k2' t t1 t2
       have a2:=v sb t' (aH7 _) z (by omega)
       omega
     have br:∀t,sb+l<=t->t<sb+nb->∀t',sa+k<=t'->t'<sb+l->Kr rk (arrOf st) t'<=Kr rk (arrOf st) t:=λt t1 t2 t' t3 t4=>by
      rcases aN9 t' sb with z|z
      ·have a1:=u t' (sb-1) (by omega) (by omega) (by omega)
       have a2:=l3' t t1 t2
       omega
      ·exact v t' t z (by omega) t2
     have blr:∀t,sa<=t->t<sa+k->∀t',sb+l<=t'->t'<sb+nb->Kr rk (arrOf st) t<=Kr rk (arrOf st) t':=λt t1 t2 t' t3 t4=>by
      have a1:=bl t t1 t2 (sb-1) (by omega) (by omega)
      have a2:=l3' t' t3 t4
      omega
     rcases aN9 i (sa+k) with z|z
     ·rw[r2 i (.inl z)]
      rcases aN9 j (sa+k) with y|y
      ·rw[r2 j (.inl y)];exact u i j hi hij (by omega)
      ·rcases aN9 j (sb+l) with x|x
       ·obtain⟨t',q1,q2,q3⟩:=r4 j y x
        rw[q3];exact bl i hi z t' q1 q2
       ·rw[r2 j (.inr x)];exact blr i hi z j x hj
     ·rcases aN9 j (sb+l) with x|x
      ·exact r3 i j z hij x
      ·rw[r2 j (.inr x)]
       rcases aN9 i (sb+l) with y|y
       ·obtain⟨t',q1,q2,q3⟩:=r4 i z y
        rw[q3];exact br j x hj t' q1 q2
       ·rw[r2 i (.inr y)];exact v i j (by omega) hij hj
    ·rw[er];exact r2 t (by omega)
   by_cases hle:na-k<=l
   ·rw[if_pos hle]
    exact aI0 (ak6 c b1.kd (sub _ _) (sub _ _) sx sy x0 y0 hf hl λm st2 g md=>fin m st2 g md)
   ·rw[if_neg hle]
    exact aI0 (al0 c b1.kd (sub _ _) (sub _ _) sx sy x0 y0 hf hl λm st2 g md=>fin m st2 g md)
end
def Ch:Nat->List (Nat×Nat)->Nat->Prop
 |a,[],b=>a=b
 |a,(p,n)::r,b=>p=a/\0<n/\Ch (a+n) r b
theorem Ch.split:∀{l l':List (Nat×Nat)}{a b:Nat},Ch a (l++l') b->∃m,Ch a l m/\Ch m l' b
 |[],_,a,_,h=>⟨a,rfl,h⟩
 |(p,n)::l,l',a,b,h=>by
  obtain⟨h1,h2,h3⟩:=h
  obtain⟨m,q1,q2⟩:=Ch.split h3
  exact⟨m,⟨h1,h2,q1⟩,q2⟩
theorem Ch.join:∀{l l':List (Nat×Nat)}{a m b:Nat},Ch a l m->Ch m l' b->Ch a (l++l') b
 |[],_,a,m,_,h,h'=>by cases (show a=m from h);exact h'
 |(p,n)::l,l',a,m,b,h,h'=>⟨h.1,h.2.1,Ch.join h.2.2 h'⟩
theorem Ch.len:∀{l:List (Nat×Nat)}{a b:Nat},Ch a l b->a+l.length<=b
 |[],a,b,h=>by cases (show a=b from h);simp
 |(p,n)::l,a,b,h=>by
  have:=Ch.len h.2.2
  have:=h.2.1
  simp;omega
theorem Ch.mem:∀{l:List (Nat×Nat)}{a b:Nat}{r:Nat×Nat},Ch a l b->r∈l->a<=r.1/\r.1+r.2<=b/\0<r.2
 |(p,n)::l,a,b,r,h,hr=>by
  obtain⟨h1,h2,h3⟩:=h
  have hb:=Ch.len h3
  rcases aH4.mp hr with e|e
  ·subst e
   have h1:p=a:=h1
   refine⟨?_,?_,h2⟩
   ·show a<=p;omega
   ·show p+n<=b;omega
  ·have:=Ch.mem h3 e
   exact⟨by omega,this.2.1,this.2.2⟩
def sk (pd:Array (Nat×Nat×Nat)):List (Nat×Nat):=pd.toList.map λr=>(r.1,r.2.1)
theorem pL (pd:Array (Nat×Nat×Nat)):(sk pd).length=pd.size:=by simp[sk]
structure Rn (rk:Keyed->Int)(a:Array Keyed)(l:List (Nat×Nat))(lo:Nat):Prop where
 ch:Ch 0 l lo
 up:∀r∈l,Up rk a r.1 (r.1+r.2)
variable {rk:Keyed→Int}{κ:SortKind}{a0:Array Keyed}{pd:Array (Nat×Nat×Nat)}{st:SortSt}{prog:Program}{w:World}{A:Around}{E:Value→Shared→Prop}{s:Shared}{Ok:Keyed→Prop}
theorem Rn.same {a b:Array Keyed}{l:List (Nat×Nat)}{lo:Nat}(h:Rn rk a l lo)(e:∀t,t<lo->Kr rk b t=Kr rk a t):Rn rk b l lo:=⟨h.ch,λr hr i j hi hij hj=>by
 have:=(h.ch.mem hr).2.1
 rw[e i (by omega),e j (by omega)]
 exact h.up r hr i j hi hij hj⟩
theorem zQ (c:c8 prog w A E s κ Ok rk)(o:bE Ok a0)(b:SB κ a0 pd st){i lo:Nat}{Q:Bool->SortSt->Prop}(hi:i+1<pd.size)(hz:lo<=a0.size)(rn:Rn rk (arrOf st) (sk pd) lo)(h:∀pd' st',SB κ a0 pd' st'->pd'.size+1=pd.size->Rn rk (arrOf st') (sk pd') lo->(∀t,lo<=t->Kr rk (arrOf st') t=Kr rk (arrOf st) t)->Q true st'):wpS (model prog w) A E s (mergeAt' i) Q st:=by
 obtain⟨⟨sa,na,pw⟩,e1⟩:∃r,pd[i]? = some r:=⟨pd[i],getElem?_pos pd i (by omega)⟩
 obtain⟨⟨sb,nb,pw'⟩,e2⟩:∃r,pd[i+1]? = some r:=⟨pd[i+1],getElem?_pos pd (i+1) hi⟩
 have d1:pd.toList=pd.toList.take i++(sa,na,pw)::(sb,nb,pw')::pd.toList.drop (i+2):=by
  have hl:i<pd.toList.length:=by simp;omega
  have hl2:i+1<pd.toList.length:=by simpa using hi
  have g1:pd.toList[i]=(sa,na,pw):=by rw[getElem?_pos pd i (by omega)]at e1;simpa using e1
  have g2:pd.toList[i+1]=(sb,nb,pw'):=by rw[getElem?_pos pd (i+1) hi]at e2;simpa using e2
  have:=aM2 i pd.toList
  rw[List.drop_eq_getElem_cons hl,List.drop_eq_getElem_cons hl2,g1,g2]at this
  exact this.symm
 have li:(pd.toList.take i).length=i:=by simp;omega
 have d2:((pd.setIfInBounds i (sa,na+nb,pw)).eraseIdxIfInBounds (i+1)).toList=pd.toList.take i++(sa,na+nb,pw)::pd.toList.drop (i+2):=by
  have e:((pd.setIfInBounds i (sa,na+nb,pw)).eraseIdxIfInBounds (i+1)).toList=(pd.toList.set i (sa,na+nb,pw)).eraseIdx (i+1):=by
   unfold Array.eraseIdxIfInBounds
   rw[dif_pos (by rw[Array.size_setIfInBounds];exact hi),Array.toList_eraseIdx,Array.toList_setIfInBounds]
  rw[e]
  conv=>lhs;rw[d1]
  rw[List.set_append_right _ _ (by omega),li,Nat.sub_self,List.set_cons_zero,List.eraseIdx_append_of_length_le (by omega),li,show i+1-i=1 by omega]
  rfl
 have k1:sk pd=(pd.toList.take i).map (λr=>(r.1,r.2.1))++(sa,na)::(sb,nb)::(pd.toList.drop (i+2)).map (λr=>(r.1,r.2.1)):=by
  unfold sk;conv=>lhs;rw[d1]
  simp
 have k2:sk ((pd.setIfInBounds i (sa,na+nb,pw)).eraseIdxIfInBounds (i+1))=(pd.toList.take i).map (λr=>(r.1,r.2.1))++(sa,na+nb)::(pd.toList.drop (i+2)).map (λr=>(r.1,r.2.1)):=by
  unfold sk;rw[d2]
  simp
 have ch:=rn.ch
 rw[k1]at ch
 obtain⟨m,c1,c2⟩:=ch.split
 obtain⟨f1,f2,f3,f4,f5⟩:=c2
 have f1:sa=m:=f1
 have f3:sb=m+na:=f3
 have up:=rn.up
 rw[k1]at up
 have lo2:=f5.len
 refine al4 c o b e1 e2 (by omega) f2 f4 (by omega) (by have:=up (sa,na) (by simp);rw[f3,<- f1];exact this) (up (sb,nb) (by simp)) λst' b' u' fr=>h _ st' b' ?_ ⟨?_,?_⟩ λt ht=>fr t (by omega)
 ·rw[<- pL,<- pL,k1,k2];simp;omega
 ·rw[k2]
  refine c1.join ⟨f1,by omega,?_⟩
  rw[<- Nat.add_assoc];exact f5
 ·intro r hr
  rw[k2]at hr
  rcases aN2.mp hr with z|z
  ·intro p q h1 h2 h3
   have:=(c1.mem z).2.1
   rw[fr p (by omega),fr q (by omega)]
   exact up r (aX1 _ z) p q h1 h2 h3
  ·rcases aH4.mp z with z|z
   ·subst z
    show Up rk (arrOf st') sa (sa+(na+nb))
    rw[show sa+(na+nb)=sb+nb by omega];exact u'
   ·intro p q h1 h2 h3
    have:=(f5.mem z).1
    rw[fr p (by omega),fr q (by omega)]
    exact up r (aK9 _ (aJ2 _ (aJ2 _ z))) p q h1 h2 h3
abbrev RS:=Option Unit×Nat
def zR (sz pw:Nat):StateT SortSt Sem (Option Unit×Unit):=forIn [0:sz] ((none,()):Option Unit×Unit) λ_ _=>do
 let z <- get
 match (if (pendingOf z).size>1 then (pendingOf z)[(pendingOf z).size-2]? else none) with
 |some (_,_,o)=>if o<=pw then pure (.done (none,())) else do
   let q <- mergeAt' ((pendingOf z).size-2)
   if (!q)=true then pure (.done (some (),())) else pure (.yield (none,()))
 |_=>pure (.done (none,()))
def jn (sz lo n:Nat):StateT SortSt Sem (ForInStep RS):=do
 let z <- get
 match (pendingOf z).back? with
 |some (s1,n1,_)=>do
  let r <- zR sz (power' sz (2*s1+n1) (2*s1+n1+n1+n) sz)
  match r.1 with
  |some u=>pure (.done (some u,lo))
  |none=>do
   modify λs=>setPending s ((pendingOf s).modify ((pendingOf s).size-1) λx=>(x.1,x.2.1,power' sz (2*s1+n1) (2*s1+n1+n1+n) sz))
   modify λs=>setPending s ((pendingOf s).push (lo,n,0))
   pure (.yield (none,lo+n))
 |_=>do
  modify λs=>setPending s ((pendingOf s).push (lo,n,0))
  pure (.yield (none,lo+n))
def zS (sz mr lo:Nat):StateT SortSt Sem (ForInStep RS):=if lo >= sz then pure (.done (none,lo)) else do
 match <- countRun' lo (sz-lo) with
 |some n=>
  if n<mr then
   liftM (rule "list.sort.binary-insertion")
   let q <- binarySort' lo (min (sz-lo) mr) n
   if (!q)=true then pure (.done (some (),lo)) else jn sz lo (min (sz-lo) mr)
  else jn sz lo n
 |_=>pure (.done (some (),lo))
def zT (sz:Nat):StateT SortSt Sem (Option Unit×Unit):=forIn [0:sz] ((none,()):Option Unit×Unit) λ_ _=>do
 let z <- get
 if (pendingOf z).size<=1 then pure (.done (none,())) else do
  let q <- mergeAt' (if ((if (pendingOf z).size-2>0 then (pendingOf z)[(pendingOf z).size-2-1]?.map (·.2.1) else none).any (·<((pendingOf z)[(pendingOf z).size-2+1]?.elim 0 (·.2.1))))=true then (pendingOf z).size-2-1 else (pendingOf z).size-2)
  if (!q)=true then pure (.done (some (),())) else pure (.yield (none,()))
theorem al5:sortRuns'=(do
 let z <- get
 let r <- (forIn [0:(arrOf z).size] ((none,0):RS) λ_ r=>zS (arrOf z).size (minRun' (arrOf z).size (arrOf z).size 0) r.2)
 match r.1 with
 |some u=>pure u
 |none=>do
  let q <- zT (arrOf z).size
  match q.1 with
  |some u=>pure u
  |none=>pure ()):=by kernel_rfl
theorem zU {lo nn:Nat}(n1:0<nn){pd:Array (Nat×Nat×Nat)}{a:Array Keyed}(r:Rn rk a (sk pd) lo)(u:Up rk a lo (lo+nn)):Rn rk a (sk (pd.push (lo,nn,0))) (lo+nn):=by
 have e:sk (pd.push (lo,nn,0))=sk pd++[(lo,nn)]:=by simp[sk]
 refine⟨by rw[e];exact r.ch.join ⟨rfl,n1,rfl⟩,λq hq=>?_⟩
 rw[e]at hq
 rcases aN2.mp hq with z|z
 ·exact r.up q z
 ·rw[aI3]at z
  subst z
  exact u
theorem zV (c:c8 prog w A E s κ Ok rk)(o:bE Ok a0)(b:SB κ a0 pd st){lo n:Nat}{Q:ForInStep RS->SortSt->Prop}(n1:1<=n)(n2:lo+n<=a0.size)(rn:Rn rk (arrOf st) (sk pd) lo)(u:Up rk (arrOf st) lo (lo+n))(h:∀pd' st',SB κ a0 pd' st'->Rn rk (arrOf st') (sk pd') (lo+n)->Q (.yield (none,lo+n)) st'):wpS (model prog w) A E s (jn a0.size lo n) Q st:=by
 unfold jn
 refine aI0 (wpS_get ?_)
 rw[b.pd]
 cases hb:pd.back? with
 |none=>exact aI0 (wpS_modify (aI6 (h (pd.push (lo,n,0)) _ ⟨b.pm,b.kd,b.ok,by show (pendingOf st).push _=_;rw[b.pd]⟩ (zU n1 rn u))))
 |some q=>
  obtain⟨s1,m1,q3⟩:=q
  dsimp only
  generalize power' a0.size (2*s1+m1) (2*s1+m1+m1+n) a0.size=pw
  unfold zR
  refine aI0 (aX8 (aP9
   (I:=λ_ r st'=>r=(none,())/\∃pd,SB κ a0 pd st'/\Rn rk (arrOf st') (sk pd) lo/\Up rk (arrOf st') lo (lo+n))
   (Q:=λr st'=>r=(none,())/\∃pd,SB κ a0 pd st'/\Rn rk (arrOf st') (sk pd) lo/\Up rk (arrOf st') lo (lo+n)) ?_ (λ_ _ z=>z) ⟨rfl,pd,b,rn,u⟩) ?_)
  ·rintro t r st4 _ ht ⟨rfl,pd4,b4,r4,u4⟩
   refine aI0 (wpS_get ?_)
   rw[b4.pd]
   cases ho:(if pd4.size>1 then pd4[pd4.size-2]? else none) with
   |none=>exact aI6 ⟨rfl,pd4,b4,r4,u4⟩
   |some z=>
    obtain⟨z1,z2,z3⟩:=z
    have h1:pd4.size>1:=by
     by_cases y:pd4.size>1
     ·exact y
     ·rw[if_neg y]at ho;cases ho
    dsimp only
    by_cases hp:z3<=pw
    ·rw[if_pos hp]
     exact aI6 ⟨rfl,pd4,b4,r4,u4⟩
    ·rw[if_neg hp]
     refine aI0 (zQ c o b4 (by omega) (by omega) r4 λpd5 st5 b5 _ r5 f5=>?_)
     exact aI6 ⟨rfl,pd5,b5,r5,λi j hi hij hj=>by rw[f5 i hi,f5 j (by omega)];exact u4 i j hi hij hj⟩
  ·rintro r st4 ⟨rfl,pd4,b4,r4,u4⟩
   refine aI0 (wpS_modify (aI0 (wpS_modify (aI6 ?_))))
   have e:sk (pd4.modify (pd4.size-1) λx=>(x.1,x.2.1,pw))=sk pd4:=by
    unfold sk
    rw[Array.toList_modify]
    apply List.ext_getElem?
    intro t
    rw[aL2,aL2,List.getElem?_modify]
    cases pd4.toList[t]? with
    |none=>simp
    |some v=>by_cases y:pd4.size-1=t<;>simp[y]
   refine h ((pd4.modify (pd4.size-1) λx=>(x.1,x.2.1,pw)).push (lo,n,0)) _ ⟨b4.pm,b4.kd,b4.ok,?_⟩ (zU n1 (by rw[e];exact r4) u4)
   show ((pendingOf st4).modify ((pendingOf st4).size-1) λx=>(x.1,x.2.1,pw)).push _=_
   rw[b4.pd]
theorem al6 (c:c8 prog w A E s κ Ok rk)(o:bE Ok a0)(b:SB κ a0 #[] st){Q:Unit->SortSt->Prop}(h2:1<=a0.size)(h:∀st',(arrOf st').Perm a0->failedOf st'=none->Up rk (arrOf st') 0 a0.size->Q () st'):wpS (model prog w) A E s sortRuns' Q st:=by
 rw[al5]
 refine aI0 (wpS_get ?_)
 rw[b.sz]
 generalize minRun' a0.size a0.size 0=mr
 refine aI0 (aX8 (aP9
  (I:=λx r st'=>∃lo pd,r=(none,lo)/\x<=lo/\lo<=a0.size/\SB κ a0 pd st'/\Rn rk (arrOf st') (sk pd) lo)
  (Q:=λr st'=>∃pd,r=(none,a0.size)/\SB κ a0 pd st'/\Rn rk (arrOf st') (sk pd) a0.size) ?_ ?_ ⟨0,#[],rfl,aH7 _,aN4 _,b,⟨rfl,λr hr=>absurd hr (by simp[sk])⟩⟩) ?_)
 ·rintro x r st1 _ hx ⟨lo,pd,rfl,xl,lz,b1,rn⟩
  unfold zS
  dsimp only
  by_cases hd:lo >= a0.size
  ·rw[if_pos hd]
   have e:lo=a0.size:=by omega
   subst e
   exact aI6 ⟨pd,rfl,b1,rn⟩
  ·rw[if_neg hd]
   refine aI0 (aj9 c o b1 (by omega) (by omega) λn st2 b2 n1 n2 u2 l2=>?_)
   have rn2:=rn.same l2
   dsimp only
   by_cases hmr:n<mr
   ·rw[if_pos hmr]
    refine aI0 (wpS_lift (aY0 ⟨rfl,?_⟩))
    refine aI0 (ak0 c o b2 (by omega) (by omega) u2 λst3 b3 u3 l3=>?_)
    rw[if_neg (by decide)]
    exact zV c o b3 (by omega) (by omega) (rn2.same l3) u3 λpd' st' b' r'=>⟨_,pd',rfl,by omega,by omega,b',r'⟩
   ·rw[if_neg hmr]
    exact zV c o b2 n1 (by omega) rn2 u2 λpd' st' b' r'=>⟨lo+n,pd',rfl,by omega,by omega,b',r'⟩
 ·rintro r st1 ⟨lo,pd,rfl,xl,lz,b1,rn⟩
  have e:lo=a0.size:=by omega
  subst e
  exact⟨pd,rfl,b1,rn⟩
 ·rintro r st1 ⟨pd,rfl,b1,rn⟩
  dsimp only
  unfold zT
  refine aI0 (aX8 (aP9
   (I:=λt r st'=>r=(none,())/\∃pd,SB κ a0 pd st'/\Rn rk (arrOf st') (sk pd) a0.size/\(pd.size+t<=a0.size∨pd.size<=1))
   (Q:=λr st'=>r=(none,())/\∃pd,SB κ a0 pd st'/\Rn rk (arrOf st') (sk pd) a0.size/\pd.size<=1) ?_ ?_ ⟨rfl,pd,b1,rn,.inl (by have:=rn.ch.len;rw[pL]at this;omega)⟩) ?_)
  ·rintro t r st2 _ ht ⟨rfl,pd,b2,rn2,pr⟩
   refine aI0 (wpS_get ?_)
   rw[b2.pd]
   by_cases h1:pd.size<=1
   ·rw[if_pos h1]
    exact aI6 ⟨rfl,pd,b2,rn2,h1⟩
   ·rw[if_neg h1]
    refine aI0 (zQ c o b2 ?_ (aH7 _) rn2 λpd' st3 b3 sz3 rn3 _=>?_)
    ·split<;>split<;>omega
    ·exact aI6 ⟨rfl,pd',b3,rn3,by omega⟩
  ·rintro r st2 ⟨rfl,pd,b2,rn2,pr⟩
   exact⟨rfl,pd,b2,rn2,by omega⟩
  ·rintro r st2 ⟨rfl,pd,b2,rn2,pr⟩
   refine aI6 (h st2 b2.pm b2.ok ?_)
   have ch:=rn2.ch
   have up:=rn2.up
   rw[<- pL]at pr
   cases e:sk pd with
   |nil=>rw[e]at ch;exact absurd (show 0=a0.size from ch) (by omega)
   |cons r l=>
    rw[e]at ch up pr
    have el:l = []:=List.eq_nil_of_length_eq_zero (by have:=pr;rw[aM6]at this;omega)
    subst el
    obtain⟨p,n⟩:=r
    obtain⟨q1,q2,q3⟩:=ch
    have q1:p=0:=q1
    have q3:0+n=a0.size:=q3
    subst q1
    have:=up (0,n) (by simp)
    rw[<- q3];exact this
end SO
namespace L2
open PySem PySem.Spec PyProof.Rows SO
abbrev eB (h:Heap)(a:Addr)(vs:List Value):Heap:=((h.update a (Obj.mapSeq λ_=>#[])).push (seqObj "tuple" vs.toArray 0)).push (seqObj "list" #[] 0)
abbrev eN (h:Heap)(vs:List Value):Heap:=((h.push (seqObj "list" #[] 0)).update h.objs.size (Obj.mapSeq (·++vs.toArray))).push (seqObj "list" vs.toArray 0)
theorem al7 {h:Heap}{vs:List Value}{b:Addr}{o:Obj}(e:h.get? b=some o):(eN h vs).get? b=some o:=by
 have l:=aI1 e
 refine aH2 _ ?_
 rw[Heap.get?_update_ne _ _ _ _ (aL5 l)]
 exact aH2 _ e
theorem al8 {h:Heap}{vs:List Value}{a b:Addr}{o:Obj}(hb:b≠a)(e:h.get? b=some o):(eB h a vs).get? b=some o:=by
 refine aH2 _ (aH2 _ ?_)
 rw[Heap.get?_update_ne _ _ _ _ hb];exact e
theorem al9 {prog:Program}{w:World}{A:Around}{E:Value->Shared->Prop}{s:Shared}{a:Addr}{vs:List Value}{n:Nat}{P:PySem.Fin->Shared->Prop}{κ:SortKind}{Ok:Keyed->Prop}{rk:Keyed->Int}(e:s.heap.get? a=some (seqObj "list" vs.toArray n))(h2:2<=vs.length)(big:vs.length<=sizeLine)(hk:∀Q:SortKind->Shared->Prop,Q κ { s with heap:=eB s.heap a vs }->wpAny (model prog w) A (keyKind' vs.toArray) Q E { s with heap:=eB s.heap a vs })(c:c8 prog w A E { s with heap:=eB s.heap a vs } κ Ok rk)(o:∀v∈vs,Ok (v,v))(q:∀out:List Value,out.Perm vs->out.Pairwise (λu v=>rk (u,u)<=rk (v,v))->P (.done (.ret .none)) { s with heap:=sortedHeap s.heap a vs out.toArray }):wpAny (model prog w) A (Builtin.«list.sort» ⟨[.ref a],[]⟩) P E s:=by
 have la:=aI1 e
 have cc:¬vs.toArray.size<2:=by simpa using h2
 obtain⟨k,ek⟩:∃k,(s.heap.update a (Obj.mapSeq λ_=>#[])).get? a=some (seqObj "list" #[] k):=⟨_,get?_update_seq e λ_=>#[]⟩
 have there:(eB s.heap a vs).get? a=some (seqObj "list" #[] k):=aH2 _ (aH2 _ ek)
 rw[list_sort_plain]
 apply aH1
 apply listItems_at e rfl
 apply aH1
 refine listUpdate_at e rfl ?_ (by simpa using big) (aN4 _)
 apply aH1
 apply seqEpoch_at ek rfl
 apply aH1
 refine wpAny_newTuple ?_ big
 apply aH1
 refine wpAny_newList ?_ (aN4 _)
 apply aR5
 simp only[cc,aP4]
 apply aH1
 refine hk _ ?_
 have zl:(vs.toArray.zip vs.toArray).toList=vs.zip vs:=by simp
 apply aH1
 refine aO8 (al6 (a0:=vs.toArray.zip vs.toArray) (Q:=λ_ st'=>(arrOf st').Perm (vs.toArray.zip vs.toArray)/\failedOf st'=none/\Up rk (arrOf st') 0 (vs.toArray.zip vs.toArray).size) c (λx hx=>?_) ⟨Array.Perm.refl _,rfl,rfl,rfl⟩ (by simp;omega) λst' a1 a2 a3=>⟨a1,a2,a3⟩) ?_ λ_ _ z=>z
 ·have hx':x∈vs.zip vs:=by rw[<- zl];exact Array.mem_toList_iff.mpr hx
  obtain⟨y1,y2⟩:=mem_zip_self hx'
  have:=o x.1 y2
  have ex:x=(x.1,x.1):=Prod.ext rfl y1.symm
  rw[ex];exact this
 ·rintro⟨⟨⟩,st'⟩ s' ⟨rfl,pm,ok,up⟩
  have lp:(arrOf st').toList.Perm (vs.zip vs):=by rw[<- zl];exact Array.perm_iff_toList_perm.mp pm
  have out:(arrOf st').map (·.2)=((arrOf st').toList.map (·.2)).toArray:=by apply Array.toList_inj.mp;rw[Array.toList_map]
  have op:((arrOf st').toList.map (·.2)).Perm vs:=by
   have:=lp.map (·.2)
   rw[rV]at this;exact this
  have sz:(arrOf st').size=vs.length:=by rw[pm.size_eq];simp
  dsimp only
  apply aH1
  apply seqEpoch_at there rfl
  apply aH1
  refine listUpdate_at there rfl ?_ (aN4 _) (by rw[Array.size_map,sz];exact Nat.le_succ_of_le big)
  rw[ok]
  simp only[bne_self_eq_false,aK7,aP4]
  refine aH9 ?_
  have hq:=q _ op ?_
  ·rw[<- out]at hq;exact hq
  ·rw[aX6,aR4]
   intro i j hi hj hij
   have hi':i<(arrOf st').size:=by simpa using hi
   have hj':j<(arrOf st').size:=by simpa using hj
   have h1:=up i j (aN4 _) (aS6 hij) (by simp;omega)
   rw[bR hi',bR hj']at h1
   have dg:∀x∈(arrOf st').toList,(x.2,x.2)=x:=λx hx=>Prod.ext (mem_zip_self (lp.mem_iff.mp hx)).1.symm rfl
   rw[dg _ (aS3 hi),dg _ (aS3 hj)]
   simpa using h1
theorem am0 {prog:Program}{w:World}{A:Around}{E:Value->Shared->Prop}{s:Shared}{l:Addr}{vs:List Value}{Q:Value->Shared->Prop}{κ:SortKind}{Ok:Keyed->Prop}{rk:Keyed->Int}(hl:s.heap.IsList l vs.toArray)(h2:2<=vs.length)(big:vs.length<=sizeLine)(hk:∀(A:Around) (E:Value->Shared->Prop) (Q:SortKind->Shared->Prop),Q κ { s with heap:=eB (eN s.heap vs) (s.heap.objs.size+1) vs }->wpAny (model prog w) A (keyKind' vs.toArray) Q E { s with heap:=eB (eN s.heap vs) (s.heap.objs.size+1) vs })(c:∀(A:Around) (E:Value->Shared->Prop),c8 prog w A E { s with heap:=eB (eN s.heap vs) (s.heap.objs.size+1) vs } κ Ok rk)(o:∀v∈vs,Ok (v,v))(q:∀out:List Value,out.Perm vs->out.Pairwise (λu v=>rk (u,u)<=rk (v,v))->Q (.ref (s.heap.objs.size+1)) { s with heap:=sortedAll s.heap vs out.toArray }):wpAny (model prog w) A (call (.builtin "sorted") [.ref l]) Q E s:=by
 apply Calls.call_function_entry kind_sorted plain_sorted entry_sorted (args_sorted1 _)
 simp only[Builtin.«sorted»]
 apply aH1 (m:=checkCount "sorted" 1 1 _)
 apply aH9
 apply aH1
 refine collect_list hl ?_ big
 apply aH1
 refine wpAny_newList ?_ big
 have one:((s.heap.push (seqObj "list" #[] 0)).update s.heap.objs.size (Obj.mapSeq (·++vs.toArray))).objs.size=s.heap.objs.size+1:=(Heap.size_update _ _ _).trans (size_push' _ _)
 have at1:(eN s.heap vs).get? (s.heap.objs.size+1)=some (seqObj "list" vs.toArray 0):=one▸aJ3 _ rfl
 change wpAny _ _ _ _ _ { s with heap:=eN s.heap vs }
 rw[one]
 apply aH1
 apply aR5
 refine aP6 slot_list_sort ⟨_,at1,rfl⟩ entry_list_sort ?_ (args_list_sort _)
 exact al9 (s:={ s with heap:=eN s.heap vs }) at1 h2 big (hk _ _) (c _ _) o λout a1 a2=>⟨_,rfl,aH9 ⟨_,rfl,q out a1 a2⟩⟩
def pM (h:Heap)(B:Int)(x:Keyed):Int:=match x.1 with
 |.ref b=>match h.get? b with
  |some ob=>match ob.data with
   |.seq us _=>numOf (us.getD 0 .none)*B+numOf (us.getD 1 .none)
   |_=>0
  |none=>0
 |_=>0
structure iF (h:Heap)(M:Int)(v:Value)(p q:Int):Prop where
 at_:∃b ob us n,v = .ref b/\h.get? b=some ob/\ob.cls = .type "tuple"/\ob.data = .seq (List.toArray us) n/\IntsAre us [p,q]
 lo:-M<=q
 hi:q<=M
theorem iF.rk {h:Heap}{M B:Int}{x:Keyed}{p q:Int}(z:iF h M x.1 p q):pM h B x=p*B+q:=by
 obtain⟨b,ob,us,n,e1,e2,_,e4,e5⟩:=z.at_
 cases e5 with
 |cons _ t e6=>cases e6 with
  |cons _ u e7=>cases e7;unfold pM;rw[e1];dsimp only;rw[e2];dsimp only;rw[e4];rfl
theorem zW {p q p' q' M:Int}(h1:-M<=q)(h2:q<=M)(h3:-M<=q')(h4:q'<=M):HT.bD [p,q] [p',q']=decide (p*(2*M+1)+q<p'*(2*M+1)+q'):=by
 rw[HT.gU]
 have mm:∀{a b:Int},a<b->a*(2*M+1)+(2*M+1)<=b*(2*M+1):=λ{a b} z=>by
  have:=Int.mul_le_mul_of_nonneg_right (show a+1<=b by omega) (show 0<=2*M+1 by omega)
  rw[Int.add_mul,Int.one_mul]at this
  exact this
 by_cases e:p=p'
 ·subst e
  rw[if_pos rfl,HT.gU]
  by_cases e2:q=q'
  ·subst e2
   rw[if_pos rfl,HT.r9,aH8 (by omega)]
  ·rw[if_neg e2]
   by_cases l:q<q'
   ·rw[aI2 l,aI2 (by omega)]
   ·rw[aH8 l,aH8 (by omega)]
 ·rw[if_neg e]
  by_cases l:p<p'
  ·have:=mm l
   rw[aI2 l,aI2 (by omega)]
  ·have:=mm (show p'<p by omega)
   rw[aH8 l,aH8 (by omega)]
theorem am1 {prog:Program}{w:World}{A:Around}{E:Value->Shared->Prop}{s:Shared}{M:Int}:c8 prog w A E s (tuples' true) (λx=>∃p q,iF s.heap M x.1 p q) (pM s.heap (2*M+1)):=by
 rintro x y ⟨p,q,z⟩ ⟨p',q',z'⟩ st Q hk hq
 rw[z.rk,z'.rk]at hq
 rw[<- zW z.lo z.hi z'.lo z'.hi]at hq
 obtain⟨b,ob,us,n,e1,e2,e3,e4,e5⟩:=z.at_
 obtain⟨b',ob',us',n',e1',e2',e3',e4',e5'⟩:=z'.at_
 rw[lt'_eq]
 refine aI0 (wpS_get ?_)
 rw[hk,e1,e1']
 refine aI0 (wpS_lift (wpAny_attempt (PySem.W.kat_lt e2 e4 e2' e4' ?_)))
 have:=rW (prog:=prog) (w:=w) (A:=A) (s:=s) (Q:=λa s'=>s'=s/\wpS (model prog w) A E s (pure (some a)) Q st) 0 e5 e5' ⟨rfl,aI6 hq⟩
 simpa using this
theorem am2 {vs vs':List Value}(h:vs.Perm vs'):∀{xs:List V},aL xs vs->∃xs',xs'.Perm xs/\aL xs' vs':=by
 induction h with
 |nil=>intro xs r;exact⟨xs,List.Perm.refl _,r⟩
 |cons v _ ih=>
  intro xs r
  cases r with
  |cons r t=>
   obtain⟨xs',p,r'⟩:=ih t
   exact⟨_::xs',p.cons _,.cons r r'⟩
 |swap u v l=>
  intro xs r
  cases r with
  |cons r t=>cases t with
   |cons r2 t2=>exact⟨_,List.Perm.swap _ _ _,.cons r2 (.cons r t2)⟩
 |trans _ _ ih1 ih2=>
  intro xs r
  obtain⟨x1,p1,r1⟩:=ih1 r
  obtain⟨x2,p2,r2⟩:=ih2 r1
  exact⟨x2,p2.trans p1,r2⟩
theorem zX {α:Type}(f:α->Int):∀l:List α,∃M:Int,∀y∈l,-M<=f y/\f y<=M
 |[]=>⟨0,λ_ h=>nomatch h⟩
 |x::l=>by
  obtain⟨M,h⟩:=zX f l
  refine⟨max M (max (f x) (- f x)),λy hy=>?_⟩
  rcases aH4.mp hy with e|e
  ·subst e;omega
  ·have:=h y e;omega
def zY (K:ac):List V->Hp->VK->Prop:=λxs H Q=>∃(a:Addr) (ys:List V) (key:V->af),xs = [.ref a]/\aP K H a ys/\ys.length<=4096/\(∀y∈ys,∃b,y = .ref b/\aN K H b ((key y).map V.int)/\(key y).length=2)/\
 ∀l (zs:List V),H l=none->zs.Perm ys->zs.Pairwise (λu v=>HT.bD (key v) (key u)=false)->Q (.ref l) (upd H l (.lst zs))
theorem am3 {X:Cx}:cG X (.builtin "sorted") (zY X.K):=by
 intro pins s σ H xs us Q I r h
 obtain⟨a,ys,key,rfl,hs,hz4,hk,q⟩:=h
 obtain⟨u,rfl,ru⟩:=gT r
 cases ru
 obtain⟨its,rv,p,hz⟩:=I.list hs
 have hl:=rv.length
 have hn:s.heap.objs.size<=s.heap.objs.size+1:=Nat.le_succ _
 by_cases h2:its.length<2
 ·refine xJ p.isList h2 ?_
  obtain⟨e,he⟩:=sortedAll_at s.heap its its.toArray
  refine⟨.ref (s.heap.objs.size+1),upd H (s.heap.objs.size+1) (.lst ys),I.laid (t':=s.toks) (λ_ _=>sortedAll_old) hn ⟨hz,its,e,rv,he⟩,rfl,q _ ys (I.hok.fresh hn) (List.Perm.refl _) ?_⟩
  match ys,hl with
  |[],_=>exact List.Pairwise.nil
  |[_],_=>exact aU4 _ _
  |_::_::_,hl=>simp at hl;omega
 ·obtain⟨M,hM⟩:=zX (λy=>(key y).getD 1 0) ys
  have pv:∀{y:V}{v:Value},aT y v->y∈ys->∃pp qq,key y = [pp,qq]/\iF (eB (eN s.heap its) (s.heap.objs.size+1) its) M v pp qq:=λ{y v} ry hy=>by
   obtain⟨b,rfl,sq,l2⟩:=hk y hy
   cases ry
   obtain⟨us,ru,⟨ob,e1,c1,n1,d1⟩,_⟩:=I.tuple sq
   have ia:=jF ru
   have mm:=hM _ hy
   match hkk:key (V.ref b),l2 with
   |[pp,qq],_=>
    rw[hkk]at ia mm
    exact⟨pp,qq,rfl,⟨b,ob,us,n1,rfl,al8 (aL5 (Nat.lt_succ_of_lt (aI1 e1))) (al7 e1),c1,d1,ia⟩,mm.1,mm.2⟩
  have pvs:∀{xs:List V}{vs:List Value},aL xs vs->(∀y∈xs,y∈ys)->∀v∈vs,∃pp qq,iF (eB (eN s.heap its) (s.heap.objs.size+1) its) M v pp qq:=by
   intro xs vs r
   induction r with
   |nil=>intro _ v hv;cases hv
   |cons rx rt ih=>
    intro hh v hv
    rcases aH4.mp hv with z|z
    ·subst z
     obtain⟨pp,qq,_,z⟩:=pv rx (hh _ aJ9)
     exact⟨pp,qq,z⟩
    ·exact ih (λy hy=>hh y (aJ2 _ hy)) v z
  have firsts:∀{vs:List Value},(∀v∈vs,∃pp qq,iF (eB (eN s.heap its) (s.heap.objs.size+1) its) M v pp qq)->∃fs:List Value,PySem.W.KatTups (eB (eN s.heap its) (s.heap.objs.size+1) its) vs fs/\fs.length=vs.length/\∀v∈fs,∃i t,v=Value.int i t:=by
   intro vs
   induction vs with
   |nil=>intro _;exact⟨[],PySem.W.KatTups.nil,rfl,λ_ z=>nomatch z⟩
   |cons v vs ih=>
    intro hh
    obtain⟨fs,t1,t2,t3⟩:=ih λy hy=>hh y (aJ2 _ hy)
    obtain⟨pp,qq,z⟩:=hh v aJ9
    obtain⟨b,ob,us,n,rfl,e2,e3,e4,e5⟩:=z.at_
    cases e5 with
    |cons _ t e6=>exact⟨Value.int pp t::fs,PySem.W.KatTups.cons e2 e3 e4 (by simp) t1,by simp[t2],λv hv=>(aH4.mp hv).elim (λz=>⟨pp,t,z⟩) (t3 v)⟩
  have allp:=pvs rv λ_ h=>h
  obtain⟨fs,t1,t2,t3⟩:=firsts allp
  refine am0 (κ:=tuples' true) (Ok:=λx=>∃pp qq,iF (eB (eN s.heap its) (s.heap.objs.size+1) its) M x.1 pp qq) (rk:=pM (eB (eN s.heap its) (s.heap.objs.size+1) its) (2*M+1)) p.isList (by omega) (by rw[<- hl];exact hz)
   (λA E Q hQ=>?_) (λA E=>am1 (s:={ s with heap:=eB (eN s.heap its) (s.heap.objs.size+1) its })) (λv hv=>allp v hv) λout pm so=>?_
  ·refine PySem.W.kat_kind (T:=.type "int") t1 (by omega) (λv hv=>?_) (by decide) ?_
   ·obtain⟨i,t,rfl⟩:=t3 v hv
    exact PySem.W.Looks.now
   ·have eT:(Value.type "int" != Value.type "tuple")=true:=by decide
    rw[eT];exact hQ
  ·obtain⟨zs,pz,rz⟩:=am2 pm.symm rv
   obtain⟨e,he⟩:=sortedAll_at s.heap its out.toArray
   refine⟨.ref (s.heap.objs.size+1),upd H (s.heap.objs.size+1) (.lst zs),I.laid (t':=s.toks) (λ_ _=>sortedAll_old) hn ⟨by rw[pz.length_eq];exact hz,out,e,rz,he⟩,rfl,q _ zs (I.hok.fresh hn) pz ?_⟩
   have lz:=rz.length
   rw[aR4]
   intro i j hi hj hij
   have s1:=aR4.mp so i j (by omega) (by omega) hij
   have gi:=m5 i hi rz
   have gj:=m5 j hj rz
   simp only[aL9,aH5 hi,aH5 hj,aH5 (show i<out.length by omega),aH5 (show j<out.length by omega),Option.getD_some]at gi gj
   obtain⟨pi,qi,ki,vi⟩:=pv gi (pz.mem_iff.mp (aS3 hi))
   obtain⟨pj,qj,kj,vj⟩:=pv gj (pz.mem_iff.mp (aS3 hj))
   rw[iF.rk (x:=(out[i],out[i])) vi,iF.rk (x:=(out[j],out[j])) vj]at s1
   rw[ki,kj,zW vj.lo vj.hi vi.lo vi.hi]
   exact aH8 (by omega)
end L2
namespace L2
open PySem PySem.Spec PyProof.Rows
theorem bH.at {P:Program}{w:World}{H:Hp}{h:Heap}{a:Addr}{o:HO}(x:bH P w H h a o):∃ob,h.get? a=some ob:=by
 cases o with
 |lst xs=>obtain⟨_,_,_,_,e⟩:=x;exact⟨_,e⟩
 |tup xs=>obtain⟨_,_,_,⟨_,e,_⟩,_⟩:=x;exact⟨_,e⟩
 |dK kvs=>obtain⟨_,_,_,_,_,_,_,e,_⟩:=x;exact⟨_,e⟩
 |dT kvs=>obtain⟨_,_,_,_,_,_,_,e,_⟩:=x;exact⟨_,e⟩
 |set S n=>obtain⟨_,_,_,_,e,_⟩:=x;exact⟨_,e⟩
 |ins C dx fs=>obtain⟨_,_,_,e,_⟩:=x;exact⟨_,e⟩
 |own y=>exact x
 |xd fs=>obtain⟨_,⟨_,_,_,e,_⟩,_⟩:=x;exact⟨_,e⟩
 |rng lo hi=>obtain⟨_,_,_,e⟩:=x;exact⟨_,e⟩
 |frz ob u=>obtain⟨e,_⟩:=x;exact⟨_,e⟩
 |tbl ps=>exact⟨_,x⟩
 |met f y=>exact⟨_,x⟩
 |ext φ=>exact x.2.1
structure jX (P:Program)(w:World)(outer:List Env)(H:Hp)(s:Shared)(H':Hp)(B:Heap)(a C:Addr)(s':Shared):Prop where
 os:s'.os=s.os
 bare:AllBare s'.gens
 un:Un (aZ outer) [] H H' s.heap s'.heap
 hok:bF P w H' s'.heap
 fly:∃a0,Heap.FlyingW B outer a (.ref C) a0 s'.heap
 b0:∀b o,s.heap.get? b=some o->b∉aZ outer->∃o',B.get? b=some o'
 b1:∀b o,s.heap.get? b=some o->H b=none->b∉aZ outer->B.get? b=some o
 b2:∀b u o,H' b=some u->s'.heap.get? b=some o->B.get? b=some o
def cD (P:Program)(w:World):fN:=λouter H s E e s'=>∃(H':Hp) (B:Heap) (a C:Addr),e = .ref a/\jX P w outer H s H' B a C s'/\E (.ref C) none H'
section
variable {P:Program}{w:World}{outer:List Env}{H H':Hp}{s s':Shared}{B h2:Heap}{a C:Addr}
theorem jX.fresh (f:jX P w outer H s H' B a C s'):H' a=none:=by
 cases q:H' a with
 |none=>rfl
 |some u=>
  obtain⟨ob,e⟩:=(f.hok a u q).at
  have z:=f.b2 a u ob q e
  obtain⟨_,_,n,_⟩:=f.fly
  rw[n]at z;cases z
theorem jX.hok2 (f:jX P w outer H s H' B a C s')(k:B.StaysIn h2):bF P w H' h2:=λb u e=>
 (f.hok b u e).stay (λc v hc q=>by
  rcases hc with z|z
  ·subst z;exact k _ _ (f.b2 _ _ _ e q)
  ·exact k _ _ (f.b2 _ _ _ z q)) (λ_ q=>q) λ_ _ q=>q
end
section
variable {P:Program}{w:World}{K:ac}{mg:Str→Option Value}{base:Heap}{N:List Str}{qual:Str}{scope:Scope}{f:Addr}{cd:Value}{A:Around}{outer:List Env}{s₀:Shared}{H₀:Hp}{E₀ E₁:XK}
theorem lB {pins:List (Addr×Obj)}{σ:St}{H:Hp}{s:Shared}(I:a6 (bX (cD P w) P w K mg base N qual scope f cd A outer s₀ H₀ E₀) pins σ H s){b:Addr}{o:Obj}(e:s₀.heap.get? b=some o)(n:b∉aZ outer) :
  b∉aZ (envOfC qual scope s₀.heap.objs.size f cd::outer):=λz=>by
 rcases aH4.mp (I.stkSub b z) with y|y
 ·have l:=aI1 e
  have y:b=s₀.heap.objs.size:=y
  exact absurd l (by rw[y];exact aN1 _)
 ·exact n y
theorem am4 (hE:∀c d H',E₁ c d H'->E₀ c d H'):jE (cD P w) (bX (cD P w) P w K mg base N qual scope f cd A outer s₀ H₀ E₀) E₁:=by
 intro pins σ H s e s' I hx
 obtain⟨H',B,a,C,e1,fl,q⟩:=hx
 subst e1
 have I':=I.call' fl.os fl.un fl.hok fl.bare (ch:=[]) (λb z=>absurd z (by simp))
 obtain⟨a0,fly⟩:=fl.fly
 refine wpAny_leaves_onW I.ok.frames rfl fly λh' fly' up=>?_
 have slot:∀b o,s₀.heap.get? b=some o->b∈aZ outer->∃sl,h'.get? b=some { o with slots:=sl }:=λb o e hb=>by
  obtain⟨sl,e1⟩:=I'.base.slot b o e (I.ok.frf b hb) hb (λz=>nomatch z)
  obtain⟨_,o2,e2,nf⟩:=I.ok.funs.mem hb
  rw[show (bX (cD P w) P w K mg base N qual scope f cd A outer s₀ H₀ E₀).s₀=s₀ from rfl,e]at e2
  cases e2
  obtain⟨sl',e3⟩:=up b _ e1 nf
  exact⟨sl',e3⟩
 have old:∀b o,s₀.heap.get? b=some o->H₀ b=none->b∉aZ outer->B.get? b=some o:=λb o e n hb=>
  fl.b1 b o (I.base.keep b o e n hb (λz=>nomatch z)) (I.base.free b o e n (λz=>nomatch z)) (lB I e hb)
 have old0:∀b o,s₀.heap.get? b=some o->b∉aZ outer->∃o',B.get? b=some o':=λb o e hb=>by
  obtain⟨o1,e1⟩:=I.base.there b o e (λz=>nomatch z)
  exact fl.b0 b o1 e1 (lB I e hb)
 refine⟨H',B,a,C,rfl,⟨I'.os,I'.bare,⟨λb o e n hb _=>fly'.1 _ _ (old b o e n hb),λb o e n hb _=>slot b o e hb,λb o e n hx=>I'.base.free b o e n hx,λb o e _=>?_,I'.base.tups,I'.base.frzs,I'.base.tbls⟩,fl.hok2 fly'.1,⟨a0,fly'⟩,old0,old,λb u o e h=>?_⟩,hE _ _ _ q⟩
 ·by_cases hb:b∈aZ outer
  ·obtain⟨sl,e1⟩:=slot b o e hb
   exact⟨_,e1⟩
  ·obtain⟨o',e1⟩:=old0 b o e hb
   exact⟨o',fly'.1 _ _ e1⟩
 ·obtain⟨ob,e1⟩:=(fl.hok b u e).at
  have e2:=fl.b2 b u ob e e1
  have e3:=fly'.1 _ _ e2
  have h:h'.get? b=some o:=h
  rw[h]at e3;cases e3;exact e2
theorem am5 {pins:List (Addr×Obj)}{σ:St}{H:Hp}{s:Shared}{h':Heap}{e C:Addr}{args:List Value}(I:a6 (bX (cD P w) P w K mg base N qual scope f cd A outer s₀ H₀ E₀) pins σ H s)(mx:Heap.MadeExcOf s.heap h' e (.ref C) args)(q:E₀ (.ref C) none H) :
  (bX (cD P w) P w K mg base N qual scope f cd A outer s₀ H₀ E₀).xe (.ref e) { s with heap:=h' }:=by
 have tr:∀b u,H b=some u->b∉aZ (envOfC qual scope s₀.heap.objs.size f cd::outer):=λb u z n=>by
  rw[I.stkFree b n]at z;cases z
 have inB:∀b o,s.heap.get? b=some o->b∉aZ (envOfC qual scope s₀.heap.objs.size f cd::outer)->(PySem.W.hideAll s.heap (aZ (envOfC qual scope s₀.heap.objs.size f cd::outer))).get? b=some o:=λb o z n=>PySem.W.hideAll_get _ z n
 refine wpAny_leaves_madeW (base:=PySem.W.hideAll s.heap (aZ (envOfC qual scope s₀.heap.objs.size f cd::outer))) I.ok.frames rfl (λb o z=>PySem.W.of_hideAll _ z) (PySem.W.funFrames_hide I.stack λenv he b hb=>List.mem_filterMap.mpr ⟨env,he,hb⟩) mx λh'' t fly _ _ up=>?_
 have slot:∀b o,s₀.heap.get? b=some o->b∈aZ outer->∃sl,h''.get? b=some { o with slots:=sl }:=λb o e hb=>by
  obtain⟨sl,e1⟩:=I.base.slot b o e (I.ok.frf b hb) hb (λz=>nomatch z)
  obtain⟨_,o2,e2,nf⟩:=I.ok.funs.mem hb
  rw[show (bX (cD P w) P w K mg base N qual scope f cd A outer s₀ H₀ E₀).s₀=s₀ from rfl,e]at e2
  cases e2
  obtain⟨sl',e3⟩:=up b _ (mx.keeps _ _ e1) nf
  exact⟨sl',e3⟩
 have old:∀b o,s₀.heap.get? b=some o->H₀ b=none->b∉aZ outer->(PySem.W.hideAll s.heap (aZ (envOfC qual scope s₀.heap.objs.size f cd::outer))).get? b=some o:=λb o e n hb=>
  inB b o (I.base.keep b o e n hb (λz=>nomatch z)) (lB I e hb)
 have old0:∀b o,s₀.heap.get? b=some o->b∉aZ outer->∃o',(PySem.W.hideAll s.heap (aZ (envOfC qual scope s₀.heap.objs.size f cd::outer))).get? b=some o':=λb o e hb=>by
  obtain⟨o1,e1⟩:=I.base.there b o e (λz=>nomatch z)
  exact⟨o1,inB b o1 e1 (lB I e hb)⟩
 refine⟨H,_,e,C,rfl,⟨I.os,I.bare,⟨λb o e n hb _=>fly.1 _ _ (old b o e n hb),λb o e n hb _=>slot b o e hb,λb o e n hx=>I.base.free b o e n hx,λb o e _=>?_,I.base.tups,I.base.frzs,I.base.tbls⟩,λb u z=>?_,⟨_,fly⟩,old0,old,λb u o z h=>?_⟩,q⟩
 ·by_cases hb:b∈aZ outer
  ·obtain⟨sl,e1⟩:=slot b o e hb
   exact⟨_,e1⟩
  ·obtain⟨o',e1⟩:=old0 b o e hb
   exact⟨o',fly.1 _ _ e1⟩
 ·refine (I.hok b u z).stay (λc v hc y=>?_) (λ_ y=>y) λ_ _ y=>y
  rcases hc with z'|z'
  ·subst z';exact fly.1 _ _ (inB _ _ y (tr _ _ z))
  ·exact fly.1 _ _ (inB _ _ y (tr _ _ z'))
 ·obtain⟨ob,e1⟩:=(I.hok b u z).at
  have e2:=inB b ob e1 (tr b u z)
  have e3:=fly.1 _ _ e2
  have h:h''.get? b=some o:=h
  rw[h]at e3;cases e3;exact e2
end
structure lC (X:Cx)(E:XK):Prop where
 pass:jE (cD X.prog X.w) X E
 made:∀(pins:List (Addr×Obj)) (σ:St) (H:Hp) (s:Shared) (h':Heap) (e C:Addr) (args:List Value),a6 X pins σ H s->Heap.MadeExcOf s.heap h' e (.ref C) args->E (.ref C) none H->X.xe (.ref e) { s with heap:=h' }
 own:PassesOwn (model X.prog X.w) X.A X.env X.xe
theorem zZ {P:Program}{w:World}{K:ac}{mg:Str->Option Value}{base:Heap}{N:List Str}{qual:Str}{scope:Scope}{f:Addr}{cd:Value}{A:Around}{outer:List Env}{s₀:Shared}{H₀:Hp}{E₀ E₁:XK}(hE:∀c d H',E₁ c d H'->E₀ c d H') :
  lC (bX (cD P w) P w K mg base N qual scope f cd A outer s₀ H₀ E₀) E₁:=
 ⟨am4 hE,λ_ _ _ _ _ _ _ _ I mx q=>am5 I mx (hE _ _ _ q),PassesOwn.leaving⟩
def A0 (E:XK)(C:Addr)(t:TA):TS:=λ_ σ H=>t σ H λvs H1=>vs.length<=sizeLine/\E (.ref C) none H1
theorem am6 {X:Cx}{E:XK}{x:Str}{C:Addr}{bm:List Value}{B newId initId:String}{np cpos pos:Pos}{e:Expr}{es:List Expr}{t:TA}(hX:lC X E)(hc:X.calm=true)(O:OwnCls x C bm newId X.mg X.base)(FB:ExcBaseFacts B newId initId bm)(ha:PA X (e::es) t)(hg:Gl X x)(hd:(x==("__debug__":Str))=false:=by decide)(he:starEach (e::es) X.env=(false,eval e X.env)::starEach es X.env:=by rfl)(hpl:(backTo cpos (starEach es X.env)).any (·.1)=false:=by rfl) :
  PS X (.Raise (some (.Call (.Name x np) (e::es) [] cpos)) none pos) (A0 E C t):=by
 intro pins s σ H D I h
 obtain⟨tl,Na,nm,qn,bs,hx,sn,sub,ab,col,dd,k0,k1,k2,k3,k5,mN,hC,hN,hni,T⟩:=O.obj
 refine wpAny_Raise_call_subT (nm:=nm) (q:=qn) (N:=Na) (bs:=bs) (bm:=tl) (hdct:=hx) (sn:=sn) (sub:=sub) (ab:=ab) (col:=col) (dd:=dd) (k0:=k0) (k1:=k1) (k2:=k2) (k3:=k3) (k5:=k5) FB (C:=C) (mN:=mN) (T.hasType FB.hasBase) (I.ok.hd hc) (by rw[he];show (false||(backTo cpos (starEach es X.env)).any (·.1))=false;rw[hpl];rfl) hni (lO I hg O.bound ⟨rfl,?_⟩ hd)
 have h1:=ha cpos pins s σ H _ I h
 rw[he]at h1 ⊢
 refine Calls.evalArgs_plain (aO8 h1 (λus s2 h2=>?_) λ_ _ y=>y)
 obtain⟨vs,H2,I2,r,hl,q⟩:=h2
 have r:aL vs us:=r
 exact⟨rfl,by show us.length<=sizeLine;rw[<- r.length];exact hl,I2.bk _ _ hC,hN.keeps I2.bk,T.keeps I2.bk,λh' e' mx=>hX.made pins σ H2 s2 h' e' C _ I2 mx q⟩
theorem dD.okX {P:Program}{w:World}{K:ac}{mg:Str->Option Value}{base:Heap}{x qual:Str}{st:Stmt}{f:Addr}{fd:FuncData}{N ps:List Str}{k:Nat}{sp:Sp}(F:dD K x qual st f fd)(S:FnScope N ps (aU st))(len:∀vs H Q E,sp vs H Q E->vs.length=ps.length)(hbody:∀(cdv:Value) (A:Around) (outer:List Env) (s:Shared) (H:Hp) (vs:List V) (Q:VK) (E:XK),bJ k (A.deeper (envOfC qual (aU st) s.heap.objs.size f cdv))->sp vs H Q E->
   ∃t,cN (bX (cD P w) P w K mg base N qual (aU st) f cdv A outer s H E) (cS st) t/\t { nx:=λ_ H'=>Q .non H',rt:=Q } (eF N vs) H):cR P w K mg base (cD P w) (k+1) f fd ps sp:=by
 obtain⟨oc,od,kV,doc,pm,an,cdv,ct,osl,rfl,lk,hcd⟩:=F.ex
 exact vX lk hcd S len λA outer s H vs Q E hr hsp=>hbody cdv A outer s H vs Q E hr hsp
section
variable {X:Cx}{pins:List (Addr×Obj)}{σ:St}{H H1 H':Hp}{s s1 s':Shared}{B h2:Heap}{a C:Addr}
theorem A1 {oe:Obj}(I:a6 X pins σ H1 s1)(fl:jX X.prog X.w X.stack H1 s1 H' B a C s')(st:B.StaysIn h2)(up:s'.heap.UpToSlots h2)(he:h2.get? a=some oe) :
  a6 X pins σ (upd H' a (.frz oe (.own a))) { s' with heap:=h2 }:=by
 obtain⟨a0,fly⟩:=fl.fly
 have na:B.get? a=none:=fly.2.1
 have nf:a∉aZ X.stack:=λz=>by
  obtain⟨_,o,e,d⟩:=fly.2.2.1.mem z
  obtain⟨o2,vs,e2,_,d2,_⟩:=fly.first
  rw[e]at e2;cases e2
  exact d vs d2
 have nb:∀b o,s1.heap.get? b=some o->b≠a:=λb o e z=>by
  subst z
  obtain⟨o',e'⟩:=fl.b0 _ o e nf
  rw[na]at e';cases e'
 have nt:∀b u,H' b=some u->b≠a:=λb u e z=>by
  subst z;rw[fl.fresh]at e;cases e
 have off:∀b,b≠X.env.locals->b∉X.fs->b∉aZ X.stack:=λb n1 n2 z=>(aH4.mp (I.stkSub b z)).elim n1 n2
 have slot:∀b o,s1.heap.get? b=some o->b∈aZ X.stack->∃sl,h2.get? b=some { o with slots:=sl }:=λb o e hb=>by
  obtain⟨sl,e1⟩:=fl.un.any e (I.stkFree b hb) (λz=>nomatch z)
  obtain⟨_,o2,e2,d⟩:=I.stack.mem hb
  rw[e]at e2;cases e2
  obtain⟨sl',e3⟩:=up b _ e1 d
  exact⟨sl',e3⟩
 have ns:∀m,s1.heap.Ns X.env.locals m->h2.Ns X.env.locals m:=λm hm=>by
  obtain⟨o,es,ep,e,r⟩:=hm
  obtain⟨sl,e1⟩:=fl.un.any e I.free (λz=>nomatch z)
  exact up.ns ⟨_,es,ep,e1,r⟩
 have hok:bF X.prog X.w (upd H' a (.frz oe (.own a))) h2:=λb u e=>by
  by_cases hb:b=a
  ·subst hb;rw[b7]at e;cases e;exact⟨he,_,he⟩
  ·rw[aJ hb]at e
   exact (fl.hok2 st b u e).stay (λ_ _ _ q=>q) (λc q=>by rw[aJ (nt c _ q)];exact q) λc xs q=>by rw[aJ (nt c _ q)];exact q
 have bare:=fl.bare
 have un:=fl.un
 have b0:=fl.b0
 have b1:=fl.b1
 have os:=fl.os
 clear fl fly up
 obtain⟨hh,g,d,t,os'⟩:=s'
 obtain rfl:os'=s1.os:=os
 show a6 X pins σ _ { s1 with heap:=h2,gens:=g,drawn:=d,toks:=t }
 refine I.step (h':=h2) (g':=g) (d':=d) (t':=t) (ch:=[]) (λ_ z=>nomatch z) (λb o n1 n2 _ e n=>st _ _ (b1 b o e n (off b n1 n2))) (λb o n1 hb _ e n=>?_) (λb o _ e n=>by rw[aJ (nb b o e)];exact un.free b o e n (λz=>nomatch z)) (λb o _ e=>?_)
  (λb xs q=>by rw[aJ (nt b _ (un.tups b xs q))];exact un.tups b xs q) (λb o u q=>by rw[aJ (nt b _ (un.frzs b o u q))];exact un.frzs b o u q) (λb ps q=>by
   obtain⟨more,q'⟩:=un.tbls b ps q
   exact⟨more,by rw[aJ (nt b _ q')];exact q'⟩) ns hok bare
 ·by_cases hs:b∈aZ X.stack
  ·exact slot b o e hs
  ·exact⟨o.slots,st _ _ (b1 b o e n hs)⟩
 ·by_cases hb:b∈aZ X.stack
  ·obtain⟨sl,e1⟩:=slot b o e hb
   exact⟨_,e1⟩
  ·obtain⟨o',e1⟩:=b0 b o e hb
   exact⟨o',st _ _ e1⟩
abbrev Cx.suite (X:Cx)(a:Addr):Cx:={ X with A:=X.A.mark (some (.ref a)),calm:=false,xe:=λ_ _=>False }
theorem Cx.Ok.suite {X:Cx}(ok:X.Ok)(a:Addr):(X.suite a).Ok:=
 ⟨ok.mod,ok.kind,ok.glob,ok.blt,ok.above,ok.inj,ok.has,ok.cab,λz=>Bool.noConfusion z,ok.frames,ok.stk,ok.exf,ok.bs,ok.bsz,ok.noex,ok.exfs,ok.funs,ok.frf⟩
theorem a6.suite (I:a6 X pins σ H s)(a:Addr):a6 (X.suite a) pins σ H s:=⟨I.ok.suite a,I.os,I.bare,I.base,I.loc,I.cell,I.free,I.freeC,I.pin,I.hok,I.len⟩
theorem a6.unsuite (I:a6 (X.suite a) pins σ H s)(ok:X.Ok):a6 X pins σ H s:=⟨ok,I.os,I.bare,I.base,I.loc,I.cell,I.free,I.freeC,I.pin,I.hok,I.len⟩
theorem pN {M:Model}{A:Around}{E:Value->Shared->Prop}{i:Nat}{x:Str}{pos:Pos}{Q:Unit->Shared->Prop}(I:a6 X pins σ H s)(hN:X.N.Nodup)(hi:X.N[i]? = some x)(hk:X.env.scope.names.lookup x=some .local)(h:∀s',a6 X pins (σ.set i none) H s'->Q () s'):wpAny M A (do bindName X.env x .none;unbindBehindTheSuite X.env x pos) Q E s:=by
 obtain⟨m,hn,hl⟩:=id I.loc
 obtain⟨oL,_,_,hoL,_⟩:=id hn
 have ab:∀b o,X.s₀.heap.get? b=some o->b≠X.env.locals:=λb o e=>aL5 (aI5 (aI1 e) I.ok.above)
 refine wpAny_nameGoes_keeps hk hn (by rw[I.ok.kind];rfl) λh' v hn' hs=>?_
 refine h _ ⟨I.ok,I.os,I.bare,⟨λb o e n hb hx=>(hs.2 b (ab b o e)).trans (I.base.keep b o e n hb hx),λb o e n hb hx=>?_,I.base.free,λb o e hx=>?_,I.base.tups,I.base.frzs,I.base.tbls⟩,⟨_,hn',λj y v' e1 e2 e3=>?_⟩,λy c e=>?_,I.free,I.freeC,λp hp=>?_,λb u e=>?_,by simpa using I.len⟩
 ·obtain⟨sl,e1⟩:=I.base.slot b o e n hb hx
  exact⟨sl,(hs.2 b (ab b o e)).trans e1⟩
 ·obtain⟨o',e1⟩:=I.base.there b o e hx
  exact⟨o',(hs.2 b (ab b o e)).trans e1⟩
 ·by_cases hj:j=i
  ·subst hj
   have hjl:j<σ.length:=by rw[I.len];exact (aL0.mp hi).1
   rw[aP8 hjl]at e2
   cases e2
  ·rw[aK0 (Ne.symm hj)]at e2
   obtain⟨u',r',q⟩:=hl j y v' e1 e2 e3
   refine⟨u',r',?_⟩
   rcases q with⟨k,e⟩|⟨k,c,e,z⟩
   ·have ny:y≠x:=λz=>hj (qG hN e1 (z▸hi))
    exact .inl ⟨k,by simp[ny,e]⟩
   ·exact .inr ⟨k,c,e,z.sameBut hs (I.cne y c e)⟩
 ·obtain⟨w',z⟩:=I.cell y c e
  exact⟨w',z.sameBut hs (I.cne y c e)⟩
 ·obtain⟨e,n,ne,nf,d⟩:=I.pin p hp
  exact⟨(hs.2 p.1 ne).trans e,n,ne,nf,d⟩
 ·refine (I.hok b u e).stay (λc v hc q=>(hs.2 c λz=>?_).trans q) (λ_ q=>q) λ_ _ q=>q
  subst z
  rcases hc with z|z
  ·subst z;rw[I.free]at e;cases e
  ·rw[I.free]at z;cases z
theorem am7 {M:Model}{A:Around}{E:Value->Shared->Prop}{K:ac}{e C D:Addr}{oe:Obj}{Q:Bool->Shared->Prop}(k:K.In s.heap)(he:s.heap.get? e=some oe)(hc:oe.cls = .ref C)(h1:(PySem.W.clsIn K D).isSome=true)(h2:PySem.W.typeIn K (.ref D)=some (.type "type"))(h3:PySem.W.subIn K (.ref D) (.type "BaseException")=some true)(h4:PySem.W.subIn K (.ref C) (.ref D)=some true)(hq:Q true s):wpAny M A (excMatches (.ref e) (.ref D)) Q E s:=by
 obtain⟨h,g,d,t,os⟩:=s
 have k:K.In h:=k
 have he:h.get? e=some oe:=he
 have l1:PySem.W.Looks M h (isType (.ref D)) true:=by
  unfold PySem.W.clsIn at h1
  split at h1
  ·rename_i c' d' cd' sl' ho
   intro A' Q' E' s' kk q
   unfold isType loadHead
   exact aH1 (wpAny_loadPart (kk _ _ (k _ _ ho)) (aH9 q))
  ·cases h1
 have l2:PySem.W.Looks M h (typeOf (.ref D)) (.type "type"):=PySem.W.looks_typeIn k h2
 have l3:PySem.W.Looks M h (isSubtype (.ref D) (.type "BaseException")) true:=PySem.W.looks_subIn k h3
 have l4:PySem.W.Looks M h (isSubtype (.ref C) (.ref D)) true:=PySem.W.looks_subIn k h4
 have l5:PySem.W.Looks M h (typeOf (.ref e)) (.ref C):=hc▸(PySem.W.Looks.ld he).andThen .now
 have l6:PySem.W.Looks M h (isInstance (.ref D) (.type "tuple")) false:=l2.andThen (PySem.W.Looks.of_pure tc_notTuple)
 have l7:PySem.W.Looks M h (isExcClass (.ref D)) true:=by
  unfold isExcClass
  exact l1.andThen (by simpa using l3)
 have f:=tc_notTuple
 unfold excMatches
 repeat (first|exact hq|(with_reducible refine l2.at ?_)|(with_reducible refine l7.at ?_)|(with_reducible refine l1.at ?_)|(with_reducible refine l3.at ?_)|(with_reducible refine l5.at ?_)|(with_reducible refine l4.at ?_)|wp_step)
end
def tH (D:bN)(i:Nat):bN:={ nx:=λσ H=>D.nx (σ.set i none) H,rt:=D.rt,bk:=λσ H=>D.bk (σ.set i none) H,ct:=λσ H=>D.ct (σ.set i none) H }
section
variable {X:Cx}{pins:List (Addr×Obj)}{σ:St}{H H1 H':Hp}{s s1 s':Shared}{B:Heap}{a C Ch:Addr}{i:Nat}{x n:Str}{np pos hpos:Pos}{b₀:Stmt}{suite:List Stmt}{ts:TS}{D:bN}{bW:List ExceptHandler}
structure tI (K:ac)(Ch:Addr):Prop where
 c1:(PySem.W.clsIn K Ch).isSome=true
 c2:PySem.W.typeIn K (.ref Ch)=some (.type "type")
 c3:PySem.W.subIn K (.ref Ch) (.type "BaseException")=some true
theorem am8 (I:a6 X pins σ H1 s1)(fl:jX X.prog X.w X.stack H1 s1 H' B a C s')(hstk:X.stack=X.env::X.outer/\X.env.frame=some X.env.locals)(hg:Gl X x)(hm:X.mg x=some (.ref Ch))(ct:tI X.K Ch)(sub:PySem.W.subIn X.K (.ref C) (.ref Ch)=some true)(hN:X.N.Nodup)(hi:X.N[i]? = some n)(hl:X.env.scope.names.lookup n=some .local)(hs:cN (X.suite a) (b₀::suite) ts)(q:∀oe:Obj,oe.cls = .ref C->ts (tH D i) (σ.set i (some (.ref a))) (upd H' a (.frz oe (.own a))))(hd:(x==("__debug__":Str))=false) :
  wpAny (model X.prog X.w) X.A (noteFrame (.ref a) X.env) (λ_ s₂=>wpAny (model X.prog X.w) X.A (setFlight (.ref a) none) (λ_ s₃=>wpAny (model X.prog X.w) X.A (handleBy (.ref a) X.env (.ExceptHandler (some (.Name x np)) (some n) (b₀::suite) hpos::bW)) (SP X pins D) X.xe s₃) X.xe s₂) X.xe s':=by
 obtain⟨a0,fly⟩:=fl.fly
 rw[hstk.1]at fly
 refine wpAny_looks_onW (outer:=X.outer) (L:=X.env.locals) (by rw[I.ok.frames,hstk.1]) hstk.2 fly λh4 held up4=>wpAny_landsW held λh5 fly5 up5=>?_
 obtain⟨o5,v5,e5,c5,_⟩:=fly5.first
 have I5:=A1 I fl fly5.1 (up4.trans up5) e5
 refine wpAny_handleBy_cons (codeAny_handlers_test (lO (I5.suite a) hg hm ?_ hd)) (by intro z;cases z)
 refine am7 I5.kIn e5 c5 ct.c1 ct.c2 ct.c3 sub ?_
 show codeAny (model X.prog X.w) (X.A.mark (some (.ref a))) (.handlers (.ref a) [.ExceptHandler none (some n) (b₀::suite) hpos] X.env) _ _
 refine codeAny_handlers_suite_as (lands_againW fly5 λh6 fly6 up6=>?_)
 obtain⟨o6,v6,e6,c6,_⟩:=fly6.first
 have I6:=A1 I fl fly6.1 ((up4.trans up5).trans up6) e6
 refine qH I6 hN hi (.inl hl) (v:=.ref a) rfl (λs7 I7=>?_) (.inr hl)
 refine aO8 (hs pins s7 _ _ (tH D i) (I7.suite a) (q o6 c6)) (λf s8 h8=>?_) λ_ _ z=>z.elim
 show wpAny (model X.prog X.w) X.A (do bindName X.env n .none;unbindBehindTheSuite X.env n hpos) (λ_ s9=>SP X pins D f s9) X.xe s8
 cases f with
 |next=>obtain⟨σ',H',J,q⟩:=h8;exact pN (J.unsuite I.ok) hN hi hl λs9 J9=>⟨_,_,J9,q⟩
 |brk=>obtain⟨σ',H',J,q⟩:=h8;exact pN (J.unsuite I.ok) hN hi hl λs9 J9=>⟨_,_,J9,q⟩
 |cont=>obtain⟨σ',H',J,q⟩:=h8;exact pN (J.unsuite I.ok) hN hi hl λs9 J9=>⟨_,_,J9,q⟩
 |ret u=>obtain⟨v,σ',H',J,r,q⟩:=h8;exact pN (J.unsuite I.ok) hN hi hl λs9 J9=>⟨v,_,_,J9,r,q⟩
end
abbrev TB:=bN->XK->St->Hp->Prop
def XB (X:Cx)(pins:List (Addr×Obj))(σ:St)(Ex:XK):Value->Shared->Prop:=λe s'=>∃H1 s1,a6 X pins σ H1 s1/\cD X.prog X.w X.stack H1 s1 Ex e s'
def PB (X:Cx)(sts:List Stmt)(t:TB):Prop:=
 ∀(pins:List (Addr×Obj)) (s:Shared) (σ:St) (H:Hp) (D:bN) (Ex:XK),a6 X pins σ H s->t D Ex σ H->wpAny (model X.prog X.w) X.A (execs sts X.env) (SP X pins D) (XB X pins σ Ex) s
def am9 (sp:Sp)(t:TA):TB:=λD Ex σ H=>t σ H λvs H1=>sp vs H1 (λ_ H2=>D.nx σ H2) Ex
section
variable {X:Cx}{k:Nat}{f Ch:Addr}{fd:FuncData}{ps:List Str}{sp:Sp}{x n:Str}{p cp pos np hpos:Pos}{e c:Expr}{es:List Expr}{t:TA}{tb ub:TB}{tc:TT}{sa sb body:List Stmt}{i:Nat}{b₀:Stmt}{suite:List Stmt}{ts:TS}
theorem an0 (F:cR X.prog X.w X.K X.mg X.base (cD X.prog X.w) k f fd ps sp)(hr:bJ k X.A)(hg:Gl X x)(hm:X.mg x=some (.ref f))(hk:PySem.W.keepIn X.K (.ref f)=true)(hb:i5 X.K fd ps [])(ha:∀E,PA (X.wish E) (e::es) t)(hdb:(x==("__debug__":Str))=false:=by decide)(he:starEach (e::es) X.env=(false,eval e X.env)::starEach es X.env:=by rfl)(hpl:(backTo cp (starEach es X.env)).any (·.1)=false:=by rfl)(hsw:swapsWith (.Call (.Name x p) (e::es) [] cp) none pos.line X.env=pure false:=by rfl) :
  PB X [.Expr (.Call (.Name x p) (e::es) [] cp) pos] (am9 sp t):=by
 intro pins s σ H D Ex I h
 refine wpAny_execs_cons (wpAny_Expr_any ?_ I.quiet hsw)
 refine wpAny_Call_Name_kw (lO I hg hm ?_ hdb)
 refine PySem.W.callWith_K (h₀:=X.base) I.ok.mod.kin hk (aQ (ha (XB X pins σ Ex) cp pins s σ H _ (I.wish _) h) λus s1 h1=>⟨?_,?_⟩) he hpl
 ·obtain⟨_,_,I1,_⟩:=h1
  exact I1.kIn
 ·obtain⟨vs,H1,I1,r,q⟩:=h1
  have I1:=I1.unwish
  have hl:us.length=ps.length:=by rw[<- r.length];exact F.len _ _ _ _ q
  have bd:=hb s1 us I1.kIn (by rw[aR8];exact hl)
  rw[aR8]at bd
  refine wpAny_call (codeAny_mono (F.run X.A X.stack s1 H1 ⟨us,[]⟩ us vs _ Ex hr I1.env0 bd r q) λrs s' hq=>?_)
  cases rs with
  |error ev=>exact⟨H1,s1,I1,hq⟩
  |ok fl=>
   cases fl with
   |ret u=>
    obtain⟨v,H2,I2,_,q2⟩:=I1.after hq
    exact wpAny_execs_nil ⟨σ,H2,I2,q2⟩
   |next=>exact False.elim hq
   |brk=>exact False.elim hq
   |cont=>exact False.elim hq
def A2 (K:ac)(Ch:Addr)(i:Nat)(tb:TB)(ts:TS):TS:=λD σ H=>
 tb D (λc _ H'=>∀(a C:Addr) (oe:Obj),c = .ref C->H' a=none->oe.cls = .ref C->PySem.W.subIn K (.ref C) (.ref Ch)=some true/\ts (tH D i) (σ.set i (some (.ref a))) (upd H' a (.frz oe (.own a)))) σ H
theorem an1 (hstk:X.stack=X.env::X.outer/\X.env.frame=some X.env.locals)(hb:PB X body tb)(hg:Gl X x)(hm:X.mg x=some (.ref Ch))(ct:tI X.K Ch)(hN:X.N.Nodup)(hi:X.N[i]? = some n)(hl:X.env.scope.names.lookup n=some .local)(hs:∀a,cN (X.suite a) (b₀::suite) ts)(hd:(x==("__debug__":Str))=false:=by decide):PS X (.Try body [.ExceptHandler (some (.Name x np)) (some n) (b₀::suite) hpos] [] [] pos) (A2 X.K Ch i tb ts):=by
 intro pins s σ H D I h
 refine wpAny_Try_except (aO8 (hb pins s σ H D _ I h) (λfl s1 q=>?_) (λev s1 q=>?_))
 ·cases fl with
  |next=>exact wpAny_execs_nil q
  |_=>exact q
 ·obtain⟨H1,s2,I1,H',B,a,C,e1,fl,q⟩:=q
  subst e1
  obtain⟨a0,fly⟩:=fl.fly
  obtain⟨o5,_,_,c5,_⟩:=fly.first
  exact am8 I1 fl hstk hg hm ct (q a C o5 rfl fl.fresh c5).1 hN hi hl (hs a) (λoe hc=>(q a C oe rfl fl.fresh hc).2) hd
end
end L2
namespace L2
open PySem PySem.Spec PyProof.Rows PySem.Calls Builtin Builtin.ObjectAttr Builtin.Getset_descriptor
structure fS (K:ac)(D:Addr):Prop where
 cls:(PySem.W.clsIn K D).isSome=true
 ga:PySem.W.findIn K (.ref D) "__getattribute__" = some (some (.builtin "BaseException.__getattribute__"))
 gt:PySem.W.findIn K (.ref D) "__getattr__" = some none
 fc:PySem.W.findIn K (.ref D) "__class__" = some (some (.builtin "object.__class__"))
 fg:PySem.W.specialIn K (.builtin "object.__class__") "__get__" = some (some (.builtin "getset_descriptor.__get__"))
 ft:PySem.W.takesIn K (.builtin "object.__class__")=some true
 ob:PySem.W.mroIn K D (.type "object")=some true
 be:PySem.W.mroIn K D (.type "BaseException")=some true
def j7 (h:Heap)(x D:Addr):Prop:=∃ox:Obj,h.get? x=some ox/\ox.cls = .ref D
theorem j7.type {h:Heap}{x D:Addr}{M:Model}(I:j7 h x D):PySem.W.Looks M h (typeOf (.ref x)) (.ref D):=by
 obtain⟨ox,e,c⟩:=I
 exact c▸(PySem.W.Looks.ld e).andThen .now
section
variable {prog:Program}{w:World}{A:Around}{E:Value→Shared→Prop}{K:ac}{x D:Addr}{h:Heap}{g:Array GenState}{d:Drawn}{t:Nat}{os:OsState}
theorem an2 {M:Model}(F:fS K D)(k:K.In h):PySem.W.Looks M h (find (.ref x) (.ref D) "__class__") (.bind (.builtin "getset_descriptor.__get__") (.builtin "object.__class__")):=by
 have L1:=PySem.W.looks_findIn (M:=M) k F.fc
 have L2:=PySem.W.looks_specialIn (M:=M) k F.fg
 have L3:=PySem.W.looks_takesIn (M:=M) k F.ft
 unfold find
 refine L1.andThen (PySem.W.Looks.andThen (a:=some (Value.builtin "getset_descriptor.__get__")) L2 ?_)
 refine PySem.W.Looks.andThen (a:=some (Value.builtin "getset_descriptor.__get__",Value.builtin "object.__class__")) ?_ (PySem.W.Looks.tag .now)
 unfold dataDescriptor?
 exact L3.andThen .now
theorem an3 {tp:Value}{R:Result->Shared->Prop}(F:fS K D)(k:K.In h)(I:j7 h x D)(hq:R (.ok (.ret (.ref D))) ⟨h,g,d,t,os⟩):codeAny (model prog w) A (.call (.builtin "getset_descriptor.__get__") ⟨[.builtin "object.__class__",.ref x,tp],[]⟩) R ⟨h,g,d,t,os⟩:=by
 have L0:=I.type (M:=model prog w)
 have L1:=PySem.W.looks_mroIn (M:=model prog w) k F.ob
 refine codeAny_call_builtin PySem.W.KF.slot_gs.plain PySem.W.KF.entry_gs (PySem.W.KF.slot_gs.check _ _ _ _ _ _ _ _ PySem.W.KF.type_class (PySem.W.KF.args_gs _ _ _) ?_)
 unfold Builtin.«getset_descriptor.__get__» descrGet;rw[PySem.W.dga_obj]
 refine aH1 (aH9 ?_);unfold descrGetter descrCheckInstance descrNameAndClass isInstance
 simp only[PySem.W.KF.owner_class]
 repeat lk
 refine⟨Code.quiet_builtin _ (by decide +kernel),codeAny_builtin PySem.W.KF.entry_class ?_⟩;unfold Builtin.«object.__class__» shownTypeOf
 repeat lk
 exact hq
theorem an4 {M:Model}{nameV:Value}{Q:Unit->Shared->Prop}(F:fS K D)(k:K.In h)(I:j7 h x D)(hq:Q () ⟨h,g,d,t,os⟩):wpAny M A (checkBuiltinCall "BaseException.__getattribute__" ⟨[.ref x,nameV],[]⟩) Q E ⟨h,g,d,t,os⟩:=by
 have kd:builtinKind "BaseException.__getattribute__" = some .slot:=by decide +kernel
 have sp:splitId "BaseException.__getattribute__" = some ("BaseException","__getattribute__"):=by decide +kernel
 have L:PySem.W.Looks M h (isInstance (.ref x) (.type "BaseException")) true:=(I.type (M:=M)).andThen (PySem.W.looks_mroIn k F.be)
 have ha:=PySem.F.args_bexc_ga (.ref x) nameV
 simp only[checkBuiltinCall,kd,sp]
 refine aH1 (L.at ?_)
 repeat (any_goals (first|assumption|wp_step))
theorem an5 {tk:Tok}{Q:Fin->Shared->Prop}(F:fS K D)(k:K.In h)(I:j7 h x D)(hq:Q (.done (.ret (.ref D))) ⟨h,g,d,t,os⟩):wpAny (model prog w) A (Builtin.«object.__getattribute__» ⟨[.ref x,.str "__class__" tk],[]⟩) Q E ⟨h,g,d,t,os⟩:=by
 have L0:=I.type (M:=model prog w)
 have L1:=an2 (M:=model prog w) F k (x:=x)
 refine aH1 (aH9 (aH1 (aH9 (aH1 (L0.at (aH1 (L1.at ?_)))))))
 show wpAny _ _ (holding [_] (call _ _) >>= ret) _ _ _
 exact aH1 (aR5 (wpAny_call (an3 F k I (aH9 hq))))
theorem an6 {tk:Tok}{R:Result->Shared->Prop}(F:fS K D)(k:K.In h)(I:j7 h x D)(hq:R (.ok (.ret (.ref D))) ⟨h,g,d,t,os⟩):codeAny (model prog w) A (.call (.builtin "BaseException.__getattribute__") ⟨[.ref x,.str "__class__" tk],[]⟩) R ⟨h,g,d,t,os⟩:=
 codeAny_call_builtin PySem.F.excAttr_ValueError.ga.plain PySem.F.entry_bexc_ga (an4 F k I (an5 F k I hq))
theorem an7 {Q:Option Value->Shared->Prop}(F:fS K D)(k:K.In h)(I:j7 h x D)(hq:Q (some (.ref D)) ⟨h,g,d,t+1,os⟩):wpAny (model prog w) A (getAttr? (.ref x) "__class__") Q E ⟨h,g,d,t,os⟩:=by
 have L0:=I.type (M:=model prog w)
 have L1:=PySem.W.looks_findIn (M:=model prog w) k F.ga
 have L2:=PySem.W.looks_findIn (M:=model prog w) k F.gt
 have f3:=PySem.F.excAttr_ValueError.ga.bind (.ref x)
 unfold getAttr? getAttrBy? getAttrBy
 refine aH1 (wpAny_mkText (aH1 (wpAny_attempt (aR5 (aH1 (L0.at (aH1 (L1.at ?_))))))))
 have nx:(onTheHeap (Value.ref D)&&Value.builtin "BaseException.__getattribute__"==Value.builtin "object.__getattribute__")=false:=by
  rw[show (Value.builtin "BaseException.__getattribute__"==Value.builtin "object.__getattribute__")=false by decide +kernel,Bool.and_false]
 dsimp only
 rw[if_neg (by rw[nx];decide)]
 unfold getAttrByItsOwn hookBefore
 repeat (any_goals (first|assumption|(with_reducible refine L2.at ?_)|wp_step))
 exact an6 F k I (PySem.W.handed_on rfl (aH9 hq))
end
theorem A3 {K:ac}{x D:Addr}(F:fS K D):PySem.W.KitX K (.ref x) (.ref D) (λh=>j7 h x D) where
 ty:=λ_ _ _ I=>I.type
 it:=λM h k _=>by
  have z:=F.cls
  unfold PySem.W.clsIn at z
  split at z
  ·rename_i c' d' cd' sl' ho
   intro A' Q' E' s' kk q
   unfold isType loadHead
   exact aH1 (wpAny_loadPart (kk _ _ (k _ _ ho)) (aH9 q))
  ·cases z
 ne:=λh tp dd its n sl k htp=>by
  have z:=F.cls
  refine aS8.mpr λq=>?_
  obtain rfl:D=tp:=Value.ref.inj (beq_iff_eq.mp q)
  unfold PySem.W.clsIn at z
  split at z
  ·rename_i ho
   have y:=(k _ _ ho).symm.trans htp
   cases y
  ·cases z
 ca:=λ{_ _ _ _ _ s} k I q=>by
  obtain⟨h,g,d,t,os⟩:=s
  exact an7 F k I q
end L2
namespace L2
open PySem PySem.Spec PyProof.Rows
section
variable {X:Cx}
def A4:V->List V->Hp->VK->Prop:=λx vs H Q=>∃l xs y,∃k:Nat,x = .ref l/\vs = [.int k,y]/\H l=some (.lst xs)/\k<=xs.length/\xs.length<sizeLine/\Q .non (upd H l (.lst (xs.take k++y::xs.drop k)))
theorem an8:lW X "list.insert" A4:=by
 intro pins s σ H x vs v us Q I rx rv h
 obtain⟨l,xs,y,k,rfl,rfl,hH,hk,hz,q⟩:=h
 obtain⟨u1,u2,rfl,⟨t,rfl⟩,r2⟩:=rv.two
 obtain rfl:v=Value.ref l:=rx
 obtain⟨z,its,n,r,hl,e⟩:=I.lstM hH
 have hs:sizeLine=16777216:=sizeLine_eq
 obtain⟨x,hx⟩:∃x:Int,x=(k:Int):=⟨_,rfl⟩
 rw[<- hx]
 have hf:¬(!Builtin.List.listFitsIndex x)=true:=by
  have h1:Builtin.List.listFitsIndex x=true:=by
   unfold Builtin.List.listFitsIndex
   rw[aR3]
   exact⟨aI2 (by omega),aI2 (by omega)⟩
  rw[h1];exact aJ0
 have hz2:its.toArray.size<=sizeLine:=by rw[aH3];omega
 refine call_meets PySem.F.slot_list_insert ⟨_,e,rfl⟩ PySem.F.entry_list_insert (PySem.F.args_list_insert_3 _ _ _) (AutoSeq1.list_insert_list_int_val_1 l its.toArray n x t u2 hf hz2) ⟨e,.non,_,?_,rfl,q⟩
 refine I.lset (its':=its.take k++u2::its.drop k) hH e ?_ ((r.take k).append (.cons r2 (r.drop k))) ?_
 ·have e1:(if x<0 then (x+(its.toArray.size:Int)).toNat else min x.toNat its.toArray.size)=k:=by
   rw[if_neg (by omega),aH3]
   omega
  dsimp only
  rw[e1]
  apply Array.toList_inj.mp
  simp only[aO1,Array.toList_push,Array.toList_extract,List.extract_eq_drop_take]
  simp
  rw[aM8 (by rw[aP5];omega)]
 ·rw[aL1,aM6,aV4,aP5]
  omega
end
end L2
namespace Core
open PySem L2 PP
def an9 (ns:af):Bool:=((ns.zip (ns.drop 1)).map λp=>decide (p.1<p.2)).all id
def kin (ws:af)(ls:aa)(S:af)(h:Int):Bool:=!decide (h∈S)&&decide (ws.getD h.toNat 0<=(((oE ls h).filter λx=>decide (x∈S)).length:Int))
def nextOf (ws:af)(ls:aa)(S:af):af:=((List.range ws.length).map λ(i:Nat)=>(i:Int)).filter (kin ws ls S)
def mZ (ws:af)(ls:aa)(S:af):Nat->af
 |0=>S
 |k+1=>mZ ws ls S k++nextOf ws ls (mZ ws ls S k)
theorem ao0 {ws:af}{ls:aa}{S:af}{x:Int}(h:kin ws ls S x=true):decide (x∈S)=false:=by
 unfold kin at h
 cases e:decide (x∈S) with
 |false=>rfl
 |true=>rw[e]at h;cases h
def after (ws:af)(ls:aa)(S:af)(m:Nat):ae:=(List.range m).map λk=>nextOf ws ls (mZ ws ls S k)
def bN (ws:af)(ls:aa)(ns:af)(m:Nat):Prop:=(∀k<m,nextOf ws ls (mZ ws ls ns k)≠[])/\nextOf ws ls (mZ ws ls ns m) = []
theorem A5 {ns:af}{i:Nat}{x:PV}(h:(intz ns)[i]? = some x):∃n,x = .int n/\ns[i]? = some n:=by
 rw[aL2]at h
 cases e:ns[i]? with
 |none=>rw[e]at h;cases h
 |some n=>rw[e]at h;exact⟨n,(aL6 h).symm,rfl⟩
theorem j8 {lo:Int}{n i:Nat}{x:PV}(h:(iA lo n)[i]? = some x):x = .int (lo+i)/\i<n:=by
 have hi:i<n:=by
  have:=(aL0.mp h).1
  rwa [gJ]at this
 rw[yI hi]at h
 exact⟨(aL6 h).symm,hi⟩
def rng (n:Nat):af:=(List.range n).map λ(i:Nat)=>(i:Int)
theorem pO (a b:af):intz (a++b)=intz a++intz b:=aM7
theorem cU (a:af):(intz a).length=a.length:=aJ1 _
def gP (ws:af)(ls:aa):PV:=.tup [.tup (intz ws),.tup (ls.map λl=>.tup [.int l.1,.int l.2])]
def eO (x:PV)(ns:af):Prop:=x = .tup (intz ns)∨x = .lst (intz ns)
theorem eO.seq {x:PV}{ns:af}(h:eO x ns):i9 x=some (intz ns):=by rcases h with rfl|rfl<;>rfl
theorem eO.seqT {x:PV}{ns:af}(h:eO x ns):seqT x=some (intz ns):=by rcases h with rfl|rfl<;>rfl
theorem cP:∀(ls:aa),flats (ls.map λl=>PV.tup [.int l.1,.int l.2])=true
 |[]=>rfl
 |l::r=>by
  show (flat (.tup [.int l.1,.int l.2])&&flats (r.map λl=>PV.tup [.int l.1,.int l.2]))=true
  rw[cP r];rfl
theorem nA (ws:af)(ls:aa):flat (gP ws ls)=true:=by
 show flats [.tup (intz ws),.tup (ls.map λl=>PV.tup [.int l.1,.int l.2])]=true
 show (flat (.tup (intz ws))&&(flat (.tup (ls.map λl=>PV.tup [.int l.1,.int l.2]))&&true))=true
 show (flats (intz ws)&&(flats (ls.map λl=>PV.tup [.int l.1,.int l.2])&&true))=true
 rw[cT,cP];rfl
theorem A6 (ns:af):flat (.tup (intz ns))=true:=cT ns
def nB:cO:=λxs Q=>∃ws ls,xs = [gP ws ls]/\Q (.int ws.length)
def A7:aK:=(bZ (aI c7 (a7 (bL (a5 0) (qC (.int 0))) aB)))
abbrev fU (t:aK)(N:List Str)(p:cO):Prop:=∀xs Q,p xs Q->t { nx:=λ_=>Q .non,rt:=Q } (cZ N xs)
theorem ao1:fU A7 ["web"] nB:=by
 rintro xs Q ⟨ws,ls,rfl,q⟩
 refine⟨_,rfl,_,_,_,rfl,rfl,rfl,_,_,rfl,rfl,trivial,?_⟩
 rw[cU];exact q
def inB (n:Nat)(x:Int):Bool:=decide (0<=x)&&decide (x<(n:Int))
theorem ao2 {x:PV}{ns:af}(h:eO x ns):(Slot.sh (flat x) x).tag = .rd->flat x=true:=by
 cases flat x<;>intro z<;>cases z
theorem eO.noscr {x:PV}{ns:af}(h:eO x ns):∀ms,([x]:List PV)≠[.scr ms]:=by
 rcases h with rfl|rfl<;>intro ms z<;>cases z
structure DS (ps:List (aM×PV))(S:af):Prop where
 has:∀i:Int,(oQ ps (Sum.inl i:aM)).isSome=decide (i∈S)
 len:ps.length<=S.length
 fl:flats (ps.map (·.2))=true
section
variable {κ:Type}[DecidableEq κ]
theorem ao3 (kvs:List (κ×PV))(k:κ)(v:PV):(eL kvs k v).length<=kvs.length+1:=by
 unfold eL
 split
 ·rw[aJ1];omega
 ·rw[aL1,aM6,List.length_nil];omega
end
theorem A8:∀(xs:List PV),flats xs=true↔∀x∈xs,flat x=true
 |[]=>by simp[flats]
 |x::r=>by
  unfold flats
  rw[aR3,A8 r];simp
theorem ao4 {κ:Type}[DecidableEq κ]{ps:List (κ×PV)}{k:κ}{v:PV}{p:κ×PV}(h:p∈eL ps k v):p.2=v∨p∈ps:=by
 unfold eL at h
 split at h
 ·obtain⟨q,hq,e⟩:=aR9.mp h
  split at e
  ·subst e;exact .inl rfl
  ·subst e;exact .inr hq
 ·rcases aN2.mp h with h|h
  ·exact .inr h
  ·rw[aI3.mp h];exact .inl rfl
theorem ao5 {κ:Type}[DecidableEq κ]{ps:List (κ×PV)}{k:κ}{v:PV}(h:flats (ps.map (·.2))=true)(hv:flat v=true):flats ((eL ps k v).map (·.2))=true:=by
 rw[A8]at h ⊢
 intro x hx
 obtain⟨p,hp,rfl⟩:=aR9.mp hx
 rcases ao4 hp with e|e
 ·rw[e];exact hv
 ·exact h _ (aR9.mpr ⟨p,e,rfl⟩)
theorem ao6 {ws:af}{h:Int}(h0:0<=h)(h1:h<(ws.length:Int)):atI (intz ws) h=some (.int (ws.getD h.toNat 0)):=by
 refine ab5 h0 ?_
 have:h.toNat<ws.length:=by omega
 rw[aL2,aL9,aH5 this];rfl
def tups (rs:ae):List PV:=rs.map λr=>PV.tup (intz r)
end Core
namespace PP
open PySem L2
def tJ:List PV->(PV->Prop)->Prop:=λxs Q=>∃ys:ae,xs = [.lst (ys.map λr=>PV.tup (intz r))]/\ys.length<64/\(∀y∈ys,y≠[])/\∀zs:ae,zs.Perm ys->zs.Pairwise (λu v=>HT.bD v u=false)->Q (.lst (zs.map λr=>PV.tup (intz r)))
def tK:List PV->(PV->Prop)->Prop:=λxs Q=>∃ps:List (List aM×PV),xs = [.dT ps]/\Q (.lst (ps.map λp=>PV.tup (p.1.map kP)))
end PP
namespace Core
open PySem L2 PP
theorem A9 (g:Tg)(n:Int):Nw g (.int n):=by cases g<;>first|exact trivial|rfl
def iG (x:PV)(ns:af):Prop:=x = .scr ns∨x = .lst (intz ns)
theorem iG.seq {x:PV}{ns:af}(h:iG x ns):i9 x=some (intz ns):=by rcases h with rfl|rfl<;>rfl
theorem iG.len {x:PV}{ns:af}(h:iG x ns):oM x=some ns.length:=by
 rcases h with rfl|rfl
 ·rfl
 ·show some (intz ns).length=_
  rw[cU]
def gZ:cO:=λxs Q=>∃x ns k,xs = [x,.int k]/\iG x ns/\0<=k/\Q (.int (ns.getD k.toNat 0))
def B0:aK:=(aO (bC (aS (mJ (a5 1) (aI c7 (a7 (a5 0) aB)))) (bZ (bL (a5 0) (a5 1))) cB)
 (bZ (qC (.int 0))))
theorem ao7:fU B0 ["script","k"] gZ:=by
 rintro xs Q ⟨x,ns,k,rfl,hx,h0,q⟩
 refine⟨_,rfl,_,rfl,_,_,rfl,hx.len,_,_,rfl,rfl,_,rfl,?_⟩
 by_cases h:k<(ns.length:Int)
 ·rw[aI2 h]
  exact b9 ⟨_,rfl,_,rfl,_,_,_,hx.seq,rfl,ao6 h0 h,A9 _ _,q⟩
 ·rw[aH8 h]
  rw[aL9,List.getElem?_eq_none (by omega)]at q
  exact aV ⟨trivial,q⟩
def aE (ls:aa):List PV:=ls.map λl=>PV.tup [.int l.1,.int l.2]
theorem eC (ls:aa):(aE ls).length=ls.length:=aJ1 _
def cV (l m:Int×Int):Prop:=l.1<m.1∨(l.1=m.1/\l.2<m.2)
structure fV (n:Int)(ls:aa)(a b:Int):Prop where
 inn:∀l∈ls,0<=l.1/\l.1<l.2/\l.2<n
 ord:ls.Pairwise cV
 low:∀l∈ls,cV l (a,b)
theorem fV.mono {n a b a' b':Int}{ls:aa}(h:fV n ls a b)(m:a<a'∨(a=a'/\b<=b')):fV n ls a' b':=
 ⟨h.inn,h.ord,λl hl=>by have:=h.low l hl;unfold cV at *;dsimp only at *;omega⟩
theorem fV.add {n a b:Int}{ls:aa}(h:fV n ls a b)(h0:0<=a/\a<b/\b<n):fV n (ls++[(a,b)]) a (b+1):=by
 refine⟨λl hl=>?_,?_,λl hl=>?_⟩
 ·rcases aN2.mp hl with hl|hl
  ·exact h.inn l hl
  ·rw[aI3.mp hl];exact h0
 ·exact aN6.mpr ⟨h.ord,aU4 _ _,λl hl m hm=>by rw[aI3.mp hm];exact h.low l hl⟩
 ·rcases aN2.mp hl with hl|hl
  ·have:=h.low l hl;unfold cV at *;dsimp only at *;omega
  ·rw[aI3.mp hl];unfold cV;dsimp only;omega
def ao8:aK:=(aO (gI 4 (dP aB))
 (aO (dZ (iX (a5 2)) (dY 5)
  (aO (iV 4 (aX (a5 0) (a5 3)))
  (bG 0 (bI (a5 0) (a5 3)))))
 (aO (gI 6 (dP aB))
 (aO (dZ (iX (a5 2)) (dY 7)
  (dZ (oO (eM (a5 7) (qC (.int 1))) (a5 2)) (dY 8)
   (aO (bC (aS (dG (aX (a5 1) (qC (.int 2))) (qC (.int 1)))) (iV 6 (dE (a7 (a5 7) (a7 (a5 8) aB)))) cB)
   (bG 1 (bI (a5 1) (qC (.int 2)))))))
 (bZ (dE (a7 (aI fE (a7 (a5 4) aB)) (a7 (aI fE (a7 (a5 6) aB)) aB))))))))
abbrev si (n:Int):Option Slot:=some (.sh true (.int n))
def lD:cO:=λxs Q=>∃i,xs = [.int i]/\Q (.bl true)
def B1 (K:ac):aK:=(bZ (kM (iB K "int" (a5 0)) (m9 (iB K "bool" (a5 0)))))
def nC:cO:=λxs Q=>∃y ns ms,xs = [.tup (intz ns),y]/\eO y ms/\ns.length<=1000/\ms.length<=1000/\Q (.bl (decide (ns=ms)))
def B2 (K:ac):aK:=(aO (bC (gH (fB (aS (iB K "tuple" (a5 0)))) (aS (mK (aI c7 (a7 (a5 0) aB)) (aI c7 (a7 (a5 1) aB))))) (bZ (qC (.bl false))) cB)
 (aO (dZ (iX (aI c7 (a7 (a5 1) aB))) (dY 2)
  (bC (gH (fB (aS (aI lD (a7 (bL (a5 0) (a5 2)) aB)))) (aS (mK (bL (a5 0) (a5 2)) (bL (a5 1) (a5 2))))) (bZ (qC (.bl false))) cB))
 (bZ (qC (.bl true)))))
theorem eO.len {x:PV}{ns:af}(h:eO x ns):oM x=some ns.length:=by
 rcases h with rfl|rfl<;>(show some (intz ns).length=_;rw[cU])
theorem ao9 {K:ac}(kt:PySem.W.kitOne K (.type "tuple") (.type "tuple")=some true):fU (B2 K) ["found","due","k"] nC:=by
 rintro xs Q ⟨y,ns,ms,rfl,hy,hn,hm,q⟩
 refine⟨_,rfl,_,_,rfl,kt,_,rfl,aV ⟨_,rfl,_,_,rfl,rfl,_,rfl,_,_,rfl,hy.len,.inl ⟨_,_,rfl,rfl,_,rfl,?_⟩⟩⟩
 rw[cU]
 by_cases hl:ns.length=ms.length
 ·show if (!decide ((ns.length:Int)=(ms.length:Int)))=true then _ else _
  rw[aI2 (by omega)]
  refine aV ⟨_,rfl,_,_,rfl,hy.len,_,rfl,by omega,by omega,λi ρ=>∃z,ρ = [some (.sh true (.tup (intz ns))),some (.sh (flat y) y),z]/\ns.take i=ms.take i,⟨none,?_,rfl⟩,?_,?_⟩
  ·show cZ _ _=_
   unfold cZ
   show [some (Slot.sh (flat (.tup (intz ns))) (.tup (intz ns))),_,_]=_
   rw[A6]
  ·rintro i z ρ hz ⟨z0,rfl,e⟩
   obtain⟨rfl,hi⟩:=j8 hz
   have i1:i<ms.length:=by simpa using hi
   have i2:i<ns.length:=by omega
   have e0:(0:Int)+(i:Int)=(i:Int):=by omega
   have a1:atI (intz ns) ((0:Int)+(i:Int))=some (.int ns[i]):=by rw[e0];exact lT (by rw[aL2,aH5 i2];rfl)
   have a2:atI (intz ms) ((0:Int)+(i:Int))=some (.int ms[i]):=by rw[e0];exact lT (by rw[aL2,aH5 i1];rfl)
   refine⟨_,rfl,_,rfl,_,_,_,rfl,rfl,a1,_,rfl,_,rfl,aV ⟨_,rfl,_,rfl,_,_,_,rfl,rfl,a1,_,rfl,_,rfl,_,_,_,hy.seq,rfl,a2,.inl ⟨_,_,rfl,rfl,_,rfl,?_⟩⟩⟩
   by_cases h:ns[i]=ms[i]
   ·show if (!decide (ns[i]=ms[i]))=true then _ else _
    rw[aI2 h]
    refine aV ⟨_,rfl,?_⟩
    rw[aT0,aT0,e,aH5 i1,aH5 i2,h]
   ·show if (!decide (ns[i]=ms[i]))=true then _ else _
    rw[aH8 h]
    refine b9 ⟨trivial,?_⟩
    rw[aH8 (λz=>h (by subst z;rfl))]at q
    exact q
  ·rintro ρ ⟨z,rfl,e⟩
   rw[gJ]at e
   have:ns=ms:=by
    have h1:ns.take ((ms.length:Int).toNat)=ns:=aM8 (by omega)
    have h2:ms.take ((ms.length:Int).toNat)=ms:=aM8 (by omega)
    rw[h1,h2]at e;exact e
   rw[aI2 this]at q
   exact⟨trivial,q⟩
 ·show if (!decide ((ns.length:Int)=(ms.length:Int)))=true then _ else _
  rw[aH8 (by omega)]
  refine b9 ⟨trivial,?_⟩
  rw[aH8 (λz=>hl (by rw[z]))]at q
  exact q
theorem ap2 {K:ac}(k1:PySem.W.kitOne K (.type "int") (.type "int")=some true)(k2:PySem.W.kitOne K (.type "int") (.type "bool")=some false):fU (B1 K) ["found"] lD:=by
 rintro xs Q ⟨i,rfl,q⟩
 exact⟨_,rfl,_,_,rfl,k1,_,rfl,b9 ⟨_,rfl,_,_,rfl,k2,_,rfl,trivial,q⟩⟩
theorem B3 {ls:aa}{i:Nat}{x:PV}(h:(aE ls)[i]? = some x):∃l,x = .tup [.int l.1,.int l.2]/\ls[i]? = some l:=by
 unfold aE at h
 rw[aL2]at h
 cases e:ls[i]? with
 |none=>rw[e]at h;cases h
 |some n=>rw[e]at h;exact⟨n,(aL6 h).symm,rfl⟩
end Core
namespace PP
open PySem L2 PyProof.Rows
theorem Reps.rep {K:ac}{M:Addr->Prop}{H:Hp}{us:List V}{xs:List PV}(r:Reps K M H us xs):∀k:Nat,Reps K M H (List.replicate k us).flatten (List.replicate k xs).flatten
 |0=>.nil
 |k+1=>by rw[aQ5,aQ5,aU3,aU3];exact r.append (Reps.rep r k)
section
variable {X:Cx}{a b e:Expr}{ta tb te:aD}{tr:bS}{pos p2 p3 pos2:Pos}
theorem ap3:eJ X tK (λxs H Q=>∃a kvs,xs = [.ref a]/\H a=some (.dT kvs)/\∀l ys,H l=none->Paired (oD H) ys (kvs.map (·.1))->Q (.ref l) (upd H l (.lst ys))):=by
 rintro H vs xs Q Q' r ⟨ps,rfl,q⟩ k
 obtain⟨v,rfl,r1⟩:=r.one
 cases r1 with
 |@dT a kvs _ m h e r2=>
  refine⟨a,kvs,rfl,h,λl ys hl pr=>k _ _ _ (b8 hl _) (.lst hl b7 ?_) q⟩
  have kv:∀(k:List aM),Reps X.K (λa=>H a=none) H (k.map kV) (k.map kP):=λk=>by
   induction k with
   |nil=>exact .nil
   |cons a r ih=>exact .cons (by cases a<;>constructor) ih
  have go:∀{ys:List V}{ks:List (List aM)},Paired (oD H) ys ks->Reps X.K (λa=>H a=none) H ys (ks.map λk=>PV.tup (k.map kP)):=λ{ys ks} pr=>by
   induction pr with
   |nil=>exact .nil
   |cons h t ih=>
    obtain⟨q,rfl,hq⟩:=h
    exact .cons (.tup hq (kv _)) ih
  have e2:(ps.map λp=>PV.tup (p.1.map kP))=(kvs.map (·.1)).map λk=>PV.tup (k.map kP):=by rw[e,List.map_map];rfl
  rw[e2]
  exact (go pr).same (b8 hl _) λ_ z=>z
theorem ap4 (B:Bt X.mg)(hc:X.calm=true)(ha:QA X [e] tr)(hg:Gl X "list":=by rfl)(he:starEach [e] X.env=(false,eval e X.env)::starEach [] X.env:=by rfl)(hpl:(backTo pos (starEach [] X.env)).any (·.1)=false:=by rfl):QE X (.Call (.Name "list" p2) [e] [] pos) (aI tK tr):=
 sT (ab3 hc) ap3 hg B.list PyProof.Rows.boot_list ha (he:=he) (hpl:=hpl)
def tL:V->Int
 |.int i=>i
 |_=>0
def iH (H:Hp):V->af
 |.ref a=>match H a with
  |some (.tup us)=>us.map tL
  |_=>[]
 |_=>[]
theorem ap5 {H:Hp}{a:Addr}{ns:af}(h:H a=some (.tup (ns.map V.int))):iH H (.ref a)=ns:=by
 show (match H a with|some (.tup us)=>us.map tL|_=>[])=ns
 rw[h]
 show (ns.map V.int).map tL=ns
 rw[List.map_map]
 exact List.map_id _
theorem tM {K:ac}{M:Addr->Prop}{H:Hp}:∀{us:List V}{ys:ae},Reps K M H us (ys.map λr=>PV.tup (intz r))->us.map (iH H)=ys/\∀u∈us,∃b,u = .ref b/\H b=some (.tup ((iH H u).map V.int))
 |_,[],.nil=>⟨rfl,λu h=>nomatch h⟩
 |_,y::ys,.cons r t=>by
  obtain⟨a,us,rfl,h,r1⟩:=r.sqT
  obtain rfl:=r1.ofInts
  obtain⟨h1,h2⟩:=tM t
  have hk:=ap5 h
  refine⟨by rw[aM4,h1,hk],λu hu=>?_⟩
  rcases aH4.mp hu with rfl|hu
  ·exact⟨a,rfl,by rw[hk];exact h⟩
  ·exact h2 u hu
theorem tN {K:ac}{M:Addr->Prop}{H:Hp}:∀{us:List V},(∀u∈us,∃b,u = .ref b/\H b=some (.tup ((iH H u).map V.int)))->Reps K M H us ((us.map (iH H)).map λr=>PV.tup (intz r))
 |[],_=>.nil
 |u::us,h=>by
  obtain⟨b,rfl,hb⟩:=h u aJ9
  exact .cons (.tup hb (Reps.intz _)) (tN λv hv=>h v (aJ2 _ hv))
theorem ap6:eJ X tJ (xM X.K):=by
 rintro H vs xs Q Q' r ⟨ys,rfl,hl,hne,q⟩ k
 obtain⟨v,rfl,r1⟩:=r.one
 obtain⟨a,us,rfl,_,h,r2⟩:=r1.sqL
 obtain⟨h1,h2⟩:=tM r2
 have lr:=r2.length
 rw[aJ1]at lr
 refine⟨a,us,iH H,rfl,aP.of h,by omega,λy hy=>?_,λl zs hl' pm so=>?_⟩
 ·obtain⟨b,rfl,hb⟩:=h2 y hy
  refine⟨b,rfl,aN.of hb,hne _ ?_⟩
  rw[<- h1];exact aR9.mpr ⟨_,hy,rfl⟩
 ·have hz:∀u∈zs,∃b,u = .ref b/\H b=some (.tup ((iH H u).map V.int)):=λu hu=>h2 u (pm.mem_iff.mp hu)
  refine k _ _ _ (b8 hl' _) (.lst hl' b7 ((tN hz).same (b8 hl' _) λ_ z=>z)) (q _ ?_ ?_)
  ·rw[<- h1];exact pm.map _
  ·rw[aX6];exact so
theorem ap7 (B:Bt X.mg)(ha:QA X [e] tr)(hg:Gl X "sorted":=by rfl)(he:starEach [e] X.env=(false,eval e X.env)::starEach [] X.env:=by rfl)(hpl:(backTo pos (starEach [] X.env)).any (·.1)=false:=by rfl):QE X (.Call (.Name "sorted" p2) [e] [] pos) (aI tJ tr):=
 j5 aa8 ap6 hg B.sorted PyProof.Rows.boot_sorted ha (he:=he) (hpl:=hpl)
end
end PP
namespace Core
open PySem L2 PP
def two (l:Int×Int):af:=[l.1,l.2]
def nD (r:af):Int×Int:=(r.getD 0 0,r.getD 1 0)
theorem nE (ls:aa):aE ls=(ls.map two).map λr=>PV.tup (intz r):=by
 unfold aE
 rw[List.map_map];rfl
theorem B4 {zs:ae}{ls:aa}(h:zs.Perm (ls.map two)):∃ls':aa,zs=ls'.map two/\ls'.Perm ls:=by
 refine⟨zs.map nD,?_,?_⟩
 ·rw[List.map_map]
  have:∀z∈zs,(two ∘ nD) z=z:=λz hz=>by
   obtain⟨l,_,rfl⟩:=aR9.mp (h.mem_iff.mp hz)
   rfl
  rw[List.map_congr_left this,List.map_id']
 ·have:=h.map nD
  rw[List.map_map]at this
  have e:ls.map (nD ∘ two)=ls:=by
   have:∀l∈ls,(nD ∘ two) l=id l:=λl _=>rfl
   rw[List.map_congr_left this,List.map_id]
  rw[e]at this
  exact this
theorem B5 {ls:aa}(so:(ls.map two).Pairwise λu v=>HT.bD v u=false)(nd:ls.Nodup):ls.Pairwise cV:=by
 rw[aX6]at so
 refine (List.pairwise_and_iff.mpr ⟨so,nd⟩).imp λ{a b} h=>?_
 obtain⟨h1,h2⟩:=h
 unfold two at h1
 rw[HT.gU]at h1
 unfold cV
 by_cases e:b.1=a.1
 ·rw[if_pos e,HT.gU]at h1
  by_cases e2:b.2=a.2
  ·exact absurd (Prod.ext e.symm e2.symm) h2
  ·rw[if_neg e2]at h1
   have:=of_decide_eq_false h1
   omega
 ·rw[if_neg e]at h1
  have:=of_decide_eq_false h1
  omega
theorem ap8 (ws:af)(ls:aa):flats [.tup (intz ws),.tup (aE ls)]=true:=nA ws ls
def B6:aK:=(aO (gI 3 (dP aB))
 (aO (dZ (iX (a5 1)) (dY 4)
  (aO (bG 5 (aI gZ (a7 (a5 0) (a7 (a5 4) aB))))
  (iV 3 (bL (dP (a7 (aX (bI (a5 5) (qC (.int 5))) (qC (.int 4))) (a7 (aX (bI (a5 5) (qC (.int 5))) (qC (.int 3))) (a7 (aX (bI (a5 5) (qC (.int 5))) (qC (.int 6))) (a7 (aX (bI (a5 5) (qC (.int 5))) (qC (.int 61))) aB))))) (aX (a5 2) (qC (.int 4)))))))
 (aO (gI 6 (qC (.dT [])))
 (aO (dZ (mF (a5 0)) (dY 5)
  (bC (aS (fD (a5 1) (qC (.int 1)))) (aO (bG 7 (aX (a5 5) (a5 1)))
   (aO (bG 8 (aX (bI (aX (jP (aX (a5 5) (qC (.int 1000000007))) (qC (.int 48271))) (qC (.int 2147483647))) (qC (.int 89))) (a5 1)))
   (bC (aS (mK (a5 7) (a5 8))) (sM 6 (dE (a7 (aI sI (a7 (a5 7) (a7 (a5 8) aB))) (a7 (aI sJ (a7 (a5 7) (a7 (a5 8) aB))) aB))) (qC (.bl true))) cB))) cB))
 (bZ (dE (a7 (aI fE (a7 (a5 3) aB)) (a7 (aI fE (a7 (aI tJ (a7 (aI tK (a7 (a5 6) aB)) aB)) aB)) aB))))))))
theorem ap9 {a b c d:PV}{i:Int}(h0:0<=i)(h1:i<4):∃z,atI [a,b,c,d] i=some z/\(z=a∨z=b∨z=c∨z=d):=by
 have:i=0∨i=1∨i=2∨i=3:=by omega
 rcases this with rfl|rfl|rfl|rfl
 ·exact⟨a,rfl,.inl rfl⟩
 ·exact⟨b,rfl,.inr (.inl rfl)⟩
 ·exact⟨c,rfl,.inr (.inr (.inl rfl))⟩
 ·exact⟨d,rfl,.inr (.inr (.inr rfl))⟩
theorem B7 {a b c d:Int}{i:Int}(h0:0<=i)(h1:i<4):∃z:Int,atI [PV.int a,PV.int b,PV.int c,PV.int d] i=some (.int z)/\(z=a∨z=b∨z=c∨z=d):=by
 obtain⟨z,h,e⟩:=ap9 (a:=PV.int a) (b:=PV.int b) (c:=PV.int c) (d:=PV.int d) h0 h1
 rcases e with rfl|rfl|rfl|rfl
 ·exact⟨a,h,.inl rfl⟩
 ·exact⟨b,h,.inr (.inl rfl)⟩
 ·exact⟨c,h,.inr (.inr (.inl rfl))⟩
 ·exact⟨d,h,.inr (.inr (.inr rfl))⟩
def jY (l:Int×Int):List aM:=[Sum.inl l.1,Sum.inl l.2]
structure DL (n:Int)(ps:List (List aM×PV))(i:Nat):Prop where
 key:∀p∈ps,∃l:Int×Int,p.1=jY l/\0<=l.1/\l.1<l.2/\l.2<n
 len:ps.length<=i
 fl:flats (ps.map (·.2))=true
 nd:(ps.map (·.1)).Nodup
theorem aq0 {κ:Type}[DecidableEq κ]{ps:List (κ×PV)}(k:κ)(v:PV)(h:(ps.map (·.1)).Nodup):((eL ps k v).map (·.1)).Nodup:=by
 unfold eL
 split
 ·rw[List.map_map]
  have:((λx:κ×PV=>x.1) ∘ λkv:κ×PV=>if kv.1=k then (kv.1,v) else kv)=λx=>x.1:=by
   funext x
   show (if x.1=k then (x.1,v) else x).1=x.1
   split<;>rfl
  rw[this];exact h
 ·rename_i hn
  rw[aM7]
  refine List.nodup_append.mpr ⟨h,aU4 _ _,λx hx y hy e=>hn ?_⟩
  obtain⟨p,hp,rfl⟩:=aR9.mp hx
  rw[aI3.mp hy]at e
  exact List.any_eq_true.mpr ⟨p,hp,aI2 e⟩
theorem aq1 {κ:Type}[DecidableEq κ]{ps:List (κ×PV)}{k:κ}{v:PV}{p:κ×PV}(h:p∈eL ps k v):p.1=k∨∃q∈ps,q.1=p.1:=by
 unfold eL at h
 split at h
 ·obtain⟨q,hq,e⟩:=aR9.mp h
  split at e
  ·subst e;exact .inr ⟨q,hq,rfl⟩
  ·subst e;exact .inr ⟨q,hq,rfl⟩
 ·rcases aN2.mp h with h|h
  ·exact .inr ⟨p,h,rfl⟩
  ·rw[aI3.mp h];exact .inl rfl
theorem DL.put {n:Int}{ps:List (List aM×PV)}{i:Nat}(h:DL n ps i)(l:Int×Int)(hl:0<=l.1/\l.1<l.2/\l.2<n):DL n (eL ps (jY l) (.bl true)) (i+1):=by
 refine⟨λp hp=>?_,?_,ao5 h.fl rfl,aq0 _ _ h.nd⟩
 ·rcases aq1 hp with e|⟨q,hq,e⟩
  ·exact⟨l,e,hl⟩
  ·obtain⟨l',e',h'⟩:=h.key q hq
   exact⟨l',e▸e',h'⟩
 ·have:=ao3 ps (jY l) (.bl true)
  have:=h.len
  omega
theorem DL.links {n:Int}:∀{ps:List (List aM×PV)},(∀p∈ps,∃l:Int×Int,p.1=jY l/\0<=l.1/\l.1<l.2/\l.2<n)->∃ls:aa,(ps.map λp=>PV.tup (p.1.map kP))=aE ls/\(∀l∈ls,0<=l.1/\l.1<l.2/\l.2<n)/\ls.length=ps.length/\ps.map (·.1)=ls.map jY
 |[],_=>⟨[],rfl,(λ_ h=>nomatch h),rfl,rfl⟩
 |p::ps,h=>by
  obtain⟨l,e,hl⟩:=h p aJ9
  obtain⟨ls,h1,h2,h3,h4⟩:=DL.links (ps:=ps) λq hq=>h q (aJ2 _ hq)
  refine⟨l::ls,?_,λm hm=>?_,by rw[aM6,aM6,h3],by rw[aM4,aM4,h4,e]⟩
  ·rw[aM4,h1,e];rfl
  ·rcases aH4.mp hm with rfl|hm
   ·exact hl
   ·exact h2 m hm
theorem aq2 {x:PV}{ns:af}(h:iG x ns):(Slot.sh (flat x) x).tag = .rd->flat x=true:=by
 cases flat x<;>intro z<;>cases z
theorem aq3 (ns:af){k:Int}(h:0<=k):e8 (intz ns) (some k) none=intz (ns.drop k.toNat):=by
 unfold e8
 have e1:HT.aR (intz ns).length 0 (some k)=min k.toNat (intz ns).length:=by
  have:=HT.vY (intz ns).length 0 k.toNat
  rw[show ((k.toNat:Nat):Int)=k by omega]at this
  exact this
 have e2:HT.aR (intz ns).length (intz ns).length none=(intz ns).length:=rfl
 rw[e1,e2,cU]
 rw[aM8 (by rw[aP5,cU];omega)]
 show _=List.map PV.int _
 rw[List.map_drop]
 by_cases hk:k.toNat<=ns.length
 ·rw[Nat.min_eq_left hk]
 ·rw[Nat.min_eq_right (by omega),List.drop_of_length_le (by rw[cU];omega),List.drop_of_length_le (by rw[cU];omega)]
def B8:cO:=λxs Q=>∃ns:af,xs = [.scr ns]/\ns.length<=63/\Q (.bl true)
structure aq4 (K:ac):Prop where
 ii:PySem.W.kitOne K (.type "int") (.type "int")=some true
 ib:PySem.W.kitOne K (.type "int") (.type "bool")=some false
 tt:PySem.W.kitOne K (.type "tuple") (.type "tuple")=some true
 ll:PySem.W.kitOne K (.type "list") (.type "list")=some true
 bb:PySem.W.kitOne K (.type "bool") (.type "bool")=some true
theorem pP (K:ac):aq4 K:=by
 have same:∀n:String,PySem.W.kitMeta n=true->True:=λ_ _=>trivial
 refine⟨?_,?_,?_,?_,?_⟩
 ·unfold PySem.W.kitOne;rw[if_pos (by decide)]
 ·have e:(if PySem.W.kitMeta "bool" = true then (fastBuiltinMro "int").map (·.contains (Value.type "bool")) else none)=some false:=by decide +kernel
  unfold PySem.W.kitOne
  rw[if_neg (by decide)]
  exact e
 ·unfold PySem.W.kitOne;rw[if_pos (by decide)]
 ·unfold PySem.W.kitOne;rw[if_pos (by decide)]
 ·unfold PySem.W.kitOne;rw[if_pos (by decide)]
end Core
namespace PP
open PySem L2 PyProof.Rows
def pQ (K:ac):Sp:=λvs H Q _=>∃(a:Addr) (ns:af),vs = [.ref a]/\i8 K H a ns/\ns.length<=63/\∀H',Q (.bl true) H'
theorem aq5 {P:Program}{w:World}{K:ac}{mg:Str->Option Value}{base:Heap}{k:Nat}{f:Addr}{fd:FuncData}(F:cR P w K mg base dM k f fd ["script"] (mE K Core.B8)):cR P w K mg base dM k f fd ["script"] (pQ K):=
 F.imp λvs H Q E h=>by
  obtain⟨a,ns,rfl,hs,hl,q⟩:=h
  refine⟨[.scr ns],λz=>z = .bl true,.cons (.scr hs) .nil,⟨ns,rfl,hl,rfl⟩,?_⟩
  rintro v H' x _ r rfl
  cases r
  exact q H'
theorem aq6 {K:ac}{H:Hp}{a:Addr}{ns:af}(hO:nY H)(h:aP K H a (ns.map V.int)):i8 K H a ns:=by
 rcases h with (h|⟨o,h⟩)|h
 ·rcases hO a with e|⟨o,xs,e⟩<;>(rw[h]at e;cases e)
 ·exact .inl ⟨o,h⟩
 ·exact .inr h
end PP
namespace PyProof.Rows
open PySem
end PyProof.Rows
namespace PP
open PySem L2 PyProof.Rows
section
variable {X:Cx}{a b e:Expr}{ta tb te:aD}{tr:bS}{pos p2:Pos}
def B9:PV->Tg->PV->Tg->PK->Prop:=λx _ y _ Q=>∃xs ys,x = .lst xs/\y = .lst ys/\flats xs=true/\flats ys=true/\xs.length+ys.length<=16000000/\Q (.lst (xs++ys)) .fr
abbrev C1 (ta tb:aD):aD:=q2 B9 ta tb
theorem aq7:dW X B9 wG:=by
 rintro W Hs H u v x y g g' Q Q' s n r1 r2 ⟨xs,ys,rfl,rfl,f1,f2,hl,q⟩ k
 obtain⟨a,us,rfl,_,h1,q1⟩:=r1.sqL
 obtain⟨b,ws,rfl,_,h2,q2⟩:=r2.sqL
 have l1:=q1.length
 have l2:=q2.length
 refine⟨a,b,us,ws,rfl,rfl,h1,h2,lim (by omega),λp hp=>k _ _ _ .fr (b8 hp _) (.lst (s.free hp) b7 (((q1.flat f1).append (q2.flat f2)).same (b8 hp _) λ_ z=>z)) q⟩
theorem aq8 (ha:QE X a ta)(hb:QE X b tb):QE X (.BinOp a .Add b pos) (C1 ta tb):=iZ X9 aq7 ha hb
end
end PP
namespace L2
open PySem PySem.Spec PyProof.Rows
def tO (K:ac)(a:Addr):It:=
  ⟨λi H=>∃xs x,aP K H a xs/\xs[i]? = some x,
   λi H v H'=>∃T x,H T=none/\v = .ref T/\H'=upd H T (.tup [.int i,x])/\∀xs,aP K H a xs->xs[i]? = some x,
   λi H=>∃xs,aP K H a xs/\xs.length<=i⟩
structure aq9 (e it a:Addr)(i:Nat)(h:Heap):Prop where
 ee:∃old,IsEnum h e it i old
 s1:h.IsListIter it a i
theorem ar0 {P:Program}{w:World}{K:ac}{elts:List Expr}{k:Nat}{pos:Pos}(a e it:Addr)(d:e≠it) :
  gA P w K (.Tuple elts k pos) (tO K a) [e,it] e (aq9 e it a):=by
 refine⟨by simp,λi h st c hc=>?_,λi h h' st kp=>?_,?_,?_,λA i s Q E st q=>?_⟩
 ·simp only[aH4,aH6,aL7]at hc
  obtain⟨old,ee⟩:=st.ee
  obtain⟨o1,f1,g1,d1⟩:=st.s1
  rcases hc with rfl|rfl
  ·exact⟨_,ee,λv q=>by cases q⟩
  ·exact⟨_,f1,λv q=>by rw[d1]at q;cases q⟩
 ·obtain⟨old,ee⟩:=st.ee
  exact⟨⟨old,kp e (by simp) _ ee⟩,st.s1.at λo z=>kp it (by simp) o z⟩
 ·intro X hP hw hK hc i pins s σ H E I hf st hg
  subst hP hw hK
  obtain⟨xs,x,ha,hx⟩:=hg
  obtain⟨us,ru,pu,lu⟩:=I.list ha
  obtain⟨ux,eux,rux⟩:=ru.get hx
  obtain⟨old,ee⟩:=st.ee
  refine wpAny_pyNext_enum_item ee st.s1 pu.isList (by simpa using eux) d λh' eo it' pr sz kp=>⟨_,rfl,?_⟩
  refine wpAny_letOwnedTupleGo_enum (s:={ s with heap:=h',toks:=s.toks+1 }) eo λg zz sb=>?_
  have hzl:e<s.heap.objs.size:=aI1 ee
  have up:∀c o,c≠e->c≠it->s.heap.get? c=some o->g.get? c=some o:=λc o c1 c2 z=>sb.extBut c o c1 (kp c o c1 c2 z)
  have hT:H s.heap.objs.size=none:=I.hok.fresh (aH7 _)
  have prG:g.get? s.heap.objs.size=some { cls:=.type "tuple",data:=.seq #[.int i s.toks,ux] }:=sb.extBut _ _ (aR7 hzl) pr
  have fpn:∀c u,H c=some u->c∉[e,it]:=λc u z hm=>by rw[(hf c hm).1]at z;cases z
  have upH:∀c o u,H c=some u->s.heap.get? c=some o->g.get? c=some o:=λc o u q z=>by
   have:=fpn c u q
   simp only[aH4,aH6,aL7,not_or]at this
   exact up c o this.1 this.2 z
  have ns:∀m,s.heap.Ns X.env.locals m->g.Ns X.env.locals m:=λm hm=>by
   obtain⟨o,es,ep,e1,e2⟩:=hm
   exact⟨o,es,ep,up _ o (Ne.symm (hf e (by simp)).2.1) (Ne.symm (hf it (by simp)).2.1) e1,e2⟩
  have I2:a6 X pins σ (upd H s.heap.objs.size (.tup [.int i,x])) { s with heap:=g,toks:=s.toks+1 }:=by
   refine I.step (g':=s.gens) (d':=s.drawn) (ch:=[e,it]) (λc hc'=>?_) (λc o _ _ hc' z _=>?_) (λc o _ _ hc' z _=>⟨o.slots,?_⟩) (λc o _ z n=>?_) (λc o hc' z=>⟨o,?_⟩)
    (λc zs z=>by rw[aJ (c9 z hT)];exact z) (λc u zs z=>by rw[aJ (c9 z hT)];exact z) (λc ps z=>⟨#[],by rw[aJ (c9 z hT),z];simp⟩) ns (λc u z=>?_) I.bare
   ·exact⟨(hf c hc').2.2.2.1,(hf c hc').2.1,(hf c hc').2.2.2.2.1,(hf c hc').2.2.2.2.2⟩
   ·simp only[aH4,aH6,aL7,not_or]at hc'
    exact up c o hc'.1 hc'.2 z
   ·simp only[aH4,aH6,aL7,not_or]at hc'
    exact up c o hc'.1 hc'.2 z
   ·rw[aJ (aL5 (aI1 z))];exact n
   ·simp only[aH4,aH6,aL7,not_or]at hc'
    exact up c o hc'.1 hc'.2 z
   ·by_cases hcT:c=s.heap.objs.size
    ·subst hcT
     rw[b7]at z;cases z
     exact⟨by show 2<=sizeLine;decide,[.int i s.toks,ux],.cons ⟨_,rfl⟩ (.cons rux .nil),⟨_,prG,rfl,_,rfl⟩,λu e=>by rw[prG]at e;cases e;rfl⟩
    ·rw[aJ hcT]at z
     refine (I.hok c u z).stay (λc' o' hc2 q'=>?_) (λc' q'=>by rw[aJ (c9 q' hT)];exact q') λc' zs q'=>by rw[aJ (c9 q' hT)];exact q'
     rcases hc2 with rfl|hc2
     ·exact upH _ _ _ z q'
     ·exact upH _ _ _ hc2 q'
  refine⟨.ref s.heap.objs.size,_,I2,rfl,⟨_,x,hT,rfl,rfl,λxs' ha'=>?_⟩,⟨⟨ux,by push_cast;exact zz⟩,it'.at λo z=>sb.extBut _ o (Ne.symm d) z⟩,λc hc'=>?_⟩
  ·rw[I.list_inj ha' ha];exact hx
  ·obtain⟨o,z⟩:∃o,s.heap.get? c=some o:=by
    simp only[aH4,aH6,aL7]at hc'
    obtain⟨o1,f1,_⟩:=st.s1
    rcases hc' with rfl|rfl
    ·exact⟨_,ee⟩
    ·exact⟨_,f1⟩
   rw[aJ (aL5 (aI1 z))];exact (hf c hc').1
 ·intro X hP hw hK hc i pins s σ H E I hf st hg
  subst hP hw hK
  obtain⟨xs,ha,hi⟩:=hg
  obtain⟨us,ru,pu,lu⟩:=I.list ha
  obtain⟨old,ee⟩:=st.ee
  have hh:X.A.handled=none:=I.ok.hd hc
  have e1:=ru.length
  refine wpAny_pyNext_enum_end hh ee st.s1 pu.isList (by rw[Array.getElem?_eq_none];simp only[aH3];omega) λg kp=>⟨rfl,?_⟩
  have fpn:∀c u,H c=some u->c∉[e,it]:=λc u z hm=>by rw[(hf c hm).1]at z;cases z
  have upH:∀c o u,H c=some u->s.heap.get? c=some o->g.get? c=some o:=λc o u q z=>by
   have:=fpn c u q
   simp only[aH4,aH6,aL7,not_or]at this
   exact kp c o this.2 z
  have ns:∀m,s.heap.Ns X.env.locals m->g.Ns X.env.locals m:=λm hm=>by
   obtain⟨o,es,ep,e1,e2⟩:=hm
   exact⟨o,es,ep,kp _ o (Ne.symm (hf it (by simp)).2.1) e1,e2⟩
  refine I.step (g':=s.gens) (d':=s.drawn) (ch:=[it]) (λc hc'=>?_) (λc o _ _ hc' z _=>?_) (λc o _ _ hc' z _=>⟨o.slots,?_⟩) (λc o _ z n=>n) (λc o hc' z=>⟨o,?_⟩)
   (λc zs z=>z) (λc u zs z=>z) (λc ps z=>⟨#[],by rw[z];simp⟩) ns (λc u z=>?_) I.bare
  ·have hm:c∈[e,it]:=aJ2 _ hc'
   exact⟨(hf c hm).2.2.2.1,(hf c hm).2.1,(hf c hm).2.2.2.2.1,(hf c hm).2.2.2.2.2⟩
  ·exact kp c o (λy=>hc' (by rw[y];simp)) z
  ·exact kp c o (λy=>hc' (by rw[y];simp)) z
  ·exact kp c o (λy=>hc' (by rw[y];simp)) z
  ·refine (I.hok c u z).stay (λc' o' hc2 q'=>?_) (λ_ q'=>q') λ_ _ q'=>q'
   rcases hc2 with rfl|hc2
   ·exact upH _ _ _ z q'
   ·exact upH _ _ _ hc2 q'
 ·obtain⟨old,ee⟩:=st.ee
  exact wpAny_pyIter_enum ee q
end L2
namespace Zp
open PySem PyProof.Rows
section
variable {prog:Program}{w:World}{A:Around}{E:Value→Shared→Prop}{s:Shared}
theorem ar1 {e it t:Addr}{i:Nat}{items:Array Value}{x old:Value}{Q:Option Value->Shared->Prop}(he:IsEnum s.heap e it i old)(hi:s.heap.IsTupleIter it t i)(ht:s.heap.IsTuple t items)(hx:items[i]? = some x)(ne:e≠it)(q:∀h',IsEnumOut h' e it ((i:Int)+1) x s.heap.objs.size->h'.IsTupleIter it t (i+1)->h'.get? s.heap.objs.size=some { cls:=.type "tuple",data:=.seq #[.int i s.toks,x] }->h'.objs.size=s.heap.objs.size+1->
   (∀b o,b≠e->b≠it->s.heap.get? b=some o->h'.get? b=some o)->Q (some (.ref s.heap.objs.size)) { s with heap:=h',toks:=s.toks+1 }):wpAny (model prog w) A (pyNext (.ref e)) Q E s:=by
 have T:s.TypeIs (.ref e) "enumerate":=⟨_,he,rfl⟩
 have slot:=PySem.F.slot_enumerate_next
 unfold pyNext
 apply aH1
 apply wpAny_attempt
 apply aO0 (name:=Str.ofString "__next__") T slot
 apply aP6 slot T PySem.F.entry_enumerate_next _ (PySem.F.args_enumerate_next_1 _)
 change wpAny _ _ (field (.ref e) 2 >>= _) _ _ _
 apply aH1
 refine aM5 he rfl (x:=.ref it) rfl ?_
 apply aH1
 refine xO hi ht hx λg1 it1 sb1=>?_
 have e1:IsEnum g1 e it i old:=sb1.extBut _ _ ne he
 change wpAny _ _ (field (.ref e) 3 >>= _) _ _ _
 apply aH1
 refine aM5 e1 rfl (x:=rawInt i) rfl ?_
 change wpAny _ _ (field (.ref e) 4 >>= _) _ _ _
 apply aH1
 refine aM5 e1 rfl (x:=.none) rfl ?_
 change wpAny _ _ (mkInt i >>= _) _ _ _
 apply aH1
 refine wpAny_mkInt ?_
 change wpAny _ _ (setField (.ref e) 3 (rawInt ((i:Int)+1)) >>= _) _ _ _
 apply aH1
 refine aO9 e1 (by simp) λg2 e2 sb2=>?_
 apply aH1
 refine aO9 e2 (by simp) λg3 e3 sb3=>?_
 have e3:IsEnum g3 e it ((i:Int)+1) old:=e3
 apply aH1
 refine wpAny_newTuple ?_ (by show 2<=sizeLine;decide)
 have e4:IsEnum (g3.push { cls:=.type "tuple",data:=.seq #[.int i s.toks,x] }) e it ((i:Int)+1) old:=aH2 _ e3
 have size:g3.objs.size=s.heap.objs.size:=by rw[sb3.1,sb2.1,sb1.1]
 change wpAny _ _ (Builtin.SmallTypes.ownedTupleIsFree (.ref e) >>= _) _ _ _
 apply aH1
 unfold Builtin.SmallTypes.ownedTupleIsFree
 apply aH1
 refine aM5 e4 rfl (x:=.none) rfl (aH9 ?_)
 simp only[if_true]
 apply aH1
 apply aY0
 apply aH1
 refine aM5 e4 rfl (x:=old) rfl ?_
 apply aH1
 refine aO9 e4 (by simp) λg5 e5 sb5=>?_
 apply aH1
 unfold Builtin.SmallTypes.ownedTupleHandOut
 apply aH1
 refine aO9 e5 (by simp) λg6 e6 sb6=>?_
 refine aO9 e6 (by simp) λg7 e7 sb7=>?_
 have e7:IsEnumOut g7 e it ((i:Int)+1) x g3.objs.size:=e7
 have elt:e<g3.objs.size:=aI1 e3
 have up:∀c o,c≠e->(g3.push { cls:=.type "tuple",data:=.seq #[.int i s.toks,x] }).get? c=some o->g7.get? c=some o:=λc o c1 z=>sb7.extBut c o c1 (sb6.extBut c o c1 (sb5.extBut c o c1 z))
 have up3:∀c o,c≠e->g1.get? c=some o->g7.get? c=some o:=λc o c1 z=>up c o c1 (aH2 _ (sb3.extBut c o c1 (sb2.extBut c o c1 z)))
 have p7:g7.get? g3.objs.size=some { cls:=.type "tuple",data:=.seq #[.int i s.toks,x] }:=up _ _ (aR7 elt) (aJ3 _ rfl)
 have s7:g7.objs.size=g3.objs.size+1:=by rw[sb7.1,sb6.1,sb5.1,aQ8]
 apply aH1
 apply wpAny_letGo
 apply aH9
 rw[size]at e7 p7 s7
 refine⟨_,rfl,aH9 ?_⟩
 change Q (some (.ref g3.objs.size)) _
 rw[size]
 exact q g7 e7 (it1.at λo z=>up3 it o (Ne.symm ne) z) p7 s7 λb o b1 b2 z=>up3 b o b1 (sb1.extBut b o b2 z)
theorem ar2 {e it t:Addr}{i:Nat}{items:Array Value}{old:Value}{Q:Option Value->Shared->Prop}(hh:A.handled=none)(he:IsEnum s.heap e it i old)(hi:s.heap.IsTupleIter it t i)(ht:s.heap.IsTuple t items)(hx:items[i]? = none)(q:∀h',Heap.ExtBut it s.heap h'->Q none { s with heap:=h' }):wpAny (model prog w) A (pyNext (.ref e)) Q E s:=by
 have T:s.TypeIs (.ref e) "enumerate":=⟨_,he,rfl⟩
 have slot:=PySem.F.slot_enumerate_next
 unfold pyNext
 apply aH1
 apply wpAny_attempt
 apply aO0 (name:=Str.ofString "__next__") T slot
 apply aP6 slot T PySem.F.entry_enumerate_next _ (PySem.F.args_enumerate_next_1 _)
 change wpAny _ _ (field (.ref e) 2 >>= _) _ _ _
 apply aH1
 refine aM5 he rfl (x:=.ref it) rfl ?_
 apply aH1
 refine xP hh hi ht hx λg2 ex eb exo=>?_
 obtain⟨oe,eo,co⟩:=exo
 apply aH1
 refine wpAny_isInstance (T:="StopIteration") (b:=true) ⟨oe,eo,co⟩ isSubtype_stop ?_
 exact aH9 (q g2 eb)
theorem ar3 {M:Model}{A:Around}{E:Value->Shared->Prop}{s:Shared}{α:Type}{c:Prop}[Decidable c]{m n:Sem α}{Q:α->Shared->Prop}(h1:wpAny M A m Q E s)(h2:wpAny M A n Q E s):wpAny M A (if c then m else n) Q E s:=by
 split
 ·exact h1
 ·exact h2
theorem ar4 (t:Addr)(xs:Array Value):Meets (Builtin.«enumerate.__new__» ⟨[.type "enumerate",.ref t],[]⟩) (λ_ R s=>s.heap.IsTuple t xs/\R (.ok (.ret (.ref (s.heap.objs.size+1)))) { s with heap:=(s.heap.push { cls:=.type "tuple_iterator",data:=.fields #[.ref t,.int 0 0] }).push { cls:=.type "enumerate",data:=.fields #[.none,.bool false,.ref s.heap.objs.size,rawInt 0,.none,.none] } }):=
 .of_wp λprog w A R s h=>by
  obtain⟨hp,g,d,tk,os⟩:=s
  obtain⟨ht,h⟩:=h
  have sub:=sub_enumerate
  have a1:Heap.IsTuple (Shared.heap ⟨hp,g,d,tk,os⟩) t xs:=ht
  wp_walk using aW0 a1
  refine wpAny_stack_any λst=>aH9 ?_
  refine ar3 ?_ ?_
  all_goals
   apply aH1
   refine wpAny_of_eq (a:=(Value.ref t,none)) rfl ?_
   wp_walk using aW0 a1
   have e:∀(o:Obj) (k:Heap),(k.push o).objs.size=k.objs.size+1:=λo k=>aQ8 ..
   refine⟨_,rfl,?_⟩
   simp only[e]at h ⊢
   exact h
theorem ar5 {t:Addr}{xs:Array Value}{Q:Value->Shared->Prop}(ht:s.heap.IsTuple t xs)(q:∀h',IsEnum h' (s.heap.objs.size+1) s.heap.objs.size 0 .none->h'.IsTupleIter s.heap.objs.size t 0->h'.objs.size=s.heap.objs.size+2->(∀c o,s.heap.get? c=some o->h'.get? c=some o)->Q (.ref (s.heap.objs.size+1)) { s with heap:=h' }) :
  wpAny (model prog w) A (call (.type "enumerate") [.ref t]) Q E s:=by
 refine callType_new PySem.F.called_enumerate (by decide) (PySem.F.typeCall_enumerate_1 _) (PySem.F.newCall_enumerate_1 _) (λobj=>PySem.F.args_object_init_2 obj _) PySem.F.entry_enumerate_new (ar4 t xs) ⟨ht,?_⟩
 have e:∀(o:Obj) (k:Heap),(k.push o).objs.size=k.objs.size+1:=λo k=>aQ8 ..
 have g0:((s.heap.push { cls:=.type "tuple_iterator",data:=.fields #[.ref t,.int 0 0] }).push { cls:=.type "enumerate",data:=.fields #[.none,.bool false,.ref s.heap.objs.size,rawInt 0,.none,.none] }).get? s.heap.objs.size=some { cls:=.type "tuple_iterator",data:=.fields #[.ref t,.int 0 0] }:=aH2 _ (aJ3 _ rfl)
 have g1:((s.heap.push { cls:=.type "tuple_iterator",data:=.fields #[.ref t,.int 0 0] }).push { cls:=.type "enumerate",data:=.fields #[.none,.bool false,.ref s.heap.objs.size,rawInt 0,.none,.none] }).get? (s.heap.objs.size+1)=some { cls:=.type "enumerate",data:=.fields #[.none,.bool false,.ref s.heap.objs.size,rawInt 0,.none,.none] }:=by
  have:=aJ3 (h:=s.heap.push { cls:=.type "tuple_iterator",data:=.fields #[.ref t,.int 0 0] }) (o:={ cls:=.type "enumerate",data:=.fields #[.none,.bool false,.ref s.heap.objs.size,rawInt 0,.none,.none] }) rfl
  rw[e]at this;exact this
 exact⟨⟨_,g1,rfl⟩,q _ g1 ⟨_,g0,rfl,rfl⟩ (by rw[e,e]) λc o z=>aH2 _ (aH2 _ z)⟩
end
end Zp
namespace L2
open PySem PySem.Spec PyProof.Rows
def tP (K:ac)(a:Addr):It:=
  ⟨λi H=>∃xs x,aN K H a xs/\xs[i]? = some x,
   λi H v H'=>∃T x,H T=none/\v = .ref T/\H'=upd H T (.tup [.int i,x])/\∀xs,aN K H a xs->xs[i]? = some x,
   λi H=>∃xs,aN K H a xs/\xs.length<=i⟩
structure ar6 (e it a:Addr)(i:Nat)(h:Heap):Prop where
 ee:∃old,IsEnum h e it i old
 s1:h.IsTupleIter it a i
theorem ar7 {P:Program}{w:World}{K:ac}{elts:List Expr}{k:Nat}{pos:Pos}(a e it:Addr)(d:e≠it) :
  gA P w K (.Tuple elts k pos) (tP K a) [e,it] e (ar6 e it a):=by
 refine⟨by simp,λi h st c hc=>?_,λi h h' st kp=>?_,?_,?_,λA i s Q E st q=>?_⟩
 ·simp only[aH4,aH6,aL7]at hc
  obtain⟨old,ee⟩:=st.ee
  obtain⟨o1,f1,g1,d1⟩:=st.s1
  rcases hc with rfl|rfl
  ·exact⟨_,ee,λv q=>by cases q⟩
  ·exact⟨_,f1,λv q=>by rw[d1]at q;cases q⟩
 ·obtain⟨old,ee⟩:=st.ee
  exact⟨⟨old,kp e (by simp) _ ee⟩,st.s1.at λo z=>kp it (by simp) o z⟩
 ·intro X hP hw hK hc i pins s σ H E I hf st hg
  subst hP hw hK
  obtain⟨xs,x,ha,hx⟩:=hg
  obtain⟨us,ru,pu,lu⟩:=I.tuple ha
  obtain⟨ux,eux,rux⟩:=ru.get hx
  obtain⟨old,ee⟩:=st.ee
  refine Zp.ar1 ee st.s1 pu (by simpa using eux) d λh' eo it' pr sz kp=>⟨_,rfl,?_⟩
  refine wpAny_letOwnedTupleGo_enum (s:={ s with heap:=h',toks:=s.toks+1 }) eo λg zz sb=>?_
  have hzl:e<s.heap.objs.size:=aI1 ee
  have up:∀c o,c≠e->c≠it->s.heap.get? c=some o->g.get? c=some o:=λc o c1 c2 z=>sb.extBut c o c1 (kp c o c1 c2 z)
  have hT:H s.heap.objs.size=none:=I.hok.fresh (aH7 _)
  have prG:g.get? s.heap.objs.size=some { cls:=.type "tuple",data:=.seq #[.int i s.toks,ux] }:=sb.extBut _ _ (aR7 hzl) pr
  have fpn:∀c u,H c=some u->c∉[e,it]:=λc u z hm=>by rw[(hf c hm).1]at z;cases z
  have upH:∀c o u,H c=some u->s.heap.get? c=some o->g.get? c=some o:=λc o u q z=>by
   have:=fpn c u q
   simp only[aH4,aH6,aL7,not_or]at this
   exact up c o this.1 this.2 z
  have ns:∀m,s.heap.Ns X.env.locals m->g.Ns X.env.locals m:=λm hm=>by
   obtain⟨o,es,ep,e1,e2⟩:=hm
   exact⟨o,es,ep,up _ o (Ne.symm (hf e (by simp)).2.1) (Ne.symm (hf it (by simp)).2.1) e1,e2⟩
  have I2:a6 X pins σ (upd H s.heap.objs.size (.tup [.int i,x])) { s with heap:=g,toks:=s.toks+1 }:=by
   refine I.step (g':=s.gens) (d':=s.drawn) (ch:=[e,it]) (λc hc'=>?_) (λc o _ _ hc' z _=>?_) (λc o _ _ hc' z _=>⟨o.slots,?_⟩) (λc o _ z n=>?_) (λc o hc' z=>⟨o,?_⟩)
    (λc zs z=>by rw[aJ (c9 z hT)];exact z) (λc u zs z=>by rw[aJ (c9 z hT)];exact z) (λc ps z=>⟨#[],by rw[aJ (c9 z hT),z];simp⟩) ns (λc u z=>?_) I.bare
   ·exact⟨(hf c hc').2.2.2.1,(hf c hc').2.1,(hf c hc').2.2.2.2.1,(hf c hc').2.2.2.2.2⟩
   ·simp only[aH4,aH6,aL7,not_or]at hc'
    exact up c o hc'.1 hc'.2 z
   ·simp only[aH4,aH6,aL7,not_or]at hc'
    exact up c o hc'.1 hc'.2 z
   ·rw[aJ (aL5 (aI1 z))];exact n
   ·simp only[aH4,aH6,aL7,not_or]at hc'
    exact up c o hc'.1 hc'.2 z
   ·by_cases hcT:c=s.heap.objs.size
    ·subst hcT
     rw[b7]at z;cases z
     exact⟨by show 2<=sizeLine;decide,[.int i s.toks,ux],.cons ⟨_,rfl⟩ (.cons rux .nil),⟨_,prG,rfl,_,rfl⟩,λu e=>by rw[prG]at e;cases e;rfl⟩
    ·rw[aJ hcT]at z
     refine (I.hok c u z).stay (λc' o' hc2 q'=>?_) (λc' q'=>by rw[aJ (c9 q' hT)];exact q') λc' zs q'=>by rw[aJ (c9 q' hT)];exact q'
     rcases hc2 with rfl|hc2
     ·exact upH _ _ _ z q'
     ·exact upH _ _ _ hc2 q'
  refine⟨.ref s.heap.objs.size,_,I2,rfl,⟨_,x,hT,rfl,rfl,λxs' ha'=>?_⟩,⟨⟨ux,by push_cast;exact zz⟩,it'.at λo z=>sb.extBut _ o (Ne.symm d) z⟩,λc hc'=>?_⟩
  ·rw[I.tuple_inj ha' ha];exact hx
  ·obtain⟨o,z⟩:∃o,s.heap.get? c=some o:=by
    simp only[aH4,aH6,aL7]at hc'
    obtain⟨o1,f1,_⟩:=st.s1
    rcases hc' with rfl|rfl
    ·exact⟨_,ee⟩
    ·exact⟨_,f1⟩
   rw[aJ (aL5 (aI1 z))];exact (hf c hc').1
 ·intro X hP hw hK hc i pins s σ H E I hf st hg
  subst hP hw hK
  obtain⟨xs,ha,hi⟩:=hg
  obtain⟨us,ru,pu,lu⟩:=I.tuple ha
  obtain⟨old,ee⟩:=st.ee
  have hh:X.A.handled=none:=I.ok.hd hc
  have e1:=ru.length
  refine Zp.ar2 hh ee st.s1 pu (by rw[Array.getElem?_eq_none];simp only[aH3];omega) λg kp=>⟨rfl,?_⟩
  have fpn:∀c u,H c=some u->c∉[e,it]:=λc u z hm=>by rw[(hf c hm).1]at z;cases z
  have upH:∀c o u,H c=some u->s.heap.get? c=some o->g.get? c=some o:=λc o u q z=>by
   have:=fpn c u q
   simp only[aH4,aH6,aL7,not_or]at this
   exact kp c o this.2 z
  have ns:∀m,s.heap.Ns X.env.locals m->g.Ns X.env.locals m:=λm hm=>by
   obtain⟨o,es,ep,e1,e2⟩:=hm
   exact⟨o,es,ep,kp _ o (Ne.symm (hf it (by simp)).2.1) e1,e2⟩
  refine I.step (g':=s.gens) (d':=s.drawn) (ch:=[it]) (λc hc'=>?_) (λc o _ _ hc' z _=>?_) (λc o _ _ hc' z _=>⟨o.slots,?_⟩) (λc o _ z n=>n) (λc o hc' z=>⟨o,?_⟩)
   (λc zs z=>z) (λc u zs z=>z) (λc ps z=>⟨#[],by rw[z];simp⟩) ns (λc u z=>?_) I.bare
  ·have hm:c∈[e,it]:=aJ2 _ hc'
   exact⟨(hf c hm).2.2.2.1,(hf c hm).2.1,(hf c hm).2.2.2.2.1,(hf c hm).2.2.2.2.2⟩
  ·exact kp c o (λy=>hc' (by rw[y];simp)) z
  ·exact kp c o (λy=>hc' (by rw[y];simp)) z
  ·exact kp c o (λy=>hc' (by rw[y];simp)) z
  ·refine (I.hok c u z).stay (λc' o' hc2 q'=>?_) (λ_ q'=>q') λ_ _ q'=>q'
   rcases hc2 with rfl|hc2
   ·exact upH _ _ _ z q'
   ·exact upH _ _ _ hc2 q'
 ·obtain⟨old,ee⟩:=st.ee
  exact wpAny_pyIter_enum ee q
section
variable {X:Cx}
def C2 (K:ac)(ta:TA):TI:=λσ H R=>ta σ H λvs H1=>∃a,vs = [.ref a]/\((∃xs,aP K H1 a xs/\R (tO K a) H1)∨(∃xs,aN K H1 a xs/\R (tP K a) H1))
theorem ar8 {elts:List Expr}{kt:Nat}{pt:Pos}{a:Expr}{ta:TA}{p pos:Pos}(hg:Gl X "enumerate")(hm:X.mg "enumerate" = none)(ha:PA X [a] ta)(hs:starEach [a] X.env = [(false,eval a X.env)]:=by rfl) :
  PI X (.Tuple elts kt pt) (.Call (.Name "enumerate" p) [a] [] pos) (C2 X.K ta):=by
 intro pins s σ H R I h
 refine Call_ (jC I hg hm PyProof.Rows.boot_enumerate (aS5 (aQ (ha pos pins s σ H _ I h) λus s1 ⟨vs,H1,I1,r1,q1⟩=>?_) (by rw[hs];rfl) (by rfl)))
 obtain⟨a',e,q⟩:=q1
 subst e
 have fresh:∀k,H1 (s1.heap.objs.size+k)=none:=λk=>I1.hok.fresh (aT7 _ _)
 cases r1 with
 |cons r rr=>
  cases rr
  cases r
  rcases q with⟨xs,h1,q⟩|⟨xs,h1,q⟩
  ·obtain⟨us,_,p1,_⟩:=I1.list h1
   refine call_enumerate_list p1.isList λh' z s1' sz kp=>wpAny_pyIter_enum z ?_
   refine⟨s1.heap.objs.size+1,[s1.heap.objs.size+1,s1.heap.objs.size],_,_,H1,rfl,I1.kept (t':=s1.toks) kp,
    ar0 a' _ _ (Nat.succ_ne_self _),⟨⟨_,z⟩,s1'⟩,λc hc=>?_,q⟩
   simp only[aH4,aH6,aL7]at hc
   rcases hc with rfl|rfl
   ·exact I1.fpOk (aT7 _ _) (fresh 1)
   ·exact I1.fpOk (aH7 _) (fresh 0)
  ·obtain⟨us,_,p1,_⟩:=I1.tuple h1
   refine Zp.ar5 p1 λh' z s1' sz kp=>wpAny_pyIter_enum z ?_
   refine⟨s1.heap.objs.size+1,[s1.heap.objs.size+1,s1.heap.objs.size],_,_,H1,rfl,I1.kept (t':=s1.toks) kp,
    ar7 a' _ _ (Nat.succ_ne_self _),⟨⟨_,z⟩,s1'⟩,λc hc=>?_,q⟩
   simp only[aH4,aH6,aL7]at hc
   rcases hc with rfl|rfl
   ·exact I1.fpOk (aT7 _ _) (fresh 1)
   ·exact I1.fpOk (aH7 _) (fresh 0)
end
end L2
namespace PP
open PySem L2 PyProof.Rows
def iI (xs:List PV):List PV:=xs.mapIdx λi x=>PV.tup [.int (i:Int),x]
theorem tQ (xs:List PV):(iI xs).length=xs.length:=by unfold iI;rw[List.length_mapIdx]
theorem C3 {xs:List PV}{i:Nat}{x:PV}(h:xs[i]? = some x):(iI xs)[i]? = some (.tup [.int (i:Int),x]):=by
 unfold iI;rw[List.getElem?_mapIdx,h];rfl
theorem ar9 {xs:List PV}{i:Nat}{z:PV}(h:(iI xs)[i]? = some z):∃x,xs[i]? = some x/\z = .tup [.int (i:Int),x]:=by
 unfold iI at h
 rw[List.getElem?_mapIdx]at h
 cases e:xs[i]? with
 |none=>rw[e]at h;cases h
 |some x=>rw[e]at h;exact⟨x,rfl,(aL6 h).symm⟩
def tR (te:aD):dF:=λρ Q=>te ρ λx g=>∃xs,(x = .lst xs∨x = .tup xs)/\(g = .rd->flat x=true)/\Q (iI xs) (oN g xs)
theorem as0 {K:ac}{H0:Hp}{W:Addr->Prop}{g:Bool}{H1:Hp}{a:Addr}{us:List V}{xs:List PV}(tw:∀a,W a->∃o,H1 a=some o/\dO o=true)(ha:∀W' H',Ev W H1 W' H'->aP K H' a us)(r:Reps K (Ms H0 W g) H1 us xs):iW K H0 W g H1 (tO K a) (iI xs):=by
 have lr:=r.length
 have ll:=tQ xs
 refine⟨λW' H' i e hi=>⟨us,us[i]'(by omega),ha W' H' e,by simp⟩,λW' H' i v H2 e y hi=>?_,λW' H' e=>⟨us,ha W' H' e,by omega⟩⟩
 obtain⟨T,x,hT,rfl,rfl,y⟩:=y
 obtain⟨z,hz,rz⟩:=r.get (y us (ha W' _ e))
 have sm:=b8 hT (HO.tup [.int (i:Int),x])
 exact⟨sm,_,C3 hz,.tup b7 (.cons (.int _) (.cons ((rz.keep (e.keep tw)).same sm λ_ q=>q) .nil))⟩
theorem as1 {K:ac}{H0:Hp}{W:Addr->Prop}{g:Bool}{H1:Hp}{a:Addr}{us:List V}{xs:List PV}(tw:∀a,W a->∃o,H1 a=some o/\dO o=true)(ha:∀W' H',Ev W H1 W' H'->aN K H' a us)(r:Reps K (Ms H0 W g) H1 us xs):iW K H0 W g H1 (tP K a) (iI xs):=by
 have lr:=r.length
 have ll:=tQ xs
 refine⟨λW' H' i e hi=>⟨us,us[i]'(by omega),ha W' H' e,by simp⟩,λW' H' i v H2 e y hi=>?_,λW' H' e=>⟨us,ha W' H' e,by omega⟩⟩
 obtain⟨T,x,hT,rfl,rfl,y⟩:=y
 obtain⟨z,hz,rz⟩:=r.get (y us (ha W' _ e))
 have sm:=b8 hT (HO.tup [.int (i:Int),x])
 exact⟨sm,_,C3 hz,.tup b7 (.cons (.int _) (.cons ((rz.keep (e.keep tw)).same sm λ_ q=>q) .nil))⟩
section
variable {X:Cx}{σ:L2.St}{H:Hp}{te:aD}{R:It→Hp→Prop}
theorem as2 (h:LI X (tR te) σ H R):C2 X.K (dL (LE X te) gB) σ H R:=by
 obtain⟨W,ρ,Q,px,q,k⟩:=h
 refine⟨W,ρ,_,px,q,?_⟩
 rintro v H1 x g s r ⟨xs,hx,hg,q⟩
 have px1:=px.mono s
 have tw:∀a,W a->∃o,H1 a=some o/\dO o=true:=λa z=>(px1.wm a z).2
 rcases hx with rfl|rfl
 ·obtain⟨a,us,rfl,m,h,r⟩:=r.sqL
  have wa:¬W a:=by
   cases g with
   |fr=>exact (px.new m).1
   |nw=>exact m.1
   |sh=>exact m
   |rd=>have:=hg rfl;unfold flat at this;cases this
  exact⟨a,rfl,.inl ⟨us,aP.of h,k _ _ _ _ s (as0 tw (λW' H' e=>aP.of (e _ _ h wa rfl).1) (jK px (λz=>by have:=hg z;unfold flat at this;cases this) r)) q⟩⟩
 ·obtain⟨a,us,rfl,h,r⟩:=r.sqT
  refine⟨a,rfl,.inr ⟨us,aN.of h,k _ _ _ _ s (as1 tw (λW' H' e=>aN.of (e _ _ h (λz=>?_) rfl).1) (jK px (λz=>by have:=hg z;unfold flat at this;exact this) r)) q⟩⟩
  obtain⟨o,h',mu⟩:=tw _ z;rw[h]at h';cases h';cases mu
theorem as3 {elts:List Expr}{kt:Nat}{pt p2 pos:Pos}{a:Expr}{ta:aD}(hg:Gl X "enumerate")(hm:X.mg "enumerate" = none)(ha:QE X a ta)(hs:starEach [a] X.env = [(false,eval a X.env)]:=by rfl):QI X (.Tuple elts kt pt) (.Call (.Name "enumerate" p2) [a] [] pos) (tR ta):=
 mL (ar8 hg hm (cI ha dU hs) hs) λ_ _ _=>as2
end
section
variable {X:Cx}{e:Expr}{te:aD}{pos p2:Pos}{scope:Scope}{N:List Str}{fr:List (Option Nat)}{x y:Str}{tp xp yp:Pos}{kt:Nat}{iter elt:Expr}{ti:dF}
abbrev tS (x y:Str)(xp yp:Pos)(kt:Nat)(tp:Pos):Expr:=.Tuple [.Name x xp,.Name y yp] kt tp
theorem as4 {ifs:List Expr}{tcs:cH}(hc:X.calm=true)(he:∀(s:Shared) (H:Hp) (C:Addr) (fp:List Addr),QE (bY X scope N s H C fp gY) elt te)(hi:∀(s:Shared) (H:Hp) (C:Addr) (fp:List Addr),jG (bY X scope N s H C fp gY) ifs (LT (bY X scope N s H C fp gY) tcs))(hN:N.Nodup)(h0:N[0]? = some x)(h1:N[1]? = some y)(hl:∀(s:Shared) (H:Hp) (C:Addr) (fp:List Addr),(bY X scope N s H C fp gY).env.scope.names.lookup x=some .local)(hl2:∀(s:Shared) (H:Hp) (C:Addr) (fp:List Addr),(bY X scope N s H C fp gY).env.scope.names.lookup y=some .local)(s:Shared)(H:Hp) :
  rN X scope N (tS x y xp yp kt tp) ifs elt s H (kF X.K 2 (g9 (dB 0) (g9 (dB 1) kD))) (LT (X.frm H) tcs) (LE (X.frm H) te):=
 ⟨λC fp=>qN (X:=bY X scope N s H C fp gY) hc (kE (iP hN h0 (.inl (hl s H C fp)) (.inr (hl s H C fp))) (kE (iP hN h1 (.inl (hl2 s H C fp)) (.inr (hl2 s H C fp))) qM)),λC fp=>hi s H C fp,λC fp=>he s H C fp⟩
theorem as5 (hi:QI X (tS x y xp yp kt tp) iter ti)(he:∀(s:Shared) (H:Hp) (C:Addr) (fp:List Addr),QE (bY X scope N s H C fp gY) elt te)(hc:X.calm=true:=by rfl)(S:eW X scope N fr:=by exact eW.of rfl rfl)(hN:N.Nodup:=by decide +kernel)(h0:N[0]? = some x:=by rfl)(h1:N[1]? = some y:=by rfl)(hl:∀(s:Shared) (H:Hp) (C:Addr) (fp:List Addr),(bY X scope N s H C fp gY).env.scope.names.lookup x=some .local:=by intro _ _ _ _;rfl)(hl2:∀(s:Shared) (H:Hp) (C:Addr) (fp:List Addr),(bY X scope N s H C fp gY).env.scope.names.lookup y=some .local:=by intro _ _ _ _;rfl)(hf:fr[0]? = some none:=by rfl)(hf2:fr[1]? = some none:=by rfl)(hs:∀x,foldedSetIterable iter X.env x=pure x:=by intro _;rfl):QE X (.ListComp elt [⟨tS x y xp yp kt tp,iter,[],0⟩] scope pos) (kS ti fr (jM 0 1) iY te):=
 bT (aa0 (gh:=λ_=>kF X.K 2 (g9 (dB 0) (g9 (dB 1) kD))) (tch:=λH=>LT (X.frm H) iY) (teh:=λH=>LE (X.frm H) te) hc S hi (as4 hc he (λ_ _ _ _=>yY) hN h0 h1 hl hl2) hs) λ_ _ _=>yL (sL _ 0 1) (λi e=>by rcases e with e|e<;>(subst e;assumption))
end
section
variable {X:Cx}{a b e o f:Expr}{ta tb te td tk tx:aD}{pos p2 apos cpos:Pos}{σ:L2.St}{H:Hp}{Q':VK}
def C4:PV->Tg->PV->Tg->PK->Prop:=λx _ y _ Q=>∃xs n,x = .lst xs/\y = .int n/\flats xs=true/\-1000000<=n/\n<=1000000/\xs.length<=10/\Q (.lst (List.replicate n.toNat xs).flatten) .fr
abbrev C5 (ta tb:aD):aD:=q2 C4 ta tb
theorem as6:dW X C4 wH:=by
 rintro W Hs H u v x y g g' Q Q' s n r1 r2 ⟨xs,m,rfl,rfl,f,h1,h2,hl,q⟩ k
 cases r2
 obtain⟨a,us,rfl,mm,h,r⟩:=r1.sqL
 have lr:=r.length
 refine⟨a,m,us,rfl,rfl,h,by omega,by omega,lim ?_,λp hp=>k _ _ _ .fr (b8 hp _) (.lst (s.free hp) b7 (((r.flat f).rep m.toNat).same (b8 hp _) λ_ z=>z)) q⟩
 have h3:us.length<=10:=by omega
 have h4:m.toNat<=1000000:=by omega
 calc us.length*m.toNat<=10*1000000:=Nat.mul_le_mul h3 h4
  _<=16000000:=by decide
theorem as7 (ha:QE X a ta)(hb:QE X b tb):QE X (.BinOp a .Mult b pos) (C5 ta tb):=iZ Y1 as6 ha hb
theorem C6 {x:Str}{n:Int}{t:Nat}(hg:Gl X x)(hm:X.mg x=some (.int n t))(hd:(x==("__debug__":Str))=false:=by decide):QE X (.Name x pos) (qC (.int n)):=
 bT (qJ (v:=.int n) hg hm ⟨t,rfl⟩ hd) λ_ _ _=>m8 λ_=>.int n
end
end PP
namespace Core
open PySem L2 PP
section
variable (ws:af)(ls:aa)(os ns:af)
def jZ:Nat->af
 |0=>[]
 |k+1=>jZ k++(os.find? (kin ws ls (ns++jZ k))).toList
def tT (k:Nat):Option Int:=os.find? (kin ws ls (ns++jZ ws ls os ns k))
end
section
variable {ws:af}{ls:aa}{os ns:af}
theorem aG7 {k:Nat}{h:Int}(e:tT ws ls os ns k=some h):jZ ws ls os ns (k+1)=jZ ws ls os ns k++[h]:=by
 show jZ ws ls os ns k++(tT ws ls os ns k).toList=_
 rw[e];rfl
def as8 (ws:af)(ls:aa)(T:af):Prop:=∀h∈rng ws.length,kin ws ls T h=false
theorem aG8 {k:Nat}{h:Int}(e:tT ws ls os ns k=some h):h∈os/\h∉ns++jZ ws ls os ns k:=
 ⟨List.mem_of_find?_eq_some e,of_decide_eq_false (ao0 (List.find?_some e))⟩
end
theorem as9 {i:Nat}{h:Int}{g:Bool}{ρ:b6}{Q:b6->Prop}(q:Q (ρ.set i (some (.sh true (.int h))))):dY i (.int h) g ρ Q:=by
 show Q (ρ.set i (some (.sh (g||true) (.int h))))
 rw[Bool.or_true];exact q
def at0 (ns S:af):Int:=(ns.length:Int)-(((ns.filter λx=>decide (x∈S)).length:Nat):Int)
def at2 (ws:af)(ls:aa)(S:af)(h:Int):Bool:=decide (at0 (oE ls h) S<ws.getD h.toNat 0)
def stay (ws:af)(ls:aa)(S:af):af:=S.filter (at2 ws ls S)
section
variable {ws:af}{ls:aa}{ns:af}
def aG9 (n:Nat)(S:af):af:=(rng n).filter λx=>!decide (x∈S)
end
theorem at3 {xs:List PV}{w:Int}(h:0<=w):e8 xs none (some w)=xs.take w.toNat:=by
 unfold e8
 rw[HT.U6,List.drop_zero,Nat.sub_zero]
 have:HT.aR xs.length xs.length (some w)=min w.toNat xs.length:=by
  show (if w<0 then (w+(xs.length:Int)).toNat else min w.toNat xs.length)=_
  rw[if_neg (by omega)]
 rw[this,<- List.take_take,List.take_length]
end Core
namespace PP
open PySem L2 PyProof.Rows
def hG (xs ys:List PV):List PV:=List.zipWith (λx y=>PV.tup [x,y]) xs ys
theorem tU (xs ys:List PV):(hG xs ys).length=min xs.length ys.length:=by unfold hG;rw[List.length_zipWith]
theorem C7 {xs ys:List PV}{i:Nat}{x y:PV}(h:xs[i]? = some x)(h':ys[i]? = some y):(hG xs ys)[i]? = some (.tup [x,y]):=by
 unfold hG;rw[List.getElem?_zipWith,h,h']
theorem at4 {xs ys:List PV}{i:Nat}{z:PV}(h:(hG xs ys)[i]? = some z):∃x y,xs[i]? = some x/\ys[i]? = some y/\z = .tup [x,y]:=by
 unfold hG at h
 rw[List.getElem?_zipWith]at h
 cases e:xs[i]? with
 |none=>rw[e]at h;cases h
 |some x=>
  cases e':ys[i]? with
  |none=>rw[e,e']at h;cases h
  |some y=>rw[e,e']at h;exact⟨x,y,rfl,rfl,(aL6 h).symm⟩
theorem at5 {K:ac}{H0:Hp}{W:Addr->Prop}{g:Bool}{H1:Hp}{a b:Addr}{us vs:List V}{xs ys:List PV}(tw:∀a,W a->∃o,H1 a=some o/\dO o=true)(ha:∀W' H',Ev W H1 W' H'->aN K H' a us)(hb:∀W' H',Ev W H1 W' H'->aN K H' b vs)(r:Reps K (Ms H0 W g) H1 us xs)(r':Reps K (Ms H0 W g) H1 vs ys):iW K H0 W g H1 (rY K a b) (hG xs ys):=by
 have lr:=r.length
 have lr':=r'.length
 have ll:=tU xs ys
 refine⟨λW' H' i e hi=>⟨us,vs,us[i]'(by omega),vs[i]'(by omega),ha W' H' e,hb W' H' e,by simp,by simp⟩,λW' H' i v H2 e y hi=>?_,λW' H' e=>⟨us,vs,ha W' H' e,hb W' H' e,by omega⟩⟩
 obtain⟨T,x,y',hT,rfl,rfl,y⟩:=y
 obtain⟨h1,h2⟩:=y us vs (ha W' _ e) (hb W' _ e)
 obtain⟨z,hz,rz⟩:=r.get h1
 obtain⟨z',hz',rz'⟩:=r'.get h2
 have sm:=b8 hT (HO.tup [x,y'])
 exact⟨sm,_,C7 hz hz',.tup b7 (.cons ((rz.keep (e.keep tw)).same sm λ_ q=>q) (.cons ((rz'.keep (e.keep tw)).same sm λ_ q=>q) .nil))⟩
end PP
namespace Core
open PySem L2 PP
section
variable {ws:af}{ls:aa}{ns wts:af}{m:Nat}
def loose (ls:aa)(wts ns:af):List ((Int×Int)×Int):=(ls.zip wts).filter λz=>!(decide (z.1.1∈ns)&&decide (z.1.2∈ns))
end
end Core
namespace PP
open PySem L2 PyProof.Rows
section
variable {X:Cx}{a b e:Expr}{ta tb te:aD}{D:bN}{σ:L2.St}{H:Hp}{pos p2:Pos}
def tV (p:gK)(te:aD):aK:=λD ρ=>te ρ λx g=>oK g x/\p x (sD g x) ρ λρ2=>D.nx ρ2
theorem at6 {p:gK}{g:TG}{own:Nat->Prop}(hg:jL X.K own p g)(h:LS X (tV p te) D σ H):iQ (LE X te) g D σ H:=by
 obtain⟨W,ρ,D',px,q,k⟩:=h
 refine⟨W,ρ,_,px,q,?_⟩
 rintro v H1 x gt s r ⟨st,q⟩
 refine hg X.H₀ W σ ρ H1 v x _ _ _ (px.mono s) (yB px st r) q λσ' ρ' px' _ _ q'=>?_
 exact k.nx W σ' H1 ρ' (Ev.same s) px' q'
end
abbrev eQ:=(Str->Prop)->cO
def EX (K:ac)(H0:Hp)(Ep:Str->Prop):XK:=λc d H'=>d=none/\aH H0 H'/\∃n C,c = .ref C/\PySem.W.nsIn K mainGlobals n=some (some (.ref C))/\Ep n
def C8 (K:ac)(p:eQ):Sp:=λvs H Q E=>∃xs Qp Ep,Reps K (λ_=>True) H vs xs/\p Ep xs Qp/\(∀v H' x,aH H H'->aF K (λa=>H a=none) H' v x->Qp x->Q v H')/\
 ∀n C H',aH H H'->PySem.W.nsIn K mainGlobals n=some (some (.ref C))->Ep n->E (.ref C) none H'
structure dI (P:Program)(w:World)(K:ac)(mg:Str->Option Value)(base:Heap)(k:Nat)(x:Str)(ps:List Str)(p:eQ):Prop where
 ex:∃f fd,cR P w K mg base (cD P w) k f fd ps (C8 K p)/\i5 K fd ps []/\PySem.W.keepIn K (.ref f)=true/\mg x=some (.ref f)
section
variable {X:Cx}{σ:L2.St}{H:Hp}{D:bN}{tr:bS}{Q':VK}{a b c e:Expr}{es:List Expr}{pos p2 cp np hp:Pos}{t:aK}{te:aD}{tc:cH}
def tW (Ep:Str->Prop)(p:eQ)(t:bS):aD:=aI (p Ep) t
theorem C9 {p:eQ}{Ep:Str->Prop}(h:LE X (tW Ep p tr) σ H Q'):nV (C8 X.K p) [] (EX X.K X.H₀ Ep) (LA X tr) σ H Q':=by
 obtain⟨W,ρ,Q,px,q,k⟩:=h
 refine⟨W,ρ,_,px,q,λvs H1 xs s1 r1 q1=>⟨_,_,Ep,by rw[aR8];exact r1.any,q1,λv H' x s2 r2 q2=>k v H' x .fr (s1.trans s2) (r2.same (aH.refl _) λ_ z=>s1.free z) q2,λn C H' s2 z1 z2=>⟨rfl,(px.same.trans s1).trans s2,n,C,rfl,z1,z2⟩⟩⟩
theorem E1 {k j:Nat}{x:Str}{ps:List Str}{p:eQ}(d:dI X.prog X.w X.K X.mg X.base k x ps p)(hr:bJ j X.A)(ha:QA X (e::es) tr)(hkj:k<=j:=by decide)(hg:Gl X x:=by rfl)(hdb:(x==("__debug__":Str))=false:=by decide)(he:starEach (e::es) X.env=(false,eval e X.env)::starEach es X.env:=by rfl)(hpl:(backTo pos (starEach es X.env)).any (·.1)=false:=by rfl):QE X (.Call (.Name x p2) (e::es) [] pos) (aI (p λ_=>False) tr):=by
 obtain⟨f,fd,F,b,kp,m⟩:=d.ex
 refine bT (nW F (E:=EX X.K X.H₀ λ_=>False) (hr.mono hkj) hg m kp b .nil (λ_ _ _ _ _ _ _ h=>?_) ha hdb he hpl) λ_ _ _ h=>C9 (Ep:=λ_=>False) h
 obtain⟨_,_,_,_,_,_,_,_,_,_,_,_,z⟩:=h
 exact z.elim
def k6 (Ep:Str->Prop)(n:Str)(t:bS):aK:=λ_ ρ=>t ρ λxs=>xs.length<=1000/\Ep n
theorem at7 {Ep:Str->Prop}{n:Str}{C:Addr}(hn:PySem.W.nsIn X.K mainGlobals n=some (some (.ref C)))(h:LS X (k6 Ep n tr) D σ H):A0 (EX X.K X.H₀ Ep) C (LA X tr) D σ H:=by
 obtain⟨W,ρ,D',px,q,k⟩:=h
 exact⟨W,ρ,_,px,q,λvs H1 xs s1 r z=>⟨by rw[r.length];exact mB z.1,rfl,px.same.trans s1,n,C,rfl,hn,z.2⟩⟩
structure Xc (K:ac)(mg:Str->Option Value)(base:Heap)(n:Str):Prop where
 ex:∃C B newId initId bm,OwnCls n C bm newId mg base/\ExcBaseFacts B newId initId bm/\PySem.W.nsIn K mainGlobals n=some (some (.ref C))
theorem nF {Ep:Str->Prop}{n:Str}(hX:lC X (EX X.K X.H₀ Ep))(x:Xc X.K X.mg X.base n)(ha:QA X (e::es) tr)(hc:X.calm=true:=by rfl)(hg:Gl X n:=by rfl)(hd:(n==("__debug__":Str))=false:=by decide)(he:starEach (e::es) X.env=(false,eval e X.env)::starEach es X.env:=by rfl)(hpl:(backTo cp (starEach es X.env)).any (·.1)=false:=by rfl):QS X (.Raise (some (.Call (.Name n np) (e::es) [] cp)) none pos) (k6 Ep n tr):=by
 obtain⟨C,B,newId,initId,bm,O,FB,hn⟩:=x.ex
 exact dH (am6 hX hc O FB ha hg hd he hpl) λ_ _ _=>at7 hn
abbrev lE:=dX->(Str->Prop)->b6->Prop
def LB (X:Cx)(t:lE):TB:=λD Ex σ H=>∃(W:Addr->Prop) (ρ:b6) (D':dX) (Ep:Str->Prop),PX X.K X.H₀ W σ ρ H/\t D' Ep ρ/\mC X W H D' D/\∀n C H',aH H H'->PySem.W.nsIn X.K mainGlobals n=some (some (.ref C))->Ep n->Ex (.ref C) none H'
def QB (X:Cx)(sts:List Stmt)(t:lE):Prop:=PB X sts (LB X t)
theorem pbI {sts:List Stmt}{t t':TB}(h:PB X sts t)(m:∀D Ex σ H,t' D Ex σ H->t D Ex σ H):PB X sts t':=λpins s σ H D Ex I q=>h pins s σ H D Ex I (m D Ex σ H q)
def E2 (p:eQ)(t:bS):lE:=λD Ep ρ=>t ρ λxs=>p Ep (xs.map (·.1)) λ_=>D.nx ρ
theorem at8 {k j:Nat}{x:Str}{ps:List Str}{p:eQ}(d:dI X.prog X.w X.K X.mg X.base k x ps p)(hr:bJ j X.A)(ha:∀E,QA (X.wish E) (e::es) tr)(hkj:k<=j:=by decide)(hg:Gl X x:=by rfl)(hdb:(x==("__debug__":Str))=false:=by decide)(he:starEach (e::es) X.env=(false,eval e X.env)::starEach es X.env:=by rfl)(hpl:(backTo cp (starEach es X.env)).any (·.1)=false:=by rfl)(hsw:swapsWith (.Call (.Name x p2) (e::es) [] cp) none pos.line X.env=pure false:=by rfl):QB X [.Expr (.Call (.Name x p2) (e::es) [] cp) pos] (E2 p tr):=by
 obtain⟨f,fd,F,b,kp,m⟩:=d.ex
 refine pbI (an0 (t:=LA X tr) F (hr.mono hkj) hg m kp b (λE=>ha E) hdb he hpl hsw) λD Ex σ H h=>?_
 obtain⟨W,ρ,D',Ep,px,q,k,ke⟩:=h
 exact⟨W,ρ,_,px,q,λvs H1 xs s1 r q1=>⟨_,_,Ep,r.any,q1,λv H' x s2 r2 q2=>k.nx W σ H' ρ (Ev.same (s1.trans s2)) (px.mono (s1.trans s2)) q2,λn C H' s2 z1 z2=>ke n C H' (s1.trans s2) z1 z2⟩⟩
def E3 (D:dX)(i:Nat):dX:={ nx:=λρ=>D.nx (ρ.set i none),rt:=D.rt,bk:=λρ=>D.bk (ρ.set i none),ct:=λρ=>D.ct (ρ.set i none) }
def dS:List Str:=["BadWeb","BadSet","BadOrder","BadPrices","BadBoard","BadDeed","NotWood","NoPaper","NoSuch","TooMany","NoText","OddRound"]
def iJ (n m:Str):Option Bool:=if dS.contains n then some (n==m||m=="HearthError"||m=="ValueError") else none
def tX (m:Str)(i:Nat)(tb:lE)(ts:aK):aK:=λD ρ=>tb D (λn=>iJ n m=some true/\ts (E3 D i) (ρ.set i (some (.sh true (.exc n))))) ρ
theorem at9 {m:Str}{Ch:Addr}{i:Nat}{tb:lE}{ts:aK}(hs:∀n C,iJ n m=some true->PySem.W.nsIn X.K mainGlobals n=some (some (.ref C))->PySem.W.subIn X.K (.ref C) (.ref Ch)=some true)(h:LS X (tX m i tb ts) D σ H):A2 X.K Ch i (LB X tb) (LS X ts) D σ H:=by
 obtain⟨W,ρ,D',px,q,k⟩:=h
 refine⟨W,ρ,D',_,px,q,k,λn C H' s z1 z2 a C' oe hc na hcl=>?_⟩
 cases hc
 refine⟨hs n C z2.1 z1,W,_,E3 D' i,(px.mono (s.trans (b8 na _))).setSh (g:=true) (.exc b7 z1 hcl),z2.2,?_⟩
 have k':=k.step (Ev.same (W:=W) (s.trans (b8 na (.frz oe (.own a)))))
 exact⟨λW' σ' H2 ρ' ev px' q'=>k'.nx W' _ H2 _ ev px'.setNone q',k'.rt,λW' σ' H2 ρ' ev px' q'=>k'.bk W' _ H2 _ ev px'.setNone q',λW' σ' H2 ρ' ev px' q'=>k'.ct W' _ H2 _ ev px'.setNone q'⟩
structure tY (K:ac)(mg:Str->Option Value)(m:Str):Prop where
 ex:∃Ch,mg m=some (.ref Ch)/\tI K Ch/\∀n C,iJ n m=some true->PySem.W.nsIn K mainGlobals n=some (some (.ref C))->PySem.W.subIn K (.ref C) (.ref Ch)=some true
theorem au0 (i:Nat){m n:Str}{b₀:Stmt}{suite body:List Stmt}{tb:lE}{ts:aK}(ct:tY X.K X.mg m)(hN:X.N.Nodup)(hb:QB X body tb)(hs:∀a,dQ (X.suite a) (b₀::suite) ts)(hstk:X.stack=X.env::X.outer/\X.env.frame=some X.env.locals:=by exact⟨rfl,rfl⟩)(hi:X.N[i]? = some n:=by rfl)(hl:X.env.scope.names.lookup n=some .local:=by rfl)(hg:Gl X m:=by rfl)(hd:(m==("__debug__":Str))=false:=by decide):QS X (.Try body [.ExceptHandler (some (.Name m np)) (some n) (b₀::suite) hp] [] [] pos) (tX m i tb ts):=by
 obtain⟨Ch,hm,c,sub⟩:=ct.ex
 exact dH (an1 (ts:=LS X ts) hstk hb hg hm c hN hi hl (λa=>jQ (hs a) λ_ _ _ ⟨W,ρ,D',px,q,k⟩=>⟨W,ρ,D',px,q,⟨k.nx,k.rt,k.bk,k.ct⟩⟩) hd) λ_ _ _=>at9 sub
def gE:V->Value
 |.ref a=>.ref a
 |.ty n=>.type n
 |_=>.none
def au1 (K:ac):List V->Hp->VK->Prop:=λxs H Q=>∃v v2 b,xs = [v,v2]/\gE v2≠.none/\((∃a o C,v = .ref a/\H a=some (.frz o (.own a))/\o.cls = .ref C/\fS K C/\PySem.W.kitOne K (.ref C) (gE v2)=some b)∨(v = .non/\PySem.W.kitOne K (.type "NoneType") (gE v2)=some b))/\Q (.bl b) H
theorem au2:cG X (.builtin "isinstance") (au1 X.K):=by
 intro pins s σ H xs us Q I r h
 obtain⟨v,v2,b,rfl,hv,hk,q⟩:=h
 obtain⟨u,u',rfl,ru,ru'⟩:=kJ r
 obtain rfl:u'=gE v2:=by
  cases v2<;>first|exact ru'|exact absurd rfl hv
 rcases hk with⟨a,o,C,rfl,hH,hc,F,e⟩|⟨rfl,e⟩
 ·obtain⟨h1,_⟩:=I.hok a _ hH
  cases (show u=Value.ref a from ru)
  exact aO3 (A3 F) I.kIn ⟨o,h1,hc⟩ e (λz=>nomatch z) λtk=>⟨.bl b,H,I.tok tk,rfl,q⟩
 ·cases (show u=Value.none from ru)
  exact aO3 PySem.W.kitx_none I.kIn trivial e (λz=>nomatch z) λtk=>⟨.bl b,H,I.tok tk,rfl,q⟩
def au3 (m:Str):PV->Option Bool
 |.exc n=>iJ n m
 |.non=>some false
 |_=>none
def nG (m:Str)(te:aD):aD:=λρ Q=>te ρ λx _=>∃b,au3 m x=some b/\Q (.bl b) .fr
structure tZ (K:ac)(m:Str)(v2:V):Prop where
 nn:gE v2≠.none
 ex:∀n C b,PySem.W.nsIn K mainGlobals n=some (some (.ref C))->iJ n m=some b->fS K C/\PySem.W.kitOne K (.ref C) (gE v2)=some b
 no:PySem.W.kitOne K (.type "NoneType") (gE v2)=some false
theorem E4 {x:Str}{v2:V}{px:Pos}(B:Bt X.mg)(A:tZ X.K x v2)(hx:PE X (.Name x px) (tC v2))(ha:QE X a te)(hg:Gl X "isinstance":=by rfl)(he:starEach [a,.Name x px] X.env=(false,eval a X.env)::starEach [.Name x px] X.env:=by rfl)(he2:starEach [.Name x px] X.env=(false,eval (.Name x px) X.env)::starEach [] X.env:=by rfl)(hpl:(backTo pos (starEach [.Name x px] X.env)).any (·.1)=false:=by rfl):QE X (.Call (.Name "isinstance" p2) [a,.Name x px] [] pos) (nG x te):=
 bT (nX au2 hg B.isinst PyProof.Rows.boot_isinstance (cI ha (cI hx dU he2) he) (he:=he) (hpl:=hpl)) λσ H Q' h=>by
  obtain⟨W,ρ,Q,px,q,k⟩:=h
  refine⟨W,ρ,_,px,q,?_⟩
  rintro v H1 y g s r ⟨b,e,q⟩
  refine⟨v,v2,b,rfl,A.nn,?_,k _ _ _ .fr s (.bl _) q⟩
  cases r with
  |exc h z c=>
   obtain⟨F,kt⟩:=A.ex _ _ _ z e
   exact .inl ⟨_,_,_,rfl,h,c,F,kt⟩
  |non=>cases e;exact .inr ⟨rfl,A.no⟩
  |_=>cases e
end
section
variable {X:Cx}{a:Expr}{pos p2 px:Pos}{te:aD}
structure cE (K:ac)(mg:Str->Option Value)(m:Str):Prop where
 ex:∃C,mg m=some (.ref C)/\tZ K m (.ref C)
structure u5 (K:ac)(mg:Str->Option Value):Prop where
 mg:mg "ValueError" = none
 is:tZ K "ValueError" (.ty "ValueError")
theorem au4 {x:Str}(B:Bt X.mg)(A:cE X.K X.mg x)(ha:QE X a te)(hgx:Gl X x:=by rfl)(hdx:(x==("__debug__":Str))=false:=by decide)(hg:Gl X "isinstance":=by rfl)(he:starEach [a,.Name x px] X.env=(false,eval a X.env)::starEach [.Name x px] X.env:=by rfl)(he2:starEach [.Name x px] X.env=(false,eval (.Name x px) X.env)::starEach [] X.env:=by rfl)(hpl:(backTo pos (starEach [.Name x px] X.env)).any (·.1)=false:=by rfl):QE X (.Call (.Name "isinstance" p2) [a,.Name x px] [] pos) (nG x te):=by
 obtain⟨C,m,i⟩:=A.ex
 exact E4 B i (qJ hgx m rfl hdx) ha hg he he2 hpl
theorem au5 (B:Bt X.mg)(A:u5 X.K X.mg)(ha:QE X a te)(hgx:Gl X "ValueError":=by rfl)(hg:Gl X "isinstance":=by rfl)(he:starEach [a,.Name "ValueError" px] X.env=(false,eval a X.env)::starEach [.Name "ValueError" px] X.env:=by rfl)(he2:starEach [.Name "ValueError" px] X.env=(false,eval (.Name "ValueError" px) X.env)::starEach [] X.env:=by rfl)(hpl:(backTo pos (starEach [.Name "ValueError" px] X.env)).any (·.1)=false:=by rfl):QE X (.Call (.Name "isinstance" p2) [a,.Name "ValueError" px] [] pos) (nG "ValueError" te):=
 E4 B A.is (uU (v:=.ty "ValueError") hgx A.mg PyProof.Rows.Boot.«ValueError» rfl (by decide) (by decide)) ha hg he he2 hpl
end
structure dJ (K:ac)(C:Addr):Prop where
 cls:PySem.W.isClsIn K C=true
 ty:PySem.W.typeIn K (.ref C)=some (.type "type")
 ga:PySem.W.findIn K (.ref C) "__getattribute__" = some (some (.builtin "BaseException.__getattribute__"))
 gt:PySem.W.findIn K (.ref C) "__getattr__" = some none
 fc:PySem.W.findIn K (.ref C) "__class__" = some (some (.builtin "object.__class__"))
 fg:PySem.W.specialIn K (.builtin "object.__class__") "__get__" = some (some (.builtin "getset_descriptor.__get__"))
 ft:PySem.W.takesIn K (.builtin "object.__class__")=some true
 ob:PySem.W.mroIn K C (.type "object")=some true
 be:PySem.W.mroIn K C (.type "BaseException")=some true
theorem dJ.exc {K:ac}{C:Addr}(h:dJ K C):fS K C:=⟨h.cls,h.ga,h.gt,h.fc,h.fg,h.ft,h.ob,h.be⟩
theorem au6 {K:ac}{h₀:Heap}{mg:Str->Option Value}{x:Str}{C:Addr}{bmB:List Value}{newId:String}(X:K.In h₀)(m:mg x=some (.ref C))(q:PySem.W.excIn K C bmB newId=true):OwnCls x C bmB newId mg h₀:=by
 refine⟨m,?_⟩
 unfold PySem.W.excIn at q
 split at q
 case h_2=>cases q
 rename_i dd cd sl ho
 split at q
 case h_2=>cases q
 rename_i C' bm k0 k1 k2 k3 n k5 hm hs
 simp only[aR3,beq_iff_eq,Bool.not_eq_true']at q
 obtain⟨⟨⟨⟨⟨rfl,rfl⟩,dl⟩,ht⟩,hok⟩,hni⟩:=q
 obtain⟨nm,bs,mro,ns,qn,hd,sn,sub,ab,col,del⟩:=cd
 dsimp only at hm dl hok hni
 subst hm dl
 obtain rfl:sl = #[k0,k1,k2,k3,some (.builtin n),k5]:=by
  obtain⟨l⟩:=sl
  exact congrArg Array.mk hs
 exact⟨bm,ns,nm,qn,bs,hd,sn,sub,ab,col,dd,k0,k1,k2,k3,k5,_,X _ _ ho,.of_isNs (PySem.W.isNs_of_in X hok),PySem.W.nsMap_none_of_in X hok hni,PySem.W.tail_of_in X ht⟩
theorem eR {n m:Str}{b:Bool}(h:iJ n m=some b):n∈dS/\b=(n==m||m=="HearthError"||m=="ValueError"):=by
 unfold iJ at h
 split at h
 ·rename_i z
  exact⟨by simpa using z,by cases h;rfl⟩
 ·cases h
theorem a9 {K:ac}{C D:Addr}{b:Bool}(hd:dJ K D)(ne:(C==D)=false)(s:PySem.W.subIn K (.ref C) (.ref D)=some b):PySem.W.kitOne K (.ref C) (.ref D)=some b:=by
 have ne':(Value.ref C==Value.ref D)=false:=by
  rw[beq_eq_false_iff_ne]at ne ⊢
  exact λz=>ne (Value.ref.inj z)
 have c:=hd.cls
 unfold PySem.W.isClsIn at c
 unfold PySem.W.kitOne PySem.W.kitCls
 rw[if_neg (by rw[ne'];decide)]
 dsimp only
 rw[if_pos (by rw[c,hd.ty];decide)]
 exact s
theorem fW {K:ac}{C:Addr}:PySem.W.kitOne K (.ref C) (.ref C)=some true:=by
 unfold PySem.W.kitOne
 rw[if_pos (aQ4 _)]
theorem fX {K:ac}{C:Addr}(s:PySem.W.subIn K (.ref C) (.type "ValueError")=some true):PySem.W.kitOne K (.ref C) (.type "ValueError")=some true:=by
 unfold PySem.W.kitOne PySem.W.kitCls
 rw[if_neg (λz=>by cases beq_iff_eq.mp z)]
 dsimp only
 rw[if_pos (by decide +kernel)]
 exact s
theorem fY {K:ac}{D:Addr}(hd:dJ K D)(s:PySem.W.subIn K (.type "NoneType") (.ref D)=some false):PySem.W.kitOne K (.type "NoneType") (.ref D)=some false:=by
 have c:=hd.cls
 unfold PySem.W.isClsIn at c
 unfold PySem.W.kitOne PySem.W.kitCls
 rw[if_neg (λz=>by cases beq_iff_eq.mp z)]
 dsimp only
 rw[if_pos (by rw[c,hd.ty];decide)]
 exact s
theorem au7 {K:ac}:PySem.W.kitOne K (.type "NoneType") (.type "ValueError")=some false:=by
 have e:(if PySem.W.kitMeta "ValueError" = true then (fastBuiltinMro "NoneType").map (·.contains (Value.type "ValueError")) else none)=some false:=by decide +kernel
 unfold PySem.W.kitOne
 rw[if_neg (by decide)]
 exact e
theorem dI.of {P:Program}{w:World}{K:ac}{mg:Str->Option Value}{base:Heap}{k:Nat}{x:Str}{ps N:List Str}{p:eQ}{st:Stmt}{f:Addr}{fd:FuncData}(F:dD K x x st f fd)(m:mg x=some (.ref f))(S:FnScope N ps (aU st))(hb:∀(kV doc pm:Value) (an:Option Addr) (cdv ct:Value) (us:List Value),us.length=ps.length->bindArgs (PySem.W.fnOf x x (gF st) (cS st) (aU st) .none kV doc pm an cdv ct) ⟨us,[]⟩=pure (ps.zip us))(t:(Str->Prop)->aK)(len:∀Ep xs Q,p Ep xs Q->xs.length=ps.length)(rd:∀Ep xs Q,p Ep xs Q->t Ep { nx:=λ_=>Q .non,rt:=Q } (cZ N xs))(body:∀(cdv:Value) (A:Around) (outer:List Env) (s:Shared) (H:Hp) (E:XK) (Ep:Str->Prop),bJ k (A.deeper (envOfC x (aU st) s.heap.objs.size f cdv))->lC (bX (cD P w) P w K mg base N x (aU st) f cdv A outer s H E) (EX K H Ep)->
   dQ (bX (cD P w) P w K mg base N x (aU st) f cdv A outer s H E) (cS st) (t Ep)):dI P w K mg base (k+1) x ps p:=by
 refine⟨f,fd,F.okX S (λvs H Q E h=>?_) (λcdv A outer s H vs Q E hr h=>?_),F.binds hb,F.kp,m⟩
 ·obtain⟨xs,Qp,Ep,r,q,_⟩:=h
  rw[r.length];exact len Ep xs Qp q
 ·obtain⟨xs,Qp,Ep,r,q,k,ke⟩:=h
  have ht:=body cdv A outer s H E Ep hr (zZ λc d H' z=>?_)
  ·refine⟨_,ht,λ_=>False,cZ N xs,_,p5 r,rd Ep xs Qp q,?_,?_,?_,?_⟩
   ·exact λW' σ' H' ρ' e px q=>k _ _ _ px.same .non q
   ·exact λv H' x s r q=>k _ _ _ s r q
   ·exact λW' σ' H' ρ' e px q=>q
   ·exact λW' σ' H' ρ' e px q=>q
  ·obtain⟨rfl,s1,n,C,rfl,z1,z2⟩:=z
   exact ke n C H' s1 z1 z2
end PP
namespace Core
open PySem L2 PP
abbrev E5 (t:(Str->Prop)->aK)(N:List Str)(p:eQ):Prop:=∀Ep xs Q,p Ep xs Q->t Ep { nx:=λ_=>Q .non,rt:=Q } (cZ N xs)
end Core
namespace PP
open PySem L2
theorem us1 {us:List Value}(h:us.length=1):∃a,us = [a]:=List.length_eq_one_iff.mp h
theorem us2 {us:List Value}(h:us.length=2):∃a b,us = [a,b]:=by
 cases us with
 |nil=>cases h
 |cons a r=>
  obtain⟨b,rfl⟩:=us1 (us:=r) (by simpa using h)
  exact⟨a,b,rfl⟩
theorem pR {us:List Value}(h:us.length=3):∃a b c,us = [a,b,c]:=by
 cases us with
 |nil=>cases h
 |cons a r=>
  obtain⟨b,c,rfl⟩:=us2 (us:=r) (by simpa using h)
  exact⟨a,b,c,rfl⟩
theorem E6 {us:List Value}(h:us.length=4):∃a b c d,us = [a,b,c,d]:=by
 cases us with
 |nil=>cases h
 |cons a r=>
  obtain⟨b,c,d,rfl⟩:=pR (us:=r) (by simpa using h)
  exact⟨a,b,c,d,rfl⟩
section
variable {X:Cx}{a b e:Expr}{ta tb:aD}{tr:bS}{D:bN}{σ:St}{H:Hp}{pos p2 p3 p4:Pos}
def hJ (i:Nat)(ta tb:aD):aK:=λD ρ=>∃xs,ρ[i]? = some (some (.own (.lst xs)))/\ta ρ λx _=>∃k:Nat,x = .int k/\k<=xs.length/\xs.length<16000000/\tb ρ λy g=>Nw g y/\D.nx (ρ.set i (some (.own (.lst (xs.take k++y::xs.drop k)))))
theorem au8 {i:Nat}(h:LS X (hJ i ta tb) D σ H):i4 (lU X.K "list" A4 (fM i) (dL (LE X ta) (dL (LE X tb) gB))) D σ H:=by
 obtain⟨W,ρ,D',px,⟨xs,hi,q⟩,k⟩:=h
 obtain⟨v,ev,a,rfl,wa,us,ea,r⟩:=px.sl i _ hi
 refine⟨_,ev,m6 (aP.of ea),W,ρ,_,px,q,?_⟩
 rintro w H1 x g s rx ⟨j,rfl,hj,hl,q⟩
 cases rx
 refine⟨W,ρ,_,px.mono s,q,?_⟩
 rintro w H2 y g s2 ry ⟨n,q⟩
 have ea2:=s2 _ _ (s _ _ ea)
 have s3:=s.trans s2
 refine⟨a,us,w,j,rfl,rfl,ea2,by rw[r.length];exact hj,jI (by rw[r.length];omega),?_⟩
 refine k.nx W σ _ _ ((Ev.same s3).trans (Ev.upd wa)) ((px.mono s3).updL hi ev wa ?_) q
 have r2:=r.same s3 λ_ z=>z
 exact ((r2.take j).append (.cons (Nw.rep (px.mono s) n ry) (r2.drop j))).keep (.upd ea2 rfl λb m=>⟨kO wa m,m⟩)
end
section
variable {X:Cx}{e:Expr}{tr:bS}{pos p2:Pos}
def u6:List PV->(PV->Prop)->Prop:=λxs Q=>∃ys:ae,xs = [.lst (ys.map λr=>PV.tup (intz r))]/\ys.length<=4096/\(∀y∈ys,y.length=2)/\∀zs:ae,zs.Perm ys->zs.Pairwise (λu v=>HT.bD v u=false)->Q (.lst (zs.map λr=>PV.tup (intz r)))
theorem au9:eJ X u6 (zY X.K):=by
 rintro H vs xs Q Q' r ⟨ys,rfl,hl,hne,q⟩ k
 obtain⟨v,rfl,r1⟩:=r.one
 obtain⟨a,us,rfl,_,h,r2⟩:=r1.sqL
 obtain⟨h1,h2⟩:=tM r2
 have lr:=r2.length
 rw[aJ1]at lr
 refine⟨a,us,iH H,rfl,aP.of h,by omega,λy hy=>?_,λl zs hl' pm so=>?_⟩
 ·obtain⟨b,rfl,hb⟩:=h2 y hy
  refine⟨b,rfl,aN.of hb,hne _ ?_⟩
  rw[<- h1];exact aR9.mpr ⟨_,hy,rfl⟩
 ·have hz:∀u∈zs,∃b,u = .ref b/\H b=some (.tup ((iH H u).map V.int)):=λu hu=>h2 u (pm.mem_iff.mp hu)
  refine k _ _ _ (b8 hl' _) (.lst hl' b7 ((tN hz).same (b8 hl' _) λ_ z=>z)) (q _ ?_ ?_)
  ·rw[<- h1];exact pm.map _
  ·rw[aX6];exact so
theorem av0 (B:Bt X.mg)(ha:QA X [e] tr)(hg:Gl X "sorted":=by rfl)(he:starEach [e] X.env=(false,eval e X.env)::starEach [] X.env:=by rfl)(hpl:(backTo pos (starEach [] X.env)).any (·.1)=false:=by rfl):QE X (.Call (.Name "sorted" p2) [e] [] pos) (aI u6 tr):=
 j5 am3 au9 hg B.sorted PyProof.Rows.boot_sorted ha (he:=he) (hpl:=hpl)
end
end PP
namespace Core
open PySem L2 PP
structure WL (n:Int)(ws:af)(ls:aa):Prop where
 many:(ws.length:Int)=n
 inn:∀l∈ls,0<=l.1/\l.1<l.2/\l.2<n
 most:ls.length<=1700
 ord:ls.Pairwise cV
 pos:∀w∈ws,0<=w
theorem WL.perm {n:Int}{ws:af}{ls ls':aa}(h1:(ws.length:Int)=n)(h2:∀l∈ls,0<=l.1/\l.1<l.2/\l.2<n)(h3:ls.length<=1700)(nd:ls.Nodup)(h4:∀w∈ws,0<=w)(p:ls'.Perm ls)(so:(ls'.map two).Pairwise λu v=>HT.bD v u=false):WL n ws ls':=
 ⟨h1,λl hl=>h2 l (p.mem_iff.mp hl),by rw[p.length_eq];exact h3,B5 so (p.nodup_iff.mpr nd),h4⟩
theorem E7 (n:Nat):∀(a b:ae),((((tups a).zip (tups b)).all λp=>bK (n+1) p.1 p.2)&&(tups a).length==(tups b).length)=decide (a=b)
 |[],[]=>rfl
 |[],_::_=>by simp[tups]
 |_::_,[]=>by simp[tups]
 |x::a,y::b=>by
  have ih:=E7 n a b
  have e:∀(z:af) (c:ae),tups (z::c)=PV.tup (intz z)::tups c:=λ_ _=>rfl
  rw[e,e]
  simp only[aS1,aY1,aM6,ah3]at ih ⊢
  by_cases h:x=y
  ·subst h
   have:((tups a).length+1==(tups b).length+1)=((tups a).length==(tups b).length):=by simp
   rw[this,aI2 rfl,Bool.true_and,ih]
   simp
  ·rw[aH8 h,Bool.false_and,Bool.false_and]
   simp[h]
theorem av1 (n:Nat)(a b:ae):bK (n+2) (.lst (tups a)) (.lst (tups b))=decide (a=b):=E7 n a b
theorem E8 (n:Nat):∀(a b:ae),cC (n+2) (.lst (tups a)) (.lst (tups b))=true
 |[],_=>by unfold cC tups;simp
 |_::_,[]=>by unfold cC tups;simp
 |x::a,y::b=>by
  have ih:=E8 n a b
  show (((PV.tup (intz x)::tups a).zip (PV.tup (intz y)::tups b)).all λp=>cC (n+1) p.1 p.2)=true
  rw[aS1,aY1,ah5,Bool.true_and]
  exact ih
theorem E9:∀(g:Bool) {x:PV},flat x=true->Nw (Slot.sh g x).tag x
 |true,_,_=>trivial
 |false,_,h=>h
abbrev F0 (bs:List Bool):List PV:=bs.map PV.bl
section
variable {ws:af}{ls:aa}
def cne (ws:af)(ls:aa)(S:af):Bool:=!decide (S = [])&&decide (stay ws ls S=S)
end
def far (ns S:af):Bool:=decide (((S.filter λx=>decide (x∈ns)).length:Int)=0)
def av2 (ls:aa)(S U:af):Prop:=∀x∈U,∀y∈oE ls x,y∈S->y∈U
noncomputable def av3 (ls:aa)(S:af)(h:Int):af:=S.filter λx=>@decide (∀U:af,av2 ls S U->h∈U->x∈U) (Classical.propDecidable _)
section
variable {ws:af}{ls:aa}{S:af}{n:Nat}{h x:Int}
noncomputable def av4 (ls:aa)(S:af)(h:Int):Bool:=decide ((av3 ls S h).head? = some h)
noncomputable def av5 (ls:aa)(S:af):af:=S.filter (av4 ls S)
end
end Core
namespace PP
open PySem L2
section
variable {X:Cx}{σ:St}{H:Hp}{D:bN}{te:aD}{e:Expr}{pos:Pos}
def av6 (i:Nat)(tk:aD):aK:=λD ρ=>∃xs,ρ[i]? = some (some (.own (.lst xs)))/\tk ρ λn _=>∃m:Nat,n = .int m/\xs.length<=16000000/\m<xs.length/\D.nx (ρ.set i (some (.own (.lst (xs.eraseIdx m)))))
end
end PP
namespace Core
open PySem L2 PP
def F1 (ws:af)(ls:aa):af->af->Bool
 |_,[]=>true
 |B,h::R=>inB ws.length h&&(kin ws ls B h&&F1 ws ls (B++[h]) R)
def sp6:aK:=(bC (aS (fD (a5 7) (qC (.int 5)))) (hJ 4 (a5 6) (bL (dP (a7 (jO (qC (.int 1))) (a7 (a5 2) (a7 (oR (jO (qC (.int 1))) (a5 5)) (a7 (eM (a5 2) (a5 5)) aB))))) (aX (bI (a5 3) (qC (.int 97))) (qC (.int 4))))) cB)
def sp5:aK:=(bC (fQ (aS (dG (a5 7) (qC (.int 5)))) (aS (fD (a5 2) (qC (.int 0))))) (hJ 4 (a5 6) (aX (bI (a5 3) (qC (.int 97))) (a5 2))) sp6)
def sp4:aK:=(bC (fQ (aS (dG (a5 7) (qC (.int 4)))) (aS (fD (aI c7 (a7 (a5 1) aB)) (qC (.int 0))))) (hJ 4 (a5 6) (bL (a5 1) (aX (bI (a5 3) (qC (.int 97))) (aI c7 (a7 (a5 1) aB))))) sp5)
def sp3:aK:=(bC (fQ (aS (dG (a5 7) (qC (.int 3)))) (aS (fD (aI c7 (a7 (a5 4) aB)) (qC (.int 0))))) (hJ 4 (a5 6) (bL (a5 4) (aX (bI (a5 3) (qC (.int 97))) (aI c7 (a7 (a5 4) aB))))) sp4)
def sp2:aK:=(bC (fQ (aS (dG (a5 7) (qC (.int 2)))) (aS (fD (aI c7 (a7 (a5 4) aB)) (qC (.int 0))))) (av6 4 (aX (a5 6) (aI c7 (a7 (a5 4) aB)))) sp3)
def lF:aK:=(bC (fQ (aS (dG (a5 7) (qC (.int 1)))) (aS (fD (aI c7 (a7 (a5 4) aB)) (qC (.int 1))))) (aO (bG 8 (aX (bI (a5 3) (qC (.int 97))) (aI c7 (a7 (a5 4) aB))))
  (aO (bG 6 (aX (a5 6) (aI c7 (a7 (a5 4) aB))))
  (aO (bG 9 (bL (a5 4) (a5 6)))
  (aO (mD 4 (a5 6) (bL (a5 4) (a5 8)))
  (mD 4 (a5 8) (a5 9)))))) sp2)
end Core
namespace PP
open PySem L2
section
variable {X:Cx}{a b e:Expr}{ta tb te:aD}{tr:bS}{pos:Pos}{σ:St}{H:Hp}{Q':VK}{es:List Expr}
def u7 (t:bS):aD:=λρ Q=>t ρ λxs=>xs.length<=1000/\m7 xs/\Q (.lst (xs.map (·.1))) .nw
theorem av7 (h:LE X (u7 tr) σ H Q'):nT (LA X tr) σ H Q':=by
 obtain⟨W,ρ,Q,px,q,k⟩:=h
 refine⟨W,ρ,_,px,q,?_⟩
 rintro vs H1 xs s1 r ⟨hl,n,q⟩
 refine⟨by rw[r.length];exact mB hl,λp hp=>k _ _ _ .nw (s1.trans (b8 hp _)) (.lst (px.new (s1.free hp)) b7 ?_) q⟩
 exact (m7.reps (vs:=vs) px n r).same (b8 hp _) λ_ z=>z
theorem av8 (ha:QA X es tr):QE X (.List es pos) (u7 tr):=bT (qZ ha) λ_ _ _=>av7
end
end PP
namespace Core
open PySem L2 PP
theorem av9 {n k:Nat}(h:k<n):gD n (k:Int)=some k:=by
 unfold gD
 rw[if_pos (by omega),if_pos (by omega),Int.toNat_natCast]
def rQ (ws:af)(ls:aa)(ns R:af):Prop:=F1 ws ls ns R=true/\as8 ws ls (ns++R)
end Core
namespace PP
open PySem L2
section
variable {X:Cx}{a b:Expr}{ta tb:aD}{pos:Pos}
def F3:PV->Tg->PV->Tg->PK->Prop:=λx _ y _ Q=>∃ns ms:af,x = .tup (intz ns)/\y = .tup (intz ms)/\Q (.bl (HT.bD ns ms)) .fr
theorem aw0:dW X F3 (rA X.K):=by
 rintro W Hs H u v x y g g' Q Q' s n r1 r2 ⟨ns,ms,rfl,rfl,q⟩ k
 obtain⟨p1,us,rfl,h1,r1⟩:=r1.sqT
 obtain⟨p2,vs,rfl,h2,r2⟩:=r2.sqT
 obtain rfl:=r1.ofInts
 obtain rfl:=r2.ofInts
 exact⟨p1,p2,ns,ms,rfl,rfl,aN.of h1,aN.of h2,k _ _ _ _ (aH.refl _) (.bl _) q⟩
end
end PP
namespace L2
open PySem PySem.Spec PyProof.Rows PP
section
variable {prog:Program}{w:World}{A:Around}{R:Result→Shared→Prop}{I S:Addr}{n:Nat}{l:Addr}{its:Array Value}{s0:Shared}{bt:Nat→Nat→Bool}
abbrev at_ (s:Shared)(h:Heap)(k:Nat):Shared:={ s with heap:=h,toks:=k }
abbrev aw1 (g h:Heap):Prop:=∀b o,g.get? b=some o->h.get? b=some o
def c8 (prog:Program)(w:World)(A:Around)(s0:Shared)(its:Array Value)(bt:Nat->Nat->Bool):Prop:=
 ∀(i j:Nat) (v u:Value) (h:Heap) (k:Nat) (Q E:Value->Shared->Prop),its[i]? = some v->its[j]? = some u->aw1 s0.heap h->Q (.bool (bt i j)) (at_ s0 h k)->wpAny (model prog w) A (richCompare .Lt v u) Q E (at_ s0 h k)
end
end L2
namespace Core
open PySem L2 PP
def FB (L:ae)(f:af->Int)(r:af):Prop:=∃i,L[i]? = some r/\(∀(j:Nat) (s:af),j<i->L[j]? = some s->f s<f r)/\∀s∈L,f s<=f r
end Core
namespace L2
open PySem PySem.Spec PyProof.Rows
section
variable {prog:Program}{w:World}{A:Around}{E:Value→Shared→Prop}{s:Shared}{l:Addr}{xs:Array (Int×Tok)}
theorem F4 {Q:Value->Shared->Prop}(hl:s.heap.IsTuple l (intItems xs))(h:∀h2:Heap,(h2.IsTupleIter s.heap.objs.size l 0/\h2.IsTuple l (intItems xs))->(∀b∈[s.heap.objs.size,l],b<h2.objs.size)->l≠s.heap.objs.size->(∀b o,s.heap.get? b=some o->b∉[s.heap.objs.size]/\h2.get? b=some o)->Q (.ref s.heap.objs.size) { s with heap:=h2 }):wpAny (model prog w) A (pyIter (.ref l)) Q E s:=by
 have lb:l<s.heap.objs.size:=by obtain⟨_,e,_⟩:=hl;exact aI1 e
 refine aW0 hl (h _ ⟨⟨_,aJ3 _ rfl,rfl,rfl⟩,hl.push _⟩ (λb hb=>?_) (aL5 lb) λb o e=>⟨λhm=>?_,aH2 _ e⟩)
 ·rw[aQ8]
  rcases aH4.mp hb with rfl|hb
  ·exact Nat.lt_succ_self _
  ·rw[aI3.mp hb];exact Nat.lt_succ_of_lt lb
 ·rw[aI3.mp hm]at e
  exact absurd (aI1 e) (aN1 _)
theorem aw2 {Q:Value->Shared->Prop}(hh:A.handled=none)(hl:s.heap.IsTuple l (intItems xs))(hne:0<xs.size)(h:∀v h' tk,(intItems xs)[argBest (λi j=>decide (numAt xs i>numAt xs j)) (xs.size-1)]? = some v->(∀b o,s.heap.get? b=some o->h'.get? b=some o)->Q v { s with heap:=h',toks:=tk }):wpAny (model prog w) A (call (.builtin "max") [.ref l]) Q E s:=by
 refine call_max_walk (F4 hl λh2 st hfp ne old=>?_)
 exact⟨_,_,_,_,_,_,_,rfl,Walks.tuple (A:=A.in1) hh _ l ne (intItems xs),st,hfp,by simpa[intItems] using hne,CmpOf.ints_gt (numAt xs) (λ_ _=>intItems_at),λv h' tk hP hk=>h v h' tk (by simpa[intItems] using hP) λb o e=>hk b o (old b o e).1 (old b o e).2⟩
theorem aw3 {Q:Value->Shared->Prop}(hh:A.handled=none)(hl:s.heap.IsTuple l (intItems xs))(hne:0<xs.size)(h:∀v h' tk,(intItems xs)[argBest (λi j=>decide (numAt xs i<numAt xs j)) (xs.size-1)]? = some v->(∀b o,s.heap.get? b=some o->h'.get? b=some o)->Q v { s with heap:=h',toks:=tk }):wpAny (model prog w) A (call (.builtin "min") [.ref l]) Q E s:=by
 refine call_min_walk (F4 hl λh2 st hfp ne old=>?_)
 exact⟨_,_,_,_,_,_,_,rfl,Walks.tuple (A:=A.in1) hh _ l ne (intItems xs),st,hfp,by simpa[intItems] using hne,CmpOf.ints_lt (numAt xs) (λ_ _=>intItems_at),λv h' tk hP hk=>h v h' tk (by simpa[intItems] using hP) λb o e=>hk b o (old b o e).1 (old b o e).2⟩
end
section
variable {X:Cx}
theorem aw4 (hc:X.calm=true):cG X (.builtin "max") (λxs H Q=>∃(a:Addr) (ns:af),xs = [.ref a]/\aN X.K H a (ns.map V.int)/\ns≠[]/\∀M:Int,M∈ns->(∀x∈ns,x<=M)->Q (.int M) H):=by
 intro pins s σ H xs us Q I r h
 obtain⟨a,ns,rfl,hq,ne,q⟩:=h
 obtain⟨u,rfl,ru⟩:=gT r
 cases ru
 obtain⟨its,rv,p,hz⟩:=I.tuple hq
 have ia:=jF rv
 obtain⟨ys,ey⟩:=ia.allInts.items
 have en:ns=ys.toList.map (·.1):=by
  have e1:=nums_intItems ys
  rw[<- ey]at e1
  exact ia.numsOf.symm.trans e1
 have pos:0<ys.size:=Nat.pos_of_ne_zero λz=>ne (by rw[en,Array.eq_empty_of_size_eq_zero z];rfl)
 have hl:s.heap.IsTuple a (intItems ys):=by rw[<- ey];exact p
 refine aw2 (I.ok.hd hc) hl pos λv h' tk ev old=>?_
 obtain⟨t,rfl⟩:=intItems_at ev
 have best:=argBest_gt (numAt ys) (ys.size-1)
 have mem:∀x:Int,x∈ns↔∃j,j<ys.size/\numAt ys j=x:=λx=>by
  rw[en]
  constructor
  ·intro z
   obtain⟨j,hj,e⟩:=mem_getD z
   exact⟨j,by simpa using hj,by rw[numAt_eq];exact e⟩
  ·rintro⟨j,hj,rfl⟩
   rw[numAt_eq]
   exact getD_mem (by simpa using hj)
 refine⟨.int _,H,I.kept (t':=tk) (h':=h') old,⟨t,rfl⟩,q _ ?_ λx hx=>?_⟩
 ·exact (mem _).mpr ⟨_,by have:=best.1;omega,rfl⟩
 ·obtain⟨j,hj,rfl⟩:=(mem x).mp hx
  exact best.2 j (by omega)
theorem aw5 (hc:X.calm=true):cG X (.builtin "min") (λxs H Q=>∃(a:Addr) (ns:af),xs = [.ref a]/\aN X.K H a (ns.map V.int)/\ns≠[]/\∀M:Int,M∈ns->(∀x∈ns,M<=x)->Q (.int M) H):=by
 intro pins s σ H xs us Q I r h
 obtain⟨a,ns,rfl,hq,ne,q⟩:=h
 obtain⟨u,rfl,ru⟩:=gT r
 cases ru
 obtain⟨its,rv,p,hz⟩:=I.tuple hq
 have ia:=jF rv
 obtain⟨ys,ey⟩:=ia.allInts.items
 have en:ns=ys.toList.map (·.1):=by
  have e1:=nums_intItems ys
  rw[<- ey]at e1
  exact ia.numsOf.symm.trans e1
 have pos:0<ys.size:=Nat.pos_of_ne_zero λz=>ne (by rw[en,Array.eq_empty_of_size_eq_zero z];rfl)
 have hl:s.heap.IsTuple a (intItems ys):=by rw[<- ey];exact p
 refine aw3 (I.ok.hd hc) hl pos λv h' tk ev old=>?_
 obtain⟨t,rfl⟩:=intItems_at ev
 have best:=argBest_lt (numAt ys) (ys.size-1)
 have mem:∀x:Int,x∈ns↔∃j,j<ys.size/\numAt ys j=x:=λx=>by
  rw[en]
  constructor
  ·intro z
   obtain⟨j,hj,e⟩:=mem_getD z
   exact⟨j,by simpa using hj,by rw[numAt_eq];exact e⟩
  ·rintro⟨j,hj,rfl⟩
   rw[numAt_eq]
   exact getD_mem (by simpa using hj)
 refine⟨.int _,H,I.kept (t':=tk) (h':=h') old,⟨t,rfl⟩,q _ ?_ λx hx=>?_⟩
 ·exact (mem _).mpr ⟨_,by have:=best.1;omega,rfl⟩
 ·obtain⟨j,hj,rfl⟩:=(mem x).mp hx
  exact best.2 j (by omega)
end
end L2
namespace PP
open PySem L2
section
variable {X:Cx}{a b e:Expr}{ta tb:aD}{tr:bS}{pos p2:Pos}
def u8:List PV->(PV->Prop)->Prop:=λxs Q=>∃ns:af,xs = [.tup (intz ns)]/\ns≠[]/\∀M:Int,M∈ns->(∀x∈ns,x<=M)->Q (.int M)
def u9:List PV->(PV->Prop)->Prop:=λxs Q=>∃ns:af,xs = [.tup (intz ns)]/\ns≠[]/\∀M:Int,M∈ns->(∀x∈ns,M<=x)->Q (.int M)
theorem aw6:eJ X u8 (λxs H Q=>∃(a:Addr) (ns:af),xs = [.ref a]/\aN X.K H a (ns.map V.int)/\ns≠[]/\∀M:Int,M∈ns->(∀x∈ns,x<=M)->Q (.int M) H):=by
 rintro H vs xs Q Q' r ⟨ns,rfl,ne,q⟩ k
 obtain⟨v,rfl,r1⟩:=r.one
 obtain⟨a,us,rfl,h,r2⟩:=r1.sqT
 rw[r2.ofInts]at h
 exact⟨a,ns,rfl,aN.of h,ne,λM m1 m2=>k _ _ _ (aH.refl _) (.int M) (q M m1 m2)⟩
theorem aw7:eJ X u9 (λxs H Q=>∃(a:Addr) (ns:af),xs = [.ref a]/\aN X.K H a (ns.map V.int)/\ns≠[]/\∀M:Int,M∈ns->(∀x∈ns,M<=x)->Q (.int M) H):=by
 rintro H vs xs Q Q' r ⟨ns,rfl,ne,q⟩ k
 obtain⟨v,rfl,r1⟩:=r.one
 obtain⟨a,us,rfl,h,r2⟩:=r1.sqT
 rw[r2.ofInts]at h
 exact⟨a,ns,rfl,aN.of h,ne,λM m1 m2=>k _ _ _ (aH.refl _) (.int M) (q M m1 m2)⟩
theorem aw8 (B:Bt X.mg)(hc:X.calm=true)(ha:QA X [e] tr)(hg:Gl X "max":=by rfl)(he:starEach [e] X.env=(false,eval e X.env)::starEach [] X.env:=by rfl)(hpl:(backTo pos (starEach [] X.env)).any (·.1)=false:=by rfl):QE X (.Call (.Name "max" p2) [e] [] pos) (aI u8 tr):=
 j5 (aw4 hc) aw6 hg B.max PyProof.Rows.boot_max ha (he:=he) (hpl:=hpl)
theorem aw9 (B:Bt X.mg)(hc:X.calm=true)(ha:QA X [e] tr)(hg:Gl X "min":=by rfl)(he:starEach [e] X.env=(false,eval e X.env)::starEach [] X.env:=by rfl)(hpl:(backTo pos (starEach [] X.env)).any (·.1)=false:=by rfl):QE X (.Call (.Name "min" p2) [e] [] pos) (aI u9 tr):=
 j5 (aw5 hc) aw7 hg B.min PyProof.Rows.boot_min ha (he:=he) (hpl:=hpl)
def F5 (K:ac):R2:=λx y H Q=>gS (λi j=>.bl (decide (i<j))) x y H Q∨rA K x y H Q
theorem ax0 (hu:X.A.units<cLine):cA X (compareOp .Lt) (F5 X.K):=by
 intro pins s σ H x y v u Q I rx ry h
 rcases h with h|h
 ·exact vP pins s σ H x y v u Q I rx ry h
 ·exact W0 hu pins s σ H x y v u Q I rx ry h
def pS:PV->Tg->PV->Tg->PK->Prop:=λx g y g' Q=>fA (λi j=>.bl (decide (i<j))) x g y g' Q∨F3 x g y g' Q
theorem ax1:dW X pS (F5 X.K):=by
 intro W Hs H u v x y g g' Q Q' s n r1 r2 h k
 rcases h with h|h
 ·exact .inl (oJ W Hs H u v x y g g' Q Q' s n r1 r2 h k)
 ·exact .inr (aw0 W Hs H u v x y g g' Q Q' s n r1 r2 h k)
theorem ax2 (hu:X.A.units+1<cLine)(ha:QE X a ta)(hb:QE X b tb):QE X (.Compare a [.Lt] [b] pos) (q2 pS ta tb):=yU (ax0 (by omega)) ax1 ha hb (iR _)
end
end PP
namespace L2
open PySem PySem.Spec PyProof.Rows
section
variable {X:Cx}
def F6 (K:ac)(ta:TA):TI:=λσ H R=>ta σ H λvs H1=>∃a b,vs = [.ref a,.ref b]/\((∃xs ys,aN K H1 a xs/\aN K H1 b ys/\R (rY K a b) H1)∨∃xs ys,aP K H1 a xs/\aP K H1 b ys/\R (sA K a b) H1)
theorem ax3 {elts:List Expr}{kt:Nat}{pt:Pos}{a b:Expr}{ta:TA}{p pos:Pos}(hg:Gl X "zip")(hm:X.mg "zip" = none)(ha:PA X [a,b] ta)(hs:starEach [a,b] X.env = [(false,eval a X.env),(false,eval b X.env)]:=by rfl)(hs2:starEach [b] X.env = [(false,eval b X.env)]:=by rfl) :
  PI X (.Tuple elts kt pt) (.Call (.Name "zip" p) [a,b] [] pos) (F6 X.K ta):=by
 intro pins s σ H R I h
 refine Call_ (jC I hg hm PyProof.Rows.boot_zip (aS5 (aQ (ha pos pins s σ H _ I h) λus s1 ⟨vs,H1,I1,r1,q1⟩=>?_) (by rw[hs,hs2]) (by rw[hs2];rfl)))
 obtain⟨a',b',e,q1⟩:=q1
 subst e
 obtain⟨u1,u2,rfl,r,r'⟩:=aL.two r1
 cases r
 cases r'
 have fresh:∀k,H1 (s1.heap.objs.size+k)=none:=λk=>I1.hok.fresh (aT7 _ _)
 have fp:∀c∈[s1.heap.objs.size+4,s1.heap.objs.size+2,s1.heap.objs.size+3,s1.heap.objs.size,s1.heap.objs.size+1],dC X pins H1 c:=λc hc=>by
  simp only[aH4,aH6,aL7]at hc
  rcases hc with rfl|rfl|rfl|rfl|rfl
  ·exact I1.fpOk (aT7 _ _) (fresh 4)
  ·exact I1.fpOk (aT7 _ _) (fresh 2)
  ·exact I1.fpOk (aT7 _ _) (fresh 3)
  ·exact I1.fpOk (aH7 _) (fresh 0)
  ·exact I1.fpOk (aT7 _ _) (fresh 1)
 rcases q1 with⟨xs,ys,h1,h2,q⟩|⟨xs,ys,h1,h2,q⟩
 ·obtain⟨us,_,p1,_⟩:=I1.tuple h1
  obtain⟨ws,_,p2,_⟩:=I1.tuple h2
  refine Zp.ab8 p1 p2 λh' z ti to s1' s2' kp=>wpAny_pyIter_zip z ?_
  exact⟨s1.heap.objs.size+4,[s1.heap.objs.size+4,s1.heap.objs.size+2,s1.heap.objs.size+3,s1.heap.objs.size,s1.heap.objs.size+1],_,_,H1,rfl,I1.kept (t':=s1.toks) kp,ac1 a' b' _ _ _ _ _ (by simp),⟨z,ti,⟨_,_,to⟩,s1',s2'⟩,fp,q⟩
 ·obtain⟨us,_,p1,_⟩:=I1.list h1
  obtain⟨ws,_,p2,_⟩:=I1.list h2
  refine call_zip_2 p1.isList p2.isList λh' z ti to s1' s2' _ kp=>wpAny_pyIter_zip z ?_
  exact⟨s1.heap.objs.size+4,[s1.heap.objs.size+4,s1.heap.objs.size+2,s1.heap.objs.size+3,s1.heap.objs.size,s1.heap.objs.size+1],_,_,H1,rfl,I1.kept (t':=s1.toks) kp,ac7 a' b' _ _ _ _ _ (by simp),⟨z,ti,⟨_,_,to⟩,s1',s2'⟩,fp,q⟩
end
end L2
namespace PP
open PySem L2
theorem ax4 {K:ac}{H0:Hp}{W:Addr->Prop}{g:Bool}{H1:Hp}{a b:Addr}{us vs:List V}{xs ys:List PV}(tw:∀a,W a->∃o,H1 a=some o/\dO o=true)(ha:∀W' H',Ev W H1 W' H'->aP K H' a us)(hb:∀W' H',Ev W H1 W' H'->aP K H' b vs)(r:Reps K (Ms H0 W g) H1 us xs)(r':Reps K (Ms H0 W g) H1 vs ys):iW K H0 W g H1 (sA K a b) (hG xs ys):=by
 have lr:=r.length
 have lr':=r'.length
 have ll:=tU xs ys
 refine⟨λW' H' i e hi=>⟨us,vs,us[i]'(by omega),vs[i]'(by omega),ha W' H' e,hb W' H' e,by simp,by simp⟩,λW' H' i v H2 e y hi=>?_,λW' H' e=>⟨us,vs,ha W' H' e,hb W' H' e,by omega⟩⟩
 obtain⟨T,x,y',hT,rfl,rfl,y⟩:=y
 obtain⟨h1,h2⟩:=y us vs (ha W' _ e) (hb W' _ e)
 obtain⟨z,hz,rz⟩:=r.get h1
 obtain⟨z',hz',rz'⟩:=r'.get h2
 have sm:=b8 hT (HO.tup [x,y'])
 exact⟨sm,_,C7 hz hz',.tup b7 (.cons ((rz.keep (e.keep tw)).same sm λ_ q=>q) (.cons ((rz'.keep (e.keep tw)).same sm λ_ q=>q) .nil))⟩
section
variable {X:Cx}{σ:L2.St}{H:Hp}{ta tb:aD}{R:It→Hp→Prop}
def uA (ta tb:aD):dF:=λρ Q=>ta ρ λx g0=>tb ρ λy g=>∃xs ys,((x = .tup xs/\y = .tup ys)∨(x = .lst xs/\y = .lst ys/\g0≠.rd/\g≠.rd))/\flats xs=true/\flats ys=true/\Q (hG xs ys) true
theorem F7 {K:ac}{H0 Hs:Hp}{W:Addr->Prop}{σ:L2.St}{ρ:b6}{g:Tg}{b:Addr}(px:PX K H0 W σ ρ Hs)(ng:g≠.rd)(m:Mg H0 W Hs g b):¬W b:=by
 cases g with
 |fr=>exact (px.new m).1
 |nw=>exact m.1
 |sh=>exact m
 |rd=>exact absurd rfl ng
theorem ax5 (h:LI X (uA ta tb) σ H R):F6 X.K (dL (LE X ta) (dL (LE X tb) gB)) σ H R:=by
 obtain⟨W,ρ,Q,px,q,k⟩:=h
 refine⟨W,ρ,_,px,q,λv0 H0 x0 g0 s0 r0 q0=>⟨W,ρ,_,px.mono s0,q0,?_⟩⟩
 rintro v H1 x g s r ⟨xs,ys,c,fx,fy,q⟩
 have S:=s0.trans s
 have px1:=px.mono S
 have tw:∀a,W a->∃o,H1 a=some o/\dO o=true:=λa z=>(px1.wm a z).2
 rcases c with⟨rfl,rfl⟩|⟨rfl,rfl,n0,n1⟩
 ·obtain⟨a,us,rfl,h1,ra⟩:=(r0.same (M':=λ_=>True) s λ_ _=>trivial).sqT
  obtain⟨b,vs,rfl,h2,rb⟩:=r.sqT
  have sta:∀{c us},H1 c=some (.tup us)->∀W' H',Ev W H1 W' H'->aN X.K H' c us:=λ{c us} hc W' H' e=>aN.of (e _ _ hc (λz=>by obtain⟨o,h',mu⟩:=tw _ z;rw[hc]at h';cases h';cases mu) rfl).1
  exact⟨a,b,rfl,.inl ⟨us,vs,aN.of h1,aN.of h2,k _ _ _ _ S (at5 tw (sta h1) (sta h2) (ra.flat fx) (rb.flat fy)) q⟩⟩
 ·obtain⟨a,us,rfl,m0,h1,ra⟩:=(r0.same s λ_ z=>z).sqL
  obtain⟨b,vs,rfl,m1,h2,rb⟩:=r.sqL
  have w0:=F7 px n0 m0
  have w1:=F7 (px.mono s0) n1 m1
  exact⟨a,b,rfl,.inr ⟨us,vs,aP.of h1,aP.of h2,k _ _ _ _ S (ax4 tw (λW' H' e=>aP.of (e _ _ h1 w0 rfl).1) (λW' H' e=>aP.of (e _ _ h2 w1 rfl).1) (ra.flat fx) (rb.flat fy)) q⟩⟩
theorem ax6 {elts:List Expr}{kt:Nat}{pt p2 pos:Pos}{a b:Expr}(B:Bt X.mg)(ha:QE X a ta)(hb:QE X b tb)(hg:Gl X "zip":=by rfl)(hs:starEach [a,b] X.env = [(false,eval a X.env),(false,eval b X.env)]:=by rfl)(hs2:starEach [b] X.env = [(false,eval b X.env)]:=by rfl):QI X (.Tuple elts kt pt) (.Call (.Name "zip" p2) [a,b] [] pos) (uA ta tb):=
 mL (ax3 hg B.zip (cI ha (cI hb dU hs2) (by rw[hs,hs2])) hs hs2) λ_ _ _=>ax5
end
end PP
namespace Core
open PySem L2 PP
theorem ax7 (xs:List PV):e8 xs (some 1) none=xs.drop 1:=by
 unfold e8
 have e1:HT.aR xs.length 0 (some 1)=min 1 xs.length:=by
  show (if (1:Int)<0 then ((1:Int)+(xs.length:Int)).toNat else min (1:Int).toNat xs.length)=_
  rw[if_neg (by decide)];rfl
 rw[e1]
 show (xs.drop (min 1 xs.length)).take (xs.length-min 1 xs.length)=_
 rw[aM8 (by rw[aP5];exact aH7 _)]
 cases xs with
 |nil=>rfl
 |cons x xs=>rw[show min 1 (x::xs).length=1 by simp]
def pT {α:Type}(lt:α->α->Bool)(A:List α):Bool:=((A.zip (A.drop 1)).map λp=>lt p.1 p.2).all id
def pU:cO:=λxs Q=>∃x,xs = [x]/\((∃ns,eO x ns/\ns.length<=1000/\Q (.bl (an9 ns)))∨∃ls:aa,x = .lst (aE ls)/\ls.length<=4096/\∀b:Bool,(b=true↔ls.Pairwise cV)->Q (.bl b))
def uB:aK:=(bZ (aI sH (a7 (kS (uA (a5 0) (mI (a5 0) (mH (qC (.int 1))) mG)) [none,none] (jM 0 1) iY (q2 pS (a5 0) (a5 1))) aB)))
theorem F8 {α:Type}(f:α->PV)(lt:α->α->Bool)(fl:∀a,flat (f a)=true)(hlt:∀(a b:α) (g g':Tg) (K:PK),K (.bl (lt a b)) .fr->pS (f a) g (f b) g' K)(A:List α)(la:A.length<=10000)(x:PV)(hx:x = .tup (A.map f)∨x = .lst (A.map f)){Q:PV->Prop}(q:Q (.bl (pT lt A))) :
  uB { nx:=λ_=>Q .non,rt:=Q } [some (.sh (flat x) x)]:=by
 have fls:∀B:List α,flats (B.map f)=true:=λB=>by
  induction B with
  |nil=>rfl
  |cons b B ih=>show (flat (f b)&&flats (B.map f))=true;rw[fl,ih];rfl
 have sx:seqT x=some (A.map f):=by rcases hx with rfl|rfl<;>rfl
 have cut:e8 (A.map f) (some 1) none=(A.drop 1).map f:=by rw[ax7,List.map_drop]
 refine⟨_,rfl,_,rfl,_,rfl,_,sx,fls A,?_⟩
 rw[cut]
 refine⟨A.map f,(A.drop 1).map f,?_,fls A,fls _,?_⟩
 ·rcases hx with rfl|rfl
  ·exact .inl ⟨rfl,rfl⟩
  ·refine .inr ⟨rfl,rfl,?_,λz=>by cases z⟩
   cases flat (.lst (A.map f))<;>intro z<;>cases z
 have zl:(hG (A.map f) ((A.drop 1).map f)).length=A.length-1:=by rw[tU,aJ1,aJ1,aP5];omega
 refine⟨by rw[zl];omega,λi acc=>acc=F0 (((A.zip (A.drop 1)).take i).map λp=>lt p.1 p.2),rfl,?_,?_⟩
 ·rintro i y acc hy rfl
  obtain⟨u,v,h1,h2,rfl⟩:=at4 hy
  rw[aL2]at h1 h2
  cases ha:A[i]? with
  |none=>rw[ha]at h1;cases h1
  |some a=>
   cases hb:(A.drop 1)[i]? with
   |none=>rw[hb]at h2;cases h2
   |some b=>
    rw[ha]at h1
    rw[hb]at h2
    cases h1
    cases h2
    have hz:(A.zip (A.drop 1))[i]? = some (a,b):=List.getElem?_zip_eq_some.mpr ⟨ha,hb⟩
    refine⟨_,_,rfl,_,rfl,_,rfl,hlt a b _ _ _ ⟨trivial,?_⟩⟩
    dsimp only
    rw[aT0,hz,aM7]
    unfold F0
    rw[aM7];rfl
 ·rintro acc rfl
  rw[aM8 (by rw[zl,List.length_zip,aP5];omega)]
  exact⟨_,rfl,trivial,q⟩
theorem ax8 (ls:aa):pT (λa b=>HT.bD [a.1,a.2] [b.1,b.2]) ls=true↔ls.Pairwise cV:=by
 have lt2:∀a b:Int×Int,HT.bD [a.1,a.2] [b.1,b.2]=true↔cV a b:=λa b=>by
  unfold cV
  rw[HT.gU,HT.gU,HT.r9]
  by_cases h1:a.1=b.1
  ·rw[if_pos h1]
   by_cases h2:a.2=b.2
   ·rw[if_pos h2]
    exact⟨λz=>(by cases z),λz=>(by omega)⟩
   ·rw[if_neg h2,aM9];omega
  ·rw[if_neg h1,aM9];omega
 induction ls with
 |nil=>exact⟨λ_=>.nil,λ_=>rfl⟩
 |cons a r ih=>
  cases r with
  |nil=>exact⟨λ_=>aU4 _ _,λ_=>rfl⟩
  |cons b r=>
   have e:pT (λa b:Int×Int=>HT.bD [a.1,a.2] [b.1,b.2]) (a::b::r)=(HT.bD [a.1,a.2] [b.1,b.2]&&pT (λa b:Int×Int=>HT.bD [a.1,a.2] [b.1,b.2]) (b::r)):=rfl
   rw[e,aR3,lt2,List.pairwise_cons]
   refine⟨λ⟨h1,h2⟩=>⟨λc hc=>?_,ih.mp h2⟩,λ⟨h1,h2⟩=>⟨h1 b aJ9,ih.mpr h2⟩⟩
   rcases aH4.mp hc with rfl|hc
   ·exact h1
   ·have:=(List.pairwise_cons.mp (ih.mp h2)).1 c hc
    unfold cV at *;omega
theorem ax9:fU uB ["things"] pU:=by
 rintro xs Q ⟨x,rfl,⟨ns,hx,hl,q⟩|⟨ls,rfl,hl,q⟩⟩
 ·exact F8 PV.int (λa b=>decide (a<b)) (λ_=>rfl) (λa b g g' K h=>.inl ⟨_,_,rfl,rfl,h⟩) ns (by omega) x hx q
 ·exact F8 (λl:Int×Int=>PV.tup [.int l.1,.int l.2]) (λa b=>HT.bD [a.1,a.2] [b.1,b.2]) (λ_=>rfl) (λa b g g' K h=>.inr ⟨_,_,rfl,rfl,h⟩) ls (by omega) _ (.inr rfl) (q _ (ax8 ls))
def bM (l:Int×Int):Int×Int:=(min l.1 l.2,max l.1 l.2)
theorem ay0 {l:Int×Int}(h:l.1<l.2):bM l=l:=by
 unfold bM
 rw[show min l.1 l.2=l.1 by omega,show max l.1 l.2=l.2 by omega]
theorem ay1 {a b:aa}(p:a.Perm b)(ha:a.Pairwise cV)(hb:b.Pairwise cV):a=b:=
 p.eq_of_pairwise (λx y _ _ h1 h2=>by unfold cV at h1 h2;omega) ha hb
def inL (S:af)(l:Int×Int):Bool:=decide (l.1∈S)&&decide (l.2∈S)
structure WD (n:Int)(ws:af)(ls:aa):Prop where
 many:(ws.length:Int)=n
 inn:∀l∈ls,0<=l.1/\l.1<l.2/\l.2<n
 most:ls.length<=1700
 ord:ls.Pairwise cV
 pos:∀w∈ws,0<=w/\w<=60
theorem WD.perm {n:Int}{ws:af}{ls ls':aa}(h1:(ws.length:Int)=n)(h2:∀l∈ls,0<=l.1/\l.1<l.2/\l.2<n)(h3:ls.length<=1700)(nd:ls.Nodup)(h4:∀w∈ws,0<=w/\w<=60)(p:ls'.Perm ls)(so:(ls'.map two).Pairwise λu v=>HT.bD v u=false):WD n ws ls':=
 ⟨h1,λl hl=>h2 l (p.mem_iff.mp hl),by rw[p.length_eq];exact h3,B5 so (p.nodup_iff.mpr nd),h4⟩
def pV:cO:=λxs Q=>∃c d n m:Int,xs = [.int c,.int d,.int n,.int m]/\0<=n/\n<=8/\0<m/\m<=61/\∀ws ls,WD n ws ls->Q (gP ws ls)
abbrev F9:aK:=ao8
theorem ay2:fU F9 ["wants_cell", "links_cell", "many", "most", "wants", "k", "links", "one", "other"] pV := by
  rintro xs Q ⟨c, d, n, m, rfl, n0, n1, m0, m1, q⟩
  refine⟨by decide, rfl, rfl, rfl, ?_⟩
  refine⟨_, rfl, n, rfl, by omega, by omega, λi ρ => ∃(c':Int) (y:Option Slot) (ws:af), ρ = [si c', si d, si n, si m, some (.own (.lst (intz ws))), y, none, none, none] /\ ws.length = i /\ ∀w∈ws, 0 <= w /\ w <= 60, ⟨c, none, [], rfl, rfl, λ_ h => nomatch h⟩, ?_, ?_⟩
  · rintro i y ρ hy ⟨c', y0, ws, rfl, hl, hp⟩
    obtain⟨rfl, hi⟩ := j8 hy
    refine⟨_, rfl, _, rfl, _, rfl, _, _, rfl, rfl, m0, trivial, by rw[cU];omega, ?_⟩
    refine⟨_, rfl, _, rfl, _, _, rfl, rfl, ⟨m0, by omega⟩, trivial, ?_⟩
    refine⟨c'/m, si (0+(i:Int)), ws++[c'%m], ?_, by rw[aL1, hl];rfl, λw hw => ?_⟩
    · rw[pO];rfl
    · rcases aN2.mp hw with hw|hw
      · exact hp w hw
      · rw[aI3.mp hw];exact⟨aM3 _ (by omega), by have := aL8 c' m0;omega⟩
  rintro ρ ⟨c', y0, ws, rfl, hl, hp⟩
  rw[gJ]at hl
  refine⟨by decide, rfl, rfl, rfl, ?_⟩
  refine⟨_, rfl, n, rfl, by omega, by omega, λi ρ => ∃(d':Int) (y z:Option Slot) (ls:aa), ρ = [si c', si d', si n, si m, some (.own (.lst (intz ws))), y0, some (.own (.lst (aE ls))), y, z] /\ fV n ls i 0 /\ ls.length <= i*7, ⟨d, none, none, [], rfl, ⟨(λ_ h => nomatch h), .nil, (λ_ h => nomatch h)⟩, aN4 _⟩, ?_, ?_⟩
  · rintro i y ρ hy ⟨d', y1, z, ls, rfl, hin, hll⟩
    obtain⟨rfl, hi⟩ := j8 hy
    refine⟨_, rfl, _, _, rfl, rfl, _, rfl, _, _, rfl, rfl, by omega, λj ρ => ∃(d':Int) (z:Option Slot) (ls:aa), ρ = [si c', si d', si n, si m, some (.own (.lst (intz ws))), y0, some (.own (.lst (aE ls))), si (0+(i:Int)), z] /\ fV n ls i (i+1+j) /\ ls.length <= i*7+j, ⟨d', z, ls, rfl, hin.mono (.inr ⟨rfl, by omega⟩), by omega⟩, ?_, ?_⟩
    · rintro j y ρ hy ⟨d2, z2, ls2, rfl, hin2, hl2⟩
      obtain⟨rfl, hj⟩ := j8 hy
      refine⟨_, rfl, _, _, rfl, rfl, (by show (0:Int)<2;decide), .inl ⟨_, _, rfl, rfl, _, rfl, ?_⟩⟩
      have tail:∀ls3:aa, fV n ls3 i (i+1+(j+1:Nat)) -> ls3.length <= i*7+(j+1) -> (bG 1 (bI (a5 1) (qC (.int 2)))) { nx := λρ => ∃(d':Int) (z:Option Slot) (ls:aa), ρ = [si c', si d', si n, si m, some (.own (.lst (intz ws))), y0, some (.own (.lst (aE ls))), si (0+(i:Int)), z] /\ fV n ls i (i+1+(j+1:Nat)) /\ ls.length <= i*7+(j+1), rt := Q }
          [si c', si d2, si n, si m, some (.own (.lst (intz ws))), y0, some (.own (.lst (aE ls3))), si (0+(i:Int)), si (0+(i:Int)+1+(j:Int))] := λls3 h3 h4 =>
        ⟨_, rfl, _, _, rfl, rfl, ⟨by decide, by decide⟩, trivial, _, _, ls3, rfl, h3, h4⟩
      by_cases h:d2%2 = 1
      · show if decide (d2%2 = 1) = true then _ else _
        rw[aI2 h]
        refine b9 ⟨_, rfl, _, rfl, _, rfl, by show 2 <= 1000;decide, rfl, trivial, by rw[eC];omega, ?_⟩
        have ad := hin2.add (by omega)
        have := tail (ls2++[((i:Int), (i:Int)+1+(j:Int))]) (by have e:(i:Int)+1+((j+1:Nat):Int) = (i:Int)+1+(j:Int)+1 := (by omega);rw[e];exact ad) (by rw[aL1, aW3];omega)
        unfold aE at this
        rw[aM7]at this
        rw[show (0:Int)+(i:Int) = (i:Int) by omega]at this ⊢
        exact this
      · show if decide (d2%2 = 1) = true then _ else _
        rw[aH8 h]
        exact aV (tail ls2 (hin2.mono (.inr ⟨rfl, by omega⟩)) (by omega))
    · rintro ρ ⟨d2, z2, ls2, rfl, hin2, hl2⟩
      rw[gJ]at hl2
      exact⟨d2, _, z2, ls2, rfl, hin2.mono (.inl (by omega)), by omega⟩
  rintro ρ ⟨d', y1, z, ls, rfl, hin, hll⟩
  rw[gJ]at hll
  refine⟨_, rfl, ⟨_, _, rfl, rfl, cT _, _, rfl, ⟨_, _, rfl, rfl, cP _, by show 2 <= 1000;decide, ?_, trivial, q ws ls ⟨by omega, hin.inn, by omega, hin.ord, hp⟩⟩, λns z => by cases z⟩, λns z => by cases z⟩
  show (flat (.tup (intz ws))&&(flat (.tup (aE ls))&&true)) = true
  rw[A6]
  show (true&&(flats (aE ls)&&true)) = true
  rw[show flats (aE ls) = true from cP ls];rfl
def pW:cO:=λxs Q=>∃c n:Int,xs = [.int c,.int n]/\0<=n/\n<=40/\∀ws ls,WD n ws ls->Q (gP ws ls)
def G0:aK:=(aO (gI 2 (dP aB))
 (aO (gI 3 (dP aB))
 (aO (bG 4 (eM (qC (.int 1)) (aX (a5 0) (qC (.int 8)))))
 (aO (dZ (iX (a5 1)) (dY 5)
  (aO (iV 2 (aX (bI (a5 0) (eM (qC (.int 8)) (a5 5))) (qC (.int 61))))
  (dZ (oO (eM (a5 5) (qC (.int 1))) (a5 1)) (dY 6)
   (aO (bG 7 (eM (eM (aX (a5 0) (qC (.int 1000000007))) (jP (jP (qC (.int 977)) (a5 5)) (a5 5))) (jP (qC (.int 40692)) (a5 6))))
   (aO (bG 7 (aX (jP (eM (a5 7) (qC (.int 1))) (qC (.int 48271))) (qC (.int 2147483647))))
   (bC (aS (mJ (aX (bI (aX (jP (a5 7) (a5 7)) (qC (.int 2147483647))) (qC (.int 8))) (qC (.int 8))) (a5 4))) (iV 3 (dE (a7 (a5 5) (a7 (a5 6) aB)))) cB))))))
 (bZ (dE (a7 (aI fE (a7 (a5 2) aB)) (a7 (aI fE (a7 (a5 3) aB)) aB))))))))
theorem ay3:fU G0 ["cell","many","wants","links","mark","one","other","number"] pW:=by
 rintro xs Q ⟨c,n,rfl,n0,n1,q⟩
 refine⟨by decide,rfl,rfl,rfl,?_⟩
 refine⟨by decide,rfl,rfl,rfl,?_⟩
 refine⟨_,rfl,_,_,rfl,rfl,(by show (0:Int)<8;decide),_,_,rfl,rfl,trivial,?_⟩
 dsimp only
 generalize (1:Int)+c%8=mk
 refine⟨_,rfl,n,rfl,by omega,by omega,λi ρ=>∃(y5 y6 y7:Option Slot) (ws:af) (ls:aa),ρ = [si c,si n,some (.own (.lst (intz ws))),some (.own (.lst (aE ls))),si mk,y5,y6,y7]/\ws.length=i/\(∀w∈ws,0<=w/\w<=60)/\fV n ls i 0/\ls.length<=i*40,
  ⟨none,none,none,[],[],rfl,rfl,(λ_ h=>nomatch h),⟨(λ_ h=>nomatch h),.nil,(λ_ h=>nomatch h)⟩,aN4 _⟩,?_,?_⟩
 ·rintro i y ρ hy ⟨y5,y6,y7,ws,ls,rfl,hw,hp,hin,hll⟩
  obtain⟨rfl,hi⟩:=j8 hy
  have e0:(0:Int)+(i:Int)=(i:Int):=by omega
  rw[e0]
  refine⟨_,rfl,_,rfl,_,rfl,_,_,rfl,rfl,_,_,rfl,rfl,⟨by omega,by omega⟩,_,_,rfl,rfl,(by show (0:Int)<61;decide),trivial,by rw[cU];omega,?_⟩
  dsimp only
  have u0:0<=c/(8+(i:Int))%61:=aM3 _ (by decide)
  have u1:c/(8+(i:Int))%61<61:=aL8 _ (by decide)
  generalize c/(8+(i:Int))%61=u at u0 u1
  have ex:intz ws++[PV.int u]=intz (ws++[u]):=(pO ws [u]).symm
  rw[ex]
  refine⟨_,rfl,_,_,rfl,rfl,_,rfl,_,_,rfl,rfl,by omega,λj ρ=>∃(y6 y7:Option Slot) (ls:aa),ρ = [si c,si n,some (.own (.lst (intz (ws++[u])))),some (.own (.lst (aE ls))),si mk,si i,y6,y7]/\fV n ls i (i+1+j)/\ls.length<=i*40+j,⟨y6,y7,ls,rfl,hin.mono (.inr ⟨rfl,by omega⟩),by omega⟩,?_,?_⟩
  ·rintro j y ρ hy ⟨z6,z7,ls2,rfl,hin2,hl2⟩
   obtain⟨rfl,hj⟩:=j8 hy
   refine⟨_,rfl,_,_,rfl,rfl,(by show (0:Int)<1000000007;decide),_,rfl,_,_,rfl,rfl,.inl ⟨by decide,by decide⟩,_,rfl,_,_,rfl,rfl,.inr ⟨by omega,by omega⟩,_,_,rfl,rfl,_,rfl,_,_,rfl,rfl,.inl ⟨by decide,by decide⟩,_,_,rfl,rfl,trivial,?_⟩
   dsimp only
   generalize c%1000000007+977*(i:Int)*(i:Int)+40692*((i:Int)+1+(j:Int))=nm
   refine⟨_,rfl,_,_,rfl,rfl,_,_,rfl,rfl,.inr ⟨by decide,by decide⟩,_,_,rfl,rfl,(by show (0:Int)<2147483647;decide),trivial,?_⟩
   dsimp only
   have b1:0<=(nm+1)*48271%2147483647:=aM3 _ (by decide)
   have b2:(nm+1)*48271%2147483647<2147483647:=aL8 _ (by decide)
   generalize (nm+1)*48271%2147483647=num at b1 b2
   refine⟨_,rfl,_,rfl,_,_,rfl,rfl,.inl ⟨by omega,by omega⟩,_,_,rfl,rfl,(by show (0:Int)<2147483647;decide),_,_,rfl,rfl,⟨by decide,by decide⟩,_,_,rfl,rfl,(by show (0:Int)<8;decide),_,rfl,_,_,rfl,rfl,_,rfl,?_⟩
   dsimp only
   cases hc:decide (num*num%2147483647/8%8<mk) with
   |false=>exact aV ⟨si ((i:Int)+1+(j:Int)),si num,ls2,rfl,hin2.mono (.inr ⟨rfl,by omega⟩),by omega⟩
   |true=>
    refine b9 ⟨_,rfl,_,rfl,_,rfl,by show 2<=1000;decide,rfl,trivial,by rw[eC];omega,?_⟩
    have ad:=hin2.add (by omega)
    refine⟨si ((i:Int)+1+(j:Int)),si num,ls2++[((i:Int),(i:Int)+1+(j:Int))],?_,?_,by rw[aL1,aW3];omega⟩
    ·unfold aE
     rw[aM7];rfl
    ·have e:(i:Int)+1+((j+1:Nat):Int)=(i:Int)+1+(j:Int)+1:=by omega
     rw[e];exact ad
  ·rintro ρ ⟨z6,z7,ls2,rfl,hin2,hl2⟩
   rw[gJ]at hl2
   refine⟨si i,z6,z7,ws++[u],ls2,rfl,by rw[aL1,hw];rfl,λw hw'=>?_,hin2.mono (.inl (by omega)),by omega⟩
   rcases aN2.mp hw' with h|h
   ·exact hp w h
   ·rw[aI3.mp h];omega
 rintro ρ ⟨y5,y6,y7,ws,ls,rfl,hw,hp,hin,hll⟩
 rw[gJ]at hw hll
 refine⟨_,rfl,⟨_,_,rfl,rfl,cT _,_,rfl,⟨_,_,rfl,rfl,cP _,by show 2<=1000;decide,nA ws ls,trivial,q ws ls ⟨by omega,hin.inn,by omega,hin.ord,hp⟩⟩,λns z=>by cases z⟩,λns z=>by cases z⟩
def pX:cO:=λxs Q=>∃x ns n wy,xs = [x,.int n,.int wy]/\iG x ns/\ns.length<=63/\0<=n/\n<=40/\∀ws ls,WD n ws ls->Q (gP ws ls)
def uC:aK:=(aO (bC (fQ (aS (dG (aX (bI (a5 2) (qC (.int 4))) (qC (.int 2))) (qC (.int 1)))) (aS (mJ (a5 1) (qC (.int 9))))) (bZ (aI pV (a7 (aI gZ (a7 (a5 0) (a7 (qC (.int 0)) aB))) (a7 (aI gZ (a7 (a5 0) (a7 (qC (.int 1)) aB))) (a7 (a5 1) (a7 (bL (dP (a7 (qC (.int 4)) (a7 (qC (.int 3)) (a7 (qC (.int 6)) (a7 (qC (.int 61)) aB))))) (aX (a5 2) (qC (.int 4)))) aB)))))) cB)
 B6)
def G1:aK:=(aO (bC (fQ (aS (dG (aX (bI (a5 2) (qC (.int 8))) (qC (.int 4))) (qC (.int 1)))) (aS (fD (a5 1) (qC (.int 8))))) (bZ (aI pW (a7 (aI gZ (a7 (a5 0) (a7 (qC (.int 0)) aB))) (a7 (a5 1) aB)))) cB)
 uC)
theorem ay4 {x:PV}{ns:af}{n wy:Int}{Q:PV->Prop}(hx:iG x ns)(hns:ns.length<=63)(n0:0<=n)(n1:n<=40)(q:∀ws ls,WD n ws ls->Q (gP ws ls)):uC { nx:=λ_=>Q .non,rt:=Q } [some (.sh (flat x) x),si n,si wy,none,none,none,none,none,none]:=by
 have d4:(0:Int)<4:=by decide
 have last:B6 { nx:=λ_=>Q .non,rt:=Q } [some (.sh (flat x) x),si n,si wy,none,none,none,none,none,none]:=by
  refine⟨by decide,rfl,rfl,rfl,?_⟩
  refine⟨_,rfl,n,rfl,by omega,by omega,λi ρ=>∃(y z:Option Slot) (ws:af),ρ = [some (.sh (flat x) x),si n,si wy,some (.own (.lst (intz ws))),y,z,none,none,none]/\ws.length=i/\∀w∈ws,0<=w/\w<=60,⟨none,none,[],rfl,rfl,λ_ h=>nomatch h⟩,?_,?_⟩
  ·rintro i y ρ hy ⟨y0,z0,ws,rfl,hl,hp⟩
   obtain⟨rfl,hi⟩:=j8 hy
   refine⟨_,rfl,_,rfl,x,ns,_,rfl,hx,by omega,trivial,?_⟩
   generalize ns.getD ((0:Int)+(i:Int)).toNat 0=cell
   obtain⟨z,hz,hzz⟩:=B7 (a:=cell/5%4) (b:=cell/5%3) (c:=cell/5%6) (d:=cell/5%61) (i:=wy%4) (aM3 _ (by decide)) (aL8 _ d4)
   refine⟨_,rfl,_,rfl,_,_,rfl,rfl,⟨by decide,by decide⟩,_,_,rfl,rfl,d4,_,rfl,_,_,rfl,rfl,⟨by decide,by decide⟩,_,_,rfl,rfl,(by show (0:Int)<3;decide),_,rfl,_,_,rfl,rfl,⟨by decide,by decide⟩,_,_,rfl,rfl,(by show (0:Int)<6;decide),_,rfl,_,_,rfl,rfl,⟨by decide,by decide⟩,_,_,rfl,rfl,(by show (0:Int)<61;decide),by show 4<=1000;decide,rfl,_,rfl,_,_,rfl,rfl,d4,_,_,_,rfl,rfl,hz,A9 _ _,by rw[cU];omega,?_⟩
   refine⟨si (0+(i:Int)),si cell,ws++[z],?_,by rw[aL1,hl];rfl,λw hw=>?_⟩
   ·rw[pO];rfl
   ·rcases aN2.mp hw with hw|hw
    ·exact hp w hw
    ·rw[aI3.mp hw]
     rcases hzz with e|e|e|e<;>rw[e]<;>omega
  rintro ρ ⟨y0,z0,ws,rfl,hl,hp⟩
  rw[gJ]at hl
  refine⟨rfl,rfl,?_⟩
  refine⟨_,rfl,_,hx.seq,aq2 hx,λi ρ=>∃(y z u:Option Slot) (ps:List (List aM×PV)),ρ = [some (.sh (flat x) x),si n,si wy,some (.own (.lst (intz ws))),y0,y,some (.own (.dT ps)),z,u]/\DL n ps i,⟨z0,none,none,[],rfl,⟨(λ_ h=>nomatch h),aH7 _,rfl,.nil⟩⟩,?_,?_⟩
  ·rintro i y ρ hy ⟨y1,z1,u1,ps,rfl,dl⟩
   obtain⟨cell,rfl,hc⟩:=A5 hy
   have hi:i<ns.length:=(aL0.mp hc).1
   generalize oN _ _=gg
   have dl1:DL n ps (i+1):=⟨dl.key,Nat.le_succ_of_le dl.len,dl.fl,dl.nd⟩
   refine⟨_,rfl,_,_,rfl,rfl,_,rfl,?_⟩
   by_cases h1:(1:Int)<n
   ·dsimp only
    rw[aI2 h1]
    have np:(0:Int)<n:=by omega
    refine b9 ⟨_,rfl,_,rfl,_,_,rfl,rfl,np,trivial,?_⟩
    refine⟨_,rfl,_,_,rfl,rfl,(by show (0:Int)<1000000007;decide),_,_,rfl,rfl,.inr ⟨by decide,by decide⟩,_,_,rfl,rfl,(by show (0:Int)<2147483647;decide),_,_,rfl,rfl,⟨by decide,by decide⟩,_,rfl,_,_,rfl,rfl,np,trivial,?_⟩
    dsimp only
    generalize hone:cell%n=one
    generalize hoth:cell%1000000007*48271%2147483647/89%n=oth
    have o1:0<=one/\one<n:=by rw[<- hone];exact⟨aM3 _ (by omega),aL8 _ np⟩
    have o2:0<=oth/\oth<n:=by rw[<- hoth];exact⟨aM3 _ (by omega),aL8 _ np⟩
    refine⟨_,rfl,_,rfl,.inl ⟨_,_,rfl,rfl,_,rfl,?_⟩⟩
    by_cases h2:one=oth
    ·show if (!decide (one=oth))=true then _ else _
     rw[aI2 h2]
     exact aV ⟨some (.sh (gg||true) (.int cell)),si one,si oth,ps,rfl,dl1⟩
    ·show if (!decide (one=oth))=true then _ else _
     rw[aH8 h2]
     refine b9 ⟨_,rfl,_,rfl,_,rfl,_,_,rfl,_,rfl,_,rfl,_,_,rfl,by show 2<=1000;decide,rfl,jY (if oth<one then oth else one,if oth>one then oth else one),rfl,trivial,by have:=dl.len;omega,?_⟩
     refine⟨some (.sh (gg||true) (.int cell)),si one,si oth,_,rfl,dl.put _ ?_⟩
     dsimp only
     split<;>split<;>omega
   ·dsimp only
    rw[aH8 h1]
    exact aV ⟨some (.sh (gg||true) (.int cell)),z1,u1,ps,rfl,dl1⟩
  rintro ρ ⟨y1,z1,u1,ps,rfl,dl⟩
  rw[cU]at dl
  obtain⟨ls,e1,e2,e3,e4⟩:=DL.links dl.key
  have lnd:ls.Nodup:=by
   have:=dl.nd
   rw[e4]at this
   exact (aX6.mp this).imp λh e=>h (congrArg jY e)
  have hlen:=dl.len
  refine⟨_,rfl,⟨_,_,rfl,rfl,cT _,_,rfl,ps,rfl,ls.map two,?_,by rw[aJ1];omega,?_,λzs pz so=>?_⟩,λns z=>by cases z⟩
  ·show [PV.lst (ps.map λp=>PV.tup (p.1.map kP))]=_
   rw[e1,nE]
  ·intro y hy z
   obtain⟨l,_,rfl⟩:=aR9.mp hy
   cases z
  obtain⟨ls',rfl,pl⟩:=B4 pz
  rw[<- nE]
  exact⟨⟨_,_,rfl,rfl,cP _,by show 2<=1000;decide,ap8 _ _,trivial,q ws ls' (WD.perm (by omega) e2 (by omega) lnd hp pl so)⟩,λns z=>by cases z⟩
 refine⟨_,rfl,_,_,rfl,rfl,⟨by decide,by decide⟩,_,_,rfl,rfl,(by show (0:Int)<2;decide),.inl ⟨_,_,rfl,rfl,_,rfl,?_⟩⟩
 cases hc:(decide (wy/4%2=1)) with
 |false=>exact aV (aV last)
 |true=>
  refine b9 ⟨_,rfl,_,_,rfl,rfl,_,rfl,?_⟩
  by_cases h:n<9
  ·dsimp only
   rw[aI2 h]
   obtain⟨z,hz,e⟩:=B7 (a:=4) (b:=3) (c:=6) (d:=61) (i:=wy%4) (aM3 _ (by decide)) (aL8 _ d4)
   refine b9 ⟨_,rfl,x,ns,0,rfl,hx,by decide,_,rfl,x,ns,1,rfl,hx,by decide,_,rfl,by show 4<=1000;decide,rfl,_,rfl,_,_,rfl,rfl,d4,_,_,_,rfl,rfl,hz,_,_,n,z,rfl,n0,by omega,by omega,by omega,λws ls w=>⟨trivial,q ws ls w⟩⟩
  ·dsimp only
   rw[aH8 h];exact aV last
theorem ay5:fU G1 ["flow","many","way","wants","k","cell","pairs","one","other"] pX:=by
 rintro xs Q ⟨x,ns,n,wy,rfl,hx,hns,n0,n1,q⟩
 have d4:(0:Int)<4:=by decide
 have mid:uC { nx:=λ_=>Q .non,rt:=Q } [some (.sh (flat x) x),si n,si wy,none,none,none,none,none,none]:=ay4 hx hns n0 n1 q
 refine⟨_,rfl,_,_,rfl,rfl,⟨by decide,by decide⟩,_,_,rfl,rfl,d4,.inl ⟨_,_,rfl,rfl,_,rfl,?_⟩⟩
 cases hc:(decide (wy/8%4=1)) with
 |false=>exact aV (aV mid)
 |true=>
  refine b9 ⟨_,rfl,_,_,rfl,rfl,_,rfl,?_⟩
  by_cases h:(8:Int)<n
  ·dsimp only
   rw[aI2 h]
   exact b9 ⟨_,rfl,x,ns,0,rfl,hx,by decide,_,rfl,_,n,rfl,by omega,by omega,λws ls w=>⟨trivial,q ws ls w⟩⟩
  ·dsimp only
   rw[aH8 h];exact aV mid
def nH:cO:=λxs Q=>∃ws ls x y,xs = [gP ws ls,.tup [x,y]]/\eO x ws/\(y = .tup (aE ls)∨y = .lst (aE ls))/\ws.length<=1000/\ls.length<=100000/\Q (.bl true)
def G2 (K:ac):aK:=(aO (bC (gH (fB (aS (iB K "tuple" (a5 0)))) (gH (aS (mK (aI c7 (a7 (a5 0) aB)) (qC (.int 2)))) (fB (aS (aI nC (a7 (bL (a5 0) (qC (.int 0))) (a7 (bL (a5 1) (qC (.int 0))) aB))))))) (bZ (qC (.bl false))) cB)
 (aO (bC (gH (fB (aS (iB K "tuple" (bL (a5 0) (qC (.int 1)))))) (aS (mK (aI c7 (a7 (bL (a5 0) (qC (.int 1))) aB)) (aI c7 (a7 (bL (a5 1) (qC (.int 1))) aB))))) (bZ (qC (.bl false))) cB)
 (aO (dZ (iX (aI c7 (a7 (bL (a5 1) (qC (.int 1))) aB))) (dY 2)
  (bC (fB (aS (aI nC (a7 (bL (bL (a5 0) (qC (.int 1))) (a5 2)) (a7 (bL (bL (a5 1) (qC (.int 1))) (a5 2)) aB))))) (bZ (qC (.bl false))) cB))
 (bZ (qC (.bl true))))))
theorem ay6 {K:ac}(kt:PySem.W.kitOne K (.type "tuple") (.type "tuple")=some true):fU (G2 K) ["found","due","k"] nH:=by
 rintro xs Q ⟨ws,ls,x,y,rfl,hx,hy,lw,ll,q⟩
 have sy:i9 y=some (aE ls):=by rcases hy with rfl|rfl<;>rfl
 have ly:oM y=some (aE ls).length:=by rcases hy with rfl|rfl<;>rfl
 have pl:(aE ls).length=ls.length:=aJ1 _
 refine⟨_,rfl,_,_,rfl,kt,_,rfl,aV ⟨_,rfl,_,_,rfl,rfl,.inl ⟨_,_,rfl,rfl,_,rfl,?_⟩⟩⟩
 show if (!decide ((2:Int)=2))=true then _ else _
 refine aV ⟨_,rfl,_,_,_,rfl,rfl,rfl,_,rfl,_,_,_,rfl,rfl,rfl,x,ws,ws,rfl,hx,lw,lw,_,rfl,?_⟩
 rw[aI2 rfl]
 refine aV ?_
 refine⟨_,rfl,_,_,_,rfl,rfl,rfl,_,_,rfl,kt,_,rfl,aV ⟨_,rfl,_,_,_,rfl,rfl,rfl,_,_,rfl,rfl,_,rfl,_,_,_,rfl,rfl,rfl,_,_,rfl,ly,.inl ⟨_,_,rfl,rfl,_,rfl,?_⟩⟩⟩
 show if (!decide (((aE ls).length:Int)=((aE ls).length:Int)))=true then _ else _
 rw[aI2 rfl]
 refine aV ?_
 refine⟨_,rfl,_,_,_,rfl,rfl,rfl,_,_,rfl,ly,_,rfl,by omega,by omega,λi ρ=>∃z,ρ = [some (.sh (flat (gP ws ls)) (gP ws ls)),some (.sh (flat (.tup [x,y])) (.tup [x,y])),z],⟨none,rfl⟩,?_,?_⟩
 ·rintro i z ρ hz ⟨z0,rfl⟩
  obtain⟨rfl,hi⟩:=j8 hz
  have i1:i<ls.length:=by omega
  have hl:ls[i]? = some ls[i]:=aH5 i1
  have a1:L2.atI (aE ls) ((0:Int)+(i:Int))=some (.tup (intz [ls[i].1,ls[i].2])):=by
   rw[show (0:Int)+(i:Int)=(i:Int) by omega]
   exact lT (by unfold aE;rw[aL2,hl];rfl)
  refine⟨_,rfl,_,_,_,rfl,rfl,rfl,_,rfl,_,_,_,rfl,rfl,a1,_,rfl,_,_,_,rfl,rfl,rfl,_,rfl,_,_,_,sy,rfl,a1,_,[ls[i].1,ls[i].2],[ls[i].1,ls[i].2],rfl,.inl rfl,by show 2<=1000;decide,by show 2<=1000;decide,_,rfl,?_⟩
  rw[aI2 rfl]
  exact aV ⟨_,rfl⟩
 ·rintro ρ ⟨z,rfl⟩
  exact⟨trivial,q⟩
theorem uD (a b:aa):aE (a++b)=aE a++aE b:=aM7 ..
def uE (r c:Int)(l:Int×Int):Bool:=decide (0<=l.1)&&(decide (l.1<r)&&(decide (0<=l.2)&&decide (l.2<c)))
def ay7 (l:Int×Int):aa:=[(l.1-1,l.2),(l.1,l.2-1),(l.1,l.2+1),(l.1+1,l.2)]
def uF (r c:Int)(l:Int×Int):aa:=(ay7 l).filter (uE r c)
section
variable {ls:aa}{n:Nat}{B:af}
def ins (ls:aa)(S:af)(h:Int):Nat:=((oE ls h).filter λx=>decide (x∈S)).length
end
def keep2 (ls:aa)(L:af):af:=L.filter λh=>decide (2<=ins ls L h)
end Core
namespace L2
open PySem PySem.Spec PyProof.Rows SO
abbrev kk (l:Int×Int):List aM:=[Sum.inl l.1,Sum.inl l.2]
end L2
namespace Core
open PySem L2 PP
inductive nI (r c:Int)(S:aa):Int×Int->Prop
 |seed {x:Int×Int}:x∈S->nI r c S x
 |kin {x a b:Int×Int}:uE r c x=true->a∈uF r c x->b∈uF r c x->a≠b->nI r c S a->nI r c S b->nI r c S x
def nbC (r c:Int)(P:aa)(x:Int×Int):Nat:=(P.filter λp=>decide (x∈uF r c p)).length
structure Wk (r c:Int)(S K P:aa):Prop where
 nd:K.Nodup
 ndP:P.Nodup
 sub:∀x∈P,x∈K
 brn:∀x∈K,nI r c S x
 sd:∀x∈S,x∈K
 bd:∀x∈K,uE r c x=true
 low:∀x,x∉K->nbC r c P x<2
theorem ay8 {ls:aa}{w:Int}(h:0<=w):e8 (aE ls) none (some w)=aE (ls.take w.toNat):=by
 rw[at3 h];unfold aE;rw[List.map_take]
theorem ay9 {ls:aa}(w:Nat):e8 (aE ls) (some (w:Int)) none=aE (ls.drop w):=by
 unfold e8
 have e1:HT.aR (aE ls).length 0 (some (w:Int))=min w (aE ls).length:=HT.vY _ 0 w
 have e2:HT.aR (aE ls).length (aE ls).length none=(aE ls).length:=rfl
 rw[e1,e2,eC,aM8 (by rw[aP5,eC];omega)]
 by_cases hk:w<=ls.length
 ·rw[Nat.min_eq_left hk];unfold aE;rw[List.map_drop]
 ·rw[Nat.min_eq_right (by omega),List.drop_of_length_le (by rw[eC];exact aH7 _),List.drop_of_length_le (by omega)];rfl
structure Bx where
 t:Int
 l:Int
 b:Int
 r:Int
deriving DecidableEq
def Bx.k (x:Bx):af:=[x.t,x.l,x.b,x.r]
def okX (x:Bx):Prop:=x.t<=x.b/\x.l<=x.r
def G3 (x:Bx)(p:Int×Int):Prop:=x.t<=p.1/\p.1<=x.b/\x.l<=p.2/\p.2<=x.r
def G4 (x a:Int×Int):Prop:=(a.1=x.1/\(a.2=x.2-1∨a.2=x.2+1))∨(a.2=x.2/\(a.1=x.1-1∨a.1=x.1+1))
def Clo (B:Bx)(U:Int×Int->Prop):Prop:=∀x a b,G3 B x->G4 x a->G4 x b->a≠b->U a->U b->U x
section
variable {B:Bx}{U:Int×Int→Prop}
variable {t l b r:Int}
section
variable (cl:Clo B U){p1 p2:Int}(u:U (p1, p2))(ip:G3 B (p1, p2))
include cl u ip
end
end
section
variable {ls:aa}{n:Nat}{U:af}{v:Int}
noncomputable def mu (ls:aa)(U:af):Int:=((ls.filter (inL U)).length:Int)-(U.length:Int)+((av5 ls U).length:Int)
end
end Core
namespace L2
open PySem PySem.Spec PyProof.Rows
section
variable {M:Model}{A:Around}{E:Value→Shared→Prop}{s:Shared}
theorem az0 {x:Value}{env env':Env}(h:env'.frame=env.frame):noteFrame x env'=noteFrame x env:=by
 unfold noteFrame PySem.frameOf
 rw[h]
theorem az1 {h1 h2 h3:Heap}(a:h1.UpToSlots h2)(b:h2.UpToSlots h3):h1.UpToSlots h3:=λc o e n=>by
 obtain⟨sl,e2⟩:=a c o e n
 obtain⟨sl2,e3⟩:=b c { o with slots:=sl } e2 n
 exact⟨sl2,e3⟩
theorem az2 {base:Heap}{env:Env}{outer:List Env}{L e:Addr}{cls a0 fl:Value}{Q:Unit->Shared->Prop}(hfr:A.frames=some (env::outer))(hf:env.frame=some L)(k1:base.StaysIn s.heap)(k2:base.get? e=none)(k3:s.heap.FunFrames base (env::outer))(k4:s.heap.TracedAtW base e cls a0 fl)(hQ:∀h',Heap.FlyingW base outer e cls a0 h'->s.heap.UpToSlots h'->Q () { s with heap:=h' }):wpAny M A (leaving env (.ref e)) Q E s:=by
 by_cases c:fl=rawInt L
 ·subst c
  unfold leaving
  refine aH1 (wpAny_noteFrame_againW hf k4 ?_)
  refine wpAny_landsW ⟨k1,k2,k3,k4⟩ λh' hfl up=>?_
  obtain⟨l1,l2,⟨_,_,l3⟩,l4⟩:=hfl
  exact hQ h' ⟨l1,l2,l3,l4⟩ up
 ·unfold leaving
  refine aH1 ?_
  obtain⟨oe,vs,T,oT,ts,he,⟨hcls,h0⟩,hd,h1,hnT,hTe,hT,hdT,h3⟩:=k4
  subst hcls
  unfold noteFrame
  simp only[hf]
  refine aH1 (aM5 he hd h1 ?_)
  rw[if_pos (show (Value.ref T != Value.none)=true from by simp)]
  refine aH1 (aM5 hT hdT h3 ?_)
  rw[if_neg (show ¬((fl==rawInt L)=true) from λz=>c (eq_of_beq z))]
  refine aH1 (wpAny_setField hT hdT (Array.getElem?_eq_some_iff.mp h3).1 ?_)
  have other:∀b,b≠T->(s.heap.update T (Obj.mapFields (·.setIfInBounds 3 Value.none))).get? b=s.heap.get? b:=λb hb=>Heap.get?_update_other _ _ (Ne.symm hb)
  have noRecord:∀b o,s.heap.get? b=some o->(∀vs,o.data≠.fields vs)->b≠T:=λb o hb hnf q=>by
   rw[q,hT]at hb;injection hb with hb;subst hb;exact hnf ts hdT
  refine wpAny_entryW hfr (k3.of_keeps λb o hb hnf=>⟨o,(other b (noRecord b o hb hnf)).trans hb,rfl⟩) hf ((other e (Ne.symm hTe)).trans he)
   (λb o hbo=>(other b λq=>by rw[q,hnT]at hbo;cases hbo).trans (k1 b o hbo)) k2 hd (Array.getElem?_eq_some_iff.mp h1).1 h0 ?_
  rintro h1' ⟨x1,x2,x3,x4⟩
  refine wpAny_landsW (s:={ s with heap:=h1' }) ⟨x1,k2,x2,x3⟩ λh' hfl up=>?_
  obtain⟨l1,l2,⟨_,_,l3⟩,l4⟩:=hfl
  exact hQ h' ⟨l1,l2,l3,l4⟩ (az1 (λb o hb hnf=>x4 b o ((other b (noRecord b o hb hnf)).trans hb) hnf) up)
end
structure az3 (P:Program)(w:World)(outer:List Env)(ch:List Addr)(H:Hp)(s:Shared)(H':Hp)(B:Heap)(a C:Addr)(s':Shared):Prop where
 os:s'.os=s.os
 bare:AllBare s'.gens
 un:Un (aZ outer) ch H H' s.heap s'.heap
 hok:bF P w H' s'.heap
 st:B.StaysIn s'.heap
 na:B.get? a=none
 ff:s'.heap.FunFrames B outer
 tr:∃a0 fl,s'.heap.TracedAtW B a (.ref C) a0 fl
 b0:∀b o,s.heap.get? b=some o->b∉aZ outer->b∉ch->∃o',B.get? b=some o'
 b1:∀b o,s.heap.get? b=some o->H b=none->b∉aZ outer->b∉ch->B.get? b=some o
 b2:∀b u o,H' b=some u->s'.heap.get? b=some o->B.get? b=some o
def j9 (X:Cx)(E:XK):Prop:=∀(pins:List (Addr×Obj)) (σ:St) (H H':Hp) (s s':Shared) (B:Heap) (a C:Addr) (ch:List Addr),a6 X pins σ H s->(∀b∈ch,dC X pins H b/\X.s₀.heap.objs.size<=b)->az3 X.prog X.w X.stack ch H s H' B a C s'->E (.ref C) none H'->X.xe (.ref a) s'
section
variable {P:Program}{w:World}{K:ac}{mg:Str→Option Value}{base:Heap}{N:List Str}{qual:Str}{scope:Scope}{f:Addr}{cd:Value}{A:Around}{outer:List Env}{s₀:Shared}{H₀:Hp}{E₀ E₁:XK}
theorem az4 (hE:∀c d H',E₁ c d H'->E₀ c d H'):j9 (bX (cD P w) P w K mg base N qual scope f cd A outer s₀ H₀ E₀) E₁:=by
 intro pins σ H H' s s' B a C ch I hch fl q
 have I':=I.call' fl.os fl.un fl.hok fl.bare (ch:=ch) λb hb=>⟨(hch b hb).1.2.2.2.1,(hch b hb).1.2.1,(hch b hb).1.2.2.2.2.1,(hch b hb).1.2.2.2.2.2⟩
 have nch:∀{b o},s₀.heap.get? b=some o->b∉ch:=λ{b o} e z=>absurd (aI5 (aI1 e) (hch b z).2) (aN1 _)
 obtain⟨a0,fv,tr⟩:=fl.tr
 refine az2 I.ok.frames rfl fl.st fl.na fl.ff tr λh' fly' up=>?_
 have slot:∀b o,s₀.heap.get? b=some o->b∈aZ outer->∃sl,h'.get? b=some { o with slots:=sl }:=λb o e hb=>by
  obtain⟨sl,e1⟩:=I'.base.slot b o e (I.ok.frf b hb) hb (λz=>nomatch z)
  obtain⟨_,o2,e2,nf⟩:=I.ok.funs.mem hb
  rw[show (bX (cD P w) P w K mg base N qual scope f cd A outer s₀ H₀ E₀).s₀=s₀ from rfl,e]at e2
  cases e2
  obtain⟨sl',e3⟩:=up b _ e1 nf
  exact⟨sl',e3⟩
 have old:∀b o,s₀.heap.get? b=some o->H₀ b=none->b∉aZ outer->B.get? b=some o:=λb o e n hb=>
  fl.b1 b o (I.base.keep b o e n hb (λz=>nomatch z)) (I.base.free b o e n (λz=>nomatch z)) (lB I e hb) (nch e)
 have old0:∀b o,s₀.heap.get? b=some o->b∉aZ outer->∃o',B.get? b=some o':=λb o e hb=>by
  obtain⟨o1,e1⟩:=I.base.there b o e (λz=>nomatch z)
  exact fl.b0 b o1 e1 (lB I e hb) (nch e)
 have hok2:bF P w H' h':=λb u e=>
  (fl.hok b u e).stay (λc v hc q=>by
   rcases hc with z|z
   ·subst z;exact fly'.1 _ _ (fl.b2 _ _ _ e q)
   ·exact fly'.1 _ _ (fl.b2 _ _ _ z q)) (λ_ q=>q) λ_ _ q=>q
 refine⟨H',B,a,C,rfl,⟨I'.os,I'.bare,⟨λb o e n hb _=>fly'.1 _ _ (old b o e n hb),λb o e n hb _=>slot b o e hb,λb o e n hx=>I'.base.free b o e n hx,λb o e _=>?_,I'.base.tups,I'.base.frzs,I'.base.tbls⟩,hok2,⟨a0,fly'⟩,old0,old,λb u o e h=>?_⟩,hE _ _ _ q⟩
 ·by_cases hb:b∈aZ outer
  ·obtain⟨sl,e1⟩:=slot b o e hb
   exact⟨_,e1⟩
  ·obtain⟨o',e1⟩:=old0 b o e hb
   exact⟨o',fly'.1 _ _ e1⟩
 ·obtain⟨ob,e1⟩:=(fl.hok b u e).at
  have e2:=fl.b2 b u ob e e1
  have e3:=fly'.1 _ _ e2
  have h:h'.get? b=some o:=h
  rw[h]at e3;cases e3;exact e2
end
section
variable {X:Cx}{pins:List (Addr×Obj)}{σ:St}{H:Hp}{s:Shared}{scope:Scope}{N:List Str}{fr:List (Option Nat)}{tg iter elt:Expr}{ifs:List Expr}{pos:Pos}{wi:TI}{g:TG}{tc:TT}{te:TE}
structure G5 (X:Cx)(scope:Scope)(N:List Str)(tg:Expr)(ifs:List Expr)(elt:Expr)(s:Shared)(H:Hp)(XE:Addr->List Addr->Value->Shared->Prop)(g:TG)(tc:TT)(te:TE):Prop where
 tg:∀(C:Addr) (fp:List Addr),PG (bY X scope N s H C fp (XE C fp)) tg g
 ifs:∀(C:Addr) (fp:List Addr),jG (bY X scope N s H C fp (XE C fp)) ifs tc
 elt:∀(C:Addr) (fp:List Addr),PE (bY X scope N s H C fp (XE C fp)) elt te
theorem az5 {XE:Addr->List Addr->Value->Shared->Prop}{Rr:Value->Addr->Result->Shared->Prop}{J:It}{fp:List Addr}{it:Addr}{tn:Nat->Heap->Prop}{Q:VK}(hc:X.calm=true)(S:eW X scope N fr)(B:G5 X scope N tg ifs elt s H XE g tc te)(I:a6 X pins σ H s)(T:gA X.prog X.w X.K tg J fp it tn)(hst:tn 0 s.heap)(hf:∀b∈fp,dC X pins H b)(h:∀D,H D=none->∃W:Nat->Nat->List V->Hp->Prop,(∃m,W 0 m [] (upd H D (.lst [])))/\o8 g tc te (cX fr σ) J D Q W)(herr:∀(D C:Addr) (e:Value) (s':Shared),s.heap.objs.size<=C->XE C fp e s'->notedBy (model X.prog X.w) X.A (compEnvC scope (cY X scope C) C X.env) (λe s''=>Rr (.ref D) C (.error e) s'') e s')(hend:∀(D C:Addr) (s':Shared) (H':Hp) (m:Str->Option Value),s.heap.objs.size<=C->s.heap.objs.size<=D->a6 X pins σ H' s'->s'.heap.Ns C m->H' C=none->Q (.ref D) H'->Rr (.ref D) C (.ok .next) s') :
  wpAny (model X.prog X.w) X.A (newList []) (λacc s₃=>wpAny (model X.prog X.w) X.A (newFunctionEnv scope X.env.globals (cW X.env.cells scope.names []) [] X.env.qual none .none (some X.env)) (λcenv s₄=>
   codeAny (model X.prog X.w) X.A (.compStart (.ListComp elt [⟨tg,iter,ifs,0⟩] scope pos) 0 (.ref it) acc { cenv with scope:=relabel scope X.env }) (Rr acc cenv.locals) s₄) X.xe s₃) X.xe s:=by
 refine aP7 (xB (λh₁ hns₁ keep₁ hco₁=>?_))
 dsimp only at hns₁ keep₁ hco₁ ⊢
 generalize hH2:s.heap.push { cls:=.type "list",dict:=none,data:=.seq ([]:List Value).toArray }=H2 at hns₁ keep₁ hco₁ ⊢
 have hC:H2.objs.size=s.heap.objs.size+1:=by rw[<- hH2,aQ8]
 have hDC:s.heap.objs.size<H2.objs.size:=by rw[hC];exact Nat.lt_succ_self _
 have hCle:s.heap.objs.size<=H2.objs.size:=by rw[hC];exact Nat.le_succ _
 have old:∀b o,s.heap.get? b=some o->h₁.get? b=some o:=λb o e=>keep₁ b o (hH2▸aH2 _ e)
 have hacc:h₁.get? s.heap.objs.size=some { cls:=.type "list",data:=.seq #[] 0 }:=keep₁ _ _ (hH2▸aJ3 _ rfl)
 have hfl:∀b∈fp,b<s.heap.objs.size:=λb hb=>by obtain⟨o,e,_⟩:=T.obj _ _ hst b hb;exact aI1 e
 obtain⟨W,⟨m0,w0⟩,turn⟩:=h s.heap.objs.size (I.hok.fresh (aH7 _))
 have st1:tn 0 h₁:=T.keep _ _ _ hst λb _ o e=>old b o e
 have fr0:∀b∈fp,upd H s.heap.objs.size (.lst []) b=none:=λb hb=>by rw[aJ (aL5 (hfl b hb))];exact (hf b hb).1
 have stat:∀{H':Hp},(∀b∈fp,H' b=none)->∀b∈fp,dC (bY X scope N s H H2.objs.size fp (XE H2.objs.size fp)) [] H' b:=λ{H'} hn b hb=>by
  have f:=hf b hb
  refine⟨hn b hb,aL5 (aI5 (hfl b hb) hCle),λz=>?_,.inl hb,λx c e=>(iT e).elim (λz=>aR7 (Nat.lt_trans (aI5 (hfl b hb) hCle) (hco₁.empty x c z).2)) λz=>f.2.2.2.2.1 x c (lZ scope.names [] (S.cells I) (λ_ _ z=>by simp at z) z.2),λp hp=>absurd (show p∈([]:List (Addr×Obj)) from hp) (by simp)⟩
  rcases aH4.mp (I.stkSub b z) with e|e
  ·exact f.2.1 e
  ·exact f.2.2.1 e
 generalize hX:bY X scope N s H H2.objs.size fp (XE H2.objs.size fp)=Y at stat
 have I0:a6 Y [] (cX fr σ) (upd H s.heap.objs.size (.lst [])) { s with heap:=h₁ }:=hX▸x8 S I hf hfl (aH7 _) hCle hDC old hns₁ hacc hco₁
 have bt:PG Y tg g:=hX▸B.tg H2.objs.size fp
 have bi:jG Y ifs tc:=hX▸B.ifs H2.objs.size fp
 have be:PE Y elt te:=hX▸B.elt H2.objs.size fp
 have eP:Y.prog=X.prog:=by rw[<- hX];rfl
 have ew:Y.w=X.w:=by rw[<- hX];rfl
 have eK:Y.K=X.K:=by rw[<- hX];rfl
 have eA:Y.A=X.A:=by rw[<- hX];rfl
 have eE:Y.env=compEnvC scope (cY X scope H2.objs.size) H2.objs.size X.env:=by rw[<- hX];rfl
 have eX:Y.xe=XE H2.objs.size fp:=by rw[<- hX];rfl
 have ec:Y.calm=true:=by rw[<- hX];exact hc
 have never:∀(e:Value) (s':Shared),Y.xe e s'->notedBy (model X.prog X.w) X.A (compEnvC scope (cY X scope H2.objs.size) H2.objs.size X.env) (λe s''=>Rr (.ref s.heap.objs.size) H2.objs.size (.error e) s'') e s':=λe s' z=>by rw[eX]at z;exact herr _ _ e s' hCle z
 have out:∀{pins' σ' H' s'},a6 Y pins' σ' H' s'->a6 X pins σ H' s':=λ{_ _ _ _} I'=>rO (C:=H2.objs.size) (E:=XE H2.objs.size fp) (scope:=scope) (N:=N) I hf (hX▸I')
 have loop:codeAny (model X.prog X.w) X.A (.compLoop (.ListComp elt [⟨tg,iter,ifs,0⟩] scope pos) 0 (.ref it) (.ref s.heap.objs.size) (compEnvC scope (cY X scope H2.objs.size) H2.objs.size X.env))
   (Rr (.ref s.heap.objs.size) H2.objs.size) { s with heap:=h₁ }:=by
  refine xA (λn s'=>∃i acc H',a6 Y [] (cX fr σ) H' s'/\tn i s'.heap/\(∀b∈fp,H' b=none)/\W i n acc H') ?_ m0 ⟨0,[],_,I0,st1,fr0,w0⟩
  rintro n s3 ⟨i,acc,H3,I3,st3,fr3,w3⟩
  unfold o7
  dsimp only
  obtain⟨hD3,step⟩:=turn i n acc H3 w3
  rcases step with⟨stop,qn⟩|⟨go,step⟩
  ·have z:=T.done Y eP ew eK ec i [] s3 _ H3 (notedBy (model X.prog X.w) X.A (compEnvC scope (cY X scope H2.objs.size) H2.objs.size X.env) λe s'=>Rr (.ref s.heap.objs.size) H2.objs.size (.error e) s') I3 (stat fr3) st3 stop
   rw[eA]at z
   refine aQ z λr s4 ⟨hr,I4⟩=>?_
   subst hr
   obtain⟨m4,hn4,_⟩:=I4.loc
   rw[eE]at hn4
   have f4:=I4.free
   rw[eE]at f4
   exact hend _ _ s4 H3 m4 hCle (aH7 _) (out I4) hn4 f4 qn
  ·have z:=T.item Y eP ew eK ec i [] s3 _ H3 (notedBy (model X.prog X.w) X.A (compEnvC scope (cY X scope H2.objs.size) H2.objs.size X.env) λe s'=>Rr (.ref s.heap.objs.size) H2.objs.size (.error e) s') I3 (stat fr3) st3 go
   rw[eA]at z
   refine aQ z λr s4 ⟨u,hr,h4⟩=>?_
   subst hr
   refine aQ h4 λ_ s5 ⟨x,H5,I5,r5,y5,st5,fr5⟩=>?_
   have I5':=I5.pinned (stat fr5) (T.obj _ _ st5)
   have q1:=bt _ s5 _ H5 x u _ I5' r5 (step x H5 y5)
   rw[eP,ew,eA,eE]at q1
   refine aO8 q1 (λ_ s6 ⟨σ6,H6,I6,wk,q6⟩=>?_) never
   have q2:=bi _ s6 σ6 H6 _ I6 q6
   rw[eP,ew,eA,eE]at q2
   refine aO8 q2 (λb s7 ⟨H7,I7,q7⟩=>?_) never
   have again:∀{H8:Hp}{s8:Shared}{acc':List V},a6 Y ([]++kG fp s5.heap) σ6 H8 s8->(∃m',m'<n/\W (i+1) m' acc' H8)->∃m,m<n/\∃i acc H',a6 Y [] (cX fr σ) H' s8/\tn i s8.heap/\(∀b∈fp,H' b=none)/\W i m acc H':=λ{H8 s8 acc'} I8 n8=>by
    obtain⟨m',hm,w8⟩:=n8
    refine⟨m',hm,i+1,acc',H8,(I8.unpinned).weak wk.1 wk.2,T.keep _ _ _ st5 λb hb o e=>(I8.pin (b,o) (aK9 _ (aK9 _ (kH hb e)))).1,λb hb=>?_,w8⟩
    obtain⟨o,e,d⟩:=T.obj _ _ st5 b hb
    exact (I8.pin (b,o) (aK9 _ (aK9 _ (kH hb e)))).2.1
   cases b with
   |false=>
    rw[if_neg aJ0]at q7 ⊢
    exact again I7 q7
   |true=>
    rw[if_pos rfl]at q7 ⊢
    have q3:=be _ s7 σ6 H7 _ I7 q7
    rw[eP,ew,eA,eE]at q3
    refine aO8 q3 (λv s8 ⟨y,H8,I8,r8,hD8,hz8,q8⟩=>?_) never
    have q4:=lX _ s8 σ6 H8 (.ref s.heap.objs.size) [y] (.ref s.heap.objs.size) [v] (λ_ H9=>∃m',m'<n/\W (i+1) m' (acc++[y]) H9) I8 rfl (.cons r8 .nil) ⟨_,_,_,rfl,rfl,hD8,hz8,q8⟩
    rw[eP,ew,eA]at q4
    exact aO8 q4 (λ_ s9 ⟨_,H9,I9,_,q9⟩=>again I9 q9) never
 exact codeAny_compStart_list loop (T.self _ 0 _ _ _ st1 loop)
def XC (X:Cx)(scope:Scope)(N:List Str)(s:Shared)(H:Hp)(E:XK)(C:Addr)(fp:List Addr):Value->Shared->Prop:=λe s'=>∃pins σ H1 s1,a6 (bY X scope N s H C fp λ_ _=>False) pins σ H1 s1/\cD X.prog X.w X.stack H1 s1 E e s'
theorem az6 {E:XK}{C:Addr}{fp:List Addr}:jE (cD X.prog X.w) (bY X scope N s H C fp (XC X scope N s H E C fp)) E:=by
 intro pins σ H1 s1 e s' I h
 exact⟨pins,σ,H1,s1,⟨⟨I.ok.mod,I.ok.kind,I.ok.glob,I.ok.blt,I.ok.above,I.ok.inj,I.ok.has,I.ok.cab,I.ok.hd,I.ok.frames,I.ok.stk,I.ok.exf,I.ok.bs,I.ok.bsz,I.ok.noex,I.ok.exfs,I.ok.funs,I.ok.frf⟩,I.os,I.bare,I.base,I.loc,I.cell,I.free,I.freeC,I.pin,I.hok,I.len⟩,h⟩
theorem az7 {E:XK}{fp:List Addr}{C:Addr}{e:Value}{s':Shared}{cenv:Env}{Q:Value->Shared->Prop}{acc:Value}(pa:j9 X E)(hst:X.stack=X.env::X.outer)(hfm:X.env.frame=some X.env.locals)(I:a6 X pins σ H s)(hf:∀b∈fp,dC X pins H b)(hC:s.heap.objs.size<=C)(hcf:cenv.frame=X.env.frame)(h:XC X scope N s H E C fp e s'):notedBy (model X.prog X.w) X.A cenv (λe s''=>compPost (model X.prog X.w) X.A X.xe none Q acc C (.error e) s'') e s':=by
 obtain⟨pins1,σ1,H1,s1,I1,H',B,a,Cc,rfl,fl,q⟩:=h
 have I2:a6 X pins σ H1 s1:=rO I hf I1
 obtain⟨m,hns,_⟩:=I1.loc
 have hns:s1.heap.Ns C m:=hns
 have HC1:H1 C=none:=I1.free
 obtain⟨oC,es,ep,hoC,hdC,hsk,hnf⟩:=hns
 have nfr:C∉aZ X.stack:=λz=>by
  rcases aH4.mp (I.stkSub C z) with y|y
  ·exact absurd (aI5 I.lt hC) (by rw[y];exact aN1 _)
  ·exact I.nofs hC y
 have BC:B.get? C=some oC:=fl.b1 C oC hoC HC1 nfr
 have HC':H' C=none:=fl.un.free C oC hoC HC1 (by simp)
 obtain⟨a0,fly⟩:=fl.fly
 unfold notedBy
 rw[az0 hcf]
 have fly0:Heap.FlyingW B (X.env::X.outer) a (.ref Cc) a0 s'.heap:=hst▸fly
 refine wpAny_looks_onW (by rw[I.ok.frames,hst]) hfm fly0 λh1 held up=>?_
 obtain⟨k1,k2,k3,k4⟩:=held
 refine⟨m,⟨oC,es,ep,k1 _ _ BC,hdC,hsk,hnf⟩,λh' sb cenv' hc'=>?_⟩
 obtain⟨oe,vs,T,oT,ts,he,hcls,hd,hv1,hnT,hTe,hT,hdT,h3⟩:=k4
 have aC:a≠C:=λz=>by rw[z,BC]at k2;cases k2
 have TC:T≠C:=λz=>by rw[z,BC]at hnT;cases hnT
 have he':h'.get? a=some oe:=(sb.2 a aC).trans he
 have hT':h'.get? T=some oT:=(sb.2 T TC).trans hT
 have hsz3:3<ts.size:=(Array.getElem?_eq_some_iff.mp h3).1
 unfold PySem.passOn
 refine aH1 (aM5 (s:={ s' with heap:=h' }) he' hd hv1 ?_)
 rw[if_neg (show ¬((Value.ref T==Value.none)=true) from by simp)]
 refine aH1 ?_
 unfold setFlight
 refine aH1 (aM5 (s:={ s' with heap:=h' }) he' hd hv1 ?_)
 rw[if_pos (show (Value.ref T != Value.none)=true from by simp)]
 refine wpAny_setField (s:={ s' with heap:=h' }) hT' hdT hsz3 (wpAny_throw ?_)
 generalize hv:(cenv'.frame.elim Value.none λf=>rawInt f)=fv
 generalize hh2:h'.update T (Obj.mapFields (·.setIfInBounds 3 fv))=h2
 have other:∀b,b≠T->h2.get? b=h'.get? b:=λb hb=>by rw[<- hh2];exact Heap.get?_update_other _ _ (Ne.symm hb)
 have nC2:(PySem.W.hideAll B [C]).get? C=none:=PySem.W.hideAll_none [C] (.head _)
 have inB:∀{b o},B.get? b=some o->b≠C->(PySem.W.hideAll B [C]).get? b=some o:=λ{b o} e n=>PySem.W.hideAll_get [C] e λz=>n (aI3.mp z)
 have ofB:∀{b o},(PySem.W.hideAll B [C]).get? b=some o->B.get? b=some o:=λ{b o} e=>PySem.W.of_hideAll [C] e
 have none2:∀{b},B.get? b=none->(PySem.W.hideAll B [C]).get? b=none:=λ{b} e=>by
  cases z:(PySem.W.hideAll B [C]).get? b with
  |none=>rfl
  |some o=>rw[ofB z]at e;cases e
 have neC:∀{b o},(PySem.W.hideAll B [C]).get? b=some o->b≠C:=λ{b o} e z=>by rw[z,nC2]at e;cases e
 have stay:(PySem.W.hideAll B [C]).StaysIn h2:=λb o e=>by
  rw[other b (λz=>by rw[z]at e;rw[ofB e]at hnT;cases hnT),sb.2 b (neC e)]
  exact k1 _ _ (ofB e)
 have upS:∀b o,s'.heap.get? b=some o->(∀vs,o.data≠.fields vs)->b≠C->∃sl,h2.get? b=some { o with slots:=sl }:=λb o e nf n=>by
  obtain⟨sl,e1⟩:=up b o e nf
  refine⟨sl,?_⟩
  rw[other b (λz=>?_),sb.2 b n]
  ·exact e1
  ·rw[z]at e1
   rw[hT]at e1
   cases e1
   exact nf ts hdT
 have hne:∀{b u},H' b=some u->b≠C:=λ{b u} e z=>by rw[z,HC']at e;cases e
 have tr2:∀{b u o},H' b=some u->s'.heap.get? b=some o->(PySem.W.hideAll B [C]).get? b=some o:=λ{b u o} e g=>inB (fl.b2 b u o e g) (hne e)
 refine pa pins σ H1 H' s1 _ (PySem.W.hideAll B [C]) a Cc [C] I2 (λb hb=>?_) ⟨fl.os,fl.bare,⟨λb o e n hb hx=>?_,λb o e n hb hx=>?_,λb o e n hx=>fl.un.free b o e n (by simp),λb o e hx=>?_,fl.un.tups,fl.un.frzs,fl.un.tbls⟩,λb u e=>?_,stay,none2 k2,?_,?_,λb o e hb hx=>?_,λb o e n hb hx=>?_,λb u o e g=>?_⟩ q
 ·rw[aI3.mp hb]
  exact⟨I.fpOk hC HC1,aO7 I.sz hC⟩
 ·exact stay _ _ (inB (fl.b1 b o e n hb) λz=>hx (by rw[z];exact .head _))
 ·obtain⟨sl,e1⟩:=fl.un.slot b o e n hb (by simp)
  have nf:∀vs,o.data≠.fields vs:=by
   obtain⟨_,o2,e2,nf⟩:=I2.stack.mem hb
   rw[e]at e2;cases e2;exact nf
  obtain⟨sl2,e2⟩:=upS b _ e1 nf λz=>hx (by rw[z];exact .head _)
  exact⟨sl2,e2⟩
 ·by_cases hb:b∈aZ X.stack
  ·have n:=I2.stkFree b hb
   obtain⟨sl,e1⟩:=fl.un.slot b o e n hb (by simp)
   have nf:∀vs,o.data≠.fields vs:=by
    obtain⟨_,o2,e2,nf⟩:=I2.stack.mem hb
    rw[e]at e2;cases e2;exact nf
   obtain⟨sl2,e2⟩:=upS b _ e1 nf λz=>hx (by rw[z];exact .head _)
   exact⟨_,e2⟩
  ·obtain⟨o',e1⟩:=fl.b0 b o e hb
   exact⟨o',stay _ _ (inB e1 λz=>hx (by rw[z];exact .head _))⟩
 ·refine (fl.hok b u e).stay (λc v hc g=>?_) (λ_ g=>g) λ_ _ g=>g
  rcases hc with z|z
  ·subst z;exact stay _ _ (tr2 e g)
  ·exact stay _ _ (tr2 z g)
 ·rw[hst]
  have ff:h1.FunFrames B (X.env::X.outer):=k3
  have ff2:∀{l:List Env},h1.FunFrames B l->h2.FunFrames (PySem.W.hideAll B [C]) l:=by
   intro l
   induction l with
   |nil=>exact λ_=>trivial
   |cons en l ih=>
    rintro⟨hk,⟨Lf,o,hfL,hn,ho,hdd⟩,hr⟩
    refine⟨hk,⟨Lf,o,hfL,none2 hn,?_,hdd⟩,ih hr⟩
    have n1:Lf≠C:=λz=>by rw[z,BC]at hn;cases hn
    have n2:Lf≠T:=λz=>by
     rw[z,hT]at ho;cases ho
     exact absurd hdT (hdd ts)
    rw[other Lf n2,sb.2 Lf n1]
    exact ho
  exact ff2 ff
 ·refine⟨a0,fv,oe,vs,T,Obj.mapFields (·.setIfInBounds 3 fv) oT,ts.setIfInBounds 3 fv,(other a (Ne.symm hTe)).trans he',hcls,hd,hv1,none2 hnT,hTe,?_,aV8 hdT _,?_⟩
  ·rw[<- hh2]
   exact Heap.get?_update_self _ hT' (Obj.isFreed_of_fields (aV8 hdT _))
  ·show (ts.setIfInBounds 3 fv)[3]? = some fv
   simp[hsz3]
 ·obtain⟨o',e1⟩:=fl.b0 b o e hb
  exact⟨o',inB e1 λz=>hx (by rw[z];exact .head _)⟩
 ·exact inB (fl.b1 b o e n hb) λz=>hx (by rw[z];exact .head _)
 ·obtain⟨ob,e1⟩:=(fl.hok b u e).at
  have e2:=tr2 e e1
  have e3:=stay _ _ e2
  rw[show h2.get? b=some o from g]at e3
  cases e3;exact e2
end
end L2
namespace PP
open PySem L2
section
variable {X:Cx}{σ:L2.St}{H:Hp}{D:bN}{tr:bS}{Q':VK}{a b c e:Expr}{es:List Expr}{pos p2:Pos}{t:aK}{te:aD}{tc:cH}{Ep:Str→Prop}
variable {scope:Scope}{N:List Str}{fr:List (Option Nat)}{x y:Str}{tp:Pos}{iter elt tg:Expr}{ifs:List Expr}{ti:dF}{wi:TI}{gh:Hp→TG}{tch:Hp→TT}{teh:Hp→TE}
def G6 (X:Cx)(wi:TI)(fr:List (Option Nat))(gh:Hp->TG)(tch:Hp->TT)(teh:Hp->TE):TE:=λσ H Q=>wi σ H λJ H1=>aH X.H₀ H1/\∀D,H1 D=none->
 ∃W:Nat->Nat->List V->Hp->Prop,(∃m,W 0 m [] (upd H1 D (.lst [])))/\o8 (gh H1) (tch H1) (teh H1) (cX fr σ) J D Q W
theorem az8 {E E':XK}(pa:j9 X E)(h:∀c d H',E' c d H'->E c d H'):j9 X E':=λpins σ H H' s s' B a C ch I hc fl q=>pa pins σ H H' s s' B a C ch I hc fl (h _ _ _ q)
theorem az9 (pa:j9 X (EX X.K X.H₀ Ep))(hst:X.stack=X.env::X.outer)(hfm:X.env.frame=some X.env.locals)(hc:X.calm=true)(S:eW X scope N fr)(hi:PI X tg iter wi)(B:∀(s:Shared) (H:Hp),G5 X scope N tg ifs elt s H (XC X scope N s H (EX X.K H Ep)) (gh H) (tch H) (teh H))(hs:∀x,foldedSetIterable iter X.env x=pure x:=by intro _;rfl):PE X (.ListComp elt [⟨tg,iter,ifs,0⟩] scope pos) (G6 X wi fr gh tch teh):=by
 intro pins s σ H Q I h
 rw[eval_ListComp]
 refine wpAny_comprehension_free (use:=none) rfl hs (x5 (S.cells I)) S.kind S.names (aQ (hi pins s σ H _ I h) λv s1 h1=>aQ h1 λitv s2 h2=>?_)
 obtain⟨it,fp,tn,J,H2,e,I2,T,st2,f2,sm,hW⟩:=h2
 subst e
 have pa2:j9 X (EX X.K H2 Ep):=az8 pa λc d H' z=>⟨z.1,sm.trans z.2.1,z.2.2⟩
 refine az5 (Rr:=λacc C=>compPost (model X.prog X.w) X.A X.xe none (EP X pins σ Q) acc C) hc S (B _ _) I2 T st2 f2 hW (λD C e s' hC hx=>az7 pa2 hst hfm I2 f2 hC rfl hx) ?_
 intro D C s' H' m hC hD I' hns hHC q
 exact⟨m,hns,λh' sb=>⟨.ref D,H',I2.drop hC I' hHC sb,rfl,q⟩⟩
theorem aA0 {p:gK}{g:TG}{own:Nat->Prop}(hg:jL X.K own p g)(ho:∀i,own i->fr[i]? = some none)(h:LE X (kS ti fr p tc te) σ H Q') :
  G6 X (LI X ti) fr (λ_=>g) (λH1=>LT (X.frm H1) tc) (λH1=>LE (X.frm H1) te) σ H Q':=by
 obtain⟨W,ρ,Q2,px,q2,k2⟩:=yL hg ho h
 exact⟨W,ρ,Q2,px,q2,λJ H1 xs gb s it hq=>⟨px.same.trans s,k2 J H1 xs gb s it hq⟩⟩
theorem aA1 (pa:j9 X (EX X.K X.H₀ Ep))(hi:QI X (.Name x tp) iter ti)(he:∀(s:Shared) (H:Hp) (C:Addr) (fp:List Addr),QE (bY X scope N s H C fp (XC X scope N s H (EX X.K H Ep) C fp)) elt te)(hst:X.stack=X.env::X.outer:=by rfl)(hfm:X.env.frame=some X.env.locals:=by rfl)(hc:X.calm=true:=by rfl)(S:eW X scope N fr:=by exact eW.of rfl rfl)(hN:N.Nodup:=by decide +kernel)(h0:N[0]? = some x:=by rfl)(hl:∀(s:Shared) (H:Hp) (C:Addr) (fp:List Addr),(bY X scope N s H C fp gY).env.scope.names.lookup x=some .local:=by intro _ _ _ _;rfl)(hf:fr[0]? = some none:=by rfl)(hs:∀x,foldedSetIterable iter X.env x=pure x:=by intro _;rfl):QE X (.ListComp elt [⟨.Name x tp,iter,[],0⟩] scope pos) (kS ti fr (dY 0) iY te):=
 bT (az9 (gh:=λ_=>dB 0) (tch:=λH=>LT (X.frm H) iY) (teh:=λH=>LE (X.frm H) te) pa hst hfm hc S hi
  (λs H=>⟨λC fp=>iP (X:=bY X scope N s H C fp (XC X scope N s H (EX X.K H Ep) C fp)) hN h0 (.inl (hl s H C fp)) (.inr (hl s H C fp)),λC fp=>yY (Y:=bY X scope N s H C fp (XC X scope N s H (EX X.K H Ep) C fp)),λC fp=>he s H C fp⟩) hs) λ_ _ _=>aA0 (yK _ 0) (λi e=>by subst e;exact hf)
theorem aA2 {k j:Nat}{x:Str}{ps:List Str}{p:eQ}(hp:jE (cD X.prog X.w) X (EX X.K X.H₀ Ep))(d:dI X.prog X.w X.K X.mg X.base k x ps p)(hr:bJ j X.A)(ha:QA X (e::es) tr)(hkj:k<=j:=by decide)(hg:Gl X x:=by rfl)(hdb:(x==("__debug__":Str))=false:=by decide)(he:starEach (e::es) X.env=(false,eval e X.env)::starEach es X.env:=by rfl)(hpl:(backTo pos (starEach es X.env)).any (·.1)=false:=by rfl):QE X (.Call (.Name x p2) (e::es) [] pos) (tW Ep p tr):=by
 obtain⟨f,fd,F,b,kp,m⟩:=d.ex
 exact bT (nW F (hr.mono hkj) hg m kp b .nil hp ha hdb he hpl) λ_ _ _=>C9
end
theorem dI.ofA {P:Program}{w:World}{K:ac}{mg:Str->Option Value}{base:Heap}{k:Nat}{x:Str}{ps N:List Str}{p:eQ}{st:Stmt}{f:Addr}{fd:FuncData}(F:dD K x x st f fd)(m:mg x=some (.ref f))(S:FnScope N ps (aU st))(hb:∀(kV doc pm:Value) (an:Option Addr) (cdv ct:Value) (us:List Value),us.length=ps.length->bindArgs (PySem.W.fnOf x x (gF st) (cS st) (aU st) .none kV doc pm an cdv ct) ⟨us,[]⟩=pure (ps.zip us))(t:(Str->Prop)->aK)(len:∀Ep xs Q,p Ep xs Q->xs.length=ps.length)(rd:∀Ep xs Q,p Ep xs Q->t Ep { nx:=λ_=>Q .non,rt:=Q } (cZ N xs))(body:∀(cdv:Value) (A:Around) (outer:List Env) (s:Shared) (H:Hp) (E:XK) (Ep:Str->Prop),bJ k (A.deeper (PyProof.Rows.envOfC x (aU st) s.heap.objs.size f cdv))->lC (bX (cD P w) P w K mg base N x (aU st) f cdv A outer s H E) (EX K H Ep)->j9 (bX (cD P w) P w K mg base N x (aU st) f cdv A outer s H E) (EX K H Ep)->
   dQ (bX (cD P w) P w K mg base N x (aU st) f cdv A outer s H E) (cS st) (t Ep)):dI P w K mg base (k+1) x ps p:=by
 refine⟨f,fd,F.okX S (λvs H Q E h=>?_) (λcdv A outer s H vs Q E hr h=>?_),F.binds hb,F.kp,m⟩
 ·obtain⟨xs,Qp,Ep,r,q,_⟩:=h
  rw[r.length];exact len Ep xs Qp q
 ·obtain⟨xs,Qp,Ep,r,q,k,ke⟩:=h
  have hE:∀c d H',EX K H Ep c d H'->E c d H':=λc d H' z=>by
   obtain⟨rfl,s,n,C,rfl,h1,h2⟩:=z
   exact ke n C H' s h1 h2
  have ht:=body cdv A outer s H E Ep hr (zZ hE) (az4 hE)
  refine⟨_,ht,λ_=>False,cZ N xs,_,p5 r,rd Ep xs Qp q,?_,?_,?_,?_⟩
  ·exact λW' σ' H' ρ' e px q=>k _ _ _ px.same .non q
  ·exact λv H' x s r q=>k _ _ _ s r q
  ·exact λW' σ' H' ρ' e px q=>q
  ·exact λW' σ' H' ρ' e px q=>q
end PP
namespace L2
open PySem PySem.Spec PyProof.Rows
def fI (H:Hp)(as:List Addr):Hp:=λb=>if b∈as then none else H b
abbrev Cx.off (X:Cx)(as:List Addr):Cx:={ X with H₀:=fI X.H₀ as,ex:=as }
section
variable {X:Cx}{pins:List (Addr×Obj)}{σ:St}{H:Hp}{s:Shared}{as:List Addr}
theorem uG {b:Addr}(h:b∈as):fI H as b=none:=by unfold fI;rw[if_pos h]
theorem nJ {b:Addr}(h:b∉as):fI H as b=H b:=by unfold fI;rw[if_neg h]
theorem pY {b:Addr}{o:HO}(h:fI H as b=some o):H b=some o:=by
 unfold fI at h
 split at h
 ·cases h
 ·exact h
def uH:HO->Bool
 |.tup _=>false
 |.frz _ _=>false
 |.tbl _=>false
 |_=>true
theorem a6.off (I:a6 X pins σ H s)(he:X.ex = [])(ha:∀b∈as,(∃o,X.H₀ b=some o)/\∃o,H b=some o):a6 (X.off as) pins σ H s:=by
 have ok:=I.ok
 have tr:∀{b},b∈as->X.H₀ b≠none:=λ{b} h z=>by obtain⟨⟨o,e⟩,_⟩:=ha b h;rw[z]at e;cases e
 have out:∀{b},fI X.H₀ as b=none->b∉as->X.H₀ b=none:=λ{b} e n=>by rw[nJ n]at e;exact e
 have no:∀{b},X.H₀ b=none->fI X.H₀ as b=none:=λ{b} e=>by
  by_cases z:b∈as
  ·exact uG z
  ·rw[nJ z];exact e
 have nex:∀b:Addr,b∉X.ex:=λb z=>by rw[he]at z;cases z
 refine⟨⟨ok.mod,ok.kind,ok.glob,ok.blt,ok.above,ok.inj,ok.has,ok.cab,ok.hd,ok.frames,ok.stk,λb hb=>⟨?_,λx c e z=>?_⟩,λb o e=>⟨(ok.bs b o e).1,no (ok.bs b o e).2⟩,ok.bsz,λb o e z=>tr z (ok.bs b o e).2,λb hb z=>tr hb (ok.frf b z),ok.funs,λb hb=>no (ok.frf b hb)⟩,I.os,I.bare,
  ⟨λb o e n hb hx=>I.base.keep b o e (out n hx) hb (nex b),λb o e n hb hx=>I.base.slot b o e (out n hx) hb (nex b),λb o e n hx=>I.base.free b o e (out n hx) (nex b),λb o e _=>I.base.there b o e (nex b),λb xs e=>I.base.tups b xs (pY e),λb o u e=>I.base.frzs b o u (pY e),λb ps e=>I.base.tbls b ps (pY e)⟩,I.loc,I.cell,I.free,I.freeC,I.pin,I.hok,I.len⟩
 ·obtain⟨_,o,e⟩:=ha b hb
  exact λz=>by rw[z,I.free]at e;cases e
 ·obtain⟨_,o,e2⟩:=ha b hb
  rw[<- z,I.freeC x c e]at e2;cases e2
theorem a6.on (ok0:X.Ok)(I:a6 (X.off as) pins σ H s)(he:X.ex = [])(ha:∀b∈as,∃o,X.H₀ b=some o/\uH o=true)(hH:∀b∈as,∃o,H b=some o):a6 X pins σ H s:=by
 have tr:∀{b},X.H₀ b=none->b∉as:=λ{b} z h=>by obtain⟨o,e,_⟩:=ha b h;rw[z]at e;cases e
 have no:∀{b},X.H₀ b=none->fI X.H₀ as b=none:=λ{b} e=>by rw[nJ (tr e)];exact e
 have nt:∀{b o},X.H₀ b=some o->uH o=false->fI X.H₀ as b=some o:=λ{b o} e m=>by
  rw[nJ λh=>?_]
  ·exact e
  ·obtain⟨o2,e2,m2⟩:=ha b h
   rw[e]at e2;cases e2;rw[m]at m2;cases m2
 refine⟨ok0,I.os,I.bare,⟨λb o e n hb _=>I.base.keep b o e (no n) hb (tr n),λb o e n hb _=>I.base.slot b o e (no n) hb (tr n),λb o e n _=>I.base.free b o e (no n) (tr n),λb o e _=>?_,λb xs e=>I.base.tups b xs (nt e rfl),λb o u e=>I.base.frzs b o u (nt e rfl),λb ps e=>I.base.tbls b ps (nt e rfl)⟩,I.loc,I.cell,I.free,I.freeC,I.pin,I.hok,I.len⟩
 by_cases z:b∈as
 ·obtain⟨u,e2⟩:=hH b z
  exact (I.hok b u e2).at
 ·exact I.base.there b o e z
def aA3 (X:Cx)(as:List Addr)(T:TS):TS:=λD σ H=>(∀b∈as,(∃o,X.H₀ b=some o/\uH o=true)/\∃o,H b=some o)/\T { nx:=λσ' H'=>(∀b∈as,∃o,H' b=some o)/\D.nx σ' H',rt:=λv H'=>(∀b∈as,∃o,H' b=some o)/\D.rt v H',bk:=λ_ _=>False,ct:=λ_ _=>False } σ H
theorem aA4 {body:List Stmt}{T:TS}(hb:cN (X.off as) body T)(he:X.ex = []):cN X body (aA3 X as T):=by
 intro pins s σ H D I h
 obtain⟨ha,h⟩:=h
 have I1:=I.off he (as:=as) λb z=>let ⟨⟨o,e,_⟩,l⟩:=ha b z;⟨⟨o,e⟩,l⟩
 have on:∀{σ' H' s'},a6 (X.off as) pins σ' H' s'->(∀b∈as,∃o,H' b=some o)->a6 X pins σ' H' s':=λ{σ' H' s'} I2 hH=>a6.on I.ok I2 he (λb z=>(ha b z).1) hH
 refine aQ (hb pins s σ H _ I1 h) λfl s' hq=>?_
 cases fl with
 |next=>obtain⟨σ',H',I2,z,q⟩:=hq;exact⟨σ',H',on I2 z,q⟩
 |brk=>obtain⟨σ',H',I2,q⟩:=hq;exact q.elim
 |cont=>obtain⟨σ',H',I2,q⟩:=hq;exact q.elim
 |ret u=>obtain⟨v,σ',H',I2,r,z,q⟩:=hq;exact⟨v,σ',H',on I2 z,r,q⟩
end
end L2
namespace Core
open PySem L2 PP
def iK (n:Nat)(l:Int×Int):Prop:=0<=l.1/\l.1<(n:Int)/\0<=l.2/\l.2<(n:Int)/\l.1≠l.2
def pZ:eQ:=λEp xs Q=>∃(n:Nat) (l:Int×Int),xs = [.int n,.tup [.int l.1,.int l.2]]/\(iK n l->Q (.tup [.int (bM l).1,.int (bM l).2]))/\(¬iK n l->Ep "BadWeb")
def G7 (Ep:Str->Prop):aK:=(aO (bG 2 (aI u9 (a7 (a5 1) aB)))
 (aO (bG 3 (aI u8 (a7 (a5 1) aB)))
 (aO (bC (gH (aS (mJ (a5 2) (qC (.int 0)))) (aS (qGe (a5 3) (a5 0)))) (k6 Ep "BadWeb" (a7 (qC (.str "a link has a number that is no hearth")) aB)) cB)
 (aO (bC (aS (dG (a5 2) (a5 3))) (k6 Ep "BadWeb" (a7 (qC (.str "a link joins two unlike hearths")) aB)) cB)
 (bZ (dE (a7 (a5 2) (a7 (a5 3) aB))))))))
theorem aA5:E5 G7 ["many","link","one","other"] pZ:=by
 rintro Ep xs Q ⟨n,l,rfl,q,bad⟩
 refine⟨_,rfl,[l.1,l.2],rfl,(λz=>by cases z),λm m1 m2=>⟨trivial,?_⟩⟩
 refine⟨_,rfl,[l.1,l.2],rfl,(λz=>by cases z),λM M1 M2=>⟨trivial,?_⟩⟩
 have hm:m=(bM l).1:=by
  have h1:=m2 l.1 (by simp)
  have h2:=m2 l.2 (by simp)
  show m=min l.1 l.2
  rcases aH4.mp m1 with z|z
  ·omega
  ·have:=aI3.mp z;omega
 have hM:M=(bM l).2:=by
  have h1:=M2 l.1 (by simp)
  have h2:=M2 l.2 (by simp)
  show M=max l.1 l.2
  rcases aH4.mp M1 with z|z
  ·omega
  ·have:=aI3.mp z;omega
 have e1:(bM l).1=min l.1 l.2:=rfl
 have e2:(bM l).2=max l.1 l.2:=rfl
 unfold iK at q bad
 subst hm hM
 refine⟨_,rfl,_,_,rfl,rfl,_,rfl,?_⟩
 dsimp only
 by_cases c1:(bM l).1<0
 ·rw[aI2 c1]
  exact b9 (b9 ⟨by show 1<=1000;decide,bad (by omega)⟩)
 rw[aH8 c1]
 refine aV ⟨_,rfl,_,rfl,_,_,rfl,rfl,_,rfl,?_⟩
 dsimp only
 by_cases c2:(bM l).2 >= (n:Int)
 ·rw[aI2 c2]
  exact b9 ⟨by show 1<=1000;decide,bad (by omega)⟩
 rw[aH8 c2]
 refine aV ⟨_,rfl,_,rfl,.inl ⟨_,_,rfl,rfl,_,rfl,?_⟩⟩
 show if decide ((bM l).1=(bM l).2)=true then _ else _
 by_cases c3:(bM l).1=(bM l).2
 ·rw[aI2 c3]
  exact b9 ⟨by show 1<=1000;decide,bad (by omega)⟩
 rw[aH8 c3]
 exact aV ⟨_,rfl,_,rfl,by show 2<=1000;decide,rfl,trivial,q (by omega)⟩
def eS (ws:af)(ls:aa):Prop:=ws.length<=40/\(∀w∈ws,0<=w/\w<=60)/\(∀l∈ls,iK ws.length l)/\(ls.map bM).Nodup
def jA:eQ:=λEp xs Q=>∃x y ws ls,xs = [x,y]/\eO x ws/\(y = .tup (aE ls)∨y = .lst (aE ls))/\ls.length<=1800/\(eS ws ls->ls.length<=1700/\∀ls',ls'.Perm (ls.map bM)->WL (ws.length:Int) ws ls'->Q (gP ws ls'))/\(¬eS ws ls->Ep "BadWeb")
def G8 (Ep:Str->Prop):aK:=(aO (bC (aS (fD (aI c7 (a7 (a5 0) aB)) (qC (.int 40)))) (k6 Ep "BadWeb" (a7 (qC (.str "a web has at most 40 hearths")) aB)) cB)
 (aO (dZ (mF (a5 0)) (dY 2)
  (bC (gH (aS (mJ (a5 2) (qC (.int 0)))) (aS (fD (a5 2) (qC (.int 60))))) (k6 Ep "BadWeb" (a7 (qC (.str "a hearth wants from 0 to 60 neighbours")) aB)) cB))
 (aO (bG 3 (aI u6 (a7 (kS (mF (a5 1)) [none,some 0] (dY 0) iY (tW Ep pZ (a7 (aI c7 (a7 (a5 1) aB)) (a7 (a5 0) aB)))) aB)))
 (aO (bC (fB (aS (aI pU (a7 (a5 3) aB)))) (k6 Ep "BadWeb" (a7 (qC (.str "two links have the same two hearths")) aB)) cB)
 (bZ (dE (a7 (aI fE (a7 (a5 0) aB)) (a7 (aI fE (a7 (a5 3) aB)) aB))))))))
theorem aA6:E5 G8 ["wants","links","want","pairs"] jA:=by
 rintro Ep xs Q ⟨x,y,ws,ls,rfl,hx,hy,l17,q,bad⟩
 have sy:i9 y=some (aE ls):=by rcases hy with rfl|rfl<;>rfl
 have fy:flats (aE ls)=true:=cP ls
 have pl:(aE ls).length=ls.length:=aJ1 _
 refine⟨_,rfl,_,_,rfl,hx.len,_,_,rfl,rfl,_,rfl,?_⟩
 dsimp only
 by_cases c1:(ws.length:Int)>40
 ·rw[aI2 c1]
  exact b9 ⟨by show 1<=1000;decide,bad λz=>by have:=z.1;omega⟩
 rw[aH8 c1]
 refine aV ?_
 refine⟨_,rfl,_,hx.seq,ao2 hx,λi ρ=>(∀w∈ws.take i,0<=w/\w<=60)/\∃y2,ρ = [some (.sh (flat x) x),some (.sh (flat y) y),y2,none],⟨(λ_ z=>by cases z),none,rfl⟩,?_,?_⟩
 ·rintro i z ρ hz ⟨ok,y2,rfl⟩
  obtain⟨n,rfl,hn⟩:=A5 hz
  have mn:=aU1 hn
  refine as9 ?_
  refine⟨_,rfl,_,_,rfl,rfl,_,rfl,?_⟩
  dsimp only
  by_cases c2:n<0
  ·rw[aI2 c2]
   exact b9 (b9 ⟨by show 1<=1000;decide,bad λz=>by have:=z.2.1 n mn;omega⟩)
  rw[aH8 c2]
  refine aV ⟨_,rfl,_,_,rfl,rfl,_,rfl,?_⟩
  dsimp only
  by_cases c3:n>60
  ·rw[aI2 c3]
   exact b9 ⟨by show 1<=1000;decide,bad λz=>by have:=z.2.1 n mn;omega⟩
  rw[aH8 c3]
  refine aV ⟨λw hw=>?_,_,rfl⟩
  rw[aT0,hn]at hw
  rcases aN2.mp hw with hw|hw
  ·exact ok w hw
  ·rw[aI3.mp hw];omega
 rintro ρ ⟨hw,y2,rfl⟩
 have hw:∀w∈ws,0<=w/\w<=60:=λw h=>hw w (by rw[cU,List.take_length];exact h)
 refine⟨_,rfl,_,sy,(λz=>?_),by rw[pl];omega,λi acc=>(∀l∈ls.take i,iK ws.length l)/\acc=aE ((ls.take i).map bM),⟨(λ_ z=>by cases z),rfl⟩,?_,?_⟩
 ·cases h:flat y with
  |true=>exact h
  |false=>rw[h]at z;cases z
 ·rintro i z acc hz ⟨ok,rfl⟩
  obtain⟨l,rfl,hl⟩:=B3 hz
  have ml:=aU1 hl
  refine⟨_,rfl,_,_,rfl,hx.len,_,rfl,ws.length,l,rfl,λiK=>⟨trivial,λm hm=>?_,?_⟩,λno=>bad λz=>no (z.2.2.1 l ml)⟩
  ·rw[aT0,hl]at hm
   rcases aN2.mp hm with hm|hm
   ·exact ok m hm
   ·rw[aI3.mp hm];exact iK
  rw[aT0,hl,aM7]
  unfold aE
  rw[aM7];rfl
 rintro acc ⟨inn,rfl⟩
 rw[pl,List.take_length]at inn ⊢
 refine⟨(ls.map bM).map two,by rw[nE];rfl,by rw[aJ1,aJ1];omega,λr hr=>by obtain⟨l,_,rfl⟩:=aR9.mp hr;rfl,λZ pz so=>⟨trivial,?_⟩⟩
 obtain⟨ls',rfl,pp⟩:=B4 pz
 have ll:=pp.length_eq
 rw[aJ1]at ll
 rw[show ((ls'.map two).map λr=>PV.tup (intz r))=aE ls' from (nE ls').symm]
 refine⟨_,rfl,_,rfl,.inr ⟨ls',rfl,by omega,λb hb=>?_⟩⟩
 refine⟨_,rfl,?_⟩
 by_cases nd:(ls.map bM).Nodup
 ·have okw:eS ws ls:=⟨by omega,hw,inn,nd⟩
  have l17:=(q okw).1
  have wl:WL (ws.length:Int) ws ls':=WL.perm rfl (λl hl=>by
   obtain⟨m,hm,rfl⟩:=aR9.mp hl
   obtain⟨a0,a1,b0,b1,ne⟩:=inn m hm
   show 0<=min m.1 m.2/\min m.1 m.2<max m.1 m.2/\max m.1 m.2<(ws.length:Int)
   omega) (by rw[aJ1];exact l17) nd (λw h=>(hw w h).1) pp so
  rw[hb.mpr wl.ord]
  refine aV ?_
  refine⟨_,rfl,⟨_,_,rfl,hx.seqT,cT _,?_⟩,hx.noscr⟩
  refine⟨_,rfl,⟨_,_,rfl,rfl,cP _,?_⟩,λ_ z=>by cases z⟩
  exact⟨by show 2<=1000;decide,nA ws ls',trivial,(q okw).2 ls' pp wl⟩
 ·have hb2:b=false:=by
   cases b with
   |false=>rfl
   |true=>
    have o:=hb.mp rfl
    have nd':ls'.Nodup:=o.imp λ{a b} h e=>by rw[e]at h;unfold cV at h;omega
    exact absurd (pp.nodup_iff.mp nd') nd
  rw[hb2]
  exact b9 ⟨by show 1<=1000;decide,bad λz=>nd z.2.2.2⟩
theorem G9 (l:Int×Int):bM (l.2,l.1)=bM l:=by
 unfold bM
 show (min l.2 l.1,max l.2 l.1)=_
 rw[show min l.2 l.1=min l.1 l.2 by omega,show max l.2 l.1=max l.1 l.2 by omega]
def iL (ts:aa)(s:Nat)(p:Int×Int):aa:=ts.take s++[p]++ts.drop s
theorem aA7 (ts:aa)(s:Nat)(p:Int×Int):(iL ts s p).length=ts.length+1:=by
 unfold iL
 rw[aL1,aL1,aV4,aP5,aW3];omega
theorem J0 (ts:aa)(s:Nat)(p:Int×Int):(iL ts s p).Perm (p::ts):=by
 unfold iL
 have h:=List.perm_middle (a:=p) (l₁:=ts.take s) (l₂:=ts.drop s)
 rw[aM2]at h
 rw[aK6];exact h
end Core
namespace PP
open PySem L2
section
variable {X:Cx}{a:Expr}{pos p2 px tp:Pos}{te:aD}
def aA8 (vs:List V):TA:=λ_ H Q=>Q vs H
def QC (X:Cx)(es:List Expr)(ms:List Str):Prop:=∃Cs:List Addr,PA X es (aA8 (Cs.map V.ref))/\Cs.length=ms.length/\Cs.length<=1000/\∀(n:Str) (C:Addr) (bs:List Bool),PySem.W.nsIn X.K mainGlobals n=some (some (.ref C))->ms.map (iJ n)=bs.map some->(ms≠[]->fS X.K C)/\PySem.W.kitAny X.K (.ref C) (Cs.map Value.ref)=some (bs.any id)
theorem J1:QC X [] []:=⟨[],dU,rfl,aN4 _,λn C bs _ e=>by
 cases bs with
 |nil=>exact⟨λz=>absurd rfl z,rfl⟩
 |cons b r=>cases e⟩
theorem gQ {x:Str}{es:List Expr}{ms:List Str}(A:cE X.K X.mg x)(c:QC X es ms)(hm:ms.length<999:=by decide)(hg:Gl X x:=by rfl)(hd:(x==("__debug__":Str))=false:=by decide)(hs:starEach (.Name x px::es) X.env=(false,eval (.Name x px) X.env)::starEach es X.env:=by rfl):QC X (.Name x px::es) (x::ms):=by
 obtain⟨C0,m,i⟩:=A.ex
 obtain⟨Cs,pa,hl,hl2,k⟩:=c
 refine⟨C0::Cs,?_,by rw[aM6,aM6,hl],by rw[aM6];omega,λn C bs hn hb=>?_⟩
 ·exact cI (qJ (v:=.ref C0) hg m rfl hd) pa hs
 ·cases bs with
  |nil=>cases hb
  |cons b r=>
   rw[aM4,aM4]at hb
   injection hb with h1 h2
   obtain⟨F,kt⟩:=i.ex n C b hn h1
   have kt:PySem.W.kitOne X.K (.ref C) (.ref C0)=some b:=kt
   refine⟨λ_=>F,?_⟩
   rw[aM4]
   unfold PySem.W.kitAny
   rw[kt]
   cases b with
   |true=>rfl
   |false=>
    show PySem.W.kitAny X.K (.ref C) (Cs.map Value.ref)=_
    rw[(k n C r hn h2).2];rfl
def aA9 (K:ac):List V->Hp->VK->Prop:=λxs H Q=>∃(a:Addr) (o:Obj) (C t:Addr) (Cs:List Addr) (b:Bool),xs = [.ref a,.ref t]/\H a=some (.frz o (.own a))/\o.cls = .ref C/\fS K C/\H t=some (.tup (Cs.map V.ref))/\PySem.W.kitAny K (.ref C) (Cs.map Value.ref)=some b/\Q (.bl b) H
theorem aB0:cG X (.builtin "isinstance") (aA9 X.K):=by
 intro pins s σ H xs us Q I r h
 obtain⟨a,o,C,t,Cs,b,rfl,ha,hc,F,ht,e,q⟩:=h
 obtain⟨u,u',rfl,ru,ru'⟩:=kJ r
 cases (show u=Value.ref a from ru)
 cases (show u'=Value.ref t from ru')
 obtain⟨h1,_⟩:=I.hok a _ ha
 obtain⟨hl,its,vs,⟨o2,ht2,hc2,n,hd2⟩,_⟩:=I.hok t _ ht
 obtain⟨cl,dd,da,sl⟩:=o2
 cases hc2
 cases hd2
 have hi:its=Cs.map Value.ref:=by
  clear ht2 e ht hl
  induction Cs generalizing its with
  |nil=>cases vs;rfl
  |cons C0 r ih=>
   cases vs with
   |cons rv tv=>
    cases (show _=Value.ref C0 from rv)
    rw[aM4,ih _ tv]
 subst hi
 exact PySem.W.kia_tup (A3 F) I.kIn ⟨o,h1,hc⟩ ht2 e (λz=>nomatch z) λtk=>⟨.bl b,H,I.tok tk,rfl,q⟩
def uI (ms:List Str)(te:aD):aD:=λρ Q=>te ρ λx _=>∃(n:Str) (bs:List Bool),x = .exc n/\ms.map (iJ n)=bs.map some/\ms≠[]/\Q (.bl (bs.any id)) .fr
theorem J2 {es:List Expr}{ms:List Str}{x1:Nat}(B:Bt X.mg)(c:QC X es ms)(ha:QE X a te)(hg:Gl X "isinstance":=by rfl)(he:starEach [a,.Tuple es x1 tp] X.env=(false,eval a X.env)::starEach [.Tuple es x1 tp] X.env:=by rfl)(he2:starEach [.Tuple es x1 tp] X.env=(false,eval (.Tuple es x1 tp) X.env)::starEach [] X.env:=by rfl)(hpl:(backTo pos (starEach [.Tuple es x1 tp] X.env)).any (·.1)=false:=by rfl):QE X (.Call (.Name "isinstance" p2) [a,.Tuple es x1 tp] [] pos) (uI ms te):=by
 obtain⟨Cs,pa,hl,hl2,kk⟩:=c
 refine bT (nX aB0 hg B.isinst PyProof.Rows.boot_isinstance (cI ha (cI (vR pa) dU he2) he) (he:=he) (hpl:=hpl)) λσ H Q' h=>?_
 obtain⟨W,ρ,Q,px,q,k⟩:=h
 refine⟨W,ρ,_,px,q,?_⟩
 rintro v H1 y g s r ⟨n,bs,rfl,e,ne,q⟩
 cases r with
 |exc h z c=>
  refine⟨by rw[aJ1];exact aS6 (wZ hl2),λp hp=>?_⟩
  obtain⟨F,kt⟩:=kk n _ bs z e
  have F:=F ne
  exact⟨_,_,_,p,Cs,_,rfl,by rw[aJ (λz=>by rw[z,hp]at h;cases h)];exact h,c,F,b7,kt,k _ _ _ .fr (s.trans (b8 hp _)) (.bl _) q⟩
end
end PP
namespace Core
open PySem L2 PP
def qA:cO:=λxs Q=>∃(ls:aa) (c:Int),xs = [.lst (aE ls),.int c]/\(∀l∈ls,l.1<l.2)/\ls.length<=1700/\∀ts,(ts.map bM).Perm ls->Q (.lst (aE ts))
def J3:aK:=(aO (bG 2 (aX (a5 1) (eM (aI c7 (a7 (a5 0) aB)) (qC (.int 1)))))
 (aO (gI 3 (dP aB))
 (aO (dZ (tR (C1 (mI (a5 0) (mH (a5 2)) mG) (mI (a5 0) mG (mH (a5 2))))) (jM 4 5)
  (aO (bC (aS (dG (aX (eM (bI (a5 1) (qC (.int 41))) (jP (a5 4) (a5 4))) (qC (.int 3))) (qC (.int 1)))) (bG 5 (dE (a7 (bL (a5 5) (qC (.int 1))) (a7 (bL (a5 5) (qC (.int 0))) aB)))) cB)
  (iV 3 (a5 5))))
 (sE 3))))
theorem aB1:fU J3 ["links","cell","cut","told","k","pair"] qA:=by
 rintro xs Q ⟨ls,c,rfl,up,l17,q⟩
 refine⟨_,rfl,_,rfl,_,_,rfl,rfl,_,_,rfl,rfl,_,_,rfl,rfl,by show (0:Int)<((aE ls).length:Int)+1;omega,trivial,?_⟩
 have s0:=aM3 c (show ((aE ls).length:Int)+1≠0 by omega)
 dsimp only
 generalize c%(((aE ls).length:Int)+1)=sp at s0
 obtain⟨s,rfl⟩:∃s:Nat,sp=s:=⟨sp.toNat,by omega⟩
 refine⟨by show 0<=1000;decide,rfl,rfl,rfl,?_⟩
 refine⟨_,rfl,_,rfl,(s:Int),rfl,aE ls,rfl,cP _,?_⟩
 rw[ay9]
 refine⟨_,rfl,_,rfl,(s:Int),rfl,aE ls,rfl,cP _,?_⟩
 rw[ay8 (by omega)]
 refine⟨aE (ls.drop s),aE (ls.take s),rfl,rfl,cP _,cP _,by rw[eC,eC,aP5,aV4];omega,?_⟩
 rw[<- uD]
 have pm:(ls.drop s++ls.take s).Perm ls:=by
  have:=aW4 (l₁:=ls.drop s) (l₂:=ls.take s)
  rw[aM2]at this
  exact this
 have up2:∀l∈ls.drop s++ls.take s,l.1<l.2:=λl hl=>up l (pm.mem_iff.mp hl)
 have l2:(ls.drop s++ls.take s).length<=1700:=by rw[pm.length_eq];exact l17
 show ∃xs,_
 generalize ls.drop s++ls.take s=ms at pm up2 l2
 refine⟨aE ms,.inl rfl,(λz=>by cases z),λi ρ=>∃(P:List PV) (ts:aa) (y4 y5:Option Slot),ρ = [some (.sh (flat (.lst (aE ls))) (.lst (aE ls))),si c,si (s:Nat),some (.own (.lst P)),y4,y5]/\P=aE ts/\ts.map bM=ms.take i,⟨[],[],none,none,rfl,rfl,rfl⟩,?_,?_⟩
 ·rintro i y ρ hy ⟨P,ts,y4,y5,rfl,rfl,et⟩
  obtain⟨y,hy2,rfl⟩:=ar9 hy
  obtain⟨l,rfl,hl⟩:=B3 hy2
  have il:=(aL0.mp hl).1
  have tl:ts.length<=ms.length:=by have:=congrArg List.length et;rw[aJ1,aV4]at this;omega
  have nl:=ay0 (up2 l (aU1 hl))
  refine⟨_,_,rfl,?_⟩
  refine⟨_,rfl,_,_,rfl,rfl,⟨by decide,by decide⟩,_,rfl,_,rfl,_,_,rfl,rfl,(.inl ⟨by omega,by omega⟩),_,_,rfl,rfl,_,_,rfl,rfl,(by show (0:Int)<3;decide),.inl ⟨_,_,rfl,rfl,_,rfl,?_⟩⟩
  dsimp only
  cases (if false=true then !decide ((c/41+(i:Int)*i)%3=1) else decide ((c/41+(i:Int)*i)%3=1)) with
  |true=>
   refine b9 ⟨_,rfl,_,_,_,rfl,rfl,rfl,_,rfl,_,_,_,rfl,rfl,rfl,by show 2<=1000;decide,rfl,trivial,?_⟩
   refine⟨_,rfl,_,rfl,E9 _ rfl,by rw[eC];omega,_,ts++[(l.2,l.1)],_,_,rfl,(uD ts [(l.2,l.1)]).symm,?_⟩
   rw[aT0,hl,aM7,et]
   show _++[bM (l.2,l.1)]=_++[l]
   rw[G9,nl]
  |false=>
   refine aV ⟨_,rfl,_,rfl,E9 _ rfl,by rw[eC];omega,_,ts++[l],_,_,rfl,(uD ts [l]).symm,?_⟩
   rw[aT0,hl,aM7,et]
   show _++[bM l]=_++[l]
   rw[nl]
 rintro ρ ⟨P,ts,y4,y5,rfl,rfl,et⟩
 rw[tQ,eC,List.take_length]at et
 exact⟨_,rfl,trivial,q ts (by rw[et];exact pm)⟩
def nK:cO:=λxs Q=>∃(x y:PV) (ws:af) (ls:aa),xs = [x,y]/\eO x ws/\(y = .tup (aE ls)∨y = .lst (aE ls))/\ls.length<=1800/\¬eS ws ls/\Q (.bl true)
def J4:aK:=(aO (bG 2 (qC .non))
 (aO (tX "HearthError" 3 (E2 jA (a7 (a5 0) (a7 (a5 1) aB))) (bG 2 (a5 3)))
 (aO (bC (gH (fB (aS (nG "BadWeb" (a5 2)))) (fB (aS (nG "ValueError" (a5 2))))) (bZ (qC (.bl false))) cB)
 (aO (bG 4 (uI ["BadBoard","BadDeed","BadOrder","BadPrices","BadSet","NoPaper"] (a5 2)))
 (bZ (kM (m9 (a5 4)) (m9 (uI ["NoSuch","NoText","NotWood","OddRound","TooMany"] (a5 2)))))))))
theorem aB2:fU J4 ["wants","links","caught","e","others"] nK:=by
 rintro xs Q ⟨x,y,ws,ls,rfl,hx,hy,ll,bad,q⟩
 refine⟨trivial,_,rfl,_,rfl,x,y,ws,ls,rfl,hx,hy,ll,λz=>absurd z bad,λ_=>⟨rfl,?_⟩⟩
 refine⟨_,rfl,(by trivial),?_⟩
 refine⟨_,rfl,true,rfl,_,rfl,aV ⟨_,rfl,true,rfl,_,rfl,aV ?_⟩⟩
 refine⟨_,rfl,"BadWeb",[false,false,false,false,false,false],rfl,rfl,(λz=>by cases z),trivial,?_⟩
 exact⟨_,rfl,false,rfl,_,rfl,b9 ⟨_,rfl,"BadWeb",[false,false,false,false,false],rfl,rfl,(λz=>by cases z),false,rfl,trivial,q⟩⟩
end Core
namespace PP
open PySem L2
def k7 (σ0 σ:L2.St):Prop:=σ[0]? = σ0[0]?/\σ[1]? = σ0[1]?
structure k8 (X:Cx)(W:Addr->Prop)(H:Hp)(σ:L2.St)(D':dX)(D:bN):Prop where
 nx:∀W' σ' H' ρ',Ev W H W' H'->PX X.K X.H₀ W' σ' ρ' H'->k7 σ σ'->D'.nx ρ'->D.nx σ' H'
 rt:∀v H' x,aH X.H₀ H'->aF X.K (λa=>X.H₀ a=none) H' v x->D'.rt x->D.rt v H'
 bk:∀W' σ' H' ρ',Ev W H W' H'->PX X.K X.H₀ W' σ' ρ' H'->D'.bk ρ'->D.bk σ' H'
 ct:∀W' σ' H' ρ',Ev W H W' H'->PX X.K X.H₀ W' σ' ρ' H'->D'.ct ρ'->D.ct σ' H'
def iM (X:Cx)(t:aK):TS:=λD σ H=>∃(W:Addr->Prop) (ρ:b6) (D':dX),PX X.K X.H₀ W σ ρ H/\t D' ρ/\k8 X W H σ D' D
def qB (D:bN)(σ:L2.St):bN:={ D with nx:=λσ' H'=>k7 σ σ'->D.nx σ' H' }
def QZ (X:Cx)(st:Stmt)(t:aK):Prop:=PS X st (iM X t)
def lG (X:Cx)(sts:List Stmt)(t:aK):Prop:=cN X sts (iM X t)
section
variable {X:Cx}{D:bN}{σ:L2.St}{H:Hp}{t u:aK}{tc:cH}{te ta tb tk:aD}{a b c e:Expr}{st:Stmt}{sts:List Stmt}{pos p2:Pos}
theorem k8.step {W W1:Addr->Prop}{H1:Hp}{D':dX}(k:k8 X W H σ D' D)(e:Ev W H W1 H1):k8 X W1 H1 σ D' D:=
 ⟨λW' σ' H' ρ' e'=>k.nx W' σ' H' ρ' (e.trans e'),k.rt,λW' σ' H' ρ' e'=>k.bk W' σ' H' ρ' (e.trans e'),λW' σ' H' ρ' e'=>k.ct W' σ' H' ρ' (e.trans e')⟩
theorem k8.at {W:Addr->Prop}{D':dX}{σ1:L2.St}(k:k8 X W H σ D' D)(z:k7 σ σ1):k8 X W H σ1 D' D:=
 ⟨λW' σ' H' ρ' e p z2=>k.nx W' σ' H' ρ' e p ⟨z2.1.trans z.1,z2.2.trans z.2⟩,k.rt,k.bk,k.ct⟩
theorem nL {T:TS}(ls:∀D σ H,LS X t D σ H->T D σ H)(fix:∀D σ H,T (qB D σ) σ H->T D σ H)(h:iM X t D σ H):T D σ H:=by
 obtain⟨W,ρ,D',px,q,k⟩:=h
 exact fix D σ H (ls _ σ H ⟨W,ρ,D',px,q,λW' σ' H' ρ' e p q z=>k.nx W' σ' H' ρ' e p z q,k.rt,k.bk,k.ct⟩)
theorem aB3 (h:iM X (aO t u) D σ H):kB (iM X t) (iM X u) D σ H:=by
 obtain⟨W,ρ,D',px,q,k⟩:=h
 exact⟨W,ρ,_,px,q,λW' σ' H' ρ' e px' z q'=>⟨W',ρ',D',px',q',(k.step e).at z⟩,k.rt,k.bk,k.ct⟩
theorem aB4 (h:iM X (bC tc t u) D σ H):qL (LT X tc) (iM X t) (iM X u) D σ H:=by
 obtain⟨W,ρ,D',px,q,k⟩:=h
 refine⟨W,ρ,_,px,q,λb H1 s q1=>?_⟩
 cases b with
 |true=>exact b9 ⟨W,ρ,D',px.mono s,by simpa using q1,k.step (Ev.same s)⟩
 |false=>exact aV ⟨W,ρ,D',px.mono s,by simpa using q1,k.step (Ev.same s)⟩
theorem lH (h1:QZ X st t)(h2:lG X sts u):lG X (st::sts) (aO t u):=jQ (lP h1 h2) λ_ _ _=>aB3
theorem iN (h1:QZ X st t):lG X [st] t:=v4 h1
theorem qD {sa sb:List Stmt}(hc:QT X c tc)(ha:lG X sa t)(hb:lG X sb u):QZ X (.If c sa sb pos) (bC tc t u):=dH (v8 hc ha hb) λ_ _ _=>aB4
theorem J5 {te:TE}(h:i4 te (qB D σ) σ H):i4 te D σ H:=by
 have e:(λ(_:V) (H1:Hp)=>(qB D σ).nx σ H1)=λ_ H1=>D.nx σ H1:=by
  funext v H1
  exact propext ⟨λh=>h ⟨rfl,rfl⟩,λh _=>h⟩
 unfold i4 at h ⊢
 rw[e]at h;exact h
def GK (g:TG):Prop:=∀(σ0:L2.St) (Q:L2.St->Hp->Prop) (v:V) (σ:L2.St) (H:Hp),k7 σ0 σ->g v σ H (λσ' H'=>k7 σ0 σ'->Q σ' H')->g v σ H Q
theorem uJ {σ0 σ:L2.St}{i:Nat}{v:Option V}(hi:2<=i)(h:k7 σ0 σ):k7 σ0 (σ.set i v):=⟨by rw[aK0 (by omega)];exact h.1,by rw[aK0 (by omega)];exact h.2⟩
theorem aB5 {i:Nat}(hi:2<=i):GK (dB i):=λσ0 Q v σ H z h=>h (uJ hi z)
theorem aB6 {K:ac}{i j:Nat}(hi:2<=i)(hj:2<=j):GK (kF K 2 (g9 (dB i) (g9 (dB j) kD))):=by
 rintro σ0 Q v σ H z ⟨a,xs,rfl,sq,l,v1,r1,rfl,v2,r2,rfl,rfl,h⟩
 exact⟨a,_,rfl,sq,l,v1,_,rfl,v2,_,rfl,rfl,h (uJ hj (uJ hi z))⟩
theorem uK {te:TE}{g:TG}(mono:∀(Q Q':VK),(∀v H',Q v H'->Q' v H')->te σ H Q->te σ H Q')(gk:GK g)(h:iQ te g (qB D σ) σ H):iQ te g D σ H:=
 mono _ _ (λv H' h=>gk σ D.nx v σ H' ⟨rfl,rfl⟩ h) h
theorem qE {Q Q':VK}(m:∀v H',Q v H'->Q' v H')(h:LE X te σ H Q):LE X te σ H Q':=by
 obtain⟨W,ρ,Q0,px,q,k⟩:=h
 exact⟨W,ρ,Q0,px,q,λv H' x g s r z=>m _ _ (k v H' x g s r z)⟩
theorem nM {i:Nat}{x:Str}(hN:X.N.Nodup)(he:QE X e te)(h2:2<=i:=by decide)(hi:X.N[i]? = some x:=by rfl)(hx:fJ X.env.scope x:=by first|exact Or.inl rfl|exact Or.inr rfl)(hs:swapsWith e (some (.Name x p2)) pos.line X.env=pure false:=by rfl)(hf:X.fn x=true∨X.env.scope.names.lookup x=some .local:=by first|exact .inl rfl|exact .inr rfl) :
  QZ X (.Assign [.Name x p2] e pos) (bG i te):=dH (qO hN hi hx he hs hf) λ_ _ _=>nL (λ_ _ _=>yC) λ_ _ _=>uK (λ_ _ m=>qE m) (aB5 h2)
theorem aB7 (i:Nat){x:Str}{apos cpos xpos:Pos}(he:QE X e te)(hN:X.N[i]? = some x:=by rfl)(hv:eV X.env.scope x:=by first|exact Or.inl rfl|exact Or.inr (Or.inl rfl)|exact Or.inr (Or.inr rfl))(hd:(x==("__debug__":Str))=false:=by decide)(hcd:(x==("__classdict__":Str))=false:=by decide)(hbase:attributeBase (.Name x xpos) "extend" X.env (eval (.Name x xpos) X.env)=eval (.Name x xpos) X.env:=by rfl)(hfew:((backTo cpos (starEach [e] X.env)).all (λx=>!x.1)&&(backToKw cpos (keywordEach [] X.env)).all (λx=>x.1.isSome)&&decide (([e]:List Expr).length+([]:List Keyword).length+(if ([]:List Keyword).isEmpty then 0 else 1)<30))=true:=by rfl)(hline:(apos.endLine==cpos.line)=true:=by rfl)(hs:starEach [e] X.env=(false,eval e X.env)::starEach [] X.env:=by rfl)(hplain:(backTo cpos (starEach [] X.env)).any (·.1)=false:=by rfl)(hsw:swapsWith (.Call (.Attribute (.Name x xpos) "extend" apos) [e] [] cpos) none pos.line X.env=pure false:=by rfl) :
  QZ X (.Expr (.Call (.Attribute (.Name x xpos) "extend" apos) [e] [] cpos) pos) (sF i te):=
 dH (kC (lV aU5 PySem.F.slot_list_extend PySem.F.type_list_extend aj6 (fZ hN hv hd hcd) (cI he dU hs) hbase hfew hline hs hplain) hsw) λ_ _ _=>nL (λ_ _ _=>ae9) λ_ _ _=>J5
theorem uL (i:Nat){x:Str}{apos cpos xpos:Pos}(ha:QE X a ta)(hb:QE X b tb)(hN:X.N[i]? = some x:=by rfl)(hv:eV X.env.scope x:=by first|exact Or.inl rfl|exact Or.inr (Or.inl rfl)|exact Or.inr (Or.inr rfl))(hd:(x==("__debug__":Str))=false:=by decide)(hcd:(x==("__classdict__":Str))=false:=by decide)(hbase:attributeBase (.Name x xpos) "insert" X.env (eval (.Name x xpos) X.env)=eval (.Name x xpos) X.env:=by rfl)(hfew:((backTo cpos (starEach [a,b] X.env)).all (λx=>!x.1)&&(backToKw cpos (keywordEach [] X.env)).all (λx=>x.1.isSome)&&decide (([a,b]:List Expr).length+([]:List Keyword).length+(if ([]:List Keyword).isEmpty then 0 else 1)<30))=true:=by rfl)(hline:(apos.endLine==cpos.line)=true:=by rfl)(hs:starEach [a,b] X.env=(false,eval a X.env)::starEach [b] X.env:=by rfl)(hs2:starEach [b] X.env=(false,eval b X.env)::starEach [] X.env:=by rfl)(hplain:(backTo cpos (starEach [b] X.env)).any (·.1)=false:=by rfl)(hsw:swapsWith (.Call (.Attribute (.Name x xpos) "insert" apos) [a,b] [] cpos) none pos.line X.env=pure false:=by rfl) :
  QZ X (.Expr (.Call (.Attribute (.Name x xpos) "insert" apos) [a,b] [] cpos) pos) (hJ i ta tb):=
 dH (kC (lV aU5 PySem.F.slot_list_insert PySem.F.type_list_insert an8 (fZ hN hv hd hcd) (cI ha (cI hb dU hs2) hs) hbase hfew hline hs hplain) hsw) λ_ _ _=>nL (λ_ _ _=>au8) λ_ _ _=>J5
end
abbrev lI:=List PV->List PV->PV->(List PV->List PV->Prop)->Prop
def J6 (K:ac)(p:lI):Sp:=λvs H Q _=>∃(a b:Addr) (v:V) (us ws:List V) (xs ys:List PV) (c:PV) (Qp:List PV->List PV->Prop),vs = [.ref a,.ref b,v]/\a≠b/\H a=some (.lst us)/\H b=some (.lst ws)/\(Reps K (λ_=>True) H us xs/\flats xs=true)/\(Reps K (λ_=>True) H ws ys/\flats ys=true)/\(aF K (λ_=>True) H v c/\flat c=true)/\p xs ys c Qp/\
 ∀(H':Hp) (us' ws':List V) (xs' ys':List PV),aH (fI H [a,b]) H'->H' a=some (.lst us')->H' b=some (.lst ws')->Reps K (λ_=>False) H' us' xs'->Reps K (λ_=>False) H' ws' ys'->flats xs'=true->flats ys'=true->Qp xs' ys'->Q .non H'
structure lJ (P:Program)(w:World)(K:ac)(mg:Str->Option Value)(base:Heap)(k:Nat)(x:Str)(ps:List Str)(p:lI):Prop where
 ex:∃f fd,cR P w K mg base dM k f fd ps (J6 K p)/\i5 K fd ps []/\PySem.W.keepIn K (.ref f)=true/\mg x=some (.ref f)
def nN (N:List Str)(xs ys:List PV)(c:PV):b6:=some (.own (.lst xs))::some (.own (.lst ys))::some (.sh true c)::List.replicate (N.length-3) none
def iO (Q:List PV->List PV->Prop):dX:={ nx:=λρ=>∃xs ys,ρ[0]? = some (some (.own (.lst xs)))/\ρ[1]? = some (some (.own (.lst ys)))/\flats xs=true/\flats ys=true/\Q xs ys,rt:=λ_=>False,bk:=λ_=>False,ct:=λ_=>False }
theorem aB8 {K:ac}{H:Hp}{N:List Str}{a b:Addr}{v:V}{us ws:List V}{xs ys:List PV}{c:PV}(ne:a≠b)(ha:H a=some (.lst us))(hb:H b=some (.lst ws))(ra:Reps K (λ_=>True) H us xs)(fa:flats xs=true)(rb:Reps K (λ_=>True) H ws ys)(fb:flats ys=true)(rc:aF K (λ_=>True) H v c)(fc:flat c=true) :
  PX K (fI H [a,b]) (λz=>z=a∨z=b) (L2.eF N [.ref a,.ref b,v]) (nN N xs ys c) H:=by
 have st:L2.eF N [.ref a,.ref b,v]=some (.ref a)::some (.ref b)::some v::List.replicate (N.length-3) none:=rfl
 rw[st]
 have no:∀{i:Nat}{m:Slot},(List.replicate (N.length-3) (none:Option Slot))[i]? = some (some m)->False:=λ{i m} h=>by
  rw[List.getElem?_replicate]at h
  split at h<;>cases h
 refine⟨?_,λz o e=>pY e,λz hz=>?_,λi m h=>?_,λi j x y z h1 h2 h3 h4=>?_⟩
 ·show (nN N xs ys c).length=_
  unfold nN
  simp
 ·rcases hz with rfl|rfl
  ·exact⟨uG (by simp),_,ha,rfl⟩
  ·exact⟨uG (by simp),_,hb,rfl⟩
 ·match i,h with
  |0,h=>cases h;exact⟨_,rfl,a,rfl,.inl rfl,us,ha,ra.flat fa⟩
  |1,h=>cases h;exact⟨_,rfl,b,rfl,.inr rfl,ws,hb,rb.flat fb⟩
  |2,h=>cases h;exact⟨_,rfl,rc.flat fc⟩
  |i+3,h=>exact (no h).elim
 ·match i,j,h1,h2,h3,h4 with
  |0,0,_,_,_,_=>rfl
  |1,1,_,_,_,_=>rfl
  |0,1,_,_,h3,h4=>cases h3;cases h4;exact absurd rfl ne
  |1,0,_,_,h3,h4=>cases h3;cases h4;exact absurd rfl ne
  |2,_,h1,_,_,_=>cases h1
  |_,2,_,h2,_,_=>cases h2
  |i+3,_,h1,_,_,_=>exact (no h1).elim
  |_,j+3,_,h2,_,_=>exact (no h2).elim
theorem lJ.of {P:Program}{w:World}{K:ac}{mg:Str->Option Value}{base:Heap}{k:Nat}{x:Str}{ps N:List Str}{p:lI}{st:Stmt}{f:Addr}{fd:FuncData}(F:dD K x x st f fd)(m:mg x=some (.ref f))(S:FnScope N ps (aU st))(h3:ps.length=3)(hb:∀(kV doc pm:Value) (an:Option Addr) (cdv ct:Value) (us:List Value),us.length=ps.length->bindArgs (PySem.W.fnOf x x (gF st) (cS st) (aU st) .none kV doc pm an cdv ct) ⟨us,[]⟩=pure (ps.zip us))(t:aK)(rd:∀xs ys c Q,p xs ys c Q->flats xs=true->flats ys=true->t (iO Q) (nN N xs ys c))(body:∀(cdv:Value) (A:Around) (outer:List Env) (s:Shared) (H:Hp) (E:XK) (a b:Addr),bJ k (A.deeper (PyProof.Rows.envOfC x (aU st) s.heap.objs.size f cdv))->
   lG ((bX dM P w K mg base N x (aU st) f cdv A outer s H E).nox.off [a,b]) (cS st) t):lJ P w K mg base (k+1) x ps p:=by
 refine⟨f,fd,F.ok S (λvs H Q E h=>?_) (λcdv A outer s H vs Q E hr h=>?_),F.binds hb,F.kp,m⟩
 ·obtain⟨a,b,v,us,ws,xs,ys,c,Qp,rfl,_⟩:=h
  exact h3.symm
 ·obtain⟨a,b,v,us,ws,xs,ys,c,Qp,rfl,ne,ha,hb2,⟨ra,fa⟩,⟨rb,fb⟩,⟨rc,fc⟩,hp,q⟩:=h
  refine⟨_,aA4 (body cdv A outer s H E a b hr) rfl,λz hz=>?_,_,_,iO Qp,aB8 ne ha hb2 ra fa rb fb rc fc,rd xs ys c Qp hp fa fb,?_,?_,?_,?_⟩
  ·rcases aH4.mp hz with rfl|hz
   ·exact⟨⟨_,ha,rfl⟩,_,ha⟩
   ·rw[aI3.mp hz];exact⟨⟨_,hb2,rfl⟩,_,hb2⟩
  ·rintro W' σ' H' ρ' e px z ⟨xs',ys',h0,h1,f0,f1,q2⟩
   obtain⟨v0,e0,a0,rfl,w0,us',ea,ra'⟩:=px.sl 0 _ h0
   obtain⟨v1,e1,b0,rfl,w1,ws',eb,rb'⟩:=px.sl 1 _ h1
   have z0:some (some (V.ref a0))=some (some (V.ref a)):=e0.symm.trans z.1
   have z1:some (some (V.ref b0))=some (some (V.ref b)):=e1.symm.trans z.2
   cases z0;cases z1
   refine⟨λy hy=>?_,q H' us' ws' xs' ys' px.same ea eb (ra'.flat f0) (rb'.flat f1) f0 f1 q2⟩
   rcases aH4.mp hy with rfl|hy
   ·exact⟨_,ea⟩
   ·rw[aI3.mp hy];exact⟨_,eb⟩
  ·exact λ_ _ _ _ _ z=>z.elim
  ·exact λ_ _ _ _ _ _ z=>z.elim
  ·exact λ_ _ _ _ _ _ z=>z.elim
section
variable {X:Cx}{σ:L2.St}{H:Hp}{D:bN}{te:aD}{p:lI}{i j:Nat}
def uM (i j:Nat)(p:lI)(te:aD):aK:=λD ρ=>∃xs ys,ρ[i]? = some (some (.own (.lst xs)))/\ρ[j]? = some (some (.own (.lst ys)))/\i≠j/\flats xs=true/\flats ys=true/\te ρ λc _=>flat c=true/\p xs ys c λxs' ys'=>D.nx ((ρ.set i (some (.own (.lst xs')))).set j (some (.own (.lst ys'))))
theorem aB9 (h:LS X (uM i j p te) D σ H):i4 (nV (J6 X.K p) [] E0 (dL (fM i) (dL (fM j) (dL (LE X te) gB)))) D σ H:=by
 obtain⟨W,ρ,D',px,⟨xs,ys,hi,hj,ne,fx,fy,q⟩,k⟩:=h
 obtain⟨v0,e0,a,rfl,wa,us,ea,ra⟩:=px.sl i _ hi
 obtain⟨v1,e1,b,rfl,wb,ws,eb,rb⟩:=px.sl j _ hj
 have nab:a≠b:=λz=>ne (px.dis i j _ _ a hi hj e0 (by rw[z];exact e1))
 refine⟨_,e0,_,e1,W,ρ,_,px,q,?_⟩
 rintro v H1 c g s1 r1 ⟨fc,q1⟩
 have ea1:=s1 _ _ ea
 have eb1:=s1 _ _ eb
 refine⟨a,b,v,us,ws,xs,ys,c,_,rfl,nab,ea1,eb1,⟨(ra.same s1 λ_ z=>z).flat fx,fx⟩,⟨(rb.same s1 λ_ z=>z).flat fy,fy⟩,⟨r1.flat fc,fc⟩,q1,?_⟩
 intro H' us' ws' xs' ys' sm ha hb ra' rb' fx' fy' q2
 have back:aH H1 (upd (upd H' a (.lst us)) b (.lst ws)):=λz o e=>by
  by_cases zb:z=b
  ·subst zb;rw[eb1]at e;cases e;exact b7
  ·rw[aJ zb]
   by_cases za:z=a
   ·subst za;rw[ea1]at e;cases e;exact b7
   ·rw[aJ za]
    exact sm z o (by rw[nJ (by simp[za,zb])];exact e)
 have eq:upd (upd (upd (upd H' a (.lst us)) b (.lst ws)) a (.lst us')) b (.lst ws')=H':=by
  funext z
  by_cases zb:z=b
  ·subst zb;rw[b7,hb]
  ·rw[aJ zb]
   by_cases za:z=a
   ·subst za;rw[b7,ha]
   ·rw[aJ za,aJ zb,aJ za]
 have px2:=px.mono (s1.trans back)
 have eaB:upd (upd H' a (.lst us)) b (.lst ws) a=some (.lst us):=by rw[aJ nab,b7]
 have ebB:upd (upd H' a (.lst us)) b (.lst ws) b=some (.lst ws):=b7
 have k1:dN (λ_=>False) (λ_=>False) H' (upd H' a (.lst us)):=.upd ha rfl λ_ z=>z.elim
 have k2:dN (λ_=>False) (λ_=>False) (upd H' a (.lst us)) (upd (upd H' a (.lst us)) b (.lst ws)):=.upd (by rw[aJ (Ne.symm nab)];exact hb) rfl λ_ z=>z.elim
 have k3:dN (λ_=>False) (λ_=>False) (upd (upd H' a (.lst us)) b (.lst ws)) (upd (upd (upd H' a (.lst us)) b (.lst ws)) a (.lst us')):=.upd eaB rfl λ_ z=>z.elim
 have px3:=px2.updL hi e0 wa (us:=us') (ys:=xs') ((((ra'.keep k1).keep k2).keep k3).flat fx')
 have ebC:upd (upd (upd H' a (.lst us)) b (.lst ws)) a (.lst us') b=some (.lst ws):=by rw[aJ (Ne.symm nab)];exact ebB
 have k4:dN (λ_=>False) (λ_=>False) (upd (upd (upd H' a (.lst us)) b (.lst ws)) a (.lst us')) (upd (upd (upd (upd H' a (.lst us)) b (.lst ws)) a (.lst us')) b (.lst ws')):=.upd ebC rfl λ_ z=>z.elim
 have px4:=px3.updL (i:=j) (by rw[aK0 ne];exact hj) e1 wb (us:=ws') (ys:=ys') (((((rb'.keep k1).keep k2).keep k3).keep k4).flat fy')
 rw[eq]at px4
 have ev:Ev W H W H':=by
  have e1:=((Ev.same (W:=W) (s1.trans back)).trans (Ev.upd (a:=a) (o:=.lst us') wa)).trans (Ev.upd (a:=b) (o:=.lst ws') wb)
  rw[eq]at e1;exact e1
 exact k.nx W σ H' _ ev px4 q2
theorem aC0 (i j:Nat){k n:Nat}{f x y:Str}{ps:List Str}{e:Expr}{p2 p3 p4 pos pos2:Pos}(d:lJ X.prog X.w X.K X.mg X.base k f ps p)(hr:bJ n X.A)(he:QE X e te)(hkj:k<=n:=by decide)(hx:X.N[i]? = some x:=by rfl)(hy:X.N[j]? = some y:=by rfl)(hvx:eV X.env.scope x:=by first|exact Or.inl rfl|exact Or.inr (Or.inl rfl)|exact Or.inr (Or.inr rfl))(hvy:eV X.env.scope y:=by first|exact Or.inl rfl|exact Or.inr (Or.inl rfl)|exact Or.inr (Or.inr rfl))(hdx:(x==("__debug__":Str))=false:=by decide)(hcx:(x==("__classdict__":Str))=false:=by decide)(hdy:(y==("__debug__":Str))=false:=by decide)(hcy:(y==("__classdict__":Str))=false:=by decide)(hg:Gl X f:=by rfl)(hdb:(f==("__debug__":Str))=false:=by decide)(h1:starEach [.Name x p3,.Name y p4,e] X.env=(false,eval (.Name x p3) X.env)::starEach [.Name y p4,e] X.env:=by rfl)(h2:starEach [.Name y p4,e] X.env=(false,eval (.Name y p4) X.env)::starEach [e] X.env:=by rfl)(h3:starEach [e] X.env=(false,eval e X.env)::starEach [] X.env:=by rfl)(hpl:(backTo pos (starEach [.Name y p4,e] X.env)).any (·.1)=false:=by rfl)(hs:swapsWith (.Call (.Name f p2) [.Name x p3,.Name y p4,e] [] pos) none pos2.line X.env=pure false:=by rfl):QS X (.Expr (.Call (.Name f p2) [.Name x p3,.Name y p4,e] [] pos) pos2) (uM i j p te):=by
 obtain⟨fa,fd,F,b,kp,m⟩:=d.ex
 exact dH (kC (nW F (hr.mono hkj) hg m kp b .nil wX (cI (fZ hx hvx hdx hcx) (cI (fZ hy hvy hdy hcy) (cI he dU h3) h2) h1) hdb h1 hpl) hs) λ_ _ _=>aB9
end
section
variable {X:Cx}{σ:L2.St}{H:Hp}{D:bN}{te tk:aD}{a e:Expr}{pos:Pos}
theorem aC1 {i:Nat}{ti:TE}{r:nQ}(mono:∀(σ:L2.St) (H:Hp) (Q Q':VK),(∀v H',Q v H'->Q' v H')->ti σ H Q->ti σ H Q')(mr:∀o i v H (Q Q':Hp->Prop),(∀H',Q H'->Q' H')->r o i v H Q->r o i v H Q'):GK (nR (fM i) ti r):=by
 rintro σ0 Q v σ H z ⟨o,eo,h⟩
 exact⟨o,eo,mono σ H _ _ (λi' H2 h=>mr _ _ _ _ _ _ (λH3 h=>h z) h) h⟩
theorem aC2 {i:Nat}{x:Str}{xpos tpos:Pos}(hk:QE X a tk)(he:QE X e te)(hN:X.N[i]? = some x:=by rfl)(hv:eV X.env.scope x:=by first|exact Or.inl rfl|exact Or.inr (Or.inl rfl)|exact Or.inr (Or.inr rfl))(hd:(x==("__debug__":Str))=false:=by decide)(hcd:(x==("__classdict__":Str))=false:=by decide)(hp:∀(tx:TE) (tg:TE),PE X (.Name x xpos) tx->PE X a tg->PG X (.Subscript (.Name x xpos) a tpos) (nR tx tg rF):=by intro _ _ h1 h2;exact Q5 h1 h2 W9)(hs:swapsWithSole [.Subscript (.Name x xpos) a tpos] e pos.line X.env=pure false:=by rfl)(hw:swappedStores [.Subscript (.Name x xpos) a tpos] e X.env=pure none:=by rfl) :
  QZ X (.Assign [.Subscript (.Name x xpos) a tpos] e pos) (mD i tk te):=dH (vA he (hp _ _ (fZ hN hv hd hcd) hk) hs hw) λ_ _ _=>nL (λ_ _ _=>af0) λ_ _ _=>uK (λ_ _ m=>qE m) (aC1 (λ_ _ _ _ m=>qE m) λo i v H Q Q' m h=>by
   obtain⟨p,xs,k,j,h1,h2,h3,h4,q⟩:=h
   exact⟨p,xs,k,j,h1,h2,h3,h4,m _ q⟩)
theorem aC3 (i j:Nat){x y:Str}{tp xp yp:Pos}{kt:Nat}(hN:X.N.Nodup)(he:QE X e te)(hi2:2<=i:=by decide)(hj2:2<=j:=by decide)(hx:X.N[i]? = some x:=by rfl)(hy:X.N[j]? = some y:=by rfl)(hlx:fJ X.env.scope x:=by first|exact Or.inl rfl|exact Or.inr rfl)(hly:fJ X.env.scope y:=by first|exact Or.inl rfl|exact Or.inr rfl)(hfx:X.fn x=true∨X.env.scope.names.lookup x=some .local:=by first|exact .inl rfl|exact .inr rfl)(hfy:X.fn y=true∨X.env.scope.names.lookup y=some .local:=by first|exact .inl rfl|exact .inr rfl)(hc:X.calm=true:=by rfl)(hs:swapsWithSole [.Tuple [.Name x xp,.Name y yp] kt tp] e pos.line X.env=pure false:=by rfl)(hw:swappedStores [.Tuple [.Name x xp,.Name y yp] kt tp] e X.env=pure none:=by rfl):QZ X (.Assign [.Tuple [.Name x xp,.Name y yp] kt tp] e pos) (tV (jM i j) te):=by
 have g:PG X (.Tuple [.Name x xp,.Name y yp] kt tp) (kF X.K 2 (g9 (dB i) (g9 (dB j) kD))):=qN hc (kE (iP hN hx hlx hfx) (kE (iP hN hy hly hfy) qM))
 exact dH (vA he g hs hw) λ_ _ _=>nL (λ_ _ _=>at6 (sL _ i j)) λ_ _ _=>uK (λ_ _ m=>qE m) (aB6 hi2 hj2)
end
end PP
namespace Core
open PySem L2 PP
def qF:lI:=λxs ys c Q=>∃(ws:af) (ts:aa) (cc:Int),xs=intz ws/\ys=aE ts/\c = .int cc/\ws.length<=40/\ts.length<=1700/\∀ws' ts',¬eS ws' ts'->ws'.length<=1000->ts'.length<=1800->Q (intz ws') (aE ts')
def J7:aK:=(aO (bG 9 (bL (dP (a7 (jO (qC (.int 1))) (a7 (a5 3) (a7 (oR (jO (qC (.int 1))) (a5 6)) (a7 (eM (a5 3) (a5 6)) aB))))) (aX (bI (a5 2) (qC (.int 211))) (qC (.int 4)))))
     (hJ 1 (a5 5) (bL (dP (a7 (dE (a7 (qC (.int 0)) (a7 (a5 9) aB))) (a7 (dE (a7 (a5 9) (a7 (qC (.int 0)) aB))) aB))) (aX (bI (a5 2) (qC (.int 97))) (qC (.int 2))))))
def J8:aK:=(bC (fQ (aS (dG (a5 4) (qC (.int 3)))) (aS (fD (a5 3) (qC (.int 0))))) (hJ 1 (a5 5) (dE (a7 (aX (bI (a5 2) (qC (.int 97))) (a5 3)) (a7 (aX (bI (a5 2) (qC (.int 97))) (a5 3)) aB)))) J7)
def K0:aK:=(bC (fQ (aS (dG (a5 4) (qC (.int 2)))) (aS (fD (aI c7 (a7 (a5 1) aB)) (qC (.int 0))))) (aO (tV (jM 7 8) (bL (a5 1) (aX (bI (a5 2) (qC (.int 97))) (aI c7 (a7 (a5 1) aB)))))
    (hJ 1 (a5 5) (bL (dP (a7 (dE (a7 (a5 7) (a7 (a5 8) aB))) (a7 (dE (a7 (a5 8) (a7 (a5 7) aB))) aB))) (aX (bI (a5 2) (qC (.int 211))) (qC (.int 2)))))) J8)
def K1:aK:=(bC (aS (dG (a5 4) (qC (.int 1)))) (sF 0 (C5 (dP (a7 (qC (.int 1)) aB)) (oR (eM (qC (.int 41)) (aX (bI (a5 2) (qC (.int 6))) (qC (.int 3)))) (a5 3)))) K0)
def uN:aK:=(aO (bG 3 (aI c7 (a7 (a5 0) aB)))
 (aO (bG 4 (aX (a5 2) (qC (.int 6))))
 (aO (bG 5 (aX (bI (a5 2) (qC (.int 6))) (eM (aI c7 (a7 (a5 1) aB)) (qC (.int 1)))))
 (aO (bG 6 (aX (bI (a5 2) (qC (.int 1009))) (yQ (qC (.int 10)) (qC (.int 30)))))
 (bC (fQ (aS (dG (a5 4) (qC (.int 0)))) (aS (fD (a5 3) (qC (.int 0))))) (mD 0 (aX (bI (a5 2) (qC (.int 6))) (a5 3)) (bL (dP (a7 (jO (qC (.int 1))) (a7 (qC (.int 61)) (a7 (oR (jO (qC (.int 1))) (a5 6)) (a7 (eM (qC (.int 61)) (a5 6)) aB))))) (aX (bI (a5 2) (qC (.int 211))) (qC (.int 4))))) K1)))))
section
variable {ws:af}{ts:aa}{c f w:Int}{s:Nat}{Q:List PV→List PV→Prop}
abbrev lK (ws:af)(ts:aa)(c w f:Int)(s:Nat)(y7 y8 y9:Option Slot):b6:=[some (.own (.lst (intz ws))),some (.own (.lst (aE ts))),si c,si (ws.length:Int),si w,si (s:Int),si f,y7,y8,y9]
theorem K2 {p:Int×Int}(h:¬iK ws.length p):¬eS ws (iL ts s p):=λz=>h (z.2.2.1 p ((J0 ts s p).mem_iff.mpr aJ9))
theorem aC4 {p r:Int×Int}(hr:r∈ts)(e:bM p=bM r):¬eS ws (iL ts s p):=λz=>by
 have nd:=((J0 ts s p).map bM).nodup_iff.mp z.2.2.2
 rw[aM4,List.nodup_cons]at nd
 exact nd.1 (by rw[e];exact aR9.mpr ⟨r,hr,rfl⟩)
theorem uO {te:aD}{p:Int×Int}{y7 y8 y9:Option Slot}(w40:ws.length<=40)(l17:ts.length<=1700)(sl:s<=ts.length)(ht:∀K:PV->Tg->Prop,(∀g,K (.tup [.int p.1,.int p.2]) g)->te (lK ws ts c w f s y7 y8 y9) K)(bad:¬eS ws (iL ts s p))(q:∀ws' ts',¬eS ws' ts'->ws'.length<=1000->ts'.length<=1800->Q (intz ws') (aE ts')):hJ 1 (a5 5) te (iO Q) (lK ws ts c w f s y7 y8 y9):=by
 refine⟨_,rfl,_,rfl,s,rfl,by rw[eC];exact sl,by rw[eC];omega,ht _ λg=>⟨by cases g<;>first|trivial|rfl,?_⟩⟩
 have e:(aE ts).take s++.tup [.int p.1,.int p.2]::(aE ts).drop s=aE (iL ts s p):=by
  unfold iL aE
  rw[aM7,aM7,List.map_take,List.map_drop,aK6];rfl
 refine⟨intz ws,_,rfl,rfl,cT _,by rw[e];exact cP _,?_⟩
 rw[e]
 exact q ws _ bad (by omega) (by rw[aA7];omega)
theorem K3 (f0:0<=f)(w40:ws.length<=40)(l17:ts.length<=1700)(sl:s<=ts.length)(q:∀ws' ts',¬eS ws' ts'->ws'.length<=1000->ts'.length<=1800->Q (intz ws') (aE ts')):J7 (iO Q) (lK ws ts c w f s none none none):=by
 have g0:=aM3 (c/211) (show (4:Int)≠0 by decide)
 have g1:=aL8 (c/211) (show (0:Int)<4 by decide)
 have k0:=aM3 (c/97) (show (2:Int)≠0 by decide)
 have k1:=aL8 (c/97) (show (0:Int)<2 by decide)
 obtain⟨d,hd,bd⟩:∃d:Int,L2.atI [PV.int (-1),.int (ws.length:Int),.int (-1-f),.int ((ws.length:Int)+f)] (c/211%4)=some (.int d)/\¬(0<=d/\d<(ws.length:Int)):=by
  generalize c/211%4=k at g0 g1
  have:k=0∨k=1∨k=2∨k=3:=by omega
  rcases this with rfl|rfl|rfl|rfl
  ·exact⟨_,rfl,by omega⟩
  ·exact⟨_,rfl,by omega⟩
  ·exact⟨_,rfl,by omega⟩
  ·exact⟨_,rfl,by omega⟩
 refine⟨_,rfl,_,rfl,_,rfl,_,rfl,_,_,rfl,rfl,_,rfl,_,rfl,_,_,rfl,rfl,by show 4<=1000;decide,rfl,_,rfl,_,_,rfl,rfl,⟨by decide,by decide⟩,_,_,rfl,rfl,(by show (0:Int)<4;decide),_,_,_,rfl,rfl,hd,trivial,?_⟩
 obtain⟨p,hp,bp⟩:∃p:Int×Int,L2.atI [PV.tup [.int 0,.int d],.tup [.int d,.int 0]] (c/97%2)=some (.tup [.int p.1,.int p.2])/\¬iK ws.length p:=by
  generalize c/97%2=k at k0 k1
  have:k=0∨k=1:=by omega
  rcases this with rfl|rfl
  ·exact⟨(0,d),rfl,λz=>bd ⟨z.2.2.1,z.2.2.2.1⟩⟩
  ·exact⟨(d,0),rfl,λz=>bd ⟨z.1,z.2.1⟩⟩
 exact uO w40 l17 sl (λK k=>⟨_,rfl,by show 2<=1000;decide,rfl,_,rfl,by show 2<=1000;decide,rfl,by show 2<=1000;decide,rfl,_,rfl,_,_,rfl,rfl,⟨by decide,by decide⟩,_,_,rfl,rfl,(by show (0:Int)<2;decide),_,_,_,rfl,rfl,hp,k _⟩) (K2 bp) q
theorem K4 (f0:0<=f)(w40:ws.length<=40)(l17:ts.length<=1700)(sl:s<=ts.length)(q:∀ws' ts',¬eS ws' ts'->ws'.length<=1000->ts'.length<=1800->Q (intz ws') (aE ts')):J8 (iO Q) (lK ws ts c w f s none none none):=by
 refine⟨_,rfl,.inl ⟨_,_,rfl,rfl,_,rfl,?_⟩⟩
 show if decide (w=3)=true then _ else _
 cases decide (w=3) with
 |false=>exact aV (K3 f0 w40 l17 sl q)
 |true=>
  refine b9 ⟨_,rfl,_,_,rfl,rfl,_,rfl,?_⟩
  dsimp only
  by_cases n0:(ws.length:Int)>0
  ·rw[aI2 n0]
   exact b9 (uO (p:=(c/97%(ws.length:Int),c/97%(ws.length:Int))) w40 l17 sl (λK k=>⟨_,rfl,_,_,rfl,rfl,⟨by decide,by decide⟩,_,rfl,_,_,rfl,rfl,n0,_,rfl,_,_,rfl,rfl,⟨by decide,by decide⟩,_,rfl,_,_,rfl,rfl,n0,by show 2<=1000;decide,rfl,k _⟩) (K2 λz=>z.2.2.2.2 rfl) q)
  ·rw[aH8 n0]
   exact aV (K3 f0 w40 l17 sl q)
theorem aC5 (f0:0<=f)(w40:ws.length<=40)(l17:ts.length<=1700)(sl:s<=ts.length)(q:∀ws' ts',¬eS ws' ts'->ws'.length<=1000->ts'.length<=1800->Q (intz ws') (aE ts')):K0 (iO Q) (lK ws ts c w f s none none none):=by
 refine⟨_,rfl,.inl ⟨_,_,rfl,rfl,_,rfl,?_⟩⟩
 show if decide (w=2)=true then _ else _
 cases decide (w=2) with
 |false=>exact aV (K4 f0 w40 l17 sl q)
 |true=>
  refine b9 ⟨_,rfl,_,_,rfl,rfl,_,_,rfl,rfl,_,rfl,?_⟩
  dsimp only
  by_cases t0:((aE ts).length:Int)>0
  ·rw[aI2 t0]
   have g0:=aM3 (c/97) (show ((aE ts).length:Int)≠0 by omega)
   have g1:=aL8 (c/97) t0
   obtain⟨j,hj⟩:∃j:Nat,c/97%((aE ts).length:Int)=j:=⟨(c/97%((aE ts).length:Int)).toNat,by omega⟩
   have jl:j<ts.length:=by rw[hj,eC]at g1;omega
   obtain⟨r,hr⟩:∃r,ts[j]? = some r:=⟨_,aH5 jl⟩
   have hrP:L2.atI (aE ts) (c/97%((aE ts).length:Int))=some (.tup [.int r.1,.int r.2]):=by rw[hj];exact lT (by unfold aE;rw[aL2,hr];rfl)
   have mr:=aU1 hr
   have sto:∀(g:Tg),oK g (.tup [.int r.1,.int r.2]):=λg=>by cases g<;>first|trivial|rfl
   refine b9 ⟨_,rfl,_,rfl,_,_,rfl,rfl,⟨by decide,by decide⟩,_,rfl,_,_,rfl,rfl,_,_,rfl,rfl,t0,_,_,_,rfl,rfl,hrP,sto _,_,_,rfl,?_⟩
   have h0:=aM3 (c/211) (show (2:Int)≠0 by decide)
   have h1:=aL8 (c/211) (show (0:Int)<2 by decide)
   obtain⟨p,hp,ep⟩:∃p:Int×Int,L2.atI [PV.tup [.int r.1,.int r.2],.tup [.int r.2,.int r.1]] (c/211%2)=some (.tup [.int p.1,.int p.2])/\bM p=bM r:=by
    generalize c/211%2=k at h0 h1
    have:k=0∨k=1:=by omega
    rcases this with rfl|rfl
    ·exact⟨r,rfl,rfl⟩
    ·exact⟨(r.2,r.1),rfl,G9 r⟩
   exact uO (p:=p) w40 l17 sl (λK k=>⟨_,rfl,_,rfl,by show 2<=1000;decide,rfl,_,rfl,_,rfl,by show 2<=1000;decide,rfl,by show 2<=1000;decide,rfl,_,rfl,_,_,rfl,rfl,⟨by decide,by decide⟩,_,_,rfl,rfl,(by show (0:Int)<2;decide),_,_,_,rfl,rfl,hp,k _⟩) (aC4 mr ep) q
  ·rw[aH8 t0]
   exact aV (K4 f0 w40 l17 sl q)
theorem K5:∀n:Nat,(List.replicate n [PV.int 1]).flatten=intz (List.replicate n 1)
 |0=>rfl
 |n+1=>by rw[aQ5,aU3,aQ5];show PV.int 1::_=PV.int 1::_;rw[K5 n];rfl
theorem aC6 (f0:0<=f)(w40:ws.length<=40)(l17:ts.length<=1700)(sl:s<=ts.length)(q:∀ws' ts',¬eS ws' ts'->ws'.length<=1000->ts'.length<=1800->Q (intz ws') (aE ts')):K1 (iO Q) (lK ws ts c w f s none none none):=by
 refine⟨_,rfl,.inl ⟨_,_,rfl,rfl,_,rfl,?_⟩⟩
 show if decide (w=1)=true then _ else _
 cases decide (w=1) with
 |false=>exact aV (aC5 f0 w40 l17 sl q)
 |true=>
  have g0:=aM3 (c/6) (show (3:Int)≠0 by decide)
  have g1:=aL8 (c/6) (show (0:Int)<3 by decide)
  refine b9 ⟨_,rfl,by show 1<=1000;decide,rfl,_,rfl,_,_,rfl,rfl,⟨by decide,by decide⟩,_,_,rfl,rfl,(by show (0:Int)<3;decide),_,_,rfl,rfl,_,rfl,_,_,rfl,rfl,_,_,rfl,rfl,rfl,by omega,by omega,by decide,?_⟩
  dsimp only
  generalize c/6%3=e at g0 g1
  rw[show (List.replicate (41+e-(ws.length:Int)).toNat (List.map (λx:PV×Tg=>x.1) [(PV.int 1,Tg.fr)])).flatten=intz (List.replicate (41+e-(ws.length:Int)).toNat 1) from K5 _]
  refine⟨_,.inr rfl,.inr (cT _),by rw[cU,cU,List.length_replicate];omega,?_⟩
  have ep:intz ws++intz (List.replicate (41+e-(ws.length:Int)).toNat 1)=intz (ws++List.replicate (41+e-(ws.length:Int)).toNat 1):=(pO _ _).symm
  rw[ep]
  exact⟨_,aE ts,rfl,rfl,cT _,cP _,q _ ts (λz=>by have:=z.1;rw[aL1,List.length_replicate]at this;omega) (by rw[aL1,List.length_replicate];omega) (by omega)⟩
theorem aC7:∀xs ys c Q,qF xs ys c Q->flats xs=true->flats ys=true->uN (iO Q) (nN ["wants","links","cell","many","way","spot","far","one","other","odd"] xs ys c):=by
 rintro xs ys c Q ⟨ws,ts,c,rfl,rfl,rfl,w40,l17,q⟩ _ _
 show uN (iO Q) [some (.own (.lst (intz ws))),some (.own (.lst (aE ts))),si c,none,none,none,none,none,none,none]
 refine⟨_,rfl,_,_,rfl,rfl,trivial,?_⟩
 rw[cU]
 refine⟨_,rfl,_,_,rfl,rfl,(by show (0:Int)<6;decide),trivial,?_⟩
 refine⟨_,rfl,_,_,rfl,rfl,⟨by decide,by decide⟩,_,rfl,_,_,rfl,rfl,_,_,rfl,rfl,_,_,rfl,rfl,by show (0:Int)<((aE ts).length:Int)+1;omega,trivial,?_⟩
 have s0:=aM3 (c/6) (show ((aE ts).length:Int)+1≠0 by omega)
 have s1:=aL8 (c/6) (show 0<((aE ts).length:Int)+1 by omega)
 dsimp only
 generalize c/6%(((aE ts).length:Int)+1)=sp at s0 s1
 obtain⟨s,rfl⟩:∃s:Nat,sp=s:=⟨sp.toNat,by omega⟩
 have sl:s<=ts.length:=by rw[eC]at s1;omega
 refine⟨_,rfl,_,_,rfl,rfl,⟨by decide,by decide⟩,_,_,rfl,rfl,⟨by decide,by decide,by decide⟩,_,_,rfl,rfl,(by show (0:Int)<10^(30:Int).toNat;decide),trivial,?_⟩
 dsimp only
 have f0:0<=c/1009%10^(30:Int).toNat:=aM3 _ (by decide)
 generalize c/1009%10^(30:Int).toNat=f at f0
 have bW:=aC6 (c:=c) (w:=c%6) f0 w40 l17 sl q
 refine⟨_,rfl,.inl ⟨_,_,rfl,rfl,_,rfl,?_⟩⟩
 show if decide (c%6=0)=true then _ else _
 cases decide (c%6=0) with
 |false=>exact aV bW
 |true=>
  refine b9 ⟨_,rfl,_,_,rfl,rfl,_,rfl,?_⟩
  dsimp only
  by_cases n0:(ws.length:Int)>0
  ·rw[aI2 n0]
   have g0:=aM3 (c/211) (show (4:Int)≠0 by decide)
   have g1:=aL8 (c/211) (show (0:Int)<4 by decide)
   have k0:=aM3 (c/6) (show (ws.length:Int)≠0 by omega)
   have k1:=aL8 (c/6) n0
   obtain⟨j,hj⟩:∃j:Nat,c/6%(ws.length:Int)=j:=⟨(c/6%(ws.length:Int)).toNat,by omega⟩
   obtain⟨d,hd,bd⟩:∃d:Int,L2.atI [PV.int (-1),.int 61,.int (-1-f),.int (61+f)] (c/211%4)=some (.int d)/\¬(0<=d/\d<=60):=by
    generalize c/211%4=k at g0 g1
    have:k=0∨k=1∨k=2∨k=3:=by omega
    rcases this with rfl|rfl|rfl|rfl
    ·exact⟨_,rfl,by omega⟩
    ·exact⟨_,rfl,by omega⟩
    ·exact⟨_,rfl,by omega⟩
    ·exact⟨_,rfl,by omega⟩
   refine b9 ⟨_,rfl,_,rfl,_,rfl,_,_,rfl,rfl,_,rfl,_,_,rfl,rfl,by show 4<=1000;decide,rfl,_,rfl,_,_,rfl,rfl,⟨by decide,by decide⟩,_,_,rfl,rfl,(by show (0:Int)<4;decide),_,_,_,rfl,rfl,hd,_,rfl,_,rfl,_,_,rfl,rfl,⟨by decide,by decide⟩,_,rfl,_,_,rfl,rfl,n0,_,j,rfl,by rw[hj,cU];exact av9 (by omega),trivial,?_⟩
   have e:(intz ws).set j (.int d)=intz (ws.set j d):=(List.map_set (f:=PV.int)).symm
   rw[e]
   refine⟨_,aE ts,rfl,rfl,cT _,cP _,q _ ts (λz=>bd (z.2.1 d ?_)) (by rw[aO4];omega) (by omega)⟩
   exact List.mem_set (by omega) d
  ·rw[aH8 n0]
   exact aV bW
end
end Core
namespace PP
open PySem L2
structure aC8 (X:Cx)(D':dX)(D:bN):Prop where
 nx:∀W' σ' H' ρ',PX X.K X.H₀ W' σ' ρ' H'->D'.nx ρ'->D.nx σ' H'
 rt:∀v H' x,aH X.H₀ H'->aF X.K (λa=>X.H₀ a=none) H' v x->D'.rt x->D.rt v H'
 bk:∀W' σ' H' ρ',PX X.K X.H₀ W' σ' ρ' H'->D'.bk ρ'->D.bk σ' H'
 ct:∀W' σ' H' ρ',PX X.K X.H₀ W' σ' ρ' H'->D'.ct ρ'->D.ct σ' H'
def jB (X:Cx)(t:aK):TS:=λD σ H=>∃(W:Addr->Prop) (ρ:b6) (D':dX),PX X.K X.H₀ W σ ρ H/\t D' ρ/\aC8 X D' D
def lL (X:Cx)(sts:List Stmt)(t:aK):Prop:=cN X sts (jB X t)
section
variable {X:Cx}{D:bN}{σ:L2.St}{H:Hp}{t u:aK}{st:Stmt}{sts:List Stmt}{tc:cH}{c:Expr}{pos:Pos}
theorem aC9 (h:jB X t D σ H):LS X t D σ H:=by
 obtain⟨W,ρ,D',px,q,k⟩:=h
 exact⟨W,ρ,D',px,q,λW' σ' H' ρ' _=>k.nx W' σ' H' ρ',k.rt,λW' σ' H' ρ' _=>k.bk W' σ' H' ρ',λW' σ' H' ρ' _=>k.ct W' σ' H' ρ'⟩
theorem aD0 (h:jB X (aO t u) D σ H):kB (LS X t) (jB X u) D σ H:=by
 obtain⟨W,ρ,D',px,q,k⟩:=h
 exact⟨W,ρ,_,px,q,λW' σ' H' ρ' _ px' q'=>⟨W',ρ',D',px',q',k⟩,k.rt,λW' σ' H' ρ' _=>k.bk W' σ' H' ρ',λW' σ' H' ρ' _=>k.ct W' σ' H' ρ'⟩
theorem aD1 (h:jB X (aO t u) D σ H):kB (jB X t) (jB X u) D σ H:=by
 obtain⟨W,ρ,D',px,q,k⟩:=h
 exact⟨W,ρ,_,px,q,λW' σ' H' ρ' px' q'=>⟨W',ρ',D',px',q',k⟩,k.rt,k.bk,k.ct⟩
theorem aD2 (h:dQ X sts t):lL X sts t:=jQ h λ_ _ _=>aC9
theorem gR (h1:QS X st t)(h2:lL X sts u):lL X (st::sts) (aO t u):=jQ (lP h1 h2) λ_ _ _=>aD0
def K6:Slot->Prop
 |.sh _ x=>flat x=true
 |.own (.lst xs)=>flats xs=true
 |_=>False
theorem PX.chg {W:Addr->Prop}{ρ:b6}{l:Addr}{us ws:List V}(px:PX X.K X.H₀ W σ ρ H)(hl:H l=some (.lst us))(nw:¬W l)(n0:X.H₀ l=none)(st:∀(i:Nat) (m:Slot),ρ[i]? = some (some m)->K6 m):PX X.K X.H₀ W σ ρ (upd H l (.lst ws)):=by
 have ne:∀{b o},X.H₀ b=some o->b≠l:=λ{b o} e z=>by rw[z,n0]at e;cases e
 have kp:dN (λ_=>False) (λ_=>False) H (upd H l (.lst ws)):=.upd hl rfl λ_ z=>z.elim
 refine⟨px.len,λb o e=>by rw[aJ (ne e)];exact px.same b o e,λb hb=>⟨(px.wm b hb).1,?_⟩,λi m h=>?_,px.dis⟩
 ·obtain⟨o,e,mu⟩:=(px.wm b hb).2
  exact⟨o,by rw[aJ (λz=>nw (by rw[<- z];exact hb))];exact e,mu⟩
 ·obtain⟨v,e,r⟩:=px.sl i m h
  refine⟨v,e,?_⟩
  have s:=st i m h
  match m,s,r with
  |.sh g x,s,r=>exact ((aF.flat (M':=λ_=>False) s r).keep kp).flat s
  |.own (.lst xs),s,r=>
   obtain⟨a,rfl,wa,us2,ea,r2⟩:=r
   exact⟨a,rfl,wa,us2,by rw[aJ (λz=>nw (by rw[<- z];exact wa))];exact ea,((Reps.flat (M':=λ_=>False) s r2).keep kp).flat s⟩
end
theorem aD3 {P:Program}{w:World}{K:ac}{mg:Str->Option Value}{base:Heap}{k:Nat}{x:Str}{ps N:List Str}{p:cO}{st:Stmt}{f:Addr}{fd:FuncData}(F:dD K x x st f fd)(S:FnScope N ps (aU st))(len:∀xs Q,p xs Q->xs.length=ps.length)(body:∀(cdv:Value) (A:Around) (outer:List Env) (s:Shared) (H:Hp) (E:XK),bJ k (A.deeper (PyProof.Rows.envOfC x (aU st) s.heap.objs.size f cdv))->
   ∃t,lL (bX dM P w K mg base N x (aU st) f cdv A outer s H E).nox (cS st) t/\∀xs Q,p xs Q->t { nx:=λ_=>Q .non,rt:=Q } (cZ N xs)):cR P w K mg base dM (k+1) f fd ps (mE K p):=by
 refine F.ok S (λvs H Q E h=>?_) (λcdv A outer s H vs Q E hr h=>?_)
 ·obtain⟨xs,Qp,r,q,_⟩:=h
  rw[r.length];exact len xs Qp q
 ·obtain⟨xs,Qp,r,q,k⟩:=h
  obtain⟨t,ht,hq⟩:=body cdv A outer s H E hr
  refine⟨_,ht,λ_=>False,cZ N xs,_,p5 r,hq xs Qp q,?_,?_,?_,?_⟩
  ·exact λW' σ' H' ρ' px q=>k _ _ _ px.same .non q
  ·exact λv H' x s r q=>k _ _ _ s r q
  ·exact λW' σ' H' ρ' px q=>q
  ·exact λW' σ' H' ρ' px q=>q
section
variable {X:Cx}{D:bN}{σ:L2.St}{H:Hp}{h:Nat}{te0 te1:aD}
theorem PX.forget {W:Addr->Prop}{ρ:b6}{i:Nat}(p:PX X.K X.H₀ W σ ρ H):PX X.K X.H₀ W σ (ρ.set i none) H:=by
 have g:∀{j:Nat}{m:Slot},(ρ.set i none)[j]? = some (some m)->ρ[j]? = some (some m):=λ{j m} e=>by
  by_cases z:i=j
  ·subst z
   rw[List.getElem?_set_self']at e
   cases hh:ρ[i]? with
   |none=>rw[hh]at e;cases e
   |some y=>rw[hh]at e;cases e
  ·rwa [aK0 z]at e
 exact⟨by rw[aO4];exact p.len,p.same,p.wm,λj m e=>p.sl j m (g e),λa b x y c h1 h2=>p.dis a b x y c (g h1) (g h2)⟩
def uP (h:Nat)(te0 te1:aD):aK:=λD ρ=>∃(ws:af) (ys:List PV),ρ[h]? = some (some (.sh true (.lst [.lst (intz ws),.lst ys])))/\ws.length<=1000/\ys.length<=100000/\(∀(i:Nat) (m:Slot),(ρ.set h none)[i]? = some (some m)->K6 m)/\te0 (ρ.set h none) λ_ _=>te1 (ρ.set h none) λ_ _=>D.nx (ρ.set h none)
abbrev K7 (K:ac)(h:Nat)(k:Int)(te:TE):TS:=i4 (lU K "list" rH (kI (rD K) (fM h) (tC (.int k))) (dL te gB))
theorem aD4 (q:jB X (uP h te0 te1) D σ H):kB (K7 X.K h 0 (LE X te0)) (K7 X.K h 1 (LE X te1)) D σ H:=by
 obtain⟨W,ρ,D',px,⟨ws,ys,hh,lw,ly,st,q⟩,k⟩:=q
 obtain⟨v,ev,r⟩:=px.sl h _ hh
 have r:aF X.K (Ms X.H₀ W true) H v (.lst [.lst (intz ws),.lst ys]):=r
 cases r with
 |lst m0 ha rs=>
 rename_i a vs
 cases rs with
 |cons r0 rs=>
 cases rs with
 |cons r1 rs=>
 cases rs
 cases r0 with
 |lst n0 hl0 q0=>
 rename_i l0 us0
 cases r1 with
 |lst n1 hl1 q1=>
 rename_i l1 us1
 have len0:us0.length=ws.length:=by rw[q0.length,Core.cU]
 have len1:us1.length=ys.length:=q1.length
 have pf:=px.forget (i:=h)
 have a0:a≠l0:=λz=>by
  rw[<- z,ha]at hl0
  cases hl0
  have:(intz ws).length=2:=by rw[<- q0.length];rfl
  rw[Core.cU]at this
  match ws,this,q0 with
  |[x,y],_,q0=>cases q0 with|cons r _=>cases r
 refine⟨_,ev,a,_,0,_,rfl,rfl,aP.of ha,rfl,m6 (aP.of hl0),W,_,_,pf,q,?_⟩
 intro v0 H1 x0 g0 s1 rv0 q
 refine⟨l0,us0,v0,rfl,rfl,s1 _ _ hl0,jI (by rw[len0];omega),?_⟩
 have pf1:=(pf.mono s1).chg (ws:=us0++[v0]) (s1 _ _ hl0) n0.1 n0.2 st
 have ha1:upd H1 l0 (.lst (us0++[v0])) a=some (.lst [.ref l0,.ref l1]):=by rw[aJ a0];exact s1 _ _ ha
 obtain⟨us2,hl2,ll2⟩:∃us2,upd H1 l0 (.lst (us0++[v0])) l1=some (.lst us2)/\us2.length<=100001:=by
  by_cases z:l1=l0
  ·exact⟨_,by rw[z,b7],by rw[aL1,len0];show _+1<=_;omega⟩
  ·exact⟨us1,by rw[aJ z];exact s1 _ _ hl1,by omega⟩
 refine⟨_,ev,a,_,1,_,rfl,rfl,aP.of ha1,rfl,m6 (aP.of hl2),W,_,_,pf1,q,?_⟩
 intro v1 H2 x1 g1 s2 rv1 q
 refine⟨l1,us2,v1,rfl,rfl,s2 _ _ hl2,jI (by omega),?_⟩
 exact k.nx W σ _ _ ((pf1.mono s2).chg (ws:=us2++[v1]) (s2 _ _ hl2) n1.1 n1.2 st) q
theorem aD5 (h:Nat){x:Str}{e0 e1:Expr}{sts:List Stmt}{u:aK}{j0 j1:Nat}{xp0 ip0 sp0 ap0 cp0 pos0 xp1 ip1 lF ap1 cp1 pos1:Pos}(he0:QE X e0 te0)(he1:QE X e1 te1)(hr:lL X sts u)(hN:X.N[h]? = some x:=by rfl)(hv:eV X.env.scope x:=by first|exact Or.inl rfl|exact Or.inr (Or.inl rfl)|exact Or.inr (Or.inr rfl))(hd:(x==("__debug__":Str))=false:=by decide)(hcd:(x==("__classdict__":Str))=false:=by decide)(hb0:attributeBase (.Subscript (.Name x xp0) (.Constant (.int 0) j0 ip0) sp0) "append" X.env (eval (.Subscript (.Name x xp0) (.Constant (.int 0) j0 ip0) sp0) X.env)=eval (.Subscript (.Name x xp0) (.Constant (.int 0) j0 ip0) sp0) X.env:=by rfl)(hf0:((backTo cp0 (starEach [e0] X.env)).all (λx=>!x.1)&&(backToKw cp0 (keywordEach [] X.env)).all (λx=>x.1.isSome)&&decide (([e0]:List Expr).length+([]:List Keyword).length+(if ([]:List Keyword).isEmpty then 0 else 1)<30))=true:=by rfl)(hl0:(ap0.endLine==cp0.line)=true:=by rfl)(hs0:starEach [e0] X.env=(false,eval e0 X.env)::starEach [] X.env:=by rfl)(hp0:(backTo cp0 (starEach [] X.env)).any (·.1)=false:=by rfl)(hw0:swapsWith (.Call (.Attribute (.Subscript (.Name x xp0) (.Constant (.int 0) j0 ip0) sp0) "append" ap0) [e0] [] cp0) none pos0.line X.env=pure false:=by rfl)(hb1:attributeBase (.Subscript (.Name x xp1) (.Constant (.int 1) j1 ip1) lF) "append" X.env (eval (.Subscript (.Name x xp1) (.Constant (.int 1) j1 ip1) lF) X.env)=eval (.Subscript (.Name x xp1) (.Constant (.int 1) j1 ip1) lF) X.env:=by rfl)(hf1:((backTo cp1 (starEach [e1] X.env)).all (λx=>!x.1)&&(backToKw cp1 (keywordEach [] X.env)).all (λx=>x.1.isSome)&&decide (([e1]:List Expr).length+([]:List Keyword).length+(if ([]:List Keyword).isEmpty then 0 else 1)<30))=true:=by rfl)(hl1:(ap1.endLine==cp1.line)=true:=by rfl)(hs1:starEach [e1] X.env=(false,eval e1 X.env)::starEach [] X.env:=by rfl)(hp1:(backTo cp1 (starEach [] X.env)).any (·.1)=false:=by rfl)(hw1:swapsWith (.Call (.Attribute (.Subscript (.Name x xp1) (.Constant (.int 1) j1 ip1) lF) "append" ap1) [e1] [] cp1) none pos1.line X.env=pure false:=by rfl) :
  lL X (.Expr (.Call (.Attribute (.Subscript (.Name x xp0) (.Constant (.int 0) j0 ip0) sp0) "append" ap0) [e0] [] cp0) pos0::.Expr (.Call (.Attribute (.Subscript (.Name x xp1) (.Constant (.int 1) j1 ip1) lF) "append" ap1) [e1] [] cp1) pos1::sts) (aO (uP h te0 te1) u):=
 jQ (lP (kC (lV aU5 PySem.F.slot_list_append PySem.F.type_list_append lX (rC rE (fZ hN hv hd hcd) qI (λ_ _=>rfl)) (cI he0 dU hs0) hb0 hf0 hl0 hs0 hp0) hw0)
  (lP (kC (lV aU5 PySem.F.slot_list_append PySem.F.type_list_append lX (rC rE (fZ hN hv hd hcd) qI (λ_ _=>rfl)) (cI he1 dU hs1) hb1 hf1 hl1 hs1 hp1) hw1) hr)) λ_ _ _ q=>aD4 (aD1 q)
end
section
variable {X:Cx}{σ:L2.St}{H:Hp}{Q':VK}{tr:bS}{es:List Expr}{pos:Pos}
def uQ (t:bS):aD:=λρ Q=>t ρ λxs=>xs.length<=1000/\Q (.lst (xs.map (·.1))) .rd
theorem aD6 (h:LE X (uQ tr) σ H Q'):nT (LA X tr) σ H Q':=by
 obtain⟨W,ρ,Q,px,q,k⟩:=h
 refine⟨W,ρ,_,px,q,?_⟩
 rintro vs H1 xs s1 r ⟨hl,q⟩
 refine⟨by rw[r.length];exact mB hl,λp hp=>k _ _ _ .rd (s1.trans (b8 hp _)) (.lst trivial b7 ?_) q⟩
 exact r.any.same (b8 hp _) λ_ _=>trivial
theorem aD7 (ha:QA X es tr):QE X (.List es pos) (uQ tr):=bT (qZ ha) λ_ _ _=>aD6
end
end PP
namespace Core
open PySem L2 PP
def uR:cO:=B8
def aD8:aK:=(aO (uP 7 (qC (.int 1)) (dE (a7 (qC (.int 0)) (a7 (qC (.int 1)) aB))))
 (aO (bC (gH (fB (aS (aI nH (a7 (a5 8) (a7 (a5 3) aB))))) (fB (aS (aI nH (a7 (aI (jA λ_=>False) (a7 (aI fE (a7 (a5 5) aB)) (a7 (aI fE (a7 (a5 6) aB)) aB))) (a7 (a5 3) aB)))))) (bZ (qC (.bl false))) cB)
 (bZ (kM (aI lD (a7 (aI nB (a7 (a5 8) aB)) aB)) (dG (aI nB (a7 (a5 8) aB)) (a5 2))))))
def K8:aK:=(aO (bG 7 (u7 (a7 (aI kQ (a7 (a5 5) aB)) (a7 (aI kQ (a7 (a5 6) aB)) aB))))
 (aO (bG 8 (aI (jA λ_=>False) (a7 (bL (a5 7) (qC (.int 0))) (a7 (bL (a5 7) (qC (.int 1))) aB))))
 (aO (bC (aS (q2 (sP 2 true) (a5 7) (uQ (a7 (a5 5) (a7 (a5 6) aB))))) (bZ (qC (.bl false))) cB)
 aD8)))
def uS:aK:=(aO (bG 3 (aI pX (a7 (mI (a5 0) (mH (qC (.int 2))) mG) (a7 (a5 2) (a7 (bI (a5 1) (qC (.int 1476))) aB)))))
 (aO (bG 4 (aX (aI gZ (a7 (a5 0) (a7 (qC (.int 1)) aB))) (yQ (qC (.int 10)) (qC (.int 60)))))
 (aO (gI 5 (aI kQ (a7 (bL (a5 3) (qC (.int 0))) aB)))
 (aO (gI 6 (aI qA (a7 (aI kQ (a7 (bL (a5 3) (qC (.int 1))) aB)) (a7 (bI (a5 4) (qC (.int 2))) aB))))
 (aO (bC (aS (dG (aX (a5 4) (qC (.int 2))) (qC (.int 1)))) (aO (uM 5 6 qF (bI (a5 4) (qC (.int 82))))
  (bZ (kM (aI nK (a7 (a5 5) (a7 (a5 6) aB))) (aI nK (a7 (aI fE (a7 (a5 5) aB)) (a7 (aI fE (a7 (a5 6) aB)) aB)))))) cB)
 K8)))))
def K9:aK:=(aO (bG 1 (aI gZ (a7 (a5 0) (a7 (qC (.int 0)) aB))))
 (aO (bG 2 (aX (a5 1) (qC (.int 9))))
 (aO (bC (aS (dG (aX (bI (a5 1) (qC (.int 9))) (qC (.int 4))) (qC (.int 1)))) (bG 2 (aX (bI (a5 1) (qC (.int 36))) (qC (.int 41)))) cB)
 uS)))
section
variable {n:Nat}{hd c:Int}{ns ws:af}{ls ts:aa}{Q:PV→Prop}
theorem L4:cC 3 (.lst [.lst (intz ws),.lst (aE ts)]) (.lst [.lst (intz ws),.lst (aE ts)])=true/\bK 3 (.lst [.lst (intz ws),.lst (aE ts)]) (.lst [.lst (intz ws),.lst (aE ts)])=true:=by
 have a1:cC 2 (.lst (intz ws)) (.lst (intz ws))=true:=ah6 1 ws ws
 have a2:bK 2 (.lst (intz ws)) (.lst (intz ws))=true:=by rw[ah4 1,aI2 rfl]
 have b1:cC 2 (.lst (tups (ts.map two))) (.lst (tups (ts.map two)))=true:=E8 0 (ts.map two) (ts.map two)
 have b2:bK 2 (.lst (tups (ts.map two))) (.lst (tups (ts.map two)))=decide (ts.map two=ts.map two):=av1 0 (ts.map two) (ts.map two)
 rw[aI2 rfl]at b2
 have ep:tups (ts.map two)=aE ts:=(nE ts).symm
 rw[ep]at b1 b2
 constructor
 ·show (cC 2 (.lst (intz ws)) (.lst (intz ws))&&(cC 2 (.lst (aE ts)) (.lst (aE ts))&&true))=true
  rw[a1,b1];rfl
 ·show ((bK 2 (.lst (intz ws)) (.lst (intz ws))&&(bK 2 (.lst (aE ts)) (.lst (aE ts))&&true))&&true)=true
  rw[a2,b2];rfl
theorem aD9 (n40:n<=40)(wd:WD (n:Int) ws ls)(pt:(ts.map bM).Perm ls)(q:Q (.bl true)):K8 { nx:=λ_=>Q .non,rt:=Q } [some (.sh true (.scr ns)),si hd,si n,some (.sh true (gP ws ls)),si c,some (.own (.lst (intz ws))),some (.own (.lst (aE ts))),none,none]:=by
 have wl:ws.length=n:=by have:=wd.many;omega
 have tl:ts.length=ls.length:=by have:=pt.length_eq;rw[aJ1]at this;exact this
 have l17:=wd.most
 have ndl:ls.Nodup:=wd.ord.imp λ{a b} h e=>by rw[e]at h;unfold cV at h;omega
 have ok:eS ws ts:=⟨by omega,wd.pos,λt ht=>by
   have m:=pt.mem_iff.mp (aR9.mpr ⟨t,ht,rfl⟩)
   have h:0<=min t.1 t.2/\min t.1 t.2<max t.1 t.2/\max t.1 t.2<(n:Int):=wd.inn _ m
   rw[wl]
   exact⟨by omega,by omega,by omega,by omega,by omega⟩,pt.nodup_iff.mpr ndl⟩
 have uq:∀ls',ls'.Perm (ts.map bM)->WL (ws.length:Int) ws ls'->ls'=ls:=λls' pp wl'=>ay1 (pp.trans pt) wl'.ord wd.ord
 refine⟨_,rfl,⟨_,_,rfl,rfl,cT _,_,rfl,_,_,rfl,rfl,cP _,by show 2<=1000;decide,λz hz=>?_,trivial,?_⟩⟩
 ·rcases aH4.mp hz with rfl|hz
  ·trivial
  ·rw[aI3.mp hz];trivial
 refine⟨_,rfl,_,_,_,rfl,rfl,rfl,_,rfl,_,_,_,rfl,rfl,rfl,_,_,ws,ts,rfl,.inr rfl,.inr rfl,by omega,λ_=>⟨by omega,λls' pp wl'=>⟨trivial,?_⟩⟩,λno=>no ok⟩
 rw[uq ls' pp wl']
 refine⟨_,rfl,_,rfl,_,rfl,by show 2<=1000;decide,.inr ⟨_,_,rfl,rfl⟩,L4.1,_,rfl,?_⟩
 show if (!bK 3 (.lst [.lst (intz ws),.lst (aE ts)]) (.lst [.lst (intz ws),.lst (aE ts)]))=true then _ else _
 rw[L4.2]
 refine aV ⟨ws,aE ts,rfl,by omega,by rw[eC];omega,λi m h=>?_,by show 2<=1000;decide,rfl,?_⟩
 ·match i,h with
  |0,h=>cases h;rfl
  |1,h=>cases h;rfl
  |2,h=>cases h;rfl
  |3,h=>cases h;exact nA ws ls
  |4,h=>cases h;rfl
  |5,h=>cases h;exact cT ws
  |6,h=>cases h;exact cP ts
  |8,h=>cases h;exact nA ws ls
 refine⟨_,rfl,_,rfl,ws,ls,_,_,rfl,.inl rfl,.inl rfl,by omega,by omega,_,rfl,aV ?_⟩
 refine⟨_,rfl,⟨_,_,rfl,rfl,cT _,_,rfl,⟨_,_,rfl,rfl,cP _,_,_,ws,ts,rfl,.inl rfl,.inl rfl,by omega,λ_=>⟨by omega,λls' pp wl'=>?_⟩,λno=>no ok⟩,λns z=>by cases z⟩,λns z=>by cases z⟩
 rw[uq ls' pp wl']
 refine⟨_,rfl,ws,ls,_,_,rfl,.inl rfl,.inl rfl,by omega,by omega,_,rfl,aV ?_⟩
 refine⟨_,rfl,ws,ls,rfl,_,rfl,_,rfl,b9 ⟨_,rfl,ws,ls,rfl,_,rfl,.inl ⟨_,_,rfl,rfl,trivial,?_⟩⟩⟩
 show Q (.bl (decide ((ws.length:Int)=(n:Int))))
 rw[aI2 wd.many];exact q
theorem aE0 (hl:ns.length<=63)(n40:n<=40)(q:Q (.bl true)):uS { nx:=λ_=>Q .non,rt:=Q } [some (.sh true (.scr ns)),si hd,si n,none,none,none,none,none,none]:=by
 have hc:iG (yP (.scr ns) (e8 (intz ns) (some 2) none)) (ns.drop 2):=.inr (by show PV.lst (e8 (intz ns) (some 2) none)=_;rw[aq3 ns (by decide)];rfl)
 refine⟨_,rfl,_,rfl,_,rfl,cT _,_,rfl,_,rfl,_,_,rfl,rfl,⟨by decide,by decide⟩,_,_,(n:Int),_,rfl,hc,by rw[aP5];omega,by omega,by omega,λws ls wd=>⟨trivial,?_⟩⟩
 refine⟨_,rfl,_,ns,1,rfl,.inl rfl,by decide,_,_,rfl,rfl,⟨by decide,by decide,by decide⟩,_,_,rfl,rfl,(by show (0:Int)<10^(60:Int).toNat;decide),trivial,?_⟩
 dsimp only
 generalize ns.getD (1:Int).toNat 0%10^(60:Int).toNat=c
 refine⟨_,rfl,_,_,_,rfl,rfl,rfl,_,_,rfl,rfl,cT _,rfl,cT _,?_⟩
 refine⟨_,rfl,_,_,_,rfl,rfl,rfl,⟨_,_,rfl,rfl,cP _,_,rfl,_,_,rfl,rfl,⟨by decide,by decide⟩,ls,_,rfl,λl hl=>(wd.inn l hl).2.1,wd.most,λts pt=>⟨rfl,cP _,?_⟩⟩⟩
 have tl:ts.length=ls.length:=by have:=pt.length_eq;rw[aJ1]at this;exact this
 have l17:=wd.most
 have wl:ws.length=n:=by have:=wd.many;omega
 refine⟨_,rfl,_,_,rfl,rfl,(by show (0:Int)<2;decide),.inl ⟨_,_,rfl,rfl,_,rfl,?_⟩⟩
 show if decide (c%2=1)=true then _ else _
 cases decide (c%2=1) with
 |false=>exact aV (aD9 n40 wd pt q)
 |true=>
  refine b9 ⟨intz ws,aE ts,rfl,rfl,by decide,cT _,cP _,_,rfl,_,_,rfl,rfl,⟨by decide,by decide⟩,rfl,ws,ts,_,rfl,rfl,rfl,by omega,by omega,λws' ts' bad lw lt=>?_⟩
  refine⟨_,rfl,_,rfl,_,_,ws',ts',rfl,.inr rfl,.inr rfl,lt,bad,_,rfl,b9 ?_⟩
  exact⟨_,rfl,⟨_,_,rfl,rfl,cT _,_,rfl,⟨_,_,rfl,rfl,cP _,_,_,ws',ts',rfl,.inl rfl,.inl rfl,lt,bad,trivial,q⟩,λns z=>by cases z⟩,λns z=>by cases z⟩
end
theorem aE1:fU K9 ["script","head","many","web","cell","wants","links","handed","found"] uR:=by
 rintro xs Q ⟨ns,rfl,hl,q⟩
 refine⟨_,rfl,_,ns,0,rfl,.inl rfl,by decide,trivial,?_⟩
 generalize ns.getD (0:Int).toNat 0=head
 refine⟨_,rfl,_,_,rfl,rfl,(by show (0:Int)<9;decide),trivial,?_⟩
 have fin:∀many:Int,0<=many->many<=40->uS { nx:=λ_=>Q .non,rt:=Q } [some (.sh true (.scr ns)),si head,si many,none,none,none,none,none,none]:=λmany h0 h1=>by
  obtain⟨n,rfl⟩:∃n:Nat,many=n:=⟨many.toNat,by omega⟩
  exact aE0 hl (by omega) q
 refine⟨_,rfl,_,_,rfl,rfl,⟨by decide,by decide⟩,_,_,rfl,rfl,(by show (0:Int)<4;decide),.inl ⟨_,_,rfl,rfl,_,rfl,?_⟩⟩
 cases hc:(decide (head/9%4=1)) with
 |false=>
  have a1:=aM3 head (show (9:Int)≠0 by decide)
  have a2:=aL8 head (show (0:Int)<9 by decide)
  exact aV (fin (head%9) a1 (by omega))
 |true=>
  have a1:=aM3 (head/36) (show (41:Int)≠0 by decide)
  have a2:=aL8 (head/36) (show (0:Int)<41 by decide)
  exact b9 ⟨_,rfl,_,_,rfl,rfl,⟨by decide,by decide⟩,_,_,rfl,rfl,(by show (0:Int)<41;decide),trivial,fin (head/36%41) a1 (by omega)⟩
end Core
namespace K_k01
open PySem PySem.W L2 PP Core
theorem _root_.L2.FnScope.au {N P:List Str}{s:Scope}(a:s.kind=.function:=by rfl)(b:s.isCoroutine=false:=by rfl)(c:s.isGenerator=false:=by rfl)(d:N.Nodup:=by decide +kernel)(e:N.take P.length=P:=by rfl)(f:∀x∈P,s.names.lookup x=some .local∨s.names.lookup x=some .cell:=by decide +kernel)(g:∀y∈s.names,y.2≠.free:=by decide +kernel):FnScope N P s:=⟨a,b,c,d,e,f,g⟩
def bB (i:Nat):Stmt:=PySem.Challenge.pw_kindleweb_k01_webs_made.main.body.getD i (.Pass ⟨0,0,0,0⟩)
structure FK (K:Frag)(n:Str)(i:Nat)(f:Addr)(d:FuncData):Prop where
 a:nsIn K mainGlobals n=some (some (.ref f))
 F:dD K n n (bB i) f d
structure FM (K:Frag)(mg:Str->Option Value)(n:Str)(i:Nat)(f:Addr)(d:FuncData):Prop where
 F:dD K n n (bB i) f d
 m:mg n=some (.ref f)
theorem FK.M {K:Frag}{mg:Str->Option Value}{n:Str}{i:Nat}{f:Addr}{d:FuncData}{h:Heap}(z:FK K n i f d)(X:K.In h)(G:h.Ns mainGlobals mg):FM K mg n i f d:=⟨z.F,mg_of X G z.a⟩
abbrev Hb (x:Str)(ps:List Str)(i:Nat):Prop:=∀(kV doc pm:Value) (an:Option Addr) (cdv ct:Value) (us:List Value),us.length=ps.length->bindArgs (fnOf x x (gF (bB i)) (cS (bB i)) (aU (bB i)) .none kV doc pm an cdv ct) ⟨us,[]⟩=pure (ps.zip us)
theorem aE2 {A:Around}{k:Nat}(hr:bJ k A):A.units+3<cLine:=by have:=hr.units;omega
section
variable {P:Program}{w:World}{K:Frag}{mg:Str→Option Value}{base:Heap}{f:Addr}{fd:FuncData}{k i:Nat}{x:Str}{ps N:List Str}
theorem Df.au {p:cO}(F:FM K mg x i f fd)(S:FnScope N ps (aU (bB i)))(body:∀(cdv:Value) (A:Around) (outer:List Env) (s:Shared) (H:Hp) (E:XK),bJ k (A.deeper (PyProof.Rows.envOfC x (aU (bB i)) s.heap.objs.size f cdv))->∃t,dQ (bX dM P w K mg base N x (aU (bB i)) f cdv A outer s H E).nox (cS (bB i)) t/\∀xs Q,p xs Q->t { nx:=λ_=>Q .non,rt:=Q } (cZ N xs))(hb:Hb x ps i:=by intro _ _ _ _ _ _ us hl;first|(obtain⟨_,rfl⟩:=us1 hl;rfl)|(obtain⟨_,_,rfl⟩:=us2 hl;rfl)|(obtain⟨_,_,_,rfl⟩:=pR hl;rfl)|(obtain⟨_,_,_,_,rfl⟩:=E6 hl;rfl)|(obtain⟨_,_,_,_,_,rfl⟩:=us5 hl;rfl))(len:∀xs Q,p xs Q->xs.length=ps.length:=by intro xs Q h;repeat (first|(obtain⟨rfl,_⟩:=h;rfl)|(obtain⟨_,h⟩:=h))):Df P w K mg base (k+1) x ps p:=
 Df.of F.F F.m S hb len body
theorem dI.au {p:eQ}(F:FM K mg x i f fd)(S:FnScope N ps (aU (bB i)))(t:(Str->Prop)->aK)(rd:∀Ep xs Q,p Ep xs Q->t Ep { nx:=λ_=>Q .non,rt:=Q } (cZ N xs))(body:∀(cdv:Value) (A:Around) (outer:List Env) (s:Shared) (H:Hp) (E:XK) (Ep:Str->Prop),bJ k (A.deeper (PyProof.Rows.envOfC x (aU (bB i)) s.heap.objs.size f cdv))->lC (bX (cD P w) P w K mg base N x (aU (bB i)) f cdv A outer s H E) (EX K H Ep)->dQ (bX (cD P w) P w K mg base N x (aU (bB i)) f cdv A outer s H E) (cS (bB i)) (t Ep))(hb:Hb x ps i:=by intro _ _ _ _ _ _ us hl;first|(obtain⟨_,rfl⟩:=us1 hl;rfl)|(obtain⟨_,_,rfl⟩:=us2 hl;rfl)|(obtain⟨_,_,_,rfl⟩:=pR hl;rfl)|(obtain⟨_,_,_,_,rfl⟩:=E6 hl;rfl)|(obtain⟨_,_,_,_,_,rfl⟩:=us5 hl;rfl))(len:∀Ep xs Q,p Ep xs Q->xs.length=ps.length:=by intro Ep xs Q h;repeat (first|(obtain⟨rfl,_⟩:=h;rfl)|(obtain⟨_,h⟩:=h))):dI P w K mg base (k+1) x ps p:=
 dI.of F.F F.m S hb t len rd body
end
section
variable {P:Program}{w:World}{K:Frag}{mg:Str→Option Value}{base:Heap}{f:Addr}{fd:FuncData}
theorem L5:FnScope ["many","link","one","other"] ["many","link"] (aU (bB 18)):=.au
theorem aE3 (B:Bt mg)(F:FM K mg "lesser_first" 18 f fd)(x_BadWeb:Xc K mg base "BadWeb"):dI P w K mg base 1 "lesser_first" ["many","link"] pZ:=
 dI.au F L5 G7 aA5 (λcdv A outer s H E Ep hr hX=>by
  have nd:=L5.nd
  exact (aY (cK (i:=2) nd (aw9 B rfl (a8 (qv 1) aG)))
   (aY (cK (i:=3) nd (aw8 B rfl (a8 (qv 1) aG)))
   (aY (cL (fG (iC (mO (qv 2) aA) (j4 (ah9 (qv 3) (qv 0))))) (aW (nF hX x_BadWeb (a8 mM aG))) cJ)
   (aY (cL (gM (qv 2) (qv 3)) (aW (nF hX x_BadWeb (a8 mM aG))) cJ)
   (aW (cF (e9 (a8 (qv 2) (a8 (qv 3) aG))))))))))
theorem aE4:FnScope ["things"] ["things"] (aU (bB 19)):=.au
theorem aE5 (B:Bt mg)(F:FM K mg "rises" 19 f fd) :Df P w K mg base 1 "rises" ["things"] pU:=
 Df.au F aE4 (λcdv A outer s H E hr=>by
  have hu:=wY hr
  exact⟨(uB),(aW (cF (ai5 B rfl (a8 (as5 (N:=["ahead","behind"]) (fr:=[none,none]) (ax6 B (qv 0) (oZ (qv 0) (oY aA) oX)) (λ_ _ _ _=>(ax2 hu (qv 0) (qv 1)))) aG)))),ax9⟩)
theorem aE6:FnScope ["web"] ["web"] (aU (bB 20)):=.au
theorem aE7 (B:Bt mg)(F:FM K mg "hearths_in" 20 f fd) :Df P w K mg base 1 "hearths_in" ["web"] nB:=
 Df.au F aE6 (λcdv A outer s H E hr=>by
  exact⟨(A7),(aW (cF (dR B (a8 (bV (qv 0) aA) aG)))),ao1⟩)
theorem aE8:FnScope ["script","k"] ["script","k"] (aU (bB 22)):=.au
theorem aE9 (B:Bt mg)(F:FM K mg "_law_cell_at" 22 f fd) :Df P w K mg base 1 "_law_cell_at" ["script","k"] gZ:=
 Df.au F aE8 (λcdv A outer s H E hr=>by
  exact⟨(B0),(aY (cL (mO (qv 1) (dR B (a8 (qv 0) aG))) (aW (cF (bV (qv 0) (qv 1)))) cJ)
   (aW (cF aA))),ao7⟩)
theorem L6:FnScope ["wants_cell","links_cell","many","most","wants","k","links","one","other"] ["wants_cell","links_cell","many","most"] (aU (bB 23)):=.au
theorem aF0 (B:Bt mg)(F:FM K mg "_law_web_of_digits" 23 f fd) :Df P w K mg base 1 "_law_web_of_digits" ["wants_cell","links_cell","many","most"] pV:=
 Df.au F L6 (λcdv A outer s H E hr=>by
  have nd:=L6.nd
  exact⟨(F9),(aY (iD (i:=4) nd (fH aG))
   (aY (gX 5 nd (kX rfl B.range (qv 2))
    (aY (kW 4 (bA (qv 0) (qv 3)))
    (aW (cK (i:=0) nd (bU (qv 0) (qv 3))))))
   (aY (iD (i:=6) nd (fH aG))
   (aY (gX 7 nd (kX rfl B.range (qv 2))
    (aW (gX 8 nd (yV rfl B.range (fF (qv 7) aA) (qv 2))
     (aY (cL (gM (bA (qv 1) aA) aA) (aW (kW 6 (e9 (a8 (qv 7) (a8 (qv 8) aG))))) cJ)
     (aW (cK (i:=1) nd (bU (qv 1) aA)))))))
   (aW (cF (e9 (a8 (fR B (a8 (qv 4) aG)) (a8 (fR B (a8 (qv 6) aG)) aG))))))))),ay2⟩)
theorem L7:FnScope ["cell","many","wants","links","mark","one","other","number"] ["cell","many"] (aU (bB 24)):=.au
theorem aF1 (B:Bt mg)(F:FM K mg "_law_dense" 24 f fd) :Df P w K mg base 1 "_law_dense" ["cell","many"] pW:=
 Df.au F L7 (λcdv A outer s H E hr=>by
  have nd:=L7.nd
  exact⟨(G0),(aY (iD (i:=2) nd (fH aG))
   (aY (iD (i:=3) nd (fH aG))
   (aY (cK (i:=4) nd (fF aA (bA (qv 0) aA)))
   (aY (gX 5 nd (kX rfl B.range (qv 1))
    (aY (kW 2 (bA (bU (qv 0) (fF aA (qv 5))) aA))
    (aW (gX 6 nd (yV rfl B.range (fF (qv 5) aA) (qv 1))
     (aY (cK (i:=7) nd (fF (fF (bA (qv 0) aA) (jR (jR aA (qv 5)) (qv 5))) (jR aA (qv 6))))
     (aY (cK (i:=7) nd (bA (jR (fF (qv 7) aA) aA) aA))
     (aW (cL (mO (bA (bU (bA (jR (qv 7) (qv 7)) aA) aA) aA) (qv 4)) (aW (kW 3 (e9 (a8 (qv 5) (a8 (qv 6) aG))))) cJ))))))))
   (aW (cF (e9 (a8 (fR B (a8 (qv 2) aG)) (a8 (fR B (a8 (qv 3) aG)) aG))))))))),ay3⟩)
theorem aF2:FnScope ["found"] ["found"] (aU (bB 26)):=.au
theorem aF3 (B:Bt mg)(F:FM K mg "_law_whole_number" 26 f fd) :Df P w K mg base 1 "_law_whole_number" ["found"] lD:=
 Df.au F aF2 (λcdv A outer s H E hr=>by
  exact⟨(B1 K),(aW (cF (oU (aj0 B (qv 0)) (oS (sS (aj1 B (qv 0))))))),ap2 (pP K).ii (pP K).ib⟩)
theorem L8:FnScope ["links","cell","cut","told","k","pair"] ["links","cell"] (aU (bB 29)):=.au
theorem aF4 (B:Bt mg)(F:FM K mg "_law_told_else" 29 f fd) :Df P w K mg base 1 "_law_told_else" ["links","cell"] qA:=
 Df.au F L8 (λcdv A outer s H E hr=>by
  have nd:=L8.nd
  exact⟨(J3),(aY (cK (i:=2) nd (bA (qv 1) (fF (dR B (a8 (qv 0) aG)) aA)))
   (aY (iD (i:=3) nd (fH aG))
   (aY (aj5 4 5 nd (as3 rfl B.enum (aq8 (oZ (qv 0) (oY (qv 2)) oX) (oZ (qv 0) oX (oY (qv 2)))))
    (aY (cL (gM (bA (fF (bU (qv 1) aA) (jR (qv 4) (qv 4))) aA) aA) (aW (cK (i:=5) nd (e9 (a8 (bV (qv 5) aA) (a8 (bV (qv 5) aA) aG))))) cJ)
    (aW (kW 3 (qv 5)))))
   (aW (ai1 3))))),aB1⟩)
theorem L9:FnScope ["wants","links","cell","many","way","spot","far","one","other","odd"] ["wants","links","cell"] (aU (bB 30)):=.au
theorem aF5 (B:Bt mg)(F:dD K "_law_spoiled" "_law_spoiled" (bB 30) f fd)(m:mg "_law_spoiled" = some (.ref f)) :lJ P w K mg base 1 "_law_spoiled" ["wants","links","cell"] qF:=
 lJ.of F m L9 rfl (λ_ _ _ _ _ _ us hl=>by obtain⟨_,_,_,rfl⟩:=pR hl;rfl) uN aC7 (λcdv A outer s H E a b hr=>by
  have nd:=L9.nd
  exact (lH (nM (i:=3) nd (dR B (a8 (qv 0) aG)))
   (lH (nM (i:=4) nd (bA (qv 2) aA))
   (lH (nM (i:=5) nd (bA (bU (qv 2) aA) (fF (dR B (a8 (qv 1) aG)) aA)))
   (lH (nM (i:=6) nd (bA (bU (qv 2) aA) (yT aA aA)))
   (iN (qD (fG (mR (gM (qv 4) aA) (mQ (jS (qv 3) aA)))) (iN (aC2 (i:=0) (bA (bU (qv 2) aA) (qv 3)) (bV (fH (a8 (oW aA) (a8 aA (a8 (sR (oW aA) (qv 6)) (a8 (fF aA (qv 6)) aG))))) (bA (bU (qv 2) aA) aA)))) (iN (qD (gM (qv 4) aA) (iN (aB7 0 (as7 (fH (a8 aA aG)) (sR (fF aA (bA (bU (qv 2) aA) aA)) (qv 3))))) (iN (qD (fG (mR (gM (qv 4) aA) (mQ (jS (dR B (a8 (qv 1) aG)) aA)))) (lH (aC3 7 8 nd (bV (qv 1) (bA (bU (qv 2) aA) (dR B (a8 (qv 1) aG)))))
      (iN (uL 1 (qv 5) (bV (fH (a8 (e9 (a8 (qv 7) (a8 (qv 8) aG))) (a8 (e9 (a8 (qv 8) (a8 (qv 7) aG))) aG))) (bA (bU (qv 2) aA) aA))))) (iN (qD (fG (mR (gM (qv 4) aA) (mQ (jS (qv 3) aA)))) (iN (uL 1 (qv 5) (e9 (a8 (bA (bU (qv 2) aA) (qv 3)) (a8 (bA (bU (qv 2) aA) (qv 3)) aG))))) (lH (nM (i:=9) nd (bV (fH (a8 (oW aA) (a8 (qv 3) (a8 (sR (oW aA) (qv 6)) (a8 (fF (qv 3) (qv 6)) aG))))) (bA (bU (qv 2) aA) aA)))
       (iN (uL 1 (qv 5) (bV (fH (a8 (e9 (a8 aA (a8 (qv 9) aG))) (a8 (e9 (a8 (qv 9) (a8 aA aG))) aG))) (bA (bU (qv 2) aA) aA))))))))))))))))))
theorem M0:FnScope ["wants","links","want","pairs"] ["wants","links"] (aU (bB 17)):=.au
theorem aF6 (B:Bt mg)(F:dD K "made_web" "made_web" (bB 17) f fd)(m:mg "made_web" = some (.ref f))(d_lesser_first:dI P w K mg base 1 "lesser_first" ["many","link"] pZ)(d_rises:Df P w K mg base 1 "rises" ["things"] pU)(x_BadWeb:Xc K mg base "BadWeb"){u_MOST_HEARTHS:Nat}(m_MOST_HEARTHS:mg "MOST_HEARTHS" = some (.int 40 u_MOST_HEARTHS)){u_MOST_WANTED:Nat}(m_MOST_WANTED:mg "MOST_WANTED" = some (.int 60 u_MOST_WANTED)):dI P w K mg base 2 "made_web" ["wants","links"] jA:=
 dI.ofA F m M0 (λ_ _ _ _ _ _ us hl=>by obtain⟨_,_,rfl⟩:=us2 hl;rfl) G8 (λEp xs Q h=>by unfold jA at h;repeat (first|(obtain⟨rfl,_⟩:=h;rfl)|(obtain⟨_,h⟩:=h))) aA6 (λcdv A outer s H E Ep hr hX pa=>by
  have nd:=M0.nd
  exact (aY (cL (jS (dR B (a8 (qv 0) aG)) (C6 rfl m_MOST_HEARTHS)) (aW (nF hX x_BadWeb (a8 mM aG))) cJ)
   (aY (gX 2 (hp:=hX.own) nd (sU (qv 0))
    (aW (cL (fG (iC (mO (qv 2) aA) (j4 (jS (qv 2) (C6 rfl m_MOST_WANTED))))) (aW (nF hX x_BadWeb (a8 mM aG))) cJ)))
   (aY (cK (i:=3) nd (av0 B (a8 (aA1 pa (N:=["link","wants"]) (fr:=[none,some 0]) (sU (qv 1)) (λ_ _ _ _=>(aA2 az6 d_lesser_first hr (a8 (dR B (a8 (qv 1) aG)) (a8 (qv 0) aG))))) aG)))
   (aY (cL (gO (gN (cQ d_rises hr (a8 (qv 3) aG)))) (aW (nF hX x_BadWeb (a8 mM aG))) cJ)
   (aW (cF (e9 (a8 (fR B (a8 (qv 0) aG)) (a8 (fR B (a8 (qv 3) aG)) aG))))))))))
theorem M3:FnScope ["flow","many","way","wants","k","cell","pairs","one","other"] ["flow","many","way"] (aU (bB 25)):=.au
theorem aF7 (B:Bt mg)(F:FM K mg "_law_web" 25 f fd)(d__law_dense:Df P w K mg base 1 "_law_dense" ["cell","many"] pW)(d__law_cell_at:Df P w K mg base 1 "_law_cell_at" ["script","k"] gZ)(d__law_web_of_digits:Df P w K mg base 1 "_law_web_of_digits" ["wants_cell","links_cell","many","most"] pV):Df P w K mg base 2 "_law_web" ["flow","many","way"] pX:=
 Df.au F M3 (λcdv A outer s H E hr=>by
  have nd:=M3.nd
  have hu:=wY hr
  exact⟨(G1),(aY (cL (fG (mR (gM (bA (bU (qv 2) aA) aA) aA) (mQ (jS (qv 1) aA)))) (aW (cF (cQ d__law_dense hr (a8 (cQ d__law_cell_at hr (a8 (qv 0) (a8 aA aG))) (a8 (qv 1) aG))))) cJ)
   (aY (cL (fG (mR (gM (bA (bU (qv 2) aA) aA) aA) (mQ (mO (qv 1) aA)))) (aW (cF (cQ d__law_web_of_digits hr (a8 (cQ d__law_cell_at hr (a8 (qv 0) (a8 aA aG))) (a8 (cQ d__law_cell_at hr (a8 (qv 0) (a8 aA aG))) (a8 (qv 1) (a8 (bV (fH (a8 aA (a8 aA (a8 aA (a8 aA aG))))) (bA (qv 2) aA)) aG))))))) cJ)
   (aY (iD (i:=3) nd (fH aG))
   (aY (gX 4 nd (kX rfl B.range (qv 1))
    (aY (cK (i:=5) nd (cQ d__law_cell_at hr (a8 (qv 0) (a8 (qv 4) aG))))
    (aW (kW 3 (bV (fH (a8 (bA (bU (qv 5) aA) aA) (a8 (bA (bU (qv 5) aA) aA) (a8 (bA (bU (qv 5) aA) aA) (a8 (bA (bU (qv 5) aA) aA) aG))))) (bA (qv 2) aA))))))
   (aY (iD (i:=6) nd ai0)
   (aY (gX 5 nd (sU (qv 0))
    (aW (cL (jS (qv 1) aA) (aY (cK (i:=7) nd (bA (qv 5) (qv 1)))
     (aY (cK (i:=8) nd (bA (bU (bA (jR (bA (qv 5) aA) aA) aA) aA) (qv 1)))
     (aW (cL (mP (qv 7) (qv 8)) (aW (ai2 hu (i:=6) (e9 (a8 (ai6 B rfl (a8 (qv 7) (a8 (qv 8) aG))) (a8 (ai7 B rfl (a8 (qv 7) (a8 (qv 8) aG))) aG))) gL)) cJ)))) cJ)))
   (aW (cF (e9 (a8 (fR B (a8 (qv 3) aG)) (a8 (fR B (a8 (ap7 B (a8 (ap4 B rfl (a8 (qv 6) aG)) aG)) aG)) aG))))))))))),ay5⟩)
theorem M4:FnScope ["found","due","k"] ["found","due"] (aU (bB 27)):=.au
theorem aF8 (B:Bt mg)(F:FM K mg "_law_row_is" 27 f fd)(d__law_whole_number:Df P w K mg base 1 "_law_whole_number" ["found"] lD):Df P w K mg base 2 "_law_row_is" ["found","due"] nC:=
 Df.au F M4 (λcdv A outer s H E hr=>by
  have nd:=M4.nd
  exact⟨(B2 K),(aY (cL (fG (iC (gO (gN (sW B (qv 0)))) (j4 (mP (dR B (a8 (qv 0) aG)) (dR B (a8 (qv 1) aG)))))) (aW (cF gL)) cJ)
   (aY (gX 2 nd (kX rfl B.range (dR B (a8 (qv 1) aG)))
    (aW (cL (fG (iC (gO (gN (cQ d__law_whole_number hr (a8 (bV (qv 0) (qv 2)) aG)))) (j4 (mP (bV (qv 0) (qv 2)) (bV (qv 1) (qv 2)))))) (aW (cF gL)) cJ)))
   (aW (cF gL)))),ao9 (pP K).tt⟩)
theorem M5:FnScope ["found","due","k"] ["found","due"] (aU (bB 28)):=.au
theorem aF9 (B:Bt mg)(F:FM K mg "_law_web_is" 28 f fd)(d__law_row_is:Df P w K mg base 2 "_law_row_is" ["found","due"] nC):Df P w K mg base 3 "_law_web_is" ["found","due"] nH:=
 Df.au F M5 (λcdv A outer s H E hr=>by
  have nd:=M5.nd
  exact⟨(G2 K),(aY (cL (fG (iC (gO (gN (sW B (qv 0)))) (iC (mP (dR B (a8 (qv 0) aG)) aA) (j4 (gO (gN (cQ d__law_row_is hr (a8 (bV (qv 0) aA) (a8 (bV (qv 1) aA) aG))))))))) (aW (cF gL)) cJ)
   (aY (cL (fG (iC (gO (gN (sW B (bV (qv 0) aA)))) (j4 (mP (dR B (a8 (bV (qv 0) aA) aG)) (dR B (a8 (bV (qv 1) aA) aG)))))) (aW (cF gL)) cJ)
   (aY (gX 2 nd (kX rfl B.range (dR B (a8 (bV (qv 1) aA) aG)))
    (aW (cL (gO (gN (cQ d__law_row_is hr (a8 (bV (bV (qv 0) aA) (qv 2)) (a8 (bV (bV (qv 1) aA) (qv 2)) aG))))) (aW (cF gL)) cJ)))
   (aW (cF gL))))),ay6 (pP K).tt⟩)
theorem M6:FnScope ["wants","links","caught","e","others"] ["wants","links"] (aU (bB 31)):=.au
theorem aG0 (B:Bt mg)(F:FM K mg "_law_refused" 31 f fd)(d_made_web:dI P w K mg base 2 "made_web" ["wants","links"] jA)(cat_HearthError:tY K mg "HearthError")(is_BadWeb:cE K mg "BadWeb")(is_BadSet:cE K mg "BadSet")(is_BadOrder:cE K mg "BadOrder")(is_BadPrices:cE K mg "BadPrices")(is_BadBoard:cE K mg "BadBoard")(is_BadDeed:cE K mg "BadDeed")(is_NotWood:cE K mg "NotWood")(is_NoPaper:cE K mg "NoPaper")(is_NoSuch:cE K mg "NoSuch")(is_TooMany:cE K mg "TooMany")(is_NoText:cE K mg "NoText")(is_OddRound:cE K mg "OddRound")(is_ValueError:u5 K mg):Df P w K mg base 3 "_law_refused" ["wants","links"] nK:=
 Df.au F M6 (λcdv A outer s H E hr=>by
  have nd:=M6.nd
  exact⟨(J4),(aY (cK (i:=2) nd ah7)
   (aY (au0 3 cat_HearthError nd (at8 d_made_web hr (λ_=>(a8 (qv 0) (a8 (qv 1) aG)))) (λ_=>(aW (cK (i:=2) nd (qv 3)))))
   (aY (cL (fG (iC (gO (gN (au4 B is_BadWeb (qv 2)))) (j4 (gO (gN (au5 B is_ValueError (qv 2))))))) (aW (cF gL)) cJ)
   (aY (cK (i:=4) nd (J2 B (gQ is_BadBoard (gQ is_BadDeed (gQ is_BadOrder (gQ is_BadPrices (gQ is_BadSet (gQ is_NoPaper J1)))))) (qv 2)))
   (aW (cF (oU (sS (qv 4)) (oS (sS (J2 B (gQ is_NoSuch (gQ is_NoText (gQ is_NotWood (gQ is_OddRound (gQ is_TooMany J1))))) (qv 2))))))))))),aB2⟩)
theorem M7:FnScope ["script","head","many","web","cell","wants","links","handed","found"] ["script"] (aU (bB 32)):=.au
theorem aG1 (B:Bt mg)(F:dD K "law" "law" (bB 32) f fd)(d__law_cell_at:Df P w K mg base 1 "_law_cell_at" ["script","k"] gZ)(d__law_web:Df P w K mg base 2 "_law_web" ["flow","many","way"] pX)(d__law_told_else:Df P w K mg base 1 "_law_told_else" ["links","cell"] qA)(d__law_spoiled:lJ P w K mg base 1 "_law_spoiled" ["wants","links","cell"] qF)(d__law_refused:Df P w K mg base 3 "_law_refused" ["wants","links"] nK)(d_made_web:dI P w K mg base 2 "made_web" ["wants","links"] jA)(d__law_web_is:Df P w K mg base 3 "_law_web_is" ["found","due"] nH)(d__law_whole_number:Df P w K mg base 1 "_law_whole_number" ["found"] lD)(d_hearths_in:Df P w K mg base 1 "hearths_in" ["web"] nB):cR P w K mg base dM 4 f fd ["script"] (mE K uR):=
 aD3 F M7 (λxs Q h=>by unfold uR at h;repeat (first|(obtain⟨rfl,_⟩:=h;rfl)|(obtain⟨_,h⟩:=h))) (λcdv A outer s H E hr=>by
  have nd:=M7.nd
  have hu3:=aE2 hr
  exact⟨(K9),(gR (cK (i:=1) nd (cQ d__law_cell_at hr (a8 (qv 0) (a8 aA aG))))
   (gR (cK (i:=2) nd (bA (qv 1) aA))
   (gR (cL (gM (bA (bU (qv 1) aA) aA) aA) (aW (cK (i:=2) nd (bA (bU (qv 1) aA) aA))) cJ)
   (gR (cK (i:=3) nd (cQ d__law_web hr (a8 (oZ (qv 0) (oY aA) oX) (a8 (qv 2) (a8 (bU (qv 1) aA) aG)))))
   (gR (cK (i:=4) nd (bA (cQ d__law_cell_at hr (a8 (qv 0) (a8 aA aG))) (yT aA aA)))
   (gR (iD (i:=5) nd (oV B (a8 (bV (qv 3) aA) aG)))
   (gR (iD (i:=6) nd (cQ d__law_told_else hr (a8 (oV B (a8 (bV (qv 3) aA) aG)) (a8 (bU (qv 4) aA) aG))))
   (gR (cL (gM (bA (qv 4) aA) aA) (aY (aC0 5 6 d__law_spoiled hr (bU (qv 4) aA))
    (aW (cF (oU (cQ d__law_refused hr (a8 (qv 5) (a8 (qv 6) aG))) (oS (cQ d__law_refused hr (a8 (fR B (a8 (qv 5) aG)) (a8 (fR B (a8 (qv 6) aG)) aG)))))))) cJ)
   (gR (cK (i:=7) nd (av8 (a8 (oV B (a8 (qv 5) aG)) (a8 (oV B (a8 (qv 6) aG)) aG))))
   (gR (cK (i:=8) nd (E1 d_made_web hr (a8 (bV (qv 7) aA) (a8 (bV (qv 7) aA) aG))))
   (gR (cL (aj4 hu3 (qv 7) (aD7 (a8 (qv 5) (a8 (qv 6) aG)))) (aW (cF gL)) cJ)
   (aD5 7 aA (e9 (a8 aA (a8 aA aG))) (aD2 (aY (cL (fG (iC (gO (gN (cQ d__law_web_is hr (a8 (qv 8) (a8 (qv 3) aG))))) (j4 (gO (gN (cQ d__law_web_is hr (a8 (E1 d_made_web hr (a8 (fR B (a8 (qv 5) aG)) (a8 (fR B (a8 (qv 6) aG)) aG))) (a8 (qv 3) aG)))))))) (aW (cF gL)) cJ)
   (aW (cF (oU (cQ d__law_whole_number hr (a8 (cQ d_hearths_in hr (a8 (qv 8) aG)) aG)) (oS (ah8 (cQ d_hearths_in hr (a8 (qv 8) aG)) (qv 2)))))))))))))))))))),aE1⟩)
end
set_option autoImplicit true in
theorem aG2 {l:OpenLaw}{w:World}{K:Frag}{h:Heap}{mg:Str->Option Value}(X:K.In h)(G:h.Ns mainGlobals mg)(hfa:mg "law" = some (.ref fa))(h0:FK K "lesser_first" 18 f0 d0)(h1:FK K "rises" 19 f1 d1)(h2:FK K "hearths_in" 20 f2 d2)(h3:FK K "_law_cell_at" 22 f3 d3)(h4:FK K "_law_web_of_digits" 23 f4 d4)(h5:FK K "_law_dense" 24 f5 d5)(h6:FK K "_law_whole_number" 26 f6 d6)(h7:FK K "_law_told_else" 29 f7 d7)(h8:FK K "_law_spoiled" 30 f8 d8)(h9:FK K "made_web" 17 f9 d9)(h10:FK K "_law_web" 25 f10 d10)(h11:FK K "_law_row_is" 27 f11 d11)(h12:FK K "_law_web_is" 28 f12 d12)(h13:FK K "_law_refused" 31 f13 d13)(a14:nsIn K mainGlobals "law" = some (some (.ref f14)))(l14:K.lookup f14=some ⟨oc14,od14,.func (fnOf "law" "law" (gF (bB 32)) (cS (bB 32)) (aU (bB 32)) .none kV14 dc14 pm14 an14 cd14 ct14),sl14⟩)(c14:codeIn K cd14 "law" = true)(k14:keepIn K (.ref f14)=true)(z_len:nsIn K mainGlobals "len" = some none)(z_range:nsIn K mainGlobals "range" = some none)(z_tuple:nsIn K mainGlobals "tuple" = some none)(z_list:nsIn K mainGlobals "list" = some none)(z_sorted:nsIn K mainGlobals "sorted" = some none)(z_all:nsIn K mainGlobals "all" = some none)(z_any:nsIn K mainGlobals "any" = some none)(z_zip:nsIn K mainGlobals "zip" = some none)(z_min:nsIn K mainGlobals "min" = some none)(z_max:nsIn K mainGlobals "max" = some none)(z_sum:nsIn K mainGlobals "sum" = some none)(z_isinstance:nsIn K mainGlobals "isinstance" = some none)(z_int:nsIn K mainGlobals "int" = some none)(z_bool:nsIn K mainGlobals "bool" = some none)(z_enumerate:nsIn K mainGlobals "enumerate" = some none){u_MOST_HEARTHS:Nat}(z_MOST_HEARTHSx:nsIn K mainGlobals "MOST_HEARTHS" = some (some (.int 40 u_MOST_HEARTHS))){u_MOST_WANTED:Nat}(z_MOST_WANTEDx:nsIn K mainGlobals "MOST_WANTED" = some (some (.int 60 u_MOST_WANTED))){C_HearthError C_BadWeb C_BadSet C_BadOrder C_BadPrices C_BadBoard C_BadDeed C_NotWood C_NoPaper C_NoSuch C_TooMany C_NoText C_OddRound:Addr}(aX_HE:nsIn K mainGlobals "HearthError" = some (some (.ref C_HearthError)))(aX_BW:nsIn K mainGlobals "BadWeb" = some (some (.ref C_BadWeb)))(aX_BS:nsIn K mainGlobals "BadSet" = some (some (.ref C_BadSet)))(aX_BO:nsIn K mainGlobals "BadOrder" = some (some (.ref C_BadOrder)))(aX_BP:nsIn K mainGlobals "BadPrices" = some (some (.ref C_BadPrices)))(aX_BB:nsIn K mainGlobals "BadBoard" = some (some (.ref C_BadBoard)))(aX_BD:nsIn K mainGlobals "BadDeed" = some (some (.ref C_BadDeed)))(aX_NW:nsIn K mainGlobals "NotWood" = some (some (.ref C_NotWood)))(aX_NP:nsIn K mainGlobals "NoPaper" = some (some (.ref C_NoPaper)))(aX_NS:nsIn K mainGlobals "NoSuch" = some (some (.ref C_NoSuch)))(aX_TM:nsIn K mainGlobals "TooMany" = some (some (.ref C_TooMany)))(aX_NT:nsIn K mainGlobals "NoText" = some (some (.ref C_NoText)))(aX_OR:nsIn K mainGlobals "OddRound" = some (some (.ref C_OddRound)))(y_fg:specialIn K (.builtin "object.__class__") "__get__" = some (some (.builtin "getset_descriptor.__get__")))(y_ft:takesIn K (.builtin "object.__class__")=some true)(z_VE:nsIn K mainGlobals "ValueError" = some none)(y1_HE:isClsIn K C_HearthError=true)(y2_HE:typeIn K (.ref C_HearthError)=some (.type "type"))(y3_HE:findIn K (.ref C_HearthError) "__getattribute__" = some (some (.builtin "BaseException.__getattribute__")))(y4_HE:findIn K (.ref C_HearthError) "__getattr__" = some none)(y5_HE:findIn K (.ref C_HearthError) "__class__" = some (some (.builtin "object.__class__")))(y6_HE:mroIn K C_HearthError (.type "object")=some true)(y7_HE:mroIn K C_HearthError (.type "BaseException")=some true)(y1_BW:isClsIn K C_BadWeb=true)(y2_BW:typeIn K (.ref C_BadWeb)=some (.type "type"))(y3_BW:findIn K (.ref C_BadWeb) "__getattribute__" = some (some (.builtin "BaseException.__getattribute__")))(y4_BW:findIn K (.ref C_BadWeb) "__getattr__" = some none)(y5_BW:findIn K (.ref C_BadWeb) "__class__" = some (some (.builtin "object.__class__")))(y6_BW:mroIn K C_BadWeb (.type "object")=some true)(y7_BW:mroIn K C_BadWeb (.type "BaseException")=some true)(y1_BS:isClsIn K C_BadSet=true)(y2_BS:typeIn K (.ref C_BadSet)=some (.type "type"))(y3_BS:findIn K (.ref C_BadSet) "__getattribute__" = some (some (.builtin "BaseException.__getattribute__")))(y4_BS:findIn K (.ref C_BadSet) "__getattr__" = some none)(y5_BS:findIn K (.ref C_BadSet) "__class__" = some (some (.builtin "object.__class__")))(y6_BS:mroIn K C_BadSet (.type "object")=some true)(y7_BS:mroIn K C_BadSet (.type "BaseException")=some true)(y1_BO:isClsIn K C_BadOrder=true)(y2_BO:typeIn K (.ref C_BadOrder)=some (.type "type"))(y3_BO:findIn K (.ref C_BadOrder) "__getattribute__" = some (some (.builtin "BaseException.__getattribute__")))(y4_BO:findIn K (.ref C_BadOrder) "__getattr__" = some none)(y5_BO:findIn K (.ref C_BadOrder) "__class__" = some (some (.builtin "object.__class__")))(y6_BO:mroIn K C_BadOrder (.type "object")=some true)(y7_BO:mroIn K C_BadOrder (.type "BaseException")=some true)(y1_BP:isClsIn K C_BadPrices=true)(y2_BP:typeIn K (.ref C_BadPrices)=some (.type "type"))(y3_BP:findIn K (.ref C_BadPrices) "__getattribute__" = some (some (.builtin "BaseException.__getattribute__")))(y4_BP:findIn K (.ref C_BadPrices) "__getattr__" = some none)(y5_BP:findIn K (.ref C_BadPrices) "__class__" = some (some (.builtin "object.__class__")))(y6_BP:mroIn K C_BadPrices (.type "object")=some true)(y7_BP:mroIn K C_BadPrices (.type "BaseException")=some true)(y1_BB:isClsIn K C_BadBoard=true)(y2_BB:typeIn K (.ref C_BadBoard)=some (.type "type"))(y3_BB:findIn K (.ref C_BadBoard) "__getattribute__" = some (some (.builtin "BaseException.__getattribute__")))(y4_BB:findIn K (.ref C_BadBoard) "__getattr__" = some none)(y5_BB:findIn K (.ref C_BadBoard) "__class__" = some (some (.builtin "object.__class__")))(y6_BB:mroIn K C_BadBoard (.type "object")=some true)(y7_BB:mroIn K C_BadBoard (.type "BaseException")=some true)(y1_BD:isClsIn K C_BadDeed=true)(y2_BD:typeIn K (.ref C_BadDeed)=some (.type "type"))(y3_BD:findIn K (.ref C_BadDeed) "__getattribute__" = some (some (.builtin "BaseException.__getattribute__")))(y4_BD:findIn K (.ref C_BadDeed) "__getattr__" = some none)(y5_BD:findIn K (.ref C_BadDeed) "__class__" = some (some (.builtin "object.__class__")))(y6_BD:mroIn K C_BadDeed (.type "object")=some true)(y7_BD:mroIn K C_BadDeed (.type "BaseException")=some true)(y1_NW:isClsIn K C_NotWood=true)(y2_NW:typeIn K (.ref C_NotWood)=some (.type "type"))(y3_NW:findIn K (.ref C_NotWood) "__getattribute__" = some (some (.builtin "BaseException.__getattribute__")))(y4_NW:findIn K (.ref C_NotWood) "__getattr__" = some none)(y5_NW:findIn K (.ref C_NotWood) "__class__" = some (some (.builtin "object.__class__")))(y6_NW:mroIn K C_NotWood (.type "object")=some true)(y7_NW:mroIn K C_NotWood (.type "BaseException")=some true)(y1_NP:isClsIn K C_NoPaper=true)(y2_NP:typeIn K (.ref C_NoPaper)=some (.type "type"))(y3_NP:findIn K (.ref C_NoPaper) "__getattribute__" = some (some (.builtin "BaseException.__getattribute__")))(y4_NP:findIn K (.ref C_NoPaper) "__getattr__" = some none)(y5_NP:findIn K (.ref C_NoPaper) "__class__" = some (some (.builtin "object.__class__")))(y6_NP:mroIn K C_NoPaper (.type "object")=some true)(y7_NP:mroIn K C_NoPaper (.type "BaseException")=some true)(y1_NS:isClsIn K C_NoSuch=true)(y2_NS:typeIn K (.ref C_NoSuch)=some (.type "type"))(y3_NS:findIn K (.ref C_NoSuch) "__getattribute__" = some (some (.builtin "BaseException.__getattribute__")))(y4_NS:findIn K (.ref C_NoSuch) "__getattr__" = some none)(y5_NS:findIn K (.ref C_NoSuch) "__class__" = some (some (.builtin "object.__class__")))(y6_NS:mroIn K C_NoSuch (.type "object")=some true)(y7_NS:mroIn K C_NoSuch (.type "BaseException")=some true)(y1_TM:isClsIn K C_TooMany=true)(y2_TM:typeIn K (.ref C_TooMany)=some (.type "type"))(y3_TM:findIn K (.ref C_TooMany) "__getattribute__" = some (some (.builtin "BaseException.__getattribute__")))(y4_TM:findIn K (.ref C_TooMany) "__getattr__" = some none)(y5_TM:findIn K (.ref C_TooMany) "__class__" = some (some (.builtin "object.__class__")))(y6_TM:mroIn K C_TooMany (.type "object")=some true)(y7_TM:mroIn K C_TooMany (.type "BaseException")=some true)(y1_NT:isClsIn K C_NoText=true)(y2_NT:typeIn K (.ref C_NoText)=some (.type "type"))(y3_NT:findIn K (.ref C_NoText) "__getattribute__" = some (some (.builtin "BaseException.__getattribute__")))(y4_NT:findIn K (.ref C_NoText) "__getattr__" = some none)(y5_NT:findIn K (.ref C_NoText) "__class__" = some (some (.builtin "object.__class__")))(y6_NT:mroIn K C_NoText (.type "object")=some true)(y7_NT:mroIn K C_NoText (.type "BaseException")=some true)(y1_OR:isClsIn K C_OddRound=true)(y2_OR:typeIn K (.ref C_OddRound)=some (.type "type"))(y3_OR:findIn K (.ref C_OddRound) "__getattribute__" = some (some (.builtin "BaseException.__getattribute__")))(y4_OR:findIn K (.ref C_OddRound) "__getattr__" = some none)(y5_OR:findIn K (.ref C_OddRound) "__class__" = some (some (.builtin "object.__class__")))(y6_OR:mroIn K C_OddRound (.type "object")=some true)(y7_OR:mroIn K C_OddRound (.type "BaseException")=some true)(sB_HE:subIn K (.ref C_HearthError) (.type "BaseException")=some true)(s_BW_HE:subIn K (.ref C_BadWeb) (.ref C_HearthError)=some true)(s_BS_HE:subIn K (.ref C_BadSet) (.ref C_HearthError)=some true)(s_BO_HE:subIn K (.ref C_BadOrder) (.ref C_HearthError)=some true)(s_BP_HE:subIn K (.ref C_BadPrices) (.ref C_HearthError)=some true)(s_BB_HE:subIn K (.ref C_BadBoard) (.ref C_HearthError)=some true)(s_BD_HE:subIn K (.ref C_BadDeed) (.ref C_HearthError)=some true)(s_NW_HE:subIn K (.ref C_NotWood) (.ref C_HearthError)=some true)(s_NP_HE:subIn K (.ref C_NoPaper) (.ref C_HearthError)=some true)(s_NS_HE:subIn K (.ref C_NoSuch) (.ref C_HearthError)=some true)(s_TM_HE:subIn K (.ref C_TooMany) (.ref C_HearthError)=some true)(s_NT_HE:subIn K (.ref C_NoText) (.ref C_HearthError)=some true)(s_OR_HE:subIn K (.ref C_OddRound) (.ref C_HearthError)=some true)(sN_BB:subIn K (.type "NoneType") (.ref C_BadBoard)=some false)(s_BW_BB:subIn K (.ref C_BadWeb) (.ref C_BadBoard)=some false)(n_BW_BB:(C_BadWeb==C_BadBoard)=false)(s_BS_BB:subIn K (.ref C_BadSet) (.ref C_BadBoard)=some false)(n_BS_BB:(C_BadSet==C_BadBoard)=false)(s_BO_BB:subIn K (.ref C_BadOrder) (.ref C_BadBoard)=some false)(n_BO_BB:(C_BadOrder==C_BadBoard)=false)(s_BP_BB:subIn K (.ref C_BadPrices) (.ref C_BadBoard)=some false)(n_BP_BB:(C_BadPrices==C_BadBoard)=false)(s_BD_BB:subIn K (.ref C_BadDeed) (.ref C_BadBoard)=some false)(n_BD_BB:(C_BadDeed==C_BadBoard)=false)(s_NW_BB:subIn K (.ref C_NotWood) (.ref C_BadBoard)=some false)(n_NW_BB:(C_NotWood==C_BadBoard)=false)(s_NP_BB:subIn K (.ref C_NoPaper) (.ref C_BadBoard)=some false)(n_NP_BB:(C_NoPaper==C_BadBoard)=false)(s_NS_BB:subIn K (.ref C_NoSuch) (.ref C_BadBoard)=some false)(n_NS_BB:(C_NoSuch==C_BadBoard)=false)(s_TM_BB:subIn K (.ref C_TooMany) (.ref C_BadBoard)=some false)(n_TM_BB:(C_TooMany==C_BadBoard)=false)(s_NT_BB:subIn K (.ref C_NoText) (.ref C_BadBoard)=some false)(n_NT_BB:(C_NoText==C_BadBoard)=false)(s_OR_BB:subIn K (.ref C_OddRound) (.ref C_BadBoard)=some false)(n_OR_BB:(C_OddRound==C_BadBoard)=false)(sN_BD:subIn K (.type "NoneType") (.ref C_BadDeed)=some false)(s_BW_BD:subIn K (.ref C_BadWeb) (.ref C_BadDeed)=some false)(n_BW_BD:(C_BadWeb==C_BadDeed)=false)(s_BS_BD:subIn K (.ref C_BadSet) (.ref C_BadDeed)=some false)(n_BS_BD:(C_BadSet==C_BadDeed)=false)(s_BO_BD:subIn K (.ref C_BadOrder) (.ref C_BadDeed)=some false)(n_BO_BD:(C_BadOrder==C_BadDeed)=false)(s_BP_BD:subIn K (.ref C_BadPrices) (.ref C_BadDeed)=some false)(n_BP_BD:(C_BadPrices==C_BadDeed)=false)(s_BB_BD:subIn K (.ref C_BadBoard) (.ref C_BadDeed)=some false)(n_BB_BD:(C_BadBoard==C_BadDeed)=false)(s_NW_BD:subIn K (.ref C_NotWood) (.ref C_BadDeed)=some false)(n_NW_BD:(C_NotWood==C_BadDeed)=false)(s_NP_BD:subIn K (.ref C_NoPaper) (.ref C_BadDeed)=some false)(n_NP_BD:(C_NoPaper==C_BadDeed)=false)(s_NS_BD:subIn K (.ref C_NoSuch) (.ref C_BadDeed)=some false)(n_NS_BD:(C_NoSuch==C_BadDeed)=false)(s_TM_BD:subIn K (.ref C_TooMany) (.ref C_BadDeed)=some false)(n_TM_BD:(C_TooMany==C_BadDeed)=false)(s_NT_BD:subIn K (.ref C_NoText) (.ref C_BadDeed)=some false)(n_NT_BD:(C_NoText==C_BadDeed)=false)(s_OR_BD:subIn K (.ref C_OddRound) (.ref C_BadDeed)=some false)(n_OR_BD:(C_OddRound==C_BadDeed)=false)(sN_BO:subIn K (.type "NoneType") (.ref C_BadOrder)=some false)(s_BW_BO:subIn K (.ref C_BadWeb) (.ref C_BadOrder)=some false)(n_BW_BO:(C_BadWeb==C_BadOrder)=false)(s_BS_BO:subIn K (.ref C_BadSet) (.ref C_BadOrder)=some false)(n_BS_BO:(C_BadSet==C_BadOrder)=false)(s_BP_BO:subIn K (.ref C_BadPrices) (.ref C_BadOrder)=some false)(n_BP_BO:(C_BadPrices==C_BadOrder)=false)(s_BB_BO:subIn K (.ref C_BadBoard) (.ref C_BadOrder)=some false)(n_BB_BO:(C_BadBoard==C_BadOrder)=false)(s_BD_BO:subIn K (.ref C_BadDeed) (.ref C_BadOrder)=some false)(n_BD_BO:(C_BadDeed==C_BadOrder)=false)(s_NW_BO:subIn K (.ref C_NotWood) (.ref C_BadOrder)=some false)(n_NW_BO:(C_NotWood==C_BadOrder)=false)(s_NP_BO:subIn K (.ref C_NoPaper) (.ref C_BadOrder)=some false)(n_NP_BO:(C_NoPaper==C_BadOrder)=false)(s_NS_BO:subIn K (.ref C_NoSuch) (.ref C_BadOrder)=some false)(n_NS_BO:(C_NoSuch==C_BadOrder)=false)(s_TM_BO:subIn K (.ref C_TooMany) (.ref C_BadOrder)=some false)(n_TM_BO:(C_TooMany==C_BadOrder)=false)(s_NT_BO:subIn K (.ref C_NoText) (.ref C_BadOrder)=some false)(n_NT_BO:(C_NoText==C_BadOrder)=false)(s_OR_BO:subIn K (.ref C_OddRound) (.ref C_BadOrder)=some false)(n_OR_BO:(C_OddRound==C_BadOrder)=false)(sN_BP:subIn K (.type "NoneType") (.ref C_BadPrices)=some false)(s_BW_BP:subIn K (.ref C_BadWeb) (.ref C_BadPrices)=some false)(n_BW_BP:(C_BadWeb==C_BadPrices)=false)(s_BS_BP:subIn K (.ref C_BadSet) (.ref C_BadPrices)=some false)(n_BS_BP:(C_BadSet==C_BadPrices)=false)(s_BO_BP:subIn K (.ref C_BadOrder) (.ref C_BadPrices)=some false)(n_BO_BP:(C_BadOrder==C_BadPrices)=false)(s_BB_BP:subIn K (.ref C_BadBoard) (.ref C_BadPrices)=some false)(n_BB_BP:(C_BadBoard==C_BadPrices)=false)(s_BD_BP:subIn K (.ref C_BadDeed) (.ref C_BadPrices)=some false)(n_BD_BP:(C_BadDeed==C_BadPrices)=false)(s_NW_BP:subIn K (.ref C_NotWood) (.ref C_BadPrices)=some false)(n_NW_BP:(C_NotWood==C_BadPrices)=false)(s_NP_BP:subIn K (.ref C_NoPaper) (.ref C_BadPrices)=some false)(n_NP_BP:(C_NoPaper==C_BadPrices)=false)(s_NS_BP:subIn K (.ref C_NoSuch) (.ref C_BadPrices)=some false)(n_NS_BP:(C_NoSuch==C_BadPrices)=false)(s_TM_BP:subIn K (.ref C_TooMany) (.ref C_BadPrices)=some false)(n_TM_BP:(C_TooMany==C_BadPrices)=false)(s_NT_BP:subIn K (.ref C_NoText) (.ref C_BadPrices)=some false)(n_NT_BP:(C_NoText==C_BadPrices)=false)(s_OR_BP:subIn K (.ref C_OddRound) (.ref C_BadPrices)=some false)(n_OR_BP:(C_OddRound==C_BadPrices)=false)(sN_BS:subIn K (.type "NoneType") (.ref C_BadSet)=some false)(s_BW_BS:subIn K (.ref C_BadWeb) (.ref C_BadSet)=some false)(n_BW_BS:(C_BadWeb==C_BadSet)=false)(s_BO_BS:subIn K (.ref C_BadOrder) (.ref C_BadSet)=some false)(n_BO_BS:(C_BadOrder==C_BadSet)=false)(s_BP_BS:subIn K (.ref C_BadPrices) (.ref C_BadSet)=some false)(n_BP_BS:(C_BadPrices==C_BadSet)=false)(s_BB_BS:subIn K (.ref C_BadBoard) (.ref C_BadSet)=some false)(n_BB_BS:(C_BadBoard==C_BadSet)=false)(s_BD_BS:subIn K (.ref C_BadDeed) (.ref C_BadSet)=some false)(n_BD_BS:(C_BadDeed==C_BadSet)=false)(s_NW_BS:subIn K (.ref C_NotWood) (.ref C_BadSet)=some false)(n_NW_BS:(C_NotWood==C_BadSet)=false)(s_NP_BS:subIn K (.ref C_NoPaper) (.ref C_BadSet)=some false)(n_NP_BS:(C_NoPaper==C_BadSet)=false)(s_NS_BS:subIn K (.ref C_NoSuch) (.ref C_BadSet)=some false)(n_NS_BS:(C_NoSuch==C_BadSet)=false)(s_TM_BS:subIn K (.ref C_TooMany) (.ref C_BadSet)=some false)(n_TM_BS:(C_TooMany==C_BadSet)=false)(s_NT_BS:subIn K (.ref C_NoText) (.ref C_BadSet)=some false)(n_NT_BS:(C_NoText==C_BadSet)=false)(s_OR_BS:subIn K (.ref C_OddRound) (.ref C_BadSet)=some false)(n_OR_BS:(C_OddRound==C_BadSet)=false)(sN_BW:subIn K (.type "NoneType") (.ref C_BadWeb)=some false)(s_BS_BW:subIn K (.ref C_BadSet) (.ref C_BadWeb)=some false)(n_BS_BW:(C_BadSet==C_BadWeb)=false)(s_BO_BW:subIn K (.ref C_BadOrder) (.ref C_BadWeb)=some false)(n_BO_BW:(C_BadOrder==C_BadWeb)=false)(s_BP_BW:subIn K (.ref C_BadPrices) (.ref C_BadWeb)=some false)(n_BP_BW:(C_BadPrices==C_BadWeb)=false)(s_BB_BW:subIn K (.ref C_BadBoard) (.ref C_BadWeb)=some false)(n_BB_BW:(C_BadBoard==C_BadWeb)=false)(s_BD_BW:subIn K (.ref C_BadDeed) (.ref C_BadWeb)=some false)(n_BD_BW:(C_BadDeed==C_BadWeb)=false)(s_NW_BW:subIn K (.ref C_NotWood) (.ref C_BadWeb)=some false)(n_NW_BW:(C_NotWood==C_BadWeb)=false)(s_NP_BW:subIn K (.ref C_NoPaper) (.ref C_BadWeb)=some false)(n_NP_BW:(C_NoPaper==C_BadWeb)=false)(s_NS_BW:subIn K (.ref C_NoSuch) (.ref C_BadWeb)=some false)(n_NS_BW:(C_NoSuch==C_BadWeb)=false)(s_TM_BW:subIn K (.ref C_TooMany) (.ref C_BadWeb)=some false)(n_TM_BW:(C_TooMany==C_BadWeb)=false)(s_NT_BW:subIn K (.ref C_NoText) (.ref C_BadWeb)=some false)(n_NT_BW:(C_NoText==C_BadWeb)=false)(s_OR_BW:subIn K (.ref C_OddRound) (.ref C_BadWeb)=some false)(n_OR_BW:(C_OddRound==C_BadWeb)=false)(sN_NP:subIn K (.type "NoneType") (.ref C_NoPaper)=some false)(s_BW_NP:subIn K (.ref C_BadWeb) (.ref C_NoPaper)=some false)(n_BW_NP:(C_BadWeb==C_NoPaper)=false)(s_BS_NP:subIn K (.ref C_BadSet) (.ref C_NoPaper)=some false)(n_BS_NP:(C_BadSet==C_NoPaper)=false)(s_BO_NP:subIn K (.ref C_BadOrder) (.ref C_NoPaper)=some false)(n_BO_NP:(C_BadOrder==C_NoPaper)=false)(s_BP_NP:subIn K (.ref C_BadPrices) (.ref C_NoPaper)=some false)(n_BP_NP:(C_BadPrices==C_NoPaper)=false)(s_BB_NP:subIn K (.ref C_BadBoard) (.ref C_NoPaper)=some false)(n_BB_NP:(C_BadBoard==C_NoPaper)=false)(s_BD_NP:subIn K (.ref C_BadDeed) (.ref C_NoPaper)=some false)(n_BD_NP:(C_BadDeed==C_NoPaper)=false)(s_NW_NP:subIn K (.ref C_NotWood) (.ref C_NoPaper)=some false)(n_NW_NP:(C_NotWood==C_NoPaper)=false)(s_NS_NP:subIn K (.ref C_NoSuch) (.ref C_NoPaper)=some false)(n_NS_NP:(C_NoSuch==C_NoPaper)=false)(s_TM_NP:subIn K (.ref C_TooMany) (.ref C_NoPaper)=some false)(n_TM_NP:(C_TooMany==C_NoPaper)=false)(s_NT_NP:subIn K (.ref C_NoText) (.ref C_NoPaper)=some false)(n_NT_NP:(C_NoText==C_NoPaper)=false)(s_OR_NP:subIn K (.ref C_OddRound) (.ref C_NoPaper)=some false)(n_OR_NP:(C_OddRound==C_NoPaper)=false)(sN_NS:subIn K (.type "NoneType") (.ref C_NoSuch)=some false)(s_BW_NS:subIn K (.ref C_BadWeb) (.ref C_NoSuch)=some false)(n_BW_NS:(C_BadWeb==C_NoSuch)=false)(s_BS_NS:subIn K (.ref C_BadSet) (.ref C_NoSuch)=some false)(n_BS_NS:(C_BadSet==C_NoSuch)=false)(s_BO_NS:subIn K (.ref C_BadOrder) (.ref C_NoSuch)=some false)(n_BO_NS:(C_BadOrder==C_NoSuch)=false)(s_BP_NS:subIn K (.ref C_BadPrices) (.ref C_NoSuch)=some false)(n_BP_NS:(C_BadPrices==C_NoSuch)=false)(s_BB_NS:subIn K (.ref C_BadBoard) (.ref C_NoSuch)=some false)(n_BB_NS:(C_BadBoard==C_NoSuch)=false)(s_BD_NS:subIn K (.ref C_BadDeed) (.ref C_NoSuch)=some false)(n_BD_NS:(C_BadDeed==C_NoSuch)=false)(s_NW_NS:subIn K (.ref C_NotWood) (.ref C_NoSuch)=some false)(n_NW_NS:(C_NotWood==C_NoSuch)=false)(s_NP_NS:subIn K (.ref C_NoPaper) (.ref C_NoSuch)=some false)(n_NP_NS:(C_NoPaper==C_NoSuch)=false)(s_TM_NS:subIn K (.ref C_TooMany) (.ref C_NoSuch)=some false)(n_TM_NS:(C_TooMany==C_NoSuch)=false)(s_NT_NS:subIn K (.ref C_NoText) (.ref C_NoSuch)=some false)(n_NT_NS:(C_NoText==C_NoSuch)=false)(s_OR_NS:subIn K (.ref C_OddRound) (.ref C_NoSuch)=some false)(n_OR_NS:(C_OddRound==C_NoSuch)=false)(sN_NT:subIn K (.type "NoneType") (.ref C_NoText)=some false)(s_BW_NT:subIn K (.ref C_BadWeb) (.ref C_NoText)=some false)(n_BW_NT:(C_BadWeb==C_NoText)=false)(s_BS_NT:subIn K (.ref C_BadSet) (.ref C_NoText)=some false)(n_BS_NT:(C_BadSet==C_NoText)=false)(s_BO_NT:subIn K (.ref C_BadOrder) (.ref C_NoText)=some false)(n_BO_NT:(C_BadOrder==C_NoText)=false)(s_BP_NT:subIn K (.ref C_BadPrices) (.ref C_NoText)=some false)(n_BP_NT:(C_BadPrices==C_NoText)=false)(s_BB_NT:subIn K (.ref C_BadBoard) (.ref C_NoText)=some false)(n_BB_NT:(C_BadBoard==C_NoText)=false)(s_BD_NT:subIn K (.ref C_BadDeed) (.ref C_NoText)=some false)(n_BD_NT:(C_BadDeed==C_NoText)=false)(s_NW_NT:subIn K (.ref C_NotWood) (.ref C_NoText)=some false)(n_NW_NT:(C_NotWood==C_NoText)=false)(s_NP_NT:subIn K (.ref C_NoPaper) (.ref C_NoText)=some false)(n_NP_NT:(C_NoPaper==C_NoText)=false)(s_NS_NT:subIn K (.ref C_NoSuch) (.ref C_NoText)=some false)(n_NS_NT:(C_NoSuch==C_NoText)=false)(s_TM_NT:subIn K (.ref C_TooMany) (.ref C_NoText)=some false)(n_TM_NT:(C_TooMany==C_NoText)=false)(s_OR_NT:subIn K (.ref C_OddRound) (.ref C_NoText)=some false)(n_OR_NT:(C_OddRound==C_NoText)=false)(sN_NW:subIn K (.type "NoneType") (.ref C_NotWood)=some false)(s_BW_NW:subIn K (.ref C_BadWeb) (.ref C_NotWood)=some false)(n_BW_NW:(C_BadWeb==C_NotWood)=false)(s_BS_NW:subIn K (.ref C_BadSet) (.ref C_NotWood)=some false)(n_BS_NW:(C_BadSet==C_NotWood)=false)(s_BO_NW:subIn K (.ref C_BadOrder) (.ref C_NotWood)=some false)(n_BO_NW:(C_BadOrder==C_NotWood)=false)(s_BP_NW:subIn K (.ref C_BadPrices) (.ref C_NotWood)=some false)(n_BP_NW:(C_BadPrices==C_NotWood)=false)(s_BB_NW:subIn K (.ref C_BadBoard) (.ref C_NotWood)=some false)(n_BB_NW:(C_BadBoard==C_NotWood)=false)(s_BD_NW:subIn K (.ref C_BadDeed) (.ref C_NotWood)=some false)(n_BD_NW:(C_BadDeed==C_NotWood)=false)(s_NP_NW:subIn K (.ref C_NoPaper) (.ref C_NotWood)=some false)(n_NP_NW:(C_NoPaper==C_NotWood)=false)(s_NS_NW:subIn K (.ref C_NoSuch) (.ref C_NotWood)=some false)(n_NS_NW:(C_NoSuch==C_NotWood)=false)(s_TM_NW:subIn K (.ref C_TooMany) (.ref C_NotWood)=some false)(n_TM_NW:(C_TooMany==C_NotWood)=false)(s_NT_NW:subIn K (.ref C_NoText) (.ref C_NotWood)=some false)(n_NT_NW:(C_NoText==C_NotWood)=false)(s_OR_NW:subIn K (.ref C_OddRound) (.ref C_NotWood)=some false)(n_OR_NW:(C_OddRound==C_NotWood)=false)(sN_OR:subIn K (.type "NoneType") (.ref C_OddRound)=some false)(s_BW_OR:subIn K (.ref C_BadWeb) (.ref C_OddRound)=some false)(n_BW_OR:(C_BadWeb==C_OddRound)=false)(s_BS_OR:subIn K (.ref C_BadSet) (.ref C_OddRound)=some false)(n_BS_OR:(C_BadSet==C_OddRound)=false)(s_BO_OR:subIn K (.ref C_BadOrder) (.ref C_OddRound)=some false)(n_BO_OR:(C_BadOrder==C_OddRound)=false)(s_BP_OR:subIn K (.ref C_BadPrices) (.ref C_OddRound)=some false)(n_BP_OR:(C_BadPrices==C_OddRound)=false)(s_BB_OR:subIn K (.ref C_BadBoard) (.ref C_OddRound)=some false)(n_BB_OR:(C_BadBoard==C_OddRound)=false)(s_BD_OR:subIn K (.ref C_BadDeed) (.ref C_OddRound)=some false)(n_BD_OR:(C_BadDeed==C_OddRound)=false)(s_NW_OR:subIn K (.ref C_NotWood) (.ref C_OddRound)=some false)(n_NW_OR:(C_NotWood==C_OddRound)=false)(s_NP_OR:subIn K (.ref C_NoPaper) (.ref C_OddRound)=some false)(n_NP_OR:(C_NoPaper==C_OddRound)=false)(s_NS_OR:subIn K (.ref C_NoSuch) (.ref C_OddRound)=some false)(n_NS_OR:(C_NoSuch==C_OddRound)=false)(s_TM_OR:subIn K (.ref C_TooMany) (.ref C_OddRound)=some false)(n_TM_OR:(C_TooMany==C_OddRound)=false)(s_NT_OR:subIn K (.ref C_NoText) (.ref C_OddRound)=some false)(n_NT_OR:(C_NoText==C_OddRound)=false)(sN_TM:subIn K (.type "NoneType") (.ref C_TooMany)=some false)(s_BW_TM:subIn K (.ref C_BadWeb) (.ref C_TooMany)=some false)(n_BW_TM:(C_BadWeb==C_TooMany)=false)(s_BS_TM:subIn K (.ref C_BadSet) (.ref C_TooMany)=some false)(n_BS_TM:(C_BadSet==C_TooMany)=false)(s_BO_TM:subIn K (.ref C_BadOrder) (.ref C_TooMany)=some false)(n_BO_TM:(C_BadOrder==C_TooMany)=false)(s_BP_TM:subIn K (.ref C_BadPrices) (.ref C_TooMany)=some false)(n_BP_TM:(C_BadPrices==C_TooMany)=false)(s_BB_TM:subIn K (.ref C_BadBoard) (.ref C_TooMany)=some false)(n_BB_TM:(C_BadBoard==C_TooMany)=false)(s_BD_TM:subIn K (.ref C_BadDeed) (.ref C_TooMany)=some false)(n_BD_TM:(C_BadDeed==C_TooMany)=false)(s_NW_TM:subIn K (.ref C_NotWood) (.ref C_TooMany)=some false)(n_NW_TM:(C_NotWood==C_TooMany)=false)(s_NP_TM:subIn K (.ref C_NoPaper) (.ref C_TooMany)=some false)(n_NP_TM:(C_NoPaper==C_TooMany)=false)(s_NS_TM:subIn K (.ref C_NoSuch) (.ref C_TooMany)=some false)(n_NS_TM:(C_NoSuch==C_TooMany)=false)(s_NT_TM:subIn K (.ref C_NoText) (.ref C_TooMany)=some false)(n_NT_TM:(C_NoText==C_TooMany)=false)(s_OR_TM:subIn K (.ref C_OddRound) (.ref C_TooMany)=some false)(n_OR_TM:(C_OddRound==C_TooMany)=false)(sV_BW:subIn K (.ref C_BadWeb) (.type "ValueError")=some true)(sV_BS:subIn K (.ref C_BadSet) (.type "ValueError")=some true)(sV_BO:subIn K (.ref C_BadOrder) (.type "ValueError")=some true)(sV_BP:subIn K (.ref C_BadPrices) (.type "ValueError")=some true)(sV_BB:subIn K (.ref C_BadBoard) (.type "ValueError")=some true)(sV_BD:subIn K (.ref C_BadDeed) (.type "ValueError")=some true)(sV_NW:subIn K (.ref C_NotWood) (.type "ValueError")=some true)(sV_NP:subIn K (.ref C_NoPaper) (.type "ValueError")=some true)(sV_NS:subIn K (.ref C_NoSuch) (.type "ValueError")=some true)(sV_TM:subIn K (.ref C_TooMany) (.type "ValueError")=some true)(sV_NT:subIn K (.ref C_NoText) (.type "ValueError")=some true)(sV_OR:subIn K (.ref C_OddRound) (.type "ValueError")=some true)(q_BW:excIn K C_BadWeb [.type "ValueError",.type "Exception",.type "BaseException",.type "object"] "ValueError.__new__" = true)
 :∃fd:FuncData,(∀(s:Shared) (v:Value),BindsTo s fd ⟨[v],[]⟩ [("script",v)])/\∀base:Heap,K.In base->base.Ns mainGlobals mg->cR l.prog w K mg base dM 4 fa fd ["script"] (pQ K):=by
 have e:=hfa.symm.trans (mg_of X G a14)
 cases e
 have F14:=Z5 (st:=bB 32) l14 c14 k14
 have m14:=mg_of X G a14
 have B:Bt mg:=⟨mg_none_of X G z_len,mg_none_of X G z_range,mg_none_of X G z_tuple,mg_none_of X G z_list,mg_none_of X G z_sorted,mg_none_of X G z_all,mg_none_of X G z_any,mg_none_of X G z_zip,mg_none_of X G z_min,mg_none_of X G z_max,mg_none_of X G z_sum,mg_none_of X G z_isinstance,mg_none_of X G z_int,mg_none_of X G z_bool,mg_none_of X G z_enumerate⟩
 have m_MOST_HEARTHS:=mg_of X G z_MOST_HEARTHSx
 have m_MOST_WANTED:=mg_of X G z_MOST_WANTEDx
 refine⟨fnOf "law" "law" (gF (bB 32)) (cS (bB 32)) (aU (bB 32)) .none kV14 dc14 pm14 an14 cd14 ct14,λs v=>.of_eq rfl,λbase KB _=>?_⟩
 have XK_HearthError:dJ K C_HearthError:=⟨y1_HE,y2_HE,y3_HE,y4_HE,y5_HE,y_fg,y_ft,y6_HE,y7_HE⟩
 have XK_BadWeb:dJ K C_BadWeb:=⟨y1_BW,y2_BW,y3_BW,y4_BW,y5_BW,y_fg,y_ft,y6_BW,y7_BW⟩
 have XK_BadSet:dJ K C_BadSet:=⟨y1_BS,y2_BS,y3_BS,y4_BS,y5_BS,y_fg,y_ft,y6_BS,y7_BS⟩
 have XK_BadOrder:dJ K C_BadOrder:=⟨y1_BO,y2_BO,y3_BO,y4_BO,y5_BO,y_fg,y_ft,y6_BO,y7_BO⟩
 have XK_BadPrices:dJ K C_BadPrices:=⟨y1_BP,y2_BP,y3_BP,y4_BP,y5_BP,y_fg,y_ft,y6_BP,y7_BP⟩
 have XK_BadBoard:dJ K C_BadBoard:=⟨y1_BB,y2_BB,y3_BB,y4_BB,y5_BB,y_fg,y_ft,y6_BB,y7_BB⟩
 have XK_BadDeed:dJ K C_BadDeed:=⟨y1_BD,y2_BD,y3_BD,y4_BD,y5_BD,y_fg,y_ft,y6_BD,y7_BD⟩
 have XK_NotWood:dJ K C_NotWood:=⟨y1_NW,y2_NW,y3_NW,y4_NW,y5_NW,y_fg,y_ft,y6_NW,y7_NW⟩
 have XK_NoPaper:dJ K C_NoPaper:=⟨y1_NP,y2_NP,y3_NP,y4_NP,y5_NP,y_fg,y_ft,y6_NP,y7_NP⟩
 have XK_NoSuch:dJ K C_NoSuch:=⟨y1_NS,y2_NS,y3_NS,y4_NS,y5_NS,y_fg,y_ft,y6_NS,y7_NS⟩
 have XK_TooMany:dJ K C_TooMany:=⟨y1_TM,y2_TM,y3_TM,y4_TM,y5_TM,y_fg,y_ft,y6_TM,y7_TM⟩
 have XK_NoText:dJ K C_NoText:=⟨y1_NT,y2_NT,y3_NT,y4_NT,y5_NT,y_fg,y_ft,y6_NT,y7_NT⟩
 have XK_OddRound:dJ K C_OddRound:=⟨y1_OR,y2_OR,y3_OR,y4_OR,y5_OR,y_fg,y_ft,y6_OR,y7_OR⟩
 have cat_HearthError:tY K mg "HearthError":=⟨C_HearthError,mg_of X G aX_HE,⟨y1_HE,y2_HE,sB_HE⟩,λn C h2 h1=>by
  obtain⟨hm,hb⟩:=eR h2
  simp only[dS,aH4,aH6,aL7]at hm
  rcases hm with rfl|rfl|rfl|rfl|rfl|rfl|rfl|rfl|rfl|rfl|rfl|rfl
  ·rw[aX_BW]at h1;cases h1;exact s_BW_HE
  ·rw[aX_BS]at h1;cases h1;exact s_BS_HE
  ·rw[aX_BO]at h1;cases h1;exact s_BO_HE
  ·rw[aX_BP]at h1;cases h1;exact s_BP_HE
  ·rw[aX_BB]at h1;cases h1;exact s_BB_HE
  ·rw[aX_BD]at h1;cases h1;exact s_BD_HE
  ·rw[aX_NW]at h1;cases h1;exact s_NW_HE
  ·rw[aX_NP]at h1;cases h1;exact s_NP_HE
  ·rw[aX_NS]at h1;cases h1;exact s_NS_HE
  ·rw[aX_TM]at h1;cases h1;exact s_TM_HE
  ·rw[aX_NT]at h1;cases h1;exact s_NT_HE
  ·rw[aX_OR]at h1;cases h1;exact s_OR_HE⟩
 have is_BadBoard:cE K mg "BadBoard":=⟨C_BadBoard,mg_of X G aX_BB,λz=>(by cases z),(λn C b h1 h2=>by
  obtain⟨hm,hb⟩:=eR h2
  simp only[dS,aH4,aH6,aL7]at hm
  rcases hm with rfl|rfl|rfl|rfl|rfl|rfl|rfl|rfl|rfl|rfl|rfl|rfl
  ·rw[aX_BW]at h1;cases h1;rw[hb,show (("BadWeb":Str)=="BadBoard"||("BadBoard":Str)=="HearthError"||("BadBoard":Str)=="ValueError")=false by decide];exact⟨XK_BadWeb.exc,a9 XK_BadBoard n_BW_BB s_BW_BB⟩
  ·rw[aX_BS]at h1;cases h1;rw[hb,show (("BadSet":Str)=="BadBoard"||("BadBoard":Str)=="HearthError"||("BadBoard":Str)=="ValueError")=false by decide];exact⟨XK_BadSet.exc,a9 XK_BadBoard n_BS_BB s_BS_BB⟩
  ·rw[aX_BO]at h1;cases h1;rw[hb,show (("BadOrder":Str)=="BadBoard"||("BadBoard":Str)=="HearthError"||("BadBoard":Str)=="ValueError")=false by decide];exact⟨XK_BadOrder.exc,a9 XK_BadBoard n_BO_BB s_BO_BB⟩
  ·rw[aX_BP]at h1;cases h1;rw[hb,show (("BadPrices":Str)=="BadBoard"||("BadBoard":Str)=="HearthError"||("BadBoard":Str)=="ValueError")=false by decide];exact⟨XK_BadPrices.exc,a9 XK_BadBoard n_BP_BB s_BP_BB⟩
  ·rw[aX_BB]at h1;cases h1;rw[hb,show (("BadBoard":Str)=="BadBoard"||("BadBoard":Str)=="HearthError"||("BadBoard":Str)=="ValueError")=true by decide];exact⟨XK_BadBoard.exc,fW⟩
  ·rw[aX_BD]at h1;cases h1;rw[hb,show (("BadDeed":Str)=="BadBoard"||("BadBoard":Str)=="HearthError"||("BadBoard":Str)=="ValueError")=false by decide];exact⟨XK_BadDeed.exc,a9 XK_BadBoard n_BD_BB s_BD_BB⟩
  ·rw[aX_NW]at h1;cases h1;rw[hb,show (("NotWood":Str)=="BadBoard"||("BadBoard":Str)=="HearthError"||("BadBoard":Str)=="ValueError")=false by decide];exact⟨XK_NotWood.exc,a9 XK_BadBoard n_NW_BB s_NW_BB⟩
  ·rw[aX_NP]at h1;cases h1;rw[hb,show (("NoPaper":Str)=="BadBoard"||("BadBoard":Str)=="HearthError"||("BadBoard":Str)=="ValueError")=false by decide];exact⟨XK_NoPaper.exc,a9 XK_BadBoard n_NP_BB s_NP_BB⟩
  ·rw[aX_NS]at h1;cases h1;rw[hb,show (("NoSuch":Str)=="BadBoard"||("BadBoard":Str)=="HearthError"||("BadBoard":Str)=="ValueError")=false by decide];exact⟨XK_NoSuch.exc,a9 XK_BadBoard n_NS_BB s_NS_BB⟩
  ·rw[aX_TM]at h1;cases h1;rw[hb,show (("TooMany":Str)=="BadBoard"||("BadBoard":Str)=="HearthError"||("BadBoard":Str)=="ValueError")=false by decide];exact⟨XK_TooMany.exc,a9 XK_BadBoard n_TM_BB s_TM_BB⟩
  ·rw[aX_NT]at h1;cases h1;rw[hb,show (("NoText":Str)=="BadBoard"||("BadBoard":Str)=="HearthError"||("BadBoard":Str)=="ValueError")=false by decide];exact⟨XK_NoText.exc,a9 XK_BadBoard n_NT_BB s_NT_BB⟩
  ·rw[aX_OR]at h1;cases h1;rw[hb,show (("OddRound":Str)=="BadBoard"||("BadBoard":Str)=="HearthError"||("BadBoard":Str)=="ValueError")=false by decide];exact⟨XK_OddRound.exc,a9 XK_BadBoard n_OR_BB s_OR_BB⟩),fY XK_BadBoard sN_BB⟩
 have is_BadDeed:cE K mg "BadDeed":=⟨C_BadDeed,mg_of X G aX_BD,λz=>(by cases z),(λn C b h1 h2=>by
  obtain⟨hm,hb⟩:=eR h2
  simp only[dS,aH4,aH6,aL7]at hm
  rcases hm with rfl|rfl|rfl|rfl|rfl|rfl|rfl|rfl|rfl|rfl|rfl|rfl
  ·rw[aX_BW]at h1;cases h1;rw[hb,show (("BadWeb":Str)=="BadDeed"||("BadDeed":Str)=="HearthError"||("BadDeed":Str)=="ValueError")=false by decide];exact⟨XK_BadWeb.exc,a9 XK_BadDeed n_BW_BD s_BW_BD⟩
  ·rw[aX_BS]at h1;cases h1;rw[hb,show (("BadSet":Str)=="BadDeed"||("BadDeed":Str)=="HearthError"||("BadDeed":Str)=="ValueError")=false by decide];exact⟨XK_BadSet.exc,a9 XK_BadDeed n_BS_BD s_BS_BD⟩
  ·rw[aX_BO]at h1;cases h1;rw[hb,show (("BadOrder":Str)=="BadDeed"||("BadDeed":Str)=="HearthError"||("BadDeed":Str)=="ValueError")=false by decide];exact⟨XK_BadOrder.exc,a9 XK_BadDeed n_BO_BD s_BO_BD⟩
  ·rw[aX_BP]at h1;cases h1;rw[hb,show (("BadPrices":Str)=="BadDeed"||("BadDeed":Str)=="HearthError"||("BadDeed":Str)=="ValueError")=false by decide];exact⟨XK_BadPrices.exc,a9 XK_BadDeed n_BP_BD s_BP_BD⟩
  ·rw[aX_BB]at h1;cases h1;rw[hb,show (("BadBoard":Str)=="BadDeed"||("BadDeed":Str)=="HearthError"||("BadDeed":Str)=="ValueError")=false by decide];exact⟨XK_BadBoard.exc,a9 XK_BadDeed n_BB_BD s_BB_BD⟩
  ·rw[aX_BD]at h1;cases h1;rw[hb,show (("BadDeed":Str)=="BadDeed"||("BadDeed":Str)=="HearthError"||("BadDeed":Str)=="ValueError")=true by decide];exact⟨XK_BadDeed.exc,fW⟩
  ·rw[aX_NW]at h1;cases h1;rw[hb,show (("NotWood":Str)=="BadDeed"||("BadDeed":Str)=="HearthError"||("BadDeed":Str)=="ValueError")=false by decide];exact⟨XK_NotWood.exc,a9 XK_BadDeed n_NW_BD s_NW_BD⟩
  ·rw[aX_NP]at h1;cases h1;rw[hb,show (("NoPaper":Str)=="BadDeed"||("BadDeed":Str)=="HearthError"||("BadDeed":Str)=="ValueError")=false by decide];exact⟨XK_NoPaper.exc,a9 XK_BadDeed n_NP_BD s_NP_BD⟩
  ·rw[aX_NS]at h1;cases h1;rw[hb,show (("NoSuch":Str)=="BadDeed"||("BadDeed":Str)=="HearthError"||("BadDeed":Str)=="ValueError")=false by decide];exact⟨XK_NoSuch.exc,a9 XK_BadDeed n_NS_BD s_NS_BD⟩
  ·rw[aX_TM]at h1;cases h1;rw[hb,show (("TooMany":Str)=="BadDeed"||("BadDeed":Str)=="HearthError"||("BadDeed":Str)=="ValueError")=false by decide];exact⟨XK_TooMany.exc,a9 XK_BadDeed n_TM_BD s_TM_BD⟩
  ·rw[aX_NT]at h1;cases h1;rw[hb,show (("NoText":Str)=="BadDeed"||("BadDeed":Str)=="HearthError"||("BadDeed":Str)=="ValueError")=false by decide];exact⟨XK_NoText.exc,a9 XK_BadDeed n_NT_BD s_NT_BD⟩
  ·rw[aX_OR]at h1;cases h1;rw[hb,show (("OddRound":Str)=="BadDeed"||("BadDeed":Str)=="HearthError"||("BadDeed":Str)=="ValueError")=false by decide];exact⟨XK_OddRound.exc,a9 XK_BadDeed n_OR_BD s_OR_BD⟩),fY XK_BadDeed sN_BD⟩
 have is_BadOrder:cE K mg "BadOrder":=⟨C_BadOrder,mg_of X G aX_BO,λz=>(by cases z),(λn C b h1 h2=>by
  obtain⟨hm,hb⟩:=eR h2
  simp only[dS,aH4,aH6,aL7]at hm
  rcases hm with rfl|rfl|rfl|rfl|rfl|rfl|rfl|rfl|rfl|rfl|rfl|rfl
  ·rw[aX_BW]at h1;cases h1;rw[hb,show (("BadWeb":Str)=="BadOrder"||("BadOrder":Str)=="HearthError"||("BadOrder":Str)=="ValueError")=false by decide];exact⟨XK_BadWeb.exc,a9 XK_BadOrder n_BW_BO s_BW_BO⟩
  ·rw[aX_BS]at h1;cases h1;rw[hb,show (("BadSet":Str)=="BadOrder"||("BadOrder":Str)=="HearthError"||("BadOrder":Str)=="ValueError")=false by decide];exact⟨XK_BadSet.exc,a9 XK_BadOrder n_BS_BO s_BS_BO⟩
  ·rw[aX_BO]at h1;cases h1;rw[hb,show (("BadOrder":Str)=="BadOrder"||("BadOrder":Str)=="HearthError"||("BadOrder":Str)=="ValueError")=true by decide];exact⟨XK_BadOrder.exc,fW⟩
  ·rw[aX_BP]at h1;cases h1;rw[hb,show (("BadPrices":Str)=="BadOrder"||("BadOrder":Str)=="HearthError"||("BadOrder":Str)=="ValueError")=false by decide];exact⟨XK_BadPrices.exc,a9 XK_BadOrder n_BP_BO s_BP_BO⟩
  ·rw[aX_BB]at h1;cases h1;rw[hb,show (("BadBoard":Str)=="BadOrder"||("BadOrder":Str)=="HearthError"||("BadOrder":Str)=="ValueError")=false by decide];exact⟨XK_BadBoard.exc,a9 XK_BadOrder n_BB_BO s_BB_BO⟩
  ·rw[aX_BD]at h1;cases h1;rw[hb,show (("BadDeed":Str)=="BadOrder"||("BadOrder":Str)=="HearthError"||("BadOrder":Str)=="ValueError")=false by decide];exact⟨XK_BadDeed.exc,a9 XK_BadOrder n_BD_BO s_BD_BO⟩
  ·rw[aX_NW]at h1;cases h1;rw[hb,show (("NotWood":Str)=="BadOrder"||("BadOrder":Str)=="HearthError"||("BadOrder":Str)=="ValueError")=false by decide];exact⟨XK_NotWood.exc,a9 XK_BadOrder n_NW_BO s_NW_BO⟩
  ·rw[aX_NP]at h1;cases h1;rw[hb,show (("NoPaper":Str)=="BadOrder"||("BadOrder":Str)=="HearthError"||("BadOrder":Str)=="ValueError")=false by decide];exact⟨XK_NoPaper.exc,a9 XK_BadOrder n_NP_BO s_NP_BO⟩
  ·rw[aX_NS]at h1;cases h1;rw[hb,show (("NoSuch":Str)=="BadOrder"||("BadOrder":Str)=="HearthError"||("BadOrder":Str)=="ValueError")=false by decide];exact⟨XK_NoSuch.exc,a9 XK_BadOrder n_NS_BO s_NS_BO⟩
  ·rw[aX_TM]at h1;cases h1;rw[hb,show (("TooMany":Str)=="BadOrder"||("BadOrder":Str)=="HearthError"||("BadOrder":Str)=="ValueError")=false by decide];exact⟨XK_TooMany.exc,a9 XK_BadOrder n_TM_BO s_TM_BO⟩
  ·rw[aX_NT]at h1;cases h1;rw[hb,show (("NoText":Str)=="BadOrder"||("BadOrder":Str)=="HearthError"||("BadOrder":Str)=="ValueError")=false by decide];exact⟨XK_NoText.exc,a9 XK_BadOrder n_NT_BO s_NT_BO⟩
  ·rw[aX_OR]at h1;cases h1;rw[hb,show (("OddRound":Str)=="BadOrder"||("BadOrder":Str)=="HearthError"||("BadOrder":Str)=="ValueError")=false by decide];exact⟨XK_OddRound.exc,a9 XK_BadOrder n_OR_BO s_OR_BO⟩),fY XK_BadOrder sN_BO⟩
 have is_BadPrices:cE K mg "BadPrices":=⟨C_BadPrices,mg_of X G aX_BP,λz=>(by cases z),(λn C b h1 h2=>by
  obtain⟨hm,hb⟩:=eR h2
  simp only[dS,aH4,aH6,aL7]at hm
  rcases hm with rfl|rfl|rfl|rfl|rfl|rfl|rfl|rfl|rfl|rfl|rfl|rfl
  ·rw[aX_BW]at h1;cases h1;rw[hb,show (("BadWeb":Str)=="BadPrices"||("BadPrices":Str)=="HearthError"||("BadPrices":Str)=="ValueError")=false by decide];exact⟨XK_BadWeb.exc,a9 XK_BadPrices n_BW_BP s_BW_BP⟩
  ·rw[aX_BS]at h1;cases h1;rw[hb,show (("BadSet":Str)=="BadPrices"||("BadPrices":Str)=="HearthError"||("BadPrices":Str)=="ValueError")=false by decide];exact⟨XK_BadSet.exc,a9 XK_BadPrices n_BS_BP s_BS_BP⟩
  ·rw[aX_BO]at h1;cases h1;rw[hb,show (("BadOrder":Str)=="BadPrices"||("BadPrices":Str)=="HearthError"||("BadPrices":Str)=="ValueError")=false by decide];exact⟨XK_BadOrder.exc,a9 XK_BadPrices n_BO_BP s_BO_BP⟩
  ·rw[aX_BP]at h1;cases h1;rw[hb,show (("BadPrices":Str)=="BadPrices"||("BadPrices":Str)=="HearthError"||("BadPrices":Str)=="ValueError")=true by decide];exact⟨XK_BadPrices.exc,fW⟩
  ·rw[aX_BB]at h1;cases h1;rw[hb,show (("BadBoard":Str)=="BadPrices"||("BadPrices":Str)=="HearthError"||("BadPrices":Str)=="ValueError")=false by decide];exact⟨XK_BadBoard.exc,a9 XK_BadPrices n_BB_BP s_BB_BP⟩
  ·rw[aX_BD]at h1;cases h1;rw[hb,show (("BadDeed":Str)=="BadPrices"||("BadPrices":Str)=="HearthError"||("BadPrices":Str)=="ValueError")=false by decide];exact⟨XK_BadDeed.exc,a9 XK_BadPrices n_BD_BP s_BD_BP⟩
  ·rw[aX_NW]at h1;cases h1;rw[hb,show (("NotWood":Str)=="BadPrices"||("BadPrices":Str)=="HearthError"||("BadPrices":Str)=="ValueError")=false by decide];exact⟨XK_NotWood.exc,a9 XK_BadPrices n_NW_BP s_NW_BP⟩
  ·rw[aX_NP]at h1;cases h1;rw[hb,show (("NoPaper":Str)=="BadPrices"||("BadPrices":Str)=="HearthError"||("BadPrices":Str)=="ValueError")=false by decide];exact⟨XK_NoPaper.exc,a9 XK_BadPrices n_NP_BP s_NP_BP⟩
  ·rw[aX_NS]at h1;cases h1;rw[hb,show (("NoSuch":Str)=="BadPrices"||("BadPrices":Str)=="HearthError"||("BadPrices":Str)=="ValueError")=false by decide];exact⟨XK_NoSuch.exc,a9 XK_BadPrices n_NS_BP s_NS_BP⟩
  ·rw[aX_TM]at h1;cases h1;rw[hb,show (("TooMany":Str)=="BadPrices"||("BadPrices":Str)=="HearthError"||("BadPrices":Str)=="ValueError")=false by decide];exact⟨XK_TooMany.exc,a9 XK_BadPrices n_TM_BP s_TM_BP⟩
  ·rw[aX_NT]at h1;cases h1;rw[hb,show (("NoText":Str)=="BadPrices"||("BadPrices":Str)=="HearthError"||("BadPrices":Str)=="ValueError")=false by decide];exact⟨XK_NoText.exc,a9 XK_BadPrices n_NT_BP s_NT_BP⟩
  ·rw[aX_OR]at h1;cases h1;rw[hb,show (("OddRound":Str)=="BadPrices"||("BadPrices":Str)=="HearthError"||("BadPrices":Str)=="ValueError")=false by decide];exact⟨XK_OddRound.exc,a9 XK_BadPrices n_OR_BP s_OR_BP⟩),fY XK_BadPrices sN_BP⟩
 have is_BadSet:cE K mg "BadSet":=⟨C_BadSet,mg_of X G aX_BS,λz=>(by cases z),(λn C b h1 h2=>by
  obtain⟨hm,hb⟩:=eR h2
  simp only[dS,aH4,aH6,aL7]at hm
  rcases hm with rfl|rfl|rfl|rfl|rfl|rfl|rfl|rfl|rfl|rfl|rfl|rfl
  ·rw[aX_BW]at h1;cases h1;rw[hb,show (("BadWeb":Str)=="BadSet"||("BadSet":Str)=="HearthError"||("BadSet":Str)=="ValueError")=false by decide];exact⟨XK_BadWeb.exc,a9 XK_BadSet n_BW_BS s_BW_BS⟩
  ·rw[aX_BS]at h1;cases h1;rw[hb,show (("BadSet":Str)=="BadSet"||("BadSet":Str)=="HearthError"||("BadSet":Str)=="ValueError")=true by decide];exact⟨XK_BadSet.exc,fW⟩
  ·rw[aX_BO]at h1;cases h1;rw[hb,show (("BadOrder":Str)=="BadSet"||("BadSet":Str)=="HearthError"||("BadSet":Str)=="ValueError")=false by decide];exact⟨XK_BadOrder.exc,a9 XK_BadSet n_BO_BS s_BO_BS⟩
  ·rw[aX_BP]at h1;cases h1;rw[hb,show (("BadPrices":Str)=="BadSet"||("BadSet":Str)=="HearthError"||("BadSet":Str)=="ValueError")=false by decide];exact⟨XK_BadPrices.exc,a9 XK_BadSet n_BP_BS s_BP_BS⟩
  ·rw[aX_BB]at h1;cases h1;rw[hb,show (("BadBoard":Str)=="BadSet"||("BadSet":Str)=="HearthError"||("BadSet":Str)=="ValueError")=false by decide];exact⟨XK_BadBoard.exc,a9 XK_BadSet n_BB_BS s_BB_BS⟩
  ·rw[aX_BD]at h1;cases h1;rw[hb,show (("BadDeed":Str)=="BadSet"||("BadSet":Str)=="HearthError"||("BadSet":Str)=="ValueError")=false by decide];exact⟨XK_BadDeed.exc,a9 XK_BadSet n_BD_BS s_BD_BS⟩
  ·rw[aX_NW]at h1;cases h1;rw[hb,show (("NotWood":Str)=="BadSet"||("BadSet":Str)=="HearthError"||("BadSet":Str)=="ValueError")=false by decide];exact⟨XK_NotWood.exc,a9 XK_BadSet n_NW_BS s_NW_BS⟩
  ·rw[aX_NP]at h1;cases h1;rw[hb,show (("NoPaper":Str)=="BadSet"||("BadSet":Str)=="HearthError"||("BadSet":Str)=="ValueError")=false by decide];exact⟨XK_NoPaper.exc,a9 XK_BadSet n_NP_BS s_NP_BS⟩
  ·rw[aX_NS]at h1;cases h1;rw[hb,show (("NoSuch":Str)=="BadSet"||("BadSet":Str)=="HearthError"||("BadSet":Str)=="ValueError")=false by decide];exact⟨XK_NoSuch.exc,a9 XK_BadSet n_NS_BS s_NS_BS⟩
  ·rw[aX_TM]at h1;cases h1;rw[hb,show (("TooMany":Str)=="BadSet"||("BadSet":Str)=="HearthError"||("BadSet":Str)=="ValueError")=false by decide];exact⟨XK_TooMany.exc,a9 XK_BadSet n_TM_BS s_TM_BS⟩
  ·rw[aX_NT]at h1;cases h1;rw[hb,show (("NoText":Str)=="BadSet"||("BadSet":Str)=="HearthError"||("BadSet":Str)=="ValueError")=false by decide];exact⟨XK_NoText.exc,a9 XK_BadSet n_NT_BS s_NT_BS⟩
  ·rw[aX_OR]at h1;cases h1;rw[hb,show (("OddRound":Str)=="BadSet"||("BadSet":Str)=="HearthError"||("BadSet":Str)=="ValueError")=false by decide];exact⟨XK_OddRound.exc,a9 XK_BadSet n_OR_BS s_OR_BS⟩),fY XK_BadSet sN_BS⟩
 have is_BadWeb:cE K mg "BadWeb":=⟨C_BadWeb,mg_of X G aX_BW,λz=>(by cases z),(λn C b h1 h2=>by
  obtain⟨hm,hb⟩:=eR h2
  simp only[dS,aH4,aH6,aL7]at hm
  rcases hm with rfl|rfl|rfl|rfl|rfl|rfl|rfl|rfl|rfl|rfl|rfl|rfl
  ·rw[aX_BW]at h1;cases h1;rw[hb,show (("BadWeb":Str)=="BadWeb"||("BadWeb":Str)=="HearthError"||("BadWeb":Str)=="ValueError")=true by decide];exact⟨XK_BadWeb.exc,fW⟩
  ·rw[aX_BS]at h1;cases h1;rw[hb,show (("BadSet":Str)=="BadWeb"||("BadWeb":Str)=="HearthError"||("BadWeb":Str)=="ValueError")=false by decide];exact⟨XK_BadSet.exc,a9 XK_BadWeb n_BS_BW s_BS_BW⟩
  ·rw[aX_BO]at h1;cases h1;rw[hb,show (("BadOrder":Str)=="BadWeb"||("BadWeb":Str)=="HearthError"||("BadWeb":Str)=="ValueError")=false by decide];exact⟨XK_BadOrder.exc,a9 XK_BadWeb n_BO_BW s_BO_BW⟩
  ·rw[aX_BP]at h1;cases h1;rw[hb,show (("BadPrices":Str)=="BadWeb"||("BadWeb":Str)=="HearthError"||("BadWeb":Str)=="ValueError")=false by decide];exact⟨XK_BadPrices.exc,a9 XK_BadWeb n_BP_BW s_BP_BW⟩
  ·rw[aX_BB]at h1;cases h1;rw[hb,show (("BadBoard":Str)=="BadWeb"||("BadWeb":Str)=="HearthError"||("BadWeb":Str)=="ValueError")=false by decide];exact⟨XK_BadBoard.exc,a9 XK_BadWeb n_BB_BW s_BB_BW⟩
  ·rw[aX_BD]at h1;cases h1;rw[hb,show (("BadDeed":Str)=="BadWeb"||("BadWeb":Str)=="HearthError"||("BadWeb":Str)=="ValueError")=false by decide];exact⟨XK_BadDeed.exc,a9 XK_BadWeb n_BD_BW s_BD_BW⟩
  ·rw[aX_NW]at h1;cases h1;rw[hb,show (("NotWood":Str)=="BadWeb"||("BadWeb":Str)=="HearthError"||("BadWeb":Str)=="ValueError")=false by decide];exact⟨XK_NotWood.exc,a9 XK_BadWeb n_NW_BW s_NW_BW⟩
  ·rw[aX_NP]at h1;cases h1;rw[hb,show (("NoPaper":Str)=="BadWeb"||("BadWeb":Str)=="HearthError"||("BadWeb":Str)=="ValueError")=false by decide];exact⟨XK_NoPaper.exc,a9 XK_BadWeb n_NP_BW s_NP_BW⟩
  ·rw[aX_NS]at h1;cases h1;rw[hb,show (("NoSuch":Str)=="BadWeb"||("BadWeb":Str)=="HearthError"||("BadWeb":Str)=="ValueError")=false by decide];exact⟨XK_NoSuch.exc,a9 XK_BadWeb n_NS_BW s_NS_BW⟩
  ·rw[aX_TM]at h1;cases h1;rw[hb,show (("TooMany":Str)=="BadWeb"||("BadWeb":Str)=="HearthError"||("BadWeb":Str)=="ValueError")=false by decide];exact⟨XK_TooMany.exc,a9 XK_BadWeb n_TM_BW s_TM_BW⟩
  ·rw[aX_NT]at h1;cases h1;rw[hb,show (("NoText":Str)=="BadWeb"||("BadWeb":Str)=="HearthError"||("BadWeb":Str)=="ValueError")=false by decide];exact⟨XK_NoText.exc,a9 XK_BadWeb n_NT_BW s_NT_BW⟩
  ·rw[aX_OR]at h1;cases h1;rw[hb,show (("OddRound":Str)=="BadWeb"||("BadWeb":Str)=="HearthError"||("BadWeb":Str)=="ValueError")=false by decide];exact⟨XK_OddRound.exc,a9 XK_BadWeb n_OR_BW s_OR_BW⟩),fY XK_BadWeb sN_BW⟩
 have is_NoPaper:cE K mg "NoPaper":=⟨C_NoPaper,mg_of X G aX_NP,λz=>(by cases z),(λn C b h1 h2=>by
  obtain⟨hm,hb⟩:=eR h2
  simp only[dS,aH4,aH6,aL7]at hm
  rcases hm with rfl|rfl|rfl|rfl|rfl|rfl|rfl|rfl|rfl|rfl|rfl|rfl
  ·rw[aX_BW]at h1;cases h1;rw[hb,show (("BadWeb":Str)=="NoPaper"||("NoPaper":Str)=="HearthError"||("NoPaper":Str)=="ValueError")=false by decide];exact⟨XK_BadWeb.exc,a9 XK_NoPaper n_BW_NP s_BW_NP⟩
  ·rw[aX_BS]at h1;cases h1;rw[hb,show (("BadSet":Str)=="NoPaper"||("NoPaper":Str)=="HearthError"||("NoPaper":Str)=="ValueError")=false by decide];exact⟨XK_BadSet.exc,a9 XK_NoPaper n_BS_NP s_BS_NP⟩
  ·rw[aX_BO]at h1;cases h1;rw[hb,show (("BadOrder":Str)=="NoPaper"||("NoPaper":Str)=="HearthError"||("NoPaper":Str)=="ValueError")=false by decide];exact⟨XK_BadOrder.exc,a9 XK_NoPaper n_BO_NP s_BO_NP⟩
  ·rw[aX_BP]at h1;cases h1;rw[hb,show (("BadPrices":Str)=="NoPaper"||("NoPaper":Str)=="HearthError"||("NoPaper":Str)=="ValueError")=false by decide];exact⟨XK_BadPrices.exc,a9 XK_NoPaper n_BP_NP s_BP_NP⟩
  ·rw[aX_BB]at h1;cases h1;rw[hb,show (("BadBoard":Str)=="NoPaper"||("NoPaper":Str)=="HearthError"||("NoPaper":Str)=="ValueError")=false by decide];exact⟨XK_BadBoard.exc,a9 XK_NoPaper n_BB_NP s_BB_NP⟩
  ·rw[aX_BD]at h1;cases h1;rw[hb,show (("BadDeed":Str)=="NoPaper"||("NoPaper":Str)=="HearthError"||("NoPaper":Str)=="ValueError")=false by decide];exact⟨XK_BadDeed.exc,a9 XK_NoPaper n_BD_NP s_BD_NP⟩
  ·rw[aX_NW]at h1;cases h1;rw[hb,show (("NotWood":Str)=="NoPaper"||("NoPaper":Str)=="HearthError"||("NoPaper":Str)=="ValueError")=false by decide];exact⟨XK_NotWood.exc,a9 XK_NoPaper n_NW_NP s_NW_NP⟩
  ·rw[aX_NP]at h1;cases h1;rw[hb,show (("NoPaper":Str)=="NoPaper"||("NoPaper":Str)=="HearthError"||("NoPaper":Str)=="ValueError")=true by decide];exact⟨XK_NoPaper.exc,fW⟩
  ·rw[aX_NS]at h1;cases h1;rw[hb,show (("NoSuch":Str)=="NoPaper"||("NoPaper":Str)=="HearthError"||("NoPaper":Str)=="ValueError")=false by decide];exact⟨XK_NoSuch.exc,a9 XK_NoPaper n_NS_NP s_NS_NP⟩
  ·rw[aX_TM]at h1;cases h1;rw[hb,show (("TooMany":Str)=="NoPaper"||("NoPaper":Str)=="HearthError"||("NoPaper":Str)=="ValueError")=false by decide];exact⟨XK_TooMany.exc,a9 XK_NoPaper n_TM_NP s_TM_NP⟩
  ·rw[aX_NT]at h1;cases h1;rw[hb,show (("NoText":Str)=="NoPaper"||("NoPaper":Str)=="HearthError"||("NoPaper":Str)=="ValueError")=false by decide];exact⟨XK_NoText.exc,a9 XK_NoPaper n_NT_NP s_NT_NP⟩
  ·rw[aX_OR]at h1;cases h1;rw[hb,show (("OddRound":Str)=="NoPaper"||("NoPaper":Str)=="HearthError"||("NoPaper":Str)=="ValueError")=false by decide];exact⟨XK_OddRound.exc,a9 XK_NoPaper n_OR_NP s_OR_NP⟩),fY XK_NoPaper sN_NP⟩
 have is_NoSuch:cE K mg "NoSuch":=⟨C_NoSuch,mg_of X G aX_NS,λz=>(by cases z),(λn C b h1 h2=>by
  obtain⟨hm,hb⟩:=eR h2
  simp only[dS,aH4,aH6,aL7]at hm
  rcases hm with rfl|rfl|rfl|rfl|rfl|rfl|rfl|rfl|rfl|rfl|rfl|rfl
  ·rw[aX_BW]at h1;cases h1;rw[hb,show (("BadWeb":Str)=="NoSuch"||("NoSuch":Str)=="HearthError"||("NoSuch":Str)=="ValueError")=false by decide];exact⟨XK_BadWeb.exc,a9 XK_NoSuch n_BW_NS s_BW_NS⟩
  ·rw[aX_BS]at h1;cases h1;rw[hb,show (("BadSet":Str)=="NoSuch"||("NoSuch":Str)=="HearthError"||("NoSuch":Str)=="ValueError")=false by decide];exact⟨XK_BadSet.exc,a9 XK_NoSuch n_BS_NS s_BS_NS⟩
  ·rw[aX_BO]at h1;cases h1;rw[hb,show (("BadOrder":Str)=="NoSuch"||("NoSuch":Str)=="HearthError"||("NoSuch":Str)=="ValueError")=false by decide];exact⟨XK_BadOrder.exc,a9 XK_NoSuch n_BO_NS s_BO_NS⟩
  ·rw[aX_BP]at h1;cases h1;rw[hb,show (("BadPrices":Str)=="NoSuch"||("NoSuch":Str)=="HearthError"||("NoSuch":Str)=="ValueError")=false by decide];exact⟨XK_BadPrices.exc,a9 XK_NoSuch n_BP_NS s_BP_NS⟩
  ·rw[aX_BB]at h1;cases h1;rw[hb,show (("BadBoard":Str)=="NoSuch"||("NoSuch":Str)=="HearthError"||("NoSuch":Str)=="ValueError")=false by decide];exact⟨XK_BadBoard.exc,a9 XK_NoSuch n_BB_NS s_BB_NS⟩
  ·rw[aX_BD]at h1;cases h1;rw[hb,show (("BadDeed":Str)=="NoSuch"||("NoSuch":Str)=="HearthError"||("NoSuch":Str)=="ValueError")=false by decide];exact⟨XK_BadDeed.exc,a9 XK_NoSuch n_BD_NS s_BD_NS⟩
  ·rw[aX_NW]at h1;cases h1;rw[hb,show (("NotWood":Str)=="NoSuch"||("NoSuch":Str)=="HearthError"||("NoSuch":Str)=="ValueError")=false by decide];exact⟨XK_NotWood.exc,a9 XK_NoSuch n_NW_NS s_NW_NS⟩
  ·rw[aX_NP]at h1;cases h1;rw[hb,show (("NoPaper":Str)=="NoSuch"||("NoSuch":Str)=="HearthError"||("NoSuch":Str)=="ValueError")=false by decide];exact⟨XK_NoPaper.exc,a9 XK_NoSuch n_NP_NS s_NP_NS⟩
  ·rw[aX_NS]at h1;cases h1;rw[hb,show (("NoSuch":Str)=="NoSuch"||("NoSuch":Str)=="HearthError"||("NoSuch":Str)=="ValueError")=true by decide];exact⟨XK_NoSuch.exc,fW⟩
  ·rw[aX_TM]at h1;cases h1;rw[hb,show (("TooMany":Str)=="NoSuch"||("NoSuch":Str)=="HearthError"||("NoSuch":Str)=="ValueError")=false by decide];exact⟨XK_TooMany.exc,a9 XK_NoSuch n_TM_NS s_TM_NS⟩
  ·rw[aX_NT]at h1;cases h1;rw[hb,show (("NoText":Str)=="NoSuch"||("NoSuch":Str)=="HearthError"||("NoSuch":Str)=="ValueError")=false by decide];exact⟨XK_NoText.exc,a9 XK_NoSuch n_NT_NS s_NT_NS⟩
  ·rw[aX_OR]at h1;cases h1;rw[hb,show (("OddRound":Str)=="NoSuch"||("NoSuch":Str)=="HearthError"||("NoSuch":Str)=="ValueError")=false by decide];exact⟨XK_OddRound.exc,a9 XK_NoSuch n_OR_NS s_OR_NS⟩),fY XK_NoSuch sN_NS⟩
 have is_NoText:cE K mg "NoText":=⟨C_NoText,mg_of X G aX_NT,λz=>(by cases z),(λn C b h1 h2=>by
  obtain⟨hm,hb⟩:=eR h2
  simp only[dS,aH4,aH6,aL7]at hm
  rcases hm with rfl|rfl|rfl|rfl|rfl|rfl|rfl|rfl|rfl|rfl|rfl|rfl
  ·rw[aX_BW]at h1;cases h1;rw[hb,show (("BadWeb":Str)=="NoText"||("NoText":Str)=="HearthError"||("NoText":Str)=="ValueError")=false by decide];exact⟨XK_BadWeb.exc,a9 XK_NoText n_BW_NT s_BW_NT⟩
  ·rw[aX_BS]at h1;cases h1;rw[hb,show (("BadSet":Str)=="NoText"||("NoText":Str)=="HearthError"||("NoText":Str)=="ValueError")=false by decide];exact⟨XK_BadSet.exc,a9 XK_NoText n_BS_NT s_BS_NT⟩
  ·rw[aX_BO]at h1;cases h1;rw[hb,show (("BadOrder":Str)=="NoText"||("NoText":Str)=="HearthError"||("NoText":Str)=="ValueError")=false by decide];exact⟨XK_BadOrder.exc,a9 XK_NoText n_BO_NT s_BO_NT⟩
  ·rw[aX_BP]at h1;cases h1;rw[hb,show (("BadPrices":Str)=="NoText"||("NoText":Str)=="HearthError"||("NoText":Str)=="ValueError")=false by decide];exact⟨XK_BadPrices.exc,a9 XK_NoText n_BP_NT s_BP_NT⟩
  ·rw[aX_BB]at h1;cases h1;rw[hb,show (("BadBoard":Str)=="NoText"||("NoText":Str)=="HearthError"||("NoText":Str)=="ValueError")=false by decide];exact⟨XK_BadBoard.exc,a9 XK_NoText n_BB_NT s_BB_NT⟩
  ·rw[aX_BD]at h1;cases h1;rw[hb,show (("BadDeed":Str)=="NoText"||("NoText":Str)=="HearthError"||("NoText":Str)=="ValueError")=false by decide];exact⟨XK_BadDeed.exc,a9 XK_NoText n_BD_NT s_BD_NT⟩
  ·rw[aX_NW]at h1;cases h1;rw[hb,show (("NotWood":Str)=="NoText"||("NoText":Str)=="HearthError"||("NoText":Str)=="ValueError")=false by decide];exact⟨XK_NotWood.exc,a9 XK_NoText n_NW_NT s_NW_NT⟩
  ·rw[aX_NP]at h1;cases h1;rw[hb,show (("NoPaper":Str)=="NoText"||("NoText":Str)=="HearthError"||("NoText":Str)=="ValueError")=false by decide];exact⟨XK_NoPaper.exc,a9 XK_NoText n_NP_NT s_NP_NT⟩
  ·rw[aX_NS]at h1;cases h1;rw[hb,show (("NoSuch":Str)=="NoText"||("NoText":Str)=="HearthError"||("NoText":Str)=="ValueError")=false by decide];exact⟨XK_NoSuch.exc,a9 XK_NoText n_NS_NT s_NS_NT⟩
  ·rw[aX_TM]at h1;cases h1;rw[hb,show (("TooMany":Str)=="NoText"||("NoText":Str)=="HearthError"||("NoText":Str)=="ValueError")=false by decide];exact⟨XK_TooMany.exc,a9 XK_NoText n_TM_NT s_TM_NT⟩
  ·rw[aX_NT]at h1;cases h1;rw[hb,show (("NoText":Str)=="NoText"||("NoText":Str)=="HearthError"||("NoText":Str)=="ValueError")=true by decide];exact⟨XK_NoText.exc,fW⟩
  ·rw[aX_OR]at h1;cases h1;rw[hb,show (("OddRound":Str)=="NoText"||("NoText":Str)=="HearthError"||("NoText":Str)=="ValueError")=false by decide];exact⟨XK_OddRound.exc,a9 XK_NoText n_OR_NT s_OR_NT⟩),fY XK_NoText sN_NT⟩
 have is_NotWood:cE K mg "NotWood":=⟨C_NotWood,mg_of X G aX_NW,λz=>(by cases z),(λn C b h1 h2=>by
  obtain⟨hm,hb⟩:=eR h2
  simp only[dS,aH4,aH6,aL7]at hm
  rcases hm with rfl|rfl|rfl|rfl|rfl|rfl|rfl|rfl|rfl|rfl|rfl|rfl
  ·rw[aX_BW]at h1;cases h1;rw[hb,show (("BadWeb":Str)=="NotWood"||("NotWood":Str)=="HearthError"||("NotWood":Str)=="ValueError")=false by decide];exact⟨XK_BadWeb.exc,a9 XK_NotWood n_BW_NW s_BW_NW⟩
  ·rw[aX_BS]at h1;cases h1;rw[hb,show (("BadSet":Str)=="NotWood"||("NotWood":Str)=="HearthError"||("NotWood":Str)=="ValueError")=false by decide];exact⟨XK_BadSet.exc,a9 XK_NotWood n_BS_NW s_BS_NW⟩
  ·rw[aX_BO]at h1;cases h1;rw[hb,show (("BadOrder":Str)=="NotWood"||("NotWood":Str)=="HearthError"||("NotWood":Str)=="ValueError")=false by decide];exact⟨XK_BadOrder.exc,a9 XK_NotWood n_BO_NW s_BO_NW⟩
  ·rw[aX_BP]at h1;cases h1;rw[hb,show (("BadPrices":Str)=="NotWood"||("NotWood":Str)=="HearthError"||("NotWood":Str)=="ValueError")=false by decide];exact⟨XK_BadPrices.exc,a9 XK_NotWood n_BP_NW s_BP_NW⟩
  ·rw[aX_BB]at h1;cases h1;rw[hb,show (("BadBoard":Str)=="NotWood"||("NotWood":Str)=="HearthError"||("NotWood":Str)=="ValueError")=false by decide];exact⟨XK_BadBoard.exc,a9 XK_NotWood n_BB_NW s_BB_NW⟩
  ·rw[aX_BD]at h1;cases h1;rw[hb,show (("BadDeed":Str)=="NotWood"||("NotWood":Str)=="HearthError"||("NotWood":Str)=="ValueError")=false by decide];exact⟨XK_BadDeed.exc,a9 XK_NotWood n_BD_NW s_BD_NW⟩
  ·rw[aX_NW]at h1;cases h1;rw[hb,show (("NotWood":Str)=="NotWood"||("NotWood":Str)=="HearthError"||("NotWood":Str)=="ValueError")=true by decide];exact⟨XK_NotWood.exc,fW⟩
  ·rw[aX_NP]at h1;cases h1;rw[hb,show (("NoPaper":Str)=="NotWood"||("NotWood":Str)=="HearthError"||("NotWood":Str)=="ValueError")=false by decide];exact⟨XK_NoPaper.exc,a9 XK_NotWood n_NP_NW s_NP_NW⟩
  ·rw[aX_NS]at h1;cases h1;rw[hb,show (("NoSuch":Str)=="NotWood"||("NotWood":Str)=="HearthError"||("NotWood":Str)=="ValueError")=false by decide];exact⟨XK_NoSuch.exc,a9 XK_NotWood n_NS_NW s_NS_NW⟩
  ·rw[aX_TM]at h1;cases h1;rw[hb,show (("TooMany":Str)=="NotWood"||("NotWood":Str)=="HearthError"||("NotWood":Str)=="ValueError")=false by decide];exact⟨XK_TooMany.exc,a9 XK_NotWood n_TM_NW s_TM_NW⟩
  ·rw[aX_NT]at h1;cases h1;rw[hb,show (("NoText":Str)=="NotWood"||("NotWood":Str)=="HearthError"||("NotWood":Str)=="ValueError")=false by decide];exact⟨XK_NoText.exc,a9 XK_NotWood n_NT_NW s_NT_NW⟩
  ·rw[aX_OR]at h1;cases h1;rw[hb,show (("OddRound":Str)=="NotWood"||("NotWood":Str)=="HearthError"||("NotWood":Str)=="ValueError")=false by decide];exact⟨XK_OddRound.exc,a9 XK_NotWood n_OR_NW s_OR_NW⟩),fY XK_NotWood sN_NW⟩
 have is_OddRound:cE K mg "OddRound":=⟨C_OddRound,mg_of X G aX_OR,λz=>(by cases z),(λn C b h1 h2=>by
  obtain⟨hm,hb⟩:=eR h2
  simp only[dS,aH4,aH6,aL7]at hm
  rcases hm with rfl|rfl|rfl|rfl|rfl|rfl|rfl|rfl|rfl|rfl|rfl|rfl
  ·rw[aX_BW]at h1;cases h1;rw[hb,show (("BadWeb":Str)=="OddRound"||("OddRound":Str)=="HearthError"||("OddRound":Str)=="ValueError")=false by decide];exact⟨XK_BadWeb.exc,a9 XK_OddRound n_BW_OR s_BW_OR⟩
  ·rw[aX_BS]at h1;cases h1;rw[hb,show (("BadSet":Str)=="OddRound"||("OddRound":Str)=="HearthError"||("OddRound":Str)=="ValueError")=false by decide];exact⟨XK_BadSet.exc,a9 XK_OddRound n_BS_OR s_BS_OR⟩
  ·rw[aX_BO]at h1;cases h1;rw[hb,show (("BadOrder":Str)=="OddRound"||("OddRound":Str)=="HearthError"||("OddRound":Str)=="ValueError")=false by decide];exact⟨XK_BadOrder.exc,a9 XK_OddRound n_BO_OR s_BO_OR⟩
  ·rw[aX_BP]at h1;cases h1;rw[hb,show (("BadPrices":Str)=="OddRound"||("OddRound":Str)=="HearthError"||("OddRound":Str)=="ValueError")=false by decide];exact⟨XK_BadPrices.exc,a9 XK_OddRound n_BP_OR s_BP_OR⟩
  ·rw[aX_BB]at h1;cases h1;rw[hb,show (("BadBoard":Str)=="OddRound"||("OddRound":Str)=="HearthError"||("OddRound":Str)=="ValueError")=false by decide];exact⟨XK_BadBoard.exc,a9 XK_OddRound n_BB_OR s_BB_OR⟩
  ·rw[aX_BD]at h1;cases h1;rw[hb,show (("BadDeed":Str)=="OddRound"||("OddRound":Str)=="HearthError"||("OddRound":Str)=="ValueError")=false by decide];exact⟨XK_BadDeed.exc,a9 XK_OddRound n_BD_OR s_BD_OR⟩
  ·rw[aX_NW]at h1;cases h1;rw[hb,show (("NotWood":Str)=="OddRound"||("OddRound":Str)=="HearthError"||("OddRound":Str)=="ValueError")=false by decide];exact⟨XK_NotWood.exc,a9 XK_OddRound n_NW_OR s_NW_OR⟩
  ·rw[aX_NP]at h1;cases h1;rw[hb,show (("NoPaper":Str)=="OddRound"||("OddRound":Str)=="HearthError"||("OddRound":Str)=="ValueError")=false by decide];exact⟨XK_NoPaper.exc,a9 XK_OddRound n_NP_OR s_NP_OR⟩
  ·rw[aX_NS]at h1;cases h1;rw[hb,show (("NoSuch":Str)=="OddRound"||("OddRound":Str)=="HearthError"||("OddRound":Str)=="ValueError")=false by decide];exact⟨XK_NoSuch.exc,a9 XK_OddRound n_NS_OR s_NS_OR⟩
  ·rw[aX_TM]at h1;cases h1;rw[hb,show (("TooMany":Str)=="OddRound"||("OddRound":Str)=="HearthError"||("OddRound":Str)=="ValueError")=false by decide];exact⟨XK_TooMany.exc,a9 XK_OddRound n_TM_OR s_TM_OR⟩
  ·rw[aX_NT]at h1;cases h1;rw[hb,show (("NoText":Str)=="OddRound"||("OddRound":Str)=="HearthError"||("OddRound":Str)=="ValueError")=false by decide];exact⟨XK_NoText.exc,a9 XK_OddRound n_NT_OR s_NT_OR⟩
  ·rw[aX_OR]at h1;cases h1;rw[hb,show (("OddRound":Str)=="OddRound"||("OddRound":Str)=="HearthError"||("OddRound":Str)=="ValueError")=true by decide];exact⟨XK_OddRound.exc,fW⟩),fY XK_OddRound sN_OR⟩
 have is_TooMany:cE K mg "TooMany":=⟨C_TooMany,mg_of X G aX_TM,λz=>(by cases z),(λn C b h1 h2=>by
  obtain⟨hm,hb⟩:=eR h2
  simp only[dS,aH4,aH6,aL7]at hm
  rcases hm with rfl|rfl|rfl|rfl|rfl|rfl|rfl|rfl|rfl|rfl|rfl|rfl
  ·rw[aX_BW]at h1;cases h1;rw[hb,show (("BadWeb":Str)=="TooMany"||("TooMany":Str)=="HearthError"||("TooMany":Str)=="ValueError")=false by decide];exact⟨XK_BadWeb.exc,a9 XK_TooMany n_BW_TM s_BW_TM⟩
  ·rw[aX_BS]at h1;cases h1;rw[hb,show (("BadSet":Str)=="TooMany"||("TooMany":Str)=="HearthError"||("TooMany":Str)=="ValueError")=false by decide];exact⟨XK_BadSet.exc,a9 XK_TooMany n_BS_TM s_BS_TM⟩
  ·rw[aX_BO]at h1;cases h1;rw[hb,show (("BadOrder":Str)=="TooMany"||("TooMany":Str)=="HearthError"||("TooMany":Str)=="ValueError")=false by decide];exact⟨XK_BadOrder.exc,a9 XK_TooMany n_BO_TM s_BO_TM⟩
  ·rw[aX_BP]at h1;cases h1;rw[hb,show (("BadPrices":Str)=="TooMany"||("TooMany":Str)=="HearthError"||("TooMany":Str)=="ValueError")=false by decide];exact⟨XK_BadPrices.exc,a9 XK_TooMany n_BP_TM s_BP_TM⟩
  ·rw[aX_BB]at h1;cases h1;rw[hb,show (("BadBoard":Str)=="TooMany"||("TooMany":Str)=="HearthError"||("TooMany":Str)=="ValueError")=false by decide];exact⟨XK_BadBoard.exc,a9 XK_TooMany n_BB_TM s_BB_TM⟩
  ·rw[aX_BD]at h1;cases h1;rw[hb,show (("BadDeed":Str)=="TooMany"||("TooMany":Str)=="HearthError"||("TooMany":Str)=="ValueError")=false by decide];exact⟨XK_BadDeed.exc,a9 XK_TooMany n_BD_TM s_BD_TM⟩
  ·rw[aX_NW]at h1;cases h1;rw[hb,show (("NotWood":Str)=="TooMany"||("TooMany":Str)=="HearthError"||("TooMany":Str)=="ValueError")=false by decide];exact⟨XK_NotWood.exc,a9 XK_TooMany n_NW_TM s_NW_TM⟩
  ·rw[aX_NP]at h1;cases h1;rw[hb,show (("NoPaper":Str)=="TooMany"||("TooMany":Str)=="HearthError"||("TooMany":Str)=="ValueError")=false by decide];exact⟨XK_NoPaper.exc,a9 XK_TooMany n_NP_TM s_NP_TM⟩
  ·rw[aX_NS]at h1;cases h1;rw[hb,show (("NoSuch":Str)=="TooMany"||("TooMany":Str)=="HearthError"||("TooMany":Str)=="ValueError")=false by decide];exact⟨XK_NoSuch.exc,a9 XK_TooMany n_NS_TM s_NS_TM⟩
  ·rw[aX_TM]at h1;cases h1;rw[hb,show (("TooMany":Str)=="TooMany"||("TooMany":Str)=="HearthError"||("TooMany":Str)=="ValueError")=true by decide];exact⟨XK_TooMany.exc,fW⟩
  ·rw[aX_NT]at h1;cases h1;rw[hb,show (("NoText":Str)=="TooMany"||("TooMany":Str)=="HearthError"||("TooMany":Str)=="ValueError")=false by decide];exact⟨XK_NoText.exc,a9 XK_TooMany n_NT_TM s_NT_TM⟩
  ·rw[aX_OR]at h1;cases h1;rw[hb,show (("OddRound":Str)=="TooMany"||("TooMany":Str)=="HearthError"||("TooMany":Str)=="ValueError")=false by decide];exact⟨XK_OddRound.exc,a9 XK_TooMany n_OR_TM s_OR_TM⟩),fY XK_TooMany sN_TM⟩
 have is_ValueError:u5 K mg:=⟨mg_none_of X G z_VE,λz=>(by cases z),(λn C b h1 h2=>by
  obtain⟨hm,hb⟩:=eR h2
  simp only[dS,aH4,aH6,aL7]at hm
  rcases hm with rfl|rfl|rfl|rfl|rfl|rfl|rfl|rfl|rfl|rfl|rfl|rfl
  ·rw[aX_BW]at h1;cases h1;rw[hb,show (("BadWeb":Str)=="ValueError"||("ValueError":Str)=="HearthError"||("ValueError":Str)=="ValueError")=true by decide];exact⟨XK_BadWeb.exc,fX sV_BW⟩
  ·rw[aX_BS]at h1;cases h1;rw[hb,show (("BadSet":Str)=="ValueError"||("ValueError":Str)=="HearthError"||("ValueError":Str)=="ValueError")=true by decide];exact⟨XK_BadSet.exc,fX sV_BS⟩
  ·rw[aX_BO]at h1;cases h1;rw[hb,show (("BadOrder":Str)=="ValueError"||("ValueError":Str)=="HearthError"||("ValueError":Str)=="ValueError")=true by decide];exact⟨XK_BadOrder.exc,fX sV_BO⟩
  ·rw[aX_BP]at h1;cases h1;rw[hb,show (("BadPrices":Str)=="ValueError"||("ValueError":Str)=="HearthError"||("ValueError":Str)=="ValueError")=true by decide];exact⟨XK_BadPrices.exc,fX sV_BP⟩
  ·rw[aX_BB]at h1;cases h1;rw[hb,show (("BadBoard":Str)=="ValueError"||("ValueError":Str)=="HearthError"||("ValueError":Str)=="ValueError")=true by decide];exact⟨XK_BadBoard.exc,fX sV_BB⟩
  ·rw[aX_BD]at h1;cases h1;rw[hb,show (("BadDeed":Str)=="ValueError"||("ValueError":Str)=="HearthError"||("ValueError":Str)=="ValueError")=true by decide];exact⟨XK_BadDeed.exc,fX sV_BD⟩
  ·rw[aX_NW]at h1;cases h1;rw[hb,show (("NotWood":Str)=="ValueError"||("ValueError":Str)=="HearthError"||("ValueError":Str)=="ValueError")=true by decide];exact⟨XK_NotWood.exc,fX sV_NW⟩
  ·rw[aX_NP]at h1;cases h1;rw[hb,show (("NoPaper":Str)=="ValueError"||("ValueError":Str)=="HearthError"||("ValueError":Str)=="ValueError")=true by decide];exact⟨XK_NoPaper.exc,fX sV_NP⟩
  ·rw[aX_NS]at h1;cases h1;rw[hb,show (("NoSuch":Str)=="ValueError"||("ValueError":Str)=="HearthError"||("ValueError":Str)=="ValueError")=true by decide];exact⟨XK_NoSuch.exc,fX sV_NS⟩
  ·rw[aX_TM]at h1;cases h1;rw[hb,show (("TooMany":Str)=="ValueError"||("ValueError":Str)=="HearthError"||("ValueError":Str)=="ValueError")=true by decide];exact⟨XK_TooMany.exc,fX sV_TM⟩
  ·rw[aX_NT]at h1;cases h1;rw[hb,show (("NoText":Str)=="ValueError"||("ValueError":Str)=="HearthError"||("ValueError":Str)=="ValueError")=true by decide];exact⟨XK_NoText.exc,fX sV_NT⟩
  ·rw[aX_OR]at h1;cases h1;rw[hb,show (("OddRound":Str)=="ValueError"||("ValueError":Str)=="HearthError"||("ValueError":Str)=="ValueError")=true by decide];exact⟨XK_OddRound.exc,fX sV_OR⟩),au7⟩
 have x_BadWeb:Xc K mg base "BadWeb":=⟨C_BadWeb,_,_,_,_,au6 KB (mg_of X G aX_BW) q_BW,PySem.F.excBase_ValueError,aX_BW⟩
 have D0:=aE3 (P:=l.prog) (w:=w) (base:=base) B (h0.M X G)  x_BadWeb
 have D1:=aE5 (P:=l.prog) (w:=w) (base:=base) B (h1.M X G)
 have D2:=aE7 (P:=l.prog) (w:=w) (base:=base) B (h2.M X G)
 have D3:=aE9 (P:=l.prog) (w:=w) (base:=base) B (h3.M X G)
 have D4:=aF0 (P:=l.prog) (w:=w) (base:=base) B (h4.M X G)
 have D5:=aF1 (P:=l.prog) (w:=w) (base:=base) B (h5.M X G)
 have D6:=aF3 (P:=l.prog) (w:=w) (base:=base) B (h6.M X G)
 have D7:=aF4 (P:=l.prog) (w:=w) (base:=base) B (h7.M X G)
 have D8:=aF5 (P:=l.prog) (w:=w) (base:=base) B h8.F (mg_of X G h8.a)
 have D9:=aF6 (P:=l.prog) (w:=w) (base:=base) B h9.F (mg_of X G h9.a) D0 D1 x_BadWeb m_MOST_HEARTHS m_MOST_WANTED
 have D10:=aF7 (P:=l.prog) (w:=w) (base:=base) B (h10.M X G) D5 D3 D4
 have D11:=aF8 (P:=l.prog) (w:=w) (base:=base) B (h11.M X G) D6
 have D12:=aF9 (P:=l.prog) (w:=w) (base:=base) B (h12.M X G) D11
 have D13:=aG0 (P:=l.prog) (w:=w) (base:=base) B (h13.M X G) D9 cat_HearthError is_BadWeb is_BadSet is_BadOrder is_BadPrices is_BadBoard is_BadDeed is_NotWood is_NoPaper is_NoSuch is_TooMany is_NoText is_OddRound is_ValueError
 exact aq5 (aG1 B F14 D3 D10 D7 D8 D13 D9 D12 D6 D2)
theorem aG3 {l:OpenLaw}{q:Program}{loose:List Str}{XP:(Str->Option Value)->Heap->Prop}{YP:World->Heap->Prop}{d:DefRec}{K:Params->Frag}(hn:l.most=some 63)(hdf:d.params.defaults = [])(hY:∀(w:World) (h:Heap),YP w h->(K w.params).In h)(F:∀(w:World) (mg:Str->Option Value) (fa:Addr) (h:Heap),(K w.params).In h->h.Ns mainGlobals mg->mg d.name=some (.ref fa)->
   ∃fd:FuncData,(∀(s:Shared) (u:Value),BindsTo s fd ⟨[u],[]⟩ [("script",u)])/\∀base:Heap,(K w.params).In base->base.Ns mainGlobals mg->cR l.prog w (K w.params) mg base dM 4 fa fd ["script"] (pQ (K w.params))) :
  WalkO q loose XP YP l.row.toRowW d [] (λf vs=>PySem.call f vs):=
 L2.Z4 (n:=63) (k:=4) (x:="script") (CX:=λ_=>dM) (sp:=λw=>pQ (K w.params)) hn (by decide) hdf ⟨rfl,by decide,by decide⟩ hY F (λ_ _ a ns hl hO hS=>⟨a,ns,rfl,aq6 hO hS,hl,λ_=>rfl⟩) λ_ _ _ _ _ z=>z
end K_k01
open PySem PySem.W PyProof.Rows
theorem PySem.W.Fast.te13052408679150730464 : True := trivial
theorem PySem.W.Fast.te16555476440528808052 : True := trivial
theorem PySem.W.Fast.te5369427470323729400 : True := trivial
set_option maxRecDepth 100000 in
set_option maxHeartbeats 0 in
theorem PySem.Challenge.cw_kindleweb_k01_webs_made_holds : PySem.Challenge.rw_kindleweb_k01_webs_made.Holds := by
 w_on;o_law;k_head;(case hw => w_witness2)
 k_fill
 refine K_k01.aG3 (l := PySem.Challenge.rw_kindleweb_k01_webs_made) rfl rfl (λw h Y => PySem.W.kIn_of Y) ?F
 case F =>
  intro w mg fa h KX G hmg
  refine' K_k01.aG2 KX G hmg ?h0 ?h1 ?h2 ?h3 ?h4 ?h5 ?h6 ?h7 ?h8 ?h9 ?h10 ?h11 ?h12 ?h13 ?a14 ?l14 ?c14 ?k14 ?z_len ?z_range ?z_tuple ?z_list ?z_sorted ?z_all ?z_any ?z_zip ?z_min ?z_max ?z_sum ?z_isinstance ?z_int ?z_bool ?z_enumerate ?z_MOST_HEARTHSx ?z_MOST_WANTEDx ?aX_HE ?aX_BW ?aX_BS ?aX_BO ?aX_BP ?aX_BB ?aX_BD ?aX_NW ?aX_NP ?aX_NS ?aX_TM ?aX_NT ?aX_OR ?y_fg ?y_ft ?z_VE ?y1_HE ?y2_HE ?y3_HE ?y4_HE ?y5_HE ?y6_HE ?y7_HE ?y1_BW ?y2_BW ?y3_BW ?y4_BW ?y5_BW ?y6_BW ?y7_BW ?y1_BS ?y2_BS ?y3_BS ?y4_BS ?y5_BS ?y6_BS ?y7_BS ?y1_BO ?y2_BO ?y3_BO ?y4_BO ?y5_BO ?y6_BO ?y7_BO ?y1_BP ?y2_BP ?y3_BP ?y4_BP ?y5_BP ?y6_BP ?y7_BP ?y1_BB ?y2_BB ?y3_BB ?y4_BB ?y5_BB ?y6_BB ?y7_BB ?y1_BD ?y2_BD ?y3_BD ?y4_BD ?y5_BD ?y6_BD ?y7_BD ?y1_NW ?y2_NW ?y3_NW ?y4_NW ?y5_NW ?y6_NW ?y7_NW ?y1_NP ?y2_NP ?y3_NP ?y4_NP ?y5_NP ?y6_NP ?y7_NP ?y1_NS ?y2_NS ?y3_NS ?y4_NS ?y5_NS ?y6_NS ?y7_NS ?y1_TM ?y2_TM ?y3_TM ?y4_TM ?y5_TM ?y6_TM ?y7_TM ?y1_NT ?y2_NT ?y3_NT ?y4_NT ?y5_NT ?y6_NT ?y7_NT ?y1_OR ?y2_OR ?y3_OR ?y4_OR ?y5_OR ?y6_OR ?y7_OR ?sB_HE ?s_BW_HE ?s_BS_HE ?s_BO_HE ?s_BP_HE ?s_BB_HE ?s_BD_HE ?s_NW_HE ?s_NP_HE ?s_NS_HE ?s_TM_HE ?s_NT_HE ?s_OR_HE ?sN_BB ?s_BW_BB ?n_BW_BB ?s_BS_BB ?n_BS_BB ?s_BO_BB ?n_BO_BB ?s_BP_BB ?n_BP_BB ?s_BD_BB ?n_BD_BB ?s_NW_BB ?n_NW_BB ?s_NP_BB ?n_NP_BB ?s_NS_BB ?n_NS_BB ?s_TM_BB ?n_TM_BB ?s_NT_BB ?n_NT_BB ?s_OR_BB ?n_OR_BB ?sN_BD ?s_BW_BD ?n_BW_BD ?s_BS_BD ?n_BS_BD ?s_BO_BD ?n_BO_BD ?s_BP_BD ?n_BP_BD ?s_BB_BD ?n_BB_BD ?s_NW_BD ?n_NW_BD ?s_NP_BD ?n_NP_BD ?s_NS_BD ?n_NS_BD ?s_TM_BD ?n_TM_BD ?s_NT_BD ?n_NT_BD ?s_OR_BD ?n_OR_BD ?sN_BO ?s_BW_BO ?n_BW_BO ?s_BS_BO ?n_BS_BO ?s_BP_BO ?n_BP_BO ?s_BB_BO ?n_BB_BO ?s_BD_BO ?n_BD_BO ?s_NW_BO ?n_NW_BO ?s_NP_BO ?n_NP_BO ?s_NS_BO ?n_NS_BO ?s_TM_BO ?n_TM_BO ?s_NT_BO ?n_NT_BO ?s_OR_BO ?n_OR_BO ?sN_BP ?s_BW_BP ?n_BW_BP ?s_BS_BP ?n_BS_BP ?s_BO_BP ?n_BO_BP ?s_BB_BP ?n_BB_BP ?s_BD_BP ?n_BD_BP ?s_NW_BP ?n_NW_BP ?s_NP_BP ?n_NP_BP ?s_NS_BP ?n_NS_BP ?s_TM_BP ?n_TM_BP ?s_NT_BP ?n_NT_BP ?s_OR_BP ?n_OR_BP ?sN_BS ?s_BW_BS ?n_BW_BS ?s_BO_BS ?n_BO_BS ?s_BP_BS ?n_BP_BS ?s_BB_BS ?n_BB_BS ?s_BD_BS ?n_BD_BS ?s_NW_BS ?n_NW_BS ?s_NP_BS ?n_NP_BS ?s_NS_BS ?n_NS_BS ?s_TM_BS ?n_TM_BS ?s_NT_BS ?n_NT_BS ?s_OR_BS ?n_OR_BS ?sN_BW ?s_BS_BW ?n_BS_BW ?s_BO_BW ?n_BO_BW ?s_BP_BW ?n_BP_BW ?s_BB_BW ?n_BB_BW ?s_BD_BW ?n_BD_BW ?s_NW_BW ?n_NW_BW ?s_NP_BW ?n_NP_BW ?s_NS_BW ?n_NS_BW ?s_TM_BW ?n_TM_BW ?s_NT_BW ?n_NT_BW ?s_OR_BW ?n_OR_BW ?sN_NP ?s_BW_NP ?n_BW_NP ?s_BS_NP ?n_BS_NP ?s_BO_NP ?n_BO_NP ?s_BP_NP ?n_BP_NP ?s_BB_NP ?n_BB_NP ?s_BD_NP ?n_BD_NP ?s_NW_NP ?n_NW_NP ?s_NS_NP ?n_NS_NP ?s_TM_NP ?n_TM_NP ?s_NT_NP ?n_NT_NP ?s_OR_NP ?n_OR_NP ?sN_NS ?s_BW_NS ?n_BW_NS ?s_BS_NS ?n_BS_NS ?s_BO_NS ?n_BO_NS ?s_BP_NS ?n_BP_NS ?s_BB_NS ?n_BB_NS ?s_BD_NS ?n_BD_NS ?s_NW_NS ?n_NW_NS ?s_NP_NS ?n_NP_NS ?s_TM_NS ?n_TM_NS ?s_NT_NS ?n_NT_NS ?s_OR_NS ?n_OR_NS ?sN_NT ?s_BW_NT ?n_BW_NT ?s_BS_NT ?n_BS_NT ?s_BO_NT ?n_BO_NT ?s_BP_NT ?n_BP_NT ?s_BB_NT ?n_BB_NT ?s_BD_NT ?n_BD_NT ?s_NW_NT ?n_NW_NT ?s_NP_NT ?n_NP_NT ?s_NS_NT ?n_NS_NT ?s_TM_NT ?n_TM_NT ?s_OR_NT ?n_OR_NT ?sN_NW ?s_BW_NW ?n_BW_NW ?s_BS_NW ?n_BS_NW ?s_BO_NW ?n_BO_NW ?s_BP_NW ?n_BP_NW ?s_BB_NW ?n_BB_NW ?s_BD_NW ?n_BD_NW ?s_NP_NW ?n_NP_NW ?s_NS_NW ?n_NS_NW ?s_TM_NW ?n_TM_NW ?s_NT_NW ?n_NT_NW ?s_OR_NW ?n_OR_NW ?sN_OR ?s_BW_OR ?n_BW_OR ?s_BS_OR ?n_BS_OR ?s_BO_OR ?n_BO_OR ?s_BP_OR ?n_BP_OR ?s_BB_OR ?n_BB_OR ?s_BD_OR ?n_BD_OR ?s_NW_OR ?n_NW_OR ?s_NP_OR ?n_NP_OR ?s_NS_OR ?n_NS_OR ?s_TM_OR ?n_TM_OR ?s_NT_OR ?n_NT_OR ?sN_TM ?s_BW_TM ?n_BW_TM ?s_BS_TM ?n_BS_TM ?s_BO_TM ?n_BO_TM ?s_BP_TM ?n_BP_TM ?s_BB_TM ?n_BB_TM ?s_BD_TM ?n_BD_TM ?s_NW_TM ?n_NW_TM ?s_NP_TM ?n_NP_TM ?s_NS_TM ?n_NS_TM ?s_NT_TM ?n_NT_TM ?s_OR_TM ?n_OR_TM ?sV_BW ?sV_BS ?sV_BO ?sV_BP ?sV_BB ?sV_BD ?sV_NW ?sV_NP ?sV_NS ?sV_TM ?sV_NT ?sV_OR ?q_BW
  (case h0|h1|h2|h3|h4|h5|h6|h7|h8|h9|h10|h11|h12|h13 => exact⟨by k_is, ⟨⟨_, _, _, _, _, _, _, _, _, rfl, by k_is, by k_is⟩, by k_is⟩⟩)
  (case a14|l14|c14|k14|z_len|z_range|z_tuple|z_list|z_sorted|z_all|z_any|z_zip|z_min|z_max|z_sum|z_isinstance|z_int|z_bool|z_enumerate|z_MOST_HEARTHSx|z_MOST_WANTEDx|aX_HE|aX_BW|aX_BS|aX_BO|aX_BP|aX_BB|aX_BD|aX_NW|aX_NP|aX_NS|aX_TM|aX_NT|aX_OR|y_fg|y_ft|z_VE|y1_HE|y2_HE|y3_HE|y4_HE|y5_HE|y6_HE|y7_HE|y1_BW|y2_BW|y3_BW|y4_BW|y5_BW|y6_BW|y7_BW|y1_BS|y2_BS|y3_BS|y4_BS|y5_BS|y6_BS|y7_BS|y1_BO|y2_BO|y3_BO|y4_BO|y5_BO|y6_BO|y7_BO|y1_BP|y2_BP|y3_BP|y4_BP|y5_BP|y6_BP|y7_BP|y1_BB|y2_BB|y3_BB|y4_BB|y5_BB|y6_BB|y7_BB|y1_BD|y2_BD|y3_BD|y4_BD|y5_BD|y6_BD|y7_BD|y1_NW|y2_NW|y3_NW|y4_NW|y5_NW|y6_NW|y7_NW|y1_NP|y2_NP|y3_NP|y4_NP|y5_NP|y6_NP|y7_NP|y1_NS|y2_NS|y3_NS|y4_NS|y5_NS|y6_NS|y7_NS|y1_TM|y2_TM|y3_TM|y4_TM|y5_TM|y6_TM|y7_TM|y1_NT|y2_NT|y3_NT|y4_NT|y5_NT|y6_NT|y7_NT|y1_OR|y2_OR|y3_OR|y4_OR|y5_OR|y6_OR|y7_OR|sB_HE|s_BW_HE|s_BS_HE|s_BO_HE|s_BP_HE|s_BB_HE|s_BD_HE|s_NW_HE|s_NP_HE|s_NS_HE|s_TM_HE|s_NT_HE|s_OR_HE|sN_BB|s_BW_BB => k_is)
  (case n_BW_BB => decide)
  (case s_BS_BB => k_is)
  (case n_BS_BB => decide)
  (case s_BO_BB => k_is)
  (case n_BO_BB => decide)
  (case s_BP_BB => k_is)
  (case n_BP_BB => decide)
  (case s_BD_BB => k_is)
  (case n_BD_BB => decide)
  (case s_NW_BB => k_is)
  (case n_NW_BB => decide)
  (case s_NP_BB => k_is)
  (case n_NP_BB => decide)
  (case s_NS_BB => k_is)
  (case n_NS_BB => decide)
  (case s_TM_BB => k_is)
  (case n_TM_BB => decide)
  (case s_NT_BB => k_is)
  (case n_NT_BB => decide)
  (case s_OR_BB => k_is)
  (case n_OR_BB => decide)
  (case sN_BD|s_BW_BD => k_is)
  (case n_BW_BD => decide)
  (case s_BS_BD => k_is)
  (case n_BS_BD => decide)
  (case s_BO_BD => k_is)
  (case n_BO_BD => decide)
  (case s_BP_BD => k_is)
  (case n_BP_BD => decide)
  (case s_BB_BD => k_is)
  (case n_BB_BD => decide)
  (case s_NW_BD => k_is)
  (case n_NW_BD => decide)
  (case s_NP_BD => k_is)
  (case n_NP_BD => decide)
  (case s_NS_BD => k_is)
  (case n_NS_BD => decide)
  (case s_TM_BD => k_is)
  (case n_TM_BD => decide)
  (case s_NT_BD => k_is)
  (case n_NT_BD => decide)
  (case s_OR_BD => k_is)
  (case n_OR_BD => decide)
  (case sN_BO|s_BW_BO => k_is)
  (case n_BW_BO => decide)
  (case s_BS_BO => k_is)
  (case n_BS_BO => decide)
  (case s_BP_BO => k_is)
  (case n_BP_BO => decide)
  (case s_BB_BO => k_is)
  (case n_BB_BO => decide)
  (case s_BD_BO => k_is)
  (case n_BD_BO => decide)
  (case s_NW_BO => k_is)
  (case n_NW_BO => decide)
  (case s_NP_BO => k_is)
  (case n_NP_BO => decide)
  (case s_NS_BO => k_is)
  (case n_NS_BO => decide)
  (case s_TM_BO => k_is)
  (case n_TM_BO => decide)
  (case s_NT_BO => k_is)
  (case n_NT_BO => decide)
  (case s_OR_BO => k_is)
  (case n_OR_BO => decide)
  (case sN_BP|s_BW_BP => k_is)
  (case n_BW_BP => decide)
  (case s_BS_BP => k_is)
  (case n_BS_BP => decide)
  (case s_BO_BP => k_is)
  (case n_BO_BP => decide)
  (case s_BB_BP => k_is)
  (case n_BB_BP => decide)
  (case s_BD_BP => k_is)
  (case n_BD_BP => decide)
  (case s_NW_BP => k_is)
  (case n_NW_BP => decide)
  (case s_NP_BP => k_is)
  (case n_NP_BP => decide)
  (case s_NS_BP => k_is)
  (case n_NS_BP => decide)
  (case s_TM_BP => k_is)
  (case n_TM_BP => decide)
  (case s_NT_BP => k_is)
  (case n_NT_BP => decide)
  (case s_OR_BP => k_is)
  (case n_OR_BP => decide)
  (case sN_BS|s_BW_BS => k_is)
  (case n_BW_BS => decide)
  (case s_BO_BS => k_is)
  (case n_BO_BS => decide)
  (case s_BP_BS => k_is)
  (case n_BP_BS => decide)
  (case s_BB_BS => k_is)
  (case n_BB_BS => decide)
  (case s_BD_BS => k_is)
  (case n_BD_BS => decide)
  (case s_NW_BS => k_is)
  (case n_NW_BS => decide)
  (case s_NP_BS => k_is)
  (case n_NP_BS => decide)
  (case s_NS_BS => k_is)
  (case n_NS_BS => decide)
  (case s_TM_BS => k_is)
  (case n_TM_BS => decide)
  (case s_NT_BS => k_is)
  (case n_NT_BS => decide)
  (case s_OR_BS => k_is)
  (case n_OR_BS => decide)
  (case sN_BW|s_BS_BW => k_is)
  (case n_BS_BW => decide)
  (case s_BO_BW => k_is)
  (case n_BO_BW => decide)
  (case s_BP_BW => k_is)
  (case n_BP_BW => decide)
  (case s_BB_BW => k_is)
  (case n_BB_BW => decide)
  (case s_BD_BW => k_is)
  (case n_BD_BW => decide)
  (case s_NW_BW => k_is)
  (case n_NW_BW => decide)
  (case s_NP_BW => k_is)
  (case n_NP_BW => decide)
  (case s_NS_BW => k_is)
  (case n_NS_BW => decide)
  (case s_TM_BW => k_is)
  (case n_TM_BW => decide)
  (case s_NT_BW => k_is)
  (case n_NT_BW => decide)
  (case s_OR_BW => k_is)
  (case n_OR_BW => decide)
  (case sN_NP|s_BW_NP => k_is)
  (case n_BW_NP => decide)
  (case s_BS_NP => k_is)
  (case n_BS_NP => decide)
  (case s_BO_NP => k_is)
  (case n_BO_NP => decide)
  (case s_BP_NP => k_is)
  (case n_BP_NP => decide)
  (case s_BB_NP => k_is)
  (case n_BB_NP => decide)
  (case s_BD_NP => k_is)
  (case n_BD_NP => decide)
  (case s_NW_NP => k_is)
  (case n_NW_NP => decide)
  (case s_NS_NP => k_is)
  (case n_NS_NP => decide)
  (case s_TM_NP => k_is)
  (case n_TM_NP => decide)
  (case s_NT_NP => k_is)
  (case n_NT_NP => decide)
  (case s_OR_NP => k_is)
  (case n_OR_NP => decide)
  (case sN_NS|s_BW_NS => k_is)
  (case n_BW_NS => decide)
  (case s_BS_NS => k_is)
  (case n_BS_NS => decide)
  (case s_BO_NS => k_is)
  (case n_BO_NS => decide)
  (case s_BP_NS => k_is)
  (case n_BP_NS => decide)
  (case s_BB_NS => k_is)
  (case n_BB_NS => decide)
  (case s_BD_NS => k_is)
  (case n_BD_NS => decide)
  (case s_NW_NS => k_is)
  (case n_NW_NS => decide)
  (case s_NP_NS => k_is)
  (case n_NP_NS => decide)
  (case s_TM_NS => k_is)
  (case n_TM_NS => decide)
  (case s_NT_NS => k_is)
  (case n_NT_NS => decide)
  (case s_OR_NS => k_is)
  (case n_OR_NS => decide)
  (case sN_NT|s_BW_NT => k_is)
  (case n_BW_NT => decide)
  (case s_BS_NT => k_is)
  (case n_BS_NT => decide)
  (case s_BO_NT => k_is)
  (case n_BO_NT => decide)
  (case s_BP_NT => k_is)
  (case n_BP_NT => decide)
  (case s_BB_NT => k_is)
  (case n_BB_NT => decide)
  (case s_BD_NT => k_is)
  (case n_BD_NT => decide)
  (case s_NW_NT => k_is)
  (case n_NW_NT => decide)
  (case s_NP_NT => k_is)
  (case n_NP_NT => decide)
  (case s_NS_NT => k_is)
  (case n_NS_NT => decide)
  (case s_TM_NT => k_is)
  (case n_TM_NT => decide)
  (case s_OR_NT => k_is)
  (case n_OR_NT => decide)
  (case sN_NW|s_BW_NW => k_is)
  (case n_BW_NW => decide)
  (case s_BS_NW => k_is)
  (case n_BS_NW => decide)
  (case s_BO_NW => k_is)
  (case n_BO_NW => decide)
  (case s_BP_NW => k_is)
  (case n_BP_NW => decide)
  (case s_BB_NW => k_is)
  (case n_BB_NW => decide)
  (case s_BD_NW => k_is)
  (case n_BD_NW => decide)
  (case s_NP_NW => k_is)
  (case n_NP_NW => decide)
  (case s_NS_NW => k_is)
  (case n_NS_NW => decide)
  (case s_TM_NW => k_is)
  (case n_TM_NW => decide)
  (case s_NT_NW => k_is)
  (case n_NT_NW => decide)
  (case s_OR_NW => k_is)
  (case n_OR_NW => decide)
  (case sN_OR|s_BW_OR => k_is)
  (case n_BW_OR => decide)
  (case s_BS_OR => k_is)
  (case n_BS_OR => decide)
  (case s_BO_OR => k_is)
  (case n_BO_OR => decide)
  (case s_BP_OR => k_is)
  (case n_BP_OR => decide)
  (case s_BB_OR => k_is)
  (case n_BB_OR => decide)
  (case s_BD_OR => k_is)
  (case n_BD_OR => decide)
  (case s_NW_OR => k_is)
  (case n_NW_OR => decide)
  (case s_NP_OR => k_is)
  (case n_NP_OR => decide)
  (case s_NS_OR => k_is)
  (case n_NS_OR => decide)
  (case s_TM_OR => k_is)
  (case n_TM_OR => decide)
  (case s_NT_OR => k_is)
  (case n_NT_OR => decide)
  (case sN_TM|s_BW_TM => k_is)
  (case n_BW_TM => decide)
  (case s_BS_TM => k_is)
  (case n_BS_TM => decide)
  (case s_BO_TM => k_is)
  (case n_BO_TM => decide)
  (case s_BP_TM => k_is)
  (case n_BP_TM => decide)
  (case s_BB_TM => k_is)
  (case n_BB_TM => decide)
  (case s_BD_TM => k_is)
  (case n_BD_TM => decide)
  (case s_NW_TM => k_is)
  (case n_NW_TM => decide)
  (case s_NP_TM => k_is)
  (case n_NP_TM => decide)
  (case s_NS_TM => k_is)
  (case n_NS_TM => decide)
  (case s_NT_TM => k_is)
  (case n_NT_TM => decide)
  (case s_OR_TM => k_is)
  (case n_OR_TM => decide)
  (case sV_BW|sV_BS|sV_BO|sV_BP|sV_BB|sV_BD|sV_NW|sV_NP|sV_NS|sV_TM|sV_NT|sV_OR => k_is)
  (case q_BW => k_exc)


