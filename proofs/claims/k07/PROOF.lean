import PyProof.Rows.All
import Wide.All
import OpenK.AllK
import Wide.FinOn
import Lean
import PyProof.EqAt
import PyProof.EqKinds
import PyProof.TupleCall
import PyProof.NeKinds
import PyProof.Draws
import PyProof.ZipIter
import PyProof.DictUpdate
import PyProof.AutoSeq1
import PyProof.ListRange
import PyProof.ListMulRoad
import PyProof.FactsAll.tuple_2
import PyProof.Rows.SortShell
import PyProof.EnumFor
import PyProof.EnumMake
import PyProof.EnumStmt
import PyProof.Rows.SortWalk
import KE.KDictList
import PyProof.SumAny
import PyProof.ConsumeWalk
import PyProof.WalksMore
import PyProof.Rows.TupAssign
import PyProof.ExcArgsOwn
import PySem.Challenge.RW_kindleweb_k07_whole_texts_of_webs
set_option Elab.async false
set_option linter.all false
set_option maxRecDepth 100000
set_option maxHeartbeats 4000000
section
open PySem PySem.Spec PyProof.Rows
noncomputable def aG9:=@wpAny_bind
noncomputable def aH0:=@decide_eq_false
noncomputable def aH1:=@Heap.get?_push_of_some
noncomputable def aH2:=@List.getElem?_eq_getElem
noncomputable def aH3:=@decide_eq_true
noncomputable def aH4:=@List.length_map
noncomputable def aH5:=@wpAny_pure
noncomputable def aH6:=@List.mem_cons_self
noncomputable def aH7:=@List.size_toArray
noncomputable def aH8:=@Nat.lt_of_lt_of_le
noncomputable def aH9:=@Nat.le_refl
noncomputable def aI0:=@List.mem_cons_of_mem
noncomputable def aI1:=@List.mem_cons
noncomputable def aI2:=@List.mem_singleton
noncomputable def aI3:=@Heap.lt_size
noncomputable def aI4:=@List.getElem?_eq_some_iff
noncomputable def aI5:=@Bool.false_ne_true
noncomputable def aI7:=@Option.some.inj
noncomputable def aI8:=@List.getElem?_map
noncomputable def aJ0:=@Heap.get?_push_size
noncomputable def aJ1:=@List.length_cons
noncomputable def aJ2:=@List.mem_map
noncomputable def aJ3:=@List.length_append
noncomputable def aJ4:=@Bool.false_eq_true
noncomputable def aJ5:=@List.getElem?_set_ne
noncomputable def aJ6:=@List.mem_append_right
noncomputable def aJ8:=@List.not_mem_nil
noncomputable def aJ9:=@List.mem_of_getElem?
noncomputable def aK0:=@List.getD_eq_getElem?_getD
noncomputable def aK1:=@Int.emod_lt_of_pos
noncomputable def aK2:=@Bool.and_eq_true
noncomputable def aK4:=@Nat.le_trans
noncomputable def aK5:=@List.map_cons
noncomputable def aK6:=@List.map_append
noncomputable def aK8:=@decide_eq_true_eq
noncomputable def aK9:=@Nat.zero_le
noncomputable def aL0:=@Int.emod_nonneg
noncomputable def aL1:=@Nat.ne_of_lt
noncomputable def aL2:=@List.mem_append
noncomputable def aL3:=@Nat.lt_irrefl
noncomputable def aL5:=@PySem.mem_of_lookup
noncomputable def aL6:=@List.take_of_length_le
noncomputable def aL7:=@List.length_drop
noncomputable def aM1:=@wpAny_mono
noncomputable def aM3:=@PySem.W.kia_one
noncomputable def aM4:=@List.lookup_cons
noncomputable def aM5:=@List.all_eq_true
noncomputable def aM6:=@wpAny_newObj_type
noncomputable def aM7:=@wpAny_field
noncomputable def aM9:=@List.getElem?_set_self
noncomputable def aN0:=@if_false
noncomputable def aN2:=@Array.length_toList
noncomputable def aN3:=@wpAny_callSpecial?_slot
noncomputable def aN5:=@List.length_set
noncomputable def aN7:=@Heap.get?_update_other
noncomputable def aN8:=@beq_self_eq_true
noncomputable def aN9:=@PySem.F.plain_max_loop
noncomputable def aO1:=@Bool.eq_false_iff
noncomputable def aO3:=@wpAny_seqItems
noncomputable def aO5:=@Bool.eq_iff_iff
noncomputable def aO6:=@List.map_map
noncomputable def aO7:=@wpAny_call_entry
noncomputable def aO8:=@List.getElem_mem
noncomputable def aO9:=@or_false
noncomputable def aP0:=@List.take_length
noncomputable def aP1:=@Nat.ne_of_gt
noncomputable def aP3:=@List.map_congr_left
noncomputable def aP4:=@PyProof.Rows.slot_tuple_getitem
noncomputable def aP5:=@List.length_take
noncomputable def aP7:=@List.any_cons
noncomputable def aQ3:=@Heap.size_push
noncomputable def aQ5:=@wpAny_truthy_bool
noncomputable def aQ6:=@List.length_nil
noncomputable def aQ7:=@PyProof.Rows.callWith_type1
noncomputable def aQ9:=@Array.getD_eq_getD_getElem?
noncomputable def aR0:=@wpAny_holding
noncomputable def aR1:=@List.all_cons
noncomputable def aR3:=@List.zip_cons_cons
noncomputable def aR4:=@Obj.data_mapFields
noncomputable def aR5:=@wpAny_setField_rec
noncomputable def aR8:=@Heap.get?_update_self
noncomputable def aR9:=@wpAny_passesOwn
noncomputable def aS1:=@Nat.le_of_lt
noncomputable def aS2:=@sizeLine_eq
noncomputable def aS3:=@List.take_add_one
noncomputable def aS4:=@List.map_id
noncomputable def aS8:=@List.mem_range
end
noncomputable abbrev ar:=PySem.Value
noncomputable abbrev aw:=PySem.Shared
noncomputable abbrev ax:=PySem.Addr
noncomputable abbrev ay:=PySem.Program
noncomputable abbrev ba:=PySem.Around
noncomputable abbrev bf:=PySem.World
noncomputable abbrev aa:=List (Int×Int)
noncomputable abbrev ae:=PySem.W.Frag
noncomputable abbrev af:=List (List Int)
noncomputable abbrev ag:=List Int
namespace L2
open PySem PySem.Spec PyProof.Rows
noncomputable abbrev aN:=Sum Int Str
noncomputable def kW:aN->ar->Bool
 |.inl k,v=>Value.isInt k v
 |.inr x,v=>Value.isStrOf x v
noncomputable def O5 (w:bf):aN->Int
 |.inl k=>hashInt k
 |.inr x=>hashStr w x
theorem hZ:∀{k:aN}{v:ar},kW k v=true->(∃i t,k=Sum.inl i/\v=Value.int i t)∨(∃x t,k=Sum.inr x/\v=Value.str x t)
 |.inl i,v,h=>by
  obtain⟨t,e⟩:=Value.isInt_shape (k:=i) (v:=v) h
  exact .inl ⟨i,t,rfl,e⟩
 |.inr x,v,h=>by
  obtain⟨t,e⟩:=Value.isStrOf_shape (x:=x) (v:=v) h
  exact .inr ⟨x,t,rfl,e⟩
theorem O6 (i:Int)(t:Tok):kW (.inl i) (.int i t)=true:=by simp[kW,Value.isInt]
theorem O7 (x:Str)(t:Tok):kW (.inr x) (.str x t)=true:=by simp[kW,Value.isStrOf]
theorem O8 (a b:Int):decide ((Sum.inl a:aN)=Sum.inl b)=(a==b):=by
 by_cases e:a=b
 ·subst e;simp
 ·have h:¬(Sum.inl a:aN)=Sum.inl b:=λq=>e (Sum.inl.inj q)
  rw[aH0 h];exact (beq_eq_false_iff_ne.mpr e).symm
theorem O9 (a b:Str):decide ((Sum.inr a:aN)=Sum.inr b)=decide (a=b):=by
 by_cases e:a=b
 ·subst e;simp
 ·have h:¬(Sum.inr a:aN)=Sum.inr b:=λq=>e (Sum.inr.inj q)
  rw[aH0 h,aH0 e]
theorem P0 (a:Int)(b:Str):decide ((Sum.inl a:aN)=Sum.inr b)=false:=aH0 (λq=>nomatch q)
theorem P3 (a:Str)(b:Int):decide ((Sum.inr a:aN)=Sum.inl b)=false:=aH0 (λq=>nomatch q)
noncomputable def eU (prog:ay)(w:bf):PySem.KeyKind prog w aN where
 is:=kW
 hash:=O5 w
 inj:=λv a b ha hb=>by
  rcases hZ ha with⟨i,t,rfl,rfl⟩|⟨x,t,rfl,rfl⟩
  ·rcases hZ hb with⟨j,u,rfl,e⟩|⟨y,u,rfl,e⟩
   ·injection e with e1 _;rw[e1]
   ·exact nomatch e
  ·rcases hZ hb with⟨j,u,rfl,e⟩|⟨y,u,rfl,e⟩
   ·exact nomatch e
   ·injection e with e1 _;rw[e1]
 byValue:=λk v h=>by
  rcases hZ h with⟨i,t,rfl,rfl⟩|⟨x,t,rfl,rfl⟩<;>rfl
 pyHash:=λhv h=>by
  rcases hZ hv with⟨i,t,rfl,rfl⟩|⟨x,t,rfl,rfl⟩
  ·exact wpAny_pyHash_int h
  ·exact wpAny_pyHash_str h
 eqBool:=λhu hv h=>by
  rcases hZ hu with⟨i,t,rfl,rfl⟩|⟨x,t,rfl,rfl⟩
  ·rcases hZ hv with⟨j,u,rfl,rfl⟩|⟨y,u,rfl,rfl⟩
   ·rw[O8]at h;exact wpAny_eqBool_int h
   ·rw[P0]at h;exact SeqAt.EqAt.int_str i t y u _ _ _ _ h
  ·rcases hZ hv with⟨j,u,rfl,rfl⟩|⟨y,u,rfl,rfl⟩
   ·rw[P3]at h;exact SeqAt.EqAt.str_int x t j u _ _ _ _ h
   ·rw[O9]at h;exact wpAny_eqBool_str h
 «strs»:=λk x t v h=>by
  rcases hZ h with⟨i,u,rfl,e⟩|⟨y,u,rfl,e⟩
  ·exact nomatch e
  ·injection e with e1 _
   subst e1;cases v<;>rfl
theorem P4 (prog:ay)(w:bf)(i:Int)(t:Tok):(eU prog w).is (.inl i) (.int i t)=true:=O6 i t
theorem P5 (prog:ay)(w:bf)(x:Str)(t:Tok):(eU prog w).is (.inr x) (.str x t)=true:=O7 x t
inductive V where
 |non|bl (b:Bool)|int (i:Int)|str (x:Str)|byt (b:Array UInt8)|flt (b:UInt64)|ref (a:ax)|ty (n:String)
 deriving DecidableEq
noncomputable def aX:V->ar->Prop
 |.non,u=>u=Value.none
 |.bl b,u=>u=Value.bool b
 |.int i,u=>∃t,u=Value.int i t
 |.str x,u=>∃t,u=Value.str x t
 |.byt b,u=>∃t,u=Value.bytes b t
 |.flt b,u=>∃t,u=Value.float b t
 |.ref a,u=>u=Value.ref a
 |.ty n,u=>u=Value.type n
noncomputable abbrev aO:List V->List ar->Prop:=Paired aX
theorem aO.length {xs:List V}{us:List ar}(r:aO xs us):xs.length=us.length:=Paired.length r
theorem aO.get:∀{xs:List V}{us:List ar}{i:Nat}{x:V},aO xs us->xs[i]? = some x->∃u,us[i]? = some u/\aX x u
 |_,_,_,_,.nil,e=>by simp at e
 |_,_,0,_,.cons r _,e=>by simp at e;subst e;exact⟨_,rfl,r⟩
 |_,_,i+1,x,.cons _ t,e=>by
  obtain⟨u,h1,h2⟩:=aO.get (i:=i) (x:=x) t (by simpa using e)
  exact⟨u,by simpa using h1,h2⟩
theorem aO.append:∀{xs ys:List V}{us ws:List ar},aO xs us->aO ys ws->aO (xs++ys) (us++ws)
 |_,_,_,_,.nil,s=>s
 |_,_,_,_,.cons r t,s=>.cons r (aO.append t s)
theorem aO.take:∀{xs:List V}{us:List ar} (n:Nat),aO xs us->aO (xs.take n) (us.take n)
 |_,_,0,_=>.nil
 |_,_,_+1,.nil=>.nil
 |_,_,n+1,.cons r t=>.cons r (aO.take n t)
theorem aO.drop:∀{xs:List V}{us:List ar} (n:Nat),aO xs us->aO (xs.drop n) (us.drop n)
 |_,_,0,r=>r
 |_,_,_+1,.nil=>.nil
 |_,_,n+1,.cons _ t=>aO.drop n t
noncomputable def kX:Option V->Option ar->Prop
 |some v,some u=>aX v u
 |none,none=>True
 |_,_=>False
noncomputable def KV {κ:Type}:List (κ×V)->List (κ×ar)->Prop:=Paired λ(p:κ×V) (q:κ×ar)=>p.1=q.1/\aX p.2 q.2
noncomputable def kV:aN->V
 |.inl i=>.int i
 |.inr x=>.str x
inductive HO where
 |lst (xs:List V)
 |tup (xs:List V)
 |dK (kvs:List (aN×V))|dT (kvs:List (List aN×V))
 |set (S:Int->Bool) (n:Nat)
 |ins (C dx:ax) (fs:List (Str×V))
 |own (x:ax)
 |xd (fs:List (Str×V))
 |met (f x:ax)
 |rng (lo hi:Int)
 |frz (o:Obj) (u:HO)
 |tbl (ps:Array ar)
 |ext (φ:Heap->Prop)
noncomputable abbrev Hp:=ax->Option HO
noncomputable def upd (H:Hp)(a:ax)(o:HO):Hp:=λb=>if b=a then some o else H b
theorem cA {H:Hp}{a:ax}{o:HO}:upd H a o a=some o:=by unfold upd;rw[if_pos rfl]
theorem aZ {H:Hp}{a b:ax}{o:HO}(h:b≠a):upd H a o b=H b:=by unfold upd;rw[if_neg h]
theorem P6 {H:Hp}{a b:ax}{o u:HO}(h:H a=some o)(h':H b=some u)(d:o≠u):a≠b:=by
 intro e;subst e;rw[h]at h';exact d (aI7 h')
theorem dU {H:Hp}{a b:ax}{o:HO}(h:H a=some o)(h':H b=none):a≠b:=by
 intro e;subst e;rw[h]at h';cases h'
noncomputable def i4 (h:Heap)(a:ax):Prop:=∀o,h.get? a=some o->o.dict=none
theorem i4.new (h:Heap)(o:Obj)(d:o.dict=none)(s:o.isFreed=false:=by rfl):i4 (h.push o) h.objs.size:=λu e=>by
 rw[aJ0 h (o:=o) s]at e;cases e;exact d
theorem i4.stay {h h':Heap}{a:ax}{o:Obj}(n:i4 h a)(e:h.get? a=some o)(e':h'.get? a=some o):i4 h' a:=λu hu=>by
 rw[e']at hu;cases hu;exact n _ e
section
variable (P:ay)(w:bf)
noncomputable def bO (H:Hp)(h:Heap)(a:ax):HO->Prop
 |.lst xs=>xs.length<=sizeLine/\∃(its:List ar) (n:Nat),aO xs its/\h.get? a=some { cls:=.type "list",data:=.seq its.toArray n }
 |.tup xs=>xs.length<=sizeLine/\∃its:List ar,aO xs its/\IsTup h a its.toArray/\i4 h a
 |.dK kvs=>kvs.length<=sizeLine/\(a==sysModules)=false/\∃vs,KV kvs vs/\h.DictOf (eU P w) a vs
 |.dT kvs=>kvs.length<=sizeLine/\(a==sysModules)=false/\∃xs:List (List aN×ax×ar),
   Paired (λ(p:List aN×V) (q:List aN×ax×ar)=>p.1=q.1/\H q.2.1=some (.tup (p.1.map kV))/\aX p.2 q.2.2) kvs xs/\
   ∃o es ep,h.get? a=some o/\o.ExactDict/\o.data = .dict es ep/\es.toList=xs.map (entryOfKey (tupleKind (eU P w)))/\(xs.map (·.1)).Nodup
 |.set S n=>h.SetOf (intKind P w) a S n
 |.ins C dx fs=>H dx=some (.own a)/\fs.length<=1000/\dx≠a/\h.get? a=some (PySem.W.instObj C dx)/\
   ∃mA,h.Ns1 dx mA/\(∀f,kX (fs.lookup f) (mA f))/\PySem.Within mA (fs.map (·.1))
 |.own _=>∃o,h.get? a=some o
 |.xd fs=>∃mA,h.Ns1 a mA/\∀f,kX (fs.lookup f) (mA f)
 |.rng lo hi=>∃t u v,h.get? a=some { cls:=.type "range",data:=.fields #[.int lo t,.int hi u,.int 1 v] }
 |.frz o u=>h.get? a=some o/\bO H h a u
 |.tbl ps=>h.get? a=some { cls:=.none,data:=.fields ps }
 |.met f x=>h.get? a=some (PySem.W.methodObj (.ref f) (.ref x))
 |.ext φ=>φ h/\(∃o,h.get? a=some o)/\∀h1 h2:Heap,φ h1->(∀o,h1.get? a=some o->h2.get? a=some o)->φ h2
noncomputable def bM (H:Hp)(h:Heap):Prop:=∀a o,H a=some o->bO P w H h a o
end
section
variable {P:ay}{w:bf}{H H':Hp}{h h':Heap}{a:ax}{o:HO}
theorem bO.lt (x:bO P w H h a o):a<h.objs.size:=by
 cases o with
 |lst xs=>obtain⟨_,_,_,_,e⟩:=x;exact aI3 e
 |tup xs=>obtain⟨_,_,_,p,_⟩:=x;exact p.lt
 |dK kvs=>obtain⟨_,_,_,_,o,_,_,e,_⟩:=x;exact aI3 e
 |dT kvs=>obtain⟨_,_,_,_,o,_,_,e,_⟩:=x;exact aI3 e
 |set S n=>obtain⟨o,_,_,_,e,_⟩:=x;exact aI3 e
 |ins C dx fs=>obtain⟨_,_,_,e,_⟩:=x;exact aI3 e
 |own y=>obtain⟨_,e⟩:=x;exact aI3 e
 |xd fs=>obtain⟨_,⟨_,_,_,e,_⟩,_⟩:=x;exact aI3 e
 |rng lo hi=>obtain⟨_,_,_,e⟩:=x;exact aI3 e
 |frz ob u=>obtain⟨e,_⟩:=x;exact aI3 e
 |tbl ps=>exact aI3 (show h.get? a=some _ from x)
 |met f y=>exact aI3 (show h.get? a=some _ from x)
 |ext φ=>obtain⟨_,⟨_,e⟩,_⟩:=x;exact aI3 e
theorem Paired.mapP {α β:Type}{F G:α->β->Prop}:∀{l₁:List α}{l₂:List β},Paired F l₁ l₂->(∀a b,F a b->G a b)->Paired G l₁ l₂
 |_,_,.nil,_=>.nil
 |_,_,.cons r t,f=>.cons (f _ _ r) (Paired.mapP t f)
theorem bO.stay (x:bO P w H h a o)(k:∀b u,(b=a∨H b=some (.own a))->h.get? b=some u->h'.get? b=some u)(ho:∀b,H b=some (.own a)->H' b=some (.own a))(ht:∀b xs,H b=some (.tup xs)->H' b=some (.tup xs)):bO P w H' h' a o:=by
 induction o with
 |lst xs=>obtain⟨z,its,n,r,e⟩:=x;exact⟨z,its,n,r,k _ _ (.inl rfl) e⟩
 |tup xs=>obtain⟨z,its,r,⟨ob,e,c⟩,nd⟩:=x;exact⟨z,its,r,⟨ob,k _ _ (.inl rfl) e,c⟩,nd.stay e (k _ _ (.inl rfl) e)⟩
 |dK kvs=>obtain⟨z,y,vs,r,ob,es,ep,e,c⟩:=x;exact⟨z,y,vs,r,ob,es,ep,k _ _ (.inl rfl) e,c⟩
 |dT kvs=>
  obtain⟨z,y,xs,r,ob,es,ep,e,c⟩:=x
  exact⟨z,y,xs,Paired.mapP r λp q z=>⟨z.1,ht _ _ z.2.1,z.2.2⟩,ob,es,ep,k _ _ (.inl rfl) e,c⟩
 |set S n=>obtain⟨ob,es,ep,t,e,c⟩:=x;exact⟨ob,es,ep,t,k _ _ (.inl rfl) e,c⟩
 |ins C dx fs=>
  obtain⟨d,z,ne,e,mA,⟨od,es,ep,e2,c⟩,r⟩:=x
  exact⟨ho _ d,z,ne,k _ _ (.inl rfl) e,mA,⟨od,es,ep,k _ _ (.inr d) e2,c⟩,r⟩
 |own y=>obtain⟨ob,e⟩:=x;exact⟨ob,k _ _ (.inl rfl) e⟩
 |xd fs=>obtain⟨mA,⟨od,es,ep,e,c⟩,r⟩:=x;exact⟨mA,⟨od,es,ep,k _ _ (.inl rfl) e,c⟩,r⟩
 |rng lo hi=>obtain⟨t,u,v,e⟩:=x;exact⟨t,u,v,k _ _ (.inl rfl) e⟩
 |frz ob u ih=>obtain⟨e,q⟩:=x;exact⟨k _ _ (.inl rfl) e,ih q⟩
 |tbl ps=>
  have e:h.get? a=some { cls:=.none,data:=.fields ps }:=x;show h'.get? a=some { cls:=.none,data:=.fields ps };exact k a _ (.inl rfl) e
 |met f y=>
  have e:h.get? a=some (PySem.W.methodObj (.ref f) (.ref y)):=x;show h'.get? a=some (PySem.W.methodObj (.ref f) (.ref y));exact k a _ (.inl rfl) e
 |ext φ=>obtain⟨p,⟨o,e⟩,st⟩:=x;exact⟨st _ _ p λo q=>k _ _ (.inl rfl) q,⟨o,k _ _ (.inl rfl) e⟩,st⟩
theorem bM.lt (x:bM P w H h)(e:H a=some o):a<h.objs.size:=(x a o e).lt
theorem bM.fresh (x:bM P w H h)(e:h.objs.size<=a):H a=none:=by
 cases q:H a with
 |none=>rfl
 |some u=>exact absurd (aH8 (x.lt q) e) (aL3 _)
theorem bM.kept (x:bM P w H h)(k:∀b u,h.get? b=some u->h'.get? b=some u):bM P w H h':=λa o e=>
 (x a o e).stay (λb u _ q=>k b u q) (λ_ q=>q) λ_ _ q=>q
theorem bM.laid (x:bM P w H h)(k:∀b u,h.get? b=some u->h'.get? b=some u)(hp:h.objs.size<=a)(new:bO P w (upd H a o) h' a o):bM P w (upd H a o) h':=λb u e=>by
 have hn:=x.fresh hp;by_cases hb:b=a
 ·subst hb;rw[cA]at e;cases e;exact new
 ·rw[aZ hb]at e
  exact (x b u e).stay (λc v _ q=>k c v q) (λc q=>by rw[aZ (dU q hn)];exact q) λc xs q=>by rw[aZ (dU q hn)];exact q
end
noncomputable def Rd (H:Hp)(a:ax)(u:HO):Prop:=H a=some u∨∃o,H a=some (.frz o u)
theorem Rd.ok {P:ay}{w:bf}{H:Hp}{h:Heap}{a:ax}{u:HO}(r:Rd H a u)(x:bM P w H h):bO P w H h a u:=by
 rcases r with r|⟨o,r⟩
 ·exact x a u r
 ·obtain⟨_,q⟩:=x a _ r
  exact q
noncomputable def lZ:Option HO->Prop
 |some (.lst _)=>True
 |some (.dK _)=>True
 |some (.dT _)=>True
 |some (.set _ _)=>True
 |some (.ins _ _ _)=>True
 |some (.ext _)=>True
 |_=>False
section
variable {P:ay}{w:bf}{H:Hp}{h h':Heap}{x e:ax}{o':HO}
theorem bM.write (ok:bM P w H h)(mu:lZ (H x))(he:e=x∨H e=some (.own x))(k:∀b u,b≠e->h.get? b=some u->h'.get? b=some u)(heo:∃u,h'.get? e=some u)(new:bO P w (upd H x o') h' x o'):bM P w (upd H x o') h':=λb u q=>by
 have nown:∀c y,H c=some (.own y)->c≠x:=λc y r z=>by subst z;rw[r]at mu;exact mu
 have ntup:∀c xs,H c=some (.tup xs)->c≠x:=λc xs r z=>by subst z;rw[r]at mu;exact mu
 by_cases hb:b=x
 ·subst hb;rw[cA]at q;cases q;exact new
 ·rw[aZ hb]at q
  by_cases hbe:b=e
  ·have q':H b=some (.own x):=by
    rcases he with z|z
    ·exact absurd (hbe.trans z) hb
    ·rw[hbe];exact z
   rw[q]at q';cases q'
   obtain⟨v,hv⟩:=heo
   exact⟨v,by rw[hbe];exact hv⟩
  ·refine (ok b u q).stay (λc v hc r=>k c v ?_ r) (λc r=>by rw[aZ (nown c b r)];exact r) λc xs r=>by rw[aZ (ntup c xs r)];exact r
   rcases hc with rfl|hc
   ·exact hbe
   ·rintro rfl
    rcases he with z|z
    ·exact nown c b hc z
    ·rw[hc]at z;cases z;exact hb rfl
end
structure Un (fs ex:List ax)(H H':Hp)(h h':Heap):Prop where
 keep:∀b o,h.get? b=some o->H b=none->b∉fs->b∉ex->h'.get? b=some o
 slot:∀b o,h.get? b=some o->H b=none->b∈fs->b∉ex->∃sl,h'.get? b=some { o with slots:=sl }
 free:∀b o,h.get? b=some o->H b=none->b∉ex->H' b=none
 there:∀b o,h.get? b=some o->b∉ex->∃o',h'.get? b=some o'
 tups:∀b xs,H b=some (.tup xs)->H' b=some (.tup xs)
 frzs:∀b o u,H b=some (.frz o u)->H' b=some (.frz o u)
 tbls:∀b ps,H b=some (.tbl ps)->∃more,H' b=some (.tbl (ps++more))
section
variable {fs fs' ex ex':List ax}{H H1 H2:Hp}{h h1 h2 h':Heap}{a x e:ax}{o:HO}
theorem Un.any (u:Un fs ex H H1 h h1){b:ax}{ob:Obj}(q:h.get? b=some ob)(n:H b=none)(hx:b∉ex):∃sl,h1.get? b=some { ob with slots:=sl }:=by
 by_cases hb:b∈fs
 ·exact u.slot b ob q n hb hx
 ·exact⟨ob.slots,u.keep b ob q n hb hx⟩
theorem Un.kept (k:∀b u,h.get? b=some u->h'.get? b=some u):Un fs ex H H h h':=
 ⟨λb ob q _ _ _=>k b ob q,λb ob q _ _ _=>⟨ob.slots,k b ob q⟩,λ_ _ _ n _=>n,λb ob q _=>⟨ob,k b ob q⟩,λ_ _ q=>q,λ_ _ _ q=>q,λ_ ps q=>⟨#[],by rw[q];simp⟩⟩
theorem Un.refl:Un fs ex H H h h:=Un.kept λ_ _ q=>q
theorem Un.laid (k:∀b u,h.get? b=some u->h'.get? b=some u)(hp:h.objs.size<=a)(hn:H a=none):Un fs ex H (upd H a o) h h' where
 keep:=λb u q _ _ _=>k b u q
 slot:=λb u q _ _ _=>⟨u.slots,k b u q⟩
 free:=λb u q n _=>by rw[aZ (aL1 (aH8 (aI3 q) hp))];exact n
 there:=λb u q _=>⟨u,k b u q⟩
 tups:=λb xs q=>by rw[aZ (dU q hn)];exact q
 frzs:=λb u xs q=>by rw[aZ (dU q hn)];exact q
 tbls:=λb ps q=>⟨#[],by rw[aZ (dU q hn),q];simp⟩
theorem Un.write (mu:lZ (H x))(he:e=x∨H e=some (.own x))(k:∀b u,b≠e->h.get? b=some u->h'.get? b=some u)(heo:∃u,h'.get? e=some u):Un fs ex H (upd H x o) h h':=by
 have hx:∀b,H b=none->b≠x:=λb n z=>by subst z;rw[n]at mu;exact mu
 have hb:∀b,H b=none->b≠e:=λb n z=>by
  subst z;rcases he with r|r
  ·exact hx b n r
  ·rw[n]at r;cases r
 have hm:∀b u,H b=some u->¬lZ (some u)->b≠x:=λb u q nm z=>by subst z;rw[q]at mu;exact nm mu
 refine⟨λb u q n _ _=>k b u (hb b n) q,λb u q n _ _=>⟨u.slots,k b u (hb b n) q⟩,λb u q n _=>by rw[aZ (hx b n)];exact n,λb u q _=>?_,
  λb xs q=>by rw[aZ (hm b _ q λz=>z)];exact q,λb u xs q=>by rw[aZ (hm b _ q λz=>z)];exact q,λb ps q=>⟨#[],by rw[aZ (hm b _ q λz=>z),q];simp⟩⟩
 by_cases hbe:b=e
 ·subst hbe;exact heo
 ·exact⟨u,k b u hbe q⟩
end
noncomputable def nX (h:Heap)(H:Hp):List ax:=(List.range h.objs.size).filter λa=>(H a).isSome
noncomputable def i5 (h:Heap)(H:Hp):Heap:=PySem.W.hideAll h (nX h H)
theorem P7 (h:Heap)(H:Hp):(i5 h H).objs.size=h.objs.size:=PySem.W.hideAll_size _ _
theorem P8 {h:Heap}{H:Hp}{b:ax}{o:Obj}(e:h.get? b=some o)(n:H b=none):(i5 h H).get? b=some o:=
 PySem.W.hideAll_get _ e λhm=>by
  have q:(H b).isSome=true:=(List.mem_filter.mp hm).2;rw[n]at q;simp at q
theorem P9 {h:Heap}{H:Hp}{b:ax}{o:Obj}(e:(i5 h H).get? b=some o):h.get? b=some o/\H b=none:=by
 have e':h.get? b=some o:=PySem.W.of_hideAll (nX h H) e;refine⟨e',?_⟩;cases q:H b with
 |none=>rfl
 |some x=>
  have hm:b∈nX h H:=List.mem_filter.mpr ⟨aS8.mpr (aI3 e'),by simp[q]⟩;have z:(i5 h H).get? b=none:=PySem.W.hideAll_none (nX h H) hm;rw[z]at e;cases e
noncomputable def m3 (g h:Heap)(L:ax):List (ax×Obj):=(List.range h.objs.size).filterMap λa=>if a=L∨(g.get? a).isSome=true then none else (h.get? a).map λo=>(a,o)
theorem uP {g h:Heap}{L a:ax}{o:Obj}(h1:a≠L)(h2:g.get? a=none)(h3:h.get? a=some o):(a,o)∈m3 g h L:=
 List.mem_filterMap.mpr ⟨a,aS8.mpr (aI3 h3),by simp[h1,h2,h3]⟩
theorem Q0 {g h:Heap}{L:ax}{p:ax×Obj}(hp:p∈m3 g h L):p.1≠L/\g.get? p.1=none/\h.get? p.1=some p.2:=by
 obtain⟨b,_,e⟩:=List.mem_filterMap.mp hp
 split at e
 ·cases e
 ·rename_i hn
  cases q:h.get? b with
  |none=>rw[q]at e;simp at e
  |some u=>
   rw[q]at e;simp only[Option.map_some,Option.some.injEq]at e;subst e;refine⟨λz=>hn (.inl z),?_,q⟩;show g.get? b=none;cases r:g.get? b with
   |none=>rfl
   |some v=>exact (hn (.inr (by simp[r]))).elim
noncomputable def bT (g h:Heap)(L d:ax):List (ax×Obj):=(m3 g h L).filter λp=>decide (p.1≠d)
theorem Q3 {g h:Heap}{L:ax}:News g L h (m3 g h L):=λp hp=>let ⟨a,b,c⟩:=Q0 hp;⟨c,a,b⟩
structure Mod (K:ae)(mg:Str->Option ar)(base:Heap):Prop where
 kin:K.In base
 glob:base.Ns mainGlobals mg
 blt:∃mb,base.Ns builtinsNs mb/\∀x:Str,x≠"__name__"->mb x=bootBuiltins x
 nolimit:base.NoLimit
structure Cx where
 prog:ay
 w:bf
 K:ae
 mg:Str->Option ar
 base:Heap
 A:ba
 N:List Str
 s₀:aw
 H₀:Hp
 env:Env
 outer:List Env
 stack:List Env
 ex:List ax
 fn:Str->Bool
 calm:Bool
 pn:List (ax×Obj)
 xe:ar->aw->Prop
noncomputable def b9 (l:List Env):List ax:=l.filterMap (·.frame)
noncomputable abbrev Cx.fs (X:Cx):List ax:=b9 X.outer
noncomputable def i6 (sc:Scope)(x:Str):Prop:=sc.names.lookup x=some .local∨sc.names.lookup x=some .cell∨sc.names.lookup x=some .free
noncomputable def iW (sc:Scope)(x:Str):Prop:=sc.names.lookup x=some .local∨sc.names.lookup x=some .cell
noncomputable def Q4 (env:Env)(h:Heap)(m:Str->Option ar)(x:Str)(u:ar):Prop:=
 (env.kindOf x=some .local/\m x=some u)∨((env.kindOf x=some .cell∨env.kindOf x=some .free)/\∃c,env.cells.lookup x=some c/\h.IsCell c (some u))
structure Cx.Ok (X:Cx):Prop where
 mod:Mod X.K X.mg X.base
 kind:X.env.scope.kind = .function
 glob:X.env.globals=mainGlobals
 blt:X.env.builtins=builtinsNs
 above:X.s₀.heap.objs.size<=X.env.locals
 inj:∀x y c,X.env.cells.lookup x=some c->X.env.cells.lookup y=some c->x=y
 has:∀x,(X.env.kindOf x=some .cell∨X.env.kindOf x=some .free)->∃c,X.env.cells.lookup x=some c
 cab:∀x c,X.fn x=true->X.env.cells.lookup x=some c->X.s₀.heap.objs.size<=c
 hd:X.calm=true->X.A.handled=none
 frames:X.A.frames=some X.stack
 stk:X.stack=X.outer∨(X.stack=X.env::X.outer/\X.env.frame=some X.env.locals)
 exf:∀b∈X.ex,b≠X.env.locals/\∀x c,X.env.cells.lookup x=some c->c≠b
 bs:∀b o,X.base.get? b=some o->X.s₀.heap.get? b=some o/\X.H₀ b=none
 bsz:X.base.objs.size<=X.s₀.heap.objs.size
 noex:∀b o,X.base.get? b=some o->b∉X.ex
 exfs:∀b∈X.ex,b∉X.fs
 funs:X.s₀.heap.FunFrames X.base X.outer
 frf:∀b∈X.fs,X.H₀ b=none
structure a6 (X:Cx)(ah:List (ax×Obj))(σ:List (Option V))(H:Hp)(s:aw):Prop where
 ok:X.Ok
 os:s.os=X.s₀.os
 bare:AllBare s.gens
 base:Un X.fs X.ex X.H₀ H X.s₀.heap s.heap
 loc:∃m,s.heap.Ns X.env.locals m/\∀(i:Nat) (x:Str) (v:V),X.N[i]? = some x->σ[i]? = some (some v)->i6 X.env.scope x->∃u,aX v u/\Q4 X.env s.heap m x u
 cell:∀x c,X.env.cells.lookup x=some c->∃v,s.heap.IsCell c v
 free:H X.env.locals=none
 freeC:∀x c,X.env.cells.lookup x=some c->H c=none
 pin:∀p∈X.pn++ah,s.heap.get? p.1=some p.2/\H p.1=none/\p.1≠X.env.locals/\p.1∉X.fs/\∀v,p.2.data≠.cell v
 hok:bM X.prog X.w H s.heap
 len:σ.length=X.N.length
section
variable {X:Cx}{ah:List (ax×Obj)}{σ:List (Option V)}{H H':Hp}{s:aw}{h':Heap}
theorem Cx.Ok.nofr (ok:X.Ok){b:ax}{o:Obj}(e:X.base.get? b=some o):b∉X.fs:=λhb=>by
 have:=(ok.funs.mem hb).1
 rw[e]at this;cases this
theorem a6.bs (I:a6 X ah σ H s):∀b o,X.base.get? b=some o->s.heap.get? b=some o/\H b=none:=λb o e=>
 ⟨I.base.keep b o (I.ok.bs b o e).1 (I.ok.bs b o e).2 (I.ok.nofr e) (I.ok.noex b o e),I.base.free b o (I.ok.bs b o e).1 (I.ok.bs b o e).2 (I.ok.noex b o e)⟩
theorem a6.bk (I:a6 X ah σ H s):∀b o,X.base.get? b=some o->s.heap.get? b=some o:=λb o e=>(I.bs b o e).1
theorem a6.mod (I:a6 X ah σ H s):Mod X.K X.mg X.base:=I.ok.mod
theorem a6.kIn (I:a6 X ah σ H s):X.K.In s.heap:=I.ok.mod.kin.keeps I.bk
theorem a6.fr (I:a6 X ah σ H s):∃m,Fr X.base X.env.locals s.heap m:=
 let ⟨m,hn,_⟩:=I.loc
 ⟨m,hn,I.bk,aK4 I.ok.bsz I.ok.above⟩
theorem a6.lt (I:a6 X ah σ H s):X.env.locals<s.heap.objs.size:=let ⟨_,hn,_⟩:=I.loc;hn.lt
theorem a6.sz (I:a6 X ah σ H s):X.s₀.heap.objs.size<=s.heap.objs.size:=aK4 I.ok.above (aS1 I.lt)
theorem a6.nofs (I:a6 X ah σ H s){a:ax}(h:s.heap.objs.size<=a):a∉X.fs:=λhb=>by
 obtain⟨_,o,ho,_⟩:=I.ok.funs.mem hb
 exact absurd (aH8 (aI3 ho) (aK4 I.sz h)) (aL3 _)
theorem a6.cne (I:a6 X ah σ H s):∀x c,X.env.cells.lookup x=some c->c≠X.env.locals:=λx c e z=>by
 obtain⟨v,o,ho,hd⟩:=I.cell x c e
 obtain⟨m,⟨o',es,ep,ho',hd',_⟩,_⟩:=I.loc
 rw[z,ho']at ho;cases ho;rw[hd']at hd;cases hd
theorem a6.funs (I:a6 X ah σ H s):s.heap.FunFrames X.base X.outer:=by
 have all:∀(l:List Env),(∀b∈b9 l,b∈X.fs)->X.s₀.heap.FunFrames X.base l->s.heap.FunFrames X.base l:=by
  intro l
  induction l with
  |nil=>intro _ _;trivial
  |cons env r ih=>
   intro hs hl
   obtain⟨hk,⟨L,o,hf,hn,ho,hd⟩,hr⟩:=hl
   have hL:L∈X.fs:=hs L (by unfold b9;rw[List.filterMap_cons,hf];exact aH6)
   obtain⟨sl,e⟩:=I.base.slot L o ho (I.ok.frf L hL) hL λz=>I.ok.exfs L z hL
   exact⟨hk,⟨L,_,hf,hn,e,hd⟩,ih (λb hb=>hs b (by unfold b9;rw[List.filterMap_cons,hf];exact aI0 _ hb)) hr⟩
 exact all X.outer (λ_ hb=>hb) I.ok.funs
theorem a6.stack (I:a6 X ah σ H s):s.heap.FunFrames X.base X.stack:=by
 rcases I.ok.stk with e|⟨e,hf⟩
 ·rw[e];exact I.funs
 ·rw[e]
  obtain⟨m,hn,_⟩:=I.loc
  refine .cons (by rw[I.ok.kind];decide) hf hn ?_ I.funs;exact Heap.get?_none_of_le (aK4 I.ok.bsz I.ok.above)
theorem a6.stkSub (I:a6 X ah σ H s):∀b∈b9 X.stack,b∈X.env.locals::X.fs:=λb hb=>by
 rcases I.ok.stk with e|⟨e,hf⟩
 ·rw[e]at hb;exact aI0 _ hb
 ·rw[e]at hb
  unfold b9 at hb;rw[List.filterMap_cons,hf]at hb;exact hb
theorem a6.stkFree (I:a6 X ah σ H s):∀b∈b9 X.stack,H b=none:=λb hb=>by
 rcases aI1.mp (I.stkSub b hb) with e|hb
 ·rw[e];exact I.free
 ·obtain⟨_,o,ho,_⟩:=I.ok.funs.mem hb
  exact I.base.free b o ho (I.ok.frf b hb) λz=>I.ok.exfs b z hb
theorem a6.step {g':Array GenState}{t':Nat}{d':Drawn}{ch:List ax}(I:a6 X ah σ H s)(hch:∀b∈ch,(b∈X.ex∨X.s₀.heap.objs.size<=b)/\b≠X.env.locals/\(∀x c,X.env.cells.lookup x=some c->c≠b)/\∀p∈X.pn++ah,p.1≠b)(keep:∀b o,b≠X.env.locals->b∉X.fs->b∉ch->s.heap.get? b=some o->H b=none->h'.get? b=some o)(slot:∀b o,b≠X.env.locals->b∈X.fs->b∉ch->s.heap.get? b=some o->H b=none->∃sl,h'.get? b=some { o with slots:=sl })(free:∀b o,b∉ch->s.heap.get? b=some o->H b=none->H' b=none)(there:∀b o,b∉ch->s.heap.get? b=some o->∃o',h'.get? b=some o')(tups:∀b xs,H b=some (.tup xs)->H' b=some (.tup xs))(frzs:∀b o u,H b=some (.frz o u)->H' b=some (.frz o u))(tbls:∀b ps,H b=some (.tbl ps)->∃more,H' b=some (.tbl (ps++more)))(ns:∀m,s.heap.Ns X.env.locals m->h'.Ns X.env.locals m)(hok:bM X.prog X.w H' h')(hg:AllBare g') :
  a6 X ah σ H' { s with heap:=h',gens:=g',drawn:=d',toks:=t' }:=by
 have neL:∀b o,X.s₀.heap.get? b=some o->b≠X.env.locals:=λb o e=>aL1 (aH8 (aI3 e) I.ok.above)
 have neC:∀b o,X.s₀.heap.get? b=some o->b∉X.ex->b∉ch:=λb o e hx hb=>by
  rcases (hch b hb).1 with z|z
  ·exact hx z
  ·exact absurd (aH8 (aI3 e) z) (aL3 _)
 have cellK:∀x c,X.env.cells.lookup x=some c->∀v,s.heap.IsCell c v->h'.IsCell c v:=λx c e v ⟨o,ho,hd⟩=>by
  have nch:c∉ch:=λz=>(hch c z).2.2.1 x c e rfl
  by_cases hc:c∈X.fs
  ·obtain⟨sl,q⟩:=slot c o (I.cne x c e) hc nch ho (I.freeC x c e)
   exact⟨_,q,hd⟩
  ·exact⟨o,keep c o (I.cne x c e) hc nch ho (I.freeC x c e),hd⟩
 refine⟨I.ok,I.os,hg,⟨λb o e n hb hx=>?_,λb o e n hb hx=>?_,λb o e n hx=>?_,λb o e hx=>?_,λb xs e=>tups b xs (I.base.tups b xs e),λb o xs e=>frzs b o xs (I.base.frzs b o xs e),λb ps e=>?_⟩,?_,λx c e=>?_,?_,λx c e=>?_,λp hp=>?_,hok,I.len⟩
 ·exact keep b o (neL b o e) hb (neC b o e hx) (I.base.keep b o e n hb hx) (I.base.free b o e n hx)
 ·obtain⟨sl,e1⟩:=I.base.slot b o e n hb hx
  obtain⟨sl',e2⟩:=slot b _ (neL b o e) hb (neC b o e hx) e1 (I.base.free b o e n hx)
  exact⟨sl',e2⟩
 ·obtain⟨o',e1⟩:=I.base.there b o e hx
  exact free b o' (neC b o e hx) e1 (I.base.free b o e n hx)
 ·obtain⟨o',e1⟩:=I.base.there b o e hx
  exact there b o' (neC b o e hx) e1
 ·obtain⟨m1,e1⟩:=I.base.tbls b ps e
  obtain⟨m2,e2⟩:=tbls b _ e1
  exact⟨m1++m2,by rw[e2,Array.append_assoc]⟩
 ·obtain⟨m,hn,hl⟩:=I.loc
  refine⟨m,ns m hn,λi x v e1 e2 e3=>?_⟩
  obtain⟨u,r,l⟩:=hl i x v e1 e2 e3
  refine⟨u,r,?_⟩;rcases l with l|⟨k,c,e,z⟩
  ·exact .inl l
  ·exact .inr ⟨k,c,e,cellK x c e _ z⟩
 ·obtain⟨v,z⟩:=I.cell x c e
  exact⟨v,cellK x c e v z⟩
 ·obtain⟨m,⟨o,_,_,ho,_⟩,_⟩:=I.loc
  exact free _ o (λz=>(hch _ z).2.1 rfl) ho I.free
 ·obtain⟨v,o,ho,hd⟩:=I.cell x c e
  exact free c o (λz=>(hch c z).2.2.1 x c e rfl) ho (I.freeC x c e)
 ·obtain⟨e,n,ne,nf,d⟩:=I.pin p hp
  have nch:p.1∉ch:=λz=>(hch p.1 z).2.2.2 p hp rfl
  exact⟨keep p.1 p.2 ne nf nch e n,free p.1 p.2 nch e n,ne,nf,d⟩
theorem a6.un {t':Nat}(I:a6 X ah σ H s)(u:Un X.fs [] H H' s.heap h')(hok:bM X.prog X.w H' h'):a6 X ah σ H' { s with heap:=h',toks:=t' }:=by
 obtain⟨m,⟨o,es,ep,ho,r⟩,_⟩:=id I.loc
 obtain⟨sl,hL⟩:=u.any ho I.free (by simp)
 exact I.step (g':=s.gens) (d':=s.drawn) (ch:=[]) (λ_ z=>nomatch z) (λb o _ hb _ e n=>u.keep b o e n hb (by simp)) (λb o _ hb _ e n=>u.slot b o e n hb (by simp)) (λb o _ e n=>u.free b o e n (by simp)) (λb o _ e=>u.there b o e (by simp)) u.tups u.frzs u.tbls (λm' hm=>by
  obtain⟨o',es',ep',ho',r'⟩:=hm
  rw[ho]at ho';cases ho'
  exact⟨_,es',ep',hL,r'⟩) hok I.bare
theorem a6.call {g':Array GenState}{t':Nat}{d':Drawn}{ch:List ax}(I:a6 X ah σ H s)(u:Un (b9 X.stack) ch H H' s.heap h')(hok:bM X.prog X.w H' h')(hg:AllBare g')(hch:∀b∈ch,(b∈X.ex∨X.s₀.heap.objs.size<=b)/\b≠X.env.locals/\(∀x c,X.env.cells.lookup x=some c->c≠b)/\∀p∈X.pn++ah,p.1≠b) :
  a6 X ah σ H' { s with heap:=h',gens:=g',drawn:=d',toks:=t' }:=by
 obtain⟨m,⟨o,es,ep,ho,r⟩,_⟩:=id I.loc
 obtain⟨sl,hL⟩:=u.any ho I.free λz=>(hch _ z).2.1 rfl
 exact I.step (ch:=ch) hch (λb o hL hb hc e n=>u.keep b o e n (λz=>(aI1.mp (I.stkSub b z)).elim hL hb) hc) (λb o _ _ hc e n=>u.any e n hc) (λb o hc e n=>u.free b o e n hc) (λb o hc e=>u.there b o e hc) u.tups u.frzs u.tbls (λm' hm=>by
  obtain⟨o',es',ep',ho',r'⟩:=hm
  rw[ho]at ho';cases ho'
  exact⟨_,es',ep',hL,r'⟩) hok hg
theorem a6.turned {t':Nat}{it:ax}(I:a6 X ah σ H s)(k:∀b o,b≠it->s.heap.get? b=some o->h'.get? b=some o)(hn:H it=none)(hL:it≠X.env.locals)(h1:it∈X.ex∨X.s₀.heap.objs.size<=it)(h2:∀x c,X.env.cells.lookup x=some c->c≠it)(h3:∀p∈X.pn++ah,p.1≠it):a6 X ah σ H { s with heap:=h',toks:=t' }:=by
 have nit:∀b u,H b=some u->b≠it:=λb u e z=>by rw[z,hn]at e;cases e
 refine I.step (g':=s.gens) (d':=s.drawn) (ch:=[it]) (λb hb=>?_) (λb o _ _ hc e _=>k b o (λz=>hc (by simp[z])) e) (λb o _ _ hc e _=>⟨o.slots,k b o (λz=>hc (by simp[z])) e⟩) (λ_ _ _ _ n=>n)
  (λb o hc e=>⟨o,k b o (λz=>hc (by simp[z])) e⟩) (λ_ _ e=>e) (λ_ _ _ e=>e) (λb ps e=>⟨#[],by rw[e];simp⟩) (λm hm=>?_) (λb u e=>?_) I.bare
 ·have e:b=it:=by simpa using hb
  subst e
  exact⟨h1,hL,h2,h3⟩
 ·obtain⟨o,es,ep,ho,r⟩:=hm
  exact⟨o,es,ep,k _ o (Ne.symm hL) ho,r⟩
 ·refine (I.hok b u e).stay (λc v hc q=>k c v ?_ q) (λ_ q=>q) λ_ _ q=>q
  rcases hc with z|z
  ·rw[z];exact nit b u e
  ·exact nit c _ z
theorem a6.tok (I:a6 X ah σ H s)(t:Nat):a6 X ah σ H { s with toks:=t }:=I.un (h':=s.heap) (t':=t) Un.refl I.hok
theorem a6.kept {t':Nat}(I:a6 X ah σ H s)(k:∀b u,s.heap.get? b=some u->h'.get? b=some u):a6 X ah σ H { s with heap:=h',toks:=t' }:=I.un (Un.kept k) (I.hok.kept k)
theorem a6.laid {a:ax}{o:HO}{t':Nat}(I:a6 X ah σ H s)(k:∀b u,s.heap.get? b=some u->h'.get? b=some u)(hp:s.heap.objs.size<=a)(new:bO X.prog X.w (upd H a o) h' a o) :
  a6 X ah σ (upd H a o) { s with heap:=h',toks:=t' }:=I.un (Un.laid k hp (I.hok.fresh hp)) (I.hok.laid k hp new)
theorem a6.write {x e:ax}{o:HO}{t':Nat}(I:a6 X ah σ H s)(mu:lZ (H x))(he:e=x∨H e=some (.own x))(k:∀b u,b≠e->s.heap.get? b=some u->h'.get? b=some u)(heo:∃u,h'.get? e=some u)(new:bO X.prog X.w (upd H x o) h' x o):a6 X ah σ (upd H x o) { s with heap:=h',toks:=t' }:=I.un (Un.write mu he k heo) (I.hok.write mu he k heo new)
theorem a6.weak {σ':List (Option V)}(I:a6 X ah σ H s)(hl:σ'.length=σ.length)(w:∀(i:Nat) v,σ'[i]? = some (some v)->σ[i]? = some (some v)):a6 X ah σ' H s:=
 ⟨I.ok,I.os,I.bare,I.base,let ⟨m,hn,hl'⟩:=I.loc;⟨m,hn,λi x v e1 e2 e3=>hl' i x v e1 (w i v e2) e3⟩,I.cell,I.free,I.freeC,I.pin,I.hok,hl.trans I.len⟩
theorem a6.pins_of {pins':List (ax×Obj)}(I:a6 X ah σ H s)(h:∀p∈pins',s.heap.get? p.1=some p.2/\H p.1=none/\p.1≠X.env.locals/\p.1∉X.fs/\∀v,p.2.data≠.cell v):a6 X pins' σ H s:=
 ⟨I.ok,I.os,I.bare,I.base,I.loc,I.cell,I.free,I.freeC,λp hp=>(aL2.mp hp).elim (λz=>I.pin p (List.mem_append_left _ z)) (h p),I.hok,I.len⟩
theorem qN {N:List Str}(hN:N.Nodup){i j:Nat}{x:Str}(a:N[i]? = some x)(b:N[j]? = some x):i=j:=by
 obtain⟨h1,e1⟩:=aI4.mp a
 obtain⟨h2,e2⟩:=aI4.mp b
 exact (List.getElem_inj hN).mp (e1.trans e2.symm)
theorem qO {M:Model}{A:ba}{E:ar->aw->Prop}{i:Nat}{x:Str}{v:V}{u:ar}{Q:Unit->aw->Prop}(I:a6 X ah σ H s)(hN:X.N.Nodup)(hi:X.N[i]? = some x)(hx:iW X.env.scope x)(r:aX v u)(h:∀s',a6 X ah (σ.set i (some v)) H s'->(∃a,Heap.SameBut a s.heap s'.heap/\(a=X.env.locals∨X.env.cells.lookup x=some a))->Q () s')(hf:X.fn x=true∨X.env.scope.names.lookup x=some .local:=by first|exact .inl rfl|exact .inr rfl|assumption):wpAny M A (storeName X.env x u) Q E s:=by
 obtain⟨m,hn,hl⟩:=id I.loc
 have hcls:(X.env.scope.kind==.class||(X.env.scope.kind==.module&&X.env.locals != X.env.globals))=false:=by rw[I.ok.kind];rfl
 have hiσ:i<σ.length:=by rw[I.len];exact (aI4.mp hi).1
 have cne:=I.cne;have tracked:∀{a:ax}{h':Heap},(∃o,s.heap.get? a=some o/\H a=none)->Heap.SameBut a s.heap h'->bM X.prog X.w H h':=λ{a h'} ha hs b ob e=>by
  obtain⟨_,_,hfree⟩:=ha
  refine (I.hok b ob e).stay (λc w' hc q=>(hs.2 c ?_).trans q) (λ_ q=>q) λ_ _ q=>q
  rintro rfl;rcases hc with rfl|hc
  ·rw[hfree]at e;cases e
  ·rw[hfree]at hc;cases hc
 rcases hx with hk|hk
 ·refine wpAny_storeName_local hk hn (λh' hn' hs=>?_) hcls
  obtain⟨oL,_,_,hoL,_⟩:=id hn
  refine h _ ⟨I.ok,I.os,I.bare,⟨λb o e n hb hx=>?_,λb o e n hb hx=>?_,I.base.free,λb o e hx=>?_,I.base.tups,I.base.frzs,I.base.tbls⟩,⟨_,hn',λj y v' e1 e2 e3=>?_⟩,λy c e=>?_,I.free,I.freeC,λp hp=>?_,tracked ⟨oL,hoL,I.free⟩ hs,by simpa using I.len⟩ ⟨_,hs,.inl rfl⟩
  ·exact (hs.2 b (aL1 (aH8 (aI3 e) I.ok.above))).trans (I.base.keep b o e n hb hx)
  ·obtain⟨sl,e1⟩:=I.base.slot b o e n hb hx
   exact⟨sl,(hs.2 b (aL1 (aH8 (aI3 e) I.ok.above))).trans e1⟩
  ·obtain⟨o',e1⟩:=I.base.there b o e hx
   exact⟨o',(hs.2 b (aL1 (aH8 (aI3 e) I.ok.above))).trans e1⟩
  ·by_cases hj:j=i
   ·subst hj
    rw[hi]at e1;cases e1;rw[aM9 hiσ]at e2;cases e2
    exact⟨u,r,.inl ⟨hk,by simp⟩⟩
   ·rw[aJ5 (Ne.symm hj)]at e2
    obtain⟨u',r',q⟩:=hl j y v' e1 e2 e3
    refine⟨u',r',?_⟩;rcases q with⟨k,e⟩|⟨k,c,e,z⟩
    ·refine .inl ⟨k,?_⟩
     have:y≠x:=λe=>hj (qN hN e1 (e▸hi))
     simp[this,e]
    ·exact .inr ⟨k,c,e,z.sameBut hs (cne y c e)⟩
  ·obtain⟨w',z⟩:=I.cell y c e
   exact⟨w',z.sameBut hs (cne y c e)⟩
  ·obtain⟨e,n,ne,nf,d⟩:=I.pin p hp
   exact⟨(hs.2 p.1 ne).trans e,n,ne,nf,d⟩
 ·have hfn:X.fn x=true:=by
   rcases hf with z|z
   ·exact z
   ·rw[z]at hk;cases hk
  obtain⟨c,hc⟩:=I.ok.has x (.inl hk)
  obtain⟨w',z⟩:=I.cell x c hc
  refine wpAny_storeName_cell I.ok.kind hk hc z (λh' hc' hs=>?_)
  obtain⟨oc,hoc,hocd⟩:=id z
  refine h { s with heap:=h' } ⟨I.ok,I.os,I.bare,⟨λb o e n hb hx=>?_,λb o e n hb hx=>?_,I.base.free,λb o e hx=>?_,I.base.tups,I.base.frzs,I.base.tbls⟩,⟨m,hn.sameBut hs (Ne.symm (cne x c hc)),λj y v' e1 e2 e3=>?_⟩,λy c' e=>?_,I.free,I.freeC,λp hp=>?_,tracked ⟨oc,hoc,I.freeC x c hc⟩ hs,by simpa using I.len⟩ ⟨c,hs,.inr hc⟩
  ·exact (hs.2 b (aL1 (aH8 (aI3 e) (I.ok.cab x c hfn hc)))).trans (I.base.keep b o e n hb hx)
  ·obtain⟨sl,e1⟩:=I.base.slot b o e n hb hx
   exact⟨sl,(hs.2 b (aL1 (aH8 (aI3 e) (I.ok.cab x c hfn hc)))).trans e1⟩
  ·obtain⟨o',e1⟩:=I.base.there b o e hx
   exact⟨o',(hs.2 b (aL1 (aH8 (aI3 e) (I.ok.cab x c hfn hc)))).trans e1⟩
  ·by_cases hj:j=i
   ·subst hj
    rw[hi]at e1;cases e1;rw[aM9 hiσ]at e2;cases e2
    exact⟨u,r,.inr ⟨.inl hk,c,hc,hc'⟩⟩
   ·rw[aJ5 (Ne.symm hj)]at e2
    obtain⟨u',r',q⟩:=hl j y v' e1 e2 e3
    refine⟨u',r',?_⟩;rcases q with q|⟨k,c',e,z'⟩
    ·exact .inl q
    ·refine .inr ⟨k,c',e,z'.sameBut hs ?_⟩
     rintro rfl;exact hj (qN hN e1 (I.ok.inj _ _ _ e hc▸hi))
  ·by_cases hcc:c'=c
   ·subst hcc;exact⟨_,hc'⟩
   ·obtain⟨w2,z2⟩:=I.cell y c' e
    exact⟨w2,z2.sameBut hs hcc⟩
  ·obtain⟨e,n,ne,nf,d⟩:=I.pin p hp
   refine⟨(hs.2 p.1 ?_).trans e,n,ne,nf,d⟩;intro q;rw[q,hoc]at e;have q':oc=p.2:=aI7 e;exact d w' (by rw[<- q'];exact hocd)
theorem nY {M:Model}{A:ba}{E:ar->aw->Prop}{i:Nat}{x:Str}{v:V}{u:ar}{Q:Unit->aw->Prop}(I:a6 X ah σ H s)(hN:X.N.Nodup)(hi:X.N[i]? = some x)(hx:iW X.env.scope x)(r:aX v u)(h:∀s',a6 X ah (σ.set i (some v)) H s'->Q () s')(hf:X.fn x=true∨X.env.scope.names.lookup x=some .local:=by first|exact .inl rfl|exact .inr rfl|assumption):wpAny M A (storeName X.env x u) Q E s:=
 qO I hN hi hx r (λs' I' _=>h s' I') hf
theorem a6.call' {s':aw}{ch:List ax}(I:a6 X ah σ H s)(ho:s'.os=s.os)(u:Un (b9 X.stack) ch H H' s.heap s'.heap)(hok:bM X.prog X.w H' s'.heap)(hg:AllBare s'.gens)(hch:∀b∈ch,(b∈X.ex∨X.s₀.heap.objs.size<=b)/\b≠X.env.locals/\(∀x c,X.env.cells.lookup x=some c->c≠b)/\∀p∈X.pn++ah,p.1≠b):a6 X ah σ H' s':=by
 obtain⟨h',g',d',t',o'⟩:=s'
 have e:o'=s.os:=ho;subst e;exact I.call (g':=g') (t':=t') (d':=d') u hok hg hch
end
noncomputable abbrev XK:=ar->Option ax->Hp->Prop
noncomputable abbrev St:=List (Option V)
noncomputable abbrev VK:=V->Hp->Prop
noncomputable abbrev TE:=St->Hp->VK->Prop
noncomputable abbrev TT:=St->Hp->(Bool->Hp->Prop)->Prop
noncomputable abbrev TA:=St->Hp->(List V->Hp->Prop)->Prop
structure cP where
 nx:St->Hp->Prop
 rt:VK
 bk:St->Hp->Prop:=λ_ _=>False
 ct:St->Hp->Prop:=λ_ _=>False
noncomputable abbrev TS:=cP->St->Hp->Prop
noncomputable def EP (X:Cx)(ah:List (ax×Obj))(σ:St)(Q:VK)(u:ar)(s':aw):Prop:=∃v H',a6 X ah σ H' s'/\aX v u/\Q v H'
noncomputable def TP (X:Cx)(ah:List (ax×Obj))(σ:St)(Q:Bool->Hp->Prop)(b:Bool)(s':aw):Prop:=∃H',a6 X ah σ H' s'/\Q b H'
noncomputable def AP (X:Cx)(ah:List (ax×Obj))(σ:St)(Q:List V->Hp->Prop)(us:List ar)(s':aw):Prop:=∃vs H',a6 X ah σ H' s'/\aO vs us/\Q vs H'
noncomputable def SP (X:Cx)(ah:List (ax×Obj))(D:cP)(f:Flow)(s':aw):Prop:=
 match f with
 |.next=>∃σ' H',a6 X ah σ' H' s'/\D.nx σ' H'
 |.brk=>∃σ' H',a6 X ah σ' H' s'/\D.bk σ' H'
 |.cont=>∃σ' H',a6 X ah σ' H' s'/\D.ct σ' H'
 |.ret u=>∃v σ' H',a6 X ah σ' H' s'/\aX v u/\D.rt v H'
noncomputable def PE (X:Cx)(e:Expr)(t:TE):Prop:=
 ∀(ah:List (ax×Obj)) (s:aw) (σ:St) (H:Hp) (Q:VK),a6 X ah σ H s->t σ H Q->wpAny (model X.prog X.w) X.A (eval e X.env) (EP X ah σ Q) X.xe s
noncomputable def PT (X:Cx)(e:Expr)(t:TT):Prop:=
 ∀(ah:List (ax×Obj)) (s:aw) (σ:St) (H:Hp) (Q:Bool->Hp->Prop),a6 X ah σ H s->t σ H Q->wpAny (model X.prog X.w) X.A (isTrue e X.env (eval e X.env)) (TP X ah σ Q) X.xe s
noncomputable def PW (X:Cx)(e:Expr)(t:TT):Prop:=
 ∀(whole:Sem ar) (ah:List (ax×Obj)) (s:aw) (σ:St) (H:Hp) (Q:Bool->Hp->Prop),a6 X ah σ H s->t σ H Q->wpAny (model X.prog X.w) X.A (isTrue e X.env whole) (TP X ah σ Q) X.xe s
theorem PW.pt {X:Cx}{e:Expr}{t:TT}(h:PW X e t):PT X e t:=h _
noncomputable def PA (X:Cx)(es:List Expr)(t:TA):Prop:=
 ∀(pos:Pos) (ah:List (ax×Obj)) (s:aw) (σ:St) (H:Hp) (Q:List V->Hp->Prop),a6 X ah σ H s->t σ H Q->wpAny (model X.prog X.w) X.A (spliced (backTo pos (starEach es X.env))) (AP X ah σ Q) X.xe s
noncomputable def PS (X:Cx)(st:Stmt)(t:TS):Prop:=
 ∀(ah:List (ax×Obj)) (s:aw) (σ:St) (H:Hp) (D:cP),a6 X ah σ H s->t D σ H->wpAny (model X.prog X.w) X.A (exec st X.env) (SP X ah D) X.xe s
noncomputable def cY (X:Cx)(st:List Stmt)(t:TS):Prop:=
 ∀(ah:List (ax×Obj)) (s:aw) (σ:St) (H:Hp) (D:cP),a6 X ah σ H s->t D σ H->wpAny (model X.prog X.w) X.A (execs st X.env) (SP X ah D) X.xe s
theorem aR {α:Type}{t:Sem α}{Q Q':α->aw->Prop}{M:Model}{A:ba}{E:ar->aw->Prop}{s:aw}(h:wpAny M A t Q E s)(hQ:∀a s,Q a s->Q' a s):wpAny M A t Q' E s:=aM1 h hQ λ_ _ x=>x
section
variable {X:Cx}
theorem bin {a b:Expr}{ta tb:TE}(ha:PE X a ta)(hb:PE X b tb){ah:List (ax×Obj)}{s:aw}{σ:St}{H:Hp}{R:V->V->Hp->Prop}(I:a6 X ah σ H s)(h:ta σ H λx H1=>tb σ H1 λy H2=>R x y H2){α:Type}{Q:α->aw->Prop}{f:ar->ar->Sem α}(hf:∀v u s2 x y H2,a6 X ah σ H2 s2->aX x v->aX y u->R x y H2->wpAny (model X.prog X.w) X.A (f v u) Q X.xe s2) :
  wpAny (model X.prog X.w) X.A (eval a X.env) (λv s₁=>wpAny (model X.prog X.w) X.A (eval b X.env) (λu s₂=>wpAny (model X.prog X.w) X.A (f v u) Q X.xe s₂) X.xe s₁) X.xe s:=by
 refine aR (ha ah s σ H _ I h) λv s1 ⟨x,H1,I1,r1,q1⟩=>?_
 refine aR (hb ah s1 σ H1 _ I1 q1) λu s2 ⟨y,H2,I2,r2,q2⟩=>?_
 exact hf v u s2 x y H2 I2 r1 r2 q2
noncomputable def jP (i:Nat):TE:=λσ H Q=>∃v,σ[i]? = some (some v)/\Q v H
noncomputable def tC (v:V):TE:=λ_ H Q=>Q v H
theorem kY {i:Nat}{x:Str}{pos:Pos}(hN:X.N[i]? = some x)(hv:i6 X.env.scope x)(hd:(x==("__debug__":Str))=false:=by decide)(hcd:(x==("__classdict__":Str))=false:=by decide):PE X (.Name x pos) (jP i):=by
 intro ah s σ H Q I h
 obtain⟨v,e,h⟩:=h
 obtain⟨m,hn,hl⟩:=I.loc
 obtain⟨u,r,l⟩:=hl i x v hN e hv
 have fin:EP X ah σ Q u s:=⟨v,H,I,r,h⟩;rcases l with⟨hk,hm⟩|⟨hk,c,hc,hcell⟩
 ·exact wpAny_Name (wpAny_loadName_local I.ok.kind hk hn hm fin) hd
 ·rcases hk with hk|hk
  ·exact wpAny_Name (wpAny_loadName_cell I.ok.kind hk hc hcell fin) hd
  ·exact wpAny_Name (wpAny_loadName_free I.ok.kind hk hc hcell fin hcd) hd
theorem Q5 {i j pos}:PE X (.Constant (.int i) j pos) (tC (.int i)):=λ_ _ _ H _ I h=>wpAny_Constant_int ⟨.int i,H,I.tok _,⟨_,rfl⟩,h⟩
theorem Q6 {b j pos}:PE X (.Constant (.bool b) j pos) (tC (.bl b)):=λ_ _ _ H _ I h=>Constant_bool ⟨.bl b,H,I,rfl,h⟩
theorem Q7 {j pos}:PE X (.Constant .none j pos) (tC .non):=λ_ _ _ H _ I h=>Constant_none ⟨.non,H,I,rfl,h⟩
theorem Q8 {x j pos}:PE X (.Constant (.str x) j pos) (tC (.str x)):=λ_ _ _ H _ I h=>Calls.Constant_str ⟨.str x,H,I.tok _,⟨_,rfl⟩,h⟩
noncomputable def Gl (X:Cx)(x:Str):Prop:=X.env.kindOf x=some .globalImplicit
theorem m5 {E:ar->aw->Prop}{ah:List (ax×Obj)}{s:aw}{σ:St}{H:Hp}{x:Str}{u:ar}{pos:Pos}{Q:ar->aw->Prop}(I:a6 X ah σ H s)(hg:Gl X x)(hm:X.mg x=some u)(h:Q u s)(hd:(x==("__debug__":Str))=false:=by decide):wpAny (model X.prog X.w) X.A (eval (.Name x pos) X.env) Q E s:=
 Calls.Name_function_global I.ok.kind hg (Calls.loadGlobal_global (by rw[I.ok.glob];exact I.mod.glob.keeps I.bk) hm h) hd
theorem jQ {E:ar->aw->Prop}{ah:List (ax×Obj)}{s:aw}{σ:St}{H:Hp}{x:Str}{u:ar}{pos:Pos}{Q:ar->aw->Prop}(I:a6 X ah σ H s)(hg:Gl X x)(hm:X.mg x=none)(hv:bootBuiltins x=some u)(h:Q u s)(hn:x≠"__name__":=by decide)(hd:(x==("__debug__":Str))=false:=by decide):wpAny (model X.prog X.w) X.A (eval (.Name x pos) X.env) Q E s:=by
 obtain⟨mb,h1,h2⟩:=I.mod.blt
 exact Calls.Name_function_global I.ok.kind hg (Calls.loadGlobal_builtin (by rw[I.ok.glob];exact I.mod.glob.keeps I.bk) hm (by rw[I.ok.blt];exact h1.keeps I.bk) ((h2 x hn).trans hv) h) hd
theorem qP {x:Str}{v:V}{u:ar}{pos:Pos}(hg:Gl X x)(hm:X.mg x=some u)(r:aX v u)(hd:(x==("__debug__":Str))=false:=by decide):PE X (.Name x pos) (tC v):=
 λ_ _ _ H _ I h=>m5 I hg hm ⟨v,H,I,r,h⟩ hd
theorem uQ {x:Str}{v:V}{u:ar}{pos:Pos}(hg:Gl X x)(hm:X.mg x=none)(hv:bootBuiltins x=some u)(r:aX v u)(hn:x≠"__name__":=by decide)(hd:(x==("__debug__":Str))=false:=by decide):PE X (.Name x pos) (tC v):=
 λ_ _ _ H _ I h=>jQ I hg hm hv ⟨v,H,I,r,h⟩ hn hd
variable {a b:Expr}{ta tb:TE}{pos:Pos}
noncomputable def PC (X:Cx)(op:CmpOp)(a b:Expr)(t:TE):Prop:=
 ∀(ah:List (ax×Obj)) (s:aw) (σ:St) (H:Hp) (Q:VK),a6 X ah σ H s->t σ H Q->
  wpAny (model X.prog X.w) X.A (eval a X.env) (λv s₁=>wpAny (model X.prog X.w) X.A (eval b X.env) (λu s₂=>wpAny (model X.prog X.w) X.A (compareOp op v u) (EP X ah σ Q) X.xe s₂) X.xe s₁) X.xe s
noncomputable def tB (t:TE):TT:=λσ H Q=>t σ H λx H1=>∃c,x = .bl c/\Q c H1
theorem aG4 {op:CmpOp}{t:TE}(h:PC X op a b t)(h1:behindInMarks op b=false:=by first|exact nobehind _ (by decide) (by decide)|rfl):PT X (.Compare a [op] [b] pos) (tB t):=by
 intro ah s σ H Q I hw;refine wpAny_isTrue_Compare1 (aR (h ah s σ H _ I hw) λv s1 h1=>aR h1 λu s2 h2=>aR h2 λc s3 ⟨x,H1,I1,r1,q1⟩=>?_) h1
 obtain⟨d,rfl,q⟩:=q1
 cases r1;exact aQ5 ⟨H1,I1,q⟩
theorem Q9 {e:Expr}{t:TE}(h:PE X e t)(he:∀whole,isTrue e X.env whole=(do let v <- whole;standAt e.pos;holding [v] (truthy v)):=by intro _;rfl):PT X e (tB t):=by
 intro ah s σ H Q I hw;refine isTrue_plain (aR (h ah s σ H _ I hw) λv s1 ⟨x,H1,I1,r1,q1⟩=>?_) (he _)
 obtain⟨d,rfl,q⟩:=q1
 cases r1;exact aQ5 ⟨H1,I1,q⟩
variable {tA tB':TT}{bT:List Expr}
noncomputable def uR (t u:TT):TT:=λσ H Q=>t σ H λc H1=>if c=true then u σ H1 Q else Q false H1
noncomputable def uS (t u:TT):TT:=λσ H Q=>t σ H λc H1=>if c=true then Q true H1 else u σ H1 Q
noncomputable def uT (t:TT):TT:=λσ H Q=>t σ H λc H1=>Q (!c) H1
theorem R0 (ha:PT X a tA):PW X (.BoolOp .And [a] pos) tA:=by
 intro wh ah s σ H Q I h;refine isTrue_and (aR (ha ah s σ H Q I h) λc s1 e=>?_);cases c with
 |true=>exact isTrue_and_nil e
 |false=>exact e
theorem R1 (ha:PT X a tA):PW X (.BoolOp .Or [a] pos) tA:=by
 intro wh ah s σ H Q I h;refine isTrue_or (aR (ha ah s σ H Q I h) λc s1 e=>?_);cases c with
 |false=>exact isTrue_or_nil e
 |true=>exact e
theorem R3 (ha:PT X a tA)(hb:PW X (.BoolOp .And (b::bT) pos) tB'):PW X (.BoolOp .And (a::b::bT) pos) (uR tA tB'):=by
 intro wh ah s σ H Q I h;refine isTrue_and (aR (ha ah s σ H _ I h) λc s1 ⟨H1,I1,q1⟩=>?_);cases c with
 |true=>exact hb wh ah s1 σ H1 Q I1 q1
 |false=>exact⟨H1,I1,q1⟩
theorem R4 (ha:PT X a tA)(hb:PW X (.BoolOp .Or (b::bT) pos) tB'):PW X (.BoolOp .Or (a::b::bT) pos) (uS tA tB'):=by
 intro wh ah s σ H Q I h;refine isTrue_or (aR (ha ah s σ H _ I h) λc s1 ⟨H1,I1,q1⟩=>?_);cases c with
 |true=>exact⟨H1,I1,q1⟩
 |false=>exact hb wh ah s1 σ H1 Q I1 q1
theorem R5 (ha:PT X a tA):PT X (.UnaryOp .Not a pos) (uT tA):=by
 intro ah s σ H Q I h;exact isTrue_not (ha ah s σ H (λc H1=>Q (!c) H1) I h)
noncomputable def uU (ta tb:TE):TE:=λσ H Q=>ta σ H λx H1=>∃c,x = .bl c/\if c=true then tb σ H1 Q else Q (.bl false) H1
noncomputable def uV (ta:TE):TE:=λσ H Q=>ta σ H λx H1=>∃c,x = .bl c/\Q (.bl (!c)) H1
theorem R6 {op}{t:TE}(h:PE X a t):PE X (.BoolOp op [a] pos) t:=λah s σ H Q I hw=>BoolOp_one (h ah s σ H Q I hw)
theorem R7 (ha:PE X a ta)(hb:PE X (.BoolOp .And (b::bT) pos) tb):PE X (.BoolOp .And (a::b::bT) pos) (uU ta tb):=by
 intro ah s σ H Q I h;refine BoolOp_and (aR (ha ah s σ H _ I h) λv s1 ⟨x,H1,I1,r1,q1⟩=>?_)
 obtain⟨c,rfl,q1⟩:=q1
 cases r1;refine aQ5 ?_;cases c with
 |true=>exact hb ah s1 σ H1 Q I1 q1
 |false=>exact⟨.bl false,H1,I1,rfl,q1⟩
theorem R8 (ha:PE X a ta):PE X (.UnaryOp .Not a pos) (uV ta):=by
 intro ah s σ H Q I h;refine UnaryOp_ (aR (ha ah s σ H _ I h) λv s1 ⟨x,H1,I1,r1,q1⟩=>?_)
 obtain⟨c,rfl,q1⟩:=q1
 cases r1;exact not_of (aQ5 ⟨.bl (!c),H1,I1,rfl,q1⟩)
end
noncomputable def aS (K:ae)(H:Hp)(a:ax)(xs:List V):Prop:=
 Rd H a (.lst xs) ∨
  ∃(o:Obj) (its:Array ar) (n:Nat),K.lookup a=some o/\o.cls = .type "list"/\o.dict=none/\o.data = .seq its n/\its.size<=sizeLine/\aO xs its.toList
noncomputable def aU (K:ae)(H:Hp)(a:ax)(xs:List V):Prop:=
 Rd H a (.tup xs) ∨
  ∃(o:Obj) (its:Array ar) (n:Nat),K.lookup a=some o/\o.cls = .type "tuple"/\o.data = .seq its n/\its.size<=sizeLine/\aO xs its.toList
noncomputable def R9:ar->Option V
 |.none=>some .non
 |.bool b=>some (.bl b)
 |.int i _=>some (.int i)
 |.str x _=>some (.str x)
 |.bytes b _=>some (.byt b)
 |.float b _=>some (.flt b)
 |.ref a=>some (.ref a)
 |.type n=>some (.ty n)
 |_=>none
theorem aX.abs {x:V}{u:ar}(r:aX x u):R9 u=some x:=by
 cases x with
 |non=>cases r;rfl
 |bl _=>cases r;rfl
 |int _=>obtain⟨t,rfl⟩:=r;rfl
 |str _=>obtain⟨t,rfl⟩:=r;rfl
 |byt _=>obtain⟨t,rfl⟩:=r;rfl
 |flt _=>obtain⟨t,rfl⟩:=r;rfl
 |ref _=>cases r;rfl
 |ty _=>cases r;rfl
theorem aX.inj {x y:V}{u:ar}(r:aX x u)(q:aX y u):x=y:=aI7 (r.abs.symm.trans q.abs)
theorem aO.inj:∀{xs ys:List V}{us:List ar},aO xs us->aO ys us->xs=ys
 |_,_,_,.nil,.nil=>rfl
 |_,_,_,.cons r t,.cons r' t'=>by rw[r.inj r',aO.inj t t']
section
variable {X:Cx}{ah:List (ax×Obj)}{σ:St}{H:Hp}{s:aw}{a:ax}{xs ys:List V}
theorem aS.of {K:ae}(h:H a=some (.lst xs)):aS K H a xs:=.inl (.inl h)
theorem aU.of {K:ae}(h:H a=some (.tup xs)):aU K H a xs:=.inl (.inl h)
theorem a6.list (I:a6 X ah σ H s)(h:aS X.K H a xs):∃its:List ar,aO xs its/\PlainL s.heap a its.toArray/\xs.length<=sizeLine:=by
 rcases h with h|⟨o,its,n,hk,hc,hd,hs,hz,r⟩
 ·obtain⟨z,its,n,r,e⟩:=h.ok I.hok
  exact⟨its,r,⟨_,n,e,rfl,rfl,rfl⟩,z⟩
 ·refine⟨its.toList,r,⟨o,n,I.kIn a o hk,hc,hd,by simpa using hs⟩,?_⟩
  have e:=r.length;simp only[aN2]at e;omega
theorem a6.tuple (I:a6 X ah σ H s)(h:aU X.K H a xs):∃its:List ar,aO xs its/\IsTup s.heap a its.toArray/\xs.length<=sizeLine:=by
 rcases h with h|⟨o,its,n,hk,hc,hs,hz,r⟩
 ·obtain⟨z,its,r,p,_⟩:=h.ok I.hok
  exact⟨its,r,p,z⟩
 ·refine⟨its.toList,r,⟨o,I.kIn a o hk,hc,n,by simpa using hs⟩,?_⟩
  have e:=r.length;simp only[aN2]at e;omega
theorem a6.list_inj (I:a6 X ah σ H s)(h:aS X.K H a xs)(h':aS X.K H a ys):xs=ys:=by
 obtain⟨its,r,⟨o,n,e,_,_,d⟩,_⟩:=I.list h
 obtain⟨its',r',⟨o',n',e',_,_,d'⟩,_⟩:=I.list h'
 rw[e]at e';cases e';rw[d]at d';injection d' with d1 _
 have:its=its':=by simpa using congrArg Array.toList d1
 subst this;exact r.inj r'
theorem a6.tuple_inj (I:a6 X ah σ H s)(h:aU X.K H a xs)(h':aU X.K H a ys):xs=ys:=by
 obtain⟨its,r,⟨o,e,_,n,d⟩,_⟩:=I.tuple h
 obtain⟨its',r',⟨o',e',_,n',d'⟩,_⟩:=I.tuple h'
 rw[e]at e';cases e';rw[d]at d';injection d' with d1 _
 have:its=its':=by simpa using congrArg Array.toList d1
 subst this;exact r.inj r'
end
noncomputable abbrev Cx.wish (X:Cx)(E:ar->aw->Prop):Cx:={ X with xe:=E }
noncomputable abbrev Cx.nox (X:Cx):Cx:=X.wish λ_ _=>False
theorem Cx.Ok.wish {X:Cx}(ok:X.Ok)(E:ar->aw->Prop):(X.wish E).Ok:=
 ⟨ok.mod,ok.kind,ok.glob,ok.blt,ok.above,ok.inj,ok.has,ok.cab,ok.hd,ok.frames,ok.stk,ok.exf,ok.bs,ok.bsz,ok.noex,ok.exfs,ok.funs,ok.frf⟩
theorem Cx.Ok.unwish {X:Cx}{E:ar->aw->Prop}(ok:(X.wish E).Ok):X.Ok:=
 ⟨ok.mod,ok.kind,ok.glob,ok.blt,ok.above,ok.inj,ok.has,ok.cab,ok.hd,ok.frames,ok.stk,ok.exf,ok.bs,ok.bsz,ok.noex,ok.exfs,ok.funs,ok.frf⟩
section
variable {X:Cx}{ah:List (ax×Obj)}{σ:St}{H:Hp}{s:aw}{E:ar→aw→Prop}
theorem a6.wish (I:a6 X ah σ H s)(E:ar->aw->Prop):a6 (X.wish E) ah σ H s:=⟨I.ok.wish E,I.os,I.bare,I.base,I.loc,I.cell,I.free,I.freeC,I.pin,I.hok,I.len⟩
theorem a6.unwish (I:a6 (X.wish E) ah σ H s):a6 X ah σ H s:=⟨I.ok.unwish,I.os,I.bare,I.base,I.loc,I.cell,I.free,I.freeC,I.pin,I.hok,I.len⟩
theorem SP.unwish {D:cP}{f:Flow}{s':aw}(h:SP (X.wish E) ah D f s'):SP X ah D f s':=by
 cases f with
 |next=>obtain⟨σ',H',I,q⟩:=h;exact⟨σ',H',I.unwish,q⟩
 |brk=>obtain⟨σ',H',I,q⟩:=h;exact⟨σ',H',I.unwish,q⟩
 |cont=>obtain⟨σ',H',I,q⟩:=h;exact⟨σ',H',I.unwish,q⟩
 |ret u=>obtain⟨v,σ',H',I,r,q⟩:=h;exact⟨v,σ',H',I.unwish,r,q⟩
theorem cY.nox {st:List Stmt}{t:TS}(h:cY X.nox st t):cY X st t:=λah s σ H D I hw=>
 aM1 (h ah s σ H D (I.wish _) hw) (λ_ _ q=>q.unwish) λ_ _ z=>False.elim z
end
section
variable {X:Cx}{st:Stmt}{bT:List Stmt}{t u:TS}{e:Expr}{te:TE}{pos:Pos}
noncomputable def uW:TS:=λD σ H=>D.nx σ H
noncomputable def uX (t u:TS):TS:=λD σ H=>t { D with nx:=u D } σ H
theorem S0:cY X [] uW:=λ_ _ σ H _ I h=>wpAny_execs_nil ⟨σ,H,I,h⟩
theorem S2 (h1:PS X st t)(h2:cY X bT u):cY X (st::bT) (uX t u):=by
 intro ah s σ H D I h;refine wpAny_execs_cons (aR (h1 ah s σ H { D with nx:=u D } I h) λf s1 q=>?_);cases f with
 |next=>
  obtain⟨σ',H',I',q⟩:=q
  exact h2 ah s1 σ' H' D I' q
 |ret v=>exact q
 |brk=>exact q
 |cont=>exact q
theorem S3 (h1:PS X st t):cY X [st] t:=by
 intro ah s σ H D I h;refine wpAny_execs_cons (aR (h1 ah s σ H D I h) λf s1 q=>?_);cases f with
 |next=>exact wpAny_execs_nil q
 |ret v=>exact q
 |brk=>exact q
 |cont=>exact q
theorem a6.quiet {ah:List (ax×Obj)}{σ:St}{H:Hp}{s:aw}(I:a6 X ah σ H s):interactive X.env=false:=by simp[interactive,I.ok.kind]
noncomputable def nZ (te:TE):TS:=λD σ H=>te σ H λ_ H1=>D.nx σ H1
theorem qQ (he:PE X e te)(hs:swapsWith e none pos.line X.env=pure false:=by rfl):PS X (.Expr e pos) (nZ te):=by
 intro ah s σ H D I h;exact wpAny_Expr_any (aR (he ah s σ H _ I h) λv s1 ⟨x,H1,I1,r1,q1⟩=>⟨σ,H1,I1,q1⟩) I.quiet hs
noncomputable def qR (te:TE):TS:=λD σ H=>te σ H D.rt
theorem uY (he:PE X e te):PS X (.Return (some e) pos) (qR te):=by
 intro ah s σ H D I h;exact wpAny_Return_some (aR (he ah s σ H _ I h) λv s1 ⟨x,H1,I1,r1,q1⟩=>⟨x,σ,H1,I1,r1,q1⟩)
noncomputable def uZ (c:TT)(t u:TS):TS:=λD σ H=>c σ H λb H1=>if b=true then t D σ H1 else u D σ H1
theorem S4 {c:Expr}{a b:List Stmt}{tc:TT}(hc:PT X c tc)(ha:cY X a t)(hb:cY X b u):PS X (.If c a b pos) (uZ tc t u):=by
 intro ah s σ H D I h;refine wpAny_If (aR (hc ah s σ H _ I h) λd s1 ⟨H1,I1,q1⟩=>?_);cases d with
 |true=>exact ha ah s1 σ H1 D I1 q1
 |false=>exact hb ah s1 σ H1 D I1 q1
end
noncomputable abbrev TG:=V->St->Hp->(St->Hp->Prop)->Prop
noncomputable abbrev jR:=List V->St->Hp->(St->Hp->Prop)->Prop
noncomputable def PG (X:Cx)(target:Expr)(t:TG):Prop:=
 ∀(ah:List (ax×Obj)) (s:aw) (σ:St) (H:Hp) (v:V) (u:ar) (Q:St->Hp->Prop),a6 X ah σ H s->aX v u->t v σ H Q->
  wpAny (model X.prog X.w) X.A (assign target X.env u) (λ_ s'=>∃σ' H',a6 X ah σ' H' s'/\Q σ' H') X.xe s
noncomputable def o4 (X:Cx)(ts:List Expr)(t:jR):Prop:=
 ∀(ah:List (ax×Obj)) (s:aw) (σ:St) (H:Hp) (vs:List V) (us:List ar) (Q:St->Hp->Prop),a6 X ah σ H s->aO vs us->t vs σ H Q->
  wpAny (model X.prog X.w) X.A (assignInOrder ((assignEach ts X.env).map (·.2)) us) (λ_ s'=>∃σ' H',a6 X ah σ' H' s'/\Q σ' H') X.xe s
section
variable {X:Cx}{pos:Pos}
noncomputable def dE (i:Nat):TG:=λv σ H Q=>Q (σ.set i (some v)) H
theorem kZ {i:Nat}{x:Str}(hN:X.N.Nodup)(hi:X.N[i]? = some x)(hx:iW X.env.scope x)(hf:X.fn x=true∨X.env.scope.names.lookup x=some .local:=by first|exact .inl rfl|exact .inr rfl|assumption):PG X (.Name x pos) (dE i):=by
 intro ah s σ H v u Q I r h;exact wpAny_assign_Name (nY I hN hi hx r (λs' I'=>⟨_,H,I',h⟩) hf)
noncomputable def o7:jR:=λvs σ H Q=>vs = []/\Q σ H
noncomputable def jS (t:TG)(u:jR):jR:=λvs σ H Q=>∃v r,vs=v::r/\t v σ H λσ' H'=>u r σ' H' Q
theorem S5:o4 X [] o7:=by
 intro ah s σ H vs us Q I r h
 obtain⟨e,h⟩:=h
 subst e;cases r;exact assignInOrder_nil ⟨σ,H,I,h⟩
theorem v3 {e:Expr}{es:List Expr}{t:TG}{u:jR}(h1:PG X e t)(h2:o4 X es u)(hs:(assignEach (e::es) X.env).map (·.2)=assign e X.env::(assignEach es X.env).map (·.2):=by rfl):o4 X (e::es) (jS t u):=by
 intro ah s σ H vs us Q I r h
 obtain⟨v,vr,e1,h⟩:=h
 subst e1;cases r with
 |cons r rr=>
  rw[hs];refine assignInOrder_cons (aR (h1 ah s σ H _ _ _ I r h) λ_ s1 ⟨σ1,H1,I1,q1⟩=>?_);exact h2 ah s1 σ1 H1 _ _ Q I1 rr q1
noncomputable def o8 (K:ae)(n:Nat)(t:jR):TG:=λv σ H Q=>∃a xs,v = .ref a/\aU K H a xs/\xs.length=n/\t xs σ H Q
theorem S6 {es:List Expr}{k:Nat}{t:jR}{n:Nat}(hc:X.calm=true)(h:o4 X es t)(hn:(assignEach es X.env).length=n:=by rfl)(hst:(assignEach es X.env).findIdx? (·.1)=none:=by rfl):PG X (.Tuple es k pos) (o8 X.K n t):=by
 intro ah s σ H v u Q I r hw
 obtain⟨a,xs,e1,hq,hl,hw⟩:=hw
 subst e1;cases r
 obtain⟨its,rv,ht,hz⟩:=I.tuple hq
 refine assign_Tuple_tuple (I.ok.hd hc) ht (by simp[hn,<- hl,rv.length]) hst λh' hx=>?_
 have I1:a6 X ah σ H { s with heap:=h' }:=I.kept (t':=s.toks) λb o e=>hx b o (aL1 (aI3 e)) e
 exact h ah _ σ H xs _ Q I1 (by simpa using rv) hw
noncomputable def m6 (te:TE)(g:TG):TS:=λD σ H=>te σ H λx H1=>g x σ H1 D.nx
theorem v4 {i:Nat}{x:Str}{e:Expr}{te:TE}{pos':Pos}(hN:X.N.Nodup)(hi:X.N[i]? = some x)(hx:iW X.env.scope x)(he:PE X e te)(hs:swapsWith e (some (.Name x pos')) pos.line X.env=pure false:=by rfl)(hf:X.fn x=true∨X.env.scope.names.lookup x=some .local:=by first|exact .inl rfl|exact .inr rfl|assumption) :
  PS X (.Assign [.Name x pos'] e pos) (m6 te (dE i)):=by
 intro ah s σ H D I h;refine wpAny_Assign_Name (aR (he ah s σ H _ I h) λv s1 ⟨y,H1,I1,r1,q1⟩=>?_) hs;exact nY I1 hN hi hx r1 (λs2 I2=>⟨_,H1,I2,q1⟩) hf
end
section
variable {X:Cx}{pos:Pos}
noncomputable def v7 (c:TT)(tb:TS):TS:=λD σ H=>∃W:Nat->St->Hp->Prop,(∃m,W m σ H)/\∀m σ H,W m σ H->
 c σ H λb H1=>if b=true then ∃N:St->Hp->Prop,(∀σ' H',N σ' H'->∃m',m'<m/\W m' σ' H')/\tb { D with nx:=N,ct:=N,bk:=D.nx } σ H1 else D.nx σ H1
theorem S7 {c:Expr}{body:List Stmt}{tc:TT}{tb:TS}(hp:PassesOwn (model X.prog X.w) X.A X.env X.xe)(hc:PT X c tc)(hb:cY X body tb):PS X (.While c body [] pos) (v7 tc tb):=by
 intro ah s σ H D I h
 obtain⟨W,⟨m0,w0⟩,turn⟩:=h
 refine wpAny_While (codeAny_whileLoop (λn s'=>∃σ' H',a6 X ah σ' H' s'/\W n σ' H') ?_ m0 ⟨σ,H,I,w0⟩);rintro n s1 ⟨σ1,H1,I1,w1⟩;refine aR9 hp (aR (hc ah s1 σ1 H1 _ I1 (turn n σ1 H1 w1)) λb s2 ⟨H2,I2,q2⟩=>?_);cases b with
 |true=>
  obtain⟨N,hN,q2⟩:=q2
  rw[if_pos rfl];refine aR9 hp (aR (hb ah s2 σ1 H2 _ I2 q2) λf s3 q3=>?_);cases f with
  |next=>
   obtain⟨σ3,H3,I3,n3⟩:=q3
   obtain⟨m',hm,w3⟩:=hN σ3 H3 n3
   exact⟨m',hm,σ3,H3,I3,w3⟩
  |cont=>
   obtain⟨σ3,H3,I3,n3⟩:=q3
   obtain⟨m',hm,w3⟩:=hN σ3 H3 n3
   exact⟨m',hm,σ3,H3,I3,w3⟩
  |brk=>exact q3
  |ret v=>exact q3
 |false=>
  rw[if_neg aI5];exact wpAny_execs_nil ⟨σ1,H2,I2,q2⟩
end
structure It where
 go:Nat->Hp->Prop
 yld:Nat->Hp->V->Hp->Prop
 stop:Nat->Hp->Prop
noncomputable def dM (X:Cx)(ah:List (ax×Obj))(H:Hp)(b:ax):Prop:=
 H b=none/\b≠X.env.locals/\b∉X.fs/\(b∈X.ex∨X.s₀.heap.objs.size<=b)/\(∀x c,X.env.cells.lookup x=some c->c≠b)/\∀p∈X.pn++ah,p.1≠b
theorem a6.fpOk {X:Cx}{ah:List (ax×Obj)}{σ:St}{H H':Hp}{s:aw}{b:ax}(I:a6 X ah σ H s)(hb:s.heap.objs.size<=b)(hn:H' b=none):dM X ah H' b:=by
 refine⟨hn,aP1 (aH8 I.lt hb),I.nofs hb,.inr (aK4 I.sz hb),λx c e z=>?_,λp hp z=>?_⟩
 ·obtain⟨v,q⟩:=I.cell x c e
  exact absurd (aH8 q.lt (by rw[z];exact hb)) (aL3 _)
 ·exact absurd (aH8 (aI3 (I.pin p hp).1) (by rw[z];exact hb)) (aL3 _)
structure gH (P:ay)(w:bf)(K:ae)(tg:Expr)(J:It)(fp:List ax)(it:ax)(tn:Nat->Heap->Prop):Prop where
 mem:it∈fp
 obj:∀i h,tn i h->∀b∈fp,∃o,h.get? b=some o/\∀v,o.data≠.cell v
 keep:∀i h h',tn i h->(∀b∈fp,∀o,h.get? b=some o->h'.get? b=some o)->tn i h'
 item:∀(X:Cx),X.prog=P->X.w=w->X.K=K->X.calm=true->∀(i:Nat) (ah:List (ax×Obj)) (s:aw) (σ:St) (H:Hp) (E:ar->aw->Prop),a6 X ah σ H s->(∀b∈fp,dM X ah H b)->tn i s.heap->J.go i H->
  wpAny (model P w) X.A (pyNext (.ref it)) (λr s1=>∃u,r=some u/\
   wpAny (model P w) X.A (letOwnedTupleGo tg (.ref it) u) (λ_ s2=>∃x H',a6 X ah σ H' s2/\aX x u/\J.yld i H x H'/\tn (i+1) s2.heap/\∀b∈fp,H' b=none) E s1) E s
 done:∀(X:Cx),X.prog=P->X.w=w->X.K=K->X.calm=true->∀(i:Nat) (ah:List (ax×Obj)) (s:aw) (σ:St) (H:Hp) (E:ar->aw->Prop),a6 X ah σ H s->(∀b∈fp,dM X ah H b)->tn i s.heap->J.stop i H->
  wpAny (model P w) X.A (pyNext (.ref it)) (λr s1=>r=none/\a6 X ah σ H s1) E s
 self:∀(A:ba) (i:Nat) (s:aw) (Q:ar->aw->Prop) (E:ar->aw->Prop),tn i s.heap->Q (.ref it) s->wpAny (model P w) A (pyIter (.ref it)) Q E s
noncomputable abbrev TI:=St->Hp->(It->Hp->Prop)->Prop
noncomputable def v8 (X:Cx)(ah:List (ax×Obj))(σ:St)(tg:Expr)(R:It->Hp->Prop)(itv:ar)(s2:aw):Prop:=
 ∃(it:ax) (fp:List ax) (tn:Nat->Heap->Prop) (J:It) (H':Hp),itv = .ref it/\a6 X ah σ H' s2/\gH X.prog X.w X.K tg J fp it tn/\tn 0 s2.heap/\(∀b∈fp,dM X ah H' b)/\R J H'
noncomputable def PI (X:Cx)(tg iter:Expr)(wi:TI):Prop:=
 ∀(ah:List (ax×Obj)) (s:aw) (σ:St) (H:Hp) (R:It->Hp->Prop),a6 X ah σ H s->wi σ H R->
  wpAny (model X.prog X.w) X.A (eval iter X.env) (λv s1=>wpAny (model X.prog X.w) X.A (pyIter v) (v8 X ah σ tg R) X.xe s1) X.xe s
theorem o9 {M:Model}{A:ba}{E:ar->aw->Prop}{s:aw}{tg:Expr}{it:ax}{u:ar}{o:Obj}{n:String}{vs:Array ar}{Q:Unit->aw->Prop}(ho:s.heap.get? it=some o)(hc:o.cls = .type n)(hd:o.data = .fields vs)(hn:["enumerate","zip","dict_itemiterator","dict_reverseitemiterator","odict_iterator","itertools.zip_longest","itertools.pairwise"].contains n=false)(hQ:Q () s):wpAny M A (letOwnedTupleGo tg (.ref it) u) Q E s:=by
  unfold letOwnedTupleGo;cases tg<;>first
    |exact aH5 hQ
    |(cases u<;>first
        |exact aH5 hQ
        | (refine aG9 (wpAny_load ho ?_)
           rw[hc,hd];show wpAny M A (if (["enumerate","zip","dict_itemiterator","dict_reverseitemiterator","odict_iterator","itertools.zip_longest","itertools.pairwise"].contains n&&vs[0]?==some (rawInt _))=true then _ else _) Q E s;rw[if_neg (by intro h;rw[hn,Bool.false_and]at h;cases h)]
           exact aH5 hQ))
noncomputable def qS (K:ae)(a:ax):It:=
 ⟨λi H=>∃xs x,aS K H a xs/\xs[i]? = some x,λi H x H'=>H'=H/\∀xs,aS K H a xs->xs[i]? = some x,λi H=>∃xs,aS K H a xs/\xs.length<=i⟩
noncomputable def qT (K:ae)(a:ax):It:=
 ⟨λi H=>∃xs x,aU K H a xs/\xs[i]? = some x,λi H x H'=>H'=H/\∀xs,aU K H a xs->xs[i]? = some x,λi H=>∃xs,aU K H a xs/\xs.length<=i⟩
noncomputable def m7 (lo:Int)(n:Nat):It:=⟨λi _=>i<n,λi H x H'=>H'=H/\x = .int (lo+i),λi _=>n<=i⟩
theorem S8 {P:ay}{w:bf}{K:ae}{tg:Expr}(a it:ax):gH P w K tg (qS K a) [it] it (λi h=>h.IsListIter it a i) where
 mem:=by simp
 obj:=λi h st b hb=>by
  have e:b=it:=by simpa using hb
  subst e
  obtain⟨o,e,c,d⟩:=st
  exact⟨o,e,λv z=>by rw[d]at z;cases z⟩
 keep:=λi h h' st k=>st.at λo e=>k it (by simp) o e
 item:=by
  intro X hP hw hK hc i ah s σ H E I hf st hg;subst hP hw hK
  obtain⟨xs,x,hq,hx⟩:=hg
  obtain⟨its,rv,p,hz⟩:=I.list hq
  obtain⟨u,hu,ru⟩:=rv.get hx
  obtain⟨f0,f1,f2,f3,f4,f5⟩:=hf it (by simp)
  refine wpAny_pyNext_list_item st p.isList (x:=u) (by simpa using hu) λh' st' sb=>?_
  have I1:a6 X ah σ H { s with heap:=h' }:=I.turned (t':=s.toks) (λb o hb e=>(sb.2 b hb).trans e) f0 f1 f3 f4 f5
  obtain⟨o,e,c,d⟩:=id st'
  exact⟨u,rfl,o9 (s:={ s with heap:=h' }) e c d (by decide) ⟨x,H,I1,ru,⟨rfl,λys hy=>by rw[I.list_inj hy hq];exact hx⟩,st',λb hb=>(hf b hb).1⟩⟩
 done:=by
  intro X hP hw hK hc i ah s σ H E I hf st hg;subst hP hw hK
  obtain⟨xs,hq,hx⟩:=hg
  obtain⟨its,rv,p,hz⟩:=I.list hq
  obtain⟨f0,f1,f2,f3,f4,f5⟩:=hf it (by simp)
  have hl:=rv.length;exact wpAny_pyNext_list_end (I.ok.hd hc) st p.isList (by simp;omega) λh' eb=>⟨rfl,I.turned (t':=s.toks) (λb o hb e=>eb b o hb e) f0 f1 f3 f4 f5⟩
 self:=λ_ _ _ _ _ st h=>wpAny_pyIter_listiter st h
theorem S9 {P:ay}{w:bf}{K:ae}{tg:Expr}(a it:ax):gH P w K tg (qT K a) [it] it (λi h=>h.IsTupleIter it a i) where
 mem:=by simp
 obj:=λi h st b hb=>by
  have e:b=it:=by simpa using hb
  subst e
  obtain⟨o,e,c,d⟩:=st
  exact⟨o,e,λv z=>by rw[d]at z;cases z⟩
 keep:=λi h h' st k=>st.at λo e=>k it (by simp) o e
 item:=by
  intro X hP hw hK hc i ah s σ H E I hf st hg;subst hP hw hK
  obtain⟨xs,x,hq,hx⟩:=hg
  obtain⟨its,rv,p,hz⟩:=I.tuple hq
  obtain⟨u,hu,ru⟩:=rv.get hx
  obtain⟨f0,f1,f2,f3,f4,f5⟩:=hf it (by simp)
  refine wpAny_pyNext_tuple_item st (show s.heap.IsTuple a its.toArray from p) (x:=u) (by simpa using hu) λh' st' sb=>?_
  have I1:a6 X ah σ H { s with heap:=h' }:=I.turned (t':=s.toks) (λb o hb e=>(sb.2 b hb).trans e) f0 f1 f3 f4 f5
  obtain⟨o,e,c,d⟩:=id st'
  exact⟨u,rfl,o9 (s:={ s with heap:=h' }) e c d (by decide) ⟨x,H,I1,ru,⟨rfl,λys hy=>by rw[I.tuple_inj hy hq];exact hx⟩,st',λb hb=>(hf b hb).1⟩⟩
 done:=by
  intro X hP hw hK hc i ah s σ H E I hf st hg;subst hP hw hK
  obtain⟨xs,hq,hx⟩:=hg
  obtain⟨its,rv,p,hz⟩:=I.tuple hq
  obtain⟨f0,f1,f2,f3,f4,f5⟩:=hf it (by simp)
  have hl:=rv.length;exact wpAny_pyNext_tuple_end (I.ok.hd hc) st (show s.heap.IsTuple a its.toArray from p) (by simp;omega) λh' eb=>⟨rfl,I.turned (t':=s.toks) (λb o hb e=>eb b o hb e) f0 f1 f3 f4 f5⟩
 self:=λ_ _ _ _ _ st h=>wpAny_pyIter_tupleiter st h
theorem T0 {P:ay}{w:bf}{K:ae}{tg:Expr}(it:ax)(lo:Int)(n:Nat):gH P w K tg (m7 lo n) [it] it (λi h=>IsRangeIter h it (lo+(i:Nat)*1) ((n:Int)-(i:Nat)) 1) where
 mem:=by simp
 obj:=λi h st b hb=>by
  have e:b=it:=by simpa using hb
  subst e
  exact⟨_,st,λv z=>by
   have z':Data.fields _=Data.cell v:=z
   cases z'⟩
 keep:=λi h h' st k=>k it (by simp) _ st
 item:=by
  intro X hP hw hK hc i ah s σ H E I hf st hg;subst hP hw hK
  obtain⟨f0,f1,f2,f3,f4,f5⟩:=hf it (by simp)
  have W:=Walks.range (prog:=X.prog) (w:=X.w) (I.ok.hd hc) it lo 1 n;refine W.item i s _ _ hg st λv h' tk hv st' kk=>?_
  obtain⟨t,rfl⟩:=hv
  have I1:a6 X ah σ H { s with heap:=h',toks:=tk }:=I.turned (λb o hb e=>kk b o (by simpa using hb) e) f0 f1 f3 f4 f5;refine⟨_,rfl,o9 (s:={ s with heap:=h',toks:=tk }) (n:="range_iterator") st' rfl rfl (by decide) ⟨.int (lo+i),H,I1,⟨t,?_⟩,⟨rfl,rfl⟩,st',λb hb=>(hf b hb).1⟩⟩;rw[Int.mul_one]
 done:=by
  intro X hP hw hK hc i ah s σ H E I hf st hg;subst hP hw hK
  obtain⟨f0,f1,f2,f3,f4,f5⟩:=hf it (by simp)
  exact wpAny_pyNext_range_end (I.ok.hd hc) st (by have:n<=i:=hg;omega) λh' eb=>⟨rfl,I.turned (t':=s.toks) (λb o hb e=>eb b o hb e) f0 f1 f3 f4 f5⟩
 self:=λ_ _ _ _ _ st h=>wpAny_pyIter_rangeiter st h
section
variable {X:Cx}{tg:Expr}
theorem v9 {ah:List (ax×Obj)}{σ:St}{H:Hp}{s:aw}{R:It->Hp->Prop}{E:ar->aw->Prop}{lo hi:Int}{t u v:Tok}{tk:Nat}(I:a6 X ah σ H s)(h1:-(2^62)<=lo)(h2:lo<2^62)(h3:-(2^62)<=hi)(h4:hi<2^62)(q:R (m7 lo (hi-lo).toNat) H):wpAny (model X.prog X.w) X.A (pyIter (.ref s.heap.objs.size)) (v8 X ah σ tg R) E { s with heap:=s.heap.push { cls:=.type "range",data:=.fields #[.int lo t,.int hi u,.int 1 v] },toks:=tk }:=by
 refine wpAny_pyIter_range (IsRange.new ..) (small_one h1 h2 h3 h4) ?_;have I1:a6 X ah σ H { s with heap:=s.heap.push { cls:=.type "range",data:=.fields #[.int lo t,.int hi u,.int 1 v] },toks:=tk }:=I.kept λb o e=>aH1 _ e
 refine⟨(s.heap.push { cls:=.type "range",data:=.fields #[.int lo t,.int hi u,.int 1 v] }).objs.size,[(s.heap.push { cls:=.type "range",data:=.fields #[.int lo t,.int hi u,.int 1 v] }).objs.size],_,_,H,rfl,
  I1.kept (t':=tk) λb o e=>aH1 _ e,T0 _ lo (hi-lo).toNat,?_,λb hb=>?_,q⟩
 ·have e1:lo+((0:Nat):Int)*1=lo:=by simp
  have e2:(((hi-lo).toNat:Nat):Int)-((0:Nat):Int)=Builtin.Range.rangeSize lo hi 1:=by rw[rangeSize_one];split<;>omega
  show IsRangeIter _ _ (lo+((0:Nat):Int)*1) ((((hi-lo).toNat:Nat):Int)-((0:Nat):Int)) 1;rw[e1,e2];exact aJ0 _ rfl
 ·have e:b=(s.heap.push { cls:=.type "range",data:=.fields #[.int lo t,.int hi u,.int 1 v] }).objs.size:=by simpa using hb
  subst e;exact I1.fpOk (aH9 _) (I1.hok.fresh (aH9 _))
noncomputable def vA (ta:TA):TI:=λσ H R=>ta σ H λvs H1=>∃j:Int,vs = [.int j]/\-(2^62)<=j/\j<2^62/\R (m7 0 j.toNat) H1
noncomputable def vB (ta:TA):TI:=λσ H R=>ta σ H λvs H1=>∃i j:Int,vs = [.int i,.int j]/\(-(2^62)<=i/\i<2^62/\-(2^62)<=j/\j<2^62)/\R (m7 i (j-i).toNat) H1
theorem T1 {a:Expr}{ta:TA}{p pos:Pos}(hg:Gl X "range")(hm:X.mg "range" = none)(ha:PA X [a] ta)(hs:starEach [a] X.env = [(false,eval a X.env)]:=by rfl):PI X tg (.Call (.Name "range" p) [a] [] pos) (vA ta):=by
 intro ah s σ H R I h;refine Call_ (jQ I hg hm boot_range (aQ7 (aR (ha pos ah s σ H _ I h) λus s1 ⟨vs,H1,I1,r1,q1⟩=>?_) hs rfl))
 obtain⟨j,e,q1,q2,q⟩:=q1
 subst e;cases r1 with
 |cons r rr=>
  cases rr
  obtain⟨t,rfl⟩:=r
  exact call_range_1 (v9 I1 (by omega) (by omega) q1 q2 (by simpa using q))
theorem T2 {a b:Expr}{ta:TA}{p pos:Pos}(hg:Gl X "range")(hm:X.mg "range" = none)(ha:PA X [a,b] ta)(hs:starEach [a,b] X.env = [(false,eval a X.env),(false,eval b X.env)]:=by rfl)(hs2:starEach [b] X.env = [(false,eval b X.env)]:=by rfl) :
  PI X tg (.Call (.Name "range" p) [a,b] [] pos) (vB ta):=by
 intro ah s σ H R I h;refine Call_ (jQ I hg hm boot_range (aQ7 (aR (ha pos ah s σ H _ I h) λus s1 ⟨vs,H1,I1,r1,q1⟩=>?_) (by rw[hs,hs2]) (by rw[hs2];rfl)))
 obtain⟨i,j,e,⟨q1,q2,q3,q4⟩,q⟩:=q1
 subst e;cases r1 with
 |cons r rr=>
  cases rr with
  |cons r' rr=>
   cases rr
   obtain⟨t,rfl⟩:=r
   obtain⟨t',rfl⟩:=r'
   exact call_range_2 (v9 I1 q1 q2 q3 q4 q)
noncomputable def vC (wi:TI)(g:TG)(tb:TS):TS:=λD σ H=>wi σ H λJ H1=>∃W:Nat->Nat->St->Hp->Prop,(∃m,W 0 m σ H1)/\∀i m σ H,W i m σ H->
 (J.stop i H/\D.nx σ H)∨(J.go i H/\∃N:St->Hp->Prop,(∀σ' H',N σ' H'->∃m',m'<m/\W (i+1) m' σ' H')/\∀x H',J.yld i H x H'->g x σ H' λσ2 H2=>tb { D with nx:=N,ct:=N,bk:=D.nx } σ2 H2)
noncomputable def l8 (fp:List ax)(h:Heap):List (ax×Obj):=fp.filterMap λb=>(h.get? b).map λo=>(b,o)
theorem l9 {fp:List ax}{h:Heap}{b:ax}{o:Obj}(hb:b∈fp)(e:h.get? b=some o):(b,o)∈l8 fp h:=List.mem_filterMap.mpr ⟨b,hb,by rw[e];rfl⟩
theorem T3 {fp:List ax}{h:Heap}{p:ax×Obj}(hp:p∈l8 fp h):p.1∈fp/\h.get? p.1=some p.2:=by
 obtain⟨b,hb,e⟩:=List.mem_filterMap.mp hp
 cases q:h.get? b with
 |none=>rw[q]at e;cases e
 |some o=>
  rw[q]at e;have e':(b,o)=p:=aI7 e;subst e'
  exact⟨hb,q⟩
theorem a6.pinned {ah:List (ax×Obj)}{σ:St}{H:Hp}{s:aw}{fp:List ax}(I:a6 X ah σ H s)(hf:∀b∈fp,dM X ah H b)(ho:∀b∈fp,∃o,s.heap.get? b=some o/\∀v,o.data≠.cell v):a6 X (ah++l8 fp s.heap) σ H s:=
 I.pins_of λp hp=>(aL2.mp hp).elim (λz=>I.pin p (aJ6 _ z)) λz=>by
  obtain⟨hb,e⟩:=T3 z
  obtain⟨f0,f1,f2,_⟩:=hf p.1 hb
  obtain⟨o,e',d⟩:=ho p.1 hb
  rw[e]at e';cases e'
  exact⟨e,f0,f1,f2,d⟩
theorem a6.unpinned {ah pl:List (ax×Obj)}{σ:St}{H:Hp}{s:aw}(I:a6 X (ah++pl) σ H s):a6 X ah σ H s:=I.pins_of λp hp=>I.pin p (aJ6 _ (List.mem_append_left _ hp))
theorem T4 {iter:Expr}{body:List Stmt}{wi:TI}{g:TG}{tb:TS}{pos:Pos}(hp:PassesOwn (model X.prog X.w) X.A X.env X.xe)(hc:X.calm=true)(hi:PI X tg iter wi)(hg:PG X tg g)(hb:cY X body tb)(hs:∀x,foldedSetIterable iter X.env x=pure x:=by intro _;rfl):PS X (.For tg iter body [] pos) (vC wi g tb):=by
 intro ah s σ H D I h;refine wpAny_For (aR (hi ah s σ H _ I h) λv s1 h1=>aR h1 λitv s2 h2=>?_) hs
 obtain⟨it,fp,tn,J,H2,e,I2,T,st2,f2,W,⟨m0,w0⟩,turn⟩:=h2
 subst e;have stat:∀{H':Hp},(∀b∈fp,H' b=none)->∀b∈fp,dM X ah H' b:=λhn b hb=>⟨hn b hb,(f2 b hb).2⟩
 refine codeAny_forLoop_any (λn s'=>∃i σ' H',a6 X ah σ' H' s'/\tn i s'.heap/\(∀b∈fp,H' b=none)/\W i n σ' H') ?_ m0 ⟨0,σ,H2,I2,st2,λb hb=>(f2 b hb).1,w0⟩;rintro n s3 ⟨i,σ3,H3,I3,st3,fr3,w3⟩;rcases turn i n σ3 H3 w3 with⟨stop,qn⟩|⟨go,N,hN,step⟩
 ·refine aR9 hp (aR (T.done X rfl rfl rfl hc i ah s3 σ3 H3 X.xe I3 (stat fr3) st3 stop) λr s4 ⟨hr,I4⟩=>?_)
  subst hr;exact wpAny_execs_nil ⟨σ3,H3,I4,qn⟩
 ·refine aR9 hp (aR (T.item X rfl rfl rfl hc i ah s3 σ3 H3 X.xe I3 (stat fr3) st3 go) λr s4 ⟨u,hr,h4⟩=>?_)
  subst hr;refine aR9 hp (aR h4 λ_ s5 ⟨x,H5,I5,r5,y5,st5,fr5⟩=>?_);have I5':=I5.pinned (stat fr5) (T.obj _ _ st5);refine aR9 hp (aR (hg _ s5 σ3 H5 x u _ I5' r5 (step x H5 y5)) λ_ s6 ⟨σ6,H6,I6,q6⟩=>?_);refine aR9 hp (aR (hb _ s6 σ6 H6 _ I6 q6) λf s7 q7=>?_);have again:∀{σ7:St}{H7:Hp},a6 X (ah++l8 fp s5.heap) σ7 H7 s7->N σ7 H7->∃m,m<n/\∃i σ' H',a6 X ah σ' H' s7/\tn i s7.heap/\(∀b∈fp,H' b=none)/\W i m σ' H':=λ{σ7 H7} I7 n7=>by
   obtain⟨m',hm,w7⟩:=hN σ7 H7 n7
   refine⟨m',hm,i+1,σ7,H7,I7.unpinned,T.keep _ _ _ st5 λb hb o e=>(I7.pin (b,o) (aJ6 _ (aJ6 _ (l9 hb e)))).1,λb hb=>?_,w7⟩
   obtain⟨o,e,d⟩:=T.obj _ _ st5 b hb
   exact (I7.pin (b,o) (aJ6 _ (aJ6 _ (l9 hb e)))).2.1
  cases f with
  |next=>obtain⟨σ7,H7,I7,n7⟩:=q7;exact again I7 n7
  |cont=>obtain⟨σ7,H7,I7,n7⟩:=q7;exact again I7 n7
  |brk=>obtain⟨σ7,H7,I7,q7⟩:=q7;exact⟨σ7,H7,I7.unpinned,q7⟩
  |ret v=>obtain⟨x7,σ7,H7,I7,r7,q7⟩:=q7;exact⟨x7,σ7,H7,I7.unpinned,r7,q7⟩
end
noncomputable abbrev R2:=V->V->Hp->VK->Prop
noncomputable def bU (X:Cx)(f:ar->ar->Sem ar)(r:R2):Prop:=
 ∀(ah:List (ax×Obj)) (s:aw) (σ:St) (H:Hp) (x y:V) (v u:ar) (Q:VK),a6 X ah σ H s->aX x v->aX y u->r x y H Q->
  wpAny (model X.prog X.w) X.A (f v u) (EP X ah σ Q) X.xe s
noncomputable def cH (X:Cx)(f:ar)(r:List V->Hp->VK->Prop):Prop:=
 ∀(ah:List (ax×Obj)) (s:aw) (σ:St) (H:Hp) (xs:List V) (us:List ar) (Q:VK),a6 X ah σ H s->aO xs us->r xs H Q->
  wpAny (model X.prog X.w) X.A (call f us) (EP X ah σ Q) X.xe s
noncomputable def m8 (r:R2)(ta tb:TE):TE:=λσ H Q=>ta σ H λx H1=>tb σ H1 λy H2=>r x y H2 Q
noncomputable def rI (C:Int->Int->Prop)(g:Int->Int->V):R2:=λx y H Q=>∃i j,x = .int i/\y = .int j/\C i j/\Q (g i j) H
noncomputable def gI (g:Int->Int->V):R2:=λx y H Q=>∃i j,x = .int i/\y = .int j/\Q (g i j) H
section
variable {X:Cx}{a b c:Expr}{ta tb tc:TE}{pos:Pos}
theorem qU (ha:PE X a ta)(hb:PE X b tb){ah:List (ax×Obj)}{s:aw}{σ:St}{H:Hp}{R:V->V->Hp->Prop}(I:a6 X ah σ H s)(h:ta σ H λx H1=>tb σ H1 λy H2=>R x y H2){Q:ar->aw->Prop}{f:ar->ar->Sem ar}(hf:∀v u s2 x y H2,a6 X ah σ H2 s2->aX x v->aX y u->R x y H2->wpAny (model X.prog X.w) X.A (f v u) Q X.xe s2) :
  wpAny (model X.prog X.w) X.A (eval a X.env) (λv s₁=>wpAny (model X.prog X.w) X.A (eval b X.env) (λu s₂=>wpAny (model X.prog X.w) X.A (f v u) Q X.xe s₂) X.xe s₁) X.xe s:=by
 refine aR (ha ah s σ H _ I h) λv s1 ⟨x,H1,I1,r1,q1⟩=>?_
 refine aR (hb ah s1 σ H1 _ I1 q1) λu s2 ⟨y,H2,I2,r2,q2⟩=>?_
 exact hf v u s2 x y H2 I2 r1 r2 q2
theorem T5 {op:Operator}{r:R2}(ho:bU X (binaryOp op) r)(ha:PE X a ta)(hb:PE X b tb):PE X (.BinOp a op b pos) (m8 r ta tb):=by
 intro ah s σ H Q I h;exact wpAny_BinOp (qU ha hb I h λv u s2 x y H2 I2 rx ry q=>ho ah s2 σ H2 x y v u Q I2 rx ry q)
theorem qV {f:ar->ar->Sem ar}{C:Int->Int->Prop}{g:Int->Int->Int}(rule:∀(i j:Int) (t u:Tok) (s:aw) (Q:ar->aw->Prop) (E:ar->aw->Prop),C i j->Q (.int (g i j) s.toks) { s with toks:=s.toks+1 }->wpAny (model X.prog X.w) X.A (f (.int i t) (.int j u)) Q E s) :
  bU X f (rI C λi j=>.int (g i j)):=by
 intro ah s σ H x y v u Q I rx ry h
 obtain⟨i,j,rfl,rfl,hc,q⟩:=h
 obtain⟨t,rfl⟩:=rx
 obtain⟨t',rfl⟩:=ry
 exact rule i j t t' s _ _ hc ⟨.int (g i j),H,I.tok _,⟨_,rfl⟩,q⟩
theorem vD {f:ar->ar->Sem ar}{g:Int->Int->Int}(rule:∀(i j:Int) (t u:Tok) (s:aw) (Q:ar->aw->Prop) (E:ar->aw->Prop),Q (.int (g i j) s.toks) { s with toks:=s.toks+1 }->wpAny (model X.prog X.w) X.A (f (.int i t) (.int j u)) Q E s) :
  bU X f (gI λi j=>.int (g i j)):=by
 intro ah s σ H x y v u Q I rx ry h
 obtain⟨i,j,rfl,rfl,q⟩:=h
 obtain⟨t,rfl⟩:=rx
 obtain⟨t',rfl⟩:=ry
 exact rule i j t t' s _ _ ⟨.int (g i j),H,I.tok _,⟨_,rfl⟩,q⟩
theorem qW {f:ar->ar->Sem ar}{g:Int->Int->Bool}(rule:∀(i j:Int) (t u:Tok) (s:aw) (Q:ar->aw->Prop) (E:ar->aw->Prop),Q (.bool (g i j)) s->wpAny (model X.prog X.w) X.A (f (.int i t) (.int j u)) Q E s) :
  bU X f (gI λi j=>.bl (g i j)):=by
 intro ah s σ H x y v u Q I rx ry h
 obtain⟨i,j,rfl,rfl,q⟩:=h
 obtain⟨t,rfl⟩:=rx
 obtain⟨t',rfl⟩:=ry
 exact rule i j t t' s _ _ ⟨.bl (g i j),H,I,rfl,q⟩
noncomputable def qX (i j:Int):Prop:=0<j/\j<1073741824
noncomputable def m9 (i j:Int):Prop:=(-(2^64)<i/\i<2^64)∨(-(2^64)<j/\j<2^64)
theorem m9.ok {i j:Int}(h:m9 i j):IntMulOk i j:=by
 rcases h with⟨h1,h2⟩|⟨h1,h2⟩
 ·exact .of_left (intBits_le_64 h1 h2)
 ·exact .of_right (intBits_le_64 h1 h2)
theorem T6:bU X (binaryOp .Add) (gI λi j=>.int (i+j)):=vD λ_ _ _ _ _ _ _ q=>add_int q
theorem T7:bU X (binaryOp .Sub) (gI λi j=>.int (i-j)):=vD λ_ _ _ _ _ _ _ q=>sub_int q
theorem T8:bU X (binaryOp .Mult) (rI m9 λi j=>.int (i*j)):=qV λ_ _ _ _ _ _ _ hc q=>mul_int q hc.ok
theorem T9:bU X (binaryOp .FloorDiv) (rI qX λi j=>.int (i/j)):=qV λi j _ _ _ _ _ hc q=>by
 have h1:(0:Int)<j:=hc.1;have h2:j<1073741824:=hc.2;exact floordiv_int (by omega) (by rw[Int.fdiv_eq_ediv_of_nonneg i (by omega)];exact q) (.inl (PyProof.noPylong_small (by omega)))
theorem U0:bU X (binaryOp .Mod) (rI (λ_ j=>0<j) λi j=>.int (i%j)):=qV λi j _ _ _ _ _ hc q=>by
 have h1:(0:Int)<j:=hc;exact mod_int' (by omega) (by rw[Int.fmod_eq_emod_of_nonneg i (by omega)];exact q)
end
noncomputable def vE:V->V->Bool
 |.non,.non=>true|.non,.int _=>true|.int _,.non=>true|.non,.bl _=>true|.bl _,.non=>true|.non,.str _=>true|.str _,.non=>true
 |.int _,.int _=>true|.bl _,.bl _=>true|.str _,.str _=>true|.byt _,.byt _=>true
 |.int _,.str _=>true|.str _,.int _=>true|.bl _,.str _=>true|.str _,.bl _=>true
 |_,_=>false
noncomputable def qY:R2:=λx y H Q=>vE x y=true/\Q (.bl (decide (x=y))) H
noncomputable def vF:R2:=λx y H Q=>vE x y=true/\Q (.bl (!decide (x=y))) H
theorem vG {i j:Int}:decide (V.int i=V.int j)=(i==j):=by
 rw[aO5];simp
theorem vH {i j:Bool}:decide (V.bl i=V.bl j)=(i==j):=by
 rw[aO5];simp
theorem vI {i j:Str}:decide (V.str i=V.str j)=(i==j):=by
 rw[aO5];simp
theorem vJ {i j:Array UInt8}:decide (V.byt i=V.byt j)=(i.toList==j.toList):=by
 rw[aO5];cases i;cases j;simp
section
variable {X:Cx}{a b c:Expr}{ta tb tc:TE}{pos:Pos}
theorem bR {ah:List (ax×Obj)}{σ:St}{H:Hp}{s:aw}{Q:VK}{k k':Bool}(I:a6 X ah σ H s)(q:Q (.bl k) H)(e:k=k'):EP X ah σ Q (.bool k') s:=by
 subst e
 exact⟨.bl k,H,I,rfl,q⟩
theorem qZ:bU X (compareOp .Eq) qY:=by
 intro ah s σ H x y v u Q I rx ry h
 obtain⟨hs,q⟩:=h
 cases x with
 |non=>
  cases rx;cases y with
  |non=>cases ry;exact PySem.EqNone.eq_none_none (bR I q (by simp))
  |bl j=>cases ry;exact PySem.EqNone.eq_none_bool (bR I q (by simp))
  |int j=>obtain⟨t',rfl⟩:=ry;exact PySem.EqNone.eq_none_int (bR I q (by simp))
  |str j=>obtain⟨t',rfl⟩:=ry;exact PySem.EqNone.eq_none_str (bR I q (by simp))
  |_=>exact absurd (show false=true from hs) aI5
 |bl i=>
  cases rx;cases y with
  |non=>cases ry;exact PySem.EqNone.eq_bool_none (bR I q (by simp))
  |bl j=>cases ry;exact eq_bool (bR I q vH)
  |str j=>obtain⟨t',rfl⟩:=ry;exact PySem.EqMixed.eq_bool_str (bR I q (by simp))
  |_=>exact absurd (show false=true from hs) aI5
 |int i=>
  obtain⟨t,rfl⟩:=rx
  cases y with
  |non=>cases ry;exact PySem.EqNone.eq_int_none (bR I q (by simp))
  |int j=>obtain⟨t',rfl⟩:=ry;exact eq_int (bR I q vG)
  |str j=>obtain⟨t',rfl⟩:=ry;exact PySem.EqMixed.eq_int_str (bR I q (by simp))
  |_=>exact absurd (show false=true from hs) aI5
 |str i=>
  obtain⟨t,rfl⟩:=rx
  cases y with
  |non=>cases ry;exact PySem.EqNone.eq_str_none (bR I q (by simp))
  |bl j=>cases ry;exact PySem.EqMixed.eq_str_bool (bR I q (by simp))
  |int j=>obtain⟨t',rfl⟩:=ry;exact PySem.EqMixed.eq_str_int (bR I q (by simp))
  |str j=>obtain⟨t',rfl⟩:=ry;exact eq_str (bR I q vI)
  |_=>exact absurd (show false=true from hs) aI5
 |byt i=>
  obtain⟨t,rfl⟩:=rx
  cases y with
  |byt j=>obtain⟨t',rfl⟩:=ry;exact PySem.W.eq_bytes (bR I q vJ)
  |_=>exact absurd (show false=true from hs) aI5
 |_=>cases y<;>exact absurd (show false=true from hs) aI5
theorem U1:bU X (compareOp .NotEq) vF:=by
 intro ah s σ H x y v u Q I rx ry h
 obtain⟨hs,q⟩:=h
 cases x with
 |non=>
  cases rx;cases y with
  |non=>cases ry;exact PySem.EqNone.ne_none_none (bR I q (by simp))
  |bl j=>cases ry;exact PySem.EqNone.ne_none_bool (bR I q (by simp))
  |int j=>obtain⟨t',rfl⟩:=ry;exact PySem.EqNone.ne_none_int (bR I q (by simp))
  |str j=>obtain⟨t',rfl⟩:=ry;exact PySem.EqNone.ne_none_str (bR I q (by simp))
  |_=>exact absurd (show false=true from hs) aI5
 |bl i=>
  cases rx;cases y with
  |non=>cases ry;exact PySem.EqNone.ne_bool_none (bR I q (by simp))
  |bl j=>cases ry;exact ne_bool (bR I q (congrArg not vH))
  |str j=>obtain⟨t',rfl⟩:=ry;exact PySem.EqMixed.ne_bool_str (bR I q (by simp))
  |_=>exact absurd (show false=true from hs) aI5
 |int i=>
  obtain⟨t,rfl⟩:=rx
  cases y with
  |non=>cases ry;exact PySem.EqNone.ne_int_none (bR I q (by simp))
  |int j=>obtain⟨t',rfl⟩:=ry;exact ne_int (bR I q (congrArg not vG))
  |str j=>obtain⟨t',rfl⟩:=ry;exact PySem.EqMixed.ne_int_str (bR I q (by simp))
  |_=>exact absurd (show false=true from hs) aI5
 |str i=>
  obtain⟨t,rfl⟩:=rx
  cases y with
  |non=>cases ry;exact PySem.EqNone.ne_str_none (bR I q (by simp))
  |bl j=>cases ry;exact PySem.EqMixed.ne_str_bool (bR I q (by simp))
  |int j=>obtain⟨t',rfl⟩:=ry;exact PySem.EqMixed.ne_str_int (bR I q (by simp))
  |str j=>obtain⟨t',rfl⟩:=ry;exact ne_str (bR I q (congrArg not vI))
  |_=>exact absurd (show false=true from hs) aI5
 |byt i=>
  obtain⟨t,rfl⟩:=rx
  cases y with
  |byt j=>obtain⟨t',rfl⟩:=ry;exact PySem.W.ne_bytes (bR I q (congrArg not vJ))
  |_=>exact absurd (show false=true from hs) aI5
 |_=>cases y<;>exact absurd (show false=true from hs) aI5
theorem vK:bU X (compareOp .Lt) (gI λi j=>.bl (decide (i<j))):=qW λ_ _ _ _ _ _ _ q=>lt_int q
theorem U2:bU X (compareOp .Gt) (gI λi j=>.bl (decide (j<i))):=qW λ_ _ _ _ _ _ _ q=>gt_int q
theorem U3:bU X (compareOp .GtE) (gI λi j=>.bl (decide (j<=i))):=qW λ_ _ _ _ _ _ _ q=>ge_int q
theorem vL:bU X (compareOp .In) (λx y H Q=>∃i j,x = .str i/\y = .str j/\Q (.bl (!(Builtin.Str.occurrences j i 0 j.length 1).isEmpty)) H):=by
 intro ah s σ H x y v u Q I rx ry h
 obtain⟨i,j,rfl,rfl,q⟩:=h
 obtain⟨t,rfl⟩:=rx
 obtain⟨t',rfl⟩:=ry
 exact in_str (bR I q rfl)
theorem U4:bU X (compareOp .Is) (λx y H Q=>y = .non/\Q (.bl (decide (x = .non))) H):=by
 intro ah s σ H x y v u Q I rx ry h
 obtain⟨rfl,q⟩:=h
 cases ry;refine is_none_gen (bR I q ?_);cases x<;>first
  |(cases rx;rfl)
  |(obtain⟨t,rfl⟩:=rx;rfl)
theorem fW (b:Expr){op:CmpOp}(h:op≠.In:=by decide)(h2:op≠.NotIn:=by decide):behindInMarks op b=false:=by
 have e1:(op==CmpOp.In)=false:=by cases op<;>first|rfl|exact absurd rfl h
 have e2:(op==CmpOp.NotIn)=false:=by cases op<;>first|rfl|exact absurd rfl h2
 cases b<;>simp[behindInMarks,e1,e2]
theorem U5 {op:CmpOp}{r:R2}(ho:bU X (compareOp op) r)(ha:PE X a ta)(hb:PE X b tb)(hm:behindInMarks op b=false):PE X (.Compare a [op] [b] pos) (m8 r ta tb):=by
 intro ah s σ H Q I h;exact wpAny_Compare1 (qU ha hb I h λv u s2 x y H2 I2 rx ry q=>ho ah s2 σ H2 x y v u Q I2 rx ry q) hm
noncomputable def U6 (t:TE):TT:=λσ H Q=>t σ H λx H'=>∃k,x = .bl k/\Q k H'
theorem U7 {op:CmpOp}{r:R2}(ho:bU X (compareOp op) r)(ha:PE X a ta)(hb:PE X b tb)(hm:behindInMarks op b=false):PT X (.Compare a [op] [b] pos) (U6 (m8 r ta tb)):=by
 intro ah s σ H Q I h
 refine wpAny_isTrue_Compare1 (aR (ha ah s σ H _ I h) λv s1 ⟨x,H1,I1,r1,q1⟩=>aR (hb ah s1 σ H1 _ I1 q1) λu s2 ⟨y,H2,I2,r2,q2⟩=>
  aR (ho ah s2 σ H2 x y v u _ I2 r1 r2 q2) λc s3 ⟨z,H3,I3,r3,k,e,q3⟩=>?_) hm
 subst e;cases r3;exact aQ5 ⟨H3,I3,q3⟩
theorem mB:(sizeLine:Nat)<2^63:=by rw[aS2];decide
theorem U8:bU X (binaryOp .Add) (λx y H Q=>∃i j,x = .str i/\y = .str j/\i.length+j.length<=sizeLine/\Q (.str (i++j)) H):=by
 intro ah s σ H x y v u Q I rx ry h
 obtain⟨i,j,rfl,rfl,hz,q⟩:=h
 obtain⟨t,rfl⟩:=rx
 obtain⟨t',rfl⟩:=ry
 exact add_str (λt' tk=>⟨.str (i++j),H,I.tok _,⟨_,rfl⟩,q⟩) hz
theorem e8 {x:V}{us:List ar}(r:aO [x] us):∃u,us = [u]/\aX x u:=by
 cases r with
 |cons r1 r2=>cases r2;exact⟨_,rfl,r1⟩
theorem mC {x y:V}{us:List ar}(r:aO [x,y] us):∃u w',us = [u,w']/\aX x u/\aX y w':=by
 cases r with
 |cons r1 r2=>
  cases r2 with
  |cons r3 r4=>cases r4;exact⟨_,_,rfl,r1,r3⟩
theorem U9 (hc:X.calm=true):cH X (.builtin "max") (λxs H Q=>∃i j,xs = [.int i,.int j]/\Q (.int (if j>i then j else i)) H):=by
 intro ah s σ H xs us Q I r h
 obtain⟨i,j,rfl,q⟩:=h
 obtain⟨u,w',rfl,⟨t,rfl⟩,⟨t',rfl⟩⟩:=mC r
 refine max_two_ints (I.ok.hd hc) λh' tk k=>⟨_,H,I.kept k,?_,q⟩
 by_cases hj:j>i
 ·rw[if_pos hj,if_pos hj];exact⟨_,rfl⟩
 ·rw[if_neg hj,if_neg hj];exact⟨_,rfl⟩
theorem V0 (hc:X.calm=true):cH X (.builtin "min") (λxs H Q=>∃i j,xs = [.int i,.int j]/\Q (.int (if j<i then j else i)) H):=by
 intro ah s σ H xs us Q I r h
 obtain⟨i,j,rfl,q⟩:=h
 obtain⟨u,w',rfl,⟨t,rfl⟩,⟨t',rfl⟩⟩:=mC r
 refine min_two_ints (I.ok.hd hc) λh' tk k=>⟨_,H,I.kept k,?_,q⟩
 by_cases hj:j<i
 ·rw[if_pos hj,if_pos hj];exact⟨_,rfl⟩
 ·rw[if_neg hj,if_neg hj];exact⟨_,rfl⟩
theorem V1:cH X (.type "int") (λxs H Q=>(∃i,xs = [.int i]/\Q (.int i) H)∨∃k,xs = [.bl k]/\Q (.int (if k then 1 else 0)) H):=by
 intro ah s σ H xs us Q I r h;rcases h with⟨i,rfl,q⟩|⟨k,rfl,q⟩
 ·obtain⟨u,rfl,t,rfl⟩:=e8 r
  exact call_int_int ⟨.int i,H,I,⟨_,rfl⟩,q⟩
 ·obtain⟨u,rfl,r1⟩:=e8 r
  cases r1;exact call_int_bool ⟨.int (if k then 1 else 0),H,I.tok _,⟨_,rfl⟩,q⟩
theorem V2:cH X (.type "str") (λxs H Q=>∃i,xs = [.int i]/\i.natAbs.log2<1920/\Q (.str (toString i)) H):=by
 intro ah s σ H xs us Q I r h
 obtain⟨i,rfl,hz,q⟩:=h
 obtain⟨u,rfl,t,rfl⟩:=e8 r
 exact PySem.P.str_of_int hz ⟨.str _,H,I.tok _,⟨_,rfl⟩,q⟩
end
structure r6 (h:Heap)(x dx C:ax)(mA:Str->Option ar):Prop where
 obj:h.get? x=some (PySem.W.instObj C dx)
 ns:h.Ns1 dx mA
 ne:dx≠x
theorem V3 {h:Heap}{dx:ax}{mA:Str->Option ar}(n:h.Ns1 dx mA):∃od,h.get? dx=some od/\∀name,PySem.W.lookIn name od=some (mA name):=by
 obtain⟨o,es,ep,ho,hd,hk,_,hm⟩:=n
 refine⟨o,ho,λname=>?_⟩;have e:=hm name;unfold nsFind findBy at e;rw[<- Array.find?_toList]at e;unfold PySem.W.lookIn;rw[hd];dsimp only;split
 ·rename_i y q
  rw[q]at e;exact congrArg some e
 ·rename_i q
  rw[q]at e;have a:es.toList.any (·.refKey)=false:=by
   rw[List.any_eq_false];intro y hy
   obtain⟨z,t,hkey⟩:=hk y (Array.mem_toList_iff.mp hy)
   simp[DictEntry.refKey,hkey]
  have a':¬es.toList.any (·.refKey)=true:=by rw[a];exact aI5
  rw[if_neg a'];exact congrArg some e
theorem r6.look {h:Heap}{x dx C:ax}{mA:Str->Option ar}(I:r6 h x dx C mA):∃od,PySem.W.InstAt h x (PySem.W.instObj C dx) C (some od)/\∀name,PySem.W.lookIn name od=some (mA name):=
 let ⟨od,ho,hl⟩:=V3 I.ns
 ⟨od,⟨I.obj,rfl,rfl,ho⟩,hl⟩
section
variable {P:ay}{w:bf}{H H':Hp}{h h':Heap}{a C dx:ax}{fs fs':List (Str×V)}
theorem V4 (hok:bM P w H h)(e:H a=some (.ins C dx fs)):∃mA,r6 h a dx C mA/\(∀f,kX (fs.lookup f) (mA f))/\PySem.Within mA (fs.map (·.1))/\fs.length<=1000/\H dx=some (.own a):=by
 obtain⟨d,z,ne,ob,mA,n,r,q⟩:=(show bO P w H h a (.ins C dx fs) from hok a _ e)
 exact⟨mA,⟨ob,n,ne⟩,r,q,z,d⟩
end
structure r9 (K:ae)(C:ax):Prop where
 pg:PySem.W.plainGet K C Str.empty=true
 hd:PySem.W.hasDictIn K C=true
 po:PySem.W.plainOver K C=true
 sa:PySem.W.findIn K (.ref C) "__setattr__" = some (some (.builtin "object.__setattr__"))
theorem r9.get {K:ae}{C:ax}(c:r9 K C)(f:Str):PySem.W.plainGet K C f=true:=c.pg
section
variable {X:Cx}{ah:List (ax×Obj)}{σ:St}{H:Hp}{s:aw}{A:ba}{E:ar→aw→Prop}{Q:ar→aw→Prop}{c:ar}{b:Bool}
inductive eL (K:ae)(H:Hp):V->ar->Prop where
 |non:eL K H .non (.type "NoneType")
 |bl (x:Bool):eL K H (.bl x) (.type "bool")
 |int (i:Int):eL K H (.int i) (.type "int")
 |str (x:Str):eL K H (.str x) (.type "str")
 |flt (x:UInt64):eL K H (.flt x) (.type "float")
 |lst {a:ax}{xs:List V} (e:H a=some (.lst xs)):eL K H (.ref a) (.type "list")
 |frz {a:ax}{o:Obj}{xs:List V} (e:H a=some (.frz o (.lst xs))):eL K H (.ref a) (.type "list")
 |tup {a:ax}{xs:List V} (e:H a=some (.tup xs)):eL K H (.ref a) (.type "tuple")
 |dK {a:ax}{kvs:List (aN×V)} (e:H a=some (.dK kvs)):eL K H (.ref a) (.type "dict")
 |dT {a:ax}{kvs:List (List aN×V)} (e:H a=some (.dT kvs)):eL K H (.ref a) (.type "dict")
 |ins {a C dx:ax}{fs:List (Str×V)} (e:H a=some (.ins C dx fs)) (cl:r9 K C) (ha:PySem.W.findIn K (.ref C) "__class__" = some (some (.builtin "object.__class__")))
   (hn:PySem.W.specialIn K (.builtin "object.__class__") "__get__" = some (some (.builtin "getset_descriptor.__get__"))) (htk:PySem.W.takesIn K (.builtin "object.__class__")=some true)
   (hm:PySem.W.mroIn K C (.type "object")=some true):eL K H (.ref a) (.ref C)
theorem V5 {x:V}{u t:ar}(I:a6 X ah σ H s)(rx:aX x u)(ty:eL X.K H x t)(e:PySem.W.kitOne X.K t c=some b)(h:∀tk,Q (.bool b) { s with toks:=tk }) :
  wpAny (model X.prog X.w) A (call (.builtin "isinstance") [u,c]) Q E s:=by
 cases ty with
 |non=>cases (show u=Value.none from rx);exact aM3 PySem.W.kitx_none I.kIn True.intro e (λz=>nomatch z) h
 |bl y=>cases (show u=Value.bool y from rx);exact aM3 PySem.W.kitx_bool I.kIn True.intro e (λz=>nomatch z) h
 |int i=>obtain⟨t,q⟩:=(show ∃t,u=Value.int i t from rx);cases q;exact aM3 PySem.W.kitx_int I.kIn True.intro e (λz=>nomatch z) h
 |str y=>obtain⟨t,q⟩:=(show ∃t,u=Value.str y t from rx);cases q;exact aM3 PySem.W.kitx_str I.kIn True.intro e (λz=>nomatch z) h
 |flt y=>obtain⟨t,q⟩:=(show ∃t,u=Value.float y t from rx);cases q;exact aM3 PySem.W.kitx_float I.kIn True.intro e (λz=>nomatch z) h
 |@lst a xs ea=>
  cases (show u=Value.ref a from rx)
  obtain⟨_,_,n,_,h1⟩:=(show bO X.prog X.w H s.heap a (.lst xs) from I.hok a _ ea)
  exact aM3 PySem.W.kitx_list I.kIn ⟨_,h1,rfl⟩ e (λz=>nomatch z) h
 |@frz a ob xs ea=>
  cases (show u=Value.ref a from rx)
  obtain⟨_,_,_,n,_,h1⟩:=(show bO X.prog X.w H s.heap a (.frz ob (.lst xs)) from I.hok a _ ea)
  exact aM3 PySem.W.kitx_list I.kIn ⟨_,h1,rfl⟩ e (λz=>nomatch z) h
 |@tup a xs ea=>
  cases (show u=Value.ref a from rx)
  obtain⟨_,_,_,p,_⟩:=(show bO X.prog X.w H s.heap a (.tup xs) from I.hok a _ ea)
  obtain⟨o,h1,h2,_⟩:=p
  exact aM3 PySem.W.kitx_tuple I.kIn ⟨o,h1,h2⟩ e (λz=>nomatch z) h
 |@dK a kvs ea=>
  cases (show u=Value.ref a from rx)
  obtain⟨_,_,vs,_,p⟩:=(show bO X.prog X.w H s.heap a (.dK kvs) from I.hok a _ ea)
  obtain⟨o,es,ep,h1,h2,_⟩:=p
  exact aM3 PySem.W.kitx_dict I.kIn ⟨o,h1,h2.1⟩ e (λz=>nomatch z) h
 |@dT a kvs ea=>
  cases (show u=Value.ref a from rx)
  obtain⟨_,_,xs,_,o,es,ep,h1,h2,_⟩:=(show bO X.prog X.w H s.heap a (.dT kvs) from I.hok a _ ea)
  exact aM3 PySem.W.kitx_dict I.kIn ⟨o,h1,h2.1⟩ e (λz=>nomatch z) h
 |@ins a C dx fs ea cl ha hn htk hm=>
  cases (show u=Value.ref a from rx)
  obtain⟨mA,O,_⟩:=V4 I.hok ea
  obtain⟨od,J,_⟩:=O.look
  exact aM3 (PySem.W.kitx_own (cl.get _) cl.hd ha hn htk hm) I.kIn J e (λz=>nomatch z) h
end
structure bS (k:Nat)(A:ba):Prop where
 hd:A.handled=none
 dp:A.depth+3*k+5<recursionLimit
 un:A.units+16*k+200<cLine
theorem bS.mono {j k:Nat}{A:ba}(r:bS k A)(h:j<=k):bS j A:=⟨r.hd,by have:=r.dp;omega,by have:=r.un;omega⟩
theorem bS.deeper {k:Nat}{A:ba}(r:bS (k+1) A)(env:Env):bS k (A.deeper env):=
 ⟨r.hd,by have:=r.dp;show A.depth+1+3*k+5<_;omega,by have:=r.un;show A.units+3+16*k+200<_;omega⟩
theorem bS.depth {k:Nat}{A:ba}(r:bS k A):A.depth<recursionLimit:=by have:=r.dp;omega
theorem bS.units {k:Nat}{A:ba}(r:bS k A):A.units+64<cLine:=by have:=r.un;omega
noncomputable def iX:TA:=λ_ H Q=>Q [] H
noncomputable def fX (ta:TE)(tr:TA):TA:=λσ H Q=>ta σ H λx H1=>tr σ H1 λxs H2=>Q (x::xs) H2
section
variable {X:Cx}{e:Expr}{es:List Expr}{te:TE}{t:TA}{pos:Pos}
theorem gJ:PA X [] iX:=λ_ _ _ _ H Q I h=>Calls.spliced_nil ⟨[],H,I,.nil,h⟩
theorem e9 (ha:PE X e te)(hr:PA X es t)(hs:starEach (e::es) X.env=(false,eval e X.env)::starEach es X.env:=by rfl):PA X (e::es) (fX te t):=by
 intro pos ah s σ H Q I h;rw[hs];show wpAny _ _ (spliced ((false,eval e X.env)::backTo pos (starEach es X.env))) _ _ s;refine Calls.spliced_cons (aR (ha ah s σ H _ I h) λu s1 ⟨x,H1,I1,r1,q1⟩=>?_);exact aR (hr pos ah s1 σ H1 _ I1 q1) λus s2 ⟨xs,H2,I2,r2,q2⟩=>⟨x::xs,H2,I2,.cons r1 r2,q2⟩
noncomputable def rA (t:TA):TE:=λσ H Q=>t σ H λxs H1=>xs.length<=sizeLine/\∀p,H1 p=none->Q (.ref p) (upd H1 p (.tup xs))
noncomputable def vM (t:TA):TE:=λσ H Q=>t σ H λxs H1=>xs.length<=sizeLine/\∀p,H1 p=none->Q (.ref p) (upd H1 p (.lst xs))
theorem vN {x1}(h:PA X es t):PE X (.Tuple es x1 pos) (rA t):=by
 intro ah s σ H Q I hq;refine wpAny_Tuple_spliced (aR (h pos ah s σ H _ I hq) λus s1 ⟨xs,H1,I1,r,z,q⟩=>⟨by rw[<- r.length];exact z,?_⟩);have hf:H1 s1.heap.objs.size=none:=I1.hok.fresh (aH9 _);refine⟨.ref s1.heap.objs.size,upd H1 s1.heap.objs.size (.tup xs),I1.laid (t':=s1.toks) (λb u e=>aH1 _ e) (aH9 _) ?_,rfl,q _ hf⟩
 exact⟨z,us,r,⟨_,aJ0 _ rfl,rfl,_,rfl⟩,i4.new _ _ rfl⟩
theorem V6 (h:PA X es t):PE X (.List es pos) (vM t):=by
 intro ah s σ H Q I hq;refine wpAny_List_spliced (aR (h pos ah s σ H _ I hq) λus s1 ⟨xs,H1,I1,r,z,q⟩=>⟨by rw[<- r.length];exact z,?_⟩);have hf:H1 s1.heap.objs.size=none:=I1.hok.fresh (aH9 _);refine⟨.ref s1.heap.objs.size,upd H1 s1.heap.objs.size (.lst xs),I1.laid (t':=s1.toks) (λb u e=>aH1 _ e) (aH9 _) ?_,rfl,q _ hf⟩
 exact⟨z,us,0,r,aJ0 _ rfl⟩
end
noncomputable abbrev Sp:=List V->Hp->VK->XK->Prop
noncomputable abbrev fF:=List Env->Hp->aw->XK->ar->aw->Prop
structure oA (P:ay)(w:bf)(K:ae)(mg:Str->Option ar)(base:Heap)(A:ba)(outer:List Env)(s:aw)(H:Hp):Prop where
 frames:A.frames=some outer
 mod:Mod K mg base
 bs:∀b o,base.get? b=some o->s.heap.get? b=some o/\H b=none
 bsz:base.objs.size<=s.heap.objs.size
 funs:s.heap.FunFrames base outer
 frf:∀b∈b9 outer,H b=none
 hok:bM P w H s.heap
 bare:AllBare s.gens
noncomputable def CE (outer:List Env)(P:ay)(w:bf)(H:Hp)(s:aw)(Q:VK)(u:ar)(s':aw):Prop:=
 ∃v H',s'.os=s.os/\AllBare s'.gens/\Un (b9 outer) [] H H' s.heap s'.heap/\bM P w H' s'.heap/\aX v u/\Q v H'
noncomputable def CR (CX:fF)(outer:List Env)(P:ay)(w:bf)(H:Hp)(s:aw)(Q:VK)(E:XK)(r:Result)(s':aw):Prop:=
 match r with
 |.ok (.ret u)=>CE outer P w H s Q u s'
 |.ok _=>False
 |.error e=>CX outer H s E e s'
structure cZ (P:ay)(w:bf)(K:ae)(mg:Str->Option ar)(base:Heap)(CX:fF)(k:Nat)(f:ax)(fd:FuncData)(ps:List Str)(sp:Sp):Prop where
 len:∀vs H Q E,sp vs H Q E->vs.length=ps.length
 run:∀(A:ba) (outer:List Env) (s:aw) (H:Hp) (args:Args) (us:List ar) (vs:List V) (Q:VK) (E:XK),bS k A->oA P w K mg base A outer s H->BindsTo s fd args (ps.zip us)->aO vs us->sp vs H Q E->
  codeAny (model P w) A (.call (.ref f) args) (CR CX outer P w H s Q E) s
theorem cZ.imp {P:ay}{w:bf}{K:ae}{mg:Str->Option ar}{base:Heap}{CX:fF}{k:Nat}{f:ax}{fd:FuncData}{ps:List Str}{sp sp':Sp}(F:cZ P w K mg base CX k f fd ps sp)(h:∀vs H Q E,sp' vs H Q E->sp vs H Q E):cZ P w K mg base CX k f fd ps sp':=
 ⟨λvs H Q E q=>F.len vs H Q E (h _ _ _ _ q),λA outer s H args us vs Q E hr he hb hv hs=>F.run A outer s H args us vs Q E hr he hb hv (h _ _ _ _ hs)⟩
section
variable {X:Cx}{ah:List (ax×Obj)}{σ:St}{H:Hp}{s s':aw}
theorem a6.env0 (I:a6 X ah σ H s):oA X.prog X.w X.K X.mg X.base X.A X.stack s H:=
 ⟨I.ok.frames,I.ok.mod,I.bs,aK4 I.ok.bsz I.sz,I.stack,I.stkFree,I.hok,I.bare⟩
theorem a6.after {Q:VK}{u:ar}(I:a6 X ah σ H s)(h:CE X.stack X.prog X.w H s Q u s'):EP X ah σ Q u s':=by
 obtain⟨v,H',os,bare,un,hok,r,q⟩:=h
 obtain⟨hh,g,d,t,os'⟩:=s'
 obtain rfl:os'=s.os:=os
 exact⟨v,H',I.call (h':=hh) (g':=g) (d':=d) (t':=t) (ch:=[]) un hok bare (λb z=>absurd z (by simp)),r,q⟩
end
noncomputable def rB (sp:Sp)(dvs:List V)(E:XK)(t:TA):TE:=λσ H Q=>t σ H λvs H1=>sp (vs++dvs) H1 Q E
noncomputable def iY (K:ae)(fd:FuncData)(ps:List Str)(ds:List ar):Prop:=
 ∀(s:aw) (us:List ar),K.In s.heap->(us++ds).length=ps.length->BindsTo s fd ⟨us,[]⟩ (ps.zip (us++ds))
theorem iY.all {K:ae}{fd:FuncData}{ps:List Str}(h:∀us:List ar,us.length=ps.length->bindArgs fd ⟨us,[]⟩=pure (ps.zip us)):iY K fd ps []:=λs us _ hl=>by
 rw[List.append_nil]at hl ⊢;exact .of_eq (h us hl)
noncomputable def jT (CX:fF)(X:Cx)(E:XK):Prop:=∀(ah:List (ax×Obj)) (σ:St) (H:Hp) (s:aw) (e:ar) (s':aw),a6 X ah σ H s->CX X.stack H s E e s'->X.xe e s'
section
variable {X:Cx}{CX:fF}{k:Nat}{f C:ax}{fd:FuncData}{ps:List Str}{sp:Sp}{dvs:List V}{ds:List ar}{E:XK}{x m:Str}{p pos ai:Pos}{e o:Expr}{es:List Expr}{ta:TE}{t:TA}
theorem V7 {ah:List (ax×Obj)}{σ:St}{H:Hp}{s:aw}{Q:VK}{us:List ar}{vs:List V}(F:cZ X.prog X.w X.K X.mg X.base CX k f fd ps sp)(hr:bS k X.A)(hb:iY X.K fd ps ds)(hd:aO dvs ds)(hx:jT CX X E)(I:a6 X ah σ H s)(r:aO vs us)(h:sp (vs++dvs) H Q E):wpAny (model X.prog X.w) X.A (call (.ref f) us) (EP X ah σ Q) X.xe s:=by
 have r2:aO (vs++dvs) (us++ds):=r.append hd;have hl:(us++ds).length=ps.length:=by rw[<- r2.length];exact F.len _ _ _ _ h
 refine wpAny_call (codeAny_mono (F.run X.A X.stack s H ⟨us,[]⟩ (us++ds) (vs++dvs) Q E hr I.env0 (hb s us I.kIn hl) r2 h) λr s' hq=>?_);cases r with
 |error e=>exact hx ah σ H s e s' I hq
 |ok fl=>
  cases fl with
  |ret u=>exact I.after hq
  |next=>exact False.elim hq
  |brk=>exact False.elim hq
  |cont=>exact False.elim hq
theorem rC (F:cZ X.prog X.w X.K X.mg X.base CX k f fd ps sp)(hr:bS k X.A)(hg:Gl X x)(hm:X.mg x=some (.ref f))(hk:PySem.W.keepIn X.K (.ref f)=true)(hb:iY X.K fd ps ds)(hd:aO dvs ds)(hx:jT CX X E)(ha:PA X (e::es) t)(hdb:(x==("__debug__":Str))=false:=by decide)(he:starEach (e::es) X.env=(false,eval e X.env)::starEach es X.env:=by rfl)(hpl:(backTo pos (starEach es X.env)).any (·.1)=false:=by rfl) :
  PE X (.Call (.Name x p) (e::es) [] pos) (rB sp dvs E t):=by
 intro ah s σ H Q I h;refine wpAny_Call_Name_kw (m5 I hg hm ?_ hdb);refine PySem.W.callWith_K (h₀:=X.base) I.ok.mod.kin hk (aR (ha pos ah s σ H _ I h) λus s1 ⟨vs,H1,I1,r,q⟩=>⟨I1.kIn,?_⟩) he hpl;exact V7 F hr hb hd hx I1 r q
end
noncomputable def PK (X:Cx)(kws:List Keyword)(t:TA):Prop:=
 ∀(pos:Pos) (ah:List (ax×Obj)) (s:aw) (σ:St) (H:Hp) (Q:List V->Hp->Prop),a6 X ah σ H s->t σ H Q->wpAny (model X.prog X.w) X.A (evalAll ((backToKw pos (keywordEach kws X.env)).map (·.2))) (AP X ah σ Q) X.xe s
structure FnScope (N P:List Str)(sc:Scope):Prop where
 kind:sc.kind = .function
 co:sc.isCoroutine=false
 gen:sc.isGenerator=false
 nd:N.Nodup
 pre:N.take P.length=P
 par:∀x∈P,sc.names.lookup x=some .local∨sc.names.lookup x=some .cell
 nofree:∀y∈sc.names,y.2≠.free
theorem vO {kindOf:Str->Option NameKind}{x:Str}:∀{binds:List (Str×ar)}{m:Str->Option ar},(∀v,(x,v)∉binds)->bindL kindOf binds m x=m x
 |[],_,_=>rfl
 |(n,v)::r,m,h=>by
  unfold bindL;rw[vO λw hw=>h w (aI0 _ hw)];split
  ·have:x≠n:=by rintro rfl;exact h v aH6
   simp[this]
  ·rfl
theorem vP {kindOf:Str->Option NameKind}{x:Str}:∀{binds:List (Str×ar)}{m:Str->Option ar},(∀v,(x,v)∉binds)->bindC kindOf binds m x=m x
 |[],_,_=>rfl
 |(n,v)::r,m,h=>by
  unfold bindC;rw[vP λw hw=>h w (aI0 _ hw)];split
  ·rfl
  ·have:x≠n:=by rintro rfl;exact h v aH6
   simp[this]
theorem vQ {kindOf:Str->Option NameKind}{x:Str}{v:ar}:∀{P:List Str}{vs:List ar}{i:Nat}{m:Str->Option ar},P.Nodup->P[i]? = some x->vs[i]? = some v->kindOf x=some .local->
  bindL kindOf (P.zip vs) m x=some v
 |[],_,_,_,_,h,_,_=>by simp at h
 |_::_,[],_,_,_,_,h,_=>by simp at h
 |p::P,w::vs,0,m,nd,h1,h2,hk=>by
  simp at h1 h2;subst h1;subst h2;show bindL kindOf ((p,w)::P.zip vs) m p=_;unfold bindL;rw[vO λv hv=>(List.nodup_cons.mp nd).1 (List.of_mem_zip hv).1,if_pos hk];simp
 |p::P,w::vs,i+1,m,nd,h1,h2,hk=>by
  show bindL kindOf ((p,w)::P.zip vs) m x=_;unfold bindL;exact vQ (i:=i) (List.nodup_cons.mp nd).2 (by simpa using h1) (by simpa using h2) hk
theorem vR {kindOf:Str->Option NameKind}{x:Str}{v:ar}:∀{P:List Str}{vs:List ar}{i:Nat}{m:Str->Option ar},P.Nodup->P[i]? = some x->vs[i]? = some v->kindOf x≠some .local->
  bindC kindOf (P.zip vs) m x=some v
 |[],_,_,_,_,h,_,_=>by simp at h
 |_::_,[],_,_,_,_,h,_=>by simp at h
 |p::P,w::vs,0,m,nd,h1,h2,hk=>by
  simp at h1 h2;subst h1;subst h2;show bindC kindOf ((p,w)::P.zip vs) m p=_;unfold bindC;rw[vP λv hv=>(List.nodup_cons.mp nd).1 (List.of_mem_zip hv).1,if_neg hk];simp
 |p::P,w::vs,i+1,m,nd,h1,h2,hk=>by
  show bindC kindOf ((p,w)::P.zip vs) m x=_;unfold bindC;exact vR (i:=i) (List.nodup_cons.mp nd).2 (by simpa using h1) (by simpa using h2) hk
noncomputable def cK (N:List Str)(vs:List V):St:=vs.map some++List.replicate (N.length-vs.length) none
noncomputable def c7 (CX:fF)(P:ay)(w:bf)(K:ae)(mg:Str->Option ar)(base:Heap)(N:List Str)(qual:Str)(scope:Scope)(f:ax)(cd:ar)(A:ba)(outer:List Env)(s:aw)(H:Hp)(E:XK):Cx where
 prog:=P
 w:=w
 K:=K
 mg:=mg
 base:=base
 A:=A.deeper (envOfC qual scope s.heap.objs.size f cd)
 N:=N
 s₀:=s
 H₀:=H
 env:=envOfC qual scope s.heap.objs.size f cd
 outer:=outer
 stack:=envOfC qual scope s.heap.objs.size f cd::outer
 ex:=[]
 calm:=true
 fn:=λ_=>true
 pn:=[]
 xe:=λe s'=>wpAny (model P w) (A.deeper (envOfC qual scope s.heap.objs.size f cd)) (leaving (envOfC qual scope s.heap.objs.size f cd) e) (λ_ s''=>CX outer H s E e s'') (λe' s''=>CX outer H s E e' s'') s'
theorem vS {sc:Scope}{n:Nat}{x:Str}(h:sc.names.lookup x=some .cell):∃c,(cellsFrom n sc.names []).lookup x=some c:=by
 have q:=PySem.W.cellsFrom_some sc.names n [] (.inl h);exact Option.isSome_iff_exists.mp q
theorem V8 {CX:fF}{P:ay}{w:bf}{K:ae}{mg:Str->Option ar}{base:Heap}{N ps:List Str}{qual:Str}{scope:Scope}{f:ax}{cd:ar}{A:ba}{outer:List Env}{s s1:aw}{H:Hp}{E:XK}{us:List ar}{vs:List V}(S:FnScope N ps scope)(hd:A.handled=none)(e0:oA P w K mg base A outer s H)(hl:vs.length=ps.length)(r:aO vs us)(x:InCallC s s.heap.objs.size (bindL (envOfC qual scope s.heap.objs.size f cd).kindOf (ps.zip us) λ_=>none) (cellsFrom (s.heap.objs.size+1) scope.names []) (bindC (envOfC qual scope s.heap.objs.size f cd).kindOf (ps.zip us) λ_=>none) s1) :
  a6 (c7 CX P w K mg base N qual scope f cd A outer s H E) [] (cK N vs) H s1:=by
 have hpl:ps.length<=N.length:=by have:=congrArg List.length S.pre;rw[aP5]at this;omega
 obtain⟨h1,tk,rfl,hk⟩:=x.done
 have noA:∀b:ax,b∉(c7 CX P w K mg base N qual scope f cd A outer s H E).ex:=λb z=>absurd (show b∈([]:List ax) from z) (by simp)
 refine⟨⟨e0.mod,S.kind,rfl,rfl,aH9 _,λy z c h1 h2=>?_,λy hy=>?_,λy c _ h=>?_,λ_=>hd,Around.frames_deeper e0.frames,.inr ⟨rfl,rfl⟩,λb z=>absurd z (noA b),e0.bs,e0.bsz,λb _ _=>noA b,λb z=>absurd z (noA b),e0.funs,e0.frf⟩,
  rfl,e0.bare,Un.kept hk,⟨_,x.toInCall.ns,λi y v h1 h2 h3=>?_⟩,λy c h=>⟨_,x.cell y c h⟩,e0.hok.fresh (aH9 _),λy c h=>?_,λp hp=>absurd (show p∈([]:List (ax×Obj)) from hp) (by simp),e0.hok.kept hk,?_⟩
 ·exact name_of_addr x.apart (aL5 h1) (aL5 h2)
 ·have hy:scope.names.lookup y=some .cell∨scope.names.lookup y=some .free:=hy
  rcases hy with hy|hy
  ·exact vS hy
  ·exact absurd rfl (S.nofree _ (aL5 hy))
 ·exact aS1 (x.above y c (aL5 h))
 ·have hi:i<vs.length:=by
   unfold cK at h2;by_cases hi:i<vs.length
   ·exact hi
   ·rw[List.getElem?_append_right (by simpa using hi)]at h2
    rw[List.getElem?_replicate]at h2;split at h2<;>cases h2
  have ha:vs[i]? = some v:=by
   unfold cK at h2;rw[List.getElem?_append_left (by simpa using hi),aI8]at h2;cases e:vs[i]? with
   |none=>rw[e]at h2;cases h2
   |some a=>rw[e]at h2;cases h2;rfl
  obtain⟨u,hu,rv⟩:=r.get ha
  have hp:ps[i]? = some y:=by
   rw[<- S.pre,List.getElem?_take_of_lt (by omega)];exact h1
  have ndP:ps.Nodup:=by rw[<- S.pre];exact S.nd.sublist (List.take_sublist _ _)
  refine⟨u,rv,?_⟩;rcases S.par y (aJ9 hp) with k|k
  ·exact .inl ⟨k,vQ ndP hp hu k⟩
  ·obtain⟨c,e⟩:=vS (n:=s.heap.objs.size+1) k
   refine .inr ⟨.inl k,c,e,?_⟩;have q:=x.cell y c e;rw[vR ndP hp hu (by show scope.names.lookup y≠_;rw[k];decide)]at q;exact q
 ·exact e0.hok.fresh (aS1 (x.above y c (aL5 h)))
 ·unfold cK
  show _=N.length;rw[aJ3,aH4,List.length_replicate];omega
theorem vT {CX:fF}{P:ay}{w:bf}{K:ae}{mg:Str->Option ar}{base:Heap}{k:Nat}{f:ax}{name qual:Str}{params:Arguments}{body:List Stmt}{scope:Scope}{dV kV doc pm cdv ct oc:ar}{an od:Option ax}{osl:Array (Option ar)}{N ps:List Str}{sp:Sp}(lk:K.lookup f=some ⟨oc,od,.func (PySem.W.fnOf name qual params body scope dV kV doc pm an cdv ct),osl⟩)(hcd:PySem.W.codeIn K cdv qual=true)(S:FnScope N ps scope)(len:∀vs H Q E,sp vs H Q E->vs.length=ps.length)(hbody:∀(A:ba) (outer:List Env) (s:aw) (H:Hp) (vs:List V) (Q:VK) (E:XK),bS k (A.deeper (envOfC qual scope s.heap.objs.size f cdv))->sp vs H Q E->
   ∃t,cY (c7 CX P w K mg base N qual scope f cdv A outer s H E) body t/\t { nx:=λ_ H'=>Q .non H',rt:=Q } (cK N vs) H) :
  cZ P w K mg base CX (k+1) f (PySem.W.fnOf name qual params body scope dV kV doc pm an cdv ct) ps sp:=by
 refine⟨len,λA outer s H args us vs Q E hr e0 hb r hsp=>?_⟩;have hl:=len _ _ _ _ hsp;have KX:K.In s.heap:=e0.mod.kin.keeps λb o e=>(e0.bs b o e).1
 have lim:s.heap.NoLimit:=e0.mod.nolimit.keeps λb o e=>(e0.bs b o e).1
 have hkind:∀y∈ps.zip us,scope.names.lookup y.1=some .local∨(scope.names.lookup y.1=some .cell/\((cellsFrom (s.heap.objs.size+1) scope.names []).lookup y.1).isSome=true):=λ⟨n,v⟩ hy=>by
  rcases S.par n (List.of_mem_zip hy).1 with q|q
  ·exact .inl q
  ·exact .inr ⟨q,PySem.W.cellsFrom_some _ _ _ (.inl q)⟩
 refine codeAny_call_function hr.depth (KX _ _ lk) rfl S.co S.gen rfl (PySem.W.codeRec_of KX hcd) (hb _ _ _ _ ?_);refine wpAny_newFunctionEnv_cells S.kind hkind λenv he s1 x=>?_
 subst he;refine⟨lim.keeps x.toInCall.keep,codeAny_func ?_⟩
 obtain⟨t,ht,hq⟩:=hbody A outer s H vs Q E (hr.deeper _) hsp
 have I:a6 (c7 CX P w K mg base N qual scope f cdv A outer s H E) [] (cK N vs) H s1:=V8 S hr.hd e0 hl r x;refine aM1 (ht [] s1 (cK N vs) H _ I hq) (λfl s' hs=>?_) λe s' hs=>hs
 have fin:∀{σ':St}{H':Hp}{v:V}{u:ar},a6 (c7 CX P w K mg base N qual scope f cdv A outer s H E) [] σ' H' s'->aX v u->Q v H'->CE outer P w H s Q u s':=
  λ{σ' H' v u} J rv q=>⟨v,H',J.os,J.bare,J.base,J.hok,rv,q⟩
 cases fl with
 |ret u=>
  obtain⟨v,σ',H',J,rv,q⟩:=hs
  exact fin J rv q
 |next=>
  obtain⟨σ',H',J,q⟩:=hs
  exact fin (v:=V.non) (u:=Value.none) J rfl q
 |brk=>
  obtain⟨_,_,_,q⟩:=hs
  exact False.elim q
 |cont=>
  obtain⟨_,_,_,q⟩:=hs
  exact False.elim q
section
variable {X:Cx}{x:Str}{p pos:Pos}{e:Expr}{es:List Expr}{t:TA}{id T:String}{r:List V→Hp→VK→Prop}
noncomputable def rD (r:List V->Hp->VK->Prop)(t:TA):TE:=λσ H Q=>t σ H λvs H1=>r vs H1 Q
theorem rE (hc:cH X (.builtin id) r)(hg:Gl X x)(hm:X.mg x=none)(hv:bootBuiltins x=some (.builtin id))(ha:PA X (e::es) t)(hn:x≠"__name__":=by decide)(hdb:(x==("__debug__":Str))=false:=by decide)(he:starEach (e::es) X.env=(false,eval e X.env)::starEach es X.env:=by rfl)(hpl:(backTo pos (starEach es X.env)).any (·.1)=false:=by rfl):PE X (.Call (.Name x p) (e::es) [] pos) (rD r t):=by
 intro ah s σ H Q I h;refine wpAny_Call_Name_kw (jQ I hg hm hv ?_ hn hdb);exact PyProof.Rows.callWith_builtin1 (aR (ha pos ah s σ H _ I h) λus s1 ⟨vs,H1,I1,r1,q1⟩=>hc ah s1 σ H1 vs us Q I1 r1 q1) he hpl
theorem V9 (hc:cH X (.type T) r)(hg:Gl X x)(hm:X.mg x=none)(hv:bootBuiltins x=some (.type T))(ha:PA X (e::es) t)(hn:x≠"__name__":=by decide)(hdb:(x==("__debug__":Str))=false:=by decide)(he:starEach (e::es) X.env=(false,eval e X.env)::starEach es X.env:=by rfl)(hpl:(backTo pos (starEach es X.env)).any (·.1)=false:=by rfl):PE X (.Call (.Name x p) (e::es) [] pos) (rD r t):=by
 intro ah s σ H Q I h;refine wpAny_Call_Name_kw (jQ I hg hm hv ?_ hn hdb);exact aQ7 (aR (ha pos ah s σ H _ I h) λus s1 ⟨vs,H1,I1,r1,q1⟩=>hc ah s1 σ H1 vs us Q I1 r1 q1) he hpl
end
end L2
namespace HT
open PySem PyProof.Rows
noncomputable def b7:ag->ag->Bool
 |[],[]=>false
 |[],_::_=>true
 |_::_,[]=>false
 |x::xs,y::ys=>if x=y then b7 xs ys else decide (x<y)
theorem i7 (x y:Int)(xs ys:ag):b7 (x::xs) (y::ys)=if x=y then b7 xs ys else decide (x<y):=rfl
theorem rF:b7 [] []=false:=rfl
theorem vU (y:Int)(ys:ag):b7 [] (y::ys)=true:=rfl
theorem vV (x:Int)(xs:ag):b7 (x::xs) []=false:=rfl
theorem vW (A:ba)(s:aw)(a:Int)(t:Tok)(c:Int)(u:Tok):∃e,SeqAt.EqAt A s (.int a t) (.int c u) e/\(e=true↔a=c):=
 ⟨(a==c),SeqAt.EqAt.int_int a t c u,by simp⟩
theorem W0 (A:ba)(s:aw)(a:Int)(t:Tok)(c:Int)(u:Tok)(prog:ay)(w:bf)(E:ar->aw->Prop)(Q:ar->aw->Prop)(h:Q (.bool (decide (a<c))) s) :
  wpAny (model prog w) A (richCompare .Lt (.int a t) (.int c u)) Q E s:=
 (PyProof.Rows.lt_int h:wpAny (model prog w) A (compareOp .Lt (.int a t) (.int c u)) Q E s)
section
open PySem.SeqAt
open PySem.AutoSeq1 (wpAny_loadPart')
open PySem.MeetsSeq PySem.MeetsSeq2 PySem.MeetsSeq3
theorem W5 (l b:ax)(items items2:Array ar)(n n2:Nat)(dd dd2:Option ax)(sl sl2:Array (Option ar))(ns ms:ag)(hi:IntsAre items.toList ns)(hj:IntsAre items2.toList ms) :
  Meets (Builtin.«tuple.__lt__» ⟨[.ref l,.ref b],[]⟩)
   (λ_ R s=>s.heap.get? l=some { cls:=.type "tuple",dict:=dd,data:=.seq items n,slots:=sl }/\s.heap.get? b=some { cls:=.type "tuple",dict:=dd2,data:=.seq items2 n2,slots:=sl2 }/\
    R (.ok (.ret (.bool (b7 ns ms)))) s):=
 .of_wp λprog w A R s h=>by
  obtain⟨hp,g,d,tk,os⟩:=s;obtain⟨hl,hb,h⟩:=h
  have f2:=AutoSeq1.sub_tuple_tuple;have z1:items.size=ns.length:=by rw[<- hi.length];simp
  have z2:items2.size=ms.length:=by rw[<- hj.length];simp
  wp_walk using wpAny_loadPart' hl,wpAny_loadPart' hb,wpAny_forIn_list _ (λbT b s'=>b.1=none/\s'=⟨hp,g,d,tk,os⟩/\∃(vs ws:List ar) (ns' ms':ag),bT=vs.zip ws/\
   IntsAre vs ns'/\IntsAre ws ms'/\ns'.length+items2.size=ms'.length+items.size/\R (.ok (.ret (.bool (b7 ns' ms')))) ⟨hp,g,d,tk,os⟩) _
  case turn=>
   rintro⟨y,x⟩ bT b s' ⟨hb',rfl,vs,ws,ns',ms',hz,hvi,hwi,ak,hR⟩
   cases hvi with
   |nil=>rw[List.zip_nil_left]at hz;cases hz
   |cons a t hvi'=>
    cases hwi with
    |nil=>rw[List.zip_nil_right]at hz;cases hz
    |cons c u hwi'=>
     rw[aR3]at hz;injection hz with hyx hrest
     injection hyx with hy hx
     subst hy hx;rw[i7]at hR;simp only[aJ1]at ak
     obtain⟨e,he,hiff⟩:=vW A.in1 ⟨hp,g,d,tk,os⟩ a t c u
     refine aG9 (he prog w _ _ ?_);cases e with
     |true=>
      rw[if_pos (hiff.mp rfl)]at hR
      wp_walk
      exact⟨rfl,rfl,_,_,_,_,hrest,hvi',hwi',by omega,hR⟩
     |false=>
      rw[if_neg (λq=>absurd (hiff.mpr q) aI5)]at hR;have hri:=W0 A.in1 ⟨hp,g,d,tk,os⟩ a t c u prog w
      wp_walk using hri
      exact⟨_,rfl,by simpa using hR⟩
  case fin=>
   rintro⟨b1,b2⟩ s' ⟨hb',rfl,vs,ws,ns',ms',hz,hvi,hwi,ak,hR⟩
   simp only at hb';subst hb';have hv:b7 ns' ms'=decide (items.size<items2.size):=by
    cases hvi with
    |nil=>
     cases hwi with
     |nil=>
      simp only[aQ6]at ak;rw[rF];exact (aH0 (by omega)).symm
     |cons c u hw=>
      simp only[aQ6,aJ1]at ak;rw[vU];exact (aH3 (by omega)).symm
    |cons a t hv=>
     cases hwi with
     |nil=>
      simp only[aQ6,aJ1]at ak;rw[vV];exact (aH0 (by omega)).symm
     |cons c u hw=>
      rw[aR3]at hz;cases hz
   rw[hv]at hR
   wp_walk
   exact⟨_,rfl,by simpa[Builtin.Tuple.tupleCompareSizes] using hR⟩
  case h=>
   exact⟨rfl,rfl,items.toList,items2.toList,ns,ms,rfl,hi,hj,by omega,h⟩
end
section
variable {prog:ay}{w:bf}{A:ba}{E:ar→aw→Prop}{s:aw}
theorem W6 {l b:ax}{items items2:Array ar}{ns ms:ag}{Q:ar->aw->Prop}(hl:IsTup s.heap l items)(hb:IsTup s.heap b items2)(hi:IntsAre items.toList ns)(hj:IntsAre items2.toList ms)(hu:A.units<cLine)(h:Q (.bool (b7 ns ms)) s):wpAny (model prog w) A (compareOp .Lt (.ref l) (.ref b)) Q E s:=by
 obtain⟨⟨cls,dd,data,sl⟩,ho,hc,n,hd⟩:=id hl
 obtain⟨⟨cls2,dd2,data2,sl2⟩,ho2,hc2,n2,hd2⟩:=id hb
 simp only at hc hd hc2 hd2;subst hc hd hc2 hd2;exact richCompare_meets_room (op:=.Lt) ⟨_,ho,rfl⟩ ⟨_,ho2,rfl⟩ PySem.F.slot_tuple_lt PySem.F.entry_tuple_lt (PySem.F.args_tuple_lt_2 _ _) (W5 l b items items2 n n2 dd dd2 sl sl2 ns ms hi hj)
  ⟨ho,ho2,show Value.bool (b7 ns ms)≠Value.notImplemented/\Q (.bool (b7 ns ms)) s from ⟨(λx=>nomatch x),h⟩⟩ hu
noncomputable def aV (n d:Nat):Option Int->Nat
 |none=>d
 |some v=>if v<0 then (v+(n:Int)).toNat else min v.toNat n
theorem W7 (n d k:Nat):aV n d (some (k:Int))=min k n:=by
 show (if (k:Int)<0 then ((k:Int)+(n:Int)).toNat else min (k:Int).toNat n)=min k n;rw[if_neg (by omega),Int.toNat_natCast]
theorem W8 (n d:Nat)(hd:d<=n)(o:Option Int):aV n d o<=n:=by
 cases o with
 |none=>exact hd
 |some v=>
  show (if v<0 then (v+(n:Int)).toNat else min v.toNat n)<=n;by_cases hv:v<0
  ·rw[if_pos hv];omega
  ·rw[if_neg hv];exact Nat.min_le_right _ _
theorem vX (v:Int)(n d:Nat):(if v<0 then max (v+(n:Int)) 0 else min v (n:Int))=((aV n d (some v):Nat):Int):=by
 show (if v<0 then max (v+(n:Int)) 0 else min v (n:Int))=(((if v<0 then (v+(n:Int)).toNat else min v.toNat n):Nat):Int);by_cases hv:v<0
 ·simp only[if_pos hv];omega
 ·simp only[if_neg hv];omega
theorem W9 (lo hi:Option Int)(n:Nat):Builtin.Slice.sliceAdjust lo hi 1 (n:Int)=(((aV n 0 lo:Nat):Int),((aV n n hi:Nat):Int)):=by
 have h1:¬((1:Int)<0):=by omega
 unfold Builtin.Slice.sliceAdjust;simp only[h1,aN0];refine Prod.ext ?_ ?_
 ·cases lo with
  |none=>rfl
  |some v=>exact vX v n 0
 ·cases hi with
  |none=>rfl
  |some v=>exact vX v n n
theorem X0 (i j:Nat):Builtin.Slice.slicePlaces (i:Int) (j:Int) 1=j-i:=by
 unfold Builtin.Slice.slicePlaces;have h1:(1:Int)>0:=by omega
 simp only[h1,if_true,Int.ediv_one];split<;>omega
theorem vY {v:ar}{o:Option Int}{Q:Option Int->aw->Prop}(p:IsPart v o)(h:Q o s):wpAny (model prog w) A (Builtin.Slice.slicePartIndex v) Q E s:=by
 cases p with
 |none=>exact slicePart_none h
 |int i t=>exact slicePart_int h
theorem vZ {sl:ax}{vl vu:ar}{lo hi:Option Int}{n:Nat}{Q:Int×Int×Nat->aw->Prop}(hs:s.heap.IsSliceOf sl vl vu .none)(pl:IsPart vl lo)(pu:IsPart vu hi)(h:Q (((aV n 0 lo:Nat):Int),1,aV n n hi-aV n 0 lo) s):wpAny (model prog w) A (Builtin.Slice.sliceApplied (.ref sl) (pure (n:Int))) Q E s:=by
 obtain⟨os,hos,hcs,hds⟩:=id hs
 unfold Builtin.Slice.sliceApplied Builtin.Slice.sliceFields;refine aG9 (aG9 (aM7 hos hds (x:=vl) rfl (aG9 (aM7 hos hds (x:=vu) rfl (aG9 (aM7 hos hds (x:=.none) rfl (aH5 ?_)))))));refine aG9 (slicePart_none ?_);show wpAny _ _ (if ((1:Int)==0)=true then _ else _) _ _ s;rw[if_neg (by decide)];refine aG9 (vY pl (aG9 (vY pu (aG9 (aH5 ?_)))));show wpAny _ _ (match Builtin.Slice.sliceAdjust lo hi 1 (n:Int) with|(lo,hi)=>pure (lo,(1:Int),Builtin.Slice.slicePlaces lo hi 1)) _ _ s;rw[W9 lo hi n];show wpAny _ _ (pure (((aV n 0 lo:Nat):Int),(1:Int),Builtin.Slice.slicePlaces ((aV n 0 lo:Nat):Int) ((aV n n hi:Nat):Int) 1)) _ _ s;rw[X0];exact aH5 h
theorem X1 (xs:Array ar)(i k:Nat):((List.range k).filterMap λ(m:Nat)=>xs[((i:Int)+(m:Int)*1).toNat]?).toArray=((xs.toList.drop i).take k).toArray:=by
 have e:(λ(m:Nat)=>xs[((i:Int)+(m:Int)*1).toNat]?)=λm=>xs[i+m]?:=by
  funext m
  have:((i:Int)+(m:Int)*1).toNat=i+m:=by omega
  rw[this]
 rw[e]
 have:=pick_run xs i k
 rw[List.filterMap_map]at this;have e2:((λx=>xs[x]?) ∘ λx=>i+x)=λm=>xs[i+m]?:=rfl
 rw[e2]at this;rw[this]
theorem X2 {t sl:ax}{items:Array ar}{vl vu:ar}{lo hi:Option Int}{Q:ar->aw->Prop}(ht:IsTup s.heap t items)(hs:s.heap.IsSliceOf sl vl vu .none)(pl:IsPart vl lo)(pu:IsPart vu hi)(hw:¬(aV items.size 0 lo=0/\aV items.size items.size hi=items.size))(h:Q (.ref s.heap.objs.size) { s with heap:=s.heap.push { cls:=.type "tuple",data:=.seq ((items.toList.drop (aV items.size 0 lo)).take (aV items.size items.size hi-aV items.size 0 lo)).toArray } })(hsz:items.size<=sizeLine):wpAny (model prog w) A (getItem (.ref t) (.ref sl)) Q E s:=by
 have htake:sizeOk (.seq ((items.toList.drop (aV items.size 0 lo)).take (aV items.size items.size hi-aV items.size 0 lo)).toArray):=by
  show ((items.toList.drop (aV items.size 0 lo)).take (aV items.size items.size hi-aV items.size 0 lo)).toArray.size<=sizeLine;rw[aH7,aP5,aL7,aN2];omega
 have hj:aV items.size items.size hi<=items.size:=W8 _ _ (aH9 _) hi
 obtain⟨os,hos,hcs,hds⟩:=id hs
 have hTs:s.TypeIs (.ref sl) "slice":=⟨os,hos,hcs⟩;unfold getItem
 try with_reducible refine aR0 ?_
 first|refine aG9 (aH5 ?_)|skip
 refine aG9 (wpAny_sequenceKey ht.typeIs (by decide) ?_)
 refine aG9 (aN3 (name:=Str.ofString "__getitem__") ht.typeIs aP4
  (aO7 aP4 ht.typeIs entry_tuple_getitem ?_ (args_tuple_getitem _ _)))
 show wpAny _ _ (Builtin.Tuple.tupleItemsOf (.ref t) >>= _) _ _ s;refine aG9 (tupleItemsOf_ ht ?_);refine aG9 (wpAny_typeOf hTs ?_);rw[if_pos (by decide)];refine aG9 (vZ hs pl pu ?_);have hno:¬((((aV items.size 0 lo:Nat):Int)==0&&(1:Int)==1&&(aV items.size items.size hi-aV items.size 0 lo)==items.size)=true):=by
  intro q;rw[aK2,aK2]at q;have q1:((aV items.size 0 lo:Nat):Int)=0:=eq_of_beq q.1.1;have q2:aV items.size items.size hi-aV items.size 0 lo=items.size:=eq_of_beq q.2;exact hw ⟨by omega,by omega⟩
 show wpAny _ _ (if (((aV items.size 0 lo:Nat):Int)==0&&(1:Int)==1&&(aV items.size items.size hi-aV items.size 0 lo)==items.size)=true then _ else _) _ _ s;rw[if_neg hno,X1]
 first
  |exact aG9 (m:=Builtin.Tuple.tupleExact _) (aM6 (aH5 ⟨_,rfl,aH5 h⟩) htake)
  |exact aG9 (m:=Builtin.Tuple.tupleExact _) (aM6 (aG9 (aH5 (aH5 ⟨_,rfl,aH5 h⟩))) htake)
  |exact aG9 (aG9 (m:=Builtin.Tuple.tupleExact _) (aM6 (aH5 (aH5 ⟨_,rfl,aH5 h⟩)) htake))
  |exact aG9 (aG9 (m:=Builtin.Tuple.tupleExact _) (aM6 (aH5 ⟨_,rfl,aH5 h⟩) htake))
end
end HT
namespace L2
open PySem PySem.Spec PyProof.Rows
noncomputable abbrev TO:=St->Hp->(Option Int->Hp->Prop)->Prop
noncomputable def PO (X:Cx)(e:Option Expr)(t:TO):Prop:=
 ∀(ah:List (ax×Obj)) (s:aw) (σ:St) (H:Hp) (Q:Option Int->Hp->Prop),a6 X ah σ H s->t σ H Q->
  wpAny (model X.prog X.w) X.A (evalPart e X.env) (λu s'=>∃o H',a6 X ah σ H' s'/\IsPart u o/\Q o H') X.xe s
noncomputable def X3:TO:=λ_ H Q=>Q none H
noncomputable def X4 (t:TE):TO:=λσ H Q=>t σ H λx H1=>∃i,x = .int i/\Q (some i) H1
theorem jU {ns:ag}:∀{us:List ar},aO (ns.map V.int) us->IntsAre us ns:=by
 induction ns with
 |nil=>intro us r;rw[List.map_nil]at r;cases r;exact .nil
 |cons n ns ih=>
  intro us r;rw[aK5]at r;cases r with
  |cons r1 r2=>
   obtain⟨t,e⟩:=r1
   subst e;exact .cons n t (ih r2)
section
variable {X:Cx}{e:Expr}{te:TE}{lo hi:Option Expr}{tl th:TO}{pos p2:Pos}
theorem X5:PO X none X3:=by
 intro ah s σ H Q I h;rw[evalPart_none];exact aH5 ⟨none,H,I,.none,h⟩
theorem X6 (h:PE X e te):PO X (some e) (X4 te):=by
 intro ah s σ H Q I hw;rw[evalPart_some];refine aR (h ah s σ H _ I hw) λu s1 ⟨x,H1,I1,r1,q1⟩=>?_
 obtain⟨i,rfl,q⟩:=q1
 obtain⟨t,rfl⟩:=r1
 exact⟨some i,H1,I1,.int i t,q⟩
noncomputable def i8 (X:Cx)(r:V->Option Int->Option Int->Hp->VK->Prop):Prop:=
 ∀(ah:List (ax×Obj)) (s:aw) (σ:St) (H:Hp) (x:V) (v vl vu:ar) (lo hi:Option Int) (sl:ax) (Q:VK),a6 X ah σ H s->aX x v->s.heap.IsSliceOf sl vl vu .none->IsPart vl lo->IsPart vu hi->r x lo hi H Q->
  ∃T id,typeLookup (.type T) "__getitem__" = pure (some (.builtin id))/\s.TypeIs v T/\wpAny (model X.prog X.w) X.A (getItem v (.ref sl)) (EP X ah σ Q) X.xe s
theorem i8.or {r r':V->Option Int->Option Int->Hp->VK->Prop}(h:i8 X r)(h':i8 X r'):i8 X (λx lo hi H Q=>r x lo hi H Q∨r' x lo hi H Q):=by
 intro ah s σ H x v vl vu lo hi sl Q I rx hs pl pu q;rcases q with q|q
 ·exact h ah s σ H x v vl vu lo hi sl Q I rx hs pl pu q
 ·exact h' ah s σ H x v vl vu lo hi sl Q I rx hs pl pu q
noncomputable def X7 (r:V->Option Int->Option Int->Hp->VK->Prop)(te:TE)(tl th:TO):TE:=λσ H Q=>te σ H λx H1=>tl σ H1 λl H2=>th σ H2 λu H3=>r x l u H3 Q
theorem w4 {r:V->Option Int->Option Int->Hp->VK->Prop}(hr:i8 X r)(he:PE X e te)(hl:PO X lo tl)(hu:PO X hi th):PE X (.Subscript e (.Slice lo hi none p2) pos) (X7 r te tl th):=by
 intro ah s σ H Q I h;refine Subscript_ (aR (he ah s σ H _ I h) λv s1 ⟨x,H1,I1,r1,q1⟩=>?_);refine wpAny_Slice (aR (hl ah s1 σ H1 _ I1 q1) λvl s2 ⟨l,H2,I2,pl,q2⟩=>aR (hu ah s2 σ H2 _ I2 q2) λvu s3 ⟨u,H3,I3,pu,q3⟩=>?_);rw[evalPart_none];refine aH5 ?_;have I4:a6 X ah σ H3 { s3 with heap:=s3.heap.push { cls:=.type "slice",data:=.fields #[vl,vu,.none] } }:=I3.kept (t':=s3.toks) λb ob q=>aH1 _ q
 obtain⟨T,id,hT,ht,hg⟩:=hr ah { s3 with heap:=s3.heap.push { cls:=.type "slice",data:=.fields #[vl,vu,.none] } } σ H3 x v vl vu l u s3.heap.objs.size Q I4 r1 (Heap.IsSliceOf.new ..) pl pu q3
 show wpAny (model X.prog X.w) X.A (subscriptTail e (.Slice lo hi none p2) v (.ref s3.heap.objs.size)) (EP X ah σ Q) X.xe { s3 with heap:=s3.heap.push { cls:=.type "slice",data:=.fields #[vl,vu,.none] } };exact tail_any (ops:=[.ref s3.heap.objs.size,v]) ht hT hg (by with_unfolding_all rfl)
noncomputable def fY (xs:List V)(lo hi:Option Int):List V:=(xs.drop (HT.aV xs.length 0 lo)).take (HT.aV xs.length xs.length hi-HT.aV xs.length 0 lo)
theorem w5 (xs:List V)(lo hi:Option Int):(fY xs lo hi).length<=xs.length:=by
 unfold fY;rw[aP5,aL7];omega
noncomputable def X8 (K:ae):V->Option Int->Option Int->Hp->VK->Prop:=λx lo hi H Q=>∃a xs,x = .ref a/\aU K H a xs/\
 ¬(HT.aV xs.length 0 lo=0/\HT.aV xs.length xs.length hi=xs.length)/\∀p,H p=none->Q (.ref p) (upd H p (.tup (fY xs lo hi)))
theorem X9:i8 X (X8 X.K):=by
 intro ah s σ H x v vl vu lo hi sl Q I rx hs pl pu h
 obtain⟨a,xs,rfl,hx,hw,q⟩:=h
 cases rx
 obtain⟨its,r,ht,hz⟩:=I.tuple hx
 have ak:its.toArray.size=xs.length:=by rw[aH7];exact r.length.symm
 refine⟨"tuple",_,PyProof.Rows.slot_tuple_getitem.lookup,ht.typeIs,?_⟩;refine HT.X2 ht hs pl pu (by rw[ak];exact hw) ?_ (by rw[ak];exact hz);rw[ak];refine⟨.ref s.heap.objs.size,_,I.laid (t':=s.toks) (o:=.tup (fY xs lo hi)) (λb ob q=>aH1 _ q) (aH9 _) ?_,rfl,q _ (I.hok.fresh (aH9 _))⟩
 exact⟨aK4 (w5 xs lo hi) hz,_,(r.drop (HT.aV xs.length 0 lo)).take (HT.aV xs.length xs.length hi-HT.aV xs.length 0 lo),IsTup.new _ _,i4.new _ _ rfl⟩
noncomputable def rG (K:ae):R2:=λx y H Q=>∃a b ns ms,x = .ref a/\y = .ref b/\aU K H a (ns.map V.int)/\aU K H b (ms.map V.int)/\Q (.bl (HT.b7 ns ms)) H
theorem Y0 (hu:X.A.units<cLine):bU X (compareOp .Lt) (rG X.K):=by
 intro ah s σ H x y v u Q I rx ry h
 obtain⟨a,b,ns,ms,rfl,rfl,ha,hb,q⟩:=h
 cases rx;cases ry
 obtain⟨its,r1,p1,_⟩:=I.tuple ha
 obtain⟨ao,r2,p2,_⟩:=I.tuple hb
 have i1:IntsAre its.toArray.toList ns:=jU r1;have i2:IntsAre ao.toArray.toList ms:=jU r2;exact HT.W6 p1 p2 i1 i2 hu ⟨.bl (HT.b7 ns ms),H,I,rfl,q⟩
end
noncomputable def jV (n:Nat)(i:Int):Option Nat:=if 0<=i then (if i<n then some i.toNat else none) else if -(n:Int)<=i then some (i+n).toNat else none
noncomputable def atI {α:Type}(xs:List α)(i:Int):Option α:=(jV xs.length i).bind λj=>xs[j]?
theorem Y1 {n:Nat}{i:Int}{j:Nat}(h:jV n i=some j):seqIndex? i n=some j/\j<n/\-(n:Int)<=i/\i<n:=by
 unfold jV at h;by_cases h0:0<=i
 ·rw[if_pos h0]at h
  by_cases h1:i<n
  ·rw[if_pos h1]at h
   have e:i.toNat=j:=aI7 h
   exact⟨by rw[seqIndex_of h0 h1,e],by omega,by omega,h1⟩
  ·rw[if_neg h1]at h;cases h
 ·rw[if_neg h0]at h
  by_cases h1:-(n:Int)<=i
  ·rw[if_pos h1]at h
   have e:(i+n).toNat=j:=aI7 h
   exact⟨by rw[seqIndex_neg (by omega) h1,e],by omega,h1,by omega⟩
  ·rw[if_neg h1]at h;cases h
theorem rH {α:Type}{xs:List α}{i:Int}{v:α}(h:atI xs i=some v):∃j,seqIndex? i xs.length=some j/\xs[j]? = some v/\j<xs.length/\-(xs.length:Int)<=i/\i<xs.length:=by
 unfold atI at h;cases e:jV xs.length i with
 |none=>rw[e]at h;cases h
 |some j=>
  rw[e]at h
  obtain⟨h1,h2,h3,h4⟩:=Y1 e
  exact⟨j,h1,h,h2,h3,h4⟩
theorem mD {α:Type}{xs:List α}{j:Nat}{v:α}(h:xs[j]? = some v):atI xs (j:Int)=some v:=by
 have hj:j<xs.length:=(aI4.mp h).1;have e:jV xs.length (j:Int)=some j:=by
  unfold jV;rw[if_pos (by omega),if_pos (by omega)];simp
 unfold atI;rw[e];exact h
noncomputable def rJ (b:Expr):Prop:=∀o i,subscripted b false o i=operate [o,i] (getItem o i)
noncomputable def i9 (X:Cx)(r:R2):Prop:=
 ∀(value slice:Expr) (ah:List (ax×Obj)) (s:aw) (σ:St) (H:Hp) (x y:V) (v u:ar) (Q:VK),a6 X ah σ H s->aX x v->aX y u->r x y H Q->
  subscripted slice false v u=operate [v,u] (getItem v u)->wpAny (model X.prog X.w) X.A (subscriptTail value slice v u) (EP X ah σ Q) X.xe s
noncomputable def oB (X:Cx)(id:String)(r:V->List V->Hp->VK->Prop):Prop:=
 ∀(ah:List (ax×Obj)) (s:aw) (σ:St) (H:Hp) (x:V) (xs:List V) (v:ar) (us:List ar) (Q:VK),a6 X ah σ H s->aX x v->aO xs us->r x xs H Q->
  wpAny (model X.prog X.w) X.A (call (.builtin id) (v::us)) (EP X ah σ Q) X.xe s
section
variable {X:Cx}{a b:Expr}{ta tb:TE}{pos:Pos}
theorem i9.or {r r':R2}(h:i9 X r)(h':i9 X r'):i9 X (λx y H Q=>r x y H Q∨r' x y H Q):=by
 intro value slice ah s σ H x y v u Q I rx ry q hs;rcases q with q|q
 ·exact h value slice ah s σ H x y v u Q I rx ry q hs
 ·exact h' value slice ah s σ H x y v u Q I rx ry q hs
theorem w6 {r:R2}(hr:i9 X r)(ha:PE X a ta)(hb:PE X b tb)(hs:rJ b):PE X (.Subscript a b pos) (m8 r ta tb):=by
 intro ah s σ H Q I h;exact Subscript_ (qU ha hb I h λv u s2 x y H2 I2 rx ry q=>hr a b ah s2 σ H2 x y v u Q I2 rx ry q (hs _ _))
noncomputable def w9 (K:ae):R2:=λx y H Q=>∃p xs i v,x = .ref p/\y = .int i/\aS K H p xs/\atI xs i=some v/\Q v H
noncomputable def wA (K:ae):R2:=λx y H Q=>∃p xs i v,x = .ref p/\y = .int i/\aU K H p xs/\atI xs i=some v/\Q v H
noncomputable def rK:R2:=λx y H Q=>∃z i c,x = .str z/\y = .int i/\z.length<=sizeLine/\atI z.cps.toList i=some c/\Q (.str ⟨#[c]⟩) H
theorem Y2:i9 X (w9 X.K):=by
 intro value slice ah s σ H x y v u Q I rx ry h hs
 obtain⟨p,xs,i,z,rfl,rfl,hq,he,q⟩:=h
 cases rx
 obtain⟨t,rfl⟩:=ry
 obtain⟨its,r,pl,hz⟩:=I.list hq
 obtain⟨j,h1,h2,h3,h4,h5⟩:=rH he
 obtain⟨w,ew,rw'⟩:=r.get h2
 have hl:=r.length;have hn:=mB;have fin:EP X ah σ Q w s:=⟨z,H,I,rw',q⟩;by_cases h0:0<=i
 ·have hj:i.toNat=j:=by
   rw[seqIndex_of h0 h5]at h1;exact aI7 h1
  exact item_listR pl.isList h0 (by omega) (by rw[hj];simpa using ew) fin hs
 ·have hj:(i+(its.toArray.size:Int)).toNat=j:=by
   rw[seqIndex_neg (by omega) h4]at h1;rw[aH7,<- hl];exact aI7 h1
  exact subscriptTail_builtinR (x:=w) pl.isList.typeIs slot_list_getitem.lookup
   (wpAny_getItem_list_neg (Q:=λr s'=>r=w/\EP X ah σ Q r s') pl.isList (by omega) (by rw[aH7]<;>omega) (by omega) (by rw[hj];simpa using ew) ⟨rfl,fin⟩) hs
theorem Y3:i9 X (wA X.K):=by
 intro value slice ah s σ H x y v u Q I rx ry h hs
 obtain⟨p,xs,i,z,rfl,rfl,hq,he,q⟩:=h
 cases rx
 obtain⟨t,rfl⟩:=ry
 obtain⟨its,r,pl,hz⟩:=I.tuple hq
 obtain⟨j,h1,h2,h3,h4,h5⟩:=rH he
 obtain⟨w,ew,rw'⟩:=r.get h2
 have hl:=r.length;have hn:=mB;have fin:EP X ah σ Q w s:=⟨z,H,I,rw',q⟩;exact subscriptTail_builtinR (x:=w) pl.typeIs slot_tuple_getitem.lookup
  (getItem_tuple (j:=j) (Q:=λr s'=>r=w/\EP X ah σ Q r s') pl (by omega) (by omega) (by rw[aH7,<- hl];exact h1) (by simpa using ew) ⟨rfl,fin⟩) hs
theorem wB:i9 X rK:=by
 intro value slice ah s σ H x y v u Q I rx ry h hs
 obtain⟨z,i,c,rfl,rfl,hz,he,q⟩:=h
 obtain⟨t,rfl⟩:=rx
 obtain⟨t',rfl⟩:=ry
 obtain⟨j,h1,h2,h3,h4,h5⟩:=rH he
 have hl:z.cps.toList.length=z.length:=by simp[Str.length]
 rw[hl]at h1 h4 h5;have hn:=mB
 exact tail_any (typeIs_str s z t) slot_str_getitem.lookup (getItem_str (c:=c) (by
  have e1:decide (i < -(2^63:Int))=false:=aH0 (by omega);have e2:decide (i >= 2^63)=false:=aH0 (by omega)
  rw[e1,e2,Bool.or_false]) (by rw[h1];simpa using h2) ⟨.str ⟨#[c]⟩,H,I.tok _,⟨_,rfl⟩,q⟩) hs
noncomputable def wC (K:ae):R2:=λx y H Q=>w9 K x y H Q∨wA K x y H Q∨rK x y H Q
theorem Y4:i9 X (wC X.K):=Y2.or (Y3.or wB)
theorem Y5 (lo hi:Option Int)(n:Nat):(sliceBounds lo hi none n).1=((HT.aV n 0 lo:Nat):Int)/\(sliceBounds lo hi none n).2.1=((HT.aV n n hi:Nat):Int)/\(sliceBounds lo hi none n).2.2=1:=by
 refine⟨?_,?_,rfl⟩
 ·cases lo with
  |none=>simp[sliceBounds,HT.aV]
  |some i=>
   simp only[sliceBounds,HT.aV,Option.getD_none,show (1:Int)>0 by decide,if_true];by_cases h:i<0
   ·simp only[h,if_true]<;>omega
   ·simp only[h,aN0]<;>omega
 ·cases hi with
  |none=>simp[sliceBounds,HT.aV]
  |some i=>
   simp only[sliceBounds,HT.aV,Option.getD_none,show (1:Int)>0 by decide,if_true];by_cases h:i<0
   ·simp only[h,if_true]<;>omega
   ·simp only[h,aN0]<;>omega
theorem Y6 (its:List ar)(lo hi:Option Int):slicePick its.toArray lo hi none=((its.drop (HT.aV its.length 0 lo)).take (HT.aV its.length its.length hi-HT.aV its.length 0 lo)).toArray:=by
 obtain⟨h1,h2,h3⟩:=Y5 lo hi its.toArray.size
 unfold slicePick;rw[h1,h2,h3];simp only[sliceRange_one,pick_run,aH7]<;>rfl
noncomputable def Y7 (K:ae):V->Option Int->Option Int->Hp->VK->Prop:=λx lo hi H Q=>∃a xs,x = .ref a/\aS K H a xs/\∀p,H p=none->Q (.ref p) (upd H p (.lst (fY xs lo hi)))
theorem Y8:i8 X (Y7 X.K):=by
 intro ah s σ H x v vl vu lo hi sl Q I rx hs pl pu h
 obtain⟨a,xs,rfl,hx,q⟩:=h
 cases rx
 obtain⟨its,r,ht,hz⟩:=I.list hx
 have ak:=r.length;refine⟨"list",_,slot_list_getitem.lookup,ht.isList.typeIs,?_⟩;refine wpAny_getItem_list_slice ht.isList hs pl pu .none (by simp) ?_ (by rw[aH7]<;>omega);rw[Y6,<- ak];refine⟨.ref s.heap.objs.size,_,I.laid (t':=s.toks) (o:=.lst (fY xs lo hi)) (λb ob q=>aH1 _ q) (aH9 _) ?_,rfl,q _ (I.hok.fresh (aH9 _))⟩
 exact⟨aK4 (w5 xs lo hi) hz,_,0,(r.drop (HT.aV xs.length 0 lo)).take (HT.aV xs.length xs.length hi-HT.aV xs.length 0 lo),aJ0 _ rfl⟩
noncomputable def gK:V->Bool
 |.non=>true
 |.bl _=>true
 |.int _=>true
 |.str _=>true
 |_=>false
noncomputable def fZ:V->V->Bool
 |.non,.non=>true
 |.bl a,.bl b=>a==b
 |.bl a,.int b=>(if a then 1 else 0)==b
 |.int a,.bl b=>a==(if b then 1 else 0)
 |.int a,.int b=>a==b
 |.str a,.str b=>a==b
 |_,_=>false
theorem Y9 {A:ba}{s:aw}{y x:V}{u v:ar}(ry:aX y u)(rx:aX x v)(fy:gK y=true)(fx:gK x=true):SeqAt.EqAt A s u v (fZ y x):=by
 cases y with
 |non=>
  cases ry;cases x with
  |non=>cases rx;exact SeqAt.EqAt.same _
  |bl b=>cases rx;exact SeqAt.EqAt.none_bool b
  |int b=>obtain⟨t,rfl⟩:=rx;exact SeqAt.EqAt.none_int b t
  |str b=>obtain⟨t,rfl⟩:=rx;exact SeqAt.EqAt.none_str b t
  |_=>exact absurd (show false=true from fx) aI5
 |bl a=>
  cases ry;cases x with
  |non=>cases rx;exact SeqAt.EqAt.bool_none a
  |bl b=>cases rx;exact SeqAt.EqAt.bool_bool a b
  |int b=>obtain⟨t,rfl⟩:=rx;exact SeqAt.EqAt.bool_int a b t
  |str b=>obtain⟨t,rfl⟩:=rx;exact SeqAt.EqAt.bool_str a b t
  |_=>exact absurd (show false=true from fx) aI5
 |int a=>
  obtain⟨t',rfl⟩:=ry
  cases x with
  |non=>cases rx;exact SeqAt.EqAt.int_none a t'
  |bl b=>cases rx;exact SeqAt.EqAt.int_bool a t' b
  |int b=>obtain⟨t,rfl⟩:=rx;exact SeqAt.EqAt.int_int a t' b t
  |str b=>obtain⟨t,rfl⟩:=rx;exact SeqAt.EqAt.int_str a t' b t
  |_=>exact absurd (show false=true from fx) aI5
 |str a=>
  obtain⟨t',rfl⟩:=ry
  cases x with
  |non=>cases rx;exact SeqAt.EqAt.str_none a t'
  |bl b=>cases rx;exact SeqAt.EqAt.str_bool a t' b
  |int b=>obtain⟨t,rfl⟩:=rx;exact SeqAt.EqAt.str_int a t' b t
  |str b=>obtain⟨t,rfl⟩:=rx;exact SeqAt.EqAt.str_str a t' b t
  |_=>exact absurd (show false=true from fx) aI5
 |_=>exact absurd (show false=true from fy) aI5
noncomputable def eC (x:V)(u:ar):Bool:=match u with
 |.none=>fZ .non x
 |.bool b=>fZ (.bl b) x
 |.int i _=>fZ (.int i) x
 |.str z _=>fZ (.str z) x
 |_=>false
theorem wD {x y:V}{u:ar}(r:aX y u)(f:gK y=true):eC x u=fZ y x:=by
 cases y with
 |non=>cases r;rfl
 |bl b=>cases r;rfl
 |int i=>obtain⟨t,rfl⟩:=r;rfl
 |str z=>obtain⟨t,rfl⟩:=r;rfl
 |_=>exact absurd (show false=true from f) aI5
theorem mE {x:V}:∀{xs:List V}{us:List ar},aO xs us->xs.all gK=true->us.any (eC x)=xs.any λy=>fZ y x
 |_,_,.nil,_=>rfl
 |y::xs,u::us,.cons r t,f=>by
  rw[aR1,aK2]at f;rw[aP7,aP7,wD r f.1,mE t f.2]
theorem mF {A:ba}{s:aw}{x:V}{v:ar}(rx:aX x v)(fx:gK x=true):∀{xs:List V}{us:List ar},aO xs us->xs.all gK=true->∀u∈us,SeqAt.EqAt A s u v (eC x u)
 |_,_,.nil,_=>λu hu=>by cases hu
 |y::xs,u::us,.cons r t,f=>λu' hu=>by
  rw[aR1,aK2]at f;rcases aI1.mp hu with rfl|hu
  ·rw[wD r f.1];exact Y9 r rx f.1 fx
  ·exact mF rx fx t f.2 u' hu
noncomputable def iZ (x:V)(xs:List V):Bool:=xs.any λy=>fZ y x
noncomputable def oD (K:ae)(neg:Bool):R2:=λx y H Q=>∃p xs,y = .ref p/\(aS K H p xs∨aU K H p xs)/\gK x=true/\xs.all gK=true/\Q (.bl (if neg then !iZ x xs else iZ x xs)) H
theorem Z0:bU X (compareOp .In) (oD X.K false):=by
 intro ah s σ H x y v u Q I rx ry h
 obtain⟨p,xs,rfl,hq,fx,fs,q⟩:=h
 cases ry;rcases hq with hq|hq
 ·obtain⟨its,r,pl,hz⟩:=I.list hq
  refine SeqAt.in_listAt (eC x) pl.isList (λw hw=>mF rx fx r fs w (by simpa using hw)) ⟨.bl _,H,I,rfl,?_⟩;rw[show its.toArray.any (eC x)=its.any (eC x) by simp,mE r fs];exact q
 ·obtain⟨its,r,pl,hz⟩:=I.tuple hq
  refine SeqAt.in_tupleAt (eC x) pl (λw hw=>mF rx fx r fs w (by simpa using hw)) ⟨.bl _,H,I,rfl,?_⟩;rw[show its.toArray.any (eC x)=its.any (eC x) by simp,mE r fs];exact q
theorem Z1:bU X (compareOp .NotIn) (oD X.K true):=by
 intro ah s σ H x y v u Q I rx ry h
 obtain⟨p,xs,rfl,hq,fx,fs,q⟩:=h
 cases ry;rcases hq with hq|hq
 ·obtain⟨its,r,pl,hz⟩:=I.list hq
  refine SeqAt.notIn_listAt (eC x) pl.isList (λw hw=>mF rx fx r fs w (by simpa using hw)) ⟨.bl _,H,I,rfl,?_⟩;rw[show its.toArray.any (eC x)=its.any (eC x) by simp,mE r fs];exact q
 ·obtain⟨its,r,pl,hz⟩:=I.tuple hq
  refine SeqAt.notIn_tupleAt (eC x) pl (λw hw=>mF rx fx r fs w (by simpa using hw)) ⟨.bl _,H,I,rfl,?_⟩;rw[show its.toArray.any (eC x)=its.any (eC x) by simp,mE r fs];exact q
theorem Z2:bU X (compareOp .NotIn) (λx y H Q=>∃i j,x = .str i/\y = .str j/\Q (.bl (!(!(Builtin.Str.occurrences j i 0 j.length 1).isEmpty))) H):=by
 intro ah s σ H x y v u Q I rx ry h
 obtain⟨i,j,rfl,rfl,q⟩:=h
 obtain⟨t,rfl⟩:=rx
 obtain⟨t',rfl⟩:=ry
 exact notIn_str ⟨.bl _,H,I,rfl,q⟩
theorem Z3:cH X (.builtin "len") (λxs H Q=>∃p ys,xs = [.ref p]/\(aS X.K H p ys∨aU X.K H p ys)/\Q (.int ys.length) H):=by
 intro ah s σ H xs us Q I r h
 obtain⟨p,ys,rfl,hq,q⟩:=h
 obtain⟨u,rfl,rx⟩:=e8 r
 cases rx;have hn:=mB;rcases hq with hq|hq
 ·obtain⟨its,r',pl,hz⟩:=I.list hq
  have ak:=r'.length;exact Calls.call_len_list pl.isList (by simp only[aH7]<;>omega) ⟨.int ys.length,H,I.tok _,⟨s.toks+1,by rw[aH7,ak]⟩,q⟩
 ·obtain⟨its,r',pl,hz⟩:=I.tuple hq
  have ak:=r'.length;exact len_tuple pl (by simp only[aH7]<;>omega) ⟨.int ys.length,H,I.tok _,⟨s.toks+1,by rw[aH7,ak]⟩,q⟩
theorem Z4:cH X (.builtin "len") (λxs H Q=>∃z,xs = [.str z]/\z.length<=sizeLine/\Q (.int z.length) H):=by
 intro ah s σ H xs us Q I r h
 obtain⟨z,rfl,hz,q⟩:=h
 obtain⟨u,rfl,t,rfl⟩:=e8 r
 have hn:=mB;exact len_str (by omega) ⟨.int z.length,H,I.tok _,⟨_,rfl⟩,q⟩
theorem cH.or {f:ar}{r r':List V->Hp->VK->Prop}(h:cH X f r)(h':cH X f r'):cH X f (λxs H Q=>r xs H Q∨r' xs H Q):=by
 intro ah s σ H xs us Q I rs q;rcases q with q|q
 ·exact h ah s σ H xs us Q I rs q
 ·exact h' ah s σ H xs us Q I rs q
theorem Z5:cH X (.type "tuple") (λxs H Q=>∃p ys,xs = [.ref p]/\((aS X.K H p ys/\∀l,H l=none->Q (.ref l) (upd H l (.tup ys)))∨(aU X.K H p ys/\Q (.ref p) H))):=by
 intro ah s σ H xs us Q I r h
 obtain⟨p,ys,rfl,h⟩:=h
 obtain⟨u,rfl,rx⟩:=e8 r
 cases rx;rcases h with⟨hq,q⟩|⟨hq,q⟩
 ·obtain⟨its,r',pl,hz⟩:=I.list hq
  have ak:=r'.length;refine call_tuple_list pl.isList (λh' kp=>?_) (by simp only[aH7]<;>omega);have I1:a6 X ah σ H { s with heap:=h' }:=I.kept (t':=s.toks) kp;have I2:a6 X ah σ (upd H h'.objs.size (.tup ys)) { s with heap:=h'.push { cls:=.type "tuple",data:=.seq its.toArray } }:=
   I1.laid (t':=s.toks) (λb o e=>aH1 _ e) (aH9 _) (show bO X.prog X.w _ _ _ (.tup ys) from ⟨hz,its,r',IsTup.new _ _,i4.new _ _ rfl⟩)
  exact⟨.ref h'.objs.size,_,I2,rfl,q _ (I1.hok.fresh (aH9 _))⟩
 ·obtain⟨its,r',pl,hz⟩:=I.tuple hq
  exact call_tuple_same pl ⟨.ref p,H,I,rfl,q⟩
noncomputable def g6 (K:ae)(T:String)(x:V)(H:Hp):Prop:=match x with
 |.str _=>T="str"
 |.int _=>T="int"
 |.ref p=>(T="list"/\∃xs,aS K H p xs)∨(T="tuple"/\∃o,K.lookup p=some o/\o.cls = .type "tuple"/\o.dict=none) ∨
   (T="dict"/\((∃kvs,H p=some (.dK kvs))∨∃kvs,H p=some (.dT kvs)))∨(T="set"/\∃S n,H p=some (.set S n))
 |_=>False
theorem Z6 {ah:List (ax×Obj)}{σ:St}{H:Hp}{s:aw}{T:String}{x:V}{v:ar}(I:a6 X ah σ H s)(r:aX x v)(ty:g6 X.K T x H) :
  s.TypeIs v T/\∀a,v = .ref a->∃ob,s.heap.get? a=some ob/\ob.dict=none:=by
 cases x with
 |str z=>
  obtain⟨t,rfl⟩:=r
  cases (show T="str" from ty)
  exact⟨typeIs_str s z t,λ_ e=>nomatch e⟩
 |int i=>
  obtain⟨t,rfl⟩:=r
  cases (show T="int" from ty)
  exact⟨typeIs_int s i t,λ_ e=>nomatch e⟩
 |ref p=>
  cases r;rcases ty with⟨rfl,xs,hq⟩|⟨rfl,o,hk,hc,hd⟩|⟨rfl,hk⟩|⟨rfl,S,n,hk⟩
  ·obtain⟨its,_,pl,_⟩:=I.list hq
   refine⟨pl.isList.typeIs,λa e=>?_⟩;cases e
   obtain⟨o,n,e,c,hd,_⟩:=pl
   exact⟨o,e,hd⟩
  ·refine⟨⟨o,I.kIn p o hk,hc⟩,λa e=>?_⟩
   cases e
   exact⟨o,I.kIn _ o hk,hd⟩
  ·have z:∃o,s.heap.get? p=some o/\o.ExactDict:=by
    rcases hk with⟨kvs,hk⟩|⟨kvs,hk⟩
    ·obtain⟨_,_,_,_,o,_,_,e,ex,_⟩:=I.hok p _ hk
     exact⟨o,e,ex⟩
    ·obtain⟨_,_,_,_,o,_,_,e,ex,_⟩:=I.hok p _ hk
     exact⟨o,e,ex⟩
   obtain⟨o,e,ex⟩:=z
   refine⟨⟨o,e,ex.1⟩,λa e2=>?_⟩;cases e2
   exact⟨o,e,ex.2.1⟩
  ·obtain⟨o,_,_,_,e,ex,_⟩:=I.hok p _ hk
   refine⟨⟨o,e,ex.1⟩,λa e2=>?_⟩;cases e2
   exact⟨o,e,ex.2.1⟩
 |_=>exact False.elim ty
noncomputable def oE (K:ae)(T:String)(r:V->List V->Hp->VK->Prop)(to:TE)(t:TA):TE:=λσ H Q=>to σ H λx H1=>g6 K T x H1/\t σ H1 λxs H2=>r x xs H2 Q
variable {o e:Expr}{es:List Expr}{to:TE}{t:TA}{name:Str}{ai aj:Pos}{T id:String}{r:V→List V→Hp→VK→Prop}
theorem lA (pa:PlainAttrs T)(slot:Slot T name id)(hty:typeOf (.builtin id)=pure (.type "method_descriptor"))(hm:oB X id r)(ho:PE X o to)(ha:PA X (e::es) t)(hbase:attributeBase o name X.env (eval o X.env)=eval o X.env:=by rfl)(hfew:((backTo aj (starEach (e::es) X.env)).all (λx=>!x.1)&&(backToKw aj (keywordEach [] X.env)).all (λx=>x.1.isSome)
  &&decide ((e::es).length+([]:List Keyword).length+(if ([]:List Keyword).isEmpty then 0 else 1)<30))=true:=by rfl)(hline:(ai.endLine==aj.line)=true:=by rfl)(hs:starEach (e::es) X.env=(false,eval e X.env)::starEach es X.env:=by rfl)(aq:(backTo aj (starEach es X.env)).any (·.1)=false:=by rfl) :
  PE X (.Call (.Attribute o name ai) (e::es) [] aj) (oE X.K T r to t):=by
 intro ah s σ H Q I h;refine wpAny_Call_method_late hbase hfew hline rfl (aR (ho ah s σ H _ I h) λv s1 ⟨x,H1,I1,r1,ty,q1⟩=>?_)
 obtain⟨h1,h2⟩:=Z6 I1 r1 ty
 refine⟨T,id,pa,slot,hty,h1,h2,?_⟩;have hA:=ha aj ah s1 σ H1 _ I1 q1;rw[hs]at hA ⊢;refine Calls.callWith_builtin (by show (false||(backTo aj (starEach es X.env)).any (·.1))=false;rw[aq]<;>rfl) (Calls.evalArgs_plain ?_);exact aR hA λus s2 ⟨vs,H2,I2,r2,q2⟩=>hm ah s2 σ H2 x vs v us Q I2 r1 r2 q2
end
noncomputable def rL (X:Cx)(id:String)(r:V->List V->Hp->VK->Prop):Prop:=
 ∀(ah:List (ax×Obj)) (s:aw) (σ:St) (H:Hp) (x:V) (xs:List V) (v:ar) (us:List ar) (Q:VK),a6 X ah σ H s->aX x v->aO xs us->r x xs H Q->
  wpAny (model X.prog X.w) X.A (call (.builtin id) (v::us)) (EP X ah σ Q) X.xe s
theorem aO.one {x:V}{us:List ar}(h:aO [x] us):∃u,us = [u]/\aX x u:=by
 cases h with
 |cons r t=>
  cases t
  exact⟨_,rfl,r⟩
theorem aO.two {x y:V}{us:List ar}(h:aO [x,y] us):∃u v,us = [u,v]/\aX x u/\aX y v:=by
 cases h with
 |cons r t=>
  cases t with
  |cons q t=>
   cases t
   exact⟨_,_,rfl,r,q⟩
theorem aO.eraseIdx:∀{xs:List V}{us:List ar} (i:Nat),aO xs us->aO (xs.eraseIdx i) (us.eraseIdx i)
 |_,_,_,.nil=>.nil
 |_,_,0,.cons _ t=>t
 |_,_,i+1,.cons r t=>.cons r (aO.eraseIdx i t)
theorem wE {α:Type}:∀(l:List α) (i:Nat),(l.eraseIdx i).length<=l.length
 |[],_=>aH9 _
 |_::_,0=>Nat.le_succ _
 |_::r,i+1=>Nat.succ_le_succ (wE r i)
section
variable {X:Cx}{ah:List (ax×Obj)}{σ:St}{H:Hp}{s:aw}{l b:ax}{xs ys zs:List V}
theorem a6.lset {its its':List ar}{n:Nat}{f:Array ar->Array ar}{t':Nat}(I:a6 X ah σ H s)(hH:H l=some (.lst xs))(e:s.heap.get? l=some { cls:=.type "list",data:=.seq its.toArray n })(hf:f its.toArray=its'.toArray)(hv:aO ys its')(hz:ys.length<=sizeLine) :
  a6 X ah σ (upd H l (.lst ys)) { s with heap:=s.heap.update l (Obj.mapSeq f),toks:=t' }:=by
 have q:=PySem.IsL.update e f;rw[hf]at q;refine I.write (x:=l) (e:=l) (by rw[hH];exact trivial) (.inl rfl) (λb' u hb hu=>(aN7 s.heap (Obj.mapSeq f) (Ne.symm hb)).trans hu) ⟨_,q⟩ ?_
 exact⟨hz,its',_,hv,q⟩
theorem a6.lstM (I:a6 X ah σ H s)(hH:H l=some (.lst xs)):xs.length<=sizeLine/\∃(its:List ar) (n:Nat),aO xs its/\xs.length=its.length/\s.heap.get? l=some { cls:=.type "list",data:=.seq its.toArray n }:=by
 obtain⟨z,its,n,r,e⟩:=I.hok l _ hH
 exact⟨z,its,n,r,r.length,e⟩
end
section
variable {X:Cx}
noncomputable def wF:V->List V->Hp->VK->Prop:=λx vs H Q=>∃l xs y,x = .ref l/\vs = [y]/\H l=some (.lst xs)/\xs.length<sizeLine/\Q .non (upd H l (.lst (xs++[y])))
theorem rM:rL X "list.append" wF:=by
 intro ah s σ H x vs v us Q I rx rv h
 obtain⟨l,xs,y,rfl,rfl,hH,hz,q⟩:=h
 cases rx
 obtain⟨u,rfl,ru⟩:=rv.one
 obtain⟨z,its,n,r,hl,e⟩:=I.lstM hH
 refine call_meets F.slot_list_append ⟨_,e,rfl⟩ F.entry_list_append (F.args_list_append_2 _ _) (PySem.list_append l its.toArray n u (by rw[aH7];omega)) ⟨e,?_⟩;refine⟨.non,_,I.lset (its':=its++[u]) hH e (by simp) (r.append (.cons ru .nil)) ?_,rfl,q⟩;rw[aJ3,List.length_singleton];omega
noncomputable def wG:V->List V->Hp->VK->Prop:=λx vs H Q=>∃l xs i k y,x = .ref l/\vs = [.int i]/\H l=some (.lst xs)/\-(2^63)<=i/\i<2^63/\seqIndex? i xs.length=some k/\xs[k]? = some y/\Q y (upd H l (.lst (xs.eraseIdx k)))
theorem Z7:rL X "list.pop" wG:=by
 intro ah s σ H x vs v us Q I rx rv h
 obtain⟨l,xs,i,k,y,rfl,rfl,hH,h1,h2,hk,hy,q⟩:=h
 cases rx
 obtain⟨u,rfl,ru⟩:=rv.one
 obtain⟨t,rfl⟩:=ru
 obtain⟨z,its,n,r,hl,e⟩:=I.lstM hH
 obtain⟨w,hw,rw'⟩:=r.get hy
 refine call_meets F.slot_list_pop ⟨_,e,rfl⟩ F.entry_list_pop (F.args_list_pop_2 _ _)
  (MeetsSeq.list_pop_at l its.toArray n i t k w (fitsIndex_both h1 h2) (by rw[aH7,<- hl];exact hk) (by rw[<- Array.getElem?_toList];exact hw) (by rw[aH7];omega)) ⟨e,?_⟩
 refine⟨y,_,I.lset (its':=its.eraseIdx k) hH e ?_ (r.eraseIdx k) ?_,rw',q⟩
 ·show its.toArray.eraseIdxIfInBounds k=(its.eraseIdx k).toArray
  rw[List.eraseIdxIfInBounds_toArray]
 ·have:=wE xs k
  omega
end
section
variable {κ:Type}[DecidableEq κ]
noncomputable def gL (kvs:List (κ×V))(k:κ):Option V:=(kvs.find? λkv=>decide (kv.1=k)).map (·.2)
noncomputable def eM (kvs:List (κ×V))(k:κ)(v:V):List (κ×V):=
 if (kvs.any λkv=>decide (kv.1=k))=true then kvs.map (λkv=>if kv.1=k then (kv.1,v) else kv) else kvs++[(k,v)]
theorem wH {p:κ×V}{r:List (κ×V)}{k:κ}(e:p.1=k):gL (p::r) k=some p.2:=by simp[gL,List.find?_cons,e]
theorem wI {p:κ×V}{r:List (κ×V)}{k:κ}(e:¬p.1=k):gL (p::r) k=gL r k:=by simp[gL,List.find?_cons,e]
theorem wJ (k:κ):∀kvs:List (κ×V),(kvs.any λkv=>decide (kv.1=k))=(gL kvs k).isSome
 |[]=>rfl
 |p::r=>by
  rw[aP7];by_cases e:p.1=k
  ·simp only[wH e,aH3 e,Bool.true_or,Option.isSome_some]
  ·rw[wI e,aH0 e,Bool.false_or];exact wJ k r
theorem wK (kvs:List (κ×V))(k:κ)(v:V):(eM kvs k v).length<=kvs.length+1:=by
 unfold eM;split
 ·rw[aH4];omega
 ·rw[aJ3,aJ1,aQ6];omega
theorem kX.isSome_eq {o:Option V}{u:Option ar}(r:kX o u):o.isSome=u.isSome:=by
 cases o with
 |none=>cases u with
  |none=>rfl
  |some _=>exact (show False from r).elim
 |some _=>cases u with
  |none=>exact (show False from r).elim
  |some _=>rfl
theorem KV.any {kvs:List (κ×V)}{vs:List (κ×ar)}(r:KV kvs vs)(k:κ):(kvs.any λkv=>decide (kv.1=k))=vs.any λkv=>decide (kv.1=k):=by
 unfold KV at r
 induction r with
 |nil=>rfl
 |cons h t ih=>rw[aP7,aP7,ih,h.1]
theorem KV.repl {kvs:List (κ×V)}{vs:List (κ×ar)}(r:KV kvs vs)(k:κ){y:V}{u:ar}(ry:aX y u) :
  KV (kvs.map λkv=>if kv.1=k then (kv.1,y) else kv) (vs.map λkv=>if kv.1=k then (kv.1,u) else kv):=by
 unfold KV at r ⊢
 induction r with
 |nil=>exact .nil
 |@cons p q ps qs h t ih=>
  rw[aK5,aK5];refine .cons ?_ ih
  obtain⟨h1,h2⟩:=h
  by_cases e:p.1=k
  ·rw[if_pos e,if_pos (h1.symm.trans e)];exact⟨h1,ry⟩
  ·rw[if_neg e,if_neg (λz=>e (h1.trans z))];exact⟨h1,h2⟩
theorem KV.put {kvs:List (κ×V)}{vs:List (κ×ar)}(r:KV kvs vs)(k:κ){y:V}{u:ar}(ry:aX y u):KV (eM kvs k y) (stored vs k u):=by
 unfold eM stored;rw[r.any k];by_cases e:(vs.any λkv=>decide (kv.1=k))=true
 ·rw[if_pos e,if_pos e];exact r.repl k ry
 ·rw[if_neg e,if_neg e];exact Paired.snoc r ⟨rfl,ry⟩
theorem KV.length {kvs:List (κ×V)}{vs:List (κ×ar)}(r:KV kvs vs):kvs.length=vs.length:=Paired.length r
end
theorem wL {P:ay}{w:bf}{k:aN}{u:ar}(r:aX (kV k) u):(eU P w).is k u=true:=by
 cases k with
 |inl i=>obtain⟨t,e⟩:=(show ∃t,u=Value.int i t from r);subst e;exact P4 P w i t
 |inr x=>obtain⟨t,e⟩:=(show ∃t,u=Value.str x t from r);subst e;exact P5 P w x t
theorem wM {P:ay}{w:bf}:∀{ks:List aN}{us:List ar},aO (ks.map kV) us->ItemsAre (eU P w) ks us
 |[],_,r=>by rw[List.map_nil]at r;cases r;exact .nil
 |k::ks,_,r=>by
  rw[aK5]at r;cases r with
  |cons h t=>exact .cons (wL h) (wM t)
noncomputable abbrev KT (H:Hp):List (List aN×V)->List (List aN×ax×ar)->Prop:=Paired λp q=>p.1=q.1/\H q.2.1=some (.tup (p.1.map kV))/\aX p.2 q.2.2
theorem KT.val {H:Hp}{kvs:List (List aN×V)}{xs:List (List aN×ax×ar)}(r:KT H kvs xs)(k:List aN):kX (gL kvs k) ((atKey xs k).map (·.2)):=by
 induction r with
 |nil=>exact True.intro
 |@cons p q ps qs h t ih=>
  obtain⟨h1,_,h2⟩:=h
  by_cases e:p.1=k
  ·have e':q.1=k:=h1.symm.trans e
   have b:atKey (q::qs) k=some q.2:=by simp[atKey,List.find?_cons,e']
   rw[wH e,b];exact h2
  ·have e':¬q.1=k:=λz=>e (h1.trans z)
   have b:atKey (q::qs) k=atKey qs k:=by simp[atKey,List.find?_cons,e']
   rw[wI e,b];exact ih
theorem KT.repl {H:Hp}{kvs:List (List aN×V)}{xs:List (List aN×ax×ar)}(r:KT H kvs xs)(k:List aN){y:V}{u:ar}(ry:aX y u) :
  KT H (kvs.map λkv=>if kv.1=k then (kv.1,y) else kv) (xs.map (putAt k u)):=by
 induction r with
 |nil=>exact .nil
 |@cons p q ps qs h t ih=>
  rw[aK5,aK5];refine .cons ?_ ih
  obtain⟨h1,h2,h3⟩:=h
  unfold putAt;by_cases e:p.1=k
  ·rw[if_pos e,if_pos (h1.symm.trans e)];exact⟨h1,h2,ry⟩
  ·rw[if_neg e,if_neg (λz=>e (h1.trans z))];exact⟨h1,h2,h3⟩
theorem KT.put {H:Hp}{kvs:List (List aN×V)}{xs:List (List aN×ax×ar)}(r:KT H kvs xs)(k:List aN){b:ax}{y:V}{u:ar}(hb:H b=some (.tup (k.map kV)))(ry:aX y u) :
  KT H (eM kvs k y) (storedH xs k b u):=by
 have e:(kvs.any λkv=>decide (kv.1=k))=(atKey xs k).isSome:=by
  rw[wJ,(r.val k).isSome_eq,Option.isSome_map]
 unfold eM storedH;rw[e];by_cases q:(atKey xs k).isSome=true
 ·rw[if_pos q,if_pos q];exact r.repl k ry
 ·rw[if_neg q,if_neg q];exact Paired.snoc r ⟨rfl,hb,ry⟩
theorem KT.keeps {H H':Hp}{kvs:List (List aN×V)}{xs:List (List aN×ax×ar)}(r:KT H kvs xs)(ht:∀b ys,H b=some (.tup ys)->H' b=some (.tup ys)):KT H' kvs xs:=
 Paired.mapP r λ_ _ z=>⟨z.1,ht _ _ z.2.1,z.2.2⟩
section
variable {P:ay}{w:bf}{H:Hp}{h:Heap}{a:ax}
theorem wN {u:HO}(ok:bM P w H h)(e:Rd H a u):bO P w H h a u:=e.ok ok
theorem wO {kvs:List (aN×V)}(ok:bM P w H h)(e:Rd H a (.dK kvs)):kvs.length<=sizeLine/\(a==sysModules)=false/\∃vs,KV kvs vs/\h.DictOf (eU P w) a vs:=
 show bO P w H h a (.dK kvs) from wN ok e
theorem Z8 {kvs:List (aN×V)}(ok:bM P w H h)(e:H a=some (.dK kvs)):kvs.length<=sizeLine/\(a==sysModules)=false/\∃vs,KV kvs vs/\h.DictOf (eU P w) a vs:=wO ok (.inl e)
theorem wP {ks:List aN}(ok:bM P w H h)(e:H a=some (.tup (ks.map kV))):(tupleKind (eU P w)).is h ks a:=by
 obtain⟨_,its,r,⟨o,h1,h2,n,h3⟩,_⟩:=(show bO P w H h a (.tup (ks.map kV)) from ok a _ e)
 exact⟨o,its.toArray,n,h1,h2,h3,by simpa using wM r⟩
theorem Z9 {kvs:List (List aN×V)}(ok:bM P w H h)(e:Rd H a (.dT kvs)):kvs.length<=sizeLine/\(a==sysModules)=false/\
  ∃xs,KT H kvs xs/\h.DictOfH (tupleKind (eU P w)) a xs:=by
 obtain⟨z,y,xs,r,o,es,ep,h1,h2,h3,h4,h5⟩:=(show bO P w H h a (.dT kvs) from wN ok e)
 refine⟨z,y,xs,r,o,es,ep,h1,h2,h3,h4,λx hx=>?_,h5⟩;have all:∀{l:List (List aN×V)}{m:List (List aN×ax×ar)},KT H l m->∀x∈m,(tupleKind (eU P w)).is h x.1 x.2.1:=by
  intro l m q
  induction q with
  |nil=>intro x hx;exact nomatch hx
  |@cons p q ps qs hq t ih=>
   intro x hx;rcases aI1.mp hx with e|hx
   ·subst e
    exact wP ok (by rw[<- hq.1];exact hq.2.1)
   ·exact ih x hx
 exact all r x hx
theorem aa0 {kvs:List (List aN×V)}(ok:bM P w H h)(e:H a=some (.dT kvs)):kvs.length<=sizeLine/\(a==sysModules)=false/\
  ∃xs,KT H kvs xs/\h.DictOfH (tupleKind (eU P w)) a xs:=Z9 ok (.inl e)
end
noncomputable def mG (H:Hp)(a:ax)(y v:V)(H':Hp):Prop:=
 (∃kvs k,H a=some (.dK kvs)/\y=kV k/\kvs.length<sizeLine/\H'=upd H a (.dK (eM kvs k v))) ∨
 ∃kvs k b,H a=some (.dT kvs)/\y = .ref b/\H b=some (.tup (k.map kV))/\kvs.length<sizeLine/\H'=upd H a (.dT (eM kvs k v))
theorem mG.t {H:Hp}{a b:ax}{kvs:List (List aN×V)}{k:List aN}{v:V}(e:H a=some (.dT kvs))(eb:H b=some (.tup (k.map kV)))(hl:kvs.length<sizeLine) :
  mG H a (.ref b) v (upd H a (.dT (eM kvs k v))):=.inr ⟨kvs,k,b,e,rfl,eb,hl,rfl⟩
section
variable {X:Cx}{ah:List (ax×Obj)}{σ:St}{H:Hp}{s:aw}{a:ax}{y v:V}{u r:ar}{o:Option V}{A:ba}{E:ar→aw→Prop}
theorem a6.big (I:a6 X ah σ H s):sysModules<s.heap.objs.size:=by
 have h:mainGlobals<s.heap.objs.size:=(I.mod.glob.keeps I.bk).lt;exact Nat.lt_trans (by decide) h
theorem wQ {h':Heap}{t':Nat}{ob:HO}(I:a6 X ah σ H s)(mu:lZ (H a))(hs:Heap.SameBut a s.heap h')(he:∃q,h'.get? a=some q)(new:bO X.prog X.w (upd H a ob) h' a ob) :
  a6 X ah σ (upd H a ob) { s with heap:=h',toks:=t' }:=
 I.write (x:=a) (e:=a) mu (.inl rfl) (λb q hb z=>(hs.2 b hb).trans z) he new
theorem aa1 {P:ay}{w:bf}{H':Hp}{h':Heap}{kvs:List (aN×V)}{vs:List (aN×ar)}(z:kvs.length<=sizeLine)(hd:(a==sysModules)=false)(rel:KV kvs vs)(dd:h'.DictOf (eU P w) a vs) :
  bO P w H' h' a (.dK kvs):=⟨z,hd,vs,rel,dd⟩
theorem aa2 {H':Hp}{Q:Unit->aw->Prop}(hu:A.units+1<cLine)(I:a6 X ah σ H s)(g:mG H a y v H')(ry:aX y u)(rv:aX v r)(h:∀s',a6 X ah σ H' s'->Q () s') :
  wpAny (model X.prog X.w) A (setItem (.ref a) u r) Q E s:=by
 rcases g with⟨kvs,k,e,ey,l,eH⟩|⟨kvs,k,b,e,ey,eb,l,eH⟩
 ·subst ey eH
  obtain⟨z,hd,vs,rel,dd⟩:=Z8 I.hok e
  have hz:vs.length<=sizeLine:=by rw[<- rel.length];exact z
  have hl:(eM kvs k v).length<=sizeLine:=by have:=wK kvs k v;omega
  refine wpAny_setItem_pairs (hsz:=hz) (wL ry) dd λh' dd' hs=>h _ ?_
  have he:∃q,h'.get? a=some q:=let ⟨q,_,_,hq,_⟩:=dd';⟨q,hq⟩
  exact wQ I (by rw[e];exact True.intro) hs he (aa1 hl hd (rel.put k rv) dd')
 ·subst ey eH
  cases (show u=Value.ref b from ry)
  obtain⟨z,hd,xs,rel,dd⟩:=aa0 I.hok e
  have hz:xs.length<=sizeLine:=by rw[<- Paired.length rel];exact z
  have hl:(eM kvs k v).length<=sizeLine:=by have:=wK kvs k v;omega
  refine wpAny_setItem_heap (hsz:=hz) (tupleKind_room_in1 hu) (wP I.hok eb) dd λh' dd' hs=>h _ ?_
  obtain⟨q,es,ep,hq,h2,h3,h4,_,h5⟩:=dd'
  refine wQ I (by rw[e];exact True.intro) hs ⟨q,hq⟩ ⟨hl,hd,_,(rel.put k eb rv).keeps λc ys ec=>?_,q,es,ep,hq,h2,h3,h4,h5⟩;rw[aZ (P6 ec e (λz=>nomatch z))];exact ec
end
section
variable {X:Cx}{ah:List (ax×Obj)}{σ:St}{H:Hp}{s:aw}{a:ax}{kvs:List (aN×V)}{k:aN}{u:ar}{A:ba}{E:ar→aw→Prop}
theorem aa3 {Q:ar->aw->Prop}(I:a6 X ah σ H s)(e:Rd H a (.dK kvs))(h:∀t s',a6 X ah σ H s'->Q (.int kvs.length t) s'):wpAny (model X.prog X.w) A (call (.builtin "len") [.ref a]) Q E s:=by
 obtain⟨z,hd,vs,rel,dd⟩:=wO I.hok e
 refine call_len_dict hd dd (by rw[<- rel.length];rw[aS2]at z;omega) ?_;rw[<- rel.length];exact h _ _ (I.tok _)
end
noncomputable def wR (td ty tv:TE):TS:=λD σ H=>tv σ H λv H1=>td σ H1 λx H2=>ty σ H2 λy H3=>∃a H4,x = .ref a/\mG H3 a y v H4/\D.nx σ H4
section
variable {X:Cx}{o i e value:Expr}{pos pos' tpos:Pos}{td ty tv:TE}
theorem aa4 (hu:X.A.units+1<cLine)(ho:PE X o td)(hi:PE X i ty)(hv:PE X value tv)(hs:swapsWith value (some (.Subscript o i pos')) pos.line X.env=pure false) :
  PS X (.Assign [.Subscript o i pos'] value pos) (wR td ty tv):=by
 intro ah s σ H D I h;refine wpAny_Assign_Subscript (aR (hv ah s σ H _ I h) λr s1 ⟨v,H1,I1,rv,q1⟩=>aR (ho ah s1 σ H1 _ I1 q1) λu s2 ⟨x,H2,I2,rx,q2⟩=>aR (hi ah s2 σ H2 _ I2 q2) λiv s3 ⟨y,H3,I3,ry,a,H4,ex,g,q3⟩=>?_) hs;subst ex;obtain rfl:u=Value.ref a:=rx;exact aa2 hu I3 g ry rv λs4 I4=>⟨σ,H4,I4,q3⟩
end
theorem aa5 {P:ay}{w:bf}{H:Hp}(h:Heap)(hb:sysModules<h.objs.size):bO P w H (h.push { cls:=.type "dict",data:=.dict #[] }) h.objs.size (.dT []):=
 ⟨aK9 _,beq_eq_false_iff_ne.mpr (Ne.symm (aL1 hb)),[],.nil,_,#[],0,aJ0 _ rfl,⟨rfl,rfl,rfl⟩,rfl,rfl,List.nodup_nil⟩
noncomputable def wS:TE:=λ_ H Q=>∀p,H p=none->Q (.ref p) (upd H p (.dT []))
section
variable {X:Cx}{pos:Pos}
theorem aa6:PE X (.Dict [] [] pos) wS:=λah s σ H Q I h=>
 wpAny_Dict_empty ⟨.ref s.heap.objs.size,_,I.laid (a:=s.heap.objs.size) (o:=.dT []) (t':=s.toks) (λ_ _ q=>aH1 _ q) (aH9 _) (aa5 s.heap I.big),rfl,h _ (I.hok.fresh (aH9 _))⟩
end
end L2
namespace Att
open PySem PySem.W PySem.Calls PyProof.Rows
theorem aa7 {P:Params}{h:Heap}:∀(ns:ag) (vs:List ar),WellAll P h vs (ns.map WData.int)->IntsAre vs ns:=by
 intro ns
 induction ns with
 |nil=>
  intro vs w;rw[List.map_nil]at w;cases w;exact .nil
 |cons n ns ih=>
  intro vs w;rw[aK5]at w;cases w with
  |cons a b=>
   cases a;exact .cons _ _ (ih _ b)
theorem wT {l:OpenLaw}{n:Nat}(hn:l.most=some n){P:Params}{h:Heap}{args:List WData}{vals:List ar}(hpre:l.row.toRowW.claim.pre args=true)(hwl:WellAll P h vals args) :
  ∃a vs ns,vals = [Value.ref a]/\args = [WData.list (ns.map WData.int)]/\h.get? a=some { cls:=.type "list",data:=.seq vs.toArray }/\IntsAre vs ns/\ns.length<=n:=by
 have hsh:WShape.hasAll [] args [.list .int]=true:=(pre_splitW hpre).1;have hc:l.pre.holds [] { args:=args }=true:=(pre_splitW hpre).2
 obtain⟨d,r,rfl,h1,h2⟩:=hasAllW_cons hsh
 obtain rfl:=hasAllW_nil h2
 obtain⟨xs,rfl,h3⟩:=hasW_list h1
 obtain⟨ns,rfl⟩:=items_int h3
 have ak:ns.length<=n:=by
  unfold OpenLaw.pre at hc;have h4:(WTm.not (.lt (.lit (.int (n:Int))) (.len (.arg 0)))).holds [] { args:=[.list (ns.map .int)] }=true:=by
   have h4:=(holds_andW hc).1;rw[hn]at h4;exact h4
  have h5:=condW_of h4 (w_not (w_lt w_lit (w_len_list (w_arg rfl))));rw[aH4]at h5;refine Nat.le_of_not_lt λq=>?_
  have q':(n:Int)<((ns.length:Nat):Int):=by omega
  first
   |(rw[aH3 q']at h5;exact absurd h5 (by decide))
   |(simp at h5;omega)
 cases hwl with
 |cons w1 w2=>
  cases w2;cases w1 with
  |list ho hall=>exact⟨_,_,ns,rfl,rfl,ho,aa7 ns _ hall,ak⟩
theorem wU (l:OpenLaw)(args:List WData):l.row.toRowW.claim.post args (.bool true) args=true:=
 postW_of (r:=l.row.toRowW) (X:=(true==true))
  (show WShape.has [] (.bool true) .bool=true by first|rfl|decide|simp[WShape.has,WShape.arms,WShape.armsAll])
  (show (WTm.eq .res (.lit (.bool true))).value [] { args:=args,res:=some (.bool true),after:=args }=some (.bool (true==true)) from w_eq_bool (w_res rfl) w_lit) rfl
theorem aG5 {l:OpenLaw}{n:Nat}{q:ay}{loose:List Str}{XP:(Str->Option ar)->Heap->Prop}{YP:bf->Heap->Prop}{d:DefRec}{x:Str}(hn:l.most=some n)(hdf:d.params.defaults = [])(hbind:∀pm cd doc v:ar,bindArgs (docDef d.name d.params d.body d.scope pm cd doc) ⟨[v],[]⟩=pure [(x,v)])(hx:d.scope.names.lookup x=some .local∨d.scope.names.lookup x=some .cell)(hk:d.scope.kind = .function)(hco:d.scope.isCoroutine=false)(hgen:d.scope.isGenerator=false)(body:∀(w:bf) (s₀ s₁ s:aw) (mg mb:Str->Option ar) (fa:ax) (o:Obj) (pm cd doc:ar) (a:ax) (vs:List ar) (ns:ag),
   Ground q loose [] XP w s₀ mg mb s₁.heap->YP w s₁.heap->
   s₁.heap.get? fa=some o->o.data = .func (docDef d.name d.params d.body d.scope pm cd doc)->s₁.heap.CodeRec cd d.name->mg d.name=some (.ref fa)->
   s₁.heap.get? a=some { cls:=.type "list",data:=.seq vs.toArray }->IntsAre vs ns->ns.length<=n->
   s.gens = #[]->s.os=s₁.os->
   Fr s₁.heap s₁.heap.objs.size s.heap (bindL (envOfC d.name d.scope s₁.heap.objs.size fa cd).kindOf [(x,.ref a)] λ_=>none)->
   Cl s₁.heap.objs.size (cellsFrom (s₁.heap.objs.size+1) d.scope.names []) s.heap (bindC (envOfC d.name d.scope s₁.heap.objs.size fa cd).kindOf [(x,.ref a)] λ_=>none)->
   wpAny (model l.prog w) (callerA.deeper (envOfC d.name d.scope s₁.heap.objs.size fa cd)) (execs d.body (envOfC d.name d.scope s₁.heap.objs.size fa cd))
    (λf s'=>f = .ret (.bool true)/\OldK s₁.heap s'.heap/\s'.os=s₁.os/\AllBare s'.gens) (λ_ _=>False) s) :
  WalkO q loose XP YP l.row.toRowW d [] (λf vs=>PySem.call f vs):=by
 intro w s₀ s₁ mg mb G Y fa o pm cd doc dV kV ho hd hcd hD hmg hg args vals as hpre hlay hrd hwl hlo;obtain rfl:dV = .none:=Dflts.none hD hdf;obtain rfl:kV = .none:=Dflts.noKw hD
 obtain⟨a,vs,ns,rfl,rfl,hobj,hints,ak⟩:=wT hn hpre hwl
 refine enter_call ?_;refine call_cells_ret (o:=o) (by rw[depth_caller];decide) ho (fd_plain hd) G.T.nolimit hcd (hbind pm cd doc (.ref a)) (λy hy=>?_) (λh₁ tk F X=>?_) hco hgen hk
 ·obtain rfl:y=(x,Value.ref a):=aI2.mp hy
  rcases hx with e|e
  ·exact .inl e
  ·exact .inr ⟨e,cellsFrom_some _ _ _ (.inl e)⟩
 ·refine aM1 (body w s₀ s₁ { s₁ with heap:=h₁,toks:=tk } mg mb fa o pm cd doc a vs ns G Y ho (fd_plain hd) hcd hmg hobj hints ak hg rfl F X) (λf s' hq=>?_) (λ_ _ hq=>hq)
  obtain⟨rfl,h2,h3,h4⟩:=hq
  exact⟨.inl ⟨.bool true,.bool true,[],rfl,λ_=>rfl,.bool true,wU l _,λ_=>⟨List.Pairwise.nil,λ_ hm=>(nomatch hm)⟩⟩,h2,h3,h4⟩
theorem aa8 {l:OpenLaw}{n:Nat}{q:ay}{loose:List Str}{XP:(Str->Option ar)->Heap->Prop}{YP:bf->Heap->Prop}{d:DefRec}(hn:l.most=some n)(hdf:d.params.defaults = [])(call:∀(w:bf) (s₀ s₁:aw) (mg mb:Str->Option ar) (fa:ax) (o:Obj) (pm cd doc:ar) (a:ax) (vs:List ar) (ns:ag),
   Ground q loose [] XP w s₀ mg mb s₁.heap->YP w s₁.heap->
   s₁.heap.get? fa=some o->o.data = .func (docDef d.name d.params d.body d.scope pm cd doc)->s₁.heap.CodeRec cd d.name->mg d.name=some (.ref fa)->
   s₁.heap.get? a=some { cls:=.type "list",data:=.seq vs.toArray }->IntsAre vs ns->ns.length<=n->s₁.gens = #[]->
   codeAny (model l.prog w) callerA (.call (.ref fa) ⟨[.ref a],[]⟩) (λr s'=>r = .ok (.ret (.bool true))/\OldK s₁.heap s'.heap/\s'.os=s₁.os/\AllBare s'.gens) s₁) :
  WalkO q loose XP YP l.row.toRowW d [] (λf vs=>PySem.call f vs):=by
 intro w s₀ s₁ mg mb G Y fa o pm cd doc dV kV ho hd hcd hD hmg hg args vals as hpre hlay hrd hwl hlo;obtain rfl:dV = .none:=Dflts.none hD hdf;obtain rfl:kV = .none:=Dflts.noKw hD
 obtain⟨a,vs,ns,rfl,rfl,hobj,hints,ak⟩:=wT hn hpre hwl
 refine enter_call (codeAny_mono (call w s₀ s₁ mg mb fa o pm cd doc a vs ns G Y ho (fd_plain hd) hcd hmg hobj hints ak hg) λr s' hq=>?_)
 obtain⟨rfl,h2,h3,h4⟩:=hq
 exact⟨.inl ⟨.bool true,.bool true,[],rfl,λ_=>rfl,.bool true,wU l _,λ_=>⟨List.Pairwise.nil,λ_ hm=>(nomatch hm)⟩⟩,h2,h3,h4⟩
end Att
namespace L2
open PySem PySem.Spec PyProof.Rows
theorem wV:∀{vs:List ar}{ns:ag},IntsAre vs ns->aO (ns.map V.int) vs
 |_,_,.nil=>.nil
 |_,_,.cons n t h=>.cons ⟨t,rfl⟩ (wV h)
noncomputable def oF (H:Hp):Prop:=∀b,H b=none∨∃o xs,H b=some (.frz o (.lst xs))
theorem aa9 {P:ay}{w:bf}{K:ae}{mg mb:Str->Option ar}{CX:fF}{k:Nat}{fa a:ax}{fd:FuncData}{x:Str}{sp:Sp}{s₁:aw}{vs:List ar}{ns:ag}(KX:K.In s₁.heap)(hns:s₁.heap.Ns mainGlobals mg)(hb:s₁.heap.Ns builtinsNs mb)(hbb:∀x:Str,x≠"__name__"->mb x=bootBuiltins x)(hlim:s₁.heap.NoLimit)(hg:s₁.gens = #[])(ha:s₁.heap.get? a=some { cls:=.type "list",data:=.seq vs.toArray })(hi:IntsAre vs ns)(hl:ns.length<=sizeLine)(hr:bS k callerA)(F:∀base:Heap,K.In base->base.Ns mainGlobals mg->cZ P w K mg base CX k fa fd [x] sp)(hbind:∀(s:aw) (u:ar),BindsTo s fd ⟨[u],[]⟩ [(x,u)])(hsp:∀H:Hp,oF H->aS K H a (ns.map V.int)->sp [.ref a] H (λv _=>v = .bl true) λ_ _ _=>False)(hCX:∀H e s',CX [] H s₁ (λ_ _ _=>False) e s'->False) :
  codeAny (model P w) callerA (.call (.ref fa) ⟨[.ref a],[]⟩) (λr s'=>r = .ok (.ret (.bool true))/\OldK s₁.heap s'.heap/\s'.os=s₁.os/\AllBare s'.gens) s₁:=by
 have rv:=wV hi;have lenV:=hi.length;have core:∀H:Hp,oF H->aS K H a (ns.map V.int)->bM P w H s₁.heap->(∀b,H b≠none->b=a)->(H a≠none->K.lookup a=none)->
   codeAny (model P w) callerA (.call (.ref fa) ⟨[.ref a],[]⟩) (λr s'=>r = .ok (.ret (.bool true))/\OldK s₁.heap s'.heap/\s'.os=s₁.os/\AllBare s'.gens) s₁:=by
  intro H hO hS hok hA hK;have base_of:∀{b:ax}{o:Obj},s₁.heap.get? b=some o->H b=none->(i5 s₁.heap H).get? b=some o:=λe n=>P8 e n
  have noA:∀{b:ax}{o:Obj}{es:Array DictEntry}{ep:Nat},s₁.heap.get? b=some o->o.data = .dict es ep->H b=none:=λ{b o es ep} e d=>by
   cases q:H b with
   |none=>rfl
   |some u=>
    have e':b=a:=hA b (by rw[q];simp);subst e';rw[ha]at e;cases e;have d':Data.seq vs.toArray _=Data.dict es ep:=d;cases d'
  have nsK:∀{b:ax}{m:Str->Option ar},s₁.heap.Ns b m->(i5 s₁.heap H).Ns b m:=λ{b m} ⟨o,es,ep,e,d,r⟩=>⟨o,es,ep,base_of e (noA e d),d,r⟩
  have hKb:K.In (i5 s₁.heap H):=λb o e=>base_of (KX b o e) (by
   cases q:H b with
   |none=>rfl
   |some u=>
    have e':b=a:=hA b (by rw[q];simp);subst e'
    rw[hK (by rw[q];simp)]at e;cases e)
  have hM:Mod K mg (i5 s₁.heap H):=⟨hKb,nsK hns,⟨mb,nsK hb,hbb⟩,let ⟨mc,h1,h2⟩:=hlim;⟨mc,nsK h1,h2⟩⟩;have e0:oA P w K mg (i5 s₁.heap H) callerA [] s₁ H:=⟨rfl,hM,λb o e=>P9 e,Nat.le_of_eq (P7 _ _),trivial,λb hb=>absurd (show b∈([]:List ax) from hb) (by simp),hok,.of_eq hg⟩;refine codeAny_mono ((F _ hKb (nsK hns)).run callerA [] s₁ H ⟨[.ref a],[]⟩ [.ref a] [.ref a] _ _ hr e0 (hbind s₁ (.ref a)) (.cons rfl .nil) (hsp H hO hS)) λr s' h=>?_
  cases r with
  |error e=>exact (hCX H e s' h).elim
  |ok fl=>
   cases fl with
   |next=>exact False.elim h
   |brk=>exact False.elim h
   |cont=>exact False.elim h
   |ret u=>
    obtain⟨v,H',os,bare,un,hok',r',q⟩:=h
    have q':v = .bl true:=q;subst q';obtain rfl:u=Value.bool true:=r';refine⟨rfl,OldK.of_keep λb o e=>?_,os,bare⟩;cases q:H b with
    |none=>exact un.keep b o e q (by intro z;exact absurd (show b∈([]:List ax) from z) (by simp)) (by simp)
    |some u=>
     rcases hO b with z|⟨ob,xs,z⟩
     ·rw[q]at z;cases z
     ·have z2:=un.frzs b ob _ z
      obtain⟨e1,_⟩:=hok b _ z
      obtain⟨e2,_⟩:=hok' b _ z2
      rw[e]at e1;cases e1;exact e2
 cases hk:K.lookup a with
 |some o=>
  have e:=KX a o hk;rw[ha]at e;cases e;refine core (λ_=>none) (λ_=>.inl rfl) (.inr ⟨_,vs.toArray,_,hk,rfl,rfl,rfl,by rw[aH7,lenV];exact hl,by simpa using rv⟩) (λb u z=>by have z':(none:Option HO)=some u:=z;cases z') (λb z=>absurd rfl z) λz=>absurd rfl z
 |none=>
  refine core (λb=>if b=a then some (.frz { cls:=.type "list",data:=.seq vs.toArray } (.lst (ns.map V.int))) else none) (λb=>?_) (.inl (.inr ⟨{ cls:=.type "list",data:=.seq vs.toArray },if_pos rfl⟩)) (λb u z=>?_) (λb z=>?_) λ_=>hk
  ·by_cases hb:b=a
   ·exact .inr ⟨_,_,if_pos hb⟩
   ·exact .inl (if_neg hb)
  ·by_cases hb:b=a
   ·have z':=(if_pos hb).symm.trans z
    cases z';subst hb
    exact⟨ha,by rw[aH4];exact hl,vs,_,rv,ha⟩
   ·have z':=(if_neg hb).symm.trans z
    cases z'
  ·by_cases hb:b=a
   ·exact hb
   ·exact absurd (if_neg hb) z
theorem ab0 {l:PySem.W.OpenLaw}{n k:Nat}{q:ay}{loose:List Str}{XP:(Str->Option ar)->Heap->Prop}{YP:bf->Heap->Prop}{d:DefRec}{K:Params->ae}{CX:bf->fF}{sp:bf->Sp}{x:Str}(hn:l.most=some n)(hn2:n<=sizeLine)(hdf:d.params.defaults = [])(hr:bS k callerA)(hY:∀(w:bf) (h:Heap),YP w h->(K w.params).In h)(F:∀(w:bf) (mg:Str->Option ar) (fa:ax) (h:Heap),(K w.params).In h->h.Ns mainGlobals mg->mg d.name=some (.ref fa)->
   ∃fd:FuncData,(∀(s:aw) (u:ar),BindsTo s fd ⟨[u],[]⟩ [(x,u)])/\
    ∀base:Heap,(K w.params).In base->base.Ns mainGlobals mg->cZ l.prog w (K w.params) mg base (CX w) k fa fd [x] (sp w))(hsp:∀(w:bf) (H:Hp) (a:ax) (ns:ag),ns.length<=n->oF H->aS (K w.params) H a (ns.map V.int)->sp w [.ref a] H (λv _=>v = .bl true) λ_ _ _=>False)(hCX:∀(w:bf) (H:Hp) (s:aw) (e:ar) (s':aw),CX w [] H s (λ_ _ _=>False) e s'->False) :
  PySem.W.WalkO q loose XP YP l.row.toRowW d [] (λf vs=>PySem.call f vs):=by
 refine Att.aa8 hn hdf λw s₀ s₁ mg mb fa o pm cd doc a vs ns G Y ho hd hcd hmg hobj hints ak hg=>?_
 have KX:=hY w _ Y
 obtain⟨fd,hb,hF⟩:=F w mg fa _ KX G.T.g hmg
 exact aa9 KX G.T.g G.T.b G.T.builtins G.T.nolimit hg hobj hints (aK4 ak hn2) hr hF hb (λH hO hS=>hsp w H a ns ak hO hS) λH e s'=>hCX w H s₁ e s'
noncomputable def g9 (s:Stmt):Arguments:=match s with
 |.FunctionDef _ a _ _ _ _ _ _ _ _=>a
 |_=>{ posonlyargs:=[],args:=[],vararg:=none,kwonlyargs:=[],kw_defaults:=[],kwarg:=none,defaults:=[] }
noncomputable def cR (s:Stmt):List Stmt:=match s with
 |.FunctionDef _ _ b _ _ _ _ _ _ _=>b
 |_=>[]
noncomputable def aT (s:Stmt):Scope:=match s with
 |.FunctionDef _ _ _ _ _ _ sc _ _ _=>sc
 |_=>{ kind:=.function,names:=[],isGenerator:=false,isCoroutine:=false }
noncomputable abbrev eD:fF:=λ_ _ _ _ _ _=>False
noncomputable abbrev E0:XK:=λ_ _ _=>False
theorem ab1 {X:Cx}:jT eD X E0:=λ_ _ _ _ _ _ _ h=>h.elim
structure dW (K:ae)(x qual:Str)(st:Stmt)(f:ax)(fd:FuncData):Prop where
 ex:∃(oc:ar) (od:Option ax) (kV doc pm:ar) (an:Option ax) (cdv ct:ar) (osl:Array (Option ar)),
  fd=PySem.W.fnOf x qual (g9 st) (cR st) (aT st) .none kV doc pm an cdv ct/\K.lookup f=some ⟨oc,od,.func fd,osl⟩/\PySem.W.codeIn K cdv qual=true
 kp:PySem.W.keepIn K (.ref f)=true
section
variable {P:ay}{w:bf}{K:ae}{mg:Str→Option ar}{base:Heap}
theorem dW.ok {x qual:Str}{st:Stmt}{f:ax}{fd:FuncData}{N ps:List Str}{k:Nat}{sp:Sp}(F:dW K x qual st f fd)(S:FnScope N ps (aT st))(len:∀vs H Q E,sp vs H Q E->vs.length=ps.length)(hbody:∀(cdv:ar) (A:ba) (outer:List Env) (s:aw) (H:Hp) (vs:List V) (Q:VK) (E:XK),bS k (A.deeper (envOfC qual (aT st) s.heap.objs.size f cdv))->sp vs H Q E->
   ∃t,cY (c7 eD P w K mg base N qual (aT st) f cdv A outer s H E).nox (cR st) t/\t { nx:=λ_ H'=>Q .non H',rt:=Q } (cK N vs) H):cZ P w K mg base eD (k+1) f fd ps sp:=by
 obtain⟨oc,od,kV,doc,pm,an,cdv,ct,osl,rfl,lk,hcd⟩:=F.ex
 refine vT lk hcd S len λA outer s H vs Q E hr hsp=>?_
 obtain⟨t,h,q⟩:=hbody cdv A outer s H vs Q E hr hsp
 exact⟨t,h.nox,q⟩
theorem dW.binds {x qual:Str}{st:Stmt}{f:ax}{fd:FuncData}{ps:List Str}(F:dW K x qual st f fd)(h:∀(kV doc pm:ar) (an:Option ax) (cdv ct:ar) (us:List ar),us.length=ps.length->bindArgs (PySem.W.fnOf x qual (g9 st) (cR st) (aT st) .none kV doc pm an cdv ct) ⟨us,[]⟩=pure (ps.zip us)):iY K fd ps []:=by
 obtain⟨oc,od,kV,doc,pm,an,cdv,ct,osl,rfl,lk,hcd⟩:=F.ex
 exact .all (h kV doc pm an cdv ct)
theorem ab2 {x qual:Str}{st:Stmt}{f:ax}{oc:ar}{od an:Option ax}{osl:Array (Option ar)}{kV doc pm cdv ct:ar}(l:K.lookup f=some ⟨oc,od,.func (PySem.W.fnOf x qual (g9 st) (cR st) (aT st) .none kV doc pm an cdv ct),osl⟩)(c:PySem.W.codeIn K cdv qual=true)(k:PySem.W.keepIn K (.ref f)=true):dW K x qual st f (PySem.W.fnOf x qual (g9 st) (cR st) (aT st) .none kV doc pm an cdv ct):=⟨⟨oc,od,kV,doc,pm,an,cdv,ct,osl,rfl,l,c⟩,k⟩
end
theorem wW {A:ba}{k:Nat}(hr:bS k A):A.units+1<cLine:=Nat.lt_of_le_of_lt (Nat.add_le_add_left (by decide:1<=64) _) hr.units
theorem ab3 {n:Nat}(h:n<=1000):n<sizeLine:=Nat.lt_of_le_of_lt h (by decide)
section
variable {X:Cx}
theorem ab4:cH X (.builtin "len") (λxs H Q=>∃a kvs,xs = [V.ref a]/\H a=some (.dK kvs)/\Q (.int kvs.length) H):=by
 intro ah s σ H xs us Q I r h
 obtain⟨a,kvs,rfl,ha,q⟩:=h
 obtain⟨u,rfl,ru⟩:=e8 r
 cases ru;exact aa3 I (.inl ha) λt s' I'=>⟨.int kvs.length,H,I',⟨t,rfl⟩,q⟩
end
theorem aP {A B:Prop}(h:B):if false=true then A else B:=by
 rw[if_neg aI5];exact h
theorem aQ {A B:Prop}(h:A):if true=true then A else B:=by
 rw[if_pos rfl];exact h
noncomputable def aD (H H':Hp):Prop:=∀b o,H b=some o->H' b=some o
theorem aD.refl (H:Hp):aD H H:=λ_ _ h=>h
theorem aD.trans {H H1 H2:Hp}(a:aD H H1)(b:aD H1 H2):aD H H2:=λc o h=>b c o (a c o h)
theorem aD.free {H H':Hp}(e:aD H H'){l:ax}(h:H' l=Option.none):H l=Option.none:=by
 cases q:H l with
 |none=>rfl
 |some o=>
  rw[e l o q]at h;cases h
noncomputable def dF (cells:List (Str×ax)):List (Str×NameKind)->List (Str×ax)->List (Str×ax)
 |[],cs=>cs
 |(n,k)::r,cs=>dF cells r (if k==.free then (n,(cells.lookup n).getD 0)::cs else cs)
theorem rN {env:Env}:∀(ns:List (Str×NameKind)) (cs:List (Str×ax)),(∀x∈ns,x.2 = .free->∃c,env.cells.lookup x.1=some c)->
  (forIn ns cs (λ(x:Str×NameKind) r=>(match x with
   |(name,kind)=>if (kind==.free)=true then (do let y <- cellOf env name;pure (ForInStep.yield ((name,y)::r))) else pure (ForInStep.yield r)):_->_->Sem _))=(pure (dF env.cells ns cs):Sem (List (Str×ax)))
 |[],cs,_=>by rw[List.forIn_nil];rfl
 |(n,k)::r,cs,h=>by
  rw[List.forIn_cons];have hr:∀x∈r,x.2 = .free->∃c,env.cells.lookup x.1=some c:=λx hx=>h x (aI0 _ hx)
  cases hk:(k==NameKind.free) with
  |true=>
   have e:k = .free:=by simpa using hk
   obtain⟨c,hc⟩:=h (n,k) aH6 e
   simp only[hk,if_true];have e1:cellOf env n=pure c:=by unfold cellOf;rw[hc]
   rw[e1];show ((pure c >>= λy=>pure (ForInStep.yield ((n,y)::cs))) >>= _:Sem _)=_;rw[pure_bind,pure_bind]
   have:=rN (env:=env) r ((n,c)::cs) hr
   refine this.trans ?_;unfold dF;simp only[hk,if_true,hc,Option.getD_some];cases r<;>rfl
  |false=>
   simp only[hk,aJ4,aN0];rw[pure_bind]
   have:=rN (env:=env) r cs hr
   refine this.trans ?_
   conv=>rhs;unfold dF
   simp only[hk,aJ4,aN0]
theorem oG {scope:Scope}{env:Env}(h:∀x∈scope.names,x.2 = .free->∃c,env.cells.lookup x.1=some c):closureFor scope env=pure (dF env.cells scope.names []):=by
 have e:=rN (env:=env) scope.names [] h;unfold closureFor;rw[show (pure (dF env.cells scope.names []):Sem (List (Str×ax)))=(pure (dF env.cells scope.names []) >>= pure) by rw[pure_bind]];rw[<- e]
theorem mH {cells:List (Str×ax)}:∀(ns:List (Str×NameKind)) (cs:List (Str×ax)) {x:Str}{c:ax},(∀y∈ns,y.2 = .free->∃c,cells.lookup y.1=some c)->
  (∀x c,cs.lookup x=some c->cells.lookup x=some c)->(dF cells ns cs).lookup x=some c->cells.lookup x=some c
 |[],cs,x,c,_,hc,h=>hc x c h
 |(n,k)::r,cs,x,c,hn,hc,h=>by
  unfold dF at h;have hr:∀y∈r,y.2 = .free->∃c,cells.lookup y.1=some c:=λy hy=>hn y (aI0 _ hy)
  cases hk:(k==NameKind.free) with
  |false=>
   simp only[hk,aJ4,aN0]at h;exact mH r cs hr hc h
  |true=>
   simp only[hk,if_true]at h;refine mH r _ hr (λy d e=>?_) h
   obtain⟨c0,h0⟩:=hn (n,k) aH6 (by simpa using hk)
   have h0:cells.lookup n=some c0:=h0;rw[h0]at e;rw[aM4]at e;by_cases hyn:y=n
   ·subst hyn
    simp only[aN8,Option.getD_some]at e;rw[h0];exact e
   ·have:(y==n)=false:=beq_eq_false_iff_ne.mpr hyn
    simp only[this]at e;exact hc y d e
theorem rO {cells:List (Str×ax)}:∀(ns:List (Str×NameKind)) (cs:List (Str×ax)) {x:Str},((x,NameKind.free)∈ns∨∃c,cs.lookup x=some c)->∃c,(dF cells ns cs).lookup x=some c
 |[],cs,x,h=>by
  rcases h with h|h
  ·simp at h
  ·exact h
 |(n,k)::r,cs,x,h=>by
  unfold dF;refine rO r _ ?_;rcases h with h|⟨c,h⟩
  ·rcases aI1.mp h with e|e
   ·cases e
    exact .inr ⟨_,by simp[aM4];rfl⟩
   ·exact .inl e
  ·right
   cases hk:(k==NameKind.free) with
   |false=>exact⟨c,by simpa[hk] using h⟩
   |true=>
    simp only[if_true];rw[aM4];by_cases hxn:(x==n)=true
    ·simp only[hxn];exact⟨_,rfl⟩
    ·simp only[aO1.mpr hxn];exact⟨c,h⟩
theorem oH {env:Env}:∀{names:List (Str×NameKind)}{x:Str}{k:NameKind},(names.map λ(n,k)=>if (k==NameKind.free&&env.scope.kind==.function&&env.kindOf n==some .cell) then (n,NameKind.cell) else (n,k)).lookup x=some k->
  names.lookup x=some k∨(names.lookup x=some .free/\k = .cell)
 |[],_,_,h=>by simp at h
 |(n,q)::r,x,k,h=>by
  have ih:=@oH env r x k;rw[aK5]at h;by_cases hx:(x==n)=true
  ·have e:x=n:=by simpa using hx
   subst e;by_cases hc:(q==NameKind.free&&env.scope.kind==.function&&env.kindOf x==some .cell)=true
   ·simp only[hc,if_true,aM4,aN8]at h
    have hq:q = .free:=by simp at hc;exact hc.1.1
    exact .inr ⟨by simp[aM4,hq],(aI7 h).symm⟩
   ·simp only[hc,aJ4,aN0,aM4,aN8]at h
    exact .inl (by simp[aM4];exact aI7 h)
  ·have hx':(x==n)=false:=aO1.mpr hx
   have h':(r.map λ(n,k)=>if (k==NameKind.free&&env.scope.kind==.function&&env.kindOf n==some .cell) then (n,NameKind.cell) else (n,k)).lookup x=some k:=by
    by_cases hc:(q==NameKind.free&&env.scope.kind==.function&&env.kindOf n==some .cell)=true
    ·simp only[hc,if_true,aM4,hx']at h;exact h
    ·simp only[hc,aJ4,aN0,aM4,hx']at h;exact h
   simp only[aM4,hx'];exact ih h'
noncomputable def dG (fr:List (Option Nat))(σ:St):St:=fr.map λo=>o.bind λj=>(σ[j]?).join
noncomputable def Wk (σ₁ σ₂:St):Prop:=σ₁.length=σ₂.length/\∀(i:Nat) v,σ₁[i]? = some (some v)->σ₂[i]? = some (some v)
theorem iA:∀(ns:List (Str×NameKind)) (n:Nat) (cs:List (Str×ax)),cellsFrom n ns cs=cellsFrom n ns []++cs
 |[],_,_=>rfl
 |(x,k)::r,n,cs=>by
  unfold cellsFrom;split
  ·rw[iA r (n+1) ((x,n)::cs),iA r (n+1) [(x,n)]];simp
  ·exact iA r n cs
theorem rP:∀(ns:List (Str×NameKind)) (n:Nat) {x:Str}{c:ax},(x,c)∈cellsFrom n ns []->(x,NameKind.cell)∈ns
 |[],_,_,_,h=>by simp[cellsFrom]at h
 |(y,k)::r,n,x,c,h=>by
  unfold cellsFrom at h;split at h
  ·rename_i hk
   rw[iA]at h;rcases aL2.mp h with z|z
   ·exact aI0 _ (rP r _ z)
   ·rw[aI2]at z
    cases z
    have:k = .cell:=by simpa using hk
    rw[this];exact aH6
  ·exact aI0 _ (rP r _ h)
theorem oI:∀(ns:List (Str×NameKind)) (n:Nat) {x:Str},(x,NameKind.cell)∈ns->∃c,(x,c)∈cellsFrom n ns []
 |(y,k)::r,n,x,h=>by
  unfold cellsFrom;rcases aI1.mp h with z|z
  ·cases z
   rw[if_pos (by rfl),iA]
   exact⟨n,aJ6 _ (by simp)⟩
  ·split
   ·obtain⟨c,hc⟩:=oI r (n+1) z
    rw[iA]
    exact⟨c,List.mem_append_left _ hc⟩
   ·exact oI r n z
theorem rQ {α:Type}:∀{l:List (Str×α)}{x:Str}{c:α},(x,c)∈l->∃d,l.lookup x=some d
 |(y,v)::r,x,c,h=>by
  rw[aM4];cases hb:x==y with
  |true=>exact⟨v,rfl⟩
  |false=>
   rcases aI1.mp h with z|z
   ·cases z;simp at hb
   ·exact rQ z
theorem oJ {α:Type}{x:Str}:∀(l r:List (Str×α)),(l++r).lookup x=(match l.lookup x with|some v=>some v|none=>r.lookup x)
 |[],_=>rfl
 |(y,v)::l,r=>by
  rw[List.cons_append,aM4,aM4];cases hb:x==y with
  |true=>rfl
  |false=>exact oJ l r
noncomputable def dH (X:Cx)(scope:Scope)(C:ax):List (Str×ax):=cellsFrom (C+1) scope.names (dF X.env.cells scope.names [])
theorem j0 {X:Cx}{scope:Scope}{C:ax}{x:Str}{c:ax}(h:(dH X scope C).lookup x=some c) :
  (x,c)∈cellsFrom (C+1) scope.names []∨((∀d,(x,d)∉cellsFrom (C+1) scope.names [])/\(dF X.env.cells scope.names []).lookup x=some c):=by
 unfold dH at h;rw[iA,oJ]at h;cases e:(cellsFrom (C+1) scope.names []).lookup x with
 |some v=>rw[e]at h;cases h;exact .inl (aL5 e)
 |none=>
  rw[e]at h;refine .inr ⟨λd hd=>?_,h⟩
  obtain⟨d',z⟩:=rQ hd
  rw[e]at z;cases z
theorem ab5 {X:Cx}{scope:Scope}{C:ax}{x:Str}{c:ax}(hn:(x,NameKind.cell)∉scope.names)(h:(dF X.env.cells scope.names []).lookup x=some c):(dH X scope C).lookup x=some c:=by
 unfold dH;rw[iA,oJ];cases e:(cellsFrom (C+1) scope.names []).lookup x with
 |some v=>exact absurd (rP _ _ (aL5 e)) hn
 |none=>exact h
theorem wX {X:Cx}{scope:Scope}{C:ax}{x:Str}(h:(x,NameKind.cell)∈scope.names∨∃c,(dF X.env.cells scope.names []).lookup x=some c):∃c,(dH X scope C).lookup x=some c:=by
 unfold dH;rw[iA,oJ];cases e:(cellsFrom (C+1) scope.names []).lookup x with
 |some v=>exact⟨v,rfl⟩
 |none=>
  rcases h with h|h
  ·obtain⟨c,hc⟩:=oI scope.names (C+1) h
   obtain⟨d,hd⟩:=rQ hc
   rw[e]at hd;cases hd
  ·exact h
noncomputable def bG (X:Cx)(scope:Scope)(N:List Str)(s:aw)(H:Hp)(C:ax)(fp:List ax)(E:ar->aw->Prop):Cx:=
 { X with N:=N,s₀:=s,H₀:=H,env:=compEnvC scope (dH X scope C) C X.env,outer:=X.stack,ex:=fp,fn:=λx=>scope.names.lookup x==some .cell,pn:=[],xe:=E }
structure cQ (X:Cx)(scope:Scope)(N:List Str)(fr:List (Option Nat)):Prop where
 kind:scope.kind = .function
 own:∀y∈scope.names,y.2 = .cell->scope.names.lookup y.1=some .cell
 names:∀y∈scope.names,y.2 = .local->scope.names.lookup y.1=some .local
 free:∀y∈scope.names,y.2 = .free->X.env.scope.names.lookup y.1=some .cell∨X.env.scope.names.lookup y.1=some .free
 len:fr.length=N.length
 from_:∀(i j:Nat),fr[i]? = some (some j)->∃x,N[i]? = some x/\X.N[j]? = some x/\scope.names.lookup x=some .free
section
variable {X:Cx}{ah:List (ax×Obj)}{σ:St}{H:Hp}{s:aw}{scope:Scope}{N:List Str}{fr:List (Option Nat)}
theorem cQ.cells (S:cQ X scope N fr)(I:a6 X ah σ H s):∀y∈scope.names,y.2 = .free->∃c,X.env.cells.lookup y.1=some c:=λy hy hk=>I.ok.has y.1 (S.free y hy hk)
theorem wY {C D:ax}{fp:List ax}{E:ar->aw->Prop}{h1:Heap}{tk:Nat}{m:Str->Option ar}(S:cQ X scope N fr)(I:a6 X ah σ H s)(hf:∀b∈fp,dM X ah H b)(hfl:∀b∈fp,b<s.heap.objs.size)(hD:s.heap.objs.size<=D)(hC:s.heap.objs.size<=C)(hDC:D<C)(old:∀b o,s.heap.get? b=some o->h1.get? b=some o)(hns:h1.Ns C m)(hacc:h1.get? D=some { cls:=.type "list",data:=.seq #[] 0 })(hco:CellsOk h1 (C+1) (cellsFrom (C+1) scope.names [])) :
  a6 (bG X scope N s H C fp E) [] (dG fr σ) (upd H D (.lst [])) { s with heap:=h1,toks:=tk }:=by
 have hHD:H D=none:=I.hok.fresh hD;have cl:=S.cells I;have cs:∀{x:Str}{c:ax},(dF X.env.cells scope.names []).lookup x=some c->X.env.cells.lookup x=some c:=λ{x c} h=>mH scope.names [] cl (λ_ _ z=>by simp at z) h
 have clt:∀{x:Str}{c:ax},X.env.cells.lookup x=some c->c<s.heap.objs.size:=λ{x c} h=>by obtain⟨v,z⟩:=I.cell x c h;exact z.lt
 have nge:∀{x:Str}{c:ax},(x,c)∈cellsFrom (C+1) scope.names []->C<c:=λ{x c} h=>(hco.empty x c h).2
 refine⟨⟨I.ok.mod,?_,I.ok.glob,I.ok.blt,hC,?_,?_,?_,I.ok.hd,I.ok.frames,.inl rfl,?_,I.bs,aK4 I.ok.bsz I.sz,?_,?_,I.stack,I.stkFree⟩,rfl,I.bare,Un.laid old hD hHD,⟨m,hns,?_⟩,?_,?_,?_,λp hp=>absurd (show p∈([]:List (ax×Obj)) from hp) (by simp),?_,?_⟩
 ·exact S.kind
 ·intro x y c h1 h2
  rcases j0 h1 with a|⟨_,a⟩<;>rcases j0 h2 with b|⟨_,b⟩
  ·exact name_of_addr hco.apart a b
  ·exact absurd (aH8 (Nat.lt_trans (nge a) (clt (cs b))) hC) (aL3 _)
  ·exact absurd (aH8 (Nat.lt_trans (nge b) (clt (cs a))) hC) (aL3 _)
  ·exact I.ok.inj x y c (cs a) (cs b)
 ·intro x hx
  have hx:(relabel scope X.env).names.lookup x=some .cell∨(relabel scope X.env).names.lookup x=some .free:=hx;have fin:(x,NameKind.free)∈scope.names->∃c,(dH X scope C).lookup x=some c:=λz=>wX (.inr (rO scope.names [] (.inl z)))
  rcases hx with hx|hx
  ·rcases oH hx with z|z
   ·exact wX (.inl (aL5 z))
   ·exact fin (aL5 z.1)
  ·rcases oH hx with z|z
   ·exact fin (aL5 z)
   ·exact absurd z.2 (by decide)
 ·intro x c hx h
  have hx:(scope.names.lookup x==some NameKind.cell)=true:=hx;have hx:scope.names.lookup x=some .cell:=by simpa using hx
  rcases j0 h with a|⟨a,_⟩
  ·exact aK4 hC (aS1 (nge a))
  ·obtain⟨d,hd⟩:=oI scope.names (C+1) (aL5 hx)
   exact absurd hd (a d)
 ·intro b hb
  refine⟨aL1 (aH8 (hfl b hb) hC),λx c e=>?_⟩;rcases j0 e with a|⟨_,a⟩
  ·exact aP1 (Nat.lt_trans (aH8 (hfl b hb) hC) (nge a))
  ·exact (hf b hb).2.2.2.2.1 x c (cs a)
 ·intro b o e hb
  rcases (hf b hb).2.2.2.1 with z|z
  ·exact I.ok.noex b o e z
  ·exact absurd (aH8 (aI3 e) (aK4 I.ok.bsz z)) (aL3 _)
 ·intro b hb z
  rcases aI1.mp (I.stkSub b z) with e|e
  ·exact (hf b hb).2.1 e
  ·exact (hf b hb).2.2.1 e
 ·intro i x v e1 e2 e3
  have e2:(fr.map λo=>o.bind λj=>(σ[j]?).join)[i]? = some (some v):=e2;rw[aI8]at e2;cases ef:fr[i]? with
  |none=>rw[ef]at e2;cases e2
  |some o=>
   rw[ef]at e2;cases o with
   |none=>cases e2
   |some j=>
    have e2:some ((σ[j]?).join)=some (some v):=e2;have ej:σ[j]? = some (some v):=by
     cases q:σ[j]? with
     |none=>rw[q]at e2;cases e2
     |some w=>rw[q]at e2;cases w with
      |none=>cases e2
      |some w=>cases e2;rfl
    obtain⟨y,a1,a2,a4⟩:=S.from_ i j ef
    have e1:N[i]? = some x:=e1;rw[e1]at a1;cases a1;have a3:(x,NameKind.free)∈scope.names:=aL5 a4;have vis:i6 X.env.scope x:=(S.free _ a3 rfl).elim (λz=>.inr (.inl z)) λz=>.inr (.inr z)
    obtain⟨m0,hn0,hl0⟩:=I.loc
    obtain⟨u,r,l⟩:=hl0 j x v a2 ej vis
    refine⟨u,r,.inr ⟨?_,?_⟩⟩
    ·have e3:(relabel scope X.env).names.lookup x=some .local∨(relabel scope X.env).names.lookup x=some .cell∨(relabel scope X.env).names.lookup x=some .free:=e3
     rcases e3 with z|z|z
     ·rcases oH z with y|y
      ·rw[a4]at y;cases y
      ·exact absurd y.2 (by decide)
     ·exact .inl z
     ·exact .inr z
    ·obtain⟨c,hc⟩:=rO (cells:=X.env.cells) scope.names [] (x:=x) (.inl a3)
     refine⟨c,ab5 (λz=>by have:=S.own _ z rfl;rw[a4]at this;cases this) hc,?_⟩;have hc':=cs hc;have S1:=S.free (x,.free) a3 rfl;rcases l with⟨k,_⟩|⟨_,c2,hc2,z⟩
     ·have k:X.env.scope.names.lookup x=some .local:=k
      rcases S1 with q|q<;>(have q:X.env.scope.names.lookup x=_:=q;rw[k]at q;cases q)
     ·rw[hc']at hc2;cases hc2
      obtain⟨oc,ho,hd⟩:=z
      exact⟨oc,old c oc ho,hd⟩
 ·intro x c e
  rcases j0 e with a|⟨_,a⟩
  ·exact⟨_,(hco.empty x c a).1⟩
  ·obtain⟨v,oc,ho,hd⟩:=I.cell x c (cs a)
   exact⟨v,oc,old c oc ho,hd⟩
 ·show upd H D (.lst []) C=none
  rw[aZ (aP1 hDC)];exact I.hok.fresh hC
 ·intro x c e
  show upd H D (.lst []) c=none;rcases j0 e with a|⟨_,a⟩
  ·rw[aZ (aP1 (Nat.lt_trans hDC (nge a)))];exact I.hok.fresh (aK4 hC (aS1 (nge a)))
  ·have q:=cs a
   rw[aZ (aL1 (aH8 (clt q) hD))];exact I.freeC x c q
 ·exact I.hok.laid old hD ⟨aK9 _,[],0,.nil,hacc⟩
 ·show (dG fr σ).length=N.length
  unfold dG;rw[aH4];exact S.len
end
noncomputable def j3 (X:Cx)(ifs:List Expr)(t:TT):Prop:=
 ∀(ah:List (ax×Obj)) (s:aw) (σ:St) (H:Hp) (Q:Bool->Hp->Prop),a6 X ah σ H s->t σ H Q->
  wpAny (model X.prog X.w) X.A (forIn ifs true λc r=>if r=true then do let ok <- isTrue c X.env (eval c X.env);pure (ForInStep.yield ok) else pure (ForInStep.yield r)) (TP X ah σ Q) X.xe s
noncomputable def wZ:TT:=λ_ H Q=>Q true H
theorem ab6 {X:Cx}:j3 X [] wZ:=λ_ _ _ H _ I h=>wpAny_tests_nil ⟨H,I,h⟩
section
variable {prog:ay}{w:bf}{A:ba}
noncomputable def oK (prog:ay)(w:bf)(A:ba)(elt tg:Expr)(ifs:List Expr)(it acc:ar)(env:Env)(lost:ar->aw->Prop)(stop next:aw->Prop)(s:aw):Prop:=
 let M:=model prog w
 let tests:Sem Bool:=forIn ifs true λc r=>if r=true then do let ok <- isTrue c env (eval c env);pure (ForInStep.yield ok) else pure (ForInStep.yield r)
 let put:aw->Prop:=wpAny M A (eval elt env) (λx=>wpAny M A (call (.builtin "list.append") [acc,x]) (λ_=>next) lost) lost
 let taken:ar->aw->Prop:=λv=>wpAny M A (letOwnedTupleGo tg it v) (λ_=>wpAny M A (assign tg env v) (λ_=>wpAny M A tests (λok s'=>if ok=true then put s' else next s') lost) lost) lost
 wpAny M A (pyNext it) (λr s'=>match r with
  |none=>stop s'
  |some v=>taken v s') lost s
theorem x5 {R:Result->aw->Prop}{s:aw}{elt tg iter:Expr}{ifs:List Expr}{scope:Scope}{pos:Pos}{it acc:ar}{env:Env}(I:Nat->aw->Prop)(turn:∀n s,I n s->oK prog w A elt tg ifs it acc env (notedBy (model prog w) A env λe=>R (.error e)) (R (.ok .next)) (λs'=>∃m,m<n/\I m s') s)(n:Nat)(h:I n s) :
  codeAny (model prog w) A (.compLoop (.ListComp elt [⟨tg,iter,ifs,0⟩] scope pos) 0 it acc env) R s:=by
 apply codeAny_loop rfl I _ n h;intro k s1 h1
 change wpAny _ A ((compTurn _ 0 it acc env).onRaise (λx=>do noteFrame x env;theTreesLotGoes x)) _ _ s1
 apply wpAny_noted;rw[compTurn_list];have t:=turn k s1 h1;unfold oK at t;apply aG9;apply wpAny_standAt;apply aG9;refine aM1 t (λr s2 h2=>?_) λ_ _ z=>z
 cases r with
 |none=>exact aH5 h2
 |some v=>
  apply aG9;refine aM1 h2 (λ_ s3 h3=>?_) λ_ _ z=>z
  apply aG9;refine aM1 h3 (λ_ s4 h4=>?_) λ_ _ z=>z
  apply aG9;refine aM1 h4 (λok s5 h5=>?_) λ_ _ z=>z
  cases ok with
  |false=>exact aH5 ⟨rfl,h5⟩
  |true=>
   apply aG9;apply aG9;refine aM1 h5 (λx s6 h6=>?_) λ_ _ z=>z
   apply aG9;exact aM1 h6 (λ_ s7 h7=>aH5 (aH5 ⟨rfl,h7⟩)) λ_ _ z=>z
end
noncomputable def oM (g:TG)(tc:TT)(te:TE)(σ0:St)(J:It)(D:ax)(Q:VK)(W:Nat->Nat->List V->Hp->Prop):Prop:=
 ∀i m acc H',W i m acc H'->H' D=some (.lst acc)/\((J.stop i H'/\Q (.ref D) H')∨(J.go i H'/\∀x H2,J.yld i H' x H2->g x σ0 H2 λσ2 H3=>Wk σ0 σ2/\tc σ2 H3 λb H4=>
  if b=true then te σ2 H4 λv H5=>H5 D=some (.lst acc)/\acc.length<sizeLine/\∃m',m'<m/\W (i+1) m' (acc++[v]) (upd H5 D (.lst (acc++[v]))) else ∃m',m'<m/\W (i+1) m' acc H4))
section
variable {M:Model}{A:ba}{E:ar→aw→Prop}{s:aw}
theorem x6 {scope:Scope}{globals:ax}{cl:List (Str×ax)}{qual:Str}{func:Option ax}{code:ar}{builtins:ax}{outer:Env}{Q:Env->aw->Prop}(hQ:∀h',h'.Ns s.heap.objs.size (λ_=>none)->(∀b o,s.heap.get? b=some o->h'.get? b=some o)->CellsOk h' (s.heap.objs.size+1) (cellsFrom (s.heap.objs.size+1) scope.names [])->
   Q (newEnv scope s.heap.objs.size globals (cellsFrom (s.heap.objs.size+1) scope.names cl) qual func code (some outer) builtins) { s with heap:=h' }) :
  wpAny M A (newFunctionEnv scope globals cl [] qual func code (some outer) builtins) Q E s:=by
 simp only[newFunctionEnv,Option.isSome_some,if_true];refine aG9 (wpAny_alloc ?_);refine aG9 (wpAny_layCells _ (λname kind cells=>by cases hkc:kind==NameKind.cell<;>simp[hkc]) _ _ _ _ ?_);have ok:=cellsFrom_ok scope.names (s.heap.push { cls:=.type "dict",data:=.dict #[] }) (s.heap.objs.size+1) [] ⟨λ_ _ hm=>(nomatch hm),List.Pairwise.nil⟩ (by rw[aQ3];exact aH9 _);rw[aQ3]at ok;rw[show ({ s with heap:=s.heap.push { cls:=.type "dict",data:=.dict #[] } }:aw).heap.objs.size=s.heap.objs.size+1 from aQ3 ..];rw[List.forIn_nil];refine aG9 (aH5 (aH5 (hQ _ ((Heap.Ns.new s.heap (.type "dict")).keeps (pushCells_keeps _ _)) (λb o e=>pushCells_keeps _ _ b o (aH1 _ e)) ok)))
end
section
variable {X:Cx}{ah:List (ax×Obj)}{σ:St}{H:Hp}{s:aw}{scope:Scope}{N:List Str}{fr:List (Option Nat)}{tg iter elt:Expr}{ifs:List Expr}{pos:Pos}{wi:TI}{g:TG}{tc:TT}{te:TE}
structure mI (X:Cx)(scope:Scope)(N:List Str)(tg:Expr)(ifs:List Expr)(elt:Expr)(s:aw)(H:Hp)(g:TG)(tc:TT)(te:TE):Prop where
 tg:∀(C:ax) (fp:List ax),PG (bG X scope N s H C fp λ_ _=>False) tg g
 ifs:∀(C:ax) (fp:List ax),j3 (bG X scope N s H C fp λ_ _=>False) ifs tc
 elt:∀(C:ax) (fp:List ax),PE (bG X scope N s H C fp λ_ _=>False) elt te
theorem rR {C:ax}{fp:List ax}{E:ar->aw->Prop}{pins':List (ax×Obj)}{σ':St}{H':Hp}{s':aw}(I:a6 X ah σ H s)(hf:∀b∈fp,dM X ah H b)(I':a6 (bG X scope N s H C fp E) pins' σ' H' s'):a6 X ah σ H' s':=
 I.call' (ch:=fp) I'.os I'.base I'.hok I'.bare λb hb=>⟨(hf b hb).2.2.2.1,(hf b hb).2.1,(hf b hb).2.2.2.2.1,(hf b hb).2.2.2.2.2⟩
theorem x8 {Rr:ar->ax->Result->aw->Prop}{J:It}{fp:List ax}{it:ax}{tn:Nat->Heap->Prop}{Q:VK}(hc:X.calm=true)(S:cQ X scope N fr)(B:mI X scope N tg ifs elt s H g tc te)(I:a6 X ah σ H s)(T:gH X.prog X.w X.K tg J fp it tn)(hst:tn 0 s.heap)(hf:∀b∈fp,dM X ah H b)(h:∀D,H D=none->∃W:Nat->Nat->List V->Hp->Prop,(∃m,W 0 m [] (upd H D (.lst [])))/\oM g tc te (dG fr σ) J D Q W)(hend:∀(D C:ax) (s':aw) (H':Hp) (m:Str->Option ar),s.heap.objs.size<=C->s.heap.objs.size<=D->a6 X ah σ H' s'->s'.heap.Ns C m->H' C=none->Q (.ref D) H'->Rr (.ref D) C (.ok .next) s') :
  wpAny (model X.prog X.w) X.A (newList []) (λacc s₃=>wpAny (model X.prog X.w) X.A (newFunctionEnv scope X.env.globals (dF X.env.cells scope.names []) [] X.env.qual none .none (some X.env)) (λcenv s₄=>
   codeAny (model X.prog X.w) X.A (.compStart (.ListComp elt [⟨tg,iter,ifs,0⟩] scope pos) 0 (.ref it) acc { cenv with scope:=relabel scope X.env }) (Rr acc cenv.locals) s₄) X.xe s₃) X.xe s:=by
 refine aM6 (x6 (λh₁ hns₁ keep₁ hco₁=>?_));dsimp only at hns₁ keep₁ hco₁ ⊢;generalize hH2:s.heap.push { cls:=.type "list",dict:=none,data:=.seq ([]:List ar).toArray }=H2 at hns₁ keep₁ hco₁ ⊢;have hC:H2.objs.size=s.heap.objs.size+1:=by rw[<- hH2,aQ3]
 have hDC:s.heap.objs.size<H2.objs.size:=by rw[hC];exact Nat.lt_succ_self _
 have hCle:s.heap.objs.size<=H2.objs.size:=by rw[hC];exact Nat.le_succ _
 have old:∀b o,s.heap.get? b=some o->h₁.get? b=some o:=λb o e=>keep₁ b o (hH2▸aH1 _ e)
 have hacc:h₁.get? s.heap.objs.size=some { cls:=.type "list",data:=.seq #[] 0 }:=keep₁ _ _ (hH2▸aJ0 _ rfl);have hfl:∀b∈fp,b<s.heap.objs.size:=λb hb=>by obtain⟨o,e,_⟩:=T.obj _ _ hst b hb;exact aI3 e
 obtain⟨W,⟨m0,w0⟩,turn⟩:=h s.heap.objs.size (I.hok.fresh (aH9 _))
 have st1:tn 0 h₁:=T.keep _ _ _ hst λb _ o e=>old b o e
 have fr0:∀b∈fp,upd H s.heap.objs.size (.lst []) b=none:=λb hb=>by rw[aZ (aL1 (hfl b hb))];exact (hf b hb).1
 have stat:∀{H':Hp},(∀b∈fp,H' b=none)->∀b∈fp,dM (bG X scope N s H H2.objs.size fp λ_ _=>False) [] H' b:=λ{H'} hn b hb=>by
  have f:=hf b hb;refine⟨hn b hb,aL1 (aH8 (hfl b hb) hCle),λz=>?_,.inl hb,λx c e=>(j0 e).elim (λz=>aP1 (Nat.lt_trans (aH8 (hfl b hb) hCle) (hco₁.empty x c z).2)) λz=>f.2.2.2.2.1 x c (mH scope.names [] (S.cells I) (λ_ _ z=>by simp at z) z.2),λp hp=>absurd (show p∈([]:List (ax×Obj)) from hp) (by simp)⟩;rcases aI1.mp (I.stkSub b z) with e|e
  ·exact f.2.1 e
  ·exact f.2.2.1 e
 generalize hX:bG X scope N s H H2.objs.size fp (λ_ _=>False)=Y at stat;have I0:a6 Y [] (dG fr σ) (upd H s.heap.objs.size (.lst [])) { s with heap:=h₁ }:=hX▸wY S I hf hfl (aH9 _) hCle hDC old hns₁ hacc hco₁;have bt:PG Y tg g:=hX▸B.tg H2.objs.size fp;have bi:j3 Y ifs tc:=hX▸B.ifs H2.objs.size fp;have be:PE Y elt te:=hX▸B.elt H2.objs.size fp;have eP:Y.prog=X.prog:=by rw[<- hX];rfl
 have ew:Y.w=X.w:=by rw[<- hX];rfl
 have eK:Y.K=X.K:=by rw[<- hX];rfl
 have eA:Y.A=X.A:=by rw[<- hX];rfl
 have eE:Y.env=compEnvC scope (dH X scope H2.objs.size) H2.objs.size X.env:=by rw[<- hX];rfl
 have eX:Y.xe=λ_ _=>False:=by rw[<- hX];rfl
 have ec:Y.calm=true:=by rw[<- hX];exact hc
 have never:∀{E:ar->aw->Prop} (e:ar) (s':aw),Y.xe e s'->E e s':=λ{E} e s' z=>by rw[eX]at z;exact z.elim
 have out:∀{pins' σ' H' s'},a6 Y pins' σ' H' s'->a6 X ah σ H' s':=λ{_ _ _ _} I'=>rR (C:=H2.objs.size) (E:=λ_ _=>False) (scope:=scope) (N:=N) I hf (hX▸I')
 have loop:codeAny (model X.prog X.w) X.A (.compLoop (.ListComp elt [⟨tg,iter,ifs,0⟩] scope pos) 0 (.ref it) (.ref s.heap.objs.size) (compEnvC scope (dH X scope H2.objs.size) H2.objs.size X.env))
   (Rr (.ref s.heap.objs.size) H2.objs.size) { s with heap:=h₁ }:=by
  refine x5 (λn s'=>∃i acc H',a6 Y [] (dG fr σ) H' s'/\tn i s'.heap/\(∀b∈fp,H' b=none)/\W i n acc H') ?_ m0 ⟨0,[],_,I0,st1,fr0,w0⟩;rintro n s3 ⟨i,acc,H3,I3,st3,fr3,w3⟩;unfold oK;dsimp only
  obtain⟨hD3,step⟩:=turn i n acc H3 w3
  rcases step with⟨stop,qn⟩|⟨go,step⟩
  ·have z:=T.done Y eP ew eK ec i [] s3 _ H3 (notedBy (model X.prog X.w) X.A (compEnvC scope (dH X scope H2.objs.size) H2.objs.size X.env) λe s'=>Rr (.ref s.heap.objs.size) H2.objs.size (.error e) s') I3 (stat fr3) st3 stop
   rw[eA]at z;refine aR z λr s4 ⟨hr,I4⟩=>?_
   subst hr
   obtain⟨m4,hn4,_⟩:=I4.loc
   rw[eE]at hn4;have f4:=I4.free;rw[eE]at f4;exact hend _ _ s4 H3 m4 hCle (aH9 _) (out I4) hn4 f4 qn
  ·have z:=T.item Y eP ew eK ec i [] s3 _ H3 (notedBy (model X.prog X.w) X.A (compEnvC scope (dH X scope H2.objs.size) H2.objs.size X.env) λe s'=>Rr (.ref s.heap.objs.size) H2.objs.size (.error e) s') I3 (stat fr3) st3 go
   rw[eA]at z;refine aR z λr s4 ⟨u,hr,h4⟩=>?_
   subst hr;refine aR h4 λ_ s5 ⟨x,H5,I5,r5,y5,st5,fr5⟩=>?_
   have I5':=I5.pinned (stat fr5) (T.obj _ _ st5);have q1:=bt _ s5 _ H5 x u _ I5' r5 (step x H5 y5);rw[eP,ew,eA,eE]at q1;refine aM1 q1 (λ_ s6 ⟨σ6,H6,I6,wk,q6⟩=>?_) never;have q2:=bi _ s6 σ6 H6 _ I6 q6;rw[eP,ew,eA,eE]at q2;refine aM1 q2 (λb s7 ⟨H7,I7,q7⟩=>?_) never;have again:∀{H8:Hp}{s8:aw}{acc':List V},a6 Y ([]++l8 fp s5.heap) σ6 H8 s8->(∃m',m'<n/\W (i+1) m' acc' H8)->∃m,m<n/\∃i acc H',a6 Y [] (dG fr σ) H' s8/\tn i s8.heap/\(∀b∈fp,H' b=none)/\W i m acc H':=λ{H8 s8 acc'} I8 n8=>by
    obtain⟨m',hm,w8⟩:=n8
    refine⟨m',hm,i+1,acc',H8,(I8.unpinned).weak wk.1 wk.2,T.keep _ _ _ st5 λb hb o e=>(I8.pin (b,o) (aJ6 _ (aJ6 _ (l9 hb e)))).1,λb hb=>?_,w8⟩
    obtain⟨o,e,d⟩:=T.obj _ _ st5 b hb
    exact (I8.pin (b,o) (aJ6 _ (aJ6 _ (l9 hb e)))).2.1
   cases b with
   |false=>
    rw[if_neg aI5]at q7 ⊢;exact again I7 q7
   |true=>
    rw[if_pos rfl]at q7 ⊢;have q3:=be _ s7 σ6 H7 _ I7 q7;rw[eP,ew,eA,eE]at q3;refine aM1 q3 (λv s8 ⟨y,H8,I8,r8,hD8,hz8,q8⟩=>?_) never;have q4:=rM _ s8 σ6 H8 (.ref s.heap.objs.size) [y] (.ref s.heap.objs.size) [v] (λ_ H9=>∃m',m'<n/\W (i+1) m' (acc++[y]) H9) I8 rfl (.cons r8 .nil) ⟨_,_,_,rfl,rfl,hD8,hz8,q8⟩;rw[eP,ew,eA]at q4;exact aM1 q4 (λ_ s9 ⟨_,H9,I9,_,q9⟩=>again I9 q9) never
 exact codeAny_compStart_list loop (T.self _ 0 _ _ _ st1 loop)
end
section
variable {X:Cx}{scope:Scope}{N:List Str}{fr:List (Option Nat)}{tg iter elt:Expr}{ifs:List Expr}{pos:Pos}{wi:TI}{g:TG}{tc:TT}{te:TE}
theorem a6.drop {ah:List (ax×Obj)}{σ:St}{H H':Hp}{s s':aw}{C:ax}{h':Heap}(I0:a6 X ah σ H s)(hC:s.heap.objs.size<=C){σ':St}(I:a6 X ah σ' H' s')(hn:H' C=none)(sb:Heap.SameBut C s'.heap h'):a6 X ah σ' H' { s' with heap:=h' }:=by
 refine I.turned (t':=s'.toks) (it:=C) (λb o hb e=>(sb.2 b hb).trans e) hn (aP1 (aH8 I0.lt hC)) (.inr (aK4 I0.sz hC)) (λx c e z=>?_) λp hp z=>?_
 ·obtain⟨v,q⟩:=I0.cell x c e
  exact absurd (aH8 q.lt (by rw[z];exact hC)) (aL3 _)
 ·exact absurd (aH8 (aI3 (I0.pin p hp).1) (by rw[z];exact hC)) (aL3 _)
variable {gh:Hp→TG}{tch:Hp→TT}{teh:Hp→TE}
noncomputable def rS (wi:TI)(fr:List (Option Nat))(gh:Hp->TG)(tch:Hp->TT)(teh:Hp->TE):TE:=λσ H Q=>wi σ H λJ H1=>∀D,H1 D=none->
 ∃W:Nat->Nat->List V->Hp->Prop,(∃m,W 0 m [] (upd H1 D (.lst [])))/\oM (gh H1) (tch H1) (teh H1) (dG fr σ) J D Q W
theorem x9 (hc:X.calm=true)(S:cQ X scope N fr)(hi:PI X tg iter wi)(B:∀(s:aw) (H:Hp),mI X scope N tg ifs elt s H (gh H) (tch H) (teh H))(hs:∀x,foldedSetIterable iter X.env x=pure x:=by intro _;rfl):PE X (.ListComp elt [⟨tg,iter,ifs,0⟩] scope pos) (rS wi fr gh tch teh):=by
 intro ah s σ H Q I h;rw[eval_ListComp];refine wpAny_comprehension_free (use:=none) rfl hs (oG (S.cells I)) S.kind S.names (aR (hi ah s σ H _ I h) λv s1 h1=>aR h1 λitv s2 h2=>?_)
 obtain⟨it,fp,tn,J,H2,e,I2,T,st2,f2,hW⟩:=h2
 subst e;refine x8 (Rr:=λacc C=>compPost (model X.prog X.w) X.A X.xe none (EP X ah σ Q) acc C) hc S (B _ _) I2 T st2 f2 hW ?_;intro D C s' H' m hC hD I' hns hHC q
 exact⟨m,hns,λh' sb=>⟨.ref D,H',I2.drop hC I' hHC sb,rfl,q⟩⟩
theorem ab7 {i:Nat}{x:Str}{px spos:Pos}(hc:X.calm=true)(S:cQ X scope N fr)(hi:PI X tg iter wi)(B:∀(s:aw) (H:Hp),mI X scope N tg ifs elt s H (gh H) (tch H) (teh H))(hN:X.N.Nodup)(hix:X.N[i]? = some x)(hx:X.env.scope.names.lookup x=some .local)(hsw:swapsWith (.ListComp elt [⟨tg,iter,ifs,0⟩] scope pos) (some (.Name x px)) spos.line X.env=pure true)(hs:∀x,foldedSetIterable iter X.env x=pure x:=by intro _;rfl) :
  PS X (.Assign [.Name x px] (.ListComp elt [⟨tg,iter,ifs,0⟩] scope pos) spos) (m6 (rS wi fr gh tch teh) (dE i)):=by
 intro ah s σ H D I h;rw[exec_Assign_Name_used _ _ _ _ hsw];refine aG9 (wpAny_standAt (aG9 ?_));show wpAny _ _ (do let _ <- comprehension (.ListComp elt [⟨tg,iter,ifs,0⟩] scope pos) scope X.env _ (newList []) false (eval iter X.env) (some (assign (.Name x px) X.env))) _ _ s
 refine aG9 (aM1 (wpAny_comprehension_free (Q:=λ_ s'=>SP X ah D .next s') (use:=some (assign (.Name x px) X.env)) rfl hs (oG (S.cells I)) S.kind S.names (aR (hi ah s σ H _ I h) λv s1 h1=>aR h1 λitv s2 h2=>?_))
  (λ_ s' hq=>aH5 (aH5 hq)) λ_ _ e=>e)
 obtain⟨it,fp,tn,J,H2,e,I2,T,st2,f2,hW⟩:=h2
 subst e;refine x8 (Rr:=λacc C=>compPost (model X.prog X.w) X.A X.xe (some (assign (.Name x px) X.env)) (λ_ s'=>SP X ah D .next s') acc C) hc S (B _ _) I2 T st2 f2 hW ?_;intro D' C s' H' m hC hD I' hns hHC q;refine wpAny_assign_Name (qO I' hN hix (.inl hx) (v:=.ref D') rfl (λs'' I'' sb=>?_) (.inr hx))
 obtain⟨a,sb,ha⟩:=sb
 have hCa:C≠a:=by
  rcases ha with z|z
  ·rw[z];exact aP1 (aH8 I2.lt hC)
  ·intro e;subst e
   obtain⟨v,q⟩:=I2.cell x _ z
   exact absurd (aH8 q.lt hC) (aL3 _)
 exact⟨m,hns.sameBut sb hCa,λh' sb'=>⟨_,H',I2.drop hC I'' hHC sb',q⟩⟩
end
theorem bY {H:Hp}{p:ax}(h:H p=none)(o:HO):aD H (upd H p o):=λb u q=>by rw[aZ (dU q h)];exact q
end L2
namespace Srt
open PySem PySem.W PyProof.Rows
noncomputable abbrev G (p:Array Nat)(i:Nat):Nat:=p.getD i 0
theorem mJ {p q:Array Nat}{i j:Nat}(h:p[i]? = q[j]?):G p i=G q j:=by
 unfold G;rw[aQ9,aQ9,h]
theorem rT {p:Array Nat}{i j:Nat}(hj:j<=p.size)(k:Nat):G (kas_rev p i j) k=if i<=k/\k<j then G p (i+j-1-k) else G p k:=by
 have e:=getElem?_mirror_all (i:=i) hj k;unfold kas_rev;by_cases h1:i<=k/\k<j
 ·rw[if_pos h1]at e ⊢;exact mJ e
 ·rw[if_neg h1]at e ⊢;exact mJ e
theorem ab8 {p:Array Nat}{src d:Nat}(hs:src<p.size)(hd:d<=src)(k:Nat):G (bubble p src d) k=if k=src-d then G p src else if src-d<k/\k<=src then G p (k-1) else G p k:=by
 have e:=getElem?_bubble hs d hd k;by_cases h1:k=src-d
 ·rw[if_pos h1]at e ⊢;exact mJ e
 ·rw[if_neg h1]at e ⊢
  by_cases h2:src-d<k/\k<=src
  ·rw[if_pos h2]at e ⊢;exact mJ e
  ·rw[if_neg h2]at e ⊢;exact mJ e
noncomputable def PP (n:Nat)(p:Array Nat):Prop:=p.toList.Perm (List.range n)
theorem PP.size {n:Nat}{p:Array Nat}(h:PP n p):p.size=n:=by
 have:=h.length_eq
 rw[List.length_range]at this;simpa using this
theorem PP.lt {n:Nat}{p:Array Nat}(h:PP n p){k:Nat}(hk:k<n):G p k<n:=by
 have hs:=h.size;have hk':k<p.toList.length:=by simpa[hs] using hk
 have e:G p k=p.toList[k]:=by
  unfold G;rw[aQ9];simp[hs,hk]
 have m:p.toList[k]∈p.toList:=aO8 hk';rw[e];exact aS8.mp (h.mem_iff.mp m)
theorem PP.of {n:Nat}{p q:Array Nat}(h:PP n p)(e:q.Perm p):PP n q:=(Array.perm_iff_toList_perm.mp e).trans h
theorem PP.rev {n:Nat}{p:Array Nat}(h:PP n p)(i j:Nat):PP n (kas_rev p i j):=h.of (mirror_perm _ _ _ _)
theorem PP.bub {n:Nat}{p:Array Nat}(h:PP n p)(i j:Nat):PP n (bubble p i j):=h.of (bubble_perm _ _ _)
structure rU (c:Nat->Nat->Bool):Prop where
 asym:∀{i j},c i j=true->c j i=false
 ntr:∀{i j k},c i j=false->c j k=false->c i k=false
section
variable {c:Nat→Nat→Bool}(O:rU c)
noncomputable def Le (c:Nat->Nat->Bool)(i j:Nat):Prop:=c j i=false
include O
theorem le_refl (i:Nat):Le c i i:=by
 unfold Le;cases h:c i i with
 |false=>rfl
 |true=>have:=O.asym h;rw[h]at this;exact this
theorem le_trans {i j k:Nat}(h1:Le c i j)(h2:Le c j k):Le c i k:=O.ntr h2 h1
theorem oN {i j:Nat}(h:c i j=true):Le c i j:=O.asym h
omit O
noncomputable def eN (c:Nat->Nat->Bool)(p:Array Nat)(n:Nat):Prop:=∀a b,a<=b->b<n->Le c (G p a) (G p b)
noncomputable def j4 (c:Nat->Nat->Bool)(p:Array Nat)(n:Nat):Prop:=∀a b,a<=b->b<n->Le c (G p b) (G p a)
include O
theorem ab9 {p:Array Nat}{n:Nat}(h:eN c p n)(h1:1<=n)(hl:Le c (G p (n-1)) (G p n)):eN c p (n+1):=λa b hab hb=>by
 by_cases hbn:b<n
 ·exact h a b hab hbn
 ·have e:b=n:=by omega
  subst e;by_cases han:a=b
  ·subst han;exact le_refl O _
  ·exact le_trans O (h a (b-1) (by omega) (by omega)) hl
theorem oO {p:Array Nat}{n:Nat}(h:j4 c p n)(h1:1<=n)(hl:Le c (G p n) (G p (n-1))):j4 c p (n+1):=λa b hab hb=>by
 by_cases hbn:b<n
 ·exact h a b hab hbn
 ·have e:b=n:=by omega
  subst e;by_cases han:a=b
  ·subst han;exact le_refl O _
  ·exact le_trans O hl (h a (b-1) (by omega) (by omega))
omit O
noncomputable def bV {α:Type}(n:Nat)(c:Nat->Nat->Bool)(R:α->Prop):KasT α->Prop
 |.ret a=>R a
 |.ask i j k=>i<n/\j<n/\bV n c R (k (c i j))
theorem bV.mono {α:Type}{n:Nat}{R R':α->Prop}(h:∀a,R a->R' a):∀(t:KasT α),bV n c R t->bV n c R' t
 |.ret a,q=>h a q
 |.ask i j k,q=>⟨q.1,q.2.1,bV.mono h (k (c i j)) q.2.2⟩
theorem bV.bind {α β:Type}{n:Nat}{R:α->Prop}{R':β->Prop}{f:α->KasT β}(h:∀a,R a->bV n c R' (f a)):∀(t:KasT α),bV n c R t->bV n c R' (t.bind f)
 |.ret a,q=>h a q
 |.ask i j k,q=>⟨q.1,q.2.1,bV.bind h (k (c i j)) q.2.2⟩
theorem bV.run {α:Type}{n:Nat}{R:α->Prop}{I:aw->Prop}{cmp:Nat->Nat->(Bool->aw->Prop)->aw->Prop}{Q:α->aw->Prop}(hc:∀i j C s,i<n->j<n->I s->(∀s',I s'->C (c i j) s')->cmp i j C s)(hQ:∀a s,R a->I s->Q a s):∀(t:KasT α) (s:aw),I s->bV n c R t->t.kasWp cmp Q s
 |.ret a,s,hI,q=>hQ a s q hI
 |.ask i j k,s,hI,q=>hc i j _ s q.1 q.2.1 hI λs' hI'=>bV.run hc hQ (k (c i j)) s' hI' q.2.2
include O
theorem rV {n:Nat}{p:Array Nat}(hp:PP n p):∀(f m:Nat),1<=m->m+f<=n->eN c p m->bV n c (λr=>m<=r/\r<=m+f/\eN c p r/\(r<m+f->c (G p r) (G p (r-1))=true)) (kas_asc p f m)
 |0,m,_,_,h=>⟨aH9 _,aH9 _,h,λz=>absurd z (aL3 _)⟩
 |f+1,m,h1,h2,h=>by
  refine⟨hp.lt (by omega),hp.lt (by omega),?_⟩;by_cases hc:c (p.getD m 0) (p.getD (m-1) 0)=true
  ·simp only[hc,if_true]
   exact⟨aH9 _,by omega,h,λ_=>hc⟩
  ·have hc':c (p.getD m 0) (p.getD (m-1) 0)=false:=aO1.mpr hc
   simp only[hc',aJ4,aN0];refine bV.mono (λr q=>⟨by omega,by omega,q.2.2.1,λz=>q.2.2.2 (by omega)⟩) _ (rV hp f (m+1) (by omega) (by omega) (ab9 O h h1 hc'))
omit O
noncomputable def jW (c:Nat->Nat->Bool)(i j:Nat):Prop:=Le c i j/\Le c j i
include O
theorem rW {p q:Array Nat}{n:Nat}(h:j4 c p n)(e:∀k,k<n->jW c (G q k) (G p k)):j4 c q n:=λa b hab hb=>
 le_trans O (e b hb).1 (le_trans O (h a b hab hb) (e a (by omega)).2)
theorem xA {n m i:Nat}{p:Array Nat}(hp:PP n p)(hm:m<=n)(h:∀a,i<=a->a<m->jW c (G p a) (G p (m-1))):∀k,jW c (G (kas_rev p i m) k) (G p k):=λk=>by
 rw[rT (by rw[hp.size];exact hm)];by_cases hk:i<=k/\k<m
 ·rw[if_pos hk]
  have h1:=h (i+m-1-k) (by omega) (by omega);have h2:=h k hk.1 hk.2
  exact⟨le_trans O h1.1 h2.2,le_trans O h2.1 h1.2⟩
 ·rw[if_neg hk];exact⟨le_refl O _,le_refl O _⟩
omit O
noncomputable def DI (c:Nat->Nat->Bool)(n:Nat)(p:Array Nat)(m q:Nat):Prop:=PP n p/\1<=m/\m<=n/\j4 c p m/\q+1<=m/\∀a,m-(q+1)<=a->a<m->jW c (G p a) (G p (m-1))
include O
theorem xB {n m q:Nat}{p:Array Nat}(h:DI c n p m q):PP n (kas_rev p (m-(q+1)) m)/\∀k,jW c (G (kas_rev p (m-(q+1)) m) k) (G p k):=
 ⟨h.1.rev _ _,xA O h.1 h.2.2.1 h.2.2.2.2.2⟩
theorem oP {n:Nat}:∀(f:Nat) (p:Array Nat) (m q:Nat),m+f<=n->DI c n p m q->bV n c (λr=>DI c n r.1 r.2.1 r.2.2) (kas_desc f p m q)
 |0,p,m,q,_,h=>h
 |f+1,p,m,q,hf,h=>by
  have hp:=h.1;have h1:=h.2.1;refine⟨hp.lt (by omega),hp.lt (by omega),?_⟩;by_cases hc:c (p.getD m 0) (p.getD (m-1) 0)=true
  ·simp only[hc,if_true]
   have dn:j4 c p (m+1):=oO O h.2.2.2.1 h1 (oN O hc);by_cases hq:q>0
   ·simp only[hq,if_true]
    obtain⟨pr,er⟩:=xB O h
    refine oP f _ (m+1) 0 (by omega) ⟨pr,by omega,by omega,rW O dn λk _=>er k,by omega,λa h1 h2=>?_⟩;have e:a=m+1-1:=by omega
    rw[e];exact⟨le_refl O _,le_refl O _⟩
   ·simp only[hq,aN0]
    refine oP f p (m+1) 0 (by omega) ⟨hp,by omega,by omega,dn,by omega,λa h1 h2=>?_⟩;have e:a=m+1-1:=by omega
    rw[e];exact⟨le_refl O _,le_refl O _⟩
  ·have hc':c (p.getD m 0) (p.getD (m-1) 0)=false:=aO1.mpr hc
   simp only[hc',aJ4,aN0];refine⟨hp.lt (by omega),hp.lt (by omega),?_⟩;by_cases hd:c (p.getD (m-1) 0) (p.getD m 0)=true
   ·simp only[hd,if_true]
    exact h
   ·have hd':c (p.getD (m-1) 0) (p.getD m 0)=false:=aO1.mpr hd
    simp only[hd',aJ4,aN0];have ee:jW c (G p (m-1)) (G p m):=⟨hc',hd'⟩;refine oP f p (m+1) (q+1) (by omega) ⟨hp,by omega,by omega,oO O h.2.2.2.1 h1 ee.2,by have:=h.2.2.2.2.1;omega,λa h1 h2=>?_⟩;rw[Nat.add_sub_cancel];by_cases ha:a=m
    ·rw[ha];exact⟨le_refl O _,le_refl O _⟩
    ·have z:=h.2.2.2.2.2 a (by omega) (by omega)
     exact⟨le_trans O z.1 ee.1,le_trans O ee.2 z.2⟩
omit O
noncomputable def CI (c:Nat->Nat->Bool)(n:Nat)(r:Nat×Array Nat):Prop:=PP n r.2/\1<=r.1/\r.1<=n/\eN c r.2 r.1
include O
theorem xC {n m:Nat}{p:Array Nat}(hp:PP n p)(h1:1<=m)(hm:m<=n)(h:j4 c p m):bV n c (CI c n) (kas_tail3 m n p):=by
 have ha:eN c (kas_rev p 0 m) m:=λa b hab hb=>by
  rw[rT (by rw[hp.size];exact hm),rT (by rw[hp.size];exact hm),if_pos ⟨aK9 _,by omega⟩,if_pos ⟨aK9 _,hb⟩];exact h _ _ (by omega) (by omega)
 refine bV.bind (R:=λr=>m<=r/\r<=m+(n-m)/\eN c (kas_rev p 0 m) r/\_) (λr q=>?_) _ (rV O (hp.rev 0 m) (n-m) m h1 (by omega) ha)
 exact⟨hp.rev _ _,by have:=q.1;omega,by have:=q.2.1;omega,q.2.2.1⟩
theorem xD {n m:Nat}{p:Array Nat}(hp:PP n p)(h1:1<=m)(hm:m+1<=n)(h:j4 c p (m+1)):bV n c (CI c n) (kas_descPart m n p):=by
 refine bV.bind (R:=λr=>DI c n r.1 r.2.1 r.2.2) (λr q=>?_) _ (oP O (n-(m+1)) p (m+1) 0 (by omega) ⟨hp,by omega,hm,h,by omega,λa h1 h2=>?_⟩)
 ·by_cases hq:r.2.2>0
  ·rw[if_pos hq]
   obtain⟨pr,er⟩:=xB O q
   exact xC O pr q.2.1 q.2.2.1 (rW O q.2.2.2.1 λk _=>er k)
  ·rw[if_neg hq]
   exact xC O q.1 q.2.1 q.2.2.1 q.2.2.2.1
 ·have e:a=m+1-1:=by omega
  rw[e];exact⟨le_refl O _,le_refl O _⟩
theorem ac0 {n:Nat}{p:Array Nat}(hp:PP n p)(hn:1<=n):bV n c (CI c n) (kas_count n p):=by
 have a1:eN c p 1:=λa b hab hb=>by
  have e1:a=0:=by omega
  have e2:b=0:=by omega
  rw[e1,e2];exact le_refl O _
 refine bV.bind (R:=λr=>1<=r/\r<=1+(n-1)/\eN c p r/\(r<1+(n-1)->c (G p r) (G p (r-1))=true)) (λm q=>?_) _ (rV O hp (n-1) 1 (aH9 _) (by omega) a1)
 obtain⟨q1,q2,q3,q4⟩:=q
 by_cases hm:(m==n)=true
 ·rw[if_pos hm]
  exact⟨hp,q1,by omega,q3⟩
 ·rw[if_neg hm]
  have hne:m≠n:=by simpa using hm
  have hc:=q4 (by omega);by_cases h1:m>1
  ·rw[if_pos h1]
   refine⟨hp.lt (by omega),hp.lt (by omega),?_⟩;by_cases hd:c (p.getD 0 0) (p.getD (m-1) 0)=true
   ·simp only[hd,if_true]
    exact⟨hp,q1,by omega,q3⟩
   ·have hd':c (p.getD 0 0) (p.getD (m-1) 0)=false:=aO1.mpr hd
    simp only[hd',aJ4,aN0];have eq:∀a,0<=a->a<m->jW c (G p a) (G p (m-1)):=λa _ ha=>⟨q3 a (m-1) (by omega) (by omega),le_trans O hd' (q3 0 a (aK9 _) ha)⟩
    have er:=xA O hp (by omega:m<=n) eq;refine xD O (hp.rev 0 m) q1 (by omega) (rW O (p:=p) ?_ λk _=>er k);refine oO O (λa b hab hb=>?_) q1 (oN O hc);exact le_trans O (eq b (aK9 _) hb).1 (eq a (aK9 _) (by omega)).2
  ·rw[if_neg h1]
   have e:m=1:=by omega
   subst e;refine xD O hp (aH9 _) (by omega) (oO O (λa b hab hb=>?_) (aH9 _) (oN O hc));have e1:a=0:=by omega
   have e2:b=0:=by omega
   rw[e1,e2];exact le_refl O _
theorem rX {n k:Nat}{p:Array Nat}(hp:PP n p)(hk:k<n)(ha:eN c p k):∀(f l r:Nat),l<=r->r<=k->r-l<=f->(∀a,a<l->Le c (G p a) (G p k))->(∀a,r<=a->a<k->Le c (G p k) (G p a))->
  bV n c (λl=>l<=k/\(∀a,a<l->Le c (G p a) (G p k))/\∀a,l<=a->a<k->Le c (G p k) (G p a)) (kas_place p k f l r)
 |0,l,r,h1,h2,h3,hl,hr=>⟨by omega,hl,λa h4 h5=>hr a (by omega) h5⟩
 |f+1,l,r,h1,h2,h3,hl,hr=>by
  unfold kas_place;by_cases hlr:l >= r
  ·rw[if_pos hlr]
   exact⟨by omega,hl,λa h4 h5=>hr a (by omega) h5⟩
  ·rw[if_neg hlr]
   refine⟨hp.lt hk,hp.lt (by omega),?_⟩;by_cases hc:c (p.getD k 0) (p.getD ((l+r)/2) 0)=true
   ·simp only[hc,if_true]
    exact rX hp hk ha f l ((l+r)/2) (by omega) (by omega) (by omega) hl λa h4 h5=>le_trans O (oN O hc) (ha _ _ h4 h5)
   ·have hc':c (p.getD k 0) (p.getD ((l+r)/2) 0)=false:=aO1.mpr hc
    simp only[hc',aJ4,aN0];exact rX hp hk ha f ((l+r)/2+1) r (by omega) h2 (by omega) (λa h4=>le_trans O (ha a ((l+r)/2) (by omega) (by omega)) hc') hr
theorem xE {n:Nat}:∀(f:Nat) (p:Array Nat) (k:Nat),PP n p->k+f<=n->eN c p k->bV n c (λq=>PP n q/\eN c q (k+f)) (kas_bin f p k)
 |0,p,k,hp,_,h=>⟨hp,h⟩
 |f+1,p,k,hp,hk,h=>by
  refine bV.bind (R:=λl=>l<=k/\(∀a,a<l->Le c (G p a) (G p k))/\∀a,l<=a->a<k->Le c (G p k) (G p a)) (λl q=>?_) _ (rX O hp (by omega) h k 0 k (aK9 _) (aH9 _) (by omega) (λa z=>absurd z (Nat.not_lt_zero _)) λa h1 h2=>absurd h2 (by omega))
  obtain⟨q1,q2,q3⟩:=q
  have e:∀a,G (bubble p k (k-l)) a=if a=l then G p k else if l<a/\a<=k then G p (a-1) else G p a:=λa=>by
   rw[ab8 (by rw[hp.size];omega) (by omega),show k-(k-l)=l by omega]
  refine bV.mono (λr z=>⟨z.1,by rw[show k+(f+1)=k+1+f by omega];exact z.2⟩) _ (xE f _ (k+1) (hp.bub _ _) (by omega) λa b hab hb=>?_);rw[e,e];by_cases ha:a=l
  ·rw[if_pos ha]
   by_cases hb':b=l
   ·rw[if_pos hb'];exact le_refl O _
   ·rw[if_neg hb',if_pos (by omega)];exact q3 _ (by omega) (by omega)
  ·rw[if_neg ha]
   by_cases ha2:l<a/\a<=k
   ·rw[if_pos ha2,if_neg (by omega),if_pos (by omega)]
    exact h _ _ (by omega) (by omega)
   ·rw[if_neg ha2]
    by_cases hb':b=l
    ·rw[if_pos hb'];exact q2 a (by omega)
    ·rw[if_neg hb']
     by_cases hb2:l<b/\b<=k
     ·rw[if_pos hb2];exact h _ _ (by omega) (by omega)
     ·rw[if_neg hb2];exact h _ _ hab (by omega)
theorem ac1 {n:Nat}(hn:1<=n):bV n c (λq=>PP n q/\eN c q n) (kas_sort n):=by
 have hp:PP n (List.toArray (List.range n)):=by unfold PP;simp
 refine bV.bind (R:=CI c n) (λr q=>?_) _ (ac0 O hp hn)
 obtain⟨q1,q2,q3,q4⟩:=q
 by_cases h:r.1<n
 ·rw[if_pos h]
  have e:max r.1 1=r.1:=by omega
  rw[e];exact bV.mono (λp z=>⟨z.1,by rw[show r.1+(n-r.1)=n by omega]at z;exact z.2⟩) _ (xE O (n-r.1) r.2 r.1 q1 (by omega) q4)
 ·rw[if_neg h]
  have e:r.1=n:=by omega
  exact⟨q1,by rw[e]at q4;exact q4⟩
end
end Srt
namespace L2
open PySem PySem.Spec PyProof.Rows
theorem bO.there {P:ay}{w:bf}{H:Hp}{h:Heap}{a:ax}{o:HO}(x:bO P w H h a o):∃u,h.get? a=some u:=by
 cases o with
 |lst xs=>obtain⟨_,_,_,_,e⟩:=x;exact⟨_,e⟩
 |tup xs=>obtain⟨_,_,_,⟨o,e,_⟩,_⟩:=x;exact⟨_,e⟩
 |dK kvs=>obtain⟨_,_,_,_,o,_,_,e,_⟩:=x;exact⟨_,e⟩
 |dT kvs=>obtain⟨_,_,_,_,o,_,_,e,_⟩:=x;exact⟨_,e⟩
 |set S n=>obtain⟨o,_,_,_,e,_⟩:=x;exact⟨_,e⟩
 |ins C dx fs=>obtain⟨_,_,_,e,_⟩:=x;exact⟨_,e⟩
 |own y=>exact x
 |xd fs=>obtain⟨_,⟨_,_,_,e,_⟩,_⟩:=x;exact⟨_,e⟩
 |rng lo hi=>obtain⟨_,_,_,e⟩:=x;exact⟨_,e⟩
 |frz ob u=>obtain⟨e,_⟩:=x;exact⟨_,e⟩
 |tbl ps=>exact⟨_,(show h.get? a=some _ from x)⟩
 |met f y=>exact⟨_,(show h.get? a=some _ from x)⟩
 |ext φ=>obtain⟨_,z,_⟩:=x;exact z
section
variable {X:Cx}{ah:List (ax×Obj)}{σ:St}{H:Hp}{s:aw}{h':Heap}{a:ax}{o:HO}{t':Nat}
theorem a6.laidF (I:a6 X ah σ H s)(hn:s.heap.get? a=none)(k:∀b u,b≠X.env.locals->s.heap.get? b=some u->h'.get? b=some u)(ns:∀m,s.heap.Ns X.env.locals m->h'.Ns X.env.locals m)(new:bO X.prog X.w (upd H a o) h' a o):H a=none/\a6 X ah σ (upd H a o) { s with heap:=h',toks:=t' }:=by
 have hHn:H a=none:=by
  cases q:H a with
  |none=>rfl
  |some u=>obtain⟨z,e⟩:=(I.hok a u q).there;rw[hn]at e;cases e
 have ne:∀b u,s.heap.get? b=some u->b≠a:=λb u e z=>by rw[z,hn]at e;cases e
 have hL:=I.free
 refine⟨hHn,I.step (g':=s.gens) (d':=s.drawn) (ch:=[]) (λ_ z=>nomatch z) (λb o' h1 _ _ e _=>k b o' h1 e) (λb o' h1 _ _ e _=>⟨o'.slots,k b o' h1 e⟩) (λb o' _ e n=>by rw[aZ (ne b o' e)];exact n) (λb o' _ e=>?_)
  (λb xs q=>by rw[aZ (dU q hHn)];exact q) (λb u xs q=>by rw[aZ (dU q hHn)];exact q) (λb ps q=>⟨#[],by rw[aZ (dU q hHn),q];simp⟩) ns (λb u q=>?_) I.bare⟩
 ·by_cases hb:b=X.env.locals
  ·obtain⟨m,hm,_⟩:=I.loc
   obtain⟨o2,_,_,e2,_⟩:=ns m hm
   exact⟨o2,by rw[hb];exact e2⟩
  ·exact⟨o',k b o' hb e⟩
 ·by_cases hb:b=a
  ·subst hb;rw[cA]at q;cases q;exact new
  ·rw[aZ hb]at q
   refine (I.hok b u q).stay (λc v hc e=>k c v ?_ e) (λc e=>by rw[aZ (dU e hHn)];exact e) λc xs e=>by rw[aZ (dU e hHn)];exact e
   rcases hc with z|z
   ·rw[z];intro y;rw[y,hL]at q;cases q
   ·intro y;rw[y,hL]at z;cases z
theorem a6.newsAll (I:a6 X ah σ H s){news:List (ax×Obj)}{m:Str->Option ar}(hs:∀p∈m3 X.base s.heap X.env.locals,p∈news)(F:Fr X.base X.env.locals h' m)(N:News X.base X.env.locals h' news) :
  ∀b o,b≠X.env.locals->s.heap.get? b=some o->h'.get? b=some o:=λb o h1 e=>by
 cases q:X.base.get? b with
 |some u=>
  have:=I.bk b u q
  rw[e]at this;cases this;exact F.keep b _ q
 |none=>exact (N (b,o) (hs _ (uP h1 q e))).1
end
theorem ac2 {α:Type}{d:α}(l:List α){p:List Nat}(h:p.Perm (List.range l.length)):(p.map λi=>l.getD i d).Perm l:=by
 have e:(List.range l.length).map (λi=>l.getD i d)=l:=by
  apply List.ext_getElem
  ·simp
  ·intro i h1 h2
   simp at h1;simp[h1]
 have:=h.map λi=>l.getD i d
 rw[e]at this;exact this
theorem rY:∀{xs:List V}{us:List ar} (i:Nat),i<xs.length->aO xs us->aX (xs.getD i .non) (us.getD i Value.none)
 |_,_,_,h,.nil=>by simp at h
 |_,_,0,_,.cons r _=>by simpa using r
 |_,_,i+1,h,.cons _ t=>by
  have:=rY i (by simpa using h) t
  simpa using this
theorem xF {xs:List V}{us:List ar}(r:aO xs us):∀{p:List Nat},(∀i∈p,i<xs.length)->aO (p.map λi=>xs.getD i .non) (p.map λi=>us.getD i Value.none)
 |[],_=>.nil
 |i::p,h=>.cons (rY i (h i aH6) r) (xF r λj hj=>h j (aI0 _ hj))
theorem xG {α:Type}:∀l:List α,(l.zip l).map (·.2)=l
 |[]=>rfl
 |a::l=>by
  show a::((l.zip l).map (·.2))=a::l;rw[xG l]
theorem ac3 {prog:ay}{w:bf}{A:ba}{E:ar->aw->Prop}{s:aw}{a:ax}{vs:List ar}{n:Nat}{P:PySem.Fin->aw->Prop}(e:s.heap.get? a=some (seqObj "list" vs.toArray n))(few:vs.length<2)(q:P (.done (.ret .none)) { s with heap:=sortedHeap s.heap a vs vs.toArray }):wpAny (model prog w) A (Builtin.«list.sort» ⟨[.ref a],[]⟩) P E s:=by
 have big:vs.length<=sizeLine:=aK4 (aS1 few) (by decide);have la:=aI3 e;have c:vs.toArray.size<2:=by simpa using few
 have same:(arrOf (SortSt.mk' general' (vs.toArray.zip vs.toArray) #[] 7 none)).map (·.2)=vs.toArray:=by
  change (vs.toArray.zip vs.toArray).map (·.2)=vs.toArray
  apply Array.ext';simpa using xG vs
 obtain⟨k,ek⟩:∃k,(s.heap.update a (Obj.mapSeq λ_=>#[])).get? a=some (seqObj "list" #[] k):=⟨_,get?_update_seq e λ_=>#[]⟩
 have there:(((s.heap.update a (Obj.mapSeq λ_=>#[])).push (seqObj "tuple" vs.toArray 0)).push (seqObj "list" #[] 0)).get? a=some (seqObj "list" #[] k):=
  aH1 _ (aH1 _ ek)
 rw[list_sort_plain];apply aG9;apply listItems_at e rfl;apply aG9;refine listUpdate_at e rfl ?_ (by simpa using big) (aK9 _);apply aG9;apply seqEpoch_at ek rfl;apply aG9;refine wpAny_newTuple ?_ big;apply aG9;refine wpAny_newList ?_ (aK9 _);apply aR0;simp only[c,if_true,StateT.run_pure];apply aG9;apply aH5;apply aG9;apply aH5;apply aG9;apply seqEpoch_at there rfl;apply aG9;refine listUpdate_at there rfl ?_ (aK9 _) (by rw[same,aH7];exact Nat.le_succ_of_le big);rw[same];simp only[bne_self_eq_false,aJ4,aN0];exact aH5 q
theorem ac4 {prog:ay}{w:bf}{A:ba}{E:ar->aw->Prop}{s:aw}{l:ax}{vs:List ar}{Q:ar->aw->Prop}(hl:s.heap.IsList l vs.toArray)(few:vs.length<2)(q:Q (.ref (s.heap.objs.size+1)) { s with heap:=sortedAll s.heap vs vs.toArray }):wpAny (model prog w) A (call (.builtin "sorted") [.ref l]) Q E s:=by
 have big:vs.length<=sizeLine:=aK4 (aS1 few) (by decide);apply Calls.call_function_entry kind_sorted plain_sorted entry_sorted (args_sorted1 _);simp only[Builtin.«sorted»];apply aG9 (m:=checkCount "sorted" 1 1 _);apply aH5;apply aG9;refine collect_list hl ?_ big;apply aG9;refine wpAny_newList ?_ big;have one:((s.heap.push (seqObj "list" #[] 0)).update s.heap.objs.size (Obj.mapSeq (·++vs.toArray))).objs.size=s.heap.objs.size+1:=(Heap.size_update _ _ _).trans (size_push' _ _);have at1:(((s.heap.push (seqObj "list" #[] 0)).update s.heap.objs.size (Obj.mapSeq (·++vs.toArray))).push (seqObj "list" vs.toArray 0)).get? (s.heap.objs.size+1)=some (seqObj "list" vs.toArray 0):=one▸aJ0 _ rfl
 change wpAny _ _ _ _ _ { s with heap:=((s.heap.push (seqObj "list" #[] 0)).update s.heap.objs.size (Obj.mapSeq (·++vs.toArray))).push (seqObj "list" vs.toArray 0) }
 rw[one];apply aG9;apply aR0;refine aO7 slot_list_sort ⟨_,at1,rfl⟩ entry_list_sort ?_ (args_list_sort _);refine ac3 at1 few ⟨_,rfl,?_⟩;exact aH5 ⟨_,rfl,q⟩
theorem xH:∀{a b:ag},HT.b7 a b=true->HT.b7 b a=false
 |[],[],h=>by cases h
 |[],_::_,_=>rfl
 |_::_,[],h=>by cases h
 |x::xs,y::ys,h=>by
  rw[HT.i7]at h ⊢;by_cases e:x=y
  ·rw[if_pos e]at h;rw[if_pos e.symm];exact xH h
  ·rw[if_neg e]at h;rw[if_neg (Ne.symm e)]
   have:=of_decide_eq_true h
   exact aH0 (by omega)
theorem xI:∀{a b c:ag},HT.b7 a b=false->HT.b7 b c=false->HT.b7 a c=false
 |[],[],c,_,h=>h
 |[],_::_,_,h,_=>by cases h
 |_::_,[],[],_,_=>rfl
 |_::_,[],_::_,_,h=>by cases h
 |_::_,_::_,[],_,_=>rfl
 |x::xs,y::ys,z::zs,h1,h2=>by
  rw[HT.i7]at h1 h2 ⊢;by_cases e1:x=y
  ·rw[if_pos e1]at h1
   by_cases e2:y=z
   ·rw[if_pos e2]at h2;rw[if_pos (e1.trans e2)];exact xI h1 h2
   ·rw[if_neg e2]at h2;rw[if_neg (by rw[e1];exact e2)];rw[e1];exact h2
  ·rw[if_neg e1]at h1
   have k1:=of_decide_eq_false h1;by_cases e2:y=z
   ·rw[<- e2,if_neg e1];exact h1
   ·rw[if_neg e2]at h2
    have k2:=of_decide_eq_false h2;rw[if_neg (by omega)];exact aH0 (by omega)
section
variable {prog:ay}{w:bf}{A:ba}{s:aw}{Q:Bool→aw→Prop}
theorem xJ:∀{us ws:List ar}{xs ys:ag} (i:Nat),IntsAre us xs->IntsAre ws ys->Q (HT.b7 xs ys) s->PySem.W.KatLex prog w A true (decide (us.length<ws.length)) Q (us.zip ws) i s
 |_,_,_,_,_,.nil,.nil,h=>h
 |_,_,_,_,_,.nil,.cons _ _ _,h=>h
 |_,_,_,_,_,.cons _ _ _,.nil,h=>h
 |_,_,_,_,i,.cons (vs:=us) x t hx,.cons (vs:=ws) y u hy,h=>by
  refine PySem.W.kat_cons (wpAny_eqBool_int ?_);rw[HT.i7]at h;by_cases e:x=y
  ·rw[if_pos e]at h
   have eb:(x==y)=true:=by simpa using e
   rw[eb];refine PySem.W.kat_yes ?_;have e2:decide ((Value.int x t::us).length<(Value.int y u::ws).length)=decide (us.length<ws.length):=by simp
   rw[e2];exact xJ (i+1) hx hy h
  ·rw[if_neg e]at h
   have eb:(x==y)=false:=by simpa using e
   rw[eb];refine PySem.W.kat_no ?_;cases hi:(true&&i==0) with
   |true=>exact PySem.W.kat_lt_int h
   |false=>exact PySem.W.kat_one _ _ (lt_int h)
end
noncomputable def xK (K:ae):List V->Hp->VK->Prop:=λxs H Q=>∃(a:ax) (ys:List V) (key:V->ag),xs = [.ref a]/\aS K H a ys/\ys.length<64/\(∀y∈ys,∃b,y = .ref b/\aU K H b ((key y).map V.int)/\key y≠[])/\
 ∀l (zs:List V),H l=none->zs.Perm ys->zs.Pairwise (λu v=>HT.b7 (key v) (key u)=false)->Q (.ref l) (upd H l (.lst zs))
theorem ac5 {c:Nat->Nat->Bool}{R:V->V->Prop}{ys:List V}{p:Array Nat}{n:Nat}(hp:Srt.PP n p)(ha:Srt.eN c p n)(hR:∀i j,Srt.Le c i j->R (ys.getD i .non) (ys.getD j .non)) :
  (p.toList.map λi=>ys.getD i .non).Pairwise R:=by
 rw[List.pairwise_map,List.pairwise_iff_getElem];intro i j hi hj hij;have hs:=hp.size;have h1:i<n:=by rw[<- hs];simpa using hi
 have h2:j<n:=by rw[<- hs];simpa using hj
 have q:=ha i j (aS1 hij) h2;have e:∀k (hk:k<p.toList.length),Srt.G p k=p.toList[k]:=λk hk=>by
  have hk':k<p.size:=by simpa using hk
  unfold Srt.G;rw[aQ9];simp[hk']
 rw[e i hi,e j hj]at q;exact hR _ _ q
theorem ac6 {X:Cx}:cH X (.builtin "sorted") (xK X.K):=by
 intro ah s σ H xs us Q I r h
 obtain⟨a,ys,key,rfl,hs,h64,hk,q⟩:=h
 obtain⟨u,rfl,ru⟩:=e8 r
 cases ru
 obtain⟨its,rv,p,hz⟩:=I.list hs
 have hl:=rv.length;by_cases h2:its.length<2
 ·
  refine ac4 p.isList h2 ?_
  obtain⟨e,he⟩:=sortedAll_at s.heap its its.toArray
  have hn:s.heap.objs.size<=s.heap.objs.size+1:=Nat.le_succ _;refine⟨.ref (s.heap.objs.size+1),upd H (s.heap.objs.size+1) (.lst ys),I.laid (t':=s.toks) (λ_ _=>sortedAll_old) hn ⟨hz,its,e,rv,he⟩,rfl,q _ ys (I.hok.fresh hn) (List.Perm.refl _) ?_⟩
  match ys,hl with
  |[],_=>exact List.Pairwise.nil
  |[_],_=>exact List.pairwise_singleton _ _
  |_::_::_,hl=>simp at hl;omega
 ·obtain⟨m,F⟩:=I.fr
  have hL:∀{b:ax}{k:ag},aU X.K H b (k.map V.int)->b≠X.env.locals:=λ{b k} z e=>by
   obtain⟨its',_,⟨ob,e1,c1,_⟩,_⟩:=I.tuple z
   obtain⟨m',⟨o',es',ep',e2,d2,_⟩,_⟩:=I.loc
   rcases z with (z|⟨_,z⟩)|⟨o3,its3,n3,z3,zc,zd,_⟩
   ·rw[e,I.free]at z;cases z
   ·rw[e,I.free]at z;cases z
   ·have:=I.kIn b o3 z3
    rw[e,e2]at this;cases this;rw[d2]at zd;cases zd
  refine PySem.W.kat_sorted F (Q3 (g:=X.base) (h:=s.heap) (L:=X.env.locals)) p.isList (by omega) (by omega) λD e1 h' F' N' hD=>?_
  have keep:=I.newsAll (λp hp=>aI0 _ hp) F' N';have look:∀i,i<ys.length->∃(b:ax) (ob:Obj) (us:List ar) (n:Nat),its.getD i Value.none = .ref b/\h'.get? b=some ob/\ob.cls = .type "tuple"/\ob.data = .seq us.toArray n/\IntsAre us (key (ys.getD i .non))/\key (ys.getD i .non)≠[]:=λi hi=>by
   have hy:ys.getD i .non∈ys:=by
    rw[aK0,aH2 hi];exact aO8 hi
   obtain⟨b,eb,sq,ne⟩:=hk _ hy
   have rr:=rY i hi rv;rw[eb]at rr;have rr:its.getD i Value.none = .ref b:=rr
   obtain⟨us,ru,⟨ob,e1,c1,n1,d1⟩,_⟩:=I.tuple sq
   exact⟨b,ob,us,n1,rr,keep b ob (hL sq) e1,c1,d1,jU ru,ne⟩
  have firsts:∀{xs:List V}{vs:List ar},aO xs vs->(∀y∈xs,∃b,y = .ref b/\aU X.K H b ((key y).map V.int)/\key y≠[])->∃fs:List ar,PySem.W.KatTups h' vs fs/\fs.length=vs.length/\∀v∈fs,∃i t,v=Value.int i t:=by
   intro xs vs r
   induction r with
   |nil=>intro _;exact⟨[],PySem.W.KatTups.nil,rfl,λ_ z=>nomatch z⟩
   |@cons x v xs vs rx rt ih=>
    intro hh
    obtain⟨fs,t1,t2,t3⟩:=ih λy hy=>hh y (aI0 _ hy)
    obtain⟨b,eb,sq,ne⟩:=hh x aH6
    subst eb;cases rx
    obtain⟨us,ru,⟨ob,e1,c1,n1,d1⟩,_⟩:=I.tuple sq
    have ia:=jU ru;generalize key (V.ref b)=kk at ia ne;cases ia with
    |nil=>exact absurd rfl ne
    |@cons n t vs0 ns0 ht=>
     exact⟨Value.int n t::fs,PySem.W.KatTups.cons (keep b ob (hL sq) e1) c1 d1 (by simp) t1,by simp[t2],λv hv=>(aI1.mp hv).elim (λz=>⟨n,t,z⟩) (t3 v)⟩
  obtain⟨fs,t1,t2,t3⟩:=firsts rv hk
  refine PySem.W.kat_kind (T:=.type "int") t1 (by omega) (λv hv=>?_) (by decide) ?_
  ·obtain⟨i,t,rfl⟩:=t3 v hv
   exact PySem.W.Looks.now
  let c:Nat->Nat->Bool:=λi j=>HT.b7 (key (ys.getD i .non)) (key (ys.getD j .non))
  have O:Srt.rU c:=⟨λh=>xH h,λh1 h2=>xI h1 h2⟩;have ok:=Srt.ac1 (n:=its.length) O (by omega);refine Srt.bV.run (I:=λs'=>s'={ s with heap:=h' }) (λi j C s' hi hj hI hC=>?_) (λpa s' hR hI=>?_) _ _ rfl ok
  ·subst hI
   obtain⟨b1,o1,u1,n1,g1,g2,_,g4,g5,_⟩:=look i (by omega)
   obtain⟨b2,o2,u2,n2,k1,k2,_,k4,k5,_⟩:=look j (by omega)
   show wpAny _ _ (keyLt' (tuples' (Value.type "int" != Value.type "tuple")) (its.getD i Value.none) (its.getD j Value.none)) _ _ _;rw[g1,k1];have eT:(Value.type "int" != Value.type "tuple")=true:=by decide
   rw[eT];refine PySem.W.kat_lt g2 g4 k2 k4 ?_
   have:=xJ (prog:=X.prog) (w:=X.w) (A:=X.A.in1.in1) (s:={ s with heap:=h' }) (Q:=C) 0 g5 k5 (hC _ rfl)
   simpa using this
  ·subst hI
   obtain⟨hp,hasc⟩:=hR
   refine PySem.W.KasFin.intro F' N' (PySem.W.UpdF.head λp hp=>aL1 (hD p hp)) λh2 cc F2 N2=>?_
   have keep2:=I.newsAll (λp hp=>aI0 _ hp) F2 N2;have hDn:s.heap.get? D=none:=by
    cases z:s.heap.get? D with
    |none=>rfl
    |some o=>
     obtain⟨_,n1,n2⟩:=N2 (D,_) aH6
     exact absurd (hD _ (uP n1 n2 z)) (aL3 _)
   have hpl:∀i∈pa.toList,i<ys.length:=λi hi=>by
    have:=aS8.mp (hp.mem_iff.mp hi);omega
   have hp':pa.toList.Perm (List.range ys.length):=by rw[hl];exact hp
   have pm:=ac2 (d:=V.non) ys hp'
   obtain⟨hDo,hDL,hDb⟩:=N2 (D,_) aH6
   obtain⟨hHD,I2⟩:=I.laidF (t':=s.toks) (a:=D) (o:=.lst (pa.toList.map λi=>ys.getD i .non)) hDn keep2 (λm' hm'=>by
     have e:m'=m:=funext λnm=>Heap.Ns.agree hm' F.ns nm
     rw[e];exact F2.ns) ⟨by rw[pm.length_eq];exact hz,_,cc,xF rv hpl,hDo⟩
   exact⟨.ref D,_,I2,rfl,q D _ hHD pm (ac5 hp hasc λi j hle=>hle)⟩
end L2
namespace Raw
open PySem PySem.W PySem.Calls PyProof.Rows
noncomputable def fG (h:Heap)(d:ax)(es:Array DictEntry)(ep:Nat):Prop:=∃o,h.get? d=some o/\o.ExactDict/\o.data = .dict es ep
theorem fG.ty {s:aw}{d:ax}{es:Array DictEntry}{ep:Nat}(x:fG s.heap d es ep):s.TypeIs (.ref d) "dict":=x.elim λo y=>⟨o,y.1,y.2.1.1⟩
theorem fG.lt {h:Heap}{d:ax}{es:Array DictEntry}{ep:Nat}(x:fG h d es ep):d<h.objs.size:=x.elim λ_ y=>aI3 y.1
theorem fG.keep {h h':Heap}{d:ax}{es:Array DictEntry}{ep:Nat}(x:fG h d es ep)(k:∀o,h.get? d=some o->h'.get? d=some o):fG h' d es ep:=x.elim λo y=>⟨o,k o y.1,y.2⟩
section
variable {prog:ay}{w:bf}{A:ba}{E:ar→aw→Prop}{s:aw}{d it:ax}{es:Array DictEntry}{ep i:Nat}
theorem made (far:(d==sysModules)=false)(x:fG s.heap d es ep){Q:ar->aw->Prop}(q:Q (.ref s.heap.objs.size) { s with heap:=s.heap.push { cls:=.type "dict_keyiterator",data:=.fields #[.ref d,.int 0 0,.int es.size 0,.int ep 0] } }):wpAny (model prog w) A (pyIter (.ref d)) Q E s:=by
 have T:=x.ty
 obtain⟨o,e1,e2,e3⟩:=x
 apply wpAny_pyIter_slot T PySem.F.slot_dict_iter;apply aO7 PySem.F.slot_dict_iter T PySem.F.entry_dict_iter _ (PySem.F.args_dict_iter_1 _);simp only[Builtin.«dict.__iter__»,Builtin.Dict.dictSlotNone];apply aG9;apply aG9;apply wpAny_notOrdered_dict T;apply aH5
 change wpAny _ _ (Builtin.Dict.showsAll d >>= _) _ _ s
 have far':Builtin.Dict.showsAll d=pure ():=by
  unfold Builtin.Dict.showsAll;simp only[far,aJ4,aN0]
 rw[far',pure_bind];apply aG9;apply wpAny_dictEntries e1 e3;apply aG9;apply wpAny_dictEpoch e1 e3;apply aG9;refine aM6 (aH5 ?_);refine⟨.ref s.heap.objs.size,rfl,"dict_keyiterator",_,⟨_,aJ0 _ rfl,rfl⟩,PySem.F.slot_dict_keyiterator_next.lookup,?_⟩;simpa only[rawInt] using q
theorem turn (hh:A.handled=none)(hi:s.heap.IsKeyIter it d i es.size ep)(x:fG s.heap d es ep){Q:Option ar->aw->Prop}(yes:∀(lt:i<es.size) h',h'.IsKeyIter it d (i+1) es.size ep->Heap.SameBut it s.heap h'->Q (some es[i].key) { s with heap:=h' })(no:es.size<=i->∀h',Heap.ExtBut it s.heap h'->Q none { s with heap:=h' }):wpAny (model prog w) A (pyNext (.ref it)) Q E s:=by
 have T:=hi.typeIs
 obtain⟨oi,f1,f2,f3⟩:=hi
 obtain⟨o,e1,e2,e3⟩:=x
 have slot:=PySem.F.slot_dict_keyiterator_next;have plain:Builtin.Dict_items.ownsTuple "dict_keyiterator" = false:=by decide
 have isref:(Value.ref d==Value.none)=false:=rfl;have nn:¬(i:Int)<0:=by omega
 unfold pyNext;apply aG9;apply wpAny_attempt;apply aN3 (name:=Str.ofString "__next__") T slot;apply aO7 slot T PySem.F.entry_dict_keyiterator_next _ (PySem.F.args_dict_keyiterator_next_1 _);apply aG9;apply aH5;apply aG9;apply aG9;apply aG9
 first
  |apply wpAny_typeNameOfWhole_keyiter T
  |apply wpAny_typeNameOf_keyiter T
 apply aH5;apply aG9;apply wpAny_fieldsOf f1 f3;simp only[plain,aJ4,aN0]
 change wpAny _ _ (if (Value.ref d==Value.none)=true then _ else _) _ _ s
 have adr:Builtin.Dict_items.addrOf (Value.ref d)=pure d:=rfl;simp only[isref,aJ4,aN0,adr,pure_bind];apply aG9;apply wpAny_dictEntries e1 e3;simp only[bne_self_eq_false,aJ4,aN0];apply aG9;apply wpAny_dictEpoch e1 e3;simp only[bne_self_eq_false,aJ4,aN0];apply aH5;simp only[nn,aN0,Int.toNat_natCast];by_cases lt:i<es.size
 ·simp only[Array.getElem?_eq_getElem lt]
  apply aG9;apply aG9
  first
   |apply wpAny_typeNameOfWhole_keyiter T
   |apply wpAny_typeNameOf_keyiter T
  apply aH5;apply aG9;apply wpAny_isOneOf_keyiter T
  change wpAny _ _ (setField (.ref it) 1 (rawInt ((i:Int)+1)) >>= _) _ _ s
  apply aG9;refine wpAny_setField f1 f3 (by simp) ?_;have again:(s.heap.update it (Obj.mapFields (·.setIfInBounds 1 (rawInt ((i:Int)+1))))).IsKeyIter it d (i+1) es.size ep:=by
   refine⟨_,aR8 _ f1 (Obj.isFreed_of_fields (aR4 f3 _)),?_,?_⟩
   ·rw[Obj.cls_mapFields];exact f2
   ·rw[aR4 f3];simp[rawInt]
  apply aG9;apply aR0;apply aG9;refine wpAny_isOneOf_keyiter (s:={ s with heap:=s.heap.update it (Obj.mapFields (·.setIfInBounds 1 (rawInt ((i:Int)+1)))) }) again.typeIs ?_
  change wpAny _ _ (pure es[i].key) _ _ _
  apply aH5;apply aH5
  exact⟨es[i].key,rfl,aH5 (yes lt _ again (Heap.SameBut.update ..))⟩
 ·have ge:es.size<=i:=Nat.le_of_not_lt lt
  simp only[Array.getElem?_eq_none ge];apply aG9;apply aG9
  first
   |apply wpAny_typeNameOfWhole_keyiter T
   |apply wpAny_typeNameOf_keyiter T
  apply aH5
  change wpAny _ _ (setField (.ref it) 0 .none >>= _) _ _ s
  apply aG9;refine wpAny_setField f1 f3 (by simp) ?_;apply aG9;simp only[newExc,newTuple];apply aG9;refine aM6 ?_ (by size_fits);apply aG9;refine wpAny_of_eq (a:=Value.none) (by first|rfl|(simp only[firstArgMember];rfl)) ?_;refine aM6 ?_ (by size_fits);unfold raiseNew;apply aG9;apply wpAny_handled;have quiet:A.in1.handled=none:=hh;rw[quiet];refine wpAny_throw ?_;apply aG9;refine wpAny_isInstance (T:="StopIteration") (b:=true) ⟨_,aJ0 _ rfl,rfl⟩ isSubtype_stop ?_;exact aH5 (no ge _ (((Heap.SameBut.update ..).extBut.push _).push _))
theorem ac7 (hh:A.handled=none)(ne:d≠it):Walks prog w A it [it,d] [it] es.size (λi v=>∃lt:i<es.size,es[i].key=v) (λi h=>h.IsKeyIter it d i es.size ep/\fG h d es ep) where
 sub:=by intro b hb;rw[aI2.mp hb];exact aH6
 frame:=by
  intro i h h' st hk
  exact⟨st.1.at (hk it aH6),st.2.keep (hk d (aI0 _ aH6))⟩
 item:=by
  intro i s Q E lt st hQ;refine turn hh st.1 st.2 (λlt' h' again sb=>?_) λge=>absurd lt (Nat.not_lt.mpr ge)
  exact hQ _ h' s.toks ⟨lt',rfl⟩ ⟨again,st.2.keep λo e=>sb.extBut d o ne e⟩ λb o hb e=>sb.extBut b o (λz=>hb (aI2.mpr z)) e
 done:=by
  intro s Q E st hQ;refine turn hh st.1 st.2 (λlt=>absurd lt (aL3 _)) λ_ h' eb=>?_
  exact hQ h' s.toks λb o hb e=>eb b o (λz=>hb (aI2.mpr z)) e
 self:=by intro i s Q E st hQ;exact wpAny_pyIter_keyiter st.1 hQ
theorem ac8 (far:(d==sysModules)=false):KdlSrc prog w "dict" d d es.size (λi v=>∃lt:i<es.size,es[i].key=v) (λh=>fG h d es ep) where
 type:=λ_ x=>x.ty
 there:=λ_ x=>⟨x.lt,x.lt⟩
 keep:=λ_ _ x k=>x.keep (k d (.inl rfl))
 notList:=by decide
 notTuple:=by decide
 hint:=λ_ _ _ _ x q=>kdl_hint_dict x.ty q
 iter:=λ_ _ hh x=>⟨_,_,λ_ _ q=>made far x q,ac7 hh (aL1 x.lt),⟨_,aJ0 _ rfl,rfl,rfl⟩,x.keep λo e=>aH1 _ e⟩
end
end Raw
namespace L2
open PySem PySem.Spec PyProof.Rows
section
variable {X:Cx}{ah:List (ax×Obj)}{σ:St}{H:Hp}{s:aw}{a:ax}
noncomputable def oQ (H:Hp)(y:V)(k:List aN):Prop:=∃q,y = .ref q/\H q=some (.tup (k.map kV))
theorem ac9 {kvs:List (List aN×V)}(I:a6 X ah σ H s)(h:H a=some (.dT kvs)):∃es ep ys,Raw.fG s.heap a es ep/\(a==sysModules)=false/\Paired (oQ H) ys (kvs.map (·.1))/\aO ys (es.toList.map (·.key))/\kvs.length<=sizeLine:=by
 obtain⟨z,far,xs,rel,o,es,ep,e1,e2,e3,e4,nd⟩:=(show bO X.prog X.w H s.heap a (.dT kvs) from I.hok a _ h)
 refine⟨es,ep,xs.map λq=>V.ref q.2.1,⟨o,e1,e2,e3⟩,far,?_,?_,z⟩
 ·clear e4 nd h z
  induction rel with
  |nil=>exact .nil
  |cons r rs ih=>exact .cons ⟨_,rfl,r.2.1⟩ ih
 ·rw[e4]
  clear rel e4 nd
  induction xs with
  |nil=>exact .nil
  |cons q qs ih=>exact .cons rfl ih
theorem ad0 {es:Array DictEntry}{acc:Array ar}(h:ItemsOf (λi v=>∃lt:i<es.size,es[i].key=v) acc es.size):acc.toList=es.toList.map (·.key):=by
 apply List.ext_getElem?;intro j;have h1:=h.1;by_cases hj:j<es.size
 ·have hj':j<acc.size:=by rw[h1];exact hj
  obtain⟨_,e⟩:=h.2 j acc[j] (by simp[hj'])
  rw[aI8];simp[hj,hj',e]
 ·have hj':¬j<acc.size:=by rw[h1];exact hj
  rw[aI8];simp[Nat.le_of_not_lt hj,Nat.le_of_not_lt hj']
theorem ad1 (hc:X.calm=true):cH X (.type "list") (λxs H Q=>∃a kvs,xs = [.ref a]/\H a=some (.dT kvs)/\∀l ys,H l=none->Paired (oQ H) ys (kvs.map (·.1))->Q (.ref l) (upd H l (.lst ys))):=by
 intro ah s σ H xs us Q I r h
 obtain⟨a,kvs,rfl,ha,q⟩:=h
 obtain⟨u,rfl,ru⟩:=e8 r
 cases ru
 obtain⟨es,ep,ys,rd,far,pk,vk,z⟩:=ac9 I ha
 have hl:=vk.length;have hl2:=pk.length;rw[aH4]at hl hl2;have hsz:es.toList.length=es.size:=aN2;refine PySem.W.kdl_call (Raw.ac8 far) (I.ok.hd hc) rd (by omega) λh' tk acc c kp e it=>?_
 refine⟨.ref s.heap.objs.size,_,I.laid (t':=tk) kp (aH9 _) (show bO X.prog X.w _ h' _ (.lst ys) from ⟨by omega,acc.toList,c,by rw[ad0 it];exact vk,by simpa using e⟩),rfl,q _ ys (I.hok.fresh (aH9 _)) pk⟩
end
section
variable {X:Cx}
theorem ad2:cH X (.builtin "isinstance") (λxs H Q=>∃x t n b,xs = [x,.ty n]/\eL X.K H x t/\PySem.W.kitOne X.K t (.type n)=some b/\Q (.bl b) H):=by
 intro ah s σ H xs us Q I r h
 obtain⟨x,t,n,b,rfl,ty,e,q⟩:=h
 obtain⟨u,u',rfl,ru,ru'⟩:=mC r
 cases ru';exact V5 I ru ty e λtk=>⟨.bl b,H,I.tok tk,rfl,q⟩
end
noncomputable def xL (outer:List (Str×NameKind))(XN:List Str)(names:List (Str×NameKind))(N:List Str)(fr:List (Option Nat)):Bool:=
 names.all (λy=>!(y.2==.cell)||names.lookup y.1==some .cell)&&names.all (λy=>!(y.2==.local)||names.lookup y.1==some .local) &&
 names.all (λy=>!(y.2==.free)||(outer.lookup y.1==some .cell||outer.lookup y.1==some .free))&&fr.length==N.length &&
 (fr.zip N).all (λp=>match p.1 with
  |none=>true
  |some j=>XN[j]?==some p.2&&names.lookup p.2==some .free)
theorem cQ.of {X:Cx}{scope:Scope}{N:List Str}{fr:List (Option Nat)}(hk:scope.kind = .function)(h:xL X.env.scope.names X.N scope.names N fr=true):cQ X scope N fr:=by
 unfold xL at h;simp only[aK2]at h
 obtain⟨⟨⟨⟨h1,h2⟩,h3⟩,h4⟩,h5⟩:=h
 refine⟨hk,λy hy e=>?_,λy hy e=>?_,λy hy e=>?_,by simpa using h4,λi j e=>?_⟩
 ·have:=aM5.mp h1 y hy
  rw[e]at this;simpa using this
 ·have:=aM5.mp h2 y hy
  rw[e]at this;simpa using this
 ·have:=aM5.mp h3 y hy
  rw[e]at this;simpa using this
 ·have hl:fr.length=N.length:=by simpa using h4
  have hi:i<fr.length:=(aI4.mp e).1;have m:(some j,N[i]'(by omega))∈fr.zip N:=by
   have:(fr.zip N)[i]? = some (some j,N[i]'(by omega)):=by
    rw[List.getElem?_zip_eq_some]
    exact⟨e,by simp⟩
   exact aJ9 this
  have:=aM5.mp h5 _ m
  simp only[aK2,beq_iff_eq]at this
  exact⟨N[i]'(by omega),by simp,this.1,this.2⟩
noncomputable def xM (ls:aa)(k:Int):ag:=ls.flatMap λl=>(if l.1=k then [l.2] else [])++(if l.2=k then [l.1] else [])
theorem lB {α:Type}{xs:List α}{i:Int}{v:α}(h0:0<=i)(h:xs[i.toNat]? = some v):atI xs i=some v:=by
 have:=mD h
 rwa [show ((i.toNat:Nat):Int)=i by omega]at this
theorem oR {n:Nat}(h:n<=16000000):n<sizeLine:=by rw[aS2];omega
theorem rZ {K:ae}{H:Hp}{p:ax}{xs:List V}(h:aS K H p xs):g6 K "list" (.ref p) H:=.inl ⟨rfl,xs,h⟩
end L2
namespace Zp
open PySem PyProof.Rows
section
variable {prog:ay}{w:bf}{A:ba}{E:ar→aw→Prop}{s:aw}
theorem ad3 {it t:ax}{i:Nat}{items:Array ar}{x:ar}{Q:ar->aw->Prop}(hi:s.heap.IsTupleIter it t i)(ht:s.heap.IsTuple t items)(hx:items[i]? = some x)(q:∀h',h'.IsTupleIter it t (i+1)->Heap.SameBut it s.heap h'->Q x { s with heap:=h' }):wpAny (model prog w) A (Builtin.SmallTypes.nextOf (.ref it)) Q E s:=by
 have T:=hi.typeIs
 obtain⟨o,e1,e2,e3⟩:=hi
 obtain⟨u,f1,_,k,f3⟩:=ht
 have slot:=PySem.F.slot_tuple_iterator_next;have isref:(Value.ref t==Value.none)=false:=rfl;unfold Builtin.SmallTypes.nextOf;apply aG9;apply aN3 (name:=Str.ofString "__next__") T slot;apply aO7 slot T PySem.F.entry_tuple_iterator_next _ (PySem.F.args_tuple_iterator_next_1 _)
 change wpAny _ _ (field (.ref it) 0 >>= _) _ _ s
 apply aG9;refine aM7 e1 e3 (x:=.ref t) rfl ?_
 change wpAny _ _ (if (Value.ref t==Value.none)=true then _ else _) _ _ s
 simp only[isref,aJ4,aN0]
 change wpAny _ _ (field (.ref it) 1 >>= _) _ _ s
 apply aG9;refine aM7 e1 e3 (x:=.int i 0) rfl ?_
 change wpAny _ _ (seqItems? (.ref t) >>= _) _ _ s
 apply aG9;apply aO3 f1 f3;simp only[Int.toNat_natCast,hx];apply aG9;refine wpAny_setField e1 e3 (by simp) ?_;apply aH5;refine⟨x,rfl,aH5 (q _ ⟨_,aR8 _ e1 (Obj.isFreed_of_fields (aR4 e3 _)),?_,?_⟩ (Heap.SameBut.update ..))⟩
 ·rw[Obj.cls_mapFields];exact e2
 ·rw[aR4 e3];simp[rawInt]
theorem ad4 {it t:ax}{i:Nat}{items:Array ar}{Q:ar->aw->Prop}(hh:A.handled=none)(hi:s.heap.IsTupleIter it t i)(ht:s.heap.IsTuple t items)(hx:items[i]? = none)(q:∀h' e,Heap.ExtBut it s.heap h'->(∃o,h'.get? e=some o/\o.cls = .type "StopIteration")->E (.ref e) { s with heap:=h' }):wpAny (model prog w) A (Builtin.SmallTypes.nextOf (.ref it)) Q E s:=by
 have T:=hi.typeIs
 obtain⟨o,e1,e2,e3⟩:=hi
 obtain⟨u,f1,_,k,f3⟩:=ht
 have slot:=PySem.F.slot_tuple_iterator_next;have isref:(Value.ref t==Value.none)=false:=rfl;unfold Builtin.SmallTypes.nextOf;apply aG9;apply aN3 (name:=Str.ofString "__next__") T slot;apply aO7 slot T PySem.F.entry_tuple_iterator_next _ (PySem.F.args_tuple_iterator_next_1 _)
 change wpAny _ _ (field (.ref it) 0 >>= _) _ _ s
 apply aG9;refine aM7 e1 e3 (x:=.ref t) rfl ?_
 change wpAny _ _ (if (Value.ref t==Value.none)=true then _ else _) _ _ s
 simp only[isref,aJ4,aN0]
 change wpAny _ _ (field (.ref it) 1 >>= _) _ _ s
 apply aG9;refine aM7 e1 e3 (x:=.int i 0) rfl ?_
 change wpAny _ _ (seqItems? (.ref t) >>= _) _ _ s
 apply aG9;apply aO3 f1 f3;simp only[Int.toNat_natCast,hx];apply aG9;apply wpAny_rule;apply aG9;refine wpAny_setField e1 e3 (by simp) ?_;apply aG9;simp only[newExc,newTuple];apply aG9;refine aM6 ?_ (by size_fits);apply aG9;refine wpAny_of_eq (a:=Value.none) (by first|rfl|(simp only[firstArgMember];rfl)) ?_;refine aM6 ?_ (by size_fits);unfold raiseNew;apply aG9;apply wpAny_handled;have quiet:A.in1.handled=none:=hh;rw[quiet];refine wpAny_throw ?_;exact q _ _ (((Heap.SameBut.update ..).extBut.push _).push _) ⟨_,aJ0 _ rfl,rfl⟩
theorem ad5 (hh:A.handled=none)(it t:ax)(ne:t≠it)(items:Array ar):Draws prog w A it [it,t] items.size (λi v=>items[i]? = some v) (λi h=>h.IsTupleIter it t i/\h.IsTuple t items) where
 live:=λ_ _ st=>st.1.elim λo y=>⟨o,y.1⟩
 frame:=λ_ _ _ st k=>⟨st.1.at λo e=>k it aH6 o e,st.2.elim λo y=>⟨o,k t (aI0 _ aH6) o y.1,y.2⟩⟩
 item:=λi s Q E lt st q=>ad3 st.1 st.2 (Array.getElem?_eq_getElem lt) λh' again sb=>q _ h' s.toks (Array.getElem?_eq_getElem lt) ⟨again,st.2.elim λo y=>⟨o,sb.extBut t o ne y.1,y.2⟩⟩ sb
 done:=λs Q E st q=>ad4 hh st.1 st.2 (Array.getElem?_eq_none (aH9 _)) q
end
structure Ap (z TI TO i1 i2:ax)(fp1 fp2:List ax):Prop where
 TIz:TI≠z
 TOz:TO≠z
 TITO:TI≠TO
 z1:z∉fp1
 z2:z∉fp2
 o1:TO∉fp1
 o2:TO∉fp2
 t1:TI∉fp1
 t2:TI∉fp2
 m1:i1∈fp1
 m2:i2∈fp2
 n1:i1∉fp2
 n2:i2∉fp1
structure sA (z TI TO i1 i2:ax)(St1 St2:Nat->Heap->Prop)(f0:ar)(i j:Nat)(h:Heap):Prop where
 zz:IsZip h z TI TO f0
 ti:IsPair h TI (.ref i1) (.ref i2)
 to_:∃a b,IsPair h TO a b
 s1:St1 i h
 s2:St2 j h
section
variable {prog:ay}{w:bf}{A:ba}{E:ar→aw→Prop}{s:aw}{z TI TO i1 i2:ax}{fp1 fp2:List ax}{n1 n2:Nat}{P1 P2:Nat→ar→Prop}{St1 St2:Nat→Heap→Prop}
theorem iB (ap:Ap z TI TO i1 i2 fp1 fp2){b:ax}(h:b∉fp1):b≠i1:=λe=>h (e▸ap.m1)
theorem oS (ap:Ap z TI TO i1 i2 fp1 fp2){b:ax}(h:b∉fp2):b≠i2:=λe=>h (e▸ap.m2)
theorem item (D1:Draws prog w A.in1 i1 fp1 n1 P1 St1)(D2:Draws prog w A.in1 i2 fp2 n2 P2 St2)(ap:Ap z TI TO i1 i2 fp1 fp2){i:Nat}(l1:i<n1)(l2:i<n2)(st:sA z TI TO i1 i2 St1 St2 .none i i s.heap){Q:Option ar->aw->Prop}(q:∀x y h' tk,P1 i x->P2 i y->sA z TI TO i1 i2 St1 St2 (rawInt s.heap.objs.size) (i+1) (i+1) h'->IsPair h' s.heap.objs.size x y->(∀c o,c≠z->c≠TO->c≠i1->c≠i2->s.heap.get? c=some o->h'.get? c=some o)->
   h'.objs.size=s.heap.objs.size+1->Q (some (.ref s.heap.objs.size)) { s with heap:=h',toks:=tk }):wpAny (model prog w) A (pyNext (.ref z)) Q E s:=by
 obtain⟨hz,hti,⟨a,b,hto⟩,h1,h2⟩:=st
 have T:s.TypeIs (.ref z) "zip":=⟨_,hz,rfl⟩;have slot:=PySem.F.slot_zip_next;unfold pyNext;apply aG9;apply wpAny_attempt;apply aN3 (name:=Str.ofString "__next__") T slot;apply aO7 slot T PySem.F.entry_zip_next _ (PySem.F.args_zip_next_1 _)
 change wpAny _ _ (field (.ref z) 2 >>= _) _ _ _
 apply aG9;refine aM7 hz rfl (x:=.bool false) rfl ?_
 change wpAny _ _ (field (.ref z) 3 >>= _) _ _ _
 apply aG9;refine aM7 hz rfl (x:=.ref TI) rfl ?_;apply aG9;apply aO3 hti rfl
 change wpAny _ _ (Builtin.SmallTypes.ownedTupleIsFree (.ref z) >>= _) _ _ _
 apply aG9;unfold Builtin.SmallTypes.ownedTupleIsFree;apply aG9;refine aM7 hz rfl (x:=.none) rfl (aH5 ?_);simp only[if_true];apply aG9;apply wpAny_rule;apply aG9;refine aM7 hz rfl (x:=.ref TO) rfl ?_;apply aG9;refine aR5 hz (by simp) λg1 hz1 sb1=>?_
 have k1:∀c o,c≠z->s.heap.get? c=some o->g1.get? c=some o:=λc o c1 e=>sb1.extBut c o c1 e
 apply aG9;simp only[List.zipIdx_cons,List.zipIdx_nil,List.forIn_cons,List.forIn_nil];apply aG9;apply aG9;apply wpAny_onRaise
 change wpAny _ _ (Builtin.SmallTypes.nextOf (.ref i1) >>= _) _ _ _
 apply aG9;refine D1.item i { s with heap:=g1 } _ _ l1 (D1.frame _ _ _ h1 λc hc o e=>k1 c o (λy=>ap.z1 (y▸hc)) e) λx g2 tk2 px st1 sb2=>aH5 ?_
 have k2:∀c o,c≠z->c≠i1->s.heap.get? c=some o->g2.get? c=some o:=λc o c1 c2 e=>sb2.extBut c o c2 (k1 c o c1 e)
 have to2:IsPair g2 TO a b:=k2 _ _ ap.TOz (iB ap ap.o1) hto;apply aG9;apply aO3 to2 rfl;apply aG9;refine wpAny_updateSeq_pair to2 λg3 to3 sb3=>?_
 have to3:IsPair g3 TO x b:=to3;apply aG9;apply wpAny_letGo;apply aH5;apply aG9;apply aG9;apply wpAny_onRaise
 change wpAny _ _ (Builtin.SmallTypes.nextOf (.ref i2) >>= _) _ _ _
 apply aG9;have k3:∀c o,c≠z->c≠i1->c≠TO->s.heap.get? c=some o->g3.get? c=some o:=λc o c1 c2 c3 e=>sb3.extBut c o c3 (k2 c o c1 c2 e)
 refine D2.item i { s with heap:=g3,toks:=tk2 } _ _ l2 (D2.frame _ _ _ h2 λc hc o e=>k3 c o (λy=>ap.z2 (y▸hc)) (λy=>ap.n1 (y▸hc)) (λy=>ap.o2 (y▸hc)) e) λy g4 tk4 py st2 sb4=>aH5 ?_
 have to4:IsPair g4 TO x b:=sb4.extBut _ _ (oS ap ap.o2) to3;apply aG9;apply aO3 to4 rfl;apply aG9;refine wpAny_updateSeq_pair to4 λg5 to5 sb5=>?_
 have to5:IsPair g5 TO x y:=to5;apply aG9;apply wpAny_letGo;apply aH5;apply aH5;apply aG9;apply aO3 to5 rfl;apply aG9;refine wpAny_newTuple ?_ (by show 2<=sizeLine;decide);have size:g5.objs.size=s.heap.objs.size:=by rw[sb5.1,sb4.1,sb3.1,sb2.1,sb1.1]
 have k5:∀c o,c≠z->c≠TO->c≠i1->c≠i2->s.heap.get? c=some o->g5.get? c=some o:=λc o c1 c2 c3 c4 e=>sb5.extBut c o c2 (sb4.extBut c o c4 (k3 c o c1 c3 c2 e))
 have z5:IsZip g5 z TI TO .ellipsis:=sb5.extBut _ _ (Ne.symm ap.TOz) (sb4.extBut _ _ (oS ap ap.z2) (sb3.extBut _ _ (Ne.symm ap.TOz) (sb2.extBut _ _ (iB ap ap.z1) hz1)))
 change wpAny _ _ (Builtin.SmallTypes.ownedTupleHandOut (.ref z) (.ref g5.objs.size) >>= _) _ _ _
 apply aG9;unfold Builtin.SmallTypes.ownedTupleHandOut;apply aG9;have z6:IsZip (g5.push { cls:=.type "tuple",data:=.seq #[x,y] }) z TI TO .ellipsis:=aH1 _ z5;refine aR5 z6 (by simp) λg7 z7 sb7=>?_
 have z7:IsZip g7 z TI TO (rawInt g5.objs.size):=z7;refine aR5 z7 (by simp) λg8 z8 sb8=>?_
 have z8:IsZip g8 z TI TO (rawInt g5.objs.size):=z8;have zlt:z<g5.objs.size:=aI3 z5;have up:∀c o,c≠z->g5.get? c=some o->g8.get? c=some o:=λc o c1 e=>sb8.extBut c o c1 (sb7.extBut c o c1 (aH1 _ e))
 have p8:IsPair g8 g5.objs.size x y:=sb8.extBut _ _ (aP1 zlt) (sb7.extBut _ _ (aP1 zlt) (aJ0 _ rfl));have s8:g8.objs.size=g5.objs.size+1:=by rw[sb8.1,sb7.1,aQ3]
 have f1:St1 (i+1) g8:=D1.frame _ _ _ st1 λc hc o e=>up c o (λy=>ap.z1 (y▸hc)) (sb5.extBut c o (λy=>ap.o1 (y▸hc)) (sb4.extBut c o (λy=>ap.n2 (y▸hc)) (sb3.extBut c o (λy=>ap.o1 (y▸hc)) e)))
 have f2:St2 (i+1) g8:=D2.frame _ _ _ st2 λc hc o e=>up c o (λy=>ap.z2 (y▸hc)) (sb5.extBut c o (λy=>ap.o2 (y▸hc)) e)
 have ti8:IsPair g8 TI (.ref i1) (.ref i2):=up _ _ ap.TIz (k5 _ _ ap.TIz ap.TITO (iB ap ap.t1) (oS ap ap.t2) hti);rw[size]at z8 p8 s8;apply aH5;refine⟨_,rfl,aH5 ?_⟩
 change Q (some (.ref g5.objs.size)) _
 rw[size];exact q x y g8 tk4 px py ⟨z8,ti8,⟨x,y,up _ _ ap.TOz to5⟩,f1,f2⟩ p8 (λc o c1 c2 c3 c4 e=>up c o c1 (k5 c o c1 c2 c3 c4 e)) s8
theorem fin (D1:Draws prog w A.in1 i1 fp1 n1 P1 St1)(D2:Draws prog w A.in1 i2 fp2 n2 P2 St2)(ap:Ap z TI TO i1 i2 fp1 fp2){i:Nat}(le:i=n1∨(i<n1/\i=n2))(st:sA z TI TO i1 i2 St1 St2 .none i i s.heap){Q:Option ar->aw->Prop}(q:∀h' tk,(∀c o,c≠z->c≠TO->c≠i1->c≠i2->s.heap.get? c=some o->h'.get? c=some o)->Q none { s with heap:=h',toks:=tk }):wpAny (model prog w) A (pyNext (.ref z)) Q E s:=by
 obtain⟨hz,hti,⟨a,b,hto⟩,h1,h2⟩:=st
 have T:s.TypeIs (.ref z) "zip":=⟨_,hz,rfl⟩;have slot:=PySem.F.slot_zip_next;unfold pyNext;apply aG9;apply wpAny_attempt;apply aN3 (name:=Str.ofString "__next__") T slot;apply aO7 slot T PySem.F.entry_zip_next _ (PySem.F.args_zip_next_1 _)
 change wpAny _ _ (field (.ref z) 2 >>= _) _ _ _
 apply aG9;refine aM7 hz rfl (x:=.bool false) rfl ?_
 change wpAny _ _ (field (.ref z) 3 >>= _) _ _ _
 apply aG9;refine aM7 hz rfl (x:=.ref TI) rfl ?_;apply aG9;apply aO3 hti rfl
 change wpAny _ _ (Builtin.SmallTypes.ownedTupleIsFree (.ref z) >>= _) _ _ _
 apply aG9;unfold Builtin.SmallTypes.ownedTupleIsFree;apply aG9;refine aM7 hz rfl (x:=.none) rfl (aH5 ?_);simp only[if_true];apply aG9;apply wpAny_rule;apply aG9;refine aM7 hz rfl (x:=.ref TO) rfl ?_;apply aG9;refine aR5 hz (by simp) λg1 hz1 sb1=>?_
 have k1:∀c o,c≠z->s.heap.get? c=some o->g1.get? c=some o:=λc o c1 e=>sb1.extBut c o c1 e
 apply aG9;simp only[List.zipIdx_cons,List.zipIdx_nil,List.forIn_cons,List.forIn_nil];apply aG9;apply aG9;apply wpAny_onRaise
 change wpAny _ _ (Builtin.SmallTypes.nextOf (.ref i1) >>= _) _ _ _
 apply aG9;have z1:IsZip g1 z TI TO .ellipsis:=hz1;rcases le with rfl|⟨lt,rfl⟩
 ·refine D1.done { s with heap:=g1 } _ _ (D1.frame _ _ _ h1 λc hc o e=>k1 c o (λy=>ap.z1 (y▸hc)) e) λg2 e eb ex=>?_
  have z2:IsZip g2 z TI TO .ellipsis:=eb _ _ (iB ap ap.z1) z1;refine aR5 z2 (by simp) λg3 z3 sb3=>?_
  obtain⟨oe,eo,co⟩:=ex
  have ne:e≠z:=λy=>by
   rw[y,z2]at eo
   have:=aI7 eo
   rw[<- this]at co;exact absurd (show Value.type "zip" = Value.type "StopIteration" from co) (by decide)
  apply aG9;refine wpAny_isInstance (T:="StopIteration") (b:=true) ⟨oe,sb3.extBut _ _ ne eo,co⟩ isSubtype_stop ?_;exact aH5 (q g3 s.toks λc o c1 _ c3 _ e=>sb3.extBut c o c1 (eb c o c3 (k1 c o c1 e)))
 ·refine D1.item i { s with heap:=g1 } _ _ lt (D1.frame _ _ _ h1 λc hc o e=>k1 c o (λy=>ap.z1 (y▸hc)) e) λx g2 tk2 px st1 sb2=>aH5 ?_
  have k2:∀c o,c≠z->c≠i1->s.heap.get? c=some o->g2.get? c=some o:=λc o c1 c2 e=>sb2.extBut c o c2 (k1 c o c1 e)
  have to2:IsPair g2 TO a b:=k2 _ _ ap.TOz (iB ap ap.o1) hto;apply aG9;apply aO3 to2 rfl;apply aG9;refine wpAny_updateSeq_pair to2 λg3 to3 sb3=>?_
  apply aG9;apply wpAny_letGo;apply aH5;apply aG9;apply aG9;apply wpAny_onRaise
  change wpAny _ _ (Builtin.SmallTypes.nextOf (.ref i2) >>= _) _ _ _
  apply aG9;have k3:∀c o,c≠z->c≠i1->c≠TO->s.heap.get? c=some o->g3.get? c=some o:=λc o c1 c2 c3 e=>sb3.extBut c o c3 (k2 c o c1 c2 e)
  refine D2.done { s with heap:=g3,toks:=tk2 } _ _ (D2.frame _ _ _ h2 λc hc o e=>k3 c o (λy=>ap.z2 (y▸hc)) (λy=>ap.n1 (y▸hc)) (λy=>ap.o2 (y▸hc)) e) λg4 e eb ex=>?_
  have z4:IsZip g4 z TI TO .ellipsis:=eb _ _ (oS ap ap.z2) (sb3.extBut _ _ (Ne.symm ap.TOz) (sb2.extBut _ _ (iB ap ap.z1) z1));refine aR5 z4 (by simp) λg5 z5 sb5=>?_
  obtain⟨oe,eo,co⟩:=ex
  have ne:e≠z:=λy=>by
   rw[y,z4]at eo
   have:=aI7 eo
   rw[<- this]at co;exact absurd (show Value.type "zip" = Value.type "StopIteration" from co) (by decide)
  apply aG9;refine wpAny_isInstance (T:="StopIteration") (b:=true) ⟨oe,sb5.extBut _ _ ne eo,co⟩ isSubtype_stop ?_;exact aH5 (q g5 tk2 λc o c1 c2 c3 c4 e=>sb5.extBut c o c1 (eb c o c4 (k3 c o c1 c3 c2 e)))
end
noncomputable def eV (h:Heap)(t u:ax):Heap:=
 ((((h.push { cls:=.type "tuple_iterator",data:=.fields #[.ref t,.int 0 0] }).push { cls:=.type "tuple_iterator",data:=.fields #[.ref u,.int 0 0] }).push { cls:=.type "tuple",data:=.seq #[.ref h.objs.size,.ref (h.objs.size+1)] }).push
  { cls:=.type "tuple",data:=.seq #[.none,.none] }).push { cls:=.type "zip",data:=.fields #[.none,.bool false,.bool false,.ref (h.objs.size+2),.ref (h.objs.size+3)] }
theorem ad6 (t u:ax)(xs ys:Array ar):Meets (Builtin.«zip.__new__» ⟨[.type "zip",.ref t,.ref u],[]⟩) (λ_ R s=>s.heap.IsTuple t xs/\s.heap.IsTuple u ys/\R (.ok (.ret (.ref (s.heap.objs.size+4)))) { s with heap:=eV s.heap t u }):=
 .of_wp λprog w A R s h=>by
  obtain⟨hp,g,d,tk,os⟩:=s
  obtain⟨ht,hu,h⟩:=h
  have sub:=sub_zip;have a1:Heap.IsTuple (Shared.heap ⟨hp,g,d,tk,os⟩) t xs:=ht;have a2:Heap.IsTuple (Shared.heap ⟨hp.push { cls:=.type "tuple_iterator",data:=.fields #[.ref t,.int 0 0] },g,d,tk,os⟩) u ys:=hu.elim λo y=>⟨o,aH1 _ y.1,y.2⟩
  wp_walk using wpAny_pyIter_tuple a1,wpAny_pyIter_tuple a2
  have e:∀(o:Obj) (k:Heap),(k.push o).objs.size=k.objs.size+1:=λo k=>aQ3 ..
  refine⟨_,rfl,?_⟩;simp only[eV,e]at h ⊢;exact h
section
variable {prog:ay}{w:bf}{A:ba}{E:ar→aw→Prop}{s:aw}
theorem ad7 {t u:ax}{xs ys:Array ar}{Q:ar->aw->Prop}(ht:s.heap.IsTuple t xs)(hu:s.heap.IsTuple u ys)(q:∀h',IsZip h' (s.heap.objs.size+4) (s.heap.objs.size+2) (s.heap.objs.size+3) .none->IsPair h' (s.heap.objs.size+2) (.ref s.heap.objs.size) (.ref (s.heap.objs.size+1))->
   IsPair h' (s.heap.objs.size+3) .none .none->h'.IsTupleIter s.heap.objs.size t 0->h'.IsTupleIter (s.heap.objs.size+1) u 0->(∀c o,s.heap.get? c=some o->h'.get? c=some o)->Q (.ref (s.heap.objs.size+4)) { s with heap:=h' }) :
  wpAny (model prog w) A (call (.type "zip") [.ref t,.ref u]) Q E s:=by
 refine callType_new PySem.F.called_zip (by decide) (PySem.F.typeCall_zip_2 _ _) (PySem.F.newCall_zip_2 _ _) (λobj=>PySem.F.args_object_init_3 obj _ _) PySem.F.entry_zip_new (ad6 t u xs ys) ⟨ht,hu,?_⟩;have e:∀(o:Obj) (k:Heap),(k.push o).objs.size=k.objs.size+1:=λo k=>aQ3 ..
 have p0:∀(k:Heap) (o:Obj) (m:Nat),o.isFreed=false->m=k.objs.size->(k.push o).get? m=some o:=λk o m f z=>by rw[z];exact aJ0 _ f
 have g0:(eV s.heap t u).get? s.heap.objs.size=some { cls:=.type "tuple_iterator",data:=.fields #[.ref t,.int 0 0] }:=by
  unfold eV;exact aH1 _ (aH1 _ (aH1 _ (aH1 _ (p0 _ _ _ rfl rfl))))
 have g1:(eV s.heap t u).get? (s.heap.objs.size+1)=some { cls:=.type "tuple_iterator",data:=.fields #[.ref u,.int 0 0] }:=by
  unfold eV;exact aH1 _ (aH1 _ (aH1 _ (p0 _ _ _ rfl (by simp only[e]))))
 have g2:(eV s.heap t u).get? (s.heap.objs.size+2)=some { cls:=.type "tuple",data:=.seq #[.ref s.heap.objs.size,.ref (s.heap.objs.size+1)] }:=by
  unfold eV;exact aH1 _ (aH1 _ (p0 _ _ _ rfl (by simp only[e])))
 have g3:(eV s.heap t u).get? (s.heap.objs.size+3)=some { cls:=.type "tuple",data:=.seq #[.none,.none] }:=by
  unfold eV;exact aH1 _ (p0 _ _ _ rfl (by simp only[e]))
 have g4:(eV s.heap t u).get? (s.heap.objs.size+4)=some { cls:=.type "zip",data:=.fields #[.none,.bool false,.bool false,.ref (s.heap.objs.size+2),.ref (s.heap.objs.size+3)] }:=by
  unfold eV;exact p0 _ _ _ rfl (by simp only[e])
 refine⟨⟨_,g4,rfl⟩,q _ g4 g2 g3 ⟨_,g0,rfl,rfl⟩ ⟨_,g1,rfl,rfl⟩ λc o z=>?_⟩;unfold eV;exact aH1 _ (aH1 _ (aH1 _ (aH1 _ (aH1 _ z))))
end
end Zp
namespace L2
open PySem PySem.Spec PyProof.Rows
noncomputable def sB (K:ae)(a b:ax):It:=
  ⟨λi H=>∃xs ys x y,aU K H a xs/\aU K H b ys/\xs[i]? = some x/\ys[i]? = some y,
   λi H v H'=>∃T x y,H T=none/\v = .ref T/\H'=upd H T (.tup [x,y])/\∀xs ys,aU K H a xs->aU K H b ys->xs[i]? = some x/\ys[i]? = some y,
   λi H=>∃xs ys,aU K H a xs/\aU K H b ys/\(i=xs.length∨(i<xs.length/\i=ys.length))⟩
noncomputable def Sq (t:Bool)(K:ae)(H:Hp)(a:ax)(xs:List V):Prop:=match t with
 |true=>aU K H a xs
 |false=>aS K H a xs
noncomputable def eW (t:Bool)(h:Heap)(i a:ax)(n:Nat):Prop:=match t with
 |true=>h.IsTupleIter i a n
 |false=>h.IsListIter i a n
noncomputable def xN (t:Bool)(h:Heap)(a:ax)(xs:Array ar):Prop:=match t with
 |true=>h.IsTuple a xs
 |false=>h.IsList a xs
theorem eW.at {h h':Heap}{i a:ax}{n:Nat}:∀{t:Bool},eW t h i a n->(∀o,h.get? i=some o->h'.get? i=some o)->eW t h' i a n
 |true,x,k=>Heap.IsTupleIter.at x k
 |false,x,k=>Heap.IsListIter.at x k
theorem eW.ob {h:Heap}{i a:ax}{n:Nat}:∀{t:Bool},eW t h i a n->∃o,h.get? i=some o/\∀v,o.data≠.cell v
 |true,⟨o,f,_,d⟩=>⟨o,f,λv q=>by rw[d]at q;cases q⟩
 |false,⟨o,f,_,d⟩=>⟨o,f,λv q=>by rw[d]at q;cases q⟩
theorem eW.draws {prog:ay}{w:bf}{A:ba}:∀(t:Bool) (hh:A.handled=none) (it a:ax) (ne:a≠it) (items:Array ar),Draws prog w A it [it,a] items.size (λi v=>items[i]? = some v) (λi h=>eW t h it a i/\xN t h a items)
 |true,hh,it,a,ne,items=>Zp.ad5 hh it a ne items
 |false,hh,it,a,ne,items=>Draws.list hh it a ne items
section
variable {X:Cx}{ah:List (ax×Obj)}{σ:St}{H:Hp}{s:aw}{a:ax}{xs ys:List V}
theorem Sq.get (I:a6 X ah σ H s):∀{t:Bool},Sq t X.K H a xs->∃us,aO xs us/\xN t s.heap a us.toArray
 |true,h=>by obtain⟨us,r,p,_⟩:=I.tuple h;exact⟨us,r,p⟩
 |false,h=>by obtain⟨us,r,p,_⟩:=I.list h;exact⟨us,r,p.isList⟩
theorem Sq.inj (I:a6 X ah σ H s):∀{t:Bool},Sq t X.K H a xs->Sq t X.K H a ys->xs=ys
 |true,h,g=>I.tuple_inj h g
 |false,h,g=>I.list_inj h g
theorem Sq.off (I:a6 X ah σ H s)(he:H a=none)(hb:X.base.get? a=none):∀{t:Bool},Sq t X.K H a xs->False
 |true,h=>by
  rcases h with (h|⟨_,h⟩)|⟨o,_,_,h,_⟩
  ·rw[he]at h;cases h
  ·rw[he]at h;cases h
  ·have:=I.ok.mod.kin a o h
   rw[hb]at this;cases this
 |false,h=>by
  rcases h with (h|⟨_,h⟩)|⟨o,_,_,h,_⟩
  ·rw[he]at h;cases h
  ·rw[he]at h;cases h
  ·have:=I.ok.mod.kin a o h
   rw[hb]at this;cases this
end
noncomputable def ad8 (t1 t2:Bool)(K:ae)(a b:ax):It:=
  ⟨λi H=>∃xs ys x y,Sq t1 K H a xs/\Sq t2 K H b ys/\xs[i]? = some x/\ys[i]? = some y,
   λi H v H'=>∃T x y,H T=none/\v = .ref T/\H'=upd H T (.tup [x,y])/\∀xs ys,Sq t1 K H a xs->Sq t2 K H b ys->xs[i]? = some x/\ys[i]? = some y,
   λi H=>∃xs ys,Sq t1 K H a xs/\Sq t2 K H b ys/\(i=xs.length∨(i<xs.length/\i=ys.length))⟩
structure sC (t1 t2:Bool)(z TI TO i1 i2 a b:ax)(i:Nat)(h:Heap):Prop where
 zz:IsZip h z TI TO .none
 ti:IsPair h TI (.ref i1) (.ref i2)
 to_:∃x y,IsPair h TO x y
 s1:eW t1 h i1 a i
 s2:eW t2 h i2 b i
theorem xO (t1 t2:Bool){P:ay}{w:bf}{K:ae}{elts:List Expr}{k:Nat}{pos:Pos}(a b z TI TO i1 i2:ax)(d:[z,TI,TO,i1,i2].Nodup) :
  gH P w K (.Tuple elts k pos) (ad8 t1 t2 K a b) [z,TI,TO,i1,i2] z (sC t1 t2 z TI TO i1 i2 a b):=by
 have nd:z≠TI/\z≠TO/\z≠i1/\z≠i2/\TI≠TO/\TI≠i1/\TI≠i2/\TO≠i1/\TO≠i2/\i1≠i2:=by
  simp only[List.nodup_cons,aI1,aJ8,aO9,not_or]at d
  obtain⟨⟨a1,a2,a3,a4⟩,⟨b1,b2,b3⟩,⟨c1,c2⟩,e1,_⟩:=d
  exact⟨a1,a2,a3,a4,b1,b2,b3,c1,c2,e1⟩
 obtain⟨n1,n2,n3,n4,n5,n6,n7,n8,n9,n10⟩:=nd
 have offBase:∀{X:Cx}{ah:List (ax×Obj)}{σ:St}{H:Hp}{s:aw},a6 X ah σ H s->(∀c∈[z,TI,TO,i1,i2],dM X ah H c)->∀c∈[z,TI,TO,i1,i2],X.base.get? c=none:=by
  intro X ah σ H s I hf c hc;cases q:X.base.get? c with
  |none=>rfl
  |some o=>
   rcases (hf c hc).2.2.2.1 with h|h
   ·exact absurd h (I.ok.noex c o q)
   ·exact absurd (aH8 (aI3 q) (aK4 I.ok.bsz h)) (aL3 _)
 have off:∀{t:Bool}{X:Cx}{ah:List (ax×Obj)}{σ:St}{H:Hp}{s:aw}{c:ax}{zs:List V},a6 X ah σ H s->(∀c∈[z,TI,TO,i1,i2],dM X ah H c)->Sq t X.K H c zs->c∉[z,TI,TO,i1,i2]:=by
  intro t X ah σ H s c zs I hf hc hm;exact Sq.off I (hf c hm).1 (offBase I hf c hm) hc
 have ap:∀{c e:ax},c∉[z,TI,TO,i1,i2]->e∉[z,TI,TO,i1,i2]->Zp.Ap z TI TO i1 i2 [i1,c] [i2,e]:=λ{c e} hc he=>by
  simp only[aI1,aJ8,aO9,not_or]at hc he
  obtain⟨c1,c2,c3,c4,c5⟩:=hc
  obtain⟨e1,e2,e3,e4,e5⟩:=he
  have two:∀{q u v:ax},q≠u->q≠v->q∉[u,v]:=λ{q u v} h1 h2 hm=>by
   simp only[aI1,aJ8,aO9]at hm;exact hm.elim h1 h2
  exact⟨n1.symm,n2.symm,n5,two n3 (Ne.symm c1),two n4 (Ne.symm e1),two n8 (Ne.symm c3),two n9 (Ne.symm e3),two n6 (Ne.symm c2),two n7 (Ne.symm e2),aH6,aH6,two n10 (Ne.symm e4),two n10.symm (Ne.symm c5)⟩
 refine⟨by simp,λi h st c hc=>?_,λi h h' st kp=>?_,?_,?_,λA i s Q E st q=>wpAny_pyIter_zip st.zz q⟩
 ·simp only[aI1,aJ8,aO9]at hc
  obtain⟨x,y,to⟩:=st.to_
  rcases hc with rfl|rfl|rfl|rfl|rfl
  ·exact⟨_,st.zz,λv q=>by cases q⟩
  ·exact⟨_,st.ti,λv q=>by cases q⟩
  ·exact⟨_,to,λv q=>by cases q⟩
  ·exact st.s1.ob
  ·exact st.s2.ob
 ·obtain⟨x,y,to⟩:=st.to_
  exact⟨kp z (by simp) _ st.zz,kp TI (by simp) _ st.ti,⟨x,y,kp TO (by simp) _ to⟩,st.s1.at λo e=>kp i1 (by simp) o e,st.s2.at λo e=>kp i2 (by simp) o e⟩
 ·
  intro X hP hw hK hc i ah s σ H E I hf st hg;subst hP hw hK
  obtain⟨xs,ys,x,y,ha,hb,hx,hy⟩:=hg
  obtain⟨us,ru,pu⟩:=Sq.get I ha
  obtain⟨vs,rv,pv'⟩:=Sq.get I hb
  obtain⟨ux,eux,rux⟩:=ru.get hx
  obtain⟨vy,evy,rvy⟩:=rv.get hy
  have fa:=off I hf ha;have fb:=off I hf hb;have hh:X.A.in1.handled=none:=I.ok.hd hc;have l1:i<us.toArray.size:=by simpa using (aI4.mp eux).1
  have l2:i<vs.toArray.size:=by simpa using (aI4.mp evy).1
  have fa':a≠i1:=λq=>fa (by rw[q];simp)
  have fb':b≠i2:=λq=>fb (by rw[q];simp)
  have D1:=eW.draws t1 (prog:=X.prog) (w:=X.w) hh i1 a fa' us.toArray;have D2:=eW.draws t2 (prog:=X.prog) (w:=X.w) hh i2 b fb' vs.toArray;refine Zp.item D1 D2 (ap fa fb) l1 l2 ⟨st.zz,st.ti,st.to_,⟨st.s1,pu⟩,⟨st.s2,pv'⟩⟩ λp q h' tk hp hq st' pr kp sz=>⟨_,rfl,?_⟩
  obtain rfl:p=ux:=by
   have:us.toArray[i]? = some ux:=by simpa using eux
   rw[this]at hp;exact (aI7 hp).symm
  obtain rfl:q=vy:=by
   have:vs.toArray[i]? = some vy:=by simpa using evy
   rw[this]at hq;exact (aI7 hq).symm
  refine wpAny_letOwnedTupleGo_zip (s:={ s with heap:=h',toks:=tk }) st'.zz λg zz sb=>?_
  have hzl:z<s.heap.objs.size:=aI3 st.zz;have up:∀c o,c≠z->c≠TO->c≠i1->c≠i2->s.heap.get? c=some o->g.get? c=some o:=λc o c1 c2 c3 c4 e=>sb.extBut c o c1 (kp c o c1 c2 c3 c4 e)
  have hT:H s.heap.objs.size=none:=I.hok.fresh (aH9 _);have prG:IsPair g s.heap.objs.size p q:=sb.extBut _ _ (aP1 hzl) pr;have fpn:∀c u,H c=some u->c∉[z,TI,TO,i1,i2]:=λc u e hm=>by rw[(hf c hm).1]at e;cases e
  have upH:∀c o u,H c=some u->s.heap.get? c=some o->g.get? c=some o:=λc o u e z=>by
   have:=fpn c u e
   simp only[aI1,aJ8,aO9,not_or]at this;exact up c o this.1 this.2.2.1 this.2.2.2.1 this.2.2.2.2 z
  have ns:∀m,s.heap.Ns X.env.locals m->g.Ns X.env.locals m:=λm hm=>by
   obtain⟨o,es,ep,e1,e2⟩:=hm
   exact⟨o,es,ep,up _ o (Ne.symm (hf z (by simp)).2.1) (Ne.symm (hf TO (by simp)).2.1) (Ne.symm (hf i1 (by simp)).2.1) (Ne.symm (hf i2 (by simp)).2.1) e1,e2⟩
  have I2:a6 X ah σ (upd H s.heap.objs.size (.tup [x,y])) { s with heap:=g,toks:=tk }:=by
   refine I.step (g':=s.gens) (d':=s.drawn) (ch:=[z,TO,i1,i2]) (λc hc'=>?_) (λc o _ _ hc' e _=>?_) (λc o _ _ hc' e _=>⟨o.slots,?_⟩) (λc o _ e n=>?_) (λc o hc' e=>⟨o,?_⟩)
    (λc zs e=>by rw[aZ (dU e hT)];exact e) (λc u zs e=>by rw[aZ (dU e hT)];exact e) (λc ps e=>⟨#[],by rw[aZ (dU e hT),e];simp⟩) ns (λc u e=>?_) I.bare
   ·have hm:c∈[z,TI,TO,i1,i2]:=by
     simp only[aI1,aJ8,aO9]at hc' ⊢;rcases hc' with h|h|h|h<;>simp[h]
    exact⟨(hf c hm).2.2.2.1,(hf c hm).2.1,(hf c hm).2.2.2.2.1,(hf c hm).2.2.2.2.2⟩
   ·simp only[aI1,aJ8,aO9,not_or]at hc'
    exact up c o hc'.1 hc'.2.1 hc'.2.2.1 hc'.2.2.2 e
   ·simp only[aI1,aJ8,aO9,not_or]at hc'
    exact up c o hc'.1 hc'.2.1 hc'.2.2.1 hc'.2.2.2 e
   ·rw[aZ (aL1 (aI3 e))];exact n
   ·simp only[aI1,aJ8,aO9,not_or]at hc'
    exact up c o hc'.1 hc'.2.1 hc'.2.2.1 hc'.2.2.2 e
   ·by_cases hcT:c=s.heap.objs.size
    ·subst hcT
     rw[cA]at e;cases e
     exact⟨by show 2<=sizeLine;decide,[p,q],.cons rux (.cons rvy .nil),⟨_,prG,rfl,_,rfl⟩,λu e=>by rw[prG]at e;cases e;rfl⟩
    ·rw[aZ hcT]at e
     refine (I.hok c u e).stay (λc' o' hc2 q'=>?_) (λc' q'=>by rw[aZ (dU q' hT)];exact q') λc' zs q'=>by rw[aZ (dU q' hT)];exact q'
     rcases hc2 with rfl|hc2
     ·exact upH _ _ _ e q'
     ·exact upH _ _ _ hc2 q'
  obtain⟨x',y',to'⟩:=st'.to_
  refine⟨.ref s.heap.objs.size,_,I2,rfl,⟨_,x,y,hT,rfl,rfl,λxs' ys' ha' hb'=>?_⟩,⟨zz,sb.extBut _ _ n1.symm st'.ti,⟨x',y',sb.extBut _ _ n2.symm to'⟩,st'.s1.1.at λo e=>sb.extBut _ o n3.symm e,st'.s2.1.at λo e=>sb.extBut _ o n4.symm e⟩,λc hc'=>?_⟩
  ·rw[Sq.inj I ha' ha,Sq.inj I hb' hb];exact⟨hx,hy⟩
  ·obtain⟨o,e,_⟩:∃o,s.heap.get? c=some o/\True:=by
    simp only[aI1,aJ8,aO9]at hc'
    obtain⟨x2,y2,to2⟩:=st.to_
    obtain⟨o1,f1,_⟩:=st.s1.ob
    obtain⟨o2,f2,_⟩:=st.s2.ob
    rcases hc' with rfl|rfl|rfl|rfl|rfl
    ·exact⟨_,st.zz,trivial⟩
    ·exact⟨_,st.ti,trivial⟩
    ·exact⟨_,to2,trivial⟩
    ·exact⟨_,f1,trivial⟩
    ·exact⟨_,f2,trivial⟩
   rw[aZ (aL1 (aI3 e))];exact (hf c hc').1
 ·
  intro X hP hw hK hc i ah s σ H E I hf st hg;subst hP hw hK
  obtain⟨xs,ys,ha,hb,hi⟩:=hg
  obtain⟨us,ru,pu⟩:=Sq.get I ha
  obtain⟨vs,rv,pv'⟩:=Sq.get I hb
  have fa:=off I hf ha;have fb:=off I hf hb;have hh:X.A.in1.handled=none:=I.ok.hd hc;have fa':a≠i1:=λq=>fa (by rw[q];simp)
  have fb':b≠i2:=λq=>fb (by rw[q];simp)
  have D1:=eW.draws t1 (prog:=X.prog) (w:=X.w) hh i1 a fa' us.toArray;have D2:=eW.draws t2 (prog:=X.prog) (w:=X.w) hh i2 b fb' vs.toArray;have e1:=ru.length;have e2:=rv.length;refine Zp.fin D1 D2 (ap fa fb) (by simp only[aH7];omega) ⟨st.zz,st.ti,st.to_,⟨st.s1,pu⟩,⟨st.s2,pv'⟩⟩ λg tk kp=>⟨rfl,?_⟩
  have fpn:∀c u,H c=some u->c∉[z,TI,TO,i1,i2]:=λc u e hm=>by rw[(hf c hm).1]at e;cases e
  have upH:∀c o u,H c=some u->s.heap.get? c=some o->g.get? c=some o:=λc o u e z=>by
   have:=fpn c u e
   simp only[aI1,aJ8,aO9,not_or]at this;exact kp c o this.1 this.2.2.1 this.2.2.2.1 this.2.2.2.2 z
  have ns:∀m,s.heap.Ns X.env.locals m->g.Ns X.env.locals m:=λm hm=>by
   obtain⟨o,es,ep,e1,e2⟩:=hm
   exact⟨o,es,ep,kp _ o (Ne.symm (hf z (by simp)).2.1) (Ne.symm (hf TO (by simp)).2.1) (Ne.symm (hf i1 (by simp)).2.1) (Ne.symm (hf i2 (by simp)).2.1) e1,e2⟩
  refine I.step (g':=s.gens) (d':=s.drawn) (ch:=[z,TO,i1,i2]) (λc hc'=>?_) (λc o _ _ hc' e _=>?_) (λc o _ _ hc' e _=>⟨o.slots,?_⟩) (λc o _ e n=>n) (λc o hc' e=>⟨o,?_⟩)
   (λc zs e=>e) (λc u zs e=>e) (λc ps e=>⟨#[],by rw[e];simp⟩) ns (λc u e=>?_) I.bare
  ·have hm:c∈[z,TI,TO,i1,i2]:=by
    simp only[aI1,aJ8,aO9]at hc' ⊢;rcases hc' with h|h|h|h<;>simp[h]
   exact⟨(hf c hm).2.2.2.1,(hf c hm).2.1,(hf c hm).2.2.2.2.1,(hf c hm).2.2.2.2.2⟩
  ·simp only[aI1,aJ8,aO9,not_or]at hc'
   exact kp c o hc'.1 hc'.2.1 hc'.2.2.1 hc'.2.2.2 e
  ·simp only[aI1,aJ8,aO9,not_or]at hc'
   exact kp c o hc'.1 hc'.2.1 hc'.2.2.1 hc'.2.2.2 e
  ·simp only[aI1,aJ8,aO9,not_or]at hc'
   exact kp c o hc'.1 hc'.2.1 hc'.2.2.1 hc'.2.2.2 e
  ·refine (I.hok c u e).stay (λc' o' hc2 q'=>?_) (λ_ q'=>q') λ_ _ q'=>q'
   rcases hc2 with rfl|hc2
   ·exact upH _ _ _ e q'
   ·exact upH _ _ _ hc2 q'
noncomputable abbrev ad9:=sC true true
theorem ae0 {P:ay}{w:bf}{K:ae}{elts:List Expr}{k:Nat}{pos:Pos}(a b z TI TO i1 i2:ax)(d:[z,TI,TO,i1,i2].Nodup) :
  gH P w K (.Tuple elts k pos) (sB K a b) [z,TI,TO,i1,i2] z (ad9 z TI TO i1 i2 a b):=xO true true a b z TI TO i1 i2 d
section
variable {X:Cx}
theorem ae1 (hc:X.calm=true):cH X (.builtin "all") (λxs H Q=>∃(a:ax) (bs:List Bool),xs = [.ref a]/\aS X.K H a (bs.map V.bl)/\Q (.bl (bs.all id)) H):=by
 intro ah s σ H xs us Q I r h
 obtain⟨a,bs,rfl,hq,q⟩:=h
 obtain⟨u,rfl,ru⟩:=e8 r
 cases ru
 obtain⟨its,rv,p,hz⟩:=I.list hq
 have hl:=rv.length;rw[aH4]at hl;have hlt:a<s.heap.objs.size:=by obtain⟨o,e,_⟩:=p.isList;exact aI3 e
 refine call_all_walk (wpAny_pyIter_list p.isList ?_);have hh:X.A.in1.handled=none:=I.ok.hd hc;refine⟨s.heap.objs.size,_,_,_,_,_,λi=>bs.getD i false,rfl,Walks.list hh s.heap.objs.size a (aL1 hlt) its.toArray,⟨⟨_,aJ0 _ rfl,rfl,rfl⟩,p.isList.push _⟩,?_,λh' tk kp=>?_⟩
 ·intro i v s' Q' E' hP hQ'
  have hi:its[i]? = some v:=by simpa using hP
  have hil:i<bs.length:=by rw[hl];exact (aI4.mp hi).1
  obtain⟨u,e1,e2⟩:=rv.get (i:=i) (x:=.bl bs[i]) (by simp[hil])
  rw[hi]at e1;cases e1;cases e2
  have:bs.getD i false=bs[i]:=by rw[aK0,aH2 hil];rfl
  have hQ2:Q' (bs.getD i false) s':=hQ';rw[this]at hQ2;exact aQ5 hQ2
 ·have all_eq:(List.range its.toArray.size).all (λi=>bs.getD i false)=bs.all id:=by
   rw[aH7,<- hl];clear q rv hz hl hq hlt p hh kp
   induction bs with
   |nil=>rfl
   |cons b r ih=>
    rw[aJ1,List.range_succ_eq_map,aR1,List.all_map,aR1,<- ih];rfl
  rw[all_eq];refine⟨.bl (bs.all id),H,I.kept (t':=tk) (h':=h') λb o e=>kp b o (λz=>?_) (aH1 _ e),rfl,q⟩;rw[aI2.mp z]at e;exact absurd (aI3 e) (aL3 _)
end
end L2
namespace HT
open PySem PyProof.Rows
section
variable {prog:ay}{w:bf}{A:ba}{E:ar→aw→Prop}{s:aw}
theorem ae2 {t sl:ax}{items:Array ar}{vl vu:ar}{lo hi:Option Int}{Q:ar->aw->Prop}(ht:IsTup s.heap t items)(hs:s.heap.IsSliceOf sl vl vu .none)(pl:IsPart vl lo)(pu:IsPart vu hi)(h1:aV items.size 0 lo=0)(h2:aV items.size items.size hi=items.size)(h:Q (.ref t) s):wpAny (model prog w) A (getItem (.ref t) (.ref sl)) Q E s:=by
 obtain⟨o,e1,e2,e3⟩:=id hs
 have T:s.TypeIs (.ref sl) "slice":=⟨o,e1,e2⟩;unfold getItem
 try with_reducible refine aR0 ?_
 first|refine aG9 (aH5 ?_)|skip
 apply aG9;apply wpAny_sequenceKey ht.typeIs (by decide);apply aG9;apply aN3 (name:=Str.ofString "__getitem__") ht.typeIs aP4;apply aO7 aP4 ht.typeIs entry_tuple_getitem _ (args_tuple_getitem _ _)
 change wpAny _ _ (Builtin.Tuple.tupleItemsOf (.ref t) >>= _) _ _ s
 apply aG9;apply tupleItemsOf_ ht;apply aG9;apply wpAny_typeOf T;rw[if_pos (by decide)];apply aG9;apply vZ hs pl pu;rw[h1,h2];have yes:((((0:Nat):Int)==0&&(1:Int)==1&&(items.size-0)==items.size)=true):=by simp
 change wpAny _ _ (if ((((0:Nat):Int)==0&&(1:Int)==1&&(items.size-0)==items.size)=true) then _ else _) _ _ s
 rw[if_pos yes];apply aG9;unfold Builtin.Tuple.tupleIsExact;apply aG9;apply wpAny_typeOf ht.typeIs;apply aH5
 change wpAny _ _ (rule "tuple.getitem.whole" >>= λ_=>ret (Value.ref t)) _ _ s
 apply aG9;apply wpAny_rule;exact aH5 ⟨_,rfl,aH5 h⟩
end
end HT
namespace L2
open PySem PySem.Spec PyProof.Rows
section
variable {X:Cx}
noncomputable def ae3 (K:ae):V->Option Int->Option Int->Hp->VK->Prop:=λx lo hi H Q=>∃a xs,x = .ref a/\aU K H a xs/\(∀p,H p=none->Q (.ref p) (upd H p (.tup (fY xs lo hi))))/\(fY xs lo hi=xs->Q (.ref a) H)
theorem ae4:i8 X (ae3 X.K):=by
 intro ah s σ H x v vl vu lo hi sl Q I rx hs pl pu h
 obtain⟨a,xs,ex,hx,q1,q2⟩:=h
 by_cases hw:HT.aV xs.length 0 lo=0/\HT.aV xs.length xs.length hi=xs.length
 ·subst ex
  cases rx
  obtain⟨its,r,ht,hz⟩:=I.tuple hx
  have ak:its.toArray.size=xs.length:=by rw[aH7];exact r.length.symm
  refine⟨"tuple",_,PyProof.Rows.slot_tuple_getitem.lookup,ht.typeIs,?_⟩;refine HT.ae2 ht hs pl pu (by rw[ak];exact hw.1) (by rw[ak];exact hw.2) ⟨.ref a,H,I,rfl,q2 ?_⟩;unfold fY;rw[hw.1,hw.2];simp
 ·exact X9 ah s σ H x v vl vu lo hi sl Q I rx hs pl pu ⟨a,xs,ex,hx,hw,q1⟩
end
noncomputable def sD (K:ae)(a b:ax):It:=
  ⟨λi H=>∃xs ys x y,aS K H a xs/\aS K H b ys/\xs[i]? = some x/\ys[i]? = some y,
   λi H v H'=>∃T x y,H T=none/\v = .ref T/\H'=upd H T (.tup [x,y])/\∀xs ys,aS K H a xs->aS K H b ys->xs[i]? = some x/\ys[i]? = some y,
   λi H=>∃xs ys,aS K H a xs/\aS K H b ys/\(i=xs.length∨(i<xs.length/\i=ys.length))⟩
noncomputable abbrev ae5:=sC false false
theorem ae6 {P:ay}{w:bf}{K:ae}{elts:List Expr}{k:Nat}{pos:Pos}(a b z TI TO i1 i2:ax)(d:[z,TI,TO,i1,i2].Nodup) :
  gH P w K (.Tuple elts k pos) (sD K a b) [z,TI,TO,i1,i2] z (ae5 z TI TO i1 i2 a b):=xO false false a b z TI TO i1 i2 d
end L2
namespace PP
open PySem L2
inductive PV where
 |non|bl (b:Bool)|int (i:Int)|str (x:Str)|tup (xs:List PV)|lst (xs:List PV)
 |dK (kvs:List (aN×PV))|dT (kvs:List (List aN×PV))|scr (ns:ag)|kt (xs:List PV)|exc (c:Str)|fK (kvs:List (aN×PV))|fT (kvs:List (List aN×PV))|fL (xs:List PV)|fn (x:Str)|ob (a:ax)
mutual
noncomputable def flat:PV->Bool
 |.tup xs=>flats xs
 |.lst _=>false
 |.dK _=>false
 |.dT _=>false
 |.non=>true
 |.bl _=>true
 |.int _=>true
 |.str _=>true
 |.scr _=>true
 |.kt xs=>flats xs
 |.exc _=>true
 |.fK _=>false
 |.fT _=>false
 |.fL xs=>flats xs
 |.fn _=>true
 |.ob _=>true
noncomputable def flats:List PV->Bool
 |[]=>true
 |x::r=>flat x&&flats r
end
noncomputable def iC (K:ae)(H:Hp)(a:ax)(ns:ag):Prop:=(∃o,H a=some (.frz o (.lst (ns.map V.int)))) ∨
  ∃(o:Obj) (its:Array ar) (n:Nat),K.lookup a=some o/\o.cls = .type "list"/\o.dict=none/\o.data = .seq its n/\its.size<=sizeLine/\aO (ns.map V.int) its.toList
noncomputable def lC (K:ae)(a:ax)(us:List V):Prop:=∃(o:Obj) (its:Array ar) (n:Nat),K.lookup a=some o/\o.cls = .type "tuple"/\o.data = .seq its n/\its.size<=sizeLine/\aO us its.toList
mutual
inductive aG (K:ae)(M:ax->Prop)(H:Hp):V->PV->Prop
 |non:aG K M H .non .non
 |bl (b:Bool):aG K M H (.bl b) (.bl b)
 |int (i:Int):aG K M H (.int i) (.int i)
 |str (x:Str):aG K M H (.str x) (.str x)
 |tup {a:ax}{us:List V}{xs:List PV}:H a=some (.tup us)->Reps K M H us xs->aG K M H (.ref a) (.tup xs)
 |lst {a:ax}{us:List V}{xs:List PV}:M a->H a=some (.lst us)->Reps K M H us xs->aG K M H (.ref a) (.lst xs)
 |dK {a:ax}{kvs:List (aN×V)}{ps:List (aN×PV)}:M a->H a=some (.dK kvs)->kvs.map (·.1)=ps.map (·.1)->Reps K M H (kvs.map (·.2)) (ps.map (·.2))->aG K M H (.ref a) (.dK ps)
 |dT {a:ax}{kvs:List (List aN×V)}{ps:List (List aN×PV)}:M a->H a=some (.dT kvs)->kvs.map (·.1)=ps.map (·.1)->Reps K M H (kvs.map (·.2)) (ps.map (·.2))->aG K M H (.ref a) (.dT ps)
 |scr {a:ax}{ns:ag}:iC K H a ns->aG K M H (.ref a) (.scr ns)
 |kt {a:ax}{us:List V}{xs:List PV}:lC K a us->Reps K M H us xs->aG K M H (.ref a) (.kt xs)
 |exc {a C:ax}{o:Obj}{c:Str}:H a=some (.frz o (.own a))->PySem.W.nsIn K mainGlobals c=some (some (.ref C))->o.cls = .ref C->aG K M H (.ref a) (.exc c)
 |fK {a:ax}{o:Obj}{kvs:List (aN×V)}{ps:List (aN×PV)}:H a=some (.frz o (.dK kvs))->kvs.map (·.1)=ps.map (·.1)->Reps K M H (kvs.map (·.2)) (ps.map (·.2))->aG K M H (.ref a) (.fK ps)
 |fT {a:ax}{o:Obj}{kvs:List (List aN×V)}{ps:List (List aN×PV)}:H a=some (.frz o (.dT kvs))->kvs.map (·.1)=ps.map (·.1)->Reps K M H (kvs.map (·.2)) (ps.map (·.2))->aG K M H (.ref a) (.fT ps)
 |fL {a:ax}{o:Obj}{us:List V}{xs:List PV}:H a=some (.frz o (.lst us))->Reps K M H us xs->aG K M H (.ref a) (.fL xs)
 |fn {f:ax}{x:Str}:PySem.W.nsIn K mainGlobals x=some (some (.ref f))->aG K M H (.ref f) (.fn x)
 |ob {a:ax}:aG K M H (.ref a) (.ob a)
inductive Reps (K:ae)(M:ax->Prop)(H:Hp):List V->List PV->Prop
 |nil:Reps K M H [] []
 |cons {v:V}{x:PV}{vs:List V}{xs:List PV}:aG K M H v x->Reps K M H vs xs->Reps K M H (v::vs) (x::xs)
end
noncomputable def sE:HO->Bool
 |.frz _ _=>true
 |_=>false
noncomputable def xP:HO->Bool
 |.frz _ u=>sE u
 |.ins _ _ _=>true
 |.ext _=>true
 |_=>false
structure eY (M M':ax->Prop)(H H':Hp):Prop where
 lst:∀a us,M a->H a=some (.lst us)->M' a/\H' a=some (.lst us)
 dK:∀a kvs,M a->H a=some (.dK kvs)->M' a/\H' a=some (.dK kvs)
 dT:∀a kvs,M a->H a=some (.dT kvs)->M' a/\H' a=some (.dT kvs)
 tup:∀a us,H a=some (.tup us)->H' a=some (.tup us)
 frz:∀a o u,H a=some (.frz o u)->sE u=false->H' a=some (.frz o u)
theorem iC.keep {K:ae}{H H':Hp}{a:ax}{ns:ag}(k:∀a o u,H a=some (.frz o u)->sE u=false->H' a=some (.frz o u))(h:iC K H a ns):iC K H' a ns:=
 h.elim (λ⟨o,e⟩=>.inl ⟨o,k _ _ _ e rfl⟩) .inr
mutual
theorem aG.keep {K:ae}{M M':ax->Prop}{H H':Hp}(k:eY M M' H H'):∀{v:V}{x:PV},aG K M H v x->aG K M' H' v x
 |_,_,.non=>.non
 |_,_,.bl b=>.bl b
 |_,_,.int i=>.int i
 |_,_,.str x=>.str x
 |_,_,.tup h r=>.tup (k.tup _ _ h) (Reps.keep k r)
 |_,_,.lst m h r=>.lst (k.lst _ _ m h).1 (k.lst _ _ m h).2 (Reps.keep k r)
 |_,_,.dK m h e r=>.dK (k.dK _ _ m h).1 (k.dK _ _ m h).2 e (Reps.keep k r)
 |_,_,.dT m h e r=>.dT (k.dT _ _ m h).1 (k.dT _ _ m h).2 e (Reps.keep k r)
 |_,_,.scr h=>.scr (h.keep k.frz)
 |_,_,.kt h r=>.kt h (Reps.keep k r)
 |_,_,.exc h e c=>.exc (k.frz _ _ _ h rfl) e c
 |_,_,.fK h e r=>.fK (k.frz _ _ _ h rfl) e (Reps.keep k r)
 |_,_,.fT h e r=>.fT (k.frz _ _ _ h rfl) e (Reps.keep k r)
 |_,_,.fL h r=>.fL (k.frz _ _ _ h rfl) (Reps.keep k r)
 |_,_,.fn h=>.fn h
 |_,_,.ob=>.ob
theorem Reps.keep {K:ae}{M M':ax->Prop}{H H':Hp}(k:eY M M' H H'):∀{vs:List V}{xs:List PV},Reps K M H vs xs->Reps K M' H' vs xs
 |_,_,.nil=>.nil
 |_,_,.cons r t=>.cons (aG.keep k r) (Reps.keep k t)
end
mutual
theorem aG.flat {K:ae}{M M':ax->Prop}{H:Hp}{v:V}{x:PV}(f:flat x=true)(r:aG K M H v x):aG K M' H v x:=by
 cases r with
 |non=>exact .non
 |bl b=>exact .bl b
 |int i=>exact .int i
 |str x=>exact .str x
 |tup h r=>exact .tup h (Reps.flat (by unfold PP.flat at f;exact f) r)
 |lst m h r=>unfold PP.flat at f;cases f
 |dK m h e r=>unfold PP.flat at f;cases f
 |dT m h e r=>unfold PP.flat at f;cases f
 |scr h=>exact .scr h
 |kt h r=>exact .kt h (Reps.flat (by unfold PP.flat at f;exact f) r)
 |exc h e c=>exact .exc h e c
 |fK h e r=>unfold PP.flat at f;cases f
 |fT h e r=>unfold PP.flat at f;cases f
 |fL h r=>exact .fL h (Reps.flat (by unfold PP.flat at f;exact f) r)
 |fn h=>exact .fn h
 |ob=>exact .ob
theorem Reps.flat {K:ae}{M M':ax->Prop}{H:Hp}{vs:List V}{xs:List PV}(f:flats xs=true)(r:Reps K M H vs xs):Reps K M' H vs xs:=by
 cases r with
 |nil=>exact .nil
 |cons r t=>
  unfold PP.flats at f;rw[aK2]at f;exact .cons (aG.flat f.1 r) (Reps.flat f.2 t)
end
theorem eY.same {M M':ax->Prop}{H H':Hp}(s:aD H H')(m:∀a,M a->M' a):eY M M' H H':=
 ⟨λa _ h e=>⟨m a h,s _ _ e⟩,λa _ h e=>⟨m a h,s _ _ e⟩,λa _ h e=>⟨m a h,s _ _ e⟩,λ_ _ e=>s _ _ e,λ_ _ _ e _=>s _ _ e⟩
theorem aG.same {K:ae}{M M':ax->Prop}{H H':Hp}{v:V}{x:PV}(r:aG K M H v x)(s:aD H H')(m:∀a,M a->M' a):aG K M' H' v x:=r.keep (.same s m)
theorem Reps.same {K:ae}{M M':ax->Prop}{H H':Hp}{v:List V}{x:List PV}(r:Reps K M H v x)(s:aD H H')(m:∀a,M a->M' a):Reps K M' H' v x:=r.keep (.same s m)
noncomputable def eF:HO->Bool
 |.lst _=>true
 |.dK _=>true
 |.dT _=>true
 |_=>false
theorem eY.upd {M M':ax->Prop}{H:Hp}{a:ax}{o o':HO}(h:H a=some o')(mu:eF o'=true)(m:∀b,M b->b≠a/\M' b):eY M M' H (upd H a o):=
 ⟨λb _ hb e=>⟨(m b hb).2,by rw[aZ (m b hb).1];exact e⟩,λb _ hb e=>⟨(m b hb).2,by rw[aZ (m b hb).1];exact e⟩,λb _ hb e=>⟨(m b hb).2,by rw[aZ (m b hb).1];exact e⟩,
  λb _ e=>by rw[aZ (λz=>by rw[z,h]at e;cases e;cases mu)];exact e,
  λb _ _ e _=>by rw[aZ (λz=>by rw[z,h]at e;cases e;cases mu)];exact e⟩
theorem Reps.length {K:ae}{M:ax->Prop}{H:Hp}:∀{vs:List V}{xs:List PV},Reps K M H vs xs->vs.length=xs.length
 |_,_,.nil=>rfl
 |_,_,.cons _ t=>congrArg (·+1) t.length
theorem Reps.get {K:ae}{M:ax->Prop}{H:Hp}:∀{vs:List V}{xs:List PV}{i:Nat}{v:V},Reps K M H vs xs->vs[i]? = some v->∃x,xs[i]? = some x/\aG K M H v x
 |_,_,_,_,.nil,e=>by simp at e
 |_,_,0,_,.cons r _,e=>by simp at e;subst e;exact⟨_,rfl,r⟩
 |_,_,i+1,v,.cons _ t,e=>by
  rw[List.getElem?_cons_succ]at e
  obtain⟨x,h1,h2⟩:=t.get e
  exact⟨x,by rw[List.getElem?_cons_succ];exact h1,h2⟩
theorem Reps.at {K:ae}{M:ax->Prop}{H:Hp}:∀{vs:List V}{xs:List PV}{i:Nat}{x:PV},Reps K M H vs xs->xs[i]? = some x->∃v,vs[i]? = some v/\aG K M H v x
 |_,_,_,_,.nil,e=>by simp at e
 |_,_,0,_,.cons r _,e=>by simp at e;subst e;exact⟨_,rfl,r⟩
 |_,_,i+1,v,.cons _ t,e=>by
  rw[List.getElem?_cons_succ]at e
  obtain⟨x,h1,h2⟩:=t.at e
  exact⟨x,by rw[List.getElem?_cons_succ];exact h1,h2⟩
theorem Reps.append {K:ae}{M:ax->Prop}{H:Hp}:∀{vs:List V}{xs:List PV}{us:List V}{ys:List PV},Reps K M H vs xs->Reps K M H us ys->Reps K M H (vs++us) (xs++ys)
 |_,_,_,_,.nil,s=>s
 |_,_,_,_,.cons r t,s=>.cons r (t.append s)
theorem Reps.set {K:ae}{M:ax->Prop}{H:Hp}{v:V}{x:PV}(q:aG K M H v x):∀(i:Nat) {vs:List V}{xs:List PV},Reps K M H vs xs->Reps K M H (vs.set i v) (xs.set i x)
 |_,_,_,.nil=>.nil
 |0,_,_,.cons r t=>.cons q t
 |i+1,_,_,.cons r t=>.cons r (Reps.set q i t)
theorem Reps.take {K:ae}{M:ax->Prop}{H:Hp}:∀(n:Nat) {vs:List V}{xs:List PV},Reps K M H vs xs->Reps K M H (vs.take n) (xs.take n)
 |0,_,_,_=>by simp;exact .nil
 |_+1,_,_,.nil=>.nil
 |n+1,_,_,.cons r t=>.cons r (Reps.take n t)
theorem Reps.drop {K:ae}{M:ax->Prop}{H:Hp}:∀(n:Nat) {vs:List V}{xs:List PV},Reps K M H vs xs->Reps K M H (vs.drop n) (xs.drop n)
 |0,_,_,r=>r
 |_+1,_,_,.nil=>.nil
 |n+1,_,_,.cons _ t=>Reps.drop n t
theorem Reps.eraseIdx {K:ae}{M:ax->Prop}{H:Hp}:∀(n:Nat) {vs:List V}{xs:List PV},Reps K M H vs xs->Reps K M H (vs.eraseIdx n) (xs.eraseIdx n)
 |_,_,_,.nil=>.nil
 |0,_,_,.cons _ t=>t
 |n+1,_,_,.cons r t=>.cons r (Reps.eraseIdx n t)
noncomputable abbrev intz (ns:ag):List PV:=ns.map PV.int
theorem Reps.intz {K:ae}{M:ax->Prop}{H:Hp}:∀(ns:ag),Reps K M H (ns.map V.int) (intz ns)
 |[]=>.nil
 |n::r=>.cons (.int n) (Reps.intz r)
theorem Reps.ofInts {K:ae}{M:ax->Prop}{H:Hp}:∀{ns:ag}{us:List V},Reps K M H us (PP.intz ns)->us=ns.map V.int
 |[],_,.nil=>rfl
 |n::r,_,.cons q t=>by
  cases q;rw[Reps.ofInts t];rfl
theorem gM:∀(ns:ag),flats (intz ns)=true
 |[]=>rfl
 |n::r=>by show (flat (.int n)&&flats (intz r))=true;rw[gM r];rfl
inductive Tg|rd|sh|nw|fr
inductive Slot|sh (g:Bool) (x:PV)|own (x:PV)|kp (g:Bool) (x:PV) (ks:List (ax×List PV×List PV))
noncomputable def Slot.val:Slot->PV
 |.sh _ x=>x
 |.own x=>x
 |.kp _ x _=>x
noncomputable def Slot.tag:Slot->Tg
 |.sh true _=>.nw
 |.sh false _=>.sh
 |.own _=>.rd
 |.kp _ _ _=>.nw
noncomputable abbrev bD:=List (Option Slot)
noncomputable def Ms (H0:Hp)(W:ax->Prop):Bool->ax->Prop
 |false,a=>¬W a
 |true,a=>¬W a/\H0 a=none
noncomputable def Mg (H0:Hp)(W:ax->Prop)(Hs:Hp):Tg->ax->Prop
 |.rd,_=>True
 |.sh,a=>¬W a
 |.nw,a=>¬W a/\H0 a=none
 |.fr,a=>Hs a=none
noncomputable def gA (K:ae)(M:ax->Prop)(H:Hp)(a:ax):PV->Prop
 |.lst xs=>∃us,H a=some (.lst us)/\Reps K M H us xs
 |.dK ps=>∃kvs,H a=some (.dK kvs)/\kvs.map (·.1)=ps.map (·.1)/\Reps K M H (kvs.map (·.2)) (ps.map (·.2))
 |.dT ps=>∃kvs,H a=some (.dT kvs)/\kvs.map (·.1)=ps.map (·.1)/\Reps K M H (kvs.map (·.2)) (ps.map (·.2))
 |_=>False
noncomputable def kL (l:ax)(us:List V):HO:=.ext λh=>us.length<=sizeLine/\∃(its:List ar) (n:Nat),aO us its/\h.get? l=some { cls:=.type "list",data:=.seq its.toArray n }
noncomputable def jX (K:ae)(H0 H:Hp)(a:ax)(st un:List PV):Prop:=∃(C dx l1 l2:ax) (us1 us2:List V),PySem.W.nsIn K mainGlobals "Keeper" = some (some (.ref C))/\(H0 a=none/\H0 dx=none/\H0 l1=none/\H0 l2=none)/\l1≠l2/\H dx=some (.own a)/\
 H a=some (.ins C dx [("standing",.ref l1),("undone",.ref l2)])/\H l1=some (kL l1 us1)/\H l2=some (kL l2 us2)/\Reps K (λ_=>False) H us1 st/\Reps K (λ_=>False) H us2 un
theorem jX.keep {K:ae}{H0 H H':Hp}{a:ax}{st un:List PV}(k:eY (λ_=>False) (λ_=>False) H H')(f:∀b o,H b=some o->eF o=false->H' b=some o)(h:jX K H0 H a st un):jX K H0 H' a st un:=by
 obtain⟨C,dx,l1,l2,us1,us2,h1,h2,h3,h4,h5,h6,h7,r1,r2⟩:=h
 exact⟨C,dx,l1,l2,us1,us2,h1,h2,h3,f _ _ h4 rfl,f _ _ h5 rfl,f _ _ h6 rfl,f _ _ h7 rfl,r1.keep k,r2.keep k⟩
noncomputable def Ap2 (H:Hp)(a b:ax):Prop:=a≠b/\∀C D dx dy l1 l2 m1 m2,H a=some (.ins C dx [("standing",.ref l1),("undone",.ref l2)])->H b=some (.ins D dy [("standing",.ref m1),("undone",.ref m2)])->l1≠m1/\l1≠m2/\l2≠m1/\l2≠m2
noncomputable def eZ (K:ae)(H0 H:Hp)(ks:List (ax×List PV×List PV)):Prop:=(∀k∈ks,jX K H0 H k.1 k.2.1 k.2.2)/\ks.Pairwise λk m=>Ap2 H k.1 m.1
theorem eZ.keep {K:ae}{H0 H H':Hp}{ks:List (ax×List PV×List PV)}(k:eY (λ_=>False) (λ_=>False) H H')(f:∀b o,H b=some o->eF o=false->H' b=some o)(h:eZ K H0 H ks):eZ K H0 H' ks:=by
 refine⟨λx hx=>(h.1 x hx).keep k f,h.2.imp_of_mem λ{x y} hx hy r=>⟨r.1,λC D dx dy l1 l2 m1 m2 e1 e2=>?_⟩⟩
 obtain⟨C',dx',l1',l2',us1,us2,_,_,_,_,h5,_⟩:=h.1 x hx
 obtain⟨D',dy',m1',m2',ws1,ws2,_,_,_,_,g5,_⟩:=h.1 y hy
 have z1:=f _ _ h5 rfl;have z2:=f _ _ g5 rfl;rw[e1]at z1;rw[e2]at z2;cases z1;cases z2;exact r.2 _ _ _ _ _ _ _ _ h5 g5
theorem eZ.same {K:ae}{H0 H H':Hp}{ks:List (ax×List PV×List PV)}(s:aD H H')(h:eZ K H0 H ks):eZ K H0 H' ks:=h.keep (.same s λ_ z=>z) λ_ _ e _=>s _ _ e
theorem eZ.upd {K:ae}{H0 H:Hp}{c:ax}{o o':HO}{ks:List (ax×List PV×List PV)}(e:H c=some o')(mu:eF o'=true)(h:eZ K H0 H ks):eZ K H0 (upd H c o) ks:=
 h.keep (.upd e mu λ_ z=>z.elim) λb u e2 m2=>by rw[aZ (λz=>by rw[z,e]at e2;cases e2;rw[mu]at m2;cases m2)];exact e2
noncomputable def oU (K:ae)(H0:Hp)(W:ax->Prop)(H:Hp)(v:V):Slot->Prop
 |.sh g x=>aG K (Ms H0 W g) H v x
 |.own x=>∃a,v = .ref a/\W a/\gA K (Ms H0 W true) H a x
 |.kp g x ks=>(aG K (λ_=>False) H v x/\flat x=true)/\eZ K (cond g H0 λ_=>none) H ks
structure PX (K:ae)(H0:Hp)(W:ax->Prop)(σ:St)(ρ:bD)(H:Hp):Prop where
 len:ρ.length=σ.length
 same:aD H0 H
 wm:∀a,W a->H0 a=none/\∃o,H a=some o/\eF o=true
 sl:∀(i:Nat) (m:Slot),ρ[i]? = some (some m)->∃v,σ[i]? = some (some v)/\oU K H0 W H v m
 dis:∀(i j:Nat) (x y:PV) (a:ax),ρ[i]? = some (some (.own x))->ρ[j]? = some (some (.own y))->σ[i]? = some (some (.ref a))->σ[j]? = some (some (.ref a))->i=j
theorem gA.keep {K:ae}{M M':ax->Prop}{H H':Hp}{a:ax}(k:eY M M' H H')(ha:∀o,H a=some o->H' a=some o):∀{x:PV},gA K M H a x->gA K M' H' a x
 |.lst _,⟨us,e,r⟩=>⟨us,ha _ e,r.keep k⟩
 |.dK _,⟨us,e,q,r⟩=>⟨us,ha _ e,q,r.keep k⟩
 |.dT _,⟨us,e,q,r⟩=>⟨us,ha _ e,q,r.keep k⟩
theorem gA.at {K:ae}{M:ax->Prop}{H:Hp}{a:ax}:∀{x:PV},gA K M H a x->∃o,H a=some o/\eF o=true
 |.lst _,⟨us,e,r⟩=>⟨_,e,rfl⟩
 |.dK _,⟨us,e,q,r⟩=>⟨_,e,rfl⟩
 |.dT _,⟨us,e,q,r⟩=>⟨_,e,rfl⟩
theorem gA.rep {K:ae}{M M':ax->Prop}{H:Hp}{a:ax}(m:∀b,M b->M' b)(ha:M' a):∀{x:PV},gA K M H a x->aG K M' H (.ref a) x
 |.lst _,⟨us,e,r⟩=>.lst ha e (r.same (aD.refl _) m)
 |.dK _,⟨us,e,q,r⟩=>.dK ha e q (r.same (aD.refl _) m)
 |.dT _,⟨us,e,q,r⟩=>.dT ha e q (r.same (aD.refl _) m)
section
variable {K:ae}{H0:Hp}{W W':ax→Prop}{σ:St}{ρ:bD}{H H':Hp}
theorem PX.mono (p:PX K H0 W σ ρ H)(s:aD H H'):PX K H0 W σ ρ H':=by
 refine⟨p.len,p.same.trans s,λa h=>⟨(p.wm a h).1,let ⟨o,e,m⟩:=(p.wm a h).2;⟨o,s _ _ e,m⟩⟩,λi m h=>?_,p.dis⟩
 obtain⟨v,e,r⟩:=p.sl i m h
 refine⟨v,e,?_⟩;cases m with
 |sh g x=>exact aG.same r s λ_ z=>z
 |own x=>
  obtain⟨a,e1,e2,r⟩:=r
  exact⟨a,e1,e2,r.keep (.same s λ_ z=>z) λ_ z=>s _ _ z⟩
 |kp g x ks=>exact⟨⟨r.1.1.same s λ_ z=>z,r.1.2⟩,r.2.same s⟩
theorem PX.new (p:PX K H0 W σ ρ H){a:ax}(h:H a=none):¬W a/\H0 a=none:=
 ⟨λz=>(by obtain⟨_,o,e,_⟩:=p.wm a z;rw[h]at e;cases e),p.same.free h⟩
theorem Mg.back {g:Tg}{H1:Hp}(s:aD H H1){a:ax}(h:Mg H0 W H1 g a):Mg H0 W H g a:=by
 cases g with
 |fr=>exact s.free h
 |rd=>exact h
 |sh=>exact h
 |nw=>exact h
end
noncomputable abbrev PK:=PV->Tg->Prop
noncomputable abbrev aE:=bD->PK->Prop
noncomputable abbrev cD:=bD->(Bool->Prop)->Prop
noncomputable abbrev bN:=bD->(List (PV×Tg)->Prop)->Prop
inductive fH (K:ae)(H0:Hp)(W:ax->Prop)(Hs H:Hp):List V->List (PV×Tg)->Prop
 |nil:fH K H0 W Hs H [] []
 |cons {v:V}{x:PV}{g:Tg}{vs:List V}{xs:List (PV×Tg)}:aG K (Mg H0 W Hs g) H v x->fH K H0 W Hs H vs xs->fH K H0 W Hs H (v::vs) ((x,g)::xs)
noncomputable def oV (K:ae)(H0:Hp)(W:ax->Prop)(H:Hp)(Q:PK)(Q':VK):Prop:=∀v H' x g,aD H H'->aG K (Mg H0 W H g) H' v x->Q x g->Q' v H'
noncomputable def LE (X:Cx)(t:aE):TE:=λσ H Q'=>∃(W:ax->Prop) (ρ:bD) (Q:PK),PX X.K X.H₀ W σ ρ H/\t ρ Q/\oV X.K X.H₀ W H Q Q'
noncomputable def LT (X:Cx)(t:cD):TT:=λσ H Q'=>∃(W:ax->Prop) (ρ:bD) (Q:Bool->Prop),PX X.K X.H₀ W σ ρ H/\t ρ Q/\∀b H',aD H H'->Q b->Q' b H'
noncomputable def LA (X:Cx)(t:bN):TA:=λσ H Q'=>∃(W:ax->Prop) (ρ:bD) (Q:List (PV×Tg)->Prop),PX X.K X.H₀ W σ ρ H/\t ρ Q/\∀vs H' xs,aD H H'->fH X.K X.H₀ W H H' vs xs->Q xs->Q' vs H'
theorem fH.same {K:ae}{H0:Hp}{W:ax->Prop}{Hs Hs' H H':Hp}(s:aD H H')(b:aD Hs' Hs):∀{vs:List V}{xs:List (PV×Tg)},fH K H0 W Hs H vs xs->fH K H0 W Hs' H' vs xs
 |_,_,.nil=>.nil
 |_,_,.cons r t=>.cons (r.same s λ_ z=>Mg.back b z) (t.same s b)
theorem fH.any {K:ae}{H0:Hp}{W:ax->Prop}{Hs H:Hp}:∀{vs:List V}{xs:List (PV×Tg)},fH K H0 W Hs H vs xs->Reps K (λ_=>True) H vs (xs.map (·.1))
 |_,_,.nil=>.nil
 |_,_,.cons r t=>.cons (r.same (aD.refl _) λ_ _=>trivial) t.any
noncomputable def Nw:Tg->PV->Prop
 |.fr,_=>True
 |.nw,_=>True
 |_,x=>flat x=true
noncomputable def lD (xs:List (PV×Tg)):Prop:=∀p∈xs,Nw p.2 p.1
section
variable {K:ae}{H0 Hs H:Hp}{W:ax→Prop}{σ:St}{ρ:bD}
theorem Nw.rep {g:Tg}{x:PV}{v:V}(px:PX K H0 W σ ρ Hs)(n:Nw g x)(r:aG K (Mg H0 W Hs g) H v x):aG K (Ms H0 W true) H v x:=by
 cases g with
 |fr=>exact r.same (aD.refl _) λa z=>px.new z
 |nw=>exact r.same (aD.refl _) λa z=>z
 |sh=>exact r.flat n
 |rd=>exact r.flat n
theorem lD.reps {vs:List V}:∀{xs:List (PV×Tg)}{vs:List V},PX K H0 W σ ρ Hs->lD xs->fH K H0 W Hs H vs xs->Reps K (Ms H0 W true) H vs (xs.map (·.1))
 |_,_,px,n,.nil=>.nil
 |_,_,px,n,.cons r t=>.cons (Nw.rep px (n _ aH6) r) (lD.reps (vs:=vs) px (λp hp=>n p (aI0 _ hp)) t)
theorem xQ {v:V}{m:Slot}(r:oU K H0 W H v m):aG K (Mg H0 W Hs m.tag) H v m.val:=by
 cases m with
 |sh g x=>
  cases g with
  |true=>exact aG.same r (aD.refl _) λ_ z=>z
  |false=>exact aG.same r (aD.refl _) λ_ z=>z
 |own x=>
  obtain⟨a,rfl,_,r⟩:=r
  exact r.rep (λ_ _=>trivial) trivial
 |kp g x ks=>exact r.1.1.flat r.1.2
end
section
variable {X:Cx}{σ:St}{H:Hp}{Q':VK}{ta tb:aE}
noncomputable def a5 (i:Nat):aE:=λρ Q=>∃m,ρ[i]? = some (some m)/\Q m.val m.tag
noncomputable def qC (x:PV):aE:=λ_ Q=>Q x .fr
theorem ae7 {i:Nat}(h:LE X (a5 i) σ H Q'):jP i σ H Q':=by
 obtain⟨W,ρ,Q,px,⟨m,e,q⟩,k⟩:=h
 obtain⟨v,ev,r⟩:=px.sl i m e
 exact⟨v,ev,k v H _ _ (aD.refl _) (xQ r) q⟩
theorem lE {x:PV}{v:V}(hr:∀M,aG X.K M H v x)(h:LE X (qC x) σ H Q'):tC v σ H Q':=by
 obtain⟨W,ρ,Q,px,q,k⟩:=h
 exact k v H _ _ (aD.refl _) (hr _) q
noncomputable def cI (X:Cx)(R:PV->Tg->PV->Tg->PK->Prop)(r:R2):Prop:=∀(W:ax->Prop) (Hs H:Hp) (u v:V) (x y:PV) (g g':Tg) (Q:PK) (Q':VK),aD Hs H->
 (∀a,Hs a=none->¬W a/\X.H₀ a=none)->aG X.K (Mg X.H₀ W Hs g) H u x->aG X.K (Mg X.H₀ W Hs g') H v y->R x g y g' Q->(∀w H' z gz,aD H H'->aG X.K (Mg X.H₀ W Hs gz) H' w z->Q z gz->Q' w H')->r u v H Q'
noncomputable def q2 (R:PV->Tg->PV->Tg->PK->Prop)(ta tb:aE):aE:=λρ Q=>ta ρ λx g=>tb ρ λy g'=>R x g y g' Q
theorem mK {R:PV->Tg->PV->Tg->PK->Prop}{r:R2}(c:cI X R r)(h:LE X (q2 R ta tb) σ H Q'):m8 r (LE X ta) (LE X tb) σ H Q':=by
 obtain⟨W,ρ,Q,px,q,k⟩:=h
 refine⟨W,ρ,_,px,q,λu H1 x g s1 r1 q1=>⟨W,ρ,_,px.mono s1,q1,λv H2 y g' s2 r2 q2=>?_⟩⟩;exact c W H H2 u v x y g g' Q Q' (s1.trans s2) (λa z=>px.new z) (r1.same s2 λ_ z=>z) (r2.same (aD.refl _) λ_ z=>Mg.back s1 z) q2 λw H' z gz s3 r3 q3=>k w H' z gz ((s1.trans s2).trans s3) r3 q3
noncomputable def RI (C:Int->Int->Prop)(f:Int->Int->PV):PV->Tg->PV->Tg->PK->Prop:=λx _ y _ Q=>∃i j,x = .int i/\y = .int j/\C i j/\Q (f i j) .fr
noncomputable def fA (f:Int->Int->PV):PV->Tg->PV->Tg->PK->Prop:=λx _ y _ Q=>∃i j,x = .int i/\y = .int j/\Q (f i j) .fr
theorem sF {C:Int->Int->Prop}{f:Int->Int->Int}:cI X (RI C λi j=>.int (f i j)) (rI C λi j=>.int (f i j)):=by
 rintro W Hs H u v x y g g' Q Q' s n r1 r2 ⟨i,j,rfl,rfl,c,q⟩ k;cases r1;cases r2
 exact⟨i,j,rfl,rfl,c,k _ _ _ _ (aD.refl _) (.int _) q⟩
theorem xR {f:Int->Int->Int}:cI X (fA λi j=>.int (f i j)) (gI λi j=>.int (f i j)):=by
 rintro W Hs H u v x y g g' Q Q' s n r1 r2 ⟨i,j,rfl,rfl,q⟩ k;cases r1;cases r2
 exact⟨i,j,rfl,rfl,k _ _ _ _ (aD.refl _) (.int _) q⟩
theorem oW {f:Int->Int->Bool}:cI X (fA λi j=>.bl (f i j)) (gI λi j=>.bl (f i j)):=by
 rintro W Hs H u v x y g g' Q Q' s n r1 r2 ⟨i,j,rfl,rfl,q⟩ k;cases r1;cases r2
 exact⟨i,j,rfl,rfl,k _ _ _ _ (aD.refl _) (.bl _) q⟩
noncomputable def lF (neg:Bool):PV->Tg->PV->Tg->PK->Prop:=λx _ y _ Q=>(∃i j,x = .int i/\y = .int j/\Q (.bl (if neg=true then !decide (i=j) else decide (i=j))) .fr)∨(∃i j,x = .bl i/\y = .bl j/\Q (.bl (if neg=true then !decide (i=j) else decide (i=j))) .fr)
theorem xS (i j:Int):decide (V.int i=V.int j)=decide (i=j):=by
 rw[aO5,aK8,aK8];exact⟨λz=>V.int.inj z,λz=>congrArg V.int z⟩
theorem xT (i j:Bool):decide (V.bl i=V.bl j)=decide (i=j):=by
 rw[aO5,aK8,aK8];exact⟨λz=>V.bl.inj z,λz=>congrArg V.bl z⟩
theorem ae8:cI X (lF false) qY:=by
 rintro W Hs H u v x y g g' Q Q' s n r1 r2 (⟨i,j,rfl,rfl,q⟩|⟨i,j,rfl,rfl,q⟩) k
 ·cases r1;cases r2
  exact⟨rfl,by rw[xS];exact k _ _ _ _ (aD.refl _) (.bl _) q⟩
 ·cases r1;cases r2
  exact⟨rfl,by rw[xT];exact k _ _ _ _ (aD.refl _) (.bl _) q⟩
theorem ae9:cI X (lF true) vF:=by
 rintro W Hs H u v x y g g' Q Q' s n r1 r2 (⟨i,j,rfl,rfl,q⟩|⟨i,j,rfl,rfl,q⟩) k
 ·cases r1;cases r2
  exact⟨rfl,by rw[xS];exact k _ _ _ _ (aD.refl _) (.bl _) q⟩
 ·cases r1;cases r2
  exact⟨rfl,by rw[xT];exact k _ _ _ _ (aD.refl _) (.bl _) q⟩
noncomputable def aJ (t:aE):cD:=λρ Q=>t ρ λx _=>∃b,x = .bl b/\Q b
theorem xU {t:aE}{Q':Bool->Hp->Prop}(h:LT X (aJ t) σ H Q'):LE X t σ H λx H'=>∃k,x = .bl k/\Q' k H':=by
 obtain⟨W,ρ,Q,px,q,k⟩:=h
 refine⟨W,ρ,_,px,q,?_⟩;rintro v H1 x g s r ⟨b,rfl,q⟩;cases r
 exact⟨b,rfl,k _ _ s q⟩
noncomputable def gN (t u:cD):cD:=λρ Q=>t ρ λc=>if c=true then u ρ Q else Q false
noncomputable def eO (t u:cD):cD:=λρ Q=>t ρ λc=>if c=true then Q true else u ρ Q
noncomputable def gO (t:cD):cD:=λρ Q=>t ρ λc=>Q (!c)
variable {t u:cD}{Qb:Bool→Hp→Prop}
theorem af0 (h:LT X (gN t u) σ H Qb):uR (LT X t) (LT X u) σ H Qb:=by
 obtain⟨W,ρ,Q,px,q,k⟩:=h
 refine⟨W,ρ,_,px,q,λb H1 s1 q1=>?_⟩;cases b with
 |true=>exact aQ ⟨W,ρ,Q,px.mono s1,by simpa using q1,λb H2 s2 q2=>k _ _ (s1.trans s2) q2⟩
 |false=>exact aP (k _ _ s1 (by simpa using q1))
theorem af1 (h:LT X (eO t u) σ H Qb):uS (LT X t) (LT X u) σ H Qb:=by
 obtain⟨W,ρ,Q,px,q,k⟩:=h
 refine⟨W,ρ,_,px,q,λb H1 s1 q1=>?_⟩;cases b with
 |false=>exact aP ⟨W,ρ,Q,px.mono s1,by simpa using q1,λb H2 s2 q2=>k _ _ (s1.trans s2) q2⟩
 |true=>exact aQ (k _ _ s1 (by simpa using q1))
theorem af2 (h:LT X (gO t) σ H Qb):uT (LT X t) σ H Qb:=by
 obtain⟨W,ρ,Q,px,q,k⟩:=h
 exact⟨W,ρ,_,px,q,λb H1 s1 q1=>k _ _ s1 q1⟩
noncomputable def oX (ta tb:aE):aE:=λρ Q=>ta ρ λx _=>∃c,x = .bl c/\if c=true then tb ρ Q else Q (.bl false) .fr
noncomputable def sG (ta:aE):aE:=λρ Q=>ta ρ λx _=>∃c,x = .bl c/\Q (.bl (!c)) .fr
theorem oV.back {K:ae}{H0:Hp}{W:ax->Prop}{H H1:Hp}{Q:PK}(k:oV K H0 W H Q Q')(s:aD H H1):oV K H0 W H1 Q Q':=λv H' x g s' r q=>k v H' x g (s.trans s') (r.same (aD.refl _) λ_ z=>Mg.back s z) q
theorem af3 (h:LE X (oX ta tb) σ H Q'):uU (LE X ta) (LE X tb) σ H Q':=by
 obtain⟨W,ρ,Q,px,q,k⟩:=h
 refine⟨W,ρ,_,px,q,?_⟩;rintro v H1 x g s1 r ⟨c,rfl,q⟩;cases r;refine⟨c,rfl,?_⟩;cases c with
 |true=>exact aQ ⟨W,ρ,Q,px.mono s1,by simpa using q,k.back s1⟩
 |false=>exact aP (k _ _ _ _ s1 (.bl _) (by simpa using q))
theorem af4 (h:LE X (sG ta) σ H Q'):uV (LE X ta) σ H Q':=by
 obtain⟨W,ρ,Q,px,q,k⟩:=h
 refine⟨W,ρ,_,px,q,?_⟩;rintro v H1 x g s1 r ⟨c,rfl,q⟩;cases r
 exact⟨c,rfl,k _ _ _ _ s1 (.bl _) q⟩
noncomputable def a9:bN:=λ_ Q=>Q []
noncomputable def a7 (te:aE)(tr:bN):bN:=λρ Q=>te ρ λx g=>tr ρ λxs=>Q ((x,g)::xs)
variable {Qa:List V→Hp→Prop}{tr:bN}
theorem af5 (h:LA X a9 σ H Qa):iX σ H Qa:=by
 obtain⟨W,ρ,Q,px,q,k⟩:=h
 exact k _ _ _ (aD.refl _) .nil q
theorem af6 (h:LA X (a7 ta tr) σ H Qa):fX (LE X ta) (LA X tr) σ H Qa:=by
 obtain⟨W,ρ,Q,px,q,k⟩:=h
 refine⟨W,ρ,_,px,q,λv H1 x g s1 r1 q1=>⟨W,ρ,_,px.mono s1,q1,λvs H2 xs s2 r2 q2=>?_⟩⟩;exact k _ _ _ (s1.trans s2) (.cons (r1.same s2 λ_ z=>z) (r2.same (aD.refl _) s1)) q2
noncomputable def sH (t:bN):aE:=λρ Q=>t ρ λxs=>xs.length<=1000/\lD xs/\Q (.tup (xs.map (·.1))) .nw
noncomputable def gB (t:bN):aE:=λρ Q=>t ρ λxs=>xs.length<=1000/\flats (xs.map (·.1))=true/\Q (.tup (xs.map (·.1))) .fr
noncomputable def dA (t:bN):aE:=λρ Q=>t ρ λxs=>xs.length<=1000/\flats (xs.map (·.1))=true/\Q (.lst (xs.map (·.1))) .fr
theorem fH.length {K:ae}{H0:Hp}{W:ax->Prop}{Hs H:Hp}:∀{vs:List V}{xs:List (PV×Tg)},fH K H0 W Hs H vs xs->vs.length=xs.length
 |_,_,.nil=>rfl
 |_,_,.cons _ t=>congrArg (·+1) t.length
theorem oY {n:Nat}(h:n<=1000):n<=sizeLine:=aS1 (ab3 h)
theorem af7 (h:LE X (sH tr) σ H Q'):rA (LA X tr) σ H Q':=by
 obtain⟨W,ρ,Q,px,q,k⟩:=h
 refine⟨W,ρ,_,px,q,?_⟩;rintro vs H1 xs s1 r ⟨hl,n,q⟩;refine⟨by rw[r.length];exact oY hl,λp hp=>k _ _ _ .nw (s1.trans (bY hp _)) (.tup cA ?_) q⟩;exact (lD.reps (vs:=vs) px n r).same (bY hp _) λ_ z=>z
theorem af8 (h:LE X (gB tr) σ H Q'):rA (LA X tr) σ H Q':=by
 obtain⟨W,ρ,Q,px,q,k⟩:=h
 refine⟨W,ρ,_,px,q,?_⟩;rintro vs H1 xs s1 r ⟨hl,n,q⟩;refine⟨by rw[r.length];exact oY hl,λp hp=>k _ _ _ .fr (s1.trans (bY hp _)) (.tup cA ?_) q⟩;exact (r.any.flat n).same (bY hp _) λ_ z=>z
theorem af9 (h:LE X (dA tr) σ H Q'):vM (LA X tr) σ H Q':=by
 obtain⟨W,ρ,Q,px,q,k⟩:=h
 refine⟨W,ρ,_,px,q,?_⟩;rintro vs H1 xs s1 r ⟨hl,n,q⟩;refine⟨by rw[r.length];exact oY hl,λp hp=>k _ _ _ .fr (s1.trans (bY hp _)) (.lst (s1.free hp) cA ?_) q⟩;exact (r.any.flat n).same (bY hp _) λ_ z=>z
noncomputable def eQ (X:Cx)(R:List PV->(PV->Prop)->Prop)(r:List V->Hp->VK->Prop):Prop:=∀(H:Hp) (vs:List V) (xs:List PV) (Q:PV->Prop) (Q':VK),Reps X.K (λ_=>True) H vs xs->R xs Q->
 (∀w H' z,aD H H'->aG X.K (λa=>H a=none) H' w z->Q z->Q' w H')->r vs H Q'
noncomputable def aF (R:List PV->(PV->Prop)->Prop)(t:bN):aE:=λρ Q=>t ρ λxs=>R (xs.map (·.1)) λz=>Q z .fr
theorem xV {R:List PV->(PV->Prop)->Prop}{r:List V->Hp->VK->Prop}(c:eQ X R r)(h:LE X (aF R tr) σ H Q'):rD r (LA X tr) σ H Q':=by
 obtain⟨W,ρ,Q,px,q,k⟩:=h
 refine⟨W,ρ,_,px,q,λvs H1 xs s1 r1 q1=>c H1 vs _ _ Q' r1.any q1 λw H' z s2 r2 q2=>k w H' z .fr (s1.trans s2) (r2.same (aD.refl _) λ_ z=>s1.free z) q2⟩
end
structure j5 where
 nx:bD->Prop
 rt:PV->Prop
 bk:bD->Prop:=λ_=>False
 ct:bD->Prop:=λ_=>False
noncomputable abbrev aM:=j5->bD->Prop
noncomputable def Ev (W:ax->Prop)(H:Hp)(W':ax->Prop)(H':Hp):Prop:=∀b o,H b=some o->¬W b->xP o=false->H' b=some o/\¬W' b
theorem Ev.trans {W W1 W2:ax->Prop}{H H1 H2:Hp}(a:Ev W H W1 H1)(b:Ev W1 H1 W2 H2):Ev W H W2 H2:=λc o h n z=>let ⟨h1,n1⟩:=a c o h n z;b c o h1 n1 z
theorem Ev.same {W:ax->Prop}{H H':Hp}(s:aD H H'):Ev W H W H':=λc o h n _=>⟨s _ _ h,n⟩
theorem Ev.refl (W:ax->Prop)(H:Hp):Ev W H W H:=Ev.same (aD.refl _)
structure mL (X:Cx)(W:ax->Prop)(H:Hp)(D':j5)(D:cP):Prop where
 nx:∀W' σ' H' ρ',Ev W H W' H'->PX X.K X.H₀ W' σ' ρ' H'->D'.nx ρ'->D.nx σ' H'
 rt:∀v H' x,aD X.H₀ H'->aG X.K (λa=>X.H₀ a=none) H' v x->D'.rt x->D.rt v H'
 bk:∀W' σ' H' ρ',Ev W H W' H'->PX X.K X.H₀ W' σ' ρ' H'->D'.bk ρ'->D.bk σ' H'
 ct:∀W' σ' H' ρ',Ev W H W' H'->PX X.K X.H₀ W' σ' ρ' H'->D'.ct ρ'->D.ct σ' H'
theorem mL.step {X:Cx}{W W1:ax->Prop}{H H1:Hp}{D':j5}{D:cP}(k:mL X W H D' D)(e:Ev W H W1 H1):mL X W1 H1 D' D:=
 ⟨λW' σ' H' ρ' e'=>k.nx W' σ' H' ρ' (e.trans e'),k.rt,λW' σ' H' ρ' e'=>k.bk W' σ' H' ρ' (e.trans e'),λW' σ' H' ρ' e'=>k.ct W' σ' H' ρ' (e.trans e')⟩
noncomputable def LS (X:Cx)(t:aM):TS:=λD σ H=>∃(W:ax->Prop) (ρ:bD) (D':j5),PX X.K X.H₀ W σ ρ H/\t D' ρ/\mL X W H D' D
theorem fB {α:Type}{l:List α}{i j:Nat}{a b:α}(h:(l.set i a)[j]? = some b):(j=i/\i<l.length/\b=a)∨(j≠i/\l[j]? = some b):=by
 by_cases e:j=i
 ·subst e
  have hl:j<(l.set j a).length:=(aI4.mp h).1;rw[aN5]at hl;rw[aM9 hl]at h;exact .inl ⟨rfl,hl,(aI7 h).symm⟩
 ·rw[aJ5 (Ne.symm e)]at h
  exact .inr ⟨e,h⟩
section
variable {K:ae}{H0:Hp}{W W':ax→Prop}{σ:St}{ρ:bD}{H H' Hs:Hp}
theorem PX.setSh {i:Nat}{v:V}{g:Bool}{x:PV}(p:PX K H0 W σ ρ H)(r:aG K (Ms H0 W g) H v x):PX K H0 W (σ.set i (some v)) (ρ.set i (some (.sh g x))) H:=by
 refine⟨by rw[aN5,aN5];exact p.len,p.same,p.wm,λj m h=>?_,λj k y z a h1 h2 h3 h4=>?_⟩
 ·rcases fB h with⟨rfl,hl,e⟩|⟨hne,h⟩
  ·cases e
   rw[p.len]at hl
   exact⟨v,aM9 hl,r⟩
  ·obtain⟨u,e,q⟩:=p.sl j m h
   exact⟨u,by rw[aJ5 (Ne.symm hne)];exact e,q⟩
 ·rcases fB h1 with⟨_,_,e⟩|⟨n1,h1⟩
  ·cases e
  ·rcases fB h2 with⟨_,_,e⟩|⟨n2,h2⟩
   ·cases e
   ·rw[aJ5 (Ne.symm n1)]at h3
    rw[aJ5 (Ne.symm n2)]at h4;exact p.dis j k y z a h1 h2 h3 h4
theorem PX.setNone {i:Nat}{o:Option V}(p:PX K H0 W σ ρ H):PX K H0 W (σ.set i o) (ρ.set i none) H:=by
 refine⟨by rw[aN5,aN5];exact p.len,p.same,p.wm,λj m h=>?_,λj k y z a h1 h2 h3 h4=>?_⟩
 ·rcases fB h with⟨rfl,hl,e⟩|⟨hne,h⟩
  ·cases e
  ·obtain⟨u,e,q⟩:=p.sl j m h
   exact⟨u,by rw[aJ5 (Ne.symm hne)];exact e,q⟩
 ·rcases fB h1 with⟨_,_,e⟩|⟨n1,h1⟩
  ·cases e
  ·rcases fB h2 with⟨_,_,e⟩|⟨n2,h2⟩
   ·cases e
   ·rw[aJ5 (Ne.symm n1)]at h3
    rw[aJ5 (Ne.symm n2)]at h4;exact p.dis j k y z a h1 h2 h3 h4
noncomputable def lG (W:ax->Prop)(a:ax):ax->Prop:=λb=>W b∨b=a
theorem sJ {g:Bool}{a b:ax}(n:b≠a)(h:Ms H0 W g b):Ms H0 (lG W a) g b:=by
 cases g with
 |true=>exact⟨λz=>z.elim h.1 n,h.2⟩
 |false=>exact λz=>z.elim h n
theorem PX.setOwn {i:Nat}{a:ax}{x:PV}(p:PX K H0 W σ ρ Hs)(s:aD Hs H)(ha:Hs a=none)(r:gA K (Ms H0 (lG W a) true) H a x):PX K H0 (lG W a) (σ.set i (some (.ref a))) (ρ.set i (some (.own x))) H:=by
 have old:∀b o,Hs b=some o->b≠a:=λb o e z=>by rw[z,ha]at e;cases e
 have kp:∀g,eY (Ms H0 W g) (Ms H0 (lG W a) g) Hs H:=λg=>⟨λb _ m e=>⟨sJ (old _ _ e) m,s _ _ e⟩,λb _ m e=>⟨sJ (old _ _ e) m,s _ _ e⟩,λb _ m e=>⟨sJ (old _ _ e) m,s _ _ e⟩,λ_ _ e=>s _ _ e,λ_ _ _ e _=>s _ _ e⟩
 have wa:¬W a:=(p.new ha).1;refine⟨by rw[aN5,aN5];exact p.len,p.same.trans s,λb z=>?_,λj m h=>?_,λj k y z b h1 h2 h3 h4=>?_⟩
 ·rcases z with z|rfl
  ·obtain⟨h1,o,h2,h3⟩:=p.wm b z
   exact⟨h1,o,s _ _ h2,h3⟩
  ·exact⟨(p.new ha).2,r.at⟩
 ·rcases fB h with⟨rfl,hl,e⟩|⟨hne,h⟩
  ·cases e
   rw[p.len]at hl
   exact⟨_,aM9 hl,a,rfl,.inr rfl,r⟩
  ·obtain⟨u,e,q⟩:=p.sl j m h
   refine⟨u,by rw[aJ5 (Ne.symm hne)];exact e,?_⟩;cases m with
   |sh g y=>exact aG.keep (kp g) q
   |own y=>
    obtain⟨b,e1,e2,q⟩:=q
    exact⟨b,e1,.inl e2,q.keep (kp true) λo z=>s _ _ z⟩
   |kp g c ks=>exact⟨⟨q.1.1.same s λ_ z=>z,q.1.2⟩,q.2.same s⟩
 ·have ne:∀{j:Nat}{y:PV},ρ[j]? = some (some (.own y))->σ[j]?≠some (some (.ref a)):=λ{j y} h1 h2=>by
   obtain⟨u,e,c,e1,e2,_⟩:=p.sl j _ h1
   rw[h2]at e;cases e;cases e1;exact wa e2
  rcases fB h1 with⟨e1,l1,_⟩|⟨n1,h1⟩
  ·rcases fB h2 with⟨e2,_,_⟩|⟨n2,h2⟩
   ·rw[e1,e2]
   ·rw[e1,aM9 (by rw[<- p.len];exact l1)]at h3
    rw[aJ5 (Ne.symm n2)]at h4;cases h3;exact absurd h4 (ne h2)
  ·rw[aJ5 (Ne.symm n1)]at h3
   rcases fB h2 with⟨e2,l2,_⟩|⟨n2,h2⟩
   ·rw[e2,aM9 (by rw[<- p.len];exact l2)]at h4
    cases h4;exact absurd h3 (ne h1)
   ·rw[aJ5 (Ne.symm n2)]at h4
    exact p.dis j k y z b h1 h2 h3 h4
theorem Ev.own {a:ax}(s:aD Hs H)(ha:Hs a=none):Ev W Hs (lG W a) H:=λb o e n _=>⟨s _ _ e,λz=>z.elim n λz=>by rw[z,ha]at e;cases e⟩
theorem mM {g:Bool}{a b:ax}(wa:W a)(h:Ms H0 W g b):b≠a:=by
 cases g with
 |true=>exact λz=>h.1 (by rw[z];exact wa)
 |false=>exact λz=>h (by rw[z];exact wa)
theorem PX.updOwn {i:Nat}{a:ax}{x y:PV}{o:HO}(p:PX K H0 W σ ρ H)(hi:ρ[i]? = some (some (.own x)))(ha:σ[i]? = some (some (.ref a)))(wa:W a)(mu:eF o=true)(r:gA K (Ms H0 W true) (upd H a o) a y) :
  PX K H0 W σ (ρ.set i (some (.own y))) (upd H a o):=by
 obtain⟨w0,o',e',mu'⟩:=p.wm a wa
 have kp:∀g,eY (Ms H0 W g) (Ms H0 W g) H (upd H a o):=λg=>.upd e' mu' λb m=>⟨mM wa m,m⟩
 refine⟨by rw[aN5];exact p.len,λb u e=>by rw[aZ (λz=>by rw[z,w0]at e;cases e)];exact p.same _ _ e,λb z=>?_,λj m h=>?_,λj k y' z b h1 h2 h3 h4=>?_⟩
 ·by_cases e:b=a
  ·subst e;exact⟨w0,o,cA,mu⟩
  ·obtain⟨h1,o2,h2,h3⟩:=p.wm b z
   exact⟨h1,o2,by rw[aZ e];exact h2,h3⟩
 ·rcases fB h with⟨rfl,hl,e⟩|⟨hne,h⟩
  ·cases e
   exact⟨_,ha,a,rfl,wa,r⟩
  ·obtain⟨u,e,q⟩:=p.sl j m h
   refine⟨u,e,?_⟩;cases m with
   |sh g y=>exact aG.keep (kp g) q
   |own y=>
    obtain⟨b,e1,e2,q⟩:=q
    have hb:b≠a:=λz=>by
     subst e1;rw[z]at e;exact hne (p.dis j i _ _ a h hi e ha)
    exact⟨b,e1,e2,q.keep (kp true) λo z=>by rw[aZ hb];exact z⟩
   |kp g c ks=>exact⟨⟨q.1.1.keep (.upd e' mu' λ_ z=>z.elim),q.1.2⟩,q.2.upd e' mu'⟩
 ·have g1:∃y,ρ[j]? = some (some (.own y)):=by
   rcases fB h1 with⟨e,_,_⟩|⟨_,h⟩
   ·exact⟨x,by rw[e];exact hi⟩
   ·exact⟨_,h⟩
  have g2:∃y,ρ[k]? = some (some (.own y)):=by
   rcases fB h2 with⟨e,_,_⟩|⟨_,h⟩
   ·exact⟨x,by rw[e];exact hi⟩
   ·exact⟨_,h⟩
  obtain⟨y1,g1⟩:=g1
  obtain⟨y2,g2⟩:=g2
  exact p.dis j k y1 y2 b g1 g2 h3 h4
theorem Ev.upd {a:ax}{o:HO}(wa:W a):Ev W H W (upd H a o):=λb u e n _=>⟨by rw[aZ (λz=>n (by rw[z];exact wa))];exact e,n⟩
end
section
variable {X:Cx}{σ:St}{H:Hp}{D:cP}{te:aE}{t u:aM}
noncomputable def bE:aM:=λD ρ=>D.nx ρ
noncomputable def aH (t u:aM):aM:=λD ρ=>t { D with nx:=u D } ρ
theorem ag0 (h:LS X bE D σ H):uW D σ H:=by
 obtain⟨W,ρ,D',px,q,k⟩:=h
 exact k.nx W σ H ρ (Ev.refl _ _) px q
theorem ag1 (h:LS X (aH t u) D σ H):uX (LS X t) (LS X u) D σ H:=by
 obtain⟨W,ρ,D',px,q,k⟩:=h
 exact⟨W,ρ,_,px,q,λW' σ' H' ρ' e px' q'=>⟨W',ρ',D',px',q',k.step e⟩,k.rt,k.bk,k.ct⟩
noncomputable def xW:Tg->PV->Bool
 |.fr,_=>true
 |.nw,_=>true
 |_,x=>flat x
noncomputable def xX:Tg->PV->Prop
 |.rd,x=>flat x=true
 |_,_=>True
theorem ag2 {K:ae}{H0 Hs H:Hp}{W:ax->Prop}{σ:St}{ρ:bD}{g:Tg}{x:PV}{v:V}(px:PX K H0 W σ ρ Hs)(n:xX g x)(r:aG K (Mg H0 W Hs g) H v x):aG K (Ms H0 W (xW g x)) H v x:=by
 cases g with
 |fr=>exact Nw.rep (g:=.fr) px trivial r
 |nw=>exact Nw.rep (g:=.nw) px trivial r
 |sh=>
  show aG K (Ms H0 W (flat x)) H v x;cases e:flat x with
  |true=>exact r.flat e
  |false=>exact r.same (aD.refl _) λ_ z=>z
 |rd=>exact r.flat n
noncomputable def aW (i:Nat)(te:aE):aM:=λD ρ=>te ρ λx g=>xX g x/\D.nx (ρ.set i (some (.sh (xW g x) x)))
theorem sK {i:Nat}(h:LS X (aW i te) D σ H):m6 (LE X te) (dE i) D σ H:=by
 obtain⟨W,ρ,D',px,q,k⟩:=h
 refine⟨W,ρ,_,px,q,?_⟩;rintro v H1 x g s r ⟨n,q⟩;exact k.nx W _ H1 _ (Ev.same s) ((px.mono s).setSh (ag2 px n r)) q
noncomputable def xY:PV->Bool
 |.lst xs=>flats xs
 |.dK ps=>flats (ps.map (·.2))
 |.dT ps=>flats (ps.map (·.2))
 |_=>false
theorem ag3 {K:ae}{M:ax->Prop}{H:Hp}{v:V}{x:PV}(r:aG K M H v x)(o:xY x=true):∃a,v = .ref a/\M a/\∀M',gA K M' H a x:=by
 cases r with
 |lst m e r=>exact⟨_,rfl,m,λ_=>⟨_,e,r.flat o⟩⟩
 |dK m e q r=>exact⟨_,rfl,m,λ_=>⟨_,e,q,r.flat o⟩⟩
 |dT m e q r=>exact⟨_,rfl,m,λ_=>⟨_,e,q,r.flat o⟩⟩
 |_=>cases o
noncomputable def iD (i:Nat)(te:aE):aM:=λD ρ=>te ρ λx g=>g = .fr/\xY x=true/\D.nx (ρ.set i (some (.own x)))
theorem ag4 {i:Nat}(h:LS X (iD i te) D σ H):m6 (LE X te) (dE i) D σ H:=by
 obtain⟨W,ρ,D',px,q,k⟩:=h
 refine⟨W,ρ,_,px,q,?_⟩;rintro v H1 x g s r ⟨rfl,o,q⟩
 obtain⟨a,rfl,m,w⟩:=ag3 r o
 exact k.nx _ _ H1 _ (Ev.own s m) (px.setOwn s m (w _)) q
noncomputable def aY (te:aE):aM:=λD ρ=>te ρ λx g=>Nw g x/\D.rt x
theorem ag5 (h:LS X (aY te) D σ H):qR (LE X te) D σ H:=by
 obtain⟨W,ρ,D',px,q,k⟩:=h
 refine⟨W,ρ,_,px,q,?_⟩;rintro v H1 x g s r ⟨n,q⟩;exact k.rt v H1 x (px.same.trans s) ((Nw.rep px n r).same (aD.refl _) λ_ z=>z.2) q
noncomputable def Slot.nw:Slot->Prop
 |.own _=>True
 |.kp _ _ _=>True
 |.sh true _=>True
 |.sh false x=>flat x=true
noncomputable def sL (i:Nat):aM:=λD ρ=>∃m,ρ[i]? = some (some m)/\m.nw/\D.rt m.val
theorem ag6 {i:Nat}(h:LS X (sL i) D σ H):qR (jP i) D σ H:=by
 obtain⟨W,ρ,D',px,⟨m,hi,n,q⟩,k⟩:=h
 obtain⟨v,ev,r⟩:=px.sl i _ hi
 refine⟨v,ev,k.rt v H _ px.same ?_ q⟩;cases m with
 |own x=>
  obtain⟨a,rfl,wa,r⟩:=r
  exact r.rep (λ_ z=>z.2) (px.wm a wa).1
 |sh g x=>
  cases g with
  |true=>exact aG.same r (aD.refl _) λ_ z=>z.2
  |false=>exact aG.flat n r
 |kp g x ks=>exact r.1.1.flat r.1.2
noncomputable def bA (c:cD)(t u:aM):aM:=λD ρ=>c ρ λb=>if b=true then t D ρ else u D ρ
theorem ag7 {c:cD}(h:LS X (bA c t u) D σ H):uZ (LT X c) (LS X t) (LS X u) D σ H:=by
 obtain⟨W,ρ,D',px,q,k⟩:=h
 refine⟨W,ρ,_,px,q,λb H1 s q1=>?_⟩;cases b with
 |true=>exact aQ ⟨W,ρ,D',px.mono s,by simpa using q1,k.step (Ev.same s)⟩
 |false=>exact aP ⟨W,ρ,D',px.mono s,by simpa using q1,k.step (Ev.same s)⟩
noncomputable def mO (c:cD)(tb:aM):aM:=λD ρ=>∃I:Nat->bD->Prop,(∃m,I m ρ)/\∀m ρ',I m ρ'->c ρ' λb=>if b=true then tb { D with nx:=λρ2=>∃m',m'<m/\I m' ρ2,ct:=λρ2=>∃m',m'<m/\I m' ρ2,bk:=D.nx } ρ' else D.nx ρ'
theorem ag8 {c:cD}{tb:aM}(h:LS X (mO c tb) D σ H):v7 (LT X c) (LS X tb) D σ H:=by
 obtain⟨W,ρ,D',px,⟨I,⟨m0,i0⟩,turn⟩,k⟩:=h
 refine⟨λm σ2 H2=>∃W2 ρ2,PX X.K X.H₀ W2 σ2 ρ2 H2/\Ev W H W2 H2/\I m ρ2,⟨m0,W,ρ,px,Ev.refl _ _,i0⟩,?_⟩;rintro m σ2 H2 ⟨W2,ρ2,px2,e2,i2⟩;refine⟨W2,ρ2,_,px2,turn m ρ2 i2,λb H3 s3 q3=>?_⟩;cases b with
 |true=>
  refine aQ ⟨λσ4 H4=>∃W4 ρ4,PX X.K X.H₀ W4 σ4 ρ4 H4/\Ev W H W4 H4/\∃m',m'<m/\I m' ρ4,λσ4 H4 ⟨W4,ρ4,a,b,m',c,d⟩=>⟨m',c,W4,ρ4,a,b,d⟩,W2,ρ2,_,px2.mono s3,by simpa using q3,?_⟩;have e3:Ev W H W2 H3:=e2.trans (Ev.same s3)
  exact⟨λW' σ' H' ρ' e p q=>⟨W',ρ',p,e3.trans e,q⟩,k.rt,λW' σ' H' ρ' e p q=>k.nx W' σ' H' ρ' (e3.trans e) p q,λW' σ' H' ρ' e p q=>⟨W',ρ',p,e3.trans e,q⟩⟩
 |false=>exact aP (k.nx W2 σ2 H3 ρ2 (e2.trans (Ev.same s3)) (px2.mono s3) (by simpa using q3))
end
theorem aG.sqT {K:ae}{M:ax->Prop}{H:Hp}{v:V}{xs:List PV}(r:aG K M H v (.tup xs)):∃a us,v = .ref a/\H a=some (.tup us)/\Reps K M H us xs:=by
 cases r with
 |tup e r=>exact⟨_,_,rfl,e,r⟩
theorem aG.sqL {K:ae}{M:ax->Prop}{H:Hp}{v:V}{xs:List PV}(r:aG K M H v (.lst xs)):∃a us,v = .ref a/\M a/\H a=some (.lst us)/\Reps K M H us xs:=by
 cases r with
 |lst m e r=>exact⟨_,_,rfl,m,e,r⟩
theorem iC.sqL {K:ae}{H:Hp}{a:ax}{ns:ag}(h:iC K H a ns):aS K H a (ns.map V.int):=h.elim (λz=>.inl (.inr z)) .inr
noncomputable def j6:PV->Option (List PV)
 |.tup xs=>some xs
 |.lst xs=>some xs
 |.scr ns=>some (intz ns)
 |.kt xs=>some xs
 |.fL xs=>some xs
 |_=>none
theorem aG.seq {K:ae}{M:ax->Prop}{H:Hp}{v:V}{x:PV}{xs:List PV}(r:aG K M H v x)(e:j6 x=some xs):∃a us,v = .ref a/\(aS K H a us∨aU K H a us)/\Reps K M H us xs:=by
 cases r with
 |tup h r=>cases e;exact⟨_,_,rfl,.inr (aU.of h),r⟩
 |lst m h r=>cases e;exact⟨_,_,rfl,.inl (aS.of h),r⟩
 |scr h=>cases e;exact⟨_,_,rfl,.inl h.sqL,Reps.intz _⟩
 |kt h r=>cases e;exact⟨_,_,rfl,.inr (.inr h),r⟩
 |fL h r=>cases e;exact⟨_,_,rfl,.inl (.inl (.inr ⟨_,h⟩)),r⟩
 |_=>cases e
section
variable {X:Cx}{σ:St}{H:Hp}{D:cP}{te ti to:aE}{t u:aM}{Q':VK}
theorem _root_.PP.PX.updL {K:ae}{H0:Hp}{W:ax->Prop}{σ:St}{ρ:bD}{H:Hp}{i:Nat}{a:ax}{x:PV}{us:List V}{ys:List PV}(p:PX K H0 W σ ρ H)(hi:ρ[i]? = some (some (.own x)))(ha:σ[i]? = some (some (.ref a)))(wa:W a)(r:Reps K (Ms H0 W true) (upd H a (.lst us)) us ys) :
  PX K H0 W σ (ρ.set i (some (.own (.lst ys)))) (upd H a (.lst us)):=p.updOwn hi ha wa rfl (y:=.lst ys) ⟨us,cA,r⟩
noncomputable def jY (i:Nat)(te:aE):aM:=λD ρ=>∃xs,ρ[i]? = some (some (.own (.lst xs)))/\te ρ λx g=>Nw g x/\xs.length<16000000/\D.nx (ρ.set i (some (.own (.lst (xs++[x])))))
theorem ag9 {i:Nat}(h:LS X (jY i te) D σ H):nZ (oE X.K "list" wF (jP i) (fX (LE X te) iX)) D σ H:=by
 obtain⟨W,ρ,D',px,⟨xs,hi,q⟩,k⟩:=h
 obtain⟨v,ev,a,rfl,wa,us,ea,r⟩:=px.sl i _ hi
 refine⟨_,ev,rZ (aS.of ea),W,ρ,_,px,q,?_⟩;rintro w H1 x g s rx ⟨n,hl,q⟩;have ea1:=s _ _ ea;refine⟨a,us,w,rfl,rfl,ea1,oR (by rw[r.length];omega),?_⟩;refine k.nx W σ _ _ ((Ev.same s).trans (Ev.upd wa)) ((px.mono s).updL hi ev wa ?_) q;exact ((r.same s λ_ z=>z).append (.cons (Nw.rep px n rx) .nil)).keep (.upd ea1 rfl λb m=>⟨mM wa m,m⟩)
theorem ah0 {m n:Nat}(h:m<n):seqIndex? (m:Int) n=some m:=by
 have:=seqIndex_of (k:=(m:Int)) (n:=n) (by omega) (by omega)
 rw[this];rfl
end
theorem Reps.atI {K:ae}{M:ax->Prop}{H:Hp}{us:List V}{xs:List PV}{i:Int}{z:PV}(r:Reps K M H us xs)(h:L2.atI xs i=some z):∃v,L2.atI us i=some v/\aG K M H v z:=by
 unfold L2.atI at h ⊢;rw[r.length];cases e:jV xs.length i with
 |none=>rw[e]at h;cases h
 |some j=>rw[e]at h;exact r.at h
section
variable {X:Cx}{σ:St}{H:Hp}{Q':VK}{ta tb te:aE}{tr:bN}
noncomputable def sM:PV->Tg->PV->Tg->PK->Prop:=λx g y _ Q=>∃xs i z,j6 x=some xs/\y = .int i/\L2.atI xs i=some z/\Q z g
theorem ah1:cI X sM (wC X.K):=by
 rintro W Hs H u v x y g g' Q Q' s n r1 r2 ⟨xs,i,z,e,rfl,hz,q⟩ k;cases r2
 obtain⟨a,us,rfl,hs,r⟩:=r1.seq e
 obtain⟨v,hv,rv⟩:=r.atI hz
 rcases hs with hs|hs
 ·exact .inl ⟨a,us,i,v,rfl,rfl,hs,hv,k v H z g (aD.refl _) rv q⟩
 ·exact .inr (.inl ⟨a,us,i,v,rfl,rfl,hs,hv,k v H z g (aD.refl _) rv q⟩)
noncomputable def oZ:PV->Option Nat
 |.tup xs=>some xs.length
 |.lst xs=>some xs.length
 |.scr ns=>some ns.length
 |.dK ps=>some ps.length
 |.kt xs=>some xs.length
 |.fL xs=>some xs.length
 |_=>none
noncomputable def cF:List PV->(PV->Prop)->Prop:=λxs Q=>∃x n,xs = [x]/\oZ x=some n/\Q (.int n)
theorem Reps.one {K:ae}{M:ax->Prop}{H:Hp}{vs:List V}{x:PV}(r:Reps K M H vs [x]):∃v,vs = [v]/\aG K M H v x:=by
 cases r with
 |cons r t=>cases t;exact⟨_,rfl,r⟩
theorem Reps.two {K:ae}{M:ax->Prop}{H:Hp}{vs:List V}{x y:PV}(r:Reps K M H vs [x,y]):∃v w,vs = [v,w]/\aG K M H v x/\aG K M H w y:=by
 cases r with
 |cons r t=>
  obtain⟨w,rfl,q⟩:=t.one
  exact⟨_,_,rfl,r,q⟩
theorem ah2:eQ X cF (λxs H Q=>(∃p ys,xs = [.ref p]/\(aS X.K H p ys∨aU X.K H p ys)/\Q (.int ys.length) H)∨∃a kvs,xs = [V.ref a]/\H a=some (.dK kvs)/\Q (.int kvs.length) H):=by
 rintro H vs xs Q Q' r ⟨x,n,rfl,e,q⟩ k
 obtain⟨v,rfl,r1⟩:=r.one
 have fin:∀{m:Nat},m=n->Q' (.int m) H:=λ{m} z=>by rw[z];exact k _ _ _ (aD.refl _) (.int _) q
 cases r1 with
 |tup h r2=>cases e;exact .inl ⟨_,_,rfl,.inr (aU.of h),fin r2.length⟩
 |lst m h r2=>cases e;exact .inl ⟨_,_,rfl,.inl (aS.of h),fin r2.length⟩
 |scr h=>cases e;exact .inl ⟨_,_,rfl,.inl h.sqL,fin (by rw[aH4])⟩
 |kt h r2=>cases e;exact .inl ⟨_,_,rfl,.inr (.inr h),fin r2.length⟩
 |fL h r2=>cases e;exact .inl ⟨_,_,rfl,.inl (.inl (.inr ⟨_,h⟩)),fin r2.length⟩
 |dK m h e' r=>
  cases e;refine .inr ⟨_,_,rfl,h,fin ?_⟩
  have:=congrArg List.length e'
  rw[aH4,aH4]at this;exact this
 |_=>cases e
noncomputable def sN:PV->Option (List PV)
 |.kt _=>none
 |x=>j6 x
noncomputable def xZ:List PV->(PV->Prop)->Prop:=λxs Q=>∃x ys,xs = [x]/\sN x=some ys/\flats ys=true/\Q (.tup ys)
theorem ah3:eQ X (λxs Q=>xZ xs Q/\∀ns,xs≠[.scr ns]) (λxs H Q=>∃p ys,xs = [.ref p]/\((aS X.K H p ys/\∀l,H l=none->Q (.ref l) (upd H l (.tup ys)))∨(aU X.K H p ys/\Q (.ref p) H))):=by
 rintro H vs xs Q Q' r ⟨⟨x,ys,rfl,e,f,q⟩,nsc⟩ k
 obtain⟨v,rfl,r1⟩:=r.one
 cases r1 with
 |tup h r2=>cases e;exact⟨_,_,rfl,.inr ⟨aU.of h,k _ _ _ (aD.refl _) (.tup h (r2.flat f)) q⟩⟩
 |lst m h r2=>cases e;exact⟨_,_,rfl,.inl ⟨aS.of h,λl hl=>k _ _ _ (bY hl _) (.tup cA ((r2.flat f).same (bY hl _) λ_ z=>z)) q⟩⟩
 |scr h=>exact absurd rfl (nsc _)
 |fL h r2=>cases e;exact⟨_,_,rfl,.inl ⟨.inl (.inr ⟨_,h⟩),λl hl=>k _ _ _ (bY hl _) (.tup cA ((r2.flat f).same (bY hl _) λ_ z=>z)) q⟩⟩
 |_=>cases e
noncomputable def mP:List PV->(PV->Prop)->Prop:=λxs Q=>∃bs:List Bool,xs = [.lst (bs.map PV.bl)]/\Q (.bl (bs.all id))
theorem Reps.ofBls {K:ae}{M:ax->Prop}{H:Hp}:∀{ns:List Bool}{us:List V},Reps K M H us (ns.map PV.bl)->us=ns.map V.bl
 |[],_,.nil=>rfl
 |n::r,_,.cons q t=>by
  cases q;rw[Reps.ofBls t];rfl
theorem ah4:eQ X mP (λxs H Q=>∃(a:ax) (bs:List Bool),xs = [.ref a]/\aS X.K H a (bs.map V.bl)/\Q (.bl (bs.all id)) H):=by
 rintro H vs xs Q Q' r ⟨bs,rfl,q⟩ k
 obtain⟨v,rfl,r1⟩:=r.one
 obtain⟨a,us,rfl,_,h,r2⟩:=r1.sqL
 obtain rfl:=r2.ofBls
 exact⟨a,bs,rfl,aS.of h,k _ _ _ (aD.refl _) (.bl _) q⟩
noncomputable def sO:List PV->(PV->Prop)->Prop:=λxs Q=>∃i j,xs = [.int i,.int j]/\Q (.int (if j<i then j else i))
noncomputable def sP:List PV->(PV->Prop)->Prop:=λxs Q=>∃i j,xs = [.int i,.int j]/\Q (.int (if j>i then j else i))
theorem ah5:eQ X sO (λxs H Q=>∃i j,xs = [.int i,.int j]/\Q (.int (if j<i then j else i)) H):=by
 rintro H vs xs Q Q' r ⟨i,j,rfl,q⟩ k
 obtain⟨v,w,rfl,r1,r2⟩:=r.two
 cases r1;cases r2
 exact⟨i,j,rfl,k _ _ _ (aD.refl _) (.int _) q⟩
theorem ah6:eQ X sP (λxs H Q=>∃i j,xs = [.int i,.int j]/\Q (.int (if j>i then j else i)) H):=by
 rintro H vs xs Q Q' r ⟨i,j,rfl,q⟩ k
 obtain⟨v,w,rfl,r1,r2⟩:=r.two
 cases r1;cases r2
 exact⟨i,j,rfl,k _ _ _ (aD.refl _) (.int _) q⟩
noncomputable abbrev bW:=List PV->(PV->Prop)->Prop
noncomputable def mQ (K:ae)(p:bW):Sp:=λvs H Q _=>∃xs Qp,Reps K (λ_=>True) H vs xs/\p xs Qp/\∀v H' x,aD H H'->aG K (λa=>H a=none) H' v x->Qp x->Q v H'
theorem ah7 {p:bW}{E:XK}(h:LE X (aF p tr) σ H Q'):rB (mQ X.K p) [] E (LA X tr) σ H Q':=by
 obtain⟨W,ρ,Q,px,q,k⟩:=h
 refine⟨W,ρ,_,px,q,λvs H1 xs s1 r1 q1=>⟨_,_,by rw[List.append_nil];exact r1.any,q1,λv H' x s2 r2 q2=>k v H' x .fr (s1.trans s2) (r2.same (aD.refl _) λ_ z=>s1.free z) q2⟩⟩
noncomputable def sQ:PV->Bool
 |.non=>true
 |_=>false
noncomputable def sR (neg:Bool):PV->Tg->PV->Tg->PK->Prop:=λx _ y _ Q=>y = .non/\Q (.bl (if neg=true then !sQ x else sQ x)) .fr
theorem ah8 {K:ae}{M:ax->Prop}{H:Hp}{v:V}{x:PV}(r:aG K M H v x):decide (v = .non)=sQ x:=by
 cases r<;>rfl
theorem ah9:cI X (sR false) (λx y H Q=>y = .non/\Q (.bl (decide (x = .non))) H):=by
 rintro W Hs H u v x y g g' Q Q' s n r1 r2 ⟨rfl,q⟩ k;cases r2
 exact⟨rfl,by rw[ah8 r1];exact k _ _ _ _ (aD.refl _) (.bl _) q⟩
end
structure lH (K:ae)(H0:Hp)(W:ax->Prop)(g:Bool)(H1:Hp)(J:It)(xs:List PV):Prop where
 go:∀W' H' i,Ev W H1 W' H'->i<xs.length->J.go i H'
 yld:∀W' H' i v H2,Ev W H1 W' H'->J.yld i H' v H2->i<xs.length->aD H' H2/\∃x,xs[i]? = some x/\aG K (Ms H0 W' g) H2 v x
 stop:∀W' H',Ev W H1 W' H'->J.stop xs.length H'
noncomputable abbrev dN:=bD->(List PV->Bool->Prop)->Prop
noncomputable def LI (X:Cx)(t:dN):TI:=λσ H R=>∃(W:ax->Prop) (ρ:bD) (Q:List PV->Bool->Prop),PX X.K X.H₀ W σ ρ H/\t ρ Q/\∀J H1 xs g,aD H H1->lH X.K X.H₀ W g H1 J xs->Q xs g->R J H1
theorem Ev.keep {H0:Hp}{W W':ax->Prop}{H H':Hp}{g:Bool}(e:Ev W H W' H')(tw:∀a,W a->∃o,H a=some o/\eF o=true):eY (Ms H0 W g) (Ms H0 W' g) H H':=by
 have m:∀{a:ax}{o:HO},Ms H0 W g a->H a=some o->xP o=false->Ms H0 W' g a/\H' a=some o:=λ{a o} z h hk=>by
  cases g with
  |true=>
   obtain⟨h1,h2⟩:=e a _ h z.1 hk
   exact⟨⟨h2,z.2⟩,h1⟩
  |false=>
   obtain⟨h1,h2⟩:=e a _ h z hk
   exact⟨h2,h1⟩
 refine⟨λa _ z h=>m z h rfl,λa _ z h=>m z h rfl,λa _ z h=>m z h rfl,λa _ h=>(e a _ h (λz=>?_) rfl).1,λa _ _ h f=>(e a _ h (λz=>?_) f).1⟩
 ·obtain⟨o,h',mu⟩:=tw a z;rw[h]at h';cases h';cases mu
 ·obtain⟨o,h',mu⟩:=tw a z;rw[h]at h';cases h';cases mu
section
variable {X:Cx}{σ:St}{H:Hp}{te:aE}{tr:bN}{R:It→Hp→Prop}
noncomputable def y3 (K:ae)(tl:TE):TI:=λσ H R=>tl σ H λx H1=>∃a,x = .ref a/\((∃xs,aS K H1 a xs/\R (qS K a) H1)∨(∃xs,aU K H1 a xs/\R (qT K a) H1))
noncomputable def sS:Tg->List PV->Bool
 |.fr,_=>true
 |.nw,_=>true
 |_,xs=>flats xs
noncomputable def gP (te:aE):dN:=λρ Q=>te ρ λx g=>∃xs,j6 x=some xs/\(g = .rd->flat x=true)/\Q xs (sS g xs)
theorem sT {K:ae}{H0:Hp}{W:ax->Prop}{g:Bool}{H1:Hp}{a:ax}{us:List V}{xs:List PV}(tw:∀a,W a->∃o,H1 a=some o/\eF o=true)(ha:∀W' H',Ev W H1 W' H'->aS K H' a us)(r:Reps K (Ms H0 W g) H1 us xs):lH K H0 W g H1 (qS K a) xs:=by
 have lr:=r.length;refine⟨λW' H' i e hi=>⟨us,us[i]'(by omega),ha W' H' e,by simp⟩,λW' H' i v H2 e y hi=>?_,λW' H' e=>⟨us,ha W' H' e,by omega⟩⟩
 obtain⟨rfl,y⟩:=y
 obtain⟨x,hx,rx⟩:=r.get (y us (ha W' _ e))
 exact⟨aD.refl _,x,hx,rx.keep (e.keep tw)⟩
theorem y8 {K:ae}{H0:Hp}{W:ax->Prop}{g:Bool}{H1:Hp}{a:ax}{us:List V}{xs:List PV}(tw:∀a,W a->∃o,H1 a=some o/\eF o=true)(ha:∀W' H',Ev W H1 W' H'->aU K H' a us)(r:Reps K (Ms H0 W g) H1 us xs):lH K H0 W g H1 (qT K a) xs:=by
 have lr:=r.length;refine⟨λW' H' i e hi=>⟨us,us[i]'(by omega),ha W' H' e,by simp⟩,λW' H' i v H2 e y hi=>?_,λW' H' e=>⟨us,ha W' H' e,by omega⟩⟩
 obtain⟨rfl,y⟩:=y
 obtain⟨x,hx,rx⟩:=r.get (y us (ha W' _ e))
 exact⟨aD.refl _,x,hx,rx.keep (e.keep tw)⟩
theorem mR {K:ae}{H0 Hs H:Hp}{W:ax->Prop}{σ:St}{ρ:bD}{g:Tg}{us:List V}{xs:List PV}(px:PX K H0 W σ ρ Hs)(hg:g = .rd->flats xs=true)(r:Reps K (Mg H0 W Hs g) H us xs):Reps K (Ms H0 W (sS g xs)) H us xs:=by
 cases g with
 |fr=>exact r.same (aD.refl _) λ_ z=>px.new z
 |nw=>exact r.same (aD.refl _) λ_ z=>z
 |sh=>
  show Reps K (Ms H0 W (flats xs)) H us xs;cases e:flats xs with
  |true=>exact r.flat e
  |false=>exact r.same (aD.refl _) λ_ z=>z
 |rd=>exact r.flat (hg rfl)
theorem ai0 (h:LI X (gP te) σ H R):y3 X.K (LE X te) σ H R:=by
 obtain⟨W,ρ,Q,px,q,k⟩:=h
 refine⟨W,ρ,_,px,q,?_⟩;rintro v H1 x g s r ⟨xs,e,hg,q⟩;have px1:=px.mono s;have tw:∀a,W a->∃o,H1 a=some o/\eF o=true:=λa z=>(px1.wm a z).2
 cases r with
 |tup h r=>
  cases e;refine⟨_,rfl,.inr ⟨_,aU.of h,k _ _ _ _ s (y8 tw (λW' H' e=>aU.of (e _ _ h (λz=>?_) rfl).1) (mR px (λz=>by have:=hg z;unfold flat at this;exact this) r)) q⟩⟩
  obtain⟨o,h',mu⟩:=tw _ z;rw[h]at h';cases h';cases mu
 |@lst a us xs' m h r=>
  cases e;have wa:¬W a:=by
   cases g with
   |fr=>exact (px.new m).1
   |nw=>exact m.1
   |sh=>exact m
   |rd=>have:=hg rfl;unfold flat at this;cases this
  exact⟨_,rfl,.inl ⟨_,aS.of h,k _ _ _ _ s (sT tw (λW' H' e=>aS.of (e _ _ h wa rfl).1) (mR px (λz=>by have:=hg z;unfold flat at this;cases this) r)) q⟩⟩
 |scr h=>
  cases e;refine⟨_,rfl,.inl ⟨_,h.sqL,k _ _ _ _ s (sT tw (λW' H' e=>(iC.keep (λa o u hz f=>(e _ _ hz (λz=>?_) f).1) h).sqL) (mR (g:=g) px (λz=>gM _) (Reps.intz _))) q⟩⟩
  obtain⟨o,h',mu⟩:=tw _ z;rw[hz]at h';cases h';cases mu
 |kt h r=>
  cases e
  exact⟨_,rfl,.inr ⟨_,.inr h,k _ _ _ _ s (y8 tw (λW' H' e=>.inr h) (mR px (λz=>by have:=hg z;unfold flat at this;exact this) r)) q⟩⟩
 |fL h r=>
  cases e;refine⟨_,rfl,.inl ⟨_,.inl (.inr ⟨_,h⟩),k _ _ _ _ s (sT tw (λW' H' e=>.inl (.inr ⟨_,(e _ _ h (λz=>?_) rfl).1⟩)) (mR px (λz=>by have:=hg z;unfold flat at this;exact this) r)) q⟩⟩
  obtain⟨o,h',mu⟩:=tw _ z;rw[h]at h';cases h';cases mu
 |_=>cases e
noncomputable def gQ (lo:Int)(n:Nat):List PV:=(List.range n).map λ(i:Nat)=>PV.int (lo+(i:Int))
theorem fC (lo:Int)(n:Nat):(gQ lo n).length=n:=by unfold gQ;rw[aH4,List.length_range]
theorem y9 {lo:Int}{n i:Nat}(h:i<n):(gQ lo n)[i]? = some (.int (lo+i)):=by unfold gQ;rw[aI8,List.getElem?_range h];rfl
noncomputable def gR (te:aE):dN:=λρ Q=>te ρ λx _=>∃j:Int,x = .int j/\-1000000<=j/\j<=1000000/\Q (gQ 0 j.toNat) true
noncomputable def p5 (ta tb:aE):dN:=λρ Q=>ta ρ λx _=>tb ρ λy _=>∃i j:Int,x = .int i/\y = .int j/\(-1000000<=i/\i<=1000000/\-1000000<=j/\j<=1000000)/\Q (gQ i (j-i).toNat) true
theorem yA {K:ae}{H0:Hp}{W:ax->Prop}{H1:Hp}(lo:Int)(n:Nat):lH K H0 W true H1 (m7 lo n) (gQ lo n):=by
 refine⟨λW' H' i e hi=>by rw[fC]at hi;exact hi,λW' H' i v H2 e y hi=>?_,λW' H' e=>by show n<=(gQ lo n).length;rw[fC];exact aH9 _⟩;rw[fC]at hi
 obtain⟨rfl,rfl⟩:=y
 exact⟨aD.refl _,_,y9 hi,.int _⟩
theorem ai1 (h:LI X (gR te) σ H R):vA (fX (LE X te) iX) σ H R:=by
 obtain⟨W,ρ,Q,px,q,k⟩:=h
 refine⟨W,ρ,_,px,q,?_⟩;rintro v H1 x g s r ⟨j,rfl,h1,h2,q⟩;cases r
 exact⟨j,rfl,by omega,by omega,k _ _ _ _ s (yA 0 j.toNat) q⟩
theorem ai2 {ta tb:aE}(h:LI X (p5 ta tb) σ H R):vB (fX (LE X ta) (fX (LE X tb) iX)) σ H R:=by
 obtain⟨W,ρ,Q,px,q,k⟩:=h
 refine⟨W,ρ,_,px,q,λv H1 x g s r q=>⟨W,ρ,_,px.mono s,q,?_⟩⟩;rintro w H2 y g' s2 r2 ⟨i,j,rfl,rfl,h,q⟩;cases r;cases r2
 exact⟨i,j,rfl,by omega,k _ _ _ _ (s.trans s2) (yA i (j-i).toNat) q⟩
end
noncomputable abbrev iE:=PV->Bool->bD->(bD->Prop)->Prop
noncomputable def lI (K:ae)(own:Nat->Prop)(p:iE)(t:TG):Prop:=∀(H0:Hp) (W:ax->Prop) (σ:St) (ρ:bD) (H:Hp) (v:V) (x:PV) (g:Bool) (Q:bD->Prop) (Q':St->Hp->Prop),
 PX K H0 W σ ρ H->aG K (Ms H0 W g) H v x->p x g ρ Q->(∀σ' ρ',PX K H0 W σ' ρ' H->(∀i,¬own i->σ'[i]? = σ[i]?)->σ'.length=σ.length->Q ρ'->Q' σ' H)->t v σ H Q'
noncomputable def bX (i:Nat):iE:=λx g ρ Q=>Q (ρ.set i (some (.sh (g||flat x) x)))
theorem p6 {K:ae}{H0 H:Hp}{W:ax->Prop}{v:V}{x:PV}{g:Bool}(r:aG K (Ms H0 W g) H v x):aG K (Ms H0 W (g||flat x)) H v x:=by
 cases g with
 |true=>exact r
 |false=>
  show aG K (Ms H0 W (flat x)) H v x;cases e:flat x with
  |true=>exact r.flat e
  |false=>exact r
theorem mS (K:ae)(i:Nat):lI K (· = i) (bX i) (dE i):=by
 intro H0 W σ ρ H v x g Q Q' px r q k;exact k _ _ (px.setSh (p6 r)) (λj hj=>by rw[aJ5 (Ne.symm hj)]) (aN5 ..) q
noncomputable def mT (i j:Nat):iE:=λx g ρ Q=>∃y z,x = .tup [y,z]/\Q ((ρ.set i (some (.sh (g||flat y) y))).set j (some (.sh (g||flat z) z)))
theorem ai3 (K:ae)(i j:Nat):lI K (λk=>k=i∨k=j) (mT i j) (o8 K 2 (jS (dE i) (jS (dE j) o7))):=by
 intro H0 W σ ρ H v x g Q Q' px r q k
 obtain⟨y,z,rfl,q⟩:=q
 obtain⟨a,us,rfl,h,r⟩:=r.sqT
 obtain⟨u1,u2,rfl,r1,r2⟩:=r.two
 refine⟨a,_,rfl,aU.of h,rfl,u1,_,rfl,u2,_,rfl,rfl,k _ _ ((px.setSh (p6 r1)).setSh (p6 r2)) (λk hk=>?_) (by rw[aN5,aN5]) q⟩;rw[aJ5 (λe=>hk (.inr e.symm)),aJ5 (λe=>hk (.inl e.symm))]
section
variable {X:Cx}{σ:St}{H:Hp}{D:cP}
noncomputable def dX (ti:dN)(p:iE)(tb:aM):aM:=λD ρ=>ti ρ λxs g=>∃I:Nat->bD->Prop,I 0 ρ/\(∀i x ρ',xs[i]? = some x->I i ρ'->p x g ρ' λρ2=>tb { D with nx:=I (i+1),ct:=I (i+1),bk:=D.nx } ρ2)/\∀ρ',I xs.length ρ'->D.nx ρ'
theorem ai4 {ti:dN}{p:iE}{g:TG}{tb:aM}{own:Nat->Prop}(hg:lI X.K own p g)(h:LS X (dX ti p tb) D σ H):vC (LI X ti) g (LS X tb) D σ H:=by
 obtain⟨W,ρ,D',px,q,k⟩:=h
 refine⟨W,ρ,_,px,q,?_⟩;rintro J H1 xs gb s it ⟨I,i0,turn,fin⟩;refine⟨λi m σ2 H2=>m=xs.length-i/\i<=xs.length/\∃W2 ρ2,PX X.K X.H₀ W2 σ2 ρ2 H2/\Ev W H1 W2 H2/\I i ρ2,⟨xs.length,by omega,aK9 _,W,ρ,px.mono s,Ev.refl _ _,i0⟩,?_⟩;rintro i m σ2 H2 ⟨rfl,hi,W2,ρ2,px2,e2,i2⟩;have e0:Ev W H W2 H2:=(Ev.same s).trans e2;by_cases hlt:i<xs.length
 ·refine .inr ⟨it.go W2 H2 i e2 hlt,λσ3 H3=>∃W3 ρ3,PX X.K X.H₀ W3 σ3 ρ3 H3/\Ev W H1 W3 H3/\I (i+1) ρ3,λσ3 H3 ⟨W3,ρ3,a,b,c⟩=>⟨xs.length-(i+1),by omega,rfl,hlt,W3,ρ3,a,b,c⟩,λv H3 y=>?_⟩
  obtain⟨s3,x,hx,rx⟩:=it.yld W2 H2 i v H3 e2 y hlt
  refine hg X.H₀ W2 σ2 ρ2 H3 v x gb _ _ (px2.mono s3) rx (turn i x ρ2 hx i2) λσ4 ρ4 px4 _ _ q4=>?_
  have e3:Ev W H1 W2 H3:=e2.trans (Ev.same s3);have e3':Ev W H W2 H3:=e0.trans (Ev.same s3)
  exact⟨W2,ρ4,_,px4,q4,λW' σ' H' ρ' e p q=>⟨W',ρ',p,e3.trans e,q⟩,k.rt,λW' σ' H' ρ' e p q=>k.nx W' σ' H' ρ' (e3'.trans e) p q,λW' σ' H' ρ' e p q=>⟨W',ρ',p,e3.trans e,q⟩⟩
 ·have e:i=xs.length:=by omega
  subst e;exact .inl ⟨it.stop W2 H2 e2,k.nx W2 σ2 H2 ρ2 e0 px2 (fin ρ2 i2)⟩
end
noncomputable def Slot.blk:Slot->Slot
 |.kp _ x ks=>.kp false x ks
 |.sh _ x=>.sh false x
 |.own x=>.sh false x
noncomputable def lJ (fr:List (Option Nat))(ρ:bD):bD:=fr.map λo=>o.bind λj=>(ρ[j]?).join.map Slot.blk
theorem jX.any {K:ae}{H0 H:Hp}{a:ax}{st un:List PV}(h:jX K H0 H a st un):jX K (λ_=>none) H a st un:=by
 obtain⟨C,dx,l1,l2,us1,us2,h1,h2,h⟩:=h
 exact⟨C,dx,l1,l2,us1,us2,h1,⟨rfl,rfl,rfl,rfl⟩,h⟩
theorem eZ.any {K:ae}{H0 H:Hp}{ks:List (ax×List PV×List PV)}(h:eZ K H0 H ks):eZ K (λ_=>none) H ks:=⟨λk hk=>(h.1 k hk).any,h.2⟩
theorem Slot.blk_own {m:Slot}{x:PV}(h:m.blk = .own x):False:=by
 cases m<;>cases h
theorem ai5 {K:ae}{H0 H1 H1' H':Hp}{W W':ax->Prop}{v:V}{m:Slot}(r:oU K H0 W H1 v m)(k:eY (λ_=>False) (λ_=>False) H1 H')(f:∀b o,H1 b=some o->eF o=false->H' b=some o)(rv:aG K (λa=>¬W' a) H' v m.val):oU K H1' W' H' v m.blk:=by
 cases m with
 |sh g x=>exact rv
 |own x=>exact rv
 |kp g x ks=>exact⟨⟨r.1.1.keep k,r.1.2⟩,r.2.any.keep k f⟩
noncomputable def jZ (D:ax):ax->Prop:=λa=>a=D
theorem ai6 {K:ae}{H0:Hp}{W:ax->Prop}{σ:St}{ρ:bD}{H1 H':Hp}{D:ax}{acc:List V}{fr:List (Option Nat)}(px:PX K H0 W σ ρ H1)(hD:H1 D=none)(s:aD H1 H')(ha:H' D=some (.lst acc)) :
  PX K H1 (jZ D) (dG fr σ) (lJ fr ρ) H':=by
 have old:∀{a:ax}{o:HO},H1 a=some o->a≠D:=λ{a o} e z=>by rw[z,hD]at e;cases e
 refine⟨by unfold dG lJ;rw[aH4,aH4],s,λa z=>by cases z;exact⟨hD,_,ha,rfl⟩,λi m h=>?_,λi j x y a h1=>?_⟩
 ·unfold lJ at h
  rw[aI8]at h;cases ef:fr[i]? with
  |none=>rw[ef]at h;cases h
  |some o=>
   rw[ef]at h;cases o with
   |none=>cases h
   |some j=>
    have h:some ((ρ[j]?).join.map Slot.blk)=some (some m):=h;cases er:ρ[j]? with
    |none=>rw[er]at h;cases h
    |some o=>
     rw[er]at h;cases o with
     |none=>cases h
     |some m0=>
      cases h
      obtain⟨v,ev,r⟩:=px.sl j m0 er
      refine⟨v,?_,?_⟩
      ·unfold dG
       rw[aI8,ef];show some ((σ[j]?).join)=_;rw[ev];rfl
      ·have r':aG K (λ_=>True) H1 v m0.val:=(xQ (Hs:=H1) r).same (aD.refl _) λ_ _=>trivial
       refine ai5 r (.same s λ_ z=>z) (λ_ _ e _=>s _ _ e) ?_;exact r'.keep ⟨λa _ _ e=>⟨old e,s _ _ e⟩,λa _ _ e=>⟨old e,s _ _ e⟩,λa _ _ e=>⟨old e,s _ _ e⟩,λ_ _ e=>s _ _ e,λ_ _ _ e _=>s _ _ e⟩
 ·unfold lJ at h1
  rw[aI8]at h1;cases ef:fr[i]? with
  |none=>rw[ef]at h1;cases h1
  |some o=>
   rw[ef]at h1;cases o with
   |none=>cases h1
   |some j=>
    have h1:some ((ρ[j]?).join.map Slot.blk)=some (some (Slot.own x)):=h1;cases er:ρ[j]? with
    |none=>rw[er]at h1;cases h1
    |some o=>
     rw[er]at h1;cases o with
     |none=>cases h1
     |some m0=>exact (Slot.blk_own (aI7 (aI7 h1))).elim
section
variable {X:Cx}{σ:St}{H:Hp}{Q':VK}
noncomputable abbrev _root_.L2.Cx.frm (X:Cx)(H1:Hp):Cx:={ X with H₀:=H1 }
noncomputable def dO (ti:dN)(fr:List (Option Nat))(p:iE)(tc:cD)(te:aE):aE:=λρ Q=>ti ρ λxs g=>xs.length<=16000000/\∃I:Nat->List PV->Prop,I 0 []/\
 (∀i x acc,xs[i]? = some x->I i acc->p x false (lJ fr ρ) λρ2=>tc ρ2 λb=>if b=true then te ρ2 λy gy=>Nw gy y/\I (i+1) (acc++[y]) else I (i+1) acc)/\∀acc,I xs.length acc->Q (.lst acc) .fr
theorem p7 {ti:dN}{fr:List (Option Nat)}{p:iE}{g:TG}{tc:cD}{te:aE}{own:Nat->Prop}(hg:lI X.K own p g)(ho:∀i,own i->fr[i]? = some none)(h:LE X (dO ti fr p tc te) σ H Q') :
  rS (LI X ti) fr (λ_=>g) (λH1=>LT (X.frm H1) tc) (λH1=>LE (X.frm H1) te) σ H Q':=by
 obtain⟨W,ρ,Q,px,q,k⟩:=h
 refine⟨W,ρ,_,px,q,?_⟩;rintro J H1 xs gb s it ⟨hl,I,i0,turn,fin⟩ D hD;have px1:=px.mono s;refine⟨λi m acc H'=>m=xs.length-i/\i<=xs.length/\aD H1 H'/\H' D=some (.lst acc)/\∃ys,Reps X.K (Ms H1 (jZ D) true) H' acc ys/\ys.length<=i/\I i ys,⟨xs.length,by omega,aK9 _,bY hD _,cA,[],.nil,aH9 _,i0⟩,?_⟩;rintro i m acc H' ⟨rfl,hi,sm,ha,ys,ry,hy,iy⟩;refine⟨ha,?_⟩;have ev:Ev W H1 (lG W D) H':=Ev.own sm hD;by_cases hlt:i<xs.length
 ·refine .inr ⟨it.go _ H' i ev hlt,λv H2 y=>?_⟩
  obtain⟨s2,x,hx,rx⟩:=it.yld _ H' i v H2 ev y hlt
  have ha2:=s2 _ _ ha;have pxb:PX X.K H1 (jZ D) (dG fr σ) (lJ fr ρ) H2:=ai6 px1 hD (sm.trans s2) ha2;have rx':aG X.K (Ms H1 (jZ D) false) H2 v x:=rx.same (aD.refl _) λa z=>by
   cases gb with
   |true=>exact λe=>z.1 (.inr e)
   |false=>exact λe=>z (.inr e)
  refine hg H1 (jZ D) _ _ H2 v x false _ _ pxb rx' (turn i x ys hx iy) λσ2 ρ2 px2 hown ak q2=>⟨⟨ak.symm,λj w e=>?_⟩,?_⟩
  ·by_cases oj:own j
   ·have:=ho j oj
    unfold dG at e;rw[aI8,this]at e;cases e
   ·rw[hown j oj];exact e
  ·refine⟨jZ D,ρ2,_,px2,q2,λb H4 s4 q4=>?_⟩
   have ha4:=s4 _ _ ha2;have sm4:=(sm.trans s2).trans s4;cases b with
   |false=>
    refine aP ⟨xs.length-(i+1),by omega,rfl,hlt,sm4,ha4,ys,ry.same (s2.trans s4) λ_ z=>z,by omega,by simpa using q4⟩
   |true=>
    refine aQ ⟨jZ D,ρ2,_,px2.mono s4,by simpa using q4,?_⟩;rintro w H5 y gy s5 ryy ⟨nw,q5⟩;have ha5:=s5 _ _ ha4;have lr:=ry.length;refine⟨ha5,oR (by omega),xs.length-(i+1),by omega,rfl,hlt,λb o e=>?_,cA,ys++[y],?_,by rw[aJ3,List.length_singleton];omega,q5⟩
    ·rw[aZ (λz=>by rw[z,hD]at e;cases e)]
     exact s5 _ _ (sm4 _ _ e)
    ·exact ((ry.same ((s2.trans s4).trans s5) λ_ z=>z).append (.cons (Nw.rep (px2.mono s4) nw ryy) .nil)).keep (.upd ha5 rfl λb m=>⟨m.1,m⟩)
 ·have e:i=xs.length:=by omega
  subst e;refine .inl ⟨it.stop _ H' ev,k _ H' _ .fr (s.trans sm) (.lst (s.free hD) ha (ry.same (aD.refl _) λ_ z=>s.free z.2)) (fin ys iy)⟩
noncomputable def cL:cD:=λ_ Q=>Q true
theorem ai7 {Qb:Bool->Hp->Prop}(h:LT X cL σ H Qb):wZ σ H Qb:=by
 obtain⟨W,ρ,Q,px,q,k⟩:=h
 exact k _ _ (aD.refl _) q
end
section
variable {κ:Type}[DecidableEq κ]
noncomputable def sU (ps:List (κ×PV))(k:κ):Option PV:=(ps.find? λp=>decide (p.1=k)).map (·.2)
noncomputable def eR (ps:List (κ×PV))(k:κ)(x:PV):List (κ×PV):=if (ps.any λp=>decide (p.1=k))=true then ps.map (λp=>if p.1=k then (p.1,x) else p) else ps++[(k,x)]
variable {K:ae}{M:ax→Prop}{H:Hp}
theorem ai8 (k:κ):∀{kvs:List (κ×V)}{ps:List (κ×PV)},kvs.map (·.1)=ps.map (·.1)->Reps K M H (kvs.map (·.2)) (ps.map (·.2))->(sU ps k=none->gL kvs k=none)/\∀x,sU ps k=some x->∃v,gL kvs k=some v/\aG K M H v x
 |[],[],_,_=>⟨λ_=>rfl,λx h=>by cases h⟩
 |[],_::_,e,_=>by cases e
 |_::_,[],e,_=>by cases e
 |(k1,v)::kvs,(k2,x)::ps,e,r=>by
  injection e with e1 e2
  have e1:k1=k2:=e1;subst e1;cases r with
  |cons r t=>
   obtain⟨h1,h2⟩:=ai8 k e2 t
   unfold sU gL at h1 h2 ⊢;by_cases e:k1=k
   ·simp only[List.find?_cons,e,decide_true,Option.map_some]
    exact⟨λz=>(by cases z),λy z=>(by cases z;exact⟨v,rfl,r⟩)⟩
   ·simp only[List.find?_cons,e,decide_false]
    exact⟨h1,h2⟩
theorem ai9 (k:κ){kvs:List (κ×V)}{ps:List (κ×PV)}(e:kvs.map (·.1)=ps.map (·.1)):(kvs.any λp=>decide (p.1=k))=ps.any λp=>decide (p.1=k):=by
 have h1:(kvs.any λp=>decide (p.1=k))=(kvs.map (·.1)).any λz=>decide (z=k):=by rw[List.any_map];rfl
 have h2:(ps.any λp=>decide (p.1=k))=(ps.map (·.1)).any λz=>decide (z=k):=by rw[List.any_map];rfl
 rw[h1,h2,e]
theorem yB (k:κ){w:V}{y:PV}(q:aG K M H w y):∀{kvs:List (κ×V)}{ps:List (κ×PV)},kvs.map (·.1)=ps.map (·.1)->Reps K M H (kvs.map (·.2)) (ps.map (·.2))->
  (kvs.map λkv=>if kv.1=k then (kv.1,w) else kv).map (·.1)=(ps.map λkv=>if kv.1=k then (kv.1,y) else kv).map (·.1)/\Reps K M H ((kvs.map λkv=>if kv.1=k then (kv.1,w) else kv).map (·.2)) ((ps.map λkv=>if kv.1=k then (kv.1,y) else kv).map (·.2))
 |[],[],_,_=>⟨rfl,.nil⟩
 |[],_::_,e,_=>by cases e
 |_::_,[],e,_=>by cases e
 |(k1,v)::kvs,(k2,x)::ps,e,r=>by
  injection e with e1 e2
  have e1:k1=k2:=e1;subst e1;cases r with
  |cons r t=>
   obtain⟨h1,h2⟩:=yB k q e2 t
   by_cases e:k1=k
   ·simp only[aK5,e,if_true]
    exact⟨by rw[h1],.cons q h2⟩
   ·simp only[aK5,e,aN0]
    exact⟨by rw[h1],.cons r h2⟩
theorem aj0 (k:κ){w:V}{y:PV}(q:aG K M H w y){kvs:List (κ×V)}{ps:List (κ×PV)}(e:kvs.map (·.1)=ps.map (·.1))(r:Reps K M H (kvs.map (·.2)) (ps.map (·.2))) :
  (eM kvs k w).map (·.1)=(eR ps k y).map (·.1)/\Reps K M H ((eM kvs k w).map (·.2)) ((eR ps k y).map (·.2)):=by
 unfold eM eR;rw[ai9 k e];split
 ·exact yB k q e r
 ·rw[aK6,aK6,aK6,aK6,e]
  exact⟨rfl,r.append (.cons q .nil)⟩
end
noncomputable def kP:aN->PV
 |.inl i=>.int i
 |.inr x=>.str x
theorem aj1 {K:ae}{M:ax->Prop}{H:Hp}{v:V}{k:aN}(r:aG K M H v (kP k)):v=kV k:=by
 cases k with
 |inl i=>cases r;rfl
 |inr x=>cases r;rfl
theorem yC {K:ae}{M:ax->Prop}{H:Hp}:∀{ks:List aN}{us:List V},Reps K M H us (ks.map kP)->us=ks.map kV
 |[],_,.nil=>rfl
 |k::r,_,.cons q t=>by rw[aj1 q,yC t];rfl
section
variable {X:Cx}{σ:St}{H:Hp}{D:cP}{tk td te:aE}{Q':VK}
theorem PX.updT {K:ae}{H0:Hp}{W:ax->Prop}{σ:St}{ρ:bD}{H:Hp}{i:Nat}{a:ax}{x:PV}{kvs:List (List aN×V)}{ps:List (List aN×PV)}(p:PX K H0 W σ ρ H)(hi:ρ[i]? = some (some (.own x)))(ha:σ[i]? = some (some (.ref a)))(wa:W a)(r:kvs.map (·.1)=ps.map (·.1)/\Reps K (Ms H0 W true) (upd H a (.dT kvs)) (kvs.map (·.2)) (ps.map (·.2))):PX K H0 W σ (ρ.set i (some (.own (.dT ps)))) (upd H a (.dT kvs)):=p.updOwn hi ha wa rfl (y:=.dT ps) ⟨kvs,cA,r⟩
theorem aj2 {κ α β:Type}{l:List (κ×α)}{m:List (κ×β)}(e:l.map (·.1)=m.map (·.1)):l.length=m.length:=by
 have:=congrArg List.length e
 rw[aH4,aH4]at this;exact this
noncomputable def sV (i:Nat)(tk te:aE):aM:=λD ρ=>te ρ λz g=>∃ps,ρ[i]? = some (some (.own (.dT ps)))/\tk ρ λy _=>∃k,y = .tup (k.map kP)/\Nw g z/\ps.length<16000000/\D.nx (ρ.set i (some (.own (.dT (eR ps k z)))))
theorem aj3 {i:Nat}(h:LS X (sV i tk te) D σ H):wR (jP i) (LE X tk) (LE X te) D σ H:=by
 obtain⟨W,ρ,D',px,q,k⟩:=h
 refine⟨W,ρ,_,px,q,?_⟩;rintro w H1 z g s rz ⟨ps,hi,q⟩
 obtain⟨v,ev,a,rfl,wa,kvs,ea,e1,r⟩:=(px.mono s).sl i _ hi
 refine⟨_,ev,W,ρ,_,px.mono s,q,?_⟩;rintro kv H2 y g' s2 ry ⟨kk,rfl,nw,hl,q⟩
 obtain⟨b,us,rfl,hb,rb⟩:=ry.sqT
 obtain rfl:=yC rb;have ea2:=s2 _ _ ea;refine⟨a,_,rfl,mG.t ea2 hb (oR (by rw[aj2 e1];omega)),?_⟩;refine k.nx W σ _ _ ((Ev.same (s.trans s2)).trans (Ev.upd wa)) ((px.mono (s.trans s2)).updT hi ev wa ?_) q
 obtain⟨h1,h2⟩:=aj0 kk ((Nw.rep px nw rz).same s2 λ_ z=>z) e1 (r.same s2 λ_ z=>z)
 exact⟨h1,h2.keep (.upd ea2 rfl λb m=>⟨mM wa m,m⟩)⟩
theorem aj4 (h:LE X (qC (.dT [])) σ H Q'):wS σ H Q':=by
 obtain⟨W,ρ,Q,px,q,k⟩:=h
 exact λp hp=>k _ _ _ .fr (bY hp _) (.dT hp cA rfl .nil) q
end
noncomputable def c8:Nat->PV->PV->Bool
 |_,.non,.non=>true
 |_,.bl a,.bl b=>a==b
 |_,.int a,.int b=>a==b
 |_,.str a,.str b=>a==b
 |n+1,.tup xs,.tup ys=>(xs.zip ys).all (λp=>c8 n p.1 p.2)&&xs.length==ys.length
 |n+1,.lst xs,.lst ys=>(xs.zip ys).all (λp=>c8 n p.1 p.2)&&xs.length==ys.length
 |n+1,.kt xs,.kt ys=>(xs.zip ys).all (λp=>c8 n p.1 p.2)&&xs.length==ys.length
 |_,_,_=>false
noncomputable def cS:Nat->PV->PV->Bool
 |_,.non,.non=>true
 |_,.bl _,.bl _=>true
 |_,.int _,.int _=>true
 |_,.str _,.str _=>true
 |_,.non,.int _=>true
 |_,.int _,.non=>true
 |n+1,.tup xs,.tup ys=>(xs.zip ys).all (λp=>cS n p.1 p.2)
 |n+1,.lst xs,.lst ys=>(xs.zip ys).all (λp=>cS n p.1 p.2)
 |n+1,.kt xs,.kt ys=>(xs.zip ys).all (λp=>cS n p.1 p.2)
 |_+1,.non,.tup _=>true
 |_+1,.tup _,.non=>true
 |_,_,_=>false
noncomputable def sW (neg:Bool):PV->Tg->PV->Tg->PK->Prop:=λx _ y _ Q=>∃i ns,x = .int i/\j6 y=some (intz ns)/\Q (.bl (if neg=true then !decide (i∈ns) else decide (i∈ns))) .fr
noncomputable def yD:PV->Option String
 |.non=>some "NoneType"
 |.bl _=>some "bool"
 |.int _=>some "int"
 |.str _=>some "str"
 |.tup _=>some "tuple"
 |.kt _=>some "tuple"
 |.lst _=>some "list"
 |_=>none
noncomputable def iF (K:ae)(n:String)(te:aE):aE:=λρ Q=>te ρ λx _=>∃T b,yD x=some T/\PySem.W.kitOne K (.type T) (.type n)=some b/\Q (.bl b) .fr
noncomputable def p9 (n:Nat)(neg:Bool):PV->Tg->PV->Tg->PK->Prop:=λx _ y _ Q=>((∃xs ys,x = .tup xs/\y = .tup ys)∨(∃xs ys,x = .lst xs/\y = .lst ys))/\cS (n+1) x y=true/\Q (.bl (if neg=true then !c8 (n+1) x y else c8 (n+1) x y)) .fr
noncomputable abbrev iG:=bD->(Option Int->Prop)->Prop
noncomputable def iH (xs:List PV)(lo hi:Option Int):List PV:=(xs.drop (HT.aV xs.length 0 lo)).take (HT.aV xs.length xs.length hi-HT.aV xs.length 0 lo)
noncomputable def aj5:PV->List PV->PV
 |.tup _,ys=>.tup ys
 |.kt _,ys=>.tup ys
 |_,ys=>.lst ys
noncomputable def cM:iG:=λ_ Q=>Q none
noncomputable def cN (te:aE):iG:=λρ Q=>te ρ λx _=>∃i,x = .int i/\Q (some i)
noncomputable def pA (te:aE)(tl th:iG):aE:=λρ Q=>te ρ λx _=>tl ρ λlo=>th ρ λhi=>∃xs,sN x=some xs/\flats xs=true/\Q (aj5 x (iH xs lo hi)) .fr
noncomputable def dB (N:List Str)(xs:List PV):bD:=xs.map (λx=>some (.sh (flat x) x))++List.replicate (N.length-xs.length) none
noncomputable abbrev dI (ta tb:aE):aE:=q2 (fA λi j=>.int (i+j)) ta tb
noncomputable abbrev sX (ta tb:aE):aE:=q2 (fA λi j=>.int (i-j)) ta tb
noncomputable abbrev j7 (ta tb:aE):aE:=q2 (RI m9 λi j=>.int (i*j)) ta tb
noncomputable abbrev c9 (ta tb:aE):aE:=q2 (RI qX λi j=>.int (i/j)) ta tb
noncomputable abbrev b6 (ta tb:aE):aE:=q2 (RI (λ_ j=>0<j) λi j=>.int (i%j)) ta tb
noncomputable abbrev k6 (ta tb:aE):aE:=q2 (fA λi j=>.bl (decide (i<j))) ta tb
noncomputable abbrev iI (ta tb:aE):aE:=q2 (fA λi j=>.bl (decide (j<i))) ta tb
noncomputable abbrev sY (ta tb:aE):aE:=q2 (fA λi j=>.bl (decide (j<=i))) ta tb
noncomputable abbrev fJ (ta tb:aE):aE:=q2 (lF false) ta tb
noncomputable abbrev fM (ta tb:aE):aE:=q2 (lF true) ta tb
noncomputable abbrev aj6 (ta tb:aE):aE:=q2 (sR false) ta tb
noncomputable abbrev bH (ta tb:aE):aE:=q2 sM ta tb
noncomputable def iJ:List PV->(PV->Prop)->Prop:=λxs Q=>xZ xs Q/\∀ns,xs≠[.scr ns]
noncomputable def QE (X:Cx)(e:Expr)(t:aE):Prop:=PE X e (LE X t)
noncomputable def QT (X:Cx)(e:Expr)(t:cD):Prop:=PT X e (LT X t)
noncomputable def QW (X:Cx)(e:Expr)(t:cD):Prop:=PW X e (LT X t)
noncomputable def QA (X:Cx)(es:List Expr)(t:bN):Prop:=PA X es (LA X t)
noncomputable def QS (X:Cx)(st:Stmt)(t:aM):Prop:=PS X st (LS X t)
noncomputable def cT (X:Cx)(st:List Stmt)(t:aM):Prop:=cY X st (LS X t)
noncomputable def QI (X:Cx)(tg iter:Expr)(t:dN):Prop:=PI X tg iter (LI X t)
section
variable {X:Cx}
theorem bP {e:Expr}{t t':TE}(h:PE X e t)(m:∀σ H Q,t' σ H Q->t σ H Q):PE X e t':=λah s σ H Q I q=>h ah s σ H Q I (m σ H Q q)
theorem sZ {e:Expr}{t t':TT}(h:PT X e t)(m:∀σ H Q,t' σ H Q->t σ H Q):PT X e t':=λah s σ H Q I q=>h ah s σ H Q I (m σ H Q q)
theorem yE {e:Expr}{t t':TT}(h:PW X e t)(m:∀σ H Q,t' σ H Q->t σ H Q):PW X e t':=λwh ah s σ H Q I q=>h wh ah s σ H Q I (m σ H Q q)
theorem yF {e:List Expr}{t t':TA}(h:PA X e t)(m:∀σ H Q,t' σ H Q->t σ H Q):PA X e t':=λpos ah s σ H Q I q=>h pos ah s σ H Q I (m σ H Q q)
theorem eG {e:Stmt}{t t':TS}(h:PS X e t)(m:∀D σ H,t' D σ H->t D σ H):PS X e t':=λah s σ H D I q=>h ah s σ H D I (m D σ H q)
theorem t0 {e:List Stmt}{t t':TS}(h:cY X e t)(m:∀D σ H,t' D σ H->t D σ H):cY X e t':=λah s σ H D I q=>h ah s σ H D I (m D σ H q)
theorem mU {tg e:Expr}{t t':TI}(h:PI X tg e t)(m:∀σ H R,t' σ H R->t σ H R):PI X tg e t':=λah s σ H R I q=>h ah s σ H R I (m σ H R q)
variable {a b c e o:Expr}{es bT:List Expr}{ta tb te to tk:aE}{tr:bN}{tA tB' tc:cD}{pos p2 px:Pos}{st:Stmt}{sts:List Stmt}{t u:aM}
theorem qv (i:Nat){x:Str}{pos:Pos}(hN:X.N[i]? = some x:=by rfl)(hv:i6 X.env.scope x:=by first|exact Or.inl rfl|exact Or.inr (Or.inl rfl)|exact Or.inr (Or.inr rfl))(hd:(x==("__debug__":Str))=false:=by decide)(hcd:(x==("__classdict__":Str))=false:=by decide):QE X (.Name x pos) (a5 i):=bP (kY hN hv hd hcd) λ_ _ _=>ae7
theorem aA {i j}:QE X (.Constant (.int i) j pos) (qC (.int i)):=bP Q5 λ_ _ _=>lE λ_=>.int i
theorem fD {i j}:QE X (.Constant (.bool i) j pos) (qC (.bl i)):=bP Q6 λ_ _ _=>lE λ_=>.bl i
theorem fN {j}:QE X (.Constant .none j pos) (qC .non):=bP Q7 λ_ _ _=>lE λ_=>.non
theorem bQ {i j}:QE X (.Constant (.str i) j pos) (qC (.str i)):=bP Q8 λ_ _ _=>lE λ_=>.str i
theorem lK {op:Operator}{R:PV->Tg->PV->Tg->PK->Prop}{r:R2}(ho:bU X (binaryOp op) r)(cv:cI X R r)(ha:QE X a ta)(hb:QE X b tb):QE X (.BinOp a op b pos) (q2 R ta tb):=bP (T5 ho ha hb) λ_ _ _=>mK cv
theorem eI (ha:QE X a ta)(hb:QE X b tb):QE X (.BinOp a .Add b pos) (q2 (fA λi j=>.int (i+j)) ta tb):=lK T6 xR ha hb
theorem t4 (ha:QE X a ta)(hb:QE X b tb):QE X (.BinOp a .Sub b pos) (q2 (fA λi j=>.int (i-j)) ta tb):=lK T7 xR ha hb
theorem j8 (ha:QE X a ta)(hb:QE X b tb):QE X (.BinOp a .Mult b pos) (q2 (RI m9 λi j=>.int (i*j)) ta tb):=lK T8 sF ha hb
theorem cE (ha:QE X a ta)(hb:QE X b tb):QE X (.BinOp a .FloorDiv b pos) (q2 (RI qX λi j=>.int (i/j)) ta tb):=lK T9 sF ha hb
theorem bF (ha:QE X a ta)(hb:QE X b tb):QE X (.BinOp a .Mod b pos) (q2 (RI (λ_ j=>0<j) λi j=>.int (i%j)) ta tb):=lK U0 sF ha hb
theorem pB {op:CmpOp}{R:PV->Tg->PV->Tg->PK->Prop}{r:R2}(ho:bU X (compareOp op) r)(cv:cI X R r)(ha:QE X a ta)(hb:QE X b tb)(hm:behindInMarks op b=false):QE X (.Compare a [op] [b] pos) (q2 R ta tb):=bP (U5 ho ha hb hm) λ_ _ _=>mK cv
theorem fE {op:CmpOp}{R:PV->Tg->PV->Tg->PK->Prop}{r:R2}(ho:bU X (compareOp op) r)(cv:cI X R r)(ha:QE X a ta)(hb:QE X b tb)(hm:behindInMarks op b=false):QT X (.Compare a [op] [b] pos) (aJ (q2 R ta tb)):=sZ (U7 ho ha hb hm) λ_ _ _ h=>mK cv (xU h)
theorem lL (ha:QE X a ta)(hb:QE X b tb):QT X (.Compare a [.Lt] [b] pos) (aJ (q2 (fA λi j=>.bl (decide (i<j))) ta tb)):=fE vK oW ha hb (fW _)
theorem iK (ha:QE X a ta)(hb:QE X b tb):QT X (.Compare a [.Gt] [b] pos) (aJ (q2 (fA λi j=>.bl (decide (j<i))) ta tb)):=fE U2 oW ha hb (fW _)
theorem t5 (ha:QE X a ta)(hb:QE X b tb):QT X (.Compare a [.GtE] [b] pos) (aJ (q2 (fA λi j=>.bl (decide (j<=i))) ta tb)):=fE U3 oW ha hb (fW _)
theorem gS (ha:QE X a ta)(hb:QE X b tb):QT X (.Compare a [.Eq] [b] pos) (aJ (q2 (lF false) ta tb)):=fE qZ ae8 ha hb (fW _)
theorem gC (ha:QE X a ta)(hb:QE X b tb):QT X (.Compare a [.NotEq] [b] pos) (aJ (q2 (lF true) ta tb)):=fE U1 ae9 ha hb (fW _)
theorem aj7 (ha:QE X a ta)(hb:QE X b tb):QT X (.Compare a [.Is] [b] pos) (aJ (q2 (sR false) ta tb)):=fE U4 ah9 ha hb (fW _)
theorem j9 (h:QE X e te)(he:∀whole,isTrue e X.env whole=(do let v <- whole;standAt e.pos;holding [v] (truthy v)):=by intro _;rfl):QT X e (aJ te):=sZ (Q9 h he) λ_ _ _ h=>xU h
theorem k7 (ha:QT X a tA):QW X (.BoolOp .And [a] pos) tA:=R0 ha
theorem iL (ha:QT X a tA):QW X (.BoolOp .Or [a] pos) tA:=R1 ha
theorem k8 (ha:QT X a tA)(hb:QW X (.BoolOp .And (b::bT) pos) tB'):QW X (.BoolOp .And (a::b::bT) pos) (gN tA tB'):=yE (R3 ha hb) λ_ _ _=>af0
theorem fO (ha:QT X a tA)(hb:QW X (.BoolOp .Or (b::bT) pos) tB'):QW X (.BoolOp .Or (a::b::bT) pos) (eO tA tB'):=yE (R4 ha hb) λ_ _ _=>af1
theorem dY (h:QW X e tA):QT X e tA:=PW.pt h
theorem jC (ha:QT X a tA):QT X (.UnaryOp .Not a pos) (gO tA):=sZ (R5 ha) λ_ _ _=>af2
theorem yG {op}(h:QE X a ta):QE X (.BoolOp op [a] pos) ta:=R6 h
theorem yH (ha:QE X a ta)(hb:QE X (.BoolOp .And (b::bT) pos) tb):QE X (.BoolOp .And (a::b::bT) pos) (oX ta tb):=bP (R7 ha hb) λ_ _ _=>af3
theorem aj8 (ha:QE X a ta):QE X (.UnaryOp .Not a pos) (sG ta):=bP (R8 ha) λ_ _ _=>af4
theorem aB:QA X [] a9:=yF gJ λ_ _ _=>af5
theorem a8 (ha:QE X e te)(hr:QA X es tr)(hs:starEach (e::es) X.env=(false,eval e X.env)::starEach es X.env:=by rfl):QA X (e::es) (a7 te tr):=yF (e9 ha hr hs) λ_ _ _=>af6
theorem iM {x1}(h:QA X es tr):QE X (.Tuple es x1 pos) (gB tr):=bP (vN h) λ_ _ _=>af8
theorem aj9 {x1}(h:QA X es tr):QE X (.Tuple es x1 pos) (sH tr):=bP (vN h) λ_ _ _=>af7
theorem dP (h:QA X es tr):QE X (.List es pos) (dA tr):=bP (V6 h) λ_ _ _=>af9
theorem bK (ha:QE X a ta)(hb:QE X b tb)(hs:rJ b:=by exact λ_ _=>rfl):QE X (.Subscript a b pos) (q2 sM ta tb):=bP (w6 Y4 ha hb hs) λ_ _ _=>mK ah1
theorem ak0:QE X (.Dict [] [] pos) (qC (.dT [])):=bP aa6 λ_ _ _=>aj4
theorem lM {x:Str}{id:String}{R:List PV->(PV->Prop)->Prop}{r:List V->Hp->VK->Prop}(hc:cH X (.builtin id) r)(cv:eQ X R r)(hg:Gl X x)(hm:X.mg x=none)(hv:bootBuiltins x=some (.builtin id))(ha:QA X (e::es) tr)(hn:x≠"__name__":=by decide)(hdb:(x==("__debug__":Str))=false:=by decide)(he:starEach (e::es) X.env=(false,eval e X.env)::starEach es X.env:=by rfl)(hpl:(backTo pos (starEach es X.env)).any (·.1)=false:=by rfl):QE X (.Call (.Name x p2) (e::es) [] pos) (aF R tr):=bP (rE hc hg hm hv ha hn hdb he hpl) λ_ _ _=>xV cv
theorem mV {x:Str}{T:String}{R:List PV->(PV->Prop)->Prop}{r:List V->Hp->VK->Prop}(hc:cH X (.type T) r)(cv:eQ X R r)(hg:Gl X x)(hm:X.mg x=none)(hv:bootBuiltins x=some (.type T))(ha:QA X (e::es) tr)(hn:x≠"__name__":=by decide)(hdb:(x==("__debug__":Str))=false:=by decide)(he:starEach (e::es) X.env=(false,eval e X.env)::starEach es X.env:=by rfl)(hpl:(backTo pos (starEach es X.env)).any (·.1)=false:=by rfl):QE X (.Call (.Name x p2) (e::es) [] pos) (aF R tr):=bP (V9 hc hg hm hv ha hn hdb he hpl) λ_ _ _=>xV cv
theorem bL:cT X [] bE:=t0 S0 λ_ _ _=>ag0
theorem aI (h1:QS X st t)(h2:cT X sts u):cT X (st::sts) (aH t u):=t0 (S2 h1 h2) λ_ _ _=>ag1
theorem aK (h1:QS X st t):cT X [st] t:=S3 h1
theorem bB {i:Nat}{x:Str}(hN:X.N.Nodup)(he:QE X e te)(hi:X.N[i]? = some x:=by rfl)(hx:iW X.env.scope x:=by first|exact Or.inl rfl|exact Or.inr rfl)(hs:swapsWith e (some (.Name x p2)) pos.line X.env=pure false:=by rfl)(hf:X.fn x=true∨X.env.scope.names.lookup x=some .local:=by first|exact .inl rfl|exact .inr rfl) :
  QS X (.Assign [.Name x p2] e pos) (aW i te):=eG (v4 hN hi hx he hs hf) λ_ _ _=>sK
theorem k9 {i:Nat}{x:Str}(hN:X.N.Nodup)(he:QE X e te)(hi:X.N[i]? = some x:=by rfl)(hx:iW X.env.scope x:=by first|exact Or.inl rfl|exact Or.inr rfl)(hs:swapsWith e (some (.Name x p2)) pos.line X.env=pure false:=by rfl)(hf:X.fn x=true∨X.env.scope.names.lookup x=some .local:=by first|exact .inl rfl|exact .inr rfl) :
  QS X (.Assign [.Name x p2] e pos) (iD i te):=eG (v4 hN hi hx he hs hf) λ_ _ _=>ag4
theorem b8 (he:QE X e te):QS X (.Return (some e) pos) (aY te):=eG (uY he) λ_ _ _=>ag5
theorem ak1 (i:Nat){x:Str}(hN:X.N[i]? = some x:=by rfl)(hv:i6 X.env.scope x:=by first|exact Or.inl rfl|exact Or.inr (Or.inl rfl)|exact Or.inr (Or.inr rfl))(hd:(x==("__debug__":Str))=false:=by decide)(hcd:(x==("__classdict__":Str))=false:=by decide) :
  QS X (.Return (some (.Name x p2)) pos) (sL i):=eG (uY (kY hN hv hd hcd)) λ_ _ _=>ag6
theorem bJ {sa sb:List Stmt}(hc:QT X c tc)(ha:cT X sa t)(hb:cT X sb u):QS X (.If c sa sb pos) (bA tc t u):=eG (S4 hc ha hb) λ_ _ _=>ag7
theorem yI {body:List Stmt}(hp:PassesOwn (model X.prog X.w) X.A X.env X.xe)(hc:QT X c tc)(hb:cT X body t):QS X (.While c body [] pos) (mO tc t):=eG (S7 hp hc hb) λ_ _ _=>ag8
theorem mW (i:Nat){x:Str}{ai aj xpos:Pos}(he:QE X e te)(hN:X.N[i]? = some x:=by rfl)(hv:i6 X.env.scope x:=by first|exact Or.inl rfl|exact Or.inr (Or.inl rfl)|exact Or.inr (Or.inr rfl))(hd:(x==("__debug__":Str))=false:=by decide)(hcd:(x==("__classdict__":Str))=false:=by decide)(hbase:attributeBase (.Name x xpos) "append" X.env (eval (.Name x xpos) X.env)=eval (.Name x xpos) X.env:=by rfl)(hfew:((backTo aj (starEach [e] X.env)).all (λx=>!x.1)&&(backToKw aj (keywordEach [] X.env)).all (λx=>x.1.isSome)&&decide (([e]:List Expr).length+([]:List Keyword).length+(if ([]:List Keyword).isEmpty then 0 else 1)<30))=true:=by rfl)(hline:(ai.endLine==aj.line)=true:=by rfl)(hs:starEach [e] X.env=(false,eval e X.env)::starEach [] X.env:=by rfl)(aq:(backTo aj (starEach [] X.env)).any (·.1)=false:=by rfl)(hsw:swapsWith (.Call (.Attribute (.Name x xpos) "append" ai) [e] [] aj) none pos.line X.env=pure false:=by rfl) :
  QS X (.Expr (.Call (.Attribute (.Name x xpos) "append" ai) [e] [] aj) pos) (jY i te):=
 eG (qQ (lA PySem.F.plainAttrs_list PySem.F.slot_list_append PySem.F.type_list_append rM (kY hN hv hd hcd) (e9 he gJ hs) hbase hfew hline hs aq) hsw) λ_ _ _=>ag9
theorem ak2 {i:Nat}{x:Str}{xpos tpos:Pos}(hu:X.A.units+1<cLine)(hk:QE X a tk)(he:QE X e te)(hN:X.N[i]? = some x:=by rfl)(hv:i6 X.env.scope x:=by first|exact Or.inl rfl|exact Or.inr (Or.inl rfl)|exact Or.inr (Or.inr rfl))(hd:(x==("__debug__":Str))=false:=by decide)(hcd:(x==("__classdict__":Str))=false:=by decide)(hs:swapsWith e (some (.Subscript (.Name x xpos) a tpos)) pos.line X.env=pure false:=by rfl):QS X (.Assign [.Subscript (.Name x xpos) a tpos] e pos) (sV i tk te):=eG (aa4 hu (kY hN hv hd hcd) hk he hs) λ_ _ _=>aj3
theorem ak3 {tg l:Expr}{tl:TE}(hl:PE X l tl):PI X tg l (y3 X.K tl):=by
 intro ah s σ H R I h;refine aR (hl ah s σ H _ I h) λv s1 ⟨x,H1,I1,r1,q1⟩=>?_
 obtain⟨a,e,q⟩:=q1
 subst e;cases r1;rcases q with⟨xs,hq,q⟩|⟨xs,hq,q⟩
 ·obtain⟨its,rv,p,hz⟩:=I1.list hq
  refine wpAny_pyIter_list p.isList ?_;refine⟨s1.heap.objs.size,[s1.heap.objs.size],_,_,H1,rfl,I1.kept (t':=s1.toks) λb o e=>aH1 _ e,S8 a _,⟨_,aJ0 _ rfl,rfl,rfl⟩,λb hb=>?_,q⟩;have e:b=s1.heap.objs.size:=by simpa using hb
  subst e;exact I1.fpOk (aH9 _) (I1.hok.fresh (aH9 _))
 ·obtain⟨its,rv,p,hz⟩:=I1.tuple hq
  refine wpAny_pyIter_tuple (show s1.heap.IsTuple a its.toArray from p) ?_;refine⟨s1.heap.objs.size,[s1.heap.objs.size],_,_,H1,rfl,I1.kept (t':=s1.toks) λb o e=>aH1 _ e,S9 a _,⟨_,aJ0 _ rfl,rfl,rfl⟩,λb hb=>?_,q⟩;have e:b=s1.heap.objs.size:=by simpa using hb
  subst e;exact I1.fpOk (aH9 _) (I1.hok.fresh (aH9 _))
theorem jD {tg l:Expr}(hl:QE X l te):QI X tg l (gP te):=mU (ak3 hl) λ_ _ _=>ai0
theorem jE {tg:Expr}(hg:Gl X "range")(hm:X.mg "range" = none)(ha:QE X a ta)(hs:starEach [a] X.env = [(false,eval a X.env)]:=by rfl):QI X tg (.Call (.Name "range" p2) [a] [] pos) (gR ta):=mU (T1 hg hm (e9 ha gJ hs) hs) λ_ _ _=>ai1
theorem yJ {tg:Expr}(hg:Gl X "range")(hm:X.mg "range" = none)(ha:QE X a ta)(hb:QE X b tb)(hs:starEach [a,b] X.env = [(false,eval a X.env),(false,eval b X.env)]:=by rfl)(hs2:starEach [b] X.env = [(false,eval b X.env)]:=by rfl) :
  QI X tg (.Call (.Name "range" p2) [a,b] [] pos) (p5 ta tb):=mU (T2 hg hm (e9 ha (e9 hb gJ hs2) (by rw[hs,hs2])) hs hs2) λ_ _ _=>ai2
theorem ak4 {tg:Expr}{body:List Stmt}{ti:dN}{p:iE}{g:TG}{own:Nat->Prop}(hp:PassesOwn (model X.prog X.w) X.A X.env X.xe)(hc:X.calm=true)(hi:QI X tg e ti)(hg:PG X tg g)(ht:lI X.K own p g)(hb:cT X body t)(hs:∀x,foldedSetIterable e X.env x=pure x:=by intro _;rfl):QS X (.For tg e body [] pos) (dX ti p t):=eG (T4 hp hc hi hg hb hs) λ_ _ _=>ai4 ht
end
section
variable {X:Cx}{ah:List (ax×Obj)}{σ:St}{H:Hp}{s:aw}{K:ae}{M M':ax→Prop}
theorem lC.inj {a:ax}{us ws:List V}(h:lC K a us)(h':lC K a ws):us=ws:=by
 obtain⟨o,its,n,e1,_,e2,_,v⟩:=h
 obtain⟨o',its',n',e1',_,e2',_,v'⟩:=h'
 rw[e1]at e1';cases e1';rw[e2]at e2';cases e2';exact v.inj v'
theorem Reps.self_of {n:Nat}(ih:∀{v:V}{x y:PV},aG K M H v x->aG K M' H v y->cS n x y=true->c8 n x y=true):∀{vs:List V}{xs ys:List PV},Reps K M H vs xs->Reps K M' H vs ys->((xs.zip ys).all λp=>cS n p.1 p.2)=true->(((xs.zip ys).all λp=>c8 n p.1 p.2)&&xs.length==ys.length)=true
 |_,_,_,.nil,.nil,_=>rfl
 |_,_,_,.cons r t,.cons r' t',o=>by
  simp only[aR3,aR1,aK2]at o;have h1:=ih r r' o.1;have h2:=Reps.self_of ih t t' o.2;simp only[aR3,aR1,h1,Bool.true_and,aJ1]at h2 ⊢;rw[<- h2];congr 1;simp
theorem aG.self:∀(n:Nat) {v:V}{x y:PV},aG K M H v x->aG K M' H v y->cS n x y=true->c8 n x y=true:=by
 intro n
 induction n with
 |zero=>
  intro v x y r r' o;cases r with
  |non=>cases r';rfl
  |bl b=>cases r';exact aN8 b
  |int i=>cases r';exact aN8 i
  |str z=>cases r';exact aN8 z
  |_=>cases o
 |succ n ih=>
  intro v x y r r' o;cases r with
  |non=>cases r';rfl
  |bl b=>cases r';exact aN8 b
  |int i=>cases r';exact aN8 i
  |str z=>cases r';exact aN8 z
  |tup h rr=>
   cases r' with
   |tup h' rr'=>rw[h]at h';cases h';exact Reps.self_of ih rr rr' o
   |_=>cases o
  |lst _ h rr=>
   cases r' with
   |lst _ h' rr'=>rw[h]at h';cases h';exact Reps.self_of ih rr rr' o
   |_=>cases o
  |kt h rr=>
   cases r' with
   |kt h' rr'=>cases lC.inj h h';exact Reps.self_of ih rr rr' o
   |_=>cases o
  |_=>cases o
theorem Reps.self (n:Nat){vs:List V}{xs ys:List PV}(r:Reps K M H vs xs)(r':Reps K M' H vs ys)(o:((xs.zip ys).all λp=>cS n p.1 p.2)=true):(((xs.zip ys).all λp=>c8 n p.1 p.2)&&xs.length==ys.length)=true:=Reps.self_of (aG.self n) r r' o
theorem lN (n:Nat)(xs ys:List PV):(List.range (min xs.length ys.length)).all (λj=>c8 n (xs.getD j .non) (ys.getD j .non))=(xs.zip ys).all λp=>c8 n p.1 p.2:=by
 rw[aO5];simp only[aM5,aS8];constructor
 ·intro h p hp
  obtain⟨j,hj,e⟩:=List.getElem_of_mem hp
  have hj':j<min xs.length ys.length:=by simpa using hj
  have:=h j hj'
  rw[List.getElem_zip]at e;subst e;have h1:j<xs.length:=by omega
  have h2:j<ys.length:=by omega
  simpa[aK0,h1,h2] using this
 ·intro h j hj
  have h1:j<xs.length:=by omega
  have h2:j<ys.length:=by omega
  have hz:j<(xs.zip ys).length:=by simp;omega
  have:=h _ (aO8 hz)
  rw[List.getElem_zip]at this;simpa[aK0,h1,h2] using this
theorem yK (I:a6 X ah σ H s):∀(n:Nat) {A:ba}{v w:V}{x y:PV}{a b:ar},A.units+n<cLine->aG X.K M H v x->aG X.K M' H w y->aX v a->aX w b->cS n x y=true->SeqAt.EqAt A s a b (c8 n x y):=by
 intro n
 induction n with
 |zero=>
  intro A v w x y a b hu rx ry ra rb o;cases rx with
  |non=>
   cases ra;cases ry with
   |non=>cases rb;exact SeqAt.EqAt.same _
   |int i=>obtain⟨t',rfl⟩:=rb;exact SeqAt.EqAt.none_int _ _
   |_=>cases o
  |bl i=>
   cases ra;cases ry with
   |bl j=>cases rb;exact SeqAt.EqAt.bool_bool _ _
   |_=>cases o
  |int i=>
   obtain⟨t,rfl⟩:=ra
   cases ry with
   |int j=>obtain⟨t',rfl⟩:=rb;exact SeqAt.EqAt.int_int _ _ _ _
   |non=>cases rb;exact SeqAt.EqAt.int_none _ _
   |_=>cases o
  |str i=>
   obtain⟨t,rfl⟩:=ra
   cases ry with
   |str j=>obtain⟨t',rfl⟩:=rb;exact SeqAt.EqAt.str_str _ _ _ _
   |_=>cases o
  |_=>cases o
 |succ n ih=>
  intro A v w x y a b hu rx ry ra rb o;have items:∀{us ws:List V}{xs ys:List PV}{its ao:List ar},Reps X.K M H us xs->Reps X.K M' H ws ys->aO us its->aO ws ao->((xs.zip ys).all λp=>cS n p.1 p.2)=true->
    ∀j (h1:j<its.toArray.size) (h2:j<ao.toArray.size),SeqAt.EqAt A.in1 s its.toArray[j] ao.toArray[j] (c8 n (xs.getD j .non) (ys.getD j .non)):=λ{us ws xs ys its ao} r1 r2 v1 v2 ok j h1 h2=>by
   have l1:=v1.length;have l2:=v2.length;have m1:=r1.length;have m2:=r2.length;have k1:j<its.length:=by simpa using h1
   have k2:j<ao.length:=by simpa using h2
   have j1:j<us.length:=by omega
   have j2:j<ws.length:=by omega
   have i1:j<xs.length:=by omega
   have i2:j<ys.length:=by omega
   obtain⟨u,hu',ru⟩:=v1.get (aH2 j1)
   obtain⟨u2,hu2',ru2⟩:=v2.get (aH2 j2)
   obtain⟨x,hx,rx⟩:=r1.get (aH2 j1)
   obtain⟨y,hy,ry⟩:=r2.get (aH2 j2)
   have e1:its.toArray[j]=u:=by
    rw[aH2 k1]at hu';simpa using hu'
   have e2:ao.toArray[j]=u2:=by
    rw[aH2 k2]at hu2';simpa using hu2'
   have ok':cS n x y=true:=by
    rw[aM5]at ok;have hz:j<(xs.zip ys).length:=by simp;omega
    have:=ok _ (aO8 hz)
    rw[List.getElem_zip]at this;rw[aH2 i1]at hx;rw[aH2 i2]at hy;cases hx;cases hy;exact this
   rw[e1,e2];have g1:xs.getD j .non=x:=by rw[aK0,hx];rfl
   have g2:ys.getD j .non=y:=by rw[aK0,hy];rfl
   rw[g1,g2];exact ih (by show A.units+1+n<cLine;omega) rx ry ru ru2 ok'
  have huA:A.units<cLine:=by omega
  cases rx with
  |@kt p us xs h1 r1=>
   obtain⟨its,v1,p1,_⟩:=I.tuple (.inr h1)
   cases (show a=Value.ref p from ra);cases ry with
   |@kt p2 ws ys h2 r2=>
    obtain⟨ao,v2,p2',_⟩:=I.tuple (.inr h2)
    cases (show b=Value.ref p2 from rb);by_cases e:p=p2
    ·subst e
     have:=aG.self (K:=X.K) (M:=M) (M':=M') (n+1) (.kt h1 r1) (.kt h2 r2) o
     rw[this];exact SeqAt.EqAt.same _
    ·have:=SeqAt.RcAt.tuples p1 p2' huA (items r1 r2 v1 v2 o)
     refine .of_refs e ?_;have l1:=v1.length;have l2:=v2.length;have m1:=r1.length;have m2:=r2.length;rw[aH7,aH7,<- l1,<- l2,m1,m2,lN]at this;exact this
   |_=>cases o
  |@tup p us xs h1 r1=>
   obtain⟨its,v1,p1,_⟩:=I.tuple (aU.of (K:=X.K) h1)
   cases (show a=Value.ref p from ra);cases ry with
   |@tup p2 ws ys h2 r2=>
    obtain⟨ao,v2,p2',_⟩:=I.tuple (aU.of (K:=X.K) h2)
    cases (show b=Value.ref p2 from rb);by_cases e:p=p2
    ·subst e
     have:=aG.self (K:=X.K) (M:=M) (M':=M') (n+1) (.tup h1 r1) (.tup h2 r2) o
     rw[this];exact SeqAt.EqAt.same _
    ·have:=SeqAt.RcAt.tuples p1 p2' huA (items r1 r2 v1 v2 o)
     refine .of_refs e ?_;have l1:=v1.length;have l2:=v2.length;have m1:=r1.length;have m2:=r2.length;rw[aH7,aH7,<- l1,<- l2,m1,m2,lN]at this;exact this
   |non=>cases rb;exact SeqAt.EqAt.tuple_none p1 huA
   |_=>cases o
  |@lst p us xs _ h1 r1=>
   obtain⟨its,v1,p1,_⟩:=I.list (aS.of (K:=X.K) h1)
   cases (show a=Value.ref p from ra);cases ry with
   |@lst p2 ws ys _ h2 r2=>
    obtain⟨ao,v2,p2',_⟩:=I.list (aS.of (K:=X.K) h2)
    cases (show b=Value.ref p2 from rb);have l1:=v1.length;have l2:=v2.length;have m1:=r1.length;have m2:=r2.length;by_cases e:p=p2
    ·subst e
     rw[h1]at h2;cases h2
     have:=Reps.self n r1 r2 o
     show SeqAt.EqAt A s _ _ ((xs.zip ys).all (λp=>c8 n p.1 p.2)&&xs.length==ys.length);rw[this];exact SeqAt.EqAt.same _
    ·refine .of_refs e ?_
     by_cases hl:xs.length=ys.length
     ·have:=SeqAt.RcAt.lists p1.isList p2'.isList (by rw[aH7,aH7];omega) huA (items r1 r2 v1 v2 o)
      have hm:min xs.length ys.length=its.length:=by omega
      rw[aH7,<- hm,lN]at this;show SeqAt.RcAt A s _ _ ((xs.zip ys).all (λp=>c8 n p.1 p.2)&&xs.length==ys.length);rw[show (xs.length==ys.length)=true by simpa using hl,Bool.and_true];exact this
     ·have:=SeqAt.RcAt.lists_lengths (A:=A) p1.isList p2'.isList (by rw[aH7,aH7];simp;omega) huA
      show SeqAt.RcAt A s _ _ ((xs.zip ys).all (λp=>c8 n p.1 p.2)&&xs.length==ys.length);rw[show (xs.length==ys.length)=false by simpa using hl,Bool.and_false];exact this
   |_=>cases o
  |non=>
   cases ra;cases ry with
   |non=>cases rb;exact SeqAt.EqAt.same _
   |int i=>obtain⟨t',rfl⟩:=rb;exact SeqAt.EqAt.none_int _ _
   |@tup p2 ws ys h2 r2=>
    obtain⟨ao,v2,p2',_⟩:=I.tuple (aU.of (K:=X.K) h2)
    cases (show b=Value.ref p2 from rb);exact SeqAt.EqAt.none_tuple p2' huA
   |_=>cases o
  |bl i=>
   cases ra;cases ry with
   |bl j=>cases rb;exact SeqAt.EqAt.bool_bool _ _
   |_=>cases o
  |int i=>
   obtain⟨t,rfl⟩:=ra
   cases ry with
   |int j=>obtain⟨t',rfl⟩:=rb;exact SeqAt.EqAt.int_int _ _ _ _
   |non=>cases rb;exact SeqAt.EqAt.int_none _ _
   |_=>cases o
  |str i=>
   obtain⟨t,rfl⟩:=ra
   cases ry with
   |str j=>obtain⟨t',rfl⟩:=rb;exact SeqAt.EqAt.str_str _ _ _ _
   |_=>cases o
  |_=>cases o
end
structure Bt (mg:Str->Option ar):Prop where
 len:mg "len" = none
 range:mg "range" = none
 tuple:mg "tuple" = none
 list:mg "list" = none
 sorted:mg "sorted" = none
 all:mg "all" = none
 any:mg "any" = none
 zip:mg "zip" = none
 min:mg "min" = none
 max:mg "max" = none
 sum:mg "sum" = none
 isinst:mg "isinstance" = none
 int:mg "int" = none
 bool:mg "bool" = none
 enum:mg "enumerate" = none
section
variable {X:Cx}{a b c e o:Expr}{es bT:List Expr}{ta tb te to tk:aE}{tr:bN}{tA tB' tc:cD}{pos p2 px:Pos}{st:Stmt}{sts:List Stmt}{t u:aM}
theorem cU (B:Bt X.mg)(ha:QA X [e] tr)(hg:Gl X "len":=by rfl)(he:starEach [e] X.env=(false,eval e X.env)::starEach [] X.env:=by rfl)(hpl:(backTo pos (starEach [] X.env)).any (·.1)=false:=by rfl):QE X (.Call (.Name "len" p2) [e] [] pos) (aF cF tr):=
 lM (Z3.or ab4) ah2 hg B.len PySem.boot_len ha (he:=he) (hpl:=hpl)
theorem jF (B:Bt X.mg)(ha:QA X [e] tr)(hg:Gl X "tuple":=by rfl)(he:starEach [e] X.env=(false,eval e X.env)::starEach [] X.env:=by rfl)(hpl:(backTo pos (starEach [] X.env)).any (·.1)=false:=by rfl):QE X (.Call (.Name "tuple" p2) [e] [] pos) (aF iJ tr):=
 mV Z5 ah3 hg B.tuple PyProof.Rows.boot_tuple ha (he:=he) (hpl:=hpl)
theorem yL (B:Bt X.mg)(hc:X.calm=true)(ha:QA X [e] tr)(hg:Gl X "all":=by rfl)(he:starEach [e] X.env=(false,eval e X.env)::starEach [] X.env:=by rfl)(hpl:(backTo pos (starEach [] X.env)).any (·.1)=false:=by rfl):QE X (.Call (.Name "all" p2) [e] [] pos) (aF mP tr):=
 lM (ae1 hc) ah4 hg B.all PyProof.Rows.boot_all ha (he:=he) (hpl:=hpl)
theorem ak5 (B:Bt X.mg)(hc:X.calm=true)(ha:QA X [a,b] tr)(hg:Gl X "min":=by rfl)(he:starEach [a,b] X.env=(false,eval a X.env)::starEach [b] X.env:=by rfl)(hpl:(backTo pos (starEach [b] X.env)).any (·.1)=false:=by rfl):QE X (.Call (.Name "min" p2) [a,b] [] pos) (aF sO tr):=
 lM (V0 hc) ah5 hg B.min PyProof.Rows.boot_min ha (he:=he) (hpl:=hpl)
theorem ak6 (B:Bt X.mg)(hc:X.calm=true)(ha:QA X [a,b] tr)(hg:Gl X "max":=by rfl)(he:starEach [a,b] X.env=(false,eval a X.env)::starEach [b] X.env:=by rfl)(hpl:(backTo pos (starEach [b] X.env)).any (·.1)=false:=by rfl):QE X (.Call (.Name "max" p2) [a,b] [] pos) (aF sP tr):=
 lM (U9 hc) ah6 hg B.max PyProof.Rows.boot_max ha (he:=he) (hpl:=hpl)
theorem yM (x:Int):∀(xs:ag),iZ (.int x) (xs.map V.int)=decide (x∈xs)
 |[]=>by simp[iZ]
 |y::r=>by
  have ih:=yM x r;unfold iZ at ih ⊢;rw[aK5,aP7,ih];by_cases e:y=x
  ·subst e;simp[fZ]
  ·have:fZ (.int y) (.int x)=false:=by simpa[fZ] using e
   rw[this,Bool.false_or,aO5];simp[Ne.symm e]
theorem yN:∀(xs:ag),(xs.map V.int).all gK=true
 |[]=>rfl
 |_::r=>by rw[aK5,aR1,yN r];rfl
theorem ak7 (neg:Bool):cI X (sW neg) (oD X.K neg):=by
 rintro W Hs H u v x y g g' Q Q' s n r1 r2 ⟨i,ns,rfl,e,q⟩ k;cases r1
 obtain⟨a,us,rfl,hs,r⟩:=r2.seq e
 obtain rfl:=r.ofInts;refine⟨a,_,rfl,hs,rfl,yN ns,?_⟩
 have:=k _ _ _ .fr (aD.refl _) (.bl _) q
 rw[yM];cases neg<;>exact this
theorem ak8 (ha:QE X a ta)(hb:QE X b tb)(hm:behindInMarks .NotIn b=false:=by rfl):QT X (.Compare a [.NotIn] [b] pos) (aJ (q2 (sW true) ta tb)):=fE Z1 (ak7 true) ha hb hm
theorem aG.kt_ {K:ae}{M:ax->Prop}{H:Hp}{v:V}{xs:List PV}(r:aG K M H v (.kt xs)):∃a us,v = .ref a/\lC K a us/\Reps K M H us xs:=by
 cases r with
 |kt h r=>exact⟨_,_,rfl,h,r⟩
noncomputable def yO (K:ae)(H:Hp)(x:V)(t:ar):Prop:=eL K H x t∨∃a us,x = .ref a/\aU K H a us/\t = .type "tuple"
theorem ak9:cH X (.builtin "isinstance") (λxs H Q=>∃x t n b,xs = [x,.ty n]/\yO X.K H x t/\PySem.W.kitOne X.K t (.type n)=some b/\Q (.bl b) H):=by
 intro ah s σ H xs us Q I r h
 obtain⟨x,t,n,b,rfl,ty,e,q⟩:=h
 rcases ty with ty|⟨a,ws,rfl,hs,rfl⟩
 ·exact ad2 ah s σ H _ us Q I r ⟨x,t,n,b,rfl,ty,e,q⟩
 obtain⟨u,u',rfl,ru,ru'⟩:=mC r
 cases ru';cases (show u=Value.ref a from ru)
 obtain⟨its,_,⟨o,h1,h2,_⟩,_⟩:=I.tuple hs
 exact aM3 PySem.W.kitx_tuple I.kIn ⟨o,h1,h2⟩ e (λz=>nomatch z) λtk=>⟨.bl b,H,I.tok tk,rfl,q⟩
theorem al0 {K:ae}{M:ax->Prop}{H:Hp}{v:V}{x:PV}{T:String}(r:aG K M H v x)(e:yD x=some T):yO K H v (.type T):=by
 cases r with
 |non=>cases e;exact .inl .non
 |bl b=>cases e;exact .inl (.bl b)
 |int i=>cases e;exact .inl (.int i)
 |str i=>cases e;exact .inl (.str i)
 |tup h _=>cases e;exact .inl (.tup h)
 |lst _ h _=>cases e;exact .inl (.lst h)
 |kt h _=>cases e;exact .inr ⟨_,_,rfl,.inr h,rfl⟩
 |_=>cases e
theorem t6 {x:Str}{n:String}(B:Bt X.mg)(hn:bootBuiltins x=some (.type n))(hm:X.mg x=none)(ha:QE X a ta)(hg:Gl X "isinstance":=by rfl)(hgx:Gl X x:=by rfl)(hx:x≠"__name__":=by decide)(hdx:(x==("__debug__":Str))=false:=by decide)(he:starEach [a,.Name x px] X.env=(false,eval a X.env)::starEach [.Name x px] X.env:=by rfl)(he2:starEach [.Name x px] X.env=(false,eval (.Name x px) X.env)::starEach [] X.env:=by rfl)(hpl:(backTo pos (starEach [.Name x px] X.env)).any (·.1)=false:=by rfl):QE X (.Call (.Name "isinstance" p2) [a,.Name x px] [] pos) (iF X.K n ta):=
 bP (rE ak9 hg B.isinst PyProof.Rows.boot_isinstance (e9 ha (e9 (uQ (v:=.ty n) hgx hm hn rfl hx hdx) gJ he2) he) (he:=he) (hpl:=hpl)) λσ H Q' h=>by
  obtain⟨W,ρ,Q,px,q,k⟩:=h
  refine⟨W,ρ,_,px,q,?_⟩;rintro v H1 x g s r ⟨T,b,e,kt,q⟩
  exact⟨v,_,n,b,rfl,al0 r e,kt,k _ _ _ .fr s (.bl _) q⟩
theorem al1 (B:Bt X.mg)(ha:QE X a ta)(hg:Gl X "isinstance":=by rfl)(hgx:Gl X "int":=by rfl)(he:starEach [a,.Name "int" px] X.env=(false,eval a X.env)::starEach [.Name "int" px] X.env:=by rfl)(he2:starEach [.Name "int" px] X.env=(false,eval (.Name "int" px) X.env)::starEach [] X.env:=by rfl)(hpl:(backTo pos (starEach [.Name "int" px] X.env)).any (·.1)=false:=by rfl):QE X (.Call (.Name "isinstance" p2) [a,.Name "int" px] [] pos) (iF X.K "int" ta):=t6 B PyProof.Rows.boot_int B.int ha (hg:=hg) (hgx:=hgx) (he:=he) (he2:=he2) (hpl:=hpl)
theorem al2 (B:Bt X.mg)(ha:QE X a ta)(hg:Gl X "isinstance":=by rfl)(hgx:Gl X "bool":=by rfl)(he:starEach [a,.Name "bool" px] X.env=(false,eval a X.env)::starEach [.Name "bool" px] X.env:=by rfl)(he2:starEach [.Name "bool" px] X.env=(false,eval (.Name "bool" px) X.env)::starEach [] X.env:=by rfl)(hpl:(backTo pos (starEach [.Name "bool" px] X.env)).any (·.1)=false:=by rfl):QE X (.Call (.Name "isinstance" p2) [a,.Name "bool" px] [] pos) (iF X.K "bool" ta):=t6 B PyProof.Rows.boot_bool B.bool ha (hg:=hg) (hgx:=hgx) (he:=he) (he2:=he2) (hpl:=hpl)
theorem t7 (B:Bt X.mg)(ha:QE X a ta)(hg:Gl X "isinstance":=by rfl)(hgx:Gl X "tuple":=by rfl)(he:starEach [a,.Name "tuple" px] X.env=(false,eval a X.env)::starEach [.Name "tuple" px] X.env:=by rfl)(he2:starEach [.Name "tuple" px] X.env=(false,eval (.Name "tuple" px) X.env)::starEach [] X.env:=by rfl)(hpl:(backTo pos (starEach [.Name "tuple" px] X.env)).any (·.1)=false:=by rfl):QE X (.Call (.Name "isinstance" p2) [a,.Name "tuple" px] [] pos) (iF X.K "tuple" ta):=t6 B PyProof.Rows.boot_tuple B.tuple ha (hg:=hg) (hgx:=hgx) (he:=he) (he2:=he2) (hpl:=hpl)
noncomputable def yP (K:ae)(n:Nat)(neg:Bool):R2:=λv w H Q=>∃x y,aG K (λ_=>True) H v x/\aG K (λ_=>True) H w y/\((∃xs ys,x = .tup xs/\y = .tup ys)∨(∃xs ys,x = .lst xs/\y = .lst ys)∨(∃xs ys,x = .kt xs/\y = .kt ys))/\cS (n+1) x y=true/\Q (.bl (if neg=true then !c8 (n+1) x y else c8 (n+1) x y)) H
theorem t8 {ah:List (ax×Obj)}{σ:St}{H:Hp}{s:aw}{M M':ax->Prop}(I:a6 X ah σ H s){n:Nat}{A:ba}(hu:A.units+(n+1)<cLine){us ws:List V}{xs ys:List PV}{its ao:List ar}(r1:Reps X.K M H us xs)(r2:Reps X.K M' H ws ys)(v1:aO us its)(v2:aO ws ao)(ok:((xs.zip ys).all λp=>cS n p.1 p.2)=true):∀j (h1:j<its.toArray.size) (h2:j<ao.toArray.size),SeqAt.EqAt A.in1 s its.toArray[j] ao.toArray[j] (c8 n (xs.getD j .non) (ys.getD j .non)):=by
 intro j h1 h2;have l1:=v1.length;have l2:=v2.length;have m1:=r1.length;have m2:=r2.length;have k1:j<its.length:=by simpa using h1
 have k2:j<ao.length:=by simpa using h2
 have j1:j<us.length:=by omega
 have j2:j<ws.length:=by omega
 have i1:j<xs.length:=by omega
 have i2:j<ys.length:=by omega
 obtain⟨u,hu',ru⟩:=v1.get (aH2 j1)
 obtain⟨u2,hu2',ru2⟩:=v2.get (aH2 j2)
 obtain⟨x,hx,rx⟩:=r1.get (aH2 j1)
 obtain⟨y,hy,ry⟩:=r2.get (aH2 j2)
 have e1:its.toArray[j]=u:=by
  rw[aH2 k1]at hu';simpa using hu'
 have e2:ao.toArray[j]=u2:=by
  rw[aH2 k2]at hu2';simpa using hu2'
 have ok':cS n x y=true:=by
  rw[aM5]at ok;have hz:j<(xs.zip ys).length:=by simp;omega
  have:=ok _ (aO8 hz)
  rw[List.getElem_zip]at this;rw[aH2 i1]at hx;rw[aH2 i2]at hy;cases hx;cases hy;exact this
 rw[e1,e2];have g1:xs.getD j .non=x:=by rw[aK0,hx];rfl
 have g2:ys.getD j .non=y:=by rw[aK0,hy];rfl
 rw[g1,g2];exact yK I n (by show A.units+1+n<cLine;omega) rx ry ru ru2 ok'
theorem al3 (n:Nat)(hu:X.A.units+(n+1)<cLine):bU X (compareOp .Eq) (yP X.K n false):=by
 intro ah s σ H v w a b Q I ra rb h
 obtain⟨x,y,rx,ry,kd,o,q⟩:=h
 have hu0:X.A.units<cLine:=by omega
 rcases kd with⟨xs,ys,rfl,rfl⟩|⟨xs,ys,rfl,rfl⟩|⟨xs,ys,rfl,rfl⟩
 ·obtain⟨p,us,rfl,h1,r1⟩:=rx.sqT
  obtain⟨p2,ws,rfl,h2,r2⟩:=ry.sqT
  cases ra;cases rb
  obtain⟨its,v1,p1,_⟩:=I.tuple (aU.of (K:=X.K) h1)
  obtain⟨ao,v2,p2',_⟩:=I.tuple (aU.of (K:=X.K) h2)
  have l1:=v1.length;have l2:=v2.length;have m1:=r1.length;have m2:=r2.length
  have:=SeqAt.RcAt.tuples p1 p2' hu0 (t8 I hu r1 r2 v1 v2 o)
  rw[aH7,aH7,<- l1,<- l2,m1,m2,lN]at this;exact this _ _ _ _ ⟨.bl _,H,I,rfl,q⟩
 ·obtain⟨p,us,rfl,_,h1,r1⟩:=rx.sqL
  obtain⟨p2,ws,rfl,_,h2,r2⟩:=ry.sqL
  cases ra;cases rb
  obtain⟨its,v1,p1,_⟩:=I.list (aS.of (K:=X.K) h1)
  obtain⟨ao,v2,p2',_⟩:=I.list (aS.of (K:=X.K) h2)
  have l1:=v1.length;have l2:=v2.length;have m1:=r1.length;have m2:=r2.length;have q:Q (.bl ((xs.zip ys).all (λp=>c8 n p.1 p.2)&&xs.length==ys.length)) H:=q;by_cases hl:xs.length=ys.length
  ·have:=SeqAt.RcAt.lists p1.isList p2'.isList (by rw[aH7,aH7];omega) hu0 (t8 I hu r1 r2 v1 v2 o)
   have hm:min xs.length ys.length=its.length:=by omega
   rw[aH7,<- hm,lN]at this;rw[show (xs.length==ys.length)=true by simpa using hl,Bool.and_true]at q;exact this _ _ _ _ ⟨.bl _,H,I,rfl,q⟩
  ·have:=SeqAt.RcAt.lists_lengths (A:=X.A) p1.isList p2'.isList (by rw[aH7,aH7];simp;omega) hu0
   rw[show (xs.length==ys.length)=false by simpa using hl,Bool.and_false]at q;exact this _ _ _ _ ⟨.bl _,H,I,rfl,q⟩
 ·obtain⟨p,us,rfl,h1,r1⟩:=rx.kt_
  obtain⟨p2,ws,rfl,h2,r2⟩:=ry.kt_
  cases ra;cases rb
  obtain⟨its,v1,p1,_⟩:=I.tuple (.inr h1)
  obtain⟨ao,v2,p2',_⟩:=I.tuple (.inr h2)
  have l1:=v1.length;have l2:=v2.length;have m1:=r1.length;have m2:=r2.length
  have:=SeqAt.RcAt.tuples p1 p2' hu0 (t8 I hu r1 r2 v1 v2 o)
  rw[aH7,aH7,<- l1,<- l2,m1,m2,lN]at this;exact this _ _ _ _ ⟨.bl _,H,I,rfl,q⟩
theorem al4 {n:Nat}{neg:Bool}:cI X (p9 n neg) (yP X.K n neg):=by
 rintro W Hs H u v x y g g' Q Q' s n r1 r2 ⟨kd,o,q⟩ k
 exact⟨x,y,r1.same (aD.refl _) λ_ _=>trivial,r2.same (aD.refl _) λ_ _=>trivial,kd.elim .inl λz=>.inr (.inl z),o,k _ _ _ .fr (aD.refl _) (.bl _) q⟩
theorem yQ (hu:X.A.units+3<cLine)(ha:QE X a ta)(hb:QE X b tb):QE X (.Compare a [.Eq] [b] pos) (q2 (p9 2 false) ta tb):=pB (al3 2 hu) al4 ha hb (fW _)
end
end PP
namespace PP
open PySem L2 PyProof.Rows
noncomputable def LO (X:Cx)(t:iG):TO:=λσ H Q'=>∃(W:ax->Prop) (ρ:bD) (Q:Option Int->Prop),PX X.K X.H₀ W σ ρ H/\t ρ Q/\∀o H',aD H H'->Q o->Q' o H'
noncomputable def QO (X:Cx)(e:Option Expr)(t:iG):Prop:=PO X e (LO X t)
theorem Reps.cut {K:ae}{M:ax->Prop}{H:Hp}{us:List V}{xs:List PV}(r:Reps K M H us xs)(lo hi:Option Int):Reps K M H (fY us lo hi) (iH xs lo hi):=by
 unfold fY iH;rw[r.length];exact (r.drop _).take _
section
variable {X:Cx}{a b c e o:Expr}{es bT:List Expr}{ta tb te to tk:aE}{tr:bN}{tA tB' tc:cD}{pos p2 px:Pos}{st:Stmt}{sts:List Stmt}{t u:aM}
theorem gT:QO X none cM:=λah s σ H Q I h=>X5 ah s σ H Q I (by
 obtain⟨W,ρ,Q1,px,q,k⟩:=h
 exact k _ _ (aD.refl _) q)
theorem gU (h:QE X e te):QO X (some e) (cN te):=λah s σ H Q I hq=>X6 h ah s σ H Q I (by
 obtain⟨W,ρ,Q1,px,q,k⟩:=hq
 refine⟨W,ρ,_,px,q,?_⟩;rintro v H1 x g s r ⟨i,rfl,q⟩;cases r
 exact⟨i,rfl,k _ _ s q⟩)
theorem yR {lo hi:Option Expr}{tl th:iG}{sp:Pos}(he:QE X e te)(hl:QO X lo tl)(hh:QO X hi th):QE X (.Subscript e (.Slice lo hi none sp) pos) (pA te tl th):=bP (w4 (Y8.or ae4) he hl hh) λσ H Q' h=>by
 obtain⟨W,ρ,Q,px,q,k⟩:=h
 refine⟨W,ρ,_,px,q,λv H1 x g s1 r1 q1=>⟨W,ρ,_,px.mono s1,q1,λlo H2 s2 q2=>⟨W,ρ,_,px.mono (s1.trans s2),q2,?_⟩⟩⟩;rintro hi H3 s3 ⟨xs,e,f,q3⟩;have S:=(s1.trans s2).trans s3;have r3:=r1.same (M':=Mg X.H₀ W H g) (s2.trans s3) λ_ z=>z
 cases r3 with
 |tup h r=>
  cases e;refine .inr ⟨_,_,rfl,aU.of h,λp hp=>k _ _ _ .fr (S.trans (bY hp _)) (.tup cA (((r.flat f).cut lo hi).same (bY hp _) λ_ z=>z)) q3,λec=>k _ _ _ .fr S (.tup h ?_) q3⟩
  have:=(r.flat (M':=Mg X.H₀ W H .fr) f).cut lo hi
  rw[ec]at this;exact this
 |lst m h r=>
  cases e;exact .inl ⟨_,_,rfl,aS.of h,λp hp=>k _ _ _ .fr (S.trans (bY hp _)) (.lst (S.free hp) cA (((r.flat f).cut lo hi).same (bY hp _) λ_ z=>z)) q3⟩
 |scr h=>
  cases e;exact .inl ⟨_,_,rfl,h.sqL,λp hp=>k _ _ _ .fr (S.trans (bY hp _)) (.lst (S.free hp) cA (((Reps.intz _).cut lo hi).same (bY hp _) λ_ z=>z)) q3⟩
 |fL h r=>
  cases e;exact .inl ⟨_,_,rfl,.inl (.inr ⟨_,h⟩),λp hp=>k _ _ _ .fr (S.trans (bY hp _)) (.lst (S.free hp) cA (((r.flat f).cut lo hi).same (bY hp _) λ_ z=>z)) q3⟩
 |_=>cases e
structure Df (P:ay)(w:bf)(K:ae)(mg:Str->Option ar)(base:Heap)(k:Nat)(x:Str)(ps:List Str)(p:bW):Prop where
 ex:∃f fd,cZ P w K mg base eD k f fd ps (mQ K p)/\iY K fd ps []/\PySem.W.keepIn K (.ref f)=true/\mg x=some (.ref f)
theorem bZ {k j:Nat}{x:Str}{ps:List Str}{p:bW}(d:Df X.prog X.w X.K X.mg X.base k x ps p)(hr:bS j X.A)(ha:QA X (e::es) tr)(hkj:k<=j:=by decide)(hg:Gl X x:=by rfl)(hdb:(x==("__debug__":Str))=false:=by decide)(he:starEach (e::es) X.env=(false,eval e X.env)::starEach es X.env:=by rfl)(hpl:(backTo pos (starEach es X.env)).any (·.1)=false:=by rfl):QE X (.Call (.Name x p2) (e::es) [] pos) (aF p tr):=by
 obtain⟨f,fd,F,b,kp,m⟩:=d.ex
 exact bP (rC F (hr.mono hkj) hg m kp b .nil ab1 ha hdb he hpl) λ_ _ _=>ah7
theorem pC {K:ae}{H:Hp}{N:List Str}{vs:List V}{xs:List PV}(r:Reps K (λ_=>True) H vs xs):PX K H (λ_=>False) (L2.cK N vs) (dB N xs) H:=by
 have lr:=r.length;have own:∀{i:Nat}{m:Slot},(dB N xs)[i]? = some (some m)->∃x,xs[i]? = some x/\m = .sh (flat x) x:=λ{i m} h=>by
  unfold dB at h;by_cases hi:i<xs.length
  ·rw[List.getElem?_append_left (by simpa using hi),aI8]at h
   rw[aH2 hi]at h ⊢;cases h
   exact⟨_,rfl,rfl⟩
  ·rw[List.getElem?_append_right (by simpa using hi),List.getElem?_replicate]at h
   split at h<;>cases h
 refine⟨by unfold L2.cK dB;simp[lr],aD.refl _,λa z=>z.elim,λi m h=>?_,λi j x y a h1=>?_⟩
 ·obtain⟨x,hx,rfl⟩:=own h
  obtain⟨v,hv,rx⟩:=r.at hx
  refine⟨v,?_,p6 (g:=false) (rx.same (aD.refl _) λ_ _ z=>z)⟩;have hi:i<vs.length:=(aI4.mp hv).1;unfold L2.cK;rw[List.getElem?_append_left (by simpa using hi),aI8,hv];rfl
 ·obtain⟨x,_,e⟩:=own h1
  cases e
theorem Df.of {P:ay}{w:bf}{K:ae}{mg:Str->Option ar}{base:Heap}{k:Nat}{x:Str}{ps N:List Str}{p:bW}{st:Stmt}{f:ax}{fd:FuncData}(F:dW K x x st f fd)(m:mg x=some (.ref f))(S:FnScope N ps (aT st))(hb:∀(kV doc pm:ar) (an:Option ax) (cdv ct:ar) (us:List ar),us.length=ps.length->bindArgs (PySem.W.fnOf x x (g9 st) (cR st) (aT st) .none kV doc pm an cdv ct) ⟨us,[]⟩=pure (ps.zip us))(len:∀xs Q,p xs Q->xs.length=ps.length)(body:∀(cdv:ar) (A:ba) (outer:List Env) (s:aw) (H:Hp) (E:XK),bS k (A.deeper (envOfC x (aT st) s.heap.objs.size f cdv))->
   ∃t,cT (c7 eD P w K mg base N x (aT st) f cdv A outer s H E).nox (cR st) t/\∀xs Q,p xs Q->t { nx:=λ_=>Q .non,rt:=Q } (dB N xs)):Df P w K mg base (k+1) x ps p:=by
 refine⟨f,fd,F.ok S (λvs H Q E h=>?_) (λcdv A outer s H vs Q E hr h=>?_),F.binds hb,F.kp,m⟩
 ·obtain⟨xs,Qp,r,q,_⟩:=h
  rw[r.length];exact len xs Qp q
 ·obtain⟨xs,Qp,r,q,k⟩:=h
  obtain⟨t,ht,hq⟩:=body cdv A outer s H E hr
  refine⟨_,ht,λ_=>False,dB N xs,_,pC r,hq xs Qp q,?_,?_,?_,?_⟩
  ·exact λW' σ' H' ρ' e px q=>k _ _ _ px.same .non q
  ·exact λv H' x s r q=>k _ _ _ s r q
  ·exact λW' σ' H' ρ' e px q=>q
  ·exact λW' σ' H' ρ' e px q=>q
theorem fP (i:Nat){x:Str}{tp:Pos}{body:List Stmt}{ti:dN}(hN:X.N.Nodup)(hi:QI X (.Name x tp) e ti)(hb:cT X body t)(hx:X.N[i]? = some x:=by rfl)(hl:iW X.env.scope x:=by first|exact Or.inl rfl|exact Or.inr rfl)(hf:X.fn x=true∨X.env.scope.names.lookup x=some .local:=by first|exact .inl rfl|exact .inr rfl)(hp:PassesOwn (model X.prog X.w) X.A X.env X.xe:=by exact PassesOwn.never)(hc:X.calm=true:=by rfl)(hs:∀x,foldedSetIterable e X.env x=pure x:=by intro _;rfl):QS X (.For (.Name x tp) e body [] pos) (dX ti (bX i) t):=
 ak4 hp hc hi (kZ hN hx hl hf) (mS _ i) hb hs
noncomputable abbrev cV:ar->aw->Prop:=λ_ _=>False
section
variable {scope:Scope}{N:List Str}{fr:List (Option Nat)}{x y:Str}{tp xp yp:Pos}{kt:Nat}{iter elt:Expr}{ti:dN}
theorem yS {ifs:List Expr}{tcs:cD}(he:∀(s:aw) (H:Hp) (C:ax) (fp:List ax),QE (bG X scope N s H C fp cV) elt te)(hi:∀(s:aw) (H:Hp) (C:ax) (fp:List ax),j3 (bG X scope N s H C fp cV) ifs (LT (bG X scope N s H C fp cV) tcs))(hN:N.Nodup)(h0:N[0]? = some x)(hl:∀(s:aw) (H:Hp) (C:ax) (fp:List ax),(bG X scope N s H C fp cV).env.scope.names.lookup x=some .local)(s:aw)(H:Hp) :
  mI X scope N (.Name x tp) ifs elt s H (dE 0) (LT (X.frm H) tcs) (LE (X.frm H) te):=
 ⟨λC fp=>kZ (X:=bG X scope N s H C fp cV) hN h0 (.inl (hl s H C fp)) (.inr (hl s H C fp)),λC fp=>hi s H C fp,λC fp=>he s H C fp⟩
theorem mX {Y:Cx}:j3 Y [] (LT Y cL):=λah s σ H Q I h=>ab6 ah s σ H Q I (ai7 h)
theorem yT (hi:QI X (.Name x tp) iter ti)(he:∀(s:aw) (H:Hp) (C:ax) (fp:List ax),QE (bG X scope N s H C fp cV) elt te)(hc:X.calm=true:=by rfl)(S:cQ X scope N fr:=by exact cQ.of rfl rfl)(hN:N.Nodup:=by decide +kernel)(h0:N[0]? = some x:=by rfl)(hl:∀(s:aw) (H:Hp) (C:ax) (fp:List ax),(bG X scope N s H C fp cV).env.scope.names.lookup x=some .local:=by intro _ _ _ _;rfl)(hf:fr[0]? = some none:=by rfl)(hs:∀x,foldedSetIterable iter X.env x=pure x:=by intro _;rfl):QE X (.ListComp elt [⟨.Name x tp,iter,[],0⟩] scope pos) (dO ti fr (bX 0) cL te):=
 bP (x9 (gh:=λ_=>dE 0) (tch:=λH=>LT (X.frm H) cL) (teh:=λH=>LE (X.frm H) te) hc S hi (yS he (λ_ _ _ _=>mX) hN h0 hl) hs) λ_ _ _=>p7 (mS _ 0) (λi e=>by subst e;exact hf)
theorem t9 {i:Nat}{z:Str}{zp:Pos}(nd:X.N.Nodup)(hi:QI X (.Name x tp) iter ti)(he:∀(s:aw) (H:Hp) (C:ax) (fp:List ax),QE (bG X scope N s H C fp cV) elt te)(hz:X.N[i]? = some z:=by rfl)(hzl:X.env.scope.names.lookup z=some .local:=by rfl)(hsw:swapsWith (.ListComp elt [⟨.Name x tp,iter,[],0⟩] scope p2) (some (.Name z zp)) pos.line X.env=pure true:=by rfl)(hc:X.calm=true:=by rfl)(S:cQ X scope N fr:=by exact cQ.of rfl rfl)(hN:N.Nodup:=by decide +kernel)(h0:N[0]? = some x:=by rfl)(hl:∀(s:aw) (H:Hp) (C:ax) (fp:List ax),(bG X scope N s H C fp cV).env.scope.names.lookup x=some .local:=by intro _ _ _ _;rfl)(hf:fr[0]? = some none:=by rfl)(hs:∀x,foldedSetIterable iter X.env x=pure x:=by intro _;rfl):QS X (.Assign [.Name z zp] (.ListComp elt [⟨.Name x tp,iter,[],0⟩] scope p2) pos) (aW i (dO ti fr (bX 0) cL te)):=
 eG (ab7 (gh:=λ_=>dE 0) (tch:=λH=>LT (X.frm H) cL) (teh:=λH=>LE (X.frm H) te) hc S hi (yS he (λ_ _ _ _=>mX) hN h0 hl) nd hz hzl hsw hs) λD σ H h=>p7 (mS _ 0) (λi e=>by subst e;exact hf) (sK h)
end
end
end PP
namespace SO
open PySem PyProof.Rows
variable {rk:Keyed→Int}
noncomputable abbrev LS:=Option (Array Keyed)×Array Keyed×Nat×Nat×Nat×Nat×Nat
noncomputable abbrev LO:=Option (Array Keyed)×Array Keyed×Nat×Nat×Nat
variable {rk:Keyed→Int}{xs ys o:List Keyed}{i j:Nat}
variable {rk:Keyed→Int}{xs ys o:List Keyed}{i j:Nat}
variable {rk:Keyed→Int}
noncomputable def Ch:Nat->List (Nat×Nat)->Nat->Prop
 |a,[],b=>a=b
 |a,(p,n)::r,b=>p=a/\0<n/\Ch (a+n) r b
variable {rk:Keyed→Int}{κ:SortKind}{a0:Array Keyed}{pd:Array (Nat×Nat×Nat)}{st:SortSt}{prog:ay}{w:bf}{A:ba}{E:ar→aw→Prop}{s:aw}{Ok:Keyed→Prop}
noncomputable abbrev RS:=Option Unit×Nat
noncomputable def mrg (sz pw:Nat):StateT SortSt Sem (Option Unit×Unit):=forIn [0:sz] ((none,()):Option Unit×Unit) λ_ _=>do
 let z <- get
 match (if (pendingOf z).size>1 then (pendingOf z)[(pendingOf z).size-2]? else none) with
 |some (_,_,o)=>if o<=pw then pure (.done (none,())) else do
   let q <- mergeAt' ((pendingOf z).size-2)
   if (!q)=true then pure (.done (some (),())) else pure (.yield (none,()))
 |_=>pure (.done (none,()))
noncomputable def jn (sz lo n:Nat):StateT SortSt Sem (ForInStep RS):=do
 let z <- get
 match (pendingOf z).back? with
 |some (s1,n1,_)=>do
  let r <- mrg sz (power' sz (2*s1+n1) (2*s1+n1+n1+n) sz)
  match r.1 with
  |some u=>pure (.done (some u,lo))
  |none=>do
   modify λs=>setPending s ((pendingOf s).modify ((pendingOf s).size-1) λx=>(x.1,x.2.1,power' sz (2*s1+n1) (2*s1+n1+n1+n) sz))
   modify λs=>setPending s ((pendingOf s).push (lo,n,0))
   pure (.yield (none,lo+n))
 |_=>do
  modify λs=>setPending s ((pendingOf s).push (lo,n,0))
  pure (.yield (none,lo+n))
end SO
namespace L2
open PySem PySem.Spec PyProof.Rows
theorem bO.at {P:ay}{w:bf}{H:Hp}{h:Heap}{a:ax}{o:HO}(x:bO P w H h a o):∃ob,h.get? a=some ob:=by
 cases o with
 |lst xs=>obtain⟨_,_,_,_,e⟩:=x;exact⟨_,e⟩
 |tup xs=>obtain⟨_,_,_,⟨_,e,_⟩,_⟩:=x;exact⟨_,e⟩
 |dK kvs=>obtain⟨_,_,_,_,_,_,_,e,_⟩:=x;exact⟨_,e⟩
 |dT kvs=>obtain⟨_,_,_,_,_,_,_,e,_⟩:=x;exact⟨_,e⟩
 |set S n=>obtain⟨_,_,_,_,e,_⟩:=x;exact⟨_,e⟩
 |ins C dx fs=>obtain⟨_,_,_,e,_⟩:=x;exact⟨_,e⟩
 |own y=>exact x
 |xd fs=>obtain⟨_,⟨_,_,_,e,_⟩,_⟩:=x;exact⟨_,e⟩
 |rng lo hi=>obtain⟨_,_,_,e⟩:=x;exact⟨_,e⟩
 |frz ob u=>obtain⟨e,_⟩:=x;exact⟨_,e⟩
 |tbl ps=>exact⟨_,x⟩
 |met f y=>exact⟨_,x⟩
 |ext φ=>exact x.2.1
structure kC (P:ay)(w:bf)(outer:List Env)(H:Hp)(s:aw)(H':Hp)(B:Heap)(a C:ax)(s':aw):Prop where
 os:s'.os=s.os
 bare:AllBare s'.gens
 un:Un (b9 outer) [] H H' s.heap s'.heap
 hok:bM P w H' s'.heap
 fly:∃a0,Heap.FlyingW B outer a (.ref C) a0 s'.heap
 b0:∀b o,s.heap.get? b=some o->b∉b9 outer->∃o',B.get? b=some o'
 b1:∀b o,s.heap.get? b=some o->H b=none->b∉b9 outer->B.get? b=some o
 b2:∀b u o,H' b=some u->s'.heap.get? b=some o->B.get? b=some o
noncomputable def cB (P:ay)(w:bf):fF:=λouter H s E e s'=>∃(H':Hp) (B:Heap) (a C:ax),e = .ref a/\kC P w outer H s H' B a C s'/\E (.ref C) none H'
section
variable {P:ay}{w:bf}{outer:List Env}{H H':Hp}{s s':aw}{B h2:Heap}{a C:ax}
theorem kC.fresh (f:kC P w outer H s H' B a C s'):H' a=none:=by
 cases q:H' a with
 |none=>rfl
 |some u=>
  obtain⟨ob,e⟩:=(f.hok a u q).at
  have z:=f.b2 a u ob q e
  obtain⟨_,_,n,_⟩:=f.fly
  rw[n]at z;cases z
theorem kC.hok2 (f:kC P w outer H s H' B a C s')(k:B.StaysIn h2):bM P w H' h2:=λb u e=>
 (f.hok b u e).stay (λc v hc q=>by
  rcases hc with z|z
  ·subst z;exact k _ _ (f.b2 _ _ _ e q)
  ·exact k _ _ (f.b2 _ _ _ z q)) (λ_ q=>q) λ_ _ q=>q
end
section
variable {P:ay}{w:bf}{K:ae}{mg:Str→Option ar}{base:Heap}{N:List Str}{qual:Str}{scope:Scope}{f:ax}{cd:ar}{A:ba}{outer:List Env}{s₀:aw}{H₀:Hp}{E₀ E₁:XK}
theorem lO {ah:List (ax×Obj)}{σ:St}{H:Hp}{s:aw}(I:a6 (c7 (cB P w) P w K mg base N qual scope f cd A outer s₀ H₀ E₀) ah σ H s){b:ax}{o:Obj}(e:s₀.heap.get? b=some o)(n:b∉b9 outer) :
  b∉b9 (envOfC qual scope s₀.heap.objs.size f cd::outer):=λz=>by
 rcases aI1.mp (I.stkSub b z) with y|y
 ·have l:=aI3 e
  have y:b=s₀.heap.objs.size:=y;exact absurd l (by rw[y];exact aL3 _)
 ·exact n y
theorem al5 (hE:∀c d H',E₁ c d H'->E₀ c d H'):jT (cB P w) (c7 (cB P w) P w K mg base N qual scope f cd A outer s₀ H₀ E₀) E₁:=by
 intro ah σ H s e s' I hx
 obtain⟨H',B,a,C,e1,fl,q⟩:=hx
 subst e1;have I':=I.call' fl.os fl.un fl.hok fl.bare (ch:=[]) (λb z=>absurd z (by simp))
 obtain⟨a0,fly⟩:=fl.fly
 refine wpAny_leaves_onW I.ok.frames rfl fly λh' fly' up=>?_
 have slot:∀b o,s₀.heap.get? b=some o->b∈b9 outer->∃sl,h'.get? b=some { o with slots:=sl }:=λb o e hb=>by
  obtain⟨sl,e1⟩:=I'.base.slot b o e (I.ok.frf b hb) hb (λz=>nomatch z)
  obtain⟨_,o2,e2,nf⟩:=I.ok.funs.mem hb
  rw[show (c7 (cB P w) P w K mg base N qual scope f cd A outer s₀ H₀ E₀).s₀=s₀ from rfl,e]at e2;cases e2
  obtain⟨sl',e3⟩:=up b _ e1 nf
  exact⟨sl',e3⟩
 have old:∀b o,s₀.heap.get? b=some o->H₀ b=none->b∉b9 outer->B.get? b=some o:=λb o e n hb=>
  fl.b1 b o (I.base.keep b o e n hb (λz=>nomatch z)) (I.base.free b o e n (λz=>nomatch z)) (lO I e hb)
 have old0:∀b o,s₀.heap.get? b=some o->b∉b9 outer->∃o',B.get? b=some o':=λb o e hb=>by
  obtain⟨o1,e1⟩:=I.base.there b o e (λz=>nomatch z)
  exact fl.b0 b o1 e1 (lO I e hb)
 refine⟨H',B,a,C,rfl,⟨I'.os,I'.bare,⟨λb o e n hb _=>fly'.1 _ _ (old b o e n hb),λb o e n hb _=>slot b o e hb,λb o e n hx=>I'.base.free b o e n hx,λb o e _=>?_,I'.base.tups,I'.base.frzs,I'.base.tbls⟩,fl.hok2 fly'.1,⟨a0,fly'⟩,old0,old,λb u o e h=>?_⟩,hE _ _ _ q⟩
 ·by_cases hb:b∈b9 outer
  ·obtain⟨sl,e1⟩:=slot b o e hb
   exact⟨_,e1⟩
  ·obtain⟨o',e1⟩:=old0 b o e hb
   exact⟨o',fly'.1 _ _ e1⟩
 ·obtain⟨ob,e1⟩:=(fl.hok b u e).at
  have e2:=fl.b2 b u ob e e1;have e3:=fly'.1 _ _ e2;have h:h'.get? b=some o:=h;rw[h]at e3;cases e3;exact e2
theorem al6 {ah:List (ax×Obj)}{σ:St}{H:Hp}{s:aw}{h':Heap}{e C:ax}{args:List ar}(I:a6 (c7 (cB P w) P w K mg base N qual scope f cd A outer s₀ H₀ E₀) ah σ H s)(mx:Heap.MadeExcOf s.heap h' e (.ref C) args)(q:E₀ (.ref C) none H) :
  (c7 (cB P w) P w K mg base N qual scope f cd A outer s₀ H₀ E₀).xe (.ref e) { s with heap:=h' }:=by
 have tr:∀b u,H b=some u->b∉b9 (envOfC qual scope s₀.heap.objs.size f cd::outer):=λb u z n=>by
  rw[I.stkFree b n]at z;cases z
 have inB:∀b o,s.heap.get? b=some o->b∉b9 (envOfC qual scope s₀.heap.objs.size f cd::outer)->(PySem.W.hideAll s.heap (b9 (envOfC qual scope s₀.heap.objs.size f cd::outer))).get? b=some o:=λb o z n=>PySem.W.hideAll_get _ z n
 refine wpAny_leaves_madeW (base:=PySem.W.hideAll s.heap (b9 (envOfC qual scope s₀.heap.objs.size f cd::outer))) I.ok.frames rfl (λb o z=>PySem.W.of_hideAll _ z) (PySem.W.funFrames_hide I.stack λenv he b hb=>List.mem_filterMap.mpr ⟨env,he,hb⟩) mx λh'' t fly _ _ up=>?_
 have slot:∀b o,s₀.heap.get? b=some o->b∈b9 outer->∃sl,h''.get? b=some { o with slots:=sl }:=λb o e hb=>by
  obtain⟨sl,e1⟩:=I.base.slot b o e (I.ok.frf b hb) hb (λz=>nomatch z)
  obtain⟨_,o2,e2,nf⟩:=I.ok.funs.mem hb
  rw[show (c7 (cB P w) P w K mg base N qual scope f cd A outer s₀ H₀ E₀).s₀=s₀ from rfl,e]at e2;cases e2
  obtain⟨sl',e3⟩:=up b _ (mx.keeps _ _ e1) nf
  exact⟨sl',e3⟩
 have old:∀b o,s₀.heap.get? b=some o->H₀ b=none->b∉b9 outer->(PySem.W.hideAll s.heap (b9 (envOfC qual scope s₀.heap.objs.size f cd::outer))).get? b=some o:=λb o e n hb=>
  inB b o (I.base.keep b o e n hb (λz=>nomatch z)) (lO I e hb)
 have old0:∀b o,s₀.heap.get? b=some o->b∉b9 outer->∃o',(PySem.W.hideAll s.heap (b9 (envOfC qual scope s₀.heap.objs.size f cd::outer))).get? b=some o':=λb o e hb=>by
  obtain⟨o1,e1⟩:=I.base.there b o e (λz=>nomatch z)
  exact⟨o1,inB b o1 e1 (lO I e hb)⟩
 refine⟨H,_,e,C,rfl,⟨I.os,I.bare,⟨λb o e n hb _=>fly.1 _ _ (old b o e n hb),λb o e n hb _=>slot b o e hb,λb o e n hx=>I.base.free b o e n hx,λb o e _=>?_,I.base.tups,I.base.frzs,I.base.tbls⟩,λb u z=>?_,⟨_,fly⟩,old0,old,λb u o z h=>?_⟩,q⟩
 ·by_cases hb:b∈b9 outer
  ·obtain⟨sl,e1⟩:=slot b o e hb
   exact⟨_,e1⟩
  ·obtain⟨o',e1⟩:=old0 b o e hb
   exact⟨o',fly.1 _ _ e1⟩
 ·refine (I.hok b u z).stay (λc v hc y=>?_) (λ_ y=>y) λ_ _ y=>y
  rcases hc with z'|z'
  ·subst z';exact fly.1 _ _ (inB _ _ y (tr _ _ z))
  ·exact fly.1 _ _ (inB _ _ y (tr _ _ z'))
 ·obtain⟨ob,e1⟩:=(I.hok b u z).at
  have e2:=inB b ob e1 (tr b u z);have e3:=fly.1 _ _ e2;have h:h''.get? b=some o:=h;rw[h]at e3;cases e3;exact e2
end
structure kD (X:Cx)(E:XK):Prop where
 pass:jT (cB X.prog X.w) X E
 made:∀(ah:List (ax×Obj)) (σ:St) (H:Hp) (s:aw) (h':Heap) (e C:ax) (args:List ar),a6 X ah σ H s->Heap.MadeExcOf s.heap h' e (.ref C) args->E (.ref C) none H->X.xe (.ref e) { s with heap:=h' }
 own:PassesOwn (model X.prog X.w) X.A X.env X.xe
theorem yU {P:ay}{w:bf}{K:ae}{mg:Str->Option ar}{base:Heap}{N:List Str}{qual:Str}{scope:Scope}{f:ax}{cd:ar}{A:ba}{outer:List Env}{s₀:aw}{H₀:Hp}{E₀ E₁:XK}(hE:∀c d H',E₁ c d H'->E₀ c d H') :
  kD (c7 (cB P w) P w K mg base N qual scope f cd A outer s₀ H₀ E₀) E₁:=
 ⟨al5 hE,λ_ _ _ _ _ _ _ _ I mx q=>al6 I mx (hE _ _ _ q),PassesOwn.leaving⟩
noncomputable def yV (E:XK)(C:ax)(t:TA):TS:=λ_ σ H=>t σ H λvs H1=>vs.length<=sizeLine/\E (.ref C) none H1
theorem al7 {X:Cx}{E:XK}{x:Str}{C:ax}{bm:List ar}{B newId initId:String}{np aj pos:Pos}{e:Expr}{es:List Expr}{t:TA}(hX:kD X E)(hc:X.calm=true)(O:OwnCls x C bm newId X.mg X.base)(FB:ExcBaseFacts B newId initId bm)(ha:PA X (e::es) t)(hg:Gl X x)(hd:(x==("__debug__":Str))=false:=by decide)(he:starEach (e::es) X.env=(false,eval e X.env)::starEach es X.env:=by rfl)(hpl:(backTo aj (starEach es X.env)).any (·.1)=false:=by rfl) :
  PS X (.Raise (some (.Call (.Name x np) (e::es) [] aj)) none pos) (yV E C t):=by
 intro ah s σ H D I h
 obtain⟨tl,Na,nm,qn,bs,hx,sn,sub,ab,col,dd,k0,k1,k2,k3,k5,mN,hC,hN,hni,T⟩:=O.obj
 refine wpAny_Raise_call_subT (nm:=nm) (q:=qn) (N:=Na) (bs:=bs) (bm:=tl) (hdct:=hx) (sn:=sn) (sub:=sub) (ab:=ab) (col:=col) (dd:=dd) (k0:=k0) (k1:=k1) (k2:=k2) (k3:=k3) (k5:=k5) FB (C:=C) (mN:=mN) (T.hasType FB.hasBase) (I.ok.hd hc) (by rw[he];show (false||(backTo aj (starEach es X.env)).any (·.1))=false;rw[hpl];rfl) hni (m5 I hg O.bound ⟨rfl,?_⟩ hd);have h1:=ha aj ah s σ H _ I h;rw[he]at h1 ⊢;refine Calls.evalArgs_plain (aM1 h1 (λus s2 h2=>?_) λ_ _ y=>y)
 obtain⟨vs,H2,I2,r,hl,q⟩:=h2
 have r:aO vs us:=r
 exact⟨rfl,by show us.length<=sizeLine;rw[<- r.length];exact hl,I2.bk _ _ hC,hN.keeps I2.bk,T.keeps I2.bk,λh' e' mx=>hX.made ah σ H2 s2 h' e' C _ I2 mx q⟩
theorem dW.okX {P:ay}{w:bf}{K:ae}{mg:Str->Option ar}{base:Heap}{x qual:Str}{st:Stmt}{f:ax}{fd:FuncData}{N ps:List Str}{k:Nat}{sp:Sp}(F:dW K x qual st f fd)(S:FnScope N ps (aT st))(len:∀vs H Q E,sp vs H Q E->vs.length=ps.length)(hbody:∀(cdv:ar) (A:ba) (outer:List Env) (s:aw) (H:Hp) (vs:List V) (Q:VK) (E:XK),bS k (A.deeper (envOfC qual (aT st) s.heap.objs.size f cdv))->sp vs H Q E->
   ∃t,cY (c7 (cB P w) P w K mg base N qual (aT st) f cdv A outer s H E) (cR st) t/\t { nx:=λ_ H'=>Q .non H',rt:=Q } (cK N vs) H):cZ P w K mg base (cB P w) (k+1) f fd ps sp:=by
 obtain⟨oc,od,kV,doc,pm,an,cdv,ct,osl,rfl,lk,hcd⟩:=F.ex
 exact vT lk hcd S len λA outer s H vs Q E hr hsp=>hbody cdv A outer s H vs Q E hr hsp
section
variable {X:Cx}{ah:List (ax×Obj)}{σ:St}{H H1 H':Hp}{s s1 s':aw}{B h2:Heap}{a C:ax}
theorem yW {oe:Obj}(I:a6 X ah σ H1 s1)(fl:kC X.prog X.w X.stack H1 s1 H' B a C s')(st:B.StaysIn h2)(up:s'.heap.UpToSlots h2)(he:h2.get? a=some oe) :
  a6 X ah σ (upd H' a (.frz oe (.own a))) { s' with heap:=h2 }:=by
 obtain⟨a0,fly⟩:=fl.fly
 have na:B.get? a=none:=fly.2.1;have nf:a∉b9 X.stack:=λz=>by
  obtain⟨_,o,e,d⟩:=fly.2.2.1.mem z
  obtain⟨o2,vs,e2,_,d2,_⟩:=fly.first
  rw[e]at e2;cases e2;exact d vs d2
 have nb:∀b o,s1.heap.get? b=some o->b≠a:=λb o e z=>by
  subst z
  obtain⟨o',e'⟩:=fl.b0 _ o e nf
  rw[na]at e';cases e'
 have nt:∀b u,H' b=some u->b≠a:=λb u e z=>by
  subst z;rw[fl.fresh]at e;cases e
 have off:∀b,b≠X.env.locals->b∉X.fs->b∉b9 X.stack:=λb n1 n2 z=>(aI1.mp (I.stkSub b z)).elim n1 n2
 have slot:∀b o,s1.heap.get? b=some o->b∈b9 X.stack->∃sl,h2.get? b=some { o with slots:=sl }:=λb o e hb=>by
  obtain⟨sl,e1⟩:=fl.un.any e (I.stkFree b hb) (λz=>nomatch z)
  obtain⟨_,o2,e2,d⟩:=I.stack.mem hb
  rw[e]at e2;cases e2
  obtain⟨sl',e3⟩:=up b _ e1 d
  exact⟨sl',e3⟩
 have ns:∀m,s1.heap.Ns X.env.locals m->h2.Ns X.env.locals m:=λm hm=>by
  obtain⟨o,es,ep,e,r⟩:=hm
  obtain⟨sl,e1⟩:=fl.un.any e I.free (λz=>nomatch z)
  exact up.ns ⟨_,es,ep,e1,r⟩
 have hok:bM X.prog X.w (upd H' a (.frz oe (.own a))) h2:=λb u e=>by
  by_cases hb:b=a
  ·subst hb;rw[cA]at e;cases e;exact⟨he,_,he⟩
  ·rw[aZ hb]at e
   exact (fl.hok2 st b u e).stay (λ_ _ _ q=>q) (λc q=>by rw[aZ (nt c _ q)];exact q) λc xs q=>by rw[aZ (nt c _ q)];exact q
 have bare:=fl.bare;have un:=fl.un;have b0:=fl.b0;have b1:=fl.b1;have os:=fl.os;clear fl fly up
 obtain⟨hh,g,d,t,os'⟩:=s'
 obtain rfl:os'=s1.os:=os;show a6 X ah σ _ { s1 with heap:=h2,gens:=g,drawn:=d,toks:=t };refine I.step (h':=h2) (g':=g) (d':=d) (t':=t) (ch:=[]) (λ_ z=>nomatch z) (λb o n1 n2 _ e n=>st _ _ (b1 b o e n (off b n1 n2))) (λb o n1 hb _ e n=>?_) (λb o _ e n=>by rw[aZ (nb b o e)];exact un.free b o e n (λz=>nomatch z)) (λb o _ e=>?_)
  (λb xs q=>by rw[aZ (nt b _ (un.tups b xs q))];exact un.tups b xs q) (λb o u q=>by rw[aZ (nt b _ (un.frzs b o u q))];exact un.frzs b o u q) (λb ps q=>by
   obtain⟨more,q'⟩:=un.tbls b ps q
   exact⟨more,by rw[aZ (nt b _ q')];exact q'⟩) ns hok bare
 ·by_cases hs:b∈b9 X.stack
  ·exact slot b o e hs
  ·exact⟨o.slots,st _ _ (b1 b o e n hs)⟩
 ·by_cases hb:b∈b9 X.stack
  ·obtain⟨sl,e1⟩:=slot b o e hb
   exact⟨_,e1⟩
  ·obtain⟨o',e1⟩:=b0 b o e hb
   exact⟨o',st _ _ e1⟩
noncomputable abbrev Cx.suite (X:Cx)(a:ax):Cx:={ X with A:=X.A.mark (some (.ref a)),calm:=false,xe:=λ_ _=>False }
theorem Cx.Ok.suite {X:Cx}(ok:X.Ok)(a:ax):(X.suite a).Ok:=
 ⟨ok.mod,ok.kind,ok.glob,ok.blt,ok.above,ok.inj,ok.has,ok.cab,λz=>Bool.noConfusion z,ok.frames,ok.stk,ok.exf,ok.bs,ok.bsz,ok.noex,ok.exfs,ok.funs,ok.frf⟩
theorem a6.suite (I:a6 X ah σ H s)(a:ax):a6 (X.suite a) ah σ H s:=⟨I.ok.suite a,I.os,I.bare,I.base,I.loc,I.cell,I.free,I.freeC,I.pin,I.hok,I.len⟩
theorem a6.unsuite (I:a6 (X.suite a) ah σ H s)(ok:X.Ok):a6 X ah σ H s:=⟨ok,I.os,I.bare,I.base,I.loc,I.cell,I.free,I.freeC,I.pin,I.hok,I.len⟩
theorem pD {M:Model}{A:ba}{E:ar->aw->Prop}{i:Nat}{x:Str}{pos:Pos}{Q:Unit->aw->Prop}(I:a6 X ah σ H s)(hN:X.N.Nodup)(hi:X.N[i]? = some x)(hk:X.env.scope.names.lookup x=some .local)(h:∀s',a6 X ah (σ.set i none) H s'->Q () s'):wpAny M A (do bindName X.env x .none;unbindBehindTheSuite X.env x pos) Q E s:=by
 obtain⟨m,hn,hl⟩:=id I.loc
 obtain⟨oL,_,_,hoL,_⟩:=id hn
 have ab:∀b o,X.s₀.heap.get? b=some o->b≠X.env.locals:=λb o e=>aL1 (aH8 (aI3 e) I.ok.above)
 refine wpAny_nameGoes_keeps hk hn (by rw[I.ok.kind];rfl) λh' v hn' hs=>?_
 refine h _ ⟨I.ok,I.os,I.bare,⟨λb o e n hb hx=>(hs.2 b (ab b o e)).trans (I.base.keep b o e n hb hx),λb o e n hb hx=>?_,I.base.free,λb o e hx=>?_,I.base.tups,I.base.frzs,I.base.tbls⟩,⟨_,hn',λj y v' e1 e2 e3=>?_⟩,λy c e=>?_,I.free,I.freeC,λp hp=>?_,λb u e=>?_,by simpa using I.len⟩
 ·obtain⟨sl,e1⟩:=I.base.slot b o e n hb hx
  exact⟨sl,(hs.2 b (ab b o e)).trans e1⟩
 ·obtain⟨o',e1⟩:=I.base.there b o e hx
  exact⟨o',(hs.2 b (ab b o e)).trans e1⟩
 ·by_cases hj:j=i
  ·subst hj
   have hjl:j<σ.length:=by rw[I.len];exact (aI4.mp hi).1
   rw[aM9 hjl]at e2;cases e2
  ·rw[aJ5 (Ne.symm hj)]at e2
   obtain⟨u',r',q⟩:=hl j y v' e1 e2 e3
   refine⟨u',r',?_⟩;rcases q with⟨k,e⟩|⟨k,c,e,z⟩
   ·have ny:y≠x:=λz=>hj (qN hN e1 (z▸hi))
    exact .inl ⟨k,by simp[ny,e]⟩
   ·exact .inr ⟨k,c,e,z.sameBut hs (I.cne y c e)⟩
 ·obtain⟨w',z⟩:=I.cell y c e
  exact⟨w',z.sameBut hs (I.cne y c e)⟩
 ·obtain⟨e,n,ne,nf,d⟩:=I.pin p hp
  exact⟨(hs.2 p.1 ne).trans e,n,ne,nf,d⟩
 ·refine (I.hok b u e).stay (λc v hc q=>(hs.2 c λz=>?_).trans q) (λ_ q=>q) λ_ _ q=>q
  subst z;rcases hc with z|z
  ·subst z;rw[I.free]at e;cases e
  ·rw[I.free]at z;cases z
theorem al8 {M:Model}{A:ba}{E:ar->aw->Prop}{K:ae}{e C D:ax}{oe:Obj}{Q:Bool->aw->Prop}(k:K.In s.heap)(he:s.heap.get? e=some oe)(hc:oe.cls = .ref C)(h1:(PySem.W.clsIn K D).isSome=true)(h2:PySem.W.typeIn K (.ref D)=some (.type "type"))(h3:PySem.W.subIn K (.ref D) (.type "BaseException")=some true)(h4:PySem.W.subIn K (.ref C) (.ref D)=some true)(hq:Q true s):wpAny M A (excMatches (.ref e) (.ref D)) Q E s:=by
 obtain⟨h,g,d,t,os⟩:=s
 have k:K.In h:=k;have he:h.get? e=some oe:=he;have l1:PySem.W.Looks M h (isType (.ref D)) true:=by
  unfold PySem.W.clsIn at h1;split at h1
  ·rename_i c' d' cd' sl' ho
   intro A' Q' E' s' kk q;unfold isType loadHead;exact aG9 (wpAny_loadPart (kk _ _ (k _ _ ho)) (aH5 q))
  ·cases h1
 have l2:PySem.W.Looks M h (typeOf (.ref D)) (.type "type"):=PySem.W.looks_typeIn k h2;have l3:PySem.W.Looks M h (isSubtype (.ref D) (.type "BaseException")) true:=PySem.W.looks_subIn k h3;have l4:PySem.W.Looks M h (isSubtype (.ref C) (.ref D)) true:=PySem.W.looks_subIn k h4;have l5:PySem.W.Looks M h (typeOf (.ref e)) (.ref C):=hc▸(PySem.W.Looks.ld he).andThen .now;have l6:PySem.W.Looks M h (isInstance (.ref D) (.type "tuple")) false:=l2.andThen (PySem.W.Looks.of_pure tc_notTuple);have l7:PySem.W.Looks M h (isExcClass (.ref D)) true:=by
  unfold isExcClass;exact l1.andThen (by simpa using l3)
 have f:=tc_notTuple;unfold excMatches
 repeat (first|exact hq|(with_reducible refine l2.at ?_)|(with_reducible refine l7.at ?_)|(with_reducible refine l1.at ?_)|(with_reducible refine l3.at ?_)|(with_reducible refine l5.at ?_)|(with_reducible refine l4.at ?_)|wp_step)
end
noncomputable def tD (D:cP)(i:Nat):cP:={ nx:=λσ H=>D.nx (σ.set i none) H,rt:=D.rt,bk:=λσ H=>D.bk (σ.set i none) H,ct:=λσ H=>D.ct (σ.set i none) H }
section
variable {X:Cx}{ah:List (ax×Obj)}{σ:St}{H H1 H':Hp}{s s1 s':aw}{B:Heap}{a C Ch:ax}{i:Nat}{x n:Str}{np pos hpos:Pos}{b₀:Stmt}{suite:List Stmt}{ts:TS}{D:cP}{bT:List ExceptHandler}
structure tE (K:ae)(Ch:ax):Prop where
 c1:(PySem.W.clsIn K Ch).isSome=true
 c2:PySem.W.typeIn K (.ref Ch)=some (.type "type")
 c3:PySem.W.subIn K (.ref Ch) (.type "BaseException")=some true
theorem al9 (I:a6 X ah σ H1 s1)(fl:kC X.prog X.w X.stack H1 s1 H' B a C s')(hstk:X.stack=X.env::X.outer/\X.env.frame=some X.env.locals)(hg:Gl X x)(hm:X.mg x=some (.ref Ch))(ct:tE X.K Ch)(sub:PySem.W.subIn X.K (.ref C) (.ref Ch)=some true)(hN:X.N.Nodup)(hi:X.N[i]? = some n)(hl:X.env.scope.names.lookup n=some .local)(hs:cY (X.suite a) (b₀::suite) ts)(q:∀oe:Obj,oe.cls = .ref C->ts (tD D i) (σ.set i (some (.ref a))) (upd H' a (.frz oe (.own a))))(hd:(x==("__debug__":Str))=false) :
  wpAny (model X.prog X.w) X.A (noteFrame (.ref a) X.env) (λ_ s₂=>wpAny (model X.prog X.w) X.A (setFlight (.ref a) none) (λ_ s₃=>wpAny (model X.prog X.w) X.A (handleBy (.ref a) X.env (.ExceptHandler (some (.Name x np)) (some n) (b₀::suite) hpos::bT)) (SP X ah D) X.xe s₃) X.xe s₂) X.xe s':=by
 obtain⟨a0,fly⟩:=fl.fly
 rw[hstk.1]at fly;refine wpAny_looks_onW (outer:=X.outer) (L:=X.env.locals) (by rw[I.ok.frames,hstk.1]) hstk.2 fly λh4 held up4=>wpAny_landsW held λh5 fly5 up5=>?_
 obtain⟨o5,v5,e5,c5,_⟩:=fly5.first
 have I5:=yW I fl fly5.1 (up4.trans up5) e5;refine wpAny_handleBy_cons (codeAny_handlers_test (m5 (I5.suite a) hg hm ?_ hd)) (by intro z;cases z);refine al8 I5.kIn e5 c5 ct.c1 ct.c2 ct.c3 sub ?_;show codeAny (model X.prog X.w) (X.A.mark (some (.ref a))) (.handlers (.ref a) [.ExceptHandler none (some n) (b₀::suite) hpos] X.env) _ _;refine codeAny_handlers_suite_as (lands_againW fly5 λh6 fly6 up6=>?_)
 obtain⟨o6,v6,e6,c6,_⟩:=fly6.first
 have I6:=yW I fl fly6.1 ((up4.trans up5).trans up6) e6;refine nY I6 hN hi (.inl hl) (v:=.ref a) rfl (λs7 I7=>?_) (.inr hl);refine aM1 (hs ah s7 _ _ (tD D i) (I7.suite a) (q o6 c6)) (λf s8 h8=>?_) λ_ _ z=>z.elim
 show wpAny (model X.prog X.w) X.A (do bindName X.env n .none;unbindBehindTheSuite X.env n hpos) (λ_ s9=>SP X ah D f s9) X.xe s8;cases f with
 |next=>obtain⟨σ',H',J,q⟩:=h8;exact pD (J.unsuite I.ok) hN hi hl λs9 J9=>⟨_,_,J9,q⟩
 |brk=>obtain⟨σ',H',J,q⟩:=h8;exact pD (J.unsuite I.ok) hN hi hl λs9 J9=>⟨_,_,J9,q⟩
 |cont=>obtain⟨σ',H',J,q⟩:=h8;exact pD (J.unsuite I.ok) hN hi hl λs9 J9=>⟨_,_,J9,q⟩
 |ret u=>obtain⟨v,σ',H',J,r,q⟩:=h8;exact pD (J.unsuite I.ok) hN hi hl λs9 J9=>⟨v,_,_,J9,r,q⟩
end
noncomputable abbrev TB:=cP->XK->St->Hp->Prop
noncomputable def XB (X:Cx)(ah:List (ax×Obj))(σ:St)(Ex:XK):ar->aw->Prop:=λe s'=>∃H1 s1,a6 X ah σ H1 s1/\cB X.prog X.w X.stack H1 s1 Ex e s'
noncomputable def PB (X:Cx)(sts:List Stmt)(t:TB):Prop:=
 ∀(ah:List (ax×Obj)) (s:aw) (σ:St) (H:Hp) (D:cP) (Ex:XK),a6 X ah σ H s->t D Ex σ H->wpAny (model X.prog X.w) X.A (execs sts X.env) (SP X ah D) (XB X ah σ Ex) s
section
variable {X:Cx}{k:Nat}{f Ch:ax}{fd:FuncData}{ps:List Str}{sp:Sp}{x n:Str}{p cp pos np hpos:Pos}{e c:Expr}{es:List Expr}{t:TA}{tb ub:TB}{tc:TT}{sa sb body:List Stmt}{i:Nat}{b₀:Stmt}{suite:List Stmt}{ts:TS}
noncomputable def yX (K:ae)(Ch:ax)(i:Nat)(tb:TB)(ts:TS):TS:=λD σ H=>
 tb D (λc _ H'=>∀(a C:ax) (oe:Obj),c = .ref C->H' a=none->oe.cls = .ref C->PySem.W.subIn K (.ref C) (.ref Ch)=some true/\ts (tD D i) (σ.set i (some (.ref a))) (upd H' a (.frz oe (.own a)))) σ H
theorem am0 (hstk:X.stack=X.env::X.outer/\X.env.frame=some X.env.locals)(hb:PB X body tb)(hg:Gl X x)(hm:X.mg x=some (.ref Ch))(ct:tE X.K Ch)(hN:X.N.Nodup)(hi:X.N[i]? = some n)(hl:X.env.scope.names.lookup n=some .local)(hs:∀a,cY (X.suite a) (b₀::suite) ts)(hd:(x==("__debug__":Str))=false:=by decide):PS X (.Try body [.ExceptHandler (some (.Name x np)) (some n) (b₀::suite) hpos] [] [] pos) (yX X.K Ch i tb ts):=by
 intro ah s σ H D I h;refine wpAny_Try_except (aM1 (hb ah s σ H D _ I h) (λfl s1 q=>?_) (λev s1 q=>?_))
 ·cases fl with
  |next=>exact wpAny_execs_nil q
  |_=>exact q
 ·obtain⟨H1,s2,I1,H',B,a,C,e1,fl,q⟩:=q
  subst e1
  obtain⟨a0,fly⟩:=fl.fly
  obtain⟨o5,_,_,c5,_⟩:=fly.first
  exact al9 I1 fl hstk hg hm ct (q a C o5 rfl fl.fresh c5).1 hN hi hl (hs a) (λoe hc=>(q a C oe rfl fl.fresh hc).2) hd
end
end L2
namespace L2
open PySem PySem.Spec PyProof.Rows PySem.Calls Builtin Builtin.ObjectAttr Builtin.Getset_descriptor
structure gV (K:ae)(D:ax):Prop where
 cls:(PySem.W.clsIn K D).isSome=true
 ga:PySem.W.findIn K (.ref D) "__getattribute__" = some (some (.builtin "BaseException.__getattribute__"))
 gt:PySem.W.findIn K (.ref D) "__getattr__" = some none
 fc:PySem.W.findIn K (.ref D) "__class__" = some (some (.builtin "object.__class__"))
 fg:PySem.W.specialIn K (.builtin "object.__class__") "__get__" = some (some (.builtin "getset_descriptor.__get__"))
 ft:PySem.W.takesIn K (.builtin "object.__class__")=some true
 ob:PySem.W.mroIn K D (.type "object")=some true
 be:PySem.W.mroIn K D (.type "BaseException")=some true
noncomputable def jG (h:Heap)(x D:ax):Prop:=∃ox:Obj,h.get? x=some ox/\ox.cls = .ref D
theorem jG.type {h:Heap}{x D:ax}{M:Model}(I:jG h x D):PySem.W.Looks M h (typeOf (.ref x)) (.ref D):=by
 obtain⟨ox,e,c⟩:=I
 exact c▸(PySem.W.Looks.ld e).andThen .now
section
variable {prog:ay}{w:bf}{A:ba}{E:ar→aw→Prop}{K:ae}{x D:ax}{h:Heap}{g:Array GenState}{d:Drawn}{t:Nat}{os:OsState}
theorem am1 {M:Model}(F:gV K D)(k:K.In h):PySem.W.Looks M h (find (.ref x) (.ref D) "__class__") (.bind (.builtin "getset_descriptor.__get__") (.builtin "object.__class__")):=by
 have L1:=PySem.W.looks_findIn (M:=M) k F.fc;have L2:=PySem.W.looks_specialIn (M:=M) k F.fg;have L3:=PySem.W.looks_takesIn (M:=M) k F.ft;unfold find;refine L1.andThen (PySem.W.Looks.andThen (a:=some (Value.builtin "getset_descriptor.__get__")) L2 ?_);refine PySem.W.Looks.andThen (a:=some (Value.builtin "getset_descriptor.__get__",Value.builtin "object.__class__")) ?_ (PySem.W.Looks.tag .now);unfold dataDescriptor?;exact L3.andThen .now
theorem am2 {tp:ar}{R:Result->aw->Prop}(F:gV K D)(k:K.In h)(I:jG h x D)(hq:R (.ok (.ret (.ref D))) ⟨h,g,d,t,os⟩):codeAny (model prog w) A (.call (.builtin "getset_descriptor.__get__") ⟨[.builtin "object.__class__",.ref x,tp],[]⟩) R ⟨h,g,d,t,os⟩:=by
 have L0:=I.type (M:=model prog w);have L1:=PySem.W.looks_mroIn (M:=model prog w) k F.ob;refine codeAny_call_builtin PySem.W.KF.slot_gs.plain PySem.W.KF.entry_gs (PySem.W.KF.slot_gs.check _ _ _ _ _ _ _ _ PySem.W.KF.type_class (PySem.W.KF.args_gs _ _ _) ?_);unfold Builtin.«getset_descriptor.__get__» descrGet;rw[PySem.W.dga_obj];refine aG9 (aH5 ?_);unfold descrGetter descrCheckInstance descrNameAndClass isInstance;simp only[PySem.W.KF.owner_class]
 repeat lk
 refine⟨Code.quiet_builtin _ (by decide +kernel),codeAny_builtin PySem.W.KF.entry_class ?_⟩;unfold Builtin.«object.__class__» shownTypeOf
 repeat lk
 exact hq
theorem am3 {M:Model}{nameV:ar}{Q:Unit->aw->Prop}(F:gV K D)(k:K.In h)(I:jG h x D)(hq:Q () ⟨h,g,d,t,os⟩):wpAny M A (checkBuiltinCall "BaseException.__getattribute__" ⟨[.ref x,nameV],[]⟩) Q E ⟨h,g,d,t,os⟩:=by
 have kd:builtinKind "BaseException.__getattribute__" = some .slot:=by decide +kernel
 have sp:splitId "BaseException.__getattribute__" = some ("BaseException","__getattribute__"):=by decide +kernel
 have L:PySem.W.Looks M h (isInstance (.ref x) (.type "BaseException")) true:=(I.type (M:=M)).andThen (PySem.W.looks_mroIn k F.be);have ha:=PySem.F.args_bexc_ga (.ref x) nameV;simp only[checkBuiltinCall,kd,sp];refine aG9 (L.at ?_)
 repeat (any_goals (first|assumption|wp_step))
theorem am4 {tk:Tok}{Q:Fin->aw->Prop}(F:gV K D)(k:K.In h)(I:jG h x D)(hq:Q (.done (.ret (.ref D))) ⟨h,g,d,t,os⟩):wpAny (model prog w) A (Builtin.«object.__getattribute__» ⟨[.ref x,.str "__class__" tk],[]⟩) Q E ⟨h,g,d,t,os⟩:=by
 have L0:=I.type (M:=model prog w);have L1:=am1 (M:=model prog w) F k (x:=x);refine aG9 (aH5 (aG9 (aH5 (aG9 (L0.at (aG9 (L1.at ?_)))))));show wpAny _ _ (holding [_] (call _ _) >>= ret) _ _ _;exact aG9 (aR0 (wpAny_call (am2 F k I (aH5 hq))))
theorem am5 {tk:Tok}{R:Result->aw->Prop}(F:gV K D)(k:K.In h)(I:jG h x D)(hq:R (.ok (.ret (.ref D))) ⟨h,g,d,t,os⟩):codeAny (model prog w) A (.call (.builtin "BaseException.__getattribute__") ⟨[.ref x,.str "__class__" tk],[]⟩) R ⟨h,g,d,t,os⟩:=
 codeAny_call_builtin PySem.F.excAttr_ValueError.ga.plain PySem.F.entry_bexc_ga (am3 F k I (am4 F k I hq))
theorem am6 {Q:Option ar->aw->Prop}(F:gV K D)(k:K.In h)(I:jG h x D)(hq:Q (some (.ref D)) ⟨h,g,d,t+1,os⟩):wpAny (model prog w) A (getAttr? (.ref x) "__class__") Q E ⟨h,g,d,t,os⟩:=by
 have L0:=I.type (M:=model prog w);have L1:=PySem.W.looks_findIn (M:=model prog w) k F.ga;have L2:=PySem.W.looks_findIn (M:=model prog w) k F.gt;have f3:=PySem.F.excAttr_ValueError.ga.bind (.ref x);unfold getAttr? getAttrBy? getAttrBy;refine aG9 (wpAny_mkText (aG9 (wpAny_attempt (aR0 (aG9 (L0.at (aG9 (L1.at ?_))))))));have nx:(onTheHeap (Value.ref D)&&Value.builtin "BaseException.__getattribute__"==Value.builtin "object.__getattribute__")=false:=by
  rw[show (Value.builtin "BaseException.__getattribute__"==Value.builtin "object.__getattribute__")=false by decide +kernel,Bool.and_false]
 dsimp only;rw[if_neg (by rw[nx];decide)];unfold getAttrByItsOwn hookBefore
 repeat (any_goals (first|assumption|(with_reducible refine L2.at ?_)|wp_step))
 exact am5 F k I (PySem.W.handed_on rfl (aH5 hq))
end
theorem am7 {K:ae}{x D:ax}(F:gV K D):PySem.W.KitX K (.ref x) (.ref D) (λh=>jG h x D) where
 ty:=λ_ _ _ I=>I.type
 it:=λM h k _=>by
  have z:=F.cls;unfold PySem.W.clsIn at z;split at z
  ·rename_i c' d' cd' sl' ho
   intro A' Q' E' s' kk q;unfold isType loadHead;exact aG9 (wpAny_loadPart (kk _ _ (k _ _ ho)) (aH5 q))
  ·cases z
 ne:=λh tp dd its n sl k htp=>by
  have z:=F.cls;refine aO1.mpr λq=>?_
  obtain rfl:D=tp:=Value.ref.inj (beq_iff_eq.mp q);unfold PySem.W.clsIn at z;split at z
  ·rename_i ho
   have y:=(k _ _ ho).symm.trans htp;cases y
  ·cases z
 ca:=λ{_ _ _ _ _ s} k I q=>by
  obtain⟨h,g,d,t,os⟩:=s
  exact am6 F k I q
end L2
namespace L2
open PySem PySem.Spec PyProof.Rows
section
variable {X:Cx}
noncomputable def yY:V->List V->Hp->VK->Prop:=λx vs H Q=>∃l xs y,∃k:Nat,x = .ref l/\vs = [.int k,y]/\H l=some (.lst xs)/\k<=xs.length/\xs.length<sizeLine/\Q .non (upd H l (.lst (xs.take k++y::xs.drop k)))
theorem am8:rL X "list.insert" yY:=by
 intro ah s σ H x vs v us Q I rx rv h
 obtain⟨l,xs,y,k,rfl,rfl,hH,hk,hz,q⟩:=h
 obtain⟨u1,u2,rfl,⟨t,rfl⟩,r2⟩:=rv.two
 obtain rfl:v=Value.ref l:=rx
 obtain⟨z,its,n,r,hl,e⟩:=I.lstM hH
 have hs:sizeLine=16777216:=aS2
 obtain⟨x,hx⟩:∃x:Int,x=(k:Int):=⟨_,rfl⟩
 rw[<- hx];have hf:¬(!Builtin.List.listFitsIndex x)=true:=by
  have h1:Builtin.List.listFitsIndex x=true:=by
   unfold Builtin.List.listFitsIndex;rw[aK2]
   exact⟨aH3 (by omega),aH3 (by omega)⟩
  rw[h1];exact aI5
 have hz2:its.toArray.size<=sizeLine:=by rw[aH7];omega
 refine call_meets PySem.F.slot_list_insert ⟨_,e,rfl⟩ PySem.F.entry_list_insert (PySem.F.args_list_insert_3 _ _ _) (AutoSeq1.list_insert_list_int_val_1 l its.toArray n x t u2 hf hz2) ⟨e,.non,_,?_,rfl,q⟩;refine I.lset (its':=its.take k++u2::its.drop k) hH e ?_ ((r.take k).append (.cons r2 (r.drop k))) ?_
 ·have e1:(if x<0 then (x+(its.toArray.size:Int)).toNat else min x.toNat its.toArray.size)=k:=by
   rw[if_neg (by omega),aH7];omega
  dsimp only;rw[e1];apply Array.toList_inj.mp;simp only[Array.toList_append,Array.toList_push,Array.toList_extract,List.extract_eq_drop_take];simp;rw[aL6 (by rw[aL7];omega)]
 ·rw[aJ3,aJ1,aP5,aL7]
  omega
end
end L2
namespace Core
open PySem L2 PP
theorem jH {α β:Type}{l:List α}{f:α->β}{i:Nat}{x:α}(h:l[i]? = some x):(l.take (i+1)).map f=(l.take i).map f++[f x]:=by
 rw[aS3,h];simp
noncomputable def kin (ws:ag)(ls:aa)(S:ag)(h:Int):Bool:=!decide (h∈S)&&decide (ws.getD h.toNat 0<=(((xM ls h).filter λx=>decide (x∈S)).length:Int))
noncomputable def nextOf (ws:ag)(ls:aa)(S:ag):ag:=((List.range ws.length).map λ(i:Nat)=>(i:Int)).filter (kin ws ls S)
noncomputable def mY (ws:ag)(ls:aa)(S:ag):Nat->ag
 |0=>S
 |k+1=>mY ws ls S k++nextOf ws ls (mY ws ls S k)
theorem am9 {ws:ag}{ls:aa}{S:ag}{x:Int}(h:kin ws ls S x=true):decide (x∈S)=false:=by
 unfold kin at h;cases e:decide (x∈S) with
 |false=>rfl
 |true=>rw[e]at h;cases h
noncomputable def after (ws:ag)(ls:aa)(S:ag)(m:Nat):af:=(List.range m).map λk=>nextOf ws ls (mY ws ls S k)
noncomputable def cP (ws:ag)(ls:aa)(ns:ag)(m:Nat):Prop:=(∀k<m,nextOf ws ls (mY ws ls ns k)≠[])/\nextOf ws ls (mY ws ls ns m) = []
theorem yZ {ns:ag}{i:Nat}{x:PV}(h:(intz ns)[i]? = some x):∃n,x = .int n/\ns[i]? = some n:=by
 rw[aI8]at h;cases e:ns[i]? with
 |none=>rw[e]at h;cases h
 |some n=>rw[e]at h;exact⟨n,(aI7 h).symm,rfl⟩
theorem gW {lo:Int}{n i:Nat}{x:PV}(h:(gQ lo n)[i]? = some x):x = .int (lo+i)/\i<n:=by
 have hi:i<n:=by
  have:=(aI4.mp h).1
  rwa [fC]at this
 rw[y9 hi]at h
 exact⟨(aI7 h).symm,hi⟩
noncomputable def rng (n:Nat):ag:=(List.range n).map λ(i:Nat)=>(i:Int)
theorem pE (a b:ag):intz (a++b)=intz a++intz b:=aK6
theorem dJ (a:ag):(intz a).length=a.length:=aH4 _
noncomputable def gX (ws:ag)(ls:aa):PV:=.tup [.tup (intz ws),.tup (ls.map λl=>.tup [.int l.1,.int l.2])]
noncomputable def lP (x:PV)(ns:ag):Prop:=x = .tup (intz ns)∨x = .lst (intz ns)
theorem lP.seq {x:PV}{ns:ag}(h:lP x ns):j6 x=some (intz ns):=by rcases h with rfl|rfl<;>rfl
theorem jI:∀(ls:aa),flats (ls.map λl=>PV.tup [.int l.1,.int l.2])=true
 |[]=>rfl
 |l::r=>by
  show (flat (.tup [.int l.1,.int l.2])&&flats (r.map λl=>PV.tup [.int l.1,.int l.2]))=true;rw[jI r];rfl
theorem z9 (ws:ag)(ls:aa):flat (gX ws ls)=true:=by
 show flats [.tup (intz ws),.tup (ls.map λl=>PV.tup [.int l.1,.int l.2])]=true;show (flat (.tup (intz ws))&&(flat (.tup (ls.map λl=>PV.tup [.int l.1,.int l.2]))&&true))=true;show (flats (intz ws)&&(flats (ls.map λl=>PV.tup [.int l.1,.int l.2])&&true))=true;rw[gM,jI];rfl
theorem zA (ns:ag):flat (.tup (intz ns))=true:=gM ns
noncomputable abbrev dC (t:aM)(N:List Str)(p:bW):Prop:=∀xs Q,p xs Q->t { nx:=λ_=>Q .non,rt:=Q } (dB N xs)
noncomputable def inB (n:Nat)(x:Int):Bool:=decide (0<=x)&&decide (x<(n:Int))
section
variable {κ:Type}[DecidableEq κ]
theorem an0 (kvs:List (κ×PV))(k:κ)(v:PV):(eR kvs k v).length<=kvs.length+1:=by
 unfold eR;split
 ·rw[aH4];omega
 ·rw[aJ3,aJ1,aQ6];omega
end
theorem zB:∀(xs:List PV),flats xs=true↔∀x∈xs,flat x=true
 |[]=>by simp[flats]
 |x::r=>by
  unfold flats;rw[aK2,zB r];simp
theorem an1 {κ:Type}[DecidableEq κ]{ps:List (κ×PV)}{k:κ}{v:PV}{p:κ×PV}(h:p∈eR ps k v):p.2=v∨p∈ps:=by
 unfold eR at h;split at h
 ·obtain⟨q,hq,e⟩:=aJ2.mp h
  split at e
  ·subst e;exact .inl rfl
  ·subst e;exact .inr hq
 ·rcases aL2.mp h with h|h
  ·exact .inr h
  ·rw[aI2.mp h];exact .inl rfl
theorem an2 {κ:Type}[DecidableEq κ]{ps:List (κ×PV)}{k:κ}{v:PV}(h:flats (ps.map (·.2))=true)(hv:flat v=true):flats ((eR ps k v).map (·.2))=true:=by
 rw[zB]at h ⊢;intro x hx
 obtain⟨p,hp,rfl⟩:=aJ2.mp hx
 rcases an1 hp with e|e
 ·rw[e];exact hv
 ·exact h _ (aJ2.mpr ⟨p,e,rfl⟩)
theorem an3 {ws:ag}{h:Int}(h0:0<=h)(h1:h<(ws.length:Int)):atI (intz ws) h=some (.int (ws.getD h.toNat 0)):=by
 refine lB h0 ?_
 have:h.toNat<ws.length:=by omega
 rw[aI8,aK0,aH2 this];rfl
noncomputable def tups (rs:af):List PV:=rs.map λr=>PV.tup (intz r)
end Core
namespace PP
open PySem L2
noncomputable def tF:List PV->(PV->Prop)->Prop:=λxs Q=>∃ys:af,xs = [.lst (ys.map λr=>PV.tup (intz r))]/\ys.length<64/\(∀y∈ys,y≠[])/\∀zs:af,zs.Perm ys->zs.Pairwise (λu v=>HT.b7 v u=false)->Q (.lst (zs.map λr=>PV.tup (intz r)))
noncomputable def tG:List PV->(PV->Prop)->Prop:=λxs Q=>∃ps:List (List aN×PV),xs = [.dT ps]/\Q (.lst (ps.map λp=>PV.tup (p.1.map kP)))
end PP
namespace Core
open PySem L2 PP
theorem zC (g:Tg)(n:Int):Nw g (.int n):=by cases g<;>first|exact trivial|rfl
noncomputable def iN (x:PV)(ns:ag):Prop:=x = .scr ns∨x = .lst (intz ns)
theorem iN.seq {x:PV}{ns:ag}(h:iN x ns):j6 x=some (intz ns):=by rcases h with rfl|rfl<;>rfl
theorem iN.len {x:PV}{ns:ag}(h:iN x ns):oZ x=some ns.length:=by
 rcases h with rfl|rfl
 ·rfl
 ·show some (intz ns).length=_
  rw[dJ]
noncomputable def gY:bW:=λxs Q=>∃x ns k,xs = [x,.int k]/\iN x ns/\0<=k/\Q (.int (ns.getD k.toNat 0))
noncomputable def zD:aM:=(aH (bA (aJ (k6 (a5 1) (aF cF (a7 (a5 0) a9)))) (aY (bH (a5 0) (a5 1))) bE)
 (aY (qC (.int 0))))
theorem an4:dC zD ["script","k"] gY:=by
 rintro xs Q ⟨x,ns,k,rfl,hx,h0,q⟩;refine⟨_,rfl,_,rfl,_,_,rfl,hx.len,_,_,rfl,rfl,_,rfl,?_⟩;by_cases h:k<(ns.length:Int)
 ·rw[aH3 h]
  exact aQ ⟨_,rfl,_,rfl,_,_,_,hx.seq,rfl,an3 h0 h,zC _ _,q⟩
 ·rw[aH0 h]
  rw[aK0,List.getElem?_eq_none (by omega)]at q;exact aP ⟨trivial,q⟩
noncomputable def bC (ls:aa):List PV:=ls.map λl=>PV.tup [.int l.1,.int l.2]
theorem zE (ls:aa):(bC ls).length=ls.length:=aH4 _
noncomputable def cW (l m:Int×Int):Prop:=l.1<m.1∨(l.1=m.1/\l.2<m.2)
structure fQ (n:Int)(ls:aa)(a b:Int):Prop where
 inn:∀l∈ls,0<=l.1/\l.1<l.2/\l.2<n
 ord:ls.Pairwise cW
 low:∀l∈ls,cW l (a,b)
theorem fQ.mono {n a b a' b':Int}{ls:aa}(h:fQ n ls a b)(m:a<a'∨(a=a'/\b<=b')):fQ n ls a' b':=
 ⟨h.inn,h.ord,λl hl=>by have:=h.low l hl;unfold cW at *;dsimp only at *;omega⟩
theorem fQ.add {n a b:Int}{ls:aa}(h:fQ n ls a b)(h0:0<=a/\a<b/\b<n):fQ n (ls++[(a,b)]) a (b+1):=by
 refine⟨λl hl=>?_,?_,λl hl=>?_⟩
 ·rcases aL2.mp hl with hl|hl
  ·exact h.inn l hl
  ·rw[aI2.mp hl];exact h0
 ·exact List.pairwise_append.mpr ⟨h.ord,List.pairwise_singleton _ _,λl hl m hm=>by rw[aI2.mp hm];exact h.low l hl⟩
 ·rcases aL2.mp hl with hl|hl
  ·have:=h.low l hl;unfold cW at *;dsimp only at *;omega
  ·rw[aI2.mp hl];unfold cW;dsimp only;omega
noncomputable def an5:aM:=(aH (iD 4 (dA a9))
 (aH (dX (gR (a5 2)) (bX 5)
  (aH (jY 4 (b6 (a5 0) (a5 3)))
  (aW 0 (c9 (a5 0) (a5 3)))))
 (aH (iD 6 (dA a9))
 (aH (dX (gR (a5 2)) (bX 7)
  (dX (p5 (dI (a5 7) (qC (.int 1))) (a5 2)) (bX 8)
   (aH (bA (aJ (fJ (b6 (a5 1) (qC (.int 2))) (qC (.int 1)))) (jY 6 (gB (a7 (a5 7) (a7 (a5 8) a9)))) bE)
   (aW 1 (c9 (a5 1) (qC (.int 2)))))))
 (aY (gB (a7 (aF iJ (a7 (a5 4) a9)) (a7 (aF iJ (a7 (a5 6) a9)) a9))))))))
noncomputable abbrev si (n:Int):Option Slot:=some (.sh true (.int n))
noncomputable def pF:bW:=λxs Q=>∃i,xs = [.int i]/\Q (.bl true)
noncomputable def zF (K:ae):aM:=(aY (oX (iF K "int" (a5 0)) (sG (iF K "bool" (a5 0)))))
noncomputable def mZ:bW:=λxs Q=>∃y ns ms,xs = [.tup (intz ns),y]/\lP y ms/\ns.length<=1000/\ms.length<=1000/\Q (.bl (decide (ns=ms)))
noncomputable def zG (K:ae):aM:=(aH (bA (eO (gO (aJ (iF K "tuple" (a5 0)))) (aJ (fM (aF cF (a7 (a5 0) a9)) (aF cF (a7 (a5 1) a9))))) (aY (qC (.bl false))) bE)
 (aH (dX (gR (aF cF (a7 (a5 1) a9))) (bX 2)
  (bA (eO (gO (aJ (aF pF (a7 (bH (a5 0) (a5 2)) a9)))) (aJ (fM (bH (a5 0) (a5 2)) (bH (a5 1) (a5 2))))) (aY (qC (.bl false))) bE))
 (aY (qC (.bl true)))))
theorem lP.len {x:PV}{ns:ag}(h:lP x ns):oZ x=some ns.length:=by
 rcases h with rfl|rfl<;>(show some (intz ns).length=_;rw[dJ])
theorem an6 {K:ae}(kt:PySem.W.kitOne K (.type "tuple") (.type "tuple")=some true):dC (zG K) ["found","due","k"] mZ:=by
 rintro xs Q ⟨y,ns,ms,rfl,hy,hn,hm,q⟩;refine⟨_,rfl,_,_,rfl,kt,_,rfl,aP ⟨_,rfl,_,_,rfl,rfl,_,rfl,_,_,rfl,hy.len,.inl ⟨_,_,rfl,rfl,_,rfl,?_⟩⟩⟩;rw[dJ];by_cases hl:ns.length=ms.length
 ·show if (!decide ((ns.length:Int)=(ms.length:Int)))=true then _ else _
  rw[aH3 (by omega)];refine aP ⟨_,rfl,_,_,rfl,hy.len,_,rfl,by omega,by omega,λi ρ=>∃z,ρ = [some (.sh true (.tup (intz ns))),some (.sh (flat y) y),z]/\ns.take i=ms.take i,⟨none,?_,rfl⟩,?_,?_⟩
  ·show dB _ _=_
   unfold dB;show [some (Slot.sh (flat (.tup (intz ns))) (.tup (intz ns))),_,_]=_;rw[zA]
  ·rintro i z ρ hz ⟨z0,rfl,e⟩
   obtain⟨rfl,hi⟩:=gW hz
   have i1:i<ms.length:=by simpa using hi
   have i2:i<ns.length:=by omega
   have e0:(0:Int)+(i:Int)=(i:Int):=by omega
   have a1:atI (intz ns) ((0:Int)+(i:Int))=some (.int ns[i]):=by rw[e0];exact mD (by rw[aI8,aH2 i2];rfl)
   have a2:atI (intz ms) ((0:Int)+(i:Int))=some (.int ms[i]):=by rw[e0];exact mD (by rw[aI8,aH2 i1];rfl)
   refine⟨_,rfl,_,rfl,_,_,_,rfl,rfl,a1,_,rfl,_,rfl,aP ⟨_,rfl,_,rfl,_,_,_,rfl,rfl,a1,_,rfl,_,rfl,_,_,_,hy.seq,rfl,a2,.inl ⟨_,_,rfl,rfl,_,rfl,?_⟩⟩⟩;by_cases h:ns[i]=ms[i]
   ·show if (!decide (ns[i]=ms[i]))=true then _ else _
    rw[aH3 h];refine aP ⟨_,rfl,?_⟩;rw[aS3,aS3,e,aH2 i1,aH2 i2,h]
   ·show if (!decide (ns[i]=ms[i]))=true then _ else _
    rw[aH0 h];refine aQ ⟨trivial,?_⟩;rw[aH0 (λz=>h (by subst z;rfl))]at q;exact q
  ·rintro ρ ⟨z,rfl,e⟩
   rw[fC]at e
   have:ns=ms:=by
    have h1:ns.take ((ms.length:Int).toNat)=ns:=aL6 (by omega);have h2:ms.take ((ms.length:Int).toNat)=ms:=aL6 (by omega);rw[h1,h2]at e;exact e
   rw[aH3 this]at q
   exact⟨trivial,q⟩
 ·show if (!decide ((ns.length:Int)=(ms.length:Int)))=true then _ else _
  rw[aH0 (by omega)];refine aQ ⟨trivial,?_⟩;rw[aH0 (λz=>hl (by rw[z]))]at q;exact q
theorem an7 {K:ae}(k1:PySem.W.kitOne K (.type "int") (.type "int")=some true)(k2:PySem.W.kitOne K (.type "int") (.type "bool")=some false):dC (zF K) ["found"] pF:=by
 rintro xs Q ⟨i,rfl,q⟩
 exact⟨_,rfl,_,_,rfl,k1,_,rfl,aQ ⟨_,rfl,_,_,rfl,k2,_,rfl,trivial,q⟩⟩
theorem an8 {ls:aa}{i:Nat}{x:PV}(h:(bC ls)[i]? = some x):∃l,x = .tup [.int l.1,.int l.2]/\ls[i]? = some l:=by
 unfold bC at h;rw[aI8]at h;cases e:ls[i]? with
 |none=>rw[e]at h;cases h
 |some n=>rw[e]at h;exact⟨n,(aI7 h).symm,rfl⟩
end Core
namespace PP
open PySem L2 PyProof.Rows
section
variable {X:Cx}{a b e:Expr}{ta tb te:aE}{tr:bN}{pos p2 p3 pos2:Pos}
theorem an9:eQ X tG (λxs H Q=>∃a kvs,xs = [.ref a]/\H a=some (.dT kvs)/\∀l ys,H l=none->Paired (oQ H) ys (kvs.map (·.1))->Q (.ref l) (upd H l (.lst ys))):=by
 rintro H vs xs Q Q' r ⟨ps,rfl,q⟩ k
 obtain⟨v,rfl,r1⟩:=r.one
 cases r1 with
 |@dT a kvs _ m h e r2=>
  refine⟨a,kvs,rfl,h,λl ys hl pr=>k _ _ _ (bY hl _) (.lst hl cA ?_) q⟩;have kv:∀(k:List aN),Reps X.K (λa=>H a=none) H (k.map kV) (k.map kP):=λk=>by
   induction k with
   |nil=>exact .nil
   |cons a r ih=>exact .cons (by cases a<;>constructor) ih
  have go:∀{ys:List V}{ks:List (List aN)},Paired (oQ H) ys ks->Reps X.K (λa=>H a=none) H ys (ks.map λk=>PV.tup (k.map kP)):=λ{ys ks} pr=>by
   induction pr with
   |nil=>exact .nil
   |cons h t ih=>
    obtain⟨q,rfl,hq⟩:=h
    exact .cons (.tup hq (kv _)) ih
  have e2:(ps.map λp=>PV.tup (p.1.map kP))=(kvs.map (·.1)).map λk=>PV.tup (k.map kP):=by rw[e,aO6];rfl
  rw[e2];exact (go pr).same (bY hl _) λ_ z=>z
theorem ao0 (B:Bt X.mg)(hc:X.calm=true)(ha:QA X [e] tr)(hg:Gl X "list":=by rfl)(he:starEach [e] X.env=(false,eval e X.env)::starEach [] X.env:=by rfl)(hpl:(backTo pos (starEach [] X.env)).any (·.1)=false:=by rfl):QE X (.Call (.Name "list" p2) [e] [] pos) (aF tG tr):=
 mV (ad1 hc) an9 hg B.list PyProof.Rows.boot_list ha (he:=he) (hpl:=hpl)
noncomputable def tH:V->Int
 |.int i=>i
 |_=>0
noncomputable def kE (H:Hp):V->ag
 |.ref a=>match H a with
  |some (.tup us)=>us.map tH
  |_=>[]
 |_=>[]
theorem ao1 {H:Hp}{a:ax}{ns:ag}(h:H a=some (.tup (ns.map V.int))):kE H (.ref a)=ns:=by
 show (match H a with|some (.tup us)=>us.map tH|_=>[])=ns;rw[h];show (ns.map V.int).map tH=ns;rw[aO6];exact aS4 _
theorem zH {K:ae}{M:ax->Prop}{H:Hp}:∀{us:List V}{ys:af},Reps K M H us (ys.map λr=>PV.tup (intz r))->us.map (kE H)=ys/\∀u∈us,∃b,u = .ref b/\H b=some (.tup ((kE H u).map V.int))
 |_,[],.nil=>⟨rfl,λu h=>nomatch h⟩
 |_,y::ys,.cons r t=>by
  obtain⟨a,us,rfl,h,r1⟩:=r.sqT
  obtain rfl:=r1.ofInts
  obtain⟨h1,h2⟩:=zH t
  have hk:=ao1 h;refine⟨by rw[aK5,h1,hk],λu hu=>?_⟩;rcases aI1.mp hu with rfl|hu
  ·exact⟨a,rfl,by rw[hk];exact h⟩
  ·exact h2 u hu
theorem zI {K:ae}{M:ax->Prop}{H:Hp}:∀{us:List V},(∀u∈us,∃b,u = .ref b/\H b=some (.tup ((kE H u).map V.int)))->Reps K M H us ((us.map (kE H)).map λr=>PV.tup (intz r))
 |[],_=>.nil
 |u::us,h=>by
  obtain⟨b,rfl,hb⟩:=h u aH6
  exact .cons (.tup hb (Reps.intz _)) (zI λv hv=>h v (aI0 _ hv))
theorem ao2:eQ X tF (xK X.K):=by
 rintro H vs xs Q Q' r ⟨ys,rfl,hl,hne,q⟩ k
 obtain⟨v,rfl,r1⟩:=r.one
 obtain⟨a,us,rfl,_,h,r2⟩:=r1.sqL
 obtain⟨h1,h2⟩:=zH r2
 have lr:=r2.length;rw[aH4]at lr;refine⟨a,us,kE H,rfl,aS.of h,by omega,λy hy=>?_,λl zs hl' pm so=>?_⟩
 ·obtain⟨b,rfl,hb⟩:=h2 y hy
  refine⟨b,rfl,aU.of hb,hne _ ?_⟩;rw[<- h1];exact aJ2.mpr ⟨_,hy,rfl⟩
 ·have hz:∀u∈zs,∃b,u = .ref b/\H b=some (.tup ((kE H u).map V.int)):=λu hu=>h2 u (pm.mem_iff.mp hu)
  refine k _ _ _ (bY hl' _) (.lst hl' cA ((zI hz).same (bY hl' _) λ_ z=>z)) (q _ ?_ ?_)
  ·rw[<- h1];exact pm.map _
  ·rw[List.pairwise_map];exact so
theorem ao3 (B:Bt X.mg)(ha:QA X [e] tr)(hg:Gl X "sorted":=by rfl)(he:starEach [e] X.env=(false,eval e X.env)::starEach [] X.env:=by rfl)(hpl:(backTo pos (starEach [] X.env)).any (·.1)=false:=by rfl):QE X (.Call (.Name "sorted" p2) [e] [] pos) (aF tF tr):=
 lM ac6 ao2 hg B.sorted PyProof.Rows.boot_sorted ha (he:=he) (hpl:=hpl)
end
end PP
namespace Core
open PySem L2 PP
noncomputable def two (l:Int×Int):ag:=[l.1,l.2]
noncomputable def nC (r:ag):Int×Int:=(r.getD 0 0,r.getD 1 0)
theorem zJ (ls:aa):bC ls=(ls.map two).map λr=>PV.tup (intz r):=by
 unfold bC;rw[aO6];rfl
theorem ao4 {zs:af}{ls:aa}(h:zs.Perm (ls.map two)):∃ls':aa,zs=ls'.map two/\ls'.Perm ls:=by
 refine⟨zs.map nC,?_,?_⟩
 ·rw[aO6]
  have:∀z∈zs,(two ∘ nC) z=z:=λz hz=>by
   obtain⟨l,_,rfl⟩:=aJ2.mp (h.mem_iff.mp hz)
   rfl
  rw[aP3 this,List.map_id']
 ·have:=h.map nC
  rw[aO6]at this;have e:ls.map (nC ∘ two)=ls:=by
   have:∀l∈ls,(nC ∘ two) l=id l:=λl _=>rfl
   rw[aP3 this,aS4]
  rw[e]at this;exact this
theorem ao5 {ls:aa}(so:(ls.map two).Pairwise λu v=>HT.b7 v u=false)(nd:ls.Nodup):ls.Pairwise cW:=by
 rw[List.pairwise_map]at so;refine (List.pairwise_and_iff.mpr ⟨so,nd⟩).imp λ{a b} h=>?_
 obtain⟨h1,h2⟩:=h
 unfold two at h1;rw[HT.i7]at h1;unfold cW;by_cases e:b.1=a.1
 ·rw[if_pos e,HT.i7]at h1
  by_cases e2:b.2=a.2
  ·exact absurd (Prod.ext e.symm e2.symm) h2
  ·rw[if_neg e2]at h1
   have:=of_decide_eq_false h1
   omega
 ·rw[if_neg e]at h1
  have:=of_decide_eq_false h1
  omega
theorem zK (ws:ag)(ls:aa):flats [.tup (intz ws),.tup (bC ls)]=true:=z9 ws ls
noncomputable def zL:aM:=(aH (iD 3 (dA a9))
 (aH (dX (gR (a5 1)) (bX 4)
  (aH (aW 5 (aF gY (a7 (a5 0) (a7 (a5 4) a9))))
  (jY 3 (bH (dA (a7 (b6 (c9 (a5 5) (qC (.int 5))) (qC (.int 4))) (a7 (b6 (c9 (a5 5) (qC (.int 5))) (qC (.int 3))) (a7 (b6 (c9 (a5 5) (qC (.int 5))) (qC (.int 6))) (a7 (b6 (c9 (a5 5) (qC (.int 5))) (qC (.int 61))) a9))))) (b6 (a5 2) (qC (.int 4)))))))
 (aH (iD 6 (qC (.dT [])))
 (aH (dX (gP (a5 0)) (bX 5)
  (bA (aJ (iI (a5 1) (qC (.int 1)))) (aH (aW 7 (b6 (a5 5) (a5 1)))
   (aH (aW 8 (b6 (c9 (b6 (j7 (b6 (a5 5) (qC (.int 1000000007))) (qC (.int 48271))) (qC (.int 2147483647))) (qC (.int 89))) (a5 1)))
   (bA (aJ (fM (a5 7) (a5 8))) (sV 6 (gB (a7 (aF sO (a7 (a5 7) (a7 (a5 8) a9))) (a7 (aF sP (a7 (a5 7) (a7 (a5 8) a9))) a9))) (qC (.bl true))) bE))) bE))
 (aY (gB (a7 (aF iJ (a7 (a5 3) a9)) (a7 (aF iJ (a7 (aF tF (a7 (aF tG (a7 (a5 6) a9)) a9)) a9)) a9))))))))
theorem ao6 {a b c d:PV}{i:Int}(h0:0<=i)(h1:i<4):∃z,atI [a,b,c,d] i=some z/\(z=a∨z=b∨z=c∨z=d):=by
 have:i=0∨i=1∨i=2∨i=3:=by omega
 rcases this with rfl|rfl|rfl|rfl
 ·exact⟨a,rfl,.inl rfl⟩
 ·exact⟨b,rfl,.inr (.inl rfl)⟩
 ·exact⟨c,rfl,.inr (.inr (.inl rfl))⟩
 ·exact⟨d,rfl,.inr (.inr (.inr rfl))⟩
theorem zM {a b c d:Int}{i:Int}(h0:0<=i)(h1:i<4):∃z:Int,atI [PV.int a,PV.int b,PV.int c,PV.int d] i=some (.int z)/\(z=a∨z=b∨z=c∨z=d):=by
 obtain⟨z,h,e⟩:=ao6 (a:=PV.int a) (b:=PV.int b) (c:=PV.int c) (d:=PV.int d) h0 h1
 rcases e with rfl|rfl|rfl|rfl
 ·exact⟨a,h,.inl rfl⟩
 ·exact⟨b,h,.inr (.inl rfl)⟩
 ·exact⟨c,h,.inr (.inr (.inl rfl))⟩
 ·exact⟨d,h,.inr (.inr (.inr rfl))⟩
noncomputable def kF (l:Int×Int):List aN:=[Sum.inl l.1,Sum.inl l.2]
structure DL (n:Int)(ps:List (List aN×PV))(i:Nat):Prop where
 key:∀p∈ps,∃l:Int×Int,p.1=kF l/\0<=l.1/\l.1<l.2/\l.2<n
 len:ps.length<=i
 fl:flats (ps.map (·.2))=true
 nd:(ps.map (·.1)).Nodup
theorem ao7 {κ:Type}[DecidableEq κ]{ps:List (κ×PV)}(k:κ)(v:PV)(h:(ps.map (·.1)).Nodup):((eR ps k v).map (·.1)).Nodup:=by
 unfold eR;split
 ·rw[aO6]
  have:((λx:κ×PV=>x.1) ∘ λkv:κ×PV=>if kv.1=k then (kv.1,v) else kv)=λx=>x.1:=by
   funext x
   show (if x.1=k then (x.1,v) else x).1=x.1;split<;>rfl
  rw[this];exact h
 ·rename_i hn
  rw[aK6];refine List.nodup_append.mpr ⟨h,List.pairwise_singleton _ _,λx hx y hy e=>hn ?_⟩
  obtain⟨p,hp,rfl⟩:=aJ2.mp hx
  rw[aI2.mp hy]at e;exact List.any_eq_true.mpr ⟨p,hp,aH3 e⟩
theorem ao8 {κ:Type}[DecidableEq κ]{ps:List (κ×PV)}{k:κ}{v:PV}{p:κ×PV}(h:p∈eR ps k v):p.1=k∨∃q∈ps,q.1=p.1:=by
 unfold eR at h;split at h
 ·obtain⟨q,hq,e⟩:=aJ2.mp h
  split at e
  ·subst e;exact .inr ⟨q,hq,rfl⟩
  ·subst e;exact .inr ⟨q,hq,rfl⟩
 ·rcases aL2.mp h with h|h
  ·exact .inr ⟨p,h,rfl⟩
  ·rw[aI2.mp h];exact .inl rfl
theorem DL.put {n:Int}{ps:List (List aN×PV)}{i:Nat}(h:DL n ps i)(l:Int×Int)(hl:0<=l.1/\l.1<l.2/\l.2<n):DL n (eR ps (kF l) (.bl true)) (i+1):=by
 refine⟨λp hp=>?_,?_,an2 h.fl rfl,ao7 _ _ h.nd⟩
 ·rcases ao8 hp with e|⟨q,hq,e⟩
  ·exact⟨l,e,hl⟩
  ·obtain⟨l',e',h'⟩:=h.key q hq
   exact⟨l',e▸e',h'⟩
 ·have:=an0 ps (kF l) (.bl true)
  have:=h.len
  omega
theorem DL.links {n:Int}:∀{ps:List (List aN×PV)},(∀p∈ps,∃l:Int×Int,p.1=kF l/\0<=l.1/\l.1<l.2/\l.2<n)->∃ls:aa,(ps.map λp=>PV.tup (p.1.map kP))=bC ls/\(∀l∈ls,0<=l.1/\l.1<l.2/\l.2<n)/\ls.length=ps.length/\ps.map (·.1)=ls.map kF
 |[],_=>⟨[],rfl,(λ_ h=>nomatch h),rfl,rfl⟩
 |p::ps,h=>by
  obtain⟨l,e,hl⟩:=h p aH6
  obtain⟨ls,h1,h2,h3,h4⟩:=DL.links (ps:=ps) λq hq=>h q (aI0 _ hq)
  refine⟨l::ls,?_,λm hm=>?_,by rw[aJ1,aJ1,h3],by rw[aK5,aK5,h4,e]⟩
  ·rw[aK5,h1,e];rfl
  ·rcases aI1.mp hm with rfl|hm
   ·exact hl
   ·exact h2 m hm
theorem ao9 {x:PV}{ns:ag}(h:iN x ns):(Slot.sh (flat x) x).tag = .rd->flat x=true:=by
 cases flat x<;>intro z<;>cases z
theorem ap0 (ns:ag){k:Int}(h:0<=k):iH (intz ns) (some k) none=intz (ns.drop k.toNat):=by
 unfold iH;have e1:HT.aV (intz ns).length 0 (some k)=min k.toNat (intz ns).length:=by
  have:=HT.W7 (intz ns).length 0 k.toNat
  rw[show ((k.toNat:Nat):Int)=k by omega]at this;exact this
 have e2:HT.aV (intz ns).length (intz ns).length none=(intz ns).length:=rfl;rw[e1,e2,dJ];rw[aL6 (by rw[aL7,dJ];omega)];show _=List.map PV.int _;rw[List.map_drop];by_cases hk:k.toNat<=ns.length
 ·rw[Nat.min_eq_left hk]
 ·rw[Nat.min_eq_right (by omega),List.drop_of_length_le (by rw[dJ];omega),List.drop_of_length_le (by rw[dJ];omega)]
noncomputable def zN:bW:=λxs Q=>∃ns:ag,xs = [.scr ns]/\ns.length<=63/\Q (.bl true)
structure ap1 (K:ae):Prop where
 ii:PySem.W.kitOne K (.type "int") (.type "int")=some true
 ib:PySem.W.kitOne K (.type "int") (.type "bool")=some false
 tt:PySem.W.kitOne K (.type "tuple") (.type "tuple")=some true
 ll:PySem.W.kitOne K (.type "list") (.type "list")=some true
 bb:PySem.W.kitOne K (.type "bool") (.type "bool")=some true
theorem pG (K:ae):ap1 K:=by
 have same:∀n:String,PySem.W.kitMeta n=true->True:=λ_ _=>trivial
 refine⟨?_,?_,?_,?_,?_⟩
 ·unfold PySem.W.kitOne;rw[if_pos (by decide)]
 ·have e:(if PySem.W.kitMeta "bool" = true then (fastBuiltinMro "int").map (·.contains (Value.type "bool")) else none)=some false:=by decide +kernel
  unfold PySem.W.kitOne;rw[if_neg (by decide)];exact e
 ·unfold PySem.W.kitOne;rw[if_pos (by decide)]
 ·unfold PySem.W.kitOne;rw[if_pos (by decide)]
 ·unfold PySem.W.kitOne;rw[if_pos (by decide)]
end Core
namespace PP
open PySem L2 PyProof.Rows
theorem ap2 {P:ay}{w:bf}{K:ae}{mg:Str->Option ar}{base:Heap}{k:Nat}{x:Str}{ps N:List Str}{p:bW}{st:Stmt}{f:ax}{fd:FuncData}(F:dW K x x st f fd)(S:FnScope N ps (aT st))(len:∀xs Q,p xs Q->xs.length=ps.length)(body:∀(cdv:ar) (A:ba) (outer:List Env) (s:aw) (H:Hp) (E:XK),bS k (A.deeper (envOfC x (aT st) s.heap.objs.size f cdv))->
   ∃t,cT (c7 eD P w K mg base N x (aT st) f cdv A outer s H E).nox (cR st) t/\∀xs Q,p xs Q->t { nx:=λ_=>Q .non,rt:=Q } (dB N xs)):cZ P w K mg base eD (k+1) f fd ps (mQ K p):=by
 refine F.ok S (λvs H Q E h=>?_) (λcdv A outer s H vs Q E hr h=>?_)
 ·obtain⟨xs,Qp,r,q,_⟩:=h
  rw[r.length];exact len xs Qp q
 ·obtain⟨xs,Qp,r,q,k⟩:=h
  obtain⟨t,ht,hq⟩:=body cdv A outer s H E hr
  refine⟨_,ht,λ_=>False,dB N xs,_,pC r,hq xs Qp q,?_,?_,?_,?_⟩
  ·exact λW' σ' H' ρ' e px q=>k _ _ _ px.same .non q
  ·exact λv H' x s r q=>k _ _ _ s r q
  ·exact λW' σ' H' ρ' e px q=>q
  ·exact λW' σ' H' ρ' e px q=>q
noncomputable def pH (K:ae):Sp:=λvs H Q _=>∃(a:ax) (ns:ag),vs = [.ref a]/\iC K H a ns/\ns.length<=63/\∀H',Q (.bl true) H'
theorem ap3 {P:ay}{w:bf}{K:ae}{mg:Str->Option ar}{base:Heap}{k:Nat}{f:ax}{fd:FuncData}(F:cZ P w K mg base eD k f fd ["script"] (mQ K Core.zN)):cZ P w K mg base eD k f fd ["script"] (pH K):=
 F.imp λvs H Q E h=>by
  obtain⟨a,ns,rfl,hs,hl,q⟩:=h
  refine⟨[.scr ns],λz=>z = .bl true,.cons (.scr hs) .nil,⟨ns,rfl,hl,rfl⟩,?_⟩;rintro v H' x _ r rfl;cases r;exact q H'
theorem ap4 {K:ae}{H:Hp}{a:ax}{ns:ag}(hO:oF H)(h:aS K H a (ns.map V.int)):iC K H a ns:=by
 rcases h with (h|⟨o,h⟩)|h
 ·rcases hO a with e|⟨o,xs,e⟩<;>(rw[h]at e;cases e)
 ·exact .inl ⟨o,h⟩
 ·exact .inr h
end PP
namespace PyProof.Rows
open PySem
end PyProof.Rows
namespace PP
open PySem L2 PyProof.Rows
section
variable {X:Cx}{e:Expr}{te:aE}{pos p2:Pos}{scope:Scope}{N:List Str}{fr:List (Option Nat)}{x y:Str}{tp xp yp:Pos}{kt:Nat}{iter elt:Expr}{ti:dN}
noncomputable abbrev tI (x y:Str)(xp yp:Pos)(kt:Nat)(tp:Pos):Expr:=.Tuple [.Name x xp,.Name y yp] kt tp
theorem ap5 {ifs:List Expr}{tcs:cD}(hc:X.calm=true)(he:∀(s:aw) (H:Hp) (C:ax) (fp:List ax),QE (bG X scope N s H C fp cV) elt te)(hi:∀(s:aw) (H:Hp) (C:ax) (fp:List ax),j3 (bG X scope N s H C fp cV) ifs (LT (bG X scope N s H C fp cV) tcs))(hN:N.Nodup)(h0:N[0]? = some x)(h1:N[1]? = some y)(hl:∀(s:aw) (H:Hp) (C:ax) (fp:List ax),(bG X scope N s H C fp cV).env.scope.names.lookup x=some .local)(hl2:∀(s:aw) (H:Hp) (C:ax) (fp:List ax),(bG X scope N s H C fp cV).env.scope.names.lookup y=some .local)(s:aw)(H:Hp) :
  mI X scope N (tI x y xp yp kt tp) ifs elt s H (o8 X.K 2 (jS (dE 0) (jS (dE 1) o7))) (LT (X.frm H) tcs) (LE (X.frm H) te):=
 ⟨λC fp=>S6 (X:=bG X scope N s H C fp cV) hc (v3 (kZ hN h0 (.inl (hl s H C fp)) (.inr (hl s H C fp))) (v3 (kZ hN h1 (.inl (hl2 s H C fp)) (.inr (hl2 s H C fp))) S5)),λC fp=>hi s H C fp,λC fp=>he s H C fp⟩
theorem zO (hi:QI X (tI x y xp yp kt tp) iter ti)(he:∀(s:aw) (H:Hp) (C:ax) (fp:List ax),QE (bG X scope N s H C fp cV) elt te)(hc:X.calm=true:=by rfl)(S:cQ X scope N fr:=by exact cQ.of rfl rfl)(hN:N.Nodup:=by decide +kernel)(h0:N[0]? = some x:=by rfl)(h1:N[1]? = some y:=by rfl)(hl:∀(s:aw) (H:Hp) (C:ax) (fp:List ax),(bG X scope N s H C fp cV).env.scope.names.lookup x=some .local:=by intro _ _ _ _;rfl)(hl2:∀(s:aw) (H:Hp) (C:ax) (fp:List ax),(bG X scope N s H C fp cV).env.scope.names.lookup y=some .local:=by intro _ _ _ _;rfl)(hf:fr[0]? = some none:=by rfl)(hf2:fr[1]? = some none:=by rfl)(hs:∀x,foldedSetIterable iter X.env x=pure x:=by intro _;rfl):QE X (.ListComp elt [⟨tI x y xp yp kt tp,iter,[],0⟩] scope pos) (dO ti fr (mT 0 1) cL te):=
 bP (x9 (gh:=λ_=>o8 X.K 2 (jS (dE 0) (jS (dE 1) o7))) (tch:=λH=>LT (X.frm H) cL) (teh:=λH=>LE (X.frm H) te) hc S hi (ap5 hc he (λ_ _ _ _=>mX) hN h0 h1 hl hl2) hs) λ_ _ _=>p7 (ai3 _ 0 1) (λi e=>by rcases e with e|e<;>(subst e;assumption))
end
section
variable {X:Cx}{a b e o f:Expr}{ta tb te td tk tx:aE}{pos p2 ai aj:Pos}{σ:L2.St}{H:Hp}{Q':VK}
theorem tJ {x:Str}{n:Int}{t:Nat}(hg:Gl X x)(hm:X.mg x=some (.int n t))(hd:(x==("__debug__":Str))=false:=by decide):QE X (.Name x pos) (qC (.int n)):=
 bP (qP (v:=.int n) hg hm ⟨t,rfl⟩ hd) λ_ _ _=>lE λ_=>.int n
end
end PP
namespace Core
open PySem L2 PP
section
variable (ws:ag)(ls:aa)(os ns:ag)
noncomputable def kG:Nat->ag
 |0=>[]
 |k+1=>kG k++(os.find? (kin ws ls (ns++kG k))).toList
noncomputable def tK (k:Nat):Option Int:=os.find? (kin ws ls (ns++kG ws ls os ns k))
end
section
variable {ws:ag}{ls:aa}{os ns:ag}
theorem aG6 {k:Nat}{h:Int}(e:tK ws ls os ns k=some h):kG ws ls os ns (k+1)=kG ws ls os ns k++[h]:=by
 show kG ws ls os ns k++(tK ws ls os ns k).toList=_;rw[e];rfl
noncomputable def ap6 (ws:ag)(ls:aa)(T:ag):Prop:=∀h∈rng ws.length,kin ws ls T h=false
theorem aG7 {k:Nat}{h:Int}(e:tK ws ls os ns k=some h):h∈os/\h∉ns++kG ws ls os ns k:=
 ⟨List.mem_of_find?_eq_some e,of_decide_eq_false (am9 (List.find?_some e))⟩
end
noncomputable def dQ:Option Int->PV
 |none=>.non
 |some h=>.int h
theorem tM {i:Nat}{h:Int}{g:Bool}{ρ:bD}{Q:bD->Prop}(q:Q (ρ.set i (some (.sh true (.int h))))):bX i (.int h) g ρ Q:=by
 show Q (ρ.set i (some (.sh (g||true) (.int h))));rw[Bool.or_true];exact q
noncomputable def ap7 (ns S:ag):Int:=(ns.length:Int)-(((ns.filter λx=>decide (x∈S)).length:Nat):Int)
noncomputable def ap8 (ws:ag)(ls:aa)(S:ag)(h:Int):Bool:=decide (ap7 (xM ls h) S<ws.getD h.toNat 0)
noncomputable def stay (ws:ag)(ls:aa)(S:ag):ag:=S.filter (ap8 ws ls S)
end Core
namespace PP
open PySem L2 PyProof.Rows
noncomputable def gZ (xs ys:List PV):List PV:=List.zipWith (λx y=>PV.tup [x,y]) xs ys
theorem tN (xs ys:List PV):(gZ xs ys).length=min xs.length ys.length:=by unfold gZ;rw[List.length_zipWith]
theorem zP {xs ys:List PV}{i:Nat}{x y:PV}(h:xs[i]? = some x)(h':ys[i]? = some y):(gZ xs ys)[i]? = some (.tup [x,y]):=by
 unfold gZ;rw[List.getElem?_zipWith,h,h']
theorem ap9 {xs ys:List PV}{i:Nat}{z:PV}(h:(gZ xs ys)[i]? = some z):∃x y,xs[i]? = some x/\ys[i]? = some y/\z = .tup [x,y]:=by
 unfold gZ at h;rw[List.getElem?_zipWith]at h;cases e:xs[i]? with
 |none=>rw[e]at h;cases h
 |some x=>
  cases e':ys[i]? with
  |none=>rw[e,e']at h;cases h
  |some y=>rw[e,e']at h;exact⟨x,y,rfl,rfl,(aI7 h).symm⟩
theorem aq0 {K:ae}{H0:Hp}{W:ax->Prop}{g:Bool}{H1:Hp}{a b:ax}{us vs:List V}{xs ys:List PV}(tw:∀a,W a->∃o,H1 a=some o/\eF o=true)(ha:∀W' H',Ev W H1 W' H'->aU K H' a us)(hb:∀W' H',Ev W H1 W' H'->aU K H' b vs)(r:Reps K (Ms H0 W g) H1 us xs)(r':Reps K (Ms H0 W g) H1 vs ys):lH K H0 W g H1 (sB K a b) (gZ xs ys):=by
 have lr:=r.length;have lr':=r'.length;have ll:=tN xs ys;refine⟨λW' H' i e hi=>⟨us,vs,us[i]'(by omega),vs[i]'(by omega),ha W' H' e,hb W' H' e,by simp,by simp⟩,λW' H' i v H2 e y hi=>?_,λW' H' e=>⟨us,vs,ha W' H' e,hb W' H' e,by omega⟩⟩
 obtain⟨T,x,y',hT,rfl,rfl,y⟩:=y
 obtain⟨h1,h2⟩:=y us vs (ha W' _ e) (hb W' _ e)
 obtain⟨z,hz,rz⟩:=r.get h1
 obtain⟨z',hz',rz'⟩:=r'.get h2
 have sm:=bY hT (HO.tup [x,y'])
 exact⟨sm,_,zP hz hz',.tup cA (.cons ((rz.keep (e.keep tw)).same sm λ_ q=>q) (.cons ((rz'.keep (e.keep tw)).same sm λ_ q=>q) .nil))⟩
end PP
namespace Core
open PySem L2 PP
section
variable {ws:ag}{ls:aa}{ns wts:ag}{m:Nat}
noncomputable def loose (ls:aa)(wts ns:ag):List ((Int×Int)×Int):=(ls.zip wts).filter λz=>!(decide (z.1.1∈ns)&&decide (z.1.2∈ns))
end
end Core
namespace PP
open PySem L2 PyProof.Rows
section
variable {X:Cx}{a b e:Expr}{ta tb te:aE}{pos p2:Pos}
noncomputable def pI (neg:Bool):PV->Tg->PV->Tg->PK->Prop:=λx _ y _ Q=>∃os:List (Option Int),x = .non/\y = .lst (os.map Core.dQ)/\Q (.bl (if neg=true then !decide (none∈os) else decide (none∈os))) .fr
noncomputable def tO:Option Int->V
 |none=>.non
 |some v=>.int v
theorem Reps.ofOpts {K:ae}{M:ax->Prop}{H:Hp}:∀{os:List (Option Int)}{us:List V},Reps K M H us (os.map Core.dQ)->us=os.map tO
 |[],_,.nil=>rfl
 |none::r,_,.cons q t=>by cases q;rw[Reps.ofOpts t];rfl
 |some v::r,_,.cons q t=>by cases q;rw[Reps.ofOpts t];rfl
theorem tP:∀os:List (Option Int),(os.map tO).all gK=true
 |[]=>rfl
 |none::r=>by rw[aK5,aR1,tP r];rfl
 |some v::r=>by rw[aK5,aR1,tP r];rfl
theorem zQ:∀os:List (Option Int),iZ .non (os.map tO)=decide (none∈os)
 |[]=>rfl
 |none::r=>by
  unfold iZ;rw[aK5,aP7,aH3 aH6];rfl
 |some v::r=>by
  have ih:=zQ r;unfold iZ at ih ⊢;rw[aK5,aP7,ih];show (false||decide (none∈r))=_;rw[Bool.false_or,decide_eq_decide];simp
theorem aq1 (neg:Bool):cI X (pI neg) (oD X.K neg):=by
 rintro W Hs H u v x y g g' Q Q' s n r1 r2 ⟨os,rfl,rfl,q⟩ k;cases r1
 obtain⟨a,us,rfl,_,h,r⟩:=r2.sqL
 obtain rfl:=Reps.ofOpts r;refine⟨a,_,rfl,.inl (aS.of h),rfl,tP os,?_⟩
 have:=k _ _ _ .fr (aD.refl _) (.bl _) q
 rw[zQ];cases neg<;>exact this
theorem zR (ha:QE X a ta)(hb:QE X b tb)(hm:behindInMarks .In b=false:=by rfl):QT X (.Compare a [.In] [b] pos) (aJ (q2 (pI false) ta tb)):=fE Z0 (aq1 false) ha hb hm
end
noncomputable abbrev dZ:=(Str->Prop)->bW
noncomputable def EX (K:ae)(H0:Hp)(Ep:Str->Prop):XK:=λc d H'=>d=none/\aD H0 H'/\∃n C,c = .ref C/\PySem.W.nsIn K mainGlobals n=some (some (.ref C))/\Ep n
noncomputable def zS (K:ae)(p:dZ):Sp:=λvs H Q E=>∃xs Qp Ep,Reps K (λ_=>True) H vs xs/\p Ep xs Qp/\(∀v H' x,aD H H'->aG K (λa=>H a=none) H' v x->Qp x->Q v H')/\
 ∀n C H',aD H H'->PySem.W.nsIn K mainGlobals n=some (some (.ref C))->Ep n->E (.ref C) none H'
structure cJ (P:ay)(w:bf)(K:ae)(mg:Str->Option ar)(base:Heap)(k:Nat)(x:Str)(ps:List Str)(p:dZ):Prop where
 ex:∃f fd,cZ P w K mg base (cB P w) k f fd ps (zS K p)/\iY K fd ps []/\PySem.W.keepIn K (.ref f)=true/\mg x=some (.ref f)
section
variable {X:Cx}{σ:L2.St}{H:Hp}{D:cP}{tr:bN}{Q':VK}{a b c e:Expr}{es:List Expr}{pos p2 cp np hp:Pos}{t:aM}{te:aE}{tc:cD}
noncomputable def jJ (Ep:Str->Prop)(p:dZ)(t:bN):aE:=aF (p Ep) t
theorem zT {p:dZ}{Ep:Str->Prop}(h:LE X (jJ Ep p tr) σ H Q'):rB (zS X.K p) [] (EX X.K X.H₀ Ep) (LA X tr) σ H Q':=by
 obtain⟨W,ρ,Q,px,q,k⟩:=h
 refine⟨W,ρ,_,px,q,λvs H1 xs s1 r1 q1=>⟨_,_,Ep,by rw[List.append_nil];exact r1.any,q1,λv H' x s2 r2 q2=>k v H' x .fr (s1.trans s2) (r2.same (aD.refl _) λ_ z=>s1.free z) q2,λn C H' s2 z1 z2=>⟨rfl,(px.same.trans s1).trans s2,n,C,rfl,z1,z2⟩⟩⟩
theorem tQ {Ep:Str->Prop}{k j:Nat}{x:Str}{ps:List Str}{p:dZ}(hX:kD X (EX X.K X.H₀ Ep))(d:cJ X.prog X.w X.K X.mg X.base k x ps p)(hr:bS j X.A)(ha:QA X (e::es) tr)(hkj:k<=j:=by decide)(hg:Gl X x:=by rfl)(hdb:(x==("__debug__":Str))=false:=by decide)(he:starEach (e::es) X.env=(false,eval e X.env)::starEach es X.env:=by rfl)(hpl:(backTo pos (starEach es X.env)).any (·.1)=false:=by rfl):QE X (.Call (.Name x p2) (e::es) [] pos) (jJ Ep p tr):=by
 obtain⟨f,fd,F,b,kp,m⟩:=d.ex
 exact bP (rC F (hr.mono hkj) hg m kp b .nil hX.pass ha hdb he hpl) λ_ _ _=>zT
noncomputable def iO (Ep:Str->Prop)(n:Str)(t:bN):aM:=λ_ ρ=>t ρ λxs=>xs.length<=1000/\Ep n
theorem aq2 {Ep:Str->Prop}{n:Str}{C:ax}(hn:PySem.W.nsIn X.K mainGlobals n=some (some (.ref C)))(h:LS X (iO Ep n tr) D σ H):yV (EX X.K X.H₀ Ep) C (LA X tr) D σ H:=by
 obtain⟨W,ρ,D',px,q,k⟩:=h
 exact⟨W,ρ,_,px,q,λvs H1 xs s1 r z=>⟨by rw[r.length];exact oY z.1,rfl,px.same.trans s1,n,C,rfl,hn,z.2⟩⟩
structure Xc (K:ae)(mg:Str->Option ar)(base:Heap)(n:Str):Prop where
 ex:∃C B newId initId bm,OwnCls n C bm newId mg base/\ExcBaseFacts B newId initId bm/\PySem.W.nsIn K mainGlobals n=some (some (.ref C))
theorem kH {Ep:Str->Prop}{n:Str}(hX:kD X (EX X.K X.H₀ Ep))(x:Xc X.K X.mg X.base n)(ha:QA X (e::es) tr)(hc:X.calm=true:=by rfl)(hg:Gl X n:=by rfl)(hd:(n==("__debug__":Str))=false:=by decide)(he:starEach (e::es) X.env=(false,eval e X.env)::starEach es X.env:=by rfl)(hpl:(backTo cp (starEach es X.env)).any (·.1)=false:=by rfl):QS X (.Raise (some (.Call (.Name n np) (e::es) [] cp)) none pos) (iO Ep n tr):=by
 obtain⟨C,B,newId,initId,bm,O,FB,hn⟩:=x.ex
 exact eG (al7 hX hc O FB ha hg hd he hpl) λ_ _ _=>aq2 hn
noncomputable abbrev lQ:=j5->(Str->Prop)->bD->Prop
noncomputable def LB (X:Cx)(t:lQ):TB:=λD Ex σ H=>∃(W:ax->Prop) (ρ:bD) (D':j5) (Ep:Str->Prop),PX X.K X.H₀ W σ ρ H/\t D' Ep ρ/\mL X W H D' D/\∀n C H',aD H H'->PySem.W.nsIn X.K mainGlobals n=some (some (.ref C))->Ep n->Ex (.ref C) none H'
noncomputable def QB (X:Cx)(sts:List Stmt)(t:lQ):Prop:=PB X sts (LB X t)
theorem pbI {sts:List Stmt}{t t':TB}(h:PB X sts t)(m:∀D Ex σ H,t' D Ex σ H->t D Ex σ H):PB X sts t':=λah s σ H D Ex I q=>h ah s σ H D Ex I (m D Ex σ H q)
noncomputable def zU (D:j5)(i:Nat):j5:={ nx:=λρ=>D.nx (ρ.set i none),rt:=D.rt,bk:=λρ=>D.bk (ρ.set i none),ct:=λρ=>D.ct (ρ.set i none) }
noncomputable def lR:List Str:=["BadWeb","BadSet","BadOrder","BadPrices","BadBoard","BadDeed","NotWood","NoPaper","NoSuch","TooMany","NoText","OddRound"]
noncomputable def kI (n m:Str):Option Bool:=if lR.contains n then some (n==m||m=="HearthError"||m=="ValueError") else none
noncomputable def tR (m:Str)(i:Nat)(tb:lQ)(ts:aM):aM:=λD ρ=>tb D (λn=>kI n m=some true/\ts (zU D i) (ρ.set i (some (.sh true (.exc n))))) ρ
theorem aq3 {m:Str}{Ch:ax}{i:Nat}{tb:lQ}{ts:aM}(hs:∀n C,kI n m=some true->PySem.W.nsIn X.K mainGlobals n=some (some (.ref C))->PySem.W.subIn X.K (.ref C) (.ref Ch)=some true)(h:LS X (tR m i tb ts) D σ H):yX X.K Ch i (LB X tb) (LS X ts) D σ H:=by
 obtain⟨W,ρ,D',px,q,k⟩:=h
 refine⟨W,ρ,D',_,px,q,k,λn C H' s z1 z2 a C' oe hc na hcl=>?_⟩;cases hc;refine⟨hs n C z2.1 z1,W,_,zU D' i,(px.mono (s.trans (bY na _))).setSh (g:=true) (.exc cA z1 hcl),z2.2,?_⟩;have k':=k.step (Ev.same (W:=W) (s.trans (bY na (.frz oe (.own a)))))
 exact⟨λW' σ' H2 ρ' ev px' q'=>k'.nx W' _ H2 _ ev px'.setNone q',k'.rt,λW' σ' H2 ρ' ev px' q'=>k'.bk W' _ H2 _ ev px'.setNone q',λW' σ' H2 ρ' ev px' q'=>k'.ct W' _ H2 _ ev px'.setNone q'⟩
structure tS (K:ae)(mg:Str->Option ar)(m:Str):Prop where
 ex:∃Ch,mg m=some (.ref Ch)/\tE K Ch/\∀n C,kI n m=some true->PySem.W.nsIn K mainGlobals n=some (some (.ref C))->PySem.W.subIn K (.ref C) (.ref Ch)=some true
theorem aq4 (i:Nat){m n:Str}{b₀:Stmt}{suite body:List Stmt}{tb:lQ}{ts:aM}(ct:tS X.K X.mg m)(hN:X.N.Nodup)(hb:QB X body tb)(hs:∀a,cT (X.suite a) (b₀::suite) ts)(hstk:X.stack=X.env::X.outer/\X.env.frame=some X.env.locals:=by exact⟨rfl,rfl⟩)(hi:X.N[i]? = some n:=by rfl)(hl:X.env.scope.names.lookup n=some .local:=by rfl)(hg:Gl X m:=by rfl)(hd:(m==("__debug__":Str))=false:=by decide):QS X (.Try body [.ExceptHandler (some (.Name m np)) (some n) (b₀::suite) hp] [] [] pos) (tR m i tb ts):=by
 obtain⟨Ch,hm,c,sub⟩:=ct.ex
 exact eG (am0 (ts:=LS X ts) hstk hb hg hm c hN hi hl (λa=>t0 (hs a) λ_ _ _ ⟨W,ρ,D',px,q,k⟩=>⟨W,ρ,D',px,q,⟨k.nx,k.rt,k.bk,k.ct⟩⟩) hd) λ_ _ _=>aq3 sub
noncomputable def g6:V->ar
 |.ref a=>.ref a
 |.ty n=>.type n
 |_=>.none
noncomputable def aq5 (K:ae):List V->Hp->VK->Prop:=λxs H Q=>∃v v2 b,xs = [v,v2]/\g6 v2≠.none/\((∃a o C,v = .ref a/\H a=some (.frz o (.own a))/\o.cls = .ref C/\gV K C/\PySem.W.kitOne K (.ref C) (g6 v2)=some b)∨(v = .non/\PySem.W.kitOne K (.type "NoneType") (g6 v2)=some b))/\Q (.bl b) H
theorem aq6:cH X (.builtin "isinstance") (aq5 X.K):=by
 intro ah s σ H xs us Q I r h
 obtain⟨v,v2,b,rfl,hv,hk,q⟩:=h
 obtain⟨u,u',rfl,ru,ru'⟩:=mC r
 obtain rfl:u'=g6 v2:=by
  cases v2<;>first|exact ru'|exact absurd rfl hv
 rcases hk with⟨a,o,C,rfl,hH,hc,F,e⟩|⟨rfl,e⟩
 ·obtain⟨h1,_⟩:=I.hok a _ hH
  cases (show u=Value.ref a from ru);exact aM3 (am7 F) I.kIn ⟨o,h1,hc⟩ e (λz=>nomatch z) λtk=>⟨.bl b,H,I.tok tk,rfl,q⟩
 ·cases (show u=Value.none from ru)
  exact aM3 PySem.W.kitx_none I.kIn trivial e (λz=>nomatch z) λtk=>⟨.bl b,H,I.tok tk,rfl,q⟩
noncomputable def aq7 (m:Str):PV->Option Bool
 |.exc n=>kI n m
 |.non=>some false
 |_=>none
noncomputable def lT (m:Str)(te:aE):aE:=λρ Q=>te ρ λx _=>∃b,aq7 m x=some b/\Q (.bl b) .fr
structure tT (K:ae)(m:Str)(v2:V):Prop where
 nn:g6 v2≠.none
 ex:∀n C b,PySem.W.nsIn K mainGlobals n=some (some (.ref C))->kI n m=some b->gV K C/\PySem.W.kitOne K (.ref C) (g6 v2)=some b
 no:PySem.W.kitOne K (.type "NoneType") (g6 v2)=some false
theorem zV {x:Str}{v2:V}{px:Pos}(B:Bt X.mg)(A:tT X.K x v2)(hx:PE X (.Name x px) (tC v2))(ha:QE X a te)(hg:Gl X "isinstance":=by rfl)(he:starEach [a,.Name x px] X.env=(false,eval a X.env)::starEach [.Name x px] X.env:=by rfl)(he2:starEach [.Name x px] X.env=(false,eval (.Name x px) X.env)::starEach [] X.env:=by rfl)(hpl:(backTo pos (starEach [.Name x px] X.env)).any (·.1)=false:=by rfl):QE X (.Call (.Name "isinstance" p2) [a,.Name x px] [] pos) (lT x te):=
 bP (rE aq6 hg B.isinst PyProof.Rows.boot_isinstance (e9 ha (e9 hx gJ he2) he) (he:=he) (hpl:=hpl)) λσ H Q' h=>by
  obtain⟨W,ρ,Q,px,q,k⟩:=h
  refine⟨W,ρ,_,px,q,?_⟩;rintro v H1 y g s r ⟨b,e,q⟩;refine⟨v,v2,b,rfl,A.nn,?_,k _ _ _ .fr s (.bl _) q⟩;cases r with
  |exc h z c=>
   obtain⟨F,kt⟩:=A.ex _ _ _ z e
   exact .inl ⟨_,_,_,rfl,h,c,F,kt⟩
  |non=>cases e;exact .inr ⟨rfl,A.no⟩
  |_=>cases e
end
section
variable {X:Cx}{a:Expr}{pos p2 px:Pos}{te:aE}
structure nD (K:ae)(mg:Str->Option ar)(m:Str):Prop where
 ex:∃C,mg m=some (.ref C)/\tT K m (.ref C)
structure tU (K:ae)(mg:Str->Option ar):Prop where
 mg:mg "ValueError" = none
 is:tT K "ValueError" (.ty "ValueError")
theorem zW {x:Str}(B:Bt X.mg)(A:nD X.K X.mg x)(ha:QE X a te)(hgx:Gl X x:=by rfl)(hdx:(x==("__debug__":Str))=false:=by decide)(hg:Gl X "isinstance":=by rfl)(he:starEach [a,.Name x px] X.env=(false,eval a X.env)::starEach [.Name x px] X.env:=by rfl)(he2:starEach [.Name x px] X.env=(false,eval (.Name x px) X.env)::starEach [] X.env:=by rfl)(hpl:(backTo pos (starEach [.Name x px] X.env)).any (·.1)=false:=by rfl):QE X (.Call (.Name "isinstance" p2) [a,.Name x px] [] pos) (lT x te):=by
 obtain⟨C,m,i⟩:=A.ex
 exact zV B i (qP hgx m rfl hdx) ha hg he he2 hpl
theorem aq8 (B:Bt X.mg)(A:tU X.K X.mg)(ha:QE X a te)(hgx:Gl X "ValueError":=by rfl)(hg:Gl X "isinstance":=by rfl)(he:starEach [a,.Name "ValueError" px] X.env=(false,eval a X.env)::starEach [.Name "ValueError" px] X.env:=by rfl)(he2:starEach [.Name "ValueError" px] X.env=(false,eval (.Name "ValueError" px) X.env)::starEach [] X.env:=by rfl)(hpl:(backTo pos (starEach [.Name "ValueError" px] X.env)).any (·.1)=false:=by rfl):QE X (.Call (.Name "isinstance" p2) [a,.Name "ValueError" px] [] pos) (lT "ValueError" te):=
 zV B A.is (uQ (v:=.ty "ValueError") hgx A.mg PyProof.Rows.Boot.«ValueError» rfl (by decide) (by decide)) ha hg he he2 hpl
end
structure kJ (K:ae)(C:ax):Prop where
 cls:PySem.W.isClsIn K C=true
 ty:PySem.W.typeIn K (.ref C)=some (.type "type")
 ga:PySem.W.findIn K (.ref C) "__getattribute__" = some (some (.builtin "BaseException.__getattribute__"))
 gt:PySem.W.findIn K (.ref C) "__getattr__" = some none
 fc:PySem.W.findIn K (.ref C) "__class__" = some (some (.builtin "object.__class__"))
 fg:PySem.W.specialIn K (.builtin "object.__class__") "__get__" = some (some (.builtin "getset_descriptor.__get__"))
 ft:PySem.W.takesIn K (.builtin "object.__class__")=some true
 ob:PySem.W.mroIn K C (.type "object")=some true
 be:PySem.W.mroIn K C (.type "BaseException")=some true
theorem kJ.exc {K:ae}{C:ax}(h:kJ K C):gV K C:=⟨h.cls,h.ga,h.gt,h.fc,h.fg,h.ft,h.ob,h.be⟩
theorem aq9 {K:ae}{h₀:Heap}{mg:Str->Option ar}{x:Str}{C:ax}{bmB:List ar}{newId:String}(X:K.In h₀)(m:mg x=some (.ref C))(q:PySem.W.excIn K C bmB newId=true):OwnCls x C bmB newId mg h₀:=by
 refine⟨m,?_⟩;unfold PySem.W.excIn at q;split at q
 case h_2=>cases q
 rename_i dd cd sl ho
 split at q
 case h_2=>cases q
 rename_i C' bm k0 k1 k2 k3 n k5 hm hs
 simp only[aK2,beq_iff_eq,Bool.not_eq_true']at q
 obtain⟨⟨⟨⟨⟨rfl,rfl⟩,dl⟩,ht⟩,hok⟩,hni⟩:=q
 obtain⟨nm,bs,mro,ns,qn,hd,sn,sub,ab,col,del⟩:=cd
 dsimp only at hm dl hok hni;subst hm dl;obtain rfl:sl = #[k0,k1,k2,k3,some (.builtin n),k5]:=by
  obtain⟨l⟩:=sl
  exact congrArg Array.mk hs
 exact⟨bm,ns,nm,qn,bs,hd,sn,sub,ab,col,dd,k0,k1,k2,k3,k5,_,X _ _ ho,.of_isNs (PySem.W.isNs_of_in X hok),PySem.W.nsMap_none_of_in X hok hni,PySem.W.tail_of_in X ht⟩
theorem pJ {n m:Str}{b:Bool}(h:kI n m=some b):n∈lR/\b=(n==m||m=="HearthError"||m=="ValueError"):=by
 unfold kI at h;split at h
 ·rename_i z
  exact⟨by simpa using z,by cases h;rfl⟩
 ·cases h
theorem zX {K:ae}{C D:ax}{b:Bool}(hd:kJ K D)(ne:(C==D)=false)(s:PySem.W.subIn K (.ref C) (.ref D)=some b):PySem.W.kitOne K (.ref C) (.ref D)=some b:=by
 have ne':(Value.ref C==Value.ref D)=false:=by
  rw[beq_eq_false_iff_ne]at ne ⊢;exact λz=>ne (Value.ref.inj z)
 have c:=hd.cls;unfold PySem.W.isClsIn at c;unfold PySem.W.kitOne PySem.W.kitCls;rw[if_neg (by rw[ne'];decide)];dsimp only;rw[if_pos (by rw[c,hd.ty];decide)];exact s
theorem zY {K:ae}{C:ax}:PySem.W.kitOne K (.ref C) (.ref C)=some true:=by
 unfold PySem.W.kitOne;rw[if_pos (aN8 _)]
theorem zZ {K:ae}{C:ax}(s:PySem.W.subIn K (.ref C) (.type "ValueError")=some true):PySem.W.kitOne K (.ref C) (.type "ValueError")=some true:=by
 unfold PySem.W.kitOne PySem.W.kitCls;rw[if_neg (λz=>by cases beq_iff_eq.mp z)];dsimp only;rw[if_pos (by decide +kernel)];exact s
theorem A0 {K:ae}{D:ax}(hd:kJ K D)(s:PySem.W.subIn K (.type "NoneType") (.ref D)=some false):PySem.W.kitOne K (.type "NoneType") (.ref D)=some false:=by
 have c:=hd.cls;unfold PySem.W.isClsIn at c;unfold PySem.W.kitOne PySem.W.kitCls;rw[if_neg (λz=>by cases beq_iff_eq.mp z)];dsimp only;rw[if_pos (by rw[c,hd.ty];decide)];exact s
theorem ar0 {K:ae}:PySem.W.kitOne K (.type "NoneType") (.type "ValueError")=some false:=by
 have e:(if PySem.W.kitMeta "ValueError" = true then (fastBuiltinMro "NoneType").map (·.contains (Value.type "ValueError")) else none)=some false:=by decide +kernel
 unfold PySem.W.kitOne;rw[if_neg (by decide)];exact e
theorem cJ.of {P:ay}{w:bf}{K:ae}{mg:Str->Option ar}{base:Heap}{k:Nat}{x:Str}{ps N:List Str}{p:dZ}{st:Stmt}{f:ax}{fd:FuncData}(F:dW K x x st f fd)(m:mg x=some (.ref f))(S:FnScope N ps (aT st))(hb:∀(kV doc pm:ar) (an:Option ax) (cdv ct:ar) (us:List ar),us.length=ps.length->bindArgs (PySem.W.fnOf x x (g9 st) (cR st) (aT st) .none kV doc pm an cdv ct) ⟨us,[]⟩=pure (ps.zip us))(t:(Str->Prop)->aM)(len:∀Ep xs Q,p Ep xs Q->xs.length=ps.length)(rd:∀Ep xs Q,p Ep xs Q->t Ep { nx:=λ_=>Q .non,rt:=Q } (dB N xs))(body:∀(cdv:ar) (A:ba) (outer:List Env) (s:aw) (H:Hp) (E:XK) (Ep:Str->Prop),bS k (A.deeper (envOfC x (aT st) s.heap.objs.size f cdv))->kD (c7 (cB P w) P w K mg base N x (aT st) f cdv A outer s H E) (EX K H Ep)->
   cT (c7 (cB P w) P w K mg base N x (aT st) f cdv A outer s H E) (cR st) (t Ep)):cJ P w K mg base (k+1) x ps p:=by
 refine⟨f,fd,F.okX S (λvs H Q E h=>?_) (λcdv A outer s H vs Q E hr h=>?_),F.binds hb,F.kp,m⟩
 ·obtain⟨xs,Qp,Ep,r,q,_⟩:=h
  rw[r.length];exact len Ep xs Qp q
 ·obtain⟨xs,Qp,Ep,r,q,k,ke⟩:=h
  have ht:=body cdv A outer s H E Ep hr (yU λc d H' z=>?_)
  ·refine⟨_,ht,λ_=>False,dB N xs,_,pC r,rd Ep xs Qp q,?_,?_,?_,?_⟩
   ·exact λW' σ' H' ρ' e px q=>k _ _ _ px.same .non q
   ·exact λv H' x s r q=>k _ _ _ s r q
   ·exact λW' σ' H' ρ' e px q=>q
   ·exact λW' σ' H' ρ' e px q=>q
  ·obtain⟨rfl,s1,n,C,rfl,z1,z2⟩:=z
   exact ke n C H' s1 z1 z2
end PP
namespace Core
open PySem L2 PP
noncomputable abbrev pK (t:(Str->Prop)->aM)(N:List Str)(p:dZ):Prop:=∀Ep xs Q,p Ep xs Q->t Ep { nx:=λ_=>Q .non,rt:=Q } (dB N xs)
end Core
namespace PP
open PySem L2
theorem us1 {us:List ar}(h:us.length=1):∃a,us = [a]:=List.length_eq_one_iff.mp h
theorem us2 {us:List ar}(h:us.length=2):∃a b,us = [a,b]:=by
 cases us with
 |nil=>cases h
 |cons a r=>
  obtain⟨b,rfl⟩:=us1 (us:=r) (by simpa using h)
  exact⟨a,b,rfl⟩
theorem tV {us:List ar}(h:us.length=3):∃a b c,us = [a,b,c]:=by
 cases us with
 |nil=>cases h
 |cons a r=>
  obtain⟨b,c,rfl⟩:=us2 (us:=r) (by simpa using h)
  exact⟨a,b,c,rfl⟩
theorem A1 {us:List ar}(h:us.length=4):∃a b c d,us = [a,b,c,d]:=by
 cases us with
 |nil=>cases h
 |cons a r=>
  obtain⟨b,c,d,rfl⟩:=tV (us:=r) (by simpa using h)
  exact⟨a,b,c,d,rfl⟩
section
variable {X:Cx}{a b e:Expr}{ta tb:aE}{tr:bN}{D:cP}{σ:St}{H:Hp}{pos p2 p3 p4:Pos}
noncomputable def pL (i:Nat)(ta tb:aE):aM:=λD ρ=>∃xs,ρ[i]? = some (some (.own (.lst xs)))/\ta ρ λx _=>∃k:Nat,x = .int k/\k<=xs.length/\xs.length<16000000/\tb ρ λy g=>Nw g y/\D.nx (ρ.set i (some (.own (.lst (xs.take k++y::xs.drop k)))))
theorem ar1 {i:Nat}(h:LS X (pL i ta tb) D σ H):nZ (oE X.K "list" yY (jP i) (fX (LE X ta) (fX (LE X tb) iX))) D σ H:=by
 obtain⟨W,ρ,D',px,⟨xs,hi,q⟩,k⟩:=h
 obtain⟨v,ev,a,rfl,wa,us,ea,r⟩:=px.sl i _ hi
 refine⟨_,ev,rZ (aS.of ea),W,ρ,_,px,q,?_⟩;rintro w H1 x g s rx ⟨j,rfl,hj,hl,q⟩;cases rx;refine⟨W,ρ,_,px.mono s,q,?_⟩;rintro w H2 y g s2 ry ⟨n,q⟩;have ea2:=s2 _ _ (s _ _ ea);have s3:=s.trans s2;refine⟨a,us,w,j,rfl,rfl,ea2,by rw[r.length];exact hj,oR (by rw[r.length];omega),?_⟩;refine k.nx W σ _ _ ((Ev.same s3).trans (Ev.upd wa)) ((px.mono s3).updL hi ev wa ?_) q;have r2:=r.same s3 λ_ z=>z
 exact ((r2.take j).append (.cons (Nw.rep (px.mono s) n ry) (r2.drop j))).keep (.upd ea2 rfl λb m=>⟨mM wa m,m⟩)
theorem ar2 (i:Nat){x:Str}{ai aj xpos:Pos}(ha:QE X a ta)(hb:QE X b tb)(hN:X.N[i]? = some x:=by rfl)(hv:i6 X.env.scope x:=by first|exact Or.inl rfl|exact Or.inr (Or.inl rfl)|exact Or.inr (Or.inr rfl))(hd:(x==("__debug__":Str))=false:=by decide)(hcd:(x==("__classdict__":Str))=false:=by decide)(hbase:attributeBase (.Name x xpos) "insert" X.env (eval (.Name x xpos) X.env)=eval (.Name x xpos) X.env:=by rfl)(hfew:((backTo aj (starEach [a,b] X.env)).all (λx=>!x.1)&&(backToKw aj (keywordEach [] X.env)).all (λx=>x.1.isSome)&&decide (([a,b]:List Expr).length+([]:List Keyword).length+(if ([]:List Keyword).isEmpty then 0 else 1)<30))=true:=by rfl)(hline:(ai.endLine==aj.line)=true:=by rfl)(hs:starEach [a,b] X.env=(false,eval a X.env)::starEach [b] X.env:=by rfl)(hs2:starEach [b] X.env=(false,eval b X.env)::starEach [] X.env:=by rfl)(aq:(backTo aj (starEach [b] X.env)).any (·.1)=false:=by rfl)(hsw:swapsWith (.Call (.Attribute (.Name x xpos) "insert" ai) [a,b] [] aj) none pos.line X.env=pure false:=by rfl) :
  QS X (.Expr (.Call (.Attribute (.Name x xpos) "insert" ai) [a,b] [] aj) pos) (pL i ta tb):=
 eG (qQ (lA PySem.F.plainAttrs_list PySem.F.slot_list_insert PySem.F.type_list_insert am8 (kY hN hv hd hcd) (e9 ha (e9 hb gJ hs2) hs) hbase hfew hline hs aq) hsw) λ_ _ _=>ar1
end
end PP
namespace Core
open PySem L2 PP
noncomputable abbrev A2 (bs:List Bool):List PV:=bs.map PV.bl
section
variable {ws:ag}{ls:aa}
noncomputable def cne (ws:ag)(ls:aa)(S:ag):Bool:=!decide (S = [])&&decide (stay ws ls S=S)
end
noncomputable def far (ns S:ag):Bool:=decide (((S.filter λx=>decide (x∈ns)).length:Int)=0)
end Core
namespace PP
open PySem L2
section
variable {X:Cx}{σ:St}{H:Hp}{D:cP}{te:aE}{e:Expr}{pos:Pos}
noncomputable def tW (i:Nat)(tk:aE):aM:=λD ρ=>∃xs,ρ[i]? = some (some (.own (.lst xs)))/\tk ρ λn _=>∃m:Nat,n = .int m/\xs.length<=16000000/\m<xs.length/\D.nx (ρ.set i (some (.own (.lst (xs.eraseIdx m)))))
theorem ar3 {i:Nat}{tk:aE}(h:LS X (tW i tk) D σ H):nZ (oE X.K "list" wG (jP i) (fX (LE X tk) iX)) D σ H:=by
 obtain⟨W,ρ,D',px,⟨xs,hi,q⟩,k⟩:=h
 obtain⟨v,ev,a,rfl,wa,us,ea,r⟩:=px.sl i _ hi
 refine⟨_,ev,rZ (aS.of ea),W,ρ,_,px,q,?_⟩;rintro w H1 n g s rn ⟨m,rfl,hl,hm,q⟩;cases rn;have ea1:=s _ _ ea;have r1:=r.same (M':=Ms X.H₀ W true) s λ_ z=>z
 have lr:=r.length;have lm:m<us.length:=by omega
 refine⟨a,us,m,m,us[m],rfl,rfl,ea1,by omega,by omega,ah0 lm,aH2 lm,?_⟩;exact k.nx W _ _ _ ((Ev.same s).trans (Ev.upd wa)) ((px.mono s).updL hi ev wa ((r1.eraseIdx m).keep (.upd ea1 rfl λb m=>⟨mM wa m,m⟩))) q
theorem ar4 (i:Nat){x:Str}{ai aj xpos:Pos}(ha:QE X e te)(hN:X.N[i]? = some x:=by rfl)(hv:i6 X.env.scope x:=by first|exact Or.inl rfl|exact Or.inr (Or.inl rfl)|exact Or.inr (Or.inr rfl))(hd:(x==("__debug__":Str))=false:=by decide)(hcd:(x==("__classdict__":Str))=false:=by decide)(hbase:attributeBase (.Name x xpos) "pop" X.env (eval (.Name x xpos) X.env)=eval (.Name x xpos) X.env:=by rfl)(hfew:((backTo aj (starEach [e] X.env)).all (λx=>!x.1)&&(backToKw aj (keywordEach [] X.env)).all (λx=>x.1.isSome)&&decide (([e]:List Expr).length+([]:List Keyword).length+(if ([]:List Keyword).isEmpty then 0 else 1)<30))=true:=by rfl)(hline:(ai.endLine==aj.line)=true:=by rfl)(hs:starEach [e] X.env=(false,eval e X.env)::starEach [] X.env:=by rfl)(aq:(backTo aj (starEach [] X.env)).any (·.1)=false:=by rfl)(hsw:swapsWith (.Call (.Attribute (.Name x xpos) "pop" ai) [e] [] aj) none pos.line X.env=pure false:=by rfl) :
  QS X (.Expr (.Call (.Attribute (.Name x xpos) "pop" ai) [e] [] aj) pos) (tW i te):=
 eG (qQ (lA PySem.F.plainAttrs_list PySem.F.slot_list_pop PySem.F.type_list_pop Z7 (kY hN hv hd hcd) (e9 ha gJ hs) hbase hfew hline hs aq) hsw) λ_ _ _=>ar3
end
end PP
namespace Core
open PySem L2 PP
noncomputable def A3 (ws:ag)(ls:aa):ag->ag->Bool
 |_,[]=>true
 |B,h::R=>inB ws.length h&&(kin ws ls B h&&A3 ws ls (B++[h]) R)
end Core
namespace PP
open PySem L2
section
variable {X:Cx}{a b e o:Expr}{ta tb te to:aE}{tr:bN}{pos p2 ai aj:Pos}{σ:St}{H:Hp}{Q':VK}
noncomputable def pM:List PV->(PV->Prop)->Prop:=λxs Q=>(∃i,xs = [.int i]/\Q (.int i))∨∃k,xs = [.bl k]/\Q (.int (if k then 1 else 0))
theorem ar5:eQ X pM (λxs H Q=>(∃i,xs = [.int i]/\Q (.int i) H)∨∃k,xs = [.bl k]/\Q (.int (if k then 1 else 0)) H):=by
 rintro H vs xs Q Q' r (⟨i,rfl,q⟩|⟨i,rfl,q⟩) k
 ·obtain⟨v,rfl,r1⟩:=r.one
  cases r1;exact .inl ⟨i,rfl,k _ _ _ (aD.refl _) (.int _) q⟩
 ·obtain⟨v,rfl,r1⟩:=r.one
  cases r1;exact .inr ⟨i,rfl,k _ _ _ (aD.refl _) (.int _) q⟩
theorem A4 (B:Bt X.mg)(ha:QA X [e] tr)(hg:Gl X "int":=by rfl)(he:starEach [e] X.env=(false,eval e X.env)::starEach [] X.env:=by rfl)(hpl:(backTo pos (starEach [] X.env)).any (·.1)=false:=by rfl):QE X (.Call (.Name "int" p2) [e] [] pos) (aF pM tr):=
 mV V1 ar5 hg B.int PyProof.Rows.boot_int ha (he:=he) (hpl:=hpl)
end
section
variable {X:Cx}{a b e:Expr}{ta tb te:aE}{tr:bN}{pos:Pos}{σ:St}{H:Hp}{Q':VK}{es:List Expr}
noncomputable def jK (neg:Bool):PV->Tg->PV->Tg->PK->Prop:=λx _ y _ Q=>∃i j:Str,x = .str i/\y = .str j/\Q (.bl (if neg=true then !decide (i=j) else decide (i=j))) .fr
theorem ar6 (i j:Str):decide (V.str i=V.str j)=decide (i=j):=by
 rw[aO5,aK8,aK8];exact⟨λz=>V.str.inj z,λz=>congrArg V.str z⟩
theorem A5:cI X (jK false) qY:=by
 rintro W Hs H u v x y g g' Q Q' s n r1 r2 ⟨i,j,rfl,rfl,q⟩ k;cases r1;cases r2
 exact⟨rfl,by rw[ar6];exact k _ _ _ _ (aD.refl _) (.bl _) q⟩
theorem A6 (ha:QE X a ta)(hb:QE X b tb):QE X (.Compare a [.Eq] [b] pos) (q2 (jK false) ta tb):=pB qZ A5 ha hb (fW _)
theorem pN (ha:QE X a ta)(hb:QE X b tb):QT X (.Compare a [.Eq] [b] pos) (aJ (q2 (jK false) ta tb)):=fE qZ A5 ha hb (fW _)
end
end PP
namespace Core
open PySem L2 PP
noncomputable def rU (ws:ag)(ls:aa)(ns R:ag):Prop:=A3 ws ls ns R=true/\ap6 ws ls (ns++R)
end Core
namespace PP
open PySem L2
section
variable {X:Cx}{a b:Expr}{ta tb:aE}{pos:Pos}
noncomputable def A7:PV->Tg->PV->Tg->PK->Prop:=λx _ y _ Q=>∃ns ms:ag,x = .tup (intz ns)/\y = .tup (intz ms)/\Q (.bl (HT.b7 ns ms)) .fr
theorem ar7:cI X A7 (rG X.K):=by
 rintro W Hs H u v x y g g' Q Q' s n r1 r2 ⟨ns,ms,rfl,rfl,q⟩ k
 obtain⟨p1,us,rfl,h1,r1⟩:=r1.sqT
 obtain⟨p2,vs,rfl,h2,r2⟩:=r2.sqT
 obtain rfl:=r1.ofInts;obtain rfl:=r2.ofInts
 exact⟨p1,p2,ns,ms,rfl,rfl,aU.of h1,aU.of h2,k _ _ _ _ (aD.refl _) (.bl _) q⟩
end
end PP
namespace L2
open PySem PySem.Spec PyProof.Rows PP
section
variable {prog:ay}{w:bf}{A:ba}{R:Result→aw→Prop}{I S:ax}{n:Nat}{l:ax}{its:Array ar}{s0:aw}{bt:Nat→Nat→Bool}
noncomputable abbrev gD (s:aw)(h:Heap)(k:Nat):aw:={ s with heap:=h,toks:=k }
noncomputable abbrev iP (g h:Heap):Prop:=∀b o,g.get? b=some o->h.get? b=some o
end
section
variable {prog:ay}{w:bf}{A:ba}{s0:aw}{l:ax}{its:Array ar}{bt:Nat→Nat→Bool}
theorem tX {h:Heap}{a:ax}(z:h.objs.size<=a):h.get? a=none:=by
 cases q:h.get? a with
 |none=>rfl
 |some o=>exact absurd (aI3 q) (Nat.not_lt.mpr z)
end
end L2
namespace Core
open PySem L2 PP
noncomputable def FB (L:af)(f:ag->Int)(r:ag):Prop:=∃i,L[i]? = some r/\(∀(j:Nat) (s:ag),j<i->L[j]? = some s->f s<f r)/\∀s∈L,f s<=f r
end Core
namespace PP
open PySem L2
section
variable {X:Cx}{a b e:Expr}{ta tb:aE}{tr:bN}{pos p2:Pos}
noncomputable def A8 (K:ae):R2:=λx y H Q=>gI (λi j=>.bl (decide (i<j))) x y H Q∨rG K x y H Q
theorem ar8 (hu:X.A.units<cLine):bU X (compareOp .Lt) (A8 X.K):=by
 intro ah s σ H x y v u Q I rx ry h;rcases h with h|h
 ·exact vK ah s σ H x y v u Q I rx ry h
 ·exact Y0 hu ah s σ H x y v u Q I rx ry h
noncomputable def pO:PV->Tg->PV->Tg->PK->Prop:=λx g y g' Q=>fA (λi j=>.bl (decide (i<j))) x g y g' Q∨A7 x g y g' Q
theorem ar9:cI X pO (A8 X.K):=by
 intro W Hs H u v x y g g' Q Q' s n r1 r2 h k;rcases h with h|h
 ·exact .inl (oW W Hs H u v x y g g' Q Q' s n r1 r2 h k)
 ·exact .inr (ar7 W Hs H u v x y g g' Q Q' s n r1 r2 h k)
theorem as0 (hu:X.A.units+1<cLine)(ha:QE X a ta)(hb:QE X b tb):QE X (.Compare a [.Lt] [b] pos) (q2 pO ta tb):=pB (ar8 (by omega)) ar9 ha hb (fW _)
end
end PP
namespace L2
open PySem PySem.Spec PyProof.Rows
section
variable {X:Cx}
noncomputable def A9 (K:ae)(ta:TA):TI:=λσ H R=>ta σ H λvs H1=>∃a b,vs = [.ref a,.ref b]/\((∃xs ys,aU K H1 a xs/\aU K H1 b ys/\R (sB K a b) H1)∨∃xs ys,aS K H1 a xs/\aS K H1 b ys/\R (sD K a b) H1)
theorem as1 {elts:List Expr}{kt:Nat}{pt:Pos}{a b:Expr}{ta:TA}{p pos:Pos}(hg:Gl X "zip")(hm:X.mg "zip" = none)(ha:PA X [a,b] ta)(hs:starEach [a,b] X.env = [(false,eval a X.env),(false,eval b X.env)]:=by rfl)(hs2:starEach [b] X.env = [(false,eval b X.env)]:=by rfl) :
  PI X (.Tuple elts kt pt) (.Call (.Name "zip" p) [a,b] [] pos) (A9 X.K ta):=by
 intro ah s σ H R I h;refine Call_ (jQ I hg hm PyProof.Rows.boot_zip (aQ7 (aR (ha pos ah s σ H _ I h) λus s1 ⟨vs,H1,I1,r1,q1⟩=>?_) (by rw[hs,hs2]) (by rw[hs2];rfl)))
 obtain⟨a',b',e,q1⟩:=q1
 subst e
 obtain⟨u1,u2,rfl,r,r'⟩:=aO.two r1
 cases r;cases r';have fresh:∀k,H1 (s1.heap.objs.size+k)=none:=λk=>I1.hok.fresh (Nat.le_add_right _ _)
 have fp:∀c∈[s1.heap.objs.size+4,s1.heap.objs.size+2,s1.heap.objs.size+3,s1.heap.objs.size,s1.heap.objs.size+1],dM X ah H1 c:=λc hc=>by
  simp only[aI1,aJ8,aO9]at hc;rcases hc with rfl|rfl|rfl|rfl|rfl
  ·exact I1.fpOk (Nat.le_add_right _ _) (fresh 4)
  ·exact I1.fpOk (Nat.le_add_right _ _) (fresh 2)
  ·exact I1.fpOk (Nat.le_add_right _ _) (fresh 3)
  ·exact I1.fpOk (aH9 _) (fresh 0)
  ·exact I1.fpOk (Nat.le_add_right _ _) (fresh 1)
 rcases q1 with⟨xs,ys,h1,h2,q⟩|⟨xs,ys,h1,h2,q⟩
 ·obtain⟨us,_,p1,_⟩:=I1.tuple h1
  obtain⟨ws,_,p2,_⟩:=I1.tuple h2
  refine Zp.ad7 p1 p2 λh' z ti to s1' s2' kp=>wpAny_pyIter_zip z ?_
  exact⟨s1.heap.objs.size+4,[s1.heap.objs.size+4,s1.heap.objs.size+2,s1.heap.objs.size+3,s1.heap.objs.size,s1.heap.objs.size+1],_,_,H1,rfl,I1.kept (t':=s1.toks) kp,ae0 a' b' _ _ _ _ _ (by simp),⟨z,ti,⟨_,_,to⟩,s1',s2'⟩,fp,q⟩
 ·obtain⟨us,_,p1,_⟩:=I1.list h1
  obtain⟨ws,_,p2,_⟩:=I1.list h2
  refine call_zip_2 p1.isList p2.isList λh' z ti to s1' s2' _ kp=>wpAny_pyIter_zip z ?_
  exact⟨s1.heap.objs.size+4,[s1.heap.objs.size+4,s1.heap.objs.size+2,s1.heap.objs.size+3,s1.heap.objs.size,s1.heap.objs.size+1],_,_,H1,rfl,I1.kept (t':=s1.toks) kp,ae6 a' b' _ _ _ _ _ (by simp),⟨z,ti,⟨_,_,to⟩,s1',s2'⟩,fp,q⟩
end
end L2
namespace PP
open PySem L2
theorem as2 {K:ae}{H0:Hp}{W:ax->Prop}{g:Bool}{H1:Hp}{a b:ax}{us vs:List V}{xs ys:List PV}(tw:∀a,W a->∃o,H1 a=some o/\eF o=true)(ha:∀W' H',Ev W H1 W' H'->aS K H' a us)(hb:∀W' H',Ev W H1 W' H'->aS K H' b vs)(r:Reps K (Ms H0 W g) H1 us xs)(r':Reps K (Ms H0 W g) H1 vs ys):lH K H0 W g H1 (sD K a b) (gZ xs ys):=by
 have lr:=r.length;have lr':=r'.length;have ll:=tN xs ys;refine⟨λW' H' i e hi=>⟨us,vs,us[i]'(by omega),vs[i]'(by omega),ha W' H' e,hb W' H' e,by simp,by simp⟩,λW' H' i v H2 e y hi=>?_,λW' H' e=>⟨us,vs,ha W' H' e,hb W' H' e,by omega⟩⟩
 obtain⟨T,x,y',hT,rfl,rfl,y⟩:=y
 obtain⟨h1,h2⟩:=y us vs (ha W' _ e) (hb W' _ e)
 obtain⟨z,hz,rz⟩:=r.get h1
 obtain⟨z',hz',rz'⟩:=r'.get h2
 have sm:=bY hT (HO.tup [x,y'])
 exact⟨sm,_,zP hz hz',.tup cA (.cons ((rz.keep (e.keep tw)).same sm λ_ q=>q) (.cons ((rz'.keep (e.keep tw)).same sm λ_ q=>q) .nil))⟩
section
variable {X:Cx}{σ:L2.St}{H:Hp}{ta tb:aE}{R:It→Hp→Prop}
noncomputable def tY (ta tb:aE):dN:=λρ Q=>ta ρ λx g0=>tb ρ λy g=>∃xs ys,((x = .tup xs/\y = .tup ys)∨(x = .lst xs/\y = .lst ys/\g0≠.rd/\g≠.rd))/\flats xs=true/\flats ys=true/\Q (gZ xs ys) true
theorem B0 {K:ae}{H0 Hs:Hp}{W:ax->Prop}{σ:L2.St}{ρ:bD}{g:Tg}{b:ax}(px:PX K H0 W σ ρ Hs)(ng:g≠.rd)(m:Mg H0 W Hs g b):¬W b:=by
 cases g with
 |fr=>exact (px.new m).1
 |nw=>exact m.1
 |sh=>exact m
 |rd=>exact absurd rfl ng
theorem as3 (h:LI X (tY ta tb) σ H R):A9 X.K (fX (LE X ta) (fX (LE X tb) iX)) σ H R:=by
 obtain⟨W,ρ,Q,px,q,k⟩:=h
 refine⟨W,ρ,_,px,q,λv0 H0 x0 g0 s0 r0 q0=>⟨W,ρ,_,px.mono s0,q0,?_⟩⟩;rintro v H1 x g s r ⟨xs,ys,c,fx,fy,q⟩;have S:=s0.trans s;have px1:=px.mono S;have tw:∀a,W a->∃o,H1 a=some o/\eF o=true:=λa z=>(px1.wm a z).2
 rcases c with⟨rfl,rfl⟩|⟨rfl,rfl,n0,n1⟩
 ·obtain⟨a,us,rfl,h1,ra⟩:=(r0.same (M':=λ_=>True) s λ_ _=>trivial).sqT
  obtain⟨b,vs,rfl,h2,rb⟩:=r.sqT
  have sta:∀{c us},H1 c=some (.tup us)->∀W' H',Ev W H1 W' H'->aU X.K H' c us:=λ{c us} hc W' H' e=>aU.of (e _ _ hc (λz=>by obtain⟨o,h',mu⟩:=tw _ z;rw[hc]at h';cases h';cases mu) rfl).1
  exact⟨a,b,rfl,.inl ⟨us,vs,aU.of h1,aU.of h2,k _ _ _ _ S (aq0 tw (sta h1) (sta h2) (ra.flat fx) (rb.flat fy)) q⟩⟩
 ·obtain⟨a,us,rfl,m0,h1,ra⟩:=(r0.same s λ_ z=>z).sqL
  obtain⟨b,vs,rfl,m1,h2,rb⟩:=r.sqL
  have w0:=B0 px n0 m0;have w1:=B0 (px.mono s0) n1 m1
  exact⟨a,b,rfl,.inr ⟨us,vs,aS.of h1,aS.of h2,k _ _ _ _ S (as2 tw (λW' H' e=>aS.of (e _ _ h1 w0 rfl).1) (λW' H' e=>aS.of (e _ _ h2 w1 rfl).1) (ra.flat fx) (rb.flat fy)) q⟩⟩
theorem as4 {elts:List Expr}{kt:Nat}{pt p2 pos:Pos}{a b:Expr}(B:Bt X.mg)(ha:QE X a ta)(hb:QE X b tb)(hg:Gl X "zip":=by rfl)(hs:starEach [a,b] X.env = [(false,eval a X.env),(false,eval b X.env)]:=by rfl)(hs2:starEach [b] X.env = [(false,eval b X.env)]:=by rfl):QI X (.Tuple elts kt pt) (.Call (.Name "zip" p2) [a,b] [] pos) (tY ta tb):=
 mU (as1 hg B.zip (e9 ha (e9 hb gJ hs2) (by rw[hs,hs2])) hs hs2) λ_ _ _=>as3
end
end PP
namespace Core
open PySem L2 PP
theorem as5 (xs:List PV):iH xs (some 1) none=xs.drop 1:=by
 unfold iH;have e1:HT.aV xs.length 0 (some 1)=min 1 xs.length:=by
  show (if (1:Int)<0 then ((1:Int)+(xs.length:Int)).toNat else min (1:Int).toNat xs.length)=_;rw[if_neg (by decide)];rfl
 rw[e1];show (xs.drop (min 1 xs.length)).take (xs.length-min 1 xs.length)=_;rw[aL6 (by rw[aL7];exact aH9 _)];cases xs with
 |nil=>rfl
 |cons x xs=>rw[show min 1 (x::xs).length=1 by simp]
noncomputable def lU {α:Type}(lt:α->α->Bool)(A:List α):Bool:=((A.zip (A.drop 1)).map λp=>lt p.1 p.2).all id
noncomputable def tZ:aM:=(aY (aF mP (a7 (dO (tY (a5 0) (pA (a5 0) (cN (qC (.int 1))) cM)) [none,none] (mT 0 1) cL (q2 pO (a5 0) (a5 1))) a9)))
theorem as6 {α:Type}(f:α->PV)(lt:α->α->Bool)(fl:∀a,flat (f a)=true)(hlt:∀(a b:α) (g g':Tg) (K:PK),K (.bl (lt a b)) .fr->pO (f a) g (f b) g' K)(A:List α)(la:A.length<=10000)(x:PV)(hx:x = .tup (A.map f)∨x = .lst (A.map f)){Q:PV->Prop}(q:Q (.bl (lU lt A))) :
  tZ { nx:=λ_=>Q .non,rt:=Q } [some (.sh (flat x) x)]:=by
 have fls:∀B:List α,flats (B.map f)=true:=λB=>by
  induction B with
  |nil=>rfl
  |cons b B ih=>show (flat (f b)&&flats (B.map f))=true;rw[fl,ih];rfl
 have sx:sN x=some (A.map f):=by rcases hx with rfl|rfl<;>rfl
 have cut:iH (A.map f) (some 1) none=(A.drop 1).map f:=by rw[as5,List.map_drop]
 refine⟨_,rfl,_,rfl,_,rfl,_,sx,fls A,?_⟩;rw[cut];refine⟨A.map f,(A.drop 1).map f,?_,fls A,fls _,?_⟩
 ·rcases hx with rfl|rfl
  ·exact .inl ⟨rfl,rfl⟩
  ·refine .inr ⟨rfl,rfl,?_,λz=>by cases z⟩
   cases flat (.lst (A.map f))<;>intro z<;>cases z
 have zl:(gZ (A.map f) ((A.drop 1).map f)).length=A.length-1:=by rw[tN,aH4,aH4,aL7];omega
 refine⟨by rw[zl];omega,λi acc=>acc=A2 (((A.zip (A.drop 1)).take i).map λp=>lt p.1 p.2),rfl,?_,?_⟩
 ·rintro i y acc hy rfl
  obtain⟨u,v,h1,h2,rfl⟩:=ap9 hy
  rw[aI8]at h1 h2;cases ha:A[i]? with
  |none=>rw[ha]at h1;cases h1
  |some a=>
   cases hb:(A.drop 1)[i]? with
   |none=>rw[hb]at h2;cases h2
   |some b=>
    rw[ha]at h1;rw[hb]at h2;cases h1;cases h2;have hz:(A.zip (A.drop 1))[i]? = some (a,b):=List.getElem?_zip_eq_some.mpr ⟨ha,hb⟩;refine⟨_,_,rfl,_,rfl,_,rfl,hlt a b _ _ _ ⟨trivial,?_⟩⟩;dsimp only;rw[aS3,hz,aK6];unfold A2;rw[aK6];rfl
 ·rintro acc rfl
  rw[aL6 (by rw[zl,List.length_zip,aL7];omega)]
  exact⟨_,rfl,trivial,q⟩
theorem u3 (ls:aa):lU (λa b=>HT.b7 [a.1,a.2] [b.1,b.2]) ls=true↔ls.Pairwise cW:=by
 have lt2:∀a b:Int×Int,HT.b7 [a.1,a.2] [b.1,b.2]=true↔cW a b:=λa b=>by
  unfold cW;rw[HT.i7,HT.i7,HT.rF];by_cases h1:a.1=b.1
  ·rw[if_pos h1]
   by_cases h2:a.2=b.2
   ·rw[if_pos h2]
    exact⟨λz=>(by cases z),λz=>(by omega)⟩
   ·rw[if_neg h2,aK8];omega
  ·rw[if_neg h1,aK8];omega
 induction ls with
 |nil=>exact⟨λ_=>.nil,λ_=>rfl⟩
 |cons a r ih=>
  cases r with
  |nil=>exact⟨λ_=>List.pairwise_singleton _ _,λ_=>rfl⟩
  |cons b r=>
   have e:lU (λa b:Int×Int=>HT.b7 [a.1,a.2] [b.1,b.2]) (a::b::r)=(HT.b7 [a.1,a.2] [b.1,b.2]&&lU (λa b:Int×Int=>HT.b7 [a.1,a.2] [b.1,b.2]) (b::r)):=rfl;rw[e,aK2,lt2,List.pairwise_cons];refine⟨λ⟨h1,h2⟩=>⟨λc hc=>?_,ih.mp h2⟩,λ⟨h1,h2⟩=>⟨h1 b aH6,ih.mpr h2⟩⟩;rcases aI1.mp hc with rfl|hc
   ·exact h1
   ·have:=(List.pairwise_cons.mp (ih.mp h2)).1 c hc
    unfold cW at *;omega
structure WD (n:Int)(ws:ag)(ls:aa):Prop where
 many:(ws.length:Int)=n
 inn:∀l∈ls,0<=l.1/\l.1<l.2/\l.2<n
 most:ls.length<=1700
 ord:ls.Pairwise cW
 pos:∀w∈ws,0<=w/\w<=60
theorem WD.perm {n:Int}{ws:ag}{ls ls':aa}(h1:(ws.length:Int)=n)(h2:∀l∈ls,0<=l.1/\l.1<l.2/\l.2<n)(h3:ls.length<=1700)(nd:ls.Nodup)(h4:∀w∈ws,0<=w/\w<=60)(p:ls'.Perm ls)(so:(ls'.map two).Pairwise λu v=>HT.b7 v u=false):WD n ws ls':=
 ⟨h1,λl hl=>h2 l (p.mem_iff.mp hl),by rw[p.length_eq];exact h3,ao5 so (p.nodup_iff.mpr nd),h4⟩
noncomputable def pP:bW:=λxs Q=>∃c d n m:Int,xs = [.int c,.int d,.int n,.int m]/\0<=n/\n<=8/\0<m/\m<=61/\∀ws ls,WD n ws ls->Q (gX ws ls)
noncomputable abbrev B1:aM:=an5
theorem as7:dC B1 ["wants_cell", "links_cell", "many", "most", "wants", "k", "links", "one", "other"] pP := by
 rintro xs Q ⟨c, d, n, m, rfl, n0, n1, m0, m1, q⟩;refine⟨by decide, rfl, rfl, rfl, ?_⟩;refine⟨_, rfl, n, rfl, by omega, by omega, λi ρ => ∃(c':Int) (y:Option Slot) (ws:ag), ρ = [si c', si d, si n, si m, some (.own (.lst (intz ws))), y, none, none, none] /\ ws.length = i /\ ∀w∈ws, 0 <= w /\ w <= 60, ⟨c, none, [], rfl, rfl, λ_ h => nomatch h⟩, ?_, ?_⟩
 ·rintro i y ρ hy ⟨c', y0, ws, rfl, hl, hp⟩
  obtain⟨rfl, hi⟩ := gW hy
  refine⟨_, rfl, _, rfl, _, rfl, _, _, rfl, rfl, m0, trivial, by rw[dJ];omega, ?_⟩;refine⟨_, rfl, _, rfl, _, _, rfl, rfl, ⟨m0, by omega⟩, trivial, ?_⟩;refine⟨c'/m, si (0+(i:Int)), ws++[c'%m], ?_, by rw[aJ3, hl];rfl, λw hw => ?_⟩
  ·rw[pE];rfl
  ·rcases aL2.mp hw with hw|hw
   ·exact hp w hw
   ·rw[aI2.mp hw];exact⟨aL0 _ (by omega), by have := aK1 c' m0;omega⟩
 rintro ρ ⟨c', y0, ws, rfl, hl, hp⟩;rw[fC]at hl;refine⟨by decide, rfl, rfl, rfl, ?_⟩;refine⟨_, rfl, n, rfl, by omega, by omega, λi ρ => ∃(d':Int) (y z:Option Slot) (ls:aa), ρ = [si c', si d', si n, si m, some (.own (.lst (intz ws))), y0, some (.own (.lst (bC ls))), y, z] /\ fQ n ls i 0 /\ ls.length <= i*7, ⟨d, none, none, [], rfl, ⟨(λ_ h => nomatch h), .nil, (λ_ h => nomatch h)⟩, aK9 _⟩, ?_, ?_⟩
 ·rintro i y ρ hy ⟨d', y1, z, ls, rfl, hin, hll⟩
  obtain⟨rfl, hi⟩ := gW hy
  refine⟨_, rfl, _, _, rfl, rfl, _, rfl, _, _, rfl, rfl, by omega, λj ρ => ∃(d':Int) (z:Option Slot) (ls:aa), ρ = [si c', si d', si n, si m, some (.own (.lst (intz ws))), y0, some (.own (.lst (bC ls))), si (0+(i:Int)), z] /\ fQ n ls i (i+1+j) /\ ls.length <= i*7+j, ⟨d', z, ls, rfl, hin.mono (.inr ⟨rfl, by omega⟩), by omega⟩, ?_, ?_⟩
  ·rintro j y ρ hy ⟨d2, z2, ls2, rfl, hin2, hl2⟩
   obtain⟨rfl, hj⟩ := gW hy
   refine⟨_, rfl, _, _, rfl, rfl, (by show (0:Int)<2;decide), .inl ⟨_, _, rfl, rfl, _, rfl, ?_⟩⟩;have tail:∀ls3:aa, fQ n ls3 i (i+1+(j+1:Nat)) -> ls3.length <= i*7+(j+1) -> (aW 1 (c9 (a5 1) (qC (.int 2)))) { nx := λρ => ∃(d':Int) (z:Option Slot) (ls:aa), ρ = [si c', si d', si n, si m, some (.own (.lst (intz ws))), y0, some (.own (.lst (bC ls))), si (0+(i:Int)), z] /\ fQ n ls i (i+1+(j+1:Nat)) /\ ls.length <= i*7+(j+1), rt := Q }
     [si c', si d2, si n, si m, some (.own (.lst (intz ws))), y0, some (.own (.lst (bC ls3))), si (0+(i:Int)), si (0+(i:Int)+1+(j:Int))] := λls3 h3 h4 =>
    ⟨_, rfl, _, _, rfl, rfl, ⟨by decide, by decide⟩, trivial, _, _, ls3, rfl, h3, h4⟩
   by_cases h:d2%2 = 1
   ·show if decide (d2%2 = 1) = true then _ else _
    rw[aH3 h];refine aQ ⟨_, rfl, _, rfl, _, rfl, by show 2 <= 1000;decide, rfl, trivial, by rw[zE];omega, ?_⟩;have ad := hin2.add (by omega);have := tail (ls2++[((i:Int), (i:Int)+1+(j:Int))]) (by have e:(i:Int)+1+((j+1:Nat):Int) = (i:Int)+1+(j:Int)+1 := (by omega);rw[e];exact ad) (by rw[aJ3, List.length_singleton];omega);unfold bC at this;rw[aK6]at this;rw[show (0:Int)+(i:Int) = (i:Int) by omega]at this ⊢;exact this
   ·show if decide (d2%2 = 1) = true then _ else _
    rw[aH0 h];exact aP (tail ls2 (hin2.mono (.inr ⟨rfl, by omega⟩)) (by omega))
  ·rintro ρ ⟨d2, z2, ls2, rfl, hin2, hl2⟩
   rw[fC]at hl2
   exact⟨d2, _, z2, ls2, rfl, hin2.mono (.inl (by omega)), by omega⟩
 rintro ρ ⟨d', y1, z, ls, rfl, hin, hll⟩;rw[fC]at hll;refine⟨_, rfl, ⟨_, _, rfl, rfl, gM _, _, rfl, ⟨_, _, rfl, rfl, jI _, by show 2 <= 1000;decide, ?_, trivial, q ws ls ⟨by omega, hin.inn, by omega, hin.ord, hp⟩⟩, λns z => by cases z⟩, λns z => by cases z⟩;show (flat (.tup (intz ws))&&(flat (.tup (bC ls))&&true)) = true;rw[zA];show (true&&(flats (bC ls)&&true)) = true;rw[show flats (bC ls) = true from jI ls];rfl
noncomputable def pQ:bW:=λxs Q=>∃c n:Int,xs = [.int c,.int n]/\0<=n/\n<=40/\∀ws ls,WD n ws ls->Q (gX ws ls)
noncomputable def B2:aM:=(aH (iD 2 (dA a9))
 (aH (iD 3 (dA a9))
 (aH (aW 4 (dI (qC (.int 1)) (b6 (a5 0) (qC (.int 8)))))
 (aH (dX (gR (a5 1)) (bX 5)
  (aH (jY 2 (b6 (c9 (a5 0) (dI (qC (.int 8)) (a5 5))) (qC (.int 61))))
  (dX (p5 (dI (a5 5) (qC (.int 1))) (a5 1)) (bX 6)
   (aH (aW 7 (dI (dI (b6 (a5 0) (qC (.int 1000000007))) (j7 (j7 (qC (.int 977)) (a5 5)) (a5 5))) (j7 (qC (.int 40692)) (a5 6))))
   (aH (aW 7 (b6 (j7 (dI (a5 7) (qC (.int 1))) (qC (.int 48271))) (qC (.int 2147483647))))
   (bA (aJ (k6 (b6 (c9 (b6 (j7 (a5 7) (a5 7)) (qC (.int 2147483647))) (qC (.int 8))) (qC (.int 8))) (a5 4))) (jY 3 (gB (a7 (a5 5) (a7 (a5 6) a9)))) bE))))))
 (aY (gB (a7 (aF iJ (a7 (a5 2) a9)) (a7 (aF iJ (a7 (a5 3) a9)) a9))))))))
theorem as8:dC B2 ["cell","many","wants","links","mark","one","other","number"] pQ:=by
 rintro xs Q ⟨c,n,rfl,n0,n1,q⟩;refine⟨by decide,rfl,rfl,rfl,?_⟩;refine⟨by decide,rfl,rfl,rfl,?_⟩;refine⟨_,rfl,_,_,rfl,rfl,(by show (0:Int)<8;decide),_,_,rfl,rfl,trivial,?_⟩;dsimp only;generalize (1:Int)+c%8=mk
 refine⟨_,rfl,n,rfl,by omega,by omega,λi ρ=>∃(y5 y6 y7:Option Slot) (ws:ag) (ls:aa),ρ = [si c,si n,some (.own (.lst (intz ws))),some (.own (.lst (bC ls))),si mk,y5,y6,y7]/\ws.length=i/\(∀w∈ws,0<=w/\w<=60)/\fQ n ls i 0/\ls.length<=i*40,
  ⟨none,none,none,[],[],rfl,rfl,(λ_ h=>nomatch h),⟨(λ_ h=>nomatch h),.nil,(λ_ h=>nomatch h)⟩,aK9 _⟩,?_,?_⟩
 ·rintro i y ρ hy ⟨y5,y6,y7,ws,ls,rfl,hw,hp,hin,hll⟩
  obtain⟨rfl,hi⟩:=gW hy
  have e0:(0:Int)+(i:Int)=(i:Int):=by omega
  rw[e0];refine⟨_,rfl,_,rfl,_,rfl,_,_,rfl,rfl,_,_,rfl,rfl,⟨by omega,by omega⟩,_,_,rfl,rfl,(by show (0:Int)<61;decide),trivial,by rw[dJ];omega,?_⟩;dsimp only;have u0:0<=c/(8+(i:Int))%61:=aL0 _ (by decide);have u1:c/(8+(i:Int))%61<61:=aK1 _ (by decide);generalize c/(8+(i:Int))%61=u at u0 u1;have ex:intz ws++[PV.int u]=intz (ws++[u]):=(pE ws [u]).symm;rw[ex];refine⟨_,rfl,_,_,rfl,rfl,_,rfl,_,_,rfl,rfl,by omega,λj ρ=>∃(y6 y7:Option Slot) (ls:aa),ρ = [si c,si n,some (.own (.lst (intz (ws++[u])))),some (.own (.lst (bC ls))),si mk,si i,y6,y7]/\fQ n ls i (i+1+j)/\ls.length<=i*40+j,⟨y6,y7,ls,rfl,hin.mono (.inr ⟨rfl,by omega⟩),by omega⟩,?_,?_⟩
  ·rintro j y ρ hy ⟨z6,z7,ls2,rfl,hin2,hl2⟩
   obtain⟨rfl,hj⟩:=gW hy
   refine⟨_,rfl,_,_,rfl,rfl,(by show (0:Int)<1000000007;decide),_,rfl,_,_,rfl,rfl,.inl ⟨by decide,by decide⟩,_,rfl,_,_,rfl,rfl,.inr ⟨by omega,by omega⟩,_,_,rfl,rfl,_,rfl,_,_,rfl,rfl,.inl ⟨by decide,by decide⟩,_,_,rfl,rfl,trivial,?_⟩;dsimp only;generalize c%1000000007+977*(i:Int)*(i:Int)+40692*((i:Int)+1+(j:Int))=nm;refine⟨_,rfl,_,_,rfl,rfl,_,_,rfl,rfl,.inr ⟨by decide,by decide⟩,_,_,rfl,rfl,(by show (0:Int)<2147483647;decide),trivial,?_⟩;dsimp only;have b1:0<=(nm+1)*48271%2147483647:=aL0 _ (by decide);have b2:(nm+1)*48271%2147483647<2147483647:=aK1 _ (by decide);generalize (nm+1)*48271%2147483647=num at b1 b2;refine⟨_,rfl,_,rfl,_,_,rfl,rfl,.inl ⟨by omega,by omega⟩,_,_,rfl,rfl,(by show (0:Int)<2147483647;decide),_,_,rfl,rfl,⟨by decide,by decide⟩,_,_,rfl,rfl,(by show (0:Int)<8;decide),_,rfl,_,_,rfl,rfl,_,rfl,?_⟩;dsimp only;cases hc:decide (num*num%2147483647/8%8<mk) with
   |false=>exact aP ⟨si ((i:Int)+1+(j:Int)),si num,ls2,rfl,hin2.mono (.inr ⟨rfl,by omega⟩),by omega⟩
   |true=>
    refine aQ ⟨_,rfl,_,rfl,_,rfl,by show 2<=1000;decide,rfl,trivial,by rw[zE];omega,?_⟩;have ad:=hin2.add (by omega);refine⟨si ((i:Int)+1+(j:Int)),si num,ls2++[((i:Int),(i:Int)+1+(j:Int))],?_,?_,by rw[aJ3,List.length_singleton];omega⟩
    ·unfold bC
     rw[aK6];rfl
    ·have e:(i:Int)+1+((j+1:Nat):Int)=(i:Int)+1+(j:Int)+1:=by omega
     rw[e];exact ad
  ·rintro ρ ⟨z6,z7,ls2,rfl,hin2,hl2⟩
   rw[fC]at hl2;refine⟨si i,z6,z7,ws++[u],ls2,rfl,by rw[aJ3,hw];rfl,λw hw'=>?_,hin2.mono (.inl (by omega)),by omega⟩;rcases aL2.mp hw' with h|h
   ·exact hp w h
   ·rw[aI2.mp h];omega
 rintro ρ ⟨y5,y6,y7,ws,ls,rfl,hw,hp,hin,hll⟩;rw[fC]at hw hll;refine⟨_,rfl,⟨_,_,rfl,rfl,gM _,_,rfl,⟨_,_,rfl,rfl,jI _,by show 2<=1000;decide,z9 ws ls,trivial,q ws ls ⟨by omega,hin.inn,by omega,hin.ord,hp⟩⟩,λns z=>by cases z⟩,λns z=>by cases z⟩
noncomputable def nE:bW:=λxs Q=>∃x ns n wy,xs = [x,.int n,.int wy]/\iN x ns/\ns.length<=63/\0<=n/\n<=40/\∀ws ls,WD n ws ls->Q (gX ws ls)
noncomputable def u4:aM:=(aH (bA (gN (aJ (fJ (b6 (c9 (a5 2) (qC (.int 4))) (qC (.int 2))) (qC (.int 1)))) (aJ (k6 (a5 1) (qC (.int 9))))) (aY (aF pP (a7 (aF gY (a7 (a5 0) (a7 (qC (.int 0)) a9))) (a7 (aF gY (a7 (a5 0) (a7 (qC (.int 1)) a9))) (a7 (a5 1) (a7 (bH (dA (a7 (qC (.int 4)) (a7 (qC (.int 3)) (a7 (qC (.int 6)) (a7 (qC (.int 61)) a9))))) (b6 (a5 2) (qC (.int 4)))) a9)))))) bE)
 zL)
noncomputable def B3:aM:=(aH (bA (gN (aJ (fJ (b6 (c9 (a5 2) (qC (.int 8))) (qC (.int 4))) (qC (.int 1)))) (aJ (iI (a5 1) (qC (.int 8))))) (aY (aF pQ (a7 (aF gY (a7 (a5 0) (a7 (qC (.int 0)) a9))) (a7 (a5 1) a9)))) bE)
 u4)
theorem as9 {x:PV}{ns:ag}{n wy:Int}{Q:PV->Prop}(hx:iN x ns)(hns:ns.length<=63)(n0:0<=n)(n1:n<=40)(q:∀ws ls,WD n ws ls->Q (gX ws ls)):u4 { nx:=λ_=>Q .non,rt:=Q } [some (.sh (flat x) x),si n,si wy,none,none,none,none,none,none]:=by
 have d4:(0:Int)<4:=by decide
 have last:zL { nx:=λ_=>Q .non,rt:=Q } [some (.sh (flat x) x),si n,si wy,none,none,none,none,none,none]:=by
  refine⟨by decide,rfl,rfl,rfl,?_⟩;refine⟨_,rfl,n,rfl,by omega,by omega,λi ρ=>∃(y z:Option Slot) (ws:ag),ρ = [some (.sh (flat x) x),si n,si wy,some (.own (.lst (intz ws))),y,z,none,none,none]/\ws.length=i/\∀w∈ws,0<=w/\w<=60,⟨none,none,[],rfl,rfl,λ_ h=>nomatch h⟩,?_,?_⟩
  ·rintro i y ρ hy ⟨y0,z0,ws,rfl,hl,hp⟩
   obtain⟨rfl,hi⟩:=gW hy
   refine⟨_,rfl,_,rfl,x,ns,_,rfl,hx,by omega,trivial,?_⟩;generalize ns.getD ((0:Int)+(i:Int)).toNat 0=cell
   obtain⟨z,hz,hzz⟩:=zM (a:=cell/5%4) (b:=cell/5%3) (c:=cell/5%6) (d:=cell/5%61) (i:=wy%4) (aL0 _ (by decide)) (aK1 _ d4)
   refine⟨_,rfl,_,rfl,_,_,rfl,rfl,⟨by decide,by decide⟩,_,_,rfl,rfl,d4,_,rfl,_,_,rfl,rfl,⟨by decide,by decide⟩,_,_,rfl,rfl,(by show (0:Int)<3;decide),_,rfl,_,_,rfl,rfl,⟨by decide,by decide⟩,_,_,rfl,rfl,(by show (0:Int)<6;decide),_,rfl,_,_,rfl,rfl,⟨by decide,by decide⟩,_,_,rfl,rfl,(by show (0:Int)<61;decide),by show 4<=1000;decide,rfl,_,rfl,_,_,rfl,rfl,d4,_,_,_,rfl,rfl,hz,zC _ _,by rw[dJ];omega,?_⟩;refine⟨si (0+(i:Int)),si cell,ws++[z],?_,by rw[aJ3,hl];rfl,λw hw=>?_⟩
   ·rw[pE];rfl
   ·rcases aL2.mp hw with hw|hw
    ·exact hp w hw
    ·rw[aI2.mp hw]
     rcases hzz with e|e|e|e<;>rw[e]<;>omega
  rintro ρ ⟨y0,z0,ws,rfl,hl,hp⟩;rw[fC]at hl;refine⟨rfl,rfl,?_⟩;refine⟨_,rfl,_,hx.seq,ao9 hx,λi ρ=>∃(y z u:Option Slot) (ps:List (List aN×PV)),ρ = [some (.sh (flat x) x),si n,si wy,some (.own (.lst (intz ws))),y0,y,some (.own (.dT ps)),z,u]/\DL n ps i,⟨z0,none,none,[],rfl,⟨(λ_ h=>nomatch h),aH9 _,rfl,.nil⟩⟩,?_,?_⟩
  ·rintro i y ρ hy ⟨y1,z1,u1,ps,rfl,dl⟩
   obtain⟨cell,rfl,hc⟩:=yZ hy
   have hi:i<ns.length:=(aI4.mp hc).1;generalize sS _ _=gg;have dl1:DL n ps (i+1):=⟨dl.key,Nat.le_succ_of_le dl.len,dl.fl,dl.nd⟩;refine⟨_,rfl,_,_,rfl,rfl,_,rfl,?_⟩;by_cases h1:(1:Int)<n
   ·dsimp only
    rw[aH3 h1];have np:(0:Int)<n:=by omega
    refine aQ ⟨_,rfl,_,rfl,_,_,rfl,rfl,np,trivial,?_⟩;refine⟨_,rfl,_,_,rfl,rfl,(by show (0:Int)<1000000007;decide),_,_,rfl,rfl,.inr ⟨by decide,by decide⟩,_,_,rfl,rfl,(by show (0:Int)<2147483647;decide),_,_,rfl,rfl,⟨by decide,by decide⟩,_,rfl,_,_,rfl,rfl,np,trivial,?_⟩;dsimp only;generalize hone:cell%n=one;generalize hoth:cell%1000000007*48271%2147483647/89%n=oth;have o1:0<=one/\one<n:=by rw[<- hone];exact⟨aL0 _ (by omega),aK1 _ np⟩
    have o2:0<=oth/\oth<n:=by rw[<- hoth];exact⟨aL0 _ (by omega),aK1 _ np⟩
    refine⟨_,rfl,_,rfl,.inl ⟨_,_,rfl,rfl,_,rfl,?_⟩⟩;by_cases h2:one=oth
    ·show if (!decide (one=oth))=true then _ else _
     rw[aH3 h2];exact aP ⟨some (.sh (gg||true) (.int cell)),si one,si oth,ps,rfl,dl1⟩
    ·show if (!decide (one=oth))=true then _ else _
     rw[aH0 h2];refine aQ ⟨_,rfl,_,rfl,_,rfl,_,_,rfl,_,rfl,_,rfl,_,_,rfl,by show 2<=1000;decide,rfl,kF (if oth<one then oth else one,if oth>one then oth else one),rfl,trivial,by have:=dl.len;omega,?_⟩;refine⟨some (.sh (gg||true) (.int cell)),si one,si oth,_,rfl,dl.put _ ?_⟩;dsimp only;split<;>split<;>omega
   ·dsimp only
    rw[aH0 h1];exact aP ⟨some (.sh (gg||true) (.int cell)),z1,u1,ps,rfl,dl1⟩
  rintro ρ ⟨y1,z1,u1,ps,rfl,dl⟩;rw[dJ]at dl
  obtain⟨ls,e1,e2,e3,e4⟩:=DL.links dl.key
  have lnd:ls.Nodup:=by
   have:=dl.nd
   rw[e4]at this;exact (List.pairwise_map.mp this).imp λh e=>h (congrArg kF e)
  have ak:=dl.len;refine⟨_,rfl,⟨_,_,rfl,rfl,gM _,_,rfl,ps,rfl,ls.map two,?_,by rw[aH4];omega,?_,λzs pz so=>?_⟩,λns z=>by cases z⟩
  ·show [PV.lst (ps.map λp=>PV.tup (p.1.map kP))]=_
   rw[e1,zJ]
  ·intro y hy z
   obtain⟨l,_,rfl⟩:=aJ2.mp hy
   cases z
  obtain⟨ls',rfl,pl⟩:=ao4 pz
  rw[<- zJ]
  exact⟨⟨_,_,rfl,rfl,jI _,by show 2<=1000;decide,zK _ _,trivial,q ws ls' (WD.perm (by omega) e2 (by omega) lnd hp pl so)⟩,λns z=>by cases z⟩
 refine⟨_,rfl,_,_,rfl,rfl,⟨by decide,by decide⟩,_,_,rfl,rfl,(by show (0:Int)<2;decide),.inl ⟨_,_,rfl,rfl,_,rfl,?_⟩⟩;cases hc:(decide (wy/4%2=1)) with
 |false=>exact aP (aP last)
 |true=>
  refine aQ ⟨_,rfl,_,_,rfl,rfl,_,rfl,?_⟩;by_cases h:n<9
  ·dsimp only
   rw[aH3 h]
   obtain⟨z,hz,e⟩:=zM (a:=4) (b:=3) (c:=6) (d:=61) (i:=wy%4) (aL0 _ (by decide)) (aK1 _ d4)
   refine aQ ⟨_,rfl,x,ns,0,rfl,hx,by decide,_,rfl,x,ns,1,rfl,hx,by decide,_,rfl,by show 4<=1000;decide,rfl,_,rfl,_,_,rfl,rfl,d4,_,_,_,rfl,rfl,hz,_,_,n,z,rfl,n0,by omega,by omega,by omega,λws ls w=>⟨trivial,q ws ls w⟩⟩
  ·dsimp only
   rw[aH0 h];exact aP last
theorem at0:dC B3 ["flow","many","way","wants","k","cell","pairs","one","other"] nE:=by
 rintro xs Q ⟨x,ns,n,wy,rfl,hx,hns,n0,n1,q⟩;have d4:(0:Int)<4:=by decide
 have mid:u4 { nx:=λ_=>Q .non,rt:=Q } [some (.sh (flat x) x),si n,si wy,none,none,none,none,none,none]:=as9 hx hns n0 n1 q;refine⟨_,rfl,_,_,rfl,rfl,⟨by decide,by decide⟩,_,_,rfl,rfl,d4,.inl ⟨_,_,rfl,rfl,_,rfl,?_⟩⟩;cases hc:(decide (wy/8%4=1)) with
 |false=>exact aP (aP mid)
 |true=>
  refine aQ ⟨_,rfl,_,_,rfl,rfl,_,rfl,?_⟩;by_cases h:(8:Int)<n
  ·dsimp only
   rw[aH3 h];exact aQ ⟨_,rfl,x,ns,0,rfl,hx,by decide,_,rfl,_,n,rfl,by omega,by omega,λws ls w=>⟨trivial,q ws ls w⟩⟩
  ·dsimp only
   rw[aH0 h];exact aP mid
noncomputable def pR:bW:=λxs Q=>∃ws ls x y,xs = [gX ws ls,.tup [x,y]]/\lP x ws/\(y = .tup (bC ls)∨y = .lst (bC ls))/\ws.length<=1000/\ls.length<=100000/\Q (.bl true)
noncomputable def B4 (K:ae):aM:=(aH (bA (eO (gO (aJ (iF K "tuple" (a5 0)))) (eO (aJ (fM (aF cF (a7 (a5 0) a9)) (qC (.int 2)))) (gO (aJ (aF mZ (a7 (bH (a5 0) (qC (.int 0))) (a7 (bH (a5 1) (qC (.int 0))) a9))))))) (aY (qC (.bl false))) bE)
 (aH (bA (eO (gO (aJ (iF K "tuple" (bH (a5 0) (qC (.int 1)))))) (aJ (fM (aF cF (a7 (bH (a5 0) (qC (.int 1))) a9)) (aF cF (a7 (bH (a5 1) (qC (.int 1))) a9))))) (aY (qC (.bl false))) bE)
 (aH (dX (gR (aF cF (a7 (bH (a5 1) (qC (.int 1))) a9))) (bX 2)
  (bA (gO (aJ (aF mZ (a7 (bH (bH (a5 0) (qC (.int 1))) (a5 2)) (a7 (bH (bH (a5 1) (qC (.int 1))) (a5 2)) a9))))) (aY (qC (.bl false))) bE))
 (aY (qC (.bl true))))))
theorem at2 {K:ae}(kt:PySem.W.kitOne K (.type "tuple") (.type "tuple")=some true):dC (B4 K) ["found","due","k"] pR:=by
 rintro xs Q ⟨ws,ls,x,y,rfl,hx,hy,lw,ll,q⟩;have sy:j6 y=some (bC ls):=by rcases hy with rfl|rfl<;>rfl
 have ly:oZ y=some (bC ls).length:=by rcases hy with rfl|rfl<;>rfl
 have pl:(bC ls).length=ls.length:=aH4 _;refine⟨_,rfl,_,_,rfl,kt,_,rfl,aP ⟨_,rfl,_,_,rfl,rfl,.inl ⟨_,_,rfl,rfl,_,rfl,?_⟩⟩⟩;show if (!decide ((2:Int)=2))=true then _ else _
 refine aP ⟨_,rfl,_,_,_,rfl,rfl,rfl,_,rfl,_,_,_,rfl,rfl,rfl,x,ws,ws,rfl,hx,lw,lw,_,rfl,?_⟩;rw[aH3 rfl];refine aP ?_;refine⟨_,rfl,_,_,_,rfl,rfl,rfl,_,_,rfl,kt,_,rfl,aP ⟨_,rfl,_,_,_,rfl,rfl,rfl,_,_,rfl,rfl,_,rfl,_,_,_,rfl,rfl,rfl,_,_,rfl,ly,.inl ⟨_,_,rfl,rfl,_,rfl,?_⟩⟩⟩;show if (!decide (((bC ls).length:Int)=((bC ls).length:Int)))=true then _ else _
 rw[aH3 rfl];refine aP ?_;refine⟨_,rfl,_,_,_,rfl,rfl,rfl,_,_,rfl,ly,_,rfl,by omega,by omega,λi ρ=>∃z,ρ = [some (.sh (flat (gX ws ls)) (gX ws ls)),some (.sh (flat (.tup [x,y])) (.tup [x,y])),z],⟨none,rfl⟩,?_,?_⟩
 ·rintro i z ρ hz ⟨z0,rfl⟩
  obtain⟨rfl,hi⟩:=gW hz
  have i1:i<ls.length:=by omega
  have hl:ls[i]? = some ls[i]:=aH2 i1;have a1:L2.atI (bC ls) ((0:Int)+(i:Int))=some (.tup (intz [ls[i].1,ls[i].2])):=by
   rw[show (0:Int)+(i:Int)=(i:Int) by omega];exact mD (by unfold bC;rw[aI8,hl];rfl)
  refine⟨_,rfl,_,_,_,rfl,rfl,rfl,_,rfl,_,_,_,rfl,rfl,a1,_,rfl,_,_,_,rfl,rfl,rfl,_,rfl,_,_,_,sy,rfl,a1,_,[ls[i].1,ls[i].2],[ls[i].1,ls[i].2],rfl,.inl rfl,by show 2<=1000;decide,by show 2<=1000;decide,_,rfl,?_⟩;rw[aH3 rfl];exact aP ⟨_,rfl⟩
 ·rintro ρ ⟨z,rfl⟩
  exact⟨trivial,q⟩
noncomputable def u5 (r c:Int)(l:Int×Int):Bool:=decide (0<=l.1)&&(decide (l.1<r)&&(decide (0<=l.2)&&decide (l.2<c)))
noncomputable def at3 (l:Int×Int):aa:=[(l.1-1,l.2),(l.1,l.2-1),(l.1,l.2+1),(l.1+1,l.2)]
noncomputable def u6 (r c:Int)(l:Int×Int):aa:=(at3 l).filter (u5 r c)
end Core
namespace L2
open PySem PySem.Spec PyProof.Rows SO
noncomputable abbrev kk (l:Int×Int):List aN:=[Sum.inl l.1,Sum.inl l.2]
end L2
namespace Core
open PySem L2 PP
inductive nF (r c:Int)(S:aa):Int×Int->Prop
 |seed {x:Int×Int}:x∈S->nF r c S x
 |kin {x a b:Int×Int}:u5 r c x=true->a∈u6 r c x->b∈u6 r c x->a≠b->nF r c S a->nF r c S b->nF r c S x
noncomputable def nbC (r c:Int)(P:aa)(x:Int×Int):Nat:=(P.filter λp=>decide (x∈u6 r c p)).length
structure Wk (r c:Int)(S K P:aa):Prop where
 nd:K.Nodup
 ndP:P.Nodup
 sub:∀x∈P,x∈K
 brn:∀x∈K,nF r c S x
 sd:∀x∈S,x∈K
 bd:∀x∈K,u5 r c x=true
 low:∀x,x∉K->nbC r c P x<2
structure Bx where
 t:Int
 l:Int
 b:Int
 r:Int
deriving DecidableEq
noncomputable def Bx.k (x:Bx):ag:=[x.t,x.l,x.b,x.r]
noncomputable def okX (x:Bx):Prop:=x.t<=x.b/\x.l<=x.r
noncomputable def B5 (x:Bx)(p:Int×Int):Prop:=x.t<=p.1/\p.1<=x.b/\x.l<=p.2/\p.2<=x.r
noncomputable def B6 (x a:Int×Int):Prop:=(a.1=x.1/\(a.2=x.2-1∨a.2=x.2+1))∨(a.2=x.2/\(a.1=x.1-1∨a.1=x.1+1))
noncomputable def Clo (B:Bx)(U:Int×Int->Prop):Prop:=∀x a b,B5 B x->B6 x a->B6 x b->a≠b->U a->U b->U x
section
variable {B:Bx}{U:Int×Int→Prop}
variable {t l b r:Int}
section
variable (cl:Clo B U){p1 p2:Int}(u:U (p1, p2))(ip:B5 B (p1, p2))
include cl u ip
end
end
end Core
namespace L2
open PySem PySem.Spec PyProof.Rows
noncomputable def at4 (sp:Sp)(t:TA)(i:Nat):TB:=λD Ex σ H=>t σ H λvs H1=>sp vs H1 (λv H2=>D.nx (σ.set i (some v)) H2) Ex
section
variable {X:Cx}{k:Nat}{f:ax}{fd:FuncData}{ps:List Str}{sp:Sp}{x z:Str}{p cp pos zp:Pos}{e:Expr}{es:List Expr}{t:TA}{i:Nat}
theorem at5 (F:cZ X.prog X.w X.K X.mg X.base (cB X.prog X.w) k f fd ps sp)(hr:bS k X.A)(hg:Gl X x)(hm:X.mg x=some (.ref f))(hk:PySem.W.keepIn X.K (.ref f)=true)(hb:iY X.K fd ps [])(ha:∀E,PA (X.wish E) (e::es) t)(hN:X.N.Nodup)(hi:X.N[i]? = some z)(hz:X.env.scope.names.lookup z=some .local)(hdb:(x==("__debug__":Str))=false:=by decide)(he:starEach (e::es) X.env=(false,eval e X.env)::starEach es X.env:=by rfl)(hpl:(backTo cp (starEach es X.env)).any (·.1)=false:=by rfl)(hsw:swapsWith (.Call (.Name x p) (e::es) [] cp) (some (.Name z zp)) pos.line X.env=pure false:=by rfl) :
  PB X [.Assign [.Name z zp] (.Call (.Name x p) (e::es) [] cp) pos] (at4 sp t i):=by
 intro ah s σ H D Ex I h;refine wpAny_execs_cons (wpAny_Assign_Name ?_ hsw);refine wpAny_Call_Name_kw (m5 I hg hm ?_ hdb);refine PySem.W.callWith_K (h₀:=X.base) I.ok.mod.kin hk (aR (ha (XB X ah σ Ex) cp ah s σ H _ (I.wish _) h) λus s1 h1=>⟨?_,?_⟩) he hpl
 ·obtain⟨_,_,I1,_⟩:=h1
  exact I1.kIn
 ·obtain⟨vs,H1,I1,r,q⟩:=h1
  have I1:=I1.unwish;have hl:us.length=ps.length:=by rw[<- r.length];exact F.len _ _ _ _ q
  have bd:=hb s1 us I1.kIn (by rw[List.append_nil];exact hl);rw[List.append_nil]at bd;refine wpAny_call (codeAny_mono (F.run X.A X.stack s1 H1 ⟨us,[]⟩ us vs _ Ex hr I1.env0 bd r q) λrs s' hq=>?_);cases rs with
  |error ev=>exact⟨H1,s1,I1,hq⟩
  |ok fl=>
   cases fl with
   |ret u=>
    obtain⟨v,H2,I2,rv,q2⟩:=I1.after hq
    exact nY I2 hN hi (.inl hz) rv (λs3 I3=>wpAny_execs_nil ⟨_,H2,I3,q2⟩) (.inr hz)
   |next=>exact False.elim hq
   |brk=>exact False.elim hq
   |cont=>exact False.elim hq
end
end L2
namespace PP
open PySem L2
section
variable {X:Cx}{e:Expr}{es:List Expr}{tr:bN}{p2 cp pos zp:Pos}
noncomputable def B7 (i:Nat)(p:dZ)(t:bN):lQ:=λD Ep ρ=>t ρ λxs=>p Ep (xs.map (·.1)) λz=>D.nx (ρ.set i (some (.sh true z)))
theorem at6 (i:Nat){k j:Nat}{x z:Str}{ps:List Str}{p:dZ}(d:cJ X.prog X.w X.K X.mg X.base k x ps p)(hr:bS j X.A)(hN:X.N.Nodup)(ha:∀E,QA (X.wish E) (e::es) tr)(hkj:k<=j:=by decide)(hg:Gl X x:=by rfl)(hi:X.N[i]? = some z:=by rfl)(hz:X.env.scope.names.lookup z=some .local:=by rfl)(hdb:(x==("__debug__":Str))=false:=by decide)(he:starEach (e::es) X.env=(false,eval e X.env)::starEach es X.env:=by rfl)(hpl:(backTo cp (starEach es X.env)).any (·.1)=false:=by rfl)(hsw:swapsWith (.Call (.Name x p2) (e::es) [] cp) (some (.Name z zp)) pos.line X.env=pure false:=by rfl):QB X [.Assign [.Name z zp] (.Call (.Name x p2) (e::es) [] cp) pos] (B7 i p tr):=by
 obtain⟨f,fd,F,b,kp,m⟩:=d.ex
 refine pbI (at5 (t:=LA X tr) F (hr.mono hkj) hg m kp b (λE=>ha E) hN hi hz hdb he hpl hsw) λD Ex σ H h=>?_
 obtain⟨W,ρ,D',Ep,px,q,k,ke⟩:=h
 refine⟨W,ρ,_,px,q,λvs H1 xs s1 r q1=>⟨_,_,Ep,r.any,q1,λv H' x s2 r2 q2=>?_,λn C H' s2 z1 z2=>ke n C H' (s1.trans s2) z1 z2⟩⟩;have s3:=s1.trans s2;exact k.nx W _ H' _ (Ev.same s3) ((px.mono s3).setSh (g:=true) (r2.same (aD.refl _) λa za=>px.new (s1.free za))) q2
end
end PP
namespace Core
open PySem L2 PP
theorem nw2 {a b:PV×Tg}(ha:Nw a.2 a.1)(hb:Nw b.2 b.1):lD [a,b]:=by
 intro p hp;simp only[aI1,aJ8,aO9]at hp;rcases hp with rfl|rfl
 ·exact ha
 ·exact hb
end Core
namespace L2
open PySem PySem.Spec PyProof.Rows
section
variable {M:Model}{A:ba}{E:ar→aw→Prop}{s:aw}
theorem at7 {x:ar}{env env':Env}(h:env'.frame=env.frame):noteFrame x env'=noteFrame x env:=by
 unfold noteFrame PySem.frameOf;rw[h]
theorem at8 {h1 h2 h3:Heap}(a:h1.UpToSlots h2)(b:h2.UpToSlots h3):h1.UpToSlots h3:=λc o e n=>by
 obtain⟨sl,e2⟩:=a c o e n
 obtain⟨sl2,e3⟩:=b c { o with slots:=sl } e2 n
 exact⟨sl2,e3⟩
theorem at9 {base:Heap}{env:Env}{outer:List Env}{L e:ax}{cls a0 fl:ar}{Q:Unit->aw->Prop}(hfr:A.frames=some (env::outer))(hf:env.frame=some L)(k1:base.StaysIn s.heap)(k2:base.get? e=none)(k3:s.heap.FunFrames base (env::outer))(k4:s.heap.TracedAtW base e cls a0 fl)(hQ:∀h',Heap.FlyingW base outer e cls a0 h'->s.heap.UpToSlots h'->Q () { s with heap:=h' }):wpAny M A (leaving env (.ref e)) Q E s:=by
 by_cases c:fl=rawInt L
 ·subst c
  unfold leaving;refine aG9 (wpAny_noteFrame_againW hf k4 ?_);refine wpAny_landsW ⟨k1,k2,k3,k4⟩ λh' hfl up=>?_
  obtain⟨l1,l2,⟨_,_,l3⟩,l4⟩:=hfl
  exact hQ h' ⟨l1,l2,l3,l4⟩ up
 ·unfold leaving
  refine aG9 ?_
  obtain⟨oe,vs,T,oT,ts,he,⟨hcls,h0⟩,hd,h1,hnT,hTe,hT,hdT,h3⟩:=k4
  subst hcls;unfold noteFrame;simp only[hf];refine aG9 (aM7 he hd h1 ?_);rw[if_pos (show (Value.ref T != Value.none)=true from by simp)];refine aG9 (aM7 hT hdT h3 ?_);rw[if_neg (show ¬((fl==rawInt L)=true) from λz=>c (eq_of_beq z))];refine aG9 (wpAny_setField hT hdT (Array.getElem?_eq_some_iff.mp h3).1 ?_);have other:∀b,b≠T->(s.heap.update T (Obj.mapFields (·.setIfInBounds 3 Value.none))).get? b=s.heap.get? b:=λb hb=>aN7 _ _ (Ne.symm hb)
  have noRecord:∀b o,s.heap.get? b=some o->(∀vs,o.data≠.fields vs)->b≠T:=λb o hb hnf q=>by
   rw[q,hT]at hb;injection hb with hb;subst hb;exact hnf ts hdT
  refine wpAny_entryW hfr (k3.of_keeps λb o hb hnf=>⟨o,(other b (noRecord b o hb hnf)).trans hb,rfl⟩) hf ((other e (Ne.symm hTe)).trans he)
   (λb o hbo=>(other b λq=>by rw[q,hnT]at hbo;cases hbo).trans (k1 b o hbo)) k2 hd (Array.getElem?_eq_some_iff.mp h1).1 h0 ?_
  rintro h1' ⟨x1,x2,x3,x4⟩;refine wpAny_landsW (s:={ s with heap:=h1' }) ⟨x1,k2,x2,x3⟩ λh' hfl up=>?_
  obtain⟨l1,l2,⟨_,_,l3⟩,l4⟩:=hfl
  exact hQ h' ⟨l1,l2,l3,l4⟩ (at8 (λb o hb hnf=>x4 b o ((other b (noRecord b o hb hnf)).trans hb) hnf) up)
end
structure au0 (P:ay)(w:bf)(outer:List Env)(ch:List ax)(H:Hp)(s:aw)(H':Hp)(B:Heap)(a C:ax)(s':aw):Prop where
 os:s'.os=s.os
 bare:AllBare s'.gens
 un:Un (b9 outer) ch H H' s.heap s'.heap
 hok:bM P w H' s'.heap
 st:B.StaysIn s'.heap
 na:B.get? a=none
 ff:s'.heap.FunFrames B outer
 tr:∃a0 fl,s'.heap.TracedAtW B a (.ref C) a0 fl
 b0:∀b o,s.heap.get? b=some o->b∉b9 outer->b∉ch->∃o',B.get? b=some o'
 b1:∀b o,s.heap.get? b=some o->H b=none->b∉b9 outer->b∉ch->B.get? b=some o
 b2:∀b u o,H' b=some u->s'.heap.get? b=some o->B.get? b=some o
noncomputable def gE (X:Cx)(E:XK):Prop:=∀(ah:List (ax×Obj)) (σ:St) (H H':Hp) (s s':aw) (B:Heap) (a C:ax) (ch:List ax),a6 X ah σ H s->(∀b∈ch,dM X ah H b/\X.s₀.heap.objs.size<=b)->au0 X.prog X.w X.stack ch H s H' B a C s'->E (.ref C) none H'->X.xe (.ref a) s'
section
variable {P:ay}{w:bf}{K:ae}{mg:Str→Option ar}{base:Heap}{N:List Str}{qual:Str}{scope:Scope}{f:ax}{cd:ar}{A:ba}{outer:List Env}{s₀:aw}{H₀:Hp}{E₀ E₁:XK}
theorem au1 (hE:∀c d H',E₁ c d H'->E₀ c d H'):gE (c7 (cB P w) P w K mg base N qual scope f cd A outer s₀ H₀ E₀) E₁:=by
 intro ah σ H H' s s' B a C ch I hch fl q;have I':=I.call' fl.os fl.un fl.hok fl.bare (ch:=ch) λb hb=>⟨(hch b hb).1.2.2.2.1,(hch b hb).1.2.1,(hch b hb).1.2.2.2.2.1,(hch b hb).1.2.2.2.2.2⟩
 have nch:∀{b o},s₀.heap.get? b=some o->b∉ch:=λ{b o} e z=>absurd (aH8 (aI3 e) (hch b z).2) (aL3 _)
 obtain⟨a0,fv,tr⟩:=fl.tr
 refine at9 I.ok.frames rfl fl.st fl.na fl.ff tr λh' fly' up=>?_
 have slot:∀b o,s₀.heap.get? b=some o->b∈b9 outer->∃sl,h'.get? b=some { o with slots:=sl }:=λb o e hb=>by
  obtain⟨sl,e1⟩:=I'.base.slot b o e (I.ok.frf b hb) hb (λz=>nomatch z)
  obtain⟨_,o2,e2,nf⟩:=I.ok.funs.mem hb
  rw[show (c7 (cB P w) P w K mg base N qual scope f cd A outer s₀ H₀ E₀).s₀=s₀ from rfl,e]at e2;cases e2
  obtain⟨sl',e3⟩:=up b _ e1 nf
  exact⟨sl',e3⟩
 have old:∀b o,s₀.heap.get? b=some o->H₀ b=none->b∉b9 outer->B.get? b=some o:=λb o e n hb=>
  fl.b1 b o (I.base.keep b o e n hb (λz=>nomatch z)) (I.base.free b o e n (λz=>nomatch z)) (lO I e hb) (nch e)
 have old0:∀b o,s₀.heap.get? b=some o->b∉b9 outer->∃o',B.get? b=some o':=λb o e hb=>by
  obtain⟨o1,e1⟩:=I.base.there b o e (λz=>nomatch z)
  exact fl.b0 b o1 e1 (lO I e hb) (nch e)
 have hok2:bM P w H' h':=λb u e=>
  (fl.hok b u e).stay (λc v hc q=>by
   rcases hc with z|z
   ·subst z;exact fly'.1 _ _ (fl.b2 _ _ _ e q)
   ·exact fly'.1 _ _ (fl.b2 _ _ _ z q)) (λ_ q=>q) λ_ _ q=>q
 refine⟨H',B,a,C,rfl,⟨I'.os,I'.bare,⟨λb o e n hb _=>fly'.1 _ _ (old b o e n hb),λb o e n hb _=>slot b o e hb,λb o e n hx=>I'.base.free b o e n hx,λb o e _=>?_,I'.base.tups,I'.base.frzs,I'.base.tbls⟩,hok2,⟨a0,fly'⟩,old0,old,λb u o e h=>?_⟩,hE _ _ _ q⟩
 ·by_cases hb:b∈b9 outer
  ·obtain⟨sl,e1⟩:=slot b o e hb
   exact⟨_,e1⟩
  ·obtain⟨o',e1⟩:=old0 b o e hb
   exact⟨o',fly'.1 _ _ e1⟩
 ·obtain⟨ob,e1⟩:=(fl.hok b u e).at
  have e2:=fl.b2 b u ob e e1;have e3:=fly'.1 _ _ e2;have h:h'.get? b=some o:=h;rw[h]at e3;cases e3;exact e2
end
section
variable {X:Cx}{ah:List (ax×Obj)}{σ:St}{H:Hp}{s:aw}{scope:Scope}{N:List Str}{fr:List (Option Nat)}{tg iter elt:Expr}{ifs:List Expr}{pos:Pos}{wi:TI}{g:TG}{tc:TT}{te:TE}
structure u7 (X:Cx)(scope:Scope)(N:List Str)(tg:Expr)(ifs:List Expr)(elt:Expr)(s:aw)(H:Hp)(XE:ax->List ax->ar->aw->Prop)(g:TG)(tc:TT)(te:TE):Prop where
 tg:∀(C:ax) (fp:List ax),PG (bG X scope N s H C fp (XE C fp)) tg g
 ifs:∀(C:ax) (fp:List ax),j3 (bG X scope N s H C fp (XE C fp)) ifs tc
 elt:∀(C:ax) (fp:List ax),PE (bG X scope N s H C fp (XE C fp)) elt te
theorem B8 {XE:ax->List ax->ar->aw->Prop}{Rr:ar->ax->Result->aw->Prop}{J:It}{fp:List ax}{it:ax}{tn:Nat->Heap->Prop}{Q:VK}(hc:X.calm=true)(S:cQ X scope N fr)(B:u7 X scope N tg ifs elt s H XE g tc te)(I:a6 X ah σ H s)(T:gH X.prog X.w X.K tg J fp it tn)(hst:tn 0 s.heap)(hf:∀b∈fp,dM X ah H b)(h:∀D,H D=none->∃W:Nat->Nat->List V->Hp->Prop,(∃m,W 0 m [] (upd H D (.lst [])))/\oM g tc te (dG fr σ) J D Q W)(herr:∀(D C:ax) (e:ar) (s':aw),s.heap.objs.size<=C->XE C fp e s'->notedBy (model X.prog X.w) X.A (compEnvC scope (dH X scope C) C X.env) (λe s''=>Rr (.ref D) C (.error e) s'') e s')(hend:∀(D C:ax) (s':aw) (H':Hp) (m:Str->Option ar),s.heap.objs.size<=C->s.heap.objs.size<=D->a6 X ah σ H' s'->s'.heap.Ns C m->H' C=none->Q (.ref D) H'->Rr (.ref D) C (.ok .next) s') :
  wpAny (model X.prog X.w) X.A (newList []) (λacc s₃=>wpAny (model X.prog X.w) X.A (newFunctionEnv scope X.env.globals (dF X.env.cells scope.names []) [] X.env.qual none .none (some X.env)) (λcenv s₄=>
   codeAny (model X.prog X.w) X.A (.compStart (.ListComp elt [⟨tg,iter,ifs,0⟩] scope pos) 0 (.ref it) acc { cenv with scope:=relabel scope X.env }) (Rr acc cenv.locals) s₄) X.xe s₃) X.xe s:=by
 refine aM6 (x6 (λh₁ hns₁ keep₁ hco₁=>?_));dsimp only at hns₁ keep₁ hco₁ ⊢;generalize hH2:s.heap.push { cls:=.type "list",dict:=none,data:=.seq ([]:List ar).toArray }=H2 at hns₁ keep₁ hco₁ ⊢;have hC:H2.objs.size=s.heap.objs.size+1:=by rw[<- hH2,aQ3]
 have hDC:s.heap.objs.size<H2.objs.size:=by rw[hC];exact Nat.lt_succ_self _
 have hCle:s.heap.objs.size<=H2.objs.size:=by rw[hC];exact Nat.le_succ _
 have old:∀b o,s.heap.get? b=some o->h₁.get? b=some o:=λb o e=>keep₁ b o (hH2▸aH1 _ e)
 have hacc:h₁.get? s.heap.objs.size=some { cls:=.type "list",data:=.seq #[] 0 }:=keep₁ _ _ (hH2▸aJ0 _ rfl);have hfl:∀b∈fp,b<s.heap.objs.size:=λb hb=>by obtain⟨o,e,_⟩:=T.obj _ _ hst b hb;exact aI3 e
 obtain⟨W,⟨m0,w0⟩,turn⟩:=h s.heap.objs.size (I.hok.fresh (aH9 _))
 have st1:tn 0 h₁:=T.keep _ _ _ hst λb _ o e=>old b o e
 have fr0:∀b∈fp,upd H s.heap.objs.size (.lst []) b=none:=λb hb=>by rw[aZ (aL1 (hfl b hb))];exact (hf b hb).1
 have stat:∀{H':Hp},(∀b∈fp,H' b=none)->∀b∈fp,dM (bG X scope N s H H2.objs.size fp (XE H2.objs.size fp)) [] H' b:=λ{H'} hn b hb=>by
  have f:=hf b hb;refine⟨hn b hb,aL1 (aH8 (hfl b hb) hCle),λz=>?_,.inl hb,λx c e=>(j0 e).elim (λz=>aP1 (Nat.lt_trans (aH8 (hfl b hb) hCle) (hco₁.empty x c z).2)) λz=>f.2.2.2.2.1 x c (mH scope.names [] (S.cells I) (λ_ _ z=>by simp at z) z.2),λp hp=>absurd (show p∈([]:List (ax×Obj)) from hp) (by simp)⟩;rcases aI1.mp (I.stkSub b z) with e|e
  ·exact f.2.1 e
  ·exact f.2.2.1 e
 generalize hX:bG X scope N s H H2.objs.size fp (XE H2.objs.size fp)=Y at stat;have I0:a6 Y [] (dG fr σ) (upd H s.heap.objs.size (.lst [])) { s with heap:=h₁ }:=hX▸wY S I hf hfl (aH9 _) hCle hDC old hns₁ hacc hco₁;have bt:PG Y tg g:=hX▸B.tg H2.objs.size fp;have bi:j3 Y ifs tc:=hX▸B.ifs H2.objs.size fp;have be:PE Y elt te:=hX▸B.elt H2.objs.size fp;have eP:Y.prog=X.prog:=by rw[<- hX];rfl
 have ew:Y.w=X.w:=by rw[<- hX];rfl
 have eK:Y.K=X.K:=by rw[<- hX];rfl
 have eA:Y.A=X.A:=by rw[<- hX];rfl
 have eE:Y.env=compEnvC scope (dH X scope H2.objs.size) H2.objs.size X.env:=by rw[<- hX];rfl
 have eX:Y.xe=XE H2.objs.size fp:=by rw[<- hX];rfl
 have ec:Y.calm=true:=by rw[<- hX];exact hc
 have never:∀(e:ar) (s':aw),Y.xe e s'->notedBy (model X.prog X.w) X.A (compEnvC scope (dH X scope H2.objs.size) H2.objs.size X.env) (λe s''=>Rr (.ref s.heap.objs.size) H2.objs.size (.error e) s'') e s':=λe s' z=>by rw[eX]at z;exact herr _ _ e s' hCle z
 have out:∀{pins' σ' H' s'},a6 Y pins' σ' H' s'->a6 X ah σ H' s':=λ{_ _ _ _} I'=>rR (C:=H2.objs.size) (E:=XE H2.objs.size fp) (scope:=scope) (N:=N) I hf (hX▸I')
 have loop:codeAny (model X.prog X.w) X.A (.compLoop (.ListComp elt [⟨tg,iter,ifs,0⟩] scope pos) 0 (.ref it) (.ref s.heap.objs.size) (compEnvC scope (dH X scope H2.objs.size) H2.objs.size X.env))
   (Rr (.ref s.heap.objs.size) H2.objs.size) { s with heap:=h₁ }:=by
  refine x5 (λn s'=>∃i acc H',a6 Y [] (dG fr σ) H' s'/\tn i s'.heap/\(∀b∈fp,H' b=none)/\W i n acc H') ?_ m0 ⟨0,[],_,I0,st1,fr0,w0⟩;rintro n s3 ⟨i,acc,H3,I3,st3,fr3,w3⟩;unfold oK;dsimp only
  obtain⟨hD3,step⟩:=turn i n acc H3 w3
  rcases step with⟨stop,qn⟩|⟨go,step⟩
  ·have z:=T.done Y eP ew eK ec i [] s3 _ H3 (notedBy (model X.prog X.w) X.A (compEnvC scope (dH X scope H2.objs.size) H2.objs.size X.env) λe s'=>Rr (.ref s.heap.objs.size) H2.objs.size (.error e) s') I3 (stat fr3) st3 stop
   rw[eA]at z;refine aR z λr s4 ⟨hr,I4⟩=>?_
   subst hr
   obtain⟨m4,hn4,_⟩:=I4.loc
   rw[eE]at hn4;have f4:=I4.free;rw[eE]at f4;exact hend _ _ s4 H3 m4 hCle (aH9 _) (out I4) hn4 f4 qn
  ·have z:=T.item Y eP ew eK ec i [] s3 _ H3 (notedBy (model X.prog X.w) X.A (compEnvC scope (dH X scope H2.objs.size) H2.objs.size X.env) λe s'=>Rr (.ref s.heap.objs.size) H2.objs.size (.error e) s') I3 (stat fr3) st3 go
   rw[eA]at z;refine aR z λr s4 ⟨u,hr,h4⟩=>?_
   subst hr;refine aR h4 λ_ s5 ⟨x,H5,I5,r5,y5,st5,fr5⟩=>?_
   have I5':=I5.pinned (stat fr5) (T.obj _ _ st5);have q1:=bt _ s5 _ H5 x u _ I5' r5 (step x H5 y5);rw[eP,ew,eA,eE]at q1;refine aM1 q1 (λ_ s6 ⟨σ6,H6,I6,wk,q6⟩=>?_) never;have q2:=bi _ s6 σ6 H6 _ I6 q6;rw[eP,ew,eA,eE]at q2;refine aM1 q2 (λb s7 ⟨H7,I7,q7⟩=>?_) never;have again:∀{H8:Hp}{s8:aw}{acc':List V},a6 Y ([]++l8 fp s5.heap) σ6 H8 s8->(∃m',m'<n/\W (i+1) m' acc' H8)->∃m,m<n/\∃i acc H',a6 Y [] (dG fr σ) H' s8/\tn i s8.heap/\(∀b∈fp,H' b=none)/\W i m acc H':=λ{H8 s8 acc'} I8 n8=>by
    obtain⟨m',hm,w8⟩:=n8
    refine⟨m',hm,i+1,acc',H8,(I8.unpinned).weak wk.1 wk.2,T.keep _ _ _ st5 λb hb o e=>(I8.pin (b,o) (aJ6 _ (aJ6 _ (l9 hb e)))).1,λb hb=>?_,w8⟩
    obtain⟨o,e,d⟩:=T.obj _ _ st5 b hb
    exact (I8.pin (b,o) (aJ6 _ (aJ6 _ (l9 hb e)))).2.1
   cases b with
   |false=>
    rw[if_neg aI5]at q7 ⊢;exact again I7 q7
   |true=>
    rw[if_pos rfl]at q7 ⊢;have q3:=be _ s7 σ6 H7 _ I7 q7;rw[eP,ew,eA,eE]at q3;refine aM1 q3 (λv s8 ⟨y,H8,I8,r8,hD8,hz8,q8⟩=>?_) never;have q4:=rM _ s8 σ6 H8 (.ref s.heap.objs.size) [y] (.ref s.heap.objs.size) [v] (λ_ H9=>∃m',m'<n/\W (i+1) m' (acc++[y]) H9) I8 rfl (.cons r8 .nil) ⟨_,_,_,rfl,rfl,hD8,hz8,q8⟩;rw[eP,ew,eA]at q4;exact aM1 q4 (λ_ s9 ⟨_,H9,I9,_,q9⟩=>again I9 q9) never
 exact codeAny_compStart_list loop (T.self _ 0 _ _ _ st1 loop)
noncomputable def XC (X:Cx)(scope:Scope)(N:List Str)(s:aw)(H:Hp)(E:XK)(C:ax)(fp:List ax):ar->aw->Prop:=λe s'=>∃ah σ H1 s1,a6 (bG X scope N s H C fp λ_ _=>False) ah σ H1 s1/\cB X.prog X.w X.stack H1 s1 E e s'
theorem B9 {E:XK}{C:ax}{fp:List ax}:jT (cB X.prog X.w) (bG X scope N s H C fp (XC X scope N s H E C fp)) E:=by
 intro ah σ H1 s1 e s' I h
 exact⟨ah,σ,H1,s1,⟨⟨I.ok.mod,I.ok.kind,I.ok.glob,I.ok.blt,I.ok.above,I.ok.inj,I.ok.has,I.ok.cab,I.ok.hd,I.ok.frames,I.ok.stk,I.ok.exf,I.ok.bs,I.ok.bsz,I.ok.noex,I.ok.exfs,I.ok.funs,I.ok.frf⟩,I.os,I.bare,I.base,I.loc,I.cell,I.free,I.freeC,I.pin,I.hok,I.len⟩,h⟩
theorem C0 {E:XK}{fp:List ax}{C:ax}{e:ar}{s':aw}{cenv:Env}{Q:ar->aw->Prop}{acc:ar}(pa:gE X E)(hst:X.stack=X.env::X.outer)(hfm:X.env.frame=some X.env.locals)(I:a6 X ah σ H s)(hf:∀b∈fp,dM X ah H b)(hC:s.heap.objs.size<=C)(hcf:cenv.frame=X.env.frame)(h:XC X scope N s H E C fp e s'):notedBy (model X.prog X.w) X.A cenv (λe s''=>compPost (model X.prog X.w) X.A X.xe none Q acc C (.error e) s'') e s':=by
 obtain⟨pins1,σ1,H1,s1,I1,H',B,a,Cc,rfl,fl,q⟩:=h
 have I2:a6 X ah σ H1 s1:=rR I hf I1
 obtain⟨m,hns,_⟩:=I1.loc
 have hns:s1.heap.Ns C m:=hns;have HC1:H1 C=none:=I1.free
 obtain⟨oC,es,ep,hoC,hdC,hsk,hnf⟩:=hns
 have nfr:C∉b9 X.stack:=λz=>by
  rcases aI1.mp (I.stkSub C z) with y|y
  ·exact absurd (aH8 I.lt hC) (by rw[y];exact aL3 _)
  ·exact I.nofs hC y
 have BC:B.get? C=some oC:=fl.b1 C oC hoC HC1 nfr;have HC':H' C=none:=fl.un.free C oC hoC HC1 (by simp)
 obtain⟨a0,fly⟩:=fl.fly
 unfold notedBy;rw[at7 hcf];have fly0:Heap.FlyingW B (X.env::X.outer) a (.ref Cc) a0 s'.heap:=hst▸fly;refine wpAny_looks_onW (by rw[I.ok.frames,hst]) hfm fly0 λh1 held up=>?_
 obtain⟨k1,k2,k3,k4⟩:=held
 refine⟨m,⟨oC,es,ep,k1 _ _ BC,hdC,hsk,hnf⟩,λh' sb cenv' hc'=>?_⟩
 obtain⟨oe,vs,T,oT,ts,he,hcls,hd,hv1,hnT,hTe,hT,hdT,h3⟩:=k4
 have aC:a≠C:=λz=>by rw[z,BC]at k2;cases k2
 have TC:T≠C:=λz=>by rw[z,BC]at hnT;cases hnT
 have he':h'.get? a=some oe:=(sb.2 a aC).trans he;have hT':h'.get? T=some oT:=(sb.2 T TC).trans hT;have hsz3:3<ts.size:=(Array.getElem?_eq_some_iff.mp h3).1;unfold PySem.passOn;refine aG9 (aM7 (s:={ s' with heap:=h' }) he' hd hv1 ?_);rw[if_neg (show ¬((Value.ref T==Value.none)=true) from by simp)];refine aG9 ?_;unfold setFlight;refine aG9 (aM7 (s:={ s' with heap:=h' }) he' hd hv1 ?_);rw[if_pos (show (Value.ref T != Value.none)=true from by simp)];refine wpAny_setField (s:={ s' with heap:=h' }) hT' hdT hsz3 (wpAny_throw ?_);generalize hv:(cenv'.frame.elim Value.none λf=>rawInt f)=fv;generalize hh2:h'.update T (Obj.mapFields (·.setIfInBounds 3 fv))=h2;have other:∀b,b≠T->h2.get? b=h'.get? b:=λb hb=>by rw[<- hh2];exact aN7 _ _ (Ne.symm hb)
 have nC2:(PySem.W.hideAll B [C]).get? C=none:=PySem.W.hideAll_none [C] (.head _);have inB:∀{b o},B.get? b=some o->b≠C->(PySem.W.hideAll B [C]).get? b=some o:=λ{b o} e n=>PySem.W.hideAll_get [C] e λz=>n (aI2.mp z)
 have ofB:∀{b o},(PySem.W.hideAll B [C]).get? b=some o->B.get? b=some o:=λ{b o} e=>PySem.W.of_hideAll [C] e
 have none2:∀{b},B.get? b=none->(PySem.W.hideAll B [C]).get? b=none:=λ{b} e=>by
  cases z:(PySem.W.hideAll B [C]).get? b with
  |none=>rfl
  |some o=>rw[ofB z]at e;cases e
 have neC:∀{b o},(PySem.W.hideAll B [C]).get? b=some o->b≠C:=λ{b o} e z=>by rw[z,nC2]at e;cases e
 have stay:(PySem.W.hideAll B [C]).StaysIn h2:=λb o e=>by
  rw[other b (λz=>by rw[z]at e;rw[ofB e]at hnT;cases hnT),sb.2 b (neC e)];exact k1 _ _ (ofB e)
 have upS:∀b o,s'.heap.get? b=some o->(∀vs,o.data≠.fields vs)->b≠C->∃sl,h2.get? b=some { o with slots:=sl }:=λb o e nf n=>by
  obtain⟨sl,e1⟩:=up b o e nf
  refine⟨sl,?_⟩;rw[other b (λz=>?_),sb.2 b n]
  ·exact e1
  ·rw[z]at e1
   rw[hT]at e1;cases e1;exact nf ts hdT
 have hne:∀{b u},H' b=some u->b≠C:=λ{b u} e z=>by rw[z,HC']at e;cases e
 have tr2:∀{b u o},H' b=some u->s'.heap.get? b=some o->(PySem.W.hideAll B [C]).get? b=some o:=λ{b u o} e g=>inB (fl.b2 b u o e g) (hne e)
 refine pa ah σ H1 H' s1 _ (PySem.W.hideAll B [C]) a Cc [C] I2 (λb hb=>?_) ⟨fl.os,fl.bare,⟨λb o e n hb hx=>?_,λb o e n hb hx=>?_,λb o e n hx=>fl.un.free b o e n (by simp),λb o e hx=>?_,fl.un.tups,fl.un.frzs,fl.un.tbls⟩,λb u e=>?_,stay,none2 k2,?_,?_,λb o e hb hx=>?_,λb o e n hb hx=>?_,λb u o e g=>?_⟩ q
 ·rw[aI2.mp hb]
  exact⟨I.fpOk hC HC1,aK4 I.sz hC⟩
 ·exact stay _ _ (inB (fl.b1 b o e n hb) λz=>hx (by rw[z];exact .head _))
 ·obtain⟨sl,e1⟩:=fl.un.slot b o e n hb (by simp)
  have nf:∀vs,o.data≠.fields vs:=by
   obtain⟨_,o2,e2,nf⟩:=I2.stack.mem hb
   rw[e]at e2;cases e2;exact nf
  obtain⟨sl2,e2⟩:=upS b _ e1 nf λz=>hx (by rw[z];exact .head _)
  exact⟨sl2,e2⟩
 ·by_cases hb:b∈b9 X.stack
  ·have n:=I2.stkFree b hb
   obtain⟨sl,e1⟩:=fl.un.slot b o e n hb (by simp)
   have nf:∀vs,o.data≠.fields vs:=by
    obtain⟨_,o2,e2,nf⟩:=I2.stack.mem hb
    rw[e]at e2;cases e2;exact nf
   obtain⟨sl2,e2⟩:=upS b _ e1 nf λz=>hx (by rw[z];exact .head _)
   exact⟨_,e2⟩
  ·obtain⟨o',e1⟩:=fl.b0 b o e hb
   exact⟨o',stay _ _ (inB e1 λz=>hx (by rw[z];exact .head _))⟩
 ·refine (fl.hok b u e).stay (λc v hc g=>?_) (λ_ g=>g) λ_ _ g=>g
  rcases hc with z|z
  ·subst z;exact stay _ _ (tr2 e g)
  ·exact stay _ _ (tr2 z g)
 ·rw[hst]
  have ff:h1.FunFrames B (X.env::X.outer):=k3;have ff2:∀{l:List Env},h1.FunFrames B l->h2.FunFrames (PySem.W.hideAll B [C]) l:=by
   intro l
   induction l with
   |nil=>exact λ_=>trivial
   |cons en l ih=>
    rintro⟨hk,⟨Lf,o,hfL,hn,ho,hdd⟩,hr⟩
    refine⟨hk,⟨Lf,o,hfL,none2 hn,?_,hdd⟩,ih hr⟩;have n1:Lf≠C:=λz=>by rw[z,BC]at hn;cases hn
    have n2:Lf≠T:=λz=>by
     rw[z,hT]at ho;cases ho;exact absurd hdT (hdd ts)
    rw[other Lf n2,sb.2 Lf n1];exact ho
  exact ff2 ff
 ·refine⟨a0,fv,oe,vs,T,Obj.mapFields (·.setIfInBounds 3 fv) oT,ts.setIfInBounds 3 fv,(other a (Ne.symm hTe)).trans he',hcls,hd,hv1,none2 hnT,hTe,?_,aR4 hdT _,?_⟩
  ·rw[<- hh2]
   exact aR8 _ hT' (Obj.isFreed_of_fields (aR4 hdT _))
  ·show (ts.setIfInBounds 3 fv)[3]? = some fv
   simp[hsz3]
 ·obtain⟨o',e1⟩:=fl.b0 b o e hb
  exact⟨o',inB e1 λz=>hx (by rw[z];exact .head _)⟩
 ·exact inB (fl.b1 b o e n hb) λz=>hx (by rw[z];exact .head _)
 ·obtain⟨ob,e1⟩:=(fl.hok b u e).at
  have e2:=tr2 e e1;have e3:=stay _ _ e2;rw[show h2.get? b=some o from g]at e3;cases e3;exact e2
end
end L2
namespace PP
open PySem L2
section
variable {X:Cx}{σ:L2.St}{H:Hp}{D:cP}{tr:bN}{Q':VK}{a b c e:Expr}{es:List Expr}{pos p2:Pos}{t:aM}{te:aE}{tc:cD}{Ep:Str→Prop}
variable {scope:Scope}{N:List Str}{fr:List (Option Nat)}{x y:Str}{tp:Pos}{iter elt tg:Expr}{ifs:List Expr}{ti:dN}{wi:TI}{gh:Hp→TG}{tch:Hp→TT}{teh:Hp→TE}
noncomputable def u8 (X:Cx)(wi:TI)(fr:List (Option Nat))(gh:Hp->TG)(tch:Hp->TT)(teh:Hp->TE):TE:=λσ H Q=>wi σ H λJ H1=>aD X.H₀ H1/\∀D,H1 D=none->
 ∃W:Nat->Nat->List V->Hp->Prop,(∃m,W 0 m [] (upd H1 D (.lst [])))/\oM (gh H1) (tch H1) (teh H1) (dG fr σ) J D Q W
theorem C1 {E E':XK}(pa:gE X E)(h:∀c d H',E' c d H'->E c d H'):gE X E':=λah σ H H' s s' B a C ch I hc fl q=>pa ah σ H H' s s' B a C ch I hc fl (h _ _ _ q)
theorem au2 (pa:gE X (EX X.K X.H₀ Ep))(hst:X.stack=X.env::X.outer)(hfm:X.env.frame=some X.env.locals)(hc:X.calm=true)(S:cQ X scope N fr)(hi:PI X tg iter wi)(B:∀(s:aw) (H:Hp),u7 X scope N tg ifs elt s H (XC X scope N s H (EX X.K H Ep)) (gh H) (tch H) (teh H))(hs:∀x,foldedSetIterable iter X.env x=pure x:=by intro _;rfl):PE X (.ListComp elt [⟨tg,iter,ifs,0⟩] scope pos) (u8 X wi fr gh tch teh):=by
 intro ah s σ H Q I h;rw[eval_ListComp];refine wpAny_comprehension_free (use:=none) rfl hs (oG (S.cells I)) S.kind S.names (aR (hi ah s σ H _ I h) λv s1 h1=>aR h1 λitv s2 h2=>?_)
 obtain⟨it,fp,tn,J,H2,e,I2,T,st2,f2,sm,hW⟩:=h2
 subst e;have pa2:gE X (EX X.K H2 Ep):=C1 pa λc d H' z=>⟨z.1,sm.trans z.2.1,z.2.2⟩
 refine B8 (Rr:=λacc C=>compPost (model X.prog X.w) X.A X.xe none (EP X ah σ Q) acc C) hc S (B _ _) I2 T st2 f2 hW (λD C e s' hC hx=>C0 pa2 hst hfm I2 f2 hC rfl hx) ?_;intro D C s' H' m hC hD I' hns hHC q
 exact⟨m,hns,λh' sb=>⟨.ref D,H',I2.drop hC I' hHC sb,rfl,q⟩⟩
theorem C2 {p:iE}{g:TG}{own:Nat->Prop}(hg:lI X.K own p g)(ho:∀i,own i->fr[i]? = some none)(h:LE X (dO ti fr p tc te) σ H Q') :
  u8 X (LI X ti) fr (λ_=>g) (λH1=>LT (X.frm H1) tc) (λH1=>LE (X.frm H1) te) σ H Q':=by
 obtain⟨W,ρ,Q2,px,q2,k2⟩:=p7 hg ho h
 exact⟨W,ρ,Q2,px,q2,λJ H1 xs gb s it hq=>⟨px.same.trans s,k2 J H1 xs gb s it hq⟩⟩
theorem au3 (pa:gE X (EX X.K X.H₀ Ep))(hi:QI X (.Name x tp) iter ti)(he:∀(s:aw) (H:Hp) (C:ax) (fp:List ax),QE (bG X scope N s H C fp (XC X scope N s H (EX X.K H Ep) C fp)) elt te)(hst:X.stack=X.env::X.outer:=by rfl)(hfm:X.env.frame=some X.env.locals:=by rfl)(hc:X.calm=true:=by rfl)(S:cQ X scope N fr:=by exact cQ.of rfl rfl)(hN:N.Nodup:=by decide +kernel)(h0:N[0]? = some x:=by rfl)(hl:∀(s:aw) (H:Hp) (C:ax) (fp:List ax),(bG X scope N s H C fp cV).env.scope.names.lookup x=some .local:=by intro _ _ _ _;rfl)(hf:fr[0]? = some none:=by rfl)(hs:∀x,foldedSetIterable iter X.env x=pure x:=by intro _;rfl):QE X (.ListComp elt [⟨.Name x tp,iter,[],0⟩] scope pos) (dO ti fr (bX 0) cL te):=
 bP (au2 (gh:=λ_=>dE 0) (tch:=λH=>LT (X.frm H) cL) (teh:=λH=>LE (X.frm H) te) pa hst hfm hc S hi
  (λs H=>⟨λC fp=>kZ (X:=bG X scope N s H C fp (XC X scope N s H (EX X.K H Ep) C fp)) hN h0 (.inl (hl s H C fp)) (.inr (hl s H C fp)),λC fp=>mX (Y:=bG X scope N s H C fp (XC X scope N s H (EX X.K H Ep) C fp)),λC fp=>he s H C fp⟩) hs) λ_ _ _=>C2 (mS _ 0) (λi e=>by subst e;exact hf)
theorem C3 {k j:Nat}{x:Str}{ps:List Str}{p:dZ}(hp:jT (cB X.prog X.w) X (EX X.K X.H₀ Ep))(d:cJ X.prog X.w X.K X.mg X.base k x ps p)(hr:bS j X.A)(ha:QA X (e::es) tr)(hkj:k<=j:=by decide)(hg:Gl X x:=by rfl)(hdb:(x==("__debug__":Str))=false:=by decide)(he:starEach (e::es) X.env=(false,eval e X.env)::starEach es X.env:=by rfl)(hpl:(backTo pos (starEach es X.env)).any (·.1)=false:=by rfl):QE X (.Call (.Name x p2) (e::es) [] pos) (jJ Ep p tr):=by
 obtain⟨f,fd,F,b,kp,m⟩:=d.ex
 exact bP (rC F (hr.mono hkj) hg m kp b .nil hp ha hdb he hpl) λ_ _ _=>zT
end
theorem cJ.ofA {P:ay}{w:bf}{K:ae}{mg:Str->Option ar}{base:Heap}{k:Nat}{x:Str}{ps N:List Str}{p:dZ}{st:Stmt}{f:ax}{fd:FuncData}(F:dW K x x st f fd)(m:mg x=some (.ref f))(S:FnScope N ps (aT st))(hb:∀(kV doc pm:ar) (an:Option ax) (cdv ct:ar) (us:List ar),us.length=ps.length->bindArgs (PySem.W.fnOf x x (g9 st) (cR st) (aT st) .none kV doc pm an cdv ct) ⟨us,[]⟩=pure (ps.zip us))(t:(Str->Prop)->aM)(len:∀Ep xs Q,p Ep xs Q->xs.length=ps.length)(rd:∀Ep xs Q,p Ep xs Q->t Ep { nx:=λ_=>Q .non,rt:=Q } (dB N xs))(body:∀(cdv:ar) (A:ba) (outer:List Env) (s:aw) (H:Hp) (E:XK) (Ep:Str->Prop),bS k (A.deeper (PyProof.Rows.envOfC x (aT st) s.heap.objs.size f cdv))->kD (c7 (cB P w) P w K mg base N x (aT st) f cdv A outer s H E) (EX K H Ep)->gE (c7 (cB P w) P w K mg base N x (aT st) f cdv A outer s H E) (EX K H Ep)->
   cT (c7 (cB P w) P w K mg base N x (aT st) f cdv A outer s H E) (cR st) (t Ep)):cJ P w K mg base (k+1) x ps p:=by
 refine⟨f,fd,F.okX S (λvs H Q E h=>?_) (λcdv A outer s H vs Q E hr h=>?_),F.binds hb,F.kp,m⟩
 ·obtain⟨xs,Qp,Ep,r,q,_⟩:=h
  rw[r.length];exact len Ep xs Qp q
 ·obtain⟨xs,Qp,Ep,r,q,k,ke⟩:=h
  have hE:∀c d H',EX K H Ep c d H'->E c d H':=λc d H' z=>by
   obtain⟨rfl,s,n,C,rfl,h1,h2⟩:=z
   exact ke n C H' s h1 h2
  have ht:=body cdv A outer s H E Ep hr (yU hE) (au1 hE);refine⟨_,ht,λ_=>False,dB N xs,_,pC r,rd Ep xs Qp q,?_,?_,?_,?_⟩
  ·exact λW' σ' H' ρ' e px q=>k _ _ _ px.same .non q
  ·exact λv H' x s r q=>k _ _ _ s r q
  ·exact λW' σ' H' ρ' e px q=>q
  ·exact λW' σ' H' ρ' e px q=>q
end PP
namespace Txs
open PySem
noncomputable abbrev nS (n:Nat):Str:=Str.ofString (toString (n:Int))
end Txs
namespace L2
open PySem PySem.Spec PyProof.Rows Txs
section
variable {X:Cx}
theorem C4:∀l:List (Str×Tok),aO ((l.map (·.1)).map V.str) (strValues l)
 |[]=>.nil
 |p::l=>.cons ⟨p.2,rfl⟩ (C4 l)
theorem au4:oB X "str.split" (λx vs H Q=>∃a b:Str,x = .str a/\vs = [.str b]/\b.length≠0/\a.length<=100000/\∀p,H p=none->Q (.ref p) (upd H p (.lst ((Txt.split a b).map V.str)))):=by
 rintro ah s σ H x xs v us Q I rx rv ⟨a,b,rfl,rfl,hb,ha,q⟩
 obtain⟨t,rfl⟩:=rx
 obtain⟨u,rfl,t2,rfl⟩:=e8 rv
 have hb:(b.length==0)=false:=by simpa using hb
 have ol:=StrLaws.occ_length_le a b 0 a.length (a.length+1);have sz:a.length+2<=sizeLine:=by rw[aS2];omega
 have fin:∀(l:List (Str×Tok)) (k:Nat),l.map (·.1)=Txt.split a b->l.length<=a.length+2->EP X ah σ Q (.ref s.heap.objs.size) { s with heap:=s.heap.push { cls:=.type "list",data:=.seq (strValues l).toArray },toks:=k }:=λl k e hl=>by
  refine⟨.ref s.heap.objs.size,_,I.laid (t':=k) (o:=.lst ((l.map (·.1)).map V.str)) (λb ob z=>aH1 _ z) (aH9 _) ⟨by rw[aH4,aH4];omega,strValues l,0,C4 l,aJ0 _ rfl⟩,rfl,?_⟩;rw[e];exact q _ (I.hok.fresh (aH9 _))
 cases h1:(decide (a.length<b.length)||decide (Builtin.Str.strKind a<Builtin.Str.strKind b)) with
 |true=>exact call_meets F.slot_str_split (typeIs_str _ _ _) F.entry_str_split (F.args_str_split_2 _ _) (meets_str_split_cannot_occur a b t t2 h1) (fin [(a,t)] s.toks (if_pos h1).symm (by show 1<=_;omega))
 |false=>
  have iB:=ne_true_of_eq_false h1;cases hf:(Builtin.Str.occurrences a b 0 a.length (a.length+1)).isEmpty with
  |true=>exact call_meets F.slot_str_split (typeIs_str _ _ _) F.entry_str_split (F.args_str_split_2 _ _) (meets_str_split_not_found a b t t2 h1 hb hf) (fin [(a,t)] s.toks ((if_neg iB).trans (if_pos hf)).symm (by show 1<=_;omega))
  |false=>
   refine call_meets F.slot_str_split (typeIs_str _ _ _) F.entry_str_split (F.args_str_split_2 _ _) (meets_str_split_sep a b t t2 h1 hb hf (by omega) (by rw[length_partsBetween];omega)) ?_;have e:Txt.split a b=Builtin.Str.partsBetween a (Builtin.Str.occurrences a b 0 a.length (a.length+1)) b.length:=(if_neg iB).trans (if_neg (ne_true_of_eq_false hf));have r:=λk=>fin (numbered s.toks (Builtin.Str.partsBetween a (Builtin.Str.occurrences a b 0 a.length (a.length+1)) b.length)) k ((numbered_texts _ _).trans e.symm) (by have:=congrArg List.length (numbered_texts s.toks (Builtin.Str.partsBetween a (Builtin.Str.occurrences a b 0 a.length (a.length+1)) b.length));rw[aH4,length_partsBetween]at this;omega)
   rw[<- strsFrom_eq]at r;exact r _
theorem C5:∀{ws:List Str}{us:List ar},aO (ws.map V.str) us->CarriedAll us (ws.map λa=>PyData.str a)
 |[],_,.nil=>.nil
 |_::_,_,.cons ⟨_,e⟩ r=>by subst e;exact .cons (.str _ _) (C5 r)
theorem au5:oB X "str.join" (λx vs H Q=>∃(a:Str) (l:ax) (ws:List Str),x = .str a/\vs = [.ref l]/\aS X.K H l (ws.map V.str)/\(∀w∈ws,w.length<=12)/\a.length<=4/\ws.length<=100000/\Q (.str (Txt.join a ws)) H):=by
 rintro ah s σ H x xs v us Q I rx rv ⟨a,l,ws,rfl,rfl,hl,hw,ha,hn,q⟩
 obtain⟨t,rfl⟩:=rx
 obtain⟨u,rfl,ru⟩:=e8 rv
 cases ru
 obtain⟨its,r,p,_⟩:=I.list hl
 have:=PySem.W.KT.join_B (g:=λa:Str=>a) 12 p.isList (C5 r) hw (by omega) (by omega) (Q:=EP X ah σ Q) (x:=a) (t:=t) (prog:=X.prog) (w:=X.w) (A:=X.A) (E:=X.xe) λt' k=>⟨.str _,H,I.tok k,⟨_,rfl⟩,by rw[List.map_id'];exact q⟩
 exact this
end
theorem au6:∀m:Nat,m<61->(m:Int).natAbs.log2<1920:=by decide +kernel
theorem au7:∀m:Nat,m<61->(nS m).length<=2:=by decide +kernel
section
variable {X:Cx}{a b:Expr}{ta tb:TE}{pos p1 p2 p3:Pos}{c:Str}{kk:Nat}
theorem dR (x y:Str):(x++y).length=x.length+y.length:=strLen_append x y
end
end L2
namespace PP
open PySem L2 PyProof.Rows Txs
section
variable {X:Cx}{σ:L2.St}{H:Hp}{Q':VK}{a b e o:Expr}{ta tb te:aE}{tr:bN}{pos p1 p2 p3 ai aj:Pos}{c:Str}{kk:Nat}
noncomputable def nG:List PV->(PV->Prop)->Prop:=λxs Q=>∃n:Nat,xs = [.int n]/\n<61/\Q (.str (nS n))
theorem au8:eQ X nG (λxs H Q=>∃i,xs = [.int i]/\i.natAbs.log2<1920/\Q (.str (toString i:String)) H):=by
 rintro H vs xs Q Q' r ⟨n,rfl,hn,q⟩ k
 obtain⟨v,rfl,r1⟩:=r.one
 cases r1
 exact⟨_,rfl,au6 n hn,k _ _ _ (aD.refl _) (.str _) q⟩
theorem u9 (bs:X.mg "str" = none)(ha:QA X [e] tr)(hg:Gl X "str":=by rfl)(he:starEach [e] X.env=(false,eval e X.env)::starEach [] X.env:=by rfl)(hpl:(backTo pos (starEach [] X.env)).any (·.1)=false:=by rfl):QE X (.Call (.Name "str" p2) [e] [] pos) (aF nG tr):=
 mV V2 au8 hg bs PyProof.Rows.boot_str ha (he:=he) (hpl:=hpl)
noncomputable def stxs (ws:List Str):List PV:=ws.map PV.str
theorem Reps.stxs {K:ae}{M:ax->Prop}{H:Hp}:∀ws:List Str,Reps K M H (ws.map V.str) (stxs ws)
 |[]=>.nil
 |_::l=>.cons (.str _) (Reps.stxs l)
theorem Reps.ofTxs {K:ae}{M:ax->Prop}{H:Hp}:∀{ws:List Str}{us:List V},Reps K M H us (PP.stxs ws)->us=ws.map V.str
 |[],_,.nil=>rfl
 |n::r,_,.cons q t=>by
  cases q;rw[Reps.ofTxs t];rfl
noncomputable def kK (te:aE)(tr:bN):aE:=λρ Q=>te ρ λx _=>∃a:Str,x = .str a/\tr ρ λxs=>∃b:Str,xs.map (·.1) = [.str b]/\b.length≠0/\a.length<=100000/\Q (.lst (stxs (Txt.split a b))) .fr
theorem kM (ho:QE X o te)(ha:QA X [e] tr)(hbase:attributeBase o "split" X.env (eval o X.env)=eval o X.env:=by rfl)(hfew:((backTo aj (starEach [e] X.env)).all (λx=>!x.1)&&(backToKw aj (keywordEach [] X.env)).all (λx=>x.1.isSome)&&decide (([e]:List Expr).length+([]:List Keyword).length+(if ([]:List Keyword).isEmpty then 0 else 1)<30))=true:=by rfl)(hline:(ai.endLine==aj.line)=true:=by rfl)(hs:starEach [e] X.env=(false,eval e X.env)::starEach [] X.env:=by rfl)(aq:(backTo aj (starEach [] X.env)).any (·.1)=false:=by rfl) :
  QE X (.Call (.Attribute o "split" ai) [e] [] aj) (kK te tr):=
 bP (lA PySem.F.plainAttrs_str PySem.F.slot_str_split PySem.F.type_str_split au4 ho ha hbase hfew hline hs aq) λσ H Q' h=>by
  obtain⟨W,ρ,Q,px,q,k⟩:=h
  refine⟨W,ρ,_,px,q,?_⟩;rintro v H1 x g s r ⟨a,rfl,q⟩;cases r;refine⟨rfl,W,ρ,_,px.mono s,q,λvs H2 xs s2 rs q2=>?_⟩
  obtain⟨b,e,hb,ha,q⟩:=q2
  have rs:=rs.any;rw[e]at rs
  obtain⟨w,rfl,rw'⟩:=rs.one
  cases rw';have S:=s.trans s2
  exact⟨a,b,rfl,rfl,hb,ha,λp hp=>k _ _ _ .fr (S.trans (bY hp _)) (.lst (S.free hp) cA (Reps.stxs _)) q⟩
noncomputable def uA (te:aE)(tr:bN):aE:=λρ Q=>te ρ λx _=>∃a:Str,x = .str a/\tr ρ λxs=>∃ws:List Str,xs.map (·.1) = [.lst (stxs ws)]/\(∀w∈ws,w.length<=12)/\a.length<=4/\ws.length<=100000/\Q (.str (Txt.join a ws)) .fr
theorem C6 (ho:QE X o te)(ha:QA X [e] tr)(hbase:attributeBase o "join" X.env (eval o X.env)=eval o X.env:=by rfl)(hfew:((backTo aj (starEach [e] X.env)).all (λx=>!x.1)&&(backToKw aj (keywordEach [] X.env)).all (λx=>x.1.isSome)&&decide (([e]:List Expr).length+([]:List Keyword).length+(if ([]:List Keyword).isEmpty then 0 else 1)<30))=true:=by rfl)(hline:(ai.endLine==aj.line)=true:=by rfl)(hs:starEach [e] X.env=(false,eval e X.env)::starEach [] X.env:=by rfl)(aq:(backTo aj (starEach [] X.env)).any (·.1)=false:=by rfl) :
  QE X (.Call (.Attribute o "join" ai) [e] [] aj) (uA te tr):=
 bP (lA PySem.F.plainAttrs_str PySem.F.slot_str_join PySem.F.type_str_join au5 ho ha hbase hfew hline hs aq) λσ H Q' h=>by
  obtain⟨W,ρ,Q,px,q,k⟩:=h
  refine⟨W,ρ,_,px,q,?_⟩;rintro v H1 x g s r ⟨a,rfl,q⟩;cases r;refine⟨rfl,W,ρ,_,px.mono s,q,λvs H2 xs s2 rs q2=>?_⟩
  obtain⟨ws,e,hw,ha,hn,q⟩:=q2
  have rs:=rs.any;rw[e]at rs
  obtain⟨w,rfl,rw'⟩:=rs.one
  obtain⟨l,us,rfl,_,h,r2⟩:=rw'.sqL
  obtain rfl:=r2.ofTxs
  exact⟨a,l,ws,rfl,rfl,aS.of h,hw,ha,hn,k _ _ _ .fr (s.trans s2) (.str _) q⟩
noncomputable def eS:List PV->(PV->Prop)->Prop:=λxs Q=>∃z:Str,xs = [.str z]/\z.length<=100000/\Q (.int z.length)
theorem au9:eQ X eS (λxs H Q=>∃z,xs = [.str z]/\z.length<=sizeLine/\Q (.int z.length) H):=by
 rintro H vs xs Q Q' r ⟨n,rfl,hn,q⟩ k
 obtain⟨v,rfl,r1⟩:=r.one
 cases r1
 exact⟨n,rfl,by rw[aS2];omega,k _ _ _ (aD.refl _) (.int _) q⟩
noncomputable def iQ:PV->Tg->PV->Tg->PK->Prop:=λx _ y _ Q=>∃(z:Str) (i:Int) (c:Nat),x = .str z/\y = .int i/\z.length<=100000/\L2.atI z.cps.toList i=some c/\Q (.str ⟨#[c]⟩) .fr
theorem av0:cI X iQ rK:=by
 rintro W Hs H u v x y g g' Q Q' s n r1 r2 ⟨z,i,c,rfl,rfl,hz,hc,q⟩ k;cases r1;cases r2
 exact⟨z,i,c,rfl,rfl,by rw[aS2];omega,hc,k _ _ _ .fr (aD.refl _) (.str _) q⟩
noncomputable def kN:PV->Tg->PV->Tg->PK->Prop:=λx _ y _ Q=>∃i j:Str,x = .str i/\y = .str j/\Q (.bl (!(Builtin.Str.occurrences j i 0 j.length 1).isEmpty)) .fr
theorem C7:cI X kN (λx y H Q=>∃i j,x = .str i/\y = .str j/\Q (.bl (!(Builtin.Str.occurrences j i 0 j.length 1).isEmpty)) H):=by
 rintro W Hs H u v x y g g' Q Q' s n r1 r2 ⟨i,j,rfl,rfl,q⟩ k;cases r1;cases r2
 exact⟨i,j,rfl,rfl,k _ _ _ .fr (aD.refl _) (.bl _) q⟩
theorem av1 (ha:QE X a ta)(hb:QE X b tb)(hm:behindInMarks .In b=false:=by rfl):QE X (.Compare a [.In] [b] pos) (q2 kN ta tb):=pB vL C7 ha hb hm
end
end PP
namespace L2
open PySem PySem.Spec PyProof.Rows Txs
noncomputable def C8 (x:Str):It:=⟨λi _=>i<x.cps.size,λi H v H'=>H'=H/\∃c,x.cps[i]? = some c/\v = .str ⟨#[c]⟩,λi _=>x.cps.size<=i⟩
theorem av2 {P:ay}{w:bf}{K:ae}{tg:Expr}(x:Str)(t:Tok)(it:ax):gH P w K tg (C8 x) [it] it (λi h=>h.IsStrIter it "str_ascii_iterator" x t i) where
 mem:=by simp
 obj:=λi h st b hb=>by
  have e:b=it:=by simpa using hb
  subst e
  obtain⟨o,e,c,d⟩:=st
  exact⟨o,e,λv z=>by rw[d]at z;cases z⟩
 keep:=λi h h' st k=>by
  obtain⟨o,e,r⟩:=st
  exact⟨o,k it (by simp) o e,r⟩
 item:=by
  intro X hP hw hK hc i ah s σ H E I hf st hg;subst hP hw hK
  obtain⟨f0,f1,f2,f3,f4,f5⟩:=hf it (by simp)
  have hx:x.cps[i]? = some x.cps[i]:=Array.getElem?_eq_getElem hg;refine wpAny_pyNext_ascii_item st hx λh' st' sb=>?_
  have I1:a6 X ah σ H { s with heap:=h',toks:=s.toks+1 }:=I.turned (t':=s.toks+1) (λb o hb e=>(sb.2 b hb).trans e) f0 f1 f3 f4 f5
  obtain⟨o,e,c,d⟩:=id st'
  exact⟨_,rfl,o9 (s:={ s with heap:=h',toks:=s.toks+1 }) e c d (by decide) ⟨.str ⟨#[x.cps[i]]⟩,H,I1,⟨_,rfl⟩,⟨rfl,_,hx,rfl⟩,st',λb hb=>(hf b hb).1⟩⟩
 done:=by
  intro X hP hw hK hc i ah s σ H E I hf st hg;subst hP hw hK
  obtain⟨f0,f1,f2,f3,f4,f5⟩:=hf it (by simp)
  exact wpAny_pyNext_ascii_end (I.ok.hd hc) st (Array.getElem?_eq_none hg) λh' eb=>⟨rfl,I.turned (t':=s.toks) (λb o hb e=>eb b o hb e) f0 f1 f3 f4 f5⟩
 self:=λ_ _ _ _ _ st h=>wpAny_pyIter_striter_ascii st h
section
variable {X:Cx}
noncomputable def av3 (tl:TE):TI:=λσ H R=>tl σ H λv H1=>∃x:Str,v = .str x/\x.cps.all (·<128)=true/\R (C8 x) H1
theorem av4 {tg l:Expr}{tl:TE}(hl:PE X l tl):PI X tg l (av3 tl):=by
 intro ah s σ H R I h;refine aR (hl ah s σ H _ I h) λv s1 ⟨y,H1,I1,r1,q1⟩=>?_
 obtain⟨x,rfl,ha,q⟩:=q1
 obtain⟨t,rfl⟩:=r1
 refine wpAny_pyIter_ascii ha ?_;refine⟨s1.heap.objs.size,[s1.heap.objs.size],_,_,H1,rfl,I1.kept (t':=s1.toks) λb o e=>aH1 _ e,av2 x t _,⟨_,aJ0 _ rfl,rfl,rfl⟩,λb hb=>?_,q⟩;have e:b=s1.heap.objs.size:=by simpa using hb
 subst e;exact I1.fpOk (aH9 _) (I1.hok.fresh (aH9 _))
end
theorem C9 {α β:Type}{f g:α->Option β}:∀{l:List α},(∀x∈l,f x=g x)->l.filterMap f=l.filterMap g
 |[],_=>rfl
 |a::l,h=>by
  rw[List.filterMap_cons,List.filterMap_cons,h a aH6,C9 λx hx=>h x (aI0 _ hx)]
end L2
namespace PP
open PySem L2 PyProof.Rows Txs
section
variable {X:Cx}{σ:L2.St}{H:Hp}{R:It→Hp→Prop}{a b e l tg:Expr}{ta tb te:aE}{tr:bN}{tl th:iG}{lo hi:Option Expr}{pos p2 px sp:Pos}
noncomputable def fR (x:Str):List PV:=x.cps.toList.map λc=>PV.str ⟨#[c]⟩
noncomputable def nH (te:aE):dN:=λρ Q=>te ρ λv _=>∃x:Str,v = .str x/\x.cps.all (·<128)=true/\Q (fR x) true
theorem E1 (hl:QE X l te):QI X tg l (nH te):=mU (av4 hl) λσ H R h=>by
 obtain⟨W,ρ,Q,px,q,k⟩:=h
 refine⟨W,ρ,_,px,q,?_⟩;rintro v H1 y g s r ⟨x,rfl,ha,q⟩;cases r;refine⟨x,rfl,ha,k _ _ _ _ s ⟨λW' H' i _ hi=>?_,λW' H' i v H2 _ yl hi=>?_,λW' H' _=>?_⟩ q⟩
 ·unfold fR at hi;rw[aH4,aN2]at hi;exact hi
 ·obtain⟨rfl,c,hc,rfl⟩:=yl
  refine⟨aD.refl _,.str ⟨#[c]⟩,?_,.str _⟩;unfold fR;rw[aI8,Array.getElem?_toList,hc];rfl
 ·show x.cps.size<=(fR x).length
  unfold fR;rw[aH4,aN2];exact aH9 _
theorem gF (B:Bt X.mg)(ha:QA X [e] tr)(hg:Gl X "len":=by rfl)(he:starEach [e] X.env=(false,eval e X.env)::starEach [] X.env:=by rfl)(hpl:(backTo pos (starEach [] X.env)).any (·.1)=false:=by rfl):QE X (.Call (.Name "len" p2) [e] [] pos) (aF eS tr):=
 lM Z4 au9 hg B.len PySem.boot_len ha (he:=he) (hpl:=hpl)
theorem lV (ha:QE X a ta)(hb:QE X b tb)(hs:rJ b:=by exact λ_ _=>rfl):QE X (.Subscript a b pos) (q2 iQ ta tb):=bP (w6 wB ha hb hs) λ_ _ _=>mK av0
theorem E2 {x c:Str}{t:Nat}(hg:Gl X x)(hm:X.mg x=some (.str c t))(hd:(x==("__debug__":Str))=false:=by decide):QE X (.Name x pos) (qC (.str c)):=
 bP (qP (v:=.str c) hg hm ⟨t,rfl⟩ hd) λ_ _ _=>lE λ_=>.str c
end
section
variable {X:Cx}{a b:Expr}{ta tb:aE}{pos:Pos}
noncomputable def E3:PV->Tg->PV->Tg->PK->Prop:=λx _ y _ Q=>∃i j:Str,x = .str i/\y = .str j/\i.length+j.length<=1000000/\Q (.str (i++j)) .fr
noncomputable abbrev cO (ta tb:aE):aE:=q2 E3 ta tb
theorem av5:cI X E3 (λx y H Q=>∃i j:Str,x = .str i/\y = .str j/\i.length+j.length<=sizeLine/\Q (.str (i++j)) H):=by
 rintro W Hs H u v x y g g' Q Q' s n r1 r2 ⟨i,j,rfl,rfl,h,q⟩ k;cases r1;cases r2
 exact⟨i,j,rfl,rfl,by rw[aS2];omega,k _ _ _ _ (aD.refl _) (.str _) q⟩
theorem fU (ha:QE X a ta)(hb:QE X b tb):QE X (.BinOp a .Add b pos) (cO ta tb):=lK U8 av5 ha hb
end
end PP
namespace Core
open PySem L2 PP Txs
noncomputable abbrev Lc (x:Str):List Nat:=x.cps.toList
theorem kO (x y:Str):Lc (x++y)=Lc x++Lc y:=by
 show (x.cps++y.cps).toList=_;rw[Array.toList_append]
theorem cC (x:Str):x.length=(Lc x).length:=(aN2 ..).symm
noncomputable def jn (c:Nat):List (List Nat)->List Nat
 |[]=>[]
 |[w]=>w
 |w::v::r=>w++c::jn c (v::r)
theorem nJ (c:Nat):∀ws:List Str,Lc (Str.join ⟨#[c]⟩ ws)=jn c (ws.map Lc)
 |[]=>rfl
 |[_]=>rfl
 |x::y::r=>by
  show Lc (x++⟨#[c]⟩++Str.join ⟨#[c]⟩ (y::r))=_;rw[kO,kO,nJ c (y::r)];show Lc x++[c]++jn c ((y::r).map Lc)=_;rw[List.append_assoc];rfl
theorem uB (s:Str)(l:List Str):Txt.join s l=Str.join s l:=eq_of_beq (PyProof.Rows.join_plain_closes s l)
theorem pS (x y:Str):Txt.split x y≠[]:=by
 unfold Txt.split;split
 ·exact λz=>by cases z
 ·split
  ·exact λz=>by cases z
  ·intro z
   have:=congrArg List.length z
   rw[length_partsBetween]at this;cases this
noncomputable def E4 (x:Str):Bool:=decide (x.length=1)||(decide (x.length=2)&&!decide (x.cps.toList.head? = some 48))
theorem av6:∀n:Nat,n<61->E4 (nS n)=true:=by decide +kernel
theorem av7:∀n:Nat,n<61->((Lc (nS n)).all λc=>decide (48<=c)&&decide (c<=57))=true:=by decide +kernel
theorem pT {n c:Nat}(h:n<61)(hc:c∈Lc (nS n)):48<=c/\c<=57:=by
 have:=aM5.mp (av7 n h) c hc
 simpa using this
noncomputable abbrev iS (w:Int):Str:=nS w.toNat
noncomputable abbrev kQ:Str:="-"
noncomputable abbrev lS (l:Int×Int):Str:=iS l.1++kQ++iS l.2
theorem fV:(" ":Str)=⟨#[32]⟩:=by decide
theorem uC:("\n":Str)=⟨#[10]⟩:=by decide
theorem lW:kQ=⟨#[45]⟩:=by decide
theorem E5 {l:Int×Int}{c:Nat}(h1:l.1.toNat<61)(h2:l.2.toNat<61)(hc:c∈Lc (lS l)):(48<=c/\c<=57)∨c=45:=by
 rw[kO,kO,lW]at hc;rcases aL2.mp hc with hc|hc
 ·rcases aL2.mp hc with hc|hc
  ·exact .inl (pT h1 hc)
  ·exact .inr (aI2.mp hc)
 ·exact .inl (pT h2 hc)
theorem lX {w:Int}(h:w.toNat<61):(iS w).length<=2:=au7 _ h
theorem E6 {l:Int×Int}(h1:l.1.toNat<61)(h2:l.2.toNat<61):(lS l).length<=5:=by
 rw[dR,dR]
 have:=lX h1
 have:=lX h2
 have:kQ.length=1:=by decide
 omega
noncomputable def pU (w:Str):Prop:=Lc w≠[]/\(∀c∈Lc w,c≠46/\c≠32/\c≠10)/\w.length<=12
theorem av8 {w:Int}(h:w.toNat<61):pU (iS w):=by
 refine⟨λz=>?_,λc hc=>?_,?_⟩
 ·have o:=av6 _ h
  have l0:(nS w.toNat).length=0:=by rw[cC];rw[show Lc (nS w.toNat) = [] from z];rfl
  unfold E4 at o;rw[l0]at o;cases o
 ·have:=pT h hc
  omega
 ·have:=lX h
  omega
theorem av9 {l:Int×Int}(h1:l.1.toNat<61)(h2:l.2.toNat<61):pU (lS l):=by
 refine⟨λz=>?_,λc hc=>?_,?_⟩
 ·rw[kO,kO,lW]at z
  have:=congrArg List.length z
  rw[aJ3,aJ3]at this;simp at this
 ·have:=E5 h1 h2 hc
  omega
 ·have:=E6 h1 h2
  omega
theorem E7 {c x:Nat}:∀{A:List (List Nat)},x∈jn c A->x=c∨∃w∈A,x∈w
 |[],h=>by cases h
 |[w],h=>.inr ⟨w,aH6,h⟩
 |w::v::r,h=>by
  rcases aL2.mp h with h|h
  ·exact .inr ⟨w,aH6,h⟩
  ·rcases aI1.mp h with h|h
   ·exact .inl h
   ·rcases E7 h with h|⟨u,hu,h⟩
    ·exact .inl h
    ·exact .inr ⟨u,aI0 _ hu,h⟩
theorem E8:∀ws:List Str,flats (stxs ws)=true
 |[]=>rfl
 |_::ws=>by
  show (true&&flats (stxs ws))=true;rw[E8 ws];rfl
theorem dL (ws:List Str):(stxs ws).length=ws.length:=aH4 ..
theorem E9 (a:List Str)(w:Str):stxs a++[.str w]=stxs (a++[w]):=by unfold stxs;rw[aK6];rfl
noncomputable def F0 (ls:aa):Prop:=∀l∈ls,(0<=l.1/\l.1<=60)/\0<=l.2/\l.2<=60
theorem aw0 {ls:aa}(h:F0 ls):∀u∈ls.map lS,pU u:=λu hu=>by
 obtain⟨l,hl,rfl⟩:=aJ2.mp hu
 have:=h l hl
 exact av9 (by omega) (by omega)
theorem aw1 {i j:Nat}{a b:Int}{g:Bool}{ρ:bD}{Q:bD->Prop}(q:Q ((ρ.set i (si a)).set j (si b))):mT i j (.tup [.int a,.int b]) g ρ Q:=by
 refine⟨_,_,rfl,?_⟩;rw[show (g||flat (PV.int a))=true from Bool.or_true g,show (g||flat (PV.int b))=true from Bool.or_true g];exact q
theorem aw2 {ws:ag}(h:∀w∈ws,0<=w/\w<=60):∀u∈ws.map iS,pU u:=λu hu=>by
 obtain⟨w,hw,rfl⟩:=aJ2.mp hu
 have:=h w hw
 exact av8 (by omega)
noncomputable def F1:aM:=(aH (bA (aJ (q2 (jK false) (a5 0) (qC (.str ".")))) (aY (dA a9)) bE)
 (aY (kK (a5 0) (a7 (qC (.str " ")) a9))))
noncomputable def F3:aM:=(aH (bA (eO (aJ (k6 (aF eS (a7 (a5 0) a9)) (qC (.int 1)))) (aJ (iI (aF eS (a7 (a5 0) a9)) (qC (.int 60))))) (aY (qC (.bl false))) bE)
 (aH (bA (gN (aJ (iI (aF eS (a7 (a5 0) a9)) (qC (.int 1)))) (aJ (q2 (jK false) (q2 iQ (a5 0) (qC (.int 0))) (qC (.str "0"))))) (aY (qC (.bl false))) bE)
 (aY (aF mP (a7 (dO (nH (a5 0)) [none] (bX 0) cL (q2 kN (a5 0) (qC (.str "0123456789")))) a9)))))
theorem kR {i:Nat}{s:Str}{g:Bool}{ρ:bD}{Q:bD->Prop}(q:Q (ρ.set i (some (.sh true (.str s))))):bX i (.str s) g ρ Q:=by
 unfold bX;rw[show (g||flat (PV.str s))=true from Bool.or_true g];exact q
theorem WD.lkn {ws:ag}{ls:aa}(w:WD (ws.length:Int) ws ls)(h:ws.length<=40):F0 ls:=λl hl=>by
 have:=w.inn l hl
 omega
theorem nK {α:Type}{f:α->Str}{l:List α}{i:Nat}{y:PV}(h:(stxs (l.map f))[i]? = some y):∃x,y = .str (f x)/\l[i]? = some x:=by
 unfold stxs at h;rw[aI8,aI8]at h;cases e:l[i]? with
 |none=>rw[e]at h;cases h
 |some x=>rw[e]at h;exact⟨x,(aI7 h).symm,rfl⟩
theorem aw3 (A:aa)(l:Int×Int):bC (A++[l])=bC A++[PV.tup [.int l.1,.int l.2]]:=by unfold bC;rw[aK6];rfl
end Core
namespace L2
open PySem PySem.Spec PyProof.Rows Txs PySem.NumText
section
variable {X:Cx}
theorem aw4:cH X (.type "int") (λxs H Q=>∃z:Str,xs = [.str z]/\AllDigits z.cps.toList/\z.cps.toList≠[]/\z.length<=640/\Q (.int (digitsVal z.cps.toList:Nat)) H):=by
 rintro ah s σ H xs us Q I r ⟨z,rfl,hd,hn,hl,q⟩
 obtain⟨u,rfl,t,rfl⟩:=e8 r
 exact PySem.W.KIN.call_text (intText_digits hd hn (by omega)) hl ⟨.int _,H,I.tok _,⟨_,rfl⟩,q⟩
noncomputable def aw5:V->Option Int->Option Int->Hp->VK->Prop:=λx lo hi H Q=>∃z:Str,x = .str z/\z.length<=100000/\Q (.str (Txt.slice z lo hi)) H
theorem aw6:i8 X aw5:=by
 rintro ah s σ H x v vl vu lo hi sl Q I rx hs pl pu ⟨z,rfl,hz,q⟩
 obtain⟨t,rfl⟩:=rx
 have fin:∀(l u:Option (Int×Tok)),l.map (·.1)=lo->u.map (·.1)=hi->s.heap.IsSlice sl l u none->∃T id,typeLookup (.type T) "__getitem__" = pure (some (.builtin id))/\s.TypeIs (.str z t) T/\wpAny (model X.prog X.w) X.A (getItem (.str z t) (.ref sl)) (EP X ah σ Q) X.xe s:=λl u e1 e2 h=>by
  subst e1 e2
  exact⟨"str",_,F.slot_str_getitem.lookup,typeIs_str _ _ _,wpAny_getItem_str_slice (l:=l) (u:=u) (st:=none) h rfl (post_val_or_str ⟨aK4 (Txt.slice_le z _ _) (by rw[aS2];omega),λt' k=>⟨.str _,H,I.tok k,⟨_,rfl⟩,q⟩⟩)⟩
 cases pl with
 |none=>
  cases pu with
  |none=>exact fin none none rfl rfl hs
  |int j u=>exact fin none (some (j,u)) rfl rfl hs
 |int i u'=>
  cases pu with
  |none=>exact fin (some (i,u')) none rfl rfl hs
  |int j u=>exact fin (some (i,u')) (some (j,u)) rfl rfl hs
end
theorem aw7 {l:List Nat}{a n:Nat}(h:a+n<=l.length):((List.range n).map λk=>a+k).filterMap (λi=>l.toArray[i]?)=(l.drop a).take n:=by
 rw[List.filterMap_map];have e:∀k∈List.range n,((λi=>l.toArray[i]?) ∘ λk=>a+k) k=some (l.getD (a+k) 0):=λk hk=>by
  have hk:=aS8.mp hk;show l.toArray[a+k]? = _;rw[List.getElem?_toArray,aK0,aH2 (by omega)];rfl
 rw[C9 e];have f:(List.range n).filterMap (λk=>some (l.getD (a+k) 0))=(List.range n).map λk=>l.getD (a+k) 0:=by
  rw[<- List.filterMap_eq_map];rfl
 rw[f];apply List.ext_getElem?;intro i;rw[aI8];by_cases hi:i<n
 ·rw[List.getElem?_range hi,List.getElem?_take_of_lt hi,List.getElem?_drop]
  show some (l.getD (a+i) 0)=_;rw[aK0,aH2 (by omega)];rfl
 ·rw[List.getElem?_eq_none (by rw[List.length_range];omega),List.getElem?_eq_none (by rw[aP5];omega)];rfl
theorem F4 (z:Str)(a b:Nat)(lo hi:Option Int)(hi1:Builtin.Str.strSliceIndices lo hi 1 z.length=(List.range (b-a)).map λk=>a+k)(hb:b<=z.length)(ab:a<=b):(Txt.slice z lo hi).cps.toList=(z.cps.toList.drop a).take (b-a):=by
 obtain⟨⟨l⟩⟩:=z
 have ll:(⟨⟨l⟩⟩:Str).length=l.length:=rfl;rw[ll]at hi1 hb;have pk:=aw7 (l:=l) (a:=a) (n:=b-a) (by omega);unfold Txt.slice;rw[ll,hi1,aH4,List.length_range];by_cases e:b-a=l.length
 ·rw[if_pos (by rw[e];simp)]
  have ea:a=0:=by omega
  show l=(l.drop a).take (b-a);rw[ea,List.drop_zero,aL6 (by omega)]
 ·rw[if_neg (by simp[e])]
  exact pk
theorem F5 (cK stop:Nat)(h:cK<=stop):sliceRange (cK:Int) (stop:Int) 1=(List.range (stop-cK)).map λk=>cK+k:=by
 unfold sliceRange;dsimp only;have hc:(if (1:Int)>0 then (if (cK:Int)<(stop:Int) then ((stop:Int)-(cK:Int)+1-1)/1 else 0) else (if (cK:Int)>(stop:Int) then ((cK:Int)-(stop:Int)-1-1)/(-1) else 0)).toNat=stop-cK:=by
  rw[if_pos (by decide)];split<;>omega
 rw[hc];refine aP3 λk _=>?_
 omega
theorem aw8 (z:Str)(a:Nat):(Txt.slice z (some (a:Int)) none).cps.toList=z.cps.toList.drop a:=by
 have zl:z.length=z.cps.toList.length:=(aN2 ..).symm;have e:Builtin.Str.strSliceIndices (some (a:Int)) none 1 z.length=(List.range (z.length-min a z.length)).map λk=>min a z.length+k:=by
  have h1:(max 0 (min (if (a:Int)<0 then (a:Int)+(z.length:Int) else (a:Int)) (z.length:Int)))=((min a z.length:Nat):Int):=by
   rw[if_neg (by omega)];omega
  show sliceRange (max 0 (min (if (a:Int)<0 then (a:Int)+(z.length:Int) else (a:Int)) (z.length:Int))) (z.length:Int) 1=_;rw[h1];exact F5 _ _ (by omega)
 rw[F4 z (min a z.length) z.length _ _ e (aH9 _) (by omega)];by_cases h:a<=z.length
 ·rw[Nat.min_eq_left h,aL6 (by rw[aL7];omega)]
 ·rw[Nat.min_eq_right (by omega),Nat.sub_self,List.take_zero,List.drop_eq_nil_of_le (by omega)]
theorem aw9 (z:Str)(b:Nat):(Txt.slice z none (some (b:Int))).cps.toList=z.cps.toList.take b:=by
 have zl:z.length=z.cps.toList.length:=(aN2 ..).symm;have e:Builtin.Str.strSliceIndices none (some (b:Int)) 1 z.length=(List.range (min b z.length-0)).map λk=>0+k:=by
  have h1:(max 0 (min (if (b:Int)<0 then (b:Int)+(z.length:Int) else (b:Int)) (z.length:Int)))=((min b z.length:Nat):Int):=by
   rw[if_neg (by omega)];omega
  show sliceRange ((0:Nat):Int) (max 0 (min (if (b:Int)<0 then (b:Int)+(z.length:Int) else (b:Int)) (z.length:Int))) 1=_;rw[h1];exact F5 _ _ (by omega)
 rw[F4 z 0 (min b z.length) _ _ e (by omega) (by omega),List.drop_zero,Nat.sub_zero];by_cases h:b<=z.length
 ·rw[Nat.min_eq_left h]
 ·rw[Nat.min_eq_right (by omega),aL6 (by omega),aL6 (by omega)]
end L2
namespace PP
open PySem L2 PyProof.Rows Txs PySem.NumText
section
variable {X:Cx}{a b e:Expr}{ta tb te:aE}{tr:bN}{tl th:iG}{lo hi:Option Expr}{pos p2 sp:Pos}
noncomputable def nM:List PV->(PV->Prop)->Prop:=λxs Q=>∃z:Str,xs = [.str z]/\AllDigits z.cps.toList/\z.cps.toList≠[]/\z.length<=640/\Q (.int (digitsVal z.cps.toList:Nat))
theorem ax0:eQ X nM (λxs H Q=>∃z:Str,xs = [.str z]/\AllDigits z.cps.toList/\z.cps.toList≠[]/\z.length<=640/\Q (.int (digitsVal z.cps.toList:Nat)) H):=by
 rintro H vs xs Q Q' r ⟨z,rfl,h1,h2,h3,q⟩ k
 obtain⟨v,rfl,r1⟩:=r.one
 cases r1
 exact⟨z,rfl,h1,h2,h3,k _ _ _ (aD.refl _) (.int _) q⟩
theorem F6 (B:Bt X.mg)(ha:QA X [e] tr)(hg:Gl X "int":=by rfl)(he:starEach [e] X.env=(false,eval e X.env)::starEach [] X.env:=by rfl)(hpl:(backTo pos (starEach [] X.env)).any (·.1)=false:=by rfl):QE X (.Call (.Name "int" p2) [e] [] pos) (aF nM tr):=
 mV aw4 ax0 hg B.int PyProof.Rows.boot_int ha (he:=he) (hpl:=hpl)
noncomputable def dD (te:aE)(tl th:iG):aE:=λρ Q=>te ρ λx _=>tl ρ λlo=>th ρ λhi=>∃z:Str,x = .str z/\z.length<=100000/\Q (.str (Txt.slice z lo hi)) .fr
theorem jM (ha:QE X a ta)(hl:QO X lo tl)(hh:QO X hi th):QE X (.Subscript a (.Slice lo hi none sp) pos) (dD ta tl th):=
 bP (w4 aw6 ha hl hh) λσ H Q' h=>by
  obtain⟨W,ρ,Q,px,q,k⟩:=h
  refine⟨W,ρ,_,px,q,λv H1 x g s r q=>⟨W,ρ,_,px.mono s,q,λlo H2 s2 q2=>⟨W,ρ,_,px.mono (s.trans s2),q2,?_⟩⟩⟩;rintro hi H3 s3 ⟨z,rfl,hz,q⟩;cases r
  exact⟨z,rfl,hz,k _ _ _ .fr ((s.trans s2).trans s3) (.str _) q⟩
noncomputable def nN:PV->Tg->PV->Tg->PK->Prop:=λx _ y _ Q=>∃i j:Str,x = .str i/\y = .str j/\Q (.bl (!(!(Builtin.Str.occurrences j i 0 j.length 1).isEmpty))) .fr
theorem ax1:cI X nN (λx y H Q=>∃i j,x = .str i/\y = .str j/\Q (.bl (!(!(Builtin.Str.occurrences j i 0 j.length 1).isEmpty))) H):=by
 rintro W Hs H u v x y g g' Q Q' s n r1 r2 ⟨i,j,rfl,rfl,q⟩ k;cases r1;cases r2
 exact⟨i,j,rfl,rfl,k _ _ _ .fr (aD.refl _) (.bl _) q⟩
theorem F7 (ha:QE X a ta)(hb:QE X b tb)(hm:behindInMarks .NotIn b=false:=by rfl):QT X (.Compare a [.NotIn] [b] pos) (aJ (q2 nN ta tb)):=fE Z2 ax1 ha hb hm
theorem ax2 (ha:QE X a ta)(hb:QE X b tb)(hm:behindInMarks .In b=false:=by rfl):QT X (.Compare a [.In] [b] pos) (aJ (q2 kN ta tb)):=fE vL C7 ha hb hm
end
end PP
namespace Core
open PySem L2 PP Txs PySem.NumText
noncomputable def eJ (c:Nat):Bool:=decide (48<=c)&&decide (c<=57)
theorem F8:∀c:Nat,c<128->(!(Builtin.Str.occurrences ("0123456789":Str) ⟨#[c]⟩ 0 ("0123456789":Str).length 1).isEmpty)=eJ c:=by decide +kernel
noncomputable def b4 (z:Str):Prop:=∀c∈Lc z,c<128
theorem F9 {z:Str}(h:b4 z):z.cps.all (·<128)=true:=by
 rw[<- Array.all_toList,aM5];intro c hc;exact aH3 (h c hc)
noncomputable def gG (l:List Nat):Bool:=decide (1<=l.length)&&(decide (l.length<=60)&&(!(decide (1<l.length)&&decide (l.head? = some 48))&&l.all eJ))
noncomputable def pV:bW:=λxs Q=>∃z:Str,xs = [.str z]/\b4 z/\z.length<=100000/\Q (.bl (gG (Lc z)))
noncomputable abbrev ax3:aM:=F3
theorem ax4:dC F3 ["word"] pV:=by
 rintro xs Q ⟨z,rfl,ha,zl,q⟩;unfold gG at q;have lz:=cC z;refine⟨_,rfl,z,rfl,by omega,_,_,rfl,rfl,_,rfl,?_⟩;by_cases l1:z.length<1
 ·rw[aH3 (by omega)]
  rw[aH0 (by omega)]at q;exact aQ (aQ ⟨trivial,q⟩)
 rw[aH0 (by omega)];rw[aH3 (by omega:1<=(Lc z).length),Bool.true_and]at q;refine aP ⟨_,rfl,z,rfl,by omega,_,_,rfl,rfl,_,rfl,?_⟩;by_cases l2:60<z.length
 ·rw[aH3 (by omega)]
  rw[aH0 (by omega)]at q;exact aQ ⟨trivial,q⟩
 rw[aH0 (by omega)];rw[aH3 (by omega:(Lc z).length<=60),Bool.true_and]at q;refine aP ?_;have tail:(!(decide (1<(Lc z).length)&&decide ((Lc z).head? = some 48)))=true->(aY (aF mP (a7 (dO (nH (a5 0)) [none] (bX 0) cL (q2 kN (a5 0) (qC (.str "0123456789")))) a9))) { nx:=λ_=>Q .non,rt:=Q } [some (.sh true (.str z))]:=λhh=>by
  rw[hh,Bool.true_and]at q;refine⟨_,rfl,z,rfl,F9 ha,?_,λi acc=>acc=(((Lc z).take i).map eJ).map PV.bl,rfl,?_,?_⟩
  ·unfold fR
   rw[aH4,<- cC];omega
  ·rintro i y acc hy rfl
   unfold fR at hy;rw[aI8]at hy;cases e:z.cps.toList[i]? with
   |none=>rw[e]at hy;cases hy
   |some c=>
    rw[e]at hy;cases hy;refine kR ?_;refine⟨_,rfl,_,_,rfl,rfl,trivial,?_⟩;rw[F8 c (ha c (aJ9 e))];show (((Lc z).take i).map eJ).map PV.bl++[PV.bl (eJ c)]=(((Lc z).take (i+1)).map eJ).map PV.bl;rw[jH e,aK6];rfl
  ·rintro acc rfl
   refine⟨_,rfl,trivial,?_⟩;have e:(fR z).length=(Lc z).length:=by unfold fR;rw[aH4]
   rw[e,aP0,List.all_map];exact q
 refine⟨_,rfl,z,rfl,by omega,_,_,rfl,rfl,_,rfl,?_⟩;by_cases l3:1<z.length
 ·rw[aH3 (by omega)]
  obtain⟨c,r,ez⟩:∃c r,z.cps.toList=c::r:=by
   cases e:z.cps.toList with
   |nil=>rw[show Lc z = [] from e]at lz;rw[lz]at l3;cases l3
   |cons c r=>exact⟨c,r,rfl⟩
  refine aQ ⟨_,rfl,z,0,c,rfl,rfl,by omega,lB (by decide) (by rw[ez];rfl),_,_,rfl,rfl,_,rfl,?_⟩;show if decide ((⟨#[c]⟩:Str)="0")=true then _ else _
  by_cases hc:c=48
  ·rw[aH3 (show (⟨#[c]⟩:Str)="0" by rw[hc];rfl)]
   have hh:(Lc z).head? = some 48:=by rw[show Lc z=c::r from ez,hc];rfl
   rw[aH3 (by omega:1<(Lc z).length),aH3 hh]at q;exact aQ ⟨trivial,q⟩
  ·rw[aH0 (λw=>hc (by
    have w:=congrArg Lc w
    have:[c] = [48]:=w
    injection this))]
   refine aP (tail ?_);rw[aH0 (show ¬(Lc z).head? = some 48 by rw[show Lc z=c::r from ez];exact λw=>hc (aI7 w)),Bool.and_false];rfl
 ·rw[aH0 (by omega)]
  refine aP (aP (tail ?_));rw[aH0 (by omega:¬1<(Lc z).length)];rfl
theorem uD {l:List Nat}(h:gG l=true):AllDigits l/\l≠[]/\l.length<=60:=by
 unfold gG at h;simp only[aK2,aK8]at h
 obtain⟨h1,h2,_,h4⟩:=h
 refine⟨λc hc=>?_,(λz=>by rw[z]at h1;cases h1),h2⟩
 have:=aM5.mp h4 c hc
 unfold eJ at this;simpa using this
noncomputable def pW:dZ:=λEp xs Q=>∃z:Str,xs = [.str z]/\b4 z/\z.length<=100000/\(gG (Lc z)=true->Q (.int (digitsVal (Lc z):Nat)))/\(gG (Lc z)=false->Ep "NoText")
noncomputable def G0 (Ep:Str->Prop):aM:=(aH (bA (gO (aJ (aF pV (a7 (a5 0) a9)))) (iO Ep "NoText" (a7 (qC (.str "a number is not written as one")) a9)) bE)
 (aY (aF nM (a7 (a5 0) a9))))
theorem ax5:pK G0 ["word"] pW:=by
 rintro Ep xs Q ⟨z,rfl,ha,zl,q,e⟩;refine⟨_,rfl,z,rfl,ha,zl,_,rfl,?_⟩;cases h:gG (Lc z) with
 |true=>
  obtain⟨h1,h2,h3⟩:=uD h
  have:=cC z
  exact aP ⟨_,rfl,z,rfl,h1,h2,by omega,trivial,q h⟩
 |false=>exact aQ ⟨by show 1<=1000;decide,e h⟩
noncomputable def dS (l:List Nat)(m:Int):Bool:=gG l&&decide ((digitsVal l:Int)<=m)
noncomputable def kS:dZ:=λEp xs Q=>∃(z:Str) (m:Int),xs = [.str z,.int m]/\b4 z/\z.length<=100000/\(dS (Lc z) m=true->Q (.int (digitsVal (Lc z):Nat)))/\(dS (Lc z) m=false->Ep "NoText")
noncomputable def G1 (Ep:Str->Prop):aM:=(aH (aW 2 (jJ Ep pW (a7 (a5 0) a9)))
 (aH (bA (aJ (iI (a5 2) (a5 1))) (iO Ep "NoText" (a7 (qC (.str "a number is too great")) a9)) bE)
 (sL 2)))
theorem ax6:pK G1 ["word","most","number"] kS:=by
 rintro Ep xs Q ⟨z,m,rfl,ha,zl,q,e⟩;refine⟨_,rfl,z,rfl,ha,zl,λh=>⟨trivial,?_⟩,λh=>e (by unfold dS;rw[h];rfl)⟩;refine⟨_,rfl,_,rfl,_,_,rfl,rfl,_,rfl,?_⟩;by_cases g:(digitsVal (Lc z):Int)<=m
 ·rw[aH0 (by omega)]
  exact aP ⟨_,rfl,trivial,q (by unfold dS;rw[h,aH3 g];rfl)⟩
 ·rw[aH3 (by omega)]
  exact aQ ⟨by show 1<=1000;decide,e (by unfold dS;rw[h,aH0 g];rfl)⟩
theorem G2 {c:Nat}:∀{A:List (List Nat)}{w:List Nat},w∈A->(∀x∈w,x∈jn c A)/\w.length<=(jn c A).length
 |[],_,h=>by cases h
 |[v],w,h=>by
  rw[aI2.mp h]
  exact⟨λx hx=>hx,aH9 _⟩
 |v::u::r,w,h=>by
  rcases aI1.mp h with rfl|h
  ·exact⟨λx hx=>List.mem_append_left _ hx,by show w.length<=(w++c::jn c (u::r)).length;rw[aJ3];omega⟩
  ·obtain⟨h1,h2⟩:=G2 (c:=c) h
   refine⟨λx hx=>aJ6 _ (aI0 _ (h1 x hx)),?_⟩;show w.length<=(v++c::jn c (u::r)).length;rw[aJ3,aJ1];omega
theorem G3 {c:Nat}:∀{A:List (List Nat)},A.length<=(jn c A).length+1
 |[]=>aK9 _
 |[_]=>by show 1<=_;omega
 |v::u::r=>by
  have:=G3 (c:=c) (A:=u::r)
  have e:(v::u::r).length=(u::r).length+1:=rfl;show _<=(v++c::jn c (u::r)).length+1;rw[aJ3,aJ1 (a:=c),e];omega
theorem nP (z:Str)(c:Nat):jn c ((Txt.split z ⟨#[c]⟩).map Lc)=Lc z:=by
 rw[<- nJ,StrLaws.join_split]
theorem jN {z p:Str}{c:Nat}(h:p∈Txt.split z ⟨#[c]⟩):(∀x∈Lc p,x∈Lc z)/\p.length<=z.length:=by
 have:=G2 (c:=c) (A:=(Txt.split z ⟨#[c]⟩).map Lc) (w:=Lc p) (aJ2.mpr ⟨p,h,rfl⟩)
 rw[nP]at this;rw[cC,cC z];exact this
theorem G4 (z:Str)(c:Nat):(Txt.split z ⟨#[c]⟩).length<=z.length+1:=by
 have:=G3 (c:=c) (A:=(Txt.split z ⟨#[c]⟩).map Lc)
 rw[nP,aH4,<- cC]at this;exact this
theorem nQ {z p:Str}{c:Nat}(a:b4 z)(h:p∈Txt.split z ⟨#[c]⟩):b4 p:=λx hx=>a x ((jN h).1 x hx)
noncomputable def cG (z:Str):Int:=(digitsVal (Lc z):Nat)
noncomputable def e7 (z:Str)(m:Int):Option (Int×Int):=match Txt.split z "-" with
 |[a,b]=>if (dS (Lc a) (m-1)&&(dS (Lc b) (m-1)&&decide (cG a<cG b)))=true then some (cG a,cG b) else none
 |_=>none
noncomputable def pX:dZ:=λEp xs Q=>∃(z:Str) (m:Int),xs = [.str z,.int m]/\b4 z/\z.length<=100000/\(∀l,e7 z m=some l->Q (.tup [.int l.1,.int l.2]))/\(e7 z m=none->Ep "NoText")
noncomputable def G5 (Ep:Str->Prop):aM:=(aH (aW 2 (kK (a5 0) (a7 (qC (.str "-")) a9)))
 (aH (bA (aJ (fM (aF cF (a7 (a5 2) a9)) (qC (.int 2)))) (iO Ep "NoText" (a7 (qC (.str "a link is written as two hearths")) a9)) bE)
 (aH (aW 3 (jJ Ep kS (a7 (bH (a5 2) (qC (.int 0))) (a7 (sX (a5 1) (qC (.int 1))) a9))))
 (aH (aW 4 (jJ Ep kS (a7 (bH (a5 2) (qC (.int 1))) (a7 (sX (a5 1) (qC (.int 1))) a9))))
 (aH (bA (aJ (sY (a5 3) (a5 4))) (iO Ep "NoText" (a7 (qC (.str "the lesser hearth of a link stands first")) a9)) bE)
 (aY (gB (a7 (a5 3) (a7 (a5 4) a9)))))))))
theorem ax7:pK G5 ["word","many","parts","one","other"] pX:=by
 rintro Ep xs Q ⟨z,m,rfl,ha,zl,q,e⟩;refine⟨_,rfl,_,rfl,"-",rfl,by decide,by omega,trivial,?_⟩;have pa:∀p∈Txt.split z "-",b4 p/\p.length<=100000:=λp hp=>by
  rw[show ("-":Str)=⟨#[45]⟩ from lW]at hp
  exact⟨nQ ha hp,aK4 (jN hp).2 zl⟩
 unfold e7 at q e;generalize Txt.split z "-" = P at q e pa;refine⟨_,rfl,_,_,rfl,rfl,.inl ⟨_,_,rfl,rfl,_,rfl,?_⟩⟩;rw[dL]
 match P,q,e,pa with
 |[],q,e,_=>exact aQ ⟨by show 1<=1000;decide,e rfl⟩
 |[_],q,e,_=>exact aQ ⟨by show 1<=1000;decide,e rfl⟩
 |x::y::w::r,q,e,_=>
  have d:decide ((((x::y::w::r:List Str).length:Nat):Int)=2)=false:=aH0 (by simp only[aJ1];omega);show if (!decide ((((x::y::w::r:List Str).length:Nat):Int)=2))=true then _ else _
  rw[d];exact aQ ⟨by show 1<=1000;decide,e rfl⟩
 |[a,b],q,e,pa=>
  refine aP ?_
  obtain⟨a1,a2⟩:=pa a aH6
  obtain⟨b1,b2⟩:=pa b (aI0 _ aH6)
  dsimp only at q e;refine⟨_,rfl,_,_,_,rfl,rfl,rfl,_,rfl,_,_,rfl,rfl,a,m-1,rfl,a1,a2,λha=>⟨trivial,?_⟩,λha=>e (by rw[ha];rfl)⟩;rw[ha]at q e;refine⟨_,rfl,_,_,_,rfl,rfl,rfl,_,rfl,_,_,rfl,rfl,b,m-1,rfl,b1,b2,λhb=>⟨trivial,?_⟩,λhb=>e (by rw[hb];rfl)⟩;rw[hb]at q e;refine⟨_,rfl,_,rfl,_,_,rfl,rfl,_,rfl,?_⟩;by_cases lt:cG a<cG b
  ·have lt':(digitsVal (Lc a):Int)<(digitsVal (Lc b):Int):=lt
   rw[aH0 (by omega)];exact aP ⟨_,rfl,_,rfl,by show 2<=1000;decide,rfl,trivial,q (cG a,cG b) (by rw[aH3 lt];rfl)⟩
  ·have lt':¬(digitsVal (Lc a):Int)<(digitsVal (Lc b):Int):=lt
   rw[aH3 (by omega)];exact aQ ⟨by show 1<=1000;decide,e (by rw[aH0 lt];rfl)⟩
open Classical in
noncomputable def bI (z:Str):List Str:=if z="." then [] else Txt.split z " "
noncomputable def iR:bW:=λxs Q=>∃z:Str,xs = [.str z]/\z.length<=100000/\Q (.lst (stxs (bI z)))
theorem G6:dC F1 ["row"] iR:=by
 rintro xs Q ⟨z,rfl,zl,q⟩;unfold bI at q;refine⟨_,rfl,_,_,rfl,rfl,_,rfl,?_⟩;show if decide (z=".")=true then _ else _
 by_cases e:z="."
 ·rw[aH3 e]
  rw[if_pos e]at q;exact aQ ⟨aK9 _,rfl,trivial,q⟩
 ·rw[aH0 e]
  rw[if_neg e]at q;exact aP ⟨_,rfl,_,rfl," ",rfl,by decide,by omega,trivial,q⟩
theorem pY {z w:Str}(h:w∈bI z):(∀x∈Lc w,x∈Lc z)/\w.length<=z.length:=by
 unfold bI at h;split at h
 ·cases h
 ·rw[fV]at h
  exact jN h
theorem pZ (z:Str):(bI z).length<=z.length+1:=by
 unfold bI;split
 ·exact aK9 _
 ·rw[fV]
  exact G4 z 32
theorem G7 {z:Str}{m:Int}{l:Int×Int}(h:e7 z m=some l):3<=z.length:=by
 have e:=nP z 45;rw[<- lW]at e;unfold e7 at h;generalize Txt.split z kQ=P at e h
 match P,e,h with
 |[],_,h=>cases h
 |[_],_,h=>cases h
 |_::_::_::_,_,h=>cases h
 |[a,b],e,h=>
  have h:(if (dS (Lc a) (m-1)&&(dS (Lc b) (m-1)&&decide (cG a<cG b)))=true then some (cG a,cG b) else none)=some l:=h;split at h
  ·rename_i c
   simp only[aK2]at c;unfold dS at c;simp only[aK2]at c;have a1:=(uD c.1.1).2.1;have b1:=(uD c.2.1.1).2.1;have e:Lc a++45::Lc b=Lc z:=e;rw[cC,<- e,aJ3,aJ1]
   have:0<(Lc a).length:=List.length_pos_iff.mpr a1
   have:0<(Lc b).length:=List.length_pos_iff.mpr b1
   omega
  ·cases h
theorem G8 {c:Nat}:∀{A:List (List Nat)},(∀w∈A,3<=w.length)->4*A.length<=(jn c A).length+1
 |[],_=>aK9 _
 |[w],h=>by
  have:=h w aH6
  show 4<=w.length+1;omega
 |v::u::r,h=>by
  have h1:=h v aH6;have h2:=G8 (c:=c) (A:=u::r) λw hw=>h w (aI0 _ hw)
  have e:(v::u::r).length=(u::r).length+1:=rfl;show _<=(v++c::jn c (u::r)).length+1;rw[aJ3,aJ1 (a:=c),e];omega
theorem G9 {z:Str}(h:∀w∈bI z,3<=w.length):4*(bI z).length<=z.length+1:=by
 unfold bI at h ⊢;split
 ·exact aK9 _
 ·rename_i ne
  rw[if_neg ne,fV]at h;rw[fV]
  have:=G8 (c:=32) (A:=(Txt.split z ⟨#[32]⟩).map Lc) λw hw=>by
   obtain⟨p,hp,rfl⟩:=aJ2.mp hw
   rw[<- cC];exact h p hp
  rw[nP,aH4,<- cC]at this;exact this
noncomputable def qA:bW:=λxs Q=>∃ls:aa,xs = [.lst (bC ls)]/\ls.length<=10000/\∀b:Bool,(b=true↔ls.Pairwise cW)->Q (.bl b)
theorem ax8:dC tZ ["things"] qA:=by
 rintro xs Q ⟨ls,rfl,hl,q⟩;exact as6 (λl:Int×Int=>PV.tup [.int l.1,.int l.2]) (λa b=>HT.b7 [a.1,a.2] [b.1,b.2]) (λ_=>rfl) (λa b g g' K h=>.inr ⟨_,_,rfl,rfl,h⟩) ls (by omega) _ (.inr rfl) (q _ (u3 ls))
noncomputable def hG (z:Str)(ws:ag)(ls:aa):Prop:=∃a b,Txt.split z "\n" = [a,b]/\(∀w∈bI a,dS (Lc w) 60=true)/\ws=(bI a).map cG/\ws.length<=40/\(bI b).map (λw=>e7 w (ws.length:Int))=ls.map some/\ls.Pairwise cW
noncomputable def nR:dZ:=λEp xs Q=>∃z:Str,xs = [.str z]/\b4 z/\z.length<=39990/\(∀ws ls,hG z ws ls->Q (gX ws ls))/\((∀ws ls,¬hG z ws ls)->Ep "NoText")
noncomputable def J0 (Ep:Str->Prop):aM:=(aH (aW 1 (kK (a5 0) (a7 (qC (.str "\n")) a9)))
 (aH (bA (aJ (fM (aF cF (a7 (a5 1) a9)) (qC (.int 2)))) (iO Ep "NoText" (a7 (qC (.str "a web is written in two rows")) a9)) bE)
 (aH (aW 2 (dO (gP (aF iR (a7 (bH (a5 1) (qC (.int 0))) a9))) [none] (bX 0) cL (jJ Ep kS (a7 (a5 0) (a7 (qC (.int 60)) a9)))))
 (aH (bA (aJ (iI (aF cF (a7 (a5 2) a9)) (qC (.int 40)))) (iO Ep "NoText" (a7 (qC (.str "a web has at most 40 hearths")) a9)) bE)
 (aH (aW 3 (dO (gP (aF iR (a7 (bH (a5 1) (qC (.int 1))) a9))) [none,some 2] (bX 0) cL (jJ Ep pX (a7 (a5 0) (a7 (aF cF (a7 (a5 1) a9)) a9)))))
 (aH (bA (gO (aJ (aF qA (a7 (a5 3) a9)))) (iO Ep "NoText" (a7 (qC (.str "the links do not rise")) a9)) bE)
 (aY (gB (a7 (aF iJ (a7 (a5 2) a9)) (a7 (aF iJ (a7 (a5 3) a9)) a9))))))))))
theorem qB:1<=1000:=by decide
theorem ax9:pK J0 ["text","rows","wants","links"] nR:=by
 rintro Ep xs Q ⟨z,rfl,ha,zl,q,e⟩;refine⟨_,rfl,_,rfl,"\n",rfl,by decide,by omega,trivial,?_⟩;have pa:∀p∈Txt.split z "\n",b4 p/\p.length<=39990:=λp hp=>by
  rw[show ("\n":Str)=⟨#[10]⟩ from uC]at hp
  exact⟨nQ ha hp,aK4 (jN hp).2 zl⟩
 have no:∀P,Txt.split z "\n" = P->P.length≠2->Ep "NoText":=λP hP hl=>e λws ls ⟨a,b,h,_⟩=>hl (by rw[<- hP,h];rfl)
 have RD:∀a b ws ls,Txt.split z "\n" = [a,b]->hG z ws ls->(∀w∈bI a,dS (Lc w) 60=true)/\ws=(bI a).map cG/\ws.length<=40/\(bI b).map (λw=>e7 w (ws.length:Int))=ls.map some/\ls.Pairwise cW:=λa b ws ls hP ⟨a',b',h,r⟩=>by
  rw[hP]at h;cases h;exact r
 cases hP:Txt.split z "\n" with
 |nil=>exact absurd hP (pS _ _)
 |cons a r=>
 cases r with
 |nil=>exact⟨_,rfl,_,_,rfl,rfl,.inl ⟨_,_,rfl,rfl,_,rfl,aQ ⟨qB,no _ hP (by simp)⟩⟩⟩
 |cons b r=>
 cases r with
 |cons c r=>
  refine⟨_,rfl,_,_,rfl,rfl,.inl ⟨_,_,rfl,rfl,_,rfl,?_⟩⟩;have d:decide ((((stxs (a::b::c::r)).length:Nat):Int)=2)=false:=aH0 (by rw[dL];simp only[aJ1];omega);show if (!decide ((((stxs (a::b::c::r)).length:Nat):Int)=2))=true then _ else _
  rw[d];exact aQ ⟨qB,no _ hP (by simp)⟩
 |nil=>
 obtain⟨a1,a2⟩:=pa a (by rw[hP];exact aH6)
 obtain⟨b1,b2⟩:=pa b (by rw[hP];exact aI0 _ aH6)
 have RD:=λws ls=>RD a b ws ls hP
 have ac:=pZ a;have bc:=pZ b;refine⟨_,rfl,_,_,rfl,rfl,.inl ⟨_,_,rfl,rfl,_,rfl,aP ?_⟩⟩;refine⟨_,rfl,_,_,_,rfl,rfl,rfl,a,rfl,by omega,_,rfl,(λz=>by cases z),by rw[dL];omega,λi acc=>acc=intz (((bI a).take i).map cG)/\∀w∈(bI a).take i,dS (Lc w) 60=true,⟨rfl,λ_ z=>nomatch z⟩,?_,?_⟩
 ·rintro i y acc hy ⟨rfl,all⟩
  have hy':(stxs ((bI a).map id))[i]? = some y:=by rw[aS4];exact hy
  obtain⟨w,rfl,hx⟩:=nK hy'
  have wm:=aJ9 hx;have wp:=pY wm;refine kR ?_;refine⟨_,rfl,w,60,rfl,λc hc=>a1 c (wp.1 c hc),by omega,λh=>⟨trivial,?_,λu hu=>?_⟩,λh=>e λws ls r=>?_⟩
  ·show intz (((bI a).take i).map cG)++[PV.int (cG w)]=intz (((bI a).take (i+1)).map cG)
   rw[jH hx,pE];rfl
  ·rw[aS3,hx]at hu
   rcases aL2.mp hu with hu|hu
   ·exact all u hu
   ·rw[aI2.mp hu];exact h
  ·have:=(RD ws ls r).1 w wm
   rw[h]at this;cases this
 rintro acc ⟨rfl,all⟩;rw[dL,aP0]at all ⊢;refine⟨trivial,?_⟩;refine⟨_,rfl,_,_,rfl,rfl,_,_,rfl,rfl,_,rfl,?_⟩;rw[dJ,aH4];by_cases few:(bI a).length<=40
 ·rw[aH0 (by omega)]
  refine aP ?_;refine⟨_,rfl,_,_,_,rfl,rfl,rfl,b,rfl,by omega,_,rfl,(λz=>by cases z),by rw[dL];omega,λi acc=>∃ls:aa,acc=bC ls/\((bI b).take i).map (λw=>e7 w ((bI a).length:Int))=ls.map some,⟨[],rfl,rfl⟩,?_,?_⟩
  ·rintro i y acc hy ⟨ls,rfl,hm⟩
   have hy':(stxs ((bI b).map id))[i]? = some y:=by rw[aS4];exact hy
   obtain⟨w,rfl,hx⟩:=nK hy'
   have wm:=aJ9 hx;have wp:=pY wm;refine kR ?_;refine⟨_,rfl,_,rfl,_,_,rfl,rfl,w,_,rfl,λc hc=>b1 c (wp.1 c hc),by omega,λl hl=>⟨trivial,ls++[l],(aw3 _ _).symm,?_⟩,λh=>e λws ls' r=>?_⟩
   ·rw[dJ,aH4]at hl
    rw[jH hx,hm,hl,aK6];rfl
   ·rw[dJ,aH4]at h
    obtain⟨_,rfl,_,h4,_⟩:=RD ws ls' r
    rw[aH4]at h4
    have:e7 w ((bI a).length:Int)∈ls'.map some:=by rw[<- h4];exact aJ2.mpr ⟨w,wm,rfl⟩
    rw[h]at this
    obtain⟨_,_,z⟩:=aJ2.mp this
    cases z
  rintro acc ⟨ls,rfl,hm⟩;rw[dL,aP0]at hm;refine⟨trivial,?_⟩;have lsl:ls.length<=10000:=by
   have h1:=congrArg List.length hm;rw[aH4,aH4]at h1
   have:=G9 (z:=b) λw hw=>by
    have:e7 w ((bI a).length:Int)∈ls.map some:=by rw[<- hm];exact aJ2.mpr ⟨w,hw,rfl⟩
    obtain⟨l,_,z⟩:=aJ2.mp this
    exact G7 z.symm
   omega
  refine⟨_,rfl,ls,rfl,lsl,λbb hb=>⟨_,rfl,?_⟩⟩;cases bb with
  |true=>
   refine aP ?_;have r:hG z ((bI a).map cG) ls:=⟨a,b,hP,all,rfl,by rw[aH4];exact few,by rw[aH4];exact hm,hb.mp rfl⟩;refine⟨_,rfl,⟨_,_,rfl,rfl,gM _,_,rfl,⟨_,_,rfl,rfl,jI ls,by show 2<=1000;decide,zK _ ls,trivial,q _ _ r⟩,λns z=>by cases z⟩,λns z=>by cases z⟩
  |false=>
   refine aQ ⟨qB,e λws ls' r=>?_⟩
   obtain⟨_,rfl,_,h4,h5⟩:=RD ws ls' r
   rw[aH4,hm]at h4
   have:ls=ls':=by
    have:=congrArg (List.map λo:Option (Int×Int)=>o.getD (0,0)) h4
    rw[aO6,aO6]at this;have i:((λo:Option (Int×Int)=>o.getD (0,0)) ∘ some)=id:=rfl;rw[i,aS4,aS4]at this;exact this
   rw[<- this]at h5;exact absurd (hb.mpr h5) (by decide)
 ·rw[aH3 (by omega)]
  refine aQ ⟨qB,e λws ls r=>?_⟩
  obtain⟨_,rfl,h3,_⟩:=RD ws ls r
  rw[aH4]at h3;omega
theorem hJ {x y:Str}(a:b4 x)(b:b4 y):b4 (x++y):=λc hc=>by
 rw[kO]at hc;rcases aL2.mp hc with h|h
 ·exact a c h
 ·exact b c h
theorem J1 {z:Str}{b:Int}(a:b4 z)(h:0<=b):b4 (Txt.slice z none (some b))/\Lc (Txt.slice z none (some b))=(Lc z).take b.toNat:=by
 have e:(Txt.slice z none (some b)).cps.toList=z.cps.toList.take b.toNat:=by
  have:=aw9 z b.toNat
  rwa [show ((b.toNat:Nat):Int)=b by omega]at this
 exact⟨λc hc=>by rw[show Lc (Txt.slice z none (some b))=_ from e]at hc;exact a c (List.mem_of_mem_take hc),e⟩
theorem uE {z:Str}{b:Int}(a:b4 z)(h:0<=b):b4 (Txt.slice z (some b) none)/\Lc (Txt.slice z (some b) none)=(Lc z).drop b.toNat:=by
 have e:(Txt.slice z (some b) none).cps.toList=z.cps.toList.drop b.toNat:=by
  have:=aw8 z b.toNat
  rwa [show ((b.toNat:Nat):Int)=b by omega]at this
 exact⟨λc hc=>by rw[show Lc (Txt.slice z (some b) none)=_ from e]at hc;exact a c (List.mem_of_mem_drop hc),e⟩
noncomputable abbrev kT:Str:=" -0123456789.\n"
noncomputable abbrev hU:Str:=" !\"#$&'()*+,-./0123456789:;<=>?@ABCDEFGHIJKLMNOPQRSTUVWXYZ[\\]^_`"
noncomputable abbrev iT:Str:="abcdefghijklmnopqrstuvwxyz{|}~\n"
theorem ay0:∀c∈Lc kT,c<128:=by decide +kernel
theorem ay1:∀c∈Lc hU,c<128:=by decide +kernel
theorem ay2:∀c∈Lc iT,c<128:=by decide +kernel
theorem ay3:kT.length=14:=by decide +kernel
theorem ay4:0<hU.length/\hU.length<=500:=by decide +kernel
theorem ay5:iT.length<=500:=by decide +kernel
theorem qD {z:Str}{i:Int}(a:b4 z)(h0:0<=i)(h1:i<(z.length:Int)):∃c,L2.atI z.cps.toList i=some c/\b4 (⟨#[c]⟩:Str):=by
 have hl:i.toNat<z.cps.toList.length:=by have:=cC z;show i.toNat<(Lc z).length;omega
 refine⟨z.cps.toList[i.toNat],lB h0 (aH2 hl),λc hc=>?_⟩
 have:c∈[z.cps.toList[i.toNat]]:=hc
 rw[aI2.mp this];exact a _ (aO8 hl)
noncomputable def qE:bW:=λxs Q=>∃c:Int,xs = [.int c]/\∀s:Str,b4 s->s.length=1->Q (.str s)
noncomputable def J2:aM:=(aH (aW 1 (qC (.str hU)))
 (aH (aW 1 (cO (a5 1) (qC (.str iT))))
 (aY (q2 iQ (a5 1) (b6 (a5 0) (aF eS (a7 (a5 1) a9)))))))
theorem ay6:dC J2 ["cell","some"] qE:=by
 rintro xs Q ⟨c,rfl,q⟩;have la:=ay4;have lb:=ay5;have as:b4 (hU++iT):=hJ ay1 ay2;have ln:(hU++iT).length=hU.length+iT.length:=dR _ _;refine⟨trivial,_,rfl,_,_,rfl,rfl,by omega,trivial,?_⟩;have m0:=aL0 c (show ((hU++iT).length:Int)≠0 by omega);have m1:=aK1 c (show 0<((hU++iT).length:Int) by omega)
 obtain⟨d,hd,ad⟩:=qD as m0 m1
 exact⟨_,rfl,_,rfl,_,rfl,_,rfl,by omega,_,_,rfl,rfl,by show (0:Int)<((hU++iT).length:Int);omega,_,_,d,rfl,rfl,by omega,hd,trivial,q _ ad rfl⟩
noncomputable def qF:bW:=λxs Q=>∃(z:Str) (c:Int),xs = [.str z,.int c]/\b4 z/\z.length<=90000/\∀t:Str,b4 t->t.length<=z.length+1->Q (.str t)
noncomputable def J3:aM:=(aH (aW 2 (qC (.str kT)))
 (aH (aW 3 (b6 (c9 (a5 1) (qC (.int 3))) (dI (aF eS (a7 (a5 0) a9)) (qC (.int 1)))))
 (aH (aW 4 (q2 iQ (a5 2) (b6 (c9 (a5 1) (qC (.int 1009))) (aF eS (a7 (a5 2) a9)))))
 (aH (bA (aJ (fJ (b6 (c9 (a5 1) (qC (.int 7))) (qC (.int 2))) (qC (.int 1)))) (aW 4 (aF qE (a7 (c9 (a5 1) (qC (.int 1009))) a9))) bE)
 (aH (bA (aJ (fJ (b6 (a5 1) (qC (.int 3))) (qC (.int 0)))) (aY (cO (cO (dD (a5 0) cM (cN (a5 3))) (a5 4)) (dD (a5 0) (cN (a5 3)) cM))) bE)
 (aH (bA (aJ (fJ (b6 (a5 1) (qC (.int 3))) (qC (.int 1)))) (aY (cO (cO (dD (a5 0) cM (cN (a5 3))) (a5 4)) (dD (a5 0) (cN (dI (a5 3) (qC (.int 1)))) cM))) bE)
 (aY (cO (dD (a5 0) cM (cN (a5 3))) (dD (a5 0) (cN (dI (a5 3) (qC (.int 1)))) cM)))))))))
theorem ay7:dC J3 ["text","cell","often","spot","sign"] qF:=by
 rintro xs Q ⟨z,c,rfl,az,zl,q⟩;have ol:=ay3;refine⟨trivial,?_⟩;refine⟨_,rfl,_,_,rfl,rfl,⟨by decide,by decide⟩,_,rfl,_,rfl,by omega,_,_,rfl,rfl,_,_,rfl,rfl,(by show (0:Int)<(z.length:Int)+1;omega),trivial,?_⟩;have s0:=aL0 (c/3) (show ((z.length:Int)+1)≠0 by omega);have s1:=aK1 (c/3) (show 0<((z.length:Int)+1) by omega);dsimp only;generalize c/3%((z.length:Int)+1)=sp at s0 s1;have m0:=aL0 (c/1009) (show ((kT.length:Nat):Int)≠0 by omega);have m1:=aK1 (c/1009) (show 0<((kT.length:Nat):Int) by omega)
 obtain⟨d,hd,ad⟩:=qD ay0 m0 m1
 refine⟨_,rfl,_,rfl,_,_,rfl,rfl,⟨by decide,by decide⟩,_,rfl,_,rfl,by omega,_,_,rfl,rfl,(by show (0:Int)<((kT.length:Nat):Int);omega),_,_,d,rfl,rfl,by omega,hd,trivial,?_⟩
 have fin:∀s:Str,b4 s->s.length=1->(aH (bA (aJ (fJ (b6 (a5 1) (qC (.int 3))) (qC (.int 0)))) (aY (cO (cO (dD (a5 0) cM (cN (a5 3))) (a5 4)) (dD (a5 0) (cN (a5 3)) cM))) bE)
   (aH (bA (aJ (fJ (b6 (a5 1) (qC (.int 3))) (qC (.int 1)))) (aY (cO (cO (dD (a5 0) cM (cN (a5 3))) (a5 4)) (dD (a5 0) (cN (dI (a5 3) (qC (.int 1)))) cM))) bE)
   (aY (cO (dD (a5 0) cM (cN (a5 3))) (dD (a5 0) (cN (dI (a5 3) (qC (.int 1)))) cM))))) { nx:=λ_=>Q .non,rt:=Q } [some (.sh true (.str z)),si c,some (.sh true (.str kT)),si sp,some (.sh true (.str s))]:=λs as sl=>by
  obtain⟨t1,t2⟩:=J1 az s0
  obtain⟨f1,f2⟩:=uE az s0
  obtain⟨g1,g2⟩:=uE az (show 0<=sp+1 by omega)
  have lt:(Txt.slice z none (some sp)).length=min sp.toNat z.length:=by rw[cC,t2,aP5,<- cC]
  have lf:(Txt.slice z (some sp) none).length=z.length-sp.toNat:=by rw[cC,f2,aL7,<- cC]
  have lg:(Txt.slice z (some (sp+1)) none).length=z.length-(sp+1).toNat:=by rw[cC,g2,aL7,<- cC]
  refine⟨_,rfl,_,_,rfl,rfl,(by show (0:Int)<3;decide),.inl ⟨_,_,rfl,rfl,_,rfl,?_⟩⟩;show if decide (c%3=0)=true then _ else _
  cases decide (c%3=0) with
  |true=>
   refine aQ ⟨_,rfl,_,rfl,_,rfl,z,rfl,by omega,_,rfl,_,_,rfl,rfl,by omega,_,rfl,_,rfl,_,rfl,z,rfl,by omega,_,_,rfl,rfl,?_,trivial,q _ (hJ (hJ t1 as) f1) ?_⟩
   ·rw[dR];omega
   ·rw[dR,dR];omega
  |false=>
   refine aP ⟨_,rfl,_,_,rfl,rfl,(by show (0:Int)<3;decide),.inl ⟨_,_,rfl,rfl,_,rfl,?_⟩⟩;show if decide (c%3=1)=true then _ else _
   cases decide (c%3=1) with
   |true=>
    refine aQ ⟨_,rfl,_,rfl,_,rfl,z,rfl,by omega,_,rfl,_,_,rfl,rfl,by omega,_,rfl,_,rfl,_,_,rfl,rfl,_,rfl,z,rfl,by omega,_,_,rfl,rfl,?_,trivial,q _ (hJ (hJ t1 as) g1) ?_⟩
    ·rw[dR];omega
    ·rw[dR,dR];omega
   |false=>
    refine aP ⟨_,rfl,_,rfl,_,rfl,z,rfl,by omega,_,rfl,_,rfl,_,_,rfl,rfl,_,rfl,z,rfl,by omega,_,_,rfl,rfl,by omega,trivial,q _ (hJ t1 g1) ?_⟩;rw[dR];omega
 refine⟨_,rfl,_,_,rfl,rfl,⟨by decide,by decide⟩,_,_,rfl,rfl,(by show (0:Int)<2;decide),.inl ⟨_,_,rfl,rfl,_,rfl,?_⟩⟩;show if decide (c/7%2=1)=true then _ else _
 cases decide (c/7%2=1) with
 |true=>exact aQ ⟨_,rfl,_,_,rfl,rfl,⟨by decide,by decide⟩,_,rfl,λs as sl=>⟨trivial,fin s as sl⟩⟩
 |false=>exact aP (fin _ ad rfl)
end Core
namespace HT
open PySem PyProof.Rows
section
open PySem.SeqAt
open PySem.AutoSeq1 (wpAny_loadPart')
open PySem.MeetsSeq PySem.MeetsSeq2 PySem.MeetsSeq3
theorem ay8 (A:ba)(s:aw)(a:Int)(t:Tok)(c:Int)(u:Tok)(prog:ay)(w:bf)(E:ar->aw->Prop)(Q:ar->aw->Prop)(h:Q (.bool (decide (c<=a))) s) :
  wpAny (model prog w) A (richCompare .GtE (.int a t) (.int c u)) Q E s:=
 (PyProof.Rows.ge_int h:wpAny (model prog w) A (compareOp .GtE (.int a t) (.int c u)) Q E s)
theorem ay9 (l b:ax)(items items2:Array ar)(n n2:Nat)(dd dd2:Option ax)(sl sl2:Array (Option ar))(ns ms:ag)(hi:IntsAre items.toList ns)(hj:IntsAre items2.toList ms) :
  Meets (Builtin.«tuple.__ge__» ⟨[.ref l,.ref b],[]⟩)
   (λ_ R s=>s.heap.get? l=some { cls:=.type "tuple",dict:=dd,data:=.seq items n,slots:=sl }/\s.heap.get? b=some { cls:=.type "tuple",dict:=dd2,data:=.seq items2 n2,slots:=sl2 }/\
    R (.ok (.ret (.bool (!b7 ns ms)))) s):=
 .of_wp λprog w A R s h=>by
  obtain⟨hp,g,d,tk,os⟩:=s;obtain⟨hl,hb,h⟩:=h
  have f2:=AutoSeq1.sub_tuple_tuple;have z1:items.size=ns.length:=by rw[<- hi.length];simp
  have z2:items2.size=ms.length:=by rw[<- hj.length];simp
  wp_walk using wpAny_loadPart' hl,wpAny_loadPart' hb,wpAny_forIn_list _ (λbT b s'=>b.1=none/\s'=⟨hp,g,d,tk,os⟩/\∃(vs ws:List ar) (ns' ms':ag),bT=vs.zip ws/\
   IntsAre vs ns'/\IntsAre ws ms'/\ns'.length+items2.size=ms'.length+items.size/\R (.ok (.ret (.bool (!b7 ns' ms')))) ⟨hp,g,d,tk,os⟩) _
  case turn=>
   rintro⟨y,x⟩ bT b s' ⟨hb',rfl,vs,ws,ns',ms',hz,hvi,hwi,ak,hR⟩
   cases hvi with
   |nil=>rw[List.zip_nil_left]at hz;cases hz
   |cons a t hvi'=>
    cases hwi with
    |nil=>rw[List.zip_nil_right]at hz;cases hz
    |cons c u hwi'=>
     rw[aR3]at hz;injection hz with hyx hrest
     injection hyx with hy hx
     subst hy hx;rw[i7]at hR;simp only[aJ1]at ak
     obtain⟨e,he,hiff⟩:=vW A.in1 ⟨hp,g,d,tk,os⟩ a t c u
     refine aG9 (he prog w _ _ ?_);cases e with
     |true=>
      rw[if_pos (hiff.mp rfl)]at hR
      wp_walk
      exact⟨rfl,rfl,_,_,_,_,hrest,hvi',hwi',by omega,hR⟩
     |false=>
      have ne:a≠c:=λq=>absurd (hiff.mpr q) aI5
      rw[if_neg ne]at hR;have hri:=ay8 A.in1 ⟨hp,g,d,tk,os⟩ a t c u prog w;have e2:(!decide (a<c))=decide (c<=a):=by
       by_cases z:a<c
       ·rw[aH3 z,aH0 (by omega)];rfl
       ·rw[aH0 z,aH3 (by omega)];rfl
      rw[e2]at hR
      wp_walk using hri
      exact⟨_,rfl,hR⟩
  case fin=>
   rintro⟨b1,b2⟩ s' ⟨hb',rfl,vs,ws,ns',ms',hz,hvi,hwi,ak,hR⟩
   simp only at hb';subst hb';have hv:(!b7 ns' ms')=decide (items.size >= items2.size):=by
    cases hvi with
    |nil=>
     cases hwi with
     |nil=>
      simp only[aQ6]at ak;rw[rF];exact (aH3 (by omega)).symm
     |cons c u hw=>
      simp only[aQ6,aJ1]at ak;rw[vU];exact (aH0 (by omega)).symm
    |cons a t hv=>
     cases hwi with
     |nil=>
      simp only[aQ6,aJ1]at ak;rw[vV];exact (aH3 (by omega)).symm
     |cons c u hw=>
      rw[aR3]at hz;cases hz
   rw[hv]at hR
   wp_walk
   exact⟨_,rfl,by simpa[Builtin.Tuple.tupleCompareSizes] using hR⟩
  case h=>
   exact⟨rfl,rfl,items.toList,items2.toList,ns,ms,rfl,hi,hj,by omega,h⟩
end
section
variable {prog:ay}{w:bf}{A:ba}{E:ar→aw→Prop}{s:aw}
theorem az0 {l b:ax}{items items2:Array ar}{ns ms:ag}{Q:ar->aw->Prop}(hl:IsTup s.heap l items)(hb:IsTup s.heap b items2)(hi:IntsAre items.toList ns)(hj:IntsAre items2.toList ms)(hu:A.units<cLine)(h:Q (.bool (!b7 ns ms)) s):wpAny (model prog w) A (richCompare .GtE (.ref l) (.ref b)) Q E s:=by
 obtain⟨⟨cls,dd,data,sl⟩,ho,hc,n,hd⟩:=id hl
 obtain⟨⟨cls2,dd2,data2,sl2⟩,ho2,hc2,n2,hd2⟩:=id hb
 simp only at hc hd hc2 hd2;subst hc hd hc2 hd2;exact richCompare_meets_room (op:=.GtE) ⟨_,ho,rfl⟩ ⟨_,ho2,rfl⟩ PySem.F.slot_tuple_ge PySem.F.entry_tuple_ge (PySem.F.args_tuple_ge_2 _ _) (ay9 l b items items2 n n2 dd dd2 sl sl2 ns ms hi hj)
  ⟨ho,ho2,show Value.bool (!b7 ns ms)≠Value.notImplemented/\Q (.bool (!b7 ns ms)) s from ⟨(λx=>nomatch x),h⟩⟩ hu
end
end HT
namespace L2
open PySem PySem.Spec PyProof.Rows PP Txs
section
variable {X:Cx}
theorem az1 (hu:X.A.units<cLine):bU X (compareOp .GtE) (λx y H Q=>∃a b ns ms,x = .ref a/\y = .ref b/\aU X.K H a (ns.map V.int)/\aU X.K H b (ms.map V.int)/\Q (.bl (!HT.b7 ns ms)) H):=by
 intro ah s σ H x y v u Q I rx ry h
 obtain⟨a,b,ns,ms,rfl,rfl,ha,hb,q⟩:=h
 cases rx;cases ry
 obtain⟨i1,r1,p1,_⟩:=I.tuple ha
 obtain⟨i2,r2,p2,_⟩:=I.tuple hb
 exact HT.az0 p1 p2 (jU r1) (jU r2) hu ⟨.bl _,H,I,rfl,q⟩
theorem J4:∀{ws:List Str}{us:List ar},aO (ws.map V.str) us->∃l:List (Str×Tok),us=strValues l/\l.map (·.1)=ws
 |[],_,.nil=>⟨[],rfl,rfl⟩
 |w::_,_,.cons ⟨t,e⟩ r=>by
  obtain⟨l,e1,e2⟩:=J4 r
  subst e e1 e2
  exact⟨(w,t)::l,rfl,rfl⟩
theorem az2:oB X "str.join" (λx vs H Q=>∃(a:Str) (l:ax) (ws:List Str),x = .str a/\vs = [.ref l]/\aS X.K H l (ws.map V.str)/\(ws.map (·.length)).sum+ws.length*a.length<=10000000/\Q (.str (Txt.join a ws)) H):=by
 rintro ah s σ H x xs v us Q I rx rv ⟨a,l,ws,rfl,rfl,hl,hw,q⟩
 obtain⟨t,rfl⟩:=rx
 obtain⟨u,rfl,ru⟩:=e8 rv
 cases ru
 obtain⟨its,r,p,_⟩:=I.list hl
 obtain⟨ps,e1,e2⟩:=J4 r
 rw[e1]at p;refine PySem.SC.join p.isList e2 ?_ λt' k=>⟨.str _,H,I.tok k,⟨_,rfl⟩,q⟩
 show (!Builtin.Str.tooLong _)=true;rw[Bool.not_eq_true',StrLaws.joinTotal];show decide _=false
 have:(sizeLine:Nat)=16777216:=aS2
 exact aH0 (by omega)
end
section
variable {prog:ay}{w:bf}{A:ba}{R:Result→aw→Prop}{I S:ax}{n:Nat}{l:ax}{its:Array ar}{s0:aw}{bt:Nat→Nat→Bool}{kw:List (Str×ar)}
theorem az3 (hh:A.in1.handled=none)(ne:l≠I)(sI:S≠I)(sl:S≠l)(fI:s0.heap.get? I=none)(fS:s0.heap.get? S=none)(ask:CmpOf prog w A.in1 .Gt (λi v=>its[i]? = some v) bt)(fin:∀v h k,its[argBest bt (its.size-1)]? = some v->iP s0.heap h->R (.ok (.ret v)) (gD s0 h k)) :
  ∀(m j:Nat) (h:Heap) (k:Nat) (v:ar) (c:Nat),its.size-(j+1)=m->j+1<=its.size->iP s0.heap h->(h.IsListIter I l (j+1)/\h.IsList l its)->its[argBest bt j]? = some v->
  h.get? S=some { cls:=.type "list",dict:=none,data:=.seq #[v,v] c,slots:=#[] }->codeAny (model prog w) A (.builtin "max.loop" ⟨[.ref I,.none,.ref S],kw⟩) R (gD s0 h k):=by
 have W:=Walks.list (prog:=prog) (w:=w) hh I l ne its;have nm:(toString "max"++toString ".loop":String)="max.loop":=by decide
 have nS:S∉[I]:=λz=>sI (aI2.mp z)
 have put:∀{h h':Heap},iP s0.heap h->(∀b o,b∉[I]->h.get? b=some o->h'.get? b=some o)->iP s0.heap h':=λ{h h'} o1 o2 b o e=>o2 b o (λz=>by rw[aI2.mp z,fI]at e;cases e) (o1 b o e)
 have put2:∀{h:Heap}{f:Obj->Obj},iP s0.heap h->iP s0.heap (h.update S f):=λ{h f} o1 b o e=>(aN7 _ _ (λz:S=b=>by rw[<- z,fS]at e;cases e)).trans (o1 b o e)
 intro m
 induction m with
 |zero=>
  intro j h k v c hm hj old st hv hS;have hj2:j+1=its.size:=by omega
  refine codeAny_builtin PySem.F.entry_max_loop ?_;rw[Around.under_plainId aN9];refine aG9 (aO3 hS rfl ?_);refine aG9 (wpAny_tryCatch (W.done _ _ _ (hj2▸st) λh2 k2 o2=>?_));exact aG9 (wpAny_updateSeq (o2 S _ nS hS) rfl (aG9 (wpAny_letGo (aH5 (fin v _ k2 (by rw[<- hj2];exact hv) (put2 (put old o2)))))))
 |succ m ih=>
  intro j h k v c hm hj old st hv hS;have lt:j+1<its.size:=by omega
  refine codeAny_builtin PySem.F.entry_max_loop ?_;rw[Around.under_plainId aN9];refine aG9 (aO3 hS rfl ?_);refine aG9 (wpAny_tryCatch (W.item (j+1) _ _ _ lt st λu h2 k2 hu st2 o2=>?_));have hS2:=o2 S _ nS hS;refine aG9 (aH5 ?_);refine aG9 (m:=tryCatch (holding [u,u] (richCompare .Gt u v >>= _)) _) (wpAny_tryCatch (aR0 (aG9 (ask (j+1) (argBest bt j) u v _ _ _ hu hv ?_))));refine aG9 (aR0 (aQ5 (aG9 (wpAny_letGo (aH5 ?_)))));cases hb:bt (j+1) (argBest bt j) with
  |false=>
   simp only[aJ4,aN0];refine aG9 (wpAny_letGo ?_);rw[nm];exact aH5 ⟨plainId_quiet aN9 _,ih (j+1) h2 k2 v c (by omega) lt (put old o2) st2 (by simp only[argBest,hb,aJ4,aN0];exact hv) hS2⟩
  |true=>
   simp only[if_true];refine aG9 (wpAny_updateSeq hS2 rfl (aG9 (wpAny_letGo ?_)));rw[nm];refine aH5 ⟨plainId_quiet aN9 _,ih (j+1) _ k2 u _ (by omega) lt (put2 (put old o2)) (W.frame _ _ _ st2 λb hb2 o e=>?_) (by simp only[argBest,hb,if_true];exact hu) (aR8 _ hS2 rfl)⟩;refine (aN7 _ _ (λz:S=b=>?_)).trans e;rcases aI1.mp hb2 with q|q
   ·exact sI (z.trans q)
   ·exact sl (z.trans (aI2.mp q))
end
theorem az4 (a v:ar):argsOk "max" ⟨[a],[(Str.ofString "default",v)]⟩:=by unfold argsOk;kernel_rfl
section
variable {prog:ay}{w:bf}{A:ba}{s0:aw}{l:ax}{its:Array ar}{bt:Nat→Nat→Bool}{d:ar}
theorem az5 {id:String}{b:Builtin}{args:List ar}{kw:List (Str×ar)}{Q E:ar->aw->Prop}(hk:builtinKind id=none)(hp:plainId id=true)(hb:entryFor table id=some b)(ha:argsOk id ⟨args,kw⟩)(hc:wpAny (model prog w) A.in1 (b ⟨args,kw⟩) (λfin s'=>match fin with
   |.done f=>(match (Except.ok f:Result) with|.ok (.ret v)=>Q v s'|.ok _=>False|.error e=>E e s')
   |.again c'=>c'.quiet=true/\codeAny (model prog w) A c' (λr s'=>match r with|.ok (.ret v)=>Q v s'|.ok _=>False|.error e=>E e s') s') E s0) :
  wpAny (model prog w) A (call (.builtin id) args kw) Q E s0:=by
 refine wpAny_call (codeAny_call_builtin hp hb ?_);simp only[checkBuiltinCall,hk];cases hs:Manifest.signature? id with
 |none=>exact aH5 hc
 |some sg=>
  have e:Bind.checkArgs id sg ⟨args,kw⟩=pure ():=by simpa only[argsOk,hs] using ha
  simp only[e];exact aH5 hc
theorem az6 {Q E:ar->aw->Prop}(hh:A.in1.handled=none)(hl:s0.heap.IsList l its)(ask:CmpOf prog w A.in1 .Gt (λi v=>its[i]? = some v) bt)(em:its.size=0->∀h k,iP s0.heap h->Q d (gD s0 h k))(fin:0<its.size->∀v h k,its[argBest bt (its.size-1)]? = some v->iP s0.heap h->Q v (gD s0 h k)):wpAny (model prog w) A (call (.builtin "max") [.ref l] [(Str.ofString "default",d)]) Q E s0:=by
 have nm:(toString "max"++toString ".loop":String)="max.loop":=by decide
 have lb:l<s0.heap.objs.size:=by obtain⟨_,e,_⟩:=hl;exact aI3 e
 have nI:l≠s0.heap.objs.size:=aL1 lb;have hz:(s0.heap.push { cls:=.type "list_iterator",data:=.fields #[.ref l,.int 0 0] }).objs.size=s0.heap.objs.size+1:=aQ3 ..;refine az5 PySem.F.kind_max PySem.F.plain_max PySem.F.entry_max (az4 _ _) ?_;refine aG9 (wpAny_of_eq (show Builtin.Builtins.bindParams "max" ["key","default"] 0 ⟨[],[(Str.ofString "default",d)]⟩=pure [none,some d] from rfl) ?_);refine aG9 (aH5 (aG9 (wpAny_pyIter_list hl (aG9 (aM6 ?_)))));rw[nm];refine aH5 ⟨plainId_quiet aN9 _,codeAny_builtin PySem.F.entry_max_loop ?_⟩;rw[Around.under_plainId aN9];have W:=Walks.list (prog:=prog) (w:=w) hh s0.heap.objs.size l nI its;have st:((s0.heap.push { cls:=.type "list_iterator",data:=.fields #[.ref l,.int 0 0] }).push { cls:=.type "list",data:=.seq #[] }).IsListIter s0.heap.objs.size l 0:=⟨_,aH1 _ (aJ0 _ rfl),rfl,rfl⟩;have sl2:((s0.heap.push { cls:=.type "list_iterator",data:=.fields #[.ref l,.int 0 0] }).push { cls:=.type "list",data:=.seq #[] }).IsList l its:=(hl.push _).push _;have hS:=aJ0 (s0.heap.push { cls:=.type "list_iterator",data:=.fields #[.ref l,.int 0 0] }) (o:={ cls:=.type "list",data:=.seq #[] }) rfl;have sI:(s0.heap.push { cls:=.type "list_iterator",data:=.fields #[.ref l,.int 0 0] }).objs.size≠s0.heap.objs.size:=by omega
 have sl3:(s0.heap.push { cls:=.type "list_iterator",data:=.fields #[.ref l,.int 0 0] }).objs.size≠l:=λz=>by rw[hz]at z;exact absurd lb (by rw[<- z];exact Nat.not_lt.mpr (Nat.le_succ _))
 have fS:s0.heap.get? (s0.heap.push { cls:=.type "list_iterator",data:=.fields #[.ref l,.int 0 0] }).objs.size=none:=tX (by omega)
 have olds:∀{h2:Heap},(∀b o,b∉[s0.heap.objs.size]->((s0.heap.push { cls:=.type "list_iterator",data:=.fields #[.ref l,.int 0 0] }).push { cls:=.type "list",data:=.seq #[] }).get? b=some o->h2.get? b=some o)->iP s0.heap h2:=λ{h2} o2 b o e=>o2 b o (λz=>by
  rw[aI2.mp z]at e
  rw[tX (aH9 _)]at e;cases e) (aH1 _ (aH1 _ e))
 refine aG9 (aO3 hS rfl ?_);by_cases ne:0<its.size
 ·refine aG9 (wpAny_tryCatch (W.item 0 _ _ _ ne ⟨st,sl2⟩ λv h2 k2 hv st2 o2=>?_))
  have hS2:=o2 _ _ (λz=>sI (aI2.mp z)) hS;refine aG9 (aH5 ?_);refine aG9 (m:=updateSeq _ (λ_=>#[v,v])) (wpAny_updateSeq hS2 rfl ?_);rw[nm];refine aH5 ⟨plainId_quiet aN9 _,az3 hh nI sI sl3 (tX (aH9 _)) fS ask (λv h k e o=>fin ne v h k e o) _ 0 _ k2 v _ rfl ne (λb o e=>?_) (W.frame _ _ _ st2 λb hb o e=>?_) hv (aR8 _ hS2 rfl)⟩
  ·exact (aN7 _ _ (λz:_=b=>by rw[<- z,fS]at e;cases e)).trans (olds o2 b o e)
  ·refine (aN7 _ _ (λz:_=b=>?_)).trans e
   rcases aI1.mp hb with q|q
   ·exact sI (z.trans q)
   ·exact sl3 (z.trans (aI2.mp q))
 ·have z:its.size=0:=by omega
  refine aG9 (wpAny_tryCatch (W.done _ _ _ (by rw[z];exact⟨st,sl2⟩) λh2 k2 o2=>?_));exact aG9 (wpAny_rule (aH5 (em z _ _ (olds o2))))
end
section
variable {X:Cx}{e:Expr}{te:TE}{p2 p3 kp pos:Pos}{m:Int}{jj:Nat}
noncomputable def az7 (te:TE)(m:Int):TE:=λσ H Q=>te σ H λv H1=>∃a ns,v = .ref a/\aS X.K H1 a (ns.map V.int)/\∀M:Int,(ns = []->M=m)->(ns≠[]->M∈ns/\∀x∈ns,x<=M)->Q (.int M) H1
theorem az8 (hc:X.calm=true)(hg:Gl X "max")(hm:X.mg "max" = none)(he:PE X e te)(hs:starEach [e] X.env=(false,eval e X.env)::starEach [] X.env:=by rfl)(h1:(backTo pos (starEach [e] X.env)).any (·.1)=false:=by rfl):PE X (.Call (.Name "max" p2) [e] [⟨some "default",.Constant (.int m) jj p3,kp⟩] pos) (az7 (X:=X) te m):=by
 intro ah s σ H Q I h;refine wpAny_Call_Name_kw (jQ I hg hm PyProof.Rows.boot_max ?_ (by decide) (by decide));refine PyProof.Rows.callWith_kw ?_ (by rw[hs];rfl) h1;have pa:=e9 he gJ hs
 refine aR (pa pos ah s σ H (λvs H1=>match vs with
  |[v]=>∃a ns,v = .ref a/\aS X.K H1 a (ns.map V.int)/\∀M:Int,(ns = []->M=m)->(ns≠[]->M∈ns/\∀x∈ns,x<=M)->Q (.int M) H1
  |_=>False) I h) λus s1 ⟨vs,H1,I1,r1,q1⟩=>?_
 match vs,r1,q1 with
 |[v],r1,⟨a,ns,e1,hq,q⟩=>
  subst e1
  obtain⟨u,rfl,ru⟩:=e8 r1
  cases ru;refine PyProof.Rows.kws_cons (wpAny_Constant_int (PyProof.Rows.kws_nil ?_));have I2:=I1.tok (s1.toks+1)
  obtain⟨its,rv,p,hz⟩:=I2.list hq
  have ia:=jU rv
  obtain⟨ys,ey⟩:=ia.allInts.items
  have en:ns=ys.toList.map (·.1):=by
   have e1:=nums_intItems ys;rw[<- ey]at e1;exact ia.numsOf.symm.trans e1
  have hl:(gD s1 s1.heap (s1.toks+1)).heap.IsList a (intItems ys):=ey▸p.isList;have sz:(intItems ys).size=ys.size:=by simp[intItems]
  have mem:∀x:Int,x∈ns↔∃j,j<ys.size/\numAt ys j=x:=λx=>by
   rw[en];constructor
   ·intro z
    obtain⟨j,hj,e⟩:=mem_getD z
    exact⟨j,by simpa using hj,by rw[numAt_eq];exact e⟩
   ·rintro⟨j,hj,rfl⟩
    rw[numAt_eq];exact getD_mem (by simpa using hj)
  have nil:ns = []↔ys.size=0:=by
   rw[en,List.map_eq_nil_iff,Array.toList_eq_nil_iff]
   exact⟨λz=>by rw[z];rfl,Array.eq_empty_of_size_eq_zero⟩
  refine az6 (I2.ok.hd hc) hl (CmpOf.ints_gt (numAt ys) (λ_ _=>intItems_at)) (λz h k old=>?_) λpos v h k ev old=>?_
  ·rw[sz]at z
   exact⟨.int _,H1,I2.kept (t':=k) (h':=h) old,⟨_,rfl⟩,q _ (λ_=>rfl) λn=>absurd (nil.mpr z) n⟩
  ·rw[sz]at pos ev
   obtain⟨t,rfl⟩:=intItems_at ev
   have best:=argBest_gt (numAt ys) (ys.size-1);refine⟨.int _,H1,I2.kept (t':=k) (h':=h) old,⟨t,rfl⟩,q _ (λn=>absurd (nil.mp n) (by omega)) λ_=>⟨?_,λx hx=>?_⟩⟩
   ·exact (mem _).mpr ⟨_,by have:=best.1;omega,rfl⟩
   ·obtain⟨j,hj,rfl⟩:=(mem x).mp hx
    exact best.2 j (by omega)
end
end L2
namespace PP
open PySem L2 PyProof.Rows Txs
section
variable {X:Cx}{a b e o:Expr}{ta tb te:aE}{tr:bN}{pos p2 p3 kp ai aj:Pos}{m:Int}{jj:Nat}
noncomputable def J5 (te:aE)(m:Int):aE:=λρ Q=>te ρ λx _=>∃ns,x = .lst (intz ns)/\∀M:Int,(ns = []->M=m)->(ns≠[]->M∈ns/\∀x∈ns,x<=M)->Q (.int M) .fr
theorem az9 (B:Bt X.mg)(hc:X.calm=true)(he:QE X e te)(hg:Gl X "max":=by rfl)(hs:starEach [e] X.env=(false,eval e X.env)::starEach [] X.env:=by rfl)(h1:(backTo pos (starEach [e] X.env)).any (·.1)=false:=by rfl):QE X (.Call (.Name "max" p2) [e] [⟨some "default",.Constant (.int m) jj p3,kp⟩] pos) (J5 te m):=
 bP (az8 hc hg B.max he hs h1) λσ H Q' h=>by
  obtain⟨W,ρ,Q,px,q,k⟩:=h
  refine⟨W,ρ,_,px,q,?_⟩;rintro v H1 x g s r ⟨ns,rfl,q⟩
  obtain⟨p,us,rfl,_,h,r2⟩:=r.sqL
  rw[r2.ofInts]at h
  exact⟨p,ns,rfl,aS.of h,λM m1 m2=>k _ _ _ .fr s (.int M) (q M m1 m2)⟩
noncomputable def uF:PV->Tg->PV->Tg->PK->Prop:=λx _ y _ Q=>∃ns ms:ag,x = .tup (intz ns)/\y = .tup (intz ms)/\Q (.bl (!HT.b7 ns ms)) .fr
theorem aA0:cI X uF (λx y H Q=>∃a b ns ms,x = .ref a/\y = .ref b/\aU X.K H a (ns.map V.int)/\aU X.K H b (ms.map V.int)/\Q (.bl (!HT.b7 ns ms)) H):=by
 rintro W Hs H u v x y g g' Q Q' s n r1 r2 ⟨ns,ms,rfl,rfl,q⟩ k
 obtain⟨p1,us,rfl,h1,r1⟩:=r1.sqT
 obtain⟨p2,vs,rfl,h2,r2⟩:=r2.sqT
 obtain rfl:=r1.ofInts;obtain rfl:=r2.ofInts
 exact⟨p1,p2,ns,ms,rfl,rfl,aU.of h1,aU.of h2,k _ _ _ _ (aD.refl _) (.bl _) q⟩
theorem aA1 (hu:X.A.units+3<cLine)(ha:QE X a ta)(hb:QE X b tb):QT X (.Compare a [.GtE] [b] pos) (aJ (q2 uF ta tb)):=fE (az1 (by omega)) aA0 ha hb (fW _)
noncomputable def nT (te:aE)(tr:bN):aE:=λρ Q=>te ρ λx _=>∃a:Str,x = .str a/\tr ρ λxs=>∃ws:List Str,xs.map (·.1) = [.lst (stxs ws)]/\(ws.map (·.length)).sum+ws.length*a.length<=10000000/\Q (.str (Txt.join a ws)) .fr
theorem aA2 (ho:QE X o te)(ha:QA X [e] tr)(hbase:attributeBase o "join" X.env (eval o X.env)=eval o X.env:=by rfl)(hfew:((backTo aj (starEach [e] X.env)).all (λx=>!x.1)&&(backToKw aj (keywordEach [] X.env)).all (λx=>x.1.isSome)&&decide (([e]:List Expr).length+([]:List Keyword).length+(if ([]:List Keyword).isEmpty then 0 else 1)<30))=true:=by rfl)(hline:(ai.endLine==aj.line)=true:=by rfl)(hs:starEach [e] X.env=(false,eval e X.env)::starEach [] X.env:=by rfl)(aq:(backTo aj (starEach [] X.env)).any (·.1)=false:=by rfl) :
  QE X (.Call (.Attribute o "join" ai) [e] [] aj) (nT te tr):=
 bP (lA PySem.F.plainAttrs_str PySem.F.slot_str_join PySem.F.type_str_join az2 ho ha hbase hfew hline hs aq) λσ H Q' h=>by
  obtain⟨W,ρ,Q,px,q,k⟩:=h
  refine⟨W,ρ,_,px,q,?_⟩;rintro v H1 x g s r ⟨a,rfl,q⟩;cases r;refine⟨rfl,W,ρ,_,px.mono s,q,λvs H2 xs s2 rs q2=>?_⟩
  obtain⟨ws,e,hw,q⟩:=q2
  have rs:=rs.any;rw[e]at rs
  obtain⟨w,rfl,rw'⟩:=rs.one
  obtain⟨l,us,rfl,_,h,r2⟩:=rw'.sqL
  obtain rfl:=r2.ofTxs
  exact⟨a,l,ws,rfl,rfl,aS.of h,hw,k _ _ _ .fr (s.trans s2) (.str _) q⟩
theorem aA3 {M:ax->Prop}{H:Hp}{v:V}{w:ar}{z:PV}(r:aG X.K M H v z)(rw':aX v w)(o:cS 2 z .non=true):c8 2 z .non=decide (w = .none):=by
 cases r with
 |non=>cases rw';rfl
 |int i=>obtain⟨t,rfl⟩:=rw';rfl
 |tup h r=>cases rw';rfl
 |_=>first|cases o|(unfold cS at o;cases o)
theorem aA4 (hu:X.A.units+3<cLine):bU X (compareOp .In) (λx y H Q=>∃p us zs,x = .non/\y = .ref p/\H p=some (.lst us)/\Reps X.K (λ_=>True) H us zs/\(∀z∈zs,cS 2 z .non=true)/\Q (.bl (zs.any λz=>c8 2 z .non)) H):=by
 intro ah s σ H x y v u Q I rx ry h
 obtain⟨p,us,zs,rfl,rfl,hp,rr,ok,q⟩:=h
 cases rx;cases ry
 obtain⟨its,r,pl,hz⟩:=I.list (aS.of (K:=X.K) hp)
 have lr:=r.length;have lp:=rr.length;have key:∀j (w:ar),its[j]? = some w->∃z,zs[j]? = some z/\SeqAt.EqAt X.A.in1 s w .none (decide (w = .none))/\c8 2 z .non=decide (w = .none):=λj w hw=>by
  have hj:=(aI4.mp hw).1;have h1:j<us.length:=by omega
  obtain⟨w',hw',rw'⟩:=r.get (aH2 h1)
  rw[hw]at hw';cases hw'
  obtain⟨z,hz,rz⟩:=rr.get (aH2 h1)
  have o:=ok z (aJ9 hz);have e:=aA3 rz rw' o;refine⟨z,hz,?_,e⟩;rw[<- e];exact yK I 2 (A:=X.A.in1) (by show X.A.units+1+2<cLine;omega) rz (.non:aG X.K (λ_=>True) H .non .non) rw' rfl o
 refine SeqAt.in_listAt (λw=>decide (w = .none)) pl.isList (λw hw=>?_) ⟨.bl _,H,I,rfl,?_⟩
 ·have hw:w∈its:=by simpa using hw
  obtain⟨j,hj⟩:=List.getElem?_of_mem hw
  obtain⟨z,_,h1,h2⟩:=key j w hj
  exact h1
 ·have:(its.toArray.any λw=>decide (w = .none))=zs.any λz=>c8 2 z .non:=by
   rw[show (its.toArray.any λw=>decide (w = .none))=its.any (λw=>decide (w = .none)) by simp,aO5,List.any_eq_true,List.any_eq_true];refine⟨λ⟨w,hw,e⟩=>?_,λ⟨z,hz,e⟩=>?_⟩
   ·obtain⟨j,hj⟩:=List.getElem?_of_mem hw
    obtain⟨z,hm,_,h2⟩:=key j w hj
    exact⟨z,aJ9 hm,by rw[h2];exact e⟩
   ·obtain⟨j,hj⟩:=List.getElem?_of_mem hz
    have hl:=(aI4.mp hj).1
    obtain⟨z',hm,_,h2⟩:=key j its[j] (aH2 (by omega))
    rw[hj]at hm;cases hm
    exact⟨its[j]'(by omega),aO8 _,by rw[<- h2];exact e⟩
  rw[this];exact q
noncomputable def uG:PV->Tg->PV->Tg->PK->Prop:=λx _ y _ Q=>∃zs,x = .non/\y = .lst zs/\(∀z∈zs,cS 2 z .non=true)/\Q (.bl (zs.any λz=>c8 2 z .non)) .fr
theorem aA5:cI X uG (λx y H Q=>∃p us zs,x = .non/\y = .ref p/\H p=some (.lst us)/\Reps X.K (λ_=>True) H us zs/\(∀z∈zs,cS 2 z .non=true)/\Q (.bl (zs.any λz=>c8 2 z .non)) H):=by
 rintro W Hs H u v x y g g' Q Q' s n r1 r2 ⟨zs,rfl,rfl,ok,q⟩ k;cases r1
 obtain⟨p,us,rfl,_,h,r⟩:=r2.sqL
 exact⟨p,us,zs,rfl,rfl,h,r.same (aD.refl _) (λ_ _=>trivial),ok,k _ _ _ .fr (aD.refl _) (.bl _) q⟩
theorem aA6 (hu:X.A.units+3<cLine)(ha:QE X a ta)(hb:QE X b tb)(hm:behindInMarks .In b=false:=by rfl):QT X (.Compare a [.In] [b] pos) (aJ (q2 uG ta tb)):=fE (aA4 hu) aA5 ha hb hm
end
noncomputable def nU:List Expr->Option (List Str)
 |[]=>some []
 |.Constant (.str s) _ _::r=>(nU r).map (s::·)
 |_=>none
noncomputable def qG:List Str->bN
 |[]=>a9
 |s::r=>a7 (qC (.str s)) (qG r)
theorem J6 {X:Cx}:∀{es:List Expr}{ws:List Str},nU es=some ws->QA X es (qG ws)
 |[],_,h=>by
  cases h;exact aB
 |.Constant (.str s) j p::r,ws,h=>by
  have h:(nU r).map (s::·)=some ws:=h;cases e:nU r with
  |none=>rw[e]at h;cases h
  |some l=>
   rw[e]at h;cases h;exact a8 bQ (J6 e)
end PP
namespace Core
open PySem L2 PP Txs PySem.NumText
noncomputable def cX (ws:List Str):Nat:=(ws.map (·.length)).sum
theorem kU (w:Str)(r:List Str):cX (w::r)=w.length+cX r:=by unfold cX;rw[aK5,List.sum_cons]
theorem J7 (a b:List Str):cX (a++b)=cX a+cX b:=by unfold cX;rw[aK6,List.sum_append]
theorem uH {c:Nat}:∀{ws:List Str},ws≠[]->(jn c (ws.map Lc)).length+1=cX ws+ws.length
 |[],h=>absurd rfl h
 |[w],_=>by
  rw[kU,cC];show (Lc w).length+1=(Lc w).length+0+1;rfl
 |w::v::r,_=>by
  have ih:=uH (c:=c) (ws:=v::r) (by simp);rw[kU,cC];show (Lc w++c::jn c ((v::r).map Lc)).length+1=_;rw[aJ3,aJ1,aJ1 (a:=w)];omega
theorem J8 {c:Nat}{ws:List Str}(ne:ws≠[]):(Txt.join ⟨#[c]⟩ ws).length+1=cX ws+ws.length:=by
 rw[cC,uB,nJ];exact uH ne
theorem aA7 (z:Str)(c:Nat):z.length+1=cX (Txt.split z ⟨#[c]⟩)+(Txt.split z ⟨#[c]⟩).length:=by
 rw[<- uH (c:=c) (pS _ _),nP,cC]
theorem uI {c:Nat}(hc:c<128){ws:List Str}(h:∀w∈ws,b4 w):b4 (Txt.join ⟨#[c]⟩ ws):=λx hx=>by
 rw[uB,nJ]at hx;rcases E7 hx with rfl|⟨w,hw,hx⟩
 ·exact hc
 ·obtain⟨p,hp,rfl⟩:=aJ2.mp hw
  exact h p hp x hx
theorem uJ:∀{a b:List Str},a.Sublist b->cX a<=cX b
 |_,_,.slnil=>aH9 _
 |_,_,.cons x h=>by rw[kU];exact aK4 (uJ h) (Nat.le_add_left _ _)
 |_,_,.cons₂ x h=>by rw[kU,kU];exact Nat.add_le_add_left (uJ h) _
noncomputable def qH:bW:=λxs Q=>∃(z:Str) (c:Int),xs = [.str z,.int c]/\b4 z/\z.length<=90000/\∀t:Str,b4 t->t.length<=2*z.length+5->Q (.str t)
noncomputable def K0:aM:=(aH (iD 2 (kK (a5 0) (a7 (qC (.str " ")) a9)))
 (aH (aW 3 (b6 (c9 (a5 1) (qC (.int 3))) (aF cF (a7 (a5 2) a9))))
 (aH (aW 4 (b6 (c9 (a5 1) (qC (.int 1009))) (aF cF (a7 (a5 2) a9))))
 (aH (aW 5 (bH (a5 2) (a5 3)))
 (aH (bA (aJ (fM (b6 (a5 1) (qC (.int 3))) (qC (.int 1)))) (tW 2 (a5 3)) bE)
 (aH (bA (aJ (fM (b6 (a5 1) (qC (.int 3))) (qC (.int 0)))) (pL 2 (a5 4) (a5 5)) bE)
 (aY (nT (qC (.str " ")) (a7 (a5 2) a9)))))))))
theorem K1:∀(L:List Str) (k:Nat),(stxs L).eraseIdx k=stxs (L.eraseIdx k)
 |[],_=>rfl
 |_::_,0=>rfl
 |a::L,k+1=>congrArg (PV.str a::·) (K1 L k)
theorem aA8 (L:List Str)(k:Nat)(p:Str):(stxs L).take k++PV.str p::(stxs L).drop k=stxs (L.take k++p::L.drop k):=by unfold stxs;rw[aK6,aK5,List.map_take,List.map_drop]
theorem K2 {L:List Str}{k:Nat}{p:Str}(h:L[k]? = some p):(stxs L)[k]? = some (PV.str p):=by unfold stxs;rw[aI8,h];rfl
theorem aA9:dC K0 ["text","cell","parts","spot","other","part"] qH:=by
 rintro xs Q ⟨z,c,rfl,az,zl,q⟩;have pa:∀p∈Txt.split z " ",b4 p/\p.length<=z.length:=λp hp=>by
  rw[fV]at hp
  exact⟨nQ az hp,(jN hp).2⟩
 have tot:z.length+1=cX (Txt.split z " ")+(Txt.split z " ").length:=by rw[fV];exact aA7 z 32
 have ne:Txt.split z " "≠[]:=pS _ _;refine⟨_,rfl,_,rfl," ",rfl,by decide,by omega,rfl,E8 _,?_⟩;dsimp only;generalize Txt.split z " " = P at pa tot ne;have pn:0<P.length:=List.length_pos_iff.mpr ne;have sl:(stxs P).length=P.length:=dL P;refine⟨_,rfl,_,_,rfl,rfl,⟨by decide,by decide⟩,_,rfl,_,_,rfl,rfl,_,_,rfl,rfl,(by show (0:Int)<((stxs P).length:Int);omega),trivial,?_⟩;refine⟨_,rfl,_,_,rfl,rfl,⟨by decide,by decide⟩,_,rfl,_,_,rfl,rfl,_,_,rfl,rfl,(by show (0:Int)<((stxs P).length:Int);omega),trivial,?_⟩;have s0:=aL0 (c/3) (show ((stxs P).length:Int)≠0 by omega);have s1:=aK1 (c/3) (show 0<((stxs P).length:Int) by omega);have o0:=aL0 (c/1009) (show ((stxs P).length:Int)≠0 by omega);have o1:=aK1 (c/1009) (show 0<((stxs P).length:Int) by omega);dsimp only;generalize c/3%((stxs P).length:Int)=sp at s0 s1;generalize c/1009%((stxs P).length:Int)=ot at o0 o1
 obtain⟨k,rfl⟩:=Int.eq_ofNat_of_zero_le s0
 obtain⟨j,rfl⟩:=Int.eq_ofNat_of_zero_le o0
 have hk:k<P.length:=by omega
 have hj:j<P.length:=by omega
 have hp:P[k]? = some P[k]:=aH2 hk;have pp:=pa P[k] (aO8 hk);generalize P[k]=p at hp pp;refine⟨_,rfl,_,rfl,_,_,_,rfl,rfl,lB (by omega) (by rw[Int.toNat_natCast];exact K2 hp),(by first|trivial|rfl),?_⟩;have fin:∀L:List Str,(∀w∈L,b4 w)->L≠[]->cX L+L.length<=2*z.length+5->∀y5,(aY (nT (qC (.str " ")) (a7 (a5 2) a9))) { nx:=λ_=>Q .non,rt:=Q } [some (.sh true (.str z)),si c,some (.own (.lst (stxs L))),si (k:Int),si (j:Int),y5]:=λL aL nL tL y5=>by
  have e:=J8 (c:=32) nL;refine⟨_,rfl,_,rfl,L,rfl,?_,trivial,q _ ?_ ?_⟩
  ·have:(" ":Str).length=1:=by decide
   rw[this];show cX L+L.length*1<=_;omega
  ·rw[fV];exact uI (by decide) aL
  ·rw[fV];omega
 have ins:∀L:List Str,(∀w∈L,b4 w)->j<=L.length->(c%3=0->L≠[])->cX L+L.length<=z.length+1->∀y5,y5=some (.sh true (.str p))->(aH (bA (aJ (fM (b6 (a5 1) (qC (.int 3))) (qC (.int 0)))) (pL 2 (a5 4) (a5 5)) bE)
   (aY (nT (qC (.str " ")) (a7 (a5 2) a9)))) { nx:=λ_=>Q .non,rt:=Q } [some (.sh true (.str z)),si c,some (.own (.lst (stxs L))),si (k:Int),si (j:Int),y5]:=λL aL jL nL tL y5 e5=>by
  subst e5;refine⟨_,rfl,_,_,rfl,rfl,(by show (0:Int)<3;decide),.inl ⟨_,_,rfl,rfl,_,rfl,?_⟩⟩;show if (!decide (c%3=0))=true then _ else _
  by_cases h:c%3=0
  ·rw[aH3 h]
   exact aP (fin L aL (nL h) (by omega) _)
  ·rw[aH0 h]
   refine aQ ⟨_,rfl,_,rfl,j,rfl,by rw[dL];exact jL,by rw[dL];omega,_,rfl,(by first|trivial|rfl),?_⟩;show (aY (nT (qC (.str " ")) (a7 (a5 2) a9))) { nx:=λ_=>Q .non,rt:=Q } [some (.sh true (.str z)),si c,some (.own (.lst ((stxs L).take j++PV.str p::(stxs L).drop j))),si (k:Int),si (j:Int),some (.sh true (.str p))];rw[aA8];refine fin _ (λw hw=>?_) (by simp) ?_ _
   ·rcases aL2.mp hw with hw|hw
    ·exact aL w (List.mem_of_mem_take hw)
    ·rcases aI1.mp hw with rfl|hw
     ·exact pp.1
     ·exact aL w (List.mem_of_mem_drop hw)
   ·have e1:cX (L.take j)+cX (L.drop j)=cX L:=by rw[<- J7,List.take_append_drop]
    rw[J7,kU,aJ3,aJ1,aP5,aL7];omega
 refine⟨_,rfl,_,_,rfl,rfl,(by show (0:Int)<3;decide),.inl ⟨_,_,rfl,rfl,_,rfl,?_⟩⟩;show if (!decide (c%3=1))=true then _ else _
 by_cases h:c%3=1
 ·rw[aH3 h]
  exact aP (ins P (λw hw=>(pa w hw).1) (by omega) (λz=>by omega) (by omega) _ rfl)
 ·rw[aH0 h]
  refine aQ ⟨_,rfl,_,rfl,k,rfl,by rw[dL];omega,by rw[dL];omega,?_⟩;rw[K1];have le:=uJ (List.eraseIdx_sublist P k);have ll:(P.eraseIdx k).length=P.length-1:=by rw[List.length_eraseIdx,if_pos hk]
  by_cases h0:c%3=0
  ·by_cases nn:P.eraseIdx k = []
   ·
    rw[nn];refine⟨_,rfl,_,_,rfl,rfl,(by show (0:Int)<3;decide),.inl ⟨_,_,rfl,rfl,_,rfl,?_⟩⟩;show if (!decide (c%3=0))=true then _ else _
    rw[aH3 h0];refine aP ⟨_,rfl,_,rfl,[],rfl,(by show 0+0*_<=_;omega),trivial,q _ ?_ ?_⟩
    ·rw[fV];exact uI (by decide) λ_ w=>nomatch w
    ·rw[fV,cC,uB,nJ];exact aK9 _
   ·exact ins _ (λw hw=>(pa w ((List.eraseIdx_sublist P k).mem hw)).1) (by omega) (λ_=>nn) (by omega) _ rfl
  ·exact ins _ (λw hw=>(pa w ((List.eraseIdx_sublist P k).mem hw)).1) (by omega) (λz=>absurd z h0) (by omega) _ rfl
noncomputable abbrev iU:List Str:=["0","1","7","39","40","60","61","00","01","+1","1_","100","","-","2","5",".","1-2"]
theorem aB0:∀w∈iU,(∀c∈Lc w,c<128)/\w.length<=3:=by decide +kernel
noncomputable def nV:bW:=λxs Q=>∃(z:Str) (c:Int),xs = [.str z,.int c]/\b4 z/\z.length<=90000/\∀t:Str,b4 t->t.length<=2*z.length+5->Q (.str t)
noncomputable def K3:aM:=(aH (aW 2 (dA (qG iU)))
 (aH (aW 3 (b6 (c9 (a5 1) (qC (.int 18))) (dI (aF eS (a7 (a5 0) a9)) (qC (.int 1)))))
 (aH (mO (gN (aJ (k6 (a5 3) (aF eS (a7 (a5 0) a9)))) (aJ (q2 nN (q2 iQ (a5 0) (a5 3)) (qC (.str "0123456789")))))
  (aW 3 (dI (a5 3) (qC (.int 1)))))
 (aH (aW 4 (a5 3))
 (aH (mO (gN (aJ (k6 (a5 4) (aF eS (a7 (a5 0) a9)))) (aJ (q2 kN (q2 iQ (a5 0) (a5 4)) (qC (.str "0123456789")))))
  (aW 4 (dI (a5 4) (qC (.int 1)))))
 (aY (cO (cO (dD (a5 0) cM (cN (a5 3))) (bH (a5 2) (b6 (a5 1) (aF cF (a7 (a5 2) a9))))) (dD (a5 0) (cN (a5 4)) cM))))))))
theorem aB1:dC K3 ["text","cell","odd","at","last"] nV:=by
 rintro xs Q ⟨z,c,rfl,az,zl,q⟩;refine⟨by show 18<=1000;decide,rfl,trivial,?_⟩;refine⟨_,rfl,_,_,rfl,rfl,⟨by decide,by decide⟩,_,rfl,_,rfl,by omega,_,_,rfl,rfl,_,_,rfl,rfl,(by show (0:Int)<(z.length:Int)+1;omega),trivial,?_⟩;have s0:=aL0 (c/18) (show ((z.length:Int)+1)≠0 by omega);have s1:=aK1 (c/18) (show 0<((z.length:Int)+1) by omega);dsimp only;generalize c/18%((z.length:Int)+1)=a0 at s0 s1;refine⟨λm ρ=>∃a:Int,ρ = [some (.sh true (.str z)),si c,some (.sh true (.lst (stxs iU))),si a,none]/\0<=a/\a<=(z.length:Int)/\m=((z.length:Int)-a).toNat,⟨_,a0,rfl,s0,by omega,rfl⟩,?_⟩;rintro m ρ ⟨a,rfl,a1,a2,rfl⟩
 have bT:((aH (aW 4 (a5 3))
 (aH (mO (gN (aJ (k6 (a5 4) (aF eS (a7 (a5 0) a9)))) (aJ (q2 kN (q2 iQ (a5 0) (a5 4)) (qC (.str "0123456789")))))
  (aW 4 (dI (a5 4) (qC (.int 1)))))
 (aY (cO (cO (dD (a5 0) cM (cN (a5 3))) (bH (a5 2) (b6 (a5 1) (aF cF (a7 (a5 2) a9))))) (dD (a5 0) (cN (a5 4)) cM)))))) { nx:=λ_=>Q .non,rt:=Q } [some (.sh true (.str z)),si c,some (.sh true (.lst (stxs iU))),si a,none]:=by
  refine⟨_,rfl,trivial,?_⟩;refine⟨λm ρ=>∃b:Int,ρ = [some (.sh true (.str z)),si c,some (.sh true (.lst (stxs iU))),si a,si b]/\a<=b/\b<=(z.length:Int)/\m=((z.length:Int)-b).toNat,⟨_,a,rfl,Int.le_refl _,a2,rfl⟩,?_⟩;rintro m ρ ⟨b,rfl,ab,b2,rfl⟩;have b1:0<=b:=by omega
  have last:(aY (cO (cO (dD (a5 0) cM (cN (a5 3))) (bH (a5 2) (b6 (a5 1) (aF cF (a7 (a5 2) a9))))) (dD (a5 0) (cN (a5 4)) cM))) { nx:=λ_=>Q .non,rt:=Q } [some (.sh true (.str z)),si c,some (.sh true (.lst (stxs iU))),si a,si b]:=by
   obtain⟨t1,t2⟩:=J1 az a1
   obtain⟨f1,f2⟩:=uE az b1
   have lt:(Txt.slice z none (some a)).length<=a.toNat:=by rw[cC,t2,aP5];omega
   have lf:(Txt.slice z (some b) none).length=z.length-b.toNat:=by rw[cC,f2,aL7,<- cC]
   have m0:=aL0 c (show (18:Int)≠0 by decide);have m1:=aK1 c (show (0:Int)<18 by decide);have hl:(c%18).toNat<iU.length:=by show _<18;omega
   have hw:=aH2 hl;have ok:=aB0 _ (aO8 hl);generalize iU[(c%18).toNat]=w at hw ok;refine⟨_,rfl,_,rfl,_,rfl,z,rfl,by omega,_,rfl,_,rfl,_,rfl,_,_,rfl,rfl,_,_,rfl,rfl,(by show (0:Int)<18;decide),_,_,_,rfl,rfl,(lB m0 (K2 hw):L2.atI (stxs iU) (c%18)=some (PV.str w)),_,_,rfl,rfl,by omega,_,rfl,_,rfl,_,rfl,z,rfl,by omega,_,_,rfl,rfl,?_,trivial,q _ (hJ (hJ t1 ok.1) f1) ?_⟩
   ·rw[dR];omega
   ·rw[dR,dR]
    omega
  refine⟨_,rfl,_,rfl,z,rfl,by omega,_,_,rfl,rfl,_,rfl,?_⟩;by_cases h:b<(z.length:Int)
  ·rw[aH3 h]
   obtain⟨d,hd,ad⟩:=qD az b1 h
   refine aQ ⟨_,rfl,_,rfl,z,b,d,rfl,rfl,by omega,hd,_,_,rfl,rfl,_,rfl,?_⟩;generalize (!(Builtin.Str.occurrences ("0123456789":Str) ⟨#[d]⟩ 0 ("0123456789":Str).length 1).isEmpty)=bb;cases bb with
   |true=>exact aQ ⟨_,rfl,_,_,rfl,rfl,trivial,_,(by omega),b+1,rfl,by omega,by omega,rfl⟩
   |false=>exact aP last
  ·rw[aH0 h]
   exact aP (aP last)
 refine⟨_,rfl,_,rfl,z,rfl,by omega,_,_,rfl,rfl,_,rfl,?_⟩;by_cases h:a<(z.length:Int)
 ·rw[aH3 h]
  obtain⟨d,hd,ad⟩:=qD az a1 h
  refine aQ ⟨_,rfl,_,rfl,z,a,d,rfl,rfl,by omega,hd,_,_,rfl,rfl,_,rfl,?_⟩;generalize (!(Builtin.Str.occurrences ("0123456789":Str) ⟨#[d]⟩ 0 ("0123456789":Str).length 1).isEmpty)=bb;cases bb with
  |false=>exact aQ ⟨_,rfl,_,_,rfl,rfl,trivial,_,(by omega),a+1,rfl,by omega,by omega,rfl⟩
  |true=>exact aP bT
 ·rw[aH0 h]
  exact aP (aP bT)
noncomputable def nO (z:Str):Option Int:=if ((decide ((Lc z).length=1)||(decide ((Lc z).length=2)&&!decide ((Lc z).head? = some 48)))&&(Lc z).all eJ)=true then some (cG z) else none
noncomputable def lY:bW:=λxs Q=>∃z:Str,xs = [.str z]/\b4 z/\z.length<=100000/\Q (dQ (nO z))
noncomputable def K4:aM:=(aH (bA (eO (aJ (q2 (sW true) (aF eS (a7 (a5 0) a9)) (dA (a7 (qC (.int 1)) (a7 (qC (.int 2)) a9))))) (gN (aJ (fJ (aF eS (a7 (a5 0) a9)) (qC (.int 2)))) (aJ (q2 (jK false) (q2 iQ (a5 0) (qC (.int 0))) (qC (.str "0")))))) (aY (qC .non)) bE)
 (aH (dX (nH (a5 0)) (bX 1)
  (bA (aJ (q2 nN (a5 1) (qC (.str "0123456789")))) (aY (qC .non)) bE))
 (aY (aF nM (a7 (a5 0) a9)))))
theorem aB2:dC K4 ["text","sign"] lY:=by
 rintro xs Q ⟨z,rfl,ha,zl,q⟩;have lz:=cC z;unfold nO at q
 have tail:(decide ((Lc z).length=1)||(decide ((Lc z).length=2)&&!decide ((Lc z).head? = some 48)))=true->((aH (dX (nH (a5 0)) (bX 1)
  (bA (aJ (q2 nN (a5 1) (qC (.str "0123456789")))) (aY (qC .non)) bE))
 (aY (aF nM (a7 (a5 0) a9))))) { nx:=λ_=>Q .non,rt:=Q } [some (.sh true (.str z)),none]:=λhh=>by
  rw[hh,Bool.true_and]at q;refine⟨_,rfl,z,rfl,F9 ha,λi ρ=>(∀c∈(Lc z).take i,eJ c=true)/\∃y,ρ = [some (.sh true (.str z)),y],⟨(λ_ w=>nomatch w),none,rfl⟩,?_,?_⟩
  ·rintro i y ρ hy ⟨inv,y1,rfl⟩
   unfold fR at hy;rw[aI8]at hy;cases e:z.cps.toList[i]? with
   |none=>rw[e]at hy;cases hy
   |some c=>
    rw[e]at hy;cases hy;refine kR ?_;refine⟨_,rfl,_,_,rfl,rfl,_,rfl,?_⟩;rw[F8 c (ha c (aJ9 e))];cases hd:eJ c with
    |false=>
     have:(Lc z).all eJ=false:=by
      rw[aO1];intro w
      have:=aM5.mp w c (aJ9 e)
      rw[hd]at this;cases this
     rw[this]at q;exact aQ ⟨trivial,q⟩
    |true=>
     refine aP ⟨λd hd'=>?_,_,rfl⟩;rw[aS3,show (Lc z)[i]? = some c from e]at hd';rcases aL2.mp hd' with w|w
     ·exact inv d w
     ·rw[aI2.mp w];exact hd
  ·rintro ρ ⟨inv,y1,rfl⟩
   have e:(fR z).length=(Lc z).length:=by unfold fR;rw[aH4]
   rw[e,aP0]at inv;have al:(Lc z).all eJ=true:=aM5.mpr inv;rw[al]at q;rw[Bool.or_eq_true,aK8,aK2,aK8]at hh;refine⟨_,rfl,z,rfl,λc hc=>?_,λw=>?_,by omega,trivial,q⟩
   ·have:=inv c hc
    unfold eJ at this;simpa using this
   ·have:(Lc z).length=0:=by rw[show Lc z = [] from w];rfl
    omega
 have non:(decide ((Lc z).length=1)||(decide ((Lc z).length=2)&&!decide ((Lc z).head? = some 48)))=false->Q .non:=λhh=>by
  rw[hh,Bool.false_and]at q;exact q
 refine⟨_,rfl,z,rfl,by omega,by show 2<=1000;decide,rfl,_,[1,2],rfl,rfl,_,rfl,?_⟩;show if (!decide ((z.length:Int)∈([1,2]:ag)))=true then _ else _
 by_cases l1:z.length=1
 ·rw[l1]
  refine aP ⟨_,rfl,z,rfl,by omega,.inl ⟨_,_,rfl,rfl,_,rfl,?_⟩⟩;show if decide ((z.length:Int)=2)=true then _ else _
  rw[l1];exact aP (aP (tail (by rw[aH3 (by omega:(Lc z).length=1)];rfl)))
 by_cases l2:z.length=2
 ·obtain⟨c,r,ez⟩:∃c r,z.cps.toList=c::r:=by
   cases e:z.cps.toList with
   |nil=>rw[show Lc z = [] from e]at lz;rw[lz]at l2;cases l2
   |cons c r=>exact⟨c,r,rfl⟩
  have d1:decide ((Lc z).length=1)=false:=aH0 (by omega);have d2:decide ((Lc z).length=2)=true:=aH3 (by omega);rw[d1,d2,Bool.false_or,Bool.true_and]at tail non;rw[l2];refine aP ⟨_,rfl,z,rfl,by omega,.inl ⟨_,_,rfl,rfl,_,rfl,?_⟩⟩;show if decide ((z.length:Int)=2)=true then _ else _
  rw[l2];refine aQ ⟨_,rfl,z,0,c,rfl,rfl,by omega,lB (by decide) (by rw[ez];rfl),_,_,rfl,rfl,_,rfl,?_⟩;show if decide ((⟨#[c]⟩:Str)="0")=true then _ else _
  by_cases hc:c=48
  ·rw[aH3 (show (⟨#[c]⟩:Str)="0" by rw[hc];rfl)]
   have hh:(Lc z).head? = some 48:=by rw[show Lc z=c::r from ez,hc];rfl
   exact aQ ⟨trivial,non (by rw[aH3 hh];rfl)⟩
  ·rw[aH0 (λw=>hc (by
    have w:=congrArg Lc w
    have:[c] = [48]:=w
    injection this))]
   exact aP (tail (by rw[aH0 (show ¬(Lc z).head? = some 48 by rw[show Lc z=c::r from ez];exact λw=>hc (aI7 w))];rfl))
 ·have:decide ((z.length:Int)∈([1,2]:ag))=false:=aH0 (by simp;omega)
  rw[this];exact aQ ⟨trivial,non (by rw[aH0 (by omega:¬(Lc z).length=1),aH0 (by omega:¬(Lc z).length=2)];rfl)⟩
noncomputable def hV (z:Str):Option (Int×Int):=match Txt.split z "-" with
 |[a,b]=>match nO a,nO b with
  |some x,some y=>some (x,y)
  |_,_=>none
 |_=>none
noncomputable def jO:Option (Int×Int)->PV
 |none=>.non
 |some l=>.tup [.int l.1,.int l.2]
noncomputable def qI:bW:=λxs Q=>∃z:Str,xs = [.str z]/\b4 z/\z.length<=100000/\Q (jO (hV z))
noncomputable def K5:aM:=(aH (aW 1 (dO (gP (kK (a5 0) (a7 (qC (.str "-")) a9))) [none] (bX 0) cL (aF lY (a7 (a5 0) a9))))
 (aH (bA (eO (aJ (fM (aF cF (a7 (a5 1) a9)) (qC (.int 2)))) (aJ (q2 (pI false) (qC .non) (a5 1)))) (aY (qC .non)) bE)
 (aY (gB (a7 (bH (a5 1) (qC (.int 0))) (a7 (bH (a5 1) (qC (.int 1))) a9))))))
theorem aB3:dC K5 ["part","ends"] qI:=by
 rintro xs Q ⟨z,rfl,ha,zl,q⟩;have pa:∀p∈Txt.split z "-",b4 p/\p.length<=100000:=λp hp=>by
  rw[show ("-":Str)=⟨#[45]⟩ from lW]at hp
  exact⟨nQ ha hp,aK4 (jN hp).2 zl⟩
 have pc:(Txt.split z "-").length<=100001:=by
  rw[show ("-":Str)=⟨#[45]⟩ from lW]
  have:=G4 z 45
  omega
 unfold hV at q;refine⟨_,rfl,_,rfl,"-",rfl,by decide,by omega,_,rfl,(λz=>by cases z),by rw[dL];omega,λi acc=>acc=(((Txt.split z "-").take i).map nO).map dQ,rfl,?_,?_⟩
 ·rintro i y acc hy rfl
  have hy':(stxs ((Txt.split z "-").map id))[i]? = some y:=by rw[aS4];exact hy
  obtain⟨w,rfl,hx⟩:=nK hy'
  have wp:=pa w (aJ9 hx);refine kR ?_;refine⟨_,rfl,w,rfl,wp.1,wp.2,trivial,?_⟩;show ((((Txt.split z "-").take i).map nO).map dQ)++[dQ (nO w)]=_;rw[jH hx,aK6];rfl
 rintro acc rfl;rw[dL,aP0];refine⟨trivial,?_⟩;generalize Txt.split z "-" = P at q;refine⟨_,rfl,_,_,rfl,rfl,.inl ⟨_,_,rfl,rfl,_,rfl,?_⟩⟩;show if (!decide ((((P.map nO).map dQ).length:Int)=2))=true then _ else _
 match P,q with
 |[],q=>exact aQ ⟨trivial,q⟩
 |[_],q=>exact aQ ⟨trivial,q⟩
 |x::y::w::r,q=>
  have d:decide (((((x::y::w::r).map nO).map dQ).length:Int)=2)=false:=aH0 (by rw[aH4,aH4];simp only[aJ1];omega);rw[d];exact aQ ⟨trivial,q⟩
 |[a,b],q=>
  refine aP ⟨_,rfl,[nO a,nO b],rfl,rfl,_,rfl,?_⟩;dsimp only at q;show if decide (none∈[nO a,nO b])=true then _ else _
  cases ea:nO a with
  |none=>rw[ea]at q;exact aQ ⟨trivial,q⟩
  |some x=>
   cases eb:nO b with
   |none=>rw[ea,eb]at q;exact aQ ⟨trivial,q⟩
   |some y=>
    rw[ea,eb]at q;exact aP ⟨_,rfl,_,_,_,rfl,rfl,rfl,_,rfl,_,_,_,rfl,rfl,rfl,by show 2<=1000;decide,(by show flats [dQ (nO a),dQ (nO b)]=true;rw[ea,eb];rfl),trivial,(by show Q (.tup [dQ (nO a),dQ (nO b)]);rw[ea,eb];exact q)⟩
theorem K6:∀(r:List Nat) (a:Nat),a*10^r.length<=r.foldl (λacc c=>acc*10+(c-48)) a
 |[],a=>by show a*10^0<=a;omega
 |c::r,a=>by
  have h:=K6 r (a*10+(c-48));show a*10^(r.length+1)<=r.foldl _ (a*10+(c-48));refine aK4 ?_ h;rw[Nat.pow_succ,Nat.mul_comm (10^r.length) 10,<- Nat.mul_assoc];exact Nat.mul_le_mul_right _ (Nat.le_add_right _ _)
theorem qJ {z:Str}{m:Int}(h:dS (Lc z) m=true)(hm:m<=60):nO z=some (cG z)/\cG z<=m:=by
 unfold dS at h;rw[aK2,aK8]at h
 obtain⟨h1,h2⟩:=h
 refine⟨?_,h2⟩;unfold gG at h1;simp only[aK2,aK8,Bool.not_eq_true']at h1
 obtain⟨l1,_,hd,al⟩:=h1
 unfold nO;rw[al,Bool.and_true];have hv:digitsVal (Lc z)<=60:=by omega
 by_cases e1:(Lc z).length=1
 ·rw[aH3 e1];rfl
 ·have nh:¬(Lc z).head? = some 48:=λw=>by
   rw[aH3 (by omega:1<(Lc z).length),aH3 w]at hd;cases hd
  have e2:(Lc z).length=2:=by
   cases e:Lc z with
   |nil=>rw[e]at l1;cases l1
   |cons c r=>
    rw[e]at e1 nh al hv;have hc:eJ c=true:=aM5.mp al c aH6;unfold eJ at hc;simp at hc;have nc:c≠48:=λw=>nh (by rw[w];rfl)
    have ge:=K6 r (0*10+(c-48));have ge:(0*10+(c-48))*10^r.length<=digitsVal (c::r):=ge;have p1:1*10^r.length<=(0*10+(c-48))*10^r.length:=Nat.mul_le_mul_right _ (by omega);rw[aJ1]at e1 ⊢;by_cases r2:2<=r.length
    ·have:10^2<=10^r.length:=Nat.pow_le_pow_right (by decide) r2
     omega
    ·omega
  rw[aH0 e1,aH3 e2,aH0 nh];rfl
theorem qK {z:Str}{v:Int}(h:nO z=some v):cG z=v/\0<=v/\gG (Lc z)=true:=by
 unfold nO at h;split at h
 ·rename_i c
  simp only[aK2,Bool.or_eq_true,aK8,Bool.not_eq_true',decide_eq_false_iff_not]at c
  obtain⟨hl,al⟩:=c
  refine⟨aI7 h,by rw[<- aI7 h];exact Int.natCast_nonneg _,?_⟩;unfold gG;rw[al,Bool.and_true];rcases hl with hl|⟨hl,nh⟩
  ·rw[aH3 (by omega:1<=(Lc z).length),aH3 (by omega:(Lc z).length<=60),aH0 (by omega:¬1<(Lc z).length)];rfl
  ·rw[aH3 (by omega:1<=(Lc z).length),aH3 (by omega:(Lc z).length<=60),aH0 nh,Bool.and_false];rfl
 ·cases h
theorem uK {z:Str}{v m:Int}(h:nO z=some v)(hv:v<=m):dS (Lc z) m=true:=by
 obtain⟨e,_,hn⟩:=qK h
 unfold dS;rw[hn,Bool.true_and,aK8]
 have:(digitsVal (Lc z):Int)=v:=e
 omega
theorem uL {z:Str}{m:Int}{l:Int×Int}(hm:m<=60):e7 z m=some l↔hV z=some l/\l.1<l.2/\l.2<m:=by
 unfold e7 hV;generalize Txt.split z "-" = P
 match P with
 |[]=>exact⟨λh=>(by cases h),λh=>(by cases h.1)⟩
 |[_]=>exact⟨λh=>(by cases h),λh=>(by cases h.1)⟩
 |_::_::_::_=>exact⟨λh=>(by cases h),λh=>(by cases h.1)⟩
 |[a,b]=>
  dsimp only;constructor
  ·intro h
   split at h
   ·rename_i c
    simp only[aK2,aK8]at c
    obtain⟨h1,h2,h3⟩:=c
    obtain⟨a1,a2⟩:=qJ h1 (by omega)
    obtain⟨b1,b2⟩:=qJ h2 (by omega)
    have e:=aI7 h;rw[a1,b1,<- e]
    exact⟨rfl,h3,by show cG b<m;omega⟩
   ·cases h
  ·rintro⟨h,h2,h3⟩
   cases ea:nO a with
   |none=>rw[ea]at h;cases h
   |some x=>
    cases eb:nO b with
    |none=>rw[ea,eb]at h;cases h
    |some y=>
     rw[ea,eb]at h;have e:=aI7 h;subst e;have h2:x<y:=h2;have h3:y<m:=h3
     obtain⟨ex,_,_⟩:=qK ea
     obtain⟨ey,_,_⟩:=qK eb
     rw[uK ea (by omega:x<=m-1),uK eb (by omega:y<=m-1),ex,ey,aH3 h2];rfl
noncomputable def Gd (A:List (Option Int))(B:List (Option (Int×Int)))(ws:ag)(ls:aa):Prop:=A=ws.map some/\B=ls.map some/\ws.length<=40/\(∀w∈ws,w<=60)/\(∀l∈ls,l.1<l.2/\l.2<(ws.length:Int))/\ls.Pairwise cW
theorem qL {z a b:Str}{ws:ag}{ls:aa}(hP:Txt.split z "\n" = [a,b]):hG z ws ls↔Gd ((bI a).map nO) ((bI b).map hV) ws ls:=by
 constructor
 ·rintro⟨a',b',h,h1,h2,h3,h4,h5⟩
  rw[hP]at h;cases h;have hm:(ws.length:Int)<=60:=by omega
  have hA:(bI a).map nO=ws.map some:=by
   rw[h2,aO6];exact aP3 λw hw=>(qJ (h1 w hw) (by decide)).1
  have key:∀w∈bI b,∃l∈ls,e7 w (ws.length:Int)=some l:=λw hw=>by
   have:e7 w (ws.length:Int)∈ls.map some:=by rw[<- h4];exact aJ2.mpr ⟨w,hw,rfl⟩
   obtain⟨l,hl,e⟩:=aJ2.mp this
   exact⟨l,hl,e.symm⟩
  refine⟨hA,?_,h3,λw hw=>?_,λl hl=>?_,h5⟩
  ·rw[<- h4]
   refine aP3 λw hw=>?_
   obtain⟨l,_,e⟩:=key w hw
   rw[e,((uL hm).mp e).1]
  ·rw[h2]at hw
   obtain⟨u,hu,rfl⟩:=aJ2.mp hw
   exact (qJ (h1 u hu) (by decide)).2
  ·have:some l∈(bI b).map λw=>e7 w (ws.length:Int):=by rw[h4];exact aJ2.mpr ⟨l,hl,rfl⟩
   obtain⟨u,hu,e⟩:=aJ2.mp this
   exact ((uL hm).mp e).2
 ·rintro⟨hA,hB,h3,h4,h5,h6⟩
  have hm:(ws.length:Int)<=60:=by omega
  have ka:∀w∈bI a,∃v∈ws,nO w=some v:=λw hw=>by
   have:nO w∈ws.map some:=by rw[<- hA];exact aJ2.mpr ⟨w,hw,rfl⟩
   obtain⟨l,hl,e⟩:=aJ2.mp this
   exact⟨l,hl,e.symm⟩
  have kb:∀w∈bI b,∃v∈ls,hV w=some v:=λw hw=>by
   have:hV w∈ls.map some:=by rw[<- hB];exact aJ2.mpr ⟨w,hw,rfl⟩
   obtain⟨l,hl,e⟩:=aJ2.mp this
   exact⟨l,hl,e.symm⟩
  refine⟨a,b,hP,λw hw=>?_,?_,h3,?_,h6⟩
  ·obtain⟨v,hv,e⟩:=ka w hw
   exact uK e (h4 v hv)
  ·have:(ws.map some).map (λo:Option Int=>o.getD 0)=ws:=by rw[aO6];exact aS4 _
   rw[<- this,<- hA,aO6];refine aP3 λw hw=>?_
   obtain⟨v,_,e⟩:=ka w hw
   show (nO w).getD 0=_;rw[e,(qK e).1];rfl
  ·rw[<- hB]
   refine aP3 λw hw=>?_
   obtain⟨v,hv,e⟩:=kb w hw
   rw[e];exact (uL hm).mpr ⟨e,h5 v hv⟩
theorem K7 {α:Type}{lt:α->α->Bool}:∀{ls:List α},(∀k a b,ls[k]? = some a->ls[k+1]? = some b->lt a b=true)->lU lt ls=true
 |[],_=>rfl
 |[_],_=>rfl
 |a::b::r,h=>by
  show (lt a b&&lU lt (b::r))=true;rw[h 0 a b rfl rfl,K7 (ls:=b::r) λk x y hx hy=>h (k+1) x y hx hy];rfl
theorem aB4 {ls:aa}(h:ls.Pairwise cW){k:Nat}{a b:Int×Int}(ha:ls[k]? = some a)(hb:ls[k+1]? = some b):HT.b7 [a.1,a.2] [b.1,b.2]=true:=by
 obtain⟨k1,e1⟩:=aI4.mp ha
 obtain⟨k2,e2⟩:=aI4.mp hb
 have:=(List.pairwise_iff_getElem.mp h) k (k+1) k1 k2 (Nat.lt_succ_self _)
 rw[e1,e2]at this
 have:=(u3 [a,b]).mpr (by simpa using this)
 have e:(HT.b7 [a.1,a.2] [b.1,b.2]&&true)=true:=this;rwa [Bool.and_true]at e
theorem uM {α:Type}:∀{A:List (Option α)},none∉A->∃ws:List α,A=ws.map some
 |[],_=>⟨[],rfl⟩
 |none::_,h=>absurd aH6 h
 |some a::r,h=>by
  obtain⟨ws,e⟩:=uM (A:=r) λz=>h (aI0 _ z)
  exact⟨a::ws,by rw[e];rfl⟩
noncomputable def K8:aM:=(aH (dX (gR (aF cF (a7 (a5 3) a9))) (bX 4)
  (aH (bA (eO (aJ (sY (bH (bH (a5 3) (a5 4)) (qC (.int 0))) (bH (bH (a5 3) (a5 4)) (qC (.int 1))))) (aJ (sY (bH (bH (a5 3) (a5 4)) (qC (.int 1))) (aF cF (a7 (a5 2) a9))))) (aY (qC .non)) bE)
  (bA (gN (aJ (iI (a5 4) (qC (.int 0)))) (aJ (q2 uF (bH (a5 3) (sX (a5 4) (qC (.int 1)))) (bH (a5 3) (a5 4))))) (aY (qC .non)) bE)))
 (aY (sH (a7 (a5 2) (a7 (a5 3) a9)))))
theorem K9 {ls:aa}{i:Nat}{l:Int×Int}(h:ls[i]? = some l):L2.atI (bC ls) ((0:Int)+(i:Int))=some (.tup (intz [l.1,l.2])):=by
 rw[show (0:Int)+(i:Int)=(i:Int) by omega];exact mD (by unfold bC;rw[aI8,h];rfl)
theorem aB5 {Q:PV->Prop}{y0 y1:Option Slot}{ws:ag}{ls:aa}(l40:ws.length<=40)(ll:ls.length<=100000)(no:(¬((∀l∈ls,l.1<l.2/\l.2<(ws.length:Int))/\ls.Pairwise cW))->Q .non)(yes:(∀l∈ls,l.1<l.2/\l.2<(ws.length:Int))->ls.Pairwise cW->Q (.tup [.lst (intz ws),.lst (bC ls)])):K8 { nx:=λ_=>Q .non,rt:=Q } [y0,y1,some (.sh true (.lst (intz ws))),some (.sh true (.lst (bC ls))),none]:=by
 have pl:(bC ls).length=ls.length:=aH4 _;refine⟨_,rfl,_,_,rfl,rfl,_,rfl,by omega,by omega,λi ρ=>(∀k l,k<i->ls[k]? = some l->l.1<l.2/\l.2<(ws.length:Int))/\(∀k a b,k+1<i->ls[k]? = some a->ls[k+1]? = some b->HT.b7 [a.1,a.2] [b.1,b.2]=true)/\∃y,ρ = [y0,y1,some (.sh true (.lst (intz ws))),some (.sh true (.lst (bC ls))),y],⟨λk l h=>absurd h (Nat.not_lt_zero _),λk a b h=>absurd h (Nat.not_lt_zero _),none,rfl⟩,?_,?_⟩
 ·rintro i z ρ hz ⟨i1,i2,z0,rfl⟩
  obtain⟨rfl,hi⟩:=gW hz
  have hil:i<ls.length:=by omega
  have hl:ls[i]? = some ls[i]:=aH2 hil;generalize ls[i]=l at hl;have a1:=K9 hl;refine tM ?_;refine⟨_,rfl,_,rfl,_,_,_,rfl,rfl,a1,_,_,_,rfl,rfl,rfl,_,rfl,_,rfl,_,_,_,rfl,rfl,a1,_,_,_,rfl,rfl,rfl,_,_,rfl,rfl,_,rfl,?_⟩;by_cases c1:l.1<l.2
  ·rw[aH0 (by omega)]
   refine aP ⟨_,rfl,_,rfl,_,_,_,rfl,rfl,a1,_,_,_,rfl,rfl,rfl,_,rfl,_,_,rfl,rfl,_,_,rfl,rfl,_,rfl,?_⟩;rw[dJ];by_cases c2:l.2<(ws.length:Int)
   ·rw[aH0 (by omega)]
    refine aP ?_;refine⟨_,rfl,_,_,rfl,rfl,_,rfl,?_⟩;have n1:∀k m,k<i+1->ls[k]? = some m->m.1<m.2/\m.2<(ws.length:Int):=λk m hk hm=>by
     by_cases e:k=i
     ·subst e
      rw[hl]at hm;cases hm
      exact⟨c1,c2⟩
     ·exact i1 k m (by omega) hm
    cases i with
    |zero=>
     rw[aH0 (by omega)];exact aP (aP ⟨n1,λk a b h=>by omega,_,rfl⟩)
    |succ j=>
     rw[aH3 (by omega)];have hj:ls[j]? = some (ls[j]'(by omega)):=aH2 (by omega);generalize ls[j]'(by omega)=m at hj;have a2:L2.atI (bC ls) (((0:Int)+((j+1:Nat):Int))-1)=some (.tup (intz [m.1,m.2])):=by
      rw[show (((0:Int)+((j+1:Nat):Int))-1)=0+(j:Int) by omega];exact K9 hj
     refine aQ ⟨_,rfl,_,rfl,_,_,rfl,rfl,_,_,_,rfl,rfl,a2,_,rfl,_,rfl,_,_,_,rfl,rfl,a1,[m.1,m.2],[l.1,l.2],rfl,rfl,_,rfl,?_⟩;cases hx:HT.b7 [m.1,m.2] [l.1,l.2] with
     |true=>
      refine aP ⟨n1,λk a b hk ha hb=>?_,_,rfl⟩;by_cases e:k=j
      ·subst e
       rw[hj]at ha;rw[hl]at hb;cases ha;cases hb;exact hx
      ·exact i2 k a b (by omega) ha hb
     |false=>
      refine aQ ⟨trivial,no λw=>?_⟩
      have:=aB4 w.2 hj hl
      rw[hx]at this;cases this
   ·rw[aH3 (by omega)]
    exact aQ ⟨trivial,no λw=>c2 (w.1 l (aJ9 hl)).2⟩
  ·rw[aH3 (by omega)]
   exact aQ (aQ ⟨trivial,no λw=>c1 (w.1 l (aJ9 hl)).1⟩)
 ·rintro ρ ⟨i1,i2,z,rfl⟩
  have len:(gQ 0 ((bC ls).length:Int).toNat).length=ls.length:=by rw[fC,pl];omega
  rw[len]at i1 i2;refine⟨_,rfl,_,rfl,by show 2<=1000;decide,nw2 trivial trivial,trivial,yes (λl hl=>?_) ((u3 ls).mp (K7 λk a b ha hb=>i2 k a b (aI4.mp hb).1 ha hb))⟩
  obtain⟨k,hk⟩:=List.getElem?_of_mem hl
  exact i1 k l (aI4.mp hk).1 hk
noncomputable def L4:aM:=(aH (bA (eO (aJ (q2 (pI false) (qC .non) (a5 2))) (eO (aJ (q2 uG (qC .non) (a5 3))) (eO (aJ (iI (aF cF (a7 (a5 2) a9)) (qC (.int 40)))) (aJ (iI (J5 (a5 2) 0) (qC (.int 60))))))) (aY (qC .non)) bE) K8)
theorem aB6 (B:List (Option (Int×Int))):∀z∈B.map jO,cS 2 z .non=true:=λz hz=>by
 obtain⟨o,_,rfl⟩:=aJ2.mp hz
 cases o<;>rfl
theorem L5:∀B:List (Option (Int×Int)),((B.map jO).any λz=>c8 2 z .non)=decide (none∈B)
 |[]=>rfl
 |none::r=>by
  rw[aK5,aP7,aH3 aH6];rfl
 |some l::r=>by
  rw[aK5,aP7,L5 r];show (false||decide (none∈r))=_;rw[Bool.false_or,decide_eq_decide];simp
theorem aB7 {Q:PV->Prop}{y0 y1:Option Slot}{A:List (Option Int)}{B:List (Option (Int×Int))}(lb:B.length<=100000)(no:(∀ws ls,¬Gd A B ws ls)->Q .non)(yes:∀ws ls,Gd A B ws ls->Q (.tup [.lst (intz ws),.lst (bC ls)])):L4 { nx:=λ_=>Q .non,rt:=Q } [y0,y1,some (.sh true (.lst (A.map dQ))),some (.sh true (.lst (B.map jO))),none]:=by
 refine⟨_,rfl,A,rfl,rfl,_,rfl,?_⟩;show if decide (none∈A)=true then _ else _
 by_cases hA:none∈A
 ·rw[aH3 hA]
  refine aQ (aQ ⟨trivial,no λws ls g=>?_⟩);rw[g.1]at hA
  obtain⟨_,_,e⟩:=aJ2.mp hA
  cases e
 rw[aH0 hA]
 obtain⟨ws,rfl⟩:=uM hA
 refine aP ⟨_,rfl,_,rfl,rfl,aB6 B,_,rfl,?_⟩;rw[L5];by_cases hB:none∈B
 ·rw[aH3 hB]
  refine aQ (aQ ⟨trivial,no λws ls g=>?_⟩);rw[g.2.1]at hB
  obtain⟨_,_,e⟩:=aJ2.mp hB
  cases e
 rw[aH0 hB]
 obtain⟨ls,rfl⟩:=uM hB
 have inj:∀{α:Type}{a b:List α},a.map some=b.map some->a=b:=λ{α a b} h=>(List.map_inj_right λ_ _ e=>aI7 e).mp h
 have eA:(ws.map some).map dQ=intz ws:=by rw[aO6];rfl
 have eB:(ls.map some).map jO=bC ls:=by unfold bC;rw[aO6];rfl
 rw[aH4]at lb;rw[eA,eB];have GD:∀ws' ls',Gd (ws.map some) (ls.map some) ws' ls'->ws'=ws/\ls'=ls:=λws' ls' g=>⟨(inj g.1).symm,(inj g.2.1).symm⟩
 refine aP ⟨_,rfl,_,_,rfl,rfl,_,_,rfl,rfl,_,rfl,?_⟩;rw[dJ];by_cases l41:40<ws.length
 ·rw[aH3 (by omega)]
  refine aQ (aQ ⟨trivial,no λws' ls' g=>?_⟩)
  obtain⟨rfl,rfl⟩:=GD ws' ls' g
  exact absurd g.2.2.1 (by omega)
 have l40:ws.length<=40:=by omega
 rw[aH0 (by omega)];refine aP ⟨_,rfl,ws,rfl,λM m0 m1=>⟨_,_,rfl,rfl,_,rfl,?_⟩⟩;by_cases h60:60<M
 ·rw[aH3 h60]
  have ne:ws≠[]:=λz=>by have:=m0 z;omega
  refine aQ ⟨trivial,no λws' ls' g=>?_⟩
  obtain⟨rfl,rfl⟩:=GD ws' ls' g
  have:=g.2.2.2.1 M (m1 ne).1
  omega
 rw[aH0 h60];have w60:∀w∈ws,w<=60:=λw hw=>by
  have ne:ws≠[]:=λz=>by rw[z]at hw;cases hw
  have:=(m1 ne).2 w hw
  omega
 refine aP (aB5 l40 lb (λn=>no λws' ls' g=>?_) λy1 y2=>yes ws ls ⟨rfl,rfl,l40,w60,y1,y2⟩)
 obtain⟨rfl,rfl⟩:=GD ws' ls' g
 exact n ⟨g.2.2.2.2.1,g.2.2.2.2.2⟩
noncomputable def qM:bW:=λxs Q=>∃z:Str,xs = [.str z]/\b4 z/\z.length<=39990/\(∀ws ls,hG z ws ls->Q (.tup [.lst (intz ws),.lst (bC ls)]))/\((∀ws ls,¬hG z ws ls)->Q .non)
noncomputable def L6:aM:=(aH (aW 1 (kK (a5 0) (a7 (qC (.str "\n")) a9)))
 (aH (bA (aJ (fM (aF cF (a7 (a5 1) a9)) (qC (.int 2)))) (aY (qC .non)) bE)
 (aH (aW 2 (dO (gP (aF iR (a7 (bH (a5 1) (qC (.int 0))) a9))) [none] (bX 0) cL (aF lY (a7 (a5 0) a9))))
 (aH (aW 3 (dO (gP (aF iR (a7 (bH (a5 1) (qC (.int 1))) a9))) [none] (bX 0) cL (aF qI (a7 (a5 0) a9))))
 L4))))
theorem aB8:dC L6 ["text","rows","wants","links","k"] qM:=by
 rintro xs Q ⟨z,rfl,ha,zl,yes,no⟩;refine⟨_,rfl,_,rfl,"\n",rfl,by decide,by omega,trivial,?_⟩;have pa:∀p∈Txt.split z "\n",b4 p/\p.length<=39990:=λp hp=>by
  rw[show ("\n":Str)=⟨#[10]⟩ from uC]at hp
  exact⟨nQ ha hp,aK4 (jN hp).2 zl⟩
 have none2:∀P,Txt.split z "\n" = P->P.length≠2->Q .non:=λP hP hl=>no λws ls ⟨a,b,h,_⟩=>hl (by rw[<- hP,h];rfl)
 cases hP:Txt.split z "\n" with
 |nil=>exact absurd hP (pS _ _)
 |cons a r=>
 cases r with
 |nil=>exact⟨_,rfl,_,_,rfl,rfl,.inl ⟨_,_,rfl,rfl,_,rfl,aQ ⟨trivial,none2 _ hP (by simp)⟩⟩⟩
 |cons b r=>
 cases r with
 |cons c r=>
  refine⟨_,rfl,_,_,rfl,rfl,.inl ⟨_,_,rfl,rfl,_,rfl,?_⟩⟩;have d:decide ((((stxs (a::b::c::r)).length:Nat):Int)=2)=false:=aH0 (by rw[dL];simp only[aJ1];omega);show if (!decide ((((stxs (a::b::c::r)).length:Nat):Int)=2))=true then _ else _
  rw[d];exact aQ ⟨trivial,none2 _ hP (by simp)⟩
 |nil=>
 obtain⟨a1,a2⟩:=pa a (by rw[hP];exact aH6)
 obtain⟨b1,b2⟩:=pa b (by rw[hP];exact aI0 _ aH6)
 have ac:=pZ a;have bc:=pZ b;refine⟨_,rfl,_,_,rfl,rfl,.inl ⟨_,_,rfl,rfl,_,rfl,aP ?_⟩⟩;refine⟨_,rfl,_,_,_,rfl,rfl,rfl,a,rfl,by omega,_,rfl,(λz=>by cases z),by rw[dL];omega,λi acc=>acc=(((bI a).take i).map nO).map dQ,rfl,?_,?_⟩
 ·rintro i y acc hy rfl
  have hy':(stxs ((bI a).map id))[i]? = some y:=by rw[aS4];exact hy
  obtain⟨w,rfl,hx⟩:=nK hy'
  have wp:=pY (aJ9 hx);refine kR ?_;refine⟨_,rfl,w,rfl,λc hc=>a1 c (wp.1 c hc),by omega,trivial,?_⟩;show ((((bI a).take i).map nO).map dQ)++[dQ (nO w)]=_;rw[jH hx,aK6];rfl
 rintro acc rfl;rw[dL,aP0];refine⟨trivial,?_⟩;refine⟨_,rfl,_,_,_,rfl,rfl,rfl,b,rfl,by omega,_,rfl,(λz=>by cases z),by rw[dL];omega,λi acc=>acc=(((bI b).take i).map hV).map jO,rfl,?_,?_⟩
 ·rintro i y acc hy rfl
  have hy':(stxs ((bI b).map id))[i]? = some y:=by rw[aS4];exact hy
  obtain⟨w,rfl,hx⟩:=nK hy'
  have wp:=pY (aJ9 hx);refine kR ?_;refine⟨_,rfl,w,rfl,λc hc=>b1 c (wp.1 c hc),by omega,trivial,?_⟩;show ((((bI b).take i).map hV).map jO)++[jO (hV w)]=_;rw[jH hx,aK6];rfl
 rintro acc rfl;rw[dL,aP0];refine⟨trivial,?_⟩;exact aB7 (by rw[aH4];omega) (λn=>no λws ls r=>n ws ls ((qL hP).mp r)) λws ls g=>yes ws ls ((qL hP).mpr g)
theorem aB9 {z:Str}{ws:ag}{ls:aa}(r:hG z ws ls)(zl:z.length<=39990):ls.length<=10000:=by
 obtain⟨a,b,hP,h1,h2,h3,h4,h5⟩:=r
 have lb:b.length<=z.length:=by
  have:b∈Txt.split z ⟨#[10]⟩:=by rw[<- uC,hP];exact aI0 _ aH6
  exact (jN this).2
 have hl:=congrArg List.length h4;rw[aH4,aH4]at hl
 have:=G9 (z:=b) λw hw=>by
  have:e7 w (ws.length:Int)∈ls.map some:=by rw[<- h4];exact aJ2.mpr ⟨w,hw,rfl⟩
  obtain⟨l,_,z⟩:=aJ2.mp this
  exact G7 z.symm
 omega
theorem aC0 {n:Int}{ws:ag}{ls:aa}(w:WD n ws ls)(hn:n<=40):ls.length<=780:=by
 have rk:∀l∈ls,(l.2.toNat*(l.2.toNat-1)/2+l.1.toNat)<780:=λl hl=>by
  have h:=w.inn l hl;have tri:∀b:Nat,b<40->∀a:Nat,a<b->b*(b-1)/2+a<780:=by decide +kernel
  exact tri l.2.toNat (by omega) l.1.toNat (by omega)
 have inj:∀b:Nat,b<40->∀a:Nat,a<b->∀d:Nat,d<40->∀c:Nat,c<d->b*(b-1)/2+a=d*(d-1)/2+c->b=d/\a=c:=λb hb a ab d hd c cd e=>by
  have step:∀b:Nat,b<41->(b+1)*(b+1-1)/2=b*(b-1)/2+b:=by decide +kernel
  have mono:∀k b:Nat,b+k<41->b*(b-1)/2<=(b+k)*(b+k-1)/2:=λk=>by
   induction k with
   |zero=>exact λb _=>aH9 _
   |succ k ih=>exact λb hb=>aK4 (ih b (by omega)) (by rw[<- Nat.add_assoc,step (b+k) (by omega)];omega)
  rcases Nat.lt_trichotomy b d with h|h|h
  ·have m:=mono (d-(b+1)) (b+1) (by omega)
   rw[step b (by omega),show b+1+(d-(b+1))=d by omega]at m;omega
  ·subst h;exact⟨rfl,by omega⟩
  ·have m:=mono (b-(d+1)) (d+1) (by omega)
   rw[step d (by omega),show d+1+(b-(d+1))=b by omega]at m;omega
 have nd:(ls.map λl:Int×Int=>(l.2.toNat*(l.2.toNat-1)/2+l.1.toNat)).Nodup:=by
  unfold List.Nodup;rw[List.pairwise_map];refine w.ord.imp_of_mem λ{a b} ha hb lt e=>?_
  have h1:=w.inn a ha;have h2:=w.inn b hb
  obtain⟨e1,e2⟩:=inj a.2.toNat (by omega) a.1.toNat (by omega) b.2.toNat (by omega) b.1.toNat (by omega) e
  unfold cW at lt;omega
 have:=nd.length_le_of_subset (l₂:=List.range 780) λx hx=>by
  obtain⟨l,hl,rfl⟩:=aJ2.mp hx
  exact aS8.mpr (rk l hl)
 rw[aH4,List.length_range]at this;exact this
noncomputable def nW:bW:=λxs Q=>∃ws ls,xs = [gX ws ls]/\WD (ws.length:Int) ws ls/\ws.length<=40/\∀z:Str,b4 z->z.length<=4900->Q (.str z)
noncomputable def L7:aM:=(aH (aW 1 (uA (qC (.str " ")) (a7 (dO (gP (bH (a5 0) (qC (.int 0)))) [none] (bX 0) cL (aF nG (a7 (a5 0) a9))) a9)))
 (aH (aW 2 (uA (qC (.str " ")) (a7 (dO (gP (bH (a5 0) (qC (.int 1)))) [none,none] (mT 0 1) cL (cO (cO (aF nG (a7 (a5 0) a9)) (qC (.str "-"))) (aF nG (a7 (a5 1) a9)))) a9)))
 (aY (cO (cO (bH (dA (a7 (a5 1) (a7 (qC (.str ".")) a9))) (aF pM (a7 (q2 (jK false) (a5 1) (qC (.str ""))) a9))) (qC (.str "\n"))) (bH (dA (a7 (a5 2) (a7 (qC (.str ".")) a9))) (aF pM (a7 (q2 (jK false) (a5 2) (qC (.str ""))) a9)))))))
theorem L8 {ws:List Str}(h:∀w∈ws,∀c∈Lc w,c<128):b4 (Txt.join " " ws):=by rw[fV];exact uI (by decide) h
theorem L9 {B:Nat}:∀{ws:List Str},(∀w∈ws,w.length<=B)->cX ws<=B*ws.length
 |[],_=>aK9 _
 |w::r,h=>by
  have h1:=h w aH6;have h2:=L9 (ws:=r) λu hu=>h u (aI0 _ hu)
  rw[kU,aJ1,Nat.mul_succ];omega
theorem M0 {B:Nat}{ws:List Str}(h:∀w∈ws,w.length<=B):(Txt.join " " ws).length<=B*ws.length+ws.length:=by
 by_cases ne:ws = []
 ·subst ne;exact aK9 _
 ·have:=J8 (c:=32) ne
  have:=L9 h
  rw[fV];omega
theorem M1 (w:Str):∃u:Str,L2.atI [PV.str w,PV.str "."] (if (if (false:Bool)=true then !decide (w="") else decide (w="")) then 1 else 0:Int)=some (.str u)/\(u=w∨u="."):=by
 show ∃u:Str,L2.atI [PV.str w,PV.str "."] (if decide (w="")=true then 1 else 0:Int)=some (.str u)/\(u=w∨u=".")
 cases decide (w="") with
 |true=>exact⟨".",rfl,.inr rfl⟩
 |false=>exact⟨w,rfl,.inl rfl⟩
theorem M2:b4 ".":=by
 have:∀c∈Lc ".",c<128:=by decide +kernel
 exact this
theorem aC1:b4 "\n":=by
 have:∀c∈Lc "\n",c<128:=by decide +kernel
 exact this
theorem aC2:dC L7 ["web","wants","links"] nW:=by
 rintro xs Q ⟨ws,ls,rfl,w,few,q⟩;have lk:=WD.lkn w few;have l7:=aC0 w (by omega);have lm:=w.most;have dl:(".": Str).length=1:=by decide
 have nl:("\n":Str).length=1:=by decide
 have ds:kQ.length=1:=by decide
 refine⟨_,rfl,_,rfl,_,_,_,rfl,rfl,rfl,_,rfl,(λz=>by first|cases z|exact gM ws),by rw[dJ];omega,λi acc=>acc=stxs ((ws.take i).map iS),rfl,?_,?_⟩
 ·rintro i y acc hy rfl
  obtain⟨x,rfl,hx⟩:=yZ hy
  have hb:=w.pos x (aJ9 hx);refine tM ?_;refine⟨_,rfl,x.toNat,?_,by omega,trivial,?_⟩
  ·show [PV.int x] = [PV.int ((x.toNat:Nat):Int)]
   rw[show ((x.toNat:Nat):Int)=x by omega]
  ·show stxs ((ws.take i).map iS)++[.str (iS x)]=stxs ((ws.take (i+1)).map iS)
   rw[E9,jH hx]
 rintro acc rfl;rw[dJ,aP0];refine⟨ws.map iS,rfl,λu hu=>((aw2 w.pos) u hu).2.2,by decide,by rw[aH4];omega,trivial,?_⟩;refine⟨_,rfl,_,rfl,_,_,_,rfl,rfl,rfl,_,rfl,(λz=>by first|cases z|exact jI ls),by rw[aH4];omega,λi acc=>acc=stxs ((ls.take i).map lS),rfl,?_,?_⟩
 ·rintro i y acc hy rfl
  obtain⟨l,rfl,hx⟩:=an8 hy
  have hb:=lk l (aJ9 hx);have h1:l.1.toNat<61:=by omega
  have h2:l.2.toNat<61:=by omega
  have e1:((l.1.toNat:Nat):Int)=l.1:=by omega
  have e2:((l.2.toNat:Nat):Int)=l.2:=by omega
  have l1:(nS l.1.toNat).length<=2:=lX h1;have l2:(nS l.2.toNat).length<=2:=lX h2;refine aw1 ?_;refine⟨_,rfl,l.1.toNat,?_,h1,_,_,rfl,rfl,by show _+kQ.length<=_;omega,_,rfl,l.2.toNat,?_,h2,_,_,rfl,rfl,?_,trivial,?_⟩
  ·show [PV.int l.1] = [PV.int ((l.1.toNat:Nat):Int)]
   rw[e1]
  ·show [PV.int l.2] = [PV.int ((l.2.toNat:Nat):Int)]
   rw[e2]
  ·show (nS l.1.toNat++kQ).length+(nS l.2.toNat).length<=_
   rw[dR];omega
  ·show stxs ((ls.take i).map lS)++[.str (lS l)]=stxs ((ls.take (i+1)).map lS)
   rw[E9,jH hx]
 rintro acc rfl;rw[aH4,aP0];refine⟨ls.map lS,rfl,λu hu=>((aw0 lk) u hu).2.2,by decide,by rw[aH4];omega,trivial,?_⟩;have nA:∀u∈ws.map iS,(∀c∈Lc u,c<128)/\u.length<=2:=λu hu=>by
  obtain⟨v,hv,rfl⟩:=aJ2.mp hu
  have:=w.pos v hv
  exact⟨λc hc=>by have:=pT (by omega) hc;omega,lX (by omega)⟩
 have nB:∀u∈ls.map lS,(∀c∈Lc u,c<128)/\u.length<=5:=λu hu=>by
  obtain⟨v,hv,rfl⟩:=aJ2.mp hu
  have:=lk v hv
  exact⟨λc hc=>by have:=E5 (by omega) (by omega) hc;omega,E6 (by omega) (by omega)⟩
 have jA:=L8 λu hu=>(nA u hu).1
 have jB:=L8 λu hu=>(nB u hu).1
 have kA:=M0 λu hu=>(nA u hu).2
 have kB:=M0 λu hu=>(nB u hu).2
 rw[aH4]at kA kB;generalize Txt.join " " (ws.map iS)=x at jA kA;generalize Txt.join " " (ls.map lS)=y at jB kB
 obtain⟨u,hu,cu⟩:=M1 x
 obtain⟨v,hv,cv⟩:=M1 y
 have ux:b4 u/\u.length<=130:=by
  rcases cu with rfl|rfl
  ·exact⟨jA,by omega⟩
  ·exact⟨M2,by omega⟩
 have vx:b4 v/\v.length<=4700:=by
  rcases cv with rfl|rfl
  ·exact⟨jB,by omega⟩
  ·exact⟨M2,by omega⟩
 refine⟨_,rfl,by show 2<=1000;decide,rfl,_,rfl,_,_,rfl,rfl,.inr ⟨_,rfl,_,_,_,rfl,rfl,hu,_,_,rfl,rfl,by omega,_,rfl,by show 2<=1000;decide,rfl,_,rfl,_,_,rfl,rfl,.inr ⟨_,rfl,_,_,_,rfl,rfl,hv,_,_,rfl,rfl,?_,trivial,q _ (hJ (hJ ux.1 aC1) vx.1) ?_⟩⟩⟩
 ·rw[dR];omega
 ·rw[dR,dR];omega
theorem aC3 {z:Str}{ws ws':ag}{ls ls':aa}(r:hG z ws ls)(r':hG z ws' ls'):ws'=ws/\ls'=ls:=by
 obtain⟨a,b,hP,_⟩:=id r
 have g:=(qL hP).mp r;have g':=(qL hP).mp r'
 exact⟨(List.map_inj_right λ_ _ e=>aI7 e).mp (g'.1.symm.trans g.1),(List.map_inj_right λ_ _ e=>aI7 e).mp (g'.2.1.symm.trans g.2.1)⟩
noncomputable def uN:bW:=zN
noncomputable def M3:aM:=(aH (aW 6 (aF qM (a7 (a5 3) a9)))
 (aH (aW 7 (dA a9))
 (aH (aW 8 (qC .non))
 (aH (tR "HearthError" 9 (B7 8 nR (a7 (a5 3) a9)) (aW 7 (dA (a7 (lT "NoText" (a5 9)) (a7 (lT "ValueError" (a5 9)) (a7 (lT "BadWeb" (a5 9)) a9))))))
 (aH (bA (aJ (aj6 (a5 6) (qC .non))) (aY (q2 (p9 2 false) (a5 7) (dA (a7 (qC (.bl true)) (a7 (qC (.bl true)) (a7 (qC (.bl false)) a9)))))) bE)
 (aY (oX (q2 (p9 2 false) (a5 7) (dA a9)) (aF pR (a7 (a5 8) (a7 (a5 6) a9))))))))))
noncomputable def uO:aM:=(aH (dX (gR (dI (qC (.int 1)) (b6 (c9 (a5 1) (qC (.int 5904))) (qC (.int 3))))) (bX 4)
  (aH (aW 5 (b6 (j7 (dI (b6 (aF gY (a7 (a5 0) (a7 (qC (.int 1)) a9))) (qC (.int 1000000007))) (a5 4)) (qC (.int 48271))) (qC (.int 2147483647))))
  (aH (aW 5 (b6 (j7 (a5 5) (a5 5)) (qC (.int 2147483647))))
  (bA (aJ (fJ (b6 (a5 5) (qC (.int 4))) (qC (.int 1)))) (aW 3 (aF qH (a7 (a5 3) (a7 (c9 (a5 5) (qC (.int 4))) a9)))) (bA (aJ (fJ (b6 (a5 5) (qC (.int 4))) (qC (.int 2)))) (aW 3 (aF nV (a7 (a5 3) (a7 (c9 (a5 5) (qC (.int 4))) a9)))) (aW 3 (aF qF (a7 (a5 3) (a7 (c9 (a5 5) (qC (.int 4))) a9)))))))))
 M3)
noncomputable def M4:aM:=(aH (aW 1 (aF gY (a7 (a5 0) (a7 (qC (.int 0)) a9))))
 (aH (aW 2 (b6 (a5 1) (qC (.int 9))))
 (aH (bA (aJ (fJ (b6 (c9 (a5 1) (qC (.int 9))) (qC (.int 4))) (qC (.int 1)))) (aW 2 (b6 (c9 (a5 1) (qC (.int 36))) (qC (.int 41)))) bE)
 (aH (aW 3 (aF nW (a7 (aF nE (a7 (pA (a5 0) (cN (qC (.int 2))) cM) (a7 (a5 2) (a7 (c9 (a5 1) (qC (.int 1476))) a9)))) a9)))
 uO))))
section
variable {ns:ag}{h n:Int}{t:Str}{y4 y5:Option Slot}{Q:PV→Prop}
theorem aC4 (gD:b4 t)(lt:t.length<=39990)(q:Q (.bl true)):M3 { nx:=λ_=>Q .non,rt:=Q } [some (.sh true (.scr ns)),si h,si n,some (.sh true (.str t)),y4,y5,none,none,none,none]:=by
 refine⟨_,rfl,t,rfl,gD,lt,λws ls r=>⟨trivial,?_⟩,λno=>⟨trivial,?_⟩⟩
 ·refine⟨aK9 _,rfl,trivial,trivial,?_⟩
  refine⟨_,rfl,t,rfl,gD,lt,λws' ls' r'=>?_,λno=>absurd r (no ws ls)⟩
  obtain⟨rfl,rfl⟩:=aC3 r r'
  obtain⟨_,_,_,_,_,l40,_⟩:=id r
  have few:=aB9 r lt;refine⟨_,rfl,rfl,_,rfl,aP ?_⟩;refine⟨_,rfl,aK9 _,rfl,.inr ⟨_,_,rfl,rfl⟩,rfl,_,rfl,?_⟩;exact aQ ⟨_,rfl,_,rfl,ws',ls',_,_,rfl,.inr rfl,.inr rfl,by omega,by omega,trivial,q⟩
 ·refine⟨aK9 _,rfl,trivial,trivial,?_⟩
  refine⟨_,rfl,t,rfl,gD,lt,λws ls r=>absurd r (no ws ls),λ_=>?_⟩;refine⟨by decide,_,rfl,true,(by decide),_,rfl,true,(by decide),_,rfl,false,(by decide),by show 3<=1000;decide,rfl,trivial,?_⟩;refine⟨_,rfl,rfl,_,rfl,aQ ?_⟩
  exact⟨_,rfl,by show 3<=1000;decide,rfl,.inr ⟨_,_,rfl,rfl⟩,rfl,trivial,q⟩
noncomputable def Lb:Nat->Nat
 |0=>4900
 |i+1=>2*Lb i+5
theorem aC5 (gD:b4 t)(lt:t.length<=4900)(q:Q (.bl true)):uO { nx:=λ_=>Q .non,rt:=Q } [some (.sh true (.scr ns)),si h,si n,some (.sh true (.str t)),none,none,none,none,none,none]:=by
 have m0:=aL0 (h/5904) (show (3:Int)≠0 by decide);have m1:=aK1 (h/5904) (show (0:Int)<3 by decide);have lb:∀i,i<=3->Lb i<=39990:=by decide
 refine⟨_,rfl,_,_,rfl,rfl,⟨by decide,by decide⟩,_,_,rfl,rfl,(by show (0:Int)<3;decide),_,_,rfl,rfl,_,rfl,by omega,by omega,λi ρ=>∃(u:Str) (y4 y5:Option Slot),ρ = [some (.sh true (.scr ns)),si h,si n,some (.sh true (.str u)),y4,y5,none,none,none,none]/\b4 u/\u.length<=Lb i,⟨t,none,none,rfl,gD,lt⟩,?_,?_⟩
 ·rintro i z ρ hz ⟨u,y4,y5,rfl,au,lu⟩
  obtain⟨rfl,hi⟩:=gW hz
  have i3:i<3:=by omega
  have l3:=lb i (by omega);refine tM ?_;refine⟨_,rfl,_,ns,1,rfl,.inl rfl,by decide,_,_,rfl,rfl,(by show (0:Int)<1000000007;decide),_,rfl,_,_,rfl,rfl,_,_,rfl,rfl,.inr ⟨by decide,by decide⟩,_,_,rfl,rfl,(by show (0:Int)<2147483647;decide),trivial,?_⟩;generalize (ns.getD (1:Int).toNat 0%1000000007+(0+(i:Int)))*48271=c0;have c1:=aL0 c0 (show (2147483647:Int)≠0 by decide);have c2:=aK1 c0 (show (0:Int)<2147483647 by decide);dsimp only;generalize c0%2147483647=c at c1 c2;refine⟨_,rfl,_,rfl,_,_,rfl,rfl,.inl ⟨by omega,by omega⟩,_,_,rfl,rfl,(by show (0:Int)<2147483647;decide),trivial,?_⟩;dsimp only;generalize c*c%2147483647=d;refine⟨_,rfl,_,_,rfl,rfl,(by show (0:Int)<4;decide),.inl ⟨_,_,rfl,rfl,_,rfl,?_⟩⟩;show if decide (d%4=1)=true then _ else _
  have L:Lb (i+1)=2*Lb i+5:=rfl;cases decide (d%4=1) with
  |true=>exact aQ ⟨_,rfl,_,rfl,_,_,rfl,rfl,⟨by decide,by decide⟩,u,_,rfl,au,by omega,λv av lv=>⟨trivial,v,_,_,rfl,av,by omega⟩⟩
  |false=>
   refine aP ⟨_,rfl,_,_,rfl,rfl,(by show (0:Int)<4;decide),.inl ⟨_,_,rfl,rfl,_,rfl,?_⟩⟩;show if decide (d%4=2)=true then _ else _
   cases decide (d%4=2) with
   |true=>exact aQ ⟨_,rfl,_,rfl,_,_,rfl,rfl,⟨by decide,by decide⟩,u,_,rfl,au,by omega,λv av lv=>⟨trivial,v,_,_,rfl,av,by omega⟩⟩
   |false=>exact aP ⟨_,rfl,_,rfl,_,_,rfl,rfl,⟨by decide,by decide⟩,u,_,rfl,au,by omega,λv av lv=>⟨trivial,v,_,_,rfl,av,by omega⟩⟩
 ·rintro ρ ⟨u,y4,y5,rfl,au,lu⟩
  rw[fC]at lu;exact aC4 au (aK4 lu (lb _ (by omega))) q
end
theorem aC6:dC M4 ["script","head","many","text","turn","cell","due","signs","found","e"] uN:=by
 rintro xs Q ⟨ns,rfl,hl,q⟩;refine⟨_,rfl,_,ns,0,rfl,.inl rfl,by decide,trivial,?_⟩;generalize ns.getD (0:Int).toNat 0=head;refine⟨_,rfl,_,_,rfl,rfl,(by show (0:Int)<9;decide),trivial,?_⟩;have fin:∀many:Int,0<=many->many<=40->(aH (aW 3 (aF nW (a7 (aF nE (a7 (pA (a5 0) (cN (qC (.int 2))) cM) (a7 (a5 2) (a7 (c9 (a5 1) (qC (.int 1476))) a9)))) a9))) uO) { nx:=λ_=>Q .non,rt:=Q } [some (.sh true (.scr ns)),si head,si many,none,none,none,none,none,none,none]:=λmany h0 h1=>by
  refine⟨_,rfl,2,rfl,_,rfl,gM ns,_,rfl,_,rfl,_,_,rfl,rfl,⟨by decide,by decide⟩,_,ns.drop 2,many,_,rfl,?_,by rw[aL7];omega,h0,h1,λws ls w=>?_⟩
  ·have:=ap0 ns (k:=2) (by decide)
   show iN (.lst (iH (intz ns) (some 2) none)) _;rw[this];exact .inr rfl
  ·have e:=w.many
   rw[<- e]at w
   exact⟨ws,ls,rfl,w,by omega,λz az lz=>⟨trivial,aC5 az lz q⟩⟩
 refine⟨_,rfl,_,_,rfl,rfl,⟨by decide,by decide⟩,_,_,rfl,rfl,(by show (0:Int)<4;decide),.inl ⟨_,_,rfl,rfl,_,rfl,?_⟩⟩;cases hc:(decide (head/9%4=1)) with
 |false=>
  have a1:=aL0 head (show (9:Int)≠0 by decide);have a2:=aK1 head (show (0:Int)<9 by decide);exact aP (fin (head%9) a1 (by omega))
 |true=>
  have a1:=aL0 (head/36) (show (41:Int)≠0 by decide);have a2:=aK1 (head/36) (show (0:Int)<41 by decide);exact aQ ⟨_,rfl,_,_,rfl,rfl,⟨by decide,by decide⟩,_,_,rfl,rfl,(by show (0:Int)<41;decide),trivial,fin (head/36%41) a1 (by omega)⟩
end Core
namespace Core
open PySem L2 PP Txs
noncomputable abbrev M5:aM:=F1
noncomputable abbrev aC7:aM:=tZ
end Core
namespace PP
open PySem PySem.Spec L2 PyProof.Rows
section
variable {X:Cx}{N:List Str}{x:Str}{scope:Scope}{fr:List (Option Nat)}{iter elt tg:Expr}{ifs:List Expr}{tp p2 pos spos:Pos}{ti:dN}{te:aE}{Ep:Str→Prop}{gh:Hp→TG}{tch:Hp→TT}{teh:Hp→TE}{wi:TI}{px:Pos}
theorem aC8 {i:Nat}{z:Str}(pa:gE X (EX X.K X.H₀ Ep))(hst:X.stack=X.env::X.outer)(hfm:X.env.frame=some X.env.locals)(hc:X.calm=true)(S:cQ X scope N fr)(hi:PI X tg iter wi)(B:∀(s:aw) (H:Hp),u7 X scope N tg ifs elt s H (XC X scope N s H (EX X.K H Ep)) (gh H) (tch H) (teh H))(hN:X.N.Nodup)(hix:X.N[i]? = some z)(hx:X.env.scope.names.lookup z=some .local)(hsw:swapsWith (.ListComp elt [⟨tg,iter,ifs,0⟩] scope pos) (some (.Name z px)) spos.line X.env=pure true)(hs:∀x,foldedSetIterable iter X.env x=pure x:=by intro _;rfl) :
  PS X (.Assign [.Name z px] (.ListComp elt [⟨tg,iter,ifs,0⟩] scope pos) spos) (m6 (u8 X wi fr gh tch teh) (dE i)):=by
 intro ah s σ H D I h;rw[exec_Assign_Name_used _ _ _ _ hsw];refine aG9 (wpAny_standAt (aG9 ?_));show wpAny _ _ (do let _ <- comprehension (.ListComp elt [⟨tg,iter,ifs,0⟩] scope pos) scope X.env _ (newList []) false (eval iter X.env) (some (assign (.Name z px) X.env))) _ _ s
 refine aG9 (aM1 (wpAny_comprehension_free (Q:=λ_ s'=>SP X ah D .next s') (use:=some (assign (.Name z px) X.env)) rfl hs (oG (S.cells I)) S.kind S.names (aR (hi ah s σ H _ I h) λv s1 h1=>aR h1 λitv s2 h2=>?_))
  (λ_ s' hq=>aH5 (aH5 hq)) λ_ _ e=>e)
 obtain⟨it,fp,tn,J,H2,e,I2,T,st2,f2,sm,hW⟩:=h2
 subst e;have pa2:gE X (EX X.K H2 Ep):=C1 pa λc d H' z=>⟨z.1,sm.trans z.2.1,z.2.2⟩
 refine B8 (Rr:=λacc C=>compPost (model X.prog X.w) X.A X.xe (some (assign (.Name z px) X.env)) (λ_ s'=>SP X ah D .next s') acc C) hc S (B _ _) I2 T st2 f2 hW (λD C e s' hC hx=>C0 (Q:=λ_ _=>True) (acc:=e) pa2 hst hfm I2 f2 hC rfl hx) ?_;intro D' C s' H' m hC hD I' hns hHC q;refine wpAny_assign_Name (qO I' hN hix (.inl hx) (v:=.ref D') rfl (λs'' I'' sb=>?_) (.inr hx))
 obtain⟨a,sb,ha⟩:=sb
 have hCa:C≠a:=by
  rcases ha with z|z
  ·rw[z];exact aP1 (aH8 I2.lt hC)
  ·intro e;subst e
   obtain⟨v,q⟩:=I2.cell _ _ z
   exact absurd (aH8 q.lt hC) (aL3 _)
 exact⟨m,hns.sameBut sb hCa,λh' sb'=>⟨_,H',I2.drop hC I'' hHC sb',q⟩⟩
theorem aC9 {i:Nat}{z:Str}{zp:Pos}(nd:X.N.Nodup)(pa:gE X (EX X.K X.H₀ Ep))(hi:QI X (.Name x tp) iter ti)(he:∀(s:aw) (H:Hp) (C:ax) (fp:List ax),QE (bG X scope N s H C fp (XC X scope N s H (EX X.K H Ep) C fp)) elt te)(hz:X.N[i]? = some z:=by rfl)(hzl:X.env.scope.names.lookup z=some .local:=by rfl)(hsw:swapsWith (.ListComp elt [⟨.Name x tp,iter,[],0⟩] scope p2) (some (.Name z zp)) pos.line X.env=pure true:=by rfl)(hst:X.stack=X.env::X.outer:=by rfl)(hfm:X.env.frame=some X.env.locals:=by rfl)(hc:X.calm=true:=by rfl)(S:cQ X scope N fr:=by exact cQ.of rfl rfl)(hN:N.Nodup:=by decide +kernel)(h0:N[0]? = some x:=by rfl)(hl:∀(s:aw) (H:Hp) (C:ax) (fp:List ax),(bG X scope N s H C fp cV).env.scope.names.lookup x=some .local:=by intro _ _ _ _;rfl)(hf:fr[0]? = some none:=by rfl)(hs:∀x,foldedSetIterable iter X.env x=pure x:=by intro _;rfl):QS X (.Assign [.Name z zp] (.ListComp elt [⟨.Name x tp,iter,[],0⟩] scope p2) pos) (aW i (dO ti fr (bX 0) cL te)):=
 eG (aC8 (gh:=λ_=>dE 0) (tch:=λH=>LT (X.frm H) cL) (teh:=λH=>LE (X.frm H) te) pa hst hfm hc S hi
  (λs H=>⟨λC fp=>kZ (X:=bG X scope N s H C fp (XC X scope N s H (EX X.K H Ep) C fp)) hN h0 (.inl (hl s H C fp)) (.inr (hl s H C fp)),λC fp=>mX (Y:=bG X scope N s H C fp (XC X scope N s H (EX X.K H Ep) C fp)),λC fp=>he s H C fp⟩) nd hz hzl hsw hs) λD σ H h=>C2 (mS _ 0) (λi e=>by subst e;exact hf) (sK h)
@[irreducible] noncomputable def iV (X:Cx)(sts:List Stmt)(t:aM):Prop:=cT X sts t
theorem iV.out {sts:List Stmt}{t:aM}(h:iV X sts t):cT X sts t:=by unfold iV at h;exact h
theorem iV.mk {sts:List Stmt}{t:aM}(h:cT X sts t):iV X sts t:=by unfold iV;exact h
theorem aD0 {i:Nat}{z:Str}{es:List Expr}{ws:List Str}{sts:List Stmt}{u:aM}(nd:X.N.Nodup)(h:nU es=some ws)(r:cT X sts u)(hi:X.N[i]? = some z:=by rfl)(hx:iW X.env.scope z:=by first|exact Or.inl rfl|exact Or.inr rfl)(hs:swapsWith (.List es p2) (some (.Name z px)) pos.line X.env=pure false:=by rfl)(hf:X.fn z=true∨X.env.scope.names.lookup z=some .local:=by first|exact .inl rfl|exact .inr rfl):iV X (.Assign [.Name z px] (.List es p2) pos::sts) (aH (aW i (dA (qG ws))) u):=
 iV.mk (aI (bB nd (dP (J6 h)) hi hx hs hf) r)
end
theorem Df.ofI {P:ay}{w:bf}{K:ae}{mg:Str->Option ar}{base:Heap}{k:Nat}{x:Str}{ps N:List Str}{p:bW}{st:Stmt}{f:ax}{fd:FuncData}(F:dW K x x st f fd)(m:mg x=some (.ref f))(S:FnScope N ps (aT st))(hb:∀(kV doc pm:ar) (an:Option ax) (cdv ct:ar) (us:List ar),us.length=ps.length->bindArgs (PySem.W.fnOf x x (g9 st) (cR st) (aT st) .none kV doc pm an cdv ct) ⟨us,[]⟩=pure (ps.zip us))(len:∀xs Q,p xs Q->xs.length=ps.length)(body:∀(cdv:ar) (A:ba) (outer:List Env) (s:aw) (H:Hp) (E:XK),bS k (A.deeper (envOfC x (aT st) s.heap.objs.size f cdv))->
   ∃t,iV (c7 eD P w K mg base N x (aT st) f cdv A outer s H E).nox (cR st) t/\∀xs Q,p xs Q->t { nx:=λ_=>Q .non,rt:=Q } (dB N xs)):Df P w K mg base (k+1) x ps p:=
 Df.of F m S hb len λcdv A outer s H E hr=>by
  obtain⟨t,h,r⟩:=body cdv A outer s H E hr
  exact⟨t,h.out,r⟩
end PP
namespace K_k07
open PySem PySem.W L2 PP Core
theorem _root_.L2.FnScope.au {N P:List Str}{s:Scope}(a:s.kind=.function:=by rfl)(b:s.isCoroutine=false:=by rfl)(c:s.isGenerator=false:=by rfl)(d:N.Nodup:=by decide +kernel)(e:N.take P.length=P:=by rfl)(f:∀x∈P,s.names.lookup x=some .local∨s.names.lookup x=some .cell:=by decide +kernel)(g:∀y∈s.names,y.2≠.free:=by decide +kernel):FnScope N P s:=⟨a,b,c,d,e,f,g⟩
noncomputable def b5 (i:Nat):Stmt:=PySem.Challenge.pw_kindleweb_k07_whole_texts_of_webs.main.body.getD i (.Pass ⟨0,0,0,0⟩)
structure FK (K:Frag)(n:Str)(i:Nat)(f:ax)(d:FuncData):Prop where
 a:nsIn K mainGlobals n=some (some (.ref f))
 F:dW K n n (b5 i) f d
structure FM (K:Frag)(mg:Str->Option ar)(n:Str)(i:Nat)(f:ax)(d:FuncData):Prop where
 F:dW K n n (b5 i) f d
 m:mg n=some (.ref f)
theorem FK.M {K:Frag}{mg:Str->Option ar}{n:Str}{i:Nat}{f:ax}{d:FuncData}{h:Heap}(z:FK K n i f d)(X:K.In h)(G:h.Ns mainGlobals mg):FM K mg n i f d:=⟨z.F,mg_of X G z.a⟩
noncomputable abbrev Hb (x:Str)(ps:List Str)(i:Nat):Prop:=∀(kV doc pm:ar) (an:Option ax) (cdv ct:ar) (us:List ar),us.length=ps.length->bindArgs (fnOf x x (g9 (b5 i)) (cR (b5 i)) (aT (b5 i)) .none kV doc pm an cdv ct) ⟨us,[]⟩=pure (ps.zip us)
theorem M6 {A:ba}{k:Nat}(hr:bS k A):A.units+3<cLine:=by have:=hr.units;omega
section
variable {P:ay}{w:bf}{K:Frag}{mg:Str→Option ar}{base:Heap}{f:ax}{fd:FuncData}{k i:Nat}{x:Str}{ps N:List Str}
theorem Df.au {p:bW}(F:FM K mg x i f fd)(S:FnScope N ps (aT (b5 i)))(body:∀(cdv:ar) (A:ba) (outer:List Env) (s:aw) (H:Hp) (E:XK),bS k (A.deeper (PyProof.Rows.envOfC x (aT (b5 i)) s.heap.objs.size f cdv))->∃t,cT (c7 eD P w K mg base N x (aT (b5 i)) f cdv A outer s H E).nox (cR (b5 i)) t/\∀xs Q,p xs Q->t { nx:=λ_=>Q .non,rt:=Q } (dB N xs))(hb:Hb x ps i:=by intro _ _ _ _ _ _ us hl;first|(obtain⟨_,rfl⟩:=us1 hl;rfl)|(obtain⟨_,_,rfl⟩:=us2 hl;rfl)|(obtain⟨_,_,_,rfl⟩:=tV hl;rfl)|(obtain⟨_,_,_,_,rfl⟩:=A1 hl;rfl)|(obtain⟨_,_,_,_,_,rfl⟩:=us5 hl;rfl))(len:∀xs Q,p xs Q->xs.length=ps.length:=by intro xs Q h;repeat (first|(obtain⟨rfl,_⟩:=h;rfl)|(obtain⟨_,h⟩:=h))):Df P w K mg base (k+1) x ps p:=
 Df.of F.F F.m S hb len body
theorem cJ.au {p:dZ}(F:FM K mg x i f fd)(S:FnScope N ps (aT (b5 i)))(t:(Str->Prop)->aM)(rd:∀Ep xs Q,p Ep xs Q->t Ep { nx:=λ_=>Q .non,rt:=Q } (dB N xs))(body:∀(cdv:ar) (A:ba) (outer:List Env) (s:aw) (H:Hp) (E:XK) (Ep:Str->Prop),bS k (A.deeper (PyProof.Rows.envOfC x (aT (b5 i)) s.heap.objs.size f cdv))->kD (c7 (cB P w) P w K mg base N x (aT (b5 i)) f cdv A outer s H E) (EX K H Ep)->cT (c7 (cB P w) P w K mg base N x (aT (b5 i)) f cdv A outer s H E) (cR (b5 i)) (t Ep))(hb:Hb x ps i:=by intro _ _ _ _ _ _ us hl;first|(obtain⟨_,rfl⟩:=us1 hl;rfl)|(obtain⟨_,_,rfl⟩:=us2 hl;rfl)|(obtain⟨_,_,_,rfl⟩:=tV hl;rfl)|(obtain⟨_,_,_,_,rfl⟩:=A1 hl;rfl)|(obtain⟨_,_,_,_,_,rfl⟩:=us5 hl;rfl))(len:∀Ep xs Q,p Ep xs Q->xs.length=ps.length:=by intro Ep xs Q h;repeat (first|(obtain⟨rfl,_⟩:=h;rfl)|(obtain⟨_,h⟩:=h))):cJ P w K mg base (k+1) x ps p:=
 cJ.of F.F F.m S hb t len rd body
end
section
variable {P:ay}{w:bf}{K:Frag}{mg:Str→Option ar}{base:Heap}{f:ax}{fd:FuncData}
theorem aD1:FnScope ["things"] ["things"] (aT (b5 7)):=.au
theorem aD2 (B:Bt mg)(F:FM K mg "rises" 7 f fd) :Df P w K mg base 1 "rises" ["things"] qA:=
 Df.au F aD1 (λcdv A outer s H E hr=>by
  have hu:=wW hr
  exact⟨(aC7),(aK (b8 (yL B rfl (a8 (zO (N:=["ahead","behind"]) (fr:=[none,none]) (as4 B (qv 0) (yR (qv 0) (gU aA) gT)) (λ_ _ _ _=>(as0 hu (qv 0) (qv 1)))) aB)))),ax8⟩)
theorem aD3:FnScope ["row"] ["row"] (aT (b5 13)):=.au
theorem aD4 (B:Bt mg)(F:FM K mg "words_of" 13 f fd){u_NONE_AT_ALL:Nat}(m_NONE_AT_ALL:mg "NONE_AT_ALL" = some (.str "." u_NONE_AT_ALL)):Df P w K mg base 1 "words_of" ["row"] iR:=
 Df.au F aD3 (λcdv A outer s H E hr=>by
  exact⟨(M5),(aI (bJ (pN (qv 0) (E2 rfl m_NONE_AT_ALL)) (aK (b8 (dP aB))) bL)
   (aK (b8 (kM (qv 0) (a8 bQ aB))))),G6⟩)
theorem aD5:FnScope ["word"] ["word"] (aT (b5 16)):=.au
theorem aD6 (B:Bt mg)(F:FM K mg "is_number" 16 f fd){u_FIGURES:Nat}(m_FIGURES:mg "FIGURES" = some (.str "0123456789" u_FIGURES)){u_MOST_FIGURES:Nat}(m_MOST_FIGURES:mg "MOST_FIGURES" = some (.int 60 u_MOST_FIGURES)):Df P w K mg base 1 "is_number" ["word"] pV:=
 Df.au F aD5 (λcdv A outer s H E hr=>by
  exact⟨(ax3),(aI (bJ (dY (fO (lL (gF B (a8 (qv 0) aB)) aA) (iL (iK (gF B (a8 (qv 0) aB)) (tJ rfl m_MOST_FIGURES))))) (aK (b8 fD)) bL)
   (aI (bJ (dY (k8 (iK (gF B (a8 (qv 0) aB)) aA) (k7 (pN (lV (qv 0) aA) bQ)))) (aK (b8 fD)) bL)
   (aK (b8 (yL B rfl (a8 (yT (N:=["sign"]) (fr:=[none]) (E1 (qv 0)) (λ_ _ _ _=>(av1 (qv 0) (E2 rfl m_FIGURES)))) aB)))))),ax4⟩)
theorem aD7:FnScope ["script","k"] ["script","k"] (aT (b5 19)):=.au
theorem aD8 (B:Bt mg)(F:FM K mg "_law_cell_at" 19 f fd) :Df P w K mg base 1 "_law_cell_at" ["script","k"] gY:=
 Df.au F aD7 (λcdv A outer s H E hr=>by
  exact⟨(zD),(aI (bJ (lL (qv 1) (cU B (a8 (qv 0) aB))) (aK (b8 (bK (qv 0) (qv 1)))) bL)
   (aK (b8 aA))),an4⟩)
theorem M7:FnScope ["wants_cell","links_cell","many","most","wants","k","links","one","other"] ["wants_cell","links_cell","many","most"] (aT (b5 20)):=.au
theorem aD9 (B:Bt mg)(F:FM K mg "_law_web_of_digits" 20 f fd) :Df P w K mg base 1 "_law_web_of_digits" ["wants_cell","links_cell","many","most"] pP:=
 Df.au F M7 (λcdv A outer s H E hr=>by
  have nd:=M7.nd
  exact⟨(B1),(aI (k9 (i:=4) nd (dP aB))
   (aI (fP 5 nd (jE rfl B.range (qv 2))
    (aI (mW 4 (bF (qv 0) (qv 3)))
    (aK (bB (i:=0) nd (cE (qv 0) (qv 3))))))
   (aI (k9 (i:=6) nd (dP aB))
   (aI (fP 7 nd (jE rfl B.range (qv 2))
    (aK (fP 8 nd (yJ rfl B.range (eI (qv 7) aA) (qv 2))
     (aI (bJ (gS (bF (qv 1) aA) aA) (aK (mW 6 (iM (a8 (qv 7) (a8 (qv 8) aB))))) bL)
     (aK (bB (i:=1) nd (cE (qv 1) aA)))))))
   (aK (b8 (iM (a8 (jF B (a8 (qv 4) aB)) (a8 (jF B (a8 (qv 6) aB)) aB))))))))),as7⟩)
theorem M8:FnScope ["cell","many","wants","links","mark","one","other","number"] ["cell","many"] (aT (b5 21)):=.au
theorem aE0 (B:Bt mg)(F:FM K mg "_law_dense" 21 f fd) :Df P w K mg base 1 "_law_dense" ["cell","many"] pQ:=
 Df.au F M8 (λcdv A outer s H E hr=>by
  have nd:=M8.nd
  exact⟨(B2),(aI (k9 (i:=2) nd (dP aB))
   (aI (k9 (i:=3) nd (dP aB))
   (aI (bB (i:=4) nd (eI aA (bF (qv 0) aA)))
   (aI (fP 5 nd (jE rfl B.range (qv 1))
    (aI (mW 2 (bF (cE (qv 0) (eI aA (qv 5))) aA))
    (aK (fP 6 nd (yJ rfl B.range (eI (qv 5) aA) (qv 1))
     (aI (bB (i:=7) nd (eI (eI (bF (qv 0) aA) (j8 (j8 aA (qv 5)) (qv 5))) (j8 aA (qv 6))))
     (aI (bB (i:=7) nd (bF (j8 (eI (qv 7) aA) aA) aA))
     (aK (bJ (lL (bF (cE (bF (j8 (qv 7) (qv 7)) aA) aA) aA) (qv 4)) (aK (mW 3 (iM (a8 (qv 5) (a8 (qv 6) aB))))) bL))))))))
   (aK (b8 (iM (a8 (jF B (a8 (qv 2) aB)) (a8 (jF B (a8 (qv 3) aB)) aB))))))))),as8⟩)
theorem aE1:FnScope ["found"] ["found"] (aT (b5 23)):=.au
theorem aE2 (B:Bt mg)(F:FM K mg "_law_whole_number" 23 f fd) :Df P w K mg base 1 "_law_whole_number" ["found"] pF:=
 Df.au F aE1 (λcdv A outer s H E hr=>by
  exact⟨(zF K),(aK (b8 (yH (al1 B (qv 0)) (yG (aj8 (al2 B (qv 0))))))),an7 (pG K).ii (pG K).ib⟩)
theorem M9:FnScope ["web","wants","links"] ["web"] (aT (b5 26)):=.au
theorem aE3 (B:Bt mg)(F:FM K mg "_law_text" 26 f fd)(bst:mg "str" = none):Df P w K mg base 1 "_law_text" ["web"] nW:=
 Df.au F M9 (λcdv A outer s H E hr=>by
  have nd:=M9.nd
  exact⟨(L7),(aI (bB (i:=1) nd (C6 bQ (a8 (yT (N:=["want"]) (fr:=[none]) (jD (bK (qv 0) aA)) (λ_ _ _ _=>(u9 bst (a8 (qv 0) aB)))) aB)))
   (aI (bB (i:=2) nd (C6 bQ (a8 (zO (N:=["one","other"]) (fr:=[none,none]) (jD (bK (qv 0) aA)) (λ_ _ _ _=>(fU (fU (u9 bst (a8 (qv 0) aB)) bQ) (u9 bst (a8 (qv 1) aB))))) aB)))
   (aK (b8 (fU (fU (bK (dP (a8 (qv 1) (a8 bQ aB))) (A4 B (a8 (A6 (qv 1) bQ) aB))) bQ) (bK (dP (a8 (qv 2) (a8 bQ aB))) (A4 B (a8 (A6 (qv 2) bQ) aB)))))))),aC2⟩)
theorem N0:FnScope ["cell","some"] ["cell"] (aT (b5 27)):=.au
theorem aE4 (B:Bt mg)(F:FM K mg "_law_sign_by" 27 f fd) :Df P w K mg base 1 "_law_sign_by" ["cell"] qE:=
 Df.au F N0 (λcdv A outer s H E hr=>by
  have nd:=N0.nd
  exact⟨(J2),(aI (bB (i:=1) nd bQ)
   (aI (bB (i:=1) nd (fU (qv 1) bQ))
   (aK (b8 (lV (qv 1) (bF (qv 0) (gF B (a8 (qv 1) aB)))))))),ay6⟩)
theorem N1:FnScope ["text","cell","parts","spot","other","part"] ["text","cell"] (aT (b5 29)):=.au
theorem aE5 (B:Bt mg)(F:FM K mg "_law_part_spoiled" 29 f fd) :Df P w K mg base 1 "_law_part_spoiled" ["text","cell"] qH:=
 Df.au F N1 (λcdv A outer s H E hr=>by
  have nd:=N1.nd
  exact⟨(K0),(aI (k9 (i:=2) nd (kM (qv 0) (a8 bQ aB)))
   (aI (bB (i:=3) nd (bF (cE (qv 1) aA) (cU B (a8 (qv 2) aB))))
   (aI (bB (i:=4) nd (bF (cE (qv 1) aA) (cU B (a8 (qv 2) aB))))
   (aI (bB (i:=5) nd (bK (qv 2) (qv 3)))
   (aI (bJ (gC (bF (qv 1) aA) aA) (aK (ar4 2 (qv 3))) bL)
   (aI (bJ (gC (bF (qv 1) aA) aA) (aK (ar2 2 (qv 4) (qv 5))) bL)
   (aK (b8 (aA2 bQ (a8 (qv 2) aB)))))))))),aA9⟩)
theorem N3:FnScope ["text","cell","odd","at","last"] ["text","cell"] (aT (b5 30)):=.au
theorem aE6 (B:Bt mg)(F:FM K mg "_law_number_spoiled" 30 f fd) :Df P w K mg base 1 "_law_number_spoiled" ["text","cell"] nV:=
 Df.ofI F.F F.m N3 (λ_ _ _ _ _ _ us hl=>by obtain⟨_,_,rfl⟩:=us2 hl;rfl) (λxs Q h=>by unfold nV at h;repeat (first|(obtain⟨rfl,_⟩:=h;rfl)|(obtain⟨_,h⟩:=h))) (λcdv A outer s H E hr=>by
  have nd:=N3.nd
  exact⟨(K3),(aD0 (i:=2) nd rfl (aI (bB (i:=3) nd (bF (cE (qv 1) aA) (eI (gF B (a8 (qv 0) aB)) aA)))
   (aI (yI PassesOwn.never (dY (k8 (lL (qv 3) (gF B (a8 (qv 0) aB))) (k7 (F7 (lV (qv 0) (qv 3)) bQ))))
    (aK (bB (i:=3) nd (eI (qv 3) aA))))
   (aI (bB (i:=4) nd (qv 3))
   (aI (yI PassesOwn.never (dY (k8 (lL (qv 4) (gF B (a8 (qv 0) aB))) (k7 (ax2 (lV (qv 0) (qv 4)) bQ))))
    (aK (bB (i:=4) nd (eI (qv 4) aA))))
   (aK (b8 (fU (fU (jM (qv 0) gT (gU (qv 3))) (bK (qv 2) (bF (qv 1) (cU B (a8 (qv 2) aB))))) (jM (qv 0) (gU (qv 4)) gT))))))))),aB1⟩)
theorem N4:FnScope ["text","sign"] ["text"] (aT (b5 31)):=.au
theorem aE7 (B:Bt mg)(F:FM K mg "_law_number" 31 f fd) :Df P w K mg base 1 "_law_number" ["text"] lY:=
 Df.au F N4 (λcdv A outer s H E hr=>by
  have nd:=N4.nd
  exact⟨(K4),(aI (bJ (dY (fO (ak8 (gF B (a8 (qv 0) aB)) (dP (a8 aA (a8 aA aB)))) (iL (dY (k8 (gS (gF B (a8 (qv 0) aB)) aA) (k7 (pN (lV (qv 0) aA) bQ))))))) (aK (b8 fN)) bL)
   (aI (fP 1 nd (E1 (qv 0))
    (aK (bJ (F7 (qv 1) bQ) (aK (b8 fN)) bL)))
   (aK (b8 (F6 B (a8 (qv 0) aB)))))),aB2⟩)
theorem aE8:FnScope ["row"] ["row"] (aT (b5 33)):=.au
theorem aE9 (B:Bt mg)(F:FM K mg "_law_parts" 33 f fd) :Df P w K mg base 1 "_law_parts" ["row"] iR:=
 Df.au F aE8 (λcdv A outer s H E hr=>by
  exact⟨(M5),(aI (bJ (pN (qv 0) bQ) (aK (b8 (dP aB))) bL)
   (aK (b8 (kM (qv 0) (a8 bQ aB))))),G6⟩)
theorem aF0:FnScope ["word"] ["word"] (aT (b5 15)):=.au
theorem aF1 (B:Bt mg)(F:FM K mg "read_figures" 15 f fd)(d_is_number:Df P w K mg base 1 "is_number" ["word"] pV)(x_NoText:Xc K mg base "NoText"):cJ P w K mg base 2 "read_figures" ["word"] pW:=
 cJ.au F aF0 G0 ax5 (λcdv A outer s H E Ep hr hX=>by
  exact (aI (bJ (jC (j9 (bZ d_is_number hr (a8 (qv 0) aB)))) (aK (kH hX x_NoText (a8 bQ aB))) bL)
   (aK (b8 (F6 B (a8 (qv 0) aB))))))
theorem N5:FnScope ["flow","many","way","wants","k","cell","pairs","one","other"] ["flow","many","way"] (aT (b5 22)):=.au
theorem aF2 (B:Bt mg)(F:FM K mg "_law_web" 22 f fd)(d__law_dense:Df P w K mg base 1 "_law_dense" ["cell","many"] pQ)(d__law_cell_at:Df P w K mg base 1 "_law_cell_at" ["script","k"] gY)(d__law_web_of_digits:Df P w K mg base 1 "_law_web_of_digits" ["wants_cell","links_cell","many","most"] pP):Df P w K mg base 2 "_law_web" ["flow","many","way"] nE:=
 Df.au F N5 (λcdv A outer s H E hr=>by
  have nd:=N5.nd;have hu:=wW hr
  exact⟨(B3),(aI (bJ (dY (k8 (gS (bF (cE (qv 2) aA) aA) aA) (k7 (iK (qv 1) aA)))) (aK (b8 (bZ d__law_dense hr (a8 (bZ d__law_cell_at hr (a8 (qv 0) (a8 aA aB))) (a8 (qv 1) aB))))) bL)
   (aI (bJ (dY (k8 (gS (bF (cE (qv 2) aA) aA) aA) (k7 (lL (qv 1) aA)))) (aK (b8 (bZ d__law_web_of_digits hr (a8 (bZ d__law_cell_at hr (a8 (qv 0) (a8 aA aB))) (a8 (bZ d__law_cell_at hr (a8 (qv 0) (a8 aA aB))) (a8 (qv 1) (a8 (bK (dP (a8 aA (a8 aA (a8 aA (a8 aA aB))))) (bF (qv 2) aA)) aB))))))) bL)
   (aI (k9 (i:=3) nd (dP aB))
   (aI (fP 4 nd (jE rfl B.range (qv 1))
    (aI (bB (i:=5) nd (bZ d__law_cell_at hr (a8 (qv 0) (a8 (qv 4) aB))))
    (aK (mW 3 (bK (dP (a8 (bF (cE (qv 5) aA) aA) (a8 (bF (cE (qv 5) aA) aA) (a8 (bF (cE (qv 5) aA) aA) (a8 (bF (cE (qv 5) aA) aA) aB))))) (bF (qv 2) aA))))))
   (aI (k9 (i:=6) nd ak0)
   (aI (fP 5 nd (jD (qv 0))
    (aK (bJ (iK (qv 1) aA) (aI (bB (i:=7) nd (bF (qv 5) (qv 1)))
     (aI (bB (i:=8) nd (bF (cE (bF (j8 (bF (qv 5) aA) aA) aA) aA) (qv 1)))
     (aK (bJ (gC (qv 7) (qv 8)) (aK (ak2 hu (i:=6) (iM (a8 (ak5 B rfl (a8 (qv 7) (a8 (qv 8) aB))) (a8 (ak6 B rfl (a8 (qv 7) (a8 (qv 8) aB))) aB))) fD)) bL)))) bL)))
   (aK (b8 (iM (a8 (jF B (a8 (qv 3) aB)) (a8 (jF B (a8 (ao3 B (a8 (ao0 B rfl (a8 (qv 6) aB)) aB)) aB)) aB))))))))))),at0⟩)
theorem N6:FnScope ["found","due","k"] ["found","due"] (aT (b5 24)):=.au
theorem aF3 (B:Bt mg)(F:FM K mg "_law_row_is" 24 f fd)(d__law_whole_number:Df P w K mg base 1 "_law_whole_number" ["found"] pF):Df P w K mg base 2 "_law_row_is" ["found","due"] mZ:=
 Df.au F N6 (λcdv A outer s H E hr=>by
  have nd:=N6.nd
  exact⟨(zG K),(aI (bJ (dY (fO (jC (j9 (t7 B (qv 0)))) (iL (gC (cU B (a8 (qv 0) aB)) (cU B (a8 (qv 1) aB)))))) (aK (b8 fD)) bL)
   (aI (fP 2 nd (jE rfl B.range (cU B (a8 (qv 1) aB)))
    (aK (bJ (dY (fO (jC (j9 (bZ d__law_whole_number hr (a8 (bK (qv 0) (qv 2)) aB)))) (iL (gC (bK (qv 0) (qv 2)) (bK (qv 1) (qv 2)))))) (aK (b8 fD)) bL)))
   (aK (b8 fD)))),an6 (pG K).tt⟩)
theorem N7:FnScope ["text","cell","often","spot","sign"] ["text","cell"] (aT (b5 28)):=.au
theorem aF4 (B:Bt mg)(F:FM K mg "_law_sign_spoiled" 28 f fd)(d__law_sign_by:Df P w K mg base 1 "_law_sign_by" ["cell"] qE):Df P w K mg base 2 "_law_sign_spoiled" ["text","cell"] qF:=
 Df.au F N7 (λcdv A outer s H E hr=>by
  have nd:=N7.nd
  exact⟨(J3),(aI (bB (i:=2) nd bQ)
   (aI (bB (i:=3) nd (bF (cE (qv 1) aA) (eI (gF B (a8 (qv 0) aB)) aA)))
   (aI (bB (i:=4) nd (lV (qv 2) (bF (cE (qv 1) aA) (gF B (a8 (qv 2) aB)))))
   (aI (bJ (gS (bF (cE (qv 1) aA) aA) aA) (aK (bB (i:=4) nd (bZ d__law_sign_by hr (a8 (cE (qv 1) aA) aB)))) bL)
   (aI (bJ (gS (bF (qv 1) aA) aA) (aK (b8 (fU (fU (jM (qv 0) gT (gU (qv 3))) (qv 4)) (jM (qv 0) (gU (qv 3)) gT)))) bL)
   (aI (bJ (gS (bF (qv 1) aA) aA) (aK (b8 (fU (fU (jM (qv 0) gT (gU (qv 3))) (qv 4)) (jM (qv 0) (gU (eI (qv 3) aA)) gT)))) bL)
   (aK (b8 (fU (jM (qv 0) gT (gU (qv 3))) (jM (qv 0) (gU (eI (qv 3) aA)) gT)))))))))),ay7⟩)
theorem N8:FnScope ["part","ends"] ["part"] (aT (b5 32)):=.au
theorem aF5 (B:Bt mg)(F:FM K mg "_law_link" 32 f fd)(d__law_number:Df P w K mg base 1 "_law_number" ["text"] lY):Df P w K mg base 2 "_law_link" ["part"] qI:=
 Df.au F N8 (λcdv A outer s H E hr=>by
  have nd:=N8.nd
  exact⟨(K5),(aI (t9 (i:=1) nd (N:=["end"]) (fr:=[none]) (jD (kM (qv 0) (a8 bQ aB))) (λ_ _ _ _=>(bZ d__law_number hr (a8 (qv 0) aB))))
   (aI (bJ (dY (fO (gC (cU B (a8 (qv 1) aB)) aA) (iL (zR fN (qv 1))))) (aK (b8 fN)) bL)
   (aK (b8 (iM (a8 (bK (qv 1) aA) (a8 (bK (qv 1) aA) aB))))))),aB3⟩)
theorem N9:FnScope ["word","most","number"] ["word","most"] (aT (b5 14)):=.au
theorem aF6 (B:Bt mg)(F:FM K mg "read_number" 14 f fd)(d_read_figures:cJ P w K mg base 2 "read_figures" ["word"] pW)(x_NoText:Xc K mg base "NoText"):cJ P w K mg base 3 "read_number" ["word","most"] kS:=
 cJ.au F N9 G1 ax6 (λcdv A outer s H E Ep hr hX=>by
  have nd:=N9.nd
  exact (aI (bB (i:=2) nd (tQ hX d_read_figures hr (a8 (qv 0) aB)))
   (aI (bJ (iK (qv 2) (qv 1)) (aK (kH hX x_NoText (a8 bQ aB))) bL)
   (aK (ak1 2)))))
theorem O0:FnScope ["found","due","k"] ["found","due"] (aT (b5 25)):=.au
theorem aF7 (B:Bt mg)(F:FM K mg "_law_web_is" 25 f fd)(d__law_row_is:Df P w K mg base 2 "_law_row_is" ["found","due"] mZ):Df P w K mg base 3 "_law_web_is" ["found","due"] pR:=
 Df.au F O0 (λcdv A outer s H E hr=>by
  have nd:=O0.nd
  exact⟨(B4 K),(aI (bJ (dY (fO (jC (j9 (t7 B (qv 0)))) (fO (gC (cU B (a8 (qv 0) aB)) aA) (iL (jC (j9 (bZ d__law_row_is hr (a8 (bK (qv 0) aA) (a8 (bK (qv 1) aA) aB))))))))) (aK (b8 fD)) bL)
   (aI (bJ (dY (fO (jC (j9 (t7 B (bK (qv 0) aA)))) (iL (gC (cU B (a8 (bK (qv 0) aA) aB)) (cU B (a8 (bK (qv 1) aA) aB)))))) (aK (b8 fD)) bL)
   (aI (fP 2 nd (jE rfl B.range (cU B (a8 (bK (qv 1) aA) aB)))
    (aK (bJ (jC (j9 (bZ d__law_row_is hr (a8 (bK (bK (qv 0) aA) (qv 2)) (a8 (bK (bK (qv 1) aA) (qv 2)) aB))))) (aK (b8 fD)) bL)))
   (aK (b8 fD))))),at2 (pG K).tt⟩)
theorem O1:FnScope ["text","rows","wants","links","k"] ["text"] (aT (b5 34)):=.au
theorem aF8 (B:Bt mg)(F:FM K mg "_law_read" 34 f fd)(d__law_number:Df P w K mg base 1 "_law_number" ["text"] lY)(d__law_parts:Df P w K mg base 1 "_law_parts" ["row"] iR)(d__law_link:Df P w K mg base 2 "_law_link" ["part"] qI):Df P w K mg base 3 "_law_read" ["text"] qM:=
 Df.au F O1 (λcdv A outer s H E hr=>by
  have nd:=O1.nd;have hu3:=M6 hr
  exact⟨(L6),(aI (bB (i:=1) nd (kM (qv 0) (a8 bQ aB)))
   (aI (bJ (gC (cU B (a8 (qv 1) aB)) aA) (aK (b8 fN)) bL)
   (aI (t9 (i:=2) nd (N:=["part"]) (fr:=[none]) (jD (bZ d__law_parts hr (a8 (bK (qv 1) aA) aB))) (λ_ _ _ _=>(bZ d__law_number hr (a8 (qv 0) aB))))
   (aI (t9 (i:=3) nd (N:=["part"]) (fr:=[none]) (jD (bZ d__law_parts hr (a8 (bK (qv 1) aA) aB))) (λ_ _ _ _=>(bZ d__law_link hr (a8 (qv 0) aB))))
   (aI (bJ (dY (fO (zR fN (qv 2)) (fO (aA6 hu3 fN (qv 3)) (fO (iK (cU B (a8 (qv 2) aB)) aA) (iL (iK (az9 B rfl (qv 2)) aA)))))) (aK (b8 fN)) bL)
   (aI (fP 4 nd (jE rfl B.range (cU B (a8 (qv 3) aB)))
    (aI (bJ (dY (fO (t5 (bK (bK (qv 3) (qv 4)) aA) (bK (bK (qv 3) (qv 4)) aA)) (iL (t5 (bK (bK (qv 3) (qv 4)) aA) (cU B (a8 (qv 2) aB)))))) (aK (b8 fN)) bL)
    (aK (bJ (dY (k8 (iK (qv 4) aA) (k7 (aA1 hu3 (bK (qv 3) (t4 (qv 4) aA)) (bK (qv 3) (qv 4)))))) (aK (b8 fN)) bL))))
   (aK (b8 (aj9 (a8 (qv 2) (a8 (qv 3) aB))))))))))),aB8⟩)
theorem O2:FnScope ["word","many","parts","one","other"] ["word","many"] (aT (b5 17)):=.au
theorem aF9 (B:Bt mg)(F:FM K mg "read_link" 17 f fd)(d_read_number:cJ P w K mg base 3 "read_number" ["word","most"] kS)(x_NoText:Xc K mg base "NoText"):cJ P w K mg base 4 "read_link" ["word","many"] pX:=
 cJ.au F O2 G5 ax7 (λcdv A outer s H E Ep hr hX=>by
  have nd:=O2.nd
  exact (aI (bB (i:=2) nd (kM (qv 0) (a8 bQ aB)))
   (aI (bJ (gC (cU B (a8 (qv 2) aB)) aA) (aK (kH hX x_NoText (a8 bQ aB))) bL)
   (aI (bB (i:=3) nd (tQ hX d_read_number hr (a8 (bK (qv 2) aA) (a8 (t4 (qv 1) aA) aB))))
   (aI (bB (i:=4) nd (tQ hX d_read_number hr (a8 (bK (qv 2) aA) (a8 (t4 (qv 1) aA) aB))))
   (aI (bJ (t5 (qv 3) (qv 4)) (aK (kH hX x_NoText (a8 bQ aB))) bL)
   (aK (b8 (iM (a8 (qv 3) (a8 (qv 4) aB)))))))))))
theorem O3:FnScope ["text","rows","wants","links"] ["text"] (aT (b5 12)):=.au
theorem aG0 (B:Bt mg)(F:dW K "read_web" "read_web" (b5 12) f fd)(m:mg "read_web" = some (.ref f))(d_read_number:cJ P w K mg base 3 "read_number" ["word","most"] kS)(d_words_of:Df P w K mg base 1 "words_of" ["row"] iR)(d_read_link:cJ P w K mg base 4 "read_link" ["word","many"] pX)(d_rises:Df P w K mg base 1 "rises" ["things"] qA)(x_NoText:Xc K mg base "NoText"){u_MOST_HEARTHS:Nat}(m_MOST_HEARTHS:mg "MOST_HEARTHS" = some (.int 40 u_MOST_HEARTHS)){u_MOST_WANTED:Nat}(m_MOST_WANTED:mg "MOST_WANTED" = some (.int 60 u_MOST_WANTED)):cJ P w K mg base 5 "read_web" ["text"] nR:=
 cJ.ofA F m O3 (λ_ _ _ _ _ _ us hl=>by obtain⟨_,rfl⟩:=us1 hl;rfl) J0 (λEp xs Q h=>by unfold nR at h;repeat (first|(obtain⟨rfl,_⟩:=h;rfl)|(obtain⟨_,h⟩:=h))) ax9 (λcdv A outer s H E Ep hr hX pa=>by
  have nd:=O3.nd
  exact (aI (bB (i:=1) nd (kM (qv 0) (a8 bQ aB)))
   (aI (bJ (gC (cU B (a8 (qv 1) aB)) aA) (aK (kH hX x_NoText (a8 bQ aB))) bL)
   (aI (bB (i:=2) nd (au3 pa (N:=["word"]) (fr:=[none]) (jD (bZ d_words_of hr (a8 (bK (qv 1) aA) aB))) (λ_ _ _ _=>(C3 B9 d_read_number hr (a8 (qv 0) (a8 (tJ rfl m_MOST_WANTED) aB))))))
   (aI (bJ (iK (cU B (a8 (qv 2) aB)) (tJ rfl m_MOST_HEARTHS)) (aK (kH hX x_NoText (a8 bQ aB))) bL)
   (aI (aC9 (i:=3) nd pa (N:=["word","wants"]) (fr:=[none,some 2]) (jD (bZ d_words_of hr (a8 (bK (qv 1) aA) aB))) (λ_ _ _ _=>(C3 B9 d_read_link hr (a8 (qv 0) (a8 (cU B (a8 (qv 1) aB)) aB)))))
   (aI (bJ (jC (j9 (bZ d_rises hr (a8 (qv 3) aB)))) (aK (kH hX x_NoText (a8 bQ aB))) bL)
   (aK (b8 (iM (a8 (jF B (a8 (qv 2) aB)) (a8 (jF B (a8 (qv 3) aB)) aB))))))))))))
theorem O4:FnScope ["script","head","many","text","turn","cell","due","signs","found","e"] ["script"] (aT (b5 35)):=.au
theorem aG1 (B:Bt mg)(F:dW K "law" "law" (b5 35) f fd)(d__law_cell_at:Df P w K mg base 1 "_law_cell_at" ["script","k"] gY)(d__law_text:Df P w K mg base 1 "_law_text" ["web"] nW)(d__law_web:Df P w K mg base 2 "_law_web" ["flow","many","way"] nE)(d__law_part_spoiled:Df P w K mg base 1 "_law_part_spoiled" ["text","cell"] qH)(d__law_number_spoiled:Df P w K mg base 1 "_law_number_spoiled" ["text","cell"] nV)(d__law_sign_spoiled:Df P w K mg base 2 "_law_sign_spoiled" ["text","cell"] qF)(d__law_read:Df P w K mg base 3 "_law_read" ["text"] qM)(d_read_web:cJ P w K mg base 5 "read_web" ["text"] nR)(d__law_web_is:Df P w K mg base 3 "_law_web_is" ["found","due"] pR)(cat_HearthError:tS K mg "HearthError")(is_BadWeb:nD K mg "BadWeb")(is_NoText:nD K mg "NoText")(is_ValueError:tU K mg):cZ P w K mg base eD 6 f fd ["script"] (mQ K uN):=
 ap2 F O4 (λxs Q h=>by unfold uN at h;repeat (first|(obtain⟨rfl,_⟩:=h;rfl)|(obtain⟨_,h⟩:=h))) (λcdv A outer s H E hr=>by
  have nd:=O4.nd;have hu3:=M6 hr
  exact⟨(M4),(aI (bB (i:=1) nd (bZ d__law_cell_at hr (a8 (qv 0) (a8 aA aB))))
   (aI (bB (i:=2) nd (bF (qv 1) aA))
   (aI (bJ (gS (bF (cE (qv 1) aA) aA) aA) (aK (bB (i:=2) nd (bF (cE (qv 1) aA) aA))) bL)
   (aI (bB (i:=3) nd (bZ d__law_text hr (a8 (bZ d__law_web hr (a8 (yR (qv 0) (gU aA) gT) (a8 (qv 2) (a8 (cE (qv 1) aA) aB)))) aB)))
   (aI (fP 4 nd (jE rfl B.range (eI aA (bF (cE (qv 1) aA) aA)))
    (aI (bB (i:=5) nd (bF (j8 (eI (bF (bZ d__law_cell_at hr (a8 (qv 0) (a8 aA aB))) aA) (qv 4)) aA) aA))
    (aI (bB (i:=5) nd (bF (j8 (qv 5) (qv 5)) aA))
    (aK (bJ (gS (bF (qv 5) aA) aA) (aK (bB (i:=3) nd (bZ d__law_part_spoiled hr (a8 (qv 3) (a8 (cE (qv 5) aA) aB))))) (aK (bJ (gS (bF (qv 5) aA) aA) (aK (bB (i:=3) nd (bZ d__law_number_spoiled hr (a8 (qv 3) (a8 (cE (qv 5) aA) aB))))) (aK (bB (i:=3) nd (bZ d__law_sign_spoiled hr (a8 (qv 3) (a8 (cE (qv 5) aA) aB))))))))))))
   (aI (bB (i:=6) nd (bZ d__law_read hr (a8 (qv 3) aB)))
   (aI (bB (i:=7) nd (dP aB))
   (aI (bB (i:=8) nd fN)
   (aI (aq4 9 cat_HearthError nd (at6 8 d_read_web hr nd (λ_=>(a8 (qv 3) aB))) (λ_=>(aK (bB (i:=7) nd (dP (a8 (zW B is_NoText (qv 9)) (a8 (aq8 B is_ValueError (qv 9)) (a8 (zW B is_BadWeb (qv 9)) aB))))))))
   (aI (bJ (aj7 (qv 6) fN) (aK (b8 (yQ hu3 (qv 7) (dP (a8 fD (a8 fD (a8 fD aB))))))) bL)
   (aK (b8 (yH (yQ hu3 (qv 7) (dP aB)) (yG (bZ d__law_web_is hr (a8 (qv 8) (a8 (qv 6) aB))))))))))))))))),aC6⟩)
end
set_option autoImplicit true in
theorem aG2 {l:OpenLaw}{w:bf}{K:Frag}{h:Heap}{mg:Str->Option ar}(X:K.In h)(G:h.Ns mainGlobals mg)(hfa:mg "law" = some (.ref fa))(h0:FK K "rises" 7 f0 d0)(h1:FK K "words_of" 13 f1 d1)(h2:FK K "is_number" 16 f2 d2)(h3:FK K "_law_cell_at" 19 f3 d3)(h4:FK K "_law_web_of_digits" 20 f4 d4)(h5:FK K "_law_dense" 21 f5 d5)(h6:FK K "_law_whole_number" 23 f6 d6)(h7:FK K "_law_text" 26 f7 d7)(h8:FK K "_law_sign_by" 27 f8 d8)(h9:FK K "_law_part_spoiled" 29 f9 d9)(h10:FK K "_law_number_spoiled" 30 f10 d10)(h11:FK K "_law_number" 31 f11 d11)(h12:FK K "_law_parts" 33 f12 d12)(h13:FK K "read_figures" 15 f13 d13)(h14:FK K "_law_web" 22 f14 d14)(h15:FK K "_law_row_is" 24 f15 d15)(h16:FK K "_law_sign_spoiled" 28 f16 d16)(h17:FK K "_law_link" 32 f17 d17)(h18:FK K "read_number" 14 f18 d18)(h19:FK K "_law_web_is" 25 f19 d19)(h20:FK K "_law_read" 34 f20 d20)(h21:FK K "read_link" 17 f21 d21)(h22:FK K "read_web" 12 f22 d22)(a23:nsIn K mainGlobals "law" = some (some (.ref f23)))(l23:K.lookup f23=some ⟨oc23,od23,.func (fnOf "law" "law" (g9 (b5 35)) (cR (b5 35)) (aT (b5 35)) .none kV23 dc23 pm23 an23 cd23 ct23),sl23⟩)(c23:codeIn K cd23 "law" = true)(k23:keepIn K (.ref f23)=true)(z_len:nsIn K mainGlobals "len" = some none)(z_range:nsIn K mainGlobals "range" = some none)(z_tuple:nsIn K mainGlobals "tuple" = some none)(z_list:nsIn K mainGlobals "list" = some none)(z_sorted:nsIn K mainGlobals "sorted" = some none)(z_all:nsIn K mainGlobals "all" = some none)(z_any:nsIn K mainGlobals "any" = some none)(z_zip:nsIn K mainGlobals "zip" = some none)(z_min:nsIn K mainGlobals "min" = some none)(z_max:nsIn K mainGlobals "max" = some none)(z_sum:nsIn K mainGlobals "sum" = some none)(z_isinstance:nsIn K mainGlobals "isinstance" = some none)(z_int:nsIn K mainGlobals "int" = some none)(z_bool:nsIn K mainGlobals "bool" = some none)(z_enumerate:nsIn K mainGlobals "enumerate" = some none)(z_str:nsIn K mainGlobals "str" = some none){u_FIGURES:Nat}(z_FIGURESx:nsIn K mainGlobals "FIGURES" = some (some (.str "0123456789" u_FIGURES))){u_MOST_FIGURES:Nat}(z_MOST_FIGURESx:nsIn K mainGlobals "MOST_FIGURES" = some (some (.int 60 u_MOST_FIGURES))){u_MOST_HEARTHS:Nat}(z_MOST_HEARTHSx:nsIn K mainGlobals "MOST_HEARTHS" = some (some (.int 40 u_MOST_HEARTHS))){u_MOST_WANTED:Nat}(z_MOST_WANTEDx:nsIn K mainGlobals "MOST_WANTED" = some (some (.int 60 u_MOST_WANTED))){u_NONE_AT_ALL:Nat}(z_NONE_AT_ALLx:nsIn K mainGlobals "NONE_AT_ALL" = some (some (.str "." u_NONE_AT_ALL))){C_HearthError C_BadWeb C_NoText:ax}(aX_HE:nsIn K mainGlobals "HearthError" = some (some (.ref C_HearthError)))(aX_BW:nsIn K mainGlobals "BadWeb" = some (some (.ref C_BadWeb)))(aX_NT:nsIn K mainGlobals "NoText" = some (some (.ref C_NoText)))(zX_BS:nsIn K mainGlobals "BadSet" = some none)(zX_BO:nsIn K mainGlobals "BadOrder" = some none)(zX_BP:nsIn K mainGlobals "BadPrices" = some none)(zX_BB:nsIn K mainGlobals "BadBoard" = some none)(zX_BD:nsIn K mainGlobals "BadDeed" = some none)(zX_NW:nsIn K mainGlobals "NotWood" = some none)(zX_NP:nsIn K mainGlobals "NoPaper" = some none)(zX_NS:nsIn K mainGlobals "NoSuch" = some none)(zX_TM:nsIn K mainGlobals "TooMany" = some none)(zX_OR:nsIn K mainGlobals "OddRound" = some none)(y_fg:specialIn K (.builtin "object.__class__") "__get__" = some (some (.builtin "getset_descriptor.__get__")))(y_ft:takesIn K (.builtin "object.__class__")=some true)(z_VE:nsIn K mainGlobals "ValueError" = some none)(y1_HE:isClsIn K C_HearthError=true)(y2_HE:typeIn K (.ref C_HearthError)=some (.type "type"))(y3_HE:findIn K (.ref C_HearthError) "__getattribute__" = some (some (.builtin "BaseException.__getattribute__")))(y4_HE:findIn K (.ref C_HearthError) "__getattr__" = some none)(y5_HE:findIn K (.ref C_HearthError) "__class__" = some (some (.builtin "object.__class__")))(y6_HE:mroIn K C_HearthError (.type "object")=some true)(y7_HE:mroIn K C_HearthError (.type "BaseException")=some true)(y1_BW:isClsIn K C_BadWeb=true)(y2_BW:typeIn K (.ref C_BadWeb)=some (.type "type"))(y3_BW:findIn K (.ref C_BadWeb) "__getattribute__" = some (some (.builtin "BaseException.__getattribute__")))(y4_BW:findIn K (.ref C_BadWeb) "__getattr__" = some none)(y5_BW:findIn K (.ref C_BadWeb) "__class__" = some (some (.builtin "object.__class__")))(y6_BW:mroIn K C_BadWeb (.type "object")=some true)(y7_BW:mroIn K C_BadWeb (.type "BaseException")=some true)(y1_NT:isClsIn K C_NoText=true)(y2_NT:typeIn K (.ref C_NoText)=some (.type "type"))(y3_NT:findIn K (.ref C_NoText) "__getattribute__" = some (some (.builtin "BaseException.__getattribute__")))(y4_NT:findIn K (.ref C_NoText) "__getattr__" = some none)(y5_NT:findIn K (.ref C_NoText) "__class__" = some (some (.builtin "object.__class__")))(y6_NT:mroIn K C_NoText (.type "object")=some true)(y7_NT:mroIn K C_NoText (.type "BaseException")=some true)(sB_HE:subIn K (.ref C_HearthError) (.type "BaseException")=some true)(s_BW_HE:subIn K (.ref C_BadWeb) (.ref C_HearthError)=some true)(s_NT_HE:subIn K (.ref C_NoText) (.ref C_HearthError)=some true)(sN_BW:subIn K (.type "NoneType") (.ref C_BadWeb)=some false)(s_NT_BW:subIn K (.ref C_NoText) (.ref C_BadWeb)=some false)(n_NT_BW:(C_NoText==C_BadWeb)=false)(sN_NT:subIn K (.type "NoneType") (.ref C_NoText)=some false)(s_BW_NT:subIn K (.ref C_BadWeb) (.ref C_NoText)=some false)(n_BW_NT:(C_BadWeb==C_NoText)=false)(sV_BW:subIn K (.ref C_BadWeb) (.type "ValueError")=some true)(sV_NT:subIn K (.ref C_NoText) (.type "ValueError")=some true)(q_NT:excIn K C_NoText [.type "ValueError",.type "Exception",.type "BaseException",.type "object"] "ValueError.__new__" = true)
 :∃fd:FuncData,(∀(s:aw) (v:ar),BindsTo s fd ⟨[v],[]⟩ [("script",v)])/\∀base:Heap,K.In base->base.Ns mainGlobals mg->cZ l.prog w K mg base eD 6 fa fd ["script"] (pH K):=by
 have e:=hfa.symm.trans (mg_of X G a23);cases e;have F23:=ab2 (st:=b5 35) l23 c23 k23;have m23:=mg_of X G a23;have B:Bt mg:=⟨mg_none_of X G z_len,mg_none_of X G z_range,mg_none_of X G z_tuple,mg_none_of X G z_list,mg_none_of X G z_sorted,mg_none_of X G z_all,mg_none_of X G z_any,mg_none_of X G z_zip,mg_none_of X G z_min,mg_none_of X G z_max,mg_none_of X G z_sum,mg_none_of X G z_isinstance,mg_none_of X G z_int,mg_none_of X G z_bool,mg_none_of X G z_enumerate⟩;have bst:=mg_none_of X G z_str;have m_FIGURES:=mg_of X G z_FIGURESx;have m_MOST_FIGURES:=mg_of X G z_MOST_FIGURESx;have m_MOST_HEARTHS:=mg_of X G z_MOST_HEARTHSx;have m_MOST_WANTED:=mg_of X G z_MOST_WANTEDx;have m_NONE_AT_ALL:=mg_of X G z_NONE_AT_ALLx;refine⟨fnOf "law" "law" (g9 (b5 35)) (cR (b5 35)) (aT (b5 35)) .none kV23 dc23 pm23 an23 cd23 ct23,λs v=>.of_eq rfl,λbase KB _=>?_⟩;have XK_HearthError:kJ K C_HearthError:=⟨y1_HE,y2_HE,y3_HE,y4_HE,y5_HE,y_fg,y_ft,y6_HE,y7_HE⟩;have XK_BadWeb:kJ K C_BadWeb:=⟨y1_BW,y2_BW,y3_BW,y4_BW,y5_BW,y_fg,y_ft,y6_BW,y7_BW⟩;have XK_NoText:kJ K C_NoText:=⟨y1_NT,y2_NT,y3_NT,y4_NT,y5_NT,y_fg,y_ft,y6_NT,y7_NT⟩
 have cat_HearthError:tS K mg "HearthError":=⟨C_HearthError,mg_of X G aX_HE,⟨y1_HE,y2_HE,sB_HE⟩,λn C h2 h1=>by
  obtain⟨hm,hb⟩:=pJ h2
  simp only[lR,aI1,aJ8,aO9]at hm;rcases hm with rfl|rfl|rfl|rfl|rfl|rfl|rfl|rfl|rfl|rfl|rfl|rfl
  ·rw[aX_BW]at h1;cases h1;exact s_BW_HE
  ·rw[zX_BS]at h1;cases h1
  ·rw[zX_BO]at h1;cases h1
  ·rw[zX_BP]at h1;cases h1
  ·rw[zX_BB]at h1;cases h1
  ·rw[zX_BD]at h1;cases h1
  ·rw[zX_NW]at h1;cases h1
  ·rw[zX_NP]at h1;cases h1
  ·rw[zX_NS]at h1;cases h1
  ·rw[zX_TM]at h1;cases h1
  ·rw[aX_NT]at h1;cases h1;exact s_NT_HE
  ·rw[zX_OR]at h1;cases h1⟩
 have is_BadWeb:nD K mg "BadWeb":=⟨C_BadWeb,mg_of X G aX_BW,λz=>(by cases z),(λn C b h1 h2=>by
  obtain⟨hm,hb⟩:=pJ h2
  simp only[lR,aI1,aJ8,aO9]at hm;rcases hm with rfl|rfl|rfl|rfl|rfl|rfl|rfl|rfl|rfl|rfl|rfl|rfl
  ·rw[aX_BW]at h1;cases h1;rw[hb,show (("BadWeb":Str)=="BadWeb"||("BadWeb":Str)=="HearthError"||("BadWeb":Str)=="ValueError")=true by decide];exact⟨XK_BadWeb.exc,zY⟩
  ·rw[zX_BS]at h1;cases h1
  ·rw[zX_BO]at h1;cases h1
  ·rw[zX_BP]at h1;cases h1
  ·rw[zX_BB]at h1;cases h1
  ·rw[zX_BD]at h1;cases h1
  ·rw[zX_NW]at h1;cases h1
  ·rw[zX_NP]at h1;cases h1
  ·rw[zX_NS]at h1;cases h1
  ·rw[zX_TM]at h1;cases h1
  ·rw[aX_NT]at h1;cases h1;rw[hb,show (("NoText":Str)=="BadWeb"||("BadWeb":Str)=="HearthError"||("BadWeb":Str)=="ValueError")=false by decide];exact⟨XK_NoText.exc,zX XK_BadWeb n_NT_BW s_NT_BW⟩
  ·rw[zX_OR]at h1;cases h1),A0 XK_BadWeb sN_BW⟩
 have is_NoText:nD K mg "NoText":=⟨C_NoText,mg_of X G aX_NT,λz=>(by cases z),(λn C b h1 h2=>by
  obtain⟨hm,hb⟩:=pJ h2
  simp only[lR,aI1,aJ8,aO9]at hm;rcases hm with rfl|rfl|rfl|rfl|rfl|rfl|rfl|rfl|rfl|rfl|rfl|rfl
  ·rw[aX_BW]at h1;cases h1;rw[hb,show (("BadWeb":Str)=="NoText"||("NoText":Str)=="HearthError"||("NoText":Str)=="ValueError")=false by decide];exact⟨XK_BadWeb.exc,zX XK_NoText n_BW_NT s_BW_NT⟩
  ·rw[zX_BS]at h1;cases h1
  ·rw[zX_BO]at h1;cases h1
  ·rw[zX_BP]at h1;cases h1
  ·rw[zX_BB]at h1;cases h1
  ·rw[zX_BD]at h1;cases h1
  ·rw[zX_NW]at h1;cases h1
  ·rw[zX_NP]at h1;cases h1
  ·rw[zX_NS]at h1;cases h1
  ·rw[zX_TM]at h1;cases h1
  ·rw[aX_NT]at h1;cases h1;rw[hb,show (("NoText":Str)=="NoText"||("NoText":Str)=="HearthError"||("NoText":Str)=="ValueError")=true by decide];exact⟨XK_NoText.exc,zY⟩
  ·rw[zX_OR]at h1;cases h1),A0 XK_NoText sN_NT⟩
 have is_ValueError:tU K mg:=⟨mg_none_of X G z_VE,λz=>(by cases z),(λn C b h1 h2=>by
  obtain⟨hm,hb⟩:=pJ h2
  simp only[lR,aI1,aJ8,aO9]at hm;rcases hm with rfl|rfl|rfl|rfl|rfl|rfl|rfl|rfl|rfl|rfl|rfl|rfl
  ·rw[aX_BW]at h1;cases h1;rw[hb,show (("BadWeb":Str)=="ValueError"||("ValueError":Str)=="HearthError"||("ValueError":Str)=="ValueError")=true by decide];exact⟨XK_BadWeb.exc,zZ sV_BW⟩
  ·rw[zX_BS]at h1;cases h1
  ·rw[zX_BO]at h1;cases h1
  ·rw[zX_BP]at h1;cases h1
  ·rw[zX_BB]at h1;cases h1
  ·rw[zX_BD]at h1;cases h1
  ·rw[zX_NW]at h1;cases h1
  ·rw[zX_NP]at h1;cases h1
  ·rw[zX_NS]at h1;cases h1
  ·rw[zX_TM]at h1;cases h1
  ·rw[aX_NT]at h1;cases h1;rw[hb,show (("NoText":Str)=="ValueError"||("ValueError":Str)=="HearthError"||("ValueError":Str)=="ValueError")=true by decide];exact⟨XK_NoText.exc,zZ sV_NT⟩
  ·rw[zX_OR]at h1;cases h1),ar0⟩
 have x_NoText:Xc K mg base "NoText":=⟨C_NoText,_,_,_,_,aq9 KB (mg_of X G aX_NT) q_NT,PySem.F.excBase_ValueError,aX_NT⟩;have D0:=aD2 (P:=l.prog) (w:=w) (base:=base) B (h0.M X G);have D1:=aD4 (P:=l.prog) (w:=w) (base:=base) B (h1.M X G)  m_NONE_AT_ALL;have D2:=aD6 (P:=l.prog) (w:=w) (base:=base) B (h2.M X G)  m_FIGURES m_MOST_FIGURES;have D3:=aD8 (P:=l.prog) (w:=w) (base:=base) B (h3.M X G);have D4:=aD9 (P:=l.prog) (w:=w) (base:=base) B (h4.M X G);have D5:=aE0 (P:=l.prog) (w:=w) (base:=base) B (h5.M X G);have D6:=aE2 (P:=l.prog) (w:=w) (base:=base) B (h6.M X G);have D7:=aE3 (P:=l.prog) (w:=w) (base:=base) B (h7.M X G)  bst;have D8:=aE4 (P:=l.prog) (w:=w) (base:=base) B (h8.M X G);have D9:=aE5 (P:=l.prog) (w:=w) (base:=base) B (h9.M X G);have D10:=aE6 (P:=l.prog) (w:=w) (base:=base) B (h10.M X G);have D11:=aE7 (P:=l.prog) (w:=w) (base:=base) B (h11.M X G);have D12:=aE9 (P:=l.prog) (w:=w) (base:=base) B (h12.M X G);have D13:=aF1 (P:=l.prog) (w:=w) (base:=base) B (h13.M X G) D2 x_NoText;have D14:=aF2 (P:=l.prog) (w:=w) (base:=base) B (h14.M X G) D5 D3 D4;have D15:=aF3 (P:=l.prog) (w:=w) (base:=base) B (h15.M X G) D6;have D16:=aF4 (P:=l.prog) (w:=w) (base:=base) B (h16.M X G) D8;have D17:=aF5 (P:=l.prog) (w:=w) (base:=base) B (h17.M X G) D11;have D18:=aF6 (P:=l.prog) (w:=w) (base:=base) B (h18.M X G) D13 x_NoText;have D19:=aF7 (P:=l.prog) (w:=w) (base:=base) B (h19.M X G) D15;have D20:=aF8 (P:=l.prog) (w:=w) (base:=base) B (h20.M X G) D11 D12 D17;have D21:=aF9 (P:=l.prog) (w:=w) (base:=base) B (h21.M X G) D18 x_NoText;have D22:=aG0 (P:=l.prog) (w:=w) (base:=base) B h22.F (mg_of X G h22.a) D18 D1 D21 D0 x_NoText m_MOST_HEARTHS m_MOST_WANTED;exact ap3 (aG1 B F23 D3 D7 D14 D9 D10 D16 D20 D22 D19 cat_HearthError is_BadWeb is_NoText is_ValueError)
theorem aG3 {l:OpenLaw}{q:ay}{loose:List Str}{XP:(Str->Option ar)->Heap->Prop}{YP:bf->Heap->Prop}{d:DefRec}{K:Params->Frag}(hn:l.most=some 63)(hdf:d.params.defaults = [])(hY:∀(w:bf) (h:Heap),YP w h->(K w.params).In h)(F:∀(w:bf) (mg:Str->Option ar) (fa:ax) (h:Heap),(K w.params).In h->h.Ns mainGlobals mg->mg d.name=some (.ref fa)->
   ∃fd:FuncData,(∀(s:aw) (u:ar),BindsTo s fd ⟨[u],[]⟩ [("script",u)])/\∀base:Heap,(K w.params).In base->base.Ns mainGlobals mg->cZ l.prog w (K w.params) mg base eD 6 fa fd ["script"] (pH (K w.params))) :
  WalkO q loose XP YP l.row.toRowW d [] (λf vs=>PySem.call f vs):=
 L2.ab0 (n:=63) (k:=6) (x:="script") (CX:=λ_=>eD) (sp:=λw=>pH (K w.params)) hn (by decide) hdf ⟨rfl,by decide,by decide⟩ hY F (λ_ _ a ns hl hO hS=>⟨a,ns,rfl,ap4 hO hS,hl,λ_=>rfl⟩) λ_ _ _ _ _ z=>z
end K_k07
open PySem PySem.W PyProof.Rows
set_option maxRecDepth 100000 in
set_option maxHeartbeats 0 in
theorem PySem.Challenge.cw_kindleweb_k07_whole_texts_of_webs_holds : PySem.Challenge.rw_kindleweb_k07_whole_texts_of_webs.Holds := by
 w_on;o_law;k_head;(case hw => w_witness2)
 k_fill
 refine K_k07.aG3 (l := PySem.Challenge.rw_kindleweb_k07_whole_texts_of_webs) rfl rfl (λw h Y => PySem.W.kIn_of Y) ?F
 case F =>
  intro w mg fa h KX G hmg
  refine' K_k07.aG2 KX G hmg ?h0 ?h1 ?h2 ?h3 ?h4 ?h5 ?h6 ?h7 ?h8 ?h9 ?h10 ?h11 ?h12 ?h13 ?h14 ?h15 ?h16 ?h17 ?h18 ?h19 ?h20 ?h21 ?h22 ?a23 ?l23 ?c23 ?k23 ?z_len ?z_range ?z_tuple ?z_list ?z_sorted ?z_all ?z_any ?z_zip ?z_min ?z_max ?z_sum ?z_isinstance ?z_int ?z_bool ?z_enumerate ?z_str ?z_FIGURESx ?z_MOST_FIGURESx ?z_MOST_HEARTHSx ?z_MOST_WANTEDx ?z_NONE_AT_ALLx ?aX_HE ?aX_BW ?aX_NT ?zX_BS ?zX_BO ?zX_BP ?zX_BB ?zX_BD ?zX_NW ?zX_NP ?zX_NS ?zX_TM ?zX_OR ?y_fg ?y_ft ?z_VE ?y1_HE ?y2_HE ?y3_HE ?y4_HE ?y5_HE ?y6_HE ?y7_HE ?y1_BW ?y2_BW ?y3_BW ?y4_BW ?y5_BW ?y6_BW ?y7_BW ?y1_NT ?y2_NT ?y3_NT ?y4_NT ?y5_NT ?y6_NT ?y7_NT ?sB_HE ?s_BW_HE ?s_NT_HE ?sN_BW ?s_NT_BW ?n_NT_BW ?sN_NT ?s_BW_NT ?n_BW_NT ?sV_BW ?sV_NT ?q_NT
  (case h0|h1|h2|h3|h4|h5|h6|h7|h8|h9|h10|h11|h12|h13|h14|h15|h16|h17|h18|h19|h20|h21|h22 => exact⟨by k_is, ⟨⟨_, _, _, _, _, _, _, _, _, rfl, by k_is, by k_is⟩, by k_is⟩⟩)
  (case a23|l23|c23|k23|z_len|z_range|z_tuple|z_list|z_sorted|z_all|z_any|z_zip|z_min|z_max|z_sum|z_isinstance|z_int|z_bool|z_enumerate|z_str|z_FIGURESx|z_MOST_FIGURESx|z_MOST_HEARTHSx|z_MOST_WANTEDx|z_NONE_AT_ALLx|aX_HE|aX_BW|aX_NT|zX_BS|zX_BO|zX_BP|zX_BB|zX_BD|zX_NW|zX_NP|zX_NS|zX_TM|zX_OR|y_fg|y_ft|z_VE|y1_HE|y2_HE|y3_HE|y4_HE|y5_HE|y6_HE|y7_HE|y1_BW|y2_BW|y3_BW|y4_BW|y5_BW|y6_BW|y7_BW|y1_NT|y2_NT|y3_NT|y4_NT|y5_NT|y6_NT|y7_NT|sB_HE|s_BW_HE|s_NT_HE|sN_BW|s_NT_BW => k_is)
  (case n_NT_BW => decide)
  (case sN_NT|s_BW_NT => k_is)
  (case n_BW_NT => decide)
  (case sV_BW|sV_NT => k_is)
  (case q_NT => k_exc)


