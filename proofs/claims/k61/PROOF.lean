import PyProof.Rows.All
import Wide.All
import OpenK.AllK
import Wide.FinOn
import Lean
import PyProof.EqAt
import PyProof.EqKinds
import PyProof.TupleCall
import PyProof.NeKinds
import PyProof.Draws
import PyProof.ZipIter
import PyProof.DictUpdate
import PyProof.AutoSeq1
import PyProof.ListRange
import PyProof.ListMulRoad
import PyProof.FactsAll.tuple_2
import PyProof.Rows.SortShell
import PyProof.EnumFor
import PyProof.EnumMake
import PyProof.EnumStmt
import PyProof.Rows.SortWalk
import KE.KDictList
import PyProof.SumAny
import PyProof.ConsumeWalk
import PyProof.WalksMore
import PyProof.Rows.TupAssign
import PyProof.ExcArgsOwn
import PySem.Challenge.RW_kindleweb_k61_whole_two_boxes
set_option Elab.async false
set_option linter.all false
set_option maxRecDepth 100000
set_option maxHeartbeats 4000000
section
open PySem PySem.Spec PyProof.Rows
noncomputable def bo2:=@wpAny_bind
noncomputable def bo4:=@Heap.get?_push_of_some
noncomputable def bo5:=@wpAny_pure
noncomputable def bo6:=@List.getElem?_eq_getElem
noncomputable def bo7:=@List.length_map
noncomputable def bo8:=@List.size_toArray
noncomputable def bo9:=@Int.le_refl
noncomputable def bp0:=@List.mem_cons_of_mem
noncomputable def bp1:=@List.mem_cons
noncomputable def bp2:=@List.mem_singleton
noncomputable def bp3:=@List.getD_eq_getElem?_getD
noncomputable def bp4:=@Heap.get?_push_size
noncomputable def bp5:=@List.mem_cons_self
noncomputable def bp6:=@decide_eq_false
noncomputable def bp7:=@Nat.le_refl
noncomputable def bp8:=@decide_eq_true
noncomputable def bp9:=@Heap.lt_size
noncomputable def bq0:=@List.not_mem_nil
noncomputable def bq1:=@List.getElem?_eq_some_iff
noncomputable def bq2:=@wpS_bind
noncomputable def bq3:=@Bool.false_eq_true
noncomputable def bq4:=@Nat.lt_of_lt_of_le
noncomputable def bq5:=@Array.length_toList
noncomputable def bq6:=@List.getElem?_map
noncomputable def bq7:=@List.append_assoc
noncomputable def bq9:=@wpS_pure
noncomputable def br0:=@List.length_append
noncomputable def br1:=@Nat.ne_of_lt
noncomputable def br3:=@Bool.false_ne_true
noncomputable def br5:=@List.mem_map
noncomputable def br6:=@Array.getElem?_toList
noncomputable def br7:=@Option.some.inj
noncomputable def br8:=@List.map_append
noncomputable def br9:=@List.getElem?_set_ne
noncomputable def bs0:=@List.mem_append
noncomputable def bs2:=@wpAny_newObj_type
noncomputable def bs3:=@Nat.lt_or_ge
noncomputable def bs4:=@List.take_append_drop
noncomputable def bs5:=@Array.getElem?_eq_getElem
noncomputable def bs7:=@Nat.le_trans
noncomputable def bs8:=@List.mem_append_right
noncomputable def bs9:=@List.length_cons
noncomputable def bt0:=@decide_eq_true_eq
noncomputable def bt1:=@wpAny_call_entry
noncomputable def bt2:=@wpAny_callSpecial?_slot
noncomputable def bt4:=@List.mem_append_left
noncomputable def bt5:=@Nat.zero_le
noncomputable def bt6:=@List.pairwise_append
noncomputable def bt7:=@Around.under_plainId
noncomputable def bt8:=@Int.le_trans
noncomputable def bt9:=@Heap.get?_update_self
noncomputable def bu2:=@if_false
noncomputable def bu4:=@List.pairwise_singleton
noncomputable def bu5:=@List.length_singleton
noncomputable def bu6:=@Nat.lt_irrefl
noncomputable def bu7:=@List.pairwise_map
noncomputable def bu8:=@Array.getElem_mem
noncomputable def bu9:=@List.getElem_of_mem
noncomputable def bv0:=@List.append_nil
noncomputable def bv1:=@or_false
noncomputable def bv2:=@List.map_cons
noncomputable def bv3:=@List.pairwise_iff_getElem
noncomputable def bv4:=@Array.getD_eq_getD_getElem?
noncomputable def bv5:=@List.take_add_one
noncomputable def bv7:=@Heap.SameBut.update
noncomputable def bv8:=@codeAny_builtin
noncomputable def bv9:=@wpAny_holding
noncomputable def bw0:=@List.map_map
noncomputable def bw2:=@List.mem_range
noncomputable def bw3:=@Nat.ne_of_gt
noncomputable def bw4:=@List.getElem?_cons_succ
noncomputable def bw5:=@List.perm_append_comm
noncomputable def bw7:=@PySem.mem_of_lookup
noncomputable def bw8:=@Heap.size_push
noncomputable def bx0:=@List.take_length
noncomputable def bx1:=@List.mem_filter
noncomputable def bx2:=@wpAny_seqItems
noncomputable def bx3:=@wpAny_field
noncomputable def bx4:=@wpAny_mono
noncomputable def bx6:=@Classical.byContradiction
noncomputable def bx8:=@List.lookup_cons
noncomputable def bx9:=@beq_self_eq_true
noncomputable def by0:=@List.getElem_mem
noncomputable def by1:=@Nat.le_add_right
noncomputable def by2:=@Heap.get?_update_other
noncomputable def by4:=@List.zip_cons_cons
noncomputable def by5:=@wpAny_setField_rec
noncomputable def by6:=@plainId_quiet
noncomputable def by8:=@Nat.le_of_lt
noncomputable def by9:=@Array.toList_append
noncomputable def bz1:=@Bool.and_eq_true
noncomputable def bz2:=@List.Perm.refl
noncomputable def bz3:=@List.Pairwise.nil
noncomputable def bz5:=@Array.getElem?_eq_none
noncomputable def bz6:=@wpS_forRange
noncomputable def bz7:=@PySem.W.kia_one
noncomputable def bz8:=@Nat.not_lt_zero
noncomputable def bA0:=@wpAny_setState_of
noncomputable def bA1:=@Nat.lt_succ_of_lt
noncomputable def bA2:=@decide_eq_false_iff_not
noncomputable def bA3:=@of_decide_eq_false
noncomputable def bA4:=@wpAny_loadPart'
noncomputable def bA5:=@List.length_set
noncomputable def bA7:=@List.getElem?_set_self
noncomputable def bA8:=@List.length_take
noncomputable def bB0:=@List.all_eq_true
noncomputable def bB1:=@List.take_of_length_le
noncomputable def bB2:=@PySem.F.plain_min_loop
noncomputable def bB3:=@PySem.F.plain_max_loop
noncomputable def bB4:=@List.getElem?_append_left
noncomputable def bB5:=@List.drop_eq_getElem_cons
noncomputable def bB7:=@wpAny_truthy_bool
noncomputable def bC0:=@Bool.eq_iff_iff
noncomputable def bC1:=@List.nodup_cons
noncomputable def bC2:=@List.find?_cons
noncomputable def bC3:=@wpAny_pyIter_tuple
noncomputable def bC4:=@List.length_drop
noncomputable def bC5:=@PyProof.Rows.callWith_type1
noncomputable def bC6:=@wpAny_attempt
noncomputable def bC7:=@List.getElem?_append_right
noncomputable def bC8:=@Prod.ext
noncomputable def bC9:=@List.length_range
noncomputable def bD0:=@wpAny_setField
noncomputable def bD1:=@List.nodup_append
noncomputable def bD2:=@wpAny_letGo
noncomputable def bD3:=@wpAny_updateSeq
noncomputable def bD4:=@PyProof.Rows.slot_tuple_getitem
noncomputable def bD5:=@List.Perm.append_left
noncomputable def bD6:=@List.mem_filterMap
noncomputable def bD9:=@List.mem_of_getElem?
noncomputable def bE1:=@Bool.eq_false_iff
noncomputable def bE2:=@List.length_nil
noncomputable def bE4:=@Int.emod_nonneg
noncomputable def bE8:=@Bool.true_and
noncomputable def bE9:=@Option.getD_some
noncomputable def bF0:=@wpAny_isInstance
noncomputable def bF1:=@Bool.false_and
noncomputable def bF2:=@Nat.add_sub_cancel
noncomputable def bF3:=@wpAny_rule
noncomputable def bF4:=@Nat.eq_or_lt_of_le
noncomputable def bF5:=@wpAny_tryCatch
noncomputable def bF6:=@List.perm_ext_iff_of_nodup
noncomputable def bF8:=@wpAny_passesOwn
noncomputable def bG1:=@of_decide_eq_true
noncomputable def bG2:=@Int.toNat_natCast
noncomputable def bG3:=@wpS_mono
noncomputable def bG4:=@List.mem_of_mem_take
noncomputable def bG7:=@List.all_cons
noncomputable def bG9:=@Bool.and_false
noncomputable def bH1:=@List.drop_take
noncomputable def bH2:=@isSubtype_type
noncomputable def bH4:=@True.intro
end
noncomputable abbrev av:=PySem.Value
noncomputable abbrev ax:=PySem.Shared
noncomputable abbrev ay:=PySem.Addr
noncomputable abbrev az:=PySem.Program
noncomputable abbrev ba:=PySem.Around
noncomputable abbrev bc:=PySem.World
noncomputable abbrev aa:=List (Int×Int)
noncomputable abbrev ac:=PySem.W.Frag
noncomputable abbrev ad:=List (List Int)
noncomputable abbrev ae:=List Int
namespace L2
open PySem PySem.Spec PyProof.Rows
noncomputable abbrev aI:=Sum Int Str
noncomputable def mH:aI->av->Bool
 |.inl k,v=>Value.isInt k v
 |.inr x,v=>Value.isStrOf x v
noncomputable def an1 (w:bc):aI->Int
 |.inl k=>hashInt k
 |.inr x=>hashStr w x
theorem j9:∀{k:aI}{v:av},mH k v=true->(∃i t,k=Sum.inl i/\v=Value.int i t)∨(∃x t,k=Sum.inr x/\v=Value.str x t)
 |.inl i,v,h=>by
  obtain⟨t,e⟩:=Value.isInt_shape (k:=i) (v:=v) h
  exact .inl ⟨i,t,rfl,e⟩
 |.inr x,v,h=>by
  obtain⟨t,e⟩:=Value.isStrOf_shape (x:=x) (v:=v) h
  exact .inr ⟨x,t,rfl,e⟩
theorem an2 (i:Int)(t:Tok):mH (.inl i) (.int i t)=true:=by simp[mH,Value.isInt]
theorem an3 (x:Str)(t:Tok):mH (.inr x) (.str x t)=true:=by simp[mH,Value.isStrOf]
theorem an4 (a b:Int):decide ((Sum.inl a:aI)=Sum.inl b)=(a==b):=by
 by_cases e:a=b
 ·subst e;simp
 ·have h:¬(Sum.inl a:aI)=Sum.inl b:=λq=>e (Sum.inl.inj q)
  rw[bp6 h];exact (beq_eq_false_iff_ne.mpr e).symm
theorem an5 (a b:Str):decide ((Sum.inr a:aI)=Sum.inr b)=decide (a=b):=by
 by_cases e:a=b
 ·subst e;simp
 ·have h:¬(Sum.inr a:aI)=Sum.inr b:=λq=>e (Sum.inr.inj q)
  rw[bp6 h,bp6 e]
theorem an6 (a:Int)(b:Str):decide ((Sum.inl a:aI)=Sum.inr b)=false:=bp6 (λq=>nomatch q)
theorem an7 (a:Str)(b:Int):decide ((Sum.inr a:aI)=Sum.inl b)=false:=bp6 (λq=>nomatch q)
noncomputable def eG (prog:az)(w:bc):PySem.KeyKind prog w aI where
 is:=mH
 hash:=an1 w
 inj:=λv a b ha hb=>by
  rcases j9 ha with⟨i,t,rfl,rfl⟩|⟨x,t,rfl,rfl⟩
  ·rcases j9 hb with⟨j,u,rfl,e⟩|⟨y,u,rfl,e⟩
   ·injection e with e1 _;rw[e1]
   ·exact nomatch e
  ·rcases j9 hb with⟨j,u,rfl,e⟩|⟨y,u,rfl,e⟩
   ·exact nomatch e
   ·injection e with e1 _;rw[e1]
 byValue:=λk v h=>by
  rcases j9 h with⟨i,t,rfl,rfl⟩|⟨x,t,rfl,rfl⟩<;>rfl
 pyHash:=λhv h=>by
  rcases j9 hv with⟨i,t,rfl,rfl⟩|⟨x,t,rfl,rfl⟩
  ·exact wpAny_pyHash_int h
  ·exact wpAny_pyHash_str h
 eqBool:=λhu hv h=>by
  rcases j9 hu with⟨i,t,rfl,rfl⟩|⟨x,t,rfl,rfl⟩
  ·rcases j9 hv with⟨j,u,rfl,rfl⟩|⟨y,u,rfl,rfl⟩
   ·rw[an4]at h;exact wpAny_eqBool_int h
   ·rw[an6]at h;exact SeqAt.EqAt.int_str i t y u _ _ _ _ h
  ·rcases j9 hv with⟨j,u,rfl,rfl⟩|⟨y,u,rfl,rfl⟩
   ·rw[an7]at h;exact SeqAt.EqAt.str_int x t j u _ _ _ _ h
   ·rw[an5]at h;exact wpAny_eqBool_str h
 «strs»:=λk x t v h=>by
  rcases j9 h with⟨i,u,rfl,e⟩|⟨y,u,rfl,e⟩
  ·exact nomatch e
  ·injection e with e1 _
   subst e1;cases v<;>rfl
theorem an8 (prog:az)(w:bc)(i:Int)(t:Tok):(eG prog w).is (.inl i) (.int i t)=true:=an2 i t
theorem an9 (prog:az)(w:bc)(x:Str)(t:Tok):(eG prog w).is (.inr x) (.str x t)=true:=an3 x t
inductive V where
 |non|bl (b:Bool)|int (i:Int)|str (x:Str)|byt (b:Array UInt8)|flt (b:UInt64)|ref (a:ay)|ty (n:String)
 deriving DecidableEq
noncomputable def aQ:V->av->Prop
 |.non,u=>u=Value.none
 |.bl b,u=>u=Value.bool b
 |.int i,u=>∃t,u=Value.int i t
 |.str x,u=>∃t,u=Value.str x t
 |.byt b,u=>∃t,u=Value.bytes b t
 |.flt b,u=>∃t,u=Value.float b t
 |.ref a,u=>u=Value.ref a
 |.ty n,u=>u=Value.type n
noncomputable abbrev aL:List V->List av->Prop:=Paired aQ
theorem aL.length {xs:List V}{us:List av}(r:aL xs us):xs.length=us.length:=Paired.length r
theorem aL.get:∀{xs:List V}{us:List av}{i:Nat}{x:V},aL xs us->xs[i]? = some x->∃u,us[i]? = some u/\aQ x u
 |_,_,_,_,.nil,e=>by simp at e
 |_,_,0,_,.cons r _,e=>by simp at e;subst e;exact⟨_,rfl,r⟩
 |_,_,i+1,x,.cons _ t,e=>by
  obtain⟨u,h1,h2⟩:=aL.get (i:=i) (x:=x) t (by simpa using e)
  exact⟨u,by simpa using h1,h2⟩
theorem aL.append:∀{xs ys:List V}{us ws:List av},aL xs us->aL ys ws->aL (xs++ys) (us++ws)
 |_,_,_,_,.nil,s=>s
 |_,_,_,_,.cons r t,s=>.cons r (aL.append t s)
theorem aL.take:∀{xs:List V}{us:List av} (n:Nat),aL xs us->aL (xs.take n) (us.take n)
 |_,_,0,_=>.nil
 |_,_,_+1,.nil=>.nil
 |_,_,n+1,.cons r t=>.cons r (aL.take n t)
theorem aL.drop:∀{xs:List V}{us:List av} (n:Nat),aL xs us->aL (xs.drop n) (us.drop n)
 |_,_,0,r=>r
 |_,_,_+1,.nil=>.nil
 |_,_,n+1,.cons _ t=>aL.drop n t
noncomputable def gH:Option V->Option av->Prop
 |some v,some u=>aQ v u
 |none,none=>True
 |_,_=>False
noncomputable def KV {κ:Type}:List (κ×V)->List (κ×av)->Prop:=Paired λ(p:κ×V) (q:κ×av)=>p.1=q.1/\aQ p.2 q.2
noncomputable def kV:aI->V
 |.inl i=>.int i
 |.inr x=>.str x
inductive HO where
 |lst (xs:List V)
 |tup (xs:List V)
 |dK (kvs:List (aI×V))|dT (kvs:List (List aI×V))
 |set (S:Int->Bool) (n:Nat)
 |ins (C dx:ay) (fs:List (Str×V))
 |own (x:ay)
 |xd (fs:List (Str×V))
 |met (f x:ay)
 |rng (lo hi:Int)
 |frz (o:Obj) (u:HO)
 |tbl (ps:Array av)
 |ext (φ:Heap->Prop)
noncomputable abbrev Hp:=ay->Option HO
noncomputable def upd (H:Hp)(a:ay)(o:HO):Hp:=λb=>if b=a then some o else H b
theorem bZ {H:Hp}{a:ay}{o:HO}:upd H a o a=some o:=by unfold upd;rw[if_pos rfl]
theorem aW {H:Hp}{a b:ay}{o:HO}(h:b≠a):upd H a o b=H b:=by unfold upd;rw[if_neg h]
theorem zF {H:Hp}{a b:ay}{o u:HO}(h:H a=some o)(h':H b=some u)(d:o≠u):a≠b:=by
 intro e;subst e;rw[h]at h';exact d (br7 h')
theorem cS {H:Hp}{a b:ay}{o:HO}(h:H a=some o)(h':H b=none):a≠b:=by
 intro e;subst e;rw[h]at h';cases h'
noncomputable def jA (h:Heap)(a:ay):Prop:=∀o,h.get? a=some o->o.dict=none
theorem jA.new (h:Heap)(o:Obj)(d:o.dict=none)(s:o.isFreed=false:=by rfl):jA (h.push o) h.objs.size:=λu e=>by
 rw[bp4 h (o:=o) s]at e;cases e;exact d
theorem jA.stay {h h':Heap}{a:ay}{o:Obj}(n:jA h a)(e:h.get? a=some o)(e':h'.get? a=some o):jA h' a:=λu hu=>by
 rw[e']at hu;cases hu;exact n _ e
section
variable (P:az)(w:bc)
noncomputable def bN (H:Hp)(h:Heap)(a:ay):HO->Prop
 |.lst xs=>xs.length<=sizeLine/\∃(its:List av) (n:Nat),aL xs its/\h.get? a=some { cls:=.type "list",data:=.seq its.toArray n }
 |.tup xs=>xs.length<=sizeLine/\∃its:List av,aL xs its/\IsTup h a its.toArray/\jA h a
 |.dK kvs=>kvs.length<=sizeLine/\(a==sysModules)=false/\∃vs,KV kvs vs/\h.DictOf (eG P w) a vs
 |.dT kvs=>kvs.length<=sizeLine/\(a==sysModules)=false/\∃xs:List (List aI×ay×av),
   Paired (λ(p:List aI×V) (q:List aI×ay×av)=>p.1=q.1/\H q.2.1=some (.tup (p.1.map kV))/\aQ p.2 q.2.2) kvs xs/\
   ∃o es ep,h.get? a=some o/\o.ExactDict/\o.data = .dict es ep/\es.toList=xs.map (entryOfKey (tupleKind (eG P w)))/\(xs.map (·.1)).Nodup
 |.set S n=>h.SetOf (intKind P w) a S n
 |.ins C dx fs=>H dx=some (.own a)/\fs.length<=1000/\dx≠a/\h.get? a=some (PySem.W.instObj C dx)/\
   ∃mA,h.Ns1 dx mA/\(∀f,gH (fs.lookup f) (mA f))/\PySem.Within mA (fs.map (·.1))
 |.own _=>∃o,h.get? a=some o
 |.xd fs=>∃mA,h.Ns1 a mA/\∀f,gH (fs.lookup f) (mA f)
 |.rng lo hi=>∃t u v,h.get? a=some { cls:=.type "range",data:=.fields #[.int lo t,.int hi u,.int 1 v] }
 |.frz o u=>h.get? a=some o/\bN H h a u
 |.tbl ps=>h.get? a=some { cls:=.none,data:=.fields ps }
 |.met f x=>h.get? a=some (PySem.W.methodObj (.ref f) (.ref x))
 |.ext φ=>φ h/\(∃o,h.get? a=some o)/\∀h1 h2:Heap,φ h1->(∀o,h1.get? a=some o->h2.get? a=some o)->φ h2
noncomputable def bW (H:Hp)(h:Heap):Prop:=∀a o,H a=some o->bN P w H h a o
end
section
variable {P:az}{w:bc}{H H':Hp}{h h':Heap}{a:ay}{o:HO}
theorem bN.lt (x:bN P w H h a o):a<h.objs.size:=by
 cases o with
 |lst xs=>obtain⟨_,_,_,_,e⟩:=x;exact bp9 e
 |tup xs=>obtain⟨_,_,_,p,_⟩:=x;exact p.lt
 |dK kvs=>obtain⟨_,_,_,_,o,_,_,e,_⟩:=x;exact bp9 e
 |dT kvs=>obtain⟨_,_,_,_,o,_,_,e,_⟩:=x;exact bp9 e
 |set S n=>obtain⟨o,_,_,_,e,_⟩:=x;exact bp9 e
 |ins C dx fs=>obtain⟨_,_,_,e,_⟩:=x;exact bp9 e
 |own y=>obtain⟨_,e⟩:=x;exact bp9 e
 |xd fs=>obtain⟨_,⟨_,_,_,e,_⟩,_⟩:=x;exact bp9 e
 |rng lo hi=>obtain⟨_,_,_,e⟩:=x;exact bp9 e
 |frz ob u=>obtain⟨e,_⟩:=x;exact bp9 e
 |tbl ps=>exact bp9 (show h.get? a=some _ from x)
 |met f y=>exact bp9 (show h.get? a=some _ from x)
 |ext φ=>obtain⟨_,⟨_,e⟩,_⟩:=x;exact bp9 e
theorem Paired.mapP {α β:Type}{F G:α->β->Prop}:∀{l₁:List α}{l₂:List β},Paired F l₁ l₂->(∀a b,F a b->G a b)->Paired G l₁ l₂
 |_,_,.nil,_=>.nil
 |_,_,.cons r t,f=>.cons (f _ _ r) (Paired.mapP t f)
theorem bN.stay (x:bN P w H h a o)(k:∀b u,(b=a∨H b=some (.own a))->h.get? b=some u->h'.get? b=some u)(ho:∀b,H b=some (.own a)->H' b=some (.own a))(ht:∀b xs,H b=some (.tup xs)->H' b=some (.tup xs)):bN P w H' h' a o:=by
 induction o with
 |lst xs=>obtain⟨z,its,n,r,e⟩:=x;exact⟨z,its,n,r,k _ _ (.inl rfl) e⟩
 |tup xs=>obtain⟨z,its,r,⟨ob,e,c⟩,nd⟩:=x;exact⟨z,its,r,⟨ob,k _ _ (.inl rfl) e,c⟩,nd.stay e (k _ _ (.inl rfl) e)⟩
 |dK kvs=>obtain⟨z,y,vs,r,ob,es,ep,e,c⟩:=x;exact⟨z,y,vs,r,ob,es,ep,k _ _ (.inl rfl) e,c⟩
 |dT kvs=>
  obtain⟨z,y,xs,r,ob,es,ep,e,c⟩:=x
  exact⟨z,y,xs,Paired.mapP r λp q z=>⟨z.1,ht _ _ z.2.1,z.2.2⟩,ob,es,ep,k _ _ (.inl rfl) e,c⟩
 |set S n=>obtain⟨ob,es,ep,t,e,c⟩:=x;exact⟨ob,es,ep,t,k _ _ (.inl rfl) e,c⟩
 |ins C dx fs=>
  obtain⟨d,z,ne,e,mA,⟨od,es,ep,e2,c⟩,r⟩:=x
  exact⟨ho _ d,z,ne,k _ _ (.inl rfl) e,mA,⟨od,es,ep,k _ _ (.inr d) e2,c⟩,r⟩
 |own y=>obtain⟨ob,e⟩:=x;exact⟨ob,k _ _ (.inl rfl) e⟩
 |xd fs=>obtain⟨mA,⟨od,es,ep,e,c⟩,r⟩:=x;exact⟨mA,⟨od,es,ep,k _ _ (.inl rfl) e,c⟩,r⟩
 |rng lo hi=>obtain⟨t,u,v,e⟩:=x;exact⟨t,u,v,k _ _ (.inl rfl) e⟩
 |frz ob u ih=>obtain⟨e,q⟩:=x;exact⟨k _ _ (.inl rfl) e,ih q⟩
 |tbl ps=>
  have e:h.get? a=some { cls:=.none,data:=.fields ps }:=x;show h'.get? a=some { cls:=.none,data:=.fields ps };exact k a _ (.inl rfl) e
 |met f y=>
  have e:h.get? a=some (PySem.W.methodObj (.ref f) (.ref y)):=x;show h'.get? a=some (PySem.W.methodObj (.ref f) (.ref y));exact k a _ (.inl rfl) e
 |ext φ=>obtain⟨p,⟨o,e⟩,st⟩:=x;exact⟨st _ _ p λo q=>k _ _ (.inl rfl) q,⟨o,k _ _ (.inl rfl) e⟩,st⟩
theorem bW.lt (x:bW P w H h)(e:H a=some o):a<h.objs.size:=(x a o e).lt
theorem bW.fresh (x:bW P w H h)(e:h.objs.size<=a):H a=none:=by
 cases q:H a with
 |none=>rfl
 |some u=>exact absurd (bq4 (x.lt q) e) (bu6 _)
theorem bW.kept (x:bW P w H h)(k:∀b u,h.get? b=some u->h'.get? b=some u):bW P w H h':=λa o e=>
 (x a o e).stay (λb u _ q=>k b u q) (λ_ q=>q) λ_ _ q=>q
theorem bW.laid (x:bW P w H h)(k:∀b u,h.get? b=some u->h'.get? b=some u)(hp:h.objs.size<=a)(new:bN P w (upd H a o) h' a o):bW P w (upd H a o) h':=λb u e=>by
 have hn:=x.fresh hp;by_cases hb:b=a
 ·subst hb;rw[bZ]at e;cases e;exact new
 ·rw[aW hb]at e
  exact (x b u e).stay (λc v _ q=>k c v q) (λc q=>by rw[aW (cS q hn)];exact q) λc xs q=>by rw[aW (cS q hn)];exact q
end
noncomputable def Rd (H:Hp)(a:ay)(u:HO):Prop:=H a=some u∨∃o,H a=some (.frz o u)
theorem Rd.ok {P:az}{w:bc}{H:Hp}{h:Heap}{a:ay}{u:HO}(r:Rd H a u)(x:bW P w H h):bN P w H h a u:=by
 rcases r with r|⟨o,r⟩
 ·exact x a u r
 ·obtain⟨_,q⟩:=x a _ r
  exact q
noncomputable def o5:Option HO->Prop
 |some (.lst _)=>True
 |some (.dK _)=>True
 |some (.dT _)=>True
 |some (.set _ _)=>True
 |some (.ins _ _ _)=>True
 |some (.ext _)=>True
 |_=>False
section
variable {P:az}{w:bc}{H:Hp}{h h':Heap}{x e:ay}{o':HO}
theorem bW.write (ok:bW P w H h)(mu:o5 (H x))(he:e=x∨H e=some (.own x))(k:∀b u,b≠e->h.get? b=some u->h'.get? b=some u)(heo:∃u,h'.get? e=some u)(new:bN P w (upd H x o') h' x o'):bW P w (upd H x o') h':=λb u q=>by
 have nown:∀c y,H c=some (.own y)->c≠x:=λc y r z=>by subst z;rw[r]at mu;exact mu
 have ntup:∀c xs,H c=some (.tup xs)->c≠x:=λc xs r z=>by subst z;rw[r]at mu;exact mu
 by_cases hb:b=x
 ·subst hb;rw[bZ]at q;cases q;exact new
 ·rw[aW hb]at q
  by_cases hbe:b=e
  ·have q':H b=some (.own x):=by
    rcases he with z|z
    ·exact absurd (hbe.trans z) hb
    ·rw[hbe];exact z
   rw[q]at q';cases q'
   obtain⟨v,hv⟩:=heo
   exact⟨v,by rw[hbe];exact hv⟩
  ·refine (ok b u q).stay (λc v hc r=>k c v ?_ r) (λc r=>by rw[aW (nown c b r)];exact r) λc xs r=>by rw[aW (ntup c xs r)];exact r
   rcases hc with rfl|hc
   ·exact hbe
   ·rintro rfl
    rcases he with z|z
    ·exact nown c b hc z
    ·rw[hc]at z;cases z;exact hb rfl
end
structure Un (fs ex:List ay)(H H':Hp)(h h':Heap):Prop where
 keep:∀b o,h.get? b=some o->H b=none->b∉fs->b∉ex->h'.get? b=some o
 slot:∀b o,h.get? b=some o->H b=none->b∈fs->b∉ex->∃sl,h'.get? b=some { o with slots:=sl }
 free:∀b o,h.get? b=some o->H b=none->b∉ex->H' b=none
 there:∀b o,h.get? b=some o->b∉ex->∃o',h'.get? b=some o'
 tups:∀b xs,H b=some (.tup xs)->H' b=some (.tup xs)
 frzs:∀b o u,H b=some (.frz o u)->H' b=some (.frz o u)
 tbls:∀b ps,H b=some (.tbl ps)->∃more,H' b=some (.tbl (ps++more))
section
variable {fs fs' ex ex':List ay}{H H1 H2:Hp}{h h1 h2 h':Heap}{a x e:ay}{o:HO}
theorem Un.any (u:Un fs ex H H1 h h1){b:ay}{ob:Obj}(q:h.get? b=some ob)(n:H b=none)(hx:b∉ex):∃sl,h1.get? b=some { ob with slots:=sl }:=by
 by_cases hb:b∈fs
 ·exact u.slot b ob q n hb hx
 ·exact⟨ob.slots,u.keep b ob q n hb hx⟩
theorem Un.kept (k:∀b u,h.get? b=some u->h'.get? b=some u):Un fs ex H H h h':=
 ⟨λb ob q _ _ _=>k b ob q,λb ob q _ _ _=>⟨ob.slots,k b ob q⟩,λ_ _ _ n _=>n,λb ob q _=>⟨ob,k b ob q⟩,λ_ _ q=>q,λ_ _ _ q=>q,λ_ ps q=>⟨#[],by rw[q];simp⟩⟩
theorem Un.refl:Un fs ex H H h h:=Un.kept λ_ _ q=>q
theorem Un.laid (k:∀b u,h.get? b=some u->h'.get? b=some u)(hp:h.objs.size<=a)(hn:H a=none):Un fs ex H (upd H a o) h h' where
 keep:=λb u q _ _ _=>k b u q
 slot:=λb u q _ _ _=>⟨u.slots,k b u q⟩
 free:=λb u q n _=>by rw[aW (br1 (bq4 (bp9 q) hp))];exact n
 there:=λb u q _=>⟨u,k b u q⟩
 tups:=λb xs q=>by rw[aW (cS q hn)];exact q
 frzs:=λb u xs q=>by rw[aW (cS q hn)];exact q
 tbls:=λb ps q=>⟨#[],by rw[aW (cS q hn),q];simp⟩
theorem Un.write (mu:o5 (H x))(he:e=x∨H e=some (.own x))(k:∀b u,b≠e->h.get? b=some u->h'.get? b=some u)(heo:∃u,h'.get? e=some u):Un fs ex H (upd H x o) h h':=by
 have hx:∀b,H b=none->b≠x:=λb n z=>by subst z;rw[n]at mu;exact mu
 have hb:∀b,H b=none->b≠e:=λb n z=>by
  subst z;rcases he with r|r
  ·exact hx b n r
  ·rw[n]at r;cases r
 have hm:∀b u,H b=some u->¬o5 (some u)->b≠x:=λb u q nm z=>by subst z;rw[q]at mu;exact nm mu
 refine⟨λb u q n _ _=>k b u (hb b n) q,λb u q n _ _=>⟨u.slots,k b u (hb b n) q⟩,λb u q n _=>by rw[aW (hx b n)];exact n,λb u q _=>?_,
  λb xs q=>by rw[aW (hm b _ q λz=>z)];exact q,λb u xs q=>by rw[aW (hm b _ q λz=>z)];exact q,λb ps q=>⟨#[],by rw[aW (hm b _ q λz=>z),q];simp⟩⟩
 by_cases hbe:b=e
 ·subst hbe;exact heo
 ·exact⟨u,k b u hbe q⟩
end
noncomputable def qH (h:Heap)(H:Hp):List ay:=(List.range h.objs.size).filter λa=>(H a).isSome
noncomputable def jB (h:Heap)(H:Hp):Heap:=PySem.W.hideAll h (qH h H)
theorem ao0 (h:Heap)(H:Hp):(jB h H).objs.size=h.objs.size:=PySem.W.hideAll_size _ _
theorem ao1 {h:Heap}{H:Hp}{b:ay}{o:Obj}(e:h.get? b=some o)(n:H b=none):(jB h H).get? b=some o:=
 PySem.W.hideAll_get _ e λhm=>by
  have q:(H b).isSome=true:=(bx1.mp hm).2;rw[n]at q;simp at q
theorem ao2 {h:Heap}{H:Hp}{b:ay}{o:Obj}(e:(jB h H).get? b=some o):h.get? b=some o/\H b=none:=by
 have e':h.get? b=some o:=PySem.W.of_hideAll (qH h H) e;refine⟨e',?_⟩;cases q:H b with
 |none=>rfl
 |some x=>
  have hm:b∈qH h H:=bx1.mpr ⟨bw2.mpr (bp9 e'),by simp[q]⟩;have z:(jB h H).get? b=none:=PySem.W.hideAll_none (qH h H) hm;rw[z]at e;cases e
noncomputable def mI (g h:Heap)(L:ay):List (ay×Obj):=(List.range h.objs.size).filterMap λa=>if a=L∨(g.get? a).isSome=true then none else (h.get? a).map λo=>(a,o)
theorem zG {g h:Heap}{L a:ay}{o:Obj}(h1:a≠L)(h2:g.get? a=none)(h3:h.get? a=some o):(a,o)∈mI g h L:=
 bD6.mpr ⟨a,bw2.mpr (bp9 h3),by simp[h1,h2,h3]⟩
theorem ao3 {g h:Heap}{L:ay}{p:ay×Obj}(hp:p∈mI g h L):p.1≠L/\g.get? p.1=none/\h.get? p.1=some p.2:=by
 obtain⟨b,_,e⟩:=bD6.mp hp
 split at e
 ·cases e
 ·rename_i hn
  cases q:h.get? b with
  |none=>rw[q]at e;simp at e
  |some u=>
   rw[q]at e;simp only[Option.map_some,Option.some.injEq]at e;subst e;refine⟨λz=>hn (.inl z),?_,q⟩;show g.get? b=none;cases r:g.get? b with
   |none=>rfl
   |some v=>exact (hn (.inr (by simp[r]))).elim
noncomputable def b9 (g h:Heap)(L d:ay):List (ay×Obj):=(mI g h L).filter λp=>decide (p.1≠d)
theorem zH {g h:Heap}{L:ay}:News g L h (mI g h L):=λp hp=>let ⟨a,b,c⟩:=ao3 hp;⟨c,a,b⟩
structure Mod (K:ac)(mg:Str->Option av)(base:Heap):Prop where
 kin:K.In base
 glob:base.Ns mainGlobals mg
 blt:∃mb,base.Ns builtinsNs mb/\∀x:Str,x≠"__name__"->mb x=bootBuiltins x
 nolimit:base.NoLimit
structure Cx where
 prog:az
 w:bc
 K:ac
 mg:Str->Option av
 base:Heap
 A:ba
 N:List Str
 s₀:ax
 H₀:Hp
 env:Env
 outer:List Env
 stack:List Env
 ex:List ay
 fn:Str->Bool
 calm:Bool
 pn:List (ay×Obj)
 xe:av->ax->Prop
noncomputable def cC (l:List Env):List ay:=l.filterMap (·.frame)
noncomputable abbrev Cx.fs (X:Cx):List ay:=cC X.outer
noncomputable def iR (sc:Scope)(x:Str):Prop:=sc.names.lookup x=some .local∨sc.names.lookup x=some .cell∨sc.names.lookup x=some .free
noncomputable def i8 (sc:Scope)(x:Str):Prop:=sc.names.lookup x=some .local∨sc.names.lookup x=some .cell
noncomputable def ao4 (env:Env)(h:Heap)(m:Str->Option av)(x:Str)(u:av):Prop:=
 (env.kindOf x=some .local/\m x=some u)∨((env.kindOf x=some .cell∨env.kindOf x=some .free)/\∃c,env.cells.lookup x=some c/\h.IsCell c (some u))
structure Cx.Ok (X:Cx):Prop where
 mod:Mod X.K X.mg X.base
 kind:X.env.scope.kind = .function
 glob:X.env.globals=mainGlobals
 blt:X.env.builtins=builtinsNs
 above:X.s₀.heap.objs.size<=X.env.locals
 inj:∀x y c,X.env.cells.lookup x=some c->X.env.cells.lookup y=some c->x=y
 has:∀x,(X.env.kindOf x=some .cell∨X.env.kindOf x=some .free)->∃c,X.env.cells.lookup x=some c
 cab:∀x c,X.fn x=true->X.env.cells.lookup x=some c->X.s₀.heap.objs.size<=c
 hd:X.calm=true->X.A.handled=none
 frames:X.A.frames=some X.stack
 stk:X.stack=X.outer∨(X.stack=X.env::X.outer/\X.env.frame=some X.env.locals)
 exf:∀b∈X.ex,b≠X.env.locals/\∀x c,X.env.cells.lookup x=some c->c≠b
 bs:∀b o,X.base.get? b=some o->X.s₀.heap.get? b=some o/\X.H₀ b=none
 bsz:X.base.objs.size<=X.s₀.heap.objs.size
 noex:∀b o,X.base.get? b=some o->b∉X.ex
 exfs:∀b∈X.ex,b∉X.fs
 funs:X.s₀.heap.FunFrames X.base X.outer
 frf:∀b∈X.fs,X.H₀ b=none
structure a8 (X:Cx)(ag:List (ay×Obj))(σ:List (Option V))(H:Hp)(s:ax):Prop where
 ok:X.Ok
 os:s.os=X.s₀.os
 bare:AllBare s.gens
 base:Un X.fs X.ex X.H₀ H X.s₀.heap s.heap
 loc:∃m,s.heap.Ns X.env.locals m/\∀(i:Nat) (x:Str) (v:V),X.N[i]? = some x->σ[i]? = some (some v)->iR X.env.scope x->∃u,aQ v u/\ao4 X.env s.heap m x u
 cell:∀x c,X.env.cells.lookup x=some c->∃v,s.heap.IsCell c v
 free:H X.env.locals=none
 freeC:∀x c,X.env.cells.lookup x=some c->H c=none
 pin:∀p∈X.pn++ag,s.heap.get? p.1=some p.2/\H p.1=none/\p.1≠X.env.locals/\p.1∉X.fs/\∀v,p.2.data≠.cell v
 hok:bW X.prog X.w H s.heap
 len:σ.length=X.N.length
section
variable {X:Cx}{ag:List (ay×Obj)}{σ:List (Option V)}{H H':Hp}{s:ax}{h':Heap}
theorem Cx.Ok.nofr (ok:X.Ok){b:ay}{o:Obj}(e:X.base.get? b=some o):b∉X.fs:=λhb=>by
 have:=(ok.funs.mem hb).1
 rw[e]at this;cases this
theorem a8.bs (I:a8 X ag σ H s):∀b o,X.base.get? b=some o->s.heap.get? b=some o/\H b=none:=λb o e=>
 ⟨I.base.keep b o (I.ok.bs b o e).1 (I.ok.bs b o e).2 (I.ok.nofr e) (I.ok.noex b o e),I.base.free b o (I.ok.bs b o e).1 (I.ok.bs b o e).2 (I.ok.noex b o e)⟩
theorem a8.bk (I:a8 X ag σ H s):∀b o,X.base.get? b=some o->s.heap.get? b=some o:=λb o e=>(I.bs b o e).1
theorem a8.mod (I:a8 X ag σ H s):Mod X.K X.mg X.base:=I.ok.mod
theorem a8.kIn (I:a8 X ag σ H s):X.K.In s.heap:=I.ok.mod.kin.keeps I.bk
theorem a8.fr (I:a8 X ag σ H s):∃m,Fr X.base X.env.locals s.heap m:=
 let ⟨m,hn,_⟩:=I.loc
 ⟨m,hn,I.bk,bs7 I.ok.bsz I.ok.above⟩
theorem a8.lt (I:a8 X ag σ H s):X.env.locals<s.heap.objs.size:=let ⟨_,hn,_⟩:=I.loc;hn.lt
theorem a8.sz (I:a8 X ag σ H s):X.s₀.heap.objs.size<=s.heap.objs.size:=bs7 I.ok.above (by8 I.lt)
theorem a8.nofs (I:a8 X ag σ H s){a:ay}(h:s.heap.objs.size<=a):a∉X.fs:=λhb=>by
 obtain⟨_,o,ho,_⟩:=I.ok.funs.mem hb
 exact absurd (bq4 (bp9 ho) (bs7 I.sz h)) (bu6 _)
theorem a8.cne (I:a8 X ag σ H s):∀x c,X.env.cells.lookup x=some c->c≠X.env.locals:=λx c e z=>by
 obtain⟨v,o,ho,hd⟩:=I.cell x c e
 obtain⟨m,⟨o',es,ep,ho',hd',_⟩,_⟩:=I.loc
 rw[z,ho']at ho;cases ho;rw[hd']at hd;cases hd
theorem a8.funs (I:a8 X ag σ H s):s.heap.FunFrames X.base X.outer:=by
 have all:∀(l:List Env),(∀b∈cC l,b∈X.fs)->X.s₀.heap.FunFrames X.base l->s.heap.FunFrames X.base l:=by
  intro l
  induction l with
  |nil=>intro _ _;trivial
  |cons env r ih=>
   intro hs hl
   obtain⟨hk,⟨L,o,hf,hn,ho,hd⟩,hr⟩:=hl
   have hL:L∈X.fs:=hs L (by unfold cC;rw[List.filterMap_cons,hf];exact bp5)
   obtain⟨sl,e⟩:=I.base.slot L o ho (I.ok.frf L hL) hL λz=>I.ok.exfs L z hL
   exact⟨hk,⟨L,_,hf,hn,e,hd⟩,ih (λb hb=>hs b (by unfold cC;rw[List.filterMap_cons,hf];exact bp0 _ hb)) hr⟩
 exact all X.outer (λ_ hb=>hb) I.ok.funs
theorem a8.stack (I:a8 X ag σ H s):s.heap.FunFrames X.base X.stack:=by
 rcases I.ok.stk with e|⟨e,hf⟩
 ·rw[e];exact I.funs
 ·rw[e]
  obtain⟨m,hn,_⟩:=I.loc
  refine .cons (by rw[I.ok.kind];decide) hf hn ?_ I.funs;exact Heap.get?_none_of_le (bs7 I.ok.bsz I.ok.above)
theorem a8.stkSub (I:a8 X ag σ H s):∀b∈cC X.stack,b∈X.env.locals::X.fs:=λb hb=>by
 rcases I.ok.stk with e|⟨e,hf⟩
 ·rw[e]at hb;exact bp0 _ hb
 ·rw[e]at hb
  unfold cC at hb;rw[List.filterMap_cons,hf]at hb;exact hb
theorem a8.stkFree (I:a8 X ag σ H s):∀b∈cC X.stack,H b=none:=λb hb=>by
 rcases bp1.mp (I.stkSub b hb) with e|hb
 ·rw[e];exact I.free
 ·obtain⟨_,o,ho,_⟩:=I.ok.funs.mem hb
  exact I.base.free b o ho (I.ok.frf b hb) λz=>I.ok.exfs b z hb
theorem a8.step {g':Array GenState}{t':Nat}{d':Drawn}{ch:List ay}(I:a8 X ag σ H s)(hch:∀b∈ch,(b∈X.ex∨X.s₀.heap.objs.size<=b)/\b≠X.env.locals/\(∀x c,X.env.cells.lookup x=some c->c≠b)/\∀p∈X.pn++ag,p.1≠b)(keep:∀b o,b≠X.env.locals->b∉X.fs->b∉ch->s.heap.get? b=some o->H b=none->h'.get? b=some o)(slot:∀b o,b≠X.env.locals->b∈X.fs->b∉ch->s.heap.get? b=some o->H b=none->∃sl,h'.get? b=some { o with slots:=sl })(free:∀b o,b∉ch->s.heap.get? b=some o->H b=none->H' b=none)(there:∀b o,b∉ch->s.heap.get? b=some o->∃o',h'.get? b=some o')(tups:∀b xs,H b=some (.tup xs)->H' b=some (.tup xs))(frzs:∀b o u,H b=some (.frz o u)->H' b=some (.frz o u))(tbls:∀b ps,H b=some (.tbl ps)->∃more,H' b=some (.tbl (ps++more)))(ns:∀m,s.heap.Ns X.env.locals m->h'.Ns X.env.locals m)(hok:bW X.prog X.w H' h')(hg:AllBare g') :
  a8 X ag σ H' { s with heap:=h',gens:=g',drawn:=d',toks:=t' }:=by
 have neL:∀b o,X.s₀.heap.get? b=some o->b≠X.env.locals:=λb o e=>br1 (bq4 (bp9 e) I.ok.above)
 have neC:∀b o,X.s₀.heap.get? b=some o->b∉X.ex->b∉ch:=λb o e hx hb=>by
  rcases (hch b hb).1 with z|z
  ·exact hx z
  ·exact absurd (bq4 (bp9 e) z) (bu6 _)
 have cellK:∀x c,X.env.cells.lookup x=some c->∀v,s.heap.IsCell c v->h'.IsCell c v:=λx c e v ⟨o,ho,hd⟩=>by
  have nch:c∉ch:=λz=>(hch c z).2.2.1 x c e rfl
  by_cases hc:c∈X.fs
  ·obtain⟨sl,q⟩:=slot c o (I.cne x c e) hc nch ho (I.freeC x c e)
   exact⟨_,q,hd⟩
  ·exact⟨o,keep c o (I.cne x c e) hc nch ho (I.freeC x c e),hd⟩
 refine⟨I.ok,I.os,hg,⟨λb o e n hb hx=>?_,λb o e n hb hx=>?_,λb o e n hx=>?_,λb o e hx=>?_,λb xs e=>tups b xs (I.base.tups b xs e),λb o xs e=>frzs b o xs (I.base.frzs b o xs e),λb ps e=>?_⟩,?_,λx c e=>?_,?_,λx c e=>?_,λp hp=>?_,hok,I.len⟩
 ·exact keep b o (neL b o e) hb (neC b o e hx) (I.base.keep b o e n hb hx) (I.base.free b o e n hx)
 ·obtain⟨sl,e1⟩:=I.base.slot b o e n hb hx
  obtain⟨sl',e2⟩:=slot b _ (neL b o e) hb (neC b o e hx) e1 (I.base.free b o e n hx)
  exact⟨sl',e2⟩
 ·obtain⟨o',e1⟩:=I.base.there b o e hx
  exact free b o' (neC b o e hx) e1 (I.base.free b o e n hx)
 ·obtain⟨o',e1⟩:=I.base.there b o e hx
  exact there b o' (neC b o e hx) e1
 ·obtain⟨m1,e1⟩:=I.base.tbls b ps e
  obtain⟨m2,e2⟩:=tbls b _ e1
  exact⟨m1++m2,by rw[e2,Array.append_assoc]⟩
 ·obtain⟨m,hn,hl⟩:=I.loc
  refine⟨m,ns m hn,λi x v e1 e2 e3=>?_⟩
  obtain⟨u,r,l⟩:=hl i x v e1 e2 e3
  refine⟨u,r,?_⟩;rcases l with l|⟨k,c,e,z⟩
  ·exact .inl l
  ·exact .inr ⟨k,c,e,cellK x c e _ z⟩
 ·obtain⟨v,z⟩:=I.cell x c e
  exact⟨v,cellK x c e v z⟩
 ·obtain⟨m,⟨o,_,_,ho,_⟩,_⟩:=I.loc
  exact free _ o (λz=>(hch _ z).2.1 rfl) ho I.free
 ·obtain⟨v,o,ho,hd⟩:=I.cell x c e
  exact free c o (λz=>(hch c z).2.2.1 x c e rfl) ho (I.freeC x c e)
 ·obtain⟨e,n,ne,nf,d⟩:=I.pin p hp
  have nch:p.1∉ch:=λz=>(hch p.1 z).2.2.2 p hp rfl
  exact⟨keep p.1 p.2 ne nf nch e n,free p.1 p.2 nch e n,ne,nf,d⟩
theorem a8.un {t':Nat}(I:a8 X ag σ H s)(u:Un X.fs [] H H' s.heap h')(hok:bW X.prog X.w H' h'):a8 X ag σ H' { s with heap:=h',toks:=t' }:=by
 obtain⟨m,⟨o,es,ep,ho,r⟩,_⟩:=id I.loc
 obtain⟨sl,hL⟩:=u.any ho I.free (by simp)
 exact I.step (g':=s.gens) (d':=s.drawn) (ch:=[]) (λ_ z=>nomatch z) (λb o _ hb _ e n=>u.keep b o e n hb (by simp)) (λb o _ hb _ e n=>u.slot b o e n hb (by simp)) (λb o _ e n=>u.free b o e n (by simp)) (λb o _ e=>u.there b o e (by simp)) u.tups u.frzs u.tbls (λm' hm=>by
  obtain⟨o',es',ep',ho',r'⟩:=hm
  rw[ho]at ho';cases ho'
  exact⟨_,es',ep',hL,r'⟩) hok I.bare
theorem a8.call {g':Array GenState}{t':Nat}{d':Drawn}{ch:List ay}(I:a8 X ag σ H s)(u:Un (cC X.stack) ch H H' s.heap h')(hok:bW X.prog X.w H' h')(hg:AllBare g')(hch:∀b∈ch,(b∈X.ex∨X.s₀.heap.objs.size<=b)/\b≠X.env.locals/\(∀x c,X.env.cells.lookup x=some c->c≠b)/\∀p∈X.pn++ag,p.1≠b) :
  a8 X ag σ H' { s with heap:=h',gens:=g',drawn:=d',toks:=t' }:=by
 obtain⟨m,⟨o,es,ep,ho,r⟩,_⟩:=id I.loc
 obtain⟨sl,hL⟩:=u.any ho I.free λz=>(hch _ z).2.1 rfl
 exact I.step (ch:=ch) hch (λb o hL hb hc e n=>u.keep b o e n (λz=>(bp1.mp (I.stkSub b z)).elim hL hb) hc) (λb o _ _ hc e n=>u.any e n hc) (λb o hc e n=>u.free b o e n hc) (λb o hc e=>u.there b o e hc) u.tups u.frzs u.tbls (λm' hm=>by
  obtain⟨o',es',ep',ho',r'⟩:=hm
  rw[ho]at ho';cases ho'
  exact⟨_,es',ep',hL,r'⟩) hok hg
theorem a8.turned {t':Nat}{it:ay}(I:a8 X ag σ H s)(k:∀b o,b≠it->s.heap.get? b=some o->h'.get? b=some o)(hn:H it=none)(hL:it≠X.env.locals)(h1:it∈X.ex∨X.s₀.heap.objs.size<=it)(h2:∀x c,X.env.cells.lookup x=some c->c≠it)(h3:∀p∈X.pn++ag,p.1≠it):a8 X ag σ H { s with heap:=h',toks:=t' }:=by
 have nit:∀b u,H b=some u->b≠it:=λb u e z=>by rw[z,hn]at e;cases e
 refine I.step (g':=s.gens) (d':=s.drawn) (ch:=[it]) (λb hb=>?_) (λb o _ _ hc e _=>k b o (λz=>hc (by simp[z])) e) (λb o _ _ hc e _=>⟨o.slots,k b o (λz=>hc (by simp[z])) e⟩) (λ_ _ _ _ n=>n)
  (λb o hc e=>⟨o,k b o (λz=>hc (by simp[z])) e⟩) (λ_ _ e=>e) (λ_ _ _ e=>e) (λb ps e=>⟨#[],by rw[e];simp⟩) (λm hm=>?_) (λb u e=>?_) I.bare
 ·have e:b=it:=by simpa using hb
  subst e
  exact⟨h1,hL,h2,h3⟩
 ·obtain⟨o,es,ep,ho,r⟩:=hm
  exact⟨o,es,ep,k _ o (Ne.symm hL) ho,r⟩
 ·refine (I.hok b u e).stay (λc v hc q=>k c v ?_ q) (λ_ q=>q) λ_ _ q=>q
  rcases hc with z|z
  ·rw[z];exact nit b u e
  ·exact nit c _ z
theorem a8.tok (I:a8 X ag σ H s)(t:Nat):a8 X ag σ H { s with toks:=t }:=I.un (h':=s.heap) (t':=t) Un.refl I.hok
theorem a8.kept {t':Nat}(I:a8 X ag σ H s)(k:∀b u,s.heap.get? b=some u->h'.get? b=some u):a8 X ag σ H { s with heap:=h',toks:=t' }:=I.un (Un.kept k) (I.hok.kept k)
theorem a8.laid {a:ay}{o:HO}{t':Nat}(I:a8 X ag σ H s)(k:∀b u,s.heap.get? b=some u->h'.get? b=some u)(hp:s.heap.objs.size<=a)(new:bN X.prog X.w (upd H a o) h' a o) :
  a8 X ag σ (upd H a o) { s with heap:=h',toks:=t' }:=I.un (Un.laid k hp (I.hok.fresh hp)) (I.hok.laid k hp new)
theorem a8.write {x e:ay}{o:HO}{t':Nat}(I:a8 X ag σ H s)(mu:o5 (H x))(he:e=x∨H e=some (.own x))(k:∀b u,b≠e->s.heap.get? b=some u->h'.get? b=some u)(heo:∃u,h'.get? e=some u)(new:bN X.prog X.w (upd H x o) h' x o):a8 X ag σ (upd H x o) { s with heap:=h',toks:=t' }:=I.un (Un.write mu he k heo) (I.hok.write mu he k heo new)
theorem a8.weak {σ':List (Option V)}(I:a8 X ag σ H s)(hl:σ'.length=σ.length)(w:∀(i:Nat) v,σ'[i]? = some (some v)->σ[i]? = some (some v)):a8 X ag σ' H s:=
 ⟨I.ok,I.os,I.bare,I.base,let ⟨m,hn,hl'⟩:=I.loc;⟨m,hn,λi x v e1 e2 e3=>hl' i x v e1 (w i v e2) e3⟩,I.cell,I.free,I.freeC,I.pin,I.hok,hl.trans I.len⟩
theorem a8.pins_of {pins':List (ay×Obj)}(I:a8 X ag σ H s)(h:∀p∈pins',s.heap.get? p.1=some p.2/\H p.1=none/\p.1≠X.env.locals/\p.1∉X.fs/\∀v,p.2.data≠.cell v):a8 X pins' σ H s:=
 ⟨I.ok,I.os,I.bare,I.base,I.loc,I.cell,I.free,I.freeC,λp hp=>(bs0.mp hp).elim (λz=>I.pin p (bt4 _ z)) (h p),I.hok,I.len⟩
theorem zI {N:List Str}(hN:N.Nodup){i j:Nat}{x:Str}(a:N[i]? = some x)(b:N[j]? = some x):i=j:=by
 obtain⟨h1,e1⟩:=bq1.mp a
 obtain⟨h2,e2⟩:=bq1.mp b
 exact (List.getElem_inj hN).mp (e1.trans e2.symm)
theorem zJ {M:Model}{A:ba}{E:av->ax->Prop}{i:Nat}{x:Str}{v:V}{u:av}{Q:Unit->ax->Prop}(I:a8 X ag σ H s)(hN:X.N.Nodup)(hi:X.N[i]? = some x)(hx:i8 X.env.scope x)(r:aQ v u)(h:∀s',a8 X ag (σ.set i (some v)) H s'->(∃a,Heap.SameBut a s.heap s'.heap/\(a=X.env.locals∨X.env.cells.lookup x=some a))->Q () s')(hf:X.fn x=true∨X.env.scope.names.lookup x=some .local:=by first|exact .inl rfl|exact .inr rfl|assumption):wpAny M A (storeName X.env x u) Q E s:=by
 obtain⟨m,hn,hl⟩:=id I.loc
 have hcls:(X.env.scope.kind==.class||(X.env.scope.kind==.module&&X.env.locals != X.env.globals))=false:=by rw[I.ok.kind];rfl
 have hiσ:i<σ.length:=by rw[I.len];exact (bq1.mp hi).1
 have cne:=I.cne;have tracked:∀{a:ay}{h':Heap},(∃o,s.heap.get? a=some o/\H a=none)->Heap.SameBut a s.heap h'->bW X.prog X.w H h':=λ{a h'} ha hs b ob e=>by
  obtain⟨_,_,hfree⟩:=ha
  refine (I.hok b ob e).stay (λc w' hc q=>(hs.2 c ?_).trans q) (λ_ q=>q) λ_ _ q=>q
  rintro rfl;rcases hc with rfl|hc
  ·rw[hfree]at e;cases e
  ·rw[hfree]at hc;cases hc
 rcases hx with hk|hk
 ·refine wpAny_storeName_local hk hn (λh' hn' hs=>?_) hcls
  obtain⟨oL,_,_,hoL,_⟩:=id hn
  refine h _ ⟨I.ok,I.os,I.bare,⟨λb o e n hb hx=>?_,λb o e n hb hx=>?_,I.base.free,λb o e hx=>?_,I.base.tups,I.base.frzs,I.base.tbls⟩,⟨_,hn',λj y v' e1 e2 e3=>?_⟩,λy c e=>?_,I.free,I.freeC,λp hp=>?_,tracked ⟨oL,hoL,I.free⟩ hs,by simpa using I.len⟩ ⟨_,hs,.inl rfl⟩
  ·exact (hs.2 b (br1 (bq4 (bp9 e) I.ok.above))).trans (I.base.keep b o e n hb hx)
  ·obtain⟨sl,e1⟩:=I.base.slot b o e n hb hx
   exact⟨sl,(hs.2 b (br1 (bq4 (bp9 e) I.ok.above))).trans e1⟩
  ·obtain⟨o',e1⟩:=I.base.there b o e hx
   exact⟨o',(hs.2 b (br1 (bq4 (bp9 e) I.ok.above))).trans e1⟩
  ·by_cases hj:j=i
   ·subst hj
    rw[hi]at e1;cases e1;rw[bA7 hiσ]at e2;cases e2
    exact⟨u,r,.inl ⟨hk,by simp⟩⟩
   ·rw[br9 (Ne.symm hj)]at e2
    obtain⟨u',r',q⟩:=hl j y v' e1 e2 e3
    refine⟨u',r',?_⟩;rcases q with⟨k,e⟩|⟨k,c,e,z⟩
    ·refine .inl ⟨k,?_⟩
     have:y≠x:=λe=>hj (zI hN e1 (e▸hi))
     simp[this,e]
    ·exact .inr ⟨k,c,e,z.sameBut hs (cne y c e)⟩
  ·obtain⟨w',z⟩:=I.cell y c e
   exact⟨w',z.sameBut hs (cne y c e)⟩
  ·obtain⟨e,n,ne,nf,d⟩:=I.pin p hp
   exact⟨(hs.2 p.1 ne).trans e,n,ne,nf,d⟩
 ·have hfn:X.fn x=true:=by
   rcases hf with z|z
   ·exact z
   ·rw[z]at hk;cases hk
  obtain⟨c,hc⟩:=I.ok.has x (.inl hk)
  obtain⟨w',z⟩:=I.cell x c hc
  refine wpAny_storeName_cell I.ok.kind hk hc z (λh' hc' hs=>?_)
  obtain⟨oc,hoc,hocd⟩:=id z
  refine h { s with heap:=h' } ⟨I.ok,I.os,I.bare,⟨λb o e n hb hx=>?_,λb o e n hb hx=>?_,I.base.free,λb o e hx=>?_,I.base.tups,I.base.frzs,I.base.tbls⟩,⟨m,hn.sameBut hs (Ne.symm (cne x c hc)),λj y v' e1 e2 e3=>?_⟩,λy c' e=>?_,I.free,I.freeC,λp hp=>?_,tracked ⟨oc,hoc,I.freeC x c hc⟩ hs,by simpa using I.len⟩ ⟨c,hs,.inr hc⟩
  ·exact (hs.2 b (br1 (bq4 (bp9 e) (I.ok.cab x c hfn hc)))).trans (I.base.keep b o e n hb hx)
  ·obtain⟨sl,e1⟩:=I.base.slot b o e n hb hx
   exact⟨sl,(hs.2 b (br1 (bq4 (bp9 e) (I.ok.cab x c hfn hc)))).trans e1⟩
  ·obtain⟨o',e1⟩:=I.base.there b o e hx
   exact⟨o',(hs.2 b (br1 (bq4 (bp9 e) (I.ok.cab x c hfn hc)))).trans e1⟩
  ·by_cases hj:j=i
   ·subst hj
    rw[hi]at e1;cases e1;rw[bA7 hiσ]at e2;cases e2
    exact⟨u,r,.inr ⟨.inl hk,c,hc,hc'⟩⟩
   ·rw[br9 (Ne.symm hj)]at e2
    obtain⟨u',r',q⟩:=hl j y v' e1 e2 e3
    refine⟨u',r',?_⟩;rcases q with q|⟨k,c',e,z'⟩
    ·exact .inl q
    ·refine .inr ⟨k,c',e,z'.sameBut hs ?_⟩
     rintro rfl;exact hj (zI hN e1 (I.ok.inj _ _ _ e hc▸hi))
  ·by_cases hcc:c'=c
   ·subst hcc;exact⟨_,hc'⟩
   ·obtain⟨w2,z2⟩:=I.cell y c' e
    exact⟨w2,z2.sameBut hs hcc⟩
  ·obtain⟨e,n,ne,nf,d⟩:=I.pin p hp
   refine⟨(hs.2 p.1 ?_).trans e,n,ne,nf,d⟩;intro q;rw[q,hoc]at e;have q':oc=p.2:=br7 e;exact d w' (by rw[<- q'];exact hocd)
theorem zK {M:Model}{A:ba}{E:av->ax->Prop}{i:Nat}{x:Str}{v:V}{u:av}{Q:Unit->ax->Prop}(I:a8 X ag σ H s)(hN:X.N.Nodup)(hi:X.N[i]? = some x)(hx:i8 X.env.scope x)(r:aQ v u)(h:∀s',a8 X ag (σ.set i (some v)) H s'->Q () s')(hf:X.fn x=true∨X.env.scope.names.lookup x=some .local:=by first|exact .inl rfl|exact .inr rfl|assumption):wpAny M A (storeName X.env x u) Q E s:=
 zJ I hN hi hx r (λs' I' _=>h s' I') hf
theorem a8.call' {s':ax}{ch:List ay}(I:a8 X ag σ H s)(ho:s'.os=s.os)(u:Un (cC X.stack) ch H H' s.heap s'.heap)(hok:bW X.prog X.w H' s'.heap)(hg:AllBare s'.gens)(hch:∀b∈ch,(b∈X.ex∨X.s₀.heap.objs.size<=b)/\b≠X.env.locals/\(∀x c,X.env.cells.lookup x=some c->c≠b)/\∀p∈X.pn++ag,p.1≠b):a8 X ag σ H' s':=by
 obtain⟨h',g',d',t',o'⟩:=s'
 have e:o'=s.os:=ho;subst e;exact I.call (g':=g') (t':=t') (d':=d') u hok hg hch
end
noncomputable abbrev XK:=av->Option ay->Hp->Prop
noncomputable abbrev St:=List (Option V)
noncomputable abbrev VK:=V->Hp->Prop
noncomputable abbrev TE:=St->Hp->VK->Prop
noncomputable abbrev TT:=St->Hp->(Bool->Hp->Prop)->Prop
noncomputable abbrev TA:=St->Hp->(List V->Hp->Prop)->Prop
structure dW where
 nx:St->Hp->Prop
 rt:VK
 bk:St->Hp->Prop:=λ_ _=>False
 ct:St->Hp->Prop:=λ_ _=>False
noncomputable abbrev TS:=dW->St->Hp->Prop
noncomputable def EP (X:Cx)(ag:List (ay×Obj))(σ:St)(Q:VK)(u:av)(s':ax):Prop:=∃v H',a8 X ag σ H' s'/\aQ v u/\Q v H'
noncomputable def TP (X:Cx)(ag:List (ay×Obj))(σ:St)(Q:Bool->Hp->Prop)(b:Bool)(s':ax):Prop:=∃H',a8 X ag σ H' s'/\Q b H'
noncomputable def AP (X:Cx)(ag:List (ay×Obj))(σ:St)(Q:List V->Hp->Prop)(us:List av)(s':ax):Prop:=∃vs H',a8 X ag σ H' s'/\aL vs us/\Q vs H'
noncomputable def SP (X:Cx)(ag:List (ay×Obj))(D:dW)(f:Flow)(s':ax):Prop:=
 match f with
 |.next=>∃σ' H',a8 X ag σ' H' s'/\D.nx σ' H'
 |.brk=>∃σ' H',a8 X ag σ' H' s'/\D.bk σ' H'
 |.cont=>∃σ' H',a8 X ag σ' H' s'/\D.ct σ' H'
 |.ret u=>∃v σ' H',a8 X ag σ' H' s'/\aQ v u/\D.rt v H'
noncomputable def PE (X:Cx)(e:Expr)(t:TE):Prop:=
 ∀(ag:List (ay×Obj)) (s:ax) (σ:St) (H:Hp) (Q:VK),a8 X ag σ H s->t σ H Q->wpAny (model X.prog X.w) X.A (eval e X.env) (EP X ag σ Q) X.xe s
noncomputable def PT (X:Cx)(e:Expr)(t:TT):Prop:=
 ∀(ag:List (ay×Obj)) (s:ax) (σ:St) (H:Hp) (Q:Bool->Hp->Prop),a8 X ag σ H s->t σ H Q->wpAny (model X.prog X.w) X.A (isTrue e X.env (eval e X.env)) (TP X ag σ Q) X.xe s
noncomputable def PW (X:Cx)(e:Expr)(t:TT):Prop:=
 ∀(whole:Sem av) (ag:List (ay×Obj)) (s:ax) (σ:St) (H:Hp) (Q:Bool->Hp->Prop),a8 X ag σ H s->t σ H Q->wpAny (model X.prog X.w) X.A (isTrue e X.env whole) (TP X ag σ Q) X.xe s
theorem PW.pt {X:Cx}{e:Expr}{t:TT}(h:PW X e t):PT X e t:=h _
noncomputable def PA (X:Cx)(es:List Expr)(t:TA):Prop:=
 ∀(pos:Pos) (ag:List (ay×Obj)) (s:ax) (σ:St) (H:Hp) (Q:List V->Hp->Prop),a8 X ag σ H s->t σ H Q->wpAny (model X.prog X.w) X.A (spliced (backTo pos (starEach es X.env))) (AP X ag σ Q) X.xe s
noncomputable def PS (X:Cx)(st:Stmt)(t:TS):Prop:=
 ∀(ag:List (ay×Obj)) (s:ax) (σ:St) (H:Hp) (D:dW),a8 X ag σ H s->t D σ H->wpAny (model X.prog X.w) X.A (exec st X.env) (SP X ag D) X.xe s
noncomputable def eI (X:Cx)(st:List Stmt)(t:TS):Prop:=
 ∀(ag:List (ay×Obj)) (s:ax) (σ:St) (H:Hp) (D:dW),a8 X ag σ H s->t D σ H->wpAny (model X.prog X.w) X.A (execs st X.env) (SP X ag D) X.xe s
theorem aO {α:Type}{t:Sem α}{Q Q':α->ax->Prop}{M:Model}{A:ba}{E:av->ax->Prop}{s:ax}(h:wpAny M A t Q E s)(hQ:∀a s,Q a s->Q' a s):wpAny M A t Q' E s:=bx4 h hQ λ_ _ x=>x
section
variable {X:Cx}
theorem bin {a b:Expr}{ta tb:TE}(ha:PE X a ta)(hb:PE X b tb){ag:List (ay×Obj)}{s:ax}{σ:St}{H:Hp}{R:V->V->Hp->Prop}(I:a8 X ag σ H s)(h:ta σ H λx H1=>tb σ H1 λy H2=>R x y H2){α:Type}{Q:α->ax->Prop}{f:av->av->Sem α}(hf:∀v u s2 x y H2,a8 X ag σ H2 s2->aQ x v->aQ y u->R x y H2->wpAny (model X.prog X.w) X.A (f v u) Q X.xe s2) :
  wpAny (model X.prog X.w) X.A (eval a X.env) (λv s₁=>wpAny (model X.prog X.w) X.A (eval b X.env) (λu s₂=>wpAny (model X.prog X.w) X.A (f v u) Q X.xe s₂) X.xe s₁) X.xe s:=by
 refine aO (ha ag s σ H _ I h) λv s1 ⟨x,H1,I1,r1,q1⟩=>?_
 refine aO (hb ag s1 σ H1 _ I1 q1) λu s2 ⟨y,H2,I2,r2,q2⟩=>?_
 exact hf v u s2 x y H2 I2 r1 r2 q2
noncomputable def kI (i:Nat):TE:=λσ H Q=>∃v,σ[i]? = some (some v)/\Q v H
noncomputable def tC (v:V):TE:=λ_ H Q=>Q v H
theorem lD {i:Nat}{x:Str}{pos:Pos}(hN:X.N[i]? = some x)(hv:iR X.env.scope x)(hd:(x==("__debug__":Str))=false:=by decide)(hcd:(x==("__classdict__":Str))=false:=by decide):PE X (.Name x pos) (kI i):=by
 intro ag s σ H Q I h
 obtain⟨v,e,h⟩:=h
 obtain⟨m,hn,hl⟩:=I.loc
 obtain⟨u,r,l⟩:=hl i x v hN e hv
 have fin:EP X ag σ Q u s:=⟨v,H,I,r,h⟩;rcases l with⟨hk,hm⟩|⟨hk,c,hc,hcell⟩
 ·exact wpAny_Name (wpAny_loadName_local I.ok.kind hk hn hm fin) hd
 ·rcases hk with hk|hk
  ·exact wpAny_Name (wpAny_loadName_cell I.ok.kind hk hc hcell fin) hd
  ·exact wpAny_Name (wpAny_loadName_free I.ok.kind hk hc hcell fin hcd) hd
theorem ao5 {i j pos}:PE X (.Constant (.int i) j pos) (tC (.int i)):=λ_ _ _ H _ I h=>wpAny_Constant_int ⟨.int i,H,I.tok _,⟨_,rfl⟩,h⟩
theorem ao6 {b j pos}:PE X (.Constant (.bool b) j pos) (tC (.bl b)):=λ_ _ _ H _ I h=>Constant_bool ⟨.bl b,H,I,rfl,h⟩
theorem ao7 {j pos}:PE X (.Constant .none j pos) (tC .non):=λ_ _ _ H _ I h=>Constant_none ⟨.non,H,I,rfl,h⟩
theorem ao8 {x j pos}:PE X (.Constant (.str x) j pos) (tC (.str x)):=λ_ _ _ H _ I h=>Calls.Constant_str ⟨.str x,H,I.tok _,⟨_,rfl⟩,h⟩
noncomputable def Gl (X:Cx)(x:Str):Prop:=X.env.kindOf x=some .globalImplicit
theorem uI {E:av->ax->Prop}{ag:List (ay×Obj)}{s:ax}{σ:St}{H:Hp}{x:Str}{u:av}{pos:Pos}{Q:av->ax->Prop}(I:a8 X ag σ H s)(hg:Gl X x)(hm:X.mg x=some u)(h:Q u s)(hd:(x==("__debug__":Str))=false:=by decide):wpAny (model X.prog X.w) X.A (eval (.Name x pos) X.env) Q E s:=
 Calls.Name_function_global I.ok.kind hg (Calls.loadGlobal_global (by rw[I.ok.glob];exact I.mod.glob.keeps I.bk) hm h) hd
theorem lE {E:av->ax->Prop}{ag:List (ay×Obj)}{s:ax}{σ:St}{H:Hp}{x:Str}{u:av}{pos:Pos}{Q:av->ax->Prop}(I:a8 X ag σ H s)(hg:Gl X x)(hm:X.mg x=none)(hv:bootBuiltins x=some u)(h:Q u s)(hn:x≠"__name__":=by decide)(hd:(x==("__debug__":Str))=false:=by decide):wpAny (model X.prog X.w) X.A (eval (.Name x pos) X.env) Q E s:=by
 obtain⟨mb,h1,h2⟩:=I.mod.blt
 exact Calls.Name_function_global I.ok.kind hg (Calls.loadGlobal_builtin (by rw[I.ok.glob];exact I.mod.glob.keeps I.bk) hm (by rw[I.ok.blt];exact h1.keeps I.bk) ((h2 x hn).trans hv) h) hd
theorem ao9 {x:Str}{v:V}{u:av}{pos:Pos}(hg:Gl X x)(hm:X.mg x=some u)(r:aQ v u)(hd:(x==("__debug__":Str))=false:=by decide):PE X (.Name x pos) (tC v):=
 λ_ _ _ H _ I h=>uI I hg hm ⟨v,H,I,r,h⟩ hd
theorem ap0 {x:Str}{v:V}{u:av}{pos:Pos}(hg:Gl X x)(hm:X.mg x=none)(hv:bootBuiltins x=some u)(r:aQ v u)(hn:x≠"__name__":=by decide)(hd:(x==("__debug__":Str))=false:=by decide):PE X (.Name x pos) (tC v):=
 λ_ _ _ H _ I h=>lE I hg hm hv ⟨v,H,I,r,h⟩ hn hd
variable {a b:Expr}{ta tb:TE}{pos:Pos}
noncomputable def PC (X:Cx)(op:CmpOp)(a b:Expr)(t:TE):Prop:=
 ∀(ag:List (ay×Obj)) (s:ax) (σ:St) (H:Hp) (Q:VK),a8 X ag σ H s->t σ H Q->
  wpAny (model X.prog X.w) X.A (eval a X.env) (λv s₁=>wpAny (model X.prog X.w) X.A (eval b X.env) (λu s₂=>wpAny (model X.prog X.w) X.A (compareOp op v u) (EP X ag σ Q) X.xe s₂) X.xe s₁) X.xe s
noncomputable def tB (t:TE):TT:=λσ H Q=>t σ H λx H1=>∃c,x = .bl c/\Q c H1
theorem ap1 {op:CmpOp}{t:TE}(h:PC X op a b t)(h1:behindInMarks op b=false:=by first|exact nobehind _ (by decide) (by decide)|rfl):PT X (.Compare a [op] [b] pos) (tB t):=by
 intro ag s σ H Q I hw;refine wpAny_isTrue_Compare1 (aO (h ag s σ H _ I hw) λv s1 h1=>aO h1 λu s2 h2=>aO h2 λc s3 ⟨x,H1,I1,r1,q1⟩=>?_) h1
 obtain⟨d,rfl,q⟩:=q1
 cases r1;exact bB7 ⟨H1,I1,q⟩
theorem ap2 {e:Expr}{t:TE}(h:PE X e t)(he:∀whole,isTrue e X.env whole=(do let v <- whole;standAt e.pos;holding [v] (truthy v)):=by intro _;rfl):PT X e (tB t):=by
 intro ag s σ H Q I hw;refine isTrue_plain (aO (h ag s σ H _ I hw) λv s1 ⟨x,H1,I1,r1,q1⟩=>?_) (he _)
 obtain⟨d,rfl,q⟩:=q1
 cases r1;exact bB7 ⟨H1,I1,q⟩
variable {tA tB':TT}{b9:List Expr}
noncomputable def zL (t u:TT):TT:=λσ H Q=>t σ H λc H1=>if c=true then u σ H1 Q else Q false H1
noncomputable def zM (t u:TT):TT:=λσ H Q=>t σ H λc H1=>if c=true then Q true H1 else u σ H1 Q
noncomputable def zN (t:TT):TT:=λσ H Q=>t σ H λc H1=>Q (!c) H1
theorem ap3 (ha:PT X a tA):PW X (.BoolOp .And [a] pos) tA:=by
 intro wh ag s σ H Q I h;refine isTrue_and (aO (ha ag s σ H Q I h) λc s1 e=>?_);cases c with
 |true=>exact isTrue_and_nil e
 |false=>exact e
theorem ap4 (ha:PT X a tA):PW X (.BoolOp .Or [a] pos) tA:=by
 intro wh ag s σ H Q I h;refine isTrue_or (aO (ha ag s σ H Q I h) λc s1 e=>?_);cases c with
 |false=>exact isTrue_or_nil e
 |true=>exact e
theorem ap5 (ha:PT X a tA)(hb:PW X (.BoolOp .And (b::b9) pos) tB'):PW X (.BoolOp .And (a::b::b9) pos) (zL tA tB'):=by
 intro wh ag s σ H Q I h;refine isTrue_and (aO (ha ag s σ H _ I h) λc s1 ⟨H1,I1,q1⟩=>?_);cases c with
 |true=>exact hb wh ag s1 σ H1 Q I1 q1
 |false=>exact⟨H1,I1,q1⟩
theorem ap6 (ha:PT X a tA)(hb:PW X (.BoolOp .Or (b::b9) pos) tB'):PW X (.BoolOp .Or (a::b::b9) pos) (zM tA tB'):=by
 intro wh ag s σ H Q I h;refine isTrue_or (aO (ha ag s σ H _ I h) λc s1 ⟨H1,I1,q1⟩=>?_);cases c with
 |true=>exact⟨H1,I1,q1⟩
 |false=>exact hb wh ag s1 σ H1 Q I1 q1
theorem ap7 (ha:PT X a tA):PT X (.UnaryOp .Not a pos) (zN tA):=by
 intro ag s σ H Q I h;exact isTrue_not (ha ag s σ H (λc H1=>Q (!c) H1) I h)
noncomputable def zO (ta tb:TE):TE:=λσ H Q=>ta σ H λx H1=>∃c,x = .bl c/\if c=true then tb σ H1 Q else Q (.bl false) H1
noncomputable def zP (ta:TE):TE:=λσ H Q=>ta σ H λx H1=>∃c,x = .bl c/\Q (.bl (!c)) H1
theorem ap8 {op}{t:TE}(h:PE X a t):PE X (.BoolOp op [a] pos) t:=λag s σ H Q I hw=>BoolOp_one (h ag s σ H Q I hw)
theorem ap9 (ha:PE X a ta)(hb:PE X (.BoolOp .And (b::b9) pos) tb):PE X (.BoolOp .And (a::b::b9) pos) (zO ta tb):=by
 intro ag s σ H Q I h;refine BoolOp_and (aO (ha ag s σ H _ I h) λv s1 ⟨x,H1,I1,r1,q1⟩=>?_)
 obtain⟨c,rfl,q1⟩:=q1
 cases r1;refine bB7 ?_;cases c with
 |true=>exact hb ag s1 σ H1 Q I1 q1
 |false=>exact⟨.bl false,H1,I1,rfl,q1⟩
theorem aq0 (ha:PE X a ta):PE X (.UnaryOp .Not a pos) (zP ta):=by
 intro ag s σ H Q I h;refine UnaryOp_ (aO (ha ag s σ H _ I h) λv s1 ⟨x,H1,I1,r1,q1⟩=>?_)
 obtain⟨c,rfl,q1⟩:=q1
 cases r1;exact not_of (bB7 ⟨.bl (!c),H1,I1,rfl,q1⟩)
end
noncomputable def aM (K:ac)(H:Hp)(a:ay)(xs:List V):Prop:=
 Rd H a (.lst xs) ∨
  ∃(o:Obj) (its:Array av) (n:Nat),K.lookup a=some o/\o.cls = .type "list"/\o.dict=none/\o.data = .seq its n/\its.size<=sizeLine/\aL xs its.toList
noncomputable def aJ (K:ac)(H:Hp)(a:ay)(xs:List V):Prop:=
 Rd H a (.tup xs) ∨
  ∃(o:Obj) (its:Array av) (n:Nat),K.lookup a=some o/\o.cls = .type "tuple"/\o.data = .seq its n/\its.size<=sizeLine/\aL xs its.toList
noncomputable def aq1:av->Option V
 |.none=>some .non
 |.bool b=>some (.bl b)
 |.int i _=>some (.int i)
 |.str x _=>some (.str x)
 |.bytes b _=>some (.byt b)
 |.float b _=>some (.flt b)
 |.ref a=>some (.ref a)
 |.type n=>some (.ty n)
 |_=>none
theorem aQ.abs {x:V}{u:av}(r:aQ x u):aq1 u=some x:=by
 cases x with
 |non=>cases r;rfl
 |bl _=>cases r;rfl
 |int _=>obtain⟨t,rfl⟩:=r;rfl
 |str _=>obtain⟨t,rfl⟩:=r;rfl
 |byt _=>obtain⟨t,rfl⟩:=r;rfl
 |flt _=>obtain⟨t,rfl⟩:=r;rfl
 |ref _=>cases r;rfl
 |ty _=>cases r;rfl
theorem aQ.inj {x y:V}{u:av}(r:aQ x u)(q:aQ y u):x=y:=br7 (r.abs.symm.trans q.abs)
theorem aL.inj:∀{xs ys:List V}{us:List av},aL xs us->aL ys us->xs=ys
 |_,_,_,.nil,.nil=>rfl
 |_,_,_,.cons r t,.cons r' t'=>by rw[r.inj r',aL.inj t t']
section
variable {X:Cx}{ag:List (ay×Obj)}{σ:St}{H:Hp}{s:ax}{a:ay}{xs ys:List V}
theorem aM.of {K:ac}(h:H a=some (.lst xs)):aM K H a xs:=.inl (.inl h)
theorem aJ.of {K:ac}(h:H a=some (.tup xs)):aJ K H a xs:=.inl (.inl h)
theorem a8.list (I:a8 X ag σ H s)(h:aM X.K H a xs):∃its:List av,aL xs its/\PlainL s.heap a its.toArray/\xs.length<=sizeLine:=by
 rcases h with h|⟨o,its,n,hk,hc,hd,hs,hz,r⟩
 ·obtain⟨z,its,n,r,e⟩:=h.ok I.hok
  exact⟨its,r,⟨_,n,e,rfl,rfl,rfl⟩,z⟩
 ·refine⟨its.toList,r,⟨o,n,I.kIn a o hk,hc,hd,by simpa using hs⟩,?_⟩
  have e:=r.length;simp only[bq5]at e;omega
theorem a8.tuple (I:a8 X ag σ H s)(h:aJ X.K H a xs):∃its:List av,aL xs its/\IsTup s.heap a its.toArray/\xs.length<=sizeLine:=by
 rcases h with h|⟨o,its,n,hk,hc,hs,hz,r⟩
 ·obtain⟨z,its,r,p,_⟩:=h.ok I.hok
  exact⟨its,r,p,z⟩
 ·refine⟨its.toList,r,⟨o,I.kIn a o hk,hc,n,by simpa using hs⟩,?_⟩
  have e:=r.length;simp only[bq5]at e;omega
theorem a8.list_inj (I:a8 X ag σ H s)(h:aM X.K H a xs)(h':aM X.K H a ys):xs=ys:=by
 obtain⟨its,r,⟨o,n,e,_,_,d⟩,_⟩:=I.list h
 obtain⟨its',r',⟨o',n',e',_,_,d'⟩,_⟩:=I.list h'
 rw[e]at e';cases e';rw[d]at d';injection d' with d1 _
 have:its=its':=by simpa using congrArg Array.toList d1
 subst this;exact r.inj r'
theorem a8.tuple_inj (I:a8 X ag σ H s)(h:aJ X.K H a xs)(h':aJ X.K H a ys):xs=ys:=by
 obtain⟨its,r,⟨o,e,_,n,d⟩,_⟩:=I.tuple h
 obtain⟨its',r',⟨o',e',_,n',d'⟩,_⟩:=I.tuple h'
 rw[e]at e';cases e';rw[d]at d';injection d' with d1 _
 have:its=its':=by simpa using congrArg Array.toList d1
 subst this;exact r.inj r'
end
noncomputable abbrev Cx.wish (X:Cx)(E:av->ax->Prop):Cx:={ X with xe:=E }
noncomputable abbrev Cx.nox (X:Cx):Cx:=X.wish λ_ _=>False
theorem Cx.Ok.wish {X:Cx}(ok:X.Ok)(E:av->ax->Prop):(X.wish E).Ok:=
 ⟨ok.mod,ok.kind,ok.glob,ok.blt,ok.above,ok.inj,ok.has,ok.cab,ok.hd,ok.frames,ok.stk,ok.exf,ok.bs,ok.bsz,ok.noex,ok.exfs,ok.funs,ok.frf⟩
theorem Cx.Ok.unwish {X:Cx}{E:av->ax->Prop}(ok:(X.wish E).Ok):X.Ok:=
 ⟨ok.mod,ok.kind,ok.glob,ok.blt,ok.above,ok.inj,ok.has,ok.cab,ok.hd,ok.frames,ok.stk,ok.exf,ok.bs,ok.bsz,ok.noex,ok.exfs,ok.funs,ok.frf⟩
section
variable {X:Cx}{ag:List (ay×Obj)}{σ:St}{H:Hp}{s:ax}{E:av→ax→Prop}
theorem a8.wish (I:a8 X ag σ H s)(E:av->ax->Prop):a8 (X.wish E) ag σ H s:=⟨I.ok.wish E,I.os,I.bare,I.base,I.loc,I.cell,I.free,I.freeC,I.pin,I.hok,I.len⟩
theorem a8.unwish (I:a8 (X.wish E) ag σ H s):a8 X ag σ H s:=⟨I.ok.unwish,I.os,I.bare,I.base,I.loc,I.cell,I.free,I.freeC,I.pin,I.hok,I.len⟩
theorem SP.unwish {D:dW}{f:Flow}{s':ax}(h:SP (X.wish E) ag D f s'):SP X ag D f s':=by
 cases f with
 |next=>obtain⟨σ',H',I,q⟩:=h;exact⟨σ',H',I.unwish,q⟩
 |brk=>obtain⟨σ',H',I,q⟩:=h;exact⟨σ',H',I.unwish,q⟩
 |cont=>obtain⟨σ',H',I,q⟩:=h;exact⟨σ',H',I.unwish,q⟩
 |ret u=>obtain⟨v,σ',H',I,r,q⟩:=h;exact⟨v,σ',H',I.unwish,r,q⟩
theorem eI.nox {st:List Stmt}{t:TS}(h:eI X.nox st t):eI X st t:=λag s σ H D I hw=>
 bx4 (h ag s σ H D (I.wish _) hw) (λ_ _ q=>q.unwish) λ_ _ z=>False.elim z
end
section
variable {X:Cx}{st:Stmt}{b9:List Stmt}{t u:TS}{e:Expr}{te:TE}{pos:Pos}
noncomputable def zQ:TS:=λD σ H=>D.nx σ H
noncomputable def zR (t u:TS):TS:=λD σ H=>t { D with nx:=u D } σ H
theorem aq2:eI X [] zQ:=λ_ _ σ H _ I h=>wpAny_execs_nil ⟨σ,H,I,h⟩
theorem aq3 (h1:PS X st t)(h2:eI X b9 u):eI X (st::b9) (zR t u):=by
 intro ag s σ H D I h;refine wpAny_execs_cons (aO (h1 ag s σ H { D with nx:=u D } I h) λf s1 q=>?_);cases f with
 |next=>
  obtain⟨σ',H',I',q⟩:=q
  exact h2 ag s1 σ' H' D I' q
 |ret v=>exact q
 |brk=>exact q
 |cont=>exact q
theorem aq4 (h1:PS X st t):eI X [st] t:=by
 intro ag s σ H D I h;refine wpAny_execs_cons (aO (h1 ag s σ H D I h) λf s1 q=>?_);cases f with
 |next=>exact wpAny_execs_nil q
 |ret v=>exact q
 |brk=>exact q
 |cont=>exact q
theorem a8.quiet {ag:List (ay×Obj)}{σ:St}{H:Hp}{s:ax}(I:a8 X ag σ H s):interactive X.env=false:=by simp[interactive,I.ok.kind]
noncomputable def o6 (te:TE):TS:=λD σ H=>te σ H λ_ H1=>D.nx σ H1
theorem qI (he:PE X e te)(hs:swapsWith e none pos.line X.env=pure false:=by rfl):PS X (.Expr e pos) (o6 te):=by
 intro ag s σ H D I h;exact wpAny_Expr_any (aO (he ag s σ H _ I h) λv s1 ⟨x,H1,I1,r1,q1⟩=>⟨σ,H1,I1,q1⟩) I.quiet hs
noncomputable def uJ (te:TE):TS:=λD σ H=>te σ H D.rt
theorem zS (he:PE X e te):PS X (.Return (some e) pos) (uJ te):=by
 intro ag s σ H D I h;exact wpAny_Return_some (aO (he ag s σ H _ I h) λv s1 ⟨x,H1,I1,r1,q1⟩=>⟨x,σ,H1,I1,r1,q1⟩)
noncomputable def zT (c:TT)(t u:TS):TS:=λD σ H=>c σ H λb H1=>if b=true then t D σ H1 else u D σ H1
theorem aq5 {c:Expr}{a b:List Stmt}{tc:TT}(hc:PT X c tc)(ha:eI X a t)(hb:eI X b u):PS X (.If c a b pos) (zT tc t u):=by
 intro ag s σ H D I h;refine wpAny_If (aO (hc ag s σ H _ I h) λd s1 ⟨H1,I1,q1⟩=>?_);cases d with
 |true=>exact ha ag s1 σ H1 D I1 q1
 |false=>exact hb ag s1 σ H1 D I1 q1
end
noncomputable abbrev TG:=V->St->Hp->(St->Hp->Prop)->Prop
noncomputable abbrev jC:=List V->St->Hp->(St->Hp->Prop)->Prop
noncomputable def PG (X:Cx)(target:Expr)(t:TG):Prop:=
 ∀(ag:List (ay×Obj)) (s:ax) (σ:St) (H:Hp) (v:V) (u:av) (Q:St->Hp->Prop),a8 X ag σ H s->aQ v u->t v σ H Q->
  wpAny (model X.prog X.w) X.A (assign target X.env u) (λ_ s'=>∃σ' H',a8 X ag σ' H' s'/\Q σ' H') X.xe s
noncomputable def o7 (X:Cx)(ts:List Expr)(t:jC):Prop:=
 ∀(ag:List (ay×Obj)) (s:ax) (σ:St) (H:Hp) (vs:List V) (us:List av) (Q:St->Hp->Prop),a8 X ag σ H s->aL vs us->t vs σ H Q->
  wpAny (model X.prog X.w) X.A (assignInOrder ((assignEach ts X.env).map (·.2)) us) (λ_ s'=>∃σ' H',a8 X ag σ' H' s'/\Q σ' H') X.xe s
section
variable {X:Cx}{pos:Pos}
noncomputable def cW (i:Nat):TG:=λv σ H Q=>Q (σ.set i (some v)) H
theorem fR {i:Nat}{x:Str}(hN:X.N.Nodup)(hi:X.N[i]? = some x)(hx:i8 X.env.scope x)(hf:X.fn x=true∨X.env.scope.names.lookup x=some .local:=by first|exact .inl rfl|exact .inr rfl|assumption):PG X (.Name x pos) (cW i):=by
 intro ag s σ H v u Q I r h;exact wpAny_assign_Name (zK I hN hi hx r (λs' I'=>⟨_,H,I',h⟩) hf)
noncomputable def mJ:jC:=λvs σ H Q=>vs = []/\Q σ H
noncomputable def fU (t:TG)(u:jC):jC:=λvs σ H Q=>∃v r,vs=v::r/\t v σ H λσ' H'=>u r σ' H' Q
theorem qJ:o7 X [] mJ:=by
 intro ag s σ H vs us Q I r h
 obtain⟨e,h⟩:=h
 subst e;cases r;exact assignInOrder_nil ⟨σ,H,I,h⟩
theorem i9 {e:Expr}{es:List Expr}{t:TG}{u:jC}(h1:PG X e t)(h2:o7 X es u)(hs:(assignEach (e::es) X.env).map (·.2)=assign e X.env::(assignEach es X.env).map (·.2):=by rfl):o7 X (e::es) (fU t u):=by
 intro ag s σ H vs us Q I r h
 obtain⟨v,vr,e1,h⟩:=h
 subst e1;cases r with
 |cons r rr=>
  rw[hs];refine assignInOrder_cons (aO (h1 ag s σ H _ _ _ I r h) λ_ s1 ⟨σ1,H1,I1,q1⟩=>?_);exact h2 ag s1 σ1 H1 _ _ Q I1 rr q1
noncomputable def o8 (K:ac)(n:Nat)(t:jC):TG:=λv σ H Q=>∃a xs,v = .ref a/\aJ K H a xs/\xs.length=n/\t xs σ H Q
theorem uK {es:List Expr}{k:Nat}{t:jC}{n:Nat}(hc:X.calm=true)(h:o7 X es t)(hn:(assignEach es X.env).length=n:=by rfl)(hst:(assignEach es X.env).findIdx? (·.1)=none:=by rfl):PG X (.Tuple es k pos) (o8 X.K n t):=by
 intro ag s σ H v u Q I r hw
 obtain⟨a,xs,e1,hq,hl,hw⟩:=hw
 subst e1;cases r
 obtain⟨its,rv,ht,hz⟩:=I.tuple hq
 refine assign_Tuple_tuple (I.ok.hd hc) ht (by simp[hn,<- hl,rv.length]) hst λh' hx=>?_
 have I1:a8 X ag σ H { s with heap:=h' }:=I.kept (t':=s.toks) λb o e=>hx b o (br1 (bp9 e)) e
 exact h ag _ σ H xs _ Q I1 (by simpa using rv) hw
noncomputable def lF (te:TE)(g:TG):TS:=λD σ H=>te σ H λx H1=>g x σ H1 D.nx
theorem zU {tg e:Expr}{te:TE}{g:TG}(he:PE X e te)(hg:PG X tg g)(hs:swapsWithSole [tg] e pos.line X.env=pure false:=by rfl)(hw:swappedStores [tg] e X.env=pure none:=by rfl)(h1:(assignEach [tg] X.env).map (·.2) = [assign tg X.env]:=by rfl):PS X (.Assign [tg] e pos) (lF te g):=by
 intro ag s σ H D I h;refine wpAny_Assign_stores (aO (he ag s σ H _ I h) λv s1 ⟨x,H1,I1,r1,q1⟩=>?_) hs hw;rw[h1];exact aO (hg ag s1 σ H1 x v _ I1 r1 q1) λ_ s2 q=>q
theorem uL {i:Nat}{x:Str}{e:Expr}{te:TE}{pos':Pos}(hN:X.N.Nodup)(hi:X.N[i]? = some x)(hx:i8 X.env.scope x)(he:PE X e te)(hs:swapsWith e (some (.Name x pos')) pos.line X.env=pure false:=by rfl)(hf:X.fn x=true∨X.env.scope.names.lookup x=some .local:=by first|exact .inl rfl|exact .inr rfl|assumption) :
  PS X (.Assign [.Name x pos'] e pos) (lF te (cW i)):=by
 intro ag s σ H D I h;refine wpAny_Assign_Name (aO (he ag s σ H _ I h) λv s1 ⟨y,H1,I1,r1,q1⟩=>?_) hs;exact zK I1 hN hi hx r1 (λs2 I2=>⟨_,H1,I2,q1⟩) hf
end
section
variable {X:Cx}{pos:Pos}
noncomputable def zV (c:TT)(tb:TS):TS:=λD σ H=>∃W:Nat->St->Hp->Prop,(∃m,W m σ H)/\∀m σ H,W m σ H->
 c σ H λb H1=>if b=true then ∃N:St->Hp->Prop,(∀σ' H',N σ' H'->∃m',m'<m/\W m' σ' H')/\tb { D with nx:=N,ct:=N,bk:=D.nx } σ H1 else D.nx σ H1
theorem aq6 {c:Expr}{body:List Stmt}{tc:TT}{tb:TS}(hp:PassesOwn (model X.prog X.w) X.A X.env X.xe)(hc:PT X c tc)(hb:eI X body tb):PS X (.While c body [] pos) (zV tc tb):=by
 intro ag s σ H D I h
 obtain⟨W,⟨m0,w0⟩,turn⟩:=h
 refine wpAny_While (codeAny_whileLoop (λn s'=>∃σ' H',a8 X ag σ' H' s'/\W n σ' H') ?_ m0 ⟨σ,H,I,w0⟩);rintro n s1 ⟨σ1,H1,I1,w1⟩;refine bF8 hp (aO (hc ag s1 σ1 H1 _ I1 (turn n σ1 H1 w1)) λb s2 ⟨H2,I2,q2⟩=>?_);cases b with
 |true=>
  obtain⟨N,hN,q2⟩:=q2
  rw[if_pos rfl];refine bF8 hp (aO (hb ag s2 σ1 H2 _ I2 q2) λf s3 q3=>?_);cases f with
  |next=>
   obtain⟨σ3,H3,I3,n3⟩:=q3
   obtain⟨m',hm,w3⟩:=hN σ3 H3 n3
   exact⟨m',hm,σ3,H3,I3,w3⟩
  |cont=>
   obtain⟨σ3,H3,I3,n3⟩:=q3
   obtain⟨m',hm,w3⟩:=hN σ3 H3 n3
   exact⟨m',hm,σ3,H3,I3,w3⟩
  |brk=>exact q3
  |ret v=>exact q3
 |false=>
  rw[if_neg br3];exact wpAny_execs_nil ⟨σ1,H2,I2,q2⟩
end
structure It where
 go:Nat->Hp->Prop
 yld:Nat->Hp->V->Hp->Prop
 stop:Nat->Hp->Prop
noncomputable def gI (X:Cx)(ag:List (ay×Obj))(H:Hp)(b:ay):Prop:=
 H b=none/\b≠X.env.locals/\b∉X.fs/\(b∈X.ex∨X.s₀.heap.objs.size<=b)/\(∀x c,X.env.cells.lookup x=some c->c≠b)/\∀p∈X.pn++ag,p.1≠b
theorem a8.fpOk {X:Cx}{ag:List (ay×Obj)}{σ:St}{H H':Hp}{s:ax}{b:ay}(I:a8 X ag σ H s)(hb:s.heap.objs.size<=b)(hn:H' b=none):gI X ag H' b:=by
 refine⟨hn,bw3 (bq4 I.lt hb),I.nofs hb,.inr (bs7 I.sz hb),λx c e z=>?_,λp hp z=>?_⟩
 ·obtain⟨v,q⟩:=I.cell x c e
  exact absurd (bq4 q.lt (by rw[z];exact hb)) (bu6 _)
 ·exact absurd (bq4 (bp9 (I.pin p hp).1) (by rw[z];exact hb)) (bu6 _)
structure iS (P:az)(w:bc)(K:ac)(tg:Expr)(J:It)(fp:List ay)(it:ay)(tn:Nat->Heap->Prop):Prop where
 mem:it∈fp
 obj:∀i h,tn i h->∀b∈fp,∃o,h.get? b=some o/\∀v,o.data≠.cell v
 keep:∀i h h',tn i h->(∀b∈fp,∀o,h.get? b=some o->h'.get? b=some o)->tn i h'
 item:∀(X:Cx),X.prog=P->X.w=w->X.K=K->X.calm=true->∀(i:Nat) (ag:List (ay×Obj)) (s:ax) (σ:St) (H:Hp) (E:av->ax->Prop),a8 X ag σ H s->(∀b∈fp,gI X ag H b)->tn i s.heap->J.go i H->
  wpAny (model P w) X.A (pyNext (.ref it)) (λr s1=>∃u,r=some u/\
   wpAny (model P w) X.A (letOwnedTupleGo tg (.ref it) u) (λ_ s2=>∃x H',a8 X ag σ H' s2/\aQ x u/\J.yld i H x H'/\tn (i+1) s2.heap/\∀b∈fp,H' b=none) E s1) E s
 done:∀(X:Cx),X.prog=P->X.w=w->X.K=K->X.calm=true->∀(i:Nat) (ag:List (ay×Obj)) (s:ax) (σ:St) (H:Hp) (E:av->ax->Prop),a8 X ag σ H s->(∀b∈fp,gI X ag H b)->tn i s.heap->J.stop i H->
  wpAny (model P w) X.A (pyNext (.ref it)) (λr s1=>r=none/\a8 X ag σ H s1) E s
 self:∀(A:ba) (i:Nat) (s:ax) (Q:av->ax->Prop) (E:av->ax->Prop),tn i s.heap->Q (.ref it) s->wpAny (model P w) A (pyIter (.ref it)) Q E s
noncomputable abbrev TI:=St->Hp->(It->Hp->Prop)->Prop
noncomputable def zW (X:Cx)(ag:List (ay×Obj))(σ:St)(tg:Expr)(R:It->Hp->Prop)(itv:av)(s2:ax):Prop:=
 ∃(it:ay) (fp:List ay) (tn:Nat->Heap->Prop) (J:It) (H':Hp),itv = .ref it/\a8 X ag σ H' s2/\iS X.prog X.w X.K tg J fp it tn/\tn 0 s2.heap/\(∀b∈fp,gI X ag H' b)/\R J H'
noncomputable def PI (X:Cx)(tg iter:Expr)(wi:TI):Prop:=
 ∀(ag:List (ay×Obj)) (s:ax) (σ:St) (H:Hp) (R:It->Hp->Prop),a8 X ag σ H s->wi σ H R->
  wpAny (model X.prog X.w) X.A (eval iter X.env) (λv s1=>wpAny (model X.prog X.w) X.A (pyIter v) (zW X ag σ tg R) X.xe s1) X.xe s
theorem uM {M:Model}{A:ba}{E:av->ax->Prop}{s:ax}{tg:Expr}{it:ay}{u:av}{o:Obj}{n:String}{vs:Array av}{Q:Unit->ax->Prop}(ho:s.heap.get? it=some o)(hc:o.cls = .type n)(hd:o.data = .fields vs)(hn:["enumerate","zip","dict_itemiterator","dict_reverseitemiterator","odict_iterator","itertools.zip_longest","itertools.pairwise"].contains n=false)(hQ:Q () s):wpAny M A (letOwnedTupleGo tg (.ref it) u) Q E s:=by
  unfold letOwnedTupleGo;cases tg<;>first
    |exact bo5 hQ
    |(cases u<;>first
        |exact bo5 hQ
        | (refine bo2 (wpAny_load ho ?_)
           rw[hc,hd];show wpAny M A (if (["enumerate","zip","dict_itemiterator","dict_reverseitemiterator","odict_iterator","itertools.zip_longest","itertools.pairwise"].contains n&&vs[0]?==some (rawInt _))=true then _ else _) Q E s;rw[if_neg (by intro h;rw[hn,bF1]at h;cases h)]
           exact bo5 hQ))
noncomputable def uN (K:ac)(a:ay):It:=
 ⟨λi H=>∃xs x,aM K H a xs/\xs[i]? = some x,λi H x H'=>H'=H/\∀xs,aM K H a xs->xs[i]? = some x,λi H=>∃xs,aM K H a xs/\xs.length<=i⟩
noncomputable def uO (K:ac)(a:ay):It:=
 ⟨λi H=>∃xs x,aJ K H a xs/\xs[i]? = some x,λi H x H'=>H'=H/\∀xs,aJ K H a xs->xs[i]? = some x,λi H=>∃xs,aJ K H a xs/\xs.length<=i⟩
noncomputable def o9 (lo:Int)(n:Nat):It:=⟨λi _=>i<n,λi H x H'=>H'=H/\x = .int (lo+i),λi _=>n<=i⟩
theorem aq7 {P:az}{w:bc}{K:ac}{tg:Expr}(a it:ay):iS P w K tg (uN K a) [it] it (λi h=>h.IsListIter it a i) where
 mem:=by simp
 obj:=λi h st b hb=>by
  have e:b=it:=by simpa using hb
  subst e
  obtain⟨o,e,c,d⟩:=st
  exact⟨o,e,λv z=>by rw[d]at z;cases z⟩
 keep:=λi h h' st k=>st.at λo e=>k it (by simp) o e
 item:=by
  intro X hP hw hK hc i ag s σ H E I hf st hg;subst hP hw hK
  obtain⟨xs,x,hq,hx⟩:=hg
  obtain⟨its,rv,p,hz⟩:=I.list hq
  obtain⟨u,hu,ru⟩:=rv.get hx
  obtain⟨f0,f1,f2,f3,f4,f5⟩:=hf it (by simp)
  refine wpAny_pyNext_list_item st p.isList (x:=u) (by simpa using hu) λh' st' sb=>?_
  have I1:a8 X ag σ H { s with heap:=h' }:=I.turned (t':=s.toks) (λb o hb e=>(sb.2 b hb).trans e) f0 f1 f3 f4 f5
  obtain⟨o,e,c,d⟩:=id st'
  exact⟨u,rfl,uM (s:={ s with heap:=h' }) e c d (by decide) ⟨x,H,I1,ru,⟨rfl,λys hy=>by rw[I.list_inj hy hq];exact hx⟩,st',λb hb=>(hf b hb).1⟩⟩
 done:=by
  intro X hP hw hK hc i ag s σ H E I hf st hg;subst hP hw hK
  obtain⟨xs,hq,hx⟩:=hg
  obtain⟨its,rv,p,hz⟩:=I.list hq
  obtain⟨f0,f1,f2,f3,f4,f5⟩:=hf it (by simp)
  have hl:=rv.length;exact wpAny_pyNext_list_end (I.ok.hd hc) st p.isList (by simp;omega) λh' eb=>⟨rfl,I.turned (t':=s.toks) (λb o hb e=>eb b o hb e) f0 f1 f3 f4 f5⟩
 self:=λ_ _ _ _ _ st h=>wpAny_pyIter_listiter st h
theorem aq8 {P:az}{w:bc}{K:ac}{tg:Expr}(a it:ay):iS P w K tg (uO K a) [it] it (λi h=>h.IsTupleIter it a i) where
 mem:=by simp
 obj:=λi h st b hb=>by
  have e:b=it:=by simpa using hb
  subst e
  obtain⟨o,e,c,d⟩:=st
  exact⟨o,e,λv z=>by rw[d]at z;cases z⟩
 keep:=λi h h' st k=>st.at λo e=>k it (by simp) o e
 item:=by
  intro X hP hw hK hc i ag s σ H E I hf st hg;subst hP hw hK
  obtain⟨xs,x,hq,hx⟩:=hg
  obtain⟨its,rv,p,hz⟩:=I.tuple hq
  obtain⟨u,hu,ru⟩:=rv.get hx
  obtain⟨f0,f1,f2,f3,f4,f5⟩:=hf it (by simp)
  refine wpAny_pyNext_tuple_item st (show s.heap.IsTuple a its.toArray from p) (x:=u) (by simpa using hu) λh' st' sb=>?_
  have I1:a8 X ag σ H { s with heap:=h' }:=I.turned (t':=s.toks) (λb o hb e=>(sb.2 b hb).trans e) f0 f1 f3 f4 f5
  obtain⟨o,e,c,d⟩:=id st'
  exact⟨u,rfl,uM (s:={ s with heap:=h' }) e c d (by decide) ⟨x,H,I1,ru,⟨rfl,λys hy=>by rw[I.tuple_inj hy hq];exact hx⟩,st',λb hb=>(hf b hb).1⟩⟩
 done:=by
  intro X hP hw hK hc i ag s σ H E I hf st hg;subst hP hw hK
  obtain⟨xs,hq,hx⟩:=hg
  obtain⟨its,rv,p,hz⟩:=I.tuple hq
  obtain⟨f0,f1,f2,f3,f4,f5⟩:=hf it (by simp)
  have hl:=rv.length;exact wpAny_pyNext_tuple_end (I.ok.hd hc) st (show s.heap.IsTuple a its.toArray from p) (by simp;omega) λh' eb=>⟨rfl,I.turned (t':=s.toks) (λb o hb e=>eb b o hb e) f0 f1 f3 f4 f5⟩
 self:=λ_ _ _ _ _ st h=>wpAny_pyIter_tupleiter st h
theorem aq9 {P:az}{w:bc}{K:ac}{tg:Expr}(it:ay)(lo:Int)(n:Nat):iS P w K tg (o9 lo n) [it] it (λi h=>IsRangeIter h it (lo+(i:Nat)*1) ((n:Int)-(i:Nat)) 1) where
 mem:=by simp
 obj:=λi h st b hb=>by
  have e:b=it:=by simpa using hb
  subst e
  exact⟨_,st,λv z=>by
   have z':Data.fields _=Data.cell v:=z
   cases z'⟩
 keep:=λi h h' st k=>k it (by simp) _ st
 item:=by
  intro X hP hw hK hc i ag s σ H E I hf st hg;subst hP hw hK
  obtain⟨f0,f1,f2,f3,f4,f5⟩:=hf it (by simp)
  have W:=Walks.range (prog:=X.prog) (w:=X.w) (I.ok.hd hc) it lo 1 n;refine W.item i s _ _ hg st λv h' tk hv st' kk=>?_
  obtain⟨t,rfl⟩:=hv
  have I1:a8 X ag σ H { s with heap:=h',toks:=tk }:=I.turned (λb o hb e=>kk b o (by simpa using hb) e) f0 f1 f3 f4 f5;refine⟨_,rfl,uM (s:={ s with heap:=h',toks:=tk }) (n:="range_iterator") st' rfl rfl (by decide) ⟨.int (lo+i),H,I1,⟨t,?_⟩,⟨rfl,rfl⟩,st',λb hb=>(hf b hb).1⟩⟩;rw[Int.mul_one]
 done:=by
  intro X hP hw hK hc i ag s σ H E I hf st hg;subst hP hw hK
  obtain⟨f0,f1,f2,f3,f4,f5⟩:=hf it (by simp)
  exact wpAny_pyNext_range_end (I.ok.hd hc) st (by have:n<=i:=hg;omega) λh' eb=>⟨rfl,I.turned (t':=s.toks) (λb o hb e=>eb b o hb e) f0 f1 f3 f4 f5⟩
 self:=λ_ _ _ _ _ st h=>wpAny_pyIter_rangeiter st h
section
variable {X:Cx}{tg:Expr}
theorem zX {ag:List (ay×Obj)}{σ:St}{H:Hp}{s:ax}{R:It->Hp->Prop}{E:av->ax->Prop}{lo hi:Int}{t u v:Tok}{tk:Nat}(I:a8 X ag σ H s)(h1:-(2^62)<=lo)(h2:lo<2^62)(h3:-(2^62)<=hi)(h4:hi<2^62)(q:R (o9 lo (hi-lo).toNat) H):wpAny (model X.prog X.w) X.A (pyIter (.ref s.heap.objs.size)) (zW X ag σ tg R) E { s with heap:=s.heap.push { cls:=.type "range",data:=.fields #[.int lo t,.int hi u,.int 1 v] },toks:=tk }:=by
 refine wpAny_pyIter_range (IsRange.new ..) (small_one h1 h2 h3 h4) ?_;have I1:a8 X ag σ H { s with heap:=s.heap.push { cls:=.type "range",data:=.fields #[.int lo t,.int hi u,.int 1 v] },toks:=tk }:=I.kept λb o e=>bo4 _ e
 refine⟨(s.heap.push { cls:=.type "range",data:=.fields #[.int lo t,.int hi u,.int 1 v] }).objs.size,[(s.heap.push { cls:=.type "range",data:=.fields #[.int lo t,.int hi u,.int 1 v] }).objs.size],_,_,H,rfl,
  I1.kept (t':=tk) λb o e=>bo4 _ e,aq9 _ lo (hi-lo).toNat,?_,λb hb=>?_,q⟩
 ·have e1:lo+((0:Nat):Int)*1=lo:=by simp
  have e2:(((hi-lo).toNat:Nat):Int)-((0:Nat):Int)=Builtin.Range.rangeSize lo hi 1:=by rw[rangeSize_one];split<;>omega
  show IsRangeIter _ _ (lo+((0:Nat):Int)*1) ((((hi-lo).toNat:Nat):Int)-((0:Nat):Int)) 1;rw[e1,e2];exact bp4 _ rfl
 ·have e:b=(s.heap.push { cls:=.type "range",data:=.fields #[.int lo t,.int hi u,.int 1 v] }).objs.size:=by simpa using hb
  subst e;exact I1.fpOk (bp7 _) (I1.hok.fresh (bp7 _))
noncomputable def zY (ta:TA):TI:=λσ H R=>ta σ H λvs H1=>∃j:Int,vs = [.int j]/\-(2^62)<=j/\j<2^62/\R (o9 0 j.toNat) H1
noncomputable def zZ (ta:TA):TI:=λσ H R=>ta σ H λvs H1=>∃i j:Int,vs = [.int i,.int j]/\(-(2^62)<=i/\i<2^62/\-(2^62)<=j/\j<2^62)/\R (o9 i (j-i).toNat) H1
theorem ar0 {a:Expr}{ta:TA}{p pos:Pos}(hg:Gl X "range")(hm:X.mg "range" = none)(ha:PA X [a] ta)(hs:starEach [a] X.env = [(false,eval a X.env)]:=by rfl):PI X tg (.Call (.Name "range" p) [a] [] pos) (zY ta):=by
 intro ag s σ H R I h;refine Call_ (lE I hg hm boot_range (bC5 (aO (ha pos ag s σ H _ I h) λus s1 ⟨vs,H1,I1,r1,q1⟩=>?_) hs rfl))
 obtain⟨j,e,q1,q2,q⟩:=q1
 subst e;cases r1 with
 |cons r rr=>
  cases rr
  obtain⟨t,rfl⟩:=r
  exact call_range_1 (zX I1 (by omega) (by omega) q1 q2 (by simpa using q))
theorem ar1 {a b:Expr}{ta:TA}{p pos:Pos}(hg:Gl X "range")(hm:X.mg "range" = none)(ha:PA X [a,b] ta)(hs:starEach [a,b] X.env = [(false,eval a X.env),(false,eval b X.env)]:=by rfl)(hs2:starEach [b] X.env = [(false,eval b X.env)]:=by rfl) :
  PI X tg (.Call (.Name "range" p) [a,b] [] pos) (zZ ta):=by
 intro ag s σ H R I h;refine Call_ (lE I hg hm boot_range (bC5 (aO (ha pos ag s σ H _ I h) λus s1 ⟨vs,H1,I1,r1,q1⟩=>?_) (by rw[hs,hs2]) (by rw[hs2];rfl)))
 obtain⟨i,j,e,⟨q1,q2,q3,q4⟩,q⟩:=q1
 subst e;cases r1 with
 |cons r rr=>
  cases rr with
  |cons r' rr=>
   cases rr
   obtain⟨t,rfl⟩:=r
   obtain⟨t',rfl⟩:=r'
   exact call_range_2 (zX I1 q1 q2 q3 q4 q)
noncomputable def A0 (wi:TI)(g:TG)(tb:TS):TS:=λD σ H=>wi σ H λJ H1=>∃W:Nat->Nat->St->Hp->Prop,(∃m,W 0 m σ H1)/\∀i m σ H,W i m σ H->
 (J.stop i H/\D.nx σ H)∨(J.go i H/\∃N:St->Hp->Prop,(∀σ' H',N σ' H'->∃m',m'<m/\W (i+1) m' σ' H')/\∀x H',J.yld i H x H'->g x σ H' λσ2 H2=>tb { D with nx:=N,ct:=N,bk:=D.nx } σ2 H2)
noncomputable def oC (fp:List ay)(h:Heap):List (ay×Obj):=fp.filterMap λb=>(h.get? b).map λo=>(b,o)
theorem qL {fp:List ay}{h:Heap}{b:ay}{o:Obj}(hb:b∈fp)(e:h.get? b=some o):(b,o)∈oC fp h:=bD6.mpr ⟨b,hb,by rw[e];rfl⟩
theorem ar2 {fp:List ay}{h:Heap}{p:ay×Obj}(hp:p∈oC fp h):p.1∈fp/\h.get? p.1=some p.2:=by
 obtain⟨b,hb,e⟩:=bD6.mp hp
 cases q:h.get? b with
 |none=>rw[q]at e;cases e
 |some o=>
  rw[q]at e;have e':(b,o)=p:=br7 e;subst e'
  exact⟨hb,q⟩
theorem a8.pinned {ag:List (ay×Obj)}{σ:St}{H:Hp}{s:ax}{fp:List ay}(I:a8 X ag σ H s)(hf:∀b∈fp,gI X ag H b)(ho:∀b∈fp,∃o,s.heap.get? b=some o/\∀v,o.data≠.cell v):a8 X (ag++oC fp s.heap) σ H s:=
 I.pins_of λp hp=>(bs0.mp hp).elim (λz=>I.pin p (bs8 _ z)) λz=>by
  obtain⟨hb,e⟩:=ar2 z
  obtain⟨f0,f1,f2,_⟩:=hf p.1 hb
  obtain⟨o,e',d⟩:=ho p.1 hb
  rw[e]at e';cases e'
  exact⟨e,f0,f1,f2,d⟩
theorem a8.unpinned {ag pl:List (ay×Obj)}{σ:St}{H:Hp}{s:ax}(I:a8 X (ag++pl) σ H s):a8 X ag σ H s:=I.pins_of λp hp=>I.pin p (bs8 _ (bt4 _ hp))
theorem ar3 {iter:Expr}{body:List Stmt}{wi:TI}{g:TG}{tb:TS}{pos:Pos}(hp:PassesOwn (model X.prog X.w) X.A X.env X.xe)(hc:X.calm=true)(hi:PI X tg iter wi)(hg:PG X tg g)(hb:eI X body tb)(hs:∀x,foldedSetIterable iter X.env x=pure x:=by intro _;rfl):PS X (.For tg iter body [] pos) (A0 wi g tb):=by
 intro ag s σ H D I h;refine wpAny_For (aO (hi ag s σ H _ I h) λv s1 h1=>aO h1 λitv s2 h2=>?_) hs
 obtain⟨it,fp,tn,J,H2,e,I2,T,st2,f2,W,⟨m0,w0⟩,turn⟩:=h2
 subst e;have stat:∀{H':Hp},(∀b∈fp,H' b=none)->∀b∈fp,gI X ag H' b:=λhn b hb=>⟨hn b hb,(f2 b hb).2⟩
 refine codeAny_forLoop_any (λn s'=>∃i σ' H',a8 X ag σ' H' s'/\tn i s'.heap/\(∀b∈fp,H' b=none)/\W i n σ' H') ?_ m0 ⟨0,σ,H2,I2,st2,λb hb=>(f2 b hb).1,w0⟩;rintro n s3 ⟨i,σ3,H3,I3,st3,fr3,w3⟩;rcases turn i n σ3 H3 w3 with⟨stop,qn⟩|⟨go,N,hN,step⟩
 ·refine bF8 hp (aO (T.done X rfl rfl rfl hc i ag s3 σ3 H3 X.xe I3 (stat fr3) st3 stop) λr s4 ⟨hr,I4⟩=>?_)
  subst hr;exact wpAny_execs_nil ⟨σ3,H3,I4,qn⟩
 ·refine bF8 hp (aO (T.item X rfl rfl rfl hc i ag s3 σ3 H3 X.xe I3 (stat fr3) st3 go) λr s4 ⟨u,hr,h4⟩=>?_)
  subst hr;refine bF8 hp (aO h4 λ_ s5 ⟨x,H5,I5,r5,y5,st5,fr5⟩=>?_);have I5':=I5.pinned (stat fr5) (T.obj _ _ st5);refine bF8 hp (aO (hg _ s5 σ3 H5 x u _ I5' r5 (step x H5 y5)) λ_ s6 ⟨σ6,H6,I6,q6⟩=>?_);refine bF8 hp (aO (hb _ s6 σ6 H6 _ I6 q6) λf s7 q7=>?_);have again:∀{σ7:St}{H7:Hp},a8 X (ag++oC fp s5.heap) σ7 H7 s7->N σ7 H7->∃m,m<n/\∃i σ' H',a8 X ag σ' H' s7/\tn i s7.heap/\(∀b∈fp,H' b=none)/\W i m σ' H':=λ{σ7 H7} I7 n7=>by
   obtain⟨m',hm,w7⟩:=hN σ7 H7 n7
   refine⟨m',hm,i+1,σ7,H7,I7.unpinned,T.keep _ _ _ st5 λb hb o e=>(I7.pin (b,o) (bs8 _ (bs8 _ (qL hb e)))).1,λb hb=>?_,w7⟩
   obtain⟨o,e,d⟩:=T.obj _ _ st5 b hb
   exact (I7.pin (b,o) (bs8 _ (bs8 _ (qL hb e)))).2.1
  cases f with
  |next=>obtain⟨σ7,H7,I7,n7⟩:=q7;exact again I7 n7
  |cont=>obtain⟨σ7,H7,I7,n7⟩:=q7;exact again I7 n7
  |brk=>obtain⟨σ7,H7,I7,q7⟩:=q7;exact⟨σ7,H7,I7.unpinned,q7⟩
  |ret v=>obtain⟨x7,σ7,H7,I7,r7,q7⟩:=q7;exact⟨x7,σ7,H7,I7.unpinned,r7,q7⟩
end
noncomputable abbrev R2:=V->V->Hp->VK->Prop
noncomputable def cK (X:Cx)(f:av->av->Sem av)(r:R2):Prop:=
 ∀(ag:List (ay×Obj)) (s:ax) (σ:St) (H:Hp) (x y:V) (v u:av) (Q:VK),a8 X ag σ H s->aQ x v->aQ y u->r x y H Q->
  wpAny (model X.prog X.w) X.A (f v u) (EP X ag σ Q) X.xe s
noncomputable def cH (X:Cx)(f:av)(r:List V->Hp->VK->Prop):Prop:=
 ∀(ag:List (ay×Obj)) (s:ax) (σ:St) (H:Hp) (xs:List V) (us:List av) (Q:VK),a8 X ag σ H s->aL xs us->r xs H Q->
  wpAny (model X.prog X.w) X.A (call f us) (EP X ag σ Q) X.xe s
noncomputable def ar4 (X:Cx)(r:V->Hp->(Bool->Hp->Prop)->Prop):Prop:=
 ∀(ag:List (ay×Obj)) (s:ax) (σ:St) (H:Hp) (x:V) (v:av) (Q:Bool->Hp->Prop),a8 X ag σ H s->aQ x v->r x H Q->
  wpAny (model X.prog X.w) X.A (truthy v) (TP X ag σ Q) X.xe s
noncomputable def oD (r:R2)(ta tb:TE):TE:=λσ H Q=>ta σ H λx H1=>tb σ H1 λy H2=>r x y H2 Q
noncomputable def rI (C:Int->Int->Prop)(g:Int->Int->V):R2:=λx y H Q=>∃i j,x = .int i/\y = .int j/\C i j/\Q (g i j) H
noncomputable def iA (g:Int->Int->V):R2:=λx y H Q=>∃i j,x = .int i/\y = .int j/\Q (g i j) H
section
variable {X:Cx}{a b c:Expr}{ta tb tc:TE}{pos:Pos}
theorem uP (ha:PE X a ta)(hb:PE X b tb){ag:List (ay×Obj)}{s:ax}{σ:St}{H:Hp}{R:V->V->Hp->Prop}(I:a8 X ag σ H s)(h:ta σ H λx H1=>tb σ H1 λy H2=>R x y H2){Q:av->ax->Prop}{f:av->av->Sem av}(hf:∀v u s2 x y H2,a8 X ag σ H2 s2->aQ x v->aQ y u->R x y H2->wpAny (model X.prog X.w) X.A (f v u) Q X.xe s2) :
  wpAny (model X.prog X.w) X.A (eval a X.env) (λv s₁=>wpAny (model X.prog X.w) X.A (eval b X.env) (λu s₂=>wpAny (model X.prog X.w) X.A (f v u) Q X.xe s₂) X.xe s₁) X.xe s:=by
 refine aO (ha ag s σ H _ I h) λv s1 ⟨x,H1,I1,r1,q1⟩=>?_
 refine aO (hb ag s1 σ H1 _ I1 q1) λu s2 ⟨y,H2,I2,r2,q2⟩=>?_
 exact hf v u s2 x y H2 I2 r1 r2 q2
theorem ar5 {op:Operator}{r:R2}(ho:cK X (binaryOp op) r)(ha:PE X a ta)(hb:PE X b tb):PE X (.BinOp a op b pos) (oD r ta tb):=by
 intro ag s σ H Q I h;exact wpAny_BinOp (uP ha hb I h λv u s2 x y H2 I2 rx ry q=>ho ag s2 σ H2 x y v u Q I2 rx ry q)
theorem qM {f:av->av->Sem av}{C:Int->Int->Prop}{g:Int->Int->Int}(rule:∀(i j:Int) (t u:Tok) (s:ax) (Q:av->ax->Prop) (E:av->ax->Prop),C i j->Q (.int (g i j) s.toks) { s with toks:=s.toks+1 }->wpAny (model X.prog X.w) X.A (f (.int i t) (.int j u)) Q E s) :
  cK X f (rI C λi j=>.int (g i j)):=by
 intro ag s σ H x y v u Q I rx ry h
 obtain⟨i,j,rfl,rfl,hc,q⟩:=h
 obtain⟨t,rfl⟩:=rx
 obtain⟨t',rfl⟩:=ry
 exact rule i j t t' s _ _ hc ⟨.int (g i j),H,I.tok _,⟨_,rfl⟩,q⟩
theorem A1 {f:av->av->Sem av}{g:Int->Int->Int}(rule:∀(i j:Int) (t u:Tok) (s:ax) (Q:av->ax->Prop) (E:av->ax->Prop),Q (.int (g i j) s.toks) { s with toks:=s.toks+1 }->wpAny (model X.prog X.w) X.A (f (.int i t) (.int j u)) Q E s) :
  cK X f (iA λi j=>.int (g i j)):=by
 intro ag s σ H x y v u Q I rx ry h
 obtain⟨i,j,rfl,rfl,q⟩:=h
 obtain⟨t,rfl⟩:=rx
 obtain⟨t',rfl⟩:=ry
 exact rule i j t t' s _ _ ⟨.int (g i j),H,I.tok _,⟨_,rfl⟩,q⟩
theorem qN {f:av->av->Sem av}{g:Int->Int->Bool}(rule:∀(i j:Int) (t u:Tok) (s:ax) (Q:av->ax->Prop) (E:av->ax->Prop),Q (.bool (g i j)) s->wpAny (model X.prog X.w) X.A (f (.int i t) (.int j u)) Q E s) :
  cK X f (iA λi j=>.bl (g i j)):=by
 intro ag s σ H x y v u Q I rx ry h
 obtain⟨i,j,rfl,rfl,q⟩:=h
 obtain⟨t,rfl⟩:=rx
 obtain⟨t',rfl⟩:=ry
 exact rule i j t t' s _ _ ⟨.bl (g i j),H,I,rfl,q⟩
noncomputable def uQ (i j:Int):Prop:=0<j/\j<1073741824
noncomputable def uR (i j:Int):Prop:=0<=j/\j<=1000000/\i.natAbs<2^64
noncomputable def oE (i j:Int):Prop:=(-(2^64)<i/\i<2^64)∨(-(2^64)<j/\j<2^64)
theorem oE.ok {i j:Int}(h:oE i j):IntMulOk i j:=by
 rcases h with⟨h1,h2⟩|⟨h1,h2⟩
 ·exact .of_left (intBits_le_64 h1 h2)
 ·exact .of_right (intBits_le_64 h1 h2)
theorem ar6:cK X (binaryOp .Add) (iA λi j=>.int (i+j)):=A1 λ_ _ _ _ _ _ _ q=>add_int q
theorem ar7:cK X (binaryOp .Sub) (iA λi j=>.int (i-j)):=A1 λ_ _ _ _ _ _ _ q=>sub_int q
theorem ar8:cK X (binaryOp .Mult) (rI oE λi j=>.int (i*j)):=qM λ_ _ _ _ _ _ _ hc q=>mul_int q hc.ok
theorem ar9:cK X (binaryOp .FloorDiv) (rI uQ λi j=>.int (i/j)):=qM λi j _ _ _ _ _ hc q=>by
 have h1:(0:Int)<j:=hc.1;have h2:j<1073741824:=hc.2;exact floordiv_int (by omega) (by rw[Int.fdiv_eq_ediv_of_nonneg i (by omega)];exact q) (.inl (PyProof.noPylong_small (by omega)))
theorem as0:cK X (binaryOp .Mod) (rI (λ_ j=>0<j) λi j=>.int (i%j)):=qM λi j _ _ _ _ _ hc q=>by
 have h1:(0:Int)<j:=hc;exact mod_int' (by omega) (by rw[Int.fmod_eq_emod_of_nonneg i (by omega)];exact q)
theorem as1:cK X (binaryOp .Pow) (rI uR λi j=>.int (i^j.toNat)):=qM λ_ _ _ _ _ _ _ hc q=>pow_int_small hc.1 hc.2.1 hc.2.2 q
end
noncomputable def A2:V->V->Bool
 |.non,.non=>true|.non,.int _=>true|.int _,.non=>true|.non,.bl _=>true|.bl _,.non=>true|.non,.str _=>true|.str _,.non=>true
 |.int _,.int _=>true|.bl _,.bl _=>true|.str _,.str _=>true|.byt _,.byt _=>true
 |.int _,.str _=>true|.str _,.int _=>true|.bl _,.str _=>true|.str _,.bl _=>true
 |_,_=>false
noncomputable def A3:R2:=λx y H Q=>A2 x y=true/\Q (.bl (decide (x=y))) H
noncomputable def A4:R2:=λx y H Q=>A2 x y=true/\Q (.bl (!decide (x=y))) H
theorem A5 {i j:Int}:decide (V.int i=V.int j)=(i==j):=by
 rw[bC0];simp
theorem A6 {i j:Bool}:decide (V.bl i=V.bl j)=(i==j):=by
 rw[bC0];simp
theorem A7 {i j:Str}:decide (V.str i=V.str j)=(i==j):=by
 rw[bC0];simp
theorem A8 {i j:Array UInt8}:decide (V.byt i=V.byt j)=(i.toList==j.toList):=by
 rw[bC0];cases i;cases j;simp
section
variable {X:Cx}{a b c:Expr}{ta tb tc:TE}{pos:Pos}
theorem c8 {ag:List (ay×Obj)}{σ:St}{H:Hp}{s:ax}{Q:VK}{k k':Bool}(I:a8 X ag σ H s)(q:Q (.bl k) H)(e:k=k'):EP X ag σ Q (.bool k') s:=by
 subst e
 exact⟨.bl k,H,I,rfl,q⟩
theorem as2:cK X (compareOp .Eq) A3:=by
 intro ag s σ H x y v u Q I rx ry h
 obtain⟨hs,q⟩:=h
 cases x with
 |non=>
  cases rx;cases y with
  |non=>cases ry;exact PySem.EqNone.eq_none_none (c8 I q (by simp))
  |bl j=>cases ry;exact PySem.EqNone.eq_none_bool (c8 I q (by simp))
  |int j=>obtain⟨t',rfl⟩:=ry;exact PySem.EqNone.eq_none_int (c8 I q (by simp))
  |str j=>obtain⟨t',rfl⟩:=ry;exact PySem.EqNone.eq_none_str (c8 I q (by simp))
  |_=>exact absurd (show false=true from hs) br3
 |bl i=>
  cases rx;cases y with
  |non=>cases ry;exact PySem.EqNone.eq_bool_none (c8 I q (by simp))
  |bl j=>cases ry;exact eq_bool (c8 I q A6)
  |str j=>obtain⟨t',rfl⟩:=ry;exact PySem.EqMixed.eq_bool_str (c8 I q (by simp))
  |_=>exact absurd (show false=true from hs) br3
 |int i=>
  obtain⟨t,rfl⟩:=rx
  cases y with
  |non=>cases ry;exact PySem.EqNone.eq_int_none (c8 I q (by simp))
  |int j=>obtain⟨t',rfl⟩:=ry;exact eq_int (c8 I q A5)
  |str j=>obtain⟨t',rfl⟩:=ry;exact PySem.EqMixed.eq_int_str (c8 I q (by simp))
  |_=>exact absurd (show false=true from hs) br3
 |str i=>
  obtain⟨t,rfl⟩:=rx
  cases y with
  |non=>cases ry;exact PySem.EqNone.eq_str_none (c8 I q (by simp))
  |bl j=>cases ry;exact PySem.EqMixed.eq_str_bool (c8 I q (by simp))
  |int j=>obtain⟨t',rfl⟩:=ry;exact PySem.EqMixed.eq_str_int (c8 I q (by simp))
  |str j=>obtain⟨t',rfl⟩:=ry;exact eq_str (c8 I q A7)
  |_=>exact absurd (show false=true from hs) br3
 |byt i=>
  obtain⟨t,rfl⟩:=rx
  cases y with
  |byt j=>obtain⟨t',rfl⟩:=ry;exact PySem.W.eq_bytes (c8 I q A8)
  |_=>exact absurd (show false=true from hs) br3
 |_=>cases y<;>exact absurd (show false=true from hs) br3
theorem as3:cK X (compareOp .NotEq) A4:=by
 intro ag s σ H x y v u Q I rx ry h
 obtain⟨hs,q⟩:=h
 cases x with
 |non=>
  cases rx;cases y with
  |non=>cases ry;exact PySem.EqNone.ne_none_none (c8 I q (by simp))
  |bl j=>cases ry;exact PySem.EqNone.ne_none_bool (c8 I q (by simp))
  |int j=>obtain⟨t',rfl⟩:=ry;exact PySem.EqNone.ne_none_int (c8 I q (by simp))
  |str j=>obtain⟨t',rfl⟩:=ry;exact PySem.EqNone.ne_none_str (c8 I q (by simp))
  |_=>exact absurd (show false=true from hs) br3
 |bl i=>
  cases rx;cases y with
  |non=>cases ry;exact PySem.EqNone.ne_bool_none (c8 I q (by simp))
  |bl j=>cases ry;exact ne_bool (c8 I q (congrArg not A6))
  |str j=>obtain⟨t',rfl⟩:=ry;exact PySem.EqMixed.ne_bool_str (c8 I q (by simp))
  |_=>exact absurd (show false=true from hs) br3
 |int i=>
  obtain⟨t,rfl⟩:=rx
  cases y with
  |non=>cases ry;exact PySem.EqNone.ne_int_none (c8 I q (by simp))
  |int j=>obtain⟨t',rfl⟩:=ry;exact ne_int (c8 I q (congrArg not A5))
  |str j=>obtain⟨t',rfl⟩:=ry;exact PySem.EqMixed.ne_int_str (c8 I q (by simp))
  |_=>exact absurd (show false=true from hs) br3
 |str i=>
  obtain⟨t,rfl⟩:=rx
  cases y with
  |non=>cases ry;exact PySem.EqNone.ne_str_none (c8 I q (by simp))
  |bl j=>cases ry;exact PySem.EqMixed.ne_str_bool (c8 I q (by simp))
  |int j=>obtain⟨t',rfl⟩:=ry;exact PySem.EqMixed.ne_str_int (c8 I q (by simp))
  |str j=>obtain⟨t',rfl⟩:=ry;exact ne_str (c8 I q (congrArg not A7))
  |_=>exact absurd (show false=true from hs) br3
 |byt i=>
  obtain⟨t,rfl⟩:=rx
  cases y with
  |byt j=>obtain⟨t',rfl⟩:=ry;exact PySem.W.ne_bytes (c8 I q (congrArg not A8))
  |_=>exact absurd (show false=true from hs) br3
 |_=>cases y<;>exact absurd (show false=true from hs) br3
theorem uS:cK X (compareOp .Lt) (iA λi j=>.bl (decide (i<j))):=qN λ_ _ _ _ _ _ _ q=>lt_int q
theorem as4:cK X (compareOp .LtE) (iA λi j=>.bl (decide (i<=j))):=qN λ_ _ _ _ _ _ _ q=>le_int q
theorem as5:cK X (compareOp .Gt) (iA λi j=>.bl (decide (j<i))):=qN λ_ _ _ _ _ _ _ q=>gt_int q
theorem as6:cK X (compareOp .GtE) (iA λi j=>.bl (decide (j<=i))):=qN λ_ _ _ _ _ _ _ q=>ge_int q
theorem as7:cK X (compareOp .IsNot) (λx y H Q=>y = .non/\Q (.bl (!decide (x = .non))) H):=by
 intro ag s σ H x y v u Q I rx ry h
 obtain⟨rfl,q⟩:=h
 cases ry;refine isnot_none_gen (c8 I q ?_);cases x<;>first
  |(cases rx;rfl)
  |(obtain⟨t,rfl⟩:=rx;rfl)
theorem gV (b:Expr){op:CmpOp}(h:op≠.In:=by decide)(h2:op≠.NotIn:=by decide):behindInMarks op b=false:=by
 have e1:(op==CmpOp.In)=false:=by cases op<;>first|rfl|exact absurd rfl h
 have e2:(op==CmpOp.NotIn)=false:=by cases op<;>first|rfl|exact absurd rfl h2
 cases b<;>simp[behindInMarks,e1,e2]
theorem as8 {op:CmpOp}{r:R2}(ho:cK X (compareOp op) r)(ha:PE X a ta)(hb:PE X b tb)(hm:behindInMarks op b=false):PE X (.Compare a [op] [b] pos) (oD r ta tb):=by
 intro ag s σ H Q I h;exact wpAny_Compare1 (uP ha hb I h λv u s2 x y H2 I2 rx ry q=>ho ag s2 σ H2 x y v u Q I2 rx ry q) hm
noncomputable def as9 (t:TE):TT:=λσ H Q=>t σ H λx H'=>∃k,x = .bl k/\Q k H'
theorem at0 {op:CmpOp}{r:R2}(ho:cK X (compareOp op) r)(ha:PE X a ta)(hb:PE X b tb)(hm:behindInMarks op b=false):PT X (.Compare a [op] [b] pos) (as9 (oD r ta tb)):=by
 intro ag s σ H Q I h
 refine wpAny_isTrue_Compare1 (aO (ha ag s σ H _ I h) λv s1 ⟨x,H1,I1,r1,q1⟩=>aO (hb ag s1 σ H1 _ I1 q1) λu s2 ⟨y,H2,I2,r2,q2⟩=>
  aO (ho ag s2 σ H2 x y v u _ I2 r1 r2 q2) λc s3 ⟨z,H3,I3,r3,k,e,q3⟩=>?_) hm
 subst e;cases r3;exact bB7 ⟨H3,I3,q3⟩
noncomputable def uT (K:ac)(x:V)(H:Hp)(k:Bool):Prop:=
 match x with
 |.non=>k=false
 |.bl b=>k=b
 |.int i=>k=(i != 0)
 |.str y=>y.length<=sizeLine/\k=((y.length:Int) != 0)
 |.byt y=>y.size<=sizeLine/\k=((y.size:Int) != 0)
 |.ref p=>(∃xs,aM K H p xs/\k = !xs.isEmpty)∨(∃xs,aJ K H p xs/\k = !xs.isEmpty)∨∃kvs,H p=some (.dK kvs)/\k = !kvs.isEmpty
 |_=>False
theorem at2 {κ:Type}{kvs:List (κ×V)}{vs:List (κ×av)}(r:KV kvs vs):(!vs.isEmpty) = !kvs.isEmpty:=by
 cases r<;>rfl
theorem A9 {xs:List V}{its:List av}(r:aL xs its):(!its.toArray.isEmpty) = !xs.isEmpty:=by
 cases r<;>simp
theorem oF:(sizeLine:Nat)<2^63:=by rw[sizeLine_eq];decide
theorem at3:ar4 X (λx H Q=>∃k,uT X.K x H k/\Q k H):=by
 intro ag s σ H x v Q I rx h
 obtain⟨k,e,q⟩:=h
 have hl:=oF;have hs:sizeLine=16777216:=sizeLine_eq;cases x with
 |non=>
  cases rx;have e':k=false:=e;subst e';exact truthy_none ⟨H,I,q⟩
 |bl b=>
  cases rx;have e':k=b:=e;subst e';exact bB7 ⟨H,I,q⟩
 |int i=>
  obtain⟨t,rfl⟩:=rx
  have e':k=(i != 0):=e;subst e';exact PySem.P.truthy_int ⟨H,I,q⟩
 |str y=>
  obtain⟨t,rfl⟩:=rx
  obtain⟨hy,e'⟩:y.length<=sizeLine/\k=((y.length:Int) != 0):=e
  subst e';exact PySem.P.truthy_str (by omega) ⟨H,I.tok _,q⟩
 |byt y=>
  obtain⟨t,rfl⟩:=rx
  obtain⟨hy,e'⟩:y.size<=sizeLine/\k=((y.size:Int) != 0):=e
  subst e';exact PySem.W.truthy_bytes (by omega) ⟨H,I.tok _,q⟩
 |ref p=>
  cases rx;have e':(∃xs,aM X.K H p xs/\k = !xs.isEmpty)∨(∃xs,aJ X.K H p xs/\k = !xs.isEmpty)∨∃kvs,H p=some (.dK kvs)/\k = !kvs.isEmpty:=e
  rcases e' with⟨xs,hx,e'⟩|⟨xs,hx,e'⟩|⟨kvs,hx,e'⟩
  ·subst e'
   obtain⟨its,r,pl,hz⟩:=I.list hx
   have aj:=r.length;exact wpAny_truthy_list pl.isList (by simp only[bo8];omega) ⟨H,I.tok _,by rw[A9 r];exact q⟩
  ·subst e'
   obtain⟨its,r,pl,hz⟩:=I.tuple hx
   have aj:=r.length;exact truthy_tuple pl (by simp only[bo8];omega) ⟨H,I.tok _,by rw[A9 r];exact q⟩
  ·subst e'
   obtain⟨hz,hS,vs,r,m⟩:kvs.length<=sizeLine/\(p==sysModules)=false/\∃vs,KV kvs vs/\s.heap.DictOf (eG X.prog X.w) p vs:=I.hok p _ hx
   have aj:kvs.length=vs.length:=Paired.length r;exact wpAny_truthy_dict hS m (by omega) ⟨H,I.tok _,by rw[at2 r];exact q⟩
 |_=>exact (show False from e).elim
theorem at4 (ha:PE X a ta)(he:∀whole,isTrue a X.env whole=(do let v <- whole;standAt a.pos;holding [v] (truthy v))) :
  PT X a (λσ H Q=>ta σ H λx H'=>∃k,uT X.K x H' k/\Q k H'):=by
 intro ag s σ H Q I h;exact isTrue_plain (aO (ha ag s σ H _ I h) λv s1 ⟨x,H1,I1,r1,q1⟩=>at3 ag s1 σ H1 x v Q I1 r1 q1) (he _)
theorem fV {x:V}{us:List av}(r:aL [x] us):∃u,us = [u]/\aQ x u:=by
 cases r with
 |cons r1 r2=>cases r2;exact⟨_,rfl,r1⟩
theorem lG {x y:V}{us:List av}(r:aL [x,y] us):∃u w',us = [u,w']/\aQ x u/\aQ y w':=by
 cases r with
 |cons r1 r2=>
  cases r2 with
  |cons r3 r4=>cases r4;exact⟨_,_,rfl,r1,r3⟩
theorem at5 (hc:X.calm=true):cH X (.builtin "max") (λxs H Q=>∃i j,xs = [.int i,.int j]/\Q (.int (if j>i then j else i)) H):=by
 intro ag s σ H xs us Q I r h
 obtain⟨i,j,rfl,q⟩:=h
 obtain⟨u,w',rfl,⟨t,rfl⟩,⟨t',rfl⟩⟩:=lG r
 refine max_two_ints (I.ok.hd hc) λh' tk k=>⟨_,H,I.kept k,?_,q⟩
 by_cases hj:j>i
 ·rw[if_pos hj,if_pos hj];exact⟨_,rfl⟩
 ·rw[if_neg hj,if_neg hj];exact⟨_,rfl⟩
theorem at6 (hc:X.calm=true):cH X (.builtin "min") (λxs H Q=>∃i j,xs = [.int i,.int j]/\Q (.int (if j<i then j else i)) H):=by
 intro ag s σ H xs us Q I r h
 obtain⟨i,j,rfl,q⟩:=h
 obtain⟨u,w',rfl,⟨t,rfl⟩,⟨t',rfl⟩⟩:=lG r
 refine min_two_ints (I.ok.hd hc) λh' tk k=>⟨_,H,I.kept k,?_,q⟩
 by_cases hj:j<i
 ·rw[if_pos hj,if_pos hj];exact⟨_,rfl⟩
 ·rw[if_neg hj,if_neg hj];exact⟨_,rfl⟩
end
structure uU (h:Heap)(x dx C:ay)(mA:Str->Option av):Prop where
 obj:h.get? x=some (PySem.W.instObj C dx)
 ns:h.Ns1 dx mA
 ne:dx≠x
theorem at7 {h:Heap}{dx:ay}{mA:Str->Option av}(n:h.Ns1 dx mA):∃od,h.get? dx=some od/\∀name,PySem.W.lookIn name od=some (mA name):=by
 obtain⟨o,es,ep,ho,hd,hk,_,hm⟩:=n
 refine⟨o,ho,λname=>?_⟩;have e:=hm name;unfold nsFind findBy at e;rw[<- Array.find?_toList]at e;unfold PySem.W.lookIn;rw[hd];dsimp only;split
 ·rename_i y q
  rw[q]at e;exact congrArg some e
 ·rename_i q
  rw[q]at e;have a:es.toList.any (·.refKey)=false:=by
   rw[List.any_eq_false];intro y hy
   obtain⟨z,t,hkey⟩:=hk y (Array.mem_toList_iff.mp hy)
   simp[DictEntry.refKey,hkey]
  have a':¬es.toList.any (·.refKey)=true:=by rw[a];exact br3
  rw[if_neg a'];exact congrArg some e
theorem uU.look {h:Heap}{x dx C:ay}{mA:Str->Option av}(I:uU h x dx C mA):∃od,PySem.W.InstAt h x (PySem.W.instObj C dx) C (some od)/\∀name,PySem.W.lookIn name od=some (mA name):=
 let ⟨od,ho,hl⟩:=at7 I.ns
 ⟨od,⟨I.obj,rfl,rfl,ho⟩,hl⟩
theorem gH.some_of {v:V}{o:Option av}(r:gH (some v) o):∃u,o=some u/\aQ v u:=by
 cases o with
 |none=>exact (show False from r).elim
 |some u=>exact⟨u,rfl,r⟩
section
variable {P:az}{w:bc}{H H':Hp}{h h':Heap}{a C dx:ay}{fs fs':List (Str×V)}
theorem at8 (hok:bW P w H h)(e:H a=some (.ins C dx fs)):∃mA,uU h a dx C mA/\(∀f,gH (fs.lookup f) (mA f))/\PySem.Within mA (fs.map (·.1))/\fs.length<=1000/\H dx=some (.own a):=by
 obtain⟨d,z,ne,ob,mA,n,r,q⟩:=(show bN P w H h a (.ins C dx fs) from hok a _ e)
 exact⟨mA,⟨ob,n,ne⟩,r,q,z,d⟩
end
structure uV (K:ac)(C:ay):Prop where
 pg:PySem.W.plainGet K C Str.empty=true
 hd:PySem.W.hasDictIn K C=true
 po:PySem.W.plainOver K C=true
 sa:PySem.W.findIn K (.ref C) "__setattr__" = some (some (.builtin "object.__setattr__"))
theorem uV.get {K:ac}{C:ay}(c:uV K C)(f:Str):PySem.W.plainGet K C f=true:=c.pg
section
variable {X:Cx}{ag:List (ay×Obj)}{σ:St}{H:Hp}{s:ax}{A:ba}{E:av→ax→Prop}{Q:av→ax→Prop}{c:av}{b:Bool}
inductive fW (K:ac)(H:Hp):V->av->Prop where
 |non:fW K H .non (.type "NoneType")
 |bl (x:Bool):fW K H (.bl x) (.type "bool")
 |int (i:Int):fW K H (.int i) (.type "int")
 |str (x:Str):fW K H (.str x) (.type "str")
 |flt (x:UInt64):fW K H (.flt x) (.type "float")
 |lst {a:ay}{xs:List V} (e:H a=some (.lst xs)):fW K H (.ref a) (.type "list")
 |frz {a:ay}{o:Obj}{xs:List V} (e:H a=some (.frz o (.lst xs))):fW K H (.ref a) (.type "list")
 |tup {a:ay}{xs:List V} (e:H a=some (.tup xs)):fW K H (.ref a) (.type "tuple")
 |dK {a:ay}{kvs:List (aI×V)} (e:H a=some (.dK kvs)):fW K H (.ref a) (.type "dict")
 |dT {a:ay}{kvs:List (List aI×V)} (e:H a=some (.dT kvs)):fW K H (.ref a) (.type "dict")
 |ins {a C dx:ay}{fs:List (Str×V)} (e:H a=some (.ins C dx fs)) (cl:uV K C) (ha:PySem.W.findIn K (.ref C) "__class__" = some (some (.builtin "object.__class__")))
   (hn:PySem.W.specialIn K (.builtin "object.__class__") "__get__" = some (some (.builtin "getset_descriptor.__get__"))) (htk:PySem.W.takesIn K (.builtin "object.__class__")=some true)
   (hm:PySem.W.mroIn K C (.type "object")=some true):fW K H (.ref a) (.ref C)
theorem at9 {x:V}{u t:av}(I:a8 X ag σ H s)(rx:aQ x u)(ty:fW X.K H x t)(e:PySem.W.kitOne X.K t c=some b)(h:∀tk,Q (.bool b) { s with toks:=tk }) :
  wpAny (model X.prog X.w) A (call (.builtin "isinstance") [u,c]) Q E s:=by
 cases ty with
 |non=>cases (show u=Value.none from rx);exact bz7 PySem.W.kitx_none I.kIn bH4 e (λz=>nomatch z) h
 |bl y=>cases (show u=Value.bool y from rx);exact bz7 PySem.W.kitx_bool I.kIn bH4 e (λz=>nomatch z) h
 |int i=>obtain⟨t,q⟩:=(show ∃t,u=Value.int i t from rx);cases q;exact bz7 PySem.W.kitx_int I.kIn bH4 e (λz=>nomatch z) h
 |str y=>obtain⟨t,q⟩:=(show ∃t,u=Value.str y t from rx);cases q;exact bz7 PySem.W.kitx_str I.kIn bH4 e (λz=>nomatch z) h
 |flt y=>obtain⟨t,q⟩:=(show ∃t,u=Value.float y t from rx);cases q;exact bz7 PySem.W.kitx_float I.kIn bH4 e (λz=>nomatch z) h
 |@lst a xs ea=>
  cases (show u=Value.ref a from rx)
  obtain⟨_,_,n,_,h1⟩:=(show bN X.prog X.w H s.heap a (.lst xs) from I.hok a _ ea)
  exact bz7 PySem.W.kitx_list I.kIn ⟨_,h1,rfl⟩ e (λz=>nomatch z) h
 |@frz a ob xs ea=>
  cases (show u=Value.ref a from rx)
  obtain⟨_,_,_,n,_,h1⟩:=(show bN X.prog X.w H s.heap a (.frz ob (.lst xs)) from I.hok a _ ea)
  exact bz7 PySem.W.kitx_list I.kIn ⟨_,h1,rfl⟩ e (λz=>nomatch z) h
 |@tup a xs ea=>
  cases (show u=Value.ref a from rx)
  obtain⟨_,_,_,p,_⟩:=(show bN X.prog X.w H s.heap a (.tup xs) from I.hok a _ ea)
  obtain⟨o,h1,h2,_⟩:=p
  exact bz7 PySem.W.kitx_tuple I.kIn ⟨o,h1,h2⟩ e (λz=>nomatch z) h
 |@dK a kvs ea=>
  cases (show u=Value.ref a from rx)
  obtain⟨_,_,vs,_,p⟩:=(show bN X.prog X.w H s.heap a (.dK kvs) from I.hok a _ ea)
  obtain⟨o,es,ep,h1,h2,_⟩:=p
  exact bz7 PySem.W.kitx_dict I.kIn ⟨o,h1,h2.1⟩ e (λz=>nomatch z) h
 |@dT a kvs ea=>
  cases (show u=Value.ref a from rx)
  obtain⟨_,_,xs,_,o,es,ep,h1,h2,_⟩:=(show bN X.prog X.w H s.heap a (.dT kvs) from I.hok a _ ea)
  exact bz7 PySem.W.kitx_dict I.kIn ⟨o,h1,h2.1⟩ e (λz=>nomatch z) h
 |@ins a C dx fs ea cl ha hn htk hm=>
  cases (show u=Value.ref a from rx)
  obtain⟨mA,O,_⟩:=at8 I.hok ea
  obtain⟨od,J,_⟩:=O.look
  exact bz7 (PySem.W.kitx_own (cl.get _) cl.hd ha hn htk hm) I.kIn J e (λz=>nomatch z) h
end
structure cI (k:Nat)(A:ba):Prop where
 hd:A.handled=none
 dp:A.depth+3*k+5<recursionLimit
 un:A.units+16*k+200<cLine
theorem cI.mono {j k:Nat}{A:ba}(r:cI k A)(h:j<=k):cI j A:=⟨r.hd,by have:=r.dp;omega,by have:=r.un;omega⟩
theorem cI.deeper {k:Nat}{A:ba}(r:cI (k+1) A)(env:Env):cI k (A.deeper env):=
 ⟨r.hd,by have:=r.dp;show A.depth+1+3*k+5<_;omega,by have:=r.un;show A.units+3+16*k+200<_;omega⟩
theorem cI.depth {k:Nat}{A:ba}(r:cI k A):A.depth<recursionLimit:=by have:=r.dp;omega
theorem cI.units {k:Nat}{A:ba}(r:cI k A):A.units+64<cLine:=by have:=r.un;omega
noncomputable def kJ:TA:=λ_ H Q=>Q [] H
noncomputable def iT (ta:TE)(tr:TA):TA:=λσ H Q=>ta σ H λx H1=>tr σ H1 λxs H2=>Q (x::xs) H2
section
variable {X:Cx}{e:Expr}{es:List Expr}{te:TE}{t:TA}{pos:Pos}
theorem jD:PA X [] kJ:=λ_ _ _ _ H Q I h=>Calls.spliced_nil ⟨[],H,I,.nil,h⟩
theorem gW (ha:PE X e te)(hr:PA X es t)(hs:starEach (e::es) X.env=(false,eval e X.env)::starEach es X.env:=by rfl):PA X (e::es) (iT te t):=by
 intro pos ag s σ H Q I h;rw[hs];show wpAny _ _ (spliced ((false,eval e X.env)::backTo pos (starEach es X.env))) _ _ s;refine Calls.spliced_cons (aO (ha ag s σ H _ I h) λu s1 ⟨x,H1,I1,r1,q1⟩=>?_);exact aO (hr pos ag s1 σ H1 _ I1 q1) λus s2 ⟨xs,H2,I2,r2,q2⟩=>⟨x::xs,H2,I2,.cons r1 r2,q2⟩
noncomputable def B0 (t:TA):TE:=λσ H Q=>t σ H λxs H1=>xs.length<=sizeLine/\∀p,H1 p=none->Q (.ref p) (upd H1 p (.tup xs))
noncomputable def B1 (t:TA):TE:=λσ H Q=>t σ H λxs H1=>xs.length<=sizeLine/\∀p,H1 p=none->Q (.ref p) (upd H1 p (.lst xs))
theorem au0 {x1}(h:PA X es t):PE X (.Tuple es x1 pos) (B0 t):=by
 intro ag s σ H Q I hq;refine wpAny_Tuple_spliced (aO (h pos ag s σ H _ I hq) λus s1 ⟨xs,H1,I1,r,z,q⟩=>⟨by rw[<- r.length];exact z,?_⟩);have hf:H1 s1.heap.objs.size=none:=I1.hok.fresh (bp7 _);refine⟨.ref s1.heap.objs.size,upd H1 s1.heap.objs.size (.tup xs),I1.laid (t':=s1.toks) (λb u e=>bo4 _ e) (bp7 _) ?_,rfl,q _ hf⟩
 exact⟨z,us,r,⟨_,bp4 _ rfl,rfl,_,rfl⟩,jA.new _ _ rfl⟩
theorem au1 (h:PA X es t):PE X (.List es pos) (B1 t):=by
 intro ag s σ H Q I hq;refine wpAny_List_spliced (aO (h pos ag s σ H _ I hq) λus s1 ⟨xs,H1,I1,r,z,q⟩=>⟨by rw[<- r.length];exact z,?_⟩);have hf:H1 s1.heap.objs.size=none:=I1.hok.fresh (bp7 _);refine⟨.ref s1.heap.objs.size,upd H1 s1.heap.objs.size (.lst xs),I1.laid (t':=s1.toks) (λb u e=>bo4 _ e) (bp7 _) ?_,rfl,q _ hf⟩
 exact⟨z,us,0,r,bp4 _ rfl⟩
end
noncomputable abbrev Sp:=List V->Hp->VK->XK->Prop
noncomputable abbrev gX:=List Env->Hp->ax->XK->av->ax->Prop
structure qO (P:az)(w:bc)(K:ac)(mg:Str->Option av)(base:Heap)(A:ba)(outer:List Env)(s:ax)(H:Hp):Prop where
 frames:A.frames=some outer
 mod:Mod K mg base
 bs:∀b o,base.get? b=some o->s.heap.get? b=some o/\H b=none
 bsz:base.objs.size<=s.heap.objs.size
 funs:s.heap.FunFrames base outer
 frf:∀b∈cC outer,H b=none
 hok:bW P w H s.heap
 bare:AllBare s.gens
noncomputable def CE (outer:List Env)(P:az)(w:bc)(H:Hp)(s:ax)(Q:VK)(u:av)(s':ax):Prop:=
 ∃v H',s'.os=s.os/\AllBare s'.gens/\Un (cC outer) [] H H' s.heap s'.heap/\bW P w H' s'.heap/\aQ v u/\Q v H'
noncomputable def CR (CX:gX)(outer:List Env)(P:az)(w:bc)(H:Hp)(s:ax)(Q:VK)(E:XK)(r:Result)(s':ax):Prop:=
 match r with
 |.ok (.ret u)=>CE outer P w H s Q u s'
 |.ok _=>False
 |.error e=>CX outer H s E e s'
structure dX (P:az)(w:bc)(K:ac)(mg:Str->Option av)(base:Heap)(CX:gX)(k:Nat)(f:ay)(fd:FuncData)(ps:List Str)(sp:Sp):Prop where
 len:∀vs H Q E,sp vs H Q E->vs.length=ps.length
 run:∀(A:ba) (outer:List Env) (s:ax) (H:Hp) (args:Args) (us:List av) (vs:List V) (Q:VK) (E:XK),cI k A->qO P w K mg base A outer s H->BindsTo s fd args (ps.zip us)->aL vs us->sp vs H Q E->
  codeAny (model P w) A (.call (.ref f) args) (CR CX outer P w H s Q E) s
theorem dX.imp {P:az}{w:bc}{K:ac}{mg:Str->Option av}{base:Heap}{CX:gX}{k:Nat}{f:ay}{fd:FuncData}{ps:List Str}{sp sp':Sp}(F:dX P w K mg base CX k f fd ps sp)(h:∀vs H Q E,sp' vs H Q E->sp vs H Q E):dX P w K mg base CX k f fd ps sp':=
 ⟨λvs H Q E q=>F.len vs H Q E (h _ _ _ _ q),λA outer s H args us vs Q E hr he hb hv hs=>F.run A outer s H args us vs Q E hr he hb hv (h _ _ _ _ hs)⟩
section
variable {X:Cx}{ag:List (ay×Obj)}{σ:St}{H:Hp}{s s':ax}
theorem a8.env0 (I:a8 X ag σ H s):qO X.prog X.w X.K X.mg X.base X.A X.stack s H:=
 ⟨I.ok.frames,I.ok.mod,I.bs,bs7 I.ok.bsz I.sz,I.stack,I.stkFree,I.hok,I.bare⟩
theorem a8.after {Q:VK}{u:av}(I:a8 X ag σ H s)(h:CE X.stack X.prog X.w H s Q u s'):EP X ag σ Q u s':=by
 obtain⟨v,H',os,bare,un,hok,r,q⟩:=h
 obtain⟨hh,g,d,t,os'⟩:=s'
 obtain rfl:os'=s.os:=os
 exact⟨v,H',I.call (h':=hh) (g':=g) (d':=d) (t':=t) (ch:=[]) un hok bare (λb z=>absurd z (by simp)),r,q⟩
end
noncomputable def uW (sp:Sp)(dvs:List V)(E:XK)(t:TA):TE:=λσ H Q=>t σ H λvs H1=>sp (vs++dvs) H1 Q E
noncomputable def lH (K:ac)(fd:FuncData)(ps:List Str)(ds:List av):Prop:=
 ∀(s:ax) (us:List av),K.In s.heap->(us++ds).length=ps.length->BindsTo s fd ⟨us,[]⟩ (ps.zip (us++ds))
theorem lH.all {K:ac}{fd:FuncData}{ps:List Str}(h:∀us:List av,us.length=ps.length->bindArgs fd ⟨us,[]⟩=pure (ps.zip us)):lH K fd ps []:=λs us _ hl=>by
 rw[bv0]at hl ⊢;exact .of_eq (h us hl)
noncomputable def oG (CX:gX)(X:Cx)(E:XK):Prop:=∀(ag:List (ay×Obj)) (σ:St) (H:Hp) (s:ax) (e:av) (s':ax),a8 X ag σ H s->CX X.stack H s E e s'->X.xe e s'
section
variable {X:Cx}{CX:gX}{k:Nat}{f C:ay}{fd:FuncData}{ps:List Str}{sp:Sp}{dvs:List V}{ds:List av}{E:XK}{x m:Str}{p pos ah:Pos}{e o:Expr}{es:List Expr}{ta:TE}{t:TA}
theorem au2 {ag:List (ay×Obj)}{σ:St}{H:Hp}{s:ax}{Q:VK}{us:List av}{vs:List V}(F:dX X.prog X.w X.K X.mg X.base CX k f fd ps sp)(hr:cI k X.A)(hb:lH X.K fd ps ds)(hd:aL dvs ds)(hx:oG CX X E)(I:a8 X ag σ H s)(r:aL vs us)(h:sp (vs++dvs) H Q E):wpAny (model X.prog X.w) X.A (call (.ref f) us) (EP X ag σ Q) X.xe s:=by
 have r2:aL (vs++dvs) (us++ds):=r.append hd;have hl:(us++ds).length=ps.length:=by rw[<- r2.length];exact F.len _ _ _ _ h
 refine wpAny_call (codeAny_mono (F.run X.A X.stack s H ⟨us,[]⟩ (us++ds) (vs++dvs) Q E hr I.env0 (hb s us I.kIn hl) r2 h) λr s' hq=>?_);cases r with
 |error e=>exact hx ag σ H s e s' I hq
 |ok fl=>
  cases fl with
  |ret u=>exact I.after hq
  |next=>exact False.elim hq
  |brk=>exact False.elim hq
  |cont=>exact False.elim hq
theorem uX (F:dX X.prog X.w X.K X.mg X.base CX k f fd ps sp)(hr:cI k X.A)(hg:Gl X x)(hm:X.mg x=some (.ref f))(hk:PySem.W.keepIn X.K (.ref f)=true)(hb:lH X.K fd ps ds)(hd:aL dvs ds)(hx:oG CX X E)(ha:PA X (e::es) t)(hdb:(x==("__debug__":Str))=false:=by decide)(he:starEach (e::es) X.env=(false,eval e X.env)::starEach es X.env:=by rfl)(hpl:(backTo pos (starEach es X.env)).any (·.1)=false:=by rfl) :
  PE X (.Call (.Name x p) (e::es) [] pos) (uW sp dvs E t):=by
 intro ag s σ H Q I h;refine wpAny_Call_Name_kw (uI I hg hm ?_ hdb);refine PySem.W.callWith_K (h₀:=X.base) I.ok.mod.kin hk (aO (ha pos ag s σ H _ I h) λus s1 ⟨vs,H1,I1,r,q⟩=>⟨I1.kIn,?_⟩) he hpl;exact au2 F hr hb hd hx I1 r q
end
noncomputable def PK (X:Cx)(kws:List Keyword)(t:TA):Prop:=
 ∀(pos:Pos) (ag:List (ay×Obj)) (s:ax) (σ:St) (H:Hp) (Q:List V->Hp->Prop),a8 X ag σ H s->t σ H Q->wpAny (model X.prog X.w) X.A (evalAll ((backToKw pos (keywordEach kws X.env)).map (·.2))) (AP X ag σ Q) X.xe s
structure FnScope (N P:List Str)(sc:Scope):Prop where
 kind:sc.kind = .function
 co:sc.isCoroutine=false
 gen:sc.isGenerator=false
 nd:N.Nodup
 pre:N.take P.length=P
 par:∀x∈P,sc.names.lookup x=some .local∨sc.names.lookup x=some .cell
 nofree:∀y∈sc.names,y.2≠.free
theorem B2 {kindOf:Str->Option NameKind}{x:Str}:∀{binds:List (Str×av)}{m:Str->Option av},(∀v,(x,v)∉binds)->bindL kindOf binds m x=m x
 |[],_,_=>rfl
 |(n,v)::r,m,h=>by
  unfold bindL;rw[B2 λw hw=>h w (bp0 _ hw)];split
  ·have:x≠n:=by rintro rfl;exact h v bp5
   simp[this]
  ·rfl
theorem B3 {kindOf:Str->Option NameKind}{x:Str}:∀{binds:List (Str×av)}{m:Str->Option av},(∀v,(x,v)∉binds)->bindC kindOf binds m x=m x
 |[],_,_=>rfl
 |(n,v)::r,m,h=>by
  unfold bindC;rw[B3 λw hw=>h w (bp0 _ hw)];split
  ·rfl
  ·have:x≠n:=by rintro rfl;exact h v bp5
   simp[this]
theorem B4 {kindOf:Str->Option NameKind}{x:Str}{v:av}:∀{P:List Str}{vs:List av}{i:Nat}{m:Str->Option av},P.Nodup->P[i]? = some x->vs[i]? = some v->kindOf x=some .local->
  bindL kindOf (P.zip vs) m x=some v
 |[],_,_,_,_,h,_,_=>by simp at h
 |_::_,[],_,_,_,_,h,_=>by simp at h
 |p::P,w::vs,0,m,nd,h1,h2,hk=>by
  simp at h1 h2;subst h1;subst h2;show bindL kindOf ((p,w)::P.zip vs) m p=_;unfold bindL;rw[B2 λv hv=>(bC1.mp nd).1 (List.of_mem_zip hv).1,if_pos hk];simp
 |p::P,w::vs,i+1,m,nd,h1,h2,hk=>by
  show bindL kindOf ((p,w)::P.zip vs) m x=_;unfold bindL;exact B4 (i:=i) (bC1.mp nd).2 (by simpa using h1) (by simpa using h2) hk
theorem B5 {kindOf:Str->Option NameKind}{x:Str}{v:av}:∀{P:List Str}{vs:List av}{i:Nat}{m:Str->Option av},P.Nodup->P[i]? = some x->vs[i]? = some v->kindOf x≠some .local->
  bindC kindOf (P.zip vs) m x=some v
 |[],_,_,_,_,h,_,_=>by simp at h
 |_::_,[],_,_,_,_,h,_=>by simp at h
 |p::P,w::vs,0,m,nd,h1,h2,hk=>by
  simp at h1 h2;subst h1;subst h2;show bindC kindOf ((p,w)::P.zip vs) m p=_;unfold bindC;rw[B3 λv hv=>(bC1.mp nd).1 (List.of_mem_zip hv).1,if_neg hk];simp
 |p::P,w::vs,i+1,m,nd,h1,h2,hk=>by
  show bindC kindOf ((p,w)::P.zip vs) m x=_;unfold bindC;exact B5 (i:=i) (bC1.mp nd).2 (by simpa using h1) (by simpa using h2) hk
noncomputable def gY (N:List Str)(vs:List V):St:=vs.map some++List.replicate (N.length-vs.length) none
noncomputable def dH (CX:gX)(P:az)(w:bc)(K:ac)(mg:Str->Option av)(base:Heap)(N:List Str)(qual:Str)(scope:Scope)(f:ay)(cd:av)(A:ba)(outer:List Env)(s:ax)(H:Hp)(E:XK):Cx where
 prog:=P
 w:=w
 K:=K
 mg:=mg
 base:=base
 A:=A.deeper (envOfC qual scope s.heap.objs.size f cd)
 N:=N
 s₀:=s
 H₀:=H
 env:=envOfC qual scope s.heap.objs.size f cd
 outer:=outer
 stack:=envOfC qual scope s.heap.objs.size f cd::outer
 ex:=[]
 calm:=true
 fn:=λ_=>true
 pn:=[]
 xe:=λe s'=>wpAny (model P w) (A.deeper (envOfC qual scope s.heap.objs.size f cd)) (leaving (envOfC qual scope s.heap.objs.size f cd) e) (λ_ s''=>CX outer H s E e s'') (λe' s''=>CX outer H s E e' s'') s'
theorem B6 {sc:Scope}{n:Nat}{x:Str}(h:sc.names.lookup x=some .cell):∃c,(cellsFrom n sc.names []).lookup x=some c:=by
 have q:=PySem.W.cellsFrom_some sc.names n [] (.inl h);exact Option.isSome_iff_exists.mp q
theorem au3 {CX:gX}{P:az}{w:bc}{K:ac}{mg:Str->Option av}{base:Heap}{N ps:List Str}{qual:Str}{scope:Scope}{f:ay}{cd:av}{A:ba}{outer:List Env}{s s1:ax}{H:Hp}{E:XK}{us:List av}{vs:List V}(S:FnScope N ps scope)(hd:A.handled=none)(e0:qO P w K mg base A outer s H)(hl:vs.length=ps.length)(r:aL vs us)(x:InCallC s s.heap.objs.size (bindL (envOfC qual scope s.heap.objs.size f cd).kindOf (ps.zip us) λ_=>none) (cellsFrom (s.heap.objs.size+1) scope.names []) (bindC (envOfC qual scope s.heap.objs.size f cd).kindOf (ps.zip us) λ_=>none) s1) :
  a8 (dH CX P w K mg base N qual scope f cd A outer s H E) [] (gY N vs) H s1:=by
 have hpl:ps.length<=N.length:=by have:=congrArg List.length S.pre;rw[bA8]at this;omega
 obtain⟨h1,tk,rfl,hk⟩:=x.done
 have noA:∀b:ay,b∉(dH CX P w K mg base N qual scope f cd A outer s H E).ex:=λb z=>absurd (show b∈([]:List ay) from z) (by simp)
 refine⟨⟨e0.mod,S.kind,rfl,rfl,bp7 _,λy z c h1 h2=>?_,λy hy=>?_,λy c _ h=>?_,λ_=>hd,Around.frames_deeper e0.frames,.inr ⟨rfl,rfl⟩,λb z=>absurd z (noA b),e0.bs,e0.bsz,λb _ _=>noA b,λb z=>absurd z (noA b),e0.funs,e0.frf⟩,
  rfl,e0.bare,Un.kept hk,⟨_,x.toInCall.ns,λi y v h1 h2 h3=>?_⟩,λy c h=>⟨_,x.cell y c h⟩,e0.hok.fresh (bp7 _),λy c h=>?_,λp hp=>absurd (show p∈([]:List (ay×Obj)) from hp) (by simp),e0.hok.kept hk,?_⟩
 ·exact name_of_addr x.apart (bw7 h1) (bw7 h2)
 ·have hy:scope.names.lookup y=some .cell∨scope.names.lookup y=some .free:=hy
  rcases hy with hy|hy
  ·exact B6 hy
  ·exact absurd rfl (S.nofree _ (bw7 hy))
 ·exact by8 (x.above y c (bw7 h))
 ·have hi:i<vs.length:=by
   unfold gY at h2;by_cases hi:i<vs.length
   ·exact hi
   ·rw[bC7 (by simpa using hi)]at h2
    rw[List.getElem?_replicate]at h2;split at h2<;>cases h2
  have ha:vs[i]? = some v:=by
   unfold gY at h2;rw[bB4 (by simpa using hi),bq6]at h2;cases e:vs[i]? with
   |none=>rw[e]at h2;cases h2
   |some a=>rw[e]at h2;cases h2;rfl
  obtain⟨u,hu,rv⟩:=r.get ha
  have hp:ps[i]? = some y:=by
   rw[<- S.pre,List.getElem?_take_of_lt (by omega)];exact h1
  have ndP:ps.Nodup:=by rw[<- S.pre];exact S.nd.sublist (List.take_sublist _ _)
  refine⟨u,rv,?_⟩;rcases S.par y (bD9 hp) with k|k
  ·exact .inl ⟨k,B4 ndP hp hu k⟩
  ·obtain⟨c,e⟩:=B6 (n:=s.heap.objs.size+1) k
   refine .inr ⟨.inl k,c,e,?_⟩;have q:=x.cell y c e;rw[B5 ndP hp hu (by show scope.names.lookup y≠_;rw[k];decide)]at q;exact q
 ·exact e0.hok.fresh (by8 (x.above y c (bw7 h)))
 ·unfold gY
  show _=N.length;rw[br0,bo7,List.length_replicate];omega
theorem B7 {CX:gX}{P:az}{w:bc}{K:ac}{mg:Str->Option av}{base:Heap}{k:Nat}{f:ay}{name qual:Str}{params:Arguments}{body:List Stmt}{scope:Scope}{dV kV doc pm cdv ct oc:av}{an od:Option ay}{osl:Array (Option av)}{N ps:List Str}{sp:Sp}(lk:K.lookup f=some ⟨oc,od,.func (PySem.W.fnOf name qual params body scope dV kV doc pm an cdv ct),osl⟩)(hcd:PySem.W.codeIn K cdv qual=true)(S:FnScope N ps scope)(len:∀vs H Q E,sp vs H Q E->vs.length=ps.length)(hbody:∀(A:ba) (outer:List Env) (s:ax) (H:Hp) (vs:List V) (Q:VK) (E:XK),cI k (A.deeper (envOfC qual scope s.heap.objs.size f cdv))->sp vs H Q E->
   ∃t,eI (dH CX P w K mg base N qual scope f cdv A outer s H E) body t/\t { nx:=λ_ H'=>Q .non H',rt:=Q } (gY N vs) H) :
  dX P w K mg base CX (k+1) f (PySem.W.fnOf name qual params body scope dV kV doc pm an cdv ct) ps sp:=by
 refine⟨len,λA outer s H args us vs Q E hr e0 hb r hsp=>?_⟩;have hl:=len _ _ _ _ hsp;have KX:K.In s.heap:=e0.mod.kin.keeps λb o e=>(e0.bs b o e).1
 have lim:s.heap.NoLimit:=e0.mod.nolimit.keeps λb o e=>(e0.bs b o e).1
 have hkind:∀y∈ps.zip us,scope.names.lookup y.1=some .local∨(scope.names.lookup y.1=some .cell/\((cellsFrom (s.heap.objs.size+1) scope.names []).lookup y.1).isSome=true):=λ⟨n,v⟩ hy=>by
  rcases S.par n (List.of_mem_zip hy).1 with q|q
  ·exact .inl q
  ·exact .inr ⟨q,PySem.W.cellsFrom_some _ _ _ (.inl q)⟩
 refine codeAny_call_function hr.depth (KX _ _ lk) rfl S.co S.gen rfl (PySem.W.codeRec_of KX hcd) (hb _ _ _ _ ?_);refine wpAny_newFunctionEnv_cells S.kind hkind λenv he s1 x=>?_
 subst he;refine⟨lim.keeps x.toInCall.keep,codeAny_func ?_⟩
 obtain⟨t,ht,hq⟩:=hbody A outer s H vs Q E (hr.deeper _) hsp
 have I:a8 (dH CX P w K mg base N qual scope f cdv A outer s H E) [] (gY N vs) H s1:=au3 S hr.hd e0 hl r x;refine bx4 (ht [] s1 (gY N vs) H _ I hq) (λfl s' hs=>?_) λe s' hs=>hs
 have fin:∀{σ':St}{H':Hp}{v:V}{u:av},a8 (dH CX P w K mg base N qual scope f cdv A outer s H E) [] σ' H' s'->aQ v u->Q v H'->CE outer P w H s Q u s':=
  λ{σ' H' v u} J rv q=>⟨v,H',J.os,J.bare,J.base,J.hok,rv,q⟩
 cases fl with
 |ret u=>
  obtain⟨v,σ',H',J,rv,q⟩:=hs
  exact fin J rv q
 |next=>
  obtain⟨σ',H',J,q⟩:=hs
  exact fin (v:=V.non) (u:=Value.none) J rfl q
 |brk=>
  obtain⟨_,_,_,q⟩:=hs
  exact False.elim q
 |cont=>
  obtain⟨_,_,_,q⟩:=hs
  exact False.elim q
section
variable {X:Cx}{x:Str}{p pos:Pos}{e:Expr}{es:List Expr}{t:TA}{id T:String}{r:List V→Hp→VK→Prop}
noncomputable def uY (r:List V->Hp->VK->Prop)(t:TA):TE:=λσ H Q=>t σ H λvs H1=>r vs H1 Q
theorem uZ (hc:cH X (.builtin id) r)(hg:Gl X x)(hm:X.mg x=none)(hv:bootBuiltins x=some (.builtin id))(ha:PA X (e::es) t)(hn:x≠"__name__":=by decide)(hdb:(x==("__debug__":Str))=false:=by decide)(he:starEach (e::es) X.env=(false,eval e X.env)::starEach es X.env:=by rfl)(hpl:(backTo pos (starEach es X.env)).any (·.1)=false:=by rfl):PE X (.Call (.Name x p) (e::es) [] pos) (uY r t):=by
 intro ag s σ H Q I h;refine wpAny_Call_Name_kw (lE I hg hm hv ?_ hn hdb);exact PyProof.Rows.callWith_builtin1 (aO (ha pos ag s σ H _ I h) λus s1 ⟨vs,H1,I1,r1,q1⟩=>hc ag s1 σ H1 vs us Q I1 r1 q1) he hpl
theorem B8 (hc:cH X (.type T) r)(hg:Gl X x)(hm:X.mg x=none)(hv:bootBuiltins x=some (.type T))(ha:PA X (e::es) t)(hn:x≠"__name__":=by decide)(hdb:(x==("__debug__":Str))=false:=by decide)(he:starEach (e::es) X.env=(false,eval e X.env)::starEach es X.env:=by rfl)(hpl:(backTo pos (starEach es X.env)).any (·.1)=false:=by rfl):PE X (.Call (.Name x p) (e::es) [] pos) (uY r t):=by
 intro ag s σ H Q I h;refine wpAny_Call_Name_kw (lE I hg hm hv ?_ hn hdb);exact bC5 (aO (ha pos ag s σ H _ I h) λus s1 ⟨vs,H1,I1,r1,q1⟩=>hc ag s1 σ H1 vs us Q I1 r1 q1) he hpl
end
end L2
namespace HT
open PySem PyProof.Rows
noncomputable def aH:ae->ae->Bool
 |[],[]=>false
 |[],_::_=>true
 |_::_,[]=>false
 |x::xs,y::ys=>if x=y then aH xs ys else decide (x<y)
theorem fX (x y:Int)(xs ys:ae):aH (x::xs) (y::ys)=if x=y then aH xs ys else decide (x<y):=rfl
theorem oH:aH [] []=false:=rfl
theorem B9 (y:Int)(ys:ae):aH [] (y::ys)=true:=rfl
theorem C0 (x:Int)(xs:ae):aH (x::xs) []=false:=rfl
theorem C1 (A:ba)(s:ax)(a:Int)(t:Tok)(c:Int)(u:Tok):∃e,SeqAt.EqAt A s (.int a t) (.int c u) e/\(e=true↔a=c):=
 ⟨(a==c),SeqAt.EqAt.int_int a t c u,by simp⟩
theorem au4 (A:ba)(s:ax)(a:Int)(t:Tok)(c:Int)(u:Tok)(prog:az)(w:bc)(E:av->ax->Prop)(Q:av->ax->Prop)(h:Q (.bool (decide (a<c))) s) :
  wpAny (model prog w) A (richCompare .Lt (.int a t) (.int c u)) Q E s:=
 (PyProof.Rows.lt_int h:wpAny (model prog w) A (compareOp .Lt (.int a t) (.int c u)) Q E s)
section
open PySem.SeqAt
open PySem.MeetsSeq PySem.MeetsSeq2 PySem.MeetsSeq3
theorem au5 (l b:ay)(items items2:Array av)(n n2:Nat)(dd dd2:Option ay)(sl sl2:Array (Option av))(ns ms:ae)(hi:IntsAre items.toList ns)(hj:IntsAre items2.toList ms) :
  Meets (Builtin.«tuple.__lt__» ⟨[.ref l,.ref b],[]⟩)
   (λ_ R s=>s.heap.get? l=some { cls:=.type "tuple",dict:=dd,data:=.seq items n,slots:=sl }/\s.heap.get? b=some { cls:=.type "tuple",dict:=dd2,data:=.seq items2 n2,slots:=sl2 }/\
    R (.ok (.ret (.bool (aH ns ms)))) s):=
 .of_wp λprog w A R s h=>by
  obtain⟨hp,g,d,tk,os⟩:=s;obtain⟨hl,hb,h⟩:=h
  have f2:=AutoSeq1.sub_tuple_tuple;have z1:items.size=ns.length:=by rw[<- hi.length];simp
  have z2:items2.size=ms.length:=by rw[<- hj.length];simp
  wp_walk using bA4 hl,bA4 hb,wpAny_forIn_list _ (λb9 b s'=>b.1=none/\s'=⟨hp,g,d,tk,os⟩/\∃(vs ws:List av) (ns' ms':ae),b9=vs.zip ws/\
   IntsAre vs ns'/\IntsAre ws ms'/\ns'.length+items2.size=ms'.length+items.size/\R (.ok (.ret (.bool (aH ns' ms')))) ⟨hp,g,d,tk,os⟩) _
  case turn=>
   rintro⟨y,x⟩ b9 b s' ⟨hb',rfl,vs,ws,ns',ms',hz,hvi,hwi,aj,hR⟩
   cases hvi with
   |nil=>rw[List.zip_nil_left]at hz;cases hz
   |cons a t hvi'=>
    cases hwi with
    |nil=>rw[List.zip_nil_right]at hz;cases hz
    |cons c u hwi'=>
     rw[by4]at hz;injection hz with hyx hrest
     injection hyx with hy hx
     subst hy hx;rw[fX]at hR;simp only[bs9]at aj
     obtain⟨e,he,hiff⟩:=C1 A.in1 ⟨hp,g,d,tk,os⟩ a t c u
     refine bo2 (he prog w _ _ ?_);cases e with
     |true=>
      rw[if_pos (hiff.mp rfl)]at hR
      wp_walk
      exact⟨rfl,rfl,_,_,_,_,hrest,hvi',hwi',by omega,hR⟩
     |false=>
      rw[if_neg (λq=>absurd (hiff.mpr q) br3)]at hR;have hri:=au4 A.in1 ⟨hp,g,d,tk,os⟩ a t c u prog w
      wp_walk using hri
      exact⟨_,rfl,by simpa using hR⟩
  case fin=>
   rintro⟨b1,b2⟩ s' ⟨hb',rfl,vs,ws,ns',ms',hz,hvi,hwi,aj,hR⟩
   simp only at hb';subst hb';have hv:aH ns' ms'=decide (items.size<items2.size):=by
    cases hvi with
    |nil=>
     cases hwi with
     |nil=>
      simp only[bE2]at aj;rw[oH];exact (bp6 (by omega)).symm
     |cons c u hw=>
      simp only[bE2,bs9]at aj;rw[B9];exact (bp8 (by omega)).symm
    |cons a t hv=>
     cases hwi with
     |nil=>
      simp only[bE2,bs9]at aj;rw[C0];exact (bp6 (by omega)).symm
     |cons c u hw=>
      rw[by4]at hz;cases hz
   rw[hv]at hR
   wp_walk
   exact⟨_,rfl,by simpa[Builtin.Tuple.tupleCompareSizes] using hR⟩
  case h=>
   exact⟨rfl,rfl,items.toList,items2.toList,ns,ms,rfl,hi,hj,by omega,h⟩
end
section
variable {prog:az}{w:bc}{A:ba}{E:av→ax→Prop}{s:ax}
theorem C2 {l b:ay}{items items2:Array av}{ns ms:ae}{Q:av->ax->Prop}(hl:IsTup s.heap l items)(hb:IsTup s.heap b items2)(hi:IntsAre items.toList ns)(hj:IntsAre items2.toList ms)(hu:A.units<cLine)(h:Q (.bool (aH ns ms)) s):wpAny (model prog w) A (compareOp .Lt (.ref l) (.ref b)) Q E s:=by
 obtain⟨⟨cls,dd,data,sl⟩,ho,hc,n,hd⟩:=id hl
 obtain⟨⟨cls2,dd2,data2,sl2⟩,ho2,hc2,n2,hd2⟩:=id hb
 simp only at hc hd hc2 hd2;subst hc hd hc2 hd2;exact richCompare_meets_room (op:=.Lt) ⟨_,ho,rfl⟩ ⟨_,ho2,rfl⟩ PySem.F.slot_tuple_lt PySem.F.entry_tuple_lt (PySem.F.args_tuple_lt_2 _ _) (au5 l b items items2 n n2 dd dd2 sl sl2 ns ms hi hj)
  ⟨ho,ho2,show Value.bool (aH ns ms)≠Value.notImplemented/\Q (.bool (aH ns ms)) s from ⟨(λx=>nomatch x),h⟩⟩ hu
noncomputable def aY (n d:Nat):Option Int->Nat
 |none=>d
 |some v=>if v<0 then (v+(n:Int)).toNat else min v.toNat n
theorem au6 (n d:Nat):aY n d none=d:=rfl
theorem au7 (n d:Nat)(hd:d<=n)(o:Option Int):aY n d o<=n:=by
 cases o with
 |none=>exact hd
 |some v=>
  show (if v<0 then (v+(n:Int)).toNat else min v.toNat n)<=n;by_cases hv:v<0
  ·rw[if_pos hv];omega
  ·rw[if_neg hv];exact Nat.min_le_right _ _
theorem C3 (v:Int)(n d:Nat):(if v<0 then max (v+(n:Int)) 0 else min v (n:Int))=((aY n d (some v):Nat):Int):=by
 show (if v<0 then max (v+(n:Int)) 0 else min v (n:Int))=(((if v<0 then (v+(n:Int)).toNat else min v.toNat n):Nat):Int);by_cases hv:v<0
 ·simp only[if_pos hv];omega
 ·simp only[if_neg hv];omega
theorem au8 (lo hi:Option Int)(n:Nat):Builtin.Slice.sliceAdjust lo hi 1 (n:Int)=(((aY n 0 lo:Nat):Int),((aY n n hi:Nat):Int)):=by
 have h1:¬((1:Int)<0):=by omega
 unfold Builtin.Slice.sliceAdjust;simp only[h1,bu2];refine bC8 ?_ ?_
 ·cases lo with
  |none=>rfl
  |some v=>exact C3 v n 0
 ·cases hi with
  |none=>rfl
  |some v=>exact C3 v n n
theorem au9 (i j:Nat):Builtin.Slice.slicePlaces (i:Int) (j:Int) 1=j-i:=by
 unfold Builtin.Slice.slicePlaces;have h1:(1:Int)>0:=by omega
 simp only[h1,if_true,Int.ediv_one];split<;>omega
theorem C4 {v:av}{o:Option Int}{Q:Option Int->ax->Prop}(p:IsPart v o)(h:Q o s):wpAny (model prog w) A (Builtin.Slice.slicePartIndex v) Q E s:=by
 cases p with
 |none=>exact slicePart_none h
 |int i t=>exact slicePart_int h
theorem C5 {sl:ay}{vl vu:av}{lo hi:Option Int}{n:Nat}{Q:Int×Int×Nat->ax->Prop}(hs:s.heap.IsSliceOf sl vl vu .none)(pl:IsPart vl lo)(pu:IsPart vu hi)(h:Q (((aY n 0 lo:Nat):Int),1,aY n n hi-aY n 0 lo) s):wpAny (model prog w) A (Builtin.Slice.sliceApplied (.ref sl) (pure (n:Int))) Q E s:=by
 obtain⟨os,hos,hcs,hds⟩:=id hs
 unfold Builtin.Slice.sliceApplied Builtin.Slice.sliceFields;refine bo2 (bo2 (bx3 hos hds (x:=vl) rfl (bo2 (bx3 hos hds (x:=vu) rfl (bo2 (bx3 hos hds (x:=.none) rfl (bo5 ?_)))))));refine bo2 (slicePart_none ?_);show wpAny _ _ (if ((1:Int)==0)=true then _ else _) _ _ s;rw[if_neg (by decide)];refine bo2 (C4 pl (bo2 (C4 pu (bo2 (bo5 ?_)))));show wpAny _ _ (match Builtin.Slice.sliceAdjust lo hi 1 (n:Int) with|(lo,hi)=>pure (lo,(1:Int),Builtin.Slice.slicePlaces lo hi 1)) _ _ s;rw[au8 lo hi n];show wpAny _ _ (pure (((aY n 0 lo:Nat):Int),(1:Int),Builtin.Slice.slicePlaces ((aY n 0 lo:Nat):Int) ((aY n n hi:Nat):Int) 1)) _ _ s;rw[au9];exact bo5 h
theorem av0 (xs:Array av)(i k:Nat):((List.range k).filterMap λ(m:Nat)=>xs[((i:Int)+(m:Int)*1).toNat]?).toArray=((xs.toList.drop i).take k).toArray:=by
 have e:(λ(m:Nat)=>xs[((i:Int)+(m:Int)*1).toNat]?)=λm=>xs[i+m]?:=by
  funext m
  have:((i:Int)+(m:Int)*1).toNat=i+m:=by omega
  rw[this]
 rw[e]
 have:=pick_run xs i k
 rw[List.filterMap_map]at this;have e2:((λx=>xs[x]?) ∘ λx=>i+x)=λm=>xs[i+m]?:=rfl
 rw[e2]at this;rw[this]
theorem av1 {t sl:ay}{items:Array av}{vl vu:av}{lo hi:Option Int}{Q:av->ax->Prop}(ht:IsTup s.heap t items)(hs:s.heap.IsSliceOf sl vl vu .none)(pl:IsPart vl lo)(pu:IsPart vu hi)(hw:¬(aY items.size 0 lo=0/\aY items.size items.size hi=items.size))(h:Q (.ref s.heap.objs.size) { s with heap:=s.heap.push { cls:=.type "tuple",data:=.seq ((items.toList.drop (aY items.size 0 lo)).take (aY items.size items.size hi-aY items.size 0 lo)).toArray } })(hsz:items.size<=sizeLine):wpAny (model prog w) A (getItem (.ref t) (.ref sl)) Q E s:=by
 have htake:sizeOk (.seq ((items.toList.drop (aY items.size 0 lo)).take (aY items.size items.size hi-aY items.size 0 lo)).toArray):=by
  show ((items.toList.drop (aY items.size 0 lo)).take (aY items.size items.size hi-aY items.size 0 lo)).toArray.size<=sizeLine;rw[bo8,bA8,bC4,bq5];omega
 have hj:aY items.size items.size hi<=items.size:=au7 _ _ (bp7 _) hi
 obtain⟨os,hos,hcs,hds⟩:=id hs
 have hTs:s.TypeIs (.ref sl) "slice":=⟨os,hos,hcs⟩;unfold getItem
 try with_reducible refine bv9 ?_
 first|refine bo2 (bo5 ?_)|skip
 refine bo2 (wpAny_sequenceKey ht.typeIs (by decide) ?_)
 refine bo2 (bt2 (name:=Str.ofString "__getitem__") ht.typeIs bD4
  (bt1 bD4 ht.typeIs entry_tuple_getitem ?_ (args_tuple_getitem _ _)))
 show wpAny _ _ (Builtin.Tuple.tupleItemsOf (.ref t) >>= _) _ _ s;refine bo2 (tupleItemsOf_ ht ?_);refine bo2 (wpAny_typeOf hTs ?_);rw[if_pos (by decide)];refine bo2 (C5 hs pl pu ?_);have hno:¬((((aY items.size 0 lo:Nat):Int)==0&&(1:Int)==1&&(aY items.size items.size hi-aY items.size 0 lo)==items.size)=true):=by
  intro q;rw[bz1,bz1]at q;have q1:((aY items.size 0 lo:Nat):Int)=0:=eq_of_beq q.1.1;have q2:aY items.size items.size hi-aY items.size 0 lo=items.size:=eq_of_beq q.2;exact hw ⟨by omega,by omega⟩
 show wpAny _ _ (if (((aY items.size 0 lo:Nat):Int)==0&&(1:Int)==1&&(aY items.size items.size hi-aY items.size 0 lo)==items.size)=true then _ else _) _ _ s;rw[if_neg hno,av0]
 first
  |exact bo2 (m:=Builtin.Tuple.tupleExact _) (bs2 (bo5 ⟨_,rfl,bo5 h⟩) htake)
  |exact bo2 (m:=Builtin.Tuple.tupleExact _) (bs2 (bo2 (bo5 (bo5 ⟨_,rfl,bo5 h⟩))) htake)
  |exact bo2 (bo2 (m:=Builtin.Tuple.tupleExact _) (bs2 (bo5 (bo5 ⟨_,rfl,bo5 h⟩)) htake))
  |exact bo2 (bo2 (m:=Builtin.Tuple.tupleExact _) (bs2 (bo5 ⟨_,rfl,bo5 h⟩) htake))
end
end HT
namespace L2
open PySem PySem.Spec PyProof.Rows
noncomputable abbrev TO:=St->Hp->(Option Int->Hp->Prop)->Prop
noncomputable def PO (X:Cx)(e:Option Expr)(t:TO):Prop:=
 ∀(ag:List (ay×Obj)) (s:ax) (σ:St) (H:Hp) (Q:Option Int->Hp->Prop),a8 X ag σ H s->t σ H Q->
  wpAny (model X.prog X.w) X.A (evalPart e X.env) (λu s'=>∃o H',a8 X ag σ H' s'/\IsPart u o/\Q o H') X.xe s
noncomputable def av2:TO:=λ_ H Q=>Q none H
noncomputable def av3 (t:TE):TO:=λσ H Q=>t σ H λx H1=>∃i,x = .int i/\Q (some i) H1
theorem fB {ns:ae}:∀{us:List av},aL (ns.map V.int) us->IntsAre us ns:=by
 induction ns with
 |nil=>intro us r;rw[List.map_nil]at r;cases r;exact .nil
 |cons n ns ih=>
  intro us r;rw[bv2]at r;cases r with
  |cons r1 r2=>
   obtain⟨t,e⟩:=r1
   subst e;exact .cons n t (ih r2)
section
variable {X:Cx}{e:Expr}{te:TE}{lo hi:Option Expr}{tl th:TO}{pos p2:Pos}
theorem av4:PO X none av2:=by
 intro ag s σ H Q I h;rw[evalPart_none];exact bo5 ⟨none,H,I,.none,h⟩
theorem av5 (h:PE X e te):PO X (some e) (av3 te):=by
 intro ag s σ H Q I hw;rw[evalPart_some];refine aO (h ag s σ H _ I hw) λu s1 ⟨x,H1,I1,r1,q1⟩=>?_
 obtain⟨i,rfl,q⟩:=q1
 obtain⟨t,rfl⟩:=r1
 exact⟨some i,H1,I1,.int i t,q⟩
noncomputable def kK (X:Cx)(r:V->Option Int->Option Int->Hp->VK->Prop):Prop:=
 ∀(ag:List (ay×Obj)) (s:ax) (σ:St) (H:Hp) (x:V) (v vl vu:av) (lo hi:Option Int) (sl:ay) (Q:VK),a8 X ag σ H s->aQ x v->s.heap.IsSliceOf sl vl vu .none->IsPart vl lo->IsPart vu hi->r x lo hi H Q->
  ∃T id,typeLookup (.type T) "__getitem__" = pure (some (.builtin id))/\s.TypeIs v T/\wpAny (model X.prog X.w) X.A (getItem v (.ref sl)) (EP X ag σ Q) X.xe s
theorem kK.or {r r':V->Option Int->Option Int->Hp->VK->Prop}(h:kK X r)(h':kK X r'):kK X (λx lo hi H Q=>r x lo hi H Q∨r' x lo hi H Q):=by
 intro ag s σ H x v vl vu lo hi sl Q I rx hs pl pu q;rcases q with q|q
 ·exact h ag s σ H x v vl vu lo hi sl Q I rx hs pl pu q
 ·exact h' ag s σ H x v vl vu lo hi sl Q I rx hs pl pu q
noncomputable def tSl (r:V->Option Int->Option Int->Hp->VK->Prop)(te:TE)(tl th:TO):TE:=λσ H Q=>te σ H λx H1=>tl σ H1 λl H2=>th σ H2 λu H3=>r x l u H3 Q
theorem av6 {r:V->Option Int->Option Int->Hp->VK->Prop}(hr:kK X r)(he:PE X e te)(hl:PO X lo tl)(hu:PO X hi th):PE X (.Subscript e (.Slice lo hi none p2) pos) (tSl r te tl th):=by
 intro ag s σ H Q I h;refine Subscript_ (aO (he ag s σ H _ I h) λv s1 ⟨x,H1,I1,r1,q1⟩=>?_);refine wpAny_Slice (aO (hl ag s1 σ H1 _ I1 q1) λvl s2 ⟨l,H2,I2,pl,q2⟩=>aO (hu ag s2 σ H2 _ I2 q2) λvu s3 ⟨u,H3,I3,pu,q3⟩=>?_);rw[evalPart_none];refine bo5 ?_;have I4:a8 X ag σ H3 { s3 with heap:=s3.heap.push { cls:=.type "slice",data:=.fields #[vl,vu,.none] } }:=I3.kept (t':=s3.toks) λb ob q=>bo4 _ q
 obtain⟨T,id,hT,ht,hg⟩:=hr ag { s3 with heap:=s3.heap.push { cls:=.type "slice",data:=.fields #[vl,vu,.none] } } σ H3 x v vl vu l u s3.heap.objs.size Q I4 r1 (Heap.IsSliceOf.new ..) pl pu q3
 show wpAny (model X.prog X.w) X.A (subscriptTail e (.Slice lo hi none p2) v (.ref s3.heap.objs.size)) (EP X ag σ Q) X.xe { s3 with heap:=s3.heap.push { cls:=.type "slice",data:=.fields #[vl,vu,.none] } };exact tail_any (ops:=[.ref s3.heap.objs.size,v]) ht hT hg (by with_unfolding_all rfl)
noncomputable def iB (xs:List V)(lo hi:Option Int):List V:=(xs.drop (HT.aY xs.length 0 lo)).take (HT.aY xs.length xs.length hi-HT.aY xs.length 0 lo)
theorem C6 (xs:List V)(lo hi:Option Int):(iB xs lo hi).length<=xs.length:=by
 unfold iB;rw[bA8,bC4];omega
noncomputable def av7 (K:ac):V->Option Int->Option Int->Hp->VK->Prop:=λx lo hi H Q=>∃a xs,x = .ref a/\aJ K H a xs/\
 ¬(HT.aY xs.length 0 lo=0/\HT.aY xs.length xs.length hi=xs.length)/\∀p,H p=none->Q (.ref p) (upd H p (.tup (iB xs lo hi)))
theorem av8:kK X (av7 X.K):=by
 intro ag s σ H x v vl vu lo hi sl Q I rx hs pl pu h
 obtain⟨a,xs,rfl,hx,hw,q⟩:=h
 cases rx
 obtain⟨its,r,ht,hz⟩:=I.tuple hx
 have aj:its.toArray.size=xs.length:=by rw[bo8];exact r.length.symm
 refine⟨"tuple",_,PyProof.Rows.slot_tuple_getitem.lookup,ht.typeIs,?_⟩;refine HT.av1 ht hs pl pu (by rw[aj];exact hw) ?_ (by rw[aj];exact hz);rw[aj];refine⟨.ref s.heap.objs.size,_,I.laid (t':=s.toks) (o:=.tup (iB xs lo hi)) (λb ob q=>bo4 _ q) (bp7 _) ?_,rfl,q _ (I.hok.fresh (bp7 _))⟩
 exact⟨bs7 (C6 xs lo hi) hz,_,(r.drop (HT.aY xs.length 0 lo)).take (HT.aY xs.length xs.length hi-HT.aY xs.length 0 lo),IsTup.new _ _,jA.new _ _ rfl⟩
noncomputable def v5 (K:ac):R2:=λx y H Q=>∃a b ns ms,x = .ref a/\y = .ref b/\aJ K H a (ns.map V.int)/\aJ K H b (ms.map V.int)/\Q (.bl (HT.aH ns ms)) H
theorem C7 (hu:X.A.units<cLine):cK X (compareOp .Lt) (v5 X.K):=by
 intro ag s σ H x y v u Q I rx ry h
 obtain⟨a,b,ns,ms,rfl,rfl,ha,hb,q⟩:=h
 cases rx;cases ry
 obtain⟨its,r1,p1,_⟩:=I.tuple ha
 obtain⟨am,r2,p2,_⟩:=I.tuple hb
 have i1:IntsAre its.toArray.toList ns:=fB r1;have i2:IntsAre am.toArray.toList ms:=fB r2;exact HT.C2 p1 p2 i1 i2 hu ⟨.bl (HT.aH ns ms),H,I,rfl,q⟩
end
noncomputable def lJ (n:Nat)(i:Int):Option Nat:=if 0<=i then (if i<n then some i.toNat else none) else if -(n:Int)<=i then some (i+n).toNat else none
noncomputable def atI {α:Type}(xs:List α)(i:Int):Option α:=(lJ xs.length i).bind λj=>xs[j]?
theorem av9 {n:Nat}{i:Int}{j:Nat}(h:lJ n i=some j):seqIndex? i n=some j/\j<n/\-(n:Int)<=i/\i<n:=by
 unfold lJ at h;by_cases h0:0<=i
 ·rw[if_pos h0]at h
  by_cases h1:i<n
  ·rw[if_pos h1]at h
   have e:i.toNat=j:=br7 h
   exact⟨by rw[seqIndex_of h0 h1,e],by omega,by omega,h1⟩
  ·rw[if_neg h1]at h;cases h
 ·rw[if_neg h0]at h
  by_cases h1:-(n:Int)<=i
  ·rw[if_pos h1]at h
   have e:(i+n).toNat=j:=br7 h
   exact⟨by rw[seqIndex_neg (by omega) h1,e],by omega,h1,by omega⟩
  ·rw[if_neg h1]at h;cases h
theorem v6 {α:Type}{xs:List α}{i:Int}{v:α}(h:atI xs i=some v):∃j,seqIndex? i xs.length=some j/\xs[j]? = some v/\j<xs.length/\-(xs.length:Int)<=i/\i<xs.length:=by
 unfold atI at h;cases e:lJ xs.length i with
 |none=>rw[e]at h;cases h
 |some j=>
  rw[e]at h
  obtain⟨h1,h2,h3,h4⟩:=av9 e
  exact⟨j,h1,h,h2,h3,h4⟩
theorem aw0 {α:Type}{xs:List α}{j:Nat}{v:α}(h:xs[j]? = some v):atI xs (j:Int)=some v:=by
 have hj:j<xs.length:=(bq1.mp h).1;have e:lJ xs.length (j:Int)=some j:=by
  unfold lJ;rw[if_pos (by omega),if_pos (by omega)];simp
 unfold atI;rw[e];exact h
noncomputable def C8 (b:Expr):Prop:=∀o i,subscripted b false o i=operate [o,i] (getItem o i)
noncomputable def jE (X:Cx)(r:R2):Prop:=
 ∀(value slice:Expr) (ag:List (ay×Obj)) (s:ax) (σ:St) (H:Hp) (x y:V) (v u:av) (Q:VK),a8 X ag σ H s->aQ x v->aQ y u->r x y H Q->
  subscripted slice false v u=operate [v,u] (getItem v u)->wpAny (model X.prog X.w) X.A (subscriptTail value slice v u) (EP X ag σ Q) X.xe s
noncomputable def C9 (X:Cx)(id:String)(r:V->List V->Hp->VK->Prop):Prop:=
 ∀(ag:List (ay×Obj)) (s:ax) (σ:St) (H:Hp) (x:V) (xs:List V) (v:av) (us:List av) (Q:VK),a8 X ag σ H s->aQ x v->aL xs us->r x xs H Q->
  wpAny (model X.prog X.w) X.A (call (.builtin id) (v::us)) (EP X ag σ Q) X.xe s
section
variable {X:Cx}{a b:Expr}{ta tb:TE}{pos:Pos}
theorem jE.or {r r':R2}(h:jE X r)(h':jE X r'):jE X (λx y H Q=>r x y H Q∨r' x y H Q):=by
 intro value slice ag s σ H x y v u Q I rx ry q hs;rcases q with q|q
 ·exact h value slice ag s σ H x y v u Q I rx ry q hs
 ·exact h' value slice ag s σ H x y v u Q I rx ry q hs
theorem aw1 {r:R2}(hr:jE X r)(ha:PE X a ta)(hb:PE X b tb)(hs:C8 b):PE X (.Subscript a b pos) (oD r ta tb):=by
 intro ag s σ H Q I h;exact Subscript_ (uP ha hb I h λv u s2 x y H2 I2 rx ry q=>hr a b ag s2 σ H2 x y v u Q I2 rx ry q (hs _ _))
noncomputable def E3 (K:ac):R2:=λx y H Q=>∃p xs i v,x = .ref p/\y = .int i/\aM K H p xs/\atI xs i=some v/\Q v H
noncomputable def E4 (K:ac):R2:=λx y H Q=>∃p xs i v,x = .ref p/\y = .int i/\aJ K H p xs/\atI xs i=some v/\Q v H
noncomputable def E5:R2:=λx y H Q=>∃z i c,x = .str z/\y = .int i/\z.length<=sizeLine/\atI z.cps.toList i=some c/\Q (.str ⟨#[c]⟩) H
theorem aw2:jE X (E3 X.K):=by
 intro value slice ag s σ H x y v u Q I rx ry h hs
 obtain⟨p,xs,i,z,rfl,rfl,hq,he,q⟩:=h
 cases rx
 obtain⟨t,rfl⟩:=ry
 obtain⟨its,r,pl,hz⟩:=I.list hq
 obtain⟨j,h1,h2,h3,h4,h5⟩:=v6 he
 obtain⟨w,ew,rw'⟩:=r.get h2
 have hl:=r.length;have hn:=oF;have fin:EP X ag σ Q w s:=⟨z,H,I,rw',q⟩;by_cases h0:0<=i
 ·have hj:i.toNat=j:=by
   rw[seqIndex_of h0 h5]at h1;exact br7 h1
  exact item_listR pl.isList h0 (by omega) (by rw[hj];simpa using ew) fin hs
 ·have hj:(i+(its.toArray.size:Int)).toNat=j:=by
   rw[seqIndex_neg (by omega) h4]at h1;rw[bo8,<- hl];exact br7 h1
  exact subscriptTail_builtinR (x:=w) pl.isList.typeIs slot_list_getitem.lookup
   (wpAny_getItem_list_neg (Q:=λr s'=>r=w/\EP X ag σ Q r s') pl.isList (by omega) (by rw[bo8]<;>omega) (by omega) (by rw[hj];simpa using ew) ⟨rfl,fin⟩) hs
theorem aw3:jE X (E4 X.K):=by
 intro value slice ag s σ H x y v u Q I rx ry h hs
 obtain⟨p,xs,i,z,rfl,rfl,hq,he,q⟩:=h
 cases rx
 obtain⟨t,rfl⟩:=ry
 obtain⟨its,r,pl,hz⟩:=I.tuple hq
 obtain⟨j,h1,h2,h3,h4,h5⟩:=v6 he
 obtain⟨w,ew,rw'⟩:=r.get h2
 have hl:=r.length;have hn:=oF;have fin:EP X ag σ Q w s:=⟨z,H,I,rw',q⟩;exact subscriptTail_builtinR (x:=w) pl.typeIs slot_tuple_getitem.lookup
  (getItem_tuple (j:=j) (Q:=λr s'=>r=w/\EP X ag σ Q r s') pl (by omega) (by omega) (by rw[bo8,<- hl];exact h1) (by simpa using ew) ⟨rfl,fin⟩) hs
theorem aw4:jE X E5:=by
 intro value slice ag s σ H x y v u Q I rx ry h hs
 obtain⟨z,i,c,rfl,rfl,hz,he,q⟩:=h
 obtain⟨t,rfl⟩:=rx
 obtain⟨t',rfl⟩:=ry
 obtain⟨j,h1,h2,h3,h4,h5⟩:=v6 he
 have hl:z.cps.toList.length=z.length:=by simp[Str.length]
 rw[hl]at h1 h4 h5;have hn:=oF
 exact tail_any (typeIs_str s z t) slot_str_getitem.lookup (getItem_str (c:=c) (by
  have e1:decide (i < -(2^63:Int))=false:=bp6 (by omega);have e2:decide (i >= 2^63)=false:=bp6 (by omega)
  rw[e1,e2,Bool.or_false]) (by rw[h1];simpa using h2) ⟨.str ⟨#[c]⟩,H,I.tok _,⟨_,rfl⟩,q⟩) hs
noncomputable def E6 (K:ac):R2:=λx y H Q=>E3 K x y H Q∨E4 K x y H Q∨E5 x y H Q
theorem aw5:jE X (E6 X.K):=aw2.or (aw3.or aw4)
theorem aw6 (lo hi:Option Int)(n:Nat):(sliceBounds lo hi none n).1=((HT.aY n 0 lo:Nat):Int)/\(sliceBounds lo hi none n).2.1=((HT.aY n n hi:Nat):Int)/\(sliceBounds lo hi none n).2.2=1:=by
 refine⟨?_,?_,rfl⟩
 ·cases lo with
  |none=>simp[sliceBounds,HT.aY]
  |some i=>
   simp only[sliceBounds,HT.aY,Option.getD_none,show (1:Int)>0 by decide,if_true];by_cases h:i<0
   ·simp only[h,if_true]<;>omega
   ·simp only[h,bu2]<;>omega
 ·cases hi with
  |none=>simp[sliceBounds,HT.aY]
  |some i=>
   simp only[sliceBounds,HT.aY,Option.getD_none,show (1:Int)>0 by decide,if_true];by_cases h:i<0
   ·simp only[h,if_true]<;>omega
   ·simp only[h,bu2]<;>omega
theorem aw7 (its:List av)(lo hi:Option Int):slicePick its.toArray lo hi none=((its.drop (HT.aY its.length 0 lo)).take (HT.aY its.length its.length hi-HT.aY its.length 0 lo)).toArray:=by
 obtain⟨h1,h2,h3⟩:=aw6 lo hi its.toArray.size
 unfold slicePick;rw[h1,h2,h3];simp only[sliceRange_one,pick_run,bo8]<;>rfl
noncomputable def aw8 (K:ac):V->Option Int->Option Int->Hp->VK->Prop:=λx lo hi H Q=>∃a xs,x = .ref a/\aM K H a xs/\∀p,H p=none->Q (.ref p) (upd H p (.lst (iB xs lo hi)))
theorem aw9:kK X (aw8 X.K):=by
 intro ag s σ H x v vl vu lo hi sl Q I rx hs pl pu h
 obtain⟨a,xs,rfl,hx,q⟩:=h
 cases rx
 obtain⟨its,r,ht,hz⟩:=I.list hx
 have aj:=r.length;refine⟨"list",_,slot_list_getitem.lookup,ht.isList.typeIs,?_⟩;refine wpAny_getItem_list_slice ht.isList hs pl pu .none (by simp) ?_ (by rw[bo8]<;>omega);rw[aw7,<- aj];refine⟨.ref s.heap.objs.size,_,I.laid (t':=s.toks) (o:=.lst (iB xs lo hi)) (λb ob q=>bo4 _ q) (bp7 _) ?_,rfl,q _ (I.hok.fresh (bp7 _))⟩
 exact⟨bs7 (C6 xs lo hi) hz,_,0,(r.drop (HT.aY xs.length 0 lo)).take (HT.aY xs.length xs.length hi-HT.aY xs.length 0 lo),bp4 _ rfl⟩
theorem ax0:cH X (.builtin "len") (λxs H Q=>∃p ys,xs = [.ref p]/\(aM X.K H p ys∨aJ X.K H p ys)/\Q (.int ys.length) H):=by
 intro ag s σ H xs us Q I r h
 obtain⟨p,ys,rfl,hq,q⟩:=h
 obtain⟨u,rfl,rx⟩:=fV r
 cases rx;have hn:=oF;rcases hq with hq|hq
 ·obtain⟨its,r',pl,hz⟩:=I.list hq
  have aj:=r'.length;exact Calls.call_len_list pl.isList (by simp only[bo8]<;>omega) ⟨.int ys.length,H,I.tok _,⟨s.toks+1,by rw[bo8,aj]⟩,q⟩
 ·obtain⟨its,r',pl,hz⟩:=I.tuple hq
  have aj:=r'.length;exact len_tuple pl (by simp only[bo8]<;>omega) ⟨.int ys.length,H,I.tok _,⟨s.toks+1,by rw[bo8,aj]⟩,q⟩
theorem cH.or {f:av}{r r':List V->Hp->VK->Prop}(h:cH X f r)(h':cH X f r'):cH X f (λxs H Q=>r xs H Q∨r' xs H Q):=by
 intro ag s σ H xs us Q I rs q;rcases q with q|q
 ·exact h ag s σ H xs us Q I rs q
 ·exact h' ag s σ H xs us Q I rs q
theorem ax1:cH X (.type "list") (λxs H Q=>∃p ys,xs = [.ref p]/\(aM X.K H p ys∨aJ X.K H p ys)/\∀l,H l=none->Q (.ref l) (upd H l (.lst ys))):=by
 intro ag s σ H xs us Q I r h
 obtain⟨p,ys,rfl,hq,q⟩:=h
 obtain⟨u,rfl,rx⟩:=fV r
 cases rx;have fin:∀(its:List av),aL ys its->ys.length<=sizeLine->∀(h':Heap) (c':Nat),(∀b o',s.heap.get? b=some o'->h'.get? b=some o')->
   h'.get? s.heap.objs.size=some { cls:=.type "list",dict:=none,data:=.seq its.toArray c',slots:=#[] }->EP X ag σ Q (.ref s.heap.objs.size) { s with heap:=h' }:=λits r' hz h' c' kp e=>
  ⟨.ref s.heap.objs.size,_,I.laid (t':=s.toks) kp (bp7 _) (show bN X.prog X.w _ h' _ (.lst ys) from ⟨hz,its,c',r',e⟩),rfl,q _ (I.hok.fresh (bp7 _))⟩
 rcases hq with hq|hq
 ·obtain⟨its,r',pl,hz⟩:=I.list hq
  have aj:=r'.length
  obtain⟨o,ho,hc,n,hd⟩:=pl.isList
  exact call_list_seq p (.inl rfl) ho hc hd (λh' c' kp e=>fin its r' hz h' c' kp e) (by simp only[bo8]<;>omega)
 ·obtain⟨its,r',pl,hz⟩:=I.tuple hq
  have aj:=r'.length
  obtain⟨o,ho,hc,n,hd⟩:=pl
  exact call_list_seq p (.inr rfl) ho hc hd (λh' c' kp e=>fin its r' hz h' c' kp e) (by simp only[bo8]<;>omega)
theorem ax2:cH X (.type "tuple") (λxs H Q=>∃p ys,xs = [.ref p]/\((aM X.K H p ys/\∀l,H l=none->Q (.ref l) (upd H l (.tup ys)))∨(aJ X.K H p ys/\Q (.ref p) H))):=by
 intro ag s σ H xs us Q I r h
 obtain⟨p,ys,rfl,h⟩:=h
 obtain⟨u,rfl,rx⟩:=fV r
 cases rx;rcases h with⟨hq,q⟩|⟨hq,q⟩
 ·obtain⟨its,r',pl,hz⟩:=I.list hq
  have aj:=r'.length;refine call_tuple_list pl.isList (λh' kp=>?_) (by simp only[bo8]<;>omega);have I1:a8 X ag σ H { s with heap:=h' }:=I.kept (t':=s.toks) kp;have I2:a8 X ag σ (upd H h'.objs.size (.tup ys)) { s with heap:=h'.push { cls:=.type "tuple",data:=.seq its.toArray } }:=
   I1.laid (t':=s.toks) (λb o e=>bo4 _ e) (bp7 _) (show bN X.prog X.w _ _ _ (.tup ys) from ⟨hz,its,r',IsTup.new _ _,jA.new _ _ rfl⟩)
  exact⟨.ref h'.objs.size,_,I2,rfl,q _ (I1.hok.fresh (bp7 _))⟩
 ·obtain⟨its,r',pl,hz⟩:=I.tuple hq
  exact call_tuple_same pl ⟨.ref p,H,I,rfl,q⟩
noncomputable def oI (K:ac)(T:String)(x:V)(H:Hp):Prop:=match x with
 |.str _=>T="str"
 |.int _=>T="int"
 |.ref p=>(T="list"/\∃xs,aM K H p xs)∨(T="tuple"/\∃o,K.lookup p=some o/\o.cls = .type "tuple"/\o.dict=none) ∨
   (T="dict"/\((∃kvs,H p=some (.dK kvs))∨∃kvs,H p=some (.dT kvs)))∨(T="set"/\∃S n,H p=some (.set S n))
 |_=>False
theorem E7 {ag:List (ay×Obj)}{σ:St}{H:Hp}{s:ax}{T:String}{x:V}{v:av}(I:a8 X ag σ H s)(r:aQ x v)(ty:oI X.K T x H) :
  s.TypeIs v T/\∀a,v = .ref a->∃ob,s.heap.get? a=some ob/\ob.dict=none:=by
 cases x with
 |str z=>
  obtain⟨t,rfl⟩:=r
  cases (show T="str" from ty)
  exact⟨typeIs_str s z t,λ_ e=>nomatch e⟩
 |int i=>
  obtain⟨t,rfl⟩:=r
  cases (show T="int" from ty)
  exact⟨typeIs_int s i t,λ_ e=>nomatch e⟩
 |ref p=>
  cases r;rcases ty with⟨rfl,xs,hq⟩|⟨rfl,o,hk,hc,hd⟩|⟨rfl,hk⟩|⟨rfl,S,n,hk⟩
  ·obtain⟨its,_,pl,_⟩:=I.list hq
   refine⟨pl.isList.typeIs,λa e=>?_⟩;cases e
   obtain⟨o,n,e,c,hd,_⟩:=pl
   exact⟨o,e,hd⟩
  ·refine⟨⟨o,I.kIn p o hk,hc⟩,λa e=>?_⟩
   cases e
   exact⟨o,I.kIn _ o hk,hd⟩
  ·have z:∃o,s.heap.get? p=some o/\o.ExactDict:=by
    rcases hk with⟨kvs,hk⟩|⟨kvs,hk⟩
    ·obtain⟨_,_,_,_,o,_,_,e,ex,_⟩:=I.hok p _ hk
     exact⟨o,e,ex⟩
    ·obtain⟨_,_,_,_,o,_,_,e,ex,_⟩:=I.hok p _ hk
     exact⟨o,e,ex⟩
   obtain⟨o,e,ex⟩:=z
   refine⟨⟨o,e,ex.1⟩,λa e2=>?_⟩;cases e2
   exact⟨o,e,ex.2.1⟩
  ·obtain⟨o,_,_,_,e,ex,_⟩:=I.hok p _ hk
   refine⟨⟨o,e,ex.1⟩,λa e2=>?_⟩;cases e2
   exact⟨o,e,ex.2.1⟩
 |_=>exact False.elim ty
noncomputable def E8 (K:ac)(T:String)(r:V->List V->Hp->VK->Prop)(to:TE):TE:=λσ H Q=>to σ H λx H1=>oI K T x H1/\r x [] H1 Q
noncomputable def v7 (K:ac)(T:String)(r:V->List V->Hp->VK->Prop)(to:TE)(t:TA):TE:=λσ H Q=>to σ H λx H1=>oI K T x H1/\t σ H1 λxs H2=>r x xs H2 Q
variable {o e:Expr}{es:List Expr}{to:TE}{t:TA}{name:Str}{ah ai:Pos}{T id:String}{r:V→List V→Hp→VK→Prop}
theorem ax3 (pa:PlainAttrs T)(slot:Slot T name id)(hty:typeOf (.builtin id)=pure (.type "method_descriptor"))(hm:C9 X id r)(ho:PE X o to)(hbase:attributeBase o name X.env (eval o X.env)=eval o X.env:=by rfl)(hline:(ah.endLine==ai.line)=true:=by rfl):PE X (.Call (.Attribute o name ah) [] [] ai) (E8 X.K T r to):=by
 intro ag s σ H Q I h;refine wpAny_Call_method0_late hbase hline (aO (ho ag s σ H _ I h) λv s1 ⟨x,H1,I1,r1,ty,q1⟩=>?_)
 obtain⟨h1,h2⟩:=E7 I1 r1 ty
 exact⟨T,id,pa,slot,hty,h1,h2,Calls.callWith_builtin rfl (PySem.evalArgs_none (hm ag s1 σ H1 x [] v [] Q I1 r1 .nil q1))⟩
theorem E9 (pa:PlainAttrs T)(slot:Slot T name id)(hty:typeOf (.builtin id)=pure (.type "method_descriptor"))(hm:C9 X id r)(ho:PE X o to)(ha:PA X (e::es) t)(hbase:attributeBase o name X.env (eval o X.env)=eval o X.env:=by rfl)(hfew:((backTo ai (starEach (e::es) X.env)).all (λx=>!x.1)&&(backToKw ai (keywordEach [] X.env)).all (λx=>x.1.isSome)
  &&decide ((e::es).length+([]:List Keyword).length+(if ([]:List Keyword).isEmpty then 0 else 1)<30))=true:=by rfl)(hline:(ah.endLine==ai.line)=true:=by rfl)(hs:starEach (e::es) X.env=(false,eval e X.env)::starEach es X.env:=by rfl)(ao:(backTo ai (starEach es X.env)).any (·.1)=false:=by rfl) :
  PE X (.Call (.Attribute o name ah) (e::es) [] ai) (v7 X.K T r to t):=by
 intro ag s σ H Q I h;refine wpAny_Call_method_late hbase hfew hline rfl (aO (ho ag s σ H _ I h) λv s1 ⟨x,H1,I1,r1,ty,q1⟩=>?_)
 obtain⟨h1,h2⟩:=E7 I1 r1 ty
 refine⟨T,id,pa,slot,hty,h1,h2,?_⟩;have hA:=ha ai ag s1 σ H1 _ I1 q1;rw[hs]at hA ⊢;refine Calls.callWith_builtin (by show (false||(backTo ai (starEach es X.env)).any (·.1))=false;rw[ao]<;>rfl) (Calls.evalArgs_plain ?_);exact aO hA λus s2 ⟨vs,H2,I2,r2,q2⟩=>hm ag s2 σ H2 x vs v us Q I2 r1 r2 q2
end
noncomputable def qP (X:Cx)(id:String)(r:V->List V->Hp->VK->Prop):Prop:=
 ∀(ag:List (ay×Obj)) (s:ax) (σ:St) (H:Hp) (x:V) (xs:List V) (v:av) (us:List av) (Q:VK),a8 X ag σ H s->aQ x v->aL xs us->r x xs H Q->
  wpAny (model X.prog X.w) X.A (call (.builtin id) (v::us)) (EP X ag σ Q) X.xe s
theorem aL.one {x:V}{us:List av}(h:aL [x] us):∃u,us = [u]/\aQ x u:=by
 cases h with
 |cons r t=>
  cases t
  exact⟨_,rfl,r⟩
theorem aL.two {x y:V}{us:List av}(h:aL [x,y] us):∃u v,us = [u,v]/\aQ x u/\aQ y v:=by
 cases h with
 |cons r t=>
  cases t with
  |cons q t=>
   cases t
   exact⟨_,_,rfl,r,q⟩
theorem aL.zero:∀{us:List av},aL [] us->us = []
 |_,.nil=>rfl
theorem aL.dropLast {xs:List V}{us:List av}(h:aL xs us):aL xs.dropLast us.dropLast:=by
 induction h with
 |nil=>exact .nil
 |cons r t ih=>
  cases t with
  |nil=>exact .nil
  |cons q t'=>exact .cons r ih
theorem ax4 {α:Type}(l:List α):l.eraseIdx (l.length-1)=l.dropLast:=by
 induction l with
 |nil=>rfl
 |cons a r ih=>
  cases r with
  |nil=>rfl
  |cons b r=>
   have e:(a::b::r).length-1=((b::r).length-1)+1:=by
    have h1:(a::b::r).length=r.length+2:=rfl;have h2:(b::r).length=r.length+1:=rfl;omega
   rw[e,List.eraseIdx_cons_succ,ih]
   all_goals rfl
section
variable {X:Cx}{ag:List (ay×Obj)}{σ:St}{H:Hp}{s:ax}{l b:ay}{xs ys zs:List V}
theorem a8.lset {its its':List av}{n:Nat}{f:Array av->Array av}{t':Nat}(I:a8 X ag σ H s)(hH:H l=some (.lst xs))(e:s.heap.get? l=some { cls:=.type "list",data:=.seq its.toArray n })(hf:f its.toArray=its'.toArray)(hv:aL ys its')(hz:ys.length<=sizeLine) :
  a8 X ag σ (upd H l (.lst ys)) { s with heap:=s.heap.update l (Obj.mapSeq f),toks:=t' }:=by
 have q:=PySem.IsL.update e f;rw[hf]at q;refine I.write (x:=l) (e:=l) (by rw[hH];exact trivial) (.inl rfl) (λb' u hb hu=>(by2 s.heap (Obj.mapSeq f) (Ne.symm hb)).trans hu) ⟨_,q⟩ ?_
 exact⟨hz,its',_,hv,q⟩
theorem a8.lnew {its:List av}{t':Nat}(I:a8 X ag σ H s)(hv:aL ys its)(hz:ys.length<=sizeLine) :
  a8 X ag σ (upd H s.heap.objs.size (.lst ys)) { s with heap:=s.heap.push { cls:=.type "list",data:=.seq its.toArray },toks:=t' }:=
 I.laid (λ_ _ q=>bo4 _ q) (bp7 _) ⟨hz,its,0,hv,bp4 _ rfl⟩
theorem a8.fresh (I:a8 X ag σ H s):H s.heap.objs.size=none:=I.hok.fresh (bp7 _)
theorem a8.lstM (I:a8 X ag σ H s)(hH:H l=some (.lst xs)):xs.length<=sizeLine/\∃(its:List av) (n:Nat),aL xs its/\xs.length=its.length/\s.heap.get? l=some { cls:=.type "list",data:=.seq its.toArray n }:=by
 obtain⟨z,its,n,r,e⟩:=I.hok l _ hH
 exact⟨z,its,n,r,r.length,e⟩
theorem ax5 {n:Nat}(h:n<=sizeLine):Builtin.List.listTooLong n=false:=by
 unfold Builtin.List.listTooLong;exact bp6 (by omega)
end
section
variable {X:Cx}
noncomputable def F0:V->List V->Hp->VK->Prop:=λx vs H Q=>∃l xs y,x = .ref l/\vs = [y]/\H l=some (.lst xs)/\xs.length<sizeLine/\Q .non (upd H l (.lst (xs++[y])))
theorem F1:qP X "list.append" F0:=by
 intro ag s σ H x vs v us Q I rx rv h
 obtain⟨l,xs,y,rfl,rfl,hH,hz,q⟩:=h
 cases rx
 obtain⟨u,rfl,ru⟩:=rv.one
 obtain⟨z,its,n,r,hl,e⟩:=I.lstM hH
 refine call_meets F.slot_list_append ⟨_,e,rfl⟩ F.entry_list_append (F.args_list_append_2 _ _) (PySem.list_append l its.toArray n u (by rw[bo8];omega)) ⟨e,?_⟩;refine⟨.non,_,I.lset (its':=its++[u]) hH e (by simp) (r.append (.cons ru .nil)) ?_,rfl,q⟩;rw[br0,bu5];omega
noncomputable def ax6:V->List V->Hp->VK->Prop:=λx vs H Q=>∃l b xs zs,x = .ref l/\vs = [.ref b]/\H l=some (.lst xs)/\H b=some (.lst zs)/\xs.length+zs.length<=sizeLine/\Q .non (upd H l (.lst (xs++zs)))
theorem bn7:qP X "list.extend" ax6:=by
 intro ag s σ H x vs v us Q I rx rv h
 obtain⟨l,b,xs,zs,rfl,rfl,hH,hB,hz,q⟩:=h
 cases rx
 obtain⟨u,rfl,ru⟩:=rv.one
 cases ru
 obtain⟨z,its,n,r,hl,e⟩:=I.lstM hH
 obtain⟨z2,am,n2,r2,hl2,e2⟩:=I.lstM hB
 have hsz:its.toArray.size+am.toArray.size<=sizeLine:=by rw[bo8,bo8];omega
 have hlong:¬(!its.toArray.isEmpty&&Builtin.List.listTooLong (its.toArray.size+am.toArray.size))=true:=by
  rw[ax5 hsz,bG9];exact br3
 refine call_meets F.slot_list_extend ⟨_,e,rfl⟩ F.entry_list_extend (F.args_list_extend_2 _ _)
  (AutoSeq1.list_extend_list_list_0 l its.toArray n b am.toArray n2 hlong (by rw[bo8];omega) (by omega)) ⟨e,e2,?_⟩
 refine⟨.non,_,I.lset (its':=its++am) hH e (by simp) (r.append r2) ?_,rfl,q⟩;rw[br0];omega
noncomputable def F3:V->List V->Hp->VK->Prop:=λx vs H Q=>∃l xs y,x = .ref l/\vs = []/\H l=some (.lst xs)/\xs[xs.length-1]? = some y/\Q y (upd H l (.lst xs.dropLast))
theorem ax7:qP X "list.pop" F3:=by
 intro ag s σ H x vs v us Q I rx rv h
 obtain⟨l,xs,y,rfl,rfl,hH,hy,q⟩:=h
 cases rx;have hus:=rv.zero;subst hus
 obtain⟨z,its,n,r,hl,e⟩:=I.lstM hH
 obtain⟨u,hu,ru⟩:=r.get hy
 have hy':its.toArray[its.toArray.size-1]? = some u:=by
  show its.toArray[its.length-1]? = some u;rw[<- br6,<- hl];exact hu
 refine call_meets F.slot_list_pop ⟨_,e,rfl⟩ F.entry_list_pop (F.args_list_pop_1 _) (MeetsSeq.list_pop_last l its.toArray n u hy' (by rw[bo8];omega)) ⟨e,?_⟩;refine⟨y,_,I.lset (its':=its.dropLast) hH e ?_ r.dropLast ?_,ru,q⟩
 ·show its.toArray.eraseIdxIfInBounds (its.toArray.size-1)=its.dropLast.toArray
  rw[bo8,List.eraseIdxIfInBounds_toArray,ax4]
 ·rw[List.length_dropLast]
  omega
noncomputable def F4:R2:=λx y H Q=>∃l b xs zs,x = .ref l/\y = .ref b/\H l=some (.lst xs)/\H b=some (.lst zs)/\xs.length+zs.length<=sizeLine/\∀p,H p=none->Q (.ref p) (upd H p (.lst (xs++zs)))
theorem ax8:cK X (binaryOp .Add) F4:=by
 intro ag s σ H x y v u Q I rx ry h
 obtain⟨l,b,xs,zs,rfl,rfl,hH,hB,hz,q⟩:=h
 cases rx;cases ry
 obtain⟨z,its,n,r,hl,e⟩:=I.lstM hH
 obtain⟨z2,am,n2,r2,hl2,e2⟩:=I.lstM hB
 refine PySem.P.add_list e e2 ?_ (by rw[bo8,bo8];omega);have ea:its.toArray++am.toArray=(its++am).toArray:=by simp
 rw[ea]
 exact⟨.ref _,_,I.lnew (t':=s.toks) (r.append r2) (by rw[br0];omega),rfl,q _ I.fresh⟩
end
section
variable {κ:Type}[DecidableEq κ]
noncomputable def fD (kvs:List (κ×V))(k:κ):Option V:=(kvs.find? λkv=>decide (kv.1=k)).map (·.2)
noncomputable def fY (kvs:List (κ×V))(k:κ)(v:V):List (κ×V):=
 if (kvs.any λkv=>decide (kv.1=k))=true then kvs.map (λkv=>if kv.1=k then (kv.1,v) else kv) else kvs++[(k,v)]
theorem v8 {p:κ×V}{r:List (κ×V)}{k:κ}(e:p.1=k):fD (p::r) k=some p.2:=by simp[fD,bC2,e]
theorem v9 {p:κ×V}{r:List (κ×V)}{k:κ}(e:¬p.1=k):fD (p::r) k=fD r k:=by simp[fD,bC2,e]
theorem F6 (k:κ):∀kvs:List (κ×V),(kvs.any λkv=>decide (kv.1=k))=(fD kvs k).isSome
 |[]=>rfl
 |p::r=>by
  rw[List.any_cons];by_cases e:p.1=k
  ·simp only[v8 e,bp8 e,Bool.true_or,Option.isSome_some]
  ·rw[v9 e,bp6 e,Bool.false_or];exact F6 k r
theorem F7 (kvs:List (κ×V))(k:κ)(v:V):(fY kvs k v).length<=kvs.length+1:=by
 unfold fY;split
 ·rw[bo7];omega
 ·rw[br0,bs9,bE2];omega
theorem gH.isSome_eq {o:Option V}{u:Option av}(r:gH o u):o.isSome=u.isSome:=by
 cases o with
 |none=>cases u with
  |none=>rfl
  |some _=>exact (show False from r).elim
 |some _=>cases u with
  |none=>exact (show False from r).elim
  |some _=>rfl
theorem gH.getD {o:Option V}{u:Option av}{d:V}{d':av}(r:gH o u)(rd:aQ d d'):aQ (o.getD d) (u.getD d'):=by
 cases o with
 |none=>cases u with
  |none=>exact rd
  |some _=>exact (show False from r).elim
 |some _=>cases u with
  |none=>exact (show False from r).elim
  |some _=>exact r
theorem KV.val {kvs:List (κ×V)}{vs:List (κ×av)}(r:KV kvs vs)(k:κ):gH (fD kvs k) (valueAt vs k):=by
 unfold KV at r
 induction r with
 |nil=>exact bH4
 |@cons p q ps qs h t ih=>
  obtain⟨h1,h2⟩:=h
  by_cases e:p.1=k
  ·have e':q.1=k:=h1.symm.trans e
   have b:valueAt (q::qs) k=some q.2:=by simp[valueAt,bC2,e']
   rw[v8 e,b];exact h2
  ·have e':¬q.1=k:=λz=>e (h1.trans z)
   have b:valueAt (q::qs) k=valueAt qs k:=by simp[valueAt,bC2,e']
   rw[v9 e,b];exact ih
theorem KV.any {kvs:List (κ×V)}{vs:List (κ×av)}(r:KV kvs vs)(k:κ):(kvs.any λkv=>decide (kv.1=k))=vs.any λkv=>decide (kv.1=k):=by
 unfold KV at r
 induction r with
 |nil=>rfl
 |cons h t ih=>rw[List.any_cons,List.any_cons,ih,h.1]
theorem KV.repl {kvs:List (κ×V)}{vs:List (κ×av)}(r:KV kvs vs)(k:κ){y:V}{u:av}(ry:aQ y u) :
  KV (kvs.map λkv=>if kv.1=k then (kv.1,y) else kv) (vs.map λkv=>if kv.1=k then (kv.1,u) else kv):=by
 unfold KV at r ⊢
 induction r with
 |nil=>exact .nil
 |@cons p q ps qs h t ih=>
  rw[bv2,bv2];refine .cons ?_ ih
  obtain⟨h1,h2⟩:=h
  by_cases e:p.1=k
  ·rw[if_pos e,if_pos (h1.symm.trans e)];exact⟨h1,ry⟩
  ·rw[if_neg e,if_neg (λz=>e (h1.trans z))];exact⟨h1,h2⟩
theorem KV.put {kvs:List (κ×V)}{vs:List (κ×av)}(r:KV kvs vs)(k:κ){y:V}{u:av}(ry:aQ y u):KV (fY kvs k y) (stored vs k u):=by
 unfold fY stored;rw[r.any k];by_cases e:(vs.any λkv=>decide (kv.1=k))=true
 ·rw[if_pos e,if_pos e];exact r.repl k ry
 ·rw[if_neg e,if_neg e];exact Paired.snoc r ⟨rfl,ry⟩
theorem KV.length {kvs:List (κ×V)}{vs:List (κ×av)}(r:KV kvs vs):kvs.length=vs.length:=Paired.length r
end
theorem oJ {P:az}{w:bc}{k:aI}{u:av}(r:aQ (kV k) u):(eG P w).is k u=true:=by
 cases k with
 |inl i=>obtain⟨t,e⟩:=(show ∃t,u=Value.int i t from r);subst e;exact an8 P w i t
 |inr x=>obtain⟨t,e⟩:=(show ∃t,u=Value.str x t from r);subst e;exact an9 P w x t
theorem F8 {P:az}{w:bc}:∀{ks:List aI}{us:List av},aL (ks.map kV) us->ItemsAre (eG P w) ks us
 |[],_,r=>by rw[List.map_nil]at r;cases r;exact .nil
 |k::ks,_,r=>by
  rw[bv2]at r;cases r with
  |cons h t=>exact .cons (oJ h) (F8 t)
noncomputable abbrev KT (H:Hp):List (List aI×V)->List (List aI×ay×av)->Prop:=Paired λp q=>p.1=q.1/\H q.2.1=some (.tup (p.1.map kV))/\aQ p.2 q.2.2
theorem KT.val {H:Hp}{kvs:List (List aI×V)}{xs:List (List aI×ay×av)}(r:KT H kvs xs)(k:List aI):gH (fD kvs k) ((atKey xs k).map (·.2)):=by
 induction r with
 |nil=>exact bH4
 |@cons p q ps qs h t ih=>
  obtain⟨h1,_,h2⟩:=h
  by_cases e:p.1=k
  ·have e':q.1=k:=h1.symm.trans e
   have b:atKey (q::qs) k=some q.2:=by simp[atKey,bC2,e']
   rw[v8 e,b];exact h2
  ·have e':¬q.1=k:=λz=>e (h1.trans z)
   have b:atKey (q::qs) k=atKey qs k:=by simp[atKey,bC2,e']
   rw[v9 e,b];exact ih
theorem KT.repl {H:Hp}{kvs:List (List aI×V)}{xs:List (List aI×ay×av)}(r:KT H kvs xs)(k:List aI){y:V}{u:av}(ry:aQ y u) :
  KT H (kvs.map λkv=>if kv.1=k then (kv.1,y) else kv) (xs.map (putAt k u)):=by
 induction r with
 |nil=>exact .nil
 |@cons p q ps qs h t ih=>
  rw[bv2,bv2];refine .cons ?_ ih
  obtain⟨h1,h2,h3⟩:=h
  unfold putAt;by_cases e:p.1=k
  ·rw[if_pos e,if_pos (h1.symm.trans e)];exact⟨h1,h2,ry⟩
  ·rw[if_neg e,if_neg (λz=>e (h1.trans z))];exact⟨h1,h2,h3⟩
theorem KT.put {H:Hp}{kvs:List (List aI×V)}{xs:List (List aI×ay×av)}(r:KT H kvs xs)(k:List aI){b:ay}{y:V}{u:av}(hb:H b=some (.tup (k.map kV)))(ry:aQ y u) :
  KT H (fY kvs k y) (storedH xs k b u):=by
 have e:(kvs.any λkv=>decide (kv.1=k))=(atKey xs k).isSome:=by
  rw[F6,(r.val k).isSome_eq,Option.isSome_map]
 unfold fY storedH;rw[e];by_cases q:(atKey xs k).isSome=true
 ·rw[if_pos q,if_pos q];exact r.repl k ry
 ·rw[if_neg q,if_neg q];exact Paired.snoc r ⟨rfl,hb,ry⟩
theorem KT.keeps {H H':Hp}{kvs:List (List aI×V)}{xs:List (List aI×ay×av)}(r:KT H kvs xs)(ht:∀b ys,H b=some (.tup ys)->H' b=some (.tup ys)):KT H' kvs xs:=
 Paired.mapP r λ_ _ z=>⟨z.1,ht _ _ z.2.1,z.2.2⟩
section
variable {P:az}{w:bc}{H:Hp}{h:Heap}{a:ay}
theorem F9 {u:HO}(ok:bW P w H h)(e:Rd H a u):bN P w H h a u:=e.ok ok
theorem lK {kvs:List (aI×V)}(ok:bW P w H h)(e:Rd H a (.dK kvs)):kvs.length<=sizeLine/\(a==sysModules)=false/\∃vs,KV kvs vs/\h.DictOf (eG P w) a vs:=
 show bN P w H h a (.dK kvs) from F9 ok e
theorem ax9 {kvs:List (aI×V)}(ok:bW P w H h)(e:H a=some (.dK kvs)):kvs.length<=sizeLine/\(a==sysModules)=false/\∃vs,KV kvs vs/\h.DictOf (eG P w) a vs:=lK ok (.inl e)
theorem mK {ks:List aI}(ok:bW P w H h)(e:H a=some (.tup (ks.map kV))):(tupleKind (eG P w)).is h ks a:=by
 obtain⟨_,its,r,⟨o,h1,h2,n,h3⟩,_⟩:=(show bN P w H h a (.tup (ks.map kV)) from ok a _ e)
 exact⟨o,its.toArray,n,h1,h2,h3,by simpa using F8 r⟩
theorem mL {kvs:List (List aI×V)}(ok:bW P w H h)(e:Rd H a (.dT kvs)):kvs.length<=sizeLine/\(a==sysModules)=false/\
  ∃xs,KT H kvs xs/\h.DictOfH (tupleKind (eG P w)) a xs:=by
 obtain⟨z,y,xs,r,o,es,ep,h1,h2,h3,h4,h5⟩:=(show bN P w H h a (.dT kvs) from F9 ok e)
 refine⟨z,y,xs,r,o,es,ep,h1,h2,h3,h4,λx hx=>?_,h5⟩;have all:∀{l:List (List aI×V)}{m:List (List aI×ay×av)},KT H l m->∀x∈m,(tupleKind (eG P w)).is h x.1 x.2.1:=by
  intro l m q
  induction q with
  |nil=>intro x hx;exact nomatch hx
  |@cons p q ps qs hq t ih=>
   intro x hx;rcases bp1.mp hx with e|hx
   ·subst e
    exact mK ok (by rw[<- hq.1];exact hq.2.1)
   ·exact ih x hx
 exact all r x hx
theorem G0 {kvs:List (List aI×V)}(ok:bW P w H h)(e:H a=some (.dT kvs)):kvs.length<=sizeLine/\(a==sysModules)=false/\
  ∃xs,KT H kvs xs/\h.DictOfH (tupleKind (eG P w)) a xs:=mL ok (.inl e)
end
noncomputable def fZ (H:Hp)(a:ay)(y:V)(r:Option V):Prop:=
 (∃kvs k,Rd H a (.dK kvs)/\y=kV k/\r=fD kvs k)∨∃kvs k b,Rd H a (.dT kvs)/\y = .ref b/\H b=some (.tup (k.map kV))/\r=fD kvs k
noncomputable def oM (H:Hp)(a:ay)(y v:V)(H':Hp):Prop:=
 (∃kvs k,H a=some (.dK kvs)/\y=kV k/\kvs.length<sizeLine/\H'=upd H a (.dK (fY kvs k v))) ∨
 ∃kvs k b,H a=some (.dT kvs)/\y = .ref b/\H b=some (.tup (k.map kV))/\kvs.length<sizeLine/\H'=upd H a (.dT (fY kvs k v))
theorem fZ.k {H:Hp}{a:ay}{kvs:List (aI×V)}{k:aI}(e:H a=some (.dK kvs)):fZ H a (kV k) (fD kvs k):=.inl ⟨kvs,k,.inl e,rfl,rfl⟩
theorem fZ.t {H:Hp}{a b:ay}{kvs:List (List aI×V)}{k:List aI}(e:H a=some (.dT kvs))(eb:H b=some (.tup (k.map kV))):fZ H a (.ref b) (fD kvs k):=.inr ⟨kvs,k,b,.inl e,rfl,eb,rfl⟩
theorem oM.t {H:Hp}{a b:ay}{kvs:List (List aI×V)}{k:List aI}{v:V}(e:H a=some (.dT kvs))(eb:H b=some (.tup (k.map kV)))(hl:kvs.length<sizeLine) :
  oM H a (.ref b) v (upd H a (.dT (fY kvs k v))):=.inr ⟨kvs,k,b,e,rfl,eb,hl,rfl⟩
section
variable {X:Cx}{ag:List (ay×Obj)}{σ:St}{H:Hp}{s:ax}{a:ay}{y v:V}{u r:av}{o:Option V}{A:ba}{E:av→ax→Prop}
theorem a8.big (I:a8 X ag σ H s):sysModules<s.heap.objs.size:=by
 have h:mainGlobals<s.heap.objs.size:=(I.mod.glob.keeps I.bk).lt;exact Nat.lt_trans (by decide) h
theorem ay0 {Q:av->ax->Prop}(hu:A.units+1<cLine)(I:a8 X ag σ H s)(g:fZ H a y (some v))(ry:aQ y u)(h:∀w' s',a8 X ag σ H s'->aQ v w'->Q w' s') :
  wpAny (model X.prog X.w) A (getItem (.ref a) u) Q E s:=by
 rcases g with⟨kvs,k,e,ey,l⟩|⟨kvs,k,b,e,ey,eb,l⟩
 ·subst ey
  obtain⟨z,hd,vs,rel,dd⟩:=lK I.hok e
  obtain⟨w',hw,rw'⟩:=gH.some_of (v:=v) (o:=valueAt vs k) (by rw[l];exact rel.val k)
  exact wpAny_getItem_of (oJ ry) dd.mapOf hw (h w' _ (I.tok _) rw')
 ·subst ey
  cases (show u=Value.ref b from ry)
  obtain⟨z,hd,xs,rel,dd⟩:=mL I.hok e
  obtain⟨w',hw,rw'⟩:=gH.some_of (v:=v) (o:=(atKey xs k).map (·.2)) (by rw[l];exact rel.val k)
  obtain⟨p,hp,hp2⟩:=Option.map_eq_some_iff.mp hw
  refine wpAny_getItem_heap (tupleKind_room_in1 hu) (mK I.hok eb) dd hp ?_;rw[hp2];exact h w' _ (I.tok _) rw'
theorem ay1 {Q:av->ax->Prop}(hu:A.units+1<cLine)(I:a8 X ag σ H s)(g:fZ H a y o)(ry:aQ y u)(h:∀s',a8 X ag σ H s'->Q (.bool (!o.isSome)) s') :
  wpAny (model X.prog X.w) A (compareOp .NotIn u (.ref a)) Q E s:=by
 rcases g with⟨kvs,k,e,ey,l⟩|⟨kvs,k,b,e,ey,eb,l⟩
 ·subst ey
  obtain⟨z,hd,vs,rel,dd⟩:=lK I.hok e
  refine wpAny_notIn_of (oJ ry) hd dd.mapOf ?_;rw[<- (rel.val k).isSome_eq,<- l];exact h _ (I.tok _)
 ·subst ey
  cases (show u=Value.ref b from ry)
  obtain⟨z,hd,xs,rel,dd⟩:=mL I.hok e
  refine wpAny_notIn_heap (tupleKind_room_in1 hu) (mK I.hok eb) hd dd ?_;have q:=(rel.val k).isSome_eq;rw[Option.isSome_map]at q;rw[<- q,<- l];exact h _ (I.tok _)
theorem vA {h':Heap}{t':Nat}{ob:HO}(I:a8 X ag σ H s)(mu:o5 (H a))(hs:Heap.SameBut a s.heap h')(he:∃q,h'.get? a=some q)(new:bN X.prog X.w (upd H a ob) h' a ob) :
  a8 X ag σ (upd H a ob) { s with heap:=h',toks:=t' }:=
 I.write (x:=a) (e:=a) mu (.inl rfl) (λb q hb z=>(hs.2 b hb).trans z) he new
theorem ay2 {P:az}{w:bc}{H':Hp}{h':Heap}{kvs:List (aI×V)}{vs:List (aI×av)}(z:kvs.length<=sizeLine)(hd:(a==sysModules)=false)(rel:KV kvs vs)(dd:h'.DictOf (eG P w) a vs) :
  bN P w H' h' a (.dK kvs):=⟨z,hd,vs,rel,dd⟩
theorem ay3 {H':Hp}{Q:Unit->ax->Prop}(hu:A.units+1<cLine)(I:a8 X ag σ H s)(g:oM H a y v H')(ry:aQ y u)(rv:aQ v r)(h:∀s',a8 X ag σ H' s'->Q () s') :
  wpAny (model X.prog X.w) A (setItem (.ref a) u r) Q E s:=by
 rcases g with⟨kvs,k,e,ey,l,eH⟩|⟨kvs,k,b,e,ey,eb,l,eH⟩
 ·subst ey eH
  obtain⟨z,hd,vs,rel,dd⟩:=ax9 I.hok e
  have hz:vs.length<=sizeLine:=by rw[<- rel.length];exact z
  have hl:(fY kvs k v).length<=sizeLine:=by have:=F7 kvs k v;omega
  refine wpAny_setItem_pairs (hsz:=hz) (oJ ry) dd λh' dd' hs=>h _ ?_
  have he:∃q,h'.get? a=some q:=let ⟨q,_,_,hq,_⟩:=dd';⟨q,hq⟩
  exact vA I (by rw[e];exact bH4) hs he (ay2 hl hd (rel.put k rv) dd')
 ·subst ey eH
  cases (show u=Value.ref b from ry)
  obtain⟨z,hd,xs,rel,dd⟩:=G0 I.hok e
  have hz:xs.length<=sizeLine:=by rw[<- Paired.length rel];exact z
  have hl:(fY kvs k v).length<=sizeLine:=by have:=F7 kvs k v;omega
  refine wpAny_setItem_heap (hsz:=hz) (tupleKind_room_in1 hu) (mK I.hok eb) dd λh' dd' hs=>h _ ?_
  obtain⟨q,es,ep,hq,h2,h3,h4,_,h5⟩:=dd'
  refine vA I (by rw[e];exact bH4) hs ⟨q,hq⟩ ⟨hl,hd,_,(rel.put k eb rv).keeps λc ys ec=>?_,q,es,ep,hq,h2,h3,h4,h5⟩;rw[aW (zF ec e (λz=>nomatch z))];exact ec
end
section
variable {X:Cx}{ag:List (ay×Obj)}{σ:St}{H:Hp}{s:ax}{a:ay}{kvs:List (aI×V)}{k:aI}{u:av}{A:ba}{E:av→ax→Prop}
theorem ay4 {Q:av->ax->Prop}(I:a8 X ag σ H s)(e:Rd H a (.dK kvs))(h:∀t s',a8 X ag σ H s'->Q (.int kvs.length t) s'):wpAny (model X.prog X.w) A (call (.builtin "len") [.ref a]) Q E s:=by
 obtain⟨z,hd,vs,rel,dd⟩:=lK I.hok e
 refine call_len_dict hd dd (by rw[<- rel.length];rw[sizeLine_eq]at z;omega) ?_;rw[<- rel.length];exact h _ _ (I.tok _)
end
noncomputable def vB (i:Expr):Prop:=∀ov iv,subscripted i false ov iv=operate [ov,iv] (getItem ov iv)
theorem ay5 {prog:az}{w:bc}{A:ba}{E:av->ax->Prop}{s:ax}{env:Env}{value slice:Expr}{pos:Pos}{T id:String}{Q:av->ax->Prop}(hl:typeLookup (.type T) "__getitem__" = pure (some (.builtin id)))(hs:vB slice)(h:wpAny (model prog w) A (eval value env) (λo s₁=>wpAny (model prog w) A (eval slice env) (λi s₂=>s₂.TypeIs o T/\wpAny (model prog w) A (getItem o i) Q E s₂) E s₁) E s) :
  wpAny (model prog w) A (eval (.Subscript value slice pos) env) Q E s:=by
 refine Subscript_ (bx4 h (λo s₁ h₁=>bx4 h₁ (λi s₂ h₂=>?_) λ_ _ x=>x) λ_ _ x=>x)
 obtain⟨hT,h₂⟩:=h₂
 unfold subscriptTail;refine bo2 ?_;rw[getitemInPython_of_ne hT.not_modules];refine bo2 (wpAny_specialOf hT hl ?_);have fin:wpAny (model prog w) A (subscripted slice false o i) (λr s₃=>wpAny (model prog w) A (letTemporaryGo value o r >>= λ_=>pure r) Q E s₃) E s₂:=by
  rw[hs o i];exact wpAny_operating (bx4 h₂ (λr s₃ h₃=>bo2 (wpAny_letTemporaryGo (bo5 h₃))) λ_ _ x=>x)
 first
  |exact bo5 (bo2 fin)
  |exact bo2 (bo5 (bo2 fin))
  |exact bo2 fin
theorem ay6 {X:Cx}{ag:List (ay×Obj)}{σ:St}{H:Hp}{s:ax}{a:ay}{y:V}{o:Option V}(I:a8 X ag σ H s)(g:fZ H a y o):s.TypeIs (.ref a) "dict":=by
 rcases g with⟨kvs,k,e,_,_⟩|⟨kvs,k,b,e,_,_,_⟩
 ·obtain⟨_,_,vs,_,dd⟩:=lK I.hok e
  exact dd.typeIs
 ·obtain⟨_,_,xs,_,dd⟩:=mL I.hok e
  exact dd.typeIs
noncomputable def G1 (td ty:TE):TE:=λσ H Q=>td σ H λx H1=>ty σ H1 λy H2=>∃a v,x = .ref a/\fZ H2 a y (some v)/\Q v H2
noncomputable def G2 (ty td:TE):TE:=λσ H Q=>ty σ H λy H1=>td σ H1 λx H2=>∃a o,x = .ref a/\fZ H2 a y o/\Q (.bl (!o.isSome)) H2
noncomputable def G3 (td ty tv:TE):TS:=λD σ H=>tv σ H λv H1=>td σ H1 λx H2=>ty σ H2 λy H3=>∃a H4,x = .ref a/\oM H3 a y v H4/\D.nx σ H4
section
variable {X:Cx}{o i e value:Expr}{pos pos' tpos:Pos}{td ty tv:TE}
theorem ay7 (hu:X.A.units+1<cLine)(ho:PE X o td)(hi:PE X i ty)(hs:vB i):PE X (.Subscript o i pos) (G1 td ty):=by
 intro ag s σ H Q I h;refine ay5 PySem.F.slot_dict_getitem.lookup hs (aO (ho ag s σ H _ I h) λu s1 ⟨x,H1,I1,rx,q1⟩=>aO (hi ag s1 σ H1 _ I1 q1) λiv s2 ⟨y,H2,I2,ry,a,v,ex,g,q2⟩=>?_);subst ex;obtain rfl:u=Value.ref a:=rx
 exact⟨ay6 I2 g,ay0 hu I2 g ry λw' s3 I3 rw'=>⟨v,H2,I3,rw',q2⟩⟩
theorem ay8 (hu:X.A.units+1<cLine)(hi:PE X i ty)(ho:PE X o td):PC X .NotIn i o (G2 ty td):=by
 intro ag s σ H Q I h;refine aO (hi ag s σ H _ I h) λiv s1 ⟨y,H1,I1,ry,q1⟩=>aO (ho ag s1 σ H1 _ I1 q1) λu s2 ⟨x,H2,I2,rx,a,ov,ex,g,q2⟩=>?_
 subst ex;obtain rfl:u=Value.ref a:=rx;exact ay1 hu I2 g ry λs3 I3=>⟨.bl (!ov.isSome),H2,I3,rfl,q2⟩
theorem ay9 (hu:X.A.units+1<cLine)(ho:PE X o td)(hi:PE X i ty)(hv:PE X value tv)(hs:swapsWith value (some (.Subscript o i pos')) pos.line X.env=pure false) :
  PS X (.Assign [.Subscript o i pos'] value pos) (G3 td ty tv):=by
 intro ag s σ H D I h;refine wpAny_Assign_Subscript (aO (hv ag s σ H _ I h) λr s1 ⟨v,H1,I1,rv,q1⟩=>aO (ho ag s1 σ H1 _ I1 q1) λu s2 ⟨x,H2,I2,rx,q2⟩=>aO (hi ag s2 σ H2 _ I2 q2) λiv s3 ⟨y,H3,I3,ry,a,H4,ex,g,q3⟩=>?_) hs;subst ex;obtain rfl:u=Value.ref a:=rx;exact ay3 hu I3 g ry rv λs4 I4=>⟨σ,H4,I4,q3⟩
end
theorem az0 {P:az}{w:bc}{H:Hp}(h:Heap)(hb:sysModules<h.objs.size):bN P w H (h.push { cls:=.type "dict",data:=.dict #[] }) h.objs.size (.dT []):=
 ⟨bt5 _,beq_eq_false_iff_ne.mpr (Ne.symm (br1 hb)),[],.nil,_,#[],0,bp4 _ rfl,⟨rfl,rfl,rfl⟩,rfl,rfl,List.nodup_nil⟩
noncomputable def G4:TE:=λ_ H Q=>∀p,H p=none->Q (.ref p) (upd H p (.dT []))
section
variable {X:Cx}{pos:Pos}
theorem az1:PE X (.Dict [] [] pos) G4:=λag s σ H Q I h=>
 wpAny_Dict_empty ⟨.ref s.heap.objs.size,_,I.laid (a:=s.heap.objs.size) (o:=.dT []) (t':=s.toks) (λ_ _ q=>bo4 _ q) (bp7 _) (az0 s.heap I.big),rfl,h _ (I.hok.fresh (bp7 _))⟩
end
structure M1 (X:Cx)(o:Expr)(m:Str)(ah:Pos)(e:Expr)(ai:Pos):Prop where
 base:attributeBase o m X.env (eval o X.env)=eval o X.env
 few:((backTo ai (starEach [e] X.env)).all (λx=>!x.1)&&(backToKw ai (keywordEach [] X.env)).all (λx=>x.1.isSome)
 &&decide (([e]:List Expr).length+([]:List Keyword).length+(if ([]:List Keyword).isEmpty then 0 else 1)<30))=true
 line:(ah.endLine==ai.line)=true
 trees:backTo ai (starEach [e] X.env) = [(false,eval e X.env)]
structure M2 (X:Cx)(o:Expr)(m:Str)(ah:Pos)(e f:Expr)(ai:Pos):Prop where
 base:attributeBase o m X.env (eval o X.env)=eval o X.env
 few:((backTo ai (starEach [e,f] X.env)).all (λx=>!x.1)&&(backToKw ai (keywordEach [] X.env)).all (λx=>x.1.isSome)
 &&decide (([e,f]:List Expr).length+([]:List Keyword).length+(if ([]:List Keyword).isEmpty then 0 else 1)<30))=true
 line:(ah.endLine==ai.line)=true
 trees:backTo ai (starEach [e,f] X.env) = [(false,eval e X.env),(false,eval f X.env)]
noncomputable def vC (H:Hp)(a:ay):Prop:=(∃kvs,Rd H a (.dK kvs))∨∃kvs,Rd H a (.dT kvs)
theorem G5 {X:Cx}{ag:List (ay×Obj)}{σ:St}{H:Hp}{s:ax}{a:ay}(I:a8 X ag σ H s)(d:vC H a) :
  s.TypeIs (.ref a) "dict"/\(∀b,Value.ref a = .ref b->∃ob,s.heap.get? b=some ob/\ob.dict=none)/\(a==sysModules)=false:=by
 rcases d with⟨kvs,e⟩|⟨kvs,e⟩
 ·obtain⟨_,hd,vs,_,dd⟩:=lK I.hok e
  refine⟨dd.typeIs,λb q=>?_,hd⟩;cases q
  obtain⟨ob,_,_,h1,h2,_⟩:=dd
  exact⟨ob,h1,h2.2.1⟩
 ·obtain⟨_,hd,xs,_,dd⟩:=mL I.hok e
  refine⟨dd.typeIs,λb q=>?_,hd⟩;cases q
  obtain⟨ob,_,_,h1,h2,_⟩:=dd
  exact⟨ob,h1,h2.2.1⟩
section
variable {X:Cx}{ag:List (ay×Obj)}{σ:St}{H:Hp}{s:ax}{a:ay}{y d:V}{u r:av}{o:Option V}{A:ba}{E:av→ax→Prop}
theorem az2 {Q:av->ax->Prop}(hu:A.units+1<cLine)(I:a8 X ag σ H s)(g:fZ H a y o)(ry:aQ y u)(rd:aQ d r)(h:∀w' s',a8 X ag σ H s'->aQ (o.getD d) w'->Q w' s') :
  wpAny (model X.prog X.w) A (call (.builtin "dict.get") [.ref a,u,r]) Q E s:=by
 rcases g with⟨kvs,k,e,ey,l⟩|⟨kvs,k,b,e,ey,eb,l⟩
 ·subst ey
  obtain⟨z,hd,vs,rel,dd⟩:=lK I.hok e
  refine call_meetsIn PySem.F.slot_dict_get dd.typeIs PySem.F.entry_dict_get (PySem.F.args_dict_get_3 _ _ _) (meets_dict_get_default (eG X.prog X.w) a (oJ ry) hd r) ⟨_,dd.mapOf,h _ _ (I.tok _) ?_⟩;rw[l];exact (rel.val k).getD rd
 ·subst ey
  cases (show u=Value.ref b from ry)
  obtain⟨z,hd,xs,rel,dd⟩:=mL I.hok e
  refine call_meetsIn PySem.F.slot_dict_get dd.typeIs PySem.F.entry_dict_get (PySem.F.args_dict_get_3 _ _ _) (meetsH_dict_get_default (tupleKind (eG X.prog X.w)) a b hd r) ⟨tupleKind_room_in1 hu,k,xs,mK I.hok eb,dd,h _ _ (I.tok _) ?_⟩;rw[l];exact (rel.val k).getD rd
end
noncomputable def G6 (td ty tx:TE):TE:=λσ H Q=>td σ H λx H1=>∃a,x = .ref a/\vC H1 a/\ty σ H1 λy H2=>tx σ H2 λz H3=>∃o,fZ H3 a y o/\Q (o.getD z) H3
section
variable {X:Cx}{o e f:Expr}{ah ai:Pos}{td ty tx:TE}
theorem az3 (hu:X.A.units+1<cLine)(ho:PE X o td)(he:PE X e ty)(hf:PE X f tx)(m:M2 X o "get" ah e f ai):PE X (.Call (.Attribute o "get" ah) [e,f] [] ai) (G6 td ty tx):=by
 intro ag s σ H Q I h;refine wpAny_Call_method m.base m.few m.line PySem.F.plainAttrs_dict PySem.F.slot_dict_get PySem.F.type_dict_get (aO (ho ag s σ H _ I h) λu s1 ⟨x,H1,I1,rx,a,ex,d,q1⟩=>?_);subst ex;obtain rfl:u=Value.ref a:=rx
 obtain⟨t1,t2,_⟩:=G5 I1 d
 refine⟨t1,t2,?_⟩;rw[m.trees]
 refine Calls.callWith_builtin rfl (Calls.evalArgs_plain (Calls.spliced_cons (aO (he ag s1 σ H1 _ I1 q1) λiv s2 ⟨y,H2,I2,ry,q2⟩=>
  Calls.spliced_cons (aO (hf ag s2 σ H2 _ I2 q2) λfv s3 ⟨z,H3,I3,rz,ov,g,q3⟩=>Calls.spliced_nil ?_))))
 exact az2 hu I3 g ry rz λw' s4 I4 rw'=>⟨_,H3,I4,rw',q3⟩
end
end L2
namespace Att
open PySem PySem.W PySem.Calls PyProof.Rows
theorem az4 {P:Params}{h:Heap}:∀(ns:ae) (vs:List av),WellAll P h vs (ns.map WData.int)->IntsAre vs ns:=by
 intro ns
 induction ns with
 |nil=>
  intro vs w;rw[List.map_nil]at w;cases w;exact .nil
 |cons n ns ih=>
  intro vs w;rw[bv2]at w;cases w with
  |cons a b=>
   cases a;exact .cons _ _ (ih _ b)
theorem G7 {l:OpenLaw}{n:Nat}(hn:l.most=some n){P:Params}{h:Heap}{args:List WData}{vals:List av}(hpre:l.row.toRowW.claim.pre args=true)(hwl:WellAll P h vals args) :
  ∃a vs ns,vals = [Value.ref a]/\args = [WData.list (ns.map WData.int)]/\h.get? a=some { cls:=.type "list",data:=.seq vs.toArray }/\IntsAre vs ns/\ns.length<=n:=by
 have hsh:WShape.hasAll [] args [.list .int]=true:=(pre_splitW hpre).1;have hc:l.pre.holds [] { args:=args }=true:=(pre_splitW hpre).2
 obtain⟨d,r,rfl,h1,h2⟩:=hasAllW_cons hsh
 obtain rfl:=hasAllW_nil h2
 obtain⟨xs,rfl,h3⟩:=hasW_list h1
 obtain⟨ns,rfl⟩:=items_int h3
 have aj:ns.length<=n:=by
  unfold OpenLaw.pre at hc;have h4:(WTm.not (.lt (.lit (.int (n:Int))) (.len (.arg 0)))).holds [] { args:=[.list (ns.map .int)] }=true:=by
   have h4:=(holds_andW hc).1;rw[hn]at h4;exact h4
  have h5:=condW_of h4 (w_not (w_lt w_lit (w_len_list (w_arg rfl))));rw[bo7]at h5;refine Nat.le_of_not_lt λq=>?_
  have q':(n:Int)<((ns.length:Nat):Int):=by omega
  first
   |(rw[bp8 q']at h5;exact absurd h5 (by decide))
   |(simp at h5;omega)
 cases hwl with
 |cons w1 w2=>
  cases w2;cases w1 with
  |list ho hall=>exact⟨_,_,ns,rfl,rfl,ho,az4 ns _ hall,aj⟩
theorem G8 (l:OpenLaw)(args:List WData):l.row.toRowW.claim.post args (.bool true) args=true:=
 postW_of (r:=l.row.toRowW) (X:=(true==true))
  (show WShape.has [] (.bool true) .bool=true by first|rfl|decide|simp[WShape.has,WShape.arms,WShape.armsAll])
  (show (WTm.eq .res (.lit (.bool true))).value [] { args:=args,res:=some (.bool true),after:=args }=some (.bool (true==true)) from w_eq_bool (w_res rfl) w_lit) rfl
theorem bn8 {l:OpenLaw}{n:Nat}{q:az}{loose:List Str}{XP:(Str->Option av)->Heap->Prop}{YP:bc->Heap->Prop}{d:DefRec}{x:Str}(hn:l.most=some n)(hdf:d.params.defaults = [])(hbind:∀pm cd doc v:av,bindArgs (docDef d.name d.params d.body d.scope pm cd doc) ⟨[v],[]⟩=pure [(x,v)])(hx:d.scope.names.lookup x=some .local∨d.scope.names.lookup x=some .cell)(hk:d.scope.kind = .function)(hco:d.scope.isCoroutine=false)(hgen:d.scope.isGenerator=false)(body:∀(w:bc) (s₀ s₁ s:ax) (mg mb:Str->Option av) (fa:ay) (o:Obj) (pm cd doc:av) (a:ay) (vs:List av) (ns:ae),
   Ground q loose [] XP w s₀ mg mb s₁.heap->YP w s₁.heap->
   s₁.heap.get? fa=some o->o.data = .func (docDef d.name d.params d.body d.scope pm cd doc)->s₁.heap.CodeRec cd d.name->mg d.name=some (.ref fa)->
   s₁.heap.get? a=some { cls:=.type "list",data:=.seq vs.toArray }->IntsAre vs ns->ns.length<=n->
   s.gens = #[]->s.os=s₁.os->
   Fr s₁.heap s₁.heap.objs.size s.heap (bindL (envOfC d.name d.scope s₁.heap.objs.size fa cd).kindOf [(x,.ref a)] λ_=>none)->
   Cl s₁.heap.objs.size (cellsFrom (s₁.heap.objs.size+1) d.scope.names []) s.heap (bindC (envOfC d.name d.scope s₁.heap.objs.size fa cd).kindOf [(x,.ref a)] λ_=>none)->
   wpAny (model l.prog w) (callerA.deeper (envOfC d.name d.scope s₁.heap.objs.size fa cd)) (execs d.body (envOfC d.name d.scope s₁.heap.objs.size fa cd))
    (λf s'=>f = .ret (.bool true)/\OldK s₁.heap s'.heap/\s'.os=s₁.os/\AllBare s'.gens) (λ_ _=>False) s) :
  WalkO q loose XP YP l.row.toRowW d [] (λf vs=>PySem.call f vs):=by
 intro w s₀ s₁ mg mb G Y fa o pm cd doc dV kV ho hd hcd hD hmg hg args vals as hpre hlay hrd hwl hlo;obtain rfl:dV = .none:=Dflts.none hD hdf;obtain rfl:kV = .none:=Dflts.noKw hD
 obtain⟨a,vs,ns,rfl,rfl,hobj,hints,aj⟩:=G7 hn hpre hwl
 refine enter_call ?_;refine call_cells_ret (o:=o) (by rw[depth_caller];decide) ho (fd_plain hd) G.T.nolimit hcd (hbind pm cd doc (.ref a)) (λy hy=>?_) (λh₁ tk F X=>?_) hco hgen hk
 ·obtain rfl:y=(x,Value.ref a):=bp2.mp hy
  rcases hx with e|e
  ·exact .inl e
  ·exact .inr ⟨e,cellsFrom_some _ _ _ (.inl e)⟩
 ·refine bx4 (body w s₀ s₁ { s₁ with heap:=h₁,toks:=tk } mg mb fa o pm cd doc a vs ns G Y ho (fd_plain hd) hcd hmg hobj hints aj hg rfl F X) (λf s' hq=>?_) (λ_ _ hq=>hq)
  obtain⟨rfl,h2,h3,h4⟩:=hq
  exact⟨.inl ⟨.bool true,.bool true,[],rfl,λ_=>rfl,.bool true,G8 l _,λ_=>⟨bz3,λ_ hm=>(nomatch hm)⟩⟩,h2,h3,h4⟩
theorem az5 {l:OpenLaw}{n:Nat}{q:az}{loose:List Str}{XP:(Str->Option av)->Heap->Prop}{YP:bc->Heap->Prop}{d:DefRec}(hn:l.most=some n)(hdf:d.params.defaults = [])(call:∀(w:bc) (s₀ s₁:ax) (mg mb:Str->Option av) (fa:ay) (o:Obj) (pm cd doc:av) (a:ay) (vs:List av) (ns:ae),
   Ground q loose [] XP w s₀ mg mb s₁.heap->YP w s₁.heap->
   s₁.heap.get? fa=some o->o.data = .func (docDef d.name d.params d.body d.scope pm cd doc)->s₁.heap.CodeRec cd d.name->mg d.name=some (.ref fa)->
   s₁.heap.get? a=some { cls:=.type "list",data:=.seq vs.toArray }->IntsAre vs ns->ns.length<=n->s₁.gens = #[]->
   codeAny (model l.prog w) callerA (.call (.ref fa) ⟨[.ref a],[]⟩) (λr s'=>r = .ok (.ret (.bool true))/\OldK s₁.heap s'.heap/\s'.os=s₁.os/\AllBare s'.gens) s₁) :
  WalkO q loose XP YP l.row.toRowW d [] (λf vs=>PySem.call f vs):=by
 intro w s₀ s₁ mg mb G Y fa o pm cd doc dV kV ho hd hcd hD hmg hg args vals as hpre hlay hrd hwl hlo;obtain rfl:dV = .none:=Dflts.none hD hdf;obtain rfl:kV = .none:=Dflts.noKw hD
 obtain⟨a,vs,ns,rfl,rfl,hobj,hints,aj⟩:=G7 hn hpre hwl
 refine enter_call (codeAny_mono (call w s₀ s₁ mg mb fa o pm cd doc a vs ns G Y ho (fd_plain hd) hcd hmg hobj hints aj hg) λr s' hq=>?_)
 obtain⟨rfl,h2,h3,h4⟩:=hq
 exact⟨.inl ⟨.bool true,.bool true,[],rfl,λ_=>rfl,.bool true,G8 l _,λ_=>⟨bz3,λ_ hm=>(nomatch hm)⟩⟩,h2,h3,h4⟩
end Att
namespace L2
open PySem PySem.Spec PyProof.Rows
theorem G9:∀{vs:List av}{ns:ae},IntsAre vs ns->aL (ns.map V.int) vs
 |_,_,.nil=>.nil
 |_,_,.cons n t h=>.cons ⟨t,rfl⟩ (G9 h)
noncomputable def qQ (H:Hp):Prop:=∀b,H b=none∨∃o xs,H b=some (.frz o (.lst xs))
theorem az6 {P:az}{w:bc}{K:ac}{mg mb:Str->Option av}{CX:gX}{k:Nat}{fa a:ay}{fd:FuncData}{x:Str}{sp:Sp}{s₁:ax}{vs:List av}{ns:ae}(KX:K.In s₁.heap)(hns:s₁.heap.Ns mainGlobals mg)(hb:s₁.heap.Ns builtinsNs mb)(hbb:∀x:Str,x≠"__name__"->mb x=bootBuiltins x)(hlim:s₁.heap.NoLimit)(hg:s₁.gens = #[])(ha:s₁.heap.get? a=some { cls:=.type "list",data:=.seq vs.toArray })(hi:IntsAre vs ns)(hl:ns.length<=sizeLine)(hr:cI k callerA)(F:∀base:Heap,K.In base->base.Ns mainGlobals mg->dX P w K mg base CX k fa fd [x] sp)(hbind:∀(s:ax) (u:av),BindsTo s fd ⟨[u],[]⟩ [(x,u)])(hsp:∀H:Hp,qQ H->aM K H a (ns.map V.int)->sp [.ref a] H (λv _=>v = .bl true) λ_ _ _=>False)(hCX:∀H e s',CX [] H s₁ (λ_ _ _=>False) e s'->False) :
  codeAny (model P w) callerA (.call (.ref fa) ⟨[.ref a],[]⟩) (λr s'=>r = .ok (.ret (.bool true))/\OldK s₁.heap s'.heap/\s'.os=s₁.os/\AllBare s'.gens) s₁:=by
 have rv:=G9 hi;have lenV:=hi.length;have core:∀H:Hp,qQ H->aM K H a (ns.map V.int)->bW P w H s₁.heap->(∀b,H b≠none->b=a)->(H a≠none->K.lookup a=none)->
   codeAny (model P w) callerA (.call (.ref fa) ⟨[.ref a],[]⟩) (λr s'=>r = .ok (.ret (.bool true))/\OldK s₁.heap s'.heap/\s'.os=s₁.os/\AllBare s'.gens) s₁:=by
  intro H hO hS hok hA hK;have base_of:∀{b:ay}{o:Obj},s₁.heap.get? b=some o->H b=none->(jB s₁.heap H).get? b=some o:=λe n=>ao1 e n
  have noA:∀{b:ay}{o:Obj}{es:Array DictEntry}{ep:Nat},s₁.heap.get? b=some o->o.data = .dict es ep->H b=none:=λ{b o es ep} e d=>by
   cases q:H b with
   |none=>rfl
   |some u=>
    have e':b=a:=hA b (by rw[q];simp);subst e';rw[ha]at e;cases e;have d':Data.seq vs.toArray _=Data.dict es ep:=d;cases d'
  have nsK:∀{b:ay}{m:Str->Option av},s₁.heap.Ns b m->(jB s₁.heap H).Ns b m:=λ{b m} ⟨o,es,ep,e,d,r⟩=>⟨o,es,ep,base_of e (noA e d),d,r⟩
  have hKb:K.In (jB s₁.heap H):=λb o e=>base_of (KX b o e) (by
   cases q:H b with
   |none=>rfl
   |some u=>
    have e':b=a:=hA b (by rw[q];simp);subst e'
    rw[hK (by rw[q];simp)]at e;cases e)
  have hM:Mod K mg (jB s₁.heap H):=⟨hKb,nsK hns,⟨mb,nsK hb,hbb⟩,let ⟨mc,h1,h2⟩:=hlim;⟨mc,nsK h1,h2⟩⟩;have e0:qO P w K mg (jB s₁.heap H) callerA [] s₁ H:=⟨rfl,hM,λb o e=>ao2 e,Nat.le_of_eq (ao0 _ _),trivial,λb hb=>absurd (show b∈([]:List ay) from hb) (by simp),hok,.of_eq hg⟩;refine codeAny_mono ((F _ hKb (nsK hns)).run callerA [] s₁ H ⟨[.ref a],[]⟩ [.ref a] [.ref a] _ _ hr e0 (hbind s₁ (.ref a)) (.cons rfl .nil) (hsp H hO hS)) λr s' h=>?_
  cases r with
  |error e=>exact (hCX H e s' h).elim
  |ok fl=>
   cases fl with
   |next=>exact False.elim h
   |brk=>exact False.elim h
   |cont=>exact False.elim h
   |ret u=>
    obtain⟨v,H',os,bare,un,hok',r',q⟩:=h
    have q':v = .bl true:=q;subst q';obtain rfl:u=Value.bool true:=r';refine⟨rfl,OldK.of_keep λb o e=>?_,os,bare⟩;cases q:H b with
    |none=>exact un.keep b o e q (by intro z;exact absurd (show b∈([]:List ay) from z) (by simp)) (by simp)
    |some u=>
     rcases hO b with z|⟨ob,xs,z⟩
     ·rw[q]at z;cases z
     ·have z2:=un.frzs b ob _ z
      obtain⟨e1,_⟩:=hok b _ z
      obtain⟨e2,_⟩:=hok' b _ z2
      rw[e]at e1;cases e1;exact e2
 cases hk:K.lookup a with
 |some o=>
  have e:=KX a o hk;rw[ha]at e;cases e;refine core (λ_=>none) (λ_=>.inl rfl) (.inr ⟨_,vs.toArray,_,hk,rfl,rfl,rfl,by rw[bo8,lenV];exact hl,by simpa using rv⟩) (λb u z=>by have z':(none:Option HO)=some u:=z;cases z') (λb z=>absurd rfl z) λz=>absurd rfl z
 |none=>
  refine core (λb=>if b=a then some (.frz { cls:=.type "list",data:=.seq vs.toArray } (.lst (ns.map V.int))) else none) (λb=>?_) (.inl (.inr ⟨{ cls:=.type "list",data:=.seq vs.toArray },if_pos rfl⟩)) (λb u z=>?_) (λb z=>?_) λ_=>hk
  ·by_cases hb:b=a
   ·exact .inr ⟨_,_,if_pos hb⟩
   ·exact .inl (if_neg hb)
  ·by_cases hb:b=a
   ·have z':=(if_pos hb).symm.trans z
    cases z';subst hb
    exact⟨ha,by rw[bo7];exact hl,vs,_,rv,ha⟩
   ·have z':=(if_neg hb).symm.trans z
    cases z'
  ·by_cases hb:b=a
   ·exact hb
   ·exact absurd (if_neg hb) z
theorem az7 {l:PySem.W.OpenLaw}{n k:Nat}{q:az}{loose:List Str}{XP:(Str->Option av)->Heap->Prop}{YP:bc->Heap->Prop}{d:DefRec}{K:Params->ac}{CX:bc->gX}{sp:bc->Sp}{x:Str}(hn:l.most=some n)(hn2:n<=sizeLine)(hdf:d.params.defaults = [])(hr:cI k callerA)(hY:∀(w:bc) (h:Heap),YP w h->(K w.params).In h)(F:∀(w:bc) (mg:Str->Option av) (fa:ay) (h:Heap),(K w.params).In h->h.Ns mainGlobals mg->mg d.name=some (.ref fa)->
   ∃fd:FuncData,(∀(s:ax) (u:av),BindsTo s fd ⟨[u],[]⟩ [(x,u)])/\
    ∀base:Heap,(K w.params).In base->base.Ns mainGlobals mg->dX l.prog w (K w.params) mg base (CX w) k fa fd [x] (sp w))(hsp:∀(w:bc) (H:Hp) (a:ay) (ns:ae),ns.length<=n->qQ H->aM (K w.params) H a (ns.map V.int)->sp w [.ref a] H (λv _=>v = .bl true) λ_ _ _=>False)(hCX:∀(w:bc) (H:Hp) (s:ax) (e:av) (s':ax),CX w [] H s (λ_ _ _=>False) e s'->False) :
  PySem.W.WalkO q loose XP YP l.row.toRowW d [] (λf vs=>PySem.call f vs):=by
 refine Att.az5 hn hdf λw s₀ s₁ mg mb fa o pm cd doc a vs ns G Y ho hd hcd hmg hobj hints aj hg=>?_
 have KX:=hY w _ Y
 obtain⟨fd,hb,hF⟩:=F w mg fa _ KX G.T.g hmg
 exact az6 KX G.T.g G.T.b G.T.builtins G.T.nolimit hg hobj hints (bs7 aj hn2) hr hF hb (λH hO hS=>hsp w H a ns aj hO hS) λH e s'=>hCX w H s₁ e s'
noncomputable def jF (s:Stmt):Arguments:=match s with
 |.FunctionDef _ a _ _ _ _ _ _ _ _=>a
 |_=>{ posonlyargs:=[],args:=[],vararg:=none,kwonlyargs:=[],kw_defaults:=[],kwarg:=none,defaults:=[] }
noncomputable def eO (s:Stmt):List Stmt:=match s with
 |.FunctionDef _ _ b _ _ _ _ _ _ _=>b
 |_=>[]
noncomputable def b6 (s:Stmt):Scope:=match s with
 |.FunctionDef _ _ _ _ _ _ sc _ _ _=>sc
 |_=>{ kind:=.function,names:=[],isGenerator:=false,isCoroutine:=false }
noncomputable abbrev g9:gX:=λ_ _ _ _ _ _=>False
noncomputable abbrev E0:XK:=λ_ _ _=>False
theorem az8 {X:Cx}:oG g9 X E0:=λ_ _ _ _ _ _ _ h=>h.elim
structure gJ (K:ac)(x qual:Str)(st:Stmt)(f:ay)(fd:FuncData):Prop where
 ex:∃(oc:av) (od:Option ay) (kV doc pm:av) (an:Option ay) (cdv ct:av) (osl:Array (Option av)),
  fd=PySem.W.fnOf x qual (jF st) (eO st) (b6 st) .none kV doc pm an cdv ct/\K.lookup f=some ⟨oc,od,.func fd,osl⟩/\PySem.W.codeIn K cdv qual=true
 kp:PySem.W.keepIn K (.ref f)=true
section
variable {P:az}{w:bc}{K:ac}{mg:Str→Option av}{base:Heap}
theorem gJ.ok {x qual:Str}{st:Stmt}{f:ay}{fd:FuncData}{N ps:List Str}{k:Nat}{sp:Sp}(F:gJ K x qual st f fd)(S:FnScope N ps (b6 st))(len:∀vs H Q E,sp vs H Q E->vs.length=ps.length)(hbody:∀(cdv:av) (A:ba) (outer:List Env) (s:ax) (H:Hp) (vs:List V) (Q:VK) (E:XK),cI k (A.deeper (envOfC qual (b6 st) s.heap.objs.size f cdv))->sp vs H Q E->
   ∃t,eI (dH g9 P w K mg base N qual (b6 st) f cdv A outer s H E).nox (eO st) t/\t { nx:=λ_ H'=>Q .non H',rt:=Q } (gY N vs) H):dX P w K mg base g9 (k+1) f fd ps sp:=by
 obtain⟨oc,od,kV,doc,pm,an,cdv,ct,osl,rfl,lk,hcd⟩:=F.ex
 refine B7 lk hcd S len λA outer s H vs Q E hr hsp=>?_
 obtain⟨t,h,q⟩:=hbody cdv A outer s H vs Q E hr hsp
 exact⟨t,h.nox,q⟩
theorem gJ.binds {x qual:Str}{st:Stmt}{f:ay}{fd:FuncData}{ps:List Str}(F:gJ K x qual st f fd)(h:∀(kV doc pm:av) (an:Option ay) (cdv ct:av) (us:List av),us.length=ps.length->bindArgs (PySem.W.fnOf x qual (jF st) (eO st) (b6 st) .none kV doc pm an cdv ct) ⟨us,[]⟩=pure (ps.zip us)):lH K fd ps []:=by
 obtain⟨oc,od,kV,doc,pm,an,cdv,ct,osl,rfl,lk,hcd⟩:=F.ex
 exact .all (h kV doc pm an cdv ct)
theorem az9 {x qual:Str}{st:Stmt}{f:ay}{oc:av}{od an:Option ay}{osl:Array (Option av)}{kV doc pm cdv ct:av}(l:K.lookup f=some ⟨oc,od,.func (PySem.W.fnOf x qual (jF st) (eO st) (b6 st) .none kV doc pm an cdv ct),osl⟩)(c:PySem.W.codeIn K cdv qual=true)(k:PySem.W.keepIn K (.ref f)=true):gJ K x qual st f (PySem.W.fnOf x qual (jF st) (eO st) (b6 st) .none kV doc pm an cdv ct):=⟨⟨oc,od,kV,doc,pm,an,cdv,ct,osl,rfl,l,c⟩,k⟩
end
theorem mM {A:ba}{k:Nat}(hr:cI k A):A.units+1<cLine:=Nat.lt_of_le_of_lt (Nat.add_le_add_left (by decide:1<=64) _) hr.units
theorem aA0 {n:Nat}(h:n<=1000):n<sizeLine:=Nat.lt_of_le_of_lt h (by decide)
section
variable {X:Cx}
theorem aA1:cH X (.builtin "len") (λxs H Q=>∃a kvs,xs = [V.ref a]/\H a=some (.dK kvs)/\Q (.int kvs.length) H):=by
 intro ag s σ H xs us Q I r h
 obtain⟨a,kvs,rfl,ha,q⟩:=h
 obtain⟨u,rfl,ru⟩:=fV r
 cases ru;exact ay4 I (.inl ha) λt s' I'=>⟨.int kvs.length,H,I',⟨t,rfl⟩,q⟩
end
theorem bE {A B:Prop}(h:B):if false=true then A else B:=by
 rw[if_neg br3];exact h
theorem bQ {A B:Prop}(h:A):if true=true then A else B:=by
 rw[if_pos rfl];exact h
noncomputable def aG (H H':Hp):Prop:=∀b o,H b=some o->H' b=some o
theorem aG.refl (H:Hp):aG H H:=λ_ _ h=>h
theorem aG.trans {H H1 H2:Hp}(a:aG H H1)(b:aG H1 H2):aG H H2:=λc o h=>b c o (a c o h)
theorem aG.free {H H':Hp}(e:aG H H'){l:ay}(h:H' l=Option.none):H l=Option.none:=by
 cases q:H l with
 |none=>rfl
 |some o=>
  rw[e l o q]at h;cases h
noncomputable def eJ (cells:List (Str×ay)):List (Str×NameKind)->List (Str×ay)->List (Str×ay)
 |[],cs=>cs
 |(n,k)::r,cs=>eJ cells r (if k==.free then (n,(cells.lookup n).getD 0)::cs else cs)
theorem vD {env:Env}:∀(ns:List (Str×NameKind)) (cs:List (Str×ay)),(∀x∈ns,x.2 = .free->∃c,env.cells.lookup x.1=some c)->
  (forIn ns cs (λ(x:Str×NameKind) r=>(match x with
   |(name,kind)=>if (kind==.free)=true then (do let y <- cellOf env name;pure (ForInStep.yield ((name,y)::r))) else pure (ForInStep.yield r)):_->_->Sem _))=(pure (eJ env.cells ns cs):Sem (List (Str×ay)))
 |[],cs,_=>by rw[List.forIn_nil];rfl
 |(n,k)::r,cs,h=>by
  rw[List.forIn_cons];have hr:∀x∈r,x.2 = .free->∃c,env.cells.lookup x.1=some c:=λx hx=>h x (bp0 _ hx)
  cases hk:(k==NameKind.free) with
  |true=>
   have e:k = .free:=by simpa using hk
   obtain⟨c,hc⟩:=h (n,k) bp5 e
   simp only[hk,if_true];have e1:cellOf env n=pure c:=by unfold cellOf;rw[hc]
   rw[e1];show ((pure c >>= λy=>pure (ForInStep.yield ((n,y)::cs))) >>= _:Sem _)=_;rw[pure_bind,pure_bind]
   have:=vD (env:=env) r ((n,c)::cs) hr
   refine this.trans ?_;unfold eJ;simp only[hk,if_true,hc,bE9];cases r<;>rfl
  |false=>
   simp only[hk,bq3,bu2];rw[pure_bind]
   have:=vD (env:=env) r cs hr
   refine this.trans ?_
   conv=>rhs;unfold eJ
   simp only[hk,bq3,bu2]
theorem J0 {scope:Scope}{env:Env}(h:∀x∈scope.names,x.2 = .free->∃c,env.cells.lookup x.1=some c):closureFor scope env=pure (eJ env.cells scope.names []):=by
 have e:=vD (env:=env) scope.names [] h;unfold closureFor;rw[show (pure (eJ env.cells scope.names []):Sem (List (Str×ay)))=(pure (eJ env.cells scope.names []) >>= pure) by rw[pure_bind]];rw[<- e]
theorem qR {cells:List (Str×ay)}:∀(ns:List (Str×NameKind)) (cs:List (Str×ay)) {x:Str}{c:ay},(∀y∈ns,y.2 = .free->∃c,cells.lookup y.1=some c)->
  (∀x c,cs.lookup x=some c->cells.lookup x=some c)->(eJ cells ns cs).lookup x=some c->cells.lookup x=some c
 |[],cs,x,c,_,hc,h=>hc x c h
 |(n,k)::r,cs,x,c,hn,hc,h=>by
  unfold eJ at h;have hr:∀y∈r,y.2 = .free->∃c,cells.lookup y.1=some c:=λy hy=>hn y (bp0 _ hy)
  cases hk:(k==NameKind.free) with
  |false=>
   simp only[hk,bq3,bu2]at h;exact qR r cs hr hc h
  |true=>
   simp only[hk,if_true]at h;refine qR r _ hr (λy d e=>?_) h
   obtain⟨c0,h0⟩:=hn (n,k) bp5 (by simpa using hk)
   have h0:cells.lookup n=some c0:=h0;rw[h0]at e;rw[bx8]at e;by_cases hyn:y=n
   ·subst hyn
    simp only[bx9,bE9]at e;rw[h0];exact e
   ·have:(y==n)=false:=beq_eq_false_iff_ne.mpr hyn
    simp only[this]at e;exact hc y d e
theorem vE {cells:List (Str×ay)}:∀(ns:List (Str×NameKind)) (cs:List (Str×ay)) {x:Str},((x,NameKind.free)∈ns∨∃c,cs.lookup x=some c)->∃c,(eJ cells ns cs).lookup x=some c
 |[],cs,x,h=>by
  rcases h with h|h
  ·simp at h
  ·exact h
 |(n,k)::r,cs,x,h=>by
  unfold eJ;refine vE r _ ?_;rcases h with h|⟨c,h⟩
  ·rcases bp1.mp h with e|e
   ·cases e
    exact .inr ⟨_,by simp[bx8];rfl⟩
   ·exact .inl e
  ·right
   cases hk:(k==NameKind.free) with
   |false=>exact⟨c,by simpa[hk] using h⟩
   |true=>
    simp only[if_true];rw[bx8];by_cases hxn:(x==n)=true
    ·simp only[hxn];exact⟨_,rfl⟩
    ·simp only[bE1.mpr hxn];exact⟨c,h⟩
theorem qS {env:Env}:∀{names:List (Str×NameKind)}{x:Str}{k:NameKind},(names.map λ(n,k)=>if (k==NameKind.free&&env.scope.kind==.function&&env.kindOf n==some .cell) then (n,NameKind.cell) else (n,k)).lookup x=some k->
  names.lookup x=some k∨(names.lookup x=some .free/\k = .cell)
 |[],_,_,h=>by simp at h
 |(n,q)::r,x,k,h=>by
  have ih:=@qS env r x k;rw[bv2]at h;by_cases hx:(x==n)=true
  ·have e:x=n:=by simpa using hx
   subst e;by_cases hc:(q==NameKind.free&&env.scope.kind==.function&&env.kindOf x==some .cell)=true
   ·simp only[hc,if_true,bx8,bx9]at h
    have hq:q = .free:=by simp at hc;exact hc.1.1
    exact .inr ⟨by simp[bx8,hq],(br7 h).symm⟩
   ·simp only[hc,bq3,bu2,bx8,bx9]at h
    exact .inl (by simp[bx8];exact br7 h)
  ·have hx':(x==n)=false:=bE1.mpr hx
   have h':(r.map λ(n,k)=>if (k==NameKind.free&&env.scope.kind==.function&&env.kindOf n==some .cell) then (n,NameKind.cell) else (n,k)).lookup x=some k:=by
    by_cases hc:(q==NameKind.free&&env.scope.kind==.function&&env.kindOf n==some .cell)=true
    ·simp only[hc,if_true,bx8,hx']at h;exact h
    ·simp only[hc,bq3,bu2,bx8,hx']at h;exact h
   simp only[bx8,hx'];exact ih h'
noncomputable def gK (fr:List (Option Nat))(σ:St):St:=fr.map λo=>o.bind λj=>(σ[j]?).join
noncomputable def Wk (σ₁ σ₂:St):Prop:=σ₁.length=σ₂.length/\∀(i:Nat) v,σ₁[i]? = some (some v)->σ₂[i]? = some (some v)
theorem jG:∀(ns:List (Str×NameKind)) (n:Nat) (cs:List (Str×ay)),cellsFrom n ns cs=cellsFrom n ns []++cs
 |[],_,_=>rfl
 |(x,k)::r,n,cs=>by
  unfold cellsFrom;split
  ·rw[jG r (n+1) ((x,n)::cs),jG r (n+1) [(x,n)]];simp
  ·exact jG r n cs
theorem vF:∀(ns:List (Str×NameKind)) (n:Nat) {x:Str}{c:ay},(x,c)∈cellsFrom n ns []->(x,NameKind.cell)∈ns
 |[],_,_,_,h=>by simp[cellsFrom]at h
 |(y,k)::r,n,x,c,h=>by
  unfold cellsFrom at h;split at h
  ·rename_i hk
   rw[jG]at h;rcases bs0.mp h with z|z
   ·exact bp0 _ (vF r _ z)
   ·rw[bp2]at z
    cases z
    have:k = .cell:=by simpa using hk
    rw[this];exact bp5
  ·exact bp0 _ (vF r _ h)
theorem qT:∀(ns:List (Str×NameKind)) (n:Nat) {x:Str},(x,NameKind.cell)∈ns->∃c,(x,c)∈cellsFrom n ns []
 |(y,k)::r,n,x,h=>by
  unfold cellsFrom;rcases bp1.mp h with z|z
  ·cases z
   rw[if_pos (by rfl),jG]
   exact⟨n,bs8 _ (by simp)⟩
  ·split
   ·obtain⟨c,hc⟩:=qT r (n+1) z
    rw[jG]
    exact⟨c,bt4 _ hc⟩
   ·exact qT r n z
theorem vG {α:Type}:∀{l:List (Str×α)}{x:Str}{c:α},(x,c)∈l->∃d,l.lookup x=some d
 |(y,v)::r,x,c,h=>by
  rw[bx8];cases hb:x==y with
  |true=>exact⟨v,rfl⟩
  |false=>
   rcases bp1.mp h with z|z
   ·cases z;simp at hb
   ·exact vG z
theorem qU {α:Type}{x:Str}:∀(l r:List (Str×α)),(l++r).lookup x=(match l.lookup x with|some v=>some v|none=>r.lookup x)
 |[],_=>rfl
 |(y,v)::l,r=>by
  rw[List.cons_append,bx8,bx8];cases hb:x==y with
  |true=>rfl
  |false=>exact qU l r
noncomputable def gZ (X:Cx)(scope:Scope)(C:ay):List (Str×ay):=cellsFrom (C+1) scope.names (eJ X.env.cells scope.names [])
theorem lM {X:Cx}{scope:Scope}{C:ay}{x:Str}{c:ay}(h:(gZ X scope C).lookup x=some c) :
  (x,c)∈cellsFrom (C+1) scope.names []∨((∀d,(x,d)∉cellsFrom (C+1) scope.names [])/\(eJ X.env.cells scope.names []).lookup x=some c):=by
 unfold gZ at h;rw[jG,qU]at h;cases e:(cellsFrom (C+1) scope.names []).lookup x with
 |some v=>rw[e]at h;cases h;exact .inl (bw7 e)
 |none=>
  rw[e]at h;refine .inr ⟨λd hd=>?_,h⟩
  obtain⟨d',z⟩:=vG hd
  rw[e]at z;cases z
theorem aA2 {X:Cx}{scope:Scope}{C:ay}{x:Str}{c:ay}(hn:(x,NameKind.cell)∉scope.names)(h:(eJ X.env.cells scope.names []).lookup x=some c):(gZ X scope C).lookup x=some c:=by
 unfold gZ;rw[jG,qU];cases e:(cellsFrom (C+1) scope.names []).lookup x with
 |some v=>exact absurd (vF _ _ (bw7 e)) hn
 |none=>exact h
theorem J1 {X:Cx}{scope:Scope}{C:ay}{x:Str}(h:(x,NameKind.cell)∈scope.names∨∃c,(eJ X.env.cells scope.names []).lookup x=some c):∃c,(gZ X scope C).lookup x=some c:=by
 unfold gZ;rw[jG,qU];cases e:(cellsFrom (C+1) scope.names []).lookup x with
 |some v=>exact⟨v,rfl⟩
 |none=>
  rcases h with h|h
  ·obtain⟨c,hc⟩:=qT scope.names (C+1) h
   obtain⟨d,hd⟩:=vG hc
   rw[e]at hd;cases hd
  ·exact h
noncomputable def bR (X:Cx)(scope:Scope)(N:List Str)(s:ax)(H:Hp)(C:ay)(fp:List ay)(E:av->ax->Prop):Cx:=
 { X with N:=N,s₀:=s,H₀:=H,env:=compEnvC scope (gZ X scope C) C X.env,outer:=X.stack,ex:=fp,fn:=λx=>scope.names.lookup x==some .cell,pn:=[],xe:=E }
structure eQ (X:Cx)(scope:Scope)(N:List Str)(fr:List (Option Nat)):Prop where
 kind:scope.kind = .function
 own:∀y∈scope.names,y.2 = .cell->scope.names.lookup y.1=some .cell
 names:∀y∈scope.names,y.2 = .local->scope.names.lookup y.1=some .local
 free:∀y∈scope.names,y.2 = .free->X.env.scope.names.lookup y.1=some .cell∨X.env.scope.names.lookup y.1=some .free
 len:fr.length=N.length
 from_:∀(i j:Nat),fr[i]? = some (some j)->∃x,N[i]? = some x/\X.N[j]? = some x/\scope.names.lookup x=some .free
section
variable {X:Cx}{ag:List (ay×Obj)}{σ:St}{H:Hp}{s:ax}{scope:Scope}{N:List Str}{fr:List (Option Nat)}
theorem eQ.cells (S:eQ X scope N fr)(I:a8 X ag σ H s):∀y∈scope.names,y.2 = .free->∃c,X.env.cells.lookup y.1=some c:=λy hy hk=>I.ok.has y.1 (S.free y hy hk)
theorem aA3 {C D:ay}{fp:List ay}{E:av->ax->Prop}{h1:Heap}{tk:Nat}{m:Str->Option av}(S:eQ X scope N fr)(I:a8 X ag σ H s)(hf:∀b∈fp,gI X ag H b)(hfl:∀b∈fp,b<s.heap.objs.size)(hD:s.heap.objs.size<=D)(hC:s.heap.objs.size<=C)(hDC:D<C)(old:∀b o,s.heap.get? b=some o->h1.get? b=some o)(hns:h1.Ns C m)(hacc:h1.get? D=some { cls:=.type "list",data:=.seq #[] 0 })(hco:CellsOk h1 (C+1) (cellsFrom (C+1) scope.names [])) :
  a8 (bR X scope N s H C fp E) [] (gK fr σ) (upd H D (.lst [])) { s with heap:=h1,toks:=tk }:=by
 have hHD:H D=none:=I.hok.fresh hD;have cl:=S.cells I;have cs:∀{x:Str}{c:ay},(eJ X.env.cells scope.names []).lookup x=some c->X.env.cells.lookup x=some c:=λ{x c} h=>qR scope.names [] cl (λ_ _ z=>by simp at z) h
 have clt:∀{x:Str}{c:ay},X.env.cells.lookup x=some c->c<s.heap.objs.size:=λ{x c} h=>by obtain⟨v,z⟩:=I.cell x c h;exact z.lt
 have nge:∀{x:Str}{c:ay},(x,c)∈cellsFrom (C+1) scope.names []->C<c:=λ{x c} h=>(hco.empty x c h).2
 refine⟨⟨I.ok.mod,?_,I.ok.glob,I.ok.blt,hC,?_,?_,?_,I.ok.hd,I.ok.frames,.inl rfl,?_,I.bs,bs7 I.ok.bsz I.sz,?_,?_,I.stack,I.stkFree⟩,rfl,I.bare,Un.laid old hD hHD,⟨m,hns,?_⟩,?_,?_,?_,λp hp=>absurd (show p∈([]:List (ay×Obj)) from hp) (by simp),?_,?_⟩
 ·exact S.kind
 ·intro x y c h1 h2
  rcases lM h1 with a|⟨_,a⟩<;>rcases lM h2 with b|⟨_,b⟩
  ·exact name_of_addr hco.apart a b
  ·exact absurd (bq4 (Nat.lt_trans (nge a) (clt (cs b))) hC) (bu6 _)
  ·exact absurd (bq4 (Nat.lt_trans (nge b) (clt (cs a))) hC) (bu6 _)
  ·exact I.ok.inj x y c (cs a) (cs b)
 ·intro x hx
  have hx:(relabel scope X.env).names.lookup x=some .cell∨(relabel scope X.env).names.lookup x=some .free:=hx;have fin:(x,NameKind.free)∈scope.names->∃c,(gZ X scope C).lookup x=some c:=λz=>J1 (.inr (vE scope.names [] (.inl z)))
  rcases hx with hx|hx
  ·rcases qS hx with z|z
   ·exact J1 (.inl (bw7 z))
   ·exact fin (bw7 z.1)
  ·rcases qS hx with z|z
   ·exact fin (bw7 z)
   ·exact absurd z.2 (by decide)
 ·intro x c hx h
  have hx:(scope.names.lookup x==some NameKind.cell)=true:=hx;have hx:scope.names.lookup x=some .cell:=by simpa using hx
  rcases lM h with a|⟨a,_⟩
  ·exact bs7 hC (by8 (nge a))
  ·obtain⟨d,hd⟩:=qT scope.names (C+1) (bw7 hx)
   exact absurd hd (a d)
 ·intro b hb
  refine⟨br1 (bq4 (hfl b hb) hC),λx c e=>?_⟩;rcases lM e with a|⟨_,a⟩
  ·exact bw3 (Nat.lt_trans (bq4 (hfl b hb) hC) (nge a))
  ·exact (hf b hb).2.2.2.2.1 x c (cs a)
 ·intro b o e hb
  rcases (hf b hb).2.2.2.1 with z|z
  ·exact I.ok.noex b o e z
  ·exact absurd (bq4 (bp9 e) (bs7 I.ok.bsz z)) (bu6 _)
 ·intro b hb z
  rcases bp1.mp (I.stkSub b z) with e|e
  ·exact (hf b hb).2.1 e
  ·exact (hf b hb).2.2.1 e
 ·intro i x v e1 e2 e3
  have e2:(fr.map λo=>o.bind λj=>(σ[j]?).join)[i]? = some (some v):=e2;rw[bq6]at e2;cases ef:fr[i]? with
  |none=>rw[ef]at e2;cases e2
  |some o=>
   rw[ef]at e2;cases o with
   |none=>cases e2
   |some j=>
    have e2:some ((σ[j]?).join)=some (some v):=e2;have ej:σ[j]? = some (some v):=by
     cases q:σ[j]? with
     |none=>rw[q]at e2;cases e2
     |some w=>rw[q]at e2;cases w with
      |none=>cases e2
      |some w=>cases e2;rfl
    obtain⟨y,a1,a2,a4⟩:=S.from_ i j ef
    have e1:N[i]? = some x:=e1;rw[e1]at a1;cases a1;have a3:(x,NameKind.free)∈scope.names:=bw7 a4;have vis:iR X.env.scope x:=(S.free _ a3 rfl).elim (λz=>.inr (.inl z)) λz=>.inr (.inr z)
    obtain⟨m0,hn0,hl0⟩:=I.loc
    obtain⟨u,r,l⟩:=hl0 j x v a2 ej vis
    refine⟨u,r,.inr ⟨?_,?_⟩⟩
    ·have e3:(relabel scope X.env).names.lookup x=some .local∨(relabel scope X.env).names.lookup x=some .cell∨(relabel scope X.env).names.lookup x=some .free:=e3
     rcases e3 with z|z|z
     ·rcases qS z with y|y
      ·rw[a4]at y;cases y
      ·exact absurd y.2 (by decide)
     ·exact .inl z
     ·exact .inr z
    ·obtain⟨c,hc⟩:=vE (cells:=X.env.cells) scope.names [] (x:=x) (.inl a3)
     refine⟨c,aA2 (λz=>by have:=S.own _ z rfl;rw[a4]at this;cases this) hc,?_⟩;have hc':=cs hc;have S1:=S.free (x,.free) a3 rfl;rcases l with⟨k,_⟩|⟨_,c2,hc2,z⟩
     ·have k:X.env.scope.names.lookup x=some .local:=k
      rcases S1 with q|q<;>(have q:X.env.scope.names.lookup x=_:=q;rw[k]at q;cases q)
     ·rw[hc']at hc2;cases hc2
      obtain⟨oc,ho,hd⟩:=z
      exact⟨oc,old c oc ho,hd⟩
 ·intro x c e
  rcases lM e with a|⟨_,a⟩
  ·exact⟨_,(hco.empty x c a).1⟩
  ·obtain⟨v,oc,ho,hd⟩:=I.cell x c (cs a)
   exact⟨v,oc,old c oc ho,hd⟩
 ·show upd H D (.lst []) C=none
  rw[aW (bw3 hDC)];exact I.hok.fresh hC
 ·intro x c e
  show upd H D (.lst []) c=none;rcases lM e with a|⟨_,a⟩
  ·rw[aW (bw3 (Nat.lt_trans hDC (nge a)))];exact I.hok.fresh (bs7 hC (by8 (nge a)))
  ·have q:=cs a
   rw[aW (br1 (bq4 (clt q) hD))];exact I.freeC x c q
 ·exact I.hok.laid old hD ⟨bt5 _,[],0,.nil,hacc⟩
 ·show (gK fr σ).length=N.length
  unfold gK;rw[bo7];exact S.len
end
noncomputable def kN (X:Cx)(ifs:List Expr)(t:TT):Prop:=
 ∀(ag:List (ay×Obj)) (s:ax) (σ:St) (H:Hp) (Q:Bool->Hp->Prop),a8 X ag σ H s->t σ H Q->
  wpAny (model X.prog X.w) X.A (forIn ifs true λc r=>if r=true then do let ok <- isTrue c X.env (eval c X.env);pure (ForInStep.yield ok) else pure (ForInStep.yield r)) (TP X ag σ Q) X.xe s
noncomputable def J2:TT:=λ_ H Q=>Q true H
theorem aA4 {X:Cx}:kN X [] J2:=λ_ _ _ H _ I h=>wpAny_tests_nil ⟨H,I,h⟩
theorem aA5 {X:Cx}{c:Expr}{t:TT}(h:PT X c t):kN X [c] t:=λag s σ H Q I hq=>wpAny_tests_one (h ag s σ H Q I hq)
section
variable {prog:az}{w:bc}{A:ba}
noncomputable def vH (prog:az)(w:bc)(A:ba)(elt tg:Expr)(ifs:List Expr)(it acc:av)(env:Env)(lost:av->ax->Prop)(stop next:ax->Prop)(s:ax):Prop:=
 let M:=model prog w
 let tests:Sem Bool:=forIn ifs true λc r=>if r=true then do let ok <- isTrue c env (eval c env);pure (ForInStep.yield ok) else pure (ForInStep.yield r)
 let put:ax->Prop:=wpAny M A (eval elt env) (λx=>wpAny M A (call (.builtin "list.append") [acc,x]) (λ_=>next) lost) lost
 let taken:av->ax->Prop:=λv=>wpAny M A (letOwnedTupleGo tg it v) (λ_=>wpAny M A (assign tg env v) (λ_=>wpAny M A tests (λok s'=>if ok=true then put s' else next s') lost) lost) lost
 wpAny M A (pyNext it) (λr s'=>match r with
  |none=>stop s'
  |some v=>taken v s') lost s
theorem aA6 {R:Result->ax->Prop}{s:ax}{elt tg iter:Expr}{ifs:List Expr}{scope:Scope}{pos:Pos}{it acc:av}{env:Env}(I:Nat->ax->Prop)(turn:∀n s,I n s->vH prog w A elt tg ifs it acc env (notedBy (model prog w) A env λe=>R (.error e)) (R (.ok .next)) (λs'=>∃m,m<n/\I m s') s)(n:Nat)(h:I n s) :
  codeAny (model prog w) A (.compLoop (.ListComp elt [⟨tg,iter,ifs,0⟩] scope pos) 0 it acc env) R s:=by
 apply codeAny_loop rfl I _ n h;intro k s1 h1
 change wpAny _ A ((compTurn _ 0 it acc env).onRaise (λx=>do noteFrame x env;theTreesLotGoes x)) _ _ s1
 apply wpAny_noted;rw[compTurn_list];have t:=turn k s1 h1;unfold vH at t;apply bo2;apply wpAny_standAt;apply bo2;refine bx4 t (λr s2 h2=>?_) λ_ _ z=>z
 cases r with
 |none=>exact bo5 h2
 |some v=>
  apply bo2;refine bx4 h2 (λ_ s3 h3=>?_) λ_ _ z=>z
  apply bo2;refine bx4 h3 (λ_ s4 h4=>?_) λ_ _ z=>z
  apply bo2;refine bx4 h4 (λok s5 h5=>?_) λ_ _ z=>z
  cases ok with
  |false=>exact bo5 ⟨rfl,h5⟩
  |true=>
   apply bo2;apply bo2;refine bx4 h5 (λx s6 h6=>?_) λ_ _ z=>z
   apply bo2;exact bx4 h6 (λ_ s7 h7=>bo5 (bo5 ⟨rfl,h7⟩)) λ_ _ z=>z
end
noncomputable def J3 (g:TG)(tc:TT)(te:TE)(σ0:St)(J:It)(D:ay)(Q:VK)(W:Nat->Nat->List V->Hp->Prop):Prop:=
 ∀i m acc H',W i m acc H'->H' D=some (.lst acc)/\((J.stop i H'/\Q (.ref D) H')∨(J.go i H'/\∀x H2,J.yld i H' x H2->g x σ0 H2 λσ2 H3=>Wk σ0 σ2/\tc σ2 H3 λb H4=>
  if b=true then te σ2 H4 λv H5=>H5 D=some (.lst acc)/\acc.length<sizeLine/\∃m',m'<m/\W (i+1) m' (acc++[v]) (upd H5 D (.lst (acc++[v]))) else ∃m',m'<m/\W (i+1) m' acc H4))
section
variable {M:Model}{A:ba}{E:av→ax→Prop}{s:ax}
theorem aA7 {scope:Scope}{globals:ay}{cl:List (Str×ay)}{qual:Str}{func:Option ay}{code:av}{builtins:ay}{outer:Env}{Q:Env->ax->Prop}(hQ:∀h',h'.Ns s.heap.objs.size (λ_=>none)->(∀b o,s.heap.get? b=some o->h'.get? b=some o)->CellsOk h' (s.heap.objs.size+1) (cellsFrom (s.heap.objs.size+1) scope.names [])->
   Q (newEnv scope s.heap.objs.size globals (cellsFrom (s.heap.objs.size+1) scope.names cl) qual func code (some outer) builtins) { s with heap:=h' }) :
  wpAny M A (newFunctionEnv scope globals cl [] qual func code (some outer) builtins) Q E s:=by
 simp only[newFunctionEnv,Option.isSome_some,if_true];refine bo2 (wpAny_alloc ?_);refine bo2 (wpAny_layCells _ (λname kind cells=>by cases hkc:kind==NameKind.cell<;>simp[hkc]) _ _ _ _ ?_);have ok:=cellsFrom_ok scope.names (s.heap.push { cls:=.type "dict",data:=.dict #[] }) (s.heap.objs.size+1) [] ⟨λ_ _ hm=>(nomatch hm),bz3⟩ (by rw[bw8];exact bp7 _);rw[bw8]at ok;rw[show ({ s with heap:=s.heap.push { cls:=.type "dict",data:=.dict #[] } }:ax).heap.objs.size=s.heap.objs.size+1 from bw8 ..];rw[List.forIn_nil];refine bo2 (bo5 (bo5 (hQ _ ((Heap.Ns.new s.heap (.type "dict")).keeps (pushCells_keeps _ _)) (λb o e=>pushCells_keeps _ _ b o (bo4 _ e)) ok)))
end
section
variable {X:Cx}{ag:List (ay×Obj)}{σ:St}{H:Hp}{s:ax}{scope:Scope}{N:List Str}{fr:List (Option Nat)}{tg iter elt:Expr}{ifs:List Expr}{pos:Pos}{wi:TI}{g:TG}{tc:TT}{te:TE}
structure mO (X:Cx)(scope:Scope)(N:List Str)(tg:Expr)(ifs:List Expr)(elt:Expr)(s:ax)(H:Hp)(g:TG)(tc:TT)(te:TE):Prop where
 tg:∀(C:ay) (fp:List ay),PG (bR X scope N s H C fp λ_ _=>False) tg g
 ifs:∀(C:ay) (fp:List ay),kN (bR X scope N s H C fp λ_ _=>False) ifs tc
 elt:∀(C:ay) (fp:List ay),PE (bR X scope N s H C fp λ_ _=>False) elt te
theorem aA8 {C:ay}{fp:List ay}{E:av->ax->Prop}{pins':List (ay×Obj)}{σ':St}{H':Hp}{s':ax}(I:a8 X ag σ H s)(hf:∀b∈fp,gI X ag H b)(I':a8 (bR X scope N s H C fp E) pins' σ' H' s'):a8 X ag σ H' s':=
 I.call' (ch:=fp) I'.os I'.base I'.hok I'.bare λb hb=>⟨(hf b hb).2.2.2.1,(hf b hb).2.1,(hf b hb).2.2.2.2.1,(hf b hb).2.2.2.2.2⟩
theorem J4 {Rr:av->ay->Result->ax->Prop}{J:It}{fp:List ay}{it:ay}{tn:Nat->Heap->Prop}{Q:VK}(hc:X.calm=true)(S:eQ X scope N fr)(B:mO X scope N tg ifs elt s H g tc te)(I:a8 X ag σ H s)(T:iS X.prog X.w X.K tg J fp it tn)(hst:tn 0 s.heap)(hf:∀b∈fp,gI X ag H b)(h:∀D,H D=none->∃W:Nat->Nat->List V->Hp->Prop,(∃m,W 0 m [] (upd H D (.lst [])))/\J3 g tc te (gK fr σ) J D Q W)(hend:∀(D C:ay) (s':ax) (H':Hp) (m:Str->Option av),s.heap.objs.size<=C->s.heap.objs.size<=D->a8 X ag σ H' s'->s'.heap.Ns C m->H' C=none->Q (.ref D) H'->Rr (.ref D) C (.ok .next) s') :
  wpAny (model X.prog X.w) X.A (newList []) (λacc s₃=>wpAny (model X.prog X.w) X.A (newFunctionEnv scope X.env.globals (eJ X.env.cells scope.names []) [] X.env.qual none .none (some X.env)) (λcenv s₄=>
   codeAny (model X.prog X.w) X.A (.compStart (.ListComp elt [⟨tg,iter,ifs,0⟩] scope pos) 0 (.ref it) acc { cenv with scope:=relabel scope X.env }) (Rr acc cenv.locals) s₄) X.xe s₃) X.xe s:=by
 refine bs2 (aA7 (λh₁ hns₁ keep₁ hco₁=>?_));dsimp only at hns₁ keep₁ hco₁ ⊢;generalize hH2:s.heap.push { cls:=.type "list",dict:=none,data:=.seq ([]:List av).toArray }=H2 at hns₁ keep₁ hco₁ ⊢;have hC:H2.objs.size=s.heap.objs.size+1:=by rw[<- hH2,bw8]
 have hDC:s.heap.objs.size<H2.objs.size:=by rw[hC];exact Nat.lt_succ_self _
 have hCle:s.heap.objs.size<=H2.objs.size:=by rw[hC];exact Nat.le_succ _
 have old:∀b o,s.heap.get? b=some o->h₁.get? b=some o:=λb o e=>keep₁ b o (hH2▸bo4 _ e)
 have hacc:h₁.get? s.heap.objs.size=some { cls:=.type "list",data:=.seq #[] 0 }:=keep₁ _ _ (hH2▸bp4 _ rfl);have hfl:∀b∈fp,b<s.heap.objs.size:=λb hb=>by obtain⟨o,e,_⟩:=T.obj _ _ hst b hb;exact bp9 e
 obtain⟨W,⟨m0,w0⟩,turn⟩:=h s.heap.objs.size (I.hok.fresh (bp7 _))
 have st1:tn 0 h₁:=T.keep _ _ _ hst λb _ o e=>old b o e
 have fr0:∀b∈fp,upd H s.heap.objs.size (.lst []) b=none:=λb hb=>by rw[aW (br1 (hfl b hb))];exact (hf b hb).1
 have stat:∀{H':Hp},(∀b∈fp,H' b=none)->∀b∈fp,gI (bR X scope N s H H2.objs.size fp λ_ _=>False) [] H' b:=λ{H'} hn b hb=>by
  have f:=hf b hb;refine⟨hn b hb,br1 (bq4 (hfl b hb) hCle),λz=>?_,.inl hb,λx c e=>(lM e).elim (λz=>bw3 (Nat.lt_trans (bq4 (hfl b hb) hCle) (hco₁.empty x c z).2)) λz=>f.2.2.2.2.1 x c (qR scope.names [] (S.cells I) (λ_ _ z=>by simp at z) z.2),λp hp=>absurd (show p∈([]:List (ay×Obj)) from hp) (by simp)⟩;rcases bp1.mp (I.stkSub b z) with e|e
  ·exact f.2.1 e
  ·exact f.2.2.1 e
 generalize hX:bR X scope N s H H2.objs.size fp (λ_ _=>False)=Y at stat;have I0:a8 Y [] (gK fr σ) (upd H s.heap.objs.size (.lst [])) { s with heap:=h₁ }:=hX▸aA3 S I hf hfl (bp7 _) hCle hDC old hns₁ hacc hco₁;have bt:PG Y tg g:=hX▸B.tg H2.objs.size fp;have bi:kN Y ifs tc:=hX▸B.ifs H2.objs.size fp;have be:PE Y elt te:=hX▸B.elt H2.objs.size fp;have eP:Y.prog=X.prog:=by rw[<- hX];rfl
 have ew:Y.w=X.w:=by rw[<- hX];rfl
 have eK:Y.K=X.K:=by rw[<- hX];rfl
 have eA:Y.A=X.A:=by rw[<- hX];rfl
 have eE:Y.env=compEnvC scope (gZ X scope H2.objs.size) H2.objs.size X.env:=by rw[<- hX];rfl
 have eX:Y.xe=λ_ _=>False:=by rw[<- hX];rfl
 have ec:Y.calm=true:=by rw[<- hX];exact hc
 have never:∀{E:av->ax->Prop} (e:av) (s':ax),Y.xe e s'->E e s':=λ{E} e s' z=>by rw[eX]at z;exact z.elim
 have out:∀{pins' σ' H' s'},a8 Y pins' σ' H' s'->a8 X ag σ H' s':=λ{_ _ _ _} I'=>aA8 (C:=H2.objs.size) (E:=λ_ _=>False) (scope:=scope) (N:=N) I hf (hX▸I')
 have loop:codeAny (model X.prog X.w) X.A (.compLoop (.ListComp elt [⟨tg,iter,ifs,0⟩] scope pos) 0 (.ref it) (.ref s.heap.objs.size) (compEnvC scope (gZ X scope H2.objs.size) H2.objs.size X.env))
   (Rr (.ref s.heap.objs.size) H2.objs.size) { s with heap:=h₁ }:=by
  refine aA6 (λn s'=>∃i acc H',a8 Y [] (gK fr σ) H' s'/\tn i s'.heap/\(∀b∈fp,H' b=none)/\W i n acc H') ?_ m0 ⟨0,[],_,I0,st1,fr0,w0⟩;rintro n s3 ⟨i,acc,H3,I3,st3,fr3,w3⟩;unfold vH;dsimp only
  obtain⟨hD3,step⟩:=turn i n acc H3 w3
  rcases step with⟨stop,qn⟩|⟨go,step⟩
  ·have z:=T.done Y eP ew eK ec i [] s3 _ H3 (notedBy (model X.prog X.w) X.A (compEnvC scope (gZ X scope H2.objs.size) H2.objs.size X.env) λe s'=>Rr (.ref s.heap.objs.size) H2.objs.size (.error e) s') I3 (stat fr3) st3 stop
   rw[eA]at z;refine aO z λr s4 ⟨hr,I4⟩=>?_
   subst hr
   obtain⟨m4,hn4,_⟩:=I4.loc
   rw[eE]at hn4;have f4:=I4.free;rw[eE]at f4;exact hend _ _ s4 H3 m4 hCle (bp7 _) (out I4) hn4 f4 qn
  ·have z:=T.item Y eP ew eK ec i [] s3 _ H3 (notedBy (model X.prog X.w) X.A (compEnvC scope (gZ X scope H2.objs.size) H2.objs.size X.env) λe s'=>Rr (.ref s.heap.objs.size) H2.objs.size (.error e) s') I3 (stat fr3) st3 go
   rw[eA]at z;refine aO z λr s4 ⟨u,hr,h4⟩=>?_
   subst hr;refine aO h4 λ_ s5 ⟨x,H5,I5,r5,y5,st5,fr5⟩=>?_
   have I5':=I5.pinned (stat fr5) (T.obj _ _ st5);have q1:=bt _ s5 _ H5 x u _ I5' r5 (step x H5 y5);rw[eP,ew,eA,eE]at q1;refine bx4 q1 (λ_ s6 ⟨σ6,H6,I6,wk,q6⟩=>?_) never;have q2:=bi _ s6 σ6 H6 _ I6 q6;rw[eP,ew,eA,eE]at q2;refine bx4 q2 (λb s7 ⟨H7,I7,q7⟩=>?_) never;have again:∀{H8:Hp}{s8:ax}{acc':List V},a8 Y ([]++oC fp s5.heap) σ6 H8 s8->(∃m',m'<n/\W (i+1) m' acc' H8)->∃m,m<n/\∃i acc H',a8 Y [] (gK fr σ) H' s8/\tn i s8.heap/\(∀b∈fp,H' b=none)/\W i m acc H':=λ{H8 s8 acc'} I8 n8=>by
    obtain⟨m',hm,w8⟩:=n8
    refine⟨m',hm,i+1,acc',H8,(I8.unpinned).weak wk.1 wk.2,T.keep _ _ _ st5 λb hb o e=>(I8.pin (b,o) (bs8 _ (bs8 _ (qL hb e)))).1,λb hb=>?_,w8⟩
    obtain⟨o,e,d⟩:=T.obj _ _ st5 b hb
    exact (I8.pin (b,o) (bs8 _ (bs8 _ (qL hb e)))).2.1
   cases b with
   |false=>
    rw[if_neg br3]at q7 ⊢;exact again I7 q7
   |true=>
    rw[if_pos rfl]at q7 ⊢;have q3:=be _ s7 σ6 H7 _ I7 q7;rw[eP,ew,eA,eE]at q3;refine bx4 q3 (λv s8 ⟨y,H8,I8,r8,hD8,hz8,q8⟩=>?_) never;have q4:=F1 _ s8 σ6 H8 (.ref s.heap.objs.size) [y] (.ref s.heap.objs.size) [v] (λ_ H9=>∃m',m'<n/\W (i+1) m' (acc++[y]) H9) I8 rfl (.cons r8 .nil) ⟨_,_,_,rfl,rfl,hD8,hz8,q8⟩;rw[eP,ew,eA]at q4;exact bx4 q4 (λ_ s9 ⟨_,H9,I9,_,q9⟩=>again I9 q9) never
 exact codeAny_compStart_list loop (T.self _ 0 _ _ _ st1 loop)
end
section
variable {X:Cx}{scope:Scope}{N:List Str}{fr:List (Option Nat)}{tg iter elt:Expr}{ifs:List Expr}{pos:Pos}{wi:TI}{g:TG}{tc:TT}{te:TE}
theorem a8.drop {ag:List (ay×Obj)}{σ:St}{H H':Hp}{s s':ax}{C:ay}{h':Heap}(I0:a8 X ag σ H s)(hC:s.heap.objs.size<=C){σ':St}(I:a8 X ag σ' H' s')(hn:H' C=none)(sb:Heap.SameBut C s'.heap h'):a8 X ag σ' H' { s' with heap:=h' }:=by
 refine I.turned (t':=s'.toks) (it:=C) (λb o hb e=>(sb.2 b hb).trans e) hn (bw3 (bq4 I0.lt hC)) (.inr (bs7 I0.sz hC)) (λx c e z=>?_) λp hp z=>?_
 ·obtain⟨v,q⟩:=I0.cell x c e
  exact absurd (bq4 q.lt (by rw[z];exact hC)) (bu6 _)
 ·exact absurd (bq4 (bp9 (I0.pin p hp).1) (by rw[z];exact hC)) (bu6 _)
variable {gh:Hp→TG}{tch:Hp→TT}{teh:Hp→TE}
noncomputable def vI (wi:TI)(fr:List (Option Nat))(gh:Hp->TG)(tch:Hp->TT)(teh:Hp->TE):TE:=λσ H Q=>wi σ H λJ H1=>∀D,H1 D=none->
 ∃W:Nat->Nat->List V->Hp->Prop,(∃m,W 0 m [] (upd H1 D (.lst [])))/\J3 (gh H1) (tch H1) (teh H1) (gK fr σ) J D Q W
theorem vJ (hc:X.calm=true)(S:eQ X scope N fr)(hi:PI X tg iter wi)(B:∀(s:ax) (H:Hp),mO X scope N tg ifs elt s H (gh H) (tch H) (teh H))(hs:∀x,foldedSetIterable iter X.env x=pure x:=by intro _;rfl):PE X (.ListComp elt [⟨tg,iter,ifs,0⟩] scope pos) (vI wi fr gh tch teh):=by
 intro ag s σ H Q I h;rw[eval_ListComp];refine wpAny_comprehension_free (use:=none) rfl hs (J0 (S.cells I)) S.kind S.names (aO (hi ag s σ H _ I h) λv s1 h1=>aO h1 λitv s2 h2=>?_)
 obtain⟨it,fp,tn,J,H2,e,I2,T,st2,f2,hW⟩:=h2
 subst e;refine J4 (Rr:=λacc C=>compPost (model X.prog X.w) X.A X.xe none (EP X ag σ Q) acc C) hc S (B _ _) I2 T st2 f2 hW ?_;intro D C s' H' m hC hD I' hns hHC q
 exact⟨m,hns,λh' sb=>⟨.ref D,H',I2.drop hC I' hHC sb,rfl,q⟩⟩
theorem aA9 {i:Nat}{x:Str}{px spos:Pos}(hc:X.calm=true)(S:eQ X scope N fr)(hi:PI X tg iter wi)(B:∀(s:ax) (H:Hp),mO X scope N tg ifs elt s H (gh H) (tch H) (teh H))(hN:X.N.Nodup)(hix:X.N[i]? = some x)(hx:X.env.scope.names.lookup x=some .local)(hsw:swapsWith (.ListComp elt [⟨tg,iter,ifs,0⟩] scope pos) (some (.Name x px)) spos.line X.env=pure true)(hs:∀x,foldedSetIterable iter X.env x=pure x:=by intro _;rfl) :
  PS X (.Assign [.Name x px] (.ListComp elt [⟨tg,iter,ifs,0⟩] scope pos) spos) (lF (vI wi fr gh tch teh) (cW i)):=by
 intro ag s σ H D I h;rw[exec_Assign_Name_used _ _ _ _ hsw];refine bo2 (wpAny_standAt (bo2 ?_));show wpAny _ _ (do let _ <- comprehension (.ListComp elt [⟨tg,iter,ifs,0⟩] scope pos) scope X.env _ (newList []) false (eval iter X.env) (some (assign (.Name x px) X.env))) _ _ s
 refine bo2 (bx4 (wpAny_comprehension_free (Q:=λ_ s'=>SP X ag D .next s') (use:=some (assign (.Name x px) X.env)) rfl hs (J0 (S.cells I)) S.kind S.names (aO (hi ag s σ H _ I h) λv s1 h1=>aO h1 λitv s2 h2=>?_))
  (λ_ s' hq=>bo5 (bo5 hq)) λ_ _ e=>e)
 obtain⟨it,fp,tn,J,H2,e,I2,T,st2,f2,hW⟩:=h2
 subst e;refine J4 (Rr:=λacc C=>compPost (model X.prog X.w) X.A X.xe (some (assign (.Name x px) X.env)) (λ_ s'=>SP X ag D .next s') acc C) hc S (B _ _) I2 T st2 f2 hW ?_;intro D' C s' H' m hC hD I' hns hHC q;refine wpAny_assign_Name (zJ I' hN hix (.inl hx) (v:=.ref D') rfl (λs'' I'' sb=>?_) (.inr hx))
 obtain⟨a,sb,ha⟩:=sb
 have hCa:C≠a:=by
  rcases ha with z|z
  ·rw[z];exact bw3 (bq4 I2.lt hC)
  ·intro e;subst e
   obtain⟨v,q⟩:=I2.cell x _ z
   exact absurd (bq4 q.lt hC) (bu6 _)
 exact⟨m,hns.sameBut sb hCa,λh' sb'=>⟨_,H',I2.drop hC I'' hHC sb',q⟩⟩
end
theorem bK {H:Hp}{p:ay}(h:H p=none)(o:HO):aG H (upd H p o):=λb u q=>by rw[aW (cS q h)];exact q
end L2
namespace Srt
open PySem PySem.W PyProof.Rows
noncomputable abbrev G (p:Array Nat)(i:Nat):Nat:=p.getD i 0
theorem oN {p q:Array Nat}{i j:Nat}(h:p[i]? = q[j]?):G p i=G q j:=by
 unfold G;rw[bv4,bv4,h]
theorem vK {p:Array Nat}{i j:Nat}(hj:j<=p.size)(k:Nat):G (kas_rev p i j) k=if i<=k/\k<j then G p (i+j-1-k) else G p k:=by
 have e:=getElem?_mirror_all (i:=i) hj k;unfold kas_rev;by_cases h1:i<=k/\k<j
 ·rw[if_pos h1]at e ⊢;exact oN e
 ·rw[if_neg h1]at e ⊢;exact oN e
theorem aB0 {p:Array Nat}{src d:Nat}(hs:src<p.size)(hd:d<=src)(k:Nat):G (bubble p src d) k=if k=src-d then G p src else if src-d<k/\k<=src then G p (k-1) else G p k:=by
 have e:=getElem?_bubble hs d hd k;by_cases h1:k=src-d
 ·rw[if_pos h1]at e ⊢;exact oN e
 ·rw[if_neg h1]at e ⊢
  by_cases h2:src-d<k/\k<=src
  ·rw[if_pos h2]at e ⊢;exact oN e
  ·rw[if_neg h2]at e ⊢;exact oN e
noncomputable def PP (n:Nat)(p:Array Nat):Prop:=p.toList.Perm (List.range n)
theorem PP.size {n:Nat}{p:Array Nat}(h:PP n p):p.size=n:=by
 have:=h.length_eq
 rw[bC9]at this;simpa using this
theorem PP.lt {n:Nat}{p:Array Nat}(h:PP n p){k:Nat}(hk:k<n):G p k<n:=by
 have hs:=h.size;have hk':k<p.toList.length:=by simpa[hs] using hk
 have e:G p k=p.toList[k]:=by
  unfold G;rw[bv4];simp[hs,hk]
 have m:p.toList[k]∈p.toList:=by0 hk';rw[e];exact bw2.mp (h.mem_iff.mp m)
theorem PP.of {n:Nat}{p q:Array Nat}(h:PP n p)(e:q.Perm p):PP n q:=(Array.perm_iff_toList_perm.mp e).trans h
theorem PP.rev {n:Nat}{p:Array Nat}(h:PP n p)(i j:Nat):PP n (kas_rev p i j):=h.of (mirror_perm _ _ _ _)
theorem PP.bub {n:Nat}{p:Array Nat}(h:PP n p)(i j:Nat):PP n (bubble p i j):=h.of (bubble_perm _ _ _)
structure qV (c:Nat->Nat->Bool):Prop where
 asym:∀{i j},c i j=true->c j i=false
 ntr:∀{i j k},c i j=false->c j k=false->c i k=false
section
variable {c:Nat→Nat→Bool}(O:qV c)
noncomputable def Le (c:Nat->Nat->Bool)(i j:Nat):Prop:=c j i=false
include O
theorem le_refl (i:Nat):Le c i i:=by
 unfold Le;cases h:c i i with
 |false=>rfl
 |true=>have:=O.asym h;rw[h]at this;exact this
theorem le_trans {i j k:Nat}(h1:Le c i j)(h2:Le c j k):Le c i k:=O.ntr h2 h1
theorem qW {i j:Nat}(h:c i j=true):Le c i j:=O.asym h
omit O
noncomputable def fE (c:Nat->Nat->Bool)(p:Array Nat)(n:Nat):Prop:=∀a b,a<=b->b<n->Le c (G p a) (G p b)
noncomputable def kO (c:Nat->Nat->Bool)(p:Array Nat)(n:Nat):Prop:=∀a b,a<=b->b<n->Le c (G p b) (G p a)
include O
theorem aB1 {p:Array Nat}{n:Nat}(h:fE c p n)(h1:1<=n)(hl:Le c (G p (n-1)) (G p n)):fE c p (n+1):=λa b hab hb=>by
 by_cases hbn:b<n
 ·exact h a b hab hbn
 ·have e:b=n:=by omega
  subst e;by_cases han:a=b
  ·subst han;exact le_refl O _
  ·exact le_trans O (h a (b-1) (by omega) (by omega)) hl
theorem qX {p:Array Nat}{n:Nat}(h:kO c p n)(h1:1<=n)(hl:Le c (G p n) (G p (n-1))):kO c p (n+1):=λa b hab hb=>by
 by_cases hbn:b<n
 ·exact h a b hab hbn
 ·have e:b=n:=by omega
  subst e;by_cases han:a=b
  ·subst han;exact le_refl O _
  ·exact le_trans O hl (h a (b-1) (by omega) (by omega))
omit O
noncomputable def c9 {α:Type}(n:Nat)(c:Nat->Nat->Bool)(R:α->Prop):KasT α->Prop
 |.ret a=>R a
 |.ask i j k=>i<n/\j<n/\c9 n c R (k (c i j))
theorem c9.mono {α:Type}{n:Nat}{R R':α->Prop}(h:∀a,R a->R' a):∀(t:KasT α),c9 n c R t->c9 n c R' t
 |.ret a,q=>h a q
 |.ask i j k,q=>⟨q.1,q.2.1,c9.mono h (k (c i j)) q.2.2⟩
theorem c9.bind {α β:Type}{n:Nat}{R:α->Prop}{R':β->Prop}{f:α->KasT β}(h:∀a,R a->c9 n c R' (f a)):∀(t:KasT α),c9 n c R t->c9 n c R' (t.bind f)
 |.ret a,q=>h a q
 |.ask i j k,q=>⟨q.1,q.2.1,c9.bind h (k (c i j)) q.2.2⟩
theorem c9.run {α:Type}{n:Nat}{R:α->Prop}{I:ax->Prop}{cmp:Nat->Nat->(Bool->ax->Prop)->ax->Prop}{Q:α->ax->Prop}(hc:∀i j C s,i<n->j<n->I s->(∀s',I s'->C (c i j) s')->cmp i j C s)(hQ:∀a s,R a->I s->Q a s):∀(t:KasT α) (s:ax),I s->c9 n c R t->t.kasWp cmp Q s
 |.ret a,s,hI,q=>hQ a s q hI
 |.ask i j k,s,hI,q=>hc i j _ s q.1 q.2.1 hI λs' hI'=>c9.run hc hQ (k (c i j)) s' hI' q.2.2
include O
theorem vL {n:Nat}{p:Array Nat}(hp:PP n p):∀(f m:Nat),1<=m->m+f<=n->fE c p m->c9 n c (λr=>m<=r/\r<=m+f/\fE c p r/\(r<m+f->c (G p r) (G p (r-1))=true)) (kas_asc p f m)
 |0,m,_,_,h=>⟨bp7 _,bp7 _,h,λz=>absurd z (bu6 _)⟩
 |f+1,m,h1,h2,h=>by
  refine⟨hp.lt (by omega),hp.lt (by omega),?_⟩;by_cases hc:c (p.getD m 0) (p.getD (m-1) 0)=true
  ·simp only[hc,if_true]
   exact⟨bp7 _,by omega,h,λ_=>hc⟩
  ·have hc':c (p.getD m 0) (p.getD (m-1) 0)=false:=bE1.mpr hc
   simp only[hc',bq3,bu2];refine c9.mono (λr q=>⟨by omega,by omega,q.2.2.1,λz=>q.2.2.2 (by omega)⟩) _ (vL hp f (m+1) (by omega) (by omega) (aB1 O h h1 hc'))
omit O
noncomputable def lN (c:Nat->Nat->Bool)(i j:Nat):Prop:=Le c i j/\Le c j i
include O
theorem vM {p q:Array Nat}{n:Nat}(h:kO c p n)(e:∀k,k<n->lN c (G q k) (G p k)):kO c q n:=λa b hab hb=>
 le_trans O (e b hb).1 (le_trans O (h a b hab hb) (e a (by omega)).2)
theorem J5 {n m i:Nat}{p:Array Nat}(hp:PP n p)(hm:m<=n)(h:∀a,i<=a->a<m->lN c (G p a) (G p (m-1))):∀k,lN c (G (kas_rev p i m) k) (G p k):=λk=>by
 rw[vK (by rw[hp.size];exact hm)];by_cases hk:i<=k/\k<m
 ·rw[if_pos hk]
  have h1:=h (i+m-1-k) (by omega) (by omega);have h2:=h k hk.1 hk.2
  exact⟨le_trans O h1.1 h2.2,le_trans O h2.1 h1.2⟩
 ·rw[if_neg hk];exact⟨le_refl O _,le_refl O _⟩
omit O
noncomputable def DI (c:Nat->Nat->Bool)(n:Nat)(p:Array Nat)(m q:Nat):Prop:=PP n p/\1<=m/\m<=n/\kO c p m/\q+1<=m/\∀a,m-(q+1)<=a->a<m->lN c (G p a) (G p (m-1))
include O
theorem J6 {n m q:Nat}{p:Array Nat}(h:DI c n p m q):PP n (kas_rev p (m-(q+1)) m)/\∀k,lN c (G (kas_rev p (m-(q+1)) m) k) (G p k):=
 ⟨h.1.rev _ _,J5 O h.1 h.2.2.1 h.2.2.2.2.2⟩
theorem qY {n:Nat}:∀(f:Nat) (p:Array Nat) (m q:Nat),m+f<=n->DI c n p m q->c9 n c (λr=>DI c n r.1 r.2.1 r.2.2) (kas_desc f p m q)
 |0,p,m,q,_,h=>h
 |f+1,p,m,q,hf,h=>by
  have hp:=h.1;have h1:=h.2.1;refine⟨hp.lt (by omega),hp.lt (by omega),?_⟩;by_cases hc:c (p.getD m 0) (p.getD (m-1) 0)=true
  ·simp only[hc,if_true]
   have dn:kO c p (m+1):=qX O h.2.2.2.1 h1 (qW O hc);by_cases hq:q>0
   ·simp only[hq,if_true]
    obtain⟨pr,er⟩:=J6 O h
    refine qY f _ (m+1) 0 (by omega) ⟨pr,by omega,by omega,vM O dn λk _=>er k,by omega,λa h1 h2=>?_⟩;have e:a=m+1-1:=by omega
    rw[e];exact⟨le_refl O _,le_refl O _⟩
   ·simp only[hq,bu2]
    refine qY f p (m+1) 0 (by omega) ⟨hp,by omega,by omega,dn,by omega,λa h1 h2=>?_⟩;have e:a=m+1-1:=by omega
    rw[e];exact⟨le_refl O _,le_refl O _⟩
  ·have hc':c (p.getD m 0) (p.getD (m-1) 0)=false:=bE1.mpr hc
   simp only[hc',bq3,bu2];refine⟨hp.lt (by omega),hp.lt (by omega),?_⟩;by_cases hd:c (p.getD (m-1) 0) (p.getD m 0)=true
   ·simp only[hd,if_true]
    exact h
   ·have hd':c (p.getD (m-1) 0) (p.getD m 0)=false:=bE1.mpr hd
    simp only[hd',bq3,bu2];have ee:lN c (G p (m-1)) (G p m):=⟨hc',hd'⟩;refine qY f p (m+1) (q+1) (by omega) ⟨hp,by omega,by omega,qX O h.2.2.2.1 h1 ee.2,by have:=h.2.2.2.2.1;omega,λa h1 h2=>?_⟩;rw[bF2];by_cases ha:a=m
    ·rw[ha];exact⟨le_refl O _,le_refl O _⟩
    ·have z:=h.2.2.2.2.2 a (by omega) (by omega)
     exact⟨le_trans O z.1 ee.1,le_trans O ee.2 z.2⟩
omit O
noncomputable def CI (c:Nat->Nat->Bool)(n:Nat)(r:Nat×Array Nat):Prop:=PP n r.2/\1<=r.1/\r.1<=n/\fE c r.2 r.1
include O
theorem J7 {n m:Nat}{p:Array Nat}(hp:PP n p)(h1:1<=m)(hm:m<=n)(h:kO c p m):c9 n c (CI c n) (kas_tail3 m n p):=by
 have ha:fE c (kas_rev p 0 m) m:=λa b hab hb=>by
  rw[vK (by rw[hp.size];exact hm),vK (by rw[hp.size];exact hm),if_pos ⟨bt5 _,by omega⟩,if_pos ⟨bt5 _,hb⟩];exact h _ _ (by omega) (by omega)
 refine c9.bind (R:=λr=>m<=r/\r<=m+(n-m)/\fE c (kas_rev p 0 m) r/\_) (λr q=>?_) _ (vL O (hp.rev 0 m) (n-m) m h1 (by omega) ha)
 exact⟨hp.rev _ _,by have:=q.1;omega,by have:=q.2.1;omega,q.2.2.1⟩
theorem J8 {n m:Nat}{p:Array Nat}(hp:PP n p)(h1:1<=m)(hm:m+1<=n)(h:kO c p (m+1)):c9 n c (CI c n) (kas_descPart m n p):=by
 refine c9.bind (R:=λr=>DI c n r.1 r.2.1 r.2.2) (λr q=>?_) _ (qY O (n-(m+1)) p (m+1) 0 (by omega) ⟨hp,by omega,hm,h,by omega,λa h1 h2=>?_⟩)
 ·by_cases hq:r.2.2>0
  ·rw[if_pos hq]
   obtain⟨pr,er⟩:=J6 O q
   exact J7 O pr q.2.1 q.2.2.1 (vM O q.2.2.2.1 λk _=>er k)
  ·rw[if_neg hq]
   exact J7 O q.1 q.2.1 q.2.2.1 q.2.2.2.1
 ·have e:a=m+1-1:=by omega
  rw[e];exact⟨le_refl O _,le_refl O _⟩
theorem aB2 {n:Nat}{p:Array Nat}(hp:PP n p)(hn:1<=n):c9 n c (CI c n) (kas_count n p):=by
 have a1:fE c p 1:=λa b hab hb=>by
  have e1:a=0:=by omega
  have e2:b=0:=by omega
  rw[e1,e2];exact le_refl O _
 refine c9.bind (R:=λr=>1<=r/\r<=1+(n-1)/\fE c p r/\(r<1+(n-1)->c (G p r) (G p (r-1))=true)) (λm q=>?_) _ (vL O hp (n-1) 1 (bp7 _) (by omega) a1)
 obtain⟨q1,q2,q3,q4⟩:=q
 by_cases hm:(m==n)=true
 ·rw[if_pos hm]
  exact⟨hp,q1,by omega,q3⟩
 ·rw[if_neg hm]
  have hne:m≠n:=by simpa using hm
  have hc:=q4 (by omega);by_cases h1:m>1
  ·rw[if_pos h1]
   refine⟨hp.lt (by omega),hp.lt (by omega),?_⟩;by_cases hd:c (p.getD 0 0) (p.getD (m-1) 0)=true
   ·simp only[hd,if_true]
    exact⟨hp,q1,by omega,q3⟩
   ·have hd':c (p.getD 0 0) (p.getD (m-1) 0)=false:=bE1.mpr hd
    simp only[hd',bq3,bu2];have eq:∀a,0<=a->a<m->lN c (G p a) (G p (m-1)):=λa _ ha=>⟨q3 a (m-1) (by omega) (by omega),le_trans O hd' (q3 0 a (bt5 _) ha)⟩
    have er:=J5 O hp (by omega:m<=n) eq;refine J8 O (hp.rev 0 m) q1 (by omega) (vM O (p:=p) ?_ λk _=>er k);refine qX O (λa b hab hb=>?_) q1 (qW O hc);exact le_trans O (eq b (bt5 _) hb).1 (eq a (bt5 _) (by omega)).2
  ·rw[if_neg h1]
   have e:m=1:=by omega
   subst e;refine J8 O hp (bp7 _) (by omega) (qX O (λa b hab hb=>?_) (bp7 _) (qW O hc));have e1:a=0:=by omega
   have e2:b=0:=by omega
   rw[e1,e2];exact le_refl O _
theorem vN {n k:Nat}{p:Array Nat}(hp:PP n p)(hk:k<n)(ha:fE c p k):∀(f l r:Nat),l<=r->r<=k->r-l<=f->(∀a,a<l->Le c (G p a) (G p k))->(∀a,r<=a->a<k->Le c (G p k) (G p a))->
  c9 n c (λl=>l<=k/\(∀a,a<l->Le c (G p a) (G p k))/\∀a,l<=a->a<k->Le c (G p k) (G p a)) (kas_place p k f l r)
 |0,l,r,h1,h2,h3,hl,hr=>⟨by omega,hl,λa h4 h5=>hr a (by omega) h5⟩
 |f+1,l,r,h1,h2,h3,hl,hr=>by
  unfold kas_place;by_cases hlr:l >= r
  ·rw[if_pos hlr]
   exact⟨by omega,hl,λa h4 h5=>hr a (by omega) h5⟩
  ·rw[if_neg hlr]
   refine⟨hp.lt hk,hp.lt (by omega),?_⟩;by_cases hc:c (p.getD k 0) (p.getD ((l+r)/2) 0)=true
   ·simp only[hc,if_true]
    exact vN hp hk ha f l ((l+r)/2) (by omega) (by omega) (by omega) hl λa h4 h5=>le_trans O (qW O hc) (ha _ _ h4 h5)
   ·have hc':c (p.getD k 0) (p.getD ((l+r)/2) 0)=false:=bE1.mpr hc
    simp only[hc',bq3,bu2];exact vN hp hk ha f ((l+r)/2+1) r (by omega) h2 (by omega) (λa h4=>le_trans O (ha a ((l+r)/2) (by omega) (by omega)) hc') hr
theorem J9 {n:Nat}:∀(f:Nat) (p:Array Nat) (k:Nat),PP n p->k+f<=n->fE c p k->c9 n c (λq=>PP n q/\fE c q (k+f)) (kas_bin f p k)
 |0,p,k,hp,_,h=>⟨hp,h⟩
 |f+1,p,k,hp,hk,h=>by
  refine c9.bind (R:=λl=>l<=k/\(∀a,a<l->Le c (G p a) (G p k))/\∀a,l<=a->a<k->Le c (G p k) (G p a)) (λl q=>?_) _ (vN O hp (by omega) h k 0 k (bt5 _) (bp7 _) (by omega) (λa z=>absurd z (bz8 _)) λa h1 h2=>absurd h2 (by omega))
  obtain⟨q1,q2,q3⟩:=q
  have e:∀a,G (bubble p k (k-l)) a=if a=l then G p k else if l<a/\a<=k then G p (a-1) else G p a:=λa=>by
   rw[aB0 (by rw[hp.size];omega) (by omega),show k-(k-l)=l by omega]
  refine c9.mono (λr z=>⟨z.1,by rw[show k+(f+1)=k+1+f by omega];exact z.2⟩) _ (J9 f _ (k+1) (hp.bub _ _) (by omega) λa b hab hb=>?_);rw[e,e];by_cases ha:a=l
  ·rw[if_pos ha]
   by_cases hb':b=l
   ·rw[if_pos hb'];exact le_refl O _
   ·rw[if_neg hb',if_pos (by omega)];exact q3 _ (by omega) (by omega)
  ·rw[if_neg ha]
   by_cases ha2:l<a/\a<=k
   ·rw[if_pos ha2,if_neg (by omega),if_pos (by omega)]
    exact h _ _ (by omega) (by omega)
   ·rw[if_neg ha2]
    by_cases hb':b=l
    ·rw[if_pos hb'];exact q2 a (by omega)
    ·rw[if_neg hb']
     by_cases hb2:l<b/\b<=k
     ·rw[if_pos hb2];exact h _ _ (by omega) (by omega)
     ·rw[if_neg hb2];exact h _ _ hab (by omega)
theorem K0 {n:Nat}(hn:1<=n):c9 n c (λq=>PP n q/\fE c q n) (kas_sort n):=by
 have hp:PP n (List.toArray (List.range n)):=by unfold PP;simp
 refine c9.bind (R:=CI c n) (λr q=>?_) _ (aB2 O hp hn)
 obtain⟨q1,q2,q3,q4⟩:=q
 by_cases h:r.1<n
 ·rw[if_pos h]
  have e:max r.1 1=r.1:=by omega
  rw[e];exact c9.mono (λp z=>⟨z.1,by rw[show r.1+(n-r.1)=n by omega]at z;exact z.2⟩) _ (J9 O (n-r.1) r.2 r.1 q1 (by omega) q4)
 ·rw[if_neg h]
  have e:r.1=n:=by omega
  exact⟨q1,by rw[e]at q4;exact q4⟩
end
end Srt
namespace L2
open PySem PySem.Spec PyProof.Rows
theorem bN.there {P:az}{w:bc}{H:Hp}{h:Heap}{a:ay}{o:HO}(x:bN P w H h a o):∃u,h.get? a=some u:=by
 cases o with
 |lst xs=>obtain⟨_,_,_,_,e⟩:=x;exact⟨_,e⟩
 |tup xs=>obtain⟨_,_,_,⟨o,e,_⟩,_⟩:=x;exact⟨_,e⟩
 |dK kvs=>obtain⟨_,_,_,_,o,_,_,e,_⟩:=x;exact⟨_,e⟩
 |dT kvs=>obtain⟨_,_,_,_,o,_,_,e,_⟩:=x;exact⟨_,e⟩
 |set S n=>obtain⟨o,_,_,_,e,_⟩:=x;exact⟨_,e⟩
 |ins C dx fs=>obtain⟨_,_,_,e,_⟩:=x;exact⟨_,e⟩
 |own y=>exact x
 |xd fs=>obtain⟨_,⟨_,_,_,e,_⟩,_⟩:=x;exact⟨_,e⟩
 |rng lo hi=>obtain⟨_,_,_,e⟩:=x;exact⟨_,e⟩
 |frz ob u=>obtain⟨e,_⟩:=x;exact⟨_,e⟩
 |tbl ps=>exact⟨_,(show h.get? a=some _ from x)⟩
 |met f y=>exact⟨_,(show h.get? a=some _ from x)⟩
 |ext φ=>obtain⟨_,z,_⟩:=x;exact z
section
variable {X:Cx}{ag:List (ay×Obj)}{σ:St}{H:Hp}{s:ax}{h':Heap}{a:ay}{o:HO}{t':Nat}
theorem a8.laidF (I:a8 X ag σ H s)(hn:s.heap.get? a=none)(k:∀b u,b≠X.env.locals->s.heap.get? b=some u->h'.get? b=some u)(ns:∀m,s.heap.Ns X.env.locals m->h'.Ns X.env.locals m)(new:bN X.prog X.w (upd H a o) h' a o):H a=none/\a8 X ag σ (upd H a o) { s with heap:=h',toks:=t' }:=by
 have hHn:H a=none:=by
  cases q:H a with
  |none=>rfl
  |some u=>obtain⟨z,e⟩:=(I.hok a u q).there;rw[hn]at e;cases e
 have ne:∀b u,s.heap.get? b=some u->b≠a:=λb u e z=>by rw[z,hn]at e;cases e
 have hL:=I.free
 refine⟨hHn,I.step (g':=s.gens) (d':=s.drawn) (ch:=[]) (λ_ z=>nomatch z) (λb o' h1 _ _ e _=>k b o' h1 e) (λb o' h1 _ _ e _=>⟨o'.slots,k b o' h1 e⟩) (λb o' _ e n=>by rw[aW (ne b o' e)];exact n) (λb o' _ e=>?_)
  (λb xs q=>by rw[aW (cS q hHn)];exact q) (λb u xs q=>by rw[aW (cS q hHn)];exact q) (λb ps q=>⟨#[],by rw[aW (cS q hHn),q];simp⟩) ns (λb u q=>?_) I.bare⟩
 ·by_cases hb:b=X.env.locals
  ·obtain⟨m,hm,_⟩:=I.loc
   obtain⟨o2,_,_,e2,_⟩:=ns m hm
   exact⟨o2,by rw[hb];exact e2⟩
  ·exact⟨o',k b o' hb e⟩
 ·by_cases hb:b=a
  ·subst hb;rw[bZ]at q;cases q;exact new
  ·rw[aW hb]at q
   refine (I.hok b u q).stay (λc v hc e=>k c v ?_ e) (λc e=>by rw[aW (cS e hHn)];exact e) λc xs e=>by rw[aW (cS e hHn)];exact e
   rcases hc with z|z
   ·rw[z];intro y;rw[y,hL]at q;cases q
   ·intro y;rw[y,hL]at z;cases z
theorem a8.newsAll (I:a8 X ag σ H s){news:List (ay×Obj)}{m:Str->Option av}(hs:∀p∈mI X.base s.heap X.env.locals,p∈news)(F:Fr X.base X.env.locals h' m)(N:News X.base X.env.locals h' news) :
  ∀b o,b≠X.env.locals->s.heap.get? b=some o->h'.get? b=some o:=λb o h1 e=>by
 cases q:X.base.get? b with
 |some u=>
  have:=I.bk b u q
  rw[e]at this;cases this;exact F.keep b _ q
 |none=>exact (N (b,o) (hs _ (zG h1 q e))).1
end
theorem K1 {α:Type}{d:α}(l:List α){p:List Nat}(h:p.Perm (List.range l.length)):(p.map λi=>l.getD i d).Perm l:=by
 have e:(List.range l.length).map (λi=>l.getD i d)=l:=by
  apply List.ext_getElem
  ·simp
  ·intro i h1 h2
   simp at h1;simp[h1]
 have:=h.map λi=>l.getD i d
 rw[e]at this;exact this
theorem vO:∀{xs:List V}{us:List av} (i:Nat),i<xs.length->aL xs us->aQ (xs.getD i .non) (us.getD i Value.none)
 |_,_,_,h,.nil=>by simp at h
 |_,_,0,_,.cons r _=>by simpa using r
 |_,_,i+1,h,.cons _ t=>by
  have:=vO i (by simpa using h) t
  simpa using this
theorem K4 {xs:List V}{us:List av}(r:aL xs us):∀{p:List Nat},(∀i∈p,i<xs.length)->aL (p.map λi=>xs.getD i .non) (p.map λi=>us.getD i Value.none)
 |[],_=>.nil
 |i::p,h=>.cons (vO i (h i bp5) r) (K4 r λj hj=>h j (bp0 _ hj))
theorem vP {α:Type}:∀l:List α,(l.zip l).map (·.2)=l
 |[]=>rfl
 |a::l=>by
  show a::((l.zip l).map (·.2))=a::l;rw[vP l]
theorem qZ {prog:az}{w:bc}{A:ba}{E:av->ax->Prop}{s:ax}{a:ay}{vs:List av}{n:Nat}{P:PySem.Fin->ax->Prop}(e:s.heap.get? a=some (seqObj "list" vs.toArray n))(few:vs.length<2)(q:P (.done (.ret .none)) { s with heap:=sortedHeap s.heap a vs vs.toArray }):wpAny (model prog w) A (Builtin.«list.sort» ⟨[.ref a],[]⟩) P E s:=by
 have big:vs.length<=sizeLine:=bs7 (by8 few) (by decide);have la:=bp9 e;have c:vs.toArray.size<2:=by simpa using few
 have same:(arrOf (SortSt.mk' general' (vs.toArray.zip vs.toArray) #[] 7 none)).map (·.2)=vs.toArray:=by
  change (vs.toArray.zip vs.toArray).map (·.2)=vs.toArray
  apply Array.ext';simpa using vP vs
 obtain⟨k,ek⟩:∃k,(s.heap.update a (Obj.mapSeq λ_=>#[])).get? a=some (seqObj "list" #[] k):=⟨_,get?_update_seq e λ_=>#[]⟩
 have there:(((s.heap.update a (Obj.mapSeq λ_=>#[])).push (seqObj "tuple" vs.toArray 0)).push (seqObj "list" #[] 0)).get? a=some (seqObj "list" #[] k):=
  bo4 _ (bo4 _ ek)
 rw[list_sort_plain];apply bo2;apply listItems_at e rfl;apply bo2;refine listUpdate_at e rfl ?_ (by simpa using big) (bt5 _);apply bo2;apply seqEpoch_at ek rfl;apply bo2;refine wpAny_newTuple ?_ big;apply bo2;refine wpAny_newList ?_ (bt5 _);apply bv9;simp only[c,if_true,StateT.run_pure];apply bo2;apply bo5;apply bo2;apply bo5;apply bo2;apply seqEpoch_at there rfl;apply bo2;refine listUpdate_at there rfl ?_ (bt5 _) (by rw[same,bo8];exact Nat.le_succ_of_le big);rw[same];simp only[bne_self_eq_false,bq3,bu2];exact bo5 q
theorem aB3 {prog:az}{w:bc}{A:ba}{E:av->ax->Prop}{s:ax}{l:ay}{vs:List av}{Q:av->ax->Prop}(hl:s.heap.IsList l vs.toArray)(few:vs.length<2)(q:Q (.ref (s.heap.objs.size+1)) { s with heap:=sortedAll s.heap vs vs.toArray }):wpAny (model prog w) A (call (.builtin "sorted") [.ref l]) Q E s:=by
 have big:vs.length<=sizeLine:=bs7 (by8 few) (by decide);apply Calls.call_function_entry kind_sorted plain_sorted entry_sorted (args_sorted1 _);simp only[Builtin.«sorted»];apply bo2 (m:=checkCount "sorted" 1 1 _);apply bo5;apply bo2;refine collect_list hl ?_ big;apply bo2;refine wpAny_newList ?_ big;have one:((s.heap.push (seqObj "list" #[] 0)).update s.heap.objs.size (Obj.mapSeq (·++vs.toArray))).objs.size=s.heap.objs.size+1:=(Heap.size_update _ _ _).trans (size_push' _ _);have at1:(((s.heap.push (seqObj "list" #[] 0)).update s.heap.objs.size (Obj.mapSeq (·++vs.toArray))).push (seqObj "list" vs.toArray 0)).get? (s.heap.objs.size+1)=some (seqObj "list" vs.toArray 0):=one▸bp4 _ rfl
 change wpAny _ _ _ _ _ { s with heap:=((s.heap.push (seqObj "list" #[] 0)).update s.heap.objs.size (Obj.mapSeq (·++vs.toArray))).push (seqObj "list" vs.toArray 0) }
 rw[one];apply bo2;apply bv9;refine bt1 slot_list_sort ⟨_,at1,rfl⟩ entry_list_sort ?_ (args_list_sort _);refine qZ at1 few ⟨_,rfl,?_⟩;exact bo5 ⟨_,rfl,q⟩
theorem jH:∀{a b:ae},HT.aH a b=true->HT.aH b a=false
 |[],[],h=>by cases h
 |[],_::_,_=>rfl
 |_::_,[],h=>by cases h
 |x::xs,y::ys,h=>by
  rw[HT.fX]at h ⊢;by_cases e:x=y
  ·rw[if_pos e]at h;rw[if_pos e.symm];exact jH h
  ·rw[if_neg e]at h;rw[if_neg (Ne.symm e)]
   have:=bG1 h
   exact bp6 (by omega)
theorem oO:∀{a b c:ae},HT.aH a b=false->HT.aH b c=false->HT.aH a c=false
 |[],[],c,_,h=>h
 |[],_::_,_,h,_=>by cases h
 |_::_,[],[],_,_=>rfl
 |_::_,[],_::_,_,h=>by cases h
 |_::_,_::_,[],_,_=>rfl
 |x::xs,y::ys,z::zs,h1,h2=>by
  rw[HT.fX]at h1 h2 ⊢;by_cases e1:x=y
  ·rw[if_pos e1]at h1
   by_cases e2:y=z
   ·rw[if_pos e2]at h2;rw[if_pos (e1.trans e2)];exact oO h1 h2
   ·rw[if_neg e2]at h2;rw[if_neg (by rw[e1];exact e2)];rw[e1];exact h2
  ·rw[if_neg e1]at h1
   have k1:=bA3 h1;by_cases e2:y=z
   ·rw[<- e2,if_neg e1];exact h1
   ·rw[if_neg e2]at h2
    have k2:=bA3 h2;rw[if_neg (by omega)];exact bp6 (by omega)
theorem r6:∀{a b:ae},HT.aH a b=false->HT.aH b a=false->a=b
 |[],[],_,_=>rfl
 |[],_::_,h,_=>by cases h
 |_::_,[],_,h=>by cases h
 |x::xs,y::ys,h1,h2=>by
  rw[HT.fX]at h1 h2;by_cases e:x=y
  ·rw[if_pos e]at h1;rw[if_pos e.symm]at h2;rw[e,r6 h1 h2]
  ·rw[if_neg e]at h1;rw[if_neg (Ne.symm e)]at h2
   have:=bA3 h1
   have:=bA3 h2
   omega
section
variable {prog:az}{w:bc}{A:ba}{s:ax}{Q:Bool→ax→Prop}
theorem oP:∀{us ws:List av}{xs ys:ae} (i:Nat),IntsAre us xs->IntsAre ws ys->Q (HT.aH xs ys) s->PySem.W.KatLex prog w A true (decide (us.length<ws.length)) Q (us.zip ws) i s
 |_,_,_,_,_,.nil,.nil,h=>h
 |_,_,_,_,_,.nil,.cons _ _ _,h=>h
 |_,_,_,_,_,.cons _ _ _,.nil,h=>h
 |_,_,_,_,i,.cons (vs:=us) x t hx,.cons (vs:=ws) y u hy,h=>by
  refine PySem.W.kat_cons (wpAny_eqBool_int ?_);rw[HT.fX]at h;by_cases e:x=y
  ·rw[if_pos e]at h
   have eb:(x==y)=true:=by simpa using e
   rw[eb];refine PySem.W.kat_yes ?_;have e2:decide ((Value.int x t::us).length<(Value.int y u::ws).length)=decide (us.length<ws.length):=by simp
   rw[e2];exact oP (i+1) hx hy h
  ·rw[if_neg e]at h
   have eb:(x==y)=false:=by simpa using e
   rw[eb];refine PySem.W.kat_no ?_;cases hi:(true&&i==0) with
   |true=>exact PySem.W.kat_lt_int h
   |false=>exact PySem.W.kat_one _ _ (lt_int h)
end
noncomputable def K5 (K:ac):List V->Hp->VK->Prop:=λxs H Q=>∃(a:ay) (ys:List V) (key:V->ae),xs = [.ref a]/\aM K H a ys/\ys.length<64/\(∀y∈ys,∃b,y = .ref b/\aJ K H b ((key y).map V.int)/\key y≠[])/\
 ∀l (zs:List V),H l=none->zs.Perm ys->zs.Pairwise (λu v=>HT.aH (key v) (key u)=false)->Q (.ref l) (upd H l (.lst zs))
theorem aB4 {c:Nat->Nat->Bool}{R:V->V->Prop}{ys:List V}{p:Array Nat}{n:Nat}(hp:Srt.PP n p)(ha:Srt.fE c p n)(hR:∀i j,Srt.Le c i j->R (ys.getD i .non) (ys.getD j .non)) :
  (p.toList.map λi=>ys.getD i .non).Pairwise R:=by
 rw[bu7,bv3];intro i j hi hj hij;have hs:=hp.size;have h1:i<n:=by rw[<- hs];simpa using hi
 have h2:j<n:=by rw[<- hs];simpa using hj
 have q:=ha i j (by8 hij) h2;have e:∀k (hk:k<p.toList.length),Srt.G p k=p.toList[k]:=λk hk=>by
  have hk':k<p.size:=by simpa using hk
  unfold Srt.G;rw[bv4];simp[hk']
 rw[e i hi,e j hj]at q;exact hR _ _ q
theorem aB5 {X:Cx}:cH X (.builtin "sorted") (K5 X.K):=by
 intro ag s σ H xs us Q I r h
 obtain⟨a,ys,key,rfl,hs,h64,hk,q⟩:=h
 obtain⟨u,rfl,ru⟩:=fV r
 cases ru
 obtain⟨its,rv,p,hz⟩:=I.list hs
 have hl:=rv.length;by_cases h2:its.length<2
 ·
  refine aB3 p.isList h2 ?_
  obtain⟨e,he⟩:=sortedAll_at s.heap its its.toArray
  have hn:s.heap.objs.size<=s.heap.objs.size+1:=Nat.le_succ _;refine⟨.ref (s.heap.objs.size+1),upd H (s.heap.objs.size+1) (.lst ys),I.laid (t':=s.toks) (λ_ _=>sortedAll_old) hn ⟨hz,its,e,rv,he⟩,rfl,q _ ys (I.hok.fresh hn) (bz2 _) ?_⟩
  match ys,hl with
  |[],_=>exact bz3
  |[_],_=>exact bu4 _ _
  |_::_::_,hl=>simp at hl;omega
 ·obtain⟨m,F⟩:=I.fr
  have hL:∀{b:ay}{k:ae},aJ X.K H b (k.map V.int)->b≠X.env.locals:=λ{b k} z e=>by
   obtain⟨its',_,⟨ob,e1,c1,_⟩,_⟩:=I.tuple z
   obtain⟨m',⟨o',es',ep',e2,d2,_⟩,_⟩:=I.loc
   rcases z with (z|⟨_,z⟩)|⟨o3,its3,n3,z3,zc,zd,_⟩
   ·rw[e,I.free]at z;cases z
   ·rw[e,I.free]at z;cases z
   ·have:=I.kIn b o3 z3
    rw[e,e2]at this;cases this;rw[d2]at zd;cases zd
  refine PySem.W.kat_sorted F (zH (g:=X.base) (h:=s.heap) (L:=X.env.locals)) p.isList (by omega) (by omega) λD e1 h' F' N' hD=>?_
  have keep:=I.newsAll (λp hp=>bp0 _ hp) F' N';have look:∀i,i<ys.length->∃(b:ay) (ob:Obj) (us:List av) (n:Nat),its.getD i Value.none = .ref b/\h'.get? b=some ob/\ob.cls = .type "tuple"/\ob.data = .seq us.toArray n/\IntsAre us (key (ys.getD i .non))/\key (ys.getD i .non)≠[]:=λi hi=>by
   have hy:ys.getD i .non∈ys:=by
    rw[bp3,bo6 hi];exact by0 hi
   obtain⟨b,eb,sq,ne⟩:=hk _ hy
   have rr:=vO i hi rv;rw[eb]at rr;have rr:its.getD i Value.none = .ref b:=rr
   obtain⟨us,ru,⟨ob,e1,c1,n1,d1⟩,_⟩:=I.tuple sq
   exact⟨b,ob,us,n1,rr,keep b ob (hL sq) e1,c1,d1,fB ru,ne⟩
  have firsts:∀{xs:List V}{vs:List av},aL xs vs->(∀y∈xs,∃b,y = .ref b/\aJ X.K H b ((key y).map V.int)/\key y≠[])->∃fs:List av,PySem.W.KatTups h' vs fs/\fs.length=vs.length/\∀v∈fs,∃i t,v=Value.int i t:=by
   intro xs vs r
   induction r with
   |nil=>intro _;exact⟨[],PySem.W.KatTups.nil,rfl,λ_ z=>nomatch z⟩
   |@cons x v xs vs rx rt ih=>
    intro hh
    obtain⟨fs,t1,t2,t3⟩:=ih λy hy=>hh y (bp0 _ hy)
    obtain⟨b,eb,sq,ne⟩:=hh x bp5
    subst eb;cases rx
    obtain⟨us,ru,⟨ob,e1,c1,n1,d1⟩,_⟩:=I.tuple sq
    have ia:=fB ru;generalize key (V.ref b)=kk at ia ne;cases ia with
    |nil=>exact absurd rfl ne
    |@cons n t vs0 ns0 ht=>
     exact⟨Value.int n t::fs,PySem.W.KatTups.cons (keep b ob (hL sq) e1) c1 d1 (by simp) t1,by simp[t2],λv hv=>(bp1.mp hv).elim (λz=>⟨n,t,z⟩) (t3 v)⟩
  obtain⟨fs,t1,t2,t3⟩:=firsts rv hk
  refine PySem.W.kat_kind (T:=.type "int") t1 (by omega) (λv hv=>?_) (by decide) ?_
  ·obtain⟨i,t,rfl⟩:=t3 v hv
   exact PySem.W.Looks.now
  let c:Nat->Nat->Bool:=λi j=>HT.aH (key (ys.getD i .non)) (key (ys.getD j .non))
  have O:Srt.qV c:=⟨λh=>jH h,λh1 h2=>oO h1 h2⟩;have ok:=Srt.K0 (n:=its.length) O (by omega);refine Srt.c9.run (I:=λs'=>s'={ s with heap:=h' }) (λi j C s' hi hj hI hC=>?_) (λpa s' hR hI=>?_) _ _ rfl ok
  ·subst hI
   obtain⟨b1,o1,u1,n1,g1,g2,_,g4,g5,_⟩:=look i (by omega)
   obtain⟨b2,o2,u2,n2,k1,k2,_,k4,k5,_⟩:=look j (by omega)
   show wpAny _ _ (keyLt' (tuples' (Value.type "int" != Value.type "tuple")) (its.getD i Value.none) (its.getD j Value.none)) _ _ _;rw[g1,k1];have eT:(Value.type "int" != Value.type "tuple")=true:=by decide
   rw[eT];refine PySem.W.kat_lt g2 g4 k2 k4 ?_
   have:=oP (prog:=X.prog) (w:=X.w) (A:=X.A.in1.in1) (s:={ s with heap:=h' }) (Q:=C) 0 g5 k5 (hC _ rfl)
   simpa using this
  ·subst hI
   obtain⟨hp,hasc⟩:=hR
   refine PySem.W.KasFin.intro F' N' (PySem.W.UpdF.head λp hp=>br1 (hD p hp)) λh2 cc F2 N2=>?_
   have keep2:=I.newsAll (λp hp=>bp0 _ hp) F2 N2;have hDn:s.heap.get? D=none:=by
    cases z:s.heap.get? D with
    |none=>rfl
    |some o=>
     obtain⟨_,n1,n2⟩:=N2 (D,_) bp5
     exact absurd (hD _ (zG n1 n2 z)) (bu6 _)
   have hpl:∀i∈pa.toList,i<ys.length:=λi hi=>by
    have:=bw2.mp (hp.mem_iff.mp hi);omega
   have hp':pa.toList.Perm (List.range ys.length):=by rw[hl];exact hp
   have pm:=K1 (d:=V.non) ys hp'
   obtain⟨hDo,hDL,hDb⟩:=N2 (D,_) bp5
   obtain⟨hHD,I2⟩:=I.laidF (t':=s.toks) (a:=D) (o:=.lst (pa.toList.map λi=>ys.getD i .non)) hDn keep2 (λm' hm'=>by
     have e:m'=m:=funext λnm=>Heap.Ns.agree hm' F.ns nm
     rw[e];exact F2.ns) ⟨by rw[pm.length_eq];exact hz,_,cc,K4 rv hpl,hDo⟩
   exact⟨.ref D,_,I2,rfl,q D _ hHD pm (aB4 hp hasc λi j hle=>hle)⟩
end L2
namespace Raw
open PySem PySem.W PySem.Calls PyProof.Rows
noncomputable def hG (h:Heap)(d:ay)(es:Array DictEntry)(ep:Nat):Prop:=∃o,h.get? d=some o/\o.ExactDict/\o.data = .dict es ep
theorem hG.ty {s:ax}{d:ay}{es:Array DictEntry}{ep:Nat}(x:hG s.heap d es ep):s.TypeIs (.ref d) "dict":=x.elim λo y=>⟨o,y.1,y.2.1.1⟩
theorem hG.lt {h:Heap}{d:ay}{es:Array DictEntry}{ep:Nat}(x:hG h d es ep):d<h.objs.size:=x.elim λ_ y=>bp9 y.1
theorem hG.keep {h h':Heap}{d:ay}{es:Array DictEntry}{ep:Nat}(x:hG h d es ep)(k:∀o,h.get? d=some o->h'.get? d=some o):hG h' d es ep:=x.elim λo y=>⟨o,k o y.1,y.2⟩
section
variable {prog:az}{w:bc}{A:ba}{E:av→ax→Prop}{s:ax}{d it:ay}{es:Array DictEntry}{ep i:Nat}
theorem made (far:(d==sysModules)=false)(x:hG s.heap d es ep){Q:av->ax->Prop}(q:Q (.ref s.heap.objs.size) { s with heap:=s.heap.push { cls:=.type "dict_keyiterator",data:=.fields #[.ref d,.int 0 0,.int es.size 0,.int ep 0] } }):wpAny (model prog w) A (pyIter (.ref d)) Q E s:=by
 have T:=x.ty
 obtain⟨o,e1,e2,e3⟩:=x
 apply wpAny_pyIter_slot T PySem.F.slot_dict_iter;apply bt1 PySem.F.slot_dict_iter T PySem.F.entry_dict_iter _ (PySem.F.args_dict_iter_1 _);simp only[Builtin.«dict.__iter__»,Builtin.Dict.dictSlotNone];apply bo2;apply bo2;apply wpAny_notOrdered_dict T;apply bo5
 change wpAny _ _ (Builtin.Dict.showsAll d >>= _) _ _ s
 have far':Builtin.Dict.showsAll d=pure ():=by
  unfold Builtin.Dict.showsAll;simp only[far,bq3,bu2]
 rw[far',pure_bind];apply bo2;apply wpAny_dictEntries e1 e3;apply bo2;apply wpAny_dictEpoch e1 e3;apply bo2;refine bs2 (bo5 ?_);refine⟨.ref s.heap.objs.size,rfl,"dict_keyiterator",_,⟨_,bp4 _ rfl,rfl⟩,PySem.F.slot_dict_keyiterator_next.lookup,?_⟩;simpa only[rawInt] using q
theorem turn (hh:A.handled=none)(hi:s.heap.IsKeyIter it d i es.size ep)(x:hG s.heap d es ep){Q:Option av->ax->Prop}(yes:∀(lt:i<es.size) h',h'.IsKeyIter it d (i+1) es.size ep->Heap.SameBut it s.heap h'->Q (some es[i].key) { s with heap:=h' })(no:es.size<=i->∀h',Heap.ExtBut it s.heap h'->Q none { s with heap:=h' }):wpAny (model prog w) A (pyNext (.ref it)) Q E s:=by
 have T:=hi.typeIs
 obtain⟨oi,f1,f2,f3⟩:=hi
 obtain⟨o,e1,e2,e3⟩:=x
 have slot:=PySem.F.slot_dict_keyiterator_next;have plain:Builtin.Dict_items.ownsTuple "dict_keyiterator" = false:=by decide
 have isref:(Value.ref d==Value.none)=false:=rfl;have nn:¬(i:Int)<0:=by omega
 unfold pyNext;apply bo2;apply bC6;apply bt2 (name:=Str.ofString "__next__") T slot;apply bt1 slot T PySem.F.entry_dict_keyiterator_next _ (PySem.F.args_dict_keyiterator_next_1 _);apply bo2;apply bo5;apply bo2;apply bo2;apply bo2
 first
  |apply wpAny_typeNameOfWhole_keyiter T
  |apply wpAny_typeNameOf_keyiter T
 apply bo5;apply bo2;apply wpAny_fieldsOf f1 f3;simp only[plain,bq3,bu2]
 change wpAny _ _ (if (Value.ref d==Value.none)=true then _ else _) _ _ s
 have adr:Builtin.Dict_items.addrOf (Value.ref d)=pure d:=rfl;simp only[isref,bq3,bu2,adr,pure_bind];apply bo2;apply wpAny_dictEntries e1 e3;simp only[bne_self_eq_false,bq3,bu2];apply bo2;apply wpAny_dictEpoch e1 e3;simp only[bne_self_eq_false,bq3,bu2];apply bo5;simp only[nn,bu2,bG2];by_cases lt:i<es.size
 ·simp only[bs5 lt]
  apply bo2;apply bo2
  first
   |apply wpAny_typeNameOfWhole_keyiter T
   |apply wpAny_typeNameOf_keyiter T
  apply bo5;apply bo2;apply wpAny_isOneOf_keyiter T
  change wpAny _ _ (setField (.ref it) 1 (rawInt ((i:Int)+1)) >>= _) _ _ s
  apply bo2;refine bD0 f1 f3 (by simp) ?_;have again:(s.heap.update it (Obj.mapFields (·.setIfInBounds 1 (rawInt ((i:Int)+1))))).IsKeyIter it d (i+1) es.size ep:=by
   refine⟨_,bt9 _ f1 (Obj.isFreed_of_fields (Obj.data_mapFields f3 _)),?_,?_⟩
   ·rw[Obj.cls_mapFields];exact f2
   ·rw[Obj.data_mapFields f3];simp[rawInt]
  apply bo2;apply bv9;apply bo2;refine wpAny_isOneOf_keyiter (s:={ s with heap:=s.heap.update it (Obj.mapFields (·.setIfInBounds 1 (rawInt ((i:Int)+1)))) }) again.typeIs ?_
  change wpAny _ _ (pure es[i].key) _ _ _
  apply bo5;apply bo5
  exact⟨es[i].key,rfl,bo5 (yes lt _ again (bv7 ..))⟩
 ·have ge:es.size<=i:=Nat.le_of_not_lt lt
  simp only[bz5 ge];apply bo2;apply bo2
  first
   |apply wpAny_typeNameOfWhole_keyiter T
   |apply wpAny_typeNameOf_keyiter T
  apply bo5
  change wpAny _ _ (setField (.ref it) 0 .none >>= _) _ _ s
  apply bo2;refine bD0 f1 f3 (by simp) ?_;apply bo2;simp only[newExc,newTuple];apply bo2;refine bs2 ?_ (by size_fits);apply bo2;refine wpAny_of_eq (a:=Value.none) (by first|rfl|(simp only[firstArgMember];rfl)) ?_;refine bs2 ?_ (by size_fits);unfold raiseNew;apply bo2;apply wpAny_handled;have quiet:A.in1.handled=none:=hh;rw[quiet];refine wpAny_throw ?_;apply bo2;refine bF0 (T:="StopIteration") (b:=true) ⟨_,bp4 _ rfl,rfl⟩ isSubtype_stop ?_;exact bo5 (no ge _ (((bv7 ..).extBut.push _).push _))
theorem aB6 (hh:A.handled=none)(ne:d≠it):Walks prog w A it [it,d] [it] es.size (λi v=>∃lt:i<es.size,es[i].key=v) (λi h=>h.IsKeyIter it d i es.size ep/\hG h d es ep) where
 sub:=by intro b hb;rw[bp2.mp hb];exact bp5
 frame:=by
  intro i h h' st hk
  exact⟨st.1.at (hk it bp5),st.2.keep (hk d (bp0 _ bp5))⟩
 item:=by
  intro i s Q E lt st hQ;refine turn hh st.1 st.2 (λlt' h' again sb=>?_) λge=>absurd lt (Nat.not_lt.mpr ge)
  exact hQ _ h' s.toks ⟨lt',rfl⟩ ⟨again,st.2.keep λo e=>sb.extBut d o ne e⟩ λb o hb e=>sb.extBut b o (λz=>hb (bp2.mpr z)) e
 done:=by
  intro s Q E st hQ;refine turn hh st.1 st.2 (λlt=>absurd lt (bu6 _)) λ_ h' eb=>?_
  exact hQ h' s.toks λb o hb e=>eb b o (λz=>hb (bp2.mpr z)) e
 self:=by intro i s Q E st hQ;exact wpAny_pyIter_keyiter st.1 hQ
theorem K6 (far:(d==sysModules)=false):KdlSrc prog w "dict" d d es.size (λi v=>∃lt:i<es.size,es[i].key=v) (λh=>hG h d es ep) where
 type:=λ_ x=>x.ty
 there:=λ_ x=>⟨x.lt,x.lt⟩
 keep:=λ_ _ x k=>x.keep (k d (.inl rfl))
 notList:=by decide
 notTuple:=by decide
 hint:=λ_ _ _ _ x q=>kdl_hint_dict x.ty q
 iter:=λ_ _ hh x=>⟨_,_,λ_ _ q=>made far x q,aB6 hh (br1 x.lt),⟨_,bp4 _ rfl,rfl,rfl⟩,x.keep λo e=>bo4 _ e⟩
end
end Raw
namespace L2
open PySem PySem.Spec PyProof.Rows
section
variable {X:Cx}{ag:List (ay×Obj)}{σ:St}{H:Hp}{s:ax}{a:ay}
noncomputable def fF (H:Hp)(y:V)(k:List aI):Prop:=∃q,y = .ref q/\H q=some (.tup (k.map kV))
theorem K7 {kvs:List (List aI×V)}(I:a8 X ag σ H s)(h:H a=some (.dT kvs)):∃es ep ys,Raw.hG s.heap a es ep/\(a==sysModules)=false/\Paired (fF H) ys (kvs.map (·.1))/\aL ys (es.toList.map (·.key))/\kvs.length<=sizeLine:=by
 obtain⟨z,far,xs,rel,o,es,ep,e1,e2,e3,e4,nd⟩:=(show bN X.prog X.w H s.heap a (.dT kvs) from I.hok a _ h)
 refine⟨es,ep,xs.map λq=>V.ref q.2.1,⟨o,e1,e2,e3⟩,far,?_,?_,z⟩
 ·clear e4 nd h z
  induction rel with
  |nil=>exact .nil
  |cons r rs ih=>exact .cons ⟨_,rfl,r.2.1⟩ ih
 ·rw[e4]
  clear rel e4 nd
  induction xs with
  |nil=>exact .nil
  |cons q qs ih=>exact .cons rfl ih
theorem r9 {es:Array DictEntry}{acc:Array av}(h:ItemsOf (λi v=>∃lt:i<es.size,es[i].key=v) acc es.size):acc.toList=es.toList.map (·.key):=by
 apply List.ext_getElem?;intro j;have h1:=h.1;by_cases hj:j<es.size
 ·have hj':j<acc.size:=by rw[h1];exact hj
  obtain⟨_,e⟩:=h.2 j acc[j] (by simp[hj'])
  rw[bq6];simp[hj,hj',e]
 ·have hj':¬j<acc.size:=by rw[h1];exact hj
  rw[bq6];simp[Nat.le_of_not_lt hj,Nat.le_of_not_lt hj']
end
section
variable {X:Cx}
theorem aB7:cH X (.builtin "isinstance") (λxs H Q=>∃x t n b,xs = [x,.ty n]/\fW X.K H x t/\PySem.W.kitOne X.K t (.type n)=some b/\Q (.bl b) H):=by
 intro ag s σ H xs us Q I r h
 obtain⟨x,t,n,b,rfl,ty,e,q⟩:=h
 obtain⟨u,u',rfl,ru,ru'⟩:=lG r
 cases ru';exact at9 I ru ty e λtk=>⟨.bl b,H,I.tok tk,rfl,q⟩
end
noncomputable def K8 (outer:List (Str×NameKind))(XN:List Str)(names:List (Str×NameKind))(N:List Str)(fr:List (Option Nat)):Bool:=
 names.all (λy=>!(y.2==.cell)||names.lookup y.1==some .cell)&&names.all (λy=>!(y.2==.local)||names.lookup y.1==some .local) &&
 names.all (λy=>!(y.2==.free)||(outer.lookup y.1==some .cell||outer.lookup y.1==some .free))&&fr.length==N.length &&
 (fr.zip N).all (λp=>match p.1 with
  |none=>true
  |some j=>XN[j]?==some p.2&&names.lookup p.2==some .free)
theorem eQ.of {X:Cx}{scope:Scope}{N:List Str}{fr:List (Option Nat)}(hk:scope.kind = .function)(h:K8 X.env.scope.names X.N scope.names N fr=true):eQ X scope N fr:=by
 unfold K8 at h;simp only[bz1]at h
 obtain⟨⟨⟨⟨h1,h2⟩,h3⟩,h4⟩,h5⟩:=h
 refine⟨hk,λy hy e=>?_,λy hy e=>?_,λy hy e=>?_,by simpa using h4,λi j e=>?_⟩
 ·have:=bB0.mp h1 y hy
  rw[e]at this;simpa using this
 ·have:=bB0.mp h2 y hy
  rw[e]at this;simpa using this
 ·have:=bB0.mp h3 y hy
  rw[e]at this;simpa using this
 ·have hl:fr.length=N.length:=by simpa using h4
  have hi:i<fr.length:=(bq1.mp e).1;have m:(some j,N[i]'(by omega))∈fr.zip N:=by
   have:(fr.zip N)[i]? = some (some j,N[i]'(by omega)):=by
    rw[List.getElem?_zip_eq_some]
    exact⟨e,by simp⟩
   exact bD9 this
  have:=bB0.mp h5 _ m
  simp only[bz1,beq_iff_eq]at this
  exact⟨N[i]'(by omega),by simp,this.1,this.2⟩
noncomputable def vQ (ls:aa)(k:Int):ae:=ls.flatMap λl=>(if l.1=k then [l.2] else [])++(if l.2=k then [l.1] else [])
theorem aB8 {α:Type}{xs:List α}{i:Int}{v:α}(h0:0<=i)(h:xs[i.toNat]? = some v):atI xs i=some v:=by
 have:=aw0 h
 rwa [show ((i.toNat:Nat):Int)=i by omega]at this
theorem rA {n:Nat}(h:n<=16000000):n<sizeLine:=by rw[sizeLine_eq];omega
theorem vR {K:ac}{H:Hp}{p:ay}{xs:List V}(h:aM K H p xs):oI K "list" (.ref p) H:=.inl ⟨rfl,xs,h⟩
end L2
namespace Zp
open PySem PyProof.Rows
section
variable {prog:az}{w:bc}{A:ba}{E:av→ax→Prop}{s:ax}
theorem K9 {it t:ay}{i:Nat}{items:Array av}{x:av}{Q:av->ax->Prop}(hi:s.heap.IsTupleIter it t i)(ht:s.heap.IsTuple t items)(hx:items[i]? = some x)(q:∀h',h'.IsTupleIter it t (i+1)->Heap.SameBut it s.heap h'->Q x { s with heap:=h' }):wpAny (model prog w) A (Builtin.SmallTypes.nextOf (.ref it)) Q E s:=by
 have T:=hi.typeIs
 obtain⟨o,e1,e2,e3⟩:=hi
 obtain⟨u,f1,_,k,f3⟩:=ht
 have slot:=PySem.F.slot_tuple_iterator_next;have isref:(Value.ref t==Value.none)=false:=rfl;unfold Builtin.SmallTypes.nextOf;apply bo2;apply bt2 (name:=Str.ofString "__next__") T slot;apply bt1 slot T PySem.F.entry_tuple_iterator_next _ (PySem.F.args_tuple_iterator_next_1 _)
 change wpAny _ _ (field (.ref it) 0 >>= _) _ _ s
 apply bo2;refine bx3 e1 e3 (x:=.ref t) rfl ?_
 change wpAny _ _ (if (Value.ref t==Value.none)=true then _ else _) _ _ s
 simp only[isref,bq3,bu2]
 change wpAny _ _ (field (.ref it) 1 >>= _) _ _ s
 apply bo2;refine bx3 e1 e3 (x:=.int i 0) rfl ?_
 change wpAny _ _ (seqItems? (.ref t) >>= _) _ _ s
 apply bo2;apply bx2 f1 f3;simp only[bG2,hx];apply bo2;refine bD0 e1 e3 (by simp) ?_;apply bo5;refine⟨x,rfl,bo5 (q _ ⟨_,bt9 _ e1 (Obj.isFreed_of_fields (Obj.data_mapFields e3 _)),?_,?_⟩ (bv7 ..))⟩
 ·rw[Obj.cls_mapFields];exact e2
 ·rw[Obj.data_mapFields e3];simp[rawInt]
theorem L4 {it t:ay}{i:Nat}{items:Array av}{Q:av->ax->Prop}(hh:A.handled=none)(hi:s.heap.IsTupleIter it t i)(ht:s.heap.IsTuple t items)(hx:items[i]? = none)(q:∀h' e,Heap.ExtBut it s.heap h'->(∃o,h'.get? e=some o/\o.cls = .type "StopIteration")->E (.ref e) { s with heap:=h' }):wpAny (model prog w) A (Builtin.SmallTypes.nextOf (.ref it)) Q E s:=by
 have T:=hi.typeIs
 obtain⟨o,e1,e2,e3⟩:=hi
 obtain⟨u,f1,_,k,f3⟩:=ht
 have slot:=PySem.F.slot_tuple_iterator_next;have isref:(Value.ref t==Value.none)=false:=rfl;unfold Builtin.SmallTypes.nextOf;apply bo2;apply bt2 (name:=Str.ofString "__next__") T slot;apply bt1 slot T PySem.F.entry_tuple_iterator_next _ (PySem.F.args_tuple_iterator_next_1 _)
 change wpAny _ _ (field (.ref it) 0 >>= _) _ _ s
 apply bo2;refine bx3 e1 e3 (x:=.ref t) rfl ?_
 change wpAny _ _ (if (Value.ref t==Value.none)=true then _ else _) _ _ s
 simp only[isref,bq3,bu2]
 change wpAny _ _ (field (.ref it) 1 >>= _) _ _ s
 apply bo2;refine bx3 e1 e3 (x:=.int i 0) rfl ?_
 change wpAny _ _ (seqItems? (.ref t) >>= _) _ _ s
 apply bo2;apply bx2 f1 f3;simp only[bG2,hx];apply bo2;apply bF3;apply bo2;refine bD0 e1 e3 (by simp) ?_;apply bo2;simp only[newExc,newTuple];apply bo2;refine bs2 ?_ (by size_fits);apply bo2;refine wpAny_of_eq (a:=Value.none) (by first|rfl|(simp only[firstArgMember];rfl)) ?_;refine bs2 ?_ (by size_fits);unfold raiseNew;apply bo2;apply wpAny_handled;have quiet:A.in1.handled=none:=hh;rw[quiet];refine wpAny_throw ?_;exact q _ _ (((bv7 ..).extBut.push _).push _) ⟨_,bp4 _ rfl,rfl⟩
theorem aB9 (hh:A.handled=none)(it t:ay)(ne:t≠it)(items:Array av):Draws prog w A it [it,t] items.size (λi v=>items[i]? = some v) (λi h=>h.IsTupleIter it t i/\h.IsTuple t items) where
 live:=λ_ _ st=>st.1.elim λo y=>⟨o,y.1⟩
 frame:=λ_ _ _ st k=>⟨st.1.at λo e=>k it bp5 o e,st.2.elim λo y=>⟨o,k t (bp0 _ bp5) o y.1,y.2⟩⟩
 item:=λi s Q E lt st q=>K9 st.1 st.2 (bs5 lt) λh' again sb=>q _ h' s.toks (bs5 lt) ⟨again,st.2.elim λo y=>⟨o,sb.extBut t o ne y.1,y.2⟩⟩ sb
 done:=λs Q E st q=>L4 hh st.1 st.2 (bz5 (bp7 _)) q
end
structure Ap (z TI TO i1 i2:ay)(fp1 fp2:List ay):Prop where
 TIz:TI≠z
 TOz:TO≠z
 TITO:TI≠TO
 z1:z∉fp1
 z2:z∉fp2
 o1:TO∉fp1
 o2:TO∉fp2
 t1:TI∉fp1
 t2:TI∉fp2
 m1:i1∈fp1
 m2:i2∈fp2
 n1:i1∉fp2
 n2:i2∉fp1
structure vS (z TI TO i1 i2:ay)(St1 St2:Nat->Heap->Prop)(f0:av)(i j:Nat)(h:Heap):Prop where
 zz:IsZip h z TI TO f0
 ti:IsPair h TI (.ref i1) (.ref i2)
 to_:∃a b,IsPair h TO a b
 s1:St1 i h
 s2:St2 j h
section
variable {prog:az}{w:bc}{A:ba}{E:av→ax→Prop}{s:ax}{z TI TO i1 i2:ay}{fp1 fp2:List ay}{n1 n2:Nat}{P1 P2:Nat→av→Prop}{St1 St2:Nat→Heap→Prop}
theorem mP (ap:Ap z TI TO i1 i2 fp1 fp2){b:ay}(h:b∉fp1):b≠i1:=λe=>h (e▸ap.m1)
theorem rB (ap:Ap z TI TO i1 i2 fp1 fp2){b:ay}(h:b∉fp2):b≠i2:=λe=>h (e▸ap.m2)
theorem item (D1:Draws prog w A.in1 i1 fp1 n1 P1 St1)(D2:Draws prog w A.in1 i2 fp2 n2 P2 St2)(ap:Ap z TI TO i1 i2 fp1 fp2){i:Nat}(l1:i<n1)(l2:i<n2)(st:vS z TI TO i1 i2 St1 St2 .none i i s.heap){Q:Option av->ax->Prop}(q:∀x y h' tk,P1 i x->P2 i y->vS z TI TO i1 i2 St1 St2 (rawInt s.heap.objs.size) (i+1) (i+1) h'->IsPair h' s.heap.objs.size x y->(∀c o,c≠z->c≠TO->c≠i1->c≠i2->s.heap.get? c=some o->h'.get? c=some o)->
   h'.objs.size=s.heap.objs.size+1->Q (some (.ref s.heap.objs.size)) { s with heap:=h',toks:=tk }):wpAny (model prog w) A (pyNext (.ref z)) Q E s:=by
 obtain⟨hz,hti,⟨a,b,hto⟩,h1,h2⟩:=st
 have T:s.TypeIs (.ref z) "zip":=⟨_,hz,rfl⟩;have slot:=PySem.F.slot_zip_next;unfold pyNext;apply bo2;apply bC6;apply bt2 (name:=Str.ofString "__next__") T slot;apply bt1 slot T PySem.F.entry_zip_next _ (PySem.F.args_zip_next_1 _)
 change wpAny _ _ (field (.ref z) 2 >>= _) _ _ _
 apply bo2;refine bx3 hz rfl (x:=.bool false) rfl ?_
 change wpAny _ _ (field (.ref z) 3 >>= _) _ _ _
 apply bo2;refine bx3 hz rfl (x:=.ref TI) rfl ?_;apply bo2;apply bx2 hti rfl
 change wpAny _ _ (Builtin.SmallTypes.ownedTupleIsFree (.ref z) >>= _) _ _ _
 apply bo2;unfold Builtin.SmallTypes.ownedTupleIsFree;apply bo2;refine bx3 hz rfl (x:=.none) rfl (bo5 ?_);simp only[if_true];apply bo2;apply bF3;apply bo2;refine bx3 hz rfl (x:=.ref TO) rfl ?_;apply bo2;refine by5 hz (by simp) λg1 hz1 sb1=>?_
 have k1:∀c o,c≠z->s.heap.get? c=some o->g1.get? c=some o:=λc o c1 e=>sb1.extBut c o c1 e
 apply bo2;simp only[List.zipIdx_cons,List.zipIdx_nil,List.forIn_cons,List.forIn_nil];apply bo2;apply bo2;apply wpAny_onRaise
 change wpAny _ _ (Builtin.SmallTypes.nextOf (.ref i1) >>= _) _ _ _
 apply bo2;refine D1.item i { s with heap:=g1 } _ _ l1 (D1.frame _ _ _ h1 λc hc o e=>k1 c o (λy=>ap.z1 (y▸hc)) e) λx g2 tk2 px st1 sb2=>bo5 ?_
 have k2:∀c o,c≠z->c≠i1->s.heap.get? c=some o->g2.get? c=some o:=λc o c1 c2 e=>sb2.extBut c o c2 (k1 c o c1 e)
 have to2:IsPair g2 TO a b:=k2 _ _ ap.TOz (mP ap ap.o1) hto;apply bo2;apply bx2 to2 rfl;apply bo2;refine wpAny_updateSeq_pair to2 λg3 to3 sb3=>?_
 have to3:IsPair g3 TO x b:=to3;apply bo2;apply bD2;apply bo5;apply bo2;apply bo2;apply wpAny_onRaise
 change wpAny _ _ (Builtin.SmallTypes.nextOf (.ref i2) >>= _) _ _ _
 apply bo2;have k3:∀c o,c≠z->c≠i1->c≠TO->s.heap.get? c=some o->g3.get? c=some o:=λc o c1 c2 c3 e=>sb3.extBut c o c3 (k2 c o c1 c2 e)
 refine D2.item i { s with heap:=g3,toks:=tk2 } _ _ l2 (D2.frame _ _ _ h2 λc hc o e=>k3 c o (λy=>ap.z2 (y▸hc)) (λy=>ap.n1 (y▸hc)) (λy=>ap.o2 (y▸hc)) e) λy g4 tk4 py st2 sb4=>bo5 ?_
 have to4:IsPair g4 TO x b:=sb4.extBut _ _ (rB ap ap.o2) to3;apply bo2;apply bx2 to4 rfl;apply bo2;refine wpAny_updateSeq_pair to4 λg5 to5 sb5=>?_
 have to5:IsPair g5 TO x y:=to5;apply bo2;apply bD2;apply bo5;apply bo5;apply bo2;apply bx2 to5 rfl;apply bo2;refine wpAny_newTuple ?_ (by show 2<=sizeLine;decide);have size:g5.objs.size=s.heap.objs.size:=by rw[sb5.1,sb4.1,sb3.1,sb2.1,sb1.1]
 have k5:∀c o,c≠z->c≠TO->c≠i1->c≠i2->s.heap.get? c=some o->g5.get? c=some o:=λc o c1 c2 c3 c4 e=>sb5.extBut c o c2 (sb4.extBut c o c4 (k3 c o c1 c3 c2 e))
 have z5:IsZip g5 z TI TO .ellipsis:=sb5.extBut _ _ (Ne.symm ap.TOz) (sb4.extBut _ _ (rB ap ap.z2) (sb3.extBut _ _ (Ne.symm ap.TOz) (sb2.extBut _ _ (mP ap ap.z1) hz1)))
 change wpAny _ _ (Builtin.SmallTypes.ownedTupleHandOut (.ref z) (.ref g5.objs.size) >>= _) _ _ _
 apply bo2;unfold Builtin.SmallTypes.ownedTupleHandOut;apply bo2;have z6:IsZip (g5.push { cls:=.type "tuple",data:=.seq #[x,y] }) z TI TO .ellipsis:=bo4 _ z5;refine by5 z6 (by simp) λg7 z7 sb7=>?_
 have z7:IsZip g7 z TI TO (rawInt g5.objs.size):=z7;refine by5 z7 (by simp) λg8 z8 sb8=>?_
 have z8:IsZip g8 z TI TO (rawInt g5.objs.size):=z8;have zlt:z<g5.objs.size:=bp9 z5;have up:∀c o,c≠z->g5.get? c=some o->g8.get? c=some o:=λc o c1 e=>sb8.extBut c o c1 (sb7.extBut c o c1 (bo4 _ e))
 have p8:IsPair g8 g5.objs.size x y:=sb8.extBut _ _ (bw3 zlt) (sb7.extBut _ _ (bw3 zlt) (bp4 _ rfl));have s8:g8.objs.size=g5.objs.size+1:=by rw[sb8.1,sb7.1,bw8]
 have f1:St1 (i+1) g8:=D1.frame _ _ _ st1 λc hc o e=>up c o (λy=>ap.z1 (y▸hc)) (sb5.extBut c o (λy=>ap.o1 (y▸hc)) (sb4.extBut c o (λy=>ap.n2 (y▸hc)) (sb3.extBut c o (λy=>ap.o1 (y▸hc)) e)))
 have f2:St2 (i+1) g8:=D2.frame _ _ _ st2 λc hc o e=>up c o (λy=>ap.z2 (y▸hc)) (sb5.extBut c o (λy=>ap.o2 (y▸hc)) e)
 have ti8:IsPair g8 TI (.ref i1) (.ref i2):=up _ _ ap.TIz (k5 _ _ ap.TIz ap.TITO (mP ap ap.t1) (rB ap ap.t2) hti);rw[size]at z8 p8 s8;apply bo5;refine⟨_,rfl,bo5 ?_⟩
 change Q (some (.ref g5.objs.size)) _
 rw[size];exact q x y g8 tk4 px py ⟨z8,ti8,⟨x,y,up _ _ ap.TOz to5⟩,f1,f2⟩ p8 (λc o c1 c2 c3 c4 e=>up c o c1 (k5 c o c1 c2 c3 c4 e)) s8
theorem fin (D1:Draws prog w A.in1 i1 fp1 n1 P1 St1)(D2:Draws prog w A.in1 i2 fp2 n2 P2 St2)(ap:Ap z TI TO i1 i2 fp1 fp2){i:Nat}(le:i=n1∨(i<n1/\i=n2))(st:vS z TI TO i1 i2 St1 St2 .none i i s.heap){Q:Option av->ax->Prop}(q:∀h' tk,(∀c o,c≠z->c≠TO->c≠i1->c≠i2->s.heap.get? c=some o->h'.get? c=some o)->Q none { s with heap:=h',toks:=tk }):wpAny (model prog w) A (pyNext (.ref z)) Q E s:=by
 obtain⟨hz,hti,⟨a,b,hto⟩,h1,h2⟩:=st
 have T:s.TypeIs (.ref z) "zip":=⟨_,hz,rfl⟩;have slot:=PySem.F.slot_zip_next;unfold pyNext;apply bo2;apply bC6;apply bt2 (name:=Str.ofString "__next__") T slot;apply bt1 slot T PySem.F.entry_zip_next _ (PySem.F.args_zip_next_1 _)
 change wpAny _ _ (field (.ref z) 2 >>= _) _ _ _
 apply bo2;refine bx3 hz rfl (x:=.bool false) rfl ?_
 change wpAny _ _ (field (.ref z) 3 >>= _) _ _ _
 apply bo2;refine bx3 hz rfl (x:=.ref TI) rfl ?_;apply bo2;apply bx2 hti rfl
 change wpAny _ _ (Builtin.SmallTypes.ownedTupleIsFree (.ref z) >>= _) _ _ _
 apply bo2;unfold Builtin.SmallTypes.ownedTupleIsFree;apply bo2;refine bx3 hz rfl (x:=.none) rfl (bo5 ?_);simp only[if_true];apply bo2;apply bF3;apply bo2;refine bx3 hz rfl (x:=.ref TO) rfl ?_;apply bo2;refine by5 hz (by simp) λg1 hz1 sb1=>?_
 have k1:∀c o,c≠z->s.heap.get? c=some o->g1.get? c=some o:=λc o c1 e=>sb1.extBut c o c1 e
 apply bo2;simp only[List.zipIdx_cons,List.zipIdx_nil,List.forIn_cons,List.forIn_nil];apply bo2;apply bo2;apply wpAny_onRaise
 change wpAny _ _ (Builtin.SmallTypes.nextOf (.ref i1) >>= _) _ _ _
 apply bo2;have z1:IsZip g1 z TI TO .ellipsis:=hz1;rcases le with rfl|⟨lt,rfl⟩
 ·refine D1.done { s with heap:=g1 } _ _ (D1.frame _ _ _ h1 λc hc o e=>k1 c o (λy=>ap.z1 (y▸hc)) e) λg2 e eb ex=>?_
  have z2:IsZip g2 z TI TO .ellipsis:=eb _ _ (mP ap ap.z1) z1;refine by5 z2 (by simp) λg3 z3 sb3=>?_
  obtain⟨oe,eo,co⟩:=ex
  have ne:e≠z:=λy=>by
   rw[y,z2]at eo
   have:=br7 eo
   rw[<- this]at co;exact absurd (show Value.type "zip" = Value.type "StopIteration" from co) (by decide)
  apply bo2;refine bF0 (T:="StopIteration") (b:=true) ⟨oe,sb3.extBut _ _ ne eo,co⟩ isSubtype_stop ?_;exact bo5 (q g3 s.toks λc o c1 _ c3 _ e=>sb3.extBut c o c1 (eb c o c3 (k1 c o c1 e)))
 ·refine D1.item i { s with heap:=g1 } _ _ lt (D1.frame _ _ _ h1 λc hc o e=>k1 c o (λy=>ap.z1 (y▸hc)) e) λx g2 tk2 px st1 sb2=>bo5 ?_
  have k2:∀c o,c≠z->c≠i1->s.heap.get? c=some o->g2.get? c=some o:=λc o c1 c2 e=>sb2.extBut c o c2 (k1 c o c1 e)
  have to2:IsPair g2 TO a b:=k2 _ _ ap.TOz (mP ap ap.o1) hto;apply bo2;apply bx2 to2 rfl;apply bo2;refine wpAny_updateSeq_pair to2 λg3 to3 sb3=>?_
  apply bo2;apply bD2;apply bo5;apply bo2;apply bo2;apply wpAny_onRaise
  change wpAny _ _ (Builtin.SmallTypes.nextOf (.ref i2) >>= _) _ _ _
  apply bo2;have k3:∀c o,c≠z->c≠i1->c≠TO->s.heap.get? c=some o->g3.get? c=some o:=λc o c1 c2 c3 e=>sb3.extBut c o c3 (k2 c o c1 c2 e)
  refine D2.done { s with heap:=g3,toks:=tk2 } _ _ (D2.frame _ _ _ h2 λc hc o e=>k3 c o (λy=>ap.z2 (y▸hc)) (λy=>ap.n1 (y▸hc)) (λy=>ap.o2 (y▸hc)) e) λg4 e eb ex=>?_
  have z4:IsZip g4 z TI TO .ellipsis:=eb _ _ (rB ap ap.z2) (sb3.extBut _ _ (Ne.symm ap.TOz) (sb2.extBut _ _ (mP ap ap.z1) z1));refine by5 z4 (by simp) λg5 z5 sb5=>?_
  obtain⟨oe,eo,co⟩:=ex
  have ne:e≠z:=λy=>by
   rw[y,z4]at eo
   have:=br7 eo
   rw[<- this]at co;exact absurd (show Value.type "zip" = Value.type "StopIteration" from co) (by decide)
  apply bo2;refine bF0 (T:="StopIteration") (b:=true) ⟨oe,sb5.extBut _ _ ne eo,co⟩ isSubtype_stop ?_;exact bo5 (q g5 tk2 λc o c1 c2 c3 c4 e=>sb5.extBut c o c1 (eb c o c4 (k3 c o c1 c3 c2 e)))
end
noncomputable def gL (h:Heap)(t u:ay):Heap:=
 ((((h.push { cls:=.type "tuple_iterator",data:=.fields #[.ref t,.int 0 0] }).push { cls:=.type "tuple_iterator",data:=.fields #[.ref u,.int 0 0] }).push { cls:=.type "tuple",data:=.seq #[.ref h.objs.size,.ref (h.objs.size+1)] }).push
  { cls:=.type "tuple",data:=.seq #[.none,.none] }).push { cls:=.type "zip",data:=.fields #[.none,.bool false,.bool false,.ref (h.objs.size+2),.ref (h.objs.size+3)] }
theorem aC0 (t u:ay)(xs ys:Array av):Meets (Builtin.«zip.__new__» ⟨[.type "zip",.ref t,.ref u],[]⟩) (λ_ R s=>s.heap.IsTuple t xs/\s.heap.IsTuple u ys/\R (.ok (.ret (.ref (s.heap.objs.size+4)))) { s with heap:=gL s.heap t u }):=
 .of_wp λprog w A R s h=>by
  obtain⟨hp,g,d,tk,os⟩:=s
  obtain⟨ht,hu,h⟩:=h
  have sub:=sub_zip;have a1:Heap.IsTuple (Shared.heap ⟨hp,g,d,tk,os⟩) t xs:=ht;have a2:Heap.IsTuple (Shared.heap ⟨hp.push { cls:=.type "tuple_iterator",data:=.fields #[.ref t,.int 0 0] },g,d,tk,os⟩) u ys:=hu.elim λo y=>⟨o,bo4 _ y.1,y.2⟩
  wp_walk using bC3 a1,bC3 a2
  have e:∀(o:Obj) (k:Heap),(k.push o).objs.size=k.objs.size+1:=λo k=>bw8 ..
  refine⟨_,rfl,?_⟩;simp only[gL,e]at h ⊢;exact h
section
variable {prog:az}{w:bc}{A:ba}{E:av→ax→Prop}{s:ax}
theorem aC1 {t u:ay}{xs ys:Array av}{Q:av->ax->Prop}(ht:s.heap.IsTuple t xs)(hu:s.heap.IsTuple u ys)(q:∀h',IsZip h' (s.heap.objs.size+4) (s.heap.objs.size+2) (s.heap.objs.size+3) .none->IsPair h' (s.heap.objs.size+2) (.ref s.heap.objs.size) (.ref (s.heap.objs.size+1))->
   IsPair h' (s.heap.objs.size+3) .none .none->h'.IsTupleIter s.heap.objs.size t 0->h'.IsTupleIter (s.heap.objs.size+1) u 0->(∀c o,s.heap.get? c=some o->h'.get? c=some o)->Q (.ref (s.heap.objs.size+4)) { s with heap:=h' }) :
  wpAny (model prog w) A (call (.type "zip") [.ref t,.ref u]) Q E s:=by
 refine callType_new PySem.F.called_zip (by decide) (PySem.F.typeCall_zip_2 _ _) (PySem.F.newCall_zip_2 _ _) (λobj=>PySem.F.args_object_init_3 obj _ _) PySem.F.entry_zip_new (aC0 t u xs ys) ⟨ht,hu,?_⟩;have e:∀(o:Obj) (k:Heap),(k.push o).objs.size=k.objs.size+1:=λo k=>bw8 ..
 have p0:∀(k:Heap) (o:Obj) (m:Nat),o.isFreed=false->m=k.objs.size->(k.push o).get? m=some o:=λk o m f z=>by rw[z];exact bp4 _ f
 have g0:(gL s.heap t u).get? s.heap.objs.size=some { cls:=.type "tuple_iterator",data:=.fields #[.ref t,.int 0 0] }:=by
  unfold gL;exact bo4 _ (bo4 _ (bo4 _ (bo4 _ (p0 _ _ _ rfl rfl))))
 have g1:(gL s.heap t u).get? (s.heap.objs.size+1)=some { cls:=.type "tuple_iterator",data:=.fields #[.ref u,.int 0 0] }:=by
  unfold gL;exact bo4 _ (bo4 _ (bo4 _ (p0 _ _ _ rfl (by simp only[e]))))
 have g2:(gL s.heap t u).get? (s.heap.objs.size+2)=some { cls:=.type "tuple",data:=.seq #[.ref s.heap.objs.size,.ref (s.heap.objs.size+1)] }:=by
  unfold gL;exact bo4 _ (bo4 _ (p0 _ _ _ rfl (by simp only[e])))
 have g3:(gL s.heap t u).get? (s.heap.objs.size+3)=some { cls:=.type "tuple",data:=.seq #[.none,.none] }:=by
  unfold gL;exact bo4 _ (p0 _ _ _ rfl (by simp only[e]))
 have g4:(gL s.heap t u).get? (s.heap.objs.size+4)=some { cls:=.type "zip",data:=.fields #[.none,.bool false,.bool false,.ref (s.heap.objs.size+2),.ref (s.heap.objs.size+3)] }:=by
  unfold gL;exact p0 _ _ _ rfl (by simp only[e])
 refine⟨⟨_,g4,rfl⟩,q _ g4 g2 g3 ⟨_,g0,rfl,rfl⟩ ⟨_,g1,rfl,rfl⟩ λc o z=>?_⟩;unfold gL;exact bo4 _ (bo4 _ (bo4 _ (bo4 _ (bo4 _ z))))
end
end Zp
namespace L2
open PySem PySem.Spec PyProof.Rows
noncomputable def vT (K:ac)(a b:ay):It:=
  ⟨λi H=>∃xs ys x y,aJ K H a xs/\aJ K H b ys/\xs[i]? = some x/\ys[i]? = some y,
   λi H v H'=>∃T x y,H T=none/\v = .ref T/\H'=upd H T (.tup [x,y])/\∀xs ys,aJ K H a xs->aJ K H b ys->xs[i]? = some x/\ys[i]? = some y,
   λi H=>∃xs ys,aJ K H a xs/\aJ K H b ys/\(i=xs.length∨(i<xs.length/\i=ys.length))⟩
noncomputable def Sq (t:Bool)(K:ac)(H:Hp)(a:ay)(xs:List V):Prop:=match t with
 |true=>aJ K H a xs
 |false=>aM K H a xs
noncomputable def gM (t:Bool)(h:Heap)(i a:ay)(n:Nat):Prop:=match t with
 |true=>h.IsTupleIter i a n
 |false=>h.IsListIter i a n
noncomputable def L5 (t:Bool)(h:Heap)(a:ay)(xs:Array av):Prop:=match t with
 |true=>h.IsTuple a xs
 |false=>h.IsList a xs
theorem gM.at {h h':Heap}{i a:ay}{n:Nat}:∀{t:Bool},gM t h i a n->(∀o,h.get? i=some o->h'.get? i=some o)->gM t h' i a n
 |true,x,k=>Heap.IsTupleIter.at x k
 |false,x,k=>Heap.IsListIter.at x k
theorem gM.ob {h:Heap}{i a:ay}{n:Nat}:∀{t:Bool},gM t h i a n->∃o,h.get? i=some o/\∀v,o.data≠.cell v
 |true,⟨o,f,_,d⟩=>⟨o,f,λv q=>by rw[d]at q;cases q⟩
 |false,⟨o,f,_,d⟩=>⟨o,f,λv q=>by rw[d]at q;cases q⟩
theorem gM.draws {prog:az}{w:bc}{A:ba}:∀(t:Bool) (hh:A.handled=none) (it a:ay) (ne:a≠it) (items:Array av),Draws prog w A it [it,a] items.size (λi v=>items[i]? = some v) (λi h=>gM t h it a i/\L5 t h a items)
 |true,hh,it,a,ne,items=>Zp.aB9 hh it a ne items
 |false,hh,it,a,ne,items=>Draws.list hh it a ne items
section
variable {X:Cx}{ag:List (ay×Obj)}{σ:St}{H:Hp}{s:ax}{a:ay}{xs ys:List V}
theorem Sq.get (I:a8 X ag σ H s):∀{t:Bool},Sq t X.K H a xs->∃us,aL xs us/\L5 t s.heap a us.toArray
 |true,h=>by obtain⟨us,r,p,_⟩:=I.tuple h;exact⟨us,r,p⟩
 |false,h=>by obtain⟨us,r,p,_⟩:=I.list h;exact⟨us,r,p.isList⟩
theorem Sq.inj (I:a8 X ag σ H s):∀{t:Bool},Sq t X.K H a xs->Sq t X.K H a ys->xs=ys
 |true,h,g=>I.tuple_inj h g
 |false,h,g=>I.list_inj h g
theorem Sq.off (I:a8 X ag σ H s)(he:H a=none)(hb:X.base.get? a=none):∀{t:Bool},Sq t X.K H a xs->False
 |true,h=>by
  rcases h with (h|⟨_,h⟩)|⟨o,_,_,h,_⟩
  ·rw[he]at h;cases h
  ·rw[he]at h;cases h
  ·have:=I.ok.mod.kin a o h
   rw[hb]at this;cases this
 |false,h=>by
  rcases h with (h|⟨_,h⟩)|⟨o,_,_,h,_⟩
  ·rw[he]at h;cases h
  ·rw[he]at h;cases h
  ·have:=I.ok.mod.kin a o h
   rw[hb]at this;cases this
end
noncomputable def aC2 (t1 t2:Bool)(K:ac)(a b:ay):It:=
  ⟨λi H=>∃xs ys x y,Sq t1 K H a xs/\Sq t2 K H b ys/\xs[i]? = some x/\ys[i]? = some y,
   λi H v H'=>∃T x y,H T=none/\v = .ref T/\H'=upd H T (.tup [x,y])/\∀xs ys,Sq t1 K H a xs->Sq t2 K H b ys->xs[i]? = some x/\ys[i]? = some y,
   λi H=>∃xs ys,Sq t1 K H a xs/\Sq t2 K H b ys/\(i=xs.length∨(i<xs.length/\i=ys.length))⟩
structure vU (t1 t2:Bool)(z TI TO i1 i2 a b:ay)(i:Nat)(h:Heap):Prop where
 zz:IsZip h z TI TO .none
 ti:IsPair h TI (.ref i1) (.ref i2)
 to_:∃x y,IsPair h TO x y
 s1:gM t1 h i1 a i
 s2:gM t2 h i2 b i
theorem L6 (t1 t2:Bool){P:az}{w:bc}{K:ac}{elts:List Expr}{k:Nat}{pos:Pos}(a b z TI TO i1 i2:ay)(d:[z,TI,TO,i1,i2].Nodup) :
  iS P w K (.Tuple elts k pos) (aC2 t1 t2 K a b) [z,TI,TO,i1,i2] z (vU t1 t2 z TI TO i1 i2 a b):=by
 have nd:z≠TI/\z≠TO/\z≠i1/\z≠i2/\TI≠TO/\TI≠i1/\TI≠i2/\TO≠i1/\TO≠i2/\i1≠i2:=by
  simp only[bC1,bp1,bq0,bv1,not_or]at d
  obtain⟨⟨a1,a2,a3,a4⟩,⟨b1,b2,b3⟩,⟨c1,c2⟩,e1,_⟩:=d
  exact⟨a1,a2,a3,a4,b1,b2,b3,c1,c2,e1⟩
 obtain⟨n1,n2,n3,n4,n5,n6,n7,n8,n9,n10⟩:=nd
 have offBase:∀{X:Cx}{ag:List (ay×Obj)}{σ:St}{H:Hp}{s:ax},a8 X ag σ H s->(∀c∈[z,TI,TO,i1,i2],gI X ag H c)->∀c∈[z,TI,TO,i1,i2],X.base.get? c=none:=by
  intro X ag σ H s I hf c hc;cases q:X.base.get? c with
  |none=>rfl
  |some o=>
   rcases (hf c hc).2.2.2.1 with h|h
   ·exact absurd h (I.ok.noex c o q)
   ·exact absurd (bq4 (bp9 q) (bs7 I.ok.bsz h)) (bu6 _)
 have off:∀{t:Bool}{X:Cx}{ag:List (ay×Obj)}{σ:St}{H:Hp}{s:ax}{c:ay}{zs:List V},a8 X ag σ H s->(∀c∈[z,TI,TO,i1,i2],gI X ag H c)->Sq t X.K H c zs->c∉[z,TI,TO,i1,i2]:=by
  intro t X ag σ H s c zs I hf hc hm;exact Sq.off I (hf c hm).1 (offBase I hf c hm) hc
 have ap:∀{c e:ay},c∉[z,TI,TO,i1,i2]->e∉[z,TI,TO,i1,i2]->Zp.Ap z TI TO i1 i2 [i1,c] [i2,e]:=λ{c e} hc he=>by
  simp only[bp1,bq0,bv1,not_or]at hc he
  obtain⟨c1,c2,c3,c4,c5⟩:=hc
  obtain⟨e1,e2,e3,e4,e5⟩:=he
  have two:∀{q u v:ay},q≠u->q≠v->q∉[u,v]:=λ{q u v} h1 h2 hm=>by
   simp only[bp1,bq0,bv1]at hm;exact hm.elim h1 h2
  exact⟨n1.symm,n2.symm,n5,two n3 (Ne.symm c1),two n4 (Ne.symm e1),two n8 (Ne.symm c3),two n9 (Ne.symm e3),two n6 (Ne.symm c2),two n7 (Ne.symm e2),bp5,bp5,two n10 (Ne.symm e4),two n10.symm (Ne.symm c5)⟩
 refine⟨by simp,λi h st c hc=>?_,λi h h' st kp=>?_,?_,?_,λA i s Q E st q=>wpAny_pyIter_zip st.zz q⟩
 ·simp only[bp1,bq0,bv1]at hc
  obtain⟨x,y,to⟩:=st.to_
  rcases hc with rfl|rfl|rfl|rfl|rfl
  ·exact⟨_,st.zz,λv q=>by cases q⟩
  ·exact⟨_,st.ti,λv q=>by cases q⟩
  ·exact⟨_,to,λv q=>by cases q⟩
  ·exact st.s1.ob
  ·exact st.s2.ob
 ·obtain⟨x,y,to⟩:=st.to_
  exact⟨kp z (by simp) _ st.zz,kp TI (by simp) _ st.ti,⟨x,y,kp TO (by simp) _ to⟩,st.s1.at λo e=>kp i1 (by simp) o e,st.s2.at λo e=>kp i2 (by simp) o e⟩
 ·
  intro X hP hw hK hc i ag s σ H E I hf st hg;subst hP hw hK
  obtain⟨xs,ys,x,y,ha,hb,hx,hy⟩:=hg
  obtain⟨us,ru,pu⟩:=Sq.get I ha
  obtain⟨vs,rv,pv'⟩:=Sq.get I hb
  obtain⟨ux,eux,rux⟩:=ru.get hx
  obtain⟨vy,evy,rvy⟩:=rv.get hy
  have fa:=off I hf ha;have fb:=off I hf hb;have hh:X.A.in1.handled=none:=I.ok.hd hc;have l1:i<us.toArray.size:=by simpa using (bq1.mp eux).1
  have l2:i<vs.toArray.size:=by simpa using (bq1.mp evy).1
  have fa':a≠i1:=λq=>fa (by rw[q];simp)
  have fb':b≠i2:=λq=>fb (by rw[q];simp)
  have D1:=gM.draws t1 (prog:=X.prog) (w:=X.w) hh i1 a fa' us.toArray;have D2:=gM.draws t2 (prog:=X.prog) (w:=X.w) hh i2 b fb' vs.toArray;refine Zp.item D1 D2 (ap fa fb) l1 l2 ⟨st.zz,st.ti,st.to_,⟨st.s1,pu⟩,⟨st.s2,pv'⟩⟩ λp q h' tk hp hq st' pr kp sz=>⟨_,rfl,?_⟩
  obtain rfl:p=ux:=by
   have:us.toArray[i]? = some ux:=by simpa using eux
   rw[this]at hp;exact (br7 hp).symm
  obtain rfl:q=vy:=by
   have:vs.toArray[i]? = some vy:=by simpa using evy
   rw[this]at hq;exact (br7 hq).symm
  refine wpAny_letOwnedTupleGo_zip (s:={ s with heap:=h',toks:=tk }) st'.zz λg zz sb=>?_
  have hzl:z<s.heap.objs.size:=bp9 st.zz;have up:∀c o,c≠z->c≠TO->c≠i1->c≠i2->s.heap.get? c=some o->g.get? c=some o:=λc o c1 c2 c3 c4 e=>sb.extBut c o c1 (kp c o c1 c2 c3 c4 e)
  have hT:H s.heap.objs.size=none:=I.hok.fresh (bp7 _);have prG:IsPair g s.heap.objs.size p q:=sb.extBut _ _ (bw3 hzl) pr;have fpn:∀c u,H c=some u->c∉[z,TI,TO,i1,i2]:=λc u e hm=>by rw[(hf c hm).1]at e;cases e
  have upH:∀c o u,H c=some u->s.heap.get? c=some o->g.get? c=some o:=λc o u e z=>by
   have:=fpn c u e
   simp only[bp1,bq0,bv1,not_or]at this;exact up c o this.1 this.2.2.1 this.2.2.2.1 this.2.2.2.2 z
  have ns:∀m,s.heap.Ns X.env.locals m->g.Ns X.env.locals m:=λm hm=>by
   obtain⟨o,es,ep,e1,e2⟩:=hm
   exact⟨o,es,ep,up _ o (Ne.symm (hf z (by simp)).2.1) (Ne.symm (hf TO (by simp)).2.1) (Ne.symm (hf i1 (by simp)).2.1) (Ne.symm (hf i2 (by simp)).2.1) e1,e2⟩
  have I2:a8 X ag σ (upd H s.heap.objs.size (.tup [x,y])) { s with heap:=g,toks:=tk }:=by
   refine I.step (g':=s.gens) (d':=s.drawn) (ch:=[z,TO,i1,i2]) (λc hc'=>?_) (λc o _ _ hc' e _=>?_) (λc o _ _ hc' e _=>⟨o.slots,?_⟩) (λc o _ e n=>?_) (λc o hc' e=>⟨o,?_⟩)
    (λc zs e=>by rw[aW (cS e hT)];exact e) (λc u zs e=>by rw[aW (cS e hT)];exact e) (λc ps e=>⟨#[],by rw[aW (cS e hT),e];simp⟩) ns (λc u e=>?_) I.bare
   ·have hm:c∈[z,TI,TO,i1,i2]:=by
     simp only[bp1,bq0,bv1]at hc' ⊢;rcases hc' with h|h|h|h<;>simp[h]
    exact⟨(hf c hm).2.2.2.1,(hf c hm).2.1,(hf c hm).2.2.2.2.1,(hf c hm).2.2.2.2.2⟩
   ·simp only[bp1,bq0,bv1,not_or]at hc'
    exact up c o hc'.1 hc'.2.1 hc'.2.2.1 hc'.2.2.2 e
   ·simp only[bp1,bq0,bv1,not_or]at hc'
    exact up c o hc'.1 hc'.2.1 hc'.2.2.1 hc'.2.2.2 e
   ·rw[aW (br1 (bp9 e))];exact n
   ·simp only[bp1,bq0,bv1,not_or]at hc'
    exact up c o hc'.1 hc'.2.1 hc'.2.2.1 hc'.2.2.2 e
   ·by_cases hcT:c=s.heap.objs.size
    ·subst hcT
     rw[bZ]at e;cases e
     exact⟨by show 2<=sizeLine;decide,[p,q],.cons rux (.cons rvy .nil),⟨_,prG,rfl,_,rfl⟩,λu e=>by rw[prG]at e;cases e;rfl⟩
    ·rw[aW hcT]at e
     refine (I.hok c u e).stay (λc' o' hc2 q'=>?_) (λc' q'=>by rw[aW (cS q' hT)];exact q') λc' zs q'=>by rw[aW (cS q' hT)];exact q'
     rcases hc2 with rfl|hc2
     ·exact upH _ _ _ e q'
     ·exact upH _ _ _ hc2 q'
  obtain⟨x',y',to'⟩:=st'.to_
  refine⟨.ref s.heap.objs.size,_,I2,rfl,⟨_,x,y,hT,rfl,rfl,λxs' ys' ha' hb'=>?_⟩,⟨zz,sb.extBut _ _ n1.symm st'.ti,⟨x',y',sb.extBut _ _ n2.symm to'⟩,st'.s1.1.at λo e=>sb.extBut _ o n3.symm e,st'.s2.1.at λo e=>sb.extBut _ o n4.symm e⟩,λc hc'=>?_⟩
  ·rw[Sq.inj I ha' ha,Sq.inj I hb' hb];exact⟨hx,hy⟩
  ·obtain⟨o,e,_⟩:∃o,s.heap.get? c=some o/\True:=by
    simp only[bp1,bq0,bv1]at hc'
    obtain⟨x2,y2,to2⟩:=st.to_
    obtain⟨o1,f1,_⟩:=st.s1.ob
    obtain⟨o2,f2,_⟩:=st.s2.ob
    rcases hc' with rfl|rfl|rfl|rfl|rfl
    ·exact⟨_,st.zz,trivial⟩
    ·exact⟨_,st.ti,trivial⟩
    ·exact⟨_,to2,trivial⟩
    ·exact⟨_,f1,trivial⟩
    ·exact⟨_,f2,trivial⟩
   rw[aW (br1 (bp9 e))];exact (hf c hc').1
 ·
  intro X hP hw hK hc i ag s σ H E I hf st hg;subst hP hw hK
  obtain⟨xs,ys,ha,hb,hi⟩:=hg
  obtain⟨us,ru,pu⟩:=Sq.get I ha
  obtain⟨vs,rv,pv'⟩:=Sq.get I hb
  have fa:=off I hf ha;have fb:=off I hf hb;have hh:X.A.in1.handled=none:=I.ok.hd hc;have fa':a≠i1:=λq=>fa (by rw[q];simp)
  have fb':b≠i2:=λq=>fb (by rw[q];simp)
  have D1:=gM.draws t1 (prog:=X.prog) (w:=X.w) hh i1 a fa' us.toArray;have D2:=gM.draws t2 (prog:=X.prog) (w:=X.w) hh i2 b fb' vs.toArray;have e1:=ru.length;have e2:=rv.length;refine Zp.fin D1 D2 (ap fa fb) (by simp only[bo8];omega) ⟨st.zz,st.ti,st.to_,⟨st.s1,pu⟩,⟨st.s2,pv'⟩⟩ λg tk kp=>⟨rfl,?_⟩
  have fpn:∀c u,H c=some u->c∉[z,TI,TO,i1,i2]:=λc u e hm=>by rw[(hf c hm).1]at e;cases e
  have upH:∀c o u,H c=some u->s.heap.get? c=some o->g.get? c=some o:=λc o u e z=>by
   have:=fpn c u e
   simp only[bp1,bq0,bv1,not_or]at this;exact kp c o this.1 this.2.2.1 this.2.2.2.1 this.2.2.2.2 z
  have ns:∀m,s.heap.Ns X.env.locals m->g.Ns X.env.locals m:=λm hm=>by
   obtain⟨o,es,ep,e1,e2⟩:=hm
   exact⟨o,es,ep,kp _ o (Ne.symm (hf z (by simp)).2.1) (Ne.symm (hf TO (by simp)).2.1) (Ne.symm (hf i1 (by simp)).2.1) (Ne.symm (hf i2 (by simp)).2.1) e1,e2⟩
  refine I.step (g':=s.gens) (d':=s.drawn) (ch:=[z,TO,i1,i2]) (λc hc'=>?_) (λc o _ _ hc' e _=>?_) (λc o _ _ hc' e _=>⟨o.slots,?_⟩) (λc o _ e n=>n) (λc o hc' e=>⟨o,?_⟩)
   (λc zs e=>e) (λc u zs e=>e) (λc ps e=>⟨#[],by rw[e];simp⟩) ns (λc u e=>?_) I.bare
  ·have hm:c∈[z,TI,TO,i1,i2]:=by
    simp only[bp1,bq0,bv1]at hc' ⊢;rcases hc' with h|h|h|h<;>simp[h]
   exact⟨(hf c hm).2.2.2.1,(hf c hm).2.1,(hf c hm).2.2.2.2.1,(hf c hm).2.2.2.2.2⟩
  ·simp only[bp1,bq0,bv1,not_or]at hc'
   exact kp c o hc'.1 hc'.2.1 hc'.2.2.1 hc'.2.2.2 e
  ·simp only[bp1,bq0,bv1,not_or]at hc'
   exact kp c o hc'.1 hc'.2.1 hc'.2.2.1 hc'.2.2.2 e
  ·simp only[bp1,bq0,bv1,not_or]at hc'
   exact kp c o hc'.1 hc'.2.1 hc'.2.2.1 hc'.2.2.2 e
  ·refine (I.hok c u e).stay (λc' o' hc2 q'=>?_) (λ_ q'=>q') λ_ _ q'=>q'
   rcases hc2 with rfl|hc2
   ·exact upH _ _ _ e q'
   ·exact upH _ _ _ hc2 q'
noncomputable abbrev aC3:=vU true true
theorem aC4 {P:az}{w:bc}{K:ac}{elts:List Expr}{k:Nat}{pos:Pos}(a b z TI TO i1 i2:ay)(d:[z,TI,TO,i1,i2].Nodup) :
  iS P w K (.Tuple elts k pos) (vT K a b) [z,TI,TO,i1,i2] z (aC3 z TI TO i1 i2 a b):=L6 true true a b z TI TO i1 i2 d
section
variable {X:Cx}
theorem aC5 (hc:X.calm=true):cH X (.builtin "all") (λxs H Q=>∃(a:ay) (bs:List Bool),xs = [.ref a]/\aM X.K H a (bs.map V.bl)/\Q (.bl (bs.all id)) H):=by
 intro ag s σ H xs us Q I r h
 obtain⟨a,bs,rfl,hq,q⟩:=h
 obtain⟨u,rfl,ru⟩:=fV r
 cases ru
 obtain⟨its,rv,p,hz⟩:=I.list hq
 have hl:=rv.length;rw[bo7]at hl;have hlt:a<s.heap.objs.size:=by obtain⟨o,e,_⟩:=p.isList;exact bp9 e
 refine call_all_walk (wpAny_pyIter_list p.isList ?_);have hh:X.A.in1.handled=none:=I.ok.hd hc;refine⟨s.heap.objs.size,_,_,_,_,_,λi=>bs.getD i false,rfl,Walks.list hh s.heap.objs.size a (br1 hlt) its.toArray,⟨⟨_,bp4 _ rfl,rfl,rfl⟩,p.isList.push _⟩,?_,λh' tk kp=>?_⟩
 ·intro i v s' Q' E' hP hQ'
  have hi:its[i]? = some v:=by simpa using hP
  have hil:i<bs.length:=by rw[hl];exact (bq1.mp hi).1
  obtain⟨u,e1,e2⟩:=rv.get (i:=i) (x:=.bl bs[i]) (by simp[hil])
  rw[hi]at e1;cases e1;cases e2
  have:bs.getD i false=bs[i]:=by rw[bp3,bo6 hil];rfl
  have hQ2:Q' (bs.getD i false) s':=hQ';rw[this]at hQ2;exact bB7 hQ2
 ·have all_eq:(List.range its.toArray.size).all (λi=>bs.getD i false)=bs.all id:=by
   rw[bo8,<- hl];clear q rv hz hl hq hlt p hh kp
   induction bs with
   |nil=>rfl
   |cons b r ih=>
    rw[bs9,List.range_succ_eq_map,bG7,List.all_map,bG7,<- ih];rfl
  rw[all_eq];refine⟨.bl (bs.all id),H,I.kept (t':=tk) (h':=h') λb o e=>kp b o (λz=>?_) (bo4 _ e),rfl,q⟩;rw[bp2.mp z]at e;exact absurd (bp9 e) (bu6 _)
end
end L2
namespace HT
open PySem PyProof.Rows
section
variable {prog:az}{w:bc}{A:ba}{E:av→ax→Prop}{s:ax}
theorem aC6 {t sl:ay}{items:Array av}{vl vu:av}{lo hi:Option Int}{Q:av->ax->Prop}(ht:IsTup s.heap t items)(hs:s.heap.IsSliceOf sl vl vu .none)(pl:IsPart vl lo)(pu:IsPart vu hi)(h1:aY items.size 0 lo=0)(h2:aY items.size items.size hi=items.size)(h:Q (.ref t) s):wpAny (model prog w) A (getItem (.ref t) (.ref sl)) Q E s:=by
 obtain⟨o,e1,e2,e3⟩:=id hs
 have T:s.TypeIs (.ref sl) "slice":=⟨o,e1,e2⟩;unfold getItem
 try with_reducible refine bv9 ?_
 first|refine bo2 (bo5 ?_)|skip
 apply bo2;apply wpAny_sequenceKey ht.typeIs (by decide);apply bo2;apply bt2 (name:=Str.ofString "__getitem__") ht.typeIs bD4;apply bt1 bD4 ht.typeIs entry_tuple_getitem _ (args_tuple_getitem _ _)
 change wpAny _ _ (Builtin.Tuple.tupleItemsOf (.ref t) >>= _) _ _ s
 apply bo2;apply tupleItemsOf_ ht;apply bo2;apply wpAny_typeOf T;rw[if_pos (by decide)];apply bo2;apply C5 hs pl pu;rw[h1,h2];have yes:((((0:Nat):Int)==0&&(1:Int)==1&&(items.size-0)==items.size)=true):=by simp
 change wpAny _ _ (if ((((0:Nat):Int)==0&&(1:Int)==1&&(items.size-0)==items.size)=true) then _ else _) _ _ s
 rw[if_pos yes];apply bo2;unfold Builtin.Tuple.tupleIsExact;apply bo2;apply wpAny_typeOf ht.typeIs;apply bo5
 change wpAny _ _ (rule "tuple.getitem.whole" >>= λ_=>ret (Value.ref t)) _ _ s
 apply bo2;apply bF3;exact bo5 ⟨_,rfl,bo5 h⟩
end
end HT
namespace L2
open PySem PySem.Spec PyProof.Rows
section
variable {X:Cx}
noncomputable def aC7 (K:ac):V->Option Int->Option Int->Hp->VK->Prop:=λx lo hi H Q=>∃a xs,x = .ref a/\aJ K H a xs/\(∀p,H p=none->Q (.ref p) (upd H p (.tup (iB xs lo hi))))/\(iB xs lo hi=xs->Q (.ref a) H)
theorem aC8:kK X (aC7 X.K):=by
 intro ag s σ H x v vl vu lo hi sl Q I rx hs pl pu h
 obtain⟨a,xs,ex,hx,q1,q2⟩:=h
 by_cases hw:HT.aY xs.length 0 lo=0/\HT.aY xs.length xs.length hi=xs.length
 ·subst ex
  cases rx
  obtain⟨its,r,ht,hz⟩:=I.tuple hx
  have aj:its.toArray.size=xs.length:=by rw[bo8];exact r.length.symm
  refine⟨"tuple",_,PyProof.Rows.slot_tuple_getitem.lookup,ht.typeIs,?_⟩;refine HT.aC6 ht hs pl pu (by rw[aj];exact hw.1) (by rw[aj];exact hw.2) ⟨.ref a,H,I,rfl,q2 ?_⟩;unfold iB;rw[hw.1,hw.2];simp
 ·exact av8 ag s σ H x v vl vu lo hi sl Q I rx hs pl pu ⟨a,xs,ex,hx,hw,q1⟩
end
noncomputable def vV (K:ac)(a b:ay):It:=
  ⟨λi H=>∃xs ys x y,aM K H a xs/\aM K H b ys/\xs[i]? = some x/\ys[i]? = some y,
   λi H v H'=>∃T x y,H T=none/\v = .ref T/\H'=upd H T (.tup [x,y])/\∀xs ys,aM K H a xs->aM K H b ys->xs[i]? = some x/\ys[i]? = some y,
   λi H=>∃xs ys,aM K H a xs/\aM K H b ys/\(i=xs.length∨(i<xs.length/\i=ys.length))⟩
noncomputable abbrev aC9:=vU false false
theorem aD0 {P:az}{w:bc}{K:ac}{elts:List Expr}{k:Nat}{pos:Pos}(a b z TI TO i1 i2:ay)(d:[z,TI,TO,i1,i2].Nodup) :
  iS P w K (.Tuple elts k pos) (vV K a b) [z,TI,TO,i1,i2] z (aC9 z TI TO i1 i2 a b):=L6 false false a b z TI TO i1 i2 d
end L2
namespace PP
open PySem L2
inductive PV where
 |non|bl (b:Bool)|int (i:Int)|str (x:Str)|tup (xs:List PV)|lst (xs:List PV)
 |dK (kvs:List (aI×PV))|dT (kvs:List (List aI×PV))|scr (ns:ae)|kt (xs:List PV)|exc (c:Str)|fK (kvs:List (aI×PV))|fT (kvs:List (List aI×PV))|fL (xs:List PV)|fn (x:Str)|ob (a:ay)
mutual
noncomputable def flat:PV->Bool
 |.tup xs=>flats xs
 |.lst _=>false
 |.dK _=>false
 |.dT _=>false
 |.non=>true
 |.bl _=>true
 |.int _=>true
 |.str _=>true
 |.scr _=>true
 |.kt xs=>flats xs
 |.exc _=>true
 |.fK _=>false
 |.fT _=>false
 |.fL xs=>flats xs
 |.fn _=>true
 |.ob _=>true
noncomputable def flats:List PV->Bool
 |[]=>true
 |x::r=>flat x&&flats r
end
noncomputable def jI (K:ac)(H:Hp)(a:ay)(ns:ae):Prop:=(∃o,H a=some (.frz o (.lst (ns.map V.int)))) ∨
  ∃(o:Obj) (its:Array av) (n:Nat),K.lookup a=some o/\o.cls = .type "list"/\o.dict=none/\o.data = .seq its n/\its.size<=sizeLine/\aL (ns.map V.int) its.toList
noncomputable def mQ (K:ac)(a:ay)(us:List V):Prop:=∃(o:Obj) (its:Array av) (n:Nat),K.lookup a=some o/\o.cls = .type "tuple"/\o.data = .seq its n/\its.size<=sizeLine/\aL us its.toList
mutual
inductive aE (K:ac)(M:ay->Prop)(H:Hp):V->PV->Prop
 |non:aE K M H .non .non
 |bl (b:Bool):aE K M H (.bl b) (.bl b)
 |int (i:Int):aE K M H (.int i) (.int i)
 |str (x:Str):aE K M H (.str x) (.str x)
 |tup {a:ay}{us:List V}{xs:List PV}:H a=some (.tup us)->Reps K M H us xs->aE K M H (.ref a) (.tup xs)
 |lst {a:ay}{us:List V}{xs:List PV}:M a->H a=some (.lst us)->Reps K M H us xs->aE K M H (.ref a) (.lst xs)
 |dK {a:ay}{kvs:List (aI×V)}{ps:List (aI×PV)}:M a->H a=some (.dK kvs)->kvs.map (·.1)=ps.map (·.1)->Reps K M H (kvs.map (·.2)) (ps.map (·.2))->aE K M H (.ref a) (.dK ps)
 |dT {a:ay}{kvs:List (List aI×V)}{ps:List (List aI×PV)}:M a->H a=some (.dT kvs)->kvs.map (·.1)=ps.map (·.1)->Reps K M H (kvs.map (·.2)) (ps.map (·.2))->aE K M H (.ref a) (.dT ps)
 |scr {a:ay}{ns:ae}:jI K H a ns->aE K M H (.ref a) (.scr ns)
 |kt {a:ay}{us:List V}{xs:List PV}:mQ K a us->Reps K M H us xs->aE K M H (.ref a) (.kt xs)
 |exc {a C:ay}{o:Obj}{c:Str}:H a=some (.frz o (.own a))->PySem.W.nsIn K mainGlobals c=some (some (.ref C))->o.cls = .ref C->aE K M H (.ref a) (.exc c)
 |fK {a:ay}{o:Obj}{kvs:List (aI×V)}{ps:List (aI×PV)}:H a=some (.frz o (.dK kvs))->kvs.map (·.1)=ps.map (·.1)->Reps K M H (kvs.map (·.2)) (ps.map (·.2))->aE K M H (.ref a) (.fK ps)
 |fT {a:ay}{o:Obj}{kvs:List (List aI×V)}{ps:List (List aI×PV)}:H a=some (.frz o (.dT kvs))->kvs.map (·.1)=ps.map (·.1)->Reps K M H (kvs.map (·.2)) (ps.map (·.2))->aE K M H (.ref a) (.fT ps)
 |fL {a:ay}{o:Obj}{us:List V}{xs:List PV}:H a=some (.frz o (.lst us))->Reps K M H us xs->aE K M H (.ref a) (.fL xs)
 |fn {f:ay}{x:Str}:PySem.W.nsIn K mainGlobals x=some (some (.ref f))->aE K M H (.ref f) (.fn x)
 |ob {a:ay}:aE K M H (.ref a) (.ob a)
inductive Reps (K:ac)(M:ay->Prop)(H:Hp):List V->List PV->Prop
 |nil:Reps K M H [] []
 |cons {v:V}{x:PV}{vs:List V}{xs:List PV}:aE K M H v x->Reps K M H vs xs->Reps K M H (v::vs) (x::xs)
end
noncomputable def vW:HO->Bool
 |.frz _ _=>true
 |_=>false
noncomputable def L7:HO->Bool
 |.frz _ u=>vW u
 |.ins _ _ _=>true
 |.ext _=>true
 |_=>false
structure gA (M M':ay->Prop)(H H':Hp):Prop where
 lst:∀a us,M a->H a=some (.lst us)->M' a/\H' a=some (.lst us)
 dK:∀a kvs,M a->H a=some (.dK kvs)->M' a/\H' a=some (.dK kvs)
 dT:∀a kvs,M a->H a=some (.dT kvs)->M' a/\H' a=some (.dT kvs)
 tup:∀a us,H a=some (.tup us)->H' a=some (.tup us)
 frz:∀a o u,H a=some (.frz o u)->vW u=false->H' a=some (.frz o u)
theorem jI.keep {K:ac}{H H':Hp}{a:ay}{ns:ae}(k:∀a o u,H a=some (.frz o u)->vW u=false->H' a=some (.frz o u))(h:jI K H a ns):jI K H' a ns:=
 h.elim (λ⟨o,e⟩=>.inl ⟨o,k _ _ _ e rfl⟩) .inr
mutual
theorem aE.keep {K:ac}{M M':ay->Prop}{H H':Hp}(k:gA M M' H H'):∀{v:V}{x:PV},aE K M H v x->aE K M' H' v x
 |_,_,.non=>.non
 |_,_,.bl b=>.bl b
 |_,_,.int i=>.int i
 |_,_,.str x=>.str x
 |_,_,.tup h r=>.tup (k.tup _ _ h) (Reps.keep k r)
 |_,_,.lst m h r=>.lst (k.lst _ _ m h).1 (k.lst _ _ m h).2 (Reps.keep k r)
 |_,_,.dK m h e r=>.dK (k.dK _ _ m h).1 (k.dK _ _ m h).2 e (Reps.keep k r)
 |_,_,.dT m h e r=>.dT (k.dT _ _ m h).1 (k.dT _ _ m h).2 e (Reps.keep k r)
 |_,_,.scr h=>.scr (h.keep k.frz)
 |_,_,.kt h r=>.kt h (Reps.keep k r)
 |_,_,.exc h e c=>.exc (k.frz _ _ _ h rfl) e c
 |_,_,.fK h e r=>.fK (k.frz _ _ _ h rfl) e (Reps.keep k r)
 |_,_,.fT h e r=>.fT (k.frz _ _ _ h rfl) e (Reps.keep k r)
 |_,_,.fL h r=>.fL (k.frz _ _ _ h rfl) (Reps.keep k r)
 |_,_,.fn h=>.fn h
 |_,_,.ob=>.ob
theorem Reps.keep {K:ac}{M M':ay->Prop}{H H':Hp}(k:gA M M' H H'):∀{vs:List V}{xs:List PV},Reps K M H vs xs->Reps K M' H' vs xs
 |_,_,.nil=>.nil
 |_,_,.cons r t=>.cons (aE.keep k r) (Reps.keep k t)
end
mutual
theorem aE.flat {K:ac}{M M':ay->Prop}{H:Hp}{v:V}{x:PV}(f:flat x=true)(r:aE K M H v x):aE K M' H v x:=by
 cases r with
 |non=>exact .non
 |bl b=>exact .bl b
 |int i=>exact .int i
 |str x=>exact .str x
 |tup h r=>exact .tup h (Reps.flat (by unfold PP.flat at f;exact f) r)
 |lst m h r=>unfold PP.flat at f;cases f
 |dK m h e r=>unfold PP.flat at f;cases f
 |dT m h e r=>unfold PP.flat at f;cases f
 |scr h=>exact .scr h
 |kt h r=>exact .kt h (Reps.flat (by unfold PP.flat at f;exact f) r)
 |exc h e c=>exact .exc h e c
 |fK h e r=>unfold PP.flat at f;cases f
 |fT h e r=>unfold PP.flat at f;cases f
 |fL h r=>exact .fL h (Reps.flat (by unfold PP.flat at f;exact f) r)
 |fn h=>exact .fn h
 |ob=>exact .ob
theorem Reps.flat {K:ac}{M M':ay->Prop}{H:Hp}{vs:List V}{xs:List PV}(f:flats xs=true)(r:Reps K M H vs xs):Reps K M' H vs xs:=by
 cases r with
 |nil=>exact .nil
 |cons r t=>
  unfold PP.flats at f;rw[bz1]at f;exact .cons (aE.flat f.1 r) (Reps.flat f.2 t)
end
theorem gA.same {M M':ay->Prop}{H H':Hp}(s:aG H H')(m:∀a,M a->M' a):gA M M' H H':=
 ⟨λa _ h e=>⟨m a h,s _ _ e⟩,λa _ h e=>⟨m a h,s _ _ e⟩,λa _ h e=>⟨m a h,s _ _ e⟩,λ_ _ e=>s _ _ e,λ_ _ _ e _=>s _ _ e⟩
theorem aE.same {K:ac}{M M':ay->Prop}{H H':Hp}{v:V}{x:PV}(r:aE K M H v x)(s:aG H H')(m:∀a,M a->M' a):aE K M' H' v x:=r.keep (.same s m)
theorem Reps.same {K:ac}{M M':ay->Prop}{H H':Hp}{v:List V}{x:List PV}(r:Reps K M H v x)(s:aG H H')(m:∀a,M a->M' a):Reps K M' H' v x:=r.keep (.same s m)
noncomputable def dY:HO->Bool
 |.lst _=>true
 |.dK _=>true
 |.dT _=>true
 |_=>false
theorem gA.upd {M M':ay->Prop}{H:Hp}{a:ay}{o o':HO}(h:H a=some o')(mu:dY o'=true)(m:∀b,M b->b≠a/\M' b):gA M M' H (upd H a o):=
 ⟨λb _ hb e=>⟨(m b hb).2,by rw[aW (m b hb).1];exact e⟩,λb _ hb e=>⟨(m b hb).2,by rw[aW (m b hb).1];exact e⟩,λb _ hb e=>⟨(m b hb).2,by rw[aW (m b hb).1];exact e⟩,
  λb _ e=>by rw[aW (λz=>by rw[z,h]at e;cases e;cases mu)];exact e,
  λb _ _ e _=>by rw[aW (λz=>by rw[z,h]at e;cases e;cases mu)];exact e⟩
theorem Reps.length {K:ac}{M:ay->Prop}{H:Hp}:∀{vs:List V}{xs:List PV},Reps K M H vs xs->vs.length=xs.length
 |_,_,.nil=>rfl
 |_,_,.cons _ t=>congrArg (·+1) t.length
theorem Reps.get {K:ac}{M:ay->Prop}{H:Hp}:∀{vs:List V}{xs:List PV}{i:Nat}{v:V},Reps K M H vs xs->vs[i]? = some v->∃x,xs[i]? = some x/\aE K M H v x
 |_,_,_,_,.nil,e=>by simp at e
 |_,_,0,_,.cons r _,e=>by simp at e;subst e;exact⟨_,rfl,r⟩
 |_,_,i+1,v,.cons _ t,e=>by
  rw[bw4]at e
  obtain⟨x,h1,h2⟩:=t.get e
  exact⟨x,by rw[bw4];exact h1,h2⟩
theorem Reps.at {K:ac}{M:ay->Prop}{H:Hp}:∀{vs:List V}{xs:List PV}{i:Nat}{x:PV},Reps K M H vs xs->xs[i]? = some x->∃v,vs[i]? = some v/\aE K M H v x
 |_,_,_,_,.nil,e=>by simp at e
 |_,_,0,_,.cons r _,e=>by simp at e;subst e;exact⟨_,rfl,r⟩
 |_,_,i+1,v,.cons _ t,e=>by
  rw[bw4]at e
  obtain⟨x,h1,h2⟩:=t.at e
  exact⟨x,by rw[bw4];exact h1,h2⟩
theorem Reps.append {K:ac}{M:ay->Prop}{H:Hp}:∀{vs:List V}{xs:List PV}{us:List V}{ys:List PV},Reps K M H vs xs->Reps K M H us ys->Reps K M H (vs++us) (xs++ys)
 |_,_,_,_,.nil,s=>s
 |_,_,_,_,.cons r t,s=>.cons r (t.append s)
theorem Reps.set {K:ac}{M:ay->Prop}{H:Hp}{v:V}{x:PV}(q:aE K M H v x):∀(i:Nat) {vs:List V}{xs:List PV},Reps K M H vs xs->Reps K M H (vs.set i v) (xs.set i x)
 |_,_,_,.nil=>.nil
 |0,_,_,.cons r t=>.cons q t
 |i+1,_,_,.cons r t=>.cons r (Reps.set q i t)
theorem Reps.take {K:ac}{M:ay->Prop}{H:Hp}:∀(n:Nat) {vs:List V}{xs:List PV},Reps K M H vs xs->Reps K M H (vs.take n) (xs.take n)
 |0,_,_,_=>by simp;exact .nil
 |_+1,_,_,.nil=>.nil
 |n+1,_,_,.cons r t=>.cons r (Reps.take n t)
theorem Reps.drop {K:ac}{M:ay->Prop}{H:Hp}:∀(n:Nat) {vs:List V}{xs:List PV},Reps K M H vs xs->Reps K M H (vs.drop n) (xs.drop n)
 |0,_,_,r=>r
 |_+1,_,_,.nil=>.nil
 |n+1,_,_,.cons _ t=>Reps.drop n t
theorem Reps.eraseIdx {K:ac}{M:ay->Prop}{H:Hp}:∀(n:Nat) {vs:List V}{xs:List PV},Reps K M H vs xs->Reps K M H (vs.eraseIdx n) (xs.eraseIdx n)
 |_,_,_,.nil=>.nil
 |0,_,_,.cons _ t=>t
 |n+1,_,_,.cons r t=>.cons r (Reps.eraseIdx n t)
noncomputable abbrev intz (ns:ae):List PV:=ns.map PV.int
theorem Reps.intz {K:ac}{M:ay->Prop}{H:Hp}:∀(ns:ae),Reps K M H (ns.map V.int) (intz ns)
 |[]=>.nil
 |n::r=>.cons (.int n) (Reps.intz r)
theorem Reps.ofInts {K:ac}{M:ay->Prop}{H:Hp}:∀{ns:ae}{us:List V},Reps K M H us (PP.intz ns)->us=ns.map V.int
 |[],_,.nil=>rfl
 |n::r,_,.cons q t=>by
  cases q;rw[Reps.ofInts t];rfl
theorem mR:∀(ns:ae),flats (intz ns)=true
 |[]=>rfl
 |n::r=>by show (flat (.int n)&&flats (intz r))=true;rw[mR r];rfl
inductive Tg|rd|sh|nw|fr
inductive Slot|sh (g:Bool) (x:PV)|own (x:PV)|kp (g:Bool) (x:PV) (ks:List (ay×List PV×List PV))
noncomputable def Slot.val:Slot->PV
 |.sh _ x=>x
 |.own x=>x
 |.kp _ x _=>x
noncomputable def Slot.tag:Slot->Tg
 |.sh true _=>.nw
 |.sh false _=>.sh
 |.own _=>.rd
 |.kp _ _ _=>.nw
noncomputable abbrev bG:=List (Option Slot)
noncomputable def Ms (H0:Hp)(W:ay->Prop):Bool->ay->Prop
 |false,a=>¬W a
 |true,a=>¬W a/\H0 a=none
noncomputable def Mg (H0:Hp)(W:ay->Prop)(Hs:Hp):Tg->ay->Prop
 |.rd,_=>True
 |.sh,a=>¬W a
 |.nw,a=>¬W a/\H0 a=none
 |.fr,a=>Hs a=none
noncomputable def iC (K:ac)(M:ay->Prop)(H:Hp)(a:ay):PV->Prop
 |.lst xs=>∃us,H a=some (.lst us)/\Reps K M H us xs
 |.dK ps=>∃kvs,H a=some (.dK kvs)/\kvs.map (·.1)=ps.map (·.1)/\Reps K M H (kvs.map (·.2)) (ps.map (·.2))
 |.dT ps=>∃kvs,H a=some (.dT kvs)/\kvs.map (·.1)=ps.map (·.1)/\Reps K M H (kvs.map (·.2)) (ps.map (·.2))
 |_=>False
noncomputable def kL (l:ay)(us:List V):HO:=.ext λh=>us.length<=sizeLine/\∃(its:List av) (n:Nat),aL us its/\h.get? l=some { cls:=.type "list",data:=.seq its.toArray n }
noncomputable def lO (K:ac)(H0 H:Hp)(a:ay)(st un:List PV):Prop:=∃(C dx l1 l2:ay) (us1 us2:List V),PySem.W.nsIn K mainGlobals "Keeper" = some (some (.ref C))/\(H0 a=none/\H0 dx=none/\H0 l1=none/\H0 l2=none)/\l1≠l2/\H dx=some (.own a)/\
 H a=some (.ins C dx [("standing",.ref l1),("undone",.ref l2)])/\H l1=some (kL l1 us1)/\H l2=some (kL l2 us2)/\Reps K (λ_=>False) H us1 st/\Reps K (λ_=>False) H us2 un
theorem lO.keep {K:ac}{H0 H H':Hp}{a:ay}{st un:List PV}(k:gA (λ_=>False) (λ_=>False) H H')(f:∀b o,H b=some o->dY o=false->H' b=some o)(h:lO K H0 H a st un):lO K H0 H' a st un:=by
 obtain⟨C,dx,l1,l2,us1,us2,h1,h2,h3,h4,h5,h6,h7,r1,r2⟩:=h
 exact⟨C,dx,l1,l2,us1,us2,h1,h2,h3,f _ _ h4 rfl,f _ _ h5 rfl,f _ _ h6 rfl,f _ _ h7 rfl,r1.keep k,r2.keep k⟩
noncomputable def Ap2 (H:Hp)(a b:ay):Prop:=a≠b/\∀C D dx dy l1 l2 m1 m2,H a=some (.ins C dx [("standing",.ref l1),("undone",.ref l2)])->H b=some (.ins D dy [("standing",.ref m1),("undone",.ref m2)])->l1≠m1/\l1≠m2/\l2≠m1/\l2≠m2
noncomputable def gN (K:ac)(H0 H:Hp)(ks:List (ay×List PV×List PV)):Prop:=(∀k∈ks,lO K H0 H k.1 k.2.1 k.2.2)/\ks.Pairwise λk m=>Ap2 H k.1 m.1
theorem gN.keep {K:ac}{H0 H H':Hp}{ks:List (ay×List PV×List PV)}(k:gA (λ_=>False) (λ_=>False) H H')(f:∀b o,H b=some o->dY o=false->H' b=some o)(h:gN K H0 H ks):gN K H0 H' ks:=by
 refine⟨λx hx=>(h.1 x hx).keep k f,h.2.imp_of_mem λ{x y} hx hy r=>⟨r.1,λC D dx dy l1 l2 m1 m2 e1 e2=>?_⟩⟩
 obtain⟨C',dx',l1',l2',us1,us2,_,_,_,_,h5,_⟩:=h.1 x hx
 obtain⟨D',dy',m1',m2',ws1,ws2,_,_,_,_,g5,_⟩:=h.1 y hy
 have z1:=f _ _ h5 rfl;have z2:=f _ _ g5 rfl;rw[e1]at z1;rw[e2]at z2;cases z1;cases z2;exact r.2 _ _ _ _ _ _ _ _ h5 g5
theorem gN.same {K:ac}{H0 H H':Hp}{ks:List (ay×List PV×List PV)}(s:aG H H')(h:gN K H0 H ks):gN K H0 H' ks:=h.keep (.same s λ_ z=>z) λ_ _ e _=>s _ _ e
theorem gN.upd {K:ac}{H0 H:Hp}{c:ay}{o o':HO}{ks:List (ay×List PV×List PV)}(e:H c=some o')(mu:dY o'=true)(h:gN K H0 H ks):gN K H0 (upd H c o) ks:=
 h.keep (.upd e mu λ_ z=>z.elim) λb u e2 m2=>by rw[aW (λz=>by rw[z,e]at e2;cases e2;rw[mu]at m2;cases m2)];exact e2
noncomputable def rC (K:ac)(H0:Hp)(W:ay->Prop)(H:Hp)(v:V):Slot->Prop
 |.sh g x=>aE K (Ms H0 W g) H v x
 |.own x=>∃a,v = .ref a/\W a/\iC K (Ms H0 W true) H a x
 |.kp g x ks=>(aE K (λ_=>False) H v x/\flat x=true)/\gN K (cond g H0 λ_=>none) H ks
structure PX (K:ac)(H0:Hp)(W:ay->Prop)(σ:St)(ρ:bG)(H:Hp):Prop where
 len:ρ.length=σ.length
 same:aG H0 H
 wm:∀a,W a->H0 a=none/\∃o,H a=some o/\dY o=true
 sl:∀(i:Nat) (m:Slot),ρ[i]? = some (some m)->∃v,σ[i]? = some (some v)/\rC K H0 W H v m
 dis:∀(i j:Nat) (x y:PV) (a:ay),ρ[i]? = some (some (.own x))->ρ[j]? = some (some (.own y))->σ[i]? = some (some (.ref a))->σ[j]? = some (some (.ref a))->i=j
theorem iC.keep {K:ac}{M M':ay->Prop}{H H':Hp}{a:ay}(k:gA M M' H H')(ha:∀o,H a=some o->H' a=some o):∀{x:PV},iC K M H a x->iC K M' H' a x
 |.lst _,⟨us,e,r⟩=>⟨us,ha _ e,r.keep k⟩
 |.dK _,⟨us,e,q,r⟩=>⟨us,ha _ e,q,r.keep k⟩
 |.dT _,⟨us,e,q,r⟩=>⟨us,ha _ e,q,r.keep k⟩
theorem iC.at {K:ac}{M:ay->Prop}{H:Hp}{a:ay}:∀{x:PV},iC K M H a x->∃o,H a=some o/\dY o=true
 |.lst _,⟨us,e,r⟩=>⟨_,e,rfl⟩
 |.dK _,⟨us,e,q,r⟩=>⟨_,e,rfl⟩
 |.dT _,⟨us,e,q,r⟩=>⟨_,e,rfl⟩
theorem iC.rep {K:ac}{M M':ay->Prop}{H:Hp}{a:ay}(m:∀b,M b->M' b)(ha:M' a):∀{x:PV},iC K M H a x->aE K M' H (.ref a) x
 |.lst _,⟨us,e,r⟩=>.lst ha e (r.same (aG.refl _) m)
 |.dK _,⟨us,e,q,r⟩=>.dK ha e q (r.same (aG.refl _) m)
 |.dT _,⟨us,e,q,r⟩=>.dT ha e q (r.same (aG.refl _) m)
section
variable {K:ac}{H0:Hp}{W W':ay→Prop}{σ:St}{ρ:bG}{H H':Hp}
theorem PX.mono (p:PX K H0 W σ ρ H)(s:aG H H'):PX K H0 W σ ρ H':=by
 refine⟨p.len,p.same.trans s,λa h=>⟨(p.wm a h).1,let ⟨o,e,m⟩:=(p.wm a h).2;⟨o,s _ _ e,m⟩⟩,λi m h=>?_,p.dis⟩
 obtain⟨v,e,r⟩:=p.sl i m h
 refine⟨v,e,?_⟩;cases m with
 |sh g x=>exact aE.same r s λ_ z=>z
 |own x=>
  obtain⟨a,e1,e2,r⟩:=r
  exact⟨a,e1,e2,r.keep (.same s λ_ z=>z) λ_ z=>s _ _ z⟩
 |kp g x ks=>exact⟨⟨r.1.1.same s λ_ z=>z,r.1.2⟩,r.2.same s⟩
theorem PX.new (p:PX K H0 W σ ρ H){a:ay}(h:H a=none):¬W a/\H0 a=none:=
 ⟨λz=>(by obtain⟨_,o,e,_⟩:=p.wm a z;rw[h]at e;cases e),p.same.free h⟩
theorem Mg.back {g:Tg}{H1:Hp}(s:aG H H1){a:ay}(h:Mg H0 W H1 g a):Mg H0 W H g a:=by
 cases g with
 |fr=>exact s.free h
 |rd=>exact h
 |sh=>exact h
 |nw=>exact h
end
noncomputable abbrev PK:=PV->Tg->Prop
noncomputable abbrev aF:=bG->PK->Prop
noncomputable abbrev cL:=bG->(Bool->Prop)->Prop
noncomputable abbrev cM:=bG->(List (PV×Tg)->Prop)->Prop
inductive iD (K:ac)(H0:Hp)(W:ay->Prop)(Hs H:Hp):List V->List (PV×Tg)->Prop
 |nil:iD K H0 W Hs H [] []
 |cons {v:V}{x:PV}{g:Tg}{vs:List V}{xs:List (PV×Tg)}:aE K (Mg H0 W Hs g) H v x->iD K H0 W Hs H vs xs->iD K H0 W Hs H (v::vs) ((x,g)::xs)
noncomputable def rD (K:ac)(H0:Hp)(W:ay->Prop)(H:Hp)(Q:PK)(Q':VK):Prop:=∀v H' x g,aG H H'->aE K (Mg H0 W H g) H' v x->Q x g->Q' v H'
noncomputable def LE (X:Cx)(t:aF):TE:=λσ H Q'=>∃(W:ay->Prop) (ρ:bG) (Q:PK),PX X.K X.H₀ W σ ρ H/\t ρ Q/\rD X.K X.H₀ W H Q Q'
noncomputable def LT (X:Cx)(t:cL):TT:=λσ H Q'=>∃(W:ay->Prop) (ρ:bG) (Q:Bool->Prop),PX X.K X.H₀ W σ ρ H/\t ρ Q/\∀b H',aG H H'->Q b->Q' b H'
noncomputable def LA (X:Cx)(t:cM):TA:=λσ H Q'=>∃(W:ay->Prop) (ρ:bG) (Q:List (PV×Tg)->Prop),PX X.K X.H₀ W σ ρ H/\t ρ Q/\∀vs H' xs,aG H H'->iD X.K X.H₀ W H H' vs xs->Q xs->Q' vs H'
theorem iD.same {K:ac}{H0:Hp}{W:ay->Prop}{Hs Hs' H H':Hp}(s:aG H H')(b:aG Hs' Hs):∀{vs:List V}{xs:List (PV×Tg)},iD K H0 W Hs H vs xs->iD K H0 W Hs' H' vs xs
 |_,_,.nil=>.nil
 |_,_,.cons r t=>.cons (r.same s λ_ z=>Mg.back b z) (t.same s b)
theorem iD.any {K:ac}{H0:Hp}{W:ay->Prop}{Hs H:Hp}:∀{vs:List V}{xs:List (PV×Tg)},iD K H0 W Hs H vs xs->Reps K (λ_=>True) H vs (xs.map (·.1))
 |_,_,.nil=>.nil
 |_,_,.cons r t=>.cons (r.same (aG.refl _) λ_ _=>trivial) t.any
noncomputable def Nw:Tg->PV->Prop
 |.fr,_=>True
 |.nw,_=>True
 |_,x=>flat x=true
section
variable {K:ac}{H0 Hs H:Hp}{W:ay→Prop}{σ:St}{ρ:bG}
theorem Nw.rep {g:Tg}{x:PV}{v:V}(px:PX K H0 W σ ρ Hs)(n:Nw g x)(r:aE K (Mg H0 W Hs g) H v x):aE K (Ms H0 W true) H v x:=by
 cases g with
 |fr=>exact r.same (aG.refl _) λa z=>px.new z
 |nw=>exact r.same (aG.refl _) λa z=>z
 |sh=>exact r.flat n
 |rd=>exact r.flat n
theorem L8 {v:V}{m:Slot}(r:rC K H0 W H v m):aE K (Mg H0 W Hs m.tag) H v m.val:=by
 cases m with
 |sh g x=>
  cases g with
  |true=>exact aE.same r (aG.refl _) λ_ z=>z
  |false=>exact aE.same r (aG.refl _) λ_ z=>z
 |own x=>
  obtain⟨a,rfl,_,r⟩:=r
  exact r.rep (λ_ _=>trivial) trivial
 |kp g x ks=>exact r.1.1.flat r.1.2
end
section
variable {X:Cx}{σ:St}{H:Hp}{Q':VK}{ta tb:aF}
noncomputable def a5 (i:Nat):aF:=λρ Q=>∃m,ρ[i]? = some (some m)/\Q m.val m.tag
noncomputable def qC (x:PV):aF:=λ_ Q=>Q x .fr
theorem aD1 {i:Nat}(h:LE X (a5 i) σ H Q'):kI i σ H Q':=by
 obtain⟨W,ρ,Q,px,⟨m,e,q⟩,k⟩:=h
 obtain⟨v,ev,r⟩:=px.sl i m e
 exact⟨v,ev,k v H _ _ (aG.refl _) (L8 r) q⟩
theorem oQ {x:PV}{v:V}(hr:∀M,aE X.K M H v x)(h:LE X (qC x) σ H Q'):tC v σ H Q':=by
 obtain⟨W,ρ,Q,px,q,k⟩:=h
 exact k v H _ _ (aG.refl _) (hr _) q
noncomputable def fG (X:Cx)(R:PV->Tg->PV->Tg->PK->Prop)(r:R2):Prop:=∀(W:ay->Prop) (Hs H:Hp) (u v:V) (x y:PV) (g g':Tg) (Q:PK) (Q':VK),aG Hs H->
 (∀a,Hs a=none->¬W a/\X.H₀ a=none)->aE X.K (Mg X.H₀ W Hs g) H u x->aE X.K (Mg X.H₀ W Hs g') H v y->R x g y g' Q->(∀w H' z gz,aG H H'->aE X.K (Mg X.H₀ W Hs gz) H' w z->Q z gz->Q' w H')->r u v H Q'
noncomputable def q2 (R:PV->Tg->PV->Tg->PK->Prop)(ta tb:aF):aF:=λρ Q=>ta ρ λx g=>tb ρ λy g'=>R x g y g' Q
theorem rE {R:PV->Tg->PV->Tg->PK->Prop}{r:R2}(c:fG X R r)(h:LE X (q2 R ta tb) σ H Q'):oD r (LE X ta) (LE X tb) σ H Q':=by
 obtain⟨W,ρ,Q,px,q,k⟩:=h
 refine⟨W,ρ,_,px,q,λu H1 x g s1 r1 q1=>⟨W,ρ,_,px.mono s1,q1,λv H2 y g' s2 r2 q2=>?_⟩⟩;exact c W H H2 u v x y g g' Q Q' (s1.trans s2) (λa z=>px.new z) (r1.same s2 λ_ z=>z) (r2.same (aG.refl _) λ_ z=>Mg.back s1 z) q2 λw H' z gz s3 r3 q3=>k w H' z gz ((s1.trans s2).trans s3) r3 q3
noncomputable def RI (C:Int->Int->Prop)(f:Int->Int->PV):PV->Tg->PV->Tg->PK->Prop:=λx _ y _ Q=>∃i j,x = .int i/\y = .int j/\C i j/\Q (f i j) .fr
noncomputable def eR (f:Int->Int->PV):PV->Tg->PV->Tg->PK->Prop:=λx _ y _ Q=>∃i j,x = .int i/\y = .int j/\Q (f i j) .fr
theorem rF {C:Int->Int->Prop}{f:Int->Int->Int}:fG X (RI C λi j=>.int (f i j)) (rI C λi j=>.int (f i j)):=by
 rintro W Hs H u v x y g g' Q Q' s n r1 r2 ⟨i,j,rfl,rfl,c,q⟩ k;cases r1;cases r2
 exact⟨i,j,rfl,rfl,c,k _ _ _ _ (aG.refl _) (.int _) q⟩
theorem L9 {f:Int->Int->Int}:fG X (eR λi j=>.int (f i j)) (iA λi j=>.int (f i j)):=by
 rintro W Hs H u v x y g g' Q Q' s n r1 r2 ⟨i,j,rfl,rfl,q⟩ k;cases r1;cases r2
 exact⟨i,j,rfl,rfl,k _ _ _ _ (aG.refl _) (.int _) q⟩
theorem mS {f:Int->Int->Bool}:fG X (eR λi j=>.bl (f i j)) (iA λi j=>.bl (f i j)):=by
 rintro W Hs H u v x y g g' Q Q' s n r1 r2 ⟨i,j,rfl,rfl,q⟩ k;cases r1;cases r2
 exact⟨i,j,rfl,rfl,k _ _ _ _ (aG.refl _) (.bl _) q⟩
noncomputable def mT (neg:Bool):PV->Tg->PV->Tg->PK->Prop:=λx _ y _ Q=>(∃i j,x = .int i/\y = .int j/\Q (.bl (if neg=true then !decide (i=j) else decide (i=j))) .fr)∨(∃i j,x = .bl i/\y = .bl j/\Q (.bl (if neg=true then !decide (i=j) else decide (i=j))) .fr)
theorem M0 (i j:Int):decide (V.int i=V.int j)=decide (i=j):=by
 rw[bC0,bt0,bt0];exact⟨λz=>V.int.inj z,λz=>congrArg V.int z⟩
theorem M3 (i j:Bool):decide (V.bl i=V.bl j)=decide (i=j):=by
 rw[bC0,bt0,bt0];exact⟨λz=>V.bl.inj z,λz=>congrArg V.bl z⟩
theorem aD2:fG X (mT false) A3:=by
 rintro W Hs H u v x y g g' Q Q' s n r1 r2 (⟨i,j,rfl,rfl,q⟩|⟨i,j,rfl,rfl,q⟩) k
 ·cases r1;cases r2
  exact⟨rfl,by rw[M0];exact k _ _ _ _ (aG.refl _) (.bl _) q⟩
 ·cases r1;cases r2
  exact⟨rfl,by rw[M3];exact k _ _ _ _ (aG.refl _) (.bl _) q⟩
theorem aD3:fG X (mT true) A4:=by
 rintro W Hs H u v x y g g' Q Q' s n r1 r2 (⟨i,j,rfl,rfl,q⟩|⟨i,j,rfl,rfl,q⟩) k
 ·cases r1;cases r2
  exact⟨rfl,by rw[M0];exact k _ _ _ _ (aG.refl _) (.bl _) q⟩
 ·cases r1;cases r2
  exact⟨rfl,by rw[M3];exact k _ _ _ _ (aG.refl _) (.bl _) q⟩
noncomputable def bF (t:aF):cL:=λρ Q=>t ρ λx _=>∃b,x = .bl b/\Q b
theorem vX {t:aF}{Q':Bool->Hp->Prop}(h:LT X (bF t) σ H Q'):LE X t σ H λx H'=>∃k,x = .bl k/\Q' k H':=by
 obtain⟨W,ρ,Q,px,q,k⟩:=h
 refine⟨W,ρ,_,px,q,?_⟩;rintro v H1 x g s r ⟨b,rfl,q⟩;cases r
 exact⟨b,rfl,k _ _ s q⟩
noncomputable def vY (t u:cL):cL:=λρ Q=>t ρ λc=>if c=true then u ρ Q else Q false
noncomputable def gO (t u:cL):cL:=λρ Q=>t ρ λc=>if c=true then Q true else u ρ Q
noncomputable def iU (t:cL):cL:=λρ Q=>t ρ λc=>Q (!c)
variable {t u:cL}{Qb:Bool→Hp→Prop}
theorem aD4 (h:LT X (vY t u) σ H Qb):zL (LT X t) (LT X u) σ H Qb:=by
 obtain⟨W,ρ,Q,px,q,k⟩:=h
 refine⟨W,ρ,_,px,q,λb H1 s1 q1=>?_⟩;cases b with
 |true=>exact bQ ⟨W,ρ,Q,px.mono s1,by simpa using q1,λb H2 s2 q2=>k _ _ (s1.trans s2) q2⟩
 |false=>exact bE (k _ _ s1 (by simpa using q1))
theorem aD5 (h:LT X (gO t u) σ H Qb):zM (LT X t) (LT X u) σ H Qb:=by
 obtain⟨W,ρ,Q,px,q,k⟩:=h
 refine⟨W,ρ,_,px,q,λb H1 s1 q1=>?_⟩;cases b with
 |false=>exact bE ⟨W,ρ,Q,px.mono s1,by simpa using q1,λb H2 s2 q2=>k _ _ (s1.trans s2) q2⟩
 |true=>exact bQ (k _ _ s1 (by simpa using q1))
theorem aD6 (h:LT X (iU t) σ H Qb):zN (LT X t) σ H Qb:=by
 obtain⟨W,ρ,Q,px,q,k⟩:=h
 exact⟨W,ρ,_,px,q,λb H1 s1 q1=>k _ _ s1 q1⟩
noncomputable def lP (ta tb:aF):aF:=λρ Q=>ta ρ λx _=>∃c,x = .bl c/\if c=true then tb ρ Q else Q (.bl false) .fr
noncomputable def vZ (ta:aF):aF:=λρ Q=>ta ρ λx _=>∃c,x = .bl c/\Q (.bl (!c)) .fr
theorem rD.back {K:ac}{H0:Hp}{W:ay->Prop}{H H1:Hp}{Q:PK}(k:rD K H0 W H Q Q')(s:aG H H1):rD K H0 W H1 Q Q':=λv H' x g s' r q=>k v H' x g (s.trans s') (r.same (aG.refl _) λ_ z=>Mg.back s z) q
theorem aD7 (h:LE X (lP ta tb) σ H Q'):zO (LE X ta) (LE X tb) σ H Q':=by
 obtain⟨W,ρ,Q,px,q,k⟩:=h
 refine⟨W,ρ,_,px,q,?_⟩;rintro v H1 x g s1 r ⟨c,rfl,q⟩;cases r;refine⟨c,rfl,?_⟩;cases c with
 |true=>exact bQ ⟨W,ρ,Q,px.mono s1,by simpa using q,k.back s1⟩
 |false=>exact bE (k _ _ _ _ s1 (.bl _) (by simpa using q))
theorem aD8 (h:LE X (vZ ta) σ H Q'):zP (LE X ta) σ H Q':=by
 obtain⟨W,ρ,Q,px,q,k⟩:=h
 refine⟨W,ρ,_,px,q,?_⟩;rintro v H1 x g s1 r ⟨c,rfl,q⟩;cases r
 exact⟨c,rfl,k _ _ _ _ s1 (.bl _) q⟩
noncomputable def aA:cM:=λ_ Q=>Q []
noncomputable def a6 (te:aF)(tr:cM):cM:=λρ Q=>te ρ λx g=>tr ρ λxs=>Q ((x,g)::xs)
variable {Qa:List V→Hp→Prop}{tr:cM}
theorem aD9 (h:LA X aA σ H Qa):kJ σ H Qa:=by
 obtain⟨W,ρ,Q,px,q,k⟩:=h
 exact k _ _ _ (aG.refl _) .nil q
theorem aE0 (h:LA X (a6 ta tr) σ H Qa):iT (LE X ta) (LA X tr) σ H Qa:=by
 obtain⟨W,ρ,Q,px,q,k⟩:=h
 refine⟨W,ρ,_,px,q,λv H1 x g s1 r1 q1=>⟨W,ρ,_,px.mono s1,q1,λvs H2 xs s2 r2 q2=>?_⟩⟩;exact k _ _ _ (s1.trans s2) (.cons (r1.same s2 λ_ z=>z) (r2.same (aG.refl _) s1)) q2
noncomputable def eU (t:cM):aF:=λρ Q=>t ρ λxs=>xs.length<=1000/\flats (xs.map (·.1))=true/\Q (.tup (xs.map (·.1))) .fr
noncomputable def jJ (t:cM):aF:=λρ Q=>t ρ λxs=>xs.length<=1000/\flats (xs.map (·.1))=true/\Q (.lst (xs.map (·.1))) .fr
theorem iD.length {K:ac}{H0:Hp}{W:ay->Prop}{Hs H:Hp}:∀{vs:List V}{xs:List (PV×Tg)},iD K H0 W Hs H vs xs->vs.length=xs.length
 |_,_,.nil=>rfl
 |_,_,.cons _ t=>congrArg (·+1) t.length
theorem w4 {n:Nat}(h:n<=1000):n<=sizeLine:=by8 (aA0 h)
theorem aE1 (h:LE X (eU tr) σ H Q'):B0 (LA X tr) σ H Q':=by
 obtain⟨W,ρ,Q,px,q,k⟩:=h
 refine⟨W,ρ,_,px,q,?_⟩;rintro vs H1 xs s1 r ⟨hl,n,q⟩;refine⟨by rw[r.length];exact w4 hl,λp hp=>k _ _ _ .fr (s1.trans (bK hp _)) (.tup bZ ?_) q⟩;exact (r.any.flat n).same (bK hp _) λ_ z=>z
theorem aE2 (h:LE X (jJ tr) σ H Q'):B1 (LA X tr) σ H Q':=by
 obtain⟨W,ρ,Q,px,q,k⟩:=h
 refine⟨W,ρ,_,px,q,?_⟩;rintro vs H1 xs s1 r ⟨hl,n,q⟩;refine⟨by rw[r.length];exact w4 hl,λp hp=>k _ _ _ .fr (s1.trans (bK hp _)) (.lst (s1.free hp) bZ ?_) q⟩;exact (r.any.flat n).same (bK hp _) λ_ z=>z
noncomputable def dZ (X:Cx)(R:List PV->(PV->Prop)->Prop)(r:List V->Hp->VK->Prop):Prop:=∀(H:Hp) (vs:List V) (xs:List PV) (Q:PV->Prop) (Q':VK),Reps X.K (λ_=>True) H vs xs->R xs Q->
 (∀w H' z,aG H H'->aE X.K (λa=>H a=none) H' w z->Q z->Q' w H')->r vs H Q'
noncomputable def aD (R:List PV->(PV->Prop)->Prop)(t:cM):aF:=λρ Q=>t ρ λxs=>R (xs.map (·.1)) λz=>Q z .fr
theorem M4 {R:List PV->(PV->Prop)->Prop}{r:List V->Hp->VK->Prop}(c:dZ X R r)(h:LE X (aD R tr) σ H Q'):uY r (LA X tr) σ H Q':=by
 obtain⟨W,ρ,Q,px,q,k⟩:=h
 refine⟨W,ρ,_,px,q,λvs H1 xs s1 r1 q1=>c H1 vs _ _ Q' r1.any q1 λw H' z s2 r2 q2=>k w H' z .fr (s1.trans s2) (r2.same (aG.refl _) λ_ z=>s1.free z) q2⟩
end
structure rG where
 nx:bG->Prop
 rt:PV->Prop
 bk:bG->Prop:=λ_=>False
 ct:bG->Prop:=λ_=>False
noncomputable abbrev aS:=rG->bG->Prop
noncomputable def Ev (W:ay->Prop)(H:Hp)(W':ay->Prop)(H':Hp):Prop:=∀b o,H b=some o->¬W b->L7 o=false->H' b=some o/\¬W' b
theorem Ev.trans {W W1 W2:ay->Prop}{H H1 H2:Hp}(a:Ev W H W1 H1)(b:Ev W1 H1 W2 H2):Ev W H W2 H2:=λc o h n z=>let ⟨h1,n1⟩:=a c o h n z;b c o h1 n1 z
theorem Ev.same {W:ay->Prop}{H H':Hp}(s:aG H H'):Ev W H W H':=λc o h n _=>⟨s _ _ h,n⟩
theorem Ev.refl (W:ay->Prop)(H:Hp):Ev W H W H:=Ev.same (aG.refl _)
structure rH (X:Cx)(W:ay->Prop)(H:Hp)(D':rG)(D:dW):Prop where
 nx:∀W' σ' H' ρ',Ev W H W' H'->PX X.K X.H₀ W' σ' ρ' H'->D'.nx ρ'->D.nx σ' H'
 rt:∀v H' x,aG X.H₀ H'->aE X.K (λa=>X.H₀ a=none) H' v x->D'.rt x->D.rt v H'
 bk:∀W' σ' H' ρ',Ev W H W' H'->PX X.K X.H₀ W' σ' ρ' H'->D'.bk ρ'->D.bk σ' H'
 ct:∀W' σ' H' ρ',Ev W H W' H'->PX X.K X.H₀ W' σ' ρ' H'->D'.ct ρ'->D.ct σ' H'
theorem rH.step {X:Cx}{W W1:ay->Prop}{H H1:Hp}{D':rG}{D:dW}(k:rH X W H D' D)(e:Ev W H W1 H1):rH X W1 H1 D' D:=
 ⟨λW' σ' H' ρ' e'=>k.nx W' σ' H' ρ' (e.trans e'),k.rt,λW' σ' H' ρ' e'=>k.bk W' σ' H' ρ' (e.trans e'),λW' σ' H' ρ' e'=>k.ct W' σ' H' ρ' (e.trans e')⟩
noncomputable def LS (X:Cx)(t:aS):TS:=λD σ H=>∃(W:ay->Prop) (ρ:bG) (D':rG),PX X.K X.H₀ W σ ρ H/\t D' ρ/\rH X W H D' D
theorem iV {α:Type}{l:List α}{i j:Nat}{a b:α}(h:(l.set i a)[j]? = some b):(j=i/\i<l.length/\b=a)∨(j≠i/\l[j]? = some b):=by
 by_cases e:j=i
 ·subst e
  have hl:j<(l.set j a).length:=(bq1.mp h).1;rw[bA5]at hl;rw[bA7 hl]at h;exact .inl ⟨rfl,hl,(br7 h).symm⟩
 ·rw[br9 (Ne.symm e)]at h
  exact .inr ⟨e,h⟩
section
variable {K:ac}{H0:Hp}{W W':ay→Prop}{σ:St}{ρ:bG}{H H' Hs:Hp}
theorem PX.setSh {i:Nat}{v:V}{g:Bool}{x:PV}(p:PX K H0 W σ ρ H)(r:aE K (Ms H0 W g) H v x):PX K H0 W (σ.set i (some v)) (ρ.set i (some (.sh g x))) H:=by
 refine⟨by rw[bA5,bA5];exact p.len,p.same,p.wm,λj m h=>?_,λj k y z a h1 h2 h3 h4=>?_⟩
 ·rcases iV h with⟨rfl,hl,e⟩|⟨hne,h⟩
  ·cases e
   rw[p.len]at hl
   exact⟨v,bA7 hl,r⟩
  ·obtain⟨u,e,q⟩:=p.sl j m h
   exact⟨u,by rw[br9 (Ne.symm hne)];exact e,q⟩
 ·rcases iV h1 with⟨_,_,e⟩|⟨n1,h1⟩
  ·cases e
  ·rcases iV h2 with⟨_,_,e⟩|⟨n2,h2⟩
   ·cases e
   ·rw[br9 (Ne.symm n1)]at h3
    rw[br9 (Ne.symm n2)]at h4;exact p.dis j k y z a h1 h2 h3 h4
noncomputable def mU (W:ay->Prop)(a:ay):ay->Prop:=λb=>W b∨b=a
theorem w5 {g:Bool}{a b:ay}(n:b≠a)(h:Ms H0 W g b):Ms H0 (mU W a) g b:=by
 cases g with
 |true=>exact⟨λz=>z.elim h.1 n,h.2⟩
 |false=>exact λz=>z.elim h n
theorem PX.setOwn {i:Nat}{a:ay}{x:PV}(p:PX K H0 W σ ρ Hs)(s:aG Hs H)(ha:Hs a=none)(r:iC K (Ms H0 (mU W a) true) H a x):PX K H0 (mU W a) (σ.set i (some (.ref a))) (ρ.set i (some (.own x))) H:=by
 have old:∀b o,Hs b=some o->b≠a:=λb o e z=>by rw[z,ha]at e;cases e
 have kp:∀g,gA (Ms H0 W g) (Ms H0 (mU W a) g) Hs H:=λg=>⟨λb _ m e=>⟨w5 (old _ _ e) m,s _ _ e⟩,λb _ m e=>⟨w5 (old _ _ e) m,s _ _ e⟩,λb _ m e=>⟨w5 (old _ _ e) m,s _ _ e⟩,λ_ _ e=>s _ _ e,λ_ _ _ e _=>s _ _ e⟩
 have wa:¬W a:=(p.new ha).1;refine⟨by rw[bA5,bA5];exact p.len,p.same.trans s,λb z=>?_,λj m h=>?_,λj k y z b h1 h2 h3 h4=>?_⟩
 ·rcases z with z|rfl
  ·obtain⟨h1,o,h2,h3⟩:=p.wm b z
   exact⟨h1,o,s _ _ h2,h3⟩
  ·exact⟨(p.new ha).2,r.at⟩
 ·rcases iV h with⟨rfl,hl,e⟩|⟨hne,h⟩
  ·cases e
   rw[p.len]at hl
   exact⟨_,bA7 hl,a,rfl,.inr rfl,r⟩
  ·obtain⟨u,e,q⟩:=p.sl j m h
   refine⟨u,by rw[br9 (Ne.symm hne)];exact e,?_⟩;cases m with
   |sh g y=>exact aE.keep (kp g) q
   |own y=>
    obtain⟨b,e1,e2,q⟩:=q
    exact⟨b,e1,.inl e2,q.keep (kp true) λo z=>s _ _ z⟩
   |kp g c ks=>exact⟨⟨q.1.1.same s λ_ z=>z,q.1.2⟩,q.2.same s⟩
 ·have ne:∀{j:Nat}{y:PV},ρ[j]? = some (some (.own y))->σ[j]?≠some (some (.ref a)):=λ{j y} h1 h2=>by
   obtain⟨u,e,c,e1,e2,_⟩:=p.sl j _ h1
   rw[h2]at e;cases e;cases e1;exact wa e2
  rcases iV h1 with⟨e1,l1,_⟩|⟨n1,h1⟩
  ·rcases iV h2 with⟨e2,_,_⟩|⟨n2,h2⟩
   ·rw[e1,e2]
   ·rw[e1,bA7 (by rw[<- p.len];exact l1)]at h3
    rw[br9 (Ne.symm n2)]at h4;cases h3;exact absurd h4 (ne h2)
  ·rw[br9 (Ne.symm n1)]at h3
   rcases iV h2 with⟨e2,l2,_⟩|⟨n2,h2⟩
   ·rw[e2,bA7 (by rw[<- p.len];exact l2)]at h4
    cases h4;exact absurd h3 (ne h1)
   ·rw[br9 (Ne.symm n2)]at h4
    exact p.dis j k y z b h1 h2 h3 h4
theorem Ev.own {a:ay}(s:aG Hs H)(ha:Hs a=none):Ev W Hs (mU W a) H:=λb o e n _=>⟨s _ _ e,λz=>z.elim n λz=>by rw[z,ha]at e;cases e⟩
theorem mV {g:Bool}{a b:ay}(wa:W a)(h:Ms H0 W g b):b≠a:=by
 cases g with
 |true=>exact λz=>h.1 (by rw[z];exact wa)
 |false=>exact λz=>h (by rw[z];exact wa)
theorem PX.updOwn {i:Nat}{a:ay}{x y:PV}{o:HO}(p:PX K H0 W σ ρ H)(hi:ρ[i]? = some (some (.own x)))(ha:σ[i]? = some (some (.ref a)))(wa:W a)(mu:dY o=true)(r:iC K (Ms H0 W true) (upd H a o) a y) :
  PX K H0 W σ (ρ.set i (some (.own y))) (upd H a o):=by
 obtain⟨w0,o',e',mu'⟩:=p.wm a wa
 have kp:∀g,gA (Ms H0 W g) (Ms H0 W g) H (upd H a o):=λg=>.upd e' mu' λb m=>⟨mV wa m,m⟩
 refine⟨by rw[bA5];exact p.len,λb u e=>by rw[aW (λz=>by rw[z,w0]at e;cases e)];exact p.same _ _ e,λb z=>?_,λj m h=>?_,λj k y' z b h1 h2 h3 h4=>?_⟩
 ·by_cases e:b=a
  ·subst e;exact⟨w0,o,bZ,mu⟩
  ·obtain⟨h1,o2,h2,h3⟩:=p.wm b z
   exact⟨h1,o2,by rw[aW e];exact h2,h3⟩
 ·rcases iV h with⟨rfl,hl,e⟩|⟨hne,h⟩
  ·cases e
   exact⟨_,ha,a,rfl,wa,r⟩
  ·obtain⟨u,e,q⟩:=p.sl j m h
   refine⟨u,e,?_⟩;cases m with
   |sh g y=>exact aE.keep (kp g) q
   |own y=>
    obtain⟨b,e1,e2,q⟩:=q
    have hb:b≠a:=λz=>by
     subst e1;rw[z]at e;exact hne (p.dis j i _ _ a h hi e ha)
    exact⟨b,e1,e2,q.keep (kp true) λo z=>by rw[aW hb];exact z⟩
   |kp g c ks=>exact⟨⟨q.1.1.keep (.upd e' mu' λ_ z=>z.elim),q.1.2⟩,q.2.upd e' mu'⟩
 ·have g1:∃y,ρ[j]? = some (some (.own y)):=by
   rcases iV h1 with⟨e,_,_⟩|⟨_,h⟩
   ·exact⟨x,by rw[e];exact hi⟩
   ·exact⟨_,h⟩
  have g2:∃y,ρ[k]? = some (some (.own y)):=by
   rcases iV h2 with⟨e,_,_⟩|⟨_,h⟩
   ·exact⟨x,by rw[e];exact hi⟩
   ·exact⟨_,h⟩
  obtain⟨y1,g1⟩:=g1
  obtain⟨y2,g2⟩:=g2
  exact p.dis j k y1 y2 b g1 g2 h3 h4
theorem Ev.upd {a:ay}{o:HO}(wa:W a):Ev W H W (upd H a o):=λb u e n _=>⟨by rw[aW (λz=>n (by rw[z];exact wa))];exact e,n⟩
end
section
variable {X:Cx}{σ:St}{H:Hp}{D:dW}{te:aF}{t u:aS}
noncomputable def dQ:aS:=λD ρ=>D.nx ρ
noncomputable def aN (t u:aS):aS:=λD ρ=>t { D with nx:=u D } ρ
theorem aE3 (h:LS X dQ D σ H):zQ D σ H:=by
 obtain⟨W,ρ,D',px,q,k⟩:=h
 exact k.nx W σ H ρ (Ev.refl _ _) px q
theorem aE4 (h:LS X (aN t u) D σ H):zR (LS X t) (LS X u) D σ H:=by
 obtain⟨W,ρ,D',px,q,k⟩:=h
 exact⟨W,ρ,_,px,q,λW' σ' H' ρ' e px' q'=>⟨W',ρ',D',px',q',k.step e⟩,k.rt,k.bk,k.ct⟩
noncomputable def w6:Tg->PV->Bool
 |.fr,_=>true
 |.nw,_=>true
 |_,x=>flat x
noncomputable def w9:Tg->PV->Prop
 |.rd,x=>flat x=true
 |_,_=>True
theorem M5 {K:ac}{H0 Hs H:Hp}{W:ay->Prop}{σ:St}{ρ:bG}{g:Tg}{x:PV}{v:V}(px:PX K H0 W σ ρ Hs)(n:w9 g x)(r:aE K (Mg H0 W Hs g) H v x):aE K (Ms H0 W (w6 g x)) H v x:=by
 cases g with
 |fr=>exact Nw.rep (g:=.fr) px trivial r
 |nw=>exact Nw.rep (g:=.nw) px trivial r
 |sh=>
  show aE K (Ms H0 W (flat x)) H v x;cases e:flat x with
  |true=>exact r.flat e
  |false=>exact r.same (aG.refl _) λ_ z=>z
 |rd=>exact r.flat n
noncomputable def bH (i:Nat)(te:aF):aS:=λD ρ=>te ρ λx g=>w9 g x/\D.nx (ρ.set i (some (.sh (w6 g x) x)))
theorem M6 {i:Nat}(h:LS X (bH i te) D σ H):lF (LE X te) (cW i) D σ H:=by
 obtain⟨W,ρ,D',px,q,k⟩:=h
 refine⟨W,ρ,_,px,q,?_⟩;rintro v H1 x g s r ⟨n,q⟩;exact k.nx W _ H1 _ (Ev.same s) ((px.mono s).setSh (M5 px n r)) q
noncomputable def M7:PV->Bool
 |.lst xs=>flats xs
 |.dK ps=>flats (ps.map (·.2))
 |.dT ps=>flats (ps.map (·.2))
 |_=>false
theorem aE5 {K:ac}{M:ay->Prop}{H:Hp}{v:V}{x:PV}(r:aE K M H v x)(o:M7 x=true):∃a,v = .ref a/\M a/\∀M',iC K M' H a x:=by
 cases r with
 |lst m e r=>exact⟨_,rfl,m,λ_=>⟨_,e,r.flat o⟩⟩
 |dK m e q r=>exact⟨_,rfl,m,λ_=>⟨_,e,q,r.flat o⟩⟩
 |dT m e q r=>exact⟨_,rfl,m,λ_=>⟨_,e,q,r.flat o⟩⟩
 |_=>cases o
noncomputable def iE (i:Nat)(te:aF):aS:=λD ρ=>te ρ λx g=>g = .fr/\M7 x=true/\D.nx (ρ.set i (some (.own x)))
theorem aE6 {i:Nat}(h:LS X (iE i te) D σ H):lF (LE X te) (cW i) D σ H:=by
 obtain⟨W,ρ,D',px,q,k⟩:=h
 refine⟨W,ρ,_,px,q,?_⟩;rintro v H1 x g s r ⟨rfl,o,q⟩
 obtain⟨a,rfl,m,w⟩:=aE5 r o
 exact k.nx _ _ H1 _ (Ev.own s m) (px.setOwn s m (w _)) q
noncomputable def wA (te:aF):aS:=λD ρ=>te ρ λ_ _=>D.nx ρ
theorem aE7 (h:LS X (wA te) D σ H):o6 (LE X te) D σ H:=by
 obtain⟨W,ρ,D',px,q,k⟩:=h
 exact⟨W,ρ,_,px,q,λv H1 x g s r q=>k.nx W σ H1 ρ (Ev.same s) (px.mono s) q⟩
noncomputable def bX (te:aF):aS:=λD ρ=>te ρ λx g=>Nw g x/\D.rt x
theorem aE8 (h:LS X (bX te) D σ H):uJ (LE X te) D σ H:=by
 obtain⟨W,ρ,D',px,q,k⟩:=h
 refine⟨W,ρ,_,px,q,?_⟩;rintro v H1 x g s r ⟨n,q⟩;exact k.rt v H1 x (px.same.trans s) ((Nw.rep px n r).same (aG.refl _) λ_ z=>z.2) q
noncomputable def Slot.nw:Slot->Prop
 |.own _=>True
 |.kp _ _ _=>True
 |.sh true _=>True
 |.sh false x=>flat x=true
noncomputable def jK (i:Nat):aS:=λD ρ=>∃m,ρ[i]? = some (some m)/\m.nw/\D.rt m.val
theorem aE9 {i:Nat}(h:LS X (jK i) D σ H):uJ (kI i) D σ H:=by
 obtain⟨W,ρ,D',px,⟨m,hi,n,q⟩,k⟩:=h
 obtain⟨v,ev,r⟩:=px.sl i _ hi
 refine⟨v,ev,k.rt v H _ px.same ?_ q⟩;cases m with
 |own x=>
  obtain⟨a,rfl,wa,r⟩:=r
  exact r.rep (λ_ z=>z.2) (px.wm a wa).1
 |sh g x=>
  cases g with
  |true=>exact aE.same r (aG.refl _) λ_ z=>z.2
  |false=>exact aE.flat n r
 |kp g x ks=>exact r.1.1.flat r.1.2
noncomputable def dL (c:cL)(t u:aS):aS:=λD ρ=>c ρ λb=>if b=true then t D ρ else u D ρ
theorem aF0 {c:cL}(h:LS X (dL c t u) D σ H):zT (LT X c) (LS X t) (LS X u) D σ H:=by
 obtain⟨W,ρ,D',px,q,k⟩:=h
 refine⟨W,ρ,_,px,q,λb H1 s q1=>?_⟩;cases b with
 |true=>exact bQ ⟨W,ρ,D',px.mono s,by simpa using q1,k.step (Ev.same s)⟩
 |false=>exact bE ⟨W,ρ,D',px.mono s,by simpa using q1,k.step (Ev.same s)⟩
noncomputable def rJ (c:cL)(tb:aS):aS:=λD ρ=>∃I:Nat->bG->Prop,(∃m,I m ρ)/\∀m ρ',I m ρ'->c ρ' λb=>if b=true then tb { D with nx:=λρ2=>∃m',m'<m/\I m' ρ2,ct:=λρ2=>∃m',m'<m/\I m' ρ2,bk:=D.nx } ρ' else D.nx ρ'
theorem aF1 {c:cL}{tb:aS}(h:LS X (rJ c tb) D σ H):zV (LT X c) (LS X tb) D σ H:=by
 obtain⟨W,ρ,D',px,⟨I,⟨m0,i0⟩,turn⟩,k⟩:=h
 refine⟨λm σ2 H2=>∃W2 ρ2,PX X.K X.H₀ W2 σ2 ρ2 H2/\Ev W H W2 H2/\I m ρ2,⟨m0,W,ρ,px,Ev.refl _ _,i0⟩,?_⟩;rintro m σ2 H2 ⟨W2,ρ2,px2,e2,i2⟩;refine⟨W2,ρ2,_,px2,turn m ρ2 i2,λb H3 s3 q3=>?_⟩;cases b with
 |true=>
  refine bQ ⟨λσ4 H4=>∃W4 ρ4,PX X.K X.H₀ W4 σ4 ρ4 H4/\Ev W H W4 H4/\∃m',m'<m/\I m' ρ4,λσ4 H4 ⟨W4,ρ4,a,b,m',c,d⟩=>⟨m',c,W4,ρ4,a,b,d⟩,W2,ρ2,_,px2.mono s3,by simpa using q3,?_⟩;have e3:Ev W H W2 H3:=e2.trans (Ev.same s3)
  exact⟨λW' σ' H' ρ' e p q=>⟨W',ρ',p,e3.trans e,q⟩,k.rt,λW' σ' H' ρ' e p q=>k.nx W' σ' H' ρ' (e3.trans e) p q,λW' σ' H' ρ' e p q=>⟨W',ρ',p,e3.trans e,q⟩⟩
 |false=>exact bE (k.nx W2 σ2 H3 ρ2 (e2.trans (Ev.same s3)) (px2.mono s3) (by simpa using q3))
end
theorem lim {n:Nat}(h:n<=16000000):n<=sizeLine:=by8 (rA h)
theorem aE.sqT {K:ac}{M:ay->Prop}{H:Hp}{v:V}{xs:List PV}(r:aE K M H v (.tup xs)):∃a us,v = .ref a/\H a=some (.tup us)/\Reps K M H us xs:=by
 cases r with
 |tup e r=>exact⟨_,_,rfl,e,r⟩
theorem aE.sqL {K:ac}{M:ay->Prop}{H:Hp}{v:V}{xs:List PV}(r:aE K M H v (.lst xs)):∃a us,v = .ref a/\M a/\H a=some (.lst us)/\Reps K M H us xs:=by
 cases r with
 |lst m e r=>exact⟨_,_,rfl,m,e,r⟩
theorem jI.sqL {K:ac}{H:Hp}{a:ay}{ns:ae}(h:jI K H a ns):aM K H a (ns.map V.int):=h.elim (λz=>.inl (.inr z)) .inr
noncomputable def jL:PV->Option (List PV)
 |.tup xs=>some xs
 |.lst xs=>some xs
 |.scr ns=>some (intz ns)
 |.kt xs=>some xs
 |.fL xs=>some xs
 |_=>none
theorem aE.seq {K:ac}{M:ay->Prop}{H:Hp}{v:V}{x:PV}{xs:List PV}(r:aE K M H v x)(e:jL x=some xs):∃a us,v = .ref a/\(aM K H a us∨aJ K H a us)/\Reps K M H us xs:=by
 cases r with
 |tup h r=>cases e;exact⟨_,_,rfl,.inr (aJ.of h),r⟩
 |lst m h r=>cases e;exact⟨_,_,rfl,.inl (aM.of h),r⟩
 |scr h=>cases e;exact⟨_,_,rfl,.inl h.sqL,Reps.intz _⟩
 |kt h r=>cases e;exact⟨_,_,rfl,.inr (.inr h),r⟩
 |fL h r=>cases e;exact⟨_,_,rfl,.inl (.inl (.inr ⟨_,h⟩)),r⟩
 |_=>cases e
section
variable {X:Cx}{σ:St}{H:Hp}{D:dW}{te ti to:aF}{t u:aS}{Q':VK}
theorem _root_.PP.PX.updL {K:ac}{H0:Hp}{W:ay->Prop}{σ:St}{ρ:bG}{H:Hp}{i:Nat}{a:ay}{x:PV}{us:List V}{ys:List PV}(p:PX K H0 W σ ρ H)(hi:ρ[i]? = some (some (.own x)))(ha:σ[i]? = some (some (.ref a)))(wa:W a)(r:Reps K (Ms H0 W true) (upd H a (.lst us)) us ys) :
  PX K H0 W σ (ρ.set i (some (.own (.lst ys)))) (upd H a (.lst us)):=p.updOwn hi ha wa rfl (y:=.lst ys) ⟨us,bZ,r⟩
noncomputable def mW (i:Nat)(te:aF):aS:=λD ρ=>∃xs,ρ[i]? = some (some (.own (.lst xs)))/\te ρ λx g=>Nw g x/\xs.length<16000000/\D.nx (ρ.set i (some (.own (.lst (xs++[x])))))
theorem aF2 {i:Nat}(h:LS X (mW i te) D σ H):o6 (v7 X.K "list" F0 (kI i) (iT (LE X te) kJ)) D σ H:=by
 obtain⟨W,ρ,D',px,⟨xs,hi,q⟩,k⟩:=h
 obtain⟨v,ev,a,rfl,wa,us,ea,r⟩:=px.sl i _ hi
 refine⟨_,ev,vR (aM.of ea),W,ρ,_,px,q,?_⟩;rintro w H1 x g s rx ⟨n,hl,q⟩;have ea1:=s _ _ ea;refine⟨a,us,w,rfl,rfl,ea1,rA (by rw[r.length];omega),?_⟩;refine k.nx W σ _ _ ((Ev.same s).trans (Ev.upd wa)) ((px.mono s).updL hi ev wa ?_) q;exact ((r.same s λ_ z=>z).append (.cons (Nw.rep px n rx) .nil)).keep (.upd ea1 rfl λb m=>⟨mV wa m,m⟩)
noncomputable def wB (i j:Nat):aS:=λD ρ=>∃xs y,ρ[i]? = some (some (.own (.lst (xs++[y]))))/\D.nx ((ρ.set i (some (.own (.lst xs)))).set j (some (.sh true y)))
theorem Reps.snoc_inv {K:ac}{M:ay->Prop}{H:Hp}{us:List V}{xs:List PV}{y:PV}(r:Reps K M H us (xs++[y])):∃vs v,us=vs++[v]/\Reps K M H vs xs/\aE K M H v y:=by
 have l:=r.length;have h1:=r.take xs.length;have h2:=r.drop xs.length;rw[List.take_left]at h1;rw[List.drop_left]at h2;generalize hd:us.drop xs.length=ds at h2;cases h2 with
 |cons q t=>
  cases t
  exact⟨_,_,by rw[<- hd,bs4],h1,q⟩
theorem aF3 {i j:Nat}(h:LS X (wB i j) D σ H):lF (E8 X.K "list" F3 (kI i)) (cW j) D σ H:=by
 obtain⟨W,ρ,D',px,⟨xs,y,hi,q⟩,k⟩:=h
 obtain⟨v,ev,a,rfl,wa,us,ea,r⟩:=px.sl i _ hi
 obtain⟨vs,w,rfl,r1,ry⟩:=r.snoc_inv
 refine⟨_,ev,vR (aM.of ea),a,_,w,rfl,rfl,ea,by simp,?_⟩;rw[List.dropLast_concat];have kp:gA (Ms X.H₀ W true) (Ms X.H₀ W true) H (upd H a (.lst vs)):=.upd ea rfl λb m=>⟨mV wa m,m⟩
 exact k.nx W _ _ _ (Ev.upd wa) ((px.updL hi ev wa (r1.keep kp)).setSh (ry.keep kp)) q
end
theorem Reps.atI {K:ac}{M:ay->Prop}{H:Hp}{us:List V}{xs:List PV}{i:Int}{z:PV}(r:Reps K M H us xs)(h:L2.atI xs i=some z):∃v,L2.atI us i=some v/\aE K M H v z:=by
 unfold L2.atI at h ⊢;rw[r.length];cases e:lJ xs.length i with
 |none=>rw[e]at h;cases h
 |some j=>rw[e]at h;exact r.at h
section
variable {X:Cx}{σ:St}{H:Hp}{Q':VK}{ta tb te:aF}{tr:cM}
noncomputable def wC:PV->Tg->PV->Tg->PK->Prop:=λx g y _ Q=>∃xs i z,jL x=some xs/\y = .int i/\L2.atI xs i=some z/\Q z g
theorem aF4:fG X wC (E6 X.K):=by
 rintro W Hs H u v x y g g' Q Q' s n r1 r2 ⟨xs,i,z,e,rfl,hz,q⟩ k;cases r2
 obtain⟨a,us,rfl,hs,r⟩:=r1.seq e
 obtain⟨v,hv,rv⟩:=r.atI hz
 rcases hs with hs|hs
 ·exact .inl ⟨a,us,i,v,rfl,rfl,hs,hv,k v H z g (aG.refl _) rv q⟩
 ·exact .inr (.inl ⟨a,us,i,v,rfl,rfl,hs,hv,k v H z g (aG.refl _) rv q⟩)
noncomputable def M8:PV->Option Nat
 |.tup xs=>some xs.length
 |.lst xs=>some xs.length
 |.scr ns=>some ns.length
 |.dK ps=>some ps.length
 |.kt xs=>some xs.length
 |.fL xs=>some xs.length
 |_=>none
noncomputable def mX:List PV->(PV->Prop)->Prop:=λxs Q=>∃x n,xs = [x]/\M8 x=some n/\Q (.int n)
theorem Reps.one {K:ac}{M:ay->Prop}{H:Hp}{vs:List V}{x:PV}(r:Reps K M H vs [x]):∃v,vs = [v]/\aE K M H v x:=by
 cases r with
 |cons r t=>cases t;exact⟨_,rfl,r⟩
theorem Reps.two {K:ac}{M:ay->Prop}{H:Hp}{vs:List V}{x y:PV}(r:Reps K M H vs [x,y]):∃v w,vs = [v,w]/\aE K M H v x/\aE K M H w y:=by
 cases r with
 |cons r t=>
  obtain⟨w,rfl,q⟩:=t.one
  exact⟨_,_,rfl,r,q⟩
theorem aF5:dZ X mX (λxs H Q=>(∃p ys,xs = [.ref p]/\(aM X.K H p ys∨aJ X.K H p ys)/\Q (.int ys.length) H)∨∃a kvs,xs = [V.ref a]/\H a=some (.dK kvs)/\Q (.int kvs.length) H):=by
 rintro H vs xs Q Q' r ⟨x,n,rfl,e,q⟩ k
 obtain⟨v,rfl,r1⟩:=r.one
 have fin:∀{m:Nat},m=n->Q' (.int m) H:=λ{m} z=>by rw[z];exact k _ _ _ (aG.refl _) (.int _) q
 cases r1 with
 |tup h r2=>cases e;exact .inl ⟨_,_,rfl,.inr (aJ.of h),fin r2.length⟩
 |lst m h r2=>cases e;exact .inl ⟨_,_,rfl,.inl (aM.of h),fin r2.length⟩
 |scr h=>cases e;exact .inl ⟨_,_,rfl,.inl h.sqL,fin (by rw[bo7])⟩
 |kt h r2=>cases e;exact .inl ⟨_,_,rfl,.inr (.inr h),fin r2.length⟩
 |fL h r2=>cases e;exact .inl ⟨_,_,rfl,.inl (.inl (.inr ⟨_,h⟩)),fin r2.length⟩
 |dK m h e' r=>
  cases e;refine .inr ⟨_,_,rfl,h,fin ?_⟩
  have:=congrArg List.length e'
  rw[bo7,bo7]at this;exact this
 |_=>cases e
noncomputable def rK:PV->Option (List PV)
 |.kt _=>none
 |x=>jL x
noncomputable def M9:List PV->(PV->Prop)->Prop:=λxs Q=>∃x ys,xs = [x]/\rK x=some ys/\flats ys=true/\Q (.tup ys)
noncomputable def rL:List PV->(PV->Prop)->Prop:=λxs Q=>∃x ys,xs = [x]/\jL x=some ys/\flats ys=true/\Q (.lst ys)
theorem aF6:dZ X (λxs Q=>M9 xs Q/\∀ns,xs≠[.scr ns]) (λxs H Q=>∃p ys,xs = [.ref p]/\((aM X.K H p ys/\∀l,H l=none->Q (.ref l) (upd H l (.tup ys)))∨(aJ X.K H p ys/\Q (.ref p) H))):=by
 rintro H vs xs Q Q' r ⟨⟨x,ys,rfl,e,f,q⟩,nsc⟩ k
 obtain⟨v,rfl,r1⟩:=r.one
 cases r1 with
 |tup h r2=>cases e;exact⟨_,_,rfl,.inr ⟨aJ.of h,k _ _ _ (aG.refl _) (.tup h (r2.flat f)) q⟩⟩
 |lst m h r2=>cases e;exact⟨_,_,rfl,.inl ⟨aM.of h,λl hl=>k _ _ _ (bK hl _) (.tup bZ ((r2.flat f).same (bK hl _) λ_ z=>z)) q⟩⟩
 |scr h=>exact absurd rfl (nsc _)
 |fL h r2=>cases e;exact⟨_,_,rfl,.inl ⟨.inl (.inr ⟨_,h⟩),λl hl=>k _ _ _ (bK hl _) (.tup bZ ((r2.flat f).same (bK hl _) λ_ z=>z)) q⟩⟩
 |_=>cases e
theorem aF7:dZ X rL (λxs H Q=>∃p ys,xs = [.ref p]/\(aM X.K H p ys∨aJ X.K H p ys)/\∀l,H l=none->Q (.ref l) (upd H l (.lst ys))):=by
 rintro H vs xs Q Q' r ⟨x,ys,rfl,e,f,q⟩ k
 obtain⟨v,rfl,r1⟩:=r.one
 obtain⟨a,us,rfl,hs,r2⟩:=r1.seq e
 exact⟨_,_,rfl,hs,λl hl=>k _ _ _ (bK hl _) (.lst hl bZ ((r2.flat f).same (bK hl _) λ_ z=>z)) q⟩
noncomputable def rM:List PV->(PV->Prop)->Prop:=λxs Q=>∃bs:List Bool,xs = [.lst (bs.map PV.bl)]/\Q (.bl (bs.all id))
theorem Reps.ofBls {K:ac}{M:ay->Prop}{H:Hp}:∀{ns:List Bool}{us:List V},Reps K M H us (ns.map PV.bl)->us=ns.map V.bl
 |[],_,.nil=>rfl
 |n::r,_,.cons q t=>by
  cases q;rw[Reps.ofBls t];rfl
theorem aF8:dZ X rM (λxs H Q=>∃(a:ay) (bs:List Bool),xs = [.ref a]/\aM X.K H a (bs.map V.bl)/\Q (.bl (bs.all id)) H):=by
 rintro H vs xs Q Q' r ⟨bs,rfl,q⟩ k
 obtain⟨v,rfl,r1⟩:=r.one
 obtain⟨a,us,rfl,_,h,r2⟩:=r1.sqL
 obtain rfl:=r2.ofBls
 exact⟨a,bs,rfl,aM.of h,k _ _ _ (aG.refl _) (.bl _) q⟩
noncomputable def hJ:List PV->(PV->Prop)->Prop:=λxs Q=>∃i j,xs = [.int i,.int j]/\Q (.int (if j<i then j else i))
noncomputable def kQ:List PV->(PV->Prop)->Prop:=λxs Q=>∃i j,xs = [.int i,.int j]/\Q (.int (if j>i then j else i))
theorem aF9:dZ X hJ (λxs H Q=>∃i j,xs = [.int i,.int j]/\Q (.int (if j<i then j else i)) H):=by
 rintro H vs xs Q Q' r ⟨i,j,rfl,q⟩ k
 obtain⟨v,w,rfl,r1,r2⟩:=r.two
 cases r1;cases r2
 exact⟨i,j,rfl,k _ _ _ (aG.refl _) (.int _) q⟩
theorem aG0:dZ X kQ (λxs H Q=>∃i j,xs = [.int i,.int j]/\Q (.int (if j>i then j else i)) H):=by
 rintro H vs xs Q Q' r ⟨i,j,rfl,q⟩ k
 obtain⟨v,w,rfl,r1,r2⟩:=r.two
 cases r1;cases r2
 exact⟨i,j,rfl,k _ _ _ (aG.refl _) (.int _) q⟩
noncomputable abbrev cD:=List PV->(PV->Prop)->Prop
noncomputable def oR (K:ac)(p:cD):Sp:=λvs H Q _=>∃xs Qp,Reps K (λ_=>True) H vs xs/\p xs Qp/\∀v H' x,aG H H'->aE K (λa=>H a=none) H' v x->Qp x->Q v H'
theorem aG1 {p:cD}{E:XK}(h:LE X (aD p tr) σ H Q'):uW (oR X.K p) [] E (LA X tr) σ H Q':=by
 obtain⟨W,ρ,Q,px,q,k⟩:=h
 refine⟨W,ρ,_,px,q,λvs H1 xs s1 r1 q1=>⟨_,_,by rw[bv0];exact r1.any,q1,λv H' x s2 r2 q2=>k v H' x .fr (s1.trans s2) (r2.same (aG.refl _) λ_ z=>s1.free z) q2⟩⟩
noncomputable def aG2:PV->Option Bool
 |.non=>some false
 |.bl b=>some b
 |.int i=>some (i != 0)
 |.tup xs=>some (!xs.isEmpty)
 |.lst xs=>some (!xs.isEmpty)
 |.dK ps=>some (!ps.isEmpty)
 |_=>none
noncomputable def rN (t:aF):cL:=λρ Q=>t ρ λx _=>∃b,aG2 x=some b/\Q b
theorem wD {α β:Type}:∀{l:List α}{m:List β},l.length=m.length->l.isEmpty=m.isEmpty
 |[],[],_=>rfl
 |_::_,_::_,_=>rfl
theorem aG3 {t:aF}{Qb:Bool->Hp->Prop}(h:LT X (rN t) σ H Qb):LE X t σ H λx H'=>∃k,uT X.K x H' k/\Qb k H':=by
 obtain⟨W,ρ,Q,px,q,k⟩:=h
 refine⟨W,ρ,_,px,q,?_⟩;rintro v H1 x g s r ⟨b,e,q⟩;refine⟨b,?_,k _ _ s q⟩;cases r with
 |non=>cases e;rfl
 |bl b=>cases e;rfl
 |int i=>cases e;rfl
 |str x=>cases e
 |tup h r=>cases e;exact .inr (.inl ⟨_,aJ.of h,by rw[wD r.length]⟩)
 |lst m h r=>cases e;exact .inl ⟨_,aM.of h,by rw[wD r.length]⟩
 |dK m h e' r=>
  cases e;refine .inr (.inr ⟨_,h,?_⟩)
  have:=congrArg List.length e'
  rw[bo7,bo7]at this;rw[wD this]
 |dT m h e' r=>cases e
 |scr h=>cases e
 |kt h r=>cases e
 |exc h e' c=>cases e
 |fK h e' r=>cases e
 |fT h e' r=>cases e
 |fL h r=>cases e
 |fn h=>cases e
 |ob=>cases e
noncomputable def wE:PV->Bool
 |.non=>true
 |_=>false
noncomputable def wF (neg:Bool):PV->Tg->PV->Tg->PK->Prop:=λx _ y _ Q=>y = .non/\Q (.bl (if neg=true then !wE x else wE x)) .fr
theorem aG4 {K:ac}{M:ay->Prop}{H:Hp}{v:V}{x:PV}(r:aE K M H v x):decide (v = .non)=wE x:=by
 cases r<;>rfl
theorem aG5:fG X (wF true) (λx y H Q=>y = .non/\Q (.bl (!decide (x = .non))) H):=by
 rintro W Hs H u v x y g g' Q Q' s n r1 r2 ⟨rfl,q⟩ k;cases r2
 exact⟨rfl,by rw[aG4 r1];exact k _ _ _ _ (aG.refl _) (.bl _) q⟩
end
structure kR (K:ac)(H0:Hp)(W:ay->Prop)(g:Bool)(H1:Hp)(J:It)(xs:List PV):Prop where
 go:∀W' H' i,Ev W H1 W' H'->i<xs.length->J.go i H'
 yld:∀W' H' i v H2,Ev W H1 W' H'->J.yld i H' v H2->i<xs.length->aG H' H2/\∃x,xs[i]? = some x/\aE K (Ms H0 W' g) H2 v x
 stop:∀W' H',Ev W H1 W' H'->J.stop xs.length H'
noncomputable abbrev eL:=bG->(List PV->Bool->Prop)->Prop
noncomputable def LI (X:Cx)(t:eL):TI:=λσ H R=>∃(W:ay->Prop) (ρ:bG) (Q:List PV->Bool->Prop),PX X.K X.H₀ W σ ρ H/\t ρ Q/\∀J H1 xs g,aG H H1->kR X.K X.H₀ W g H1 J xs->Q xs g->R J H1
theorem Ev.keep {H0:Hp}{W W':ay->Prop}{H H':Hp}{g:Bool}(e:Ev W H W' H')(tw:∀a,W a->∃o,H a=some o/\dY o=true):gA (Ms H0 W g) (Ms H0 W' g) H H':=by
 have m:∀{a:ay}{o:HO},Ms H0 W g a->H a=some o->L7 o=false->Ms H0 W' g a/\H' a=some o:=λ{a o} z h hk=>by
  cases g with
  |true=>
   obtain⟨h1,h2⟩:=e a _ h z.1 hk
   exact⟨⟨h2,z.2⟩,h1⟩
  |false=>
   obtain⟨h1,h2⟩:=e a _ h z hk
   exact⟨h2,h1⟩
 refine⟨λa _ z h=>m z h rfl,λa _ z h=>m z h rfl,λa _ z h=>m z h rfl,λa _ h=>(e a _ h (λz=>?_) rfl).1,λa _ _ h f=>(e a _ h (λz=>?_) f).1⟩
 ·obtain⟨o,h',mu⟩:=tw a z;rw[h]at h';cases h';cases mu
 ·obtain⟨o,h',mu⟩:=tw a z;rw[h]at h';cases h';cases mu
section
variable {X:Cx}{σ:St}{H:Hp}{te:aF}{tr:cM}{R:It→Hp→Prop}
noncomputable def N0 (K:ac)(tl:TE):TI:=λσ H R=>tl σ H λx H1=>∃a,x = .ref a/\((∃xs,aM K H1 a xs/\R (uN K a) H1)∨(∃xs,aJ K H1 a xs/\R (uO K a) H1))
noncomputable def rO:Tg->List PV->Bool
 |.fr,_=>true
 |.nw,_=>true
 |_,xs=>flats xs
noncomputable def e8 (te:aF):eL:=λρ Q=>te ρ λx g=>∃xs,jL x=some xs/\(g = .rd->flat x=true)/\Q xs (rO g xs)
theorem wG {K:ac}{H0:Hp}{W:ay->Prop}{g:Bool}{H1:Hp}{a:ay}{us:List V}{xs:List PV}(tw:∀a,W a->∃o,H1 a=some o/\dY o=true)(ha:∀W' H',Ev W H1 W' H'->aM K H' a us)(r:Reps K (Ms H0 W g) H1 us xs):kR K H0 W g H1 (uN K a) xs:=by
 have lr:=r.length;refine⟨λW' H' i e hi=>⟨us,us[i]'(by omega),ha W' H' e,by simp⟩,λW' H' i v H2 e y hi=>?_,λW' H' e=>⟨us,ha W' H' e,by omega⟩⟩
 obtain⟨rfl,y⟩:=y
 obtain⟨x,hx,rx⟩:=r.get (y us (ha W' _ e))
 exact⟨aG.refl _,x,hx,rx.keep (e.keep tw)⟩
theorem N1 {K:ac}{H0:Hp}{W:ay->Prop}{g:Bool}{H1:Hp}{a:ay}{us:List V}{xs:List PV}(tw:∀a,W a->∃o,H1 a=some o/\dY o=true)(ha:∀W' H',Ev W H1 W' H'->aJ K H' a us)(r:Reps K (Ms H0 W g) H1 us xs):kR K H0 W g H1 (uO K a) xs:=by
 have lr:=r.length;refine⟨λW' H' i e hi=>⟨us,us[i]'(by omega),ha W' H' e,by simp⟩,λW' H' i v H2 e y hi=>?_,λW' H' e=>⟨us,ha W' H' e,by omega⟩⟩
 obtain⟨rfl,y⟩:=y
 obtain⟨x,hx,rx⟩:=r.get (y us (ha W' _ e))
 exact⟨aG.refl _,x,hx,rx.keep (e.keep tw)⟩
theorem lQ {K:ac}{H0 Hs H:Hp}{W:ay->Prop}{σ:St}{ρ:bG}{g:Tg}{us:List V}{xs:List PV}(px:PX K H0 W σ ρ Hs)(hg:g = .rd->flats xs=true)(r:Reps K (Mg H0 W Hs g) H us xs):Reps K (Ms H0 W (rO g xs)) H us xs:=by
 cases g with
 |fr=>exact r.same (aG.refl _) λ_ z=>px.new z
 |nw=>exact r.same (aG.refl _) λ_ z=>z
 |sh=>
  show Reps K (Ms H0 W (flats xs)) H us xs;cases e:flats xs with
  |true=>exact r.flat e
  |false=>exact r.same (aG.refl _) λ_ z=>z
 |rd=>exact r.flat (hg rfl)
theorem aG6 (h:LI X (e8 te) σ H R):N0 X.K (LE X te) σ H R:=by
 obtain⟨W,ρ,Q,px,q,k⟩:=h
 refine⟨W,ρ,_,px,q,?_⟩;rintro v H1 x g s r ⟨xs,e,hg,q⟩;have px1:=px.mono s;have tw:∀a,W a->∃o,H1 a=some o/\dY o=true:=λa z=>(px1.wm a z).2
 cases r with
 |tup h r=>
  cases e;refine⟨_,rfl,.inr ⟨_,aJ.of h,k _ _ _ _ s (N1 tw (λW' H' e=>aJ.of (e _ _ h (λz=>?_) rfl).1) (lQ px (λz=>by have:=hg z;unfold flat at this;exact this) r)) q⟩⟩
  obtain⟨o,h',mu⟩:=tw _ z;rw[h]at h';cases h';cases mu
 |@lst a us xs' m h r=>
  cases e;have wa:¬W a:=by
   cases g with
   |fr=>exact (px.new m).1
   |nw=>exact m.1
   |sh=>exact m
   |rd=>have:=hg rfl;unfold flat at this;cases this
  exact⟨_,rfl,.inl ⟨_,aM.of h,k _ _ _ _ s (wG tw (λW' H' e=>aM.of (e _ _ h wa rfl).1) (lQ px (λz=>by have:=hg z;unfold flat at this;cases this) r)) q⟩⟩
 |scr h=>
  cases e;refine⟨_,rfl,.inl ⟨_,h.sqL,k _ _ _ _ s (wG tw (λW' H' e=>(jI.keep (λa o u hz f=>(e _ _ hz (λz=>?_) f).1) h).sqL) (lQ (g:=g) px (λz=>mR _) (Reps.intz _))) q⟩⟩
  obtain⟨o,h',mu⟩:=tw _ z;rw[hz]at h';cases h';cases mu
 |kt h r=>
  cases e
  exact⟨_,rfl,.inr ⟨_,.inr h,k _ _ _ _ s (N1 tw (λW' H' e=>.inr h) (lQ px (λz=>by have:=hg z;unfold flat at this;exact this) r)) q⟩⟩
 |fL h r=>
  cases e;refine⟨_,rfl,.inl ⟨_,.inl (.inr ⟨_,h⟩),k _ _ _ _ s (wG tw (λW' H' e=>.inl (.inr ⟨_,(e _ _ h (λz=>?_) rfl).1⟩)) (lQ px (λz=>by have:=hg z;unfold flat at this;exact this) r)) q⟩⟩
  obtain⟨o,h',mu⟩:=tw _ z;rw[h]at h';cases h';cases mu
 |_=>cases e
noncomputable def jM (lo:Int)(n:Nat):List PV:=(List.range n).map λ(i:Nat)=>PV.int (lo+(i:Int))
theorem mY (lo:Int)(n:Nat):(jM lo n).length=n:=by unfold jM;rw[bo7,bC9]
theorem N3 {lo:Int}{n i:Nat}(h:i<n):(jM lo n)[i]? = some (.int (lo+i)):=by unfold jM;rw[bq6,List.getElem?_range h];rfl
noncomputable def rP (te:aF):eL:=λρ Q=>te ρ λx _=>∃j:Int,x = .int j/\-1000000<=j/\j<=1000000/\Q (jM 0 j.toNat) true
noncomputable def rQ (ta tb:aF):eL:=λρ Q=>ta ρ λx _=>tb ρ λy _=>∃i j:Int,x = .int i/\y = .int j/\(-1000000<=i/\i<=1000000/\-1000000<=j/\j<=1000000)/\Q (jM i (j-i).toNat) true
theorem N4 {K:ac}{H0:Hp}{W:ay->Prop}{H1:Hp}(lo:Int)(n:Nat):kR K H0 W true H1 (o9 lo n) (jM lo n):=by
 refine⟨λW' H' i e hi=>by rw[mY]at hi;exact hi,λW' H' i v H2 e y hi=>?_,λW' H' e=>by show n<=(jM lo n).length;rw[mY];exact bp7 _⟩;rw[mY]at hi
 obtain⟨rfl,rfl⟩:=y
 exact⟨aG.refl _,_,N3 hi,.int _⟩
theorem aG7 (h:LI X (rP te) σ H R):zY (iT (LE X te) kJ) σ H R:=by
 obtain⟨W,ρ,Q,px,q,k⟩:=h
 refine⟨W,ρ,_,px,q,?_⟩;rintro v H1 x g s r ⟨j,rfl,h1,h2,q⟩;cases r
 exact⟨j,rfl,by omega,by omega,k _ _ _ _ s (N4 0 j.toNat) q⟩
theorem aG8 {ta tb:aF}(h:LI X (rQ ta tb) σ H R):zZ (iT (LE X ta) (iT (LE X tb) kJ)) σ H R:=by
 obtain⟨W,ρ,Q,px,q,k⟩:=h
 refine⟨W,ρ,_,px,q,λv H1 x g s r q=>⟨W,ρ,_,px.mono s,q,?_⟩⟩;rintro w H2 y g' s2 r2 ⟨i,j,rfl,rfl,h,q⟩;cases r;cases r2
 exact⟨i,j,rfl,by omega,k _ _ _ _ (s.trans s2) (N4 i (j-i).toNat) q⟩
end
noncomputable abbrev hU:=PV->Bool->bG->(bG->Prop)->Prop
noncomputable def kS (K:ac)(own:Nat->Prop)(p:hU)(t:TG):Prop:=∀(H0:Hp) (W:ay->Prop) (σ:St) (ρ:bG) (H:Hp) (v:V) (x:PV) (g:Bool) (Q:bG->Prop) (Q':St->Hp->Prop),
 PX K H0 W σ ρ H->aE K (Ms H0 W g) H v x->p x g ρ Q->(∀σ' ρ',PX K H0 W σ' ρ' H->(∀i,¬own i->σ'[i]? = σ[i]?)->σ'.length=σ.length->Q ρ'->Q' σ' H)->t v σ H Q'
noncomputable def cN (i:Nat):hU:=λx g ρ Q=>Q (ρ.set i (some (.sh (g||flat x) x)))
theorem iF {K:ac}{H0 H:Hp}{W:ay->Prop}{v:V}{x:PV}{g:Bool}(r:aE K (Ms H0 W g) H v x):aE K (Ms H0 W (g||flat x)) H v x:=by
 cases g with
 |true=>exact r
 |false=>
  show aE K (Ms H0 W (flat x)) H v x;cases e:flat x with
  |true=>exact r.flat e
  |false=>exact r
theorem rR (K:ac)(i:Nat):kS K (· = i) (cN i) (cW i):=by
 intro H0 W σ ρ H v x g Q Q' px r q k;exact k _ _ (px.setSh (iF r)) (λj hj=>by rw[br9 (Ne.symm hj)]) (bA5 ..) q
noncomputable def mZ (i j:Nat):hU:=λx g ρ Q=>∃y z,x = .tup [y,z]/\Q ((ρ.set i (some (.sh (g||flat y) y))).set j (some (.sh (g||flat z) z)))
theorem N5 (K:ac)(i j:Nat):kS K (λk=>k=i∨k=j) (mZ i j) (o8 K 2 (fU (cW i) (fU (cW j) mJ))):=by
 intro H0 W σ ρ H v x g Q Q' px r q k
 obtain⟨y,z,rfl,q⟩:=q
 obtain⟨a,us,rfl,h,r⟩:=r.sqT
 obtain⟨u1,u2,rfl,r1,r2⟩:=r.two
 refine⟨a,_,rfl,aJ.of h,rfl,u1,_,rfl,u2,_,rfl,rfl,k _ _ ((px.setSh (iF r1)).setSh (iF r2)) (λk hk=>?_) (by rw[bA5,bA5]) q⟩;rw[br9 (λe=>hk (.inr e.symm)),br9 (λe=>hk (.inl e.symm))]
section
variable {X:Cx}{σ:St}{H:Hp}{D:dW}
noncomputable def fH (ti:eL)(p:hU)(tb:aS):aS:=λD ρ=>ti ρ λxs g=>∃I:Nat->bG->Prop,I 0 ρ/\(∀i x ρ',xs[i]? = some x->I i ρ'->p x g ρ' λρ2=>tb { D with nx:=I (i+1),ct:=I (i+1),bk:=D.nx } ρ2)/\∀ρ',I xs.length ρ'->D.nx ρ'
theorem aG9 {ti:eL}{p:hU}{g:TG}{tb:aS}{own:Nat->Prop}(hg:kS X.K own p g)(h:LS X (fH ti p tb) D σ H):A0 (LI X ti) g (LS X tb) D σ H:=by
 obtain⟨W,ρ,D',px,q,k⟩:=h
 refine⟨W,ρ,_,px,q,?_⟩;rintro J H1 xs gb s it ⟨I,i0,turn,fin⟩;refine⟨λi m σ2 H2=>m=xs.length-i/\i<=xs.length/\∃W2 ρ2,PX X.K X.H₀ W2 σ2 ρ2 H2/\Ev W H1 W2 H2/\I i ρ2,⟨xs.length,by omega,bt5 _,W,ρ,px.mono s,Ev.refl _ _,i0⟩,?_⟩;rintro i m σ2 H2 ⟨rfl,hi,W2,ρ2,px2,e2,i2⟩;have e0:Ev W H W2 H2:=(Ev.same s).trans e2;by_cases hlt:i<xs.length
 ·refine .inr ⟨it.go W2 H2 i e2 hlt,λσ3 H3=>∃W3 ρ3,PX X.K X.H₀ W3 σ3 ρ3 H3/\Ev W H1 W3 H3/\I (i+1) ρ3,λσ3 H3 ⟨W3,ρ3,a,b,c⟩=>⟨xs.length-(i+1),by omega,rfl,hlt,W3,ρ3,a,b,c⟩,λv H3 y=>?_⟩
  obtain⟨s3,x,hx,rx⟩:=it.yld W2 H2 i v H3 e2 y hlt
  refine hg X.H₀ W2 σ2 ρ2 H3 v x gb _ _ (px2.mono s3) rx (turn i x ρ2 hx i2) λσ4 ρ4 px4 _ _ q4=>?_
  have e3:Ev W H1 W2 H3:=e2.trans (Ev.same s3);have e3':Ev W H W2 H3:=e0.trans (Ev.same s3)
  exact⟨W2,ρ4,_,px4,q4,λW' σ' H' ρ' e p q=>⟨W',ρ',p,e3.trans e,q⟩,k.rt,λW' σ' H' ρ' e p q=>k.nx W' σ' H' ρ' (e3'.trans e) p q,λW' σ' H' ρ' e p q=>⟨W',ρ',p,e3.trans e,q⟩⟩
 ·have e:i=xs.length:=by omega
  subst e;exact .inl ⟨it.stop W2 H2 e2,k.nx W2 σ2 H2 ρ2 e0 px2 (fin ρ2 i2)⟩
end
noncomputable def Slot.blk:Slot->Slot
 |.kp _ x ks=>.kp false x ks
 |.sh _ x=>.sh false x
 |.own x=>.sh false x
noncomputable def nA (fr:List (Option Nat))(ρ:bG):bG:=fr.map λo=>o.bind λj=>(ρ[j]?).join.map Slot.blk
theorem lO.any {K:ac}{H0 H:Hp}{a:ay}{st un:List PV}(h:lO K H0 H a st un):lO K (λ_=>none) H a st un:=by
 obtain⟨C,dx,l1,l2,us1,us2,h1,h2,h⟩:=h
 exact⟨C,dx,l1,l2,us1,us2,h1,⟨rfl,rfl,rfl,rfl⟩,h⟩
theorem gN.any {K:ac}{H0 H:Hp}{ks:List (ay×List PV×List PV)}(h:gN K H0 H ks):gN K (λ_=>none) H ks:=⟨λk hk=>(h.1 k hk).any,h.2⟩
theorem Slot.blk_own {m:Slot}{x:PV}(h:m.blk = .own x):False:=by
 cases m<;>cases h
theorem aH0 {K:ac}{H0 H1 H1' H':Hp}{W W':ay->Prop}{v:V}{m:Slot}(r:rC K H0 W H1 v m)(k:gA (λ_=>False) (λ_=>False) H1 H')(f:∀b o,H1 b=some o->dY o=false->H' b=some o)(rv:aE K (λa=>¬W' a) H' v m.val):rC K H1' W' H' v m.blk:=by
 cases m with
 |sh g x=>exact rv
 |own x=>exact rv
 |kp g x ks=>exact⟨⟨r.1.1.keep k,r.1.2⟩,r.2.any.keep k f⟩
noncomputable def lR (D:ay):ay->Prop:=λa=>a=D
theorem aH1 {K:ac}{H0:Hp}{W:ay->Prop}{σ:St}{ρ:bG}{H1 H':Hp}{D:ay}{acc:List V}{fr:List (Option Nat)}(px:PX K H0 W σ ρ H1)(hD:H1 D=none)(s:aG H1 H')(ha:H' D=some (.lst acc)) :
  PX K H1 (lR D) (gK fr σ) (nA fr ρ) H':=by
 have old:∀{a:ay}{o:HO},H1 a=some o->a≠D:=λ{a o} e z=>by rw[z,hD]at e;cases e
 refine⟨by unfold gK nA;rw[bo7,bo7],s,λa z=>by cases z;exact⟨hD,_,ha,rfl⟩,λi m h=>?_,λi j x y a h1=>?_⟩
 ·unfold nA at h
  rw[bq6]at h;cases ef:fr[i]? with
  |none=>rw[ef]at h;cases h
  |some o=>
   rw[ef]at h;cases o with
   |none=>cases h
   |some j=>
    have h:some ((ρ[j]?).join.map Slot.blk)=some (some m):=h;cases er:ρ[j]? with
    |none=>rw[er]at h;cases h
    |some o=>
     rw[er]at h;cases o with
     |none=>cases h
     |some m0=>
      cases h
      obtain⟨v,ev,r⟩:=px.sl j m0 er
      refine⟨v,?_,?_⟩
      ·unfold gK
       rw[bq6,ef];show some ((σ[j]?).join)=_;rw[ev];rfl
      ·have r':aE K (λ_=>True) H1 v m0.val:=(L8 (Hs:=H1) r).same (aG.refl _) λ_ _=>trivial
       refine aH0 r (.same s λ_ z=>z) (λ_ _ e _=>s _ _ e) ?_;exact r'.keep ⟨λa _ _ e=>⟨old e,s _ _ e⟩,λa _ _ e=>⟨old e,s _ _ e⟩,λa _ _ e=>⟨old e,s _ _ e⟩,λ_ _ e=>s _ _ e,λ_ _ _ e _=>s _ _ e⟩
 ·unfold nA at h1
  rw[bq6]at h1;cases ef:fr[i]? with
  |none=>rw[ef]at h1;cases h1
  |some o=>
   rw[ef]at h1;cases o with
   |none=>cases h1
   |some j=>
    have h1:some ((ρ[j]?).join.map Slot.blk)=some (some (Slot.own x)):=h1;cases er:ρ[j]? with
    |none=>rw[er]at h1;cases h1
    |some o=>
     rw[er]at h1;cases o with
     |none=>cases h1
     |some m0=>exact (Slot.blk_own (br7 (br7 h1))).elim
section
variable {X:Cx}{σ:St}{H:Hp}{Q':VK}
noncomputable abbrev _root_.L2.Cx.frm (X:Cx)(H1:Hp):Cx:={ X with H₀:=H1 }
noncomputable def eV (ti:eL)(fr:List (Option Nat))(p:hU)(tc:cL)(te:aF):aF:=λρ Q=>ti ρ λxs g=>xs.length<=16000000/\∃I:Nat->List PV->Prop,I 0 []/\
 (∀i x acc,xs[i]? = some x->I i acc->p x false (nA fr ρ) λρ2=>tc ρ2 λb=>if b=true then te ρ2 λy gy=>Nw gy y/\I (i+1) (acc++[y]) else I (i+1) acc)/\∀acc,I xs.length acc->Q (.lst acc) .fr
theorem rS {ti:eL}{fr:List (Option Nat)}{p:hU}{g:TG}{tc:cL}{te:aF}{own:Nat->Prop}(hg:kS X.K own p g)(ho:∀i,own i->fr[i]? = some none)(h:LE X (eV ti fr p tc te) σ H Q') :
  vI (LI X ti) fr (λ_=>g) (λH1=>LT (X.frm H1) tc) (λH1=>LE (X.frm H1) te) σ H Q':=by
 obtain⟨W,ρ,Q,px,q,k⟩:=h
 refine⟨W,ρ,_,px,q,?_⟩;rintro J H1 xs gb s it ⟨hl,I,i0,turn,fin⟩ D hD;have px1:=px.mono s;refine⟨λi m acc H'=>m=xs.length-i/\i<=xs.length/\aG H1 H'/\H' D=some (.lst acc)/\∃ys,Reps X.K (Ms H1 (lR D) true) H' acc ys/\ys.length<=i/\I i ys,⟨xs.length,by omega,bt5 _,bK hD _,bZ,[],.nil,bp7 _,i0⟩,?_⟩;rintro i m acc H' ⟨rfl,hi,sm,ha,ys,ry,hy,iy⟩;refine⟨ha,?_⟩;have ev:Ev W H1 (mU W D) H':=Ev.own sm hD;by_cases hlt:i<xs.length
 ·refine .inr ⟨it.go _ H' i ev hlt,λv H2 y=>?_⟩
  obtain⟨s2,x,hx,rx⟩:=it.yld _ H' i v H2 ev y hlt
  have ha2:=s2 _ _ ha;have pxb:PX X.K H1 (lR D) (gK fr σ) (nA fr ρ) H2:=aH1 px1 hD (sm.trans s2) ha2;have rx':aE X.K (Ms H1 (lR D) false) H2 v x:=rx.same (aG.refl _) λa z=>by
   cases gb with
   |true=>exact λe=>z.1 (.inr e)
   |false=>exact λe=>z (.inr e)
  refine hg H1 (lR D) _ _ H2 v x false _ _ pxb rx' (turn i x ys hx iy) λσ2 ρ2 px2 hown aj q2=>⟨⟨aj.symm,λj w e=>?_⟩,?_⟩
  ·by_cases oj:own j
   ·have:=ho j oj
    unfold gK at e;rw[bq6,this]at e;cases e
   ·rw[hown j oj];exact e
  ·refine⟨lR D,ρ2,_,px2,q2,λb H4 s4 q4=>?_⟩
   have ha4:=s4 _ _ ha2;have sm4:=(sm.trans s2).trans s4;cases b with
   |false=>
    refine bE ⟨xs.length-(i+1),by omega,rfl,hlt,sm4,ha4,ys,ry.same (s2.trans s4) λ_ z=>z,by omega,by simpa using q4⟩
   |true=>
    refine bQ ⟨lR D,ρ2,_,px2.mono s4,by simpa using q4,?_⟩;rintro w H5 y gy s5 ryy ⟨nw,q5⟩;have ha5:=s5 _ _ ha4;have lr:=ry.length;refine⟨ha5,rA (by omega),xs.length-(i+1),by omega,rfl,hlt,λb o e=>?_,bZ,ys++[y],?_,by rw[br0,bu5];omega,q5⟩
    ·rw[aW (λz=>by rw[z,hD]at e;cases e)]
     exact s5 _ _ (sm4 _ _ e)
    ·exact ((ry.same ((s2.trans s4).trans s5) λ_ z=>z).append (.cons (Nw.rep (px2.mono s4) nw ryy) .nil)).keep (.upd ha5 rfl λb m=>⟨m.1,m⟩)
 ·have e:i=xs.length:=by omega
  subst e;refine .inl ⟨it.stop _ H' ev,k _ H' _ .fr (s.trans sm) (.lst (s.free hD) ha (ry.same (aG.refl _) λ_ z=>s.free z.2)) (fin ys iy)⟩
noncomputable def dM:cL:=λ_ Q=>Q true
theorem aH2 {Qb:Bool->Hp->Prop}(h:LT X dM σ H Qb):J2 σ H Qb:=by
 obtain⟨W,ρ,Q,px,q,k⟩:=h
 exact k _ _ (aG.refl _) q
end
section
variable {κ:Type}[DecidableEq κ]
noncomputable def cA (ps:List (κ×PV))(k:κ):Option PV:=(ps.find? λp=>decide (p.1=k)).map (·.2)
noncomputable def dR (ps:List (κ×PV))(k:κ)(x:PV):List (κ×PV):=if (ps.any λp=>decide (p.1=k))=true then ps.map (λp=>if p.1=k then (p.1,x) else p) else ps++[(k,x)]
variable {K:ac}{M:ay→Prop}{H:Hp}
theorem jN (k:κ):∀{kvs:List (κ×V)}{ps:List (κ×PV)},kvs.map (·.1)=ps.map (·.1)->Reps K M H (kvs.map (·.2)) (ps.map (·.2))->(cA ps k=none->fD kvs k=none)/\∀x,cA ps k=some x->∃v,fD kvs k=some v/\aE K M H v x
 |[],[],_,_=>⟨λ_=>rfl,λx h=>by cases h⟩
 |[],_::_,e,_=>by cases e
 |_::_,[],e,_=>by cases e
 |(k1,v)::kvs,(k2,x)::ps,e,r=>by
  injection e with e1 e2
  have e1:k1=k2:=e1;subst e1;cases r with
  |cons r t=>
   obtain⟨h1,h2⟩:=jN k e2 t
   unfold cA fD at h1 h2 ⊢;by_cases e:k1=k
   ·simp only[bC2,e,decide_true,Option.map_some]
    exact⟨λz=>(by cases z),λy z=>(by cases z;exact⟨v,rfl,r⟩)⟩
   ·simp only[bC2,e,decide_false]
    exact⟨h1,h2⟩
theorem aH3 (k:κ){kvs:List (κ×V)}{ps:List (κ×PV)}(e:kvs.map (·.1)=ps.map (·.1)):(kvs.any λp=>decide (p.1=k))=ps.any λp=>decide (p.1=k):=by
 have h1:(kvs.any λp=>decide (p.1=k))=(kvs.map (·.1)).any λz=>decide (z=k):=by rw[List.any_map];rfl
 have h2:(ps.any λp=>decide (p.1=k))=(ps.map (·.1)).any λz=>decide (z=k):=by rw[List.any_map];rfl
 rw[h1,h2,e]
theorem N6 (k:κ){w:V}{y:PV}(q:aE K M H w y):∀{kvs:List (κ×V)}{ps:List (κ×PV)},kvs.map (·.1)=ps.map (·.1)->Reps K M H (kvs.map (·.2)) (ps.map (·.2))->
  (kvs.map λkv=>if kv.1=k then (kv.1,w) else kv).map (·.1)=(ps.map λkv=>if kv.1=k then (kv.1,y) else kv).map (·.1)/\Reps K M H ((kvs.map λkv=>if kv.1=k then (kv.1,w) else kv).map (·.2)) ((ps.map λkv=>if kv.1=k then (kv.1,y) else kv).map (·.2))
 |[],[],_,_=>⟨rfl,.nil⟩
 |[],_::_,e,_=>by cases e
 |_::_,[],e,_=>by cases e
 |(k1,v)::kvs,(k2,x)::ps,e,r=>by
  injection e with e1 e2
  have e1:k1=k2:=e1;subst e1;cases r with
  |cons r t=>
   obtain⟨h1,h2⟩:=N6 k q e2 t
   by_cases e:k1=k
   ·simp only[bv2,e,if_true]
    exact⟨by rw[h1],.cons q h2⟩
   ·simp only[bv2,e,bu2]
    exact⟨by rw[h1],.cons r h2⟩
theorem aH4 (k:κ){w:V}{y:PV}(q:aE K M H w y){kvs:List (κ×V)}{ps:List (κ×PV)}(e:kvs.map (·.1)=ps.map (·.1))(r:Reps K M H (kvs.map (·.2)) (ps.map (·.2))) :
  (fY kvs k w).map (·.1)=(dR ps k y).map (·.1)/\Reps K M H ((fY kvs k w).map (·.2)) ((dR ps k y).map (·.2)):=by
 unfold fY dR;rw[aH3 k e];split
 ·exact N6 k q e r
 ·rw[br8,br8,br8,br8,e]
  exact⟨rfl,r.append (.cons q .nil)⟩
end
noncomputable def kP:aI->PV
 |.inl i=>.int i
 |.inr x=>.str x
theorem N7 {K:ac}{M:ay->Prop}{H:Hp}{v:V}{k:aI}(r:aE K M H v (kP k)):v=kV k:=by
 cases k with
 |inl i=>cases r;rfl
 |inr x=>cases r;rfl
theorem rT {K:ac}{M:ay->Prop}{H:Hp}:∀{ks:List aI}{us:List V},Reps K M H us (ks.map kP)->us=ks.map kV
 |[],_,.nil=>rfl
 |k::r,_,.cons q t=>by rw[N7 q,rT t];rfl
noncomputable def N8:PV->PV
 |.fK ps=>.dK ps
 |.fT ps=>.dT ps
 |x=>x
noncomputable def wH (x y:PV)(o:Option PV):Prop:=(∃ps k,N8 x = .dK ps/\y=kP k/\o=cA ps k)∨(∃ps k,N8 x = .dT ps/\y = .tup (k.map kP)/\o=cA ps k)
theorem wI {K:ac}{M M2:ay->Prop}{H:Hp}{v w:V}{x y:PV}{o:Option PV}(h:wH x y o)(rx:aE K M H v x)(ry:aE K M2 H w y):∃a o',v = .ref a/\fZ H a w o'/\(o=none->o'=none)/\∀z,o=some z->∃u,o'=some u/\aE K M H u z:=by
 rcases h with⟨ps,k,ex,rfl,rfl⟩|⟨ps,k,ex,rfl,rfl⟩
 ·obtain rfl:=N7 ry
  cases rx with
  |dK m h e r=>cases ex;exact⟨_,_,rfl,fZ.k h,(jN k e r).1,(jN k e r).2⟩
  |fK h e r=>cases ex;exact⟨_,_,rfl,.inl ⟨_,k,.inr ⟨_,h⟩,rfl,rfl⟩,(jN k e r).1,(jN k e r).2⟩
  |_=>cases ex
 ·obtain⟨b,us,rfl,hb,rb⟩:=ry.sqT
  obtain rfl:=rT rb;cases rx with
  |dT m h e r=>cases ex;exact⟨_,_,rfl,fZ.t h hb,(jN k e r).1,(jN k e r).2⟩
  |fT h e r=>cases ex;exact⟨_,_,rfl,.inr ⟨_,k,b,.inr ⟨_,h⟩,rfl,hb,rfl⟩,(jN k e r).1,(jN k e r).2⟩
  |_=>cases ex
section
variable {X:Cx}{σ:St}{H:Hp}{D:dW}{tk td te:aF}{Q':VK}
noncomputable def oS (neg:Bool)(tk td:aF):aF:=λρ Q=>tk ρ λy _=>td ρ λx _=>∃o,wH x y o/\Q (.bl (if neg=true then !o.isSome else o.isSome)) .fr
theorem aH5 {α β:Type}{o:Option α}{o':Option β}{P:β->α->Prop}(h1:o=none->o'=none)(h2:∀z,o=some z->∃u,o'=some u/\P u z):o'.isSome=o.isSome:=by
 cases o with
 |none=>rw[h1 rfl];rfl
 |some z=>obtain⟨u,e,_⟩:=h2 z rfl;rw[e];rfl
theorem aH6 (h:LE X (oS true tk td) σ H Q'):G2 (LE X tk) (LE X td) σ H Q':=by
 obtain⟨W,ρ,Q,px,q,k⟩:=h
 refine⟨W,ρ,_,px,q,λw H1 y g s r q=>⟨W,ρ,_,px.mono s,q,?_⟩⟩;rintro v H2 x g' s2 r2 ⟨o,ak,q⟩
 obtain⟨a,o',rfl,dg,h1,h2⟩:=wI ak r2 (r.same s2 λ_ z=>z)
 refine⟨a,o',rfl,dg,?_⟩;rw[aH5 h1 h2];exact k _ _ _ .fr (s.trans s2) (.bl _) q
noncomputable def wJ (td tk:aF):aF:=λρ Q=>td ρ λx g=>tk ρ λy _=>∃z,wH x y (some z)/\Q z g
theorem aH7 (h:LE X (wJ td tk) σ H Q'):G1 (LE X td) (LE X tk) σ H Q':=by
 obtain⟨W,ρ,Q,px,q,k⟩:=h
 refine⟨W,ρ,_,px,q,λv H1 x g s r q=>⟨W,ρ,_,px.mono s,q,?_⟩⟩;rintro w H2 y g' s2 r2 ⟨z,ak,q⟩
 obtain⟨a,o',rfl,dg,h1,h2⟩:=wI ak (r.same s2 λ_ z=>z) r2
 obtain⟨u,rfl,ru⟩:=h2 z rfl
 exact⟨a,u,rfl,dg,k _ _ _ g (s.trans s2) ru q⟩
theorem PX.updT {K:ac}{H0:Hp}{W:ay->Prop}{σ:St}{ρ:bG}{H:Hp}{i:Nat}{a:ay}{x:PV}{kvs:List (List aI×V)}{ps:List (List aI×PV)}(p:PX K H0 W σ ρ H)(hi:ρ[i]? = some (some (.own x)))(ha:σ[i]? = some (some (.ref a)))(wa:W a)(r:kvs.map (·.1)=ps.map (·.1)/\Reps K (Ms H0 W true) (upd H a (.dT kvs)) (kvs.map (·.2)) (ps.map (·.2))):PX K H0 W σ (ρ.set i (some (.own (.dT ps)))) (upd H a (.dT kvs)):=p.updOwn hi ha wa rfl (y:=.dT ps) ⟨kvs,bZ,r⟩
theorem aH8 {κ α β:Type}{l:List (κ×α)}{m:List (κ×β)}(e:l.map (·.1)=m.map (·.1)):l.length=m.length:=by
 have:=congrArg List.length e
 rw[bo7,bo7]at this;exact this
noncomputable def lT (i:Nat)(tk te:aF):aS:=λD ρ=>te ρ λz g=>∃ps,ρ[i]? = some (some (.own (.dT ps)))/\tk ρ λy _=>∃k,y = .tup (k.map kP)/\Nw g z/\ps.length<16000000/\D.nx (ρ.set i (some (.own (.dT (dR ps k z)))))
theorem aH9 {i:Nat}(h:LS X (lT i tk te) D σ H):G3 (kI i) (LE X tk) (LE X te) D σ H:=by
 obtain⟨W,ρ,D',px,q,k⟩:=h
 refine⟨W,ρ,_,px,q,?_⟩;rintro w H1 z g s rz ⟨ps,hi,q⟩
 obtain⟨v,ev,a,rfl,wa,kvs,ea,e1,r⟩:=(px.mono s).sl i _ hi
 refine⟨_,ev,W,ρ,_,px.mono s,q,?_⟩;rintro kv H2 y g' s2 ry ⟨kk,rfl,nw,hl,q⟩
 obtain⟨b,us,rfl,hb,rb⟩:=ry.sqT
 obtain rfl:=rT rb;have ea2:=s2 _ _ ea;refine⟨a,_,rfl,oM.t ea2 hb (rA (by rw[aH8 e1];omega)),?_⟩;refine k.nx W σ _ _ ((Ev.same (s.trans s2)).trans (Ev.upd wa)) ((px.mono (s.trans s2)).updT hi ev wa ?_) q
 obtain⟨h1,h2⟩:=aH4 kk ((Nw.rep px nw rz).same s2 λ_ z=>z) e1 (r.same s2 λ_ z=>z)
 exact⟨h1,h2.keep (.upd ea2 rfl λb m=>⟨mV wa m,m⟩)⟩
theorem aI0 (h:LE X (qC (.dT [])) σ H Q'):G4 σ H Q':=by
 obtain⟨W,ρ,Q,px,q,k⟩:=h
 exact λp hp=>k _ _ _ .fr (bK hp _) (.dT hp bZ rfl .nil) q
end
noncomputable def bL:Nat->PV->PV->Bool
 |_,.non,.non=>true
 |_,.bl a,.bl b=>a==b
 |_,.int a,.int b=>a==b
 |_,.str a,.str b=>a==b
 |n+1,.tup xs,.tup ys=>(xs.zip ys).all (λp=>bL n p.1 p.2)&&xs.length==ys.length
 |n+1,.lst xs,.lst ys=>(xs.zip ys).all (λp=>bL n p.1 p.2)&&xs.length==ys.length
 |n+1,.kt xs,.kt ys=>(xs.zip ys).all (λp=>bL n p.1 p.2)&&xs.length==ys.length
 |_,_,_=>false
noncomputable def cY:Nat->PV->PV->Bool
 |_,.non,.non=>true
 |_,.bl _,.bl _=>true
 |_,.int _,.int _=>true
 |_,.str _,.str _=>true
 |_,.non,.int _=>true
 |_,.int _,.non=>true
 |n+1,.tup xs,.tup ys=>(xs.zip ys).all (λp=>cY n p.1 p.2)
 |n+1,.lst xs,.lst ys=>(xs.zip ys).all (λp=>cY n p.1 p.2)
 |n+1,.kt xs,.kt ys=>(xs.zip ys).all (λp=>cY n p.1 p.2)
 |_+1,.non,.tup _=>true
 |_+1,.tup _,.non=>true
 |_,_,_=>false
theorem aI1 (n:Nat)(a b:Int):bL n (.int a) (.int b)=(a==b):=by cases n<;>rfl
theorem wK (n:Nat):∀(a b:ae),((((intz a).zip (intz b)).all λp=>bL n p.1 p.2)&&(intz a).length==(intz b).length)=decide (a=b)
 |[],[]=>rfl
 |[],_::_=>by simp
 |_::_,[]=>by simp
 |x::a,y::b=>by
  have ih:=wK n a b;simp only[bv2,by4,bG7,bs9,aI1]at ih ⊢;by_cases e:x=y
  ·subst e
   have:((intz a).length+1==(intz b).length+1)=((intz a).length==(intz b).length):=by simp
   rw[this,bx9,bE8,ih];simp
  ·have:(x==y)=false:=beq_eq_false_iff_ne.mpr e
   rw[this,bF1,bF1];simp[e]
theorem wL (n:Nat)(a b:ae):bL (n+1) (.tup (intz a)) (.tup (intz b))=decide (a=b):=wK n a b
theorem aI2 (n:Nat)(a b:ae):bL (n+1) (.lst (intz a)) (.lst (intz b))=decide (a=b):=wK n a b
theorem wM (n:Nat):∀(a b:ae),(((intz a).zip (intz b)).all λp=>cY n p.1 p.2)=true
 |[],_=>by simp
 |_::_,[]=>by simp
 |x::a,y::b=>by
  simp only[bv2,by4,bG7,wM n a b,Bool.and_true];cases n<;>rfl
theorem wN (n:Nat)(a b:ae):cY (n+1) (.tup (intz a)) (.tup (intz b))=true:=wM n a b
theorem aI3 (n:Nat)(a b:ae):cY (n+1) (.lst (intz a)) (.lst (intz b))=true:=wM n a b
noncomputable def N9:PV->Option String
 |.non=>some "NoneType"
 |.bl _=>some "bool"
 |.int _=>some "int"
 |.str _=>some "str"
 |.tup _=>some "tuple"
 |.kt _=>some "tuple"
 |.lst _=>some "list"
 |_=>none
noncomputable def jO (K:ac)(n:String)(te:aF):aF:=λρ Q=>te ρ λx _=>∃T b,N9 x=some T/\PySem.W.kitOne K (.type T) (.type n)=some b/\Q (.bl b) .fr
noncomputable def jP (n:Nat)(neg:Bool):PV->Tg->PV->Tg->PK->Prop:=λx _ y _ Q=>((∃xs ys,x = .tup xs/\y = .tup ys)∨(∃xs ys,x = .lst xs/\y = .lst ys))/\cY (n+1) x y=true/\Q (.bl (if neg=true then !bL (n+1) x y else bL (n+1) x y)) .fr
noncomputable abbrev nB:=bG->(Option Int->Prop)->Prop
noncomputable def jQ (xs:List PV)(lo hi:Option Int):List PV:=(xs.drop (HT.aY xs.length 0 lo)).take (HT.aY xs.length xs.length hi-HT.aY xs.length 0 lo)
noncomputable def aI4:PV->List PV->PV
 |.tup _,ys=>.tup ys
 |.kt _,ys=>.tup ys
 |_,ys=>.lst ys
noncomputable def wO:nB:=λ_ Q=>Q none
noncomputable def wP (te:aF):nB:=λρ Q=>te ρ λx _=>∃i,x = .int i/\Q (some i)
noncomputable def wQ (te:aF)(tl th:nB):aF:=λρ Q=>te ρ λx _=>tl ρ λlo=>th ρ λhi=>∃xs,rK x=some xs/\flats xs=true/\Q (aI4 x (jQ xs lo hi)) .fr
noncomputable def gB (N:List Str)(xs:List PV):bG:=xs.map (λx=>some (.sh (flat x) x))++List.replicate (N.length-xs.length) none
noncomputable abbrev bS (ta tb:aF):aF:=q2 (eR λi j=>.int (i+j)) ta tb
noncomputable abbrev jR (ta tb:aF):aF:=q2 (eR λi j=>.int (i-j)) ta tb
noncomputable abbrev oT (ta tb:aF):aF:=q2 (RI oE λi j=>.int (i*j)) ta tb
noncomputable abbrev kT (ta tb:aF):aF:=q2 (RI uQ λi j=>.int (i/j)) ta tb
noncomputable abbrev dN (ta tb:aF):aF:=q2 (RI (λ_ j=>0<j) λi j=>.int (i%j)) ta tb
noncomputable abbrev O0 (ta tb:aF):aF:=q2 (RI uR λi j=>.int (i^j.toNat)) ta tb
noncomputable abbrev lU (ta tb:aF):aF:=q2 (eR λi j=>.bl (decide (i<j))) ta tb
noncomputable abbrev qLe (ta tb:aF):aF:=q2 (eR λi j=>.bl (decide (i<=j))) ta tb
noncomputable abbrev qGt (ta tb:aF):aF:=q2 (eR λi j=>.bl (decide (j<i))) ta tb
noncomputable abbrev O1 (ta tb:aF):aF:=q2 (eR λi j=>.bl (decide (j<=i))) ta tb
noncomputable abbrev wR (ta tb:aF):aF:=q2 (mT false) ta tb
noncomputable abbrev oU (ta tb:aF):aF:=q2 (mT true) ta tb
noncomputable abbrev O2 (ta tb:aF):aF:=q2 (wF true) ta tb
noncomputable abbrev b7 (ta tb:aF):aF:=q2 wC ta tb
noncomputable def oV:List PV->(PV->Prop)->Prop:=λxs Q=>M9 xs Q/\∀ns,xs≠[.scr ns]
noncomputable def QE (X:Cx)(e:Expr)(t:aF):Prop:=PE X e (LE X t)
noncomputable def QT (X:Cx)(e:Expr)(t:cL):Prop:=PT X e (LT X t)
noncomputable def QW (X:Cx)(e:Expr)(t:cL):Prop:=PW X e (LT X t)
noncomputable def QA (X:Cx)(es:List Expr)(t:cM):Prop:=PA X es (LA X t)
noncomputable def QS (X:Cx)(st:Stmt)(t:aS):Prop:=PS X st (LS X t)
noncomputable def fJ (X:Cx)(st:List Stmt)(t:aS):Prop:=eI X st (LS X t)
noncomputable def QI (X:Cx)(tg iter:Expr)(t:eL):Prop:=PI X tg iter (LI X t)
section
variable {X:Cx}
theorem cO {e:Expr}{t t':TE}(h:PE X e t)(m:∀σ H Q,t' σ H Q->t σ H Q):PE X e t':=λag s σ H Q I q=>h ag s σ H Q I (m σ H Q q)
theorem oW {e:Expr}{t t':TT}(h:PT X e t)(m:∀σ H Q,t' σ H Q->t σ H Q):PT X e t':=λag s σ H Q I q=>h ag s σ H Q I (m σ H Q q)
theorem O3 {e:Expr}{t t':TT}(h:PW X e t)(m:∀σ H Q,t' σ H Q->t σ H Q):PW X e t':=λwh ag s σ H Q I q=>h wh ag s σ H Q I (m σ H Q q)
theorem O4 {e:List Expr}{t t':TA}(h:PA X e t)(m:∀σ H Q,t' σ H Q->t σ H Q):PA X e t':=λpos ag s σ H Q I q=>h pos ag s σ H Q I (m σ H Q q)
theorem eM {e:Stmt}{t t':TS}(h:PS X e t)(m:∀D σ H,t' D σ H->t D σ H):PS X e t':=λag s σ H D I q=>h ag s σ H D I (m D σ H q)
theorem O5 {e:List Stmt}{t t':TS}(h:eI X e t)(m:∀D σ H,t' D σ H->t D σ H):eI X e t':=λag s σ H D I q=>h ag s σ H D I (m D σ H q)
theorem oX {tg e:Expr}{t t':TI}(h:PI X tg e t)(m:∀σ H R,t' σ H R->t σ H R):PI X tg e t':=λag s σ H R I q=>h ag s σ H R I (m σ H R q)
variable {a b c e o:Expr}{es b9:List Expr}{ta tb te to tk:aF}{tr:cM}{tA tB' tc:cL}{pos p2 px:Pos}{st:Stmt}{sts:List Stmt}{t u:aS}
theorem qv (i:Nat){x:Str}{pos:Pos}(hN:X.N[i]? = some x:=by rfl)(hv:iR X.env.scope x:=by first|exact Or.inl rfl|exact Or.inr (Or.inl rfl)|exact Or.inr (Or.inr rfl))(hd:(x==("__debug__":Str))=false:=by decide)(hcd:(x==("__classdict__":Str))=false:=by decide):QE X (.Name x pos) (a5 i):=cO (lD hN hv hd hcd) λ_ _ _=>aD1
theorem a9 {i j}:QE X (.Constant (.int i) j pos) (qC (.int i)):=cO ao5 λ_ _ _=>oQ λ_=>.int i
theorem iG {i j}:QE X (.Constant (.bool i) j pos) (qC (.bl i)):=cO ao6 λ_ _ _=>oQ λ_=>.bl i
theorem wS {j}:QE X (.Constant .none j pos) (qC .non):=cO ao7 λ_ _ _=>oQ λ_=>.non
theorem rU {i j}:QE X (.Constant (.str i) j pos) (qC (.str i)):=cO ao8 λ_ _ _=>oQ λ_=>.str i
theorem lV {op:Operator}{R:PV->Tg->PV->Tg->PK->Prop}{r:R2}(ho:cK X (binaryOp op) r)(cv:fG X R r)(ha:QE X a ta)(hb:QE X b tb):QE X (.BinOp a op b pos) (q2 R ta tb):=cO (ar5 ho ha hb) λ_ _ _=>rE cv
theorem bT (ha:QE X a ta)(hb:QE X b tb):QE X (.BinOp a .Add b pos) (q2 (eR λi j=>.int (i+j)) ta tb):=lV ar6 L9 ha hb
theorem jS (ha:QE X a ta)(hb:QE X b tb):QE X (.BinOp a .Sub b pos) (q2 (eR λi j=>.int (i-j)) ta tb):=lV ar7 L9 ha hb
theorem oY (ha:QE X a ta)(hb:QE X b tb):QE X (.BinOp a .Mult b pos) (q2 (RI oE λi j=>.int (i*j)) ta tb):=lV ar8 rF ha hb
theorem kU (ha:QE X a ta)(hb:QE X b tb):QE X (.BinOp a .FloorDiv b pos) (q2 (RI uQ λi j=>.int (i/j)) ta tb):=lV ar9 rF ha hb
theorem dO (ha:QE X a ta)(hb:QE X b tb):QE X (.BinOp a .Mod b pos) (q2 (RI (λ_ j=>0<j) λi j=>.int (i%j)) ta tb):=lV as0 rF ha hb
theorem O6 (ha:QE X a ta)(hb:QE X b tb):QE X (.BinOp a .Pow b pos) (q2 (RI uR λi j=>.int (i^j.toNat)) ta tb):=lV as1 rF ha hb
theorem nC {op:CmpOp}{R:PV->Tg->PV->Tg->PK->Prop}{r:R2}(ho:cK X (compareOp op) r)(cv:fG X R r)(ha:QE X a ta)(hb:QE X b tb)(hm:behindInMarks op b=false):QE X (.Compare a [op] [b] pos) (q2 R ta tb):=cO (as8 ho ha hb hm) λ_ _ _=>rE cv
theorem nD {op:CmpOp}{R:PV->Tg->PV->Tg->PK->Prop}{r:R2}(ho:cK X (compareOp op) r)(cv:fG X R r)(ha:QE X a ta)(hb:QE X b tb)(hm:behindInMarks op b=false):QT X (.Compare a [op] [b] pos) (bF (q2 R ta tb)):=oW (at0 ho ha hb hm) λ_ _ _ h=>rE cv (vX h)
theorem rV (ha:QE X a ta)(hb:QE X b tb):QE X (.Compare a [.Lt] [b] pos) (q2 (eR λi j=>.bl (decide (i<j))) ta tb):=nC uS mS ha hb (gV _)
theorem aI5 (ha:QE X a ta)(hb:QE X b tb):QE X (.Compare a [.LtE] [b] pos) (q2 (eR λi j=>.bl (decide (i<=j))) ta tb):=nC as4 mS ha hb (gV _)
theorem O7 (ha:QE X a ta)(hb:QE X b tb):QE X (.Compare a [.GtE] [b] pos) (q2 (eR λi j=>.bl (decide (j<=i))) ta tb):=nC as6 mS ha hb (gV _)
theorem wT (ha:QE X a ta)(hb:QE X b tb):QT X (.Compare a [.Lt] [b] pos) (bF (q2 (eR λi j=>.bl (decide (i<j))) ta tb)):=nD uS mS ha hb (gV _)
theorem aI6 (ha:QE X a ta)(hb:QE X b tb):QT X (.Compare a [.Gt] [b] pos) (bF (q2 (eR λi j=>.bl (decide (j<i))) ta tb)):=nD as5 mS ha hb (gV _)
theorem wU (ha:QE X a ta)(hb:QE X b tb):QT X (.Compare a [.Eq] [b] pos) (bF (q2 (mT false) ta tb)):=nD as2 aD2 ha hb (gV _)
theorem oZ (ha:QE X a ta)(hb:QE X b tb):QT X (.Compare a [.NotEq] [b] pos) (bF (q2 (mT true) ta tb)):=nD as3 aD3 ha hb (gV _)
theorem O8 (ha:QE X a ta)(hb:QE X b tb):QT X (.Compare a [.IsNot] [b] pos) (bF (q2 (wF true) ta tb)):=nD as7 aG5 ha hb (gV _)
theorem wV (hu:X.A.units+1<cLine)(hk:QE X a tk)(hd:QE X b te)(hm:behindInMarks .NotIn b=false:=by rfl):QT X (.Compare a [.NotIn] [b] pos) (bF (oS true tk te)):=oW (ap1 (ay8 hu hk hd) hm) λ_ _ _ h=>aH6 (vX h)
theorem jT (h:QE X e te)(he:∀whole,isTrue e X.env whole=(do let v <- whole;standAt e.pos;holding [v] (truthy v)):=by intro _;rfl):QT X e (bF te):=oW (ap2 h he) λ_ _ _ h=>vX h
theorem O9 (h:QE X e te)(he:∀whole,isTrue e X.env whole=(do let v <- whole;standAt e.pos;holding [v] (truthy v)):=by intro _;rfl):QT X e (rN te):=oW (at4 h he) λ_ _ _ h=>aG3 h
theorem aI7 (ha:QT X a tA):QW X (.BoolOp .And [a] pos) tA:=ap3 ha
theorem jU (ha:QT X a tA):QW X (.BoolOp .Or [a] pos) tA:=ap4 ha
theorem aI8 (ha:QT X a tA)(hb:QW X (.BoolOp .And (b::b9) pos) tB'):QW X (.BoolOp .And (a::b::b9) pos) (vY tA tB'):=O3 (ap5 ha hb) λ_ _ _=>aD4
theorem iH (ha:QT X a tA)(hb:QW X (.BoolOp .Or (b::b9) pos) tB'):QW X (.BoolOp .Or (a::b::b9) pos) (gO tA tB'):=O3 (ap6 ha hb) λ_ _ _=>aD5
theorem iW (h:QW X e tA):QT X e tA:=PW.pt h
theorem kW (ha:QT X a tA):QT X (.UnaryOp .Not a pos) (iU tA):=oW (ap7 ha) λ_ _ _=>aD6
theorem wW {op}(h:QE X a ta):QE X (.BoolOp op [a] pos) ta:=ap8 h
theorem p9 (ha:QE X a ta)(hb:QE X (.BoolOp .And (b::b9) pos) tb):QE X (.BoolOp .And (a::b::b9) pos) (lP ta tb):=cO (ap9 ha hb) λ_ _ _=>aD7
theorem aI9 (ha:QE X a ta):QE X (.UnaryOp .Not a pos) (vZ ta):=cO (aq0 ha) λ_ _ _=>aD8
theorem aB:QA X [] aA:=O4 jD λ_ _ _=>aD9
theorem a7 (ha:QE X e te)(hr:QA X es tr)(hs:starEach (e::es) X.env=(false,eval e X.env)::starEach es X.env:=by rfl):QA X (e::es) (a6 te tr):=O4 (gW ha hr hs) λ_ _ _=>aE0
theorem gC {x1}(h:QA X es tr):QE X (.Tuple es x1 pos) (eU tr):=cO (au0 h) λ_ _ _=>aE1
theorem lW (h:QA X es tr):QE X (.List es pos) (jJ tr):=cO (au1 h) λ_ _ _=>aE2
theorem b8 (ha:QE X a ta)(hb:QE X b tb)(hs:C8 b:=by exact λ_ _=>rfl):QE X (.Subscript a b pos) (q2 wC ta tb):=cO (aw1 aw5 ha hb hs) λ_ _ _=>rE aF4
theorem aJ0 (hu:X.A.units+1<cLine)(ha:QE X a ta)(hb:QE X b tb)(hs:vB b:=by exact λ_ _=>rfl):QE X (.Subscript a b pos) (wJ ta tb):=cO (ay7 hu ha hb hs) λ_ _ _=>aH7
theorem wX:QE X (.Dict [] [] pos) (qC (.dT [])):=cO az1 λ_ _ _=>aI0
theorem gP {x:Str}{id:String}{R:List PV->(PV->Prop)->Prop}{r:List V->Hp->VK->Prop}(hc:cH X (.builtin id) r)(cv:dZ X R r)(hg:Gl X x)(hm:X.mg x=none)(hv:bootBuiltins x=some (.builtin id))(ha:QA X (e::es) tr)(hn:x≠"__name__":=by decide)(hdb:(x==("__debug__":Str))=false:=by decide)(he:starEach (e::es) X.env=(false,eval e X.env)::starEach es X.env:=by rfl)(hpl:(backTo pos (starEach es X.env)).any (·.1)=false:=by rfl):QE X (.Call (.Name x p2) (e::es) [] pos) (aD R tr):=cO (uZ hc hg hm hv ha hn hdb he hpl) λ_ _ _=>M4 cv
theorem P0 {x:Str}{T:String}{R:List PV->(PV->Prop)->Prop}{r:List V->Hp->VK->Prop}(hc:cH X (.type T) r)(cv:dZ X R r)(hg:Gl X x)(hm:X.mg x=none)(hv:bootBuiltins x=some (.type T))(ha:QA X (e::es) tr)(hn:x≠"__name__":=by decide)(hdb:(x==("__debug__":Str))=false:=by decide)(he:starEach (e::es) X.env=(false,eval e X.env)::starEach es X.env:=by rfl)(hpl:(backTo pos (starEach es X.env)).any (·.1)=false:=by rfl):QE X (.Call (.Name x p2) (e::es) [] pos) (aD R tr):=cO (B8 hc hg hm hv ha hn hdb he hpl) λ_ _ _=>M4 cv
theorem eN:fJ X [] dQ:=O5 aq2 λ_ _ _=>aE3
theorem aP (h1:QS X st t)(h2:fJ X sts u):fJ X (st::sts) (aN t u):=O5 (aq3 h1 h2) λ_ _ _=>aE4
theorem aZ (h1:QS X st t):fJ X [st] t:=aq4 h1
theorem bP {i:Nat}{x:Str}(hN:X.N.Nodup)(he:QE X e te)(hi:X.N[i]? = some x:=by rfl)(hx:i8 X.env.scope x:=by first|exact Or.inl rfl|exact Or.inr rfl)(hs:swapsWith e (some (.Name x p2)) pos.line X.env=pure false:=by rfl)(hf:X.fn x=true∨X.env.scope.names.lookup x=some .local:=by first|exact .inl rfl|exact .inr rfl) :
  QS X (.Assign [.Name x p2] e pos) (bH i te):=eM (uL hN hi hx he hs hf) λ_ _ _=>M6
theorem jV {i:Nat}{x:Str}(hN:X.N.Nodup)(he:QE X e te)(hi:X.N[i]? = some x:=by rfl)(hx:i8 X.env.scope x:=by first|exact Or.inl rfl|exact Or.inr rfl)(hs:swapsWith e (some (.Name x p2)) pos.line X.env=pure false:=by rfl)(hf:X.fn x=true∨X.env.scope.names.lookup x=some .local:=by first|exact .inl rfl|exact .inr rfl) :
  QS X (.Assign [.Name x p2] e pos) (iE i te):=eM (uL hN hi hx he hs hf) λ_ _ _=>aE6
theorem aJ1 (he:QE X e te)(hs:swapsWith e none pos.line X.env=pure false:=by rfl):QS X (.Expr e pos) (wA te):=eM (qI he hs) λ_ _ _=>aE7
theorem cF (he:QE X e te):QS X (.Return (some e) pos) (bX te):=eM (zS he) λ_ _ _=>aE8
theorem lX (i:Nat){x:Str}(hN:X.N[i]? = some x:=by rfl)(hv:iR X.env.scope x:=by first|exact Or.inl rfl|exact Or.inr (Or.inl rfl)|exact Or.inr (Or.inr rfl))(hd:(x==("__debug__":Str))=false:=by decide)(hcd:(x==("__classdict__":Str))=false:=by decide) :
  QS X (.Return (some (.Name x p2)) pos) (jK i):=eM (zS (lD hN hv hd hcd)) λ_ _ _=>aE9
theorem e9 {sa sb:List Stmt}(hc:QT X c tc)(ha:fJ X sa t)(hb:fJ X sb u):QS X (.If c sa sb pos) (dL tc t u):=eM (aq5 hc ha hb) λ_ _ _=>aF0
theorem P3 {body:List Stmt}(hp:PassesOwn (model X.prog X.w) X.A X.env X.xe)(hc:QT X c tc)(hb:fJ X body t):QS X (.While c body [] pos) (rJ tc t):=eM (aq6 hp hc hb) λ_ _ _=>aF1
theorem rW (i:Nat){x:Str}{ah ai xpos:Pos}(he:QE X e te)(hN:X.N[i]? = some x:=by rfl)(hv:iR X.env.scope x:=by first|exact Or.inl rfl|exact Or.inr (Or.inl rfl)|exact Or.inr (Or.inr rfl))(hd:(x==("__debug__":Str))=false:=by decide)(hcd:(x==("__classdict__":Str))=false:=by decide)(hbase:attributeBase (.Name x xpos) "append" X.env (eval (.Name x xpos) X.env)=eval (.Name x xpos) X.env:=by rfl)(hfew:((backTo ai (starEach [e] X.env)).all (λx=>!x.1)&&(backToKw ai (keywordEach [] X.env)).all (λx=>x.1.isSome)&&decide (([e]:List Expr).length+([]:List Keyword).length+(if ([]:List Keyword).isEmpty then 0 else 1)<30))=true:=by rfl)(hline:(ah.endLine==ai.line)=true:=by rfl)(hs:starEach [e] X.env=(false,eval e X.env)::starEach [] X.env:=by rfl)(ao:(backTo ai (starEach [] X.env)).any (·.1)=false:=by rfl)(hsw:swapsWith (.Call (.Attribute (.Name x xpos) "append" ah) [e] [] ai) none pos.line X.env=pure false:=by rfl) :
  QS X (.Expr (.Call (.Attribute (.Name x xpos) "append" ah) [e] [] ai) pos) (mW i te):=
 eM (qI (E9 PySem.F.plainAttrs_list PySem.F.slot_list_append PySem.F.type_list_append F1 (lD hN hv hd hcd) (gW he jD hs) hbase hfew hline hs ao) hsw) λ_ _ _=>aF2
theorem pA {i:Nat}{x:Str}{xpos tpos:Pos}(hu:X.A.units+1<cLine)(hk:QE X a tk)(he:QE X e te)(hN:X.N[i]? = some x:=by rfl)(hv:iR X.env.scope x:=by first|exact Or.inl rfl|exact Or.inr (Or.inl rfl)|exact Or.inr (Or.inr rfl))(hd:(x==("__debug__":Str))=false:=by decide)(hcd:(x==("__classdict__":Str))=false:=by decide)(hs:swapsWith e (some (.Subscript (.Name x xpos) a tpos)) pos.line X.env=pure false:=by rfl):QS X (.Assign [.Subscript (.Name x xpos) a tpos] e pos) (lT i tk te):=eM (ay9 hu (lD hN hv hd hcd) hk he hs) λ_ _ _=>aH9
theorem aJ2 {tg l:Expr}{tl:TE}(hl:PE X l tl):PI X tg l (N0 X.K tl):=by
 intro ag s σ H R I h;refine aO (hl ag s σ H _ I h) λv s1 ⟨x,H1,I1,r1,q1⟩=>?_
 obtain⟨a,e,q⟩:=q1
 subst e;cases r1;rcases q with⟨xs,hq,q⟩|⟨xs,hq,q⟩
 ·obtain⟨its,rv,p,hz⟩:=I1.list hq
  refine wpAny_pyIter_list p.isList ?_;refine⟨s1.heap.objs.size,[s1.heap.objs.size],_,_,H1,rfl,I1.kept (t':=s1.toks) λb o e=>bo4 _ e,aq7 a _,⟨_,bp4 _ rfl,rfl,rfl⟩,λb hb=>?_,q⟩;have e:b=s1.heap.objs.size:=by simpa using hb
  subst e;exact I1.fpOk (bp7 _) (I1.hok.fresh (bp7 _))
 ·obtain⟨its,rv,p,hz⟩:=I1.tuple hq
  refine bC3 (show s1.heap.IsTuple a its.toArray from p) ?_;refine⟨s1.heap.objs.size,[s1.heap.objs.size],_,_,H1,rfl,I1.kept (t':=s1.toks) λb o e=>bo4 _ e,aq8 a _,⟨_,bp4 _ rfl,rfl,rfl⟩,λb hb=>?_,q⟩;have e:b=s1.heap.objs.size:=by simpa using hb
  subst e;exact I1.fpOk (bp7 _) (I1.hok.fresh (bp7 _))
theorem gD {tg l:Expr}(hl:QE X l te):QI X tg l (e8 te):=oX (aJ2 hl) λ_ _ _=>aG6
theorem P4 {tg:Expr}(hg:Gl X "range")(hm:X.mg "range" = none)(ha:QE X a ta)(hs:starEach [a] X.env = [(false,eval a X.env)]:=by rfl):QI X tg (.Call (.Name "range" p2) [a] [] pos) (rP ta):=oX (ar0 hg hm (gW ha jD hs) hs) λ_ _ _=>aG7
theorem P5 {tg:Expr}(hg:Gl X "range")(hm:X.mg "range" = none)(ha:QE X a ta)(hb:QE X b tb)(hs:starEach [a,b] X.env = [(false,eval a X.env),(false,eval b X.env)]:=by rfl)(hs2:starEach [b] X.env = [(false,eval b X.env)]:=by rfl) :
  QI X tg (.Call (.Name "range" p2) [a,b] [] pos) (rQ ta tb):=oX (ar1 hg hm (gW ha (gW hb jD hs2) (by rw[hs,hs2])) hs hs2) λ_ _ _=>aG8
theorem P6 {tg:Expr}{body:List Stmt}{ti:eL}{p:hU}{g:TG}{own:Nat->Prop}(hp:PassesOwn (model X.prog X.w) X.A X.env X.xe)(hc:X.calm=true)(hi:QI X tg e ti)(hg:PG X tg g)(ht:kS X.K own p g)(hb:fJ X body t)(hs:∀x,foldedSetIterable e X.env x=pure x:=by intro _;rfl):QS X (.For tg e body [] pos) (fH ti p t):=eM (ar3 hp hc hi hg hb hs) λ_ _ _=>aG9 ht
end
section
variable {X:Cx}{ag:List (ay×Obj)}{σ:St}{H:Hp}{s:ax}{K:ac}{M M':ay→Prop}
theorem mQ.inj {a:ay}{us ws:List V}(h:mQ K a us)(h':mQ K a ws):us=ws:=by
 obtain⟨o,its,n,e1,_,e2,_,v⟩:=h
 obtain⟨o',its',n',e1',_,e2',_,v'⟩:=h'
 rw[e1]at e1';cases e1';rw[e2]at e2';cases e2';exact v.inj v'
theorem Reps.self_of {n:Nat}(ih:∀{v:V}{x y:PV},aE K M H v x->aE K M' H v y->cY n x y=true->bL n x y=true):∀{vs:List V}{xs ys:List PV},Reps K M H vs xs->Reps K M' H vs ys->((xs.zip ys).all λp=>cY n p.1 p.2)=true->(((xs.zip ys).all λp=>bL n p.1 p.2)&&xs.length==ys.length)=true
 |_,_,_,.nil,.nil,_=>rfl
 |_,_,_,.cons r t,.cons r' t',o=>by
  simp only[by4,bG7,bz1]at o;have h1:=ih r r' o.1;have h2:=Reps.self_of ih t t' o.2;simp only[by4,bG7,h1,bE8,bs9]at h2 ⊢;rw[<- h2];congr 1;simp
theorem aE.self:∀(n:Nat) {v:V}{x y:PV},aE K M H v x->aE K M' H v y->cY n x y=true->bL n x y=true:=by
 intro n
 induction n with
 |zero=>
  intro v x y r r' o;cases r with
  |non=>cases r';rfl
  |bl b=>cases r';exact bx9 b
  |int i=>cases r';exact bx9 i
  |str z=>cases r';exact bx9 z
  |_=>cases o
 |succ n ih=>
  intro v x y r r' o;cases r with
  |non=>cases r';rfl
  |bl b=>cases r';exact bx9 b
  |int i=>cases r';exact bx9 i
  |str z=>cases r';exact bx9 z
  |tup h rr=>
   cases r' with
   |tup h' rr'=>rw[h]at h';cases h';exact Reps.self_of ih rr rr' o
   |_=>cases o
  |lst _ h rr=>
   cases r' with
   |lst _ h' rr'=>rw[h]at h';cases h';exact Reps.self_of ih rr rr' o
   |_=>cases o
  |kt h rr=>
   cases r' with
   |kt h' rr'=>cases mQ.inj h h';exact Reps.self_of ih rr rr' o
   |_=>cases o
  |_=>cases o
theorem Reps.self (n:Nat){vs:List V}{xs ys:List PV}(r:Reps K M H vs xs)(r':Reps K M' H vs ys)(o:((xs.zip ys).all λp=>cY n p.1 p.2)=true):(((xs.zip ys).all λp=>bL n p.1 p.2)&&xs.length==ys.length)=true:=Reps.self_of (aE.self n) r r' o
theorem jW (n:Nat)(xs ys:List PV):(List.range (min xs.length ys.length)).all (λj=>bL n (xs.getD j .non) (ys.getD j .non))=(xs.zip ys).all λp=>bL n p.1 p.2:=by
 rw[bC0];simp only[bB0,bw2];constructor
 ·intro h p hp
  obtain⟨j,hj,e⟩:=bu9 hp
  have hj':j<min xs.length ys.length:=by simpa using hj
  have:=h j hj'
  rw[List.getElem_zip]at e;subst e;have h1:j<xs.length:=by omega
  have h2:j<ys.length:=by omega
  simpa[bp3,h1,h2] using this
 ·intro h j hj
  have h1:j<xs.length:=by omega
  have h2:j<ys.length:=by omega
  have hz:j<(xs.zip ys).length:=by simp;omega
  have:=h _ (by0 hz)
  rw[List.getElem_zip]at this;simpa[bp3,h1,h2] using this
theorem P7 (I:a8 X ag σ H s):∀(n:Nat) {A:ba}{v w:V}{x y:PV}{a b:av},A.units+n<cLine->aE X.K M H v x->aE X.K M' H w y->aQ v a->aQ w b->cY n x y=true->SeqAt.EqAt A s a b (bL n x y):=by
 intro n
 induction n with
 |zero=>
  intro A v w x y a b hu rx ry ra rb o;cases rx with
  |non=>
   cases ra;cases ry with
   |non=>cases rb;exact SeqAt.EqAt.same _
   |int i=>obtain⟨t',rfl⟩:=rb;exact SeqAt.EqAt.none_int _ _
   |_=>cases o
  |bl i=>
   cases ra;cases ry with
   |bl j=>cases rb;exact SeqAt.EqAt.bool_bool _ _
   |_=>cases o
  |int i=>
   obtain⟨t,rfl⟩:=ra
   cases ry with
   |int j=>obtain⟨t',rfl⟩:=rb;exact SeqAt.EqAt.int_int _ _ _ _
   |non=>cases rb;exact SeqAt.EqAt.int_none _ _
   |_=>cases o
  |str i=>
   obtain⟨t,rfl⟩:=ra
   cases ry with
   |str j=>obtain⟨t',rfl⟩:=rb;exact SeqAt.EqAt.str_str _ _ _ _
   |_=>cases o
  |_=>cases o
 |succ n ih=>
  intro A v w x y a b hu rx ry ra rb o;have items:∀{us ws:List V}{xs ys:List PV}{its am:List av},Reps X.K M H us xs->Reps X.K M' H ws ys->aL us its->aL ws am->((xs.zip ys).all λp=>cY n p.1 p.2)=true->
    ∀j (h1:j<its.toArray.size) (h2:j<am.toArray.size),SeqAt.EqAt A.in1 s its.toArray[j] am.toArray[j] (bL n (xs.getD j .non) (ys.getD j .non)):=λ{us ws xs ys its am} r1 r2 v1 v2 ok j h1 h2=>by
   have l1:=v1.length;have l2:=v2.length;have m1:=r1.length;have m2:=r2.length;have k1:j<its.length:=by simpa using h1
   have k2:j<am.length:=by simpa using h2
   have j1:j<us.length:=by omega
   have j2:j<ws.length:=by omega
   have i1:j<xs.length:=by omega
   have i2:j<ys.length:=by omega
   obtain⟨u,hu',ru⟩:=v1.get (bo6 j1)
   obtain⟨u2,hu2',ru2⟩:=v2.get (bo6 j2)
   obtain⟨x,hx,rx⟩:=r1.get (bo6 j1)
   obtain⟨y,hy,ry⟩:=r2.get (bo6 j2)
   have e1:its.toArray[j]=u:=by
    rw[bo6 k1]at hu';simpa using hu'
   have e2:am.toArray[j]=u2:=by
    rw[bo6 k2]at hu2';simpa using hu2'
   have ok':cY n x y=true:=by
    rw[bB0]at ok;have hz:j<(xs.zip ys).length:=by simp;omega
    have:=ok _ (by0 hz)
    rw[List.getElem_zip]at this;rw[bo6 i1]at hx;rw[bo6 i2]at hy;cases hx;cases hy;exact this
   rw[e1,e2];have g1:xs.getD j .non=x:=by rw[bp3,hx];rfl
   have g2:ys.getD j .non=y:=by rw[bp3,hy];rfl
   rw[g1,g2];exact ih (by show A.units+1+n<cLine;omega) rx ry ru ru2 ok'
  have huA:A.units<cLine:=by omega
  cases rx with
  |@kt p us xs h1 r1=>
   obtain⟨its,v1,p1,_⟩:=I.tuple (.inr h1)
   cases (show a=Value.ref p from ra);cases ry with
   |@kt p2 ws ys h2 r2=>
    obtain⟨am,v2,p2',_⟩:=I.tuple (.inr h2)
    cases (show b=Value.ref p2 from rb);by_cases e:p=p2
    ·subst e
     have:=aE.self (K:=X.K) (M:=M) (M':=M') (n+1) (.kt h1 r1) (.kt h2 r2) o
     rw[this];exact SeqAt.EqAt.same _
    ·have:=SeqAt.RcAt.tuples p1 p2' huA (items r1 r2 v1 v2 o)
     refine .of_refs e ?_;have l1:=v1.length;have l2:=v2.length;have m1:=r1.length;have m2:=r2.length;rw[bo8,bo8,<- l1,<- l2,m1,m2,jW]at this;exact this
   |_=>cases o
  |@tup p us xs h1 r1=>
   obtain⟨its,v1,p1,_⟩:=I.tuple (aJ.of (K:=X.K) h1)
   cases (show a=Value.ref p from ra);cases ry with
   |@tup p2 ws ys h2 r2=>
    obtain⟨am,v2,p2',_⟩:=I.tuple (aJ.of (K:=X.K) h2)
    cases (show b=Value.ref p2 from rb);by_cases e:p=p2
    ·subst e
     have:=aE.self (K:=X.K) (M:=M) (M':=M') (n+1) (.tup h1 r1) (.tup h2 r2) o
     rw[this];exact SeqAt.EqAt.same _
    ·have:=SeqAt.RcAt.tuples p1 p2' huA (items r1 r2 v1 v2 o)
     refine .of_refs e ?_;have l1:=v1.length;have l2:=v2.length;have m1:=r1.length;have m2:=r2.length;rw[bo8,bo8,<- l1,<- l2,m1,m2,jW]at this;exact this
   |non=>cases rb;exact SeqAt.EqAt.tuple_none p1 huA
   |_=>cases o
  |@lst p us xs _ h1 r1=>
   obtain⟨its,v1,p1,_⟩:=I.list (aM.of (K:=X.K) h1)
   cases (show a=Value.ref p from ra);cases ry with
   |@lst p2 ws ys _ h2 r2=>
    obtain⟨am,v2,p2',_⟩:=I.list (aM.of (K:=X.K) h2)
    cases (show b=Value.ref p2 from rb);have l1:=v1.length;have l2:=v2.length;have m1:=r1.length;have m2:=r2.length;by_cases e:p=p2
    ·subst e
     rw[h1]at h2;cases h2
     have:=Reps.self n r1 r2 o
     show SeqAt.EqAt A s _ _ ((xs.zip ys).all (λp=>bL n p.1 p.2)&&xs.length==ys.length);rw[this];exact SeqAt.EqAt.same _
    ·refine .of_refs e ?_
     by_cases hl:xs.length=ys.length
     ·have:=SeqAt.RcAt.lists p1.isList p2'.isList (by rw[bo8,bo8];omega) huA (items r1 r2 v1 v2 o)
      have hm:min xs.length ys.length=its.length:=by omega
      rw[bo8,<- hm,jW]at this;show SeqAt.RcAt A s _ _ ((xs.zip ys).all (λp=>bL n p.1 p.2)&&xs.length==ys.length);rw[show (xs.length==ys.length)=true by simpa using hl,Bool.and_true];exact this
     ·have:=SeqAt.RcAt.lists_lengths (A:=A) p1.isList p2'.isList (by rw[bo8,bo8];simp;omega) huA
      show SeqAt.RcAt A s _ _ ((xs.zip ys).all (λp=>bL n p.1 p.2)&&xs.length==ys.length);rw[show (xs.length==ys.length)=false by simpa using hl,bG9];exact this
   |_=>cases o
  |non=>
   cases ra;cases ry with
   |non=>cases rb;exact SeqAt.EqAt.same _
   |int i=>obtain⟨t',rfl⟩:=rb;exact SeqAt.EqAt.none_int _ _
   |@tup p2 ws ys h2 r2=>
    obtain⟨am,v2,p2',_⟩:=I.tuple (aJ.of (K:=X.K) h2)
    cases (show b=Value.ref p2 from rb);exact SeqAt.EqAt.none_tuple p2' huA
   |_=>cases o
  |bl i=>
   cases ra;cases ry with
   |bl j=>cases rb;exact SeqAt.EqAt.bool_bool _ _
   |_=>cases o
  |int i=>
   obtain⟨t,rfl⟩:=ra
   cases ry with
   |int j=>obtain⟨t',rfl⟩:=rb;exact SeqAt.EqAt.int_int _ _ _ _
   |non=>cases rb;exact SeqAt.EqAt.int_none _ _
   |_=>cases o
  |str i=>
   obtain⟨t,rfl⟩:=ra
   cases ry with
   |str j=>obtain⟨t',rfl⟩:=rb;exact SeqAt.EqAt.str_str _ _ _ _
   |_=>cases o
  |_=>cases o
end
structure Bt (mg:Str->Option av):Prop where
 len:mg "len" = none
 range:mg "range" = none
 tuple:mg "tuple" = none
 list:mg "list" = none
 sorted:mg "sorted" = none
 all:mg "all" = none
 any:mg "any" = none
 zip:mg "zip" = none
 min:mg "min" = none
 max:mg "max" = none
 sum:mg "sum" = none
 isinst:mg "isinstance" = none
 int:mg "int" = none
 bool:mg "bool" = none
 enum:mg "enumerate" = none
section
variable {X:Cx}{a b c e o:Expr}{es b9:List Expr}{ta tb te to tk:aF}{tr:cM}{tA tB' tc:cL}{pos p2 px:Pos}{st:Stmt}{sts:List Stmt}{t u:aS}
theorem rX (B:Bt X.mg)(ha:QA X [e] tr)(hg:Gl X "len":=by rfl)(he:starEach [e] X.env=(false,eval e X.env)::starEach [] X.env:=by rfl)(hpl:(backTo pos (starEach [] X.env)).any (·.1)=false:=by rfl):QE X (.Call (.Name "len" p2) [e] [] pos) (aD mX tr):=
 gP (ax0.or aA1) aF5 hg B.len PySem.boot_len ha (he:=he) (hpl:=hpl)
theorem rY (B:Bt X.mg)(ha:QA X [e] tr)(hg:Gl X "tuple":=by rfl)(he:starEach [e] X.env=(false,eval e X.env)::starEach [] X.env:=by rfl)(hpl:(backTo pos (starEach [] X.env)).any (·.1)=false:=by rfl):QE X (.Call (.Name "tuple" p2) [e] [] pos) (aD oV tr):=
 P0 ax2 aF6 hg B.tuple PyProof.Rows.boot_tuple ha (he:=he) (hpl:=hpl)
theorem P8 (B:Bt X.mg)(ha:QA X [e] tr)(hg:Gl X "list":=by rfl)(he:starEach [e] X.env=(false,eval e X.env)::starEach [] X.env:=by rfl)(hpl:(backTo pos (starEach [] X.env)).any (·.1)=false:=by rfl):QE X (.Call (.Name "list" p2) [e] [] pos) (aD rL tr):=
 P0 ax1 aF7 hg B.list PyProof.Rows.boot_list ha (he:=he) (hpl:=hpl)
theorem P9 (B:Bt X.mg)(hc:X.calm=true)(ha:QA X [e] tr)(hg:Gl X "all":=by rfl)(he:starEach [e] X.env=(false,eval e X.env)::starEach [] X.env:=by rfl)(hpl:(backTo pos (starEach [] X.env)).any (·.1)=false:=by rfl):QE X (.Call (.Name "all" p2) [e] [] pos) (aD rM tr):=
 gP (aC5 hc) aF8 hg B.all PyProof.Rows.boot_all ha (he:=he) (hpl:=hpl)
theorem iX (B:Bt X.mg)(hc:X.calm=true)(ha:QA X [a,b] tr)(hg:Gl X "min":=by rfl)(he:starEach [a,b] X.env=(false,eval a X.env)::starEach [b] X.env:=by rfl)(hpl:(backTo pos (starEach [b] X.env)).any (·.1)=false:=by rfl):QE X (.Call (.Name "min" p2) [a,b] [] pos) (aD hJ tr):=
 gP (at6 hc) aF9 hg B.min PyProof.Rows.boot_min ha (he:=he) (hpl:=hpl)
theorem nE (B:Bt X.mg)(hc:X.calm=true)(ha:QA X [a,b] tr)(hg:Gl X "max":=by rfl)(he:starEach [a,b] X.env=(false,eval a X.env)::starEach [b] X.env:=by rfl)(hpl:(backTo pos (starEach [b] X.env)).any (·.1)=false:=by rfl):QE X (.Call (.Name "max" p2) [a,b] [] pos) (aD kQ tr):=
 gP (at5 hc) aG0 hg B.max PyProof.Rows.boot_max ha (he:=he) (hpl:=hpl)
theorem aE.kt_ {K:ac}{M:ay->Prop}{H:Hp}{v:V}{xs:List PV}(r:aE K M H v (.kt xs)):∃a us,v = .ref a/\mQ K a us/\Reps K M H us xs:=by
 cases r with
 |kt h r=>exact⟨_,_,rfl,h,r⟩
noncomputable def Q0 (K:ac)(H:Hp)(x:V)(t:av):Prop:=fW K H x t∨∃a us,x = .ref a/\aJ K H a us/\t = .type "tuple"
theorem aJ3:cH X (.builtin "isinstance") (λxs H Q=>∃x t n b,xs = [x,.ty n]/\Q0 X.K H x t/\PySem.W.kitOne X.K t (.type n)=some b/\Q (.bl b) H):=by
 intro ag s σ H xs us Q I r h
 obtain⟨x,t,n,b,rfl,ty,e,q⟩:=h
 rcases ty with ty|⟨a,ws,rfl,hs,rfl⟩
 ·exact aB7 ag s σ H _ us Q I r ⟨x,t,n,b,rfl,ty,e,q⟩
 obtain⟨u,u',rfl,ru,ru'⟩:=lG r
 cases ru';cases (show u=Value.ref a from ru)
 obtain⟨its,_,⟨o,h1,h2,_⟩,_⟩:=I.tuple hs
 exact bz7 PySem.W.kitx_tuple I.kIn ⟨o,h1,h2⟩ e (λz=>nomatch z) λtk=>⟨.bl b,H,I.tok tk,rfl,q⟩
theorem aJ4 {K:ac}{M:ay->Prop}{H:Hp}{v:V}{x:PV}{T:String}(r:aE K M H v x)(e:N9 x=some T):Q0 K H v (.type T):=by
 cases r with
 |non=>cases e;exact .inl .non
 |bl b=>cases e;exact .inl (.bl b)
 |int i=>cases e;exact .inl (.int i)
 |str i=>cases e;exact .inl (.str i)
 |tup h _=>cases e;exact .inl (.tup h)
 |lst _ h _=>cases e;exact .inl (.lst h)
 |kt h _=>cases e;exact .inr ⟨_,_,rfl,.inr h,rfl⟩
 |_=>cases e
theorem wY {x:Str}{n:String}(B:Bt X.mg)(hn:bootBuiltins x=some (.type n))(hm:X.mg x=none)(ha:QE X a ta)(hg:Gl X "isinstance":=by rfl)(hgx:Gl X x:=by rfl)(hx:x≠"__name__":=by decide)(hdx:(x==("__debug__":Str))=false:=by decide)(he:starEach [a,.Name x px] X.env=(false,eval a X.env)::starEach [.Name x px] X.env:=by rfl)(he2:starEach [.Name x px] X.env=(false,eval (.Name x px) X.env)::starEach [] X.env:=by rfl)(hpl:(backTo pos (starEach [.Name x px] X.env)).any (·.1)=false:=by rfl):QE X (.Call (.Name "isinstance" p2) [a,.Name x px] [] pos) (jO X.K n ta):=
 cO (uZ aJ3 hg B.isinst PyProof.Rows.boot_isinstance (gW ha (gW (ap0 (v:=.ty n) hgx hm hn rfl hx hdx) jD he2) he) (he:=he) (hpl:=hpl)) λσ H Q' h=>by
  obtain⟨W,ρ,Q,px,q,k⟩:=h
  refine⟨W,ρ,_,px,q,?_⟩;rintro v H1 x g s r ⟨T,b,e,kt,q⟩
  exact⟨v,_,n,b,rfl,aJ4 r e,kt,k _ _ _ .fr s (.bl _) q⟩
theorem aJ5 (B:Bt X.mg)(ha:QE X a ta)(hg:Gl X "isinstance":=by rfl)(hgx:Gl X "int":=by rfl)(he:starEach [a,.Name "int" px] X.env=(false,eval a X.env)::starEach [.Name "int" px] X.env:=by rfl)(he2:starEach [.Name "int" px] X.env=(false,eval (.Name "int" px) X.env)::starEach [] X.env:=by rfl)(hpl:(backTo pos (starEach [.Name "int" px] X.env)).any (·.1)=false:=by rfl):QE X (.Call (.Name "isinstance" p2) [a,.Name "int" px] [] pos) (jO X.K "int" ta):=wY B PyProof.Rows.boot_int B.int ha (hg:=hg) (hgx:=hgx) (he:=he) (he2:=he2) (hpl:=hpl)
theorem Q2 (B:Bt X.mg)(ha:QE X a ta)(hg:Gl X "isinstance":=by rfl)(hgx:Gl X "bool":=by rfl)(he:starEach [a,.Name "bool" px] X.env=(false,eval a X.env)::starEach [.Name "bool" px] X.env:=by rfl)(he2:starEach [.Name "bool" px] X.env=(false,eval (.Name "bool" px) X.env)::starEach [] X.env:=by rfl)(hpl:(backTo pos (starEach [.Name "bool" px] X.env)).any (·.1)=false:=by rfl):QE X (.Call (.Name "isinstance" p2) [a,.Name "bool" px] [] pos) (jO X.K "bool" ta):=wY B PyProof.Rows.boot_bool B.bool ha (hg:=hg) (hgx:=hgx) (he:=he) (he2:=he2) (hpl:=hpl)
theorem Q3 (B:Bt X.mg)(ha:QE X a ta)(hg:Gl X "isinstance":=by rfl)(hgx:Gl X "tuple":=by rfl)(he:starEach [a,.Name "tuple" px] X.env=(false,eval a X.env)::starEach [.Name "tuple" px] X.env:=by rfl)(he2:starEach [.Name "tuple" px] X.env=(false,eval (.Name "tuple" px) X.env)::starEach [] X.env:=by rfl)(hpl:(backTo pos (starEach [.Name "tuple" px] X.env)).any (·.1)=false:=by rfl):QE X (.Call (.Name "isinstance" p2) [a,.Name "tuple" px] [] pos) (jO X.K "tuple" ta):=wY B PyProof.Rows.boot_tuple B.tuple ha (hg:=hg) (hgx:=hgx) (he:=he) (he2:=he2) (hpl:=hpl)
noncomputable def wZ (K:ac)(n:Nat)(neg:Bool):R2:=λv w H Q=>∃x y,aE K (λ_=>True) H v x/\aE K (λ_=>True) H w y/\((∃xs ys,x = .tup xs/\y = .tup ys)∨(∃xs ys,x = .lst xs/\y = .lst ys)∨(∃xs ys,x = .kt xs/\y = .kt ys))/\cY (n+1) x y=true/\Q (.bl (if neg=true then !bL (n+1) x y else bL (n+1) x y)) H
theorem nF {ag:List (ay×Obj)}{σ:St}{H:Hp}{s:ax}{M M':ay->Prop}(I:a8 X ag σ H s){n:Nat}{A:ba}(hu:A.units+(n+1)<cLine){us ws:List V}{xs ys:List PV}{its am:List av}(r1:Reps X.K M H us xs)(r2:Reps X.K M' H ws ys)(v1:aL us its)(v2:aL ws am)(ok:((xs.zip ys).all λp=>cY n p.1 p.2)=true):∀j (h1:j<its.toArray.size) (h2:j<am.toArray.size),SeqAt.EqAt A.in1 s its.toArray[j] am.toArray[j] (bL n (xs.getD j .non) (ys.getD j .non)):=by
 intro j h1 h2;have l1:=v1.length;have l2:=v2.length;have m1:=r1.length;have m2:=r2.length;have k1:j<its.length:=by simpa using h1
 have k2:j<am.length:=by simpa using h2
 have j1:j<us.length:=by omega
 have j2:j<ws.length:=by omega
 have i1:j<xs.length:=by omega
 have i2:j<ys.length:=by omega
 obtain⟨u,hu',ru⟩:=v1.get (bo6 j1)
 obtain⟨u2,hu2',ru2⟩:=v2.get (bo6 j2)
 obtain⟨x,hx,rx⟩:=r1.get (bo6 j1)
 obtain⟨y,hy,ry⟩:=r2.get (bo6 j2)
 have e1:its.toArray[j]=u:=by
  rw[bo6 k1]at hu';simpa using hu'
 have e2:am.toArray[j]=u2:=by
  rw[bo6 k2]at hu2';simpa using hu2'
 have ok':cY n x y=true:=by
  rw[bB0]at ok;have hz:j<(xs.zip ys).length:=by simp;omega
  have:=ok _ (by0 hz)
  rw[List.getElem_zip]at this;rw[bo6 i1]at hx;rw[bo6 i2]at hy;cases hx;cases hy;exact this
 rw[e1,e2];have g1:xs.getD j .non=x:=by rw[bp3,hx];rfl
 have g2:ys.getD j .non=y:=by rw[bp3,hy];rfl
 rw[g1,g2];exact P7 I n (by show A.units+1+n<cLine;omega) rx ry ru ru2 ok'
theorem aJ6 (n:Nat)(hu:X.A.units+(n+1)<cLine):cK X (compareOp .Eq) (wZ X.K n false):=by
 intro ag s σ H v w a b Q I ra rb h
 obtain⟨x,y,rx,ry,kd,o,q⟩:=h
 have hu0:X.A.units<cLine:=by omega
 rcases kd with⟨xs,ys,rfl,rfl⟩|⟨xs,ys,rfl,rfl⟩|⟨xs,ys,rfl,rfl⟩
 ·obtain⟨p,us,rfl,h1,r1⟩:=rx.sqT
  obtain⟨p2,ws,rfl,h2,r2⟩:=ry.sqT
  cases ra;cases rb
  obtain⟨its,v1,p1,_⟩:=I.tuple (aJ.of (K:=X.K) h1)
  obtain⟨am,v2,p2',_⟩:=I.tuple (aJ.of (K:=X.K) h2)
  have l1:=v1.length;have l2:=v2.length;have m1:=r1.length;have m2:=r2.length
  have:=SeqAt.RcAt.tuples p1 p2' hu0 (nF I hu r1 r2 v1 v2 o)
  rw[bo8,bo8,<- l1,<- l2,m1,m2,jW]at this;exact this _ _ _ _ ⟨.bl _,H,I,rfl,q⟩
 ·obtain⟨p,us,rfl,_,h1,r1⟩:=rx.sqL
  obtain⟨p2,ws,rfl,_,h2,r2⟩:=ry.sqL
  cases ra;cases rb
  obtain⟨its,v1,p1,_⟩:=I.list (aM.of (K:=X.K) h1)
  obtain⟨am,v2,p2',_⟩:=I.list (aM.of (K:=X.K) h2)
  have l1:=v1.length;have l2:=v2.length;have m1:=r1.length;have m2:=r2.length;have q:Q (.bl ((xs.zip ys).all (λp=>bL n p.1 p.2)&&xs.length==ys.length)) H:=q;by_cases hl:xs.length=ys.length
  ·have:=SeqAt.RcAt.lists p1.isList p2'.isList (by rw[bo8,bo8];omega) hu0 (nF I hu r1 r2 v1 v2 o)
   have hm:min xs.length ys.length=its.length:=by omega
   rw[bo8,<- hm,jW]at this;rw[show (xs.length==ys.length)=true by simpa using hl,Bool.and_true]at q;exact this _ _ _ _ ⟨.bl _,H,I,rfl,q⟩
  ·have:=SeqAt.RcAt.lists_lengths (A:=X.A) p1.isList p2'.isList (by rw[bo8,bo8];simp;omega) hu0
   rw[show (xs.length==ys.length)=false by simpa using hl,bG9]at q;exact this _ _ _ _ ⟨.bl _,H,I,rfl,q⟩
 ·obtain⟨p,us,rfl,h1,r1⟩:=rx.kt_
  obtain⟨p2,ws,rfl,h2,r2⟩:=ry.kt_
  cases ra;cases rb
  obtain⟨its,v1,p1,_⟩:=I.tuple (.inr h1)
  obtain⟨am,v2,p2',_⟩:=I.tuple (.inr h2)
  have l1:=v1.length;have l2:=v2.length;have m1:=r1.length;have m2:=r2.length
  have:=SeqAt.RcAt.tuples p1 p2' hu0 (nF I hu r1 r2 v1 v2 o)
  rw[bo8,bo8,<- l1,<- l2,m1,m2,jW]at this;exact this _ _ _ _ ⟨.bl _,H,I,rfl,q⟩
theorem aJ7 (n:Nat)(hu:X.A.units+(n+1)<cLine):cK X (compareOp .NotEq) (wZ X.K n true):=by
 intro ag s σ H v w a b Q I ra rb h
 obtain⟨x,y,rx,ry,kd,o,q⟩:=h
 have hu0:X.A.units<cLine:=by omega
 rcases kd with⟨xs,ys,rfl,rfl⟩|⟨xs,ys,rfl,rfl⟩|⟨xs,ys,rfl,rfl⟩
 ·obtain⟨p,us,rfl,h1,r1⟩:=rx.sqT
  obtain⟨p2,ws,rfl,h2,r2⟩:=ry.sqT
  cases ra;cases rb
  obtain⟨its,v1,p1,_⟩:=I.tuple (aJ.of (K:=X.K) h1)
  obtain⟨am,v2,p2',_⟩:=I.tuple (aJ.of (K:=X.K) h2)
  have l1:=v1.length;have l2:=v2.length;have m1:=r1.length;have m2:=r2.length
  have:=SeqAt.RcNeAt.tuples p1 p2' hu0 (nF I hu r1 r2 v1 v2 o)
  rw[bo8,bo8,<- l1,<- l2,m1,m2,jW]at this;exact this _ _ _ _ ⟨.bl _,H,I,rfl,q⟩
 ·obtain⟨p,us,rfl,_,h1,r1⟩:=rx.sqL
  obtain⟨p2,ws,rfl,_,h2,r2⟩:=ry.sqL
  cases ra;cases rb
  obtain⟨its,v1,p1,_⟩:=I.list (aM.of (K:=X.K) h1)
  obtain⟨am,v2,p2',_⟩:=I.list (aM.of (K:=X.K) h2)
  have l1:=v1.length;have l2:=v2.length;have m1:=r1.length;have m2:=r2.length;have q:Q (.bl (!((xs.zip ys).all (λp=>bL n p.1 p.2)&&xs.length==ys.length))) H:=q;by_cases hl:xs.length=ys.length
  ·have:=SeqAt.RcNeAt.lists p1.isList p2'.isList (by rw[bo8,bo8];omega) hu0 (nF I hu r1 r2 v1 v2 o)
   have hm:min xs.length ys.length=its.length:=by omega
   rw[bo8,<- hm,jW]at this;rw[show (xs.length==ys.length)=true by simpa using hl,Bool.and_true]at q;exact this _ _ _ _ ⟨.bl _,H,I,rfl,q⟩
  ·have:=SeqAt.RcNeAt.lists_lengths (A:=X.A) p1.isList p2'.isList (by rw[bo8,bo8];simp;omega) hu0
   rw[show (xs.length==ys.length)=false by simpa using hl,bG9]at q;exact this _ _ _ _ ⟨.bl _,H,I,rfl,q⟩
 ·obtain⟨p,us,rfl,h1,r1⟩:=rx.kt_
  obtain⟨p2,ws,rfl,h2,r2⟩:=ry.kt_
  cases ra;cases rb
  obtain⟨its,v1,p1,_⟩:=I.tuple (.inr h1)
  obtain⟨am,v2,p2',_⟩:=I.tuple (.inr h2)
  have l1:=v1.length;have l2:=v2.length;have m1:=r1.length;have m2:=r2.length
  have:=SeqAt.RcNeAt.tuples p1 p2' hu0 (nF I hu r1 r2 v1 v2 o)
  rw[bo8,bo8,<- l1,<- l2,m1,m2,jW]at this;exact this _ _ _ _ ⟨.bl _,H,I,rfl,q⟩
theorem Q4 {n:Nat}{neg:Bool}:fG X (jP n neg) (wZ X.K n neg):=by
 rintro W Hs H u v x y g g' Q Q' s n r1 r2 ⟨kd,o,q⟩ k
 exact⟨x,y,r1.same (aG.refl _) λ_ _=>trivial,r2.same (aG.refl _) λ_ _=>trivial,kd.elim .inl λz=>.inr (.inl z),o,k _ _ _ .fr (aG.refl _) (.bl _) q⟩
theorem pB (hu:X.A.units+3<cLine)(ha:QE X a ta)(hb:QE X b tb):QT X (.Compare a [.NotEq] [b] pos) (bF (q2 (jP 2 true) ta tb)):=nD (aJ7 2 hu) Q4 ha hb (gV _)
theorem aJ8 (hu:X.A.units+3<cLine)(ha:QE X a ta)(hb:QE X b tb):QE X (.Compare a [.Eq] [b] pos) (q2 (jP 2 false) ta tb):=nC (aJ6 2 hu) Q4 ha hb (gV _)
end
end PP
namespace PP
open PySem L2 PyProof.Rows
noncomputable def LO (X:Cx)(t:nB):TO:=λσ H Q'=>∃(W:ay->Prop) (ρ:bG) (Q:Option Int->Prop),PX X.K X.H₀ W σ ρ H/\t ρ Q/\∀o H',aG H H'->Q o->Q' o H'
noncomputable def QO (X:Cx)(e:Option Expr)(t:nB):Prop:=PO X e (LO X t)
theorem Reps.cut {K:ac}{M:ay->Prop}{H:Hp}{us:List V}{xs:List PV}(r:Reps K M H us xs)(lo hi:Option Int):Reps K M H (iB us lo hi) (jQ xs lo hi):=by
 unfold iB jQ;rw[r.length];exact (r.drop _).take _
section
variable {X:Cx}{a b c e o:Expr}{es b9:List Expr}{ta tb te to tk:aF}{tr:cM}{tA tB' tc:cL}{pos p2 px:Pos}{st:Stmt}{sts:List Stmt}{t u:aS}
theorem Q5:QO X none wO:=λag s σ H Q I h=>av4 ag s σ H Q I (by
 obtain⟨W,ρ,Q1,px,q,k⟩:=h
 exact k _ _ (aG.refl _) q)
theorem Q6 (h:QE X e te):QO X (some e) (wP te):=λag s σ H Q I hq=>av5 h ag s σ H Q I (by
 obtain⟨W,ρ,Q1,px,q,k⟩:=hq
 refine⟨W,ρ,_,px,q,?_⟩;rintro v H1 x g s r ⟨i,rfl,q⟩;cases r
 exact⟨i,rfl,k _ _ s q⟩)
theorem Q7 {lo hi:Option Expr}{tl th:nB}{sp:Pos}(he:QE X e te)(hl:QO X lo tl)(hh:QO X hi th):QE X (.Subscript e (.Slice lo hi none sp) pos) (wQ te tl th):=cO (av6 (aw9.or aC8) he hl hh) λσ H Q' h=>by
 obtain⟨W,ρ,Q,px,q,k⟩:=h
 refine⟨W,ρ,_,px,q,λv H1 x g s1 r1 q1=>⟨W,ρ,_,px.mono s1,q1,λlo H2 s2 q2=>⟨W,ρ,_,px.mono (s1.trans s2),q2,?_⟩⟩⟩;rintro hi H3 s3 ⟨xs,e,f,q3⟩;have S:=(s1.trans s2).trans s3;have r3:=r1.same (M':=Mg X.H₀ W H g) (s2.trans s3) λ_ z=>z
 cases r3 with
 |tup h r=>
  cases e;refine .inr ⟨_,_,rfl,aJ.of h,λp hp=>k _ _ _ .fr (S.trans (bK hp _)) (.tup bZ (((r.flat f).cut lo hi).same (bK hp _) λ_ z=>z)) q3,λec=>k _ _ _ .fr S (.tup h ?_) q3⟩
  have:=(r.flat (M':=Mg X.H₀ W H .fr) f).cut lo hi
  rw[ec]at this;exact this
 |lst m h r=>
  cases e;exact .inl ⟨_,_,rfl,aM.of h,λp hp=>k _ _ _ .fr (S.trans (bK hp _)) (.lst (S.free hp) bZ (((r.flat f).cut lo hi).same (bK hp _) λ_ z=>z)) q3⟩
 |scr h=>
  cases e;exact .inl ⟨_,_,rfl,h.sqL,λp hp=>k _ _ _ .fr (S.trans (bK hp _)) (.lst (S.free hp) bZ (((Reps.intz _).cut lo hi).same (bK hp _) λ_ z=>z)) q3⟩
 |fL h r=>
  cases e;exact .inl ⟨_,_,rfl,.inl (.inr ⟨_,h⟩),λp hp=>k _ _ _ .fr (S.trans (bK hp _)) (.lst (S.free hp) bZ (((r.flat f).cut lo hi).same (bK hp _) λ_ z=>z)) q3⟩
 |_=>cases e
structure Df (P:az)(w:bc)(K:ac)(mg:Str->Option av)(base:Heap)(k:Nat)(x:Str)(ps:List Str)(p:cD):Prop where
 ex:∃f fd,dX P w K mg base g9 k f fd ps (oR K p)/\lH K fd ps []/\PySem.W.keepIn K (.ref f)=true/\mg x=some (.ref f)
theorem bA {k j:Nat}{x:Str}{ps:List Str}{p:cD}(d:Df X.prog X.w X.K X.mg X.base k x ps p)(hr:cI j X.A)(ha:QA X (e::es) tr)(hkj:k<=j:=by decide)(hg:Gl X x:=by rfl)(hdb:(x==("__debug__":Str))=false:=by decide)(he:starEach (e::es) X.env=(false,eval e X.env)::starEach es X.env:=by rfl)(hpl:(backTo pos (starEach es X.env)).any (·.1)=false:=by rfl):QE X (.Call (.Name x p2) (e::es) [] pos) (aD p tr):=by
 obtain⟨f,fd,F,b,kp,m⟩:=d.ex
 exact cO (uX F (hr.mono hkj) hg m kp b .nil az8 ha hdb he hpl) λ_ _ _=>aG1
theorem x3 {K:ac}{H:Hp}{N:List Str}{vs:List V}{xs:List PV}(r:Reps K (λ_=>True) H vs xs):PX K H (λ_=>False) (L2.gY N vs) (gB N xs) H:=by
 have lr:=r.length;have own:∀{i:Nat}{m:Slot},(gB N xs)[i]? = some (some m)->∃x,xs[i]? = some x/\m = .sh (flat x) x:=λ{i m} h=>by
  unfold gB at h;by_cases hi:i<xs.length
  ·rw[bB4 (by simpa using hi),bq6]at h
   rw[bo6 hi]at h ⊢;cases h
   exact⟨_,rfl,rfl⟩
  ·rw[bC7 (by simpa using hi),List.getElem?_replicate]at h
   split at h<;>cases h
 refine⟨by unfold L2.gY gB;simp[lr],aG.refl _,λa z=>z.elim,λi m h=>?_,λi j x y a h1=>?_⟩
 ·obtain⟨x,hx,rfl⟩:=own h
  obtain⟨v,hv,rx⟩:=r.at hx
  refine⟨v,?_,iF (g:=false) (rx.same (aG.refl _) λ_ _ z=>z)⟩;have hi:i<vs.length:=(bq1.mp hv).1;unfold L2.gY;rw[bB4 (by simpa using hi),bq6,hv];rfl
 ·obtain⟨x,_,e⟩:=own h1
  cases e
theorem Df.of {P:az}{w:bc}{K:ac}{mg:Str->Option av}{base:Heap}{k:Nat}{x:Str}{ps N:List Str}{p:cD}{st:Stmt}{f:ay}{fd:FuncData}(F:gJ K x x st f fd)(m:mg x=some (.ref f))(S:FnScope N ps (b6 st))(hb:∀(kV doc pm:av) (an:Option ay) (cdv ct:av) (us:List av),us.length=ps.length->bindArgs (PySem.W.fnOf x x (jF st) (eO st) (b6 st) .none kV doc pm an cdv ct) ⟨us,[]⟩=pure (ps.zip us))(len:∀xs Q,p xs Q->xs.length=ps.length)(body:∀(cdv:av) (A:ba) (outer:List Env) (s:ax) (H:Hp) (E:XK),cI k (A.deeper (envOfC x (b6 st) s.heap.objs.size f cdv))->
   ∃t,fJ (dH g9 P w K mg base N x (b6 st) f cdv A outer s H E).nox (eO st) t/\∀xs Q,p xs Q->t { nx:=λ_=>Q .non,rt:=Q } (gB N xs)):Df P w K mg base (k+1) x ps p:=by
 refine⟨f,fd,F.ok S (λvs H Q E h=>?_) (λcdv A outer s H vs Q E hr h=>?_),F.binds hb,F.kp,m⟩
 ·obtain⟨xs,Qp,r,q,_⟩:=h
  rw[r.length];exact len xs Qp q
 ·obtain⟨xs,Qp,r,q,k⟩:=h
  obtain⟨t,ht,hq⟩:=body cdv A outer s H E hr
  refine⟨_,ht,λ_=>False,gB N xs,_,x3 r,hq xs Qp q,?_,?_,?_,?_⟩
  ·exact λW' σ' H' ρ' e px q=>k _ _ _ px.same .non q
  ·exact λv H' x s r q=>k _ _ _ s r q
  ·exact λW' σ' H' ρ' e px q=>q
  ·exact λW' σ' H' ρ' e px q=>q
theorem iY (i:Nat){x:Str}{tp:Pos}{body:List Stmt}{ti:eL}(hN:X.N.Nodup)(hi:QI X (.Name x tp) e ti)(hb:fJ X body t)(hx:X.N[i]? = some x:=by rfl)(hl:i8 X.env.scope x:=by first|exact Or.inl rfl|exact Or.inr rfl)(hf:X.fn x=true∨X.env.scope.names.lookup x=some .local:=by first|exact .inl rfl|exact .inr rfl)(hp:PassesOwn (model X.prog X.w) X.A X.env X.xe:=by exact PassesOwn.never)(hc:X.calm=true:=by rfl)(hs:∀x,foldedSetIterable e X.env x=pure x:=by intro _;rfl):QS X (.For (.Name x tp) e body [] pos) (fH ti (cN i) t):=
 P6 hp hc hi (fR hN hx hl hf) (rR _ i) hb hs
theorem aJ9 (i j:Nat){x y:Str}{tp xp yp:Pos}{kt:Nat}{body:List Stmt}{ti:eL}(hN:X.N.Nodup)(hi:QI X (.Tuple [.Name x xp,.Name y yp] kt tp) e ti)(hb:fJ X body t)(hx:X.N[i]? = some x:=by rfl)(hy:X.N[j]? = some y:=by rfl)(hlx:i8 X.env.scope x:=by first|exact Or.inl rfl|exact Or.inr rfl)(hly:i8 X.env.scope y:=by first|exact Or.inl rfl|exact Or.inr rfl)(hfx:X.fn x=true∨X.env.scope.names.lookup x=some .local:=by first|exact .inl rfl|exact .inr rfl)(hfy:X.fn y=true∨X.env.scope.names.lookup y=some .local:=by first|exact .inl rfl|exact .inr rfl)(hp:PassesOwn (model X.prog X.w) X.A X.env X.xe:=by exact PassesOwn.never)(hc:X.calm=true:=by rfl)(hs:∀x,foldedSetIterable e X.env x=pure x:=by intro _;rfl):QS X (.For (.Tuple [.Name x xp,.Name y yp] kt tp) e body [] pos) (fH ti (mZ i j) t):=
 P6 hp hc hi (uK hc (i9 (fR hN hx hlx hfx) (i9 (fR hN hy hly hfy) qJ))) (N5 _ i j) hb hs
noncomputable abbrev cU:av->ax->Prop:=λ_ _=>False
section
variable {scope:Scope}{N:List Str}{fr:List (Option Nat)}{x y:Str}{tp xp yp:Pos}{kt:Nat}{iter elt:Expr}{ti:eL}
theorem Q8 {ifs:List Expr}{tcs:cL}(he:∀(s:ax) (H:Hp) (C:ay) (fp:List ay),QE (bR X scope N s H C fp cU) elt te)(hi:∀(s:ax) (H:Hp) (C:ay) (fp:List ay),kN (bR X scope N s H C fp cU) ifs (LT (bR X scope N s H C fp cU) tcs))(hN:N.Nodup)(h0:N[0]? = some x)(hl:∀(s:ax) (H:Hp) (C:ay) (fp:List ay),(bR X scope N s H C fp cU).env.scope.names.lookup x=some .local)(s:ax)(H:Hp) :
  mO X scope N (.Name x tp) ifs elt s H (cW 0) (LT (X.frm H) tcs) (LE (X.frm H) te):=
 ⟨λC fp=>fR (X:=bR X scope N s H C fp cU) hN h0 (.inl (hl s H C fp)) (.inr (hl s H C fp)),λC fp=>hi s H C fp,λC fp=>he s H C fp⟩
theorem x4 {Y:Cx}:kN Y [] (LT Y dM):=λag s σ H Q I h=>aA4 ag s σ H Q I (aH2 h)
theorem rZ (hi:QI X (.Name x tp) iter ti)(he:∀(s:ax) (H:Hp) (C:ay) (fp:List ay),QE (bR X scope N s H C fp cU) elt te)(hc:X.calm=true:=by rfl)(S:eQ X scope N fr:=by exact eQ.of rfl rfl)(hN:N.Nodup:=by decide +kernel)(h0:N[0]? = some x:=by rfl)(hl:∀(s:ax) (H:Hp) (C:ay) (fp:List ay),(bR X scope N s H C fp cU).env.scope.names.lookup x=some .local:=by intro _ _ _ _;rfl)(hf:fr[0]? = some none:=by rfl)(hs:∀x,foldedSetIterable iter X.env x=pure x:=by intro _;rfl):QE X (.ListComp elt [⟨.Name x tp,iter,[],0⟩] scope pos) (eV ti fr (cN 0) dM te):=
 cO (vJ (gh:=λ_=>cW 0) (tch:=λH=>LT (X.frm H) dM) (teh:=λH=>LE (X.frm H) te) hc S hi (Q8 he (λ_ _ _ _=>x4) hN h0 hl) hs) λ_ _ _=>rS (rR _ 0) (λi e=>by subst e;exact hf)
theorem aK0 {c:Expr}{tcs:cL}(hi:QI X (.Name x tp) iter ti)(ht:∀(s:ax) (H:Hp) (C:ay) (fp:List ay),QT (bR X scope N s H C fp cU) c tcs)(he:∀(s:ax) (H:Hp) (C:ay) (fp:List ay),QE (bR X scope N s H C fp cU) elt te)(hc:X.calm=true:=by rfl)(S:eQ X scope N fr:=by exact eQ.of rfl rfl)(hN:N.Nodup:=by decide +kernel)(h0:N[0]? = some x:=by rfl)(hl:∀(s:ax) (H:Hp) (C:ay) (fp:List ay),(bR X scope N s H C fp cU).env.scope.names.lookup x=some .local:=by intro _ _ _ _;rfl)(hf:fr[0]? = some none:=by rfl)(hs:∀x,foldedSetIterable iter X.env x=pure x:=by intro _;rfl):QE X (.ListComp elt [⟨.Name x tp,iter,[c],0⟩] scope pos) (eV ti fr (cN 0) tcs te):=
 cO (vJ (gh:=λ_=>cW 0) (tch:=λH=>LT (X.frm H) tcs) (teh:=λH=>LE (X.frm H) te) hc S hi (Q8 he (λs H C fp=>aA5 (ht s H C fp)) hN h0 hl) hs) λ_ _ _=>rS (rR _ 0) (λi e=>by subst e;exact hf)
end
end
end PP
namespace SO
open PySem PyProof.Rows
section
variable (rk:Keyed→Int)
noncomputable def Kr (xs:Array Keyed)(i:Nat):Int:=((xs[i]?).map rk).getD 0
noncomputable def Up (xs:Array Keyed)(lo hi:Nat):Prop:=∀i j,lo<=i->i<=j->j<hi->Kr rk xs i<=Kr rk xs j
noncomputable def Dn (xs:Array Keyed)(lo hi:Nat):Prop:=∀i j,lo<=i->i<=j->j<hi->Kr rk xs j<=Kr rk xs i
end
variable {rk:Keyed→Int}
theorem lY {xs ys:Array Keyed}{i j:Nat}(h:xs[i]? = ys[j]?):Kr rk xs i=Kr rk ys j:=by unfold Kr;rw[h]
theorem sA {xs:Array Keyed}{i j:Nat}(hj:j<=xs.size)(k:Nat):Kr rk (mirror xs i j ((j-i)/2)) k=Kr rk xs (if i<=k/\k<j then i+j-1-k else k):=by
 refine lY ?_;rw[getElem?_mirror_all hj];split<;>rfl
theorem x5 {xs:Array Keyed}{i j:Nat}(hj:j<=xs.size)(e:∀k,i<=k->k<j->Kr rk xs k=Kr rk xs (j-1))(k:Nat):Kr rk (mirror xs i j ((j-i)/2)) k=Kr rk xs k:=by
 rw[sA hj];split
 ·rename_i h;rw[e k h.1 h.2,e _ (by omega) (by omega)]
 ·rfl
theorem aK1 {xs:Array Keyed}{src d:Nat}(hs:src<xs.size)(hd:d<=src)(k:Nat):Kr rk (bubble xs src d) k=Kr rk xs (if k=src-d then src else if src-d<k/\k<=src then k-1 else k):=by
 refine lY ?_;rw[getElem?_bubble hs d hd]
 repeat' split
 all_goals rfl
structure SB (κ:SortKind)(a0:Array Keyed)(pd:Array (Nat×Nat×Nat))(st:SortSt):Prop where
 pm:(arrOf st).Perm a0
 kd:kindOf st=κ
 ok:failedOf st=none
 pd:pendingOf st=pd
section
variable {κ:SortKind}{a0:Array Keyed}{pd:Array (Nat×Nat×Nat)}{st:SortSt}{prog:az}{w:bc}{A:ba}{E:av→ax→Prop}{s:ax}{Ok:Keyed→Prop}
theorem SB.sz (h:SB κ a0 pd st):(arrOf st).size=a0.size:=h.pm.size_eq
theorem SB.put (h:SB κ a0 pd st){xs:Array Keyed}(hp:xs.Perm (arrOf st)):SB κ a0 pd (setArr st xs):=⟨hp.trans h.pm,h.kd,h.ok,h.pd⟩
noncomputable def cP (prog:az)(w:bc)(A:ba)(E:av->ax->Prop)(s:ax)(κ:SortKind)(Ok:Keyed->Prop)(rk:Keyed->Int):Prop:=
 ∀(x y:Keyed),Ok x->Ok y->∀(st:SortSt) (Q:Option Bool->SortSt->Prop),kindOf st=κ->Q (some (decide (rk x<rk y))) st->wpS (model prog w) A E s (lt' x y) Q st
noncomputable def bM (Ok:Keyed->Prop)(xs:Array Keyed):Prop:=∀x∈xs,Ok x
theorem SB.all (h:SB κ a0 pd st)(o:bM Ok a0):bM Ok (arrOf st):=λx hx=>o x (h.pm.mem_iff.mp hx)
theorem dC {xs:Array Keyed}{i:Nat}{Q:Keyed->SortSt->Prop}(hi:i<xs.size)(h:Q xs[i] st):wpS (model prog w) A E s (elem' xs i) Q st:=by
 rw[elem'_eq,getElem?_pos xs i hi];exact bq9 h
theorem cE {xs:Array Keyed}{i:Nat}(hi:i<xs.size):Kr rk xs i=rk xs[i]:=by unfold Kr;rw[getElem?_pos xs i hi];rfl
theorem pD (c:cP prog w A E s κ Ok rk)(o:bM Ok a0)(b:SB κ a0 pd st){i j:Nat}{Q:Option Bool->SortSt->Prop}(hi:i<a0.size)(hj:j<a0.size)(h:Q (some (decide (Kr rk (arrOf st) i<Kr rk (arrOf st) j))) st):wpS (model prog w) A E s (ltAt' i j) Q st:=by
 have hi':i<(arrOf st).size:=by rw[b.sz];exact hi
 have hj':j<(arrOf st).size:=by rw[b.sz];exact hj
 rw[ltAt'_eq];refine bq2 (wpS_get (bq2 (dC hi' (bq2 (dC hj' ?_)))));refine c _ _ (b.all o _ (bu8 hi')) (b.all o _ (bu8 hj')) st Q b.kd ?_;rw[<- cE (rk:=rk) hi',<- cE (rk:=rk) hj'];exact h
theorem sB {i j:Nat}{Q:Unit->SortSt->Prop}(h:Q () (setArr st (mirror (arrOf st) i j ((j-i)/2)))):wpS (model prog w) A E s (reverseSlice' i j) Q st:=by
 rw[reverseSlice'_eq];exact wpS_modify h
noncomputable abbrev CS:=Option (Option Nat)×Nat
noncomputable abbrev DS:=Option (Option Nat)×Nat×Nat
noncomputable def pE (lo b al:Nat):StateT SortSt Sem CS:=forIn [b:al] ((none,b):CS) λ_ r=>do
 match <- ltAt' (lo+r.2) (lo+r.2-1) with
 |some q=>if q=true then pure (ForInStep.done (none,r.2)) else pure (ForInStep.yield (none,r.2+1))
 |_=>pure (ForInStep.done (some none,r.2))
noncomputable def x6 (lo b al:Nat):StateT SortSt Sem DS:=forIn [b:al] ((none,b,0):DS) λ_ r=>do
 match <- ltAt' (lo+r.2.1) (lo+r.2.1-1) with
 |some q=>
  if q=true then (if r.2.2>0 then do reverseSlice' (lo+r.2.1-(r.2.2+1)) (lo+r.2.1);pure (ForInStep.yield (none,r.2.1+1,0)) else pure (ForInStep.yield (none,r.2.1+1,0)))
  else do
   match <- ltAt' (lo+r.2.1-1) (lo+r.2.1) with
   |some q=>if q=true then pure (ForInStep.done (none,r.2.1,r.2.2)) else pure (ForInStep.yield (none,r.2.1+1,r.2.2+1))
   |_=>pure (ForInStep.done (some none,r.2.1,r.2.2))
 |_=>pure (ForInStep.done (some none,r.2.1,r.2.2))
theorem Q9 (c:cP prog w A E s κ Ok rk)(o:bM Ok a0)(b:SB κ a0 pd st){lo n al:Nat}{Q:CS->SortSt->Prop}(hz:lo+al<=a0.size)(h1:1<=n)(hn:n<=al)(u:Up rk (arrOf st) lo (lo+n))(h:∀m,n<=m->m<=al->Up rk (arrOf st) lo (lo+m)->(m=al∨Kr rk (arrOf st) (lo+m)<Kr rk (arrOf st) (lo+m-1))->Q (none,m) st):wpS (model prog w) A E s (pE lo n al) Q st:=by
 unfold pE;refine bz6 (I:=λx r st'=>st'=st/\r=(none,x)/\Up rk (arrOf st) lo (lo+x)) ?_ ?_ ⟨rfl,rfl,u⟩
 ·rintro x r st' hx hx' ⟨rfl,rfl,u'⟩
  refine bq2 (pD c o b (by omega) (by omega) ?_);by_cases hq:Kr rk (arrOf st') (lo+x)<Kr rk (arrOf st') (lo+x-1)
  ·rw[bp8 hq]
   exact bq9 (h x hx (by omega) u' (.inr hq))
  ·rw[bp6 hq]
   refine bq9 ⟨rfl,rfl,λi j hi hij hj=>?_⟩;rcases bs3 j (lo+x) with z|z
   ·exact u' i j hi hij z
   ·have ej:j=lo+x:=by omega
    subst ej;rcases bF4 hij with z|z
    ·rw[z];exact bo9 _
    ·have:=u' i (lo+x-1) hi (by omega) (by omega)
     omega
 ·rintro r st' ⟨rfl,rfl,u'⟩
  have em:max n al=al:=by omega
  rw[em]at u' ⊢;exact h al hn (bp7 _) u' (.inl rfl)
structure pF (rk:Keyed->Int)(xs ys:Array Keyed)(lo m q:Nat):Prop where
 dn:Dn rk ys lo (lo+m)
 le:q+1<=m
 eq:∀i,lo+m-(q+1)<=i->i<lo+m->Kr rk ys i=Kr rk ys (lo+m-1)
 low:∀i,i<lo->Kr rk ys i=Kr rk xs i
theorem aK2 (c:cP prog w A E s κ Ok rk)(o:bM Ok a0)(b:SB κ a0 pd st){lo n al:Nat}{xs:Array Keyed}{Q:DS->SortSt->Prop}(hz:lo+al<=a0.size)(h1:1<=n)(hn:n<=al)(u:pF rk xs (arrOf st) lo n 0)(h:∀m q st',SB κ a0 pd st'->n<=m->m<=al->pF rk xs (arrOf st') lo m q->Q (none,m,q) st'):wpS (model prog w) A E s (x6 lo n al) Q st:=by
 unfold x6;refine bz6 (I:=λx r st'=>∃q,r=(none,x,q)/\SB κ a0 pd st'/\pF rk xs (arrOf st') lo x q) ?_ ?_ ⟨0,rfl,b,u⟩
 ·rintro x r st' hx hx' ⟨q,rfl,b',f⟩
  have sz:=b'.sz;dsimp only;refine bq2 (pD c o b' (by omega) (by omega) ?_);by_cases hq:Kr rk (arrOf st') (lo+x)<Kr rk (arrOf st') (lo+x-1)
  ·rw[bp8 hq]
   have nx:∀ys:Array Keyed,(∀k,Kr rk ys k=Kr rk (arrOf st') k)->pF rk xs ys lo (x+1) 0:=λys e=>by
    refine⟨λi j hi hij hj=>?_,by omega,λi h1 h2=>by rw[show i=lo+(x+1)-1 by omega],λi hi=>(e i).trans (f.low i hi)⟩;rw[e,e];rcases bs3 j (lo+x) with z|z
    ·exact f.dn i j hi hij z
    ·have ej:j=lo+x:=by omega
     subst ej;rcases bF4 hij with z|z
     ·rw[z];exact bo9 _
     ·have:=f.dn i (lo+x-1) hi (by omega) (by omega)
      omega
   dsimp only;rw[if_pos rfl];by_cases hp:q>0
   ·rw[if_pos hp]
    exact bq2 (sB (bq9 ⟨0,rfl,b'.put (mirror_perm _ _ _ _),nx _ (x5 (by omega) f.eq)⟩))
   ·rw[if_neg hp]
    exact bq9 ⟨0,rfl,b',nx _ λ_=>rfl⟩
  ·rw[bp6 hq]
   dsimp only;rw[if_neg br3];refine bq2 (pD c o b' (by omega) (by omega) ?_);by_cases hl:Kr rk (arrOf st') (lo+x-1)<Kr rk (arrOf st') (lo+x)
   ·rw[bp8 hl]
    exact bq9 (h x q st' b' hx (by omega) f)
   ·rw[bp6 hl]
    have ex:Kr rk (arrOf st') (lo+x)=Kr rk (arrOf st') (lo+x-1):=by omega
    refine bq9 ⟨q+1,rfl,b',λi j hi hij hj=>?_,by have:=f.le;omega,λi h1 h2=>?_,f.low⟩
    ·rcases bs3 j (lo+x) with z|z
     ·exact f.dn i j hi hij z
     ·have ej:j=lo+x:=by omega
      subst ej;rcases bF4 hij with z|z
      ·rw[z];exact bo9 _
      ·rw[ex];exact f.dn i (lo+x-1) hi (by omega) (by omega)
    ·rw[show lo+(x+1)-1=lo+x by omega]
     rcases bs3 i (lo+x) with z|z
     ·rw[ex];exact f.eq i (by omega) z
     ·rw[show i=lo+x by omega]
 ·rintro r st' ⟨q,rfl,b',f⟩
  have em:max n al=al:=by omega
  rw[em]at f ⊢;exact h al q st' b' hn (bp7 _) f
theorem R0 (c:cP prog w A E s κ Ok rk)(o:bM Ok a0)(b:SB κ a0 pd st){lo al:Nat}(n:Nat){xs:Array Keyed}{Q:Option Nat->SortSt->Prop}{K:DS->StateT SortSt Sem (Option Nat)}{k:CS->StateT SortSt Sem (Option Nat)}(hz:lo+al<=a0.size)(hn:n+1<=al)(hK:∀m q,K (none,m,q)=if q>0 then reverseSlice' (lo+m-(q+1)) (lo+m) >>= λ_=>reverseSlice' lo (lo+m) >>= λ_=>pE lo m al >>= k else reverseSlice' lo (lo+m) >>= λ_=>pE lo m al >>= k)(hk:∀m,k (none,m)=pure (some m))(u:pF rk xs (arrOf st) lo (n+1) 0)(h:∀m st',SB κ a0 pd st'->1<=m->m<=al->Up rk (arrOf st') lo (lo+m)->(∀i,i<lo->Kr rk (arrOf st') i=Kr rk xs i)->Q (some m) st'):wpS (model prog w) A E s (liftM (rule "list.sort.descending-run") >>= λ_=>x6 lo (n+1) al >>= K) Q st:=by
 refine bq2 (wpS_lift (bF3 ⟨rfl,?_⟩));refine bq2 (aK2 c o b hz (by omega) hn u λm q st1 b1 m1 m2 f=>?_);have fin:∀st2:SortSt,SB κ a0 pd st2->(∀k,Kr rk (arrOf st2) k=Kr rk (arrOf st1) k)->
   wpS (model prog w) A E s (reverseSlice' lo (lo+m) >>= λ_=>pE lo m al >>= k) Q st2:=λst2 b2 e=>by
  have sz:=b2.sz;have low:∀i,i<lo->Kr rk (mirror (arrOf st2) lo (lo+m) ((lo+m-lo)/2)) i=Kr rk xs i:=λi hi=>by
   rw[sA (by omega),if_neg (by omega),e];exact f.low i hi
  refine bq2 (sB (bq2 (Q9 (κ:=κ) c o (b2.put (mirror_perm _ _ _ _)) hz (by omega) m2 ?_ λm' h1 h2 up _=>by rw[hk];exact bq9 (h m' _ (b2.put (mirror_perm _ _ _ _)) (by omega) h2 up low))))
  ·intro i j hi hij hj
   show Kr rk (mirror (arrOf st2) lo (lo+m) _) i<=Kr rk (mirror (arrOf st2) lo (lo+m) _) j;rw[sA (by omega),sA (by omega),if_pos (by omega),if_pos (by omega),e,e];exact f.dn _ _ (by omega) (by omega) (by omega)
 rw[hK];by_cases hp:q>0
 ·rw[if_pos hp]
  have sz:=b1.sz;exact bq2 (sB (fin _ (b1.put (mirror_perm _ _ _ _)) (x5 (by omega) f.eq)))
 ·rw[if_neg hp]
  exact fin st1 b1 λ_=>rfl
theorem aK3 (c:cP prog w A E s κ Ok rk)(o:bM Ok a0)(b:SB κ a0 pd st){lo al:Nat}{Q:Option Nat->SortSt->Prop}(hz:lo+al<=a0.size)(h1:1<=al)(h:∀m st',SB κ a0 pd st'->1<=m->m<=al->Up rk (arrOf st') lo (lo+m)->(∀i,i<lo->Kr rk (arrOf st') i=Kr rk (arrOf st) i)->Q (some m) st'):wpS (model prog w) A E s (countRun' lo al) Q st:=by
 rw[countRun'_eq];refine bq2 (Q9 (n:=1) c o b hz (bp7 _) h1 (λi j hi hij hj=>by rw[show i=j by omega];exact bo9 _) λn n1 n2 un on=>?_);dsimp only;by_cases en:(n==al)=true
 ·rw[if_pos en]
  exact bq9 (h n st b n1 n2 un λ_ _=>rfl)
 ·rw[if_neg en]
  have en':n≠al:=by simpa using en
  have lt:=on.resolve_left en';have sz:=b.sz;by_cases g:n>1
  ·rw[if_pos g]
   refine bq2 (pD c o b (by omega) (by omega) ?_);by_cases hq:Kr rk (arrOf st) lo<Kr rk (arrOf st) (lo+n-1)
   ·rw[bp8 hq]
    exact bq9 (h n st b n1 n2 un λ_ _=>rfl)
   ·rw[bp6 hq]
    dsimp only;rw[if_neg br3];have all:∀k,lo<=k->k<lo+n->Kr rk (arrOf st) k=Kr rk (arrOf st) (lo+n-1):=λk k1 k2=>by
     have a1:=un lo k (bp7 _) k1 k2;have a2:=un k (lo+n-1) k1 (by omega) (by omega);omega
    have sm:=x5 (rk:=rk) (xs:=arrOf st) (i:=lo) (j:=lo+n) (by omega) all;refine bq2 (sB (R0 (xs:=arrOf st) (κ:=κ) c o (b.put (mirror_perm _ _ _ _)) n hz (by omega) (λ_ _=>rfl) (λ_=>rfl) ⟨λi j hi hij hj=>?_,by omega,λi h1 h2=>by rw[show i=lo+(n+1)-1 by omega],λi _=>sm i⟩ h));show Kr rk (mirror (arrOf st) lo (lo+n) _) j<=Kr rk (mirror (arrOf st) lo (lo+n) _) i;rw[sm,sm];rcases bs3 j (lo+n) with z|z
    ·rw[all i hi (by omega),all j (by omega) z];exact bo9 _
    ·have ej:j=lo+n:=by omega
     subst ej;rcases bF4 hij with z|z
     ·rw[z];exact bo9 _
     ·rw[all i hi (by omega)];exact Int.le_of_lt lt
  ·rw[if_neg g]
   have e1:n=1:=by omega
   subst e1;refine R0 (xs:=arrOf st) c o b 1 hz (by omega) (λ_ _=>rfl) (λ_=>rfl) ⟨λi j hi hij hj=>?_,by omega,λi h1 h2=>by rw[show i=lo+(1+1)-1 by omega],λi _=>rfl⟩ h;rcases bF4 hij with z|z
   ·rw[z];exact bo9 _
   ·have ei:i=lo+1-1:=by omega
    have ej:j=lo+1:=by omega
    rw[ei,ej];exact Int.le_of_lt lt
theorem aK4 (c:cP prog w A E s κ Ok rk)(o:bM Ok a0)(b:SB κ a0 pd st){lo n q:Nat}{Q:Bool->SortSt->Prop}(hz:lo+n<=a0.size)(hq:q<=n)(u:Up rk (arrOf st) lo (lo+q))(h:∀st',SB κ a0 pd st'->Up rk (arrOf st') lo (lo+n)->(∀i,i<lo->Kr rk (arrOf st') i=Kr rk (arrOf st) i)->Q true st'):wpS (model prog w) A E s (binarySort' lo n q) Q st:=by
 rw[binarySort'_eq]
 refine bq2 (bG3 (bz6 (I:=λk r st'=>r=(none,())/\SB κ a0 pd st'/\Up rk (arrOf st') lo (lo+min k n)/\∀i,i<lo->Kr rk (arrOf st') i=Kr rk (arrOf st) i)
  (Q:=λr st'=>r=(none,())/\SB κ a0 pd st'/\Up rk (arrOf st') lo (lo+n)/\∀i,i<lo->Kr rk (arrOf st') i=Kr rk (arrOf st) i) ?_ ?_ ?_) ?_)
 ·rintro k r st1 hk hkn ⟨rfl,b1,u1,l1⟩
  rw[show min k n=k by omega]at u1;have hk0:lo+k<a0.size:=by omega
  have sz:=b1.sz
  refine bq2 (bG3 (bz6 (I:=λx r st'=>st'=st1/\∃l g,r=(none,l,g)/\l<=g/\g<=k/\g-l<=k-x/\(∀i,i<l->Kr rk (arrOf st1) (lo+i)<=Kr rk (arrOf st1) (lo+k))/\∀i,g<=i->i<k->Kr rk (arrOf st1) (lo+k)<Kr rk (arrOf st1) (lo+i))
   (Q:=λr st'=>st'=st1/\∃l g,r=(none,l,g)/\l<=k/\(∀i,i<l->Kr rk (arrOf st1) (lo+i)<=Kr rk (arrOf st1) (lo+k))/\∀i,l<=i->i<k->Kr rk (arrOf st1) (lo+k)<Kr rk (arrOf st1) (lo+i)) ?_ ?_ ?_) ?_)
  ·rintro x r st2 _ hx ⟨rfl,l,g,rfl,d1,d2,d3,f1,f2⟩
   dsimp only;by_cases hlg:l >= g
   ·rw[if_pos hlg]
    have e:g=l:=by omega
    subst e;exact bq9 ⟨rfl,g,g,rfl,d2,f1,f2⟩
   ·rw[if_neg hlg]
    refine bq2 (pD c o b1 hk0 (by omega) ?_);by_cases hc:Kr rk (arrOf st2) (lo+k)<Kr rk (arrOf st2) (lo+(l+g)/2)
    ·rw[bp8 hc]
     refine bq9 ⟨rfl,l,(l+g)/2,rfl,by omega,by omega,by omega,f1,λi i1 i2=>?_⟩
     have:=u1 (lo+(l+g)/2) (lo+i) (by omega) (by omega) (by omega)
     omega
    ·rw[bp6 hc]
     refine bq9 ⟨rfl,(l+g)/2+1,g,rfl,by omega,d2,by omega,λi i1=>?_,f2⟩
     have:=u1 (lo+i) (lo+(l+g)/2) (by omega) (by omega) (by omega)
     omega
  ·rintro r st2 ⟨rfl,l,g,rfl,d1,d2,d3,f1,f2⟩
   have e:g=l:=by omega
   subst e
   exact⟨rfl,g,g,rfl,d2,f1,f2⟩
  ·exact⟨rfl,0,k,rfl,by omega,by omega,by omega,λi hi=>absurd hi (by omega),λi i1 i2=>absurd i1 (by omega)⟩
  ·rintro r st2 ⟨rfl,l,g,rfl,d,f1,f2⟩
   dsimp only;rw[moveDown'_eq];have kb:∀i,Kr rk (bubble (arrOf st2) (lo+k) (lo+k-(lo+l))) i=Kr rk (arrOf st2) (if i=lo+l then lo+k else if lo+l<i/\i<=lo+k then i-1 else i):=λi=>by
    rw[aK1 (by omega) (by omega),show lo+k-(lo+k-(lo+l))=lo+l by omega]
   refine bq2 (wpS_modify (bq9 ⟨rfl,b1.put (bubble_perm _ _ _),λi j hi hij hj=>?_,λi hi=>?_⟩))
   ·show Kr rk (bubble (arrOf st2) (lo+k) (lo+k-(lo+l))) i<=Kr rk (bubble (arrOf st2) (lo+k) (lo+k-(lo+l))) j
    rw[kb,kb];rw[show min (k+1) n=k+1 by omega]at hj;have v1:∀p,lo<=p->p<lo+l->Kr rk (arrOf st2) p<=Kr rk (arrOf st2) (lo+k):=λp p1 p2=>by have:=f1 (p-lo) (by omega);rwa [show lo+(p-lo)=p by omega]at this
    have v2:∀p,lo+l<=p->p<lo+k->Kr rk (arrOf st2) (lo+k)<Kr rk (arrOf st2) p:=λp p1 p2=>by have:=f2 (p-lo) (by omega) (by omega);rwa [show lo+(p-lo)=p by omega]at this
    repeat' split
    all_goals first
     |(exfalso;omega)
     |exact bo9 _
     |exact v1 _ (by omega) (by omega)
     |exact Int.le_of_lt (v2 _ (by omega) (by omega))
     |exact u1 _ _ (by omega) (by omega) (by omega)
   ·show Kr rk (bubble (arrOf st2) (lo+k) (lo+k-(lo+l))) i=_
    rw[kb,if_neg (by omega),if_neg (by omega)];exact l1 i hi
 ·rintro r st1 ⟨rfl,b1,u1,l1⟩
  rw[show min (max (max q 1) n) n=n by omega]at u1
  exact⟨rfl,b1,u1,l1⟩
 ·refine⟨rfl,b,λi j hi hij hj=>?_,λ_ _=>rfl⟩
  rcases bs3 j (lo+q) with z|z
  ·exact u i j hi hij z
  ·rw[show i=j by omega];exact bo9 _
 ·rintro r st1 ⟨rfl,b1,u1,l1⟩
  exact bq9 (h st1 b1 u1 l1)
end
noncomputable def kX:Bool->Keyed->Array Keyed->Nat->Nat->Nat->StateT SortSt Sem (Option Nat):=sortPriv% PySem.Builtin.gallop
noncomputable def lZ (lf:Bool)(key:Keyed)(xs:Array Keyed)(bs i:Nat):StateT SortSt Sem (Option Bool):=do
 let z <- elem' xs (bs+i)
 if lf then lt' z key else return (<- lt' key z).map (!·)
theorem aK5 (lf:Bool)(key:Keyed)(xs:Array Keyed)(bs n h:Nat):kX lf key xs bs n h=(do
 let mut la:=0
 let mut of:=1
 let mut l:=0
 let mut g:=0
 let some rt <- lZ lf key xs bs h|return none
 if rt then
  let mx:=n-h
  for _ in [0:n] do
   if of >= mx then break
   let some mr <- lZ lf key xs bs (h+of)|return none
   if !mr then break
   la:=of
   of:=2*of+1
  l:=h+la+1
  g:=h+min of mx
 else
  let mx:=h+1
  for _ in [0:n] do
   if of >= mx then break
   let some fd <- lZ lf key xs bs (h-of)|return none
   if fd then break
   la:=of
   of:=2*of+1
  l:=h+1-min of mx
  g:=h-la
 for _ in [0:n] do
  if l >= g then break
  let m:=l+(g-l)/2
  let some mr <- lZ lf key xs bs m|return none
  if mr then l:=m+1 else g:=m
 return some g):=rfl
section
variable {rk:Keyed→Int}{κ:SortKind}{st:SortSt}{prog:az}{w:bc}{A:ba}{E:av→ax→Prop}{s:ax}{Ok:Keyed→Prop}
noncomputable def cB (rk:Keyed->Int)(lf:Bool)(key:Keyed)(xs:Array Keyed)(bs i:Nat):Bool:=if lf then decide (Kr rk xs (bs+i)<rk key) else decide (Kr rk xs (bs+i)<=rk key)
theorem sD (c:cP prog w A E s κ Ok rk)(hk:kindOf st=κ){lf:Bool}{key:Keyed}{xs:Array Keyed}{bs i:Nat}{Q:Option Bool->SortSt->Prop}(ok:Ok key)(o:bM Ok xs)(hi:bs+i<xs.size)(h:Q (some (cB rk lf key xs bs i)) st):wpS (model prog w) A E s (lZ lf key xs bs i) Q st:=by
 unfold lZ;refine bq2 (dC hi ?_);unfold cB at h;rw[cE hi]at h;cases lf with
 |true=>
  simp only[if_true]at h ⊢;exact c _ _ (o _ (bu8 hi)) ok st Q hk h
 |false=>
  simp only[bq3,bu2]at h ⊢;refine bq2 (c _ _ ok (o _ (bu8 hi)) st _ hk (bq9 ?_));have e:(!decide (rk key<rk xs[bs+i]))=decide (rk xs[bs+i]<=rk key):=by
   by_cases z:rk xs[bs+i]<=rk key
   ·rw[bp8 z,bp6 (by omega)];rfl
   ·rw[bp6 z,bp8 (by omega)];rfl
  show Q (some (!decide (rk key<rk xs[bs+i]))) st;rw[e];exact h
noncomputable abbrev GS:=Option (Option Nat)×Nat×Nat
noncomputable def R3 (lf:Bool)(key:Keyed)(xs:Array Keyed)(bs n l g:Nat):StateT SortSt Sem GS:=forIn [0:n] ((none,l,g):GS) λ_ r=>
 if r.2.1 >= r.2.2 then pure (ForInStep.done (none,r.2.1,r.2.2)) else do
  match <- lZ lf key xs bs (r.2.1+(r.2.2-r.2.1)/2) with
  |some q=>if q=true then pure (ForInStep.yield (none,r.2.1+(r.2.2-r.2.1)/2+1,r.2.2)) else pure (ForInStep.yield (none,r.2.1,r.2.1+(r.2.2-r.2.1)/2))
  |_=>pure (ForInStep.done (some none,r.2.1,r.2.2))
theorem R4 (c:cP prog w A E s κ Ok rk)(hk:kindOf st=κ){lf:Bool}{key:Keyed}{xs:Array Keyed}{bs n l g:Nat}{Q:GS->SortSt->Prop}(ok:Ok key)(o:bM Ok xs)(hz:bs+n<=xs.size)(mono:∀i j,i<=j->j<n->cB rk lf key xs bs j=true->cB rk lf key xs bs i=true)(hlg:l<=g)(hg:g<=n)(h1:∀i,i<l->cB rk lf key xs bs i=true)(h2:∀i,g<=i->i<n->cB rk lf key xs bs i=false)(hq:∀k,k<=n->(∀i,i<k->cB rk lf key xs bs i=true)->(∀i,k<=i->i<n->cB rk lf key xs bs i=false)->Q (none,k,k) st):wpS (model prog w) A E s (R3 lf key xs bs n l g) Q st:=by
 unfold R3;refine bz6 (I:=λx r st'=>st'=st/\∃l g,r=(none,l,g)/\l<=g/\g<=n/\g-l<=n-x/\(∀i,i<l->cB rk lf key xs bs i=true)/\∀i,g<=i->i<n->cB rk lf key xs bs i=false) ?_ ?_ ⟨rfl,l,g,rfl,hlg,hg,by omega,h1,h2⟩
 ·rintro x r st' _ hx ⟨rfl,l,g,rfl,d1,d2,d3,f1,f2⟩
  dsimp only;by_cases hc:l >= g
  ·rw[if_pos hc]
   have e:g=l:=by omega
   subst e;exact bq9 (hq g d2 f1 f2)
  ·rw[if_neg hc]
   refine bq2 (sD c hk ok o (by omega) ?_);cases z:cB rk lf key xs bs (l+(g-l)/2) with
   |true=>exact bq9 ⟨rfl,_,_,rfl,by omega,d2,by omega,λi hi=>mono i (l+(g-l)/2) (by omega) (by omega) z,f2⟩
   |false=>
    refine bq9 ⟨rfl,_,_,rfl,by omega,by omega,by omega,f1,λi i1 i2=>?_⟩;cases y:cB rk lf key xs bs i with
    |false=>rfl
    |true=>rw[mono _ i i1 i2 y]at z;cases z
 ·rintro r st' ⟨rfl,l,g,rfl,d1,d2,d3,f1,f2⟩
  have e:g=l:=by omega
  subst e;exact hq g d2 f1 f2
theorem nG (c:cP prog w A E s κ Ok rk)(hk:kindOf st=κ){lf:Bool}{key:Keyed}{xs:Array Keyed}{bs n h:Nat}{Q:Option Nat->SortSt->Prop}(ok:Ok key)(o:bM Ok xs)(hh:h<n)(hz:bs+n<=xs.size)(u:Up rk xs bs (bs+n))(hq:∀k,k<=n->(∀i,i<k->cB rk lf key xs bs i=true)->(∀i,k<=i->i<n->cB rk lf key xs bs i=false)->Q (some k) st):wpS (model prog w) A E s (kX lf key xs bs n h) Q st:=by
 have mono:∀i j,i<=j->j<n->cB rk lf key xs bs j=true->cB rk lf key xs bs i=true:=λi j hij hj e=>by
  have:=u (bs+i) (bs+j) (by omega) (by omega) (by omega)
  unfold cB at e ⊢;cases lf with
  |true=>simp only[if_true,bt0]at e ⊢;omega
  |false=>simp only[bq3,bu2,bt0]at e ⊢;omega
 have monf:∀i j,i<=j->j<n->cB rk lf key xs bs i=false->cB rk lf key xs bs j=false:=λi j hij hj e=>by
  cases z:cB rk lf key xs bs j with
  |false=>rfl
  |true=>rw[mono i j hij hj z]at e;cases e
 rw[aK5];refine bq2 (sD c hk ok o (by omega) ?_);dsimp only;cases z:cB rk lf key xs bs h with
 |true=>
  rw[if_pos rfl]
  refine bq2 (bG3 (bz6 (I:=λx r st'=>st'=st/\∃la of,r=(none,la,of)/\la<of/\x<of/\h+la<n/\cB rk lf key xs bs (h+la)=true)
   (Q:=λr st'=>st'=st/\∃la of,r=(none,la,of)/\la<of/\h+la<n/\cB rk lf key xs bs (h+la)=true/\(of<n-h->cB rk lf key xs bs (h+of)=false)) ?_ ?_ ⟨rfl,0,1,rfl,by omega,by omega,by omega,z⟩) ?_)
  ·rintro x r st' _ hx ⟨rfl,la,of,rfl,d1,d2,d3,f⟩
   dsimp only;by_cases hc:of >= n-h
   ·rw[if_pos hc]
    exact bq9 ⟨rfl,la,of,rfl,d1,d3,f,λy=>absurd y (by omega)⟩
   ·rw[if_neg hc]
    refine bq2 (sD c hk ok o (by omega) ?_);cases y:cB rk lf key xs bs (h+of) with
    |true=>exact bq9 ⟨rfl,of,2*of+1,rfl,by omega,by omega,by omega,y⟩
    |false=>exact bq9 ⟨rfl,la,of,rfl,d1,d3,f,λ_=>y⟩
  ·rintro r st' ⟨rfl,la,of,rfl,d1,d2,d3,f⟩
   exact⟨rfl,la,of,rfl,d1,d3,f,λy=>absurd y (by omega)⟩
  ·rintro r st' ⟨rfl,la,of,rfl,d1,d3,f,ft⟩
   dsimp only;refine bq2 (R4 (l:=h+la+1) (g:=h+min of (n-h)) c hk ok o hz mono (by omega) (by omega) (λi hi=>mono i (h+la) (by omega) d3 f) (λi i1 i2=>?_) λk k1 k2 k3=>bq9 (hq k k1 k2 k3));rcases bs3 of (n-h) with y|y
   ·exact monf (h+of) i (by omega) i2 (ft y)
   ·exact absurd i1 (by omega)
 |false=>
  rw[if_neg br3]
  refine bq2 (bG3 (bz6 (I:=λx r st'=>st'=st/\∃la of,r=(none,la,of)/\la<of/\x<of/\la<=h/\cB rk lf key xs bs (h-la)=false)
   (Q:=λr st'=>st'=st/\∃la of,r=(none,la,of)/\la<of/\la<=h/\cB rk lf key xs bs (h-la)=false/\(of<h+1->cB rk lf key xs bs (h-of)=true)) ?_ ?_ ⟨rfl,0,1,rfl,by omega,by omega,by omega,z⟩) ?_)
  ·rintro x r st' _ hx ⟨rfl,la,of,rfl,d1,d2,d3,f⟩
   dsimp only;by_cases hc:of >= h+1
   ·rw[if_pos hc]
    exact bq9 ⟨rfl,la,of,rfl,d1,d3,f,λy=>absurd y (by omega)⟩
   ·rw[if_neg hc]
    refine bq2 (sD c hk ok o (by omega) ?_);cases y:cB rk lf key xs bs (h-of) with
    |false=>exact bq9 ⟨rfl,of,2*of+1,rfl,by omega,by omega,by omega,y⟩
    |true=>exact bq9 ⟨rfl,la,of,rfl,d1,d3,f,λ_=>y⟩
  ·rintro r st' ⟨rfl,la,of,rfl,d1,d2,d3,f⟩
   exact⟨rfl,la,of,rfl,d1,d3,f,λy=>absurd y (by omega)⟩
  ·rintro r st' ⟨rfl,la,of,rfl,d1,d3,f,ft⟩
   dsimp only;refine bq2 (R4 (l:=h+1-min of (h+1)) (g:=h-la) c hk ok o hz mono (by omega) (by omega) (λi hi=>?_) (λi i1 i2=>monf (h-la) i i1 i2 f) λk k1 k2 k3=>bq9 (hq k k1 k2 k3));rcases bs3 of (h+1) with y|y
   ·exact mono i (h-of) (by omega) (by omega) (ft y)
   ·exact absurd hi (by omega)
end
noncomputable def nH:Nat->StateT SortSt Sem Unit:=sortPriv% PySem.Builtin.setMinGallop
noncomputable def x8:Array Keyed->Array Keyed->StateT SortSt Sem (Array Keyed):=sortPriv% PySem.Builtin.mergeLo
theorem aK6 (g:Nat):nH g=modify (λst=>SortSt.mk' (kindOf st) (arrOf st) (pendingOf st) g (failedOf st)):=rfl
noncomputable abbrev LS:=Option (Array Keyed)×Array Keyed×Nat×Nat×Nat×Nat×Nat
noncomputable abbrev x9:=Option (Array Keyed)×Array Keyed×Nat×Nat×Nat×Nat
noncomputable abbrev LO:=Option (Array Keyed)×Array Keyed×Nat×Nat×Nat
noncomputable def sE (x y o:Array Keyed)(i j mg p q:Nat):StateT SortSt Sem (ForInStep LS):=do
 let v <- elem' x i
 if (i+1+1==x.size)=true then pure (.done (some (o.push v++y.extract j y.size++x.extract (i+1) x.size),o.push v,i+1,j,mg,p,q))
 else if (decide (p<7)&&decide (q<7))=true then pure (.done (none,o.push v,i+1,j,mg,p,q)) else pure (.yield (none,o.push v,i+1,j,mg,p,q))
noncomputable def sF (x y o:Array Keyed)(i j mg p q:Nat):StateT SortSt Sem (ForInStep LS):=do
 let v <- elem' y j
 if (j+1==y.size)=true then pure (.done (some (o.push v++x.extract i x.size++y.extract (j+1) y.size),o.push v,i,j+1,mg,p,q)) else do
  let u <- elem' x i
  match <- kX true u y (j+1) (y.size-(j+1)) 0 with
  |some k=>
   if k>0 then
    if (j+1+k==y.size)=true then pure (.done (some (o.push v++y.extract (j+1) (j+1+k)++x.extract i x.size++y.extract (j+1+k) y.size),o.push v++y.extract (j+1) (j+1+k),i,j+1+k,mg,p,k))
    else sE x y (o.push v++y.extract (j+1) (j+1+k)) i (j+1+k) mg p k
   else sE x y (o.push v) i (j+1) mg p k
  |_=>pure (.done (some (o.push v++x.extract i x.size++y.extract (j+1) y.size),o.push v,i,j+1,mg,p,q))
noncomputable def sG (x y o:Array Keyed)(i j mg p q:Nat):StateT SortSt Sem (ForInStep LS):=do
 nH mg
 let v <- elem' y j
 match <- kX false v x i (x.size-i) 0 with
 |some k=>
  if k>0 then
   if (i+k+1==x.size)=true then pure (.done (some (o++x.extract i (i+k)++y.extract j y.size++x.extract (i+k) x.size),o++x.extract i (i+k),i+k,j,mg,k,q))
   else if (i+k==x.size)=true then pure (.done (some (o++x.extract i (i+k)++x.extract (i+k) x.size++y.extract j y.size),o++x.extract i (i+k),i+k,j,mg,k,q))
   else sF x y (o++x.extract i (i+k)) (i+k) j mg k q
  else sF x y o i j mg k q
 |_=>pure (.done (some (o++x.extract i x.size++y.extract j y.size),o,i,j,mg,p,q))
noncomputable def xA (x y o:Array Keyed)(i j mg p q:Nat):StateT SortSt Sem LS:=forIn [0:x.size+y.size] ((none,o,i,j,mg,p,q):LS) λ_ r=>
 if r.2.2.2.2.1>1 then sG x y r.2.1 r.2.2.1 r.2.2.2.1 (r.2.2.2.2.1-1) r.2.2.2.2.2.1 r.2.2.2.2.2.2 else sG x y r.2.1 r.2.2.1 r.2.2.2.1 r.2.2.2.2.1 r.2.2.2.2.2.1 r.2.2.2.2.2.2
noncomputable def xB (x y o:Array Keyed)(i j mg:Nat):StateT SortSt Sem x9:=forIn [0:x.size+y.size] ((none,o,i,j,0,0):x9) λ_ r=>do
 let v <- elem' y r.2.2.2.1
 let u <- elem' x r.2.2.1
 match <- lt' v u with
 |some q=>
  if q=true then do
   let v <- elem' y r.2.2.2.1
   if (r.2.2.2.1+1==y.size)=true then pure (.done (some (r.2.1.push v++x.extract r.2.2.1 x.size++y.extract (r.2.2.2.1+1) y.size),r.2.1.push v,r.2.2.1,r.2.2.2.1+1,0,r.2.2.2.2.2+1))
   else if r.2.2.2.2.2+1 >= mg then pure (.done (none,r.2.1.push v,r.2.2.1,r.2.2.2.1+1,0,r.2.2.2.2.2+1)) else pure (.yield (none,r.2.1.push v,r.2.2.1,r.2.2.2.1+1,0,r.2.2.2.2.2+1))
  else do
   let u <- elem' x r.2.2.1
   if (r.2.2.1+1+1==x.size)=true then pure (.done (some (r.2.1.push u++y.extract r.2.2.2.1 y.size++x.extract (r.2.2.1+1) x.size),r.2.1.push u,r.2.2.1+1,r.2.2.2.1,r.2.2.2.2.1+1,0))
   else if r.2.2.2.2.1+1 >= mg then pure (.done (none,r.2.1.push u,r.2.2.1+1,r.2.2.2.1,r.2.2.2.2.1+1,0)) else pure (.yield (none,r.2.1.push u,r.2.2.1+1,r.2.2.2.1,r.2.2.2.2.1+1,0))
 |_=>pure (.done (some (r.2.1++x.extract r.2.2.1 x.size++y.extract r.2.2.2.1 y.size),r.2.1,r.2.2.1,r.2.2.2.1,r.2.2.2.2.1,r.2.2.2.2.2))
noncomputable def R5 (x y o:Array Keyed)(i j mg:Nat):StateT SortSt Sem LO:=forIn [0:x.size+y.size] ((none,o,i,j,mg):LO) λ_ r=>do
 let u <- xB x y r.2.1 r.2.2.1 r.2.2.2.1 r.2.2.2.2
 match u.1 with
 |some z=>pure (.done (some z,u.2.1,u.2.2.1,u.2.2.2.1,r.2.2.2.2))
 |none=>do
  liftM (rule "list.sort.gallop")
  let v <- xA x y u.2.1 u.2.2.1 u.2.2.2.1 (r.2.2.2.2+1) u.2.2.2.2.1 u.2.2.2.2.2
  match v.1 with
  |some z=>pure (.done (some z,v.2.1,v.2.2.1,v.2.2.2.1,v.2.2.2.2.1))
  |none=>do
   nH (v.2.2.2.2.1+1)
   pure (.yield (none,v.2.1,v.2.2.1,v.2.2.2.1,v.2.2.2.2.1+1))
theorem aK7 (x y:Array Keyed):x8 x y=(do
 liftM (rule "list.sort.merge-lo")
 let v <- elem' y 0
 if (1==y.size)=true then pure (#[v]++x.extract 0 x.size++y.extract 1 y.size)
 else if (0+1==x.size)=true then pure (#[v]++y.extract 1 y.size++x.extract 0 x.size)
 else do
  let z <- get
  let r <- R5 x y #[v] 0 1 (gallopOf z)
  match r.1 with
  |some z=>pure z
  |none=>unsupported "internal:list.sort.merge-bound"):=by kernel_rfl
section
variable (rk:Keyed→Int)
noncomputable def Sd (l:List Keyed):Prop:=l.Pairwise λa b=>rk a<=rk b
structure MI (xs ys o:List Keyed)(i j:Nat):Prop where
 pm:o.Perm (xs.take i++ys.take j)
 sx:Sd rk (o++xs.drop i)
 sy:Sd rk (o++ys.drop j)
end
variable {rk:Keyed→Int}{xs ys o:List Keyed}{i j:Nat}
theorem Sd.ins {o a b d:List Keyed}(h1:Sd rk (o++a))(h2:Sd rk (o++(b++d)))(h:∀u∈b,∀t∈a,rk u<=rk t):Sd rk ((o++b)++a):=by
 unfold Sd at *;rw[bq7]
 obtain⟨p1,p2,p3⟩:=bt6.mp h1
 obtain⟨q1,q2,q3⟩:=bt6.mp h2
 obtain⟨r1,r2,r3⟩:=bt6.mp q2
 refine bt6.mpr ⟨p1,bt6.mpr ⟨r1,p2,h⟩,λu hu t ht=>?_⟩;rcases bs0.mp ht with z|z
 ·exact q3 u hu t (bt4 _ z)
 ·exact p3 u hu t z
theorem MI.ofy (m:MI rk xs ys o i j)(k:Nat)(h:∀u∈(ys.drop j).take k,∀t∈xs.drop i,rk u<=rk t):MI rk xs ys (o++(ys.drop j).take k) i (j+k):=by
 have e:(ys.drop j).take k++ys.drop (j+k)=ys.drop j:=by rw[<- List.drop_drop];exact bs4 k _
 refine⟨?_,Sd.ins m.sx (d:=ys.drop (j+k)) (by rw[e];exact m.sy) h,by rw[bq7,e];exact m.sy⟩;rw[List.take_add,<- bq7];exact m.pm.append_right _
theorem MI.ofx (m:MI rk xs ys o i j)(k:Nat)(h:∀u∈(xs.drop i).take k,∀t∈ys.drop j,rk u<=rk t):MI rk xs ys (o++(xs.drop i).take k) (i+k) j:=by
 have e:(xs.drop i).take k++xs.drop (i+k)=xs.drop i:=by rw[<- List.drop_drop];exact bs4 k _
 refine⟨?_,by rw[bq7,e];exact m.sx,Sd.ins m.sy (d:=xs.drop (i+k)) (by rw[e];exact m.sx) h⟩;rw[List.take_add];refine (m.pm.append_right _).trans ?_;rw[bq7,bq7];exact (bw5).append_left _
theorem MI.fin (m:MI rk xs ys o i j)(h:xs.length<=i∨ys.length<=j):(o++xs.drop i++ys.drop j).Perm (xs++ys)/\Sd rk (o++xs.drop i++ys.drop j):=by
 refine⟨?_,?_⟩
 ·rw[bq7]
  refine (m.pm.append_right _).trans ?_;have e1:xs=xs.take i++xs.drop i:=(bs4 i xs).symm;have e2:ys=ys.take j++ys.drop j:=(bs4 j ys).symm
  conv=>rhs;rw[e1,e2]
  rw[bq7,bq7];refine bD5 _ ?_;rw[<- bq7,<- bq7];exact (bw5).append_right _
 ·rcases h with h|h
  ·rw[List.drop_eq_nil_of_le h,bv0];exact m.sy
  ·rw[List.drop_eq_nil_of_le h,bv0];exact m.sx
theorem MI.lst (m:MI rk xs ys o i j)(h:∀u∈ys,∀t∈xs.drop i,rk u<=rk t):(o++ys.drop j++xs.drop i).Perm (xs++ys)/\Sd rk (o++ys.drop j++xs.drop i):=by
 have m2:=m.ofy ys.length λu hu t ht=>h u (List.mem_of_mem_drop (bG4 hu)) t ht
 have e:(ys.drop j).take ys.length=ys.drop j:=bB1 (by simp);rw[e]at m2;have f:=m2.fin (.inr (by omega));rw[List.drop_eq_nil_of_le (as:=ys) (i:=j+ys.length) (by omega),bv0]at f;exact f
theorem R6 {x:Array Keyed}{i k:Nat}{u:Keyed}(h:u∈(x.toList.drop i).take k):∃t,t<k/\i+t<x.size/\rk u=Kr rk x (i+t):=by
 obtain⟨t,ht,e⟩:=bu9 h
 have h1:t<k/\i+t<x.size:=by simp at ht;omega
 refine⟨t,h1.1,h1.2,?_⟩;rw[cE h1.2,<- e];simp
theorem pG {x:Array Keyed}{i:Nat}{u:Keyed}(h:u∈x.toList.drop i):∃t,i+t<x.size/\rk u=Kr rk x (i+t):=by
 obtain⟨t,ht,e⟩:=bu9 h
 have h1:i+t<x.size:=by simp at ht;omega
 refine⟨t,h1,?_⟩;rw[cE h1,<- e];simp
theorem Sd.up {x:Array Keyed}(h:Sd rk x.toList)(lo hi:Nat)(hh:hi<=x.size):Up rk x lo hi:=λi j _ hij hj=>by
 rw[cE (by omega:i<x.size),cE (by omega:j<x.size)];rcases bF4 hij with z|z
 ·subst z;exact bo9 _
 ·have:=bv3.mp h i j (by simp;omega) (by simp;omega) z
  simpa using this
theorem R7 (x:Array Keyed)(i k:Nat):(x.extract i (i+k)).toList=(x.toList.drop i).take k:=by
 simp[List.extract]
theorem sH (x:Array Keyed)(i:Nat):(x.extract i x.size).toList=x.toList.drop i:=by
 simp[List.extract];exact bB1 (by simp)
theorem m5 {x:Array Keyed}{i:Nat}(h:i<x.size):[x[i]]=(x.toList.drop i).take 1:=by
 rw[bB5 (by simpa using h)];simp
structure Gq (st st':SortSt):Prop where
 kd:kindOf st'=kindOf st
 ar:arrOf st'=arrOf st
 pd:pendingOf st'=pendingOf st
 ok:failedOf st'=failedOf st
theorem Gq.refl (st:SortSt):Gq st st:=⟨rfl,rfl,rfl,rfl⟩
section
variable {κ:SortKind}{st:SortSt}{prog:az}{w:bc}{A:ba}{E:av→ax→Prop}{s:ax}{Ok:Keyed→Prop}
theorem sJ {st0:SortSt}{g:Nat}{Q:Unit->SortSt->Prop}(q:Gq st0 st)(h:∀st',Gq st0 st'->Q () st'):wpS (model prog w) A E s (nH g) Q st:=by
 rw[aK6];exact wpS_modify (h _ ⟨q.kd,q.ar,q.pd,q.ok⟩)
noncomputable def eB (rk:Keyed->Int)(x y r:Array Keyed):Prop:=r.toList.Perm (x.toList++y.toList)/\Sd rk r.toList
theorem MI.y1 {x y o:Array Keyed}(m:MI rk x.toList y.toList o.toList i j)(hj:j<y.size)(h:∀t,i+t<x.size->rk y[j]<=Kr rk x (i+t)):MI rk x.toList y.toList (o.push y[j]).toList i (j+1):=by
 have:=m.ofy 1 λu hu t ht=>?_
 ·rw[<- m5 hj]at this;simpa using this
 ·rw[<- m5 hj,bp2]at hu
  subst hu
  obtain⟨q,q1,q2⟩:=pG (rk:=rk) ht
  rw[q2];exact h q q1
theorem MI.x1 {x y o:Array Keyed}(m:MI rk x.toList y.toList o.toList i j)(hi:i<x.size)(h:∀t,j+t<y.size->rk x[i]<=Kr rk y (j+t)):MI rk x.toList y.toList (o.push x[i]).toList (i+1) j:=by
 have:=m.ofx 1 λu hu t ht=>?_
 ·rw[<- m5 hi]at this;simpa using this
 ·rw[<- m5 hi,bp2]at hu
  subst hu
  obtain⟨q,q1,q2⟩:=pG (rk:=rk) ht
  rw[q2];exact h q q1
theorem MI.yk {x y o:Array Keyed}(m:MI rk x.toList y.toList o.toList i j)(k:Nat)(h:∀p t,p<k->j+p<y.size->i+t<x.size->Kr rk y (j+p)<=Kr rk x (i+t)):MI rk x.toList y.toList (o++y.extract j (j+k)).toList i (j+k):=by
 have:=m.ofy k λu hu t ht=>?_
 ·rw[<- R7]at this;rw[by9];exact this
 ·obtain⟨p,p1,p2,p3⟩:=R6 (rk:=rk) hu
  obtain⟨q,q1,q2⟩:=pG (rk:=rk) ht
  rw[q2,p3];exact h p q p1 p2 q1
theorem MI.xk {x y o:Array Keyed}(m:MI rk x.toList y.toList o.toList i j)(k:Nat)(h:∀p t,p<k->i+p<x.size->j+t<y.size->Kr rk x (i+p)<=Kr rk y (j+t)):MI rk x.toList y.toList (o++x.extract i (i+k)).toList (i+k) j:=by
 have:=m.ofx k λu hu t ht=>?_
 ·rw[<- R7]at this;rw[by9];exact this
 ·obtain⟨p,p1,p2,p3⟩:=R6 (rk:=rk) hu
  obtain⟨q,q1,q2⟩:=pG (rk:=rk) ht
  rw[q2,p3];exact h p q p1 p2 q1
theorem nI {key:Keyed}{xs:Array Keyed}{bs i:Nat}:cB rk false key xs bs i=decide (Kr rk xs (bs+i)<=rk key):=rfl
theorem nJ {key:Keyed}{xs:Array Keyed}{bs i:Nat}:cB rk true key xs bs i=decide (Kr rk xs (bs+i)<rk key):=rfl
noncomputable def GI (rk:Keyed->Int)(x y:Array Keyed)(lb:Nat)(st:SortSt)(c:LS)(st':SortSt):Prop:=Gq st st'/\∃o i j mg p q,c=(none,o,i,j,mg,p,q)/\MI rk x.toList y.toList o.toList i j/\i+1<x.size/\j<y.size/\lb<=i+j
noncomputable def GQ (rk:Keyed->Int)(x y:Array Keyed)(lb:Nat)(st:SortSt)(c:LS)(st':SortSt):Prop:=Gq st st'/\((∃r o i j mg p q,c=(some r,o,i,j,mg,p,q)/\eB rk x y r)∨∃o i j mg p q,c=(none,o,i,j,mg,p,q)/\MI rk x.toList y.toList o.toList i j/\i+1<x.size/\j<y.size/\lb<=i+j)
noncomputable def GR (rk:Keyed->Int)(x y:Array Keyed)(lb:Nat)(st:SortSt)(r:ForInStep LS)(st':SortSt):Prop:=match r with|.done c=>GQ rk x y lb st c st'|.yield c=>GI rk x y lb st c st'
theorem MI.done {x y o:Array Keyed}(m:MI rk x.toList y.toList o.toList i j)(hh:x.size<=i∨y.size<=j):eB rk x y (o++x.extract i x.size++y.extract j y.size):=by
 unfold eB;rw[by9,by9,sH,sH];exact m.fin (by simpa using hh)
theorem MI.last {x y o:Array Keyed}(m:MI rk x.toList y.toList o.toList i j)(x0:0<x.size)(hl:∀u∈y.toList,rk u<=rk x[x.size-1])(hh:i+1=x.size):eB rk x y (o++y.extract j y.size++x.extract i x.size):=by
 unfold eB;rw[by9,by9,sH,sH];refine m.lst λu hu t ht=>?_
 obtain⟨q,q1,q2⟩:=pG (rk:=rk) ht
 have e:i+q=x.size-1:=by omega
 rw[q2,e,cE (by omega)];exact hl u hu
theorem R8 {st0:SortSt}{x y o:Array Keyed}{mg p q lb:Nat}(x0:0<x.size)(hl:∀u∈y.toList,rk u<=rk x[x.size-1])(g:Gq st0 st)(m:MI rk x.toList y.toList o.toList i j)(hi:i+1<x.size)(hj:j<y.size)(hb:lb<=i+j)(hm:∀t,j+t<y.size->rk x[i]<=Kr rk y (j+t)):wpS (model prog w) A E s (sE x y o i j mg p q) (GR rk x y lb st0) st:=by
 unfold sE;have hi':i<x.size:=by omega
 have m':=m.x1 hi' hm;refine bq2 (dC hi' ?_);by_cases he:(i+1+1==x.size)=true
 ·rw[if_pos he]
  have he:i+1+1=x.size:=by simpa using he
  exact bq9 ⟨g,.inl ⟨_,_,_,_,_,_,_,rfl,m'.last x0 hl he⟩⟩
 ·rw[if_neg he]
  have he:i+1+1≠x.size:=by simpa using he
  split
  ·exact bq9 ⟨g,.inr ⟨_,_,_,_,_,_,rfl,m',by omega,hj,by omega⟩⟩
  ·exact bq9 ⟨g,_,_,_,_,_,_,rfl,m',by omega,hj,by omega⟩
theorem R9 (c:cP prog w A E s κ Ok rk){st0:SortSt}(hk:kindOf st0=κ){x y o:Array Keyed}{mg p q lb:Nat}(ox:bM Ok x)(oy:bM Ok y)(sx:Sd rk x.toList)(sy:Sd rk y.toList)(x0:0<x.size)(hl:∀u∈y.toList,rk u<=rk x[x.size-1])(g:Gq st0 st)(m:MI rk x.toList y.toList o.toList i j)(hi:i+1<x.size)(hj:j<y.size)(hb:lb<=i+j)(hm:∀t,i+t<x.size->rk y[j]<=Kr rk x (i+t)):wpS (model prog w) A E s (sF x y o i j mg p q) (GR rk x y lb st0) st:=by
 unfold sF;have hi':i<x.size:=by omega
 have m':=m.y1 hj hm;refine bq2 (dC hj ?_);by_cases he:(j+1==y.size)=true
 ·rw[if_pos he]
  have he:j+1=y.size:=by simpa using he
  exact bq9 ⟨g,.inl ⟨_,_,_,_,_,_,_,rfl,m'.done (.inr (by omega))⟩⟩
 ·rw[if_neg he]
  have he:j+1≠y.size:=by simpa using he
  refine bq2 (dC hi' (bq2 (nG c (g.kd.trans hk) (ox _ (bu8 hi')) oy (by omega) (by omega) (sy.up _ _ (by omega)) λk k1 k2 k3=>?_)));dsimp only;have ux:=sx.up 0 _ (bp7 x.size);have mk:=m'.yk k λp t hp _ ht=>by
   have a1:=k2 p hp;rw[nJ,bt0]at a1;have a2:=ux i (i+t) (by omega) (by omega) ht;rw[cE hi']at a2;omega
  have km:∀t,j+1+k+t<y.size->rk x[i]<=Kr rk y (j+1+k+t):=λt ht=>by
   have a1:=k3 (k+t) (by omega) (by omega);rw[nJ,bA2,<- Nat.add_assoc]at a1;omega
  by_cases hk0:k>0
  ·rw[if_pos hk0]
   by_cases hf:(j+1+k==y.size)=true
   ·rw[if_pos hf]
    have hf:j+1+k=y.size:=by simpa using hf
    exact bq9 ⟨g,.inl ⟨_,_,_,_,_,_,_,rfl,mk.done (.inr (by omega))⟩⟩
   ·rw[if_neg hf]
    have hf:j+1+k≠y.size:=by simpa using hf
    exact R8 x0 hl g mk hi (by omega) (by omega) km
  ·rw[if_neg hk0]
   have e0:k=0:=by omega
   subst e0;exact R8 x0 hl g m' hi (by omega) (by omega) km
theorem S0 (c:cP prog w A E s κ Ok rk){st0:SortSt}(hk:kindOf st0=κ){x y o:Array Keyed}{mg p q lb:Nat}(ox:bM Ok x)(oy:bM Ok y)(sx:Sd rk x.toList)(sy:Sd rk y.toList)(x0:0<x.size)(hl:∀u∈y.toList,rk u<=rk x[x.size-1])(g:Gq st0 st)(m:MI rk x.toList y.toList o.toList i j)(hi:i+1<x.size)(hj:j<y.size)(hb:lb<=i+j) :
  wpS (model prog w) A E s (sG x y o i j mg p q) (GR rk x y lb st0) st:=by
 unfold sG;refine bq2 (sJ g λst4 q4=>bq2 (dC hj (bq2 (nG c (q4.kd.trans hk) (oy _ (bu8 hj)) ox (by omega) (by omega) (sx.up _ _ (by omega)) λk k1 k2 k3=>?_))));dsimp only;have uy:=sy.up 0 _ (bp7 y.size);have mk:=m.xk k λp t hp _ ht=>by
  have a1:=k2 p hp;rw[nI,bt0]at a1;have a2:=uy j (j+t) (by omega) (by omega) ht;rw[cE hj]at a2;omega
 have km:∀t,i+k+t<x.size->rk y[j]<=Kr rk x (i+k+t):=λt ht=>by
  have a1:=k3 (k+t) (by omega) (by omega);rw[nI,bA2,<- Nat.add_assoc]at a1;omega
 by_cases hk0:k>0
 ·rw[if_pos hk0]
  by_cases he:(i+k+1==x.size)=true
  ·rw[if_pos he]
   exact bq9 ⟨q4,.inl ⟨_,_,_,_,_,_,_,rfl,mk.last x0 hl (by simpa using he)⟩⟩
  ·rw[if_neg he]
   have he:i+k+1≠x.size:=by simpa using he
   by_cases hf:(i+k==x.size)=true
   ·rw[if_pos hf]
    have hf:i+k=x.size:=by simpa using hf
    exact bq9 ⟨q4,.inl ⟨_,_,_,_,_,_,_,rfl,mk.done (.inl (by omega))⟩⟩
   ·rw[if_neg hf]
    have hf:i+k≠x.size:=by simpa using hf
    exact R9 c hk ox oy sx sy x0 hl q4 mk (by omega) hj (by omega) km
 ·rw[if_neg hk0]
  have e0:k=0:=by omega
  subst e0;exact R9 c hk ox oy sx sy x0 hl q4 m hi hj hb km
theorem aK8 (c:cP prog w A E s κ Ok rk){st0:SortSt}(hk:kindOf st0=κ){x y o:Array Keyed}{mg p q lb:Nat}(ox:bM Ok x)(oy:bM Ok y)(sx:Sd rk x.toList)(sy:Sd rk y.toList)(x0:0<x.size)(hl:∀u∈y.toList,rk u<=rk x[x.size-1])(g:Gq st0 st)(m:MI rk x.toList y.toList o.toList i j)(hi:i+1<x.size)(hj:j<y.size)(hb:lb<=i+j) :
  wpS (model prog w) A E s (xA x y o i j mg p q) (GQ rk x y lb st0) st:=by
 unfold xA;refine bz6 (I:=λ_=>GI rk x y lb st0) ?_ ?_ ⟨g,o,i,j,_,p,q,rfl,m,hi,hj,hb⟩
 ·rintro t c3 st3 _ _ ⟨q3,o,i,j,mg,p,q,rfl,m,hi,hj,pr3⟩
  dsimp only;split
  ·exact bG3 (S0 c hk ox oy sx sy x0 hl q3 m hi hj pr3) λr _ hr=>by cases r<;>exact hr
  ·exact bG3 (S0 c hk ox oy sx sy x0 hl q3 m hi hj pr3) λr _ hr=>by cases r<;>exact hr
 ·rintro c3 st3 ⟨q3,o,i,j,mg,p,q,rfl,m,hi,hj,pr3⟩
  exact⟨q3,.inr ⟨_,_,_,_,_,_,rfl,m,hi,hj,pr3⟩⟩
theorem aK9 (c:cP prog w A E s κ Ok rk){st0:SortSt}(hk:kindOf st0=κ){x y o:Array Keyed}{mg:Nat}{Q:x9->SortSt->Prop}(ox:bM Ok x)(oy:bM Ok y)(sx:Sd rk x.toList)(sy:Sd rk y.toList)(x0:0<x.size)(hl:∀u∈y.toList,rk u<=rk x[x.size-1])(g:Gq st0 st)(m:MI rk x.toList y.toList o.toList i j)(hi:i+1<x.size)(hj:j<y.size)(h1:∀r o' i' j' p q st',Gq st0 st'->eB rk x y r->Q (some r,o',i',j',p,q) st')(h2:∀o' i' j' p q st',Gq st0 st'->MI rk x.toList y.toList o'.toList i' j'->i'+1<x.size->j'<y.size->i+j+1<=i'+j'->Q (none,o',i',j',p,q) st') :
  wpS (model prog w) A E s (xB x y o i j mg) Q st:=by
 have ux:Up rk x 0 x.size:=sx.up 0 _ (bp7 _);have uy:Up rk y 0 y.size:=sy.up 0 _ (bp7 _);unfold xB;refine bz6 (I:=λt c st'=>Gq st0 st'/\∃o i' j' p q,c=(none,o,i',j',p,q)/\MI rk x.toList y.toList o.toList i' j'/\i'+1<x.size/\j'<y.size/\i+j+t<=i'+j') ?_ ?_ ⟨g,o,i,j,0,0,rfl,m,hi,hj,by omega⟩
 ·rintro t c2 st2 _ ht ⟨q2,o,i',j',p,q,rfl,m,hi,hj,pr2⟩
  dsimp only;have hi':i'<x.size:=by omega
  refine bq2 (dC hj (bq2 (dC hi' (bq2 (c _ _ (oy _ (bu8 hj)) (ox _ (bu8 hi')) st2 _ (q2.kd.trans hk) ?_)))));by_cases hc:rk y[j']<rk x[i']
  ·rw[bp8 hc]
   dsimp only;rw[if_pos rfl];have m':=m.y1 hj λt ht=>by
    have:=ux i' (i'+t) (by omega) (by omega) ht
    rw[cE hi']at this;omega
   refine bq2 (dC hj ?_);by_cases he:(j'+1==y.size)=true
   ·rw[if_pos he]
    have he:j'+1=y.size:=by simpa using he
    exact bq9 (h1 _ _ _ _ _ _ _ q2 (m'.done (.inr (by omega))))
   ·rw[if_neg he]
    have he:j'+1≠y.size:=by simpa using he
    split
    ·exact bq9 (h2 _ _ _ _ _ _ q2 m' hi (by omega) (by omega))
    ·exact bq9 ⟨q2,_,_,_,_,_,rfl,m',hi,by omega,by omega⟩
  ·rw[bp6 hc]
   dsimp only;rw[if_neg br3];have m':=m.x1 hi' λt ht=>by
    have:=uy j' (j'+t) (by omega) (by omega) ht
    rw[cE hj]at this;omega
   refine bq2 (dC hi' ?_);by_cases he:(i'+1+1==x.size)=true
   ·rw[if_pos he]
    exact bq9 (h1 _ _ _ _ _ _ _ q2 (m'.last x0 hl (by simpa using he)))
   ·rw[if_neg he]
    have he:i'+1+1≠x.size:=by simpa using he
    split
    ·exact bq9 (h2 _ _ _ _ _ _ q2 m' (by omega) hj (by omega))
    ·exact bq9 ⟨q2,_,_,_,_,_,rfl,m',by omega,hj,by omega⟩
 ·rintro c2 st2 ⟨q2,o,i',j',p,q,rfl,m,hi,hj,pr2⟩
  exact h2 _ _ _ _ _ _ q2 m hi hj (by omega)
theorem aL0 (c:cP prog w A E s κ Ok rk)(hk:kindOf st=κ){x y:Array Keyed}{Q:Array Keyed->SortSt->Prop}(ox:bM Ok x)(oy:bM Ok y)(sx:Sd rk x.toList)(sy:Sd rk y.toList)(x0:0<x.size)(y0:0<y.size)(hf:∀t∈x.toList,rk y[0]<=rk t)(hl:∀u∈y.toList,rk u<=rk x[x.size-1])(h:∀r st',Gq st st'->eB rk x y r->Q r st'):wpS (model prog w) A E s (x8 x y) Q st:=by
 rw[aK7];refine bq2 (wpS_lift (bF3 ⟨rfl,bq2 (dC y0 ?_)⟩));have m0:MI rk x.toList y.toList (#[y[0]]:Array Keyed).toList 0 1:=by
  have mm:MI rk x.toList y.toList [] 0 0:=⟨by simp,sx,sy⟩
  have:=mm.ofy 1 λu hu t ht=>?_
  ·rw[<- m5 y0]at this;exact this
  ·rw[<- m5 y0,bp2]at hu
   subst hu;exact hf t ht
 by_cases e1:(1==y.size)=true
 ·rw[if_pos e1]
  have e1:1=y.size:=by simpa using e1
  exact bq9 (h _ st (Gq.refl st) (m0.done (.inr (by omega))))
 ·rw[if_neg e1]
  have e1:1≠y.size:=by simpa using e1
  by_cases e2:(0+1==x.size)=true
  ·rw[if_pos e2]
   exact bq9 (h _ st (Gq.refl st) (m0.last x0 hl (by simpa using e2)))
  ·rw[if_neg e2]
   have e2:0+1≠x.size:=by simpa using e2
   refine bq2 (wpS_get ?_);unfold R5
   refine bq2 (bG3 (bz6
    (I:=λn c st'=>Gq st st'/\∃o i j mg,c=(none,o,i,j,mg)/\MI rk x.toList y.toList o.toList i j/\i+1<x.size/\j<y.size/\n+1<=i+j)
    (Q:=λc st'=>Gq st st'/\∃r o i j mg,c=(some r,o,i,j,mg)/\eB rk x y r) ?_ ?_ ⟨Gq.refl st,_,0,1,_,rfl,m0,by omega,by omega,by omega⟩) ?_)
   ·rintro n c1 st1 _ hn ⟨q1,o,i,j,mg,rfl,m,hi,hj,pr⟩
    dsimp only;refine bq2 (aK9 c hk ox oy sx sy x0 hl q1 m hi hj (λr o' i' j' p q st' g md=>bq9 ⟨g,r,_,_,_,_,rfl,md⟩) λo' i' j' p q st' g m' hi' hj' pr'=>?_);refine bq2 (wpS_lift (bF3 ⟨rfl,?_⟩));refine bq2 (bG3 (aK8 c hk ox oy sx sy x0 hl g m' hi' hj' pr') ?_);rintro c3 st3 ⟨q3,⟨r,o,i3,j3,mg,p,q,rfl,md⟩|⟨o,i3,j3,mg,p,q,rfl,m,hi,hj,pr3⟩⟩
    ·exact bq9 ⟨q3,r,_,_,_,_,rfl,md⟩
    ·exact bq2 (sJ q3 λst4 q4=>bq9 ⟨q4,o,i3,j3,_,rfl,m,hi,hj,by omega⟩)
   ·rintro c1 st1 ⟨q1,o,i,j,mg,rfl,m,hi,hj,pr⟩
    exact absurd pr (by omega)
   ·rintro c1 st1 ⟨q1,r,o,i,j,mg,rfl,md⟩
    exact bq9 (h r _ q1 md)
end
noncomputable def xC:Array Keyed->Array Keyed->StateT SortSt Sem (Array Keyed):=sortPriv% PySem.Builtin.mergeHi
noncomputable abbrev LH:=Option (Array Keyed)×Nat×Nat×Array Keyed×Nat×Nat×Nat
noncomputable abbrev xD:=Option (Array Keyed)×Nat×Nat×Array Keyed×Nat×Nat
noncomputable abbrev LP:=Option (Array Keyed)×Nat×Nat×Array Keyed×Nat
noncomputable def sL (x y o:Array Keyed)(i j mg p q:Nat):StateT SortSt Sem (ForInStep LH):=do
 let v <- elem' x (i-1)
 if (i-1==0)=true then pure (.done (some (x.extract 0 (i-1)++y.extract 0 j++(o.push v).reverse),i-1,j,o.push v,mg,p,q))
 else if (decide (p<7)&&decide (q<7))=true then pure (.done (none,i-1,j,o.push v,mg,p,q)) else pure (.yield (none,i-1,j,o.push v,mg,p,q))
noncomputable def sM (x y o:Array Keyed)(i j mg p q:Nat):StateT SortSt Sem (ForInStep LH):=do
 let v <- elem' y (j-1)
 if (j-1==1)=true then pure (.done (some (y.extract 0 (j-1)++x.extract 0 i++(o.push v).reverse),i,j-1,o.push v,mg,p,q)) else do
  let u <- elem' x (i-1)
  match <- kX true u y 0 (j-1) (j-1-1) with
  |some z=>
   if j-1-z>0 then
    if (z==1)=true then pure (.done (some (y.extract 0 z++x.extract 0 i++(o.push v++(y.extract z (j-1)).reverse).reverse),i,z,o.push v++(y.extract z (j-1)).reverse,mg,p,j-1-z))
    else if (z==0)=true then pure (.done (some (x.extract 0 i++y.extract 0 z++(o.push v++(y.extract z (j-1)).reverse).reverse),i,z,o.push v++(y.extract z (j-1)).reverse,mg,p,j-1-z))
    else sL x y (o.push v++(y.extract z (j-1)).reverse) i z mg p (j-1-z)
   else sL x y (o.push v) i (j-1) mg p (j-1-z)
  |_=>pure (.done (some (x.extract 0 i++y.extract 0 (j-1)++(o.push v).reverse),i,j-1,o.push v,mg,p,q))
noncomputable def sN (x y o:Array Keyed)(i j mg p q:Nat):StateT SortSt Sem (ForInStep LH):=do
 nH mg
 let v <- elem' y (j-1)
 match <- kX false v x 0 i (i-1) with
 |some z=>
  if i-z>0 then
   if (z==0)=true then pure (.done (some (x.extract 0 z++y.extract 0 j++(o++(x.extract z i).reverse).reverse),z,j,o++(x.extract z i).reverse,mg,i-z,q))
   else sM x y (o++(x.extract z i).reverse) z j mg (i-z) q
  else sM x y o i j mg (i-z) q
 |_=>pure (.done (some (x.extract 0 i++y.extract 0 j++o.reverse),i,j,o,mg,p,q))
noncomputable def xE (x y o:Array Keyed)(i j mg p q:Nat):StateT SortSt Sem LH:=forIn [0:x.size+y.size] ((none,i,j,o,mg,p,q):LH) λ_ r=>
 if r.2.2.2.2.1>1 then sN x y r.2.2.2.1 r.2.1 r.2.2.1 (r.2.2.2.2.1-1) r.2.2.2.2.2.1 r.2.2.2.2.2.2 else sN x y r.2.2.2.1 r.2.1 r.2.2.1 r.2.2.2.2.1 r.2.2.2.2.2.1 r.2.2.2.2.2.2
noncomputable def jX (x y o:Array Keyed)(i j mg:Nat):StateT SortSt Sem xD:=forIn [0:x.size+y.size] ((none,i,j,o,0,0):xD) λ_ r=>do
 let v <- elem' y (r.2.2.1-1)
 let u <- elem' x (r.2.1-1)
 match <- lt' v u with
 |some q=>
  if q=true then do
   let u <- elem' x (r.2.1-1)
   if (r.2.1-1==0)=true then pure (.done (some (x.extract 0 (r.2.1-1)++y.extract 0 r.2.2.1++(r.2.2.2.1.push u).reverse),r.2.1-1,r.2.2.1,r.2.2.2.1.push u,r.2.2.2.2.1+1,0))
   else if r.2.2.2.2.1+1 >= mg then pure (.done (none,r.2.1-1,r.2.2.1,r.2.2.2.1.push u,r.2.2.2.2.1+1,0)) else pure (.yield (none,r.2.1-1,r.2.2.1,r.2.2.2.1.push u,r.2.2.2.2.1+1,0))
  else do
   let v <- elem' y (r.2.2.1-1)
   if (r.2.2.1-1==1)=true then pure (.done (some (y.extract 0 (r.2.2.1-1)++x.extract 0 r.2.1++(r.2.2.2.1.push v).reverse),r.2.1,r.2.2.1-1,r.2.2.2.1.push v,0,r.2.2.2.2.2+1))
   else if r.2.2.2.2.2+1 >= mg then pure (.done (none,r.2.1,r.2.2.1-1,r.2.2.2.1.push v,0,r.2.2.2.2.2+1)) else pure (.yield (none,r.2.1,r.2.2.1-1,r.2.2.2.1.push v,0,r.2.2.2.2.2+1))
 |_=>pure (.done (some (x.extract 0 r.2.1++y.extract 0 r.2.2.1++r.2.2.2.1.reverse),r.2.1,r.2.2.1,r.2.2.2.1,r.2.2.2.2.1,r.2.2.2.2.2))
noncomputable def S3 (x y o:Array Keyed)(i j mg:Nat):StateT SortSt Sem LP:=forIn [0:x.size+y.size] ((none,i,j,o,mg):LP) λ_ r=>do
 let u <- jX x y r.2.2.2.1 r.2.1 r.2.2.1 r.2.2.2.2
 match u.1 with
 |some z=>pure (.done (some z,u.2.1,u.2.2.1,u.2.2.2.1,r.2.2.2.2))
 |none=>do
  liftM (rule "list.sort.gallop")
  let v <- xE x y u.2.2.2.1 u.2.1 u.2.2.1 (r.2.2.2.2+1) u.2.2.2.2.1 u.2.2.2.2.2
  match v.1 with
  |some z=>pure (.done (some z,v.2.1,v.2.2.1,v.2.2.2.1,v.2.2.2.2.1))
  |none=>do
   nH (v.2.2.2.2.1+1)
   pure (.yield (none,v.2.1,v.2.2.1,v.2.2.2.1,v.2.2.2.2.1+1))
theorem aL1 (x y:Array Keyed):xC x y=(do
 liftM (rule "list.sort.merge-hi")
 let v <- elem' x (x.size-1)
 if (x.size-1==0)=true then pure (x.extract 0 (x.size-1)++y.extract 0 y.size++(#[v]:Array Keyed).reverse)
 else if (y.size==1)=true then pure (y.extract 0 y.size++x.extract 0 (x.size-1)++(#[v]:Array Keyed).reverse)
 else do
  let z <- get
  let r <- S3 x y #[v] (x.size-1) y.size (gallopOf z)
  match r.1 with
  |some z=>pure z
  |none=>unsupported "internal:list.sort.merge-bound"):=by kernel_rfl
structure MH (rk:Keyed->Int)(xs ys o:List Keyed)(i j:Nat):Prop where
 pm:o.Perm (xs.drop i++ys.drop j)
 sx:Sd rk (xs.take i++o)
 sy:Sd rk (ys.take j++o)
variable {rk:Keyed→Int}{xs ys o:List Keyed}{i j:Nat}
theorem Sd.insR {o a b d:List Keyed}(h1:Sd rk (a++o))(h2:Sd rk ((d++b)++o))(h:∀t∈a,∀u∈b,rk t<=rk u):Sd rk (a++(b++o)):=by
 unfold Sd at *
 obtain⟨p1,p2,p3⟩:=bt6.mp h1
 obtain⟨q1,q2,q3⟩:=bt6.mp h2
 obtain⟨r1,r2,r3⟩:=bt6.mp q1
 refine bt6.mpr ⟨p1,bt6.mpr ⟨r2,p2,λu hu t ht=>q3 u (bs8 _ hu) t ht⟩,λu hu t ht=>?_⟩;rcases bs0.mp ht with z|z
 ·exact h u hu t z
 ·exact p3 u hu t z
theorem sO (l:List Keyed){z j:Nat}(h:z<=j):l.take z++(l.take j).drop z=l.take j:=by
 have e:l.take z=(l.take j).take z:=by rw[List.take_take,Nat.min_eq_left h]
 rw[e];exact bs4 z _
theorem xF (l:List Keyed){z j:Nat}(h:z<=j):(l.take j).drop z++l.drop j=l.drop z:=by
 rw[bH1,show l.drop j=(l.drop z).drop (j-z) by rw[List.drop_drop,Nat.add_sub_cancel' h]];exact bs4 _ _
theorem MH.ofy (m:MH rk xs ys o i j){z:Nat}(hz:z<=j)(h:∀t∈xs.take i,∀u∈(ys.take j).drop z,rk t<=rk u):MH rk xs ys ((ys.take j).drop z++o) i z:=by
 refine⟨?_,Sd.insR m.sx (d:=ys.take z) (by rw[sO _ hz];exact m.sy) h,by rw[<- bq7,sO _ hz];exact m.sy⟩;rw[<- xF ys hz];refine (m.pm.append_left _).trans ?_;rw[<- bq7,<- bq7];exact (bw5).append_right _
theorem MH.ofx (m:MH rk xs ys o i j){z:Nat}(hz:z<=i)(h:∀t∈ys.take j,∀u∈(xs.take i).drop z,rk t<=rk u):MH rk xs ys ((xs.take i).drop z++o) z j:=by
 refine⟨?_,by rw[<- bq7,sO _ hz];exact m.sx,Sd.insR m.sy (d:=xs.take z) (by rw[sO _ hz];exact m.sx) h⟩;rw[<- xF xs hz,bq7];exact m.pm.append_left _
theorem MH.fin (m:MH rk xs ys o i j)(h:i=0∨j=0):(xs.take i++ys.take j++o).Perm (xs++ys)/\Sd rk (xs.take i++ys.take j++o):=by
 refine⟨?_,?_⟩
 ·have e1:xs=xs.take i++xs.drop i:=(bs4 i xs).symm
  have e2:ys=ys.take j++ys.drop j:=(bs4 j ys).symm
  conv=>rhs;rw[e1,e2]
  rw[bq7,bq7];refine bD5 _ ((m.pm.append_left _).trans ?_);rw[<- bq7,<- bq7];exact (bw5).append_right _
 ·rcases h with h|h
  ·subst h;simpa using m.sy
  ·subst h;simpa using m.sx
theorem MH.fst (m:MH rk xs ys o i j)(h:∀t∈ys.take j,∀u∈xs,rk t<=rk u):(ys.take j++xs.take i++o).Perm (xs++ys)/\Sd rk (ys.take j++xs.take i++o):=by
 have m2:=m.ofx (bt5 i) λt ht u hu=>h t ht u (bG4 (List.mem_of_mem_drop hu))
 have f:=m2.fin (.inl rfl);simpa using f
theorem pH {x:Array Keyed}{i:Nat}{u:Keyed}(h:u∈x.toList.take i):∃t,t<i/\t<x.size/\rk u=Kr rk x t:=by
 obtain⟨t,ht,e⟩:=bu9 h
 have h1:t<i/\t<x.size:=by simp at ht;omega
 refine⟨t,h1.1,h1.2,?_⟩;rw[cE h1.2,<- e];simp
theorem pI {x:Array Keyed}{z i:Nat}{u:Keyed}(h:u∈(x.toList.take i).drop z):∃t,z<=t/\t<i/\t<x.size/\rk u=Kr rk x t:=by
 obtain⟨t,ht,e⟩:=bu9 h
 have h1:z+t<i/\z+t<x.size:=by simp at ht;omega
 refine⟨z+t,by omega,h1.1,h1.2,?_⟩;rw[cE h1.2,<- e];simp
theorem m6 (x:Array Keyed)(z i:Nat):(x.extract z i).toList=(x.toList.take i).drop z:=by
 rw[bH1];simp[List.extract]
theorem sP (x:Array Keyed)(i:Nat):(x.extract 0 i).toList=x.toList.take i:=by
 simp[List.extract]
theorem pJ {x:Array Keyed}{i:Nat}(h:i<x.size):[x[i]]=(x.toList.take (i+1)).drop i:=by
 rw[bH1,m5 h,show i+1-i=1 by omega]
section
variable {κ:SortKind}{st:SortSt}{prog:az}{w:bc}{A:ba}{E:av→ax→Prop}{s:ax}{Ok:Keyed→Prop}
theorem MH.y1 {x y o:Array Keyed}(m:MH rk x.toList y.toList o.toList.reverse i (j+1))(hj:j<y.size)(h:∀t,t<i->t<x.size->Kr rk x t<=rk y[j]):MH rk x.toList y.toList (o.push y[j]).toList.reverse i j:=by
 have:=m.ofy (Nat.le_succ j) λt ht u hu=>?_
 ·rw[<- pJ hj]at this;simpa using this
 ·rw[<- pJ hj,bp2]at hu
  subst hu
  obtain⟨q,q1,q2,q3⟩:=pH (rk:=rk) ht
  rw[q3];exact h q q1 q2
theorem MH.x1 {x y o:Array Keyed}(m:MH rk x.toList y.toList o.toList.reverse (i+1) j)(hi:i<x.size)(h:∀t,t<j->t<y.size->Kr rk y t<=rk x[i]):MH rk x.toList y.toList (o.push x[i]).toList.reverse i j:=by
 have:=m.ofx (Nat.le_succ i) λt ht u hu=>?_
 ·rw[<- pJ hi]at this;simpa using this
 ·rw[<- pJ hi,bp2]at hu
  subst hu
  obtain⟨q,q1,q2,q3⟩:=pH (rk:=rk) ht
  rw[q3];exact h q q1 q2
theorem MH.yk {x y o:Array Keyed}(m:MH rk x.toList y.toList o.toList.reverse i j){z:Nat}(hz:z<=j)(h:∀t p,t<i->t<x.size->z<=p->p<j->p<y.size->Kr rk x t<=Kr rk y p):MH rk x.toList y.toList (o++(y.extract z j).reverse).toList.reverse i z:=by
 have:=m.ofy hz λt ht u hu=>?_
 ·rw[<- m6]at this;simpa using this
 ·obtain⟨q,q1,q2,q3⟩:=pH (rk:=rk) ht
  obtain⟨p,p1,p2,p3,p4⟩:=pI (rk:=rk) hu
  rw[q3,p4];exact h q p q1 q2 p1 p2 p3
theorem MH.xk {x y o:Array Keyed}(m:MH rk x.toList y.toList o.toList.reverse i j){z:Nat}(hz:z<=i)(h:∀t p,t<j->t<y.size->z<=p->p<i->p<x.size->Kr rk y t<=Kr rk x p):MH rk x.toList y.toList (o++(x.extract z i).reverse).toList.reverse z j:=by
 have:=m.ofx hz λt ht u hu=>?_
 ·rw[<- m6]at this;simpa using this
 ·obtain⟨q,q1,q2,q3⟩:=pH (rk:=rk) ht
  obtain⟨p,p1,p2,p3,p4⟩:=pI (rk:=rk) hu
  rw[q3,p4];exact h q p q1 q2 p1 p2 p3
theorem MH.done {x y o:Array Keyed}(m:MH rk x.toList y.toList o.toList.reverse i j)(hh:i=0∨j=0):eB rk x y (x.extract 0 i++y.extract 0 j++o.reverse):=by
 unfold eB;rw[by9,by9,sP,sP,Array.toList_reverse];exact m.fin hh
theorem MH.frst {x y o:Array Keyed}(m:MH rk x.toList y.toList o.toList.reverse i j)(y0:0<y.size)(hf:∀t∈x.toList,rk y[0]<=rk t)(hh:j=1):eB rk x y (y.extract 0 j++x.extract 0 i++o.reverse):=by
 unfold eB;rw[by9,by9,sP,sP,Array.toList_reverse];refine m.fst λt ht u hu=>?_
 subst hh
 obtain⟨q,q1,q2,q3⟩:=pH (rk:=rk) ht
 have e:q=0:=by omega
 subst e;rw[q3,cE y0];exact hf u hu
structure HB (rk:Keyed->Int)(x y:Array Keyed)(lb i j:Nat)(o:Array Keyed):Prop where
 m:MH rk x.toList y.toList o.toList.reverse i j
 i0:0<i
 i1:i<x.size
 j0:1<j
 j1:j<=y.size
 pr:i+j+lb<=x.size+y.size
noncomputable def HI (rk:Keyed->Int)(x y:Array Keyed)(lb:Nat)(st:SortSt)(c:LH)(st':SortSt):Prop:=Gq st st'/\∃i j o mg p q,c=(none,i,j,o,mg,p,q)/\HB rk x y lb i j o
noncomputable def HQ (rk:Keyed->Int)(x y:Array Keyed)(lb:Nat)(st:SortSt)(c:LH)(st':SortSt):Prop:=Gq st st'/\((∃r i j o mg p q,c=(some r,i,j,o,mg,p,q)/\eB rk x y r)∨∃i j o mg p q,c=(none,i,j,o,mg,p,q)/\HB rk x y lb i j o)
noncomputable def HR (rk:Keyed->Int)(x y:Array Keyed)(lb:Nat)(st:SortSt)(r:ForInStep LH)(st':SortSt):Prop:=match r with|.done c=>HQ rk x y lb st c st'|.yield c=>HI rk x y lb st c st'
theorem S4 {st0:SortSt}{x y o:Array Keyed}{i j mg p q lb:Nat}(g:Gq st0 st)(b:HB rk x y lb (i+1) j o)(hm:∀(hi:i<x.size) t,t<j->t<y.size->Kr rk y t<=rk x[i]):wpS (model prog w) A E s (sL x y o (i+1) j mg p q) (HR rk x y lb st0) st:=by
 unfold sL
 obtain⟨m,i0,i1,j0,j1,pr⟩:=b
 have hi':i<x.size:=by omega
 have m':=m.x1 hi' (hm hi');simp only[bF2];refine bq2 (dC hi' ?_);by_cases he:(i==0)=true
 ·rw[if_pos he]
  have he:i=0:=by simpa using he
  exact bq9 ⟨g,.inl ⟨_,_,_,_,_,_,_,rfl,m'.done (.inl he)⟩⟩
 ·rw[if_neg he]
  have he:i≠0:=by simpa using he
  split
  ·exact bq9 ⟨g,.inr ⟨_,_,_,_,_,_,rfl,m',by omega,by omega,j0,j1,by omega⟩⟩
  ·exact bq9 ⟨g,_,_,_,_,_,_,rfl,m',by omega,by omega,j0,j1,by omega⟩
theorem S5 (c:cP prog w A E s κ Ok rk){st0:SortSt}(hk:kindOf st0=κ){x y o:Array Keyed}{i j mg p q lb:Nat}(ox:bM Ok x)(oy:bM Ok y)(sx:Sd rk x.toList)(sy:Sd rk y.toList)(y0:0<y.size)(hf:∀t∈x.toList,rk y[0]<=rk t)(g:Gq st0 st)(b:HB rk x y lb (i+1) (j+1) o)(hm:∀(hj:j<y.size) t,t<i+1->t<x.size->Kr rk x t<=rk y[j]):wpS (model prog w) A E s (sM x y o (i+1) (j+1) mg p q) (HR rk x y lb st0) st:=by
 unfold sM
 obtain⟨m,i0,i1,j0,j1,pr⟩:=b
 have hi':i<x.size:=by omega
 have hj:j<y.size:=by omega
 have m':=m.y1 hj (hm hj);simp only[bF2];refine bq2 (dC hj ?_);by_cases he:(j==1)=true
 ·rw[if_pos he]
  have he:j=1:=by simpa using he
  exact bq9 ⟨g,.inl ⟨_,_,_,_,_,_,_,rfl,m'.frst y0 hf he⟩⟩
 ·rw[if_neg he]
  have he:j≠1:=by simpa using he
  refine bq2 (dC hi' (bq2 (nG c (g.kd.trans hk) (ox _ (bu8 hi')) oy (by omega) (by omega) (sy.up _ _ (by omega)) λz k1 k2 k3=>?_)));dsimp only;have ux:=sx.up 0 _ (bp7 x.size);have mk:=m'.yk k1 λt p ht ht' hp hp' _=>by
   have a1:=k3 p hp hp';rw[nJ,bA2,Nat.zero_add]at a1;have a2:=ux t i (by omega) (by omega) hi';rw[cE (i:=i) hi']at a2;omega
  have km:∀(hi:i<x.size) t,t<z->t<y.size->Kr rk y t<=rk x[i]:=λ_ t ht _=>by
   have a1:=k2 t ht;rw[nJ,bt0,Nat.zero_add]at a1;omega
  by_cases hk0:j-z>0
  ·rw[if_pos hk0]
   by_cases h1:(z==1)=true
   ·rw[if_pos h1]
    have h1:z=1:=by simpa using h1
    exact bq9 ⟨g,.inl ⟨_,_,_,_,_,_,_,rfl,mk.frst y0 hf h1⟩⟩
   ·rw[if_neg h1]
    have h1:z≠1:=by simpa using h1
    by_cases h0:(z==0)=true
    ·rw[if_pos h0]
     have h0:z=0:=by simpa using h0
     exact bq9 ⟨g,.inl ⟨_,_,_,_,_,_,_,rfl,mk.done (.inr h0)⟩⟩
    ·rw[if_neg h0]
     have h0:z≠0:=by simpa using h0
     exact S4 g ⟨mk,by omega,i1,by omega,by omega,by omega⟩ km
  ·rw[if_neg hk0]
   have e0:z=j:=by omega
   subst e0;exact S4 g ⟨m',by omega,i1,by omega,by omega,by omega⟩ km
theorem S6 (c:cP prog w A E s κ Ok rk){st0:SortSt}(hk:kindOf st0=κ){x y o:Array Keyed}{i j mg p q lb:Nat}(ox:bM Ok x)(oy:bM Ok y)(sx:Sd rk x.toList)(sy:Sd rk y.toList)(y0:0<y.size)(hf:∀t∈x.toList,rk y[0]<=rk t)(g:Gq st0 st)(b:HB rk x y lb i (j+1) o) :
  wpS (model prog w) A E s (sN x y o i (j+1) mg p q) (HR rk x y lb st0) st:=by
 unfold sN
 obtain⟨m,i0,i1,j0,j1,pr⟩:=b
 have hj:j<y.size:=by omega
 simp only[bF2];refine bq2 (sJ g λst4 q4=>bq2 (dC hj (bq2 (nG c (q4.kd.trans hk) (oy _ (bu8 hj)) ox (by omega) (by omega) (sx.up _ _ (by omega)) λz k1 k2 k3=>?_))));dsimp only;have uy:=sy.up 0 _ (bp7 y.size);have mk:=m.xk k1 λt p ht ht' hp hp' _=>by
  have a1:=k3 p hp hp';rw[nI,bA2,Nat.zero_add]at a1;have a2:=uy t j (by omega) (by omega) hj;rw[cE (i:=j) hj]at a2;omega
 have km:∀(hj:j<y.size) t,t<z->t<x.size->Kr rk x t<=rk y[j]:=λ_ t ht _=>by
  have a1:=k2 t ht;rw[nI,bt0,Nat.zero_add]at a1;exact a1
 by_cases hk0:i-z>0
 ·rw[if_pos hk0]
  by_cases he:(z==0)=true
  ·rw[if_pos he]
   exact bq9 ⟨q4,.inl ⟨_,_,_,_,_,_,_,rfl,mk.done (.inl (by simpa using he))⟩⟩
  ·rw[if_neg he]
   have he:z≠0:=by simpa using he
   obtain⟨z2,rfl⟩:∃z2,z=z2+1:=⟨z-1,by omega⟩
   exact S5 c hk ox oy sx sy y0 hf q4 ⟨mk,by omega,by omega,j0,j1,by omega⟩ km
 ·rw[if_neg hk0]
  have e0:z=i:=by omega
  subst e0
  obtain⟨z2,rfl⟩:∃z2,z=z2+1:=⟨z-1,by omega⟩
  exact S5 c hk ox oy sx sy y0 hf q4 ⟨m,i0,i1,j0,j1,pr⟩ km
theorem aL2 (c:cP prog w A E s κ Ok rk){st0:SortSt}(hk:kindOf st0=κ){x y o:Array Keyed}{i j mg p q lb:Nat}(ox:bM Ok x)(oy:bM Ok y)(sx:Sd rk x.toList)(sy:Sd rk y.toList)(y0:0<y.size)(hf:∀t∈x.toList,rk y[0]<=rk t)(g:Gq st0 st)(b:HB rk x y lb i j o) :
  wpS (model prog w) A E s (xE x y o i j mg p q) (HQ rk x y lb st0) st:=by
 unfold xE;refine bz6 (I:=λ_=>HI rk x y lb st0) ?_ ?_ ⟨g,i,j,o,_,p,q,rfl,b⟩
 ·rintro t c3 st3 _ _ ⟨q3,i,j,o,mg,p,q,rfl,b3⟩
  obtain⟨j3,rfl⟩:∃j3,j=j3+1:=⟨j-1,by have:=b3.j0;omega⟩
  dsimp only;split
  ·exact bG3 (S6 c hk ox oy sx sy y0 hf q3 b3) λr _ hr=>by cases r<;>exact hr
  ·exact bG3 (S6 c hk ox oy sx sy y0 hf q3 b3) λr _ hr=>by cases r<;>exact hr
 ·rintro c3 st3 ⟨q3,i,j,o,mg,p,q,rfl,b3⟩
  exact⟨q3,.inr ⟨_,_,_,_,_,_,rfl,b3⟩⟩
theorem aL3 (c:cP prog w A E s κ Ok rk){st0:SortSt}(hk:kindOf st0=κ){x y o:Array Keyed}{i j mg n:Nat}{Q:xD->SortSt->Prop}(ox:bM Ok x)(oy:bM Ok y)(sx:Sd rk x.toList)(sy:Sd rk y.toList)(y0:0<y.size)(hf:∀t∈x.toList,rk y[0]<=rk t)(g:Gq st0 st)(b:HB rk x y n i j o)(h1:∀r i' j' o' p q st',Gq st0 st'->eB rk x y r->Q (some r,i',j',o',p,q) st')(h2:∀i' j' o' p q st',Gq st0 st'->HB rk x y (n+1) i' j' o'->Q (none,i',j',o',p,q) st') :
  wpS (model prog w) A E s (jX x y o i j mg) Q st:=by
 have ux:Up rk x 0 x.size:=sx.up 0 _ (bp7 _);have uy:Up rk y 0 y.size:=sy.up 0 _ (bp7 _);unfold jX;refine bz6 (I:=λt c st'=>Gq st0 st'/\∃i j o p q,c=(none,i,j,o,p,q)/\HB rk x y (n+t) i j o) ?_ ?_ ⟨g,i,j,o,0,0,rfl,b⟩
 ·rintro t c2 st2 _ ht ⟨q2,i',j',o,p,q,rfl,m,i0,i1,j0,j1,pr⟩
  obtain⟨i2,rfl⟩:∃i2,i'=i2+1:=⟨i'-1,by omega⟩
  obtain⟨j2,rfl⟩:∃j2,j'=j2+1:=⟨j'-1,by omega⟩
  simp only[bF2];have hi:i2<x.size:=by omega
  have hj:j2<y.size:=by omega
  refine bq2 (dC hj (bq2 (dC hi (bq2 (c _ _ (oy _ (bu8 hj)) (ox _ (bu8 hi)) st2 _ (q2.kd.trans hk) ?_)))));by_cases hc:rk y[j2]<rk x[i2]
  ·rw[bp8 hc]
   dsimp only;rw[if_pos rfl];have m':=m.x1 hi λt ht _=>by
    have:=uy t j2 (by omega) (by omega) hj
    rw[cE hj]at this;omega
   refine bq2 (dC hi ?_);by_cases he:(i2==0)=true
   ·rw[if_pos he]
    exact bq9 (h1 _ _ _ _ _ _ _ q2 (m'.done (.inl (by simpa using he))))
   ·rw[if_neg he]
    have he:i2≠0:=by simpa using he
    split
    ·exact bq9 (h2 _ _ _ _ _ _ q2 ⟨m',by omega,by omega,j0,j1,by omega⟩)
    ·exact bq9 ⟨q2,_,_,_,_,_,rfl,m',by omega,by omega,j0,j1,by omega⟩
  ·rw[bp6 hc]
   dsimp only;rw[if_neg br3];have m':=m.y1 hj λt ht _=>by
    have:=ux t i2 (by omega) (by omega) hi
    rw[cE hi]at this;omega
   refine bq2 (dC hj ?_);by_cases he:(j2==1)=true
   ·rw[if_pos he]
    exact bq9 (h1 _ _ _ _ _ _ _ q2 (m'.frst y0 hf (by simpa using he)))
   ·rw[if_neg he]
    have he:j2≠1:=by simpa using he
    split
    ·exact bq9 (h2 _ _ _ _ _ _ q2 ⟨m',i0,i1,by omega,by omega,by omega⟩)
    ·exact bq9 ⟨q2,_,_,_,_,_,rfl,m',i0,i1,by omega,by omega,by omega⟩
 ·rintro c2 st2 ⟨q2,i',j',o,p,q,rfl,m,i0,i1,j0,j1,pr⟩
  exact h2 _ _ _ _ _ _ q2 ⟨m,i0,i1,j0,j1,by omega⟩
theorem aL4 (c:cP prog w A E s κ Ok rk)(hk:kindOf st=κ){x y:Array Keyed}{Q:Array Keyed->SortSt->Prop}(ox:bM Ok x)(oy:bM Ok y)(sx:Sd rk x.toList)(sy:Sd rk y.toList)(x0:0<x.size)(y0:0<y.size)(hf:∀t∈x.toList,rk y[0]<=rk t)(hl:∀u∈y.toList,rk u<=rk x[x.size-1])(h:∀r st',Gq st st'->eB rk x y r->Q r st'):wpS (model prog w) A E s (xC x y) Q st:=by
 rw[aL1];refine bq2 (wpS_lift (bF3 ⟨rfl,bq2 (dC (by omega:x.size-1<x.size) ?_)⟩));have m0:MH rk x.toList y.toList (#[x[x.size-1]]:Array Keyed).toList.reverse (x.size-1) y.size:=by
  have mm:MH rk x.toList y.toList [] x.size y.size:=⟨by simp,by rw[bB1 (by simp),bv0];exact sx,by rw[bB1 (by simp),bv0];exact sy⟩;have e:=pJ (x:=x) (i:=x.size-1) (by omega);rw[show x.size-1+1=x.size by omega]at e
  have:=mm.ofx (Nat.sub_le x.size 1) λt ht u hu=>?_
  ·rw[<- e]at this;simpa using this
  ·rw[<- e,bp2]at hu
   subst hu;exact hl t (bG4 ht)
 by_cases e1:(x.size-1==0)=true
 ·rw[if_pos e1]
  exact bq9 (h _ st (Gq.refl st) (m0.done (.inl (by simpa using e1))))
 ·rw[if_neg e1]
  have e1:x.size-1≠0:=by simpa using e1
  by_cases e2:(y.size==1)=true
  ·rw[if_pos e2]
   exact bq9 (h _ st (Gq.refl st) (m0.frst y0 hf (by simpa using e2)))
  ·rw[if_neg e2]
   have e2:y.size≠1:=by simpa using e2
   refine bq2 (wpS_get ?_);unfold S3
   refine bq2 (bG3 (bz6
    (I:=λn c st'=>Gq st st'/\∃i j o mg,c=(none,i,j,o,mg)/\HB rk x y (n+1) i j o)
    (Q:=λc st'=>Gq st st'/\∃r i j o mg,c=(some r,i,j,o,mg)/\eB rk x y r) ?_ ?_ ⟨Gq.refl st,_,_,_,_,rfl,m0,by omega,by omega,by omega,by omega,by omega⟩) ?_)
   ·rintro n c1 st1 _ hn ⟨q1,i,j,o,mg,rfl,b⟩
    dsimp only;refine bq2 (aL3 c hk ox oy sx sy y0 hf q1 b (λr o' i' j' p q st' g md=>bq9 ⟨g,r,_,_,_,_,rfl,md⟩) λi' j' o' p q st' g b'=>?_);refine bq2 (wpS_lift (bF3 ⟨rfl,?_⟩));refine bq2 (bG3 (aL2 c hk ox oy sx sy y0 hf g b') ?_);rintro c3 st3 ⟨q3,⟨r,i3,j3,o,mg,p,q,rfl,md⟩|⟨i3,j3,o,mg,p,q,rfl,b3⟩⟩
    ·exact bq9 ⟨q3,r,_,_,_,_,rfl,md⟩
    ·exact bq2 (sJ q3 λst4 q4=>bq9 ⟨q4,i3,j3,o,_,rfl,b3⟩)
   ·rintro c1 st1 ⟨q1,i,j,o,mg,rfl,b⟩
    have:=b.pr
    exact absurd this (by omega)
   ·rintro c1 st1 ⟨q1,r,i,j,o,mg,rfl,md⟩
    exact bq9 (h r _ q1 md)
end
theorem aL5 (i:Nat):mergeAt' i=(do
 let z <- get
 let (some (sa,na,pw),some (sb,nb,_)):=((pendingOf z)[i]?,(pendingOf z)[i+1]?)|unsupported "internal:list.sort.pending"
 set (SortSt.mk' (kindOf z) (arrOf z) (((pendingOf z).setIfInBounds i (sa,na+nb,pw)).eraseIdxIfInBounds (i+1)) (gallopOf z) (failedOf z))
 let some k <- kX false (<- elem' (arrOf z) sb) (arrOf z) sa na 0|return false
 let (sa,na):=(sa+k,na-k)
 if na==0 then return true
 let some nb <- kX true (<- elem' (arrOf z) (sa+na-1)) (arrOf z) sb nb (nb-1)|return false
 if nb==0 then return true
 let x:=(arrOf z).extract sa sb
 let y:=(arrOf z).extract sb (sb+nb)
 let m <- if na<=nb then x8 x y else xC x y
 modify λz=>setArr z (m.toList.zipIdx.foldl (λa (p,j)=>a.setIfInBounds (sa+j) p) (arrOf z))
 return (failedOf (<- get)).isNone):=rfl
variable {rk:Keyed→Int}
theorem aL6 {σ:Type}{M:Model}{A:ba}{E:av->ax->Prop}{s:ax}{a b:σ}{Q:PUnit->σ->Prop}(h:Q ⟨⟩ a):wpS M A E s (set a:StateT σ Sem PUnit) Q b:=by
 unfold wpS;rw[StateT.run_set];exact bo5 ⟨rfl,h⟩
theorem S7 (o:Nat):∀(m:List Keyed) (n:Nat) (a:Array Keyed) (t:Nat),o+n+m.length<=a.size->
  ((m.zipIdx n).foldl (λa (p,j)=>a.setIfInBounds (o+j) p) a)[t]? = if o+n<=t/\t<o+n+m.length then m[t-(o+n)]? else a[t]?
 |[],n,a,t,_=>by
  show a[t]? = _;rw[if_neg (λz=>Nat.not_lt_of_ge z.1 z.2)]
 |p::m,n,a,t,h=>by
  rw[List.zipIdx_cons,List.foldl_cons];have h':o+(n+1)+m.length<=(a.setIfInBounds (o+n) p).size:=by rw[Array.size_setIfInBounds];simp at h;omega
  have ih:=S7 o m (n+1) (a.setIfInBounds (o+n) p) t h';refine ih.trans ?_;have hs:o+n<a.size:=by simp at h;omega
  rw[Array.getElem?_setIfInBounds];by_cases e:o+n=t
  ·subst e
   rw[if_neg (by omega),if_pos rfl,if_pos hs,if_pos (by simp),Nat.sub_self];rfl
  ·rw[if_neg e]
   by_cases c:o+n<=t/\t<o+n+(p::m).length
   ·rw[if_pos c,if_pos (by simp at c;omega)]
    rw[show t-(o+n)=(t-(o+(n+1)))+1 by omega];rfl
   ·rw[if_neg c,if_neg (by simp at c ⊢;omega)]
theorem S8 {a:Array Keyed}{lo hi:Nat}(u:Up rk a lo hi)(hh:hi<=a.size):Sd rk (a.extract lo hi).toList:=by
 unfold Sd;rw[bv3];intro i j hi' hj hij;have h2:lo+j<hi:=by simp at hj;omega
 have:=u (lo+i) (lo+j) (by omega) (by omega) h2
 rw[cE (by omega:lo+i<a.size),cE (by omega:lo+j<a.size)]at this;simpa using this
theorem S9 {a:Array Keyed}{lo mid hi:Nat}(u:Up rk a lo mid)(v:Up rk a mid hi)(h0:lo<mid)(h1:mid<hi)(h:Kr rk a (mid-1)<=Kr rk a mid):Up rk a lo hi:=λi j hi' hij hj=>by
 rcases bs3 j mid with z|z
 ·exact u i j hi' hij z
 ·rcases bs3 i mid with y|y
  ·have a1:=u i (mid-1) hi' (by omega) (by omega)
   have a2:=v mid j (bp7 _) z hj;omega
  ·exact v i j y hij hj
theorem T0 {a:Array Keyed}{lo hi t:Nat}(h:t<hi-lo)(hh:hi<=a.size):Kr rk (a.extract lo hi) t=Kr rk a (lo+t):=by
 refine lY ?_;rw[Array.getElem?_extract_of_lt (by omega)];exact (getElem?_pos a (lo+t) (by omega)).symm
section
variable {κ:SortKind}{a0:Array Keyed}{pd:Array (Nat×Nat×Nat)}{st:SortSt}{prog:az}{w:bc}{A:ba}{E:av→ax→Prop}{s:ax}{Ok:Keyed→Prop}
theorem aL7 {a m:Array Keyed}{p x e:Nat}(hpx:p<=x)(hxe:x<=e)(he:e<=a.size)(md:eB rk (a.extract p x) (a.extract x e) m) :
  let r:=m.toList.zipIdx.foldl (λa (q,j)=>a.setIfInBounds (p+j) q) a
  r.Perm a/\(∀t,(t<p∨e<=t)->Kr rk r t=Kr rk a t)/\(∀t t',p<=t->t<=t'->t'<e->Kr rk r t<=Kr rk r t')/\∀t,p<=t->t<e->∃t',p<=t'/\t'<e/\Kr rk r t=Kr rk a t':=by
 intro r;have ml:m.toList.length=e-p:=by
  rw[md.1.length_eq];simp;omega
 have g:∀t,r[t]? = if p<=t/\t<e then m[t-p]? else a[t]?:=λt=>by
  have:=S7 p m.toList 0 a t (by omega)
  rw[show r=(m.toList.zipIdx 0).foldl (λa (q,j)=>a.setIfInBounds (p+j) q) a from rfl,this];simp only[Nat.add_zero,ml,show p+(e-p)=e by omega,br6]
 have ex:(a.extract p x).toList++(a.extract x e).toList=(a.toList.take e).drop p:=by
  rw[m6,m6,bH1,bH1,bH1];rw[show x=p+(x-p) by omega,<- List.drop_drop,show p+(x-p)-p=x-p by omega,show e-(p+(x-p))=(e-p)-(x-p) by omega]
  have:=bs4 (x-p) ((a.toList.drop p).take (e-p))
  rw[List.take_take,bH1,Nat.min_eq_left (by omega)]at this;exact this
 have rl:r.toList=a.toList.take p++(m.toList++a.toList.drop e):=by
  apply List.ext_getElem?;intro t;rw[br6,g];rcases bs3 t p with z|z
  ·rw[if_neg (by omega),bB4 (by simp;omega),List.getElem?_take_of_lt z,br6]
  ·rw[bC7 (by simp;omega)]
   have lp:(a.toList.take p).length=p:=by simp;omega
   rw[lp];rcases bs3 t e with y|y
   ·rw[if_pos ⟨z,y⟩,bB4 (by omega),br6]
   ·rw[if_neg (by omega),bC7 (by omega),ml,List.getElem?_drop,br6]
    congr 1;omega
 have mp:m.toList.Perm ((a.toList.take e).drop p):=ex▸md.1;refine⟨?_,λt ht=>lY (by rw[g,if_neg (by omega)]),λt t' h1 h2 h3=>?_,λt h1 h2=>?_⟩
 ·refine Array.perm_iff_toList_perm.mpr ?_
  rw[rl]
  have:a.toList=a.toList.take p++((a.toList.take e).drop p++a.toList.drop e):=by
   rw[xF _ (by omega:p<=e)];exact (bs4 p _).symm
  conv=>rhs;rw[this]
  exact (mp.append_right _).append_left _
 ·have e1:Kr rk r t=Kr rk m (t-p):=lY (by rw[g,if_pos (by omega)])
  have e2:Kr rk r t'=Kr rk m (t'-p):=lY (by rw[g,if_pos (by omega)]);rw[e1,e2];have ms:m.size=e-p:=by rw[<- ml];simp
  exact md.2.up 0 m.size (bp7 _) (t-p) (t'-p) (by omega) (by omega) (by omega)
 ·have e1:Kr rk r t=Kr rk m (t-p):=lY (by rw[g,if_pos (by omega)])
  have ms:m.size=e-p:=by rw[<- ml];simp
  have hm:t-p<m.size:=by omega
  have mm:m[t-p]∈(a.toList.take e).drop p:=mp.mem_iff.mp (by simp)
  obtain⟨t',q1,q2,q3,q4⟩:=pI (rk:=rk) mm
  exact⟨t',q1,q2,by rw[e1,cE hm];exact q4⟩
theorem aL8 (c:cP prog w A E s κ Ok rk)(o:bM Ok a0)(b:SB κ a0 pd st){i sa na pw sb nb pw':Nat}{Q:Bool->SortSt->Prop}(e1:pd[i]? = some (sa,na,pw))(e2:pd[i+1]? = some (sb,nb,pw'))(hs:sb=sa+na)(n0:0<na)(m0:0<nb)(hz:sb+nb<=a0.size)(u:Up rk (arrOf st) sa sb)(v:Up rk (arrOf st) sb (sb+nb))(h:∀st',SB κ a0 ((pd.setIfInBounds i (sa,na+nb,pw)).eraseIdxIfInBounds (i+1)) st'->Up rk (arrOf st') sa (sb+nb)->(∀t,(t<sa∨sb+nb<=t)->Kr rk (arrOf st') t=Kr rk (arrOf st) t)->Q true st'):wpS (model prog w) A E s (mergeAt' i) Q st:=by
 have sz:=b.sz;rw[aL5];refine bq2 (wpS_get ?_);rw[b.pd,e1,e2];dsimp only;refine bq2 (aL6 ?_);generalize hst:SortSt.mk' (kindOf st) (arrOf st) ((pd.setIfInBounds i (sa,na+nb,pw)).eraseIdxIfInBounds (i+1)) (gallopOf st) (failedOf st)=st1;have b1:SB κ a0 ((pd.setIfInBounds i (sa,na+nb,pw)).eraseIdxIfInBounds (i+1)) st1:=by rw[<- hst];exact⟨b.pm,b.kd,b.ok,rfl⟩
 have ar:arrOf st1=arrOf st:=by rw[<- hst]
 have oa:=b.all o;have hsb:sb<(arrOf st).size:=by omega
 refine bq2 (dC hsb (bq2 (nG c b1.kd (oa _ (bu8 hsb)) oa n0 (by omega) (hs▸u) λk k1 k2 k3=>?_)));dsimp only;have k2':∀t,sa<=t->t<sa+k->Kr rk (arrOf st) t<=Kr rk (arrOf st) sb:=λt t1 t2=>by
  have:=k2 (t-sa) (by omega)
  rw[nI,bt0,show sa+(t-sa)=t by omega]at this;rw[cE hsb];exact this
 have k3':∀t,sa+k<=t->t<sb->Kr rk (arrOf st) sb<Kr rk (arrOf st) t:=λt t1 t2=>by
  have:=k3 (t-sa) (by omega) (by omega)
  rw[nI,bA2,show sa+(t-sa)=t by omega]at this;rw[cE hsb];omega
 by_cases ek:(na-k==0)=true
 ·rw[if_pos ek]
  have ek:na-k=0:=by simpa using ek
  refine bq9 (h st1 b1 ?_ λt _=>by rw[ar]);rw[ar];exact S9 u v (by omega) (by omega) (k2' (sb-1) (by omega) (by omega))
 ·rw[if_neg ek]
  have ek:na-k≠0:=by simpa using ek
  have el:sa+k+(na-k)-1=sb-1:=by omega
  rw[el];have hsl:sb-1<(arrOf st).size:=by omega
  refine bq2 (dC hsl (bq2 (nG c b1.kd (oa _ (bu8 hsl)) oa (by omega) (by omega) v λl l1 l2 l3=>?_)));dsimp only;have l2':∀t,sb<=t->t<sb+l->Kr rk (arrOf st) t<Kr rk (arrOf st) (sb-1):=λt t1 t2=>by
   have:=l2 (t-sb) (by omega)
   rw[nJ,bt0,show sb+(t-sb)=t by omega]at this;rw[cE hsl];exact this
  have l3':∀t,sb+l<=t->t<sb+nb->Kr rk (arrOf st) (sb-1)<=Kr rk (arrOf st) t:=λt t1 t2=>by
   have:=l3 (t-sb) (by omega) (by omega)
   rw[nJ,bA2,show sb+(t-sb)=t by omega]at this;rw[cE hsl];omega
  by_cases en:(l==0)=true
  ·rw[if_pos en]
   have en:l=0:=by simpa using en
   subst en;refine bq9 (h st1 b1 ?_ λt _=>by rw[ar]);rw[ar];exact S9 u v (by omega) (by omega) (l3' sb (by omega) (by omega))
  ·rw[if_neg en]
   have en:l≠0:=by simpa using en
   have sub:∀p e,bM Ok ((arrOf st).extract p e):=λp e z hz=>oa z (by
    have:z∈((arrOf st).extract p e).toList:=Array.mem_toList_iff.mpr hz
    rw[m6]at this
    exact Array.mem_toList_iff.mp (bG4 (List.mem_of_mem_drop this)))
   have sx:Sd rk ((arrOf st).extract (sa+k) sb).toList:=S8 (λi j h1 h2 h3=>u i j (by omega) h2 h3) (by omega);have sy:Sd rk ((arrOf st).extract sb (sb+l)).toList:=S8 (λi j h1 h2 h3=>v i j h1 h2 (by omega)) (by omega);have x0:0<((arrOf st).extract (sa+k) sb).size:=by simp;omega
   have y0:0<((arrOf st).extract sb (sb+l)).size:=by simp;omega
   have hf:∀t∈((arrOf st).extract (sa+k) sb).toList,rk ((arrOf st).extract sb (sb+l))[0]<=rk t:=λt ht=>by
    rw[m6]at ht
    obtain⟨t',q1,q2,q3,q4⟩:=pI (rk:=rk) ht
    rw[q4,<- cE (rk:=rk) y0,T0 (by omega) (by omega)];exact Int.le_of_lt (k3' t' q1 q2)
   have hl:∀t∈((arrOf st).extract sb (sb+l)).toList,rk t<=rk ((arrOf st).extract (sa+k) sb)[((arrOf st).extract (sa+k) sb).size-1]:=λt ht=>by
    rw[m6]at ht
    obtain⟨t',q1,q2,q3,q4⟩:=pI (rk:=rk) ht
    have e:((arrOf st).extract (sa+k) sb).size=sb-(sa+k):=by simp;omega
    rw[q4,<- cE (rk:=rk) (by omega),T0 (by omega) (by omega),e,show sa+k+(sb-(sa+k)-1)=sb-1 by omega];exact Int.le_of_lt (l2' t' q1 q2)
   have fin:∀(m:Array Keyed) (st2:SortSt),Gq st1 st2->eB rk ((arrOf st).extract (sa+k) sb) ((arrOf st).extract sb (sb+l)) m->
     wpS (model prog w) A E s (do modify (λz=>setArr z (m.toList.zipIdx.foldl (λa (p,j)=>a.setIfInBounds (sa+k+j) p) (arrOf z)));return (failedOf (<- get)).isNone) Q st2:=λm st2 g md=>by
    have b2:SB κ a0 ((pd.setIfInBounds i (sa,na+nb,pw)).eraseIdxIfInBounds (i+1)) st2:=⟨by rw[g.ar];exact b1.pm,g.kd.trans b1.kd,g.ok.trans b1.ok,g.pd.trans b1.pd⟩;have a2:arrOf st2=arrOf st:=g.ar.trans ar
    obtain⟨r1,r2,r3,r4⟩:=aL7 (by omega) (by omega) (by omega) md
    generalize hr:m.toList.zipIdx.foldl (λa (q,j)=>a.setIfInBounds (sa+k+j) q) (arrOf st)=r at r1 r2 r3 r4;refine bq2 (wpS_modify (bq2 (wpS_get (bq9 ?_))));have b3:=b2.put (xs:=m.toList.zipIdx.foldl (λa (q,j)=>a.setIfInBounds (sa+k+j) q) (arrOf st2)) (by rw[a2,hr];exact r1);have er:arrOf (setArr st2 (m.toList.zipIdx.foldl (λa (q,j)=>a.setIfInBounds (sa+k+j) q) (arrOf st2)))=r:=by rw[<- hr,a2]
    have tr:(failedOf (setArr st2 (m.toList.zipIdx.foldl (λa (q,j)=>a.setIfInBounds (sa+k+j) q) (arrOf st2)))).isNone=true:=by rw[b3.ok];rfl
    rw[tr];refine h _ b3 (λi j hi hij hj=>?_) λt ht=>?_
    ·rw[er]
     have bl:∀t,sa<=t->t<sa+k->∀t',sa+k<=t'->t'<sb+l->Kr rk (arrOf st) t<=Kr rk (arrOf st) t':=λt t1 t2 t' t3 t4=>by
      rcases bs3 t' sb with z|z
      ·exact u t t' t1 (by omega) z
      ·have a1:=k2' t t1 t2
       have a2:=v sb t' (bp7 _) z (by omega);omega
     have br:∀t,sb+l<=t->t<sb+nb->∀t',sa+k<=t'->t'<sb+l->Kr rk (arrOf st) t'<=Kr rk (arrOf st) t:=λt t1 t2 t' t3 t4=>by
      rcases bs3 t' sb with z|z
      ·have a1:=u t' (sb-1) (by omega) (by omega) (by omega)
       have a2:=l3' t t1 t2;omega
      ·exact v t' t z (by omega) t2
     have blr:∀t,sa<=t->t<sa+k->∀t',sb+l<=t'->t'<sb+nb->Kr rk (arrOf st) t<=Kr rk (arrOf st) t':=λt t1 t2 t' t3 t4=>by
      have a1:=bl t t1 t2 (sb-1) (by omega) (by omega);have a2:=l3' t' t3 t4;omega
     rcases bs3 i (sa+k) with z|z
     ·rw[r2 i (.inl z)]
      rcases bs3 j (sa+k) with y|y
      ·rw[r2 j (.inl y)];exact u i j hi hij (by omega)
      ·rcases bs3 j (sb+l) with x|x
       ·obtain⟨t',q1,q2,q3⟩:=r4 j y x
        rw[q3];exact bl i hi z t' q1 q2
       ·rw[r2 j (.inr x)];exact blr i hi z j x hj
     ·rcases bs3 j (sb+l) with x|x
      ·exact r3 i j z hij x
      ·rw[r2 j (.inr x)]
       rcases bs3 i (sb+l) with y|y
       ·obtain⟨t',q1,q2,q3⟩:=r4 i z y
        rw[q3];exact br j x hj t' q1 q2
       ·rw[r2 i (.inr y)];exact v i j (by omega) hij hj
    ·rw[er];exact r2 t (by omega)
   by_cases hle:na-k<=l
   ·rw[if_pos hle]
    exact bq2 (aL0 c b1.kd (sub _ _) (sub _ _) sx sy x0 y0 hf hl λm st2 g md=>fin m st2 g md)
   ·rw[if_neg hle]
    exact bq2 (aL4 c b1.kd (sub _ _) (sub _ _) sx sy x0 y0 hf hl λm st2 g md=>fin m st2 g md)
end
noncomputable def Ch:Nat->List (Nat×Nat)->Nat->Prop
 |a,[],b=>a=b
 |a,(p,n)::r,b=>p=a/\0<n/\Ch (a+n) r b
theorem Ch.split:∀{l l':List (Nat×Nat)}{a b:Nat},Ch a (l++l') b->∃m,Ch a l m/\Ch m l' b
 |[],_,a,_,h=>⟨a,rfl,h⟩
 |(p,n)::l,l',a,b,h=>by
  obtain⟨h1,h2,h3⟩:=h
  obtain⟨m,q1,q2⟩:=Ch.split h3
  exact⟨m,⟨h1,h2,q1⟩,q2⟩
theorem Ch.join:∀{l l':List (Nat×Nat)}{a m b:Nat},Ch a l m->Ch m l' b->Ch a (l++l') b
 |[],_,a,m,_,h,h'=>by cases (show a=m from h);exact h'
 |(p,n)::l,l',a,m,b,h,h'=>⟨h.1,h.2.1,Ch.join h.2.2 h'⟩
theorem Ch.len:∀{l:List (Nat×Nat)}{a b:Nat},Ch a l b->a+l.length<=b
 |[],a,b,h=>by cases (show a=b from h);simp
 |(p,n)::l,a,b,h=>by
  have:=Ch.len h.2.2
  have:=h.2.1
  simp;omega
theorem Ch.mem:∀{l:List (Nat×Nat)}{a b:Nat}{r:Nat×Nat},Ch a l b->r∈l->a<=r.1/\r.1+r.2<=b/\0<r.2
 |(p,n)::l,a,b,r,h,hr=>by
  obtain⟨h1,h2,h3⟩:=h
  have hb:=Ch.len h3;rcases bp1.mp hr with e|e
  ·subst e
   have h1:p=a:=h1;refine⟨?_,?_,h2⟩
   ·show a<=p;omega
   ·show p+n<=b;omega
  ·have:=Ch.mem h3 e
   exact⟨by omega,this.2.1,this.2.2⟩
noncomputable def sk (pd:Array (Nat×Nat×Nat)):List (Nat×Nat):=pd.toList.map λr=>(r.1,r.2.1)
theorem sQ (pd:Array (Nat×Nat×Nat)):(sk pd).length=pd.size:=by simp[sk]
structure Rn (rk:Keyed->Int)(a:Array Keyed)(l:List (Nat×Nat))(lo:Nat):Prop where
 ch:Ch 0 l lo
 up:∀r∈l,Up rk a r.1 (r.1+r.2)
variable {rk:Keyed→Int}{κ:SortKind}{a0:Array Keyed}{pd:Array (Nat×Nat×Nat)}{st:SortSt}{prog:az}{w:bc}{A:ba}{E:av→ax→Prop}{s:ax}{Ok:Keyed→Prop}
theorem Rn.same {a b:Array Keyed}{l:List (Nat×Nat)}{lo:Nat}(h:Rn rk a l lo)(e:∀t,t<lo->Kr rk b t=Kr rk a t):Rn rk b l lo:=⟨h.ch,λr hr i j hi hij hj=>by
 have:=(h.ch.mem hr).2.1
 rw[e i (by omega),e j (by omega)]
 exact h.up r hr i j hi hij hj⟩
theorem T2 (c:cP prog w A E s κ Ok rk)(o:bM Ok a0)(b:SB κ a0 pd st){i lo:Nat}{Q:Bool->SortSt->Prop}(hi:i+1<pd.size)(hz:lo<=a0.size)(rn:Rn rk (arrOf st) (sk pd) lo)(h:∀pd' st',SB κ a0 pd' st'->pd'.size+1=pd.size->Rn rk (arrOf st') (sk pd') lo->(∀t,lo<=t->Kr rk (arrOf st') t=Kr rk (arrOf st) t)->Q true st'):wpS (model prog w) A E s (mergeAt' i) Q st:=by
 obtain⟨⟨sa,na,pw⟩,e1⟩:∃r,pd[i]? = some r:=⟨pd[i],getElem?_pos pd i (by omega)⟩
 obtain⟨⟨sb,nb,pw'⟩,e2⟩:∃r,pd[i+1]? = some r:=⟨pd[i+1],getElem?_pos pd (i+1) hi⟩
 have d1:pd.toList=pd.toList.take i++(sa,na,pw)::(sb,nb,pw')::pd.toList.drop (i+2):=by
  have hl:i<pd.toList.length:=by simp;omega
  have hl2:i+1<pd.toList.length:=by simpa using hi
  have g1:pd.toList[i]=(sa,na,pw):=by rw[getElem?_pos pd i (by omega)]at e1;simpa using e1
  have g2:pd.toList[i+1]=(sb,nb,pw'):=by rw[getElem?_pos pd (i+1) hi]at e2;simpa using e2
  have:=bs4 i pd.toList
  rw[bB5 hl,bB5 hl2,g1,g2]at this;exact this.symm
 have li:(pd.toList.take i).length=i:=by simp;omega
 have d2:((pd.setIfInBounds i (sa,na+nb,pw)).eraseIdxIfInBounds (i+1)).toList=pd.toList.take i++(sa,na+nb,pw)::pd.toList.drop (i+2):=by
  have e:((pd.setIfInBounds i (sa,na+nb,pw)).eraseIdxIfInBounds (i+1)).toList=(pd.toList.set i (sa,na+nb,pw)).eraseIdx (i+1):=by
   unfold Array.eraseIdxIfInBounds;rw[dif_pos (by rw[Array.size_setIfInBounds];exact hi),Array.toList_eraseIdx,Array.toList_setIfInBounds]
  rw[e]
  conv=>lhs;rw[d1]
  rw[List.set_append_right _ _ (by omega),li,Nat.sub_self,List.set_cons_zero,List.eraseIdx_append_of_length_le (by omega),li,show i+1-i=1 by omega];rfl
 have k1:sk pd=(pd.toList.take i).map (λr=>(r.1,r.2.1))++(sa,na)::(sb,nb)::(pd.toList.drop (i+2)).map (λr=>(r.1,r.2.1)):=by
  unfold sk;conv=>lhs;rw[d1]
  simp
 have k2:sk ((pd.setIfInBounds i (sa,na+nb,pw)).eraseIdxIfInBounds (i+1))=(pd.toList.take i).map (λr=>(r.1,r.2.1))++(sa,na+nb)::(pd.toList.drop (i+2)).map (λr=>(r.1,r.2.1)):=by
  unfold sk;rw[d2];simp
 have ch:=rn.ch;rw[k1]at ch
 obtain⟨m,c1,c2⟩:=ch.split
 obtain⟨f1,f2,f3,f4,f5⟩:=c2
 have f1:sa=m:=f1;have f3:sb=m+na:=f3;have up:=rn.up;rw[k1]at up;have lo2:=f5.len;refine aL8 c o b e1 e2 (by omega) f2 f4 (by omega) (by have:=up (sa,na) (by simp);rw[f3,<- f1];exact this) (up (sb,nb) (by simp)) λst' b' u' fr=>h _ st' b' ?_ ⟨?_,?_⟩ λt ht=>fr t (by omega)
 ·rw[<- sQ,<- sQ,k1,k2];simp;omega
 ·rw[k2]
  refine c1.join ⟨f1,by omega,?_⟩;rw[<- Nat.add_assoc];exact f5
 ·intro r hr
  rw[k2]at hr;rcases bs0.mp hr with z|z
  ·intro p q h1 h2 h3
   have:=(c1.mem z).2.1
   rw[fr p (by omega),fr q (by omega)];exact up r (bt4 _ z) p q h1 h2 h3
  ·rcases bp1.mp z with z|z
   ·subst z
    show Up rk (arrOf st') sa (sa+(na+nb));rw[show sa+(na+nb)=sb+nb by omega];exact u'
   ·intro p q h1 h2 h3
    have:=(f5.mem z).1
    rw[fr p (by omega),fr q (by omega)];exact up r (bs8 _ (bp0 _ (bp0 _ z))) p q h1 h2 h3
noncomputable abbrev RS:=Option Unit×Nat
noncomputable def T3 (sz pw:Nat):StateT SortSt Sem (Option Unit×Unit):=forIn [0:sz] ((none,()):Option Unit×Unit) λ_ _=>do
 let z <- get
 match (if (pendingOf z).size>1 then (pendingOf z)[(pendingOf z).size-2]? else none) with
 |some (_,_,o)=>if o<=pw then pure (.done (none,())) else do
   let q <- mergeAt' ((pendingOf z).size-2)
   if (!q)=true then pure (.done (some (),())) else pure (.yield (none,()))
 |_=>pure (.done (none,()))
noncomputable def jn (sz lo n:Nat):StateT SortSt Sem (ForInStep RS):=do
 let z <- get
 match (pendingOf z).back? with
 |some (s1,n1,_)=>do
  let r <- T3 sz (power' sz (2*s1+n1) (2*s1+n1+n1+n) sz)
  match r.1 with
  |some u=>pure (.done (some u,lo))
  |none=>do
   modify λs=>setPending s ((pendingOf s).modify ((pendingOf s).size-1) λx=>(x.1,x.2.1,power' sz (2*s1+n1) (2*s1+n1+n1+n) sz))
   modify λs=>setPending s ((pendingOf s).push (lo,n,0))
   pure (.yield (none,lo+n))
 |_=>do
  modify λs=>setPending s ((pendingOf s).push (lo,n,0))
  pure (.yield (none,lo+n))
noncomputable def T4 (sz mr lo:Nat):StateT SortSt Sem (ForInStep RS):=if lo >= sz then pure (.done (none,lo)) else do
 match <- countRun' lo (sz-lo) with
 |some n=>
  if n<mr then
   liftM (rule "list.sort.binary-insertion")
   let q <- binarySort' lo (min (sz-lo) mr) n
   if (!q)=true then pure (.done (some (),lo)) else jn sz lo (min (sz-lo) mr)
  else jn sz lo n
 |_=>pure (.done (some (),lo))
noncomputable def T5 (sz:Nat):StateT SortSt Sem (Option Unit×Unit):=forIn [0:sz] ((none,()):Option Unit×Unit) λ_ _=>do
 let z <- get
 if (pendingOf z).size<=1 then pure (.done (none,())) else do
  let q <- mergeAt' (if ((if (pendingOf z).size-2>0 then (pendingOf z)[(pendingOf z).size-2-1]?.map (·.2.1) else none).any (·<((pendingOf z)[(pendingOf z).size-2+1]?.elim 0 (·.2.1))))=true then (pendingOf z).size-2-1 else (pendingOf z).size-2)
  if (!q)=true then pure (.done (some (),())) else pure (.yield (none,()))
theorem aL9:sortRuns'=(do
 let z <- get
 let r <- (forIn [0:(arrOf z).size] ((none,0):RS) λ_ r=>T4 (arrOf z).size (minRun' (arrOf z).size (arrOf z).size 0) r.2)
 match r.1 with
 |some u=>pure u
 |none=>do
  let q <- T5 (arrOf z).size
  match q.1 with
  |some u=>pure u
  |none=>pure ()):=by kernel_rfl
theorem T6 {lo nn:Nat}(n1:0<nn){pd:Array (Nat×Nat×Nat)}{a:Array Keyed}(r:Rn rk a (sk pd) lo)(u:Up rk a lo (lo+nn)):Rn rk a (sk (pd.push (lo,nn,0))) (lo+nn):=by
 have e:sk (pd.push (lo,nn,0))=sk pd++[(lo,nn)]:=by simp[sk]
 refine⟨by rw[e];exact r.ch.join ⟨rfl,n1,rfl⟩,λq hq=>?_⟩;rw[e]at hq;rcases bs0.mp hq with z|z
 ·exact r.up q z
 ·rw[bp2]at z
  subst z;exact u
theorem T7 (c:cP prog w A E s κ Ok rk)(o:bM Ok a0)(b:SB κ a0 pd st){lo n:Nat}{Q:ForInStep RS->SortSt->Prop}(n1:1<=n)(n2:lo+n<=a0.size)(rn:Rn rk (arrOf st) (sk pd) lo)(u:Up rk (arrOf st) lo (lo+n))(h:∀pd' st',SB κ a0 pd' st'->Rn rk (arrOf st') (sk pd') (lo+n)->Q (.yield (none,lo+n)) st'):wpS (model prog w) A E s (jn a0.size lo n) Q st:=by
 unfold jn;refine bq2 (wpS_get ?_);rw[b.pd];cases hb:pd.back? with
 |none=>exact bq2 (wpS_modify (bq9 (h (pd.push (lo,n,0)) _ ⟨b.pm,b.kd,b.ok,by show (pendingOf st).push _=_;rw[b.pd]⟩ (T6 n1 rn u))))
 |some q=>
  obtain⟨s1,m1,q3⟩:=q
  dsimp only;generalize power' a0.size (2*s1+m1) (2*s1+m1+m1+n) a0.size=pw;unfold T3
  refine bq2 (bG3 (bz6
   (I:=λ_ r st'=>r=(none,())/\∃pd,SB κ a0 pd st'/\Rn rk (arrOf st') (sk pd) lo/\Up rk (arrOf st') lo (lo+n))
   (Q:=λr st'=>r=(none,())/\∃pd,SB κ a0 pd st'/\Rn rk (arrOf st') (sk pd) lo/\Up rk (arrOf st') lo (lo+n)) ?_ (λ_ _ z=>z) ⟨rfl,pd,b,rn,u⟩) ?_)
  ·rintro t r st4 _ ht ⟨rfl,pd4,b4,r4,u4⟩
   refine bq2 (wpS_get ?_);rw[b4.pd];cases ho:(if pd4.size>1 then pd4[pd4.size-2]? else none) with
   |none=>exact bq9 ⟨rfl,pd4,b4,r4,u4⟩
   |some z=>
    obtain⟨z1,z2,z3⟩:=z
    have h1:pd4.size>1:=by
     by_cases y:pd4.size>1
     ·exact y
     ·rw[if_neg y]at ho;cases ho
    dsimp only;by_cases hp:z3<=pw
    ·rw[if_pos hp]
     exact bq9 ⟨rfl,pd4,b4,r4,u4⟩
    ·rw[if_neg hp]
     refine bq2 (T2 c o b4 (by omega) (by omega) r4 λpd5 st5 b5 _ r5 f5=>?_);exact bq9 ⟨rfl,pd5,b5,r5,λi j hi hij hj=>by rw[f5 i hi,f5 j (by omega)];exact u4 i j hi hij hj⟩
  ·rintro r st4 ⟨rfl,pd4,b4,r4,u4⟩
   refine bq2 (wpS_modify (bq2 (wpS_modify (bq9 ?_))));have e:sk (pd4.modify (pd4.size-1) λx=>(x.1,x.2.1,pw))=sk pd4:=by
    unfold sk;rw[Array.toList_modify];apply List.ext_getElem?;intro t;rw[bq6,bq6,List.getElem?_modify];cases pd4.toList[t]? with
    |none=>simp
    |some v=>by_cases y:pd4.size-1=t<;>simp[y]
   refine h ((pd4.modify (pd4.size-1) λx=>(x.1,x.2.1,pw)).push (lo,n,0)) _ ⟨b4.pm,b4.kd,b4.ok,?_⟩ (T6 n1 (by rw[e];exact r4) u4);show ((pendingOf st4).modify ((pendingOf st4).size-1) λx=>(x.1,x.2.1,pw)).push _=_;rw[b4.pd]
theorem aM0 (c:cP prog w A E s κ Ok rk)(o:bM Ok a0)(b:SB κ a0 #[] st){Q:Unit->SortSt->Prop}(h2:1<=a0.size)(h:∀st',(arrOf st').Perm a0->failedOf st'=none->Up rk (arrOf st') 0 a0.size->Q () st'):wpS (model prog w) A E s sortRuns' Q st:=by
 rw[aL9];refine bq2 (wpS_get ?_);rw[b.sz];generalize minRun' a0.size a0.size 0=mr
 refine bq2 (bG3 (bz6
  (I:=λx r st'=>∃lo pd,r=(none,lo)/\x<=lo/\lo<=a0.size/\SB κ a0 pd st'/\Rn rk (arrOf st') (sk pd) lo)
  (Q:=λr st'=>∃pd,r=(none,a0.size)/\SB κ a0 pd st'/\Rn rk (arrOf st') (sk pd) a0.size) ?_ ?_ ⟨0,#[],rfl,bp7 _,bt5 _,b,⟨rfl,λr hr=>absurd hr (by simp[sk])⟩⟩) ?_)
 ·rintro x r st1 _ hx ⟨lo,pd,rfl,xl,lz,b1,rn⟩
  unfold T4;dsimp only;by_cases hd:lo >= a0.size
  ·rw[if_pos hd]
   have e:lo=a0.size:=by omega
   subst e;exact bq9 ⟨pd,rfl,b1,rn⟩
  ·rw[if_neg hd]
   refine bq2 (aK3 c o b1 (by omega) (by omega) λn st2 b2 n1 n2 u2 l2=>?_);have rn2:=rn.same l2;dsimp only;by_cases hmr:n<mr
   ·rw[if_pos hmr]
    refine bq2 (wpS_lift (bF3 ⟨rfl,?_⟩));refine bq2 (aK4 c o b2 (by omega) (by omega) u2 λst3 b3 u3 l3=>?_);rw[if_neg (by decide)];exact T7 c o b3 (by omega) (by omega) (rn2.same l3) u3 λpd' st' b' r'=>⟨_,pd',rfl,by omega,by omega,b',r'⟩
   ·rw[if_neg hmr]
    exact T7 c o b2 n1 (by omega) rn2 u2 λpd' st' b' r'=>⟨lo+n,pd',rfl,by omega,by omega,b',r'⟩
 ·rintro r st1 ⟨lo,pd,rfl,xl,lz,b1,rn⟩
  have e:lo=a0.size:=by omega
  subst e
  exact⟨pd,rfl,b1,rn⟩
 ·rintro r st1 ⟨pd,rfl,b1,rn⟩
  dsimp only;unfold T5
  refine bq2 (bG3 (bz6
   (I:=λt r st'=>r=(none,())/\∃pd,SB κ a0 pd st'/\Rn rk (arrOf st') (sk pd) a0.size/\(pd.size+t<=a0.size∨pd.size<=1))
   (Q:=λr st'=>r=(none,())/\∃pd,SB κ a0 pd st'/\Rn rk (arrOf st') (sk pd) a0.size/\pd.size<=1) ?_ ?_ ⟨rfl,pd,b1,rn,.inl (by have:=rn.ch.len;rw[sQ]at this;omega)⟩) ?_)
  ·rintro t r st2 _ ht ⟨rfl,pd,b2,rn2,pr⟩
   refine bq2 (wpS_get ?_);rw[b2.pd];by_cases h1:pd.size<=1
   ·rw[if_pos h1]
    exact bq9 ⟨rfl,pd,b2,rn2,h1⟩
   ·rw[if_neg h1]
    refine bq2 (T2 c o b2 ?_ (bp7 _) rn2 λpd' st3 b3 sz3 rn3 _=>?_)
    ·split<;>split<;>omega
    ·exact bq9 ⟨rfl,pd',b3,rn3,by omega⟩
  ·rintro r st2 ⟨rfl,pd,b2,rn2,pr⟩
   exact⟨rfl,pd,b2,rn2,by omega⟩
  ·rintro r st2 ⟨rfl,pd,b2,rn2,pr⟩
   refine bq9 (h st2 b2.pm b2.ok ?_);have ch:=rn2.ch;have up:=rn2.up;rw[<- sQ]at pr;cases e:sk pd with
   |nil=>rw[e]at ch;exact absurd (show 0=a0.size from ch) (by omega)
   |cons r l=>
    rw[e]at ch up pr;have el:l = []:=List.eq_nil_of_length_eq_zero (by have:=pr;rw[bs9]at this;omega);subst el
    obtain⟨p,n⟩:=r
    obtain⟨q1,q2,q3⟩:=ch
    have q1:p=0:=q1;have q3:0+n=a0.size:=q3;subst q1
    have:=up (0,n) (by simp)
    rw[<- q3];exact this
end SO
namespace L2
open PySem PySem.Spec PyProof.Rows SO
noncomputable abbrev eW (h:Heap)(a:ay)(vs:List av):Heap:=((h.update a (Obj.mapSeq λ_=>#[])).push (seqObj "tuple" vs.toArray 0)).push (seqObj "list" #[] 0)
theorem T8 {h:Heap}{vs:List av}{a b:ay}{o:Obj}(hb:b≠a)(e:h.get? b=some o):(eW h a vs).get? b=some o:=by
 refine bo4 _ (bo4 _ ?_);rw[Heap.get?_update_ne _ _ _ _ hb];exact e
theorem T9 {prog:az}{w:bc}{A:ba}{E:av->ax->Prop}{s:ax}{a:ay}{vs:List av}{n:Nat}{P:PySem.Fin->ax->Prop}{κ:SortKind}{Ok:Keyed->Prop}{rk:Keyed->Int}(e:s.heap.get? a=some (seqObj "list" vs.toArray n))(h2:2<=vs.length)(big:vs.length<=sizeLine)(hk:∀Q:SortKind->ax->Prop,Q κ { s with heap:=eW s.heap a vs }->wpAny (model prog w) A (keyKind' vs.toArray) Q E { s with heap:=eW s.heap a vs })(c:cP prog w A E { s with heap:=eW s.heap a vs } κ Ok rk)(o:∀v∈vs,Ok (v,v))(q:∀out:List av,out.Perm vs->out.Pairwise (λu v=>rk (u,u)<=rk (v,v))->P (.done (.ret .none)) { s with heap:=sortedHeap s.heap a vs out.toArray }):wpAny (model prog w) A (Builtin.«list.sort» ⟨[.ref a],[]⟩) P E s:=by
 have la:=bp9 e;have cc:¬vs.toArray.size<2:=by simpa using h2
 obtain⟨k,ek⟩:∃k,(s.heap.update a (Obj.mapSeq λ_=>#[])).get? a=some (seqObj "list" #[] k):=⟨_,get?_update_seq e λ_=>#[]⟩
 have there:(eW s.heap a vs).get? a=some (seqObj "list" #[] k):=bo4 _ (bo4 _ ek);rw[list_sort_plain];apply bo2;apply listItems_at e rfl;apply bo2;refine listUpdate_at e rfl ?_ (by simpa using big) (bt5 _);apply bo2;apply seqEpoch_at ek rfl;apply bo2;refine wpAny_newTuple ?_ big;apply bo2;refine wpAny_newList ?_ (bt5 _);apply bv9;simp only[cc,bu2];apply bo2;refine hk _ ?_;have zl:(vs.toArray.zip vs.toArray).toList=vs.zip vs:=by simp
 apply bo2;refine bx4 (aM0 (a0:=vs.toArray.zip vs.toArray) (Q:=λ_ st'=>(arrOf st').Perm (vs.toArray.zip vs.toArray)/\failedOf st'=none/\Up rk (arrOf st') 0 (vs.toArray.zip vs.toArray).size) c (λx hx=>?_) ⟨Array.Perm.refl _,rfl,rfl,rfl⟩ (by simp;omega) λst' a1 a2 a3=>⟨a1,a2,a3⟩) ?_ λ_ _ z=>z
 ·have hx':x∈vs.zip vs:=by rw[<- zl];exact Array.mem_toList_iff.mpr hx
  obtain⟨y1,y2⟩:=mem_zip_self hx'
  have:=o x.1 y2
  have ex:x=(x.1,x.1):=bC8 rfl y1.symm;rw[ex];exact this
 ·rintro⟨⟨⟩,st'⟩ s' ⟨rfl,pm,ok,up⟩
  have lp:(arrOf st').toList.Perm (vs.zip vs):=by rw[<- zl];exact Array.perm_iff_toList_perm.mp pm
  have out:(arrOf st').map (·.2)=((arrOf st').toList.map (·.2)).toArray:=by apply Array.toList_inj.mp;rw[Array.toList_map]
  have op:((arrOf st').toList.map (·.2)).Perm vs:=by
   have:=lp.map (·.2)
   rw[vP]at this;exact this
  have sz:(arrOf st').size=vs.length:=by rw[pm.size_eq];simp
  dsimp only;apply bo2;apply seqEpoch_at there rfl;apply bo2;refine listUpdate_at there rfl ?_ (bt5 _) (by rw[Array.size_map,sz];exact Nat.le_succ_of_le big);rw[ok];simp only[bne_self_eq_false,bq3,bu2];refine bo5 ?_;have hq:=q _ op ?_
  ·rw[<- out]at hq;exact hq
  ·rw[bu7,bv3]
   intro i j hi hj hij;have hi':i<(arrOf st').size:=by simpa using hi
   have hj':j<(arrOf st').size:=by simpa using hj
   have h1:=up i j (bt5 _) (by8 hij) (by simp;omega);rw[cE hi',cE hj']at h1;have dg:∀x∈(arrOf st').toList,(x.2,x.2)=x:=λx hx=>bC8 (mem_zip_self (lp.mem_iff.mp hx)).1.symm rfl
   rw[dg _ (by0 hi),dg _ (by0 hj)];simpa using h1
noncomputable def sR (h:Heap)(B:Int)(x:Keyed):Int:=match x.1 with
 |.ref b=>match h.get? b with
  |some ob=>match ob.data with
   |.seq us _=>numOf (us.getD 0 .none)*B+numOf (us.getD 1 .none)
   |_=>0
  |none=>0
 |_=>0
structure fM (h:Heap)(M:Int)(v:av)(p q:Int):Prop where
 at_:∃b ob us n,v = .ref b/\h.get? b=some ob/\ob.cls = .type "tuple"/\ob.data = .seq (List.toArray us) n/\IntsAre us [p,q]
 lo:-M<=q
 hi:q<=M
theorem fM.rk {h:Heap}{M B:Int}{x:Keyed}{p q:Int}(z:fM h M x.1 p q):sR h B x=p*B+q:=by
 obtain⟨b,ob,us,n,e1,e2,_,e4,e5⟩:=z.at_
 cases e5 with
 |cons _ t e6=>cases e6 with
  |cons _ u e7=>cases e7;unfold sR;rw[e1];dsimp only;rw[e2];dsimp only;rw[e4];rfl
theorem U0 {p q p' q' M:Int}(h1:-M<=q)(h2:q<=M)(h3:-M<=q')(h4:q'<=M):HT.aH [p,q] [p',q']=decide (p*(2*M+1)+q<p'*(2*M+1)+q'):=by
 rw[HT.fX];have mm:∀{a b:Int},a<b->a*(2*M+1)+(2*M+1)<=b*(2*M+1):=λ{a b} z=>by
  have:=Int.mul_le_mul_of_nonneg_right (show a+1<=b by omega) (show 0<=2*M+1 by omega)
  rw[Int.add_mul,Int.one_mul]at this;exact this
 by_cases e:p=p'
 ·subst e
  rw[if_pos rfl,HT.fX];by_cases e2:q=q'
  ·subst e2
   rw[if_pos rfl,HT.oH,bp6 (by omega)]
  ·rw[if_neg e2]
   by_cases l:q<q'
   ·rw[bp8 l,bp8 (by omega)]
   ·rw[bp6 l,bp6 (by omega)]
 ·rw[if_neg e]
  by_cases l:p<p'
  ·have:=mm l
   rw[bp8 l,bp8 (by omega)]
  ·have:=mm (show p'<p by omega)
   rw[bp6 l,bp6 (by omega)]
theorem aM1 {prog:az}{w:bc}{A:ba}{E:av->ax->Prop}{s:ax}{M:Int}:cP prog w A E s (tuples' true) (λx=>∃p q,fM s.heap M x.1 p q) (sR s.heap (2*M+1)):=by
 rintro x y ⟨p,q,z⟩ ⟨p',q',z'⟩ st Q hk hq;rw[z.rk,z'.rk]at hq;rw[<- U0 z.lo z.hi z'.lo z'.hi]at hq
 obtain⟨b,ob,us,n,e1,e2,e3,e4,e5⟩:=z.at_
 obtain⟨b',ob',us',n',e1',e2',e3',e4',e5'⟩:=z'.at_
 rw[lt'_eq];refine bq2 (wpS_get ?_);rw[hk,e1,e1'];refine bq2 (wpS_lift (bC6 (PySem.W.kat_lt e2 e4 e2' e4' ?_)))
 have:=oP (prog:=prog) (w:=w) (A:=A) (s:=s) (Q:=λa s'=>s'=s/\wpS (model prog w) A E s (pure (some a)) Q st) 0 e5 e5' ⟨rfl,bq9 hq⟩
 simpa using this
theorem U1 {α:Type}(f:α->Int):∀l:List α,∃M:Int,∀y∈l,-M<=f y/\f y<=M
 |[]=>⟨0,λ_ h=>nomatch h⟩
 |x::l=>by
  obtain⟨M,h⟩:=U1 f l
  refine⟨max M (max (f x) (- f x)),λy hy=>?_⟩;rcases bp1.mp hy with e|e
  ·subst e;omega
  ·have:=h y e;omega
end L2
namespace L2
open PySem PySem.Spec PyProof.Rows
theorem bN.at {P:az}{w:bc}{H:Hp}{h:Heap}{a:ay}{o:HO}(x:bN P w H h a o):∃ob,h.get? a=some ob:=by
 cases o with
 |lst xs=>obtain⟨_,_,_,_,e⟩:=x;exact⟨_,e⟩
 |tup xs=>obtain⟨_,_,_,⟨_,e,_⟩,_⟩:=x;exact⟨_,e⟩
 |dK kvs=>obtain⟨_,_,_,_,_,_,_,e,_⟩:=x;exact⟨_,e⟩
 |dT kvs=>obtain⟨_,_,_,_,_,_,_,e,_⟩:=x;exact⟨_,e⟩
 |set S n=>obtain⟨_,_,_,_,e,_⟩:=x;exact⟨_,e⟩
 |ins C dx fs=>obtain⟨_,_,_,e,_⟩:=x;exact⟨_,e⟩
 |own y=>exact x
 |xd fs=>obtain⟨_,⟨_,_,_,e,_⟩,_⟩:=x;exact⟨_,e⟩
 |rng lo hi=>obtain⟨_,_,_,e⟩:=x;exact⟨_,e⟩
 |frz ob u=>obtain⟨e,_⟩:=x;exact⟨_,e⟩
 |tbl ps=>exact⟨_,x⟩
 |met f y=>exact⟨_,x⟩
 |ext φ=>exact x.2.1
structure xG (P:az)(w:bc)(outer:List Env)(H:Hp)(s:ax)(H':Hp)(B:Heap)(a C:ay)(s':ax):Prop where
 os:s'.os=s.os
 bare:AllBare s'.gens
 un:Un (cC outer) [] H H' s.heap s'.heap
 hok:bW P w H' s'.heap
 fly:∃a0,Heap.FlyingW B outer a (.ref C) a0 s'.heap
 b0:∀b o,s.heap.get? b=some o->b∉cC outer->∃o',B.get? b=some o'
 b1:∀b o,s.heap.get? b=some o->H b=none->b∉cC outer->B.get? b=some o
 b2:∀b u o,H' b=some u->s'.heap.get? b=some o->B.get? b=some o
noncomputable def eY (P:az)(w:bc):gX:=λouter H s E e s'=>∃(H':Hp) (B:Heap) (a C:ay),e = .ref a/\xG P w outer H s H' B a C s'/\E (.ref C) none H'
section
variable {P:az}{w:bc}{outer:List Env}{H H':Hp}{s s':ax}{B h2:Heap}{a C:ay}
theorem xG.hok2 (f:xG P w outer H s H' B a C s')(k:B.StaysIn h2):bW P w H' h2:=λb u e=>
 (f.hok b u e).stay (λc v hc q=>by
  rcases hc with z|z
  ·subst z;exact k _ _ (f.b2 _ _ _ e q)
  ·exact k _ _ (f.b2 _ _ _ z q)) (λ_ q=>q) λ_ _ q=>q
end
section
variable {P:az}{w:bc}{K:ac}{mg:Str→Option av}{base:Heap}{N:List Str}{qual:Str}{scope:Scope}{f:ay}{cd:av}{A:ba}{outer:List Env}{s₀:ax}{H₀:Hp}{E₀ E₁:XK}
theorem sS {ag:List (ay×Obj)}{σ:St}{H:Hp}{s:ax}(I:a8 (dH (eY P w) P w K mg base N qual scope f cd A outer s₀ H₀ E₀) ag σ H s){b:ay}{o:Obj}(e:s₀.heap.get? b=some o)(n:b∉cC outer) :
  b∉cC (envOfC qual scope s₀.heap.objs.size f cd::outer):=λz=>by
 rcases bp1.mp (I.stkSub b z) with y|y
 ·have l:=bp9 e
  have y:b=s₀.heap.objs.size:=y;exact absurd l (by rw[y];exact bu6 _)
 ·exact n y
theorem aM2 (hE:∀c d H',E₁ c d H'->E₀ c d H'):oG (eY P w) (dH (eY P w) P w K mg base N qual scope f cd A outer s₀ H₀ E₀) E₁:=by
 intro ag σ H s e s' I hx
 obtain⟨H',B,a,C,e1,fl,q⟩:=hx
 subst e1;have I':=I.call' fl.os fl.un fl.hok fl.bare (ch:=[]) (λb z=>absurd z (by simp))
 obtain⟨a0,fly⟩:=fl.fly
 refine wpAny_leaves_onW I.ok.frames rfl fly λh' fly' up=>?_
 have slot:∀b o,s₀.heap.get? b=some o->b∈cC outer->∃sl,h'.get? b=some { o with slots:=sl }:=λb o e hb=>by
  obtain⟨sl,e1⟩:=I'.base.slot b o e (I.ok.frf b hb) hb (λz=>nomatch z)
  obtain⟨_,o2,e2,nf⟩:=I.ok.funs.mem hb
  rw[show (dH (eY P w) P w K mg base N qual scope f cd A outer s₀ H₀ E₀).s₀=s₀ from rfl,e]at e2;cases e2
  obtain⟨sl',e3⟩:=up b _ e1 nf
  exact⟨sl',e3⟩
 have old:∀b o,s₀.heap.get? b=some o->H₀ b=none->b∉cC outer->B.get? b=some o:=λb o e n hb=>
  fl.b1 b o (I.base.keep b o e n hb (λz=>nomatch z)) (I.base.free b o e n (λz=>nomatch z)) (sS I e hb)
 have old0:∀b o,s₀.heap.get? b=some o->b∉cC outer->∃o',B.get? b=some o':=λb o e hb=>by
  obtain⟨o1,e1⟩:=I.base.there b o e (λz=>nomatch z)
  exact fl.b0 b o1 e1 (sS I e hb)
 refine⟨H',B,a,C,rfl,⟨I'.os,I'.bare,⟨λb o e n hb _=>fly'.1 _ _ (old b o e n hb),λb o e n hb _=>slot b o e hb,λb o e n hx=>I'.base.free b o e n hx,λb o e _=>?_,I'.base.tups,I'.base.frzs,I'.base.tbls⟩,fl.hok2 fly'.1,⟨a0,fly'⟩,old0,old,λb u o e h=>?_⟩,hE _ _ _ q⟩
 ·by_cases hb:b∈cC outer
  ·obtain⟨sl,e1⟩:=slot b o e hb
   exact⟨_,e1⟩
  ·obtain⟨o',e1⟩:=old0 b o e hb
   exact⟨o',fly'.1 _ _ e1⟩
 ·obtain⟨ob,e1⟩:=(fl.hok b u e).at
  have e2:=fl.b2 b u ob e e1;have e3:=fly'.1 _ _ e2;have h:h'.get? b=some o:=h;rw[h]at e3;cases e3;exact e2
theorem aM3 {ag:List (ay×Obj)}{σ:St}{H:Hp}{s:ax}{h':Heap}{e C:ay}{args:List av}(I:a8 (dH (eY P w) P w K mg base N qual scope f cd A outer s₀ H₀ E₀) ag σ H s)(mx:Heap.MadeExcOf s.heap h' e (.ref C) args)(q:E₀ (.ref C) none H) :
  (dH (eY P w) P w K mg base N qual scope f cd A outer s₀ H₀ E₀).xe (.ref e) { s with heap:=h' }:=by
 have tr:∀b u,H b=some u->b∉cC (envOfC qual scope s₀.heap.objs.size f cd::outer):=λb u z n=>by
  rw[I.stkFree b n]at z;cases z
 have inB:∀b o,s.heap.get? b=some o->b∉cC (envOfC qual scope s₀.heap.objs.size f cd::outer)->(PySem.W.hideAll s.heap (cC (envOfC qual scope s₀.heap.objs.size f cd::outer))).get? b=some o:=λb o z n=>PySem.W.hideAll_get _ z n
 refine wpAny_leaves_madeW (base:=PySem.W.hideAll s.heap (cC (envOfC qual scope s₀.heap.objs.size f cd::outer))) I.ok.frames rfl (λb o z=>PySem.W.of_hideAll _ z) (PySem.W.funFrames_hide I.stack λenv he b hb=>bD6.mpr ⟨env,he,hb⟩) mx λh'' t fly _ _ up=>?_
 have slot:∀b o,s₀.heap.get? b=some o->b∈cC outer->∃sl,h''.get? b=some { o with slots:=sl }:=λb o e hb=>by
  obtain⟨sl,e1⟩:=I.base.slot b o e (I.ok.frf b hb) hb (λz=>nomatch z)
  obtain⟨_,o2,e2,nf⟩:=I.ok.funs.mem hb
  rw[show (dH (eY P w) P w K mg base N qual scope f cd A outer s₀ H₀ E₀).s₀=s₀ from rfl,e]at e2;cases e2
  obtain⟨sl',e3⟩:=up b _ (mx.keeps _ _ e1) nf
  exact⟨sl',e3⟩
 have old:∀b o,s₀.heap.get? b=some o->H₀ b=none->b∉cC outer->(PySem.W.hideAll s.heap (cC (envOfC qual scope s₀.heap.objs.size f cd::outer))).get? b=some o:=λb o e n hb=>
  inB b o (I.base.keep b o e n hb (λz=>nomatch z)) (sS I e hb)
 have old0:∀b o,s₀.heap.get? b=some o->b∉cC outer->∃o',(PySem.W.hideAll s.heap (cC (envOfC qual scope s₀.heap.objs.size f cd::outer))).get? b=some o':=λb o e hb=>by
  obtain⟨o1,e1⟩:=I.base.there b o e (λz=>nomatch z)
  exact⟨o1,inB b o1 e1 (sS I e hb)⟩
 refine⟨H,_,e,C,rfl,⟨I.os,I.bare,⟨λb o e n hb _=>fly.1 _ _ (old b o e n hb),λb o e n hb _=>slot b o e hb,λb o e n hx=>I.base.free b o e n hx,λb o e _=>?_,I.base.tups,I.base.frzs,I.base.tbls⟩,λb u z=>?_,⟨_,fly⟩,old0,old,λb u o z h=>?_⟩,q⟩
 ·by_cases hb:b∈cC outer
  ·obtain⟨sl,e1⟩:=slot b o e hb
   exact⟨_,e1⟩
  ·obtain⟨o',e1⟩:=old0 b o e hb
   exact⟨o',fly.1 _ _ e1⟩
 ·refine (I.hok b u z).stay (λc v hc y=>?_) (λ_ y=>y) λ_ _ y=>y
  rcases hc with z'|z'
  ·subst z';exact fly.1 _ _ (inB _ _ y (tr _ _ z))
  ·exact fly.1 _ _ (inB _ _ y (tr _ _ z'))
 ·obtain⟨ob,e1⟩:=(I.hok b u z).at
  have e2:=inB b ob e1 (tr b u z);have e3:=fly.1 _ _ e2;have h:h''.get? b=some o:=h;rw[h]at e3;cases e3;exact e2
end
structure nL (X:Cx)(E:XK):Prop where
 pass:oG (eY X.prog X.w) X E
 made:∀(ag:List (ay×Obj)) (σ:St) (H:Hp) (s:ax) (h':Heap) (e C:ay) (args:List av),a8 X ag σ H s->Heap.MadeExcOf s.heap h' e (.ref C) args->E (.ref C) none H->X.xe (.ref e) { s with heap:=h' }
 own:PassesOwn (model X.prog X.w) X.A X.env X.xe
theorem aM4 {P:az}{w:bc}{K:ac}{mg:Str->Option av}{base:Heap}{N:List Str}{qual:Str}{scope:Scope}{f:ay}{cd:av}{A:ba}{outer:List Env}{s₀:ax}{H₀:Hp}{E₀ E₁:XK}(hE:∀c d H',E₁ c d H'->E₀ c d H') :
  nL (dH (eY P w) P w K mg base N qual scope f cd A outer s₀ H₀ E₀) E₁:=
 ⟨aM2 hE,λ_ _ _ _ _ _ _ _ I mx q=>aM3 I mx (hE _ _ _ q),PassesOwn.leaving⟩
noncomputable def U2 (E:XK)(C:ay)(t:TA):TS:=λ_ σ H=>t σ H λvs H1=>vs.length<=sizeLine/\E (.ref C) none H1
theorem aM5 {X:Cx}{E:XK}{x:Str}{C:ay}{bm:List av}{B newId initId:String}{np ai pos:Pos}{e:Expr}{es:List Expr}{t:TA}(hX:nL X E)(hc:X.calm=true)(O:OwnCls x C bm newId X.mg X.base)(FB:ExcBaseFacts B newId initId bm)(ha:PA X (e::es) t)(hg:Gl X x)(hd:(x==("__debug__":Str))=false:=by decide)(he:starEach (e::es) X.env=(false,eval e X.env)::starEach es X.env:=by rfl)(hpl:(backTo ai (starEach es X.env)).any (·.1)=false:=by rfl) :
  PS X (.Raise (some (.Call (.Name x np) (e::es) [] ai)) none pos) (U2 E C t):=by
 intro ag s σ H D I h
 obtain⟨tl,Na,nm,qn,bs,hx,sn,sub,ab,col,dd,k0,k1,k2,k3,k5,mN,hC,hN,hni,T⟩:=O.obj
 refine wpAny_Raise_call_subT (nm:=nm) (q:=qn) (N:=Na) (bs:=bs) (bm:=tl) (hdct:=hx) (sn:=sn) (sub:=sub) (ab:=ab) (col:=col) (dd:=dd) (k0:=k0) (k1:=k1) (k2:=k2) (k3:=k3) (k5:=k5) FB (C:=C) (mN:=mN) (T.hasType FB.hasBase) (I.ok.hd hc) (by rw[he];show (false||(backTo ai (starEach es X.env)).any (·.1))=false;rw[hpl];rfl) hni (uI I hg O.bound ⟨rfl,?_⟩ hd);have h1:=ha ai ag s σ H _ I h;rw[he]at h1 ⊢;refine Calls.evalArgs_plain (bx4 h1 (λus s2 h2=>?_) λ_ _ y=>y)
 obtain⟨vs,H2,I2,r,hl,q⟩:=h2
 have r:aL vs us:=r
 exact⟨rfl,by show us.length<=sizeLine;rw[<- r.length];exact hl,I2.bk _ _ hC,hN.keeps I2.bk,T.keeps I2.bk,λh' e' mx=>hX.made ag σ H2 s2 h' e' C _ I2 mx q⟩
theorem gJ.okX {P:az}{w:bc}{K:ac}{mg:Str->Option av}{base:Heap}{x qual:Str}{st:Stmt}{f:ay}{fd:FuncData}{N ps:List Str}{k:Nat}{sp:Sp}(F:gJ K x qual st f fd)(S:FnScope N ps (b6 st))(len:∀vs H Q E,sp vs H Q E->vs.length=ps.length)(hbody:∀(cdv:av) (A:ba) (outer:List Env) (s:ax) (H:Hp) (vs:List V) (Q:VK) (E:XK),cI k (A.deeper (envOfC qual (b6 st) s.heap.objs.size f cdv))->sp vs H Q E->
   ∃t,eI (dH (eY P w) P w K mg base N qual (b6 st) f cdv A outer s H E) (eO st) t/\t { nx:=λ_ H'=>Q .non H',rt:=Q } (gY N vs) H):dX P w K mg base (eY P w) (k+1) f fd ps sp:=by
 obtain⟨oc,od,kV,doc,pm,an,cdv,ct,osl,rfl,lk,hcd⟩:=F.ex
 exact B7 lk hcd S len λA outer s H vs Q E hr hsp=>hbody cdv A outer s H vs Q E hr hsp
section
variable {X:Cx}{ag:List (ay×Obj)}{σ:St}{H H1 H':Hp}{s s1 s':ax}{B h2:Heap}{a C:ay}
noncomputable abbrev Cx.suite (X:Cx)(a:ay):Cx:={ X with A:=X.A.mark (some (.ref a)),calm:=false,xe:=λ_ _=>False }
end
noncomputable abbrev TB:=dW->XK->St->Hp->Prop
end L2
namespace Raw
open PySem PySem.W PySem.Calls PyProof.Rows
theorem jY {α β:Type}(f:α->β):∀(j:Nat) (l:List α),(l.eraseIdx j).map f=(l.map f).eraseIdx j
 |_,[]=>rfl
 |0,_::_=>rfl
 |j+1,x::r=>by
  show f x::(r.eraseIdx j).map f=f x::(r.map f).eraseIdx j;rw[jY f j r]
section
variable {prog:az}{w:bc}{K:Type}[DecidableEq K]{knd:HeapKind prog w K}{A:ba}{E:av→ax→Prop}{s:ax}{d a:ay}{k:K}{xs:List (K×ay×av)}
noncomputable def U3 (knd:HeapKind prog w K)(h:Heap)(d:ay)(xs:List (K×ay×av))(j:Nat):Prop:=∃o es ep,h.get? d=some o/\o.ExactDict/\o.data = .dict es ep/\es.toList=(xs.eraseIdx j).map (entryOfKey knd)
theorem aM6 {Q:Option DictEntry->ax->Prop}(hu:knd.room A)(hkey:knd.is s.heap k a)(hm:s.heap.DictOfH knd d xs)(hz:xs.length<=sizeLine)(is:∃(j:Nat) (p:ay×av),xs[j]? = some (k,p))(q:∀(j:Nat) (p:ay×av) h',xs[j]? = some (k,p)->U3 knd h' d xs j->Heap.SameBut d s.heap h'->Q (some (entryOfKey knd (k,p))) { s with heap:=h',toks:=s.toks+knd.draws k }):wpAny (model prog w) A (Builtin.Dict.takeOut d (.ref a)) Q E s:=by
 obtain⟨o,es,ep,e1,e2,e3,e4,e5,e6⟩:=hm
 obtain⟨j0,p0,h0⟩:=is
 unfold Builtin.Dict.takeOut
 try with_reducible refine bv9 ?_
 apply bo2;apply knd.pyHash hu hkey;apply bo2;refine wpAny_dictFind_heap (s:={ s with toks:=s.toks+knd.draws k }) hu hkey e1 e3 e4 e5 e6 (λno=>absurd h0 (no j0 p0)) λj p hj=>?_
 apply bo2;apply wpAny_dictEntries (s:={ s with toks:=s.toks+knd.draws k }) e1 e3;rw[entry_at e4 j,hj];have sz:=size_of_entries e4;apply bo2;refine wpAny_updateDictKeys (hz:=by omega) (s:={ s with toks:=s.toks+knd.draws k }) e1 e3 (bo5 (q j p _ hj ⟨_,_,ep+1,bt9 _ e1 (Obj.isFreed_of_dict (Obj.data_mapDictKeys e3 _)),e2.mapDictKeys _,Obj.data_mapDictKeys e3 _,?_⟩ (bv7 ..)));rw[jY,<- e4]
 obtain⟨l⟩:=es
 simp
end
section
variable {prog:az}{w:bc}{K:Type}[DecidableEq K](knd:HeapKind prog w K)(d a:ay)
theorem aM7:MeetsIn prog w (Builtin.«dict.pop» ⟨[.ref d,.ref a],[]⟩) (λA R s=>knd.room A.in1/\∃k xs,knd.is s.heap k a/\s.heap.DictOfH knd d xs/\xs.length<=sizeLine/\(∃(j:Nat) (p:ay×av),xs[j]? = some (k,p))/\
  ∀(j:Nat) (p:ay×av) h',xs[j]? = some (k,p)->U3 knd h' d xs j->Heap.SameBut d s.heap h'->R (.ok (.ret p.2)) { s with heap:=h',toks:=s.toks+knd.draws k }):=
 .of_wp λA R s h=>by
  obtain⟨hu,k,xs,hk,hm,hz,is,q⟩:=h
  obtain⟨o,es,ep,e1,e2,e3,e4,e5,e6⟩:=id hm
  have ne:es.isEmpty=false:=by
   obtain⟨j,p,hj⟩:=is
   have sz:=size_of_entries e4
   have:=(bq1.mp hj).1
   rw[Array.isEmpty_eq_false_iff,ne_eq,<- Array.size_eq_zero_iff];omega
  unfold Builtin.«dict.pop»;apply bo2;unfold Builtin.Dict.keyAndDefault;apply bo2;apply wpAny_notOrdered_dict hm.typeIs
  change wpAny _ _ (pure (d,Value.ref a,none)) _ _ s
  apply bo5;have kp:(keyPart (Value.ref a)).isSome=false:=rfl;simp only[kp,bq3,bu2];refine bo2 (wpAny_dictEntries e1 e3 (bo2 (bo5 ?_)));simp only[ne,bq3,bu2];apply bo2;refine aM6 hu hk hm hz is λj p h' hj c sb=>?_
  simp only[Option.isNone_some,bq3,bu2];exact bo2 (bD2 (bo5 ⟨p.2,rfl,q j p h' hj c sb⟩))
end
end Raw
namespace L2
open PySem PySem.Spec PyProof.Rows
theorem Paired.erase {α β:Type}{F:α->β->Prop}:∀(j:Nat) {l:List α}{m:List β},Paired F l m->Paired F (l.eraseIdx j) (m.eraseIdx j)
 |_,_,_,.nil=>.nil
 |0,_,_,.cons _ t=>t
 |j+1,_,_,.cons r t=>.cons r (Paired.erase j t)
theorem U4 {α β:Type}{F:α->β->Prop}:∀{l:List α}{m:List β}{i:Nat}{y:β},Paired F l m->m[i]? = some y->∃x,l[i]? = some x/\F x y
 |_,_,_,_,.nil,e=>by simp at e
 |_,_,0,_,.cons r _,e=>by simp at e;subst e;exact⟨_,rfl,r⟩
 |_,_,i+1,y,.cons _ t,e=>by
  rw[bw4]at e
  obtain⟨x,h1,h2⟩:=U4 t e
  exact⟨x,by rw[bw4];exact h1,h2⟩
theorem U5 {α β:Type}{F:α->β->Prop}:∀{l:List α}{m:List β}{i:Nat}{x:α},Paired F l m->l[i]? = some x->∃y,m[i]? = some y/\F x y
 |_,_,_,_,.nil,e=>by simp at e
 |_,_,0,_,.cons r _,e=>by simp at e;subst e;exact⟨_,rfl,r⟩
 |_,_,i+1,x,.cons _ t,e=>by
  rw[bw4]at e
  obtain⟨y,h1,h2⟩:=U5 t e
  exact⟨y,by rw[bw4];exact h1,h2⟩
section
variable {X:Cx}{ag:List (ay×Obj)}{σ:St}{H:Hp}{s:ax}{a b:ay}{kvs:List (List aI×V)}{k:List aI}{A:ba}{E:av→ax→Prop}
theorem aM8 {Q:av->ax->Prop}(hu:A.units+1<cLine)(I:a8 X ag σ H s)(e:H a=some (.dT kvs))(eb:H b=some (.tup (k.map kV)))(is:∃j:Nat,(kvs.map (·.1))[j]? = some k)(h:∀(j:Nat) v w' s',(kvs.map (·.1))[j]? = some k->a8 X ag σ (upd H a (.dT (kvs.eraseIdx j))) s'->aQ v w'->Q w' s'):wpAny (model X.prog X.w) A (call (.builtin "dict.pop") [.ref a,.ref b]) Q E s:=by
 obtain⟨z,hd,xs,rel,dd⟩:=G0 I.hok e
 have hz:xs.length<=sizeLine:=by rw[<- Paired.length rel];exact z
 refine call_meetsIn PySem.F.slot_dict_pop dd.typeIs PySem.F.entry_dict_pop (PySem.F.args_dict_pop_2 _ _) (Raw.aM7 (tupleKind (eG X.prog X.w)) a b) ⟨tupleKind_room_in1 hu,k,xs,mK I.hok eb,dd,hz,?_,λj p h' hj c sb=>?_⟩
 ·obtain⟨j,hj⟩:=is
  rw[bq6]at hj;cases ej:kvs[j]? with
  |none=>rw[ej]at hj;cases hj
  |some kv=>
   rw[ej]at hj;cases hj
   obtain⟨y,hy,r⟩:=U5 rel ej
   exact⟨j,y.2,by rw[hy];exact congrArg some (bC8 r.1.symm rfl)⟩
 ·obtain⟨kv,hkv,r⟩:=U4 rel hj
  obtain⟨o,es,ep,h1,h2,h3,h4⟩:=c
  have nd:((xs.eraseIdx j).map (·.1)).Nodup:=by
   obtain⟨_,_,_,_,_,_,_,_,nd⟩:=dd
   exact nd.sublist ((List.eraseIdx_sublist xs j).map _)
  refine h j kv.2 p.2 _ (by rw[bq6,hkv];exact congrArg some r.1) ?_ r.2.2;refine vA I (by rw[e];exact bH4) sb ⟨o,h1⟩ ⟨bs7 (List.length_eraseIdx_le kvs j) z,hd,_,KT.keeps (Paired.erase j rel) λc ys ec=>?_,o,es,ep,h1,h2,h3,h4,nd⟩;rw[aW (zF ec e (λz=>nomatch z))];exact ec
end
section
variable {X:Cx}{o e:Expr}{ah ai:Pos}{td ty:TE}
noncomputable def U6 (td ty:TE):TE:=λσ H Q=>td σ H λx H1=>∃a,x = .ref a/\vC H1 a/\ty σ H1 λy H2=>∃kvs k b,H2 a=some (.dT kvs)/\y = .ref b/\H2 b=some (.tup (k.map kV))/\(∃j:Nat,(kvs.map (·.1))[j]? = some k)/\∀(j:Nat) v,(kvs.map (·.1))[j]? = some k->Q v (upd H2 a (.dT (kvs.eraseIdx j)))
theorem aM9 (hu:X.A.units+1<cLine)(ho:PE X o td)(he:PE X e ty)(m:M1 X o "pop" ah e ai):PE X (.Call (.Attribute o "pop" ah) [e] [] ai) (U6 td ty):=by
 intro ag s σ H Q I h;refine wpAny_Call_method m.base m.few m.line PySem.F.plainAttrs_dict PySem.F.slot_dict_pop PySem.F.type_dict_pop (aO (ho ag s σ H _ I h) λu s1 h1=>?_)
 obtain⟨x,H1,I1,rx,a,ex,d,q1⟩:=h1
 subst ex;obtain rfl:u=Value.ref a:=rx
 obtain⟨t1,t2,_⟩:=G5 I1 d
 refine⟨t1,t2,?_⟩;rw[m.trees];refine Calls.callWith_builtin rfl (Calls.evalArgs_plain (Calls.spliced_cons (aO (he ag s1 σ H1 _ I1 q1) λiv s2 h2=>Calls.spliced_nil ?_)))
 obtain⟨y,H2,I2,ry,kvs,k,b,ea,ey,eb,is,q2⟩:=h2
 subst ey;obtain rfl:iv=Value.ref b:=ry;exact aM8 hu I2 ea eb is λj v w' s3 hj I3 rw'=>⟨v,_,I3,rw',q2 j v hj⟩
end
end L2
namespace Raw
open PySem PySem.W PySem.Calls PyProof.Rows
theorem aN0:isSubtype (.type "tuple") (.type "set")=pure false:=by rw[bH2];kernel_rfl
theorem aN1:isSubtype (.type "tuple") (.type "frozenset")=pure false:=by rw[bH2];kernel_rfl
section
variable {prog:az}{w:bc}{A:ba}{E:av→ax→Prop}{s:ax}{l:ay}{items:Array av}{ns:ae}
noncomputable abbrev dD (led:Bool):Obj:={ cls:=.type "set",dict:=none,data:=.set #[] 0 (.fresh 0 0 led) }
end
end Raw
namespace Core
open PySem L2 PP
noncomputable def aN2 (ns:ae):Bool:=((ns.zip (ns.drop 1)).map λp=>decide (p.1<p.2)).all id
noncomputable def kin (ws:ae)(ls:aa)(S:ae)(h:Int):Bool:=!decide (h∈S)&&decide (ws.getD h.toNat 0<=(((vQ ls h).filter λx=>decide (x∈S)).length:Int))
noncomputable def nextOf (ws:ae)(ls:aa)(S:ae):ae:=((List.range ws.length).map λ(i:Nat)=>(i:Int)).filter (kin ws ls S)
noncomputable def pM (ws:ae)(ls:aa)(S:ae):Nat->ae
 |0=>S
 |k+1=>pM ws ls S k++nextOf ws ls (pM ws ls S k)
theorem aN3 {ws:ae}{ls:aa}{S:ae}{x:Int}(h:kin ws ls S x=true):decide (x∈S)=false:=by
 unfold kin at h;cases e:decide (x∈S) with
 |false=>rfl
 |true=>rw[e]at h;cases h
noncomputable def after (ws:ae)(ls:aa)(S:ae)(m:Nat):ad:=(List.range m).map λk=>nextOf ws ls (pM ws ls S k)
noncomputable def dW (ws:ae)(ls:aa)(ns:ae)(m:Nat):Prop:=(∀k<m,nextOf ws ls (pM ws ls ns k)≠[])/\nextOf ws ls (pM ws ls ns m) = []
theorem sU {lo:Int}{n i:Nat}{x:PV}(h:(jM lo n)[i]? = some x):x = .int (lo+i)/\i<n:=by
 have hi:i<n:=by
  have:=(bq1.mp h).1
  rwa [mY]at this
 rw[N3 hi]at h
 exact⟨(br7 h).symm,hi⟩
noncomputable def rng (n:Nat):ae:=(List.range n).map λ(i:Nat)=>(i:Int)
theorem U7 {α:Type}{l:List α}{p:α->Bool}{i:Nat}{x:α}(h:l[i]? = some x):(l.take (i+1)).filter p=(l.take i).filter p++(if p x=true then [x] else []):=by
 rw[bv5,h,List.filter_append];congr 1;cases e:p x<;>simp[e]
theorem aN4 (a b:ae):intz (a++b)=intz a++intz b:=br8
theorem aN5 (a:ae):(intz a).length=a.length:=bo7 _
noncomputable def IsI (x:PV)(ns:ae):Prop:=x = .tup (intz ns)∨x = .lst (intz ns)
theorem jZ:∀(ls:aa),flats (ls.map λl=>PV.tup [.int l.1,.int l.2])=true
 |[]=>rfl
 |l::r=>by
  show (flat (.tup [.int l.1,.int l.2])&&flats (r.map λl=>PV.tup [.int l.1,.int l.2]))=true;rw[jZ r];rfl
theorem sV (ns:ae):flat (.tup (intz ns))=true:=mR ns
noncomputable abbrev dP (t:aS)(N:List Str)(p:cD):Prop:=∀xs Q,p xs Q->t { nx:=λ_=>Q .non,rt:=Q } (gB N xs)
noncomputable def inB (n:Nat)(x:Int):Bool:=decide (0<=x)&&decide (x<(n:Int))
structure DS (ps:List (aI×PV))(S:ae):Prop where
 has:∀i:Int,(cA ps (Sum.inl i:aI)).isSome=decide (i∈S)
 len:ps.length<=S.length
 fl:flats (ps.map (·.2))=true
section
variable {κ:Type}[DecidableEq κ]
theorem k6 {p:κ×PV}{r:List (κ×PV)}{k:κ}(e:p.1=k):cA (p::r) k=some p.2:=by simp[cA,bC2,e]
theorem k7 {p:κ×PV}{r:List (κ×PV)}{k:κ}(e:¬p.1=k):cA (p::r) k=cA r k:=by simp[cA,bC2,e]
theorem nM (k:κ):∀kvs:List (κ×PV),(kvs.any λkv=>decide (kv.1=k))=(cA kvs k).isSome
 |[]=>rfl
 |p::r=>by
  rw[List.any_cons];by_cases e:p.1=k
  ·simp only[k6 e,bp8 e,Bool.true_or,Option.isSome_some]
  ·rw[k7 e,bp6 e,Bool.false_or];exact nM k r
theorem U8 (k j:κ)(y:PV):∀kvs:List (κ×PV),cA (kvs.map λkv=>if kv.1=k then (kv.1,y) else kv) j=(cA kvs j).map λx=>if j=k then y else x
 |[]=>rfl
 |p::r=>by
  have ih:=U8 k j y r;rw[bv2];by_cases h:p.1=k
  ·rw[if_pos h]
   by_cases e:p.1=j
   ·rw[k6 (p:=(p.1,y)) e,k6 e,Option.map_some,if_pos (e.symm.trans h)]
   ·rw[k7 (p:=(p.1,y)) e,k7 e,ih]
  ·rw[if_neg h]
   by_cases e:p.1=j
   ·rw[k6 (p:=p) e,k6 e,Option.map_some,if_neg (λz=>h (e.trans z))]
   ·rw[k7 (p:=p) e,k7 e,ih]
theorem U9 (k j:κ)(y:PV):∀kvs:List (κ×PV),cA kvs k=none->cA (kvs++[(k,y)]) j=if j=k then some y else cA kvs j
 |[],_=>by
  by_cases e:k=j
  ·rw[if_pos e.symm];exact k6 (p:=(k,y)) e
  ·rw[if_neg (λz=>e z.symm)];exact k7 (p:=(k,y)) e
 |p::r,hn=>by
  rw[List.cons_append];have hk:¬p.1=k:=λz=>by rw[k6 z]at hn;cases hn
  rw[k7 hk]at hn;have ih:=U9 k j y r hn;by_cases e:p.1=j
  ·rw[k6 e,k6 e,if_neg (λz=>hk (e.trans z))]
  ·rw[k7 e,k7 e,ih]
theorem V0 (kvs:List (κ×PV))(k j:κ)(y:PV):cA (dR kvs k y) j=if j=k then some y else cA kvs j:=by
 unfold dR;by_cases a:(kvs.any λkv=>decide (kv.1=k))=true
 ·rw[if_pos a,U8]
  rw[nM]at a;by_cases e:j=k
  ·obtain⟨x,hx⟩:=Option.isSome_iff_exists.mp a
   rw[if_pos e,e,hx,Option.map_some,if_pos rfl]
  ·rw[if_neg e]
   cases cA kvs j with
   |none=>rfl
   |some x=>rw[Option.map_some,if_neg e]
 ·rw[if_neg a]
  refine U9 k j y kvs ?_;rw[nM]at a;cases q:cA kvs k with
  |none=>rfl
  |some x=>rw[q]at a;exact (a rfl).elim
theorem aN6 (kvs:List (κ×PV))(k:κ)(v:PV):(dR kvs k v).length<=kvs.length+1:=by
 unfold dR;split
 ·rw[bo7];omega
 ·rw[br0,bs9,bE2];omega
end
theorem V1 {ws:ae}{h:Int}(h0:0<=h)(h1:h<(ws.length:Int)):atI (intz ws) h=some (.int (ws.getD h.toNat 0)):=by
 refine aB8 h0 ?_
 have:h.toNat<ws.length:=by omega
 rw[bq6,bp3,bo6 this];rfl
noncomputable def tups (rs:ad):List PV:=rs.map λr=>PV.tup (intz r)
theorem V2:∀(rs:ad),flats (tups rs)=true
 |[]=>rfl
 |r::t=>by
  show (flat (.tup (intz r))&&flats (tups t))=true;rw[sV,V2 t];rfl
end Core
namespace PP
open PySem L2
noncomputable def xH:List PV->(PV->Prop)->Prop:=λxs Q=>∃ys:ad,xs = [.lst (ys.map λr=>PV.tup (intz r))]/\ys.length<64/\(∀y∈ys,y≠[])/\∀zs:ad,zs.Perm ys->zs.Pairwise (λu v=>HT.aH v u=false)->Q (.lst (zs.map λr=>PV.tup (intz r)))
end PP
namespace Core
open PySem L2 PP
theorem aN7 (g:Tg)(n:Int):Nw g (.int n):=by cases g<;>first|exact trivial|rfl
noncomputable def pN (x:PV)(ns:ae):Prop:=x = .scr ns∨x = .lst (intz ns)
theorem pN.seq {x:PV}{ns:ae}(h:pN x ns):jL x=some (intz ns):=by rcases h with rfl|rfl<;>rfl
theorem pN.len {x:PV}{ns:ae}(h:pN x ns):M8 x=some ns.length:=by
 rcases h with rfl|rfl
 ·rfl
 ·show some (intz ns).length=_
  rw[aN5]
noncomputable def m7:cD:=λxs Q=>∃x ns k,xs = [x,.int k]/\pN x ns/\0<=k/\Q (.int (ns.getD k.toNat 0))
noncomputable def V3:aS:=(aN (dL (bF (lU (a5 1) (aD mX (a6 (a5 0) aA)))) (bX (b7 (a5 0) (a5 1))) dQ)
 (bX (qC (.int 0))))
theorem aN8:dP V3 ["script","k"] m7:=by
 rintro xs Q ⟨x,ns,k,rfl,hx,h0,q⟩;refine⟨_,rfl,_,rfl,_,_,rfl,hx.len,_,_,rfl,rfl,_,rfl,?_⟩;by_cases h:k<(ns.length:Int)
 ·rw[bp8 h]
  exact bQ ⟨_,rfl,_,rfl,_,_,_,hx.seq,rfl,V1 h0 h,aN7 _ _,q⟩
 ·rw[bp6 h]
  rw[bp3,List.getElem?_eq_none (by omega)]at q;exact bE ⟨trivial,q⟩
noncomputable def aK (ls:aa):List PV:=ls.map λl=>PV.tup [.int l.1,.int l.2]
theorem gE (ls:aa):(aK ls).length=ls.length:=bo7 _
noncomputable def dA (l m:Int×Int):Prop:=l.1<m.1∨(l.1=m.1/\l.2<m.2)
noncomputable abbrev si (n:Int):Option Slot:=some (.sh true (.int n))
noncomputable def sW:cD:=λxs Q=>∃i,xs = [.int i]/\Q (.bl true)
noncomputable def V4 (K:ac):aS:=(bX (lP (jO K "int" (a5 0)) (vZ (jO K "bool" (a5 0)))))
theorem aN9 {K:ac}(k1:PySem.W.kitOne K (.type "int") (.type "int")=some true)(k2:PySem.W.kitOne K (.type "int") (.type "bool")=some false):dP (V4 K) ["found"] sW:=by
 rintro xs Q ⟨i,rfl,q⟩
 exact⟨_,rfl,_,_,rfl,k1,_,rfl,bQ ⟨_,rfl,_,_,rfl,k2,_,rfl,trivial,q⟩⟩
theorem kY {ls:aa}{i:Nat}{x:PV}(h:(aK ls)[i]? = some x):∃l,x = .tup [.int l.1,.int l.2]/\ls[i]? = some l:=by
 unfold aK at h;rw[bq6]at h;cases e:ls[i]? with
 |none=>rw[e]at h;cases h
 |some n=>rw[e]at h;exact⟨n,(br7 h).symm,rfl⟩
end Core
namespace PP
open PySem L2 PyProof.Rows
section
variable {X:Cx}{a b e:Expr}{ta tb te:aF}{tr:cM}{pos p2 p3 pos2:Pos}
noncomputable def xI:V->Int
 |.int i=>i
 |_=>0
noncomputable def m8 (H:Hp):V->ae
 |.ref a=>match H a with
  |some (.tup us)=>us.map xI
  |_=>[]
 |_=>[]
theorem aO0 {H:Hp}{a:ay}{ns:ae}(h:H a=some (.tup (ns.map V.int))):m8 H (.ref a)=ns:=by
 show (match H a with|some (.tup us)=>us.map xI|_=>[])=ns;rw[h];show (ns.map V.int).map xI=ns;rw[bw0];exact List.map_id _
theorem V5 {K:ac}{M:ay->Prop}{H:Hp}:∀{us:List V}{ys:ad},Reps K M H us (ys.map λr=>PV.tup (intz r))->us.map (m8 H)=ys/\∀u∈us,∃b,u = .ref b/\H b=some (.tup ((m8 H u).map V.int))
 |_,[],.nil=>⟨rfl,λu h=>nomatch h⟩
 |_,y::ys,.cons r t=>by
  obtain⟨a,us,rfl,h,r1⟩:=r.sqT
  obtain rfl:=r1.ofInts
  obtain⟨h1,h2⟩:=V5 t
  have hk:=aO0 h;refine⟨by rw[bv2,h1,hk],λu hu=>?_⟩;rcases bp1.mp hu with rfl|hu
  ·exact⟨a,rfl,by rw[hk];exact h⟩
  ·exact h2 u hu
theorem V6 {K:ac}{M:ay->Prop}{H:Hp}:∀{us:List V},(∀u∈us,∃b,u = .ref b/\H b=some (.tup ((m8 H u).map V.int)))->Reps K M H us ((us.map (m8 H)).map λr=>PV.tup (intz r))
 |[],_=>.nil
 |u::us,h=>by
  obtain⟨b,rfl,hb⟩:=h u bp5
  exact .cons (.tup hb (Reps.intz _)) (V6 λv hv=>h v (bp0 _ hv))
theorem aO1:dZ X xH (K5 X.K):=by
 rintro H vs xs Q Q' r ⟨ys,rfl,hl,hne,q⟩ k
 obtain⟨v,rfl,r1⟩:=r.one
 obtain⟨a,us,rfl,_,h,r2⟩:=r1.sqL
 obtain⟨h1,h2⟩:=V5 r2
 have lr:=r2.length;rw[bo7]at lr;refine⟨a,us,m8 H,rfl,aM.of h,by omega,λy hy=>?_,λl zs hl' pm so=>?_⟩
 ·obtain⟨b,rfl,hb⟩:=h2 y hy
  refine⟨b,rfl,aJ.of hb,hne _ ?_⟩;rw[<- h1];exact br5.mpr ⟨_,hy,rfl⟩
 ·have hz:∀u∈zs,∃b,u = .ref b/\H b=some (.tup ((m8 H u).map V.int)):=λu hu=>h2 u (pm.mem_iff.mp hu)
  refine k _ _ _ (bK hl' _) (.lst hl' bZ ((V6 hz).same (bK hl' _) λ_ z=>z)) (q _ ?_ ?_)
  ·rw[<- h1];exact pm.map _
  ·rw[bu7];exact so
theorem aO2 (B:Bt X.mg)(ha:QA X [e] tr)(hg:Gl X "sorted":=by rfl)(he:starEach [e] X.env=(false,eval e X.env)::starEach [] X.env:=by rfl)(hpl:(backTo pos (starEach [] X.env)).any (·.1)=false:=by rfl):QE X (.Call (.Name "sorted" p2) [e] [] pos) (aD xH tr):=
 gP aB5 aO1 hg B.sorted PyProof.Rows.boot_sorted ha (he:=he) (hpl:=hpl)
end
end PP
namespace Core
open PySem L2 PP
noncomputable def two (l:Int×Int):ae:=[l.1,l.2]
theorem xJ (ls:aa):aK ls=(ls.map two).map λr=>PV.tup (intz r):=by
 unfold aK;rw[bw0];rfl
theorem aO3 {ls:aa}(so:(ls.map two).Pairwise λu v=>HT.aH v u=false)(nd:ls.Nodup):ls.Pairwise dA:=by
 rw[bu7]at so;refine (List.pairwise_and_iff.mpr ⟨so,nd⟩).imp λ{a b} h=>?_
 obtain⟨h1,h2⟩:=h
 unfold two at h1;rw[HT.fX]at h1;unfold dA;by_cases e:b.1=a.1
 ·rw[if_pos e,HT.fX]at h1
  by_cases e2:b.2=a.2
  ·exact absurd (bC8 e.symm e2.symm) h2
  ·rw[if_neg e2]at h1
   have:=bA3 h1
   omega
 ·rw[if_neg e]at h1
  have:=bA3 h1
  omega
noncomputable def cV (l:Int×Int):List aI:=[Sum.inl l.1,Sum.inl l.2]
noncomputable def V7:cD:=λxs Q=>∃ns:ae,xs = [.scr ns]/\ns.length<=63/\Q (.bl true)
structure aO4 (K:ac):Prop where
 ii:PySem.W.kitOne K (.type "int") (.type "int")=some true
 ib:PySem.W.kitOne K (.type "int") (.type "bool")=some false
 tt:PySem.W.kitOne K (.type "tuple") (.type "tuple")=some true
 ll:PySem.W.kitOne K (.type "list") (.type "list")=some true
 bb:PySem.W.kitOne K (.type "bool") (.type "bool")=some true
theorem pO (K:ac):aO4 K:=by
 have same:∀n:String,PySem.W.kitMeta n=true->True:=λ_ _=>trivial
 refine⟨?_,?_,?_,?_,?_⟩
 ·unfold PySem.W.kitOne;rw[if_pos (by decide)]
 ·have e:(if PySem.W.kitMeta "bool" = true then (fastBuiltinMro "int").map (·.contains (Value.type "bool")) else none)=some false:=by decide +kernel
  unfold PySem.W.kitOne;rw[if_neg (by decide)];exact e
 ·unfold PySem.W.kitOne;rw[if_pos (by decide)]
 ·unfold PySem.W.kitOne;rw[if_pos (by decide)]
 ·unfold PySem.W.kitOne;rw[if_pos (by decide)]
end Core
namespace PP
open PySem L2 PyProof.Rows
theorem aO5 {P:az}{w:bc}{K:ac}{mg:Str->Option av}{base:Heap}{k:Nat}{x:Str}{ps N:List Str}{p:cD}{st:Stmt}{f:ay}{fd:FuncData}(F:gJ K x x st f fd)(S:FnScope N ps (b6 st))(len:∀xs Q,p xs Q->xs.length=ps.length)(body:∀(cdv:av) (A:ba) (outer:List Env) (s:ax) (H:Hp) (E:XK),cI k (A.deeper (envOfC x (b6 st) s.heap.objs.size f cdv))->
   ∃t,fJ (dH g9 P w K mg base N x (b6 st) f cdv A outer s H E).nox (eO st) t/\∀xs Q,p xs Q->t { nx:=λ_=>Q .non,rt:=Q } (gB N xs)):dX P w K mg base g9 (k+1) f fd ps (oR K p):=by
 refine F.ok S (λvs H Q E h=>?_) (λcdv A outer s H vs Q E hr h=>?_)
 ·obtain⟨xs,Qp,r,q,_⟩:=h
  rw[r.length];exact len xs Qp q
 ·obtain⟨xs,Qp,r,q,k⟩:=h
  obtain⟨t,ht,hq⟩:=body cdv A outer s H E hr
  refine⟨_,ht,λ_=>False,gB N xs,_,x3 r,hq xs Qp q,?_,?_,?_,?_⟩
  ·exact λW' σ' H' ρ' e px q=>k _ _ _ px.same .non q
  ·exact λv H' x s r q=>k _ _ _ s r q
  ·exact λW' σ' H' ρ' e px q=>q
  ·exact λW' σ' H' ρ' e px q=>q
noncomputable def sX (K:ac):Sp:=λvs H Q _=>∃(a:ay) (ns:ae),vs = [.ref a]/\jI K H a ns/\ns.length<=63/\∀H',Q (.bl true) H'
theorem aO6 {P:az}{w:bc}{K:ac}{mg:Str->Option av}{base:Heap}{k:Nat}{f:ay}{fd:FuncData}(F:dX P w K mg base g9 k f fd ["script"] (oR K Core.V7)):dX P w K mg base g9 k f fd ["script"] (sX K):=
 F.imp λvs H Q E h=>by
  obtain⟨a,ns,rfl,hs,hl,q⟩:=h
  refine⟨[.scr ns],λz=>z = .bl true,.cons (.scr hs) .nil,⟨ns,rfl,hl,rfl⟩,?_⟩;rintro v H' x _ r rfl;cases r;exact q H'
theorem aO7 {K:ac}{H:Hp}{a:ay}{ns:ae}(hO:qQ H)(h:aM K H a (ns.map V.int)):jI K H a ns:=by
 rcases h with (h|⟨o,h⟩)|h
 ·rcases hO a with e|⟨o,xs,e⟩<;>(rw[h]at e;cases e)
 ·exact .inl ⟨o,h⟩
 ·exact .inr h
end PP
namespace PyProof.Rows
open PySem
end PyProof.Rows
namespace PP
open PySem L2 PyProof.Rows
section
variable {X:Cx}{a b e:Expr}{ta tb te:aF}{tr:cM}{pos p2:Pos}
noncomputable def V8:PV->Tg->PV->Tg->PK->Prop:=λx _ y _ Q=>∃xs ys,x = .lst xs/\y = .lst ys/\flats xs=true/\flats ys=true/\xs.length+ys.length<=16000000/\Q (.lst (xs++ys)) .fr
noncomputable abbrev xK (ta tb:aF):aF:=q2 V8 ta tb
theorem aO8:fG X V8 F4:=by
 rintro W Hs H u v x y g g' Q Q' s n r1 r2 ⟨xs,ys,rfl,rfl,f1,f2,hl,q⟩ k
 obtain⟨a,us,rfl,_,h1,q1⟩:=r1.sqL
 obtain⟨b,ws,rfl,_,h2,q2⟩:=r2.sqL
 have l1:=q1.length;have l2:=q2.length;refine⟨a,b,us,ws,rfl,rfl,h1,h2,lim (by omega),λp hp=>k _ _ _ .fr (bK hp _) (.lst (s.free hp) bZ (((q1.flat f1).append (q2.flat f2)).same (bK hp _) λ_ z=>z)) q⟩
theorem V9 (ha:QE X a ta)(hb:QE X b tb):QE X (.BinOp a .Add b pos) (xK ta tb):=lV ax8 aO8 ha hb
end
end PP
namespace L2
open PySem PySem.Spec PyProof.Rows
noncomputable def xL (K:ac)(a:ay):It:=
  ⟨λi H=>∃xs x,aM K H a xs/\xs[i]? = some x,
   λi H v H'=>∃T x,H T=none/\v = .ref T/\H'=upd H T (.tup [.int i,x])/\∀xs,aM K H a xs->xs[i]? = some x,
   λi H=>∃xs,aM K H a xs/\xs.length<=i⟩
structure aO9 (e it a:ay)(i:Nat)(h:Heap):Prop where
 ee:∃old,IsEnum h e it i old
 s1:h.IsListIter it a i
theorem aP0 {P:az}{w:bc}{K:ac}{elts:List Expr}{k:Nat}{pos:Pos}(a e it:ay)(d:e≠it) :
  iS P w K (.Tuple elts k pos) (xL K a) [e,it] e (aO9 e it a):=by
 refine⟨by simp,λi h st c hc=>?_,λi h h' st kp=>?_,?_,?_,λA i s Q E st q=>?_⟩
 ·simp only[bp1,bq0,bv1]at hc
  obtain⟨old,ee⟩:=st.ee
  obtain⟨o1,f1,g1,d1⟩:=st.s1
  rcases hc with rfl|rfl
  ·exact⟨_,ee,λv q=>by cases q⟩
  ·exact⟨_,f1,λv q=>by rw[d1]at q;cases q⟩
 ·obtain⟨old,ee⟩:=st.ee
  exact⟨⟨old,kp e (by simp) _ ee⟩,st.s1.at λo z=>kp it (by simp) o z⟩
 ·intro X hP hw hK hc i ag s σ H E I hf st hg
  subst hP hw hK
  obtain⟨xs,x,ha,hx⟩:=hg
  obtain⟨us,ru,pu,lu⟩:=I.list ha
  obtain⟨ux,eux,rux⟩:=ru.get hx
  obtain⟨old,ee⟩:=st.ee
  refine wpAny_pyNext_enum_item ee st.s1 pu.isList (by simpa using eux) d λh' eo it' pr sz kp=>⟨_,rfl,?_⟩
  refine wpAny_letOwnedTupleGo_enum (s:={ s with heap:=h',toks:=s.toks+1 }) eo λg zz sb=>?_
  have hzl:e<s.heap.objs.size:=bp9 ee;have up:∀c o,c≠e->c≠it->s.heap.get? c=some o->g.get? c=some o:=λc o c1 c2 z=>sb.extBut c o c1 (kp c o c1 c2 z)
  have hT:H s.heap.objs.size=none:=I.hok.fresh (bp7 _);have prG:g.get? s.heap.objs.size=some { cls:=.type "tuple",data:=.seq #[.int i s.toks,ux] }:=sb.extBut _ _ (bw3 hzl) pr;have fpn:∀c u,H c=some u->c∉[e,it]:=λc u z hm=>by rw[(hf c hm).1]at z;cases z
  have upH:∀c o u,H c=some u->s.heap.get? c=some o->g.get? c=some o:=λc o u q z=>by
   have:=fpn c u q
   simp only[bp1,bq0,bv1,not_or]at this;exact up c o this.1 this.2 z
  have ns:∀m,s.heap.Ns X.env.locals m->g.Ns X.env.locals m:=λm hm=>by
   obtain⟨o,es,ep,e1,e2⟩:=hm
   exact⟨o,es,ep,up _ o (Ne.symm (hf e (by simp)).2.1) (Ne.symm (hf it (by simp)).2.1) e1,e2⟩
  have I2:a8 X ag σ (upd H s.heap.objs.size (.tup [.int i,x])) { s with heap:=g,toks:=s.toks+1 }:=by
   refine I.step (g':=s.gens) (d':=s.drawn) (ch:=[e,it]) (λc hc'=>?_) (λc o _ _ hc' z _=>?_) (λc o _ _ hc' z _=>⟨o.slots,?_⟩) (λc o _ z n=>?_) (λc o hc' z=>⟨o,?_⟩)
    (λc zs z=>by rw[aW (cS z hT)];exact z) (λc u zs z=>by rw[aW (cS z hT)];exact z) (λc ps z=>⟨#[],by rw[aW (cS z hT),z];simp⟩) ns (λc u z=>?_) I.bare
   ·exact⟨(hf c hc').2.2.2.1,(hf c hc').2.1,(hf c hc').2.2.2.2.1,(hf c hc').2.2.2.2.2⟩
   ·simp only[bp1,bq0,bv1,not_or]at hc'
    exact up c o hc'.1 hc'.2 z
   ·simp only[bp1,bq0,bv1,not_or]at hc'
    exact up c o hc'.1 hc'.2 z
   ·rw[aW (br1 (bp9 z))];exact n
   ·simp only[bp1,bq0,bv1,not_or]at hc'
    exact up c o hc'.1 hc'.2 z
   ·by_cases hcT:c=s.heap.objs.size
    ·subst hcT
     rw[bZ]at z;cases z
     exact⟨by show 2<=sizeLine;decide,[.int i s.toks,ux],.cons ⟨_,rfl⟩ (.cons rux .nil),⟨_,prG,rfl,_,rfl⟩,λu e=>by rw[prG]at e;cases e;rfl⟩
    ·rw[aW hcT]at z
     refine (I.hok c u z).stay (λc' o' hc2 q'=>?_) (λc' q'=>by rw[aW (cS q' hT)];exact q') λc' zs q'=>by rw[aW (cS q' hT)];exact q'
     rcases hc2 with rfl|hc2
     ·exact upH _ _ _ z q'
     ·exact upH _ _ _ hc2 q'
  refine⟨.ref s.heap.objs.size,_,I2,rfl,⟨_,x,hT,rfl,rfl,λxs' ha'=>?_⟩,⟨⟨ux,by push_cast;exact zz⟩,it'.at λo z=>sb.extBut _ o (Ne.symm d) z⟩,λc hc'=>?_⟩
  ·rw[I.list_inj ha' ha];exact hx
  ·obtain⟨o,z⟩:∃o,s.heap.get? c=some o:=by
    simp only[bp1,bq0,bv1]at hc'
    obtain⟨o1,f1,_⟩:=st.s1
    rcases hc' with rfl|rfl
    ·exact⟨_,ee⟩
    ·exact⟨_,f1⟩
   rw[aW (br1 (bp9 z))];exact (hf c hc').1
 ·intro X hP hw hK hc i ag s σ H E I hf st hg
  subst hP hw hK
  obtain⟨xs,ha,hi⟩:=hg
  obtain⟨us,ru,pu,lu⟩:=I.list ha
  obtain⟨old,ee⟩:=st.ee
  have hh:X.A.handled=none:=I.ok.hd hc;have e1:=ru.length;refine wpAny_pyNext_enum_end hh ee st.s1 pu.isList (by rw[bz5];simp only[bo8];omega) λg kp=>⟨rfl,?_⟩
  have fpn:∀c u,H c=some u->c∉[e,it]:=λc u z hm=>by rw[(hf c hm).1]at z;cases z
  have upH:∀c o u,H c=some u->s.heap.get? c=some o->g.get? c=some o:=λc o u q z=>by
   have:=fpn c u q
   simp only[bp1,bq0,bv1,not_or]at this;exact kp c o this.2 z
  have ns:∀m,s.heap.Ns X.env.locals m->g.Ns X.env.locals m:=λm hm=>by
   obtain⟨o,es,ep,e1,e2⟩:=hm
   exact⟨o,es,ep,kp _ o (Ne.symm (hf it (by simp)).2.1) e1,e2⟩
  refine I.step (g':=s.gens) (d':=s.drawn) (ch:=[it]) (λc hc'=>?_) (λc o _ _ hc' z _=>?_) (λc o _ _ hc' z _=>⟨o.slots,?_⟩) (λc o _ z n=>n) (λc o hc' z=>⟨o,?_⟩)
   (λc zs z=>z) (λc u zs z=>z) (λc ps z=>⟨#[],by rw[z];simp⟩) ns (λc u z=>?_) I.bare
  ·have hm:c∈[e,it]:=bp0 _ hc'
   exact⟨(hf c hm).2.2.2.1,(hf c hm).2.1,(hf c hm).2.2.2.2.1,(hf c hm).2.2.2.2.2⟩
  ·exact kp c o (λy=>hc' (by rw[y];simp)) z
  ·exact kp c o (λy=>hc' (by rw[y];simp)) z
  ·exact kp c o (λy=>hc' (by rw[y];simp)) z
  ·refine (I.hok c u z).stay (λc' o' hc2 q'=>?_) (λ_ q'=>q') λ_ _ q'=>q'
   rcases hc2 with rfl|hc2
   ·exact upH _ _ _ z q'
   ·exact upH _ _ _ hc2 q'
 ·obtain⟨old,ee⟩:=st.ee
  exact wpAny_pyIter_enum ee q
end L2
namespace Zp
open PySem PyProof.Rows
section
variable {prog:az}{w:bc}{A:ba}{E:av→ax→Prop}{s:ax}
theorem aP1 {e it t:ay}{i:Nat}{items:Array av}{x old:av}{Q:Option av->ax->Prop}(he:IsEnum s.heap e it i old)(hi:s.heap.IsTupleIter it t i)(ht:s.heap.IsTuple t items)(hx:items[i]? = some x)(ne:e≠it)(q:∀h',IsEnumOut h' e it ((i:Int)+1) x s.heap.objs.size->h'.IsTupleIter it t (i+1)->h'.get? s.heap.objs.size=some { cls:=.type "tuple",data:=.seq #[.int i s.toks,x] }->h'.objs.size=s.heap.objs.size+1->
   (∀b o,b≠e->b≠it->s.heap.get? b=some o->h'.get? b=some o)->Q (some (.ref s.heap.objs.size)) { s with heap:=h',toks:=s.toks+1 }):wpAny (model prog w) A (pyNext (.ref e)) Q E s:=by
 have T:s.TypeIs (.ref e) "enumerate":=⟨_,he,rfl⟩;have slot:=PySem.F.slot_enumerate_next;unfold pyNext;apply bo2;apply bC6;apply bt2 (name:=Str.ofString "__next__") T slot;apply bt1 slot T PySem.F.entry_enumerate_next _ (PySem.F.args_enumerate_next_1 _)
 change wpAny _ _ (field (.ref e) 2 >>= _) _ _ _
 apply bo2;refine bx3 he rfl (x:=.ref it) rfl ?_;apply bo2;refine K9 hi ht hx λg1 it1 sb1=>?_
 have e1:IsEnum g1 e it i old:=sb1.extBut _ _ ne he
 change wpAny _ _ (field (.ref e) 3 >>= _) _ _ _
 apply bo2;refine bx3 e1 rfl (x:=rawInt i) rfl ?_
 change wpAny _ _ (field (.ref e) 4 >>= _) _ _ _
 apply bo2;refine bx3 e1 rfl (x:=.none) rfl ?_
 change wpAny _ _ (mkInt i >>= _) _ _ _
 apply bo2;refine wpAny_mkInt ?_
 change wpAny _ _ (setField (.ref e) 3 (rawInt ((i:Int)+1)) >>= _) _ _ _
 apply bo2;refine by5 e1 (by simp) λg2 e2 sb2=>?_
 apply bo2;refine by5 e2 (by simp) λg3 e3 sb3=>?_
 have e3:IsEnum g3 e it ((i:Int)+1) old:=e3;apply bo2;refine wpAny_newTuple ?_ (by show 2<=sizeLine;decide);have e4:IsEnum (g3.push { cls:=.type "tuple",data:=.seq #[.int i s.toks,x] }) e it ((i:Int)+1) old:=bo4 _ e3;have size:g3.objs.size=s.heap.objs.size:=by rw[sb3.1,sb2.1,sb1.1]
 change wpAny _ _ (Builtin.SmallTypes.ownedTupleIsFree (.ref e) >>= _) _ _ _
 apply bo2;unfold Builtin.SmallTypes.ownedTupleIsFree;apply bo2;refine bx3 e4 rfl (x:=.none) rfl (bo5 ?_);simp only[if_true];apply bo2;apply bF3;apply bo2;refine bx3 e4 rfl (x:=old) rfl ?_;apply bo2;refine by5 e4 (by simp) λg5 e5 sb5=>?_
 apply bo2;unfold Builtin.SmallTypes.ownedTupleHandOut;apply bo2;refine by5 e5 (by simp) λg6 e6 sb6=>?_
 refine by5 e6 (by simp) λg7 e7 sb7=>?_
 have e7:IsEnumOut g7 e it ((i:Int)+1) x g3.objs.size:=e7;have elt:e<g3.objs.size:=bp9 e3;have up:∀c o,c≠e->(g3.push { cls:=.type "tuple",data:=.seq #[.int i s.toks,x] }).get? c=some o->g7.get? c=some o:=λc o c1 z=>sb7.extBut c o c1 (sb6.extBut c o c1 (sb5.extBut c o c1 z))
 have up3:∀c o,c≠e->g1.get? c=some o->g7.get? c=some o:=λc o c1 z=>up c o c1 (bo4 _ (sb3.extBut c o c1 (sb2.extBut c o c1 z)))
 have p7:g7.get? g3.objs.size=some { cls:=.type "tuple",data:=.seq #[.int i s.toks,x] }:=up _ _ (bw3 elt) (bp4 _ rfl);have s7:g7.objs.size=g3.objs.size+1:=by rw[sb7.1,sb6.1,sb5.1,bw8]
 apply bo2;apply bD2;apply bo5;rw[size]at e7 p7 s7;refine⟨_,rfl,bo5 ?_⟩
 change Q (some (.ref g3.objs.size)) _
 rw[size];exact q g7 e7 (it1.at λo z=>up3 it o (Ne.symm ne) z) p7 s7 λb o b1 b2 z=>up3 b o b1 (sb1.extBut b o b2 z)
theorem aP2 {e it t:ay}{i:Nat}{items:Array av}{old:av}{Q:Option av->ax->Prop}(hh:A.handled=none)(he:IsEnum s.heap e it i old)(hi:s.heap.IsTupleIter it t i)(ht:s.heap.IsTuple t items)(hx:items[i]? = none)(q:∀h',Heap.ExtBut it s.heap h'->Q none { s with heap:=h' }):wpAny (model prog w) A (pyNext (.ref e)) Q E s:=by
 have T:s.TypeIs (.ref e) "enumerate":=⟨_,he,rfl⟩;have slot:=PySem.F.slot_enumerate_next;unfold pyNext;apply bo2;apply bC6;apply bt2 (name:=Str.ofString "__next__") T slot;apply bt1 slot T PySem.F.entry_enumerate_next _ (PySem.F.args_enumerate_next_1 _)
 change wpAny _ _ (field (.ref e) 2 >>= _) _ _ _
 apply bo2;refine bx3 he rfl (x:=.ref it) rfl ?_;apply bo2;refine L4 hh hi ht hx λg2 ex eb exo=>?_
 obtain⟨oe,eo,co⟩:=exo
 apply bo2;refine bF0 (T:="StopIteration") (b:=true) ⟨oe,eo,co⟩ isSubtype_stop ?_;exact bo5 (q g2 eb)
theorem aP3 {M:Model}{A:ba}{E:av->ax->Prop}{s:ax}{α:Type}{c:Prop}[Decidable c]{m n:Sem α}{Q:α->ax->Prop}(h1:wpAny M A m Q E s)(h2:wpAny M A n Q E s):wpAny M A (if c then m else n) Q E s:=by
 split
 ·exact h1
 ·exact h2
theorem aP4 (t:ay)(xs:Array av):Meets (Builtin.«enumerate.__new__» ⟨[.type "enumerate",.ref t],[]⟩) (λ_ R s=>s.heap.IsTuple t xs/\R (.ok (.ret (.ref (s.heap.objs.size+1)))) { s with heap:=(s.heap.push { cls:=.type "tuple_iterator",data:=.fields #[.ref t,.int 0 0] }).push { cls:=.type "enumerate",data:=.fields #[.none,.bool false,.ref s.heap.objs.size,rawInt 0,.none,.none] } }):=
 .of_wp λprog w A R s h=>by
  obtain⟨hp,g,d,tk,os⟩:=s
  obtain⟨ht,h⟩:=h
  have sub:=sub_enumerate;have a1:Heap.IsTuple (Shared.heap ⟨hp,g,d,tk,os⟩) t xs:=ht
  wp_walk using bC3 a1
  refine wpAny_stack_any λst=>bo5 ?_
  refine aP3 ?_ ?_
  all_goals
   apply bo2;refine wpAny_of_eq (a:=(Value.ref t,none)) rfl ?_
   wp_walk using bC3 a1
   have e:∀(o:Obj) (k:Heap),(k.push o).objs.size=k.objs.size+1:=λo k=>bw8 ..
   refine⟨_,rfl,?_⟩;simp only[e]at h ⊢;exact h
theorem aP5 {t:ay}{xs:Array av}{Q:av->ax->Prop}(ht:s.heap.IsTuple t xs)(q:∀h',IsEnum h' (s.heap.objs.size+1) s.heap.objs.size 0 .none->h'.IsTupleIter s.heap.objs.size t 0->h'.objs.size=s.heap.objs.size+2->(∀c o,s.heap.get? c=some o->h'.get? c=some o)->Q (.ref (s.heap.objs.size+1)) { s with heap:=h' }) :
  wpAny (model prog w) A (call (.type "enumerate") [.ref t]) Q E s:=by
 refine callType_new PySem.F.called_enumerate (by decide) (PySem.F.typeCall_enumerate_1 _) (PySem.F.newCall_enumerate_1 _) (λobj=>PySem.F.args_object_init_2 obj _) PySem.F.entry_enumerate_new (aP4 t xs) ⟨ht,?_⟩;have e:∀(o:Obj) (k:Heap),(k.push o).objs.size=k.objs.size+1:=λo k=>bw8 ..
 have g0:((s.heap.push { cls:=.type "tuple_iterator",data:=.fields #[.ref t,.int 0 0] }).push { cls:=.type "enumerate",data:=.fields #[.none,.bool false,.ref s.heap.objs.size,rawInt 0,.none,.none] }).get? s.heap.objs.size=some { cls:=.type "tuple_iterator",data:=.fields #[.ref t,.int 0 0] }:=bo4 _ (bp4 _ rfl);have g1:((s.heap.push { cls:=.type "tuple_iterator",data:=.fields #[.ref t,.int 0 0] }).push { cls:=.type "enumerate",data:=.fields #[.none,.bool false,.ref s.heap.objs.size,rawInt 0,.none,.none] }).get? (s.heap.objs.size+1)=some { cls:=.type "enumerate",data:=.fields #[.none,.bool false,.ref s.heap.objs.size,rawInt 0,.none,.none] }:=by
  have:=bp4 (h:=s.heap.push { cls:=.type "tuple_iterator",data:=.fields #[.ref t,.int 0 0] }) (o:={ cls:=.type "enumerate",data:=.fields #[.none,.bool false,.ref s.heap.objs.size,rawInt 0,.none,.none] }) rfl
  rw[e]at this;exact this
 exact⟨⟨_,g1,rfl⟩,q _ g1 ⟨_,g0,rfl,rfl⟩ (by rw[e,e]) λc o z=>bo4 _ (bo4 _ z)⟩
end
end Zp
namespace L2
open PySem PySem.Spec PyProof.Rows
noncomputable def xM (K:ac)(a:ay):It:=
  ⟨λi H=>∃xs x,aJ K H a xs/\xs[i]? = some x,
   λi H v H'=>∃T x,H T=none/\v = .ref T/\H'=upd H T (.tup [.int i,x])/\∀xs,aJ K H a xs->xs[i]? = some x,
   λi H=>∃xs,aJ K H a xs/\xs.length<=i⟩
structure aP6 (e it a:ay)(i:Nat)(h:Heap):Prop where
 ee:∃old,IsEnum h e it i old
 s1:h.IsTupleIter it a i
theorem aP7 {P:az}{w:bc}{K:ac}{elts:List Expr}{k:Nat}{pos:Pos}(a e it:ay)(d:e≠it) :
  iS P w K (.Tuple elts k pos) (xM K a) [e,it] e (aP6 e it a):=by
 refine⟨by simp,λi h st c hc=>?_,λi h h' st kp=>?_,?_,?_,λA i s Q E st q=>?_⟩
 ·simp only[bp1,bq0,bv1]at hc
  obtain⟨old,ee⟩:=st.ee
  obtain⟨o1,f1,g1,d1⟩:=st.s1
  rcases hc with rfl|rfl
  ·exact⟨_,ee,λv q=>by cases q⟩
  ·exact⟨_,f1,λv q=>by rw[d1]at q;cases q⟩
 ·obtain⟨old,ee⟩:=st.ee
  exact⟨⟨old,kp e (by simp) _ ee⟩,st.s1.at λo z=>kp it (by simp) o z⟩
 ·intro X hP hw hK hc i ag s σ H E I hf st hg
  subst hP hw hK
  obtain⟨xs,x,ha,hx⟩:=hg
  obtain⟨us,ru,pu,lu⟩:=I.tuple ha
  obtain⟨ux,eux,rux⟩:=ru.get hx
  obtain⟨old,ee⟩:=st.ee
  refine Zp.aP1 ee st.s1 pu (by simpa using eux) d λh' eo it' pr sz kp=>⟨_,rfl,?_⟩
  refine wpAny_letOwnedTupleGo_enum (s:={ s with heap:=h',toks:=s.toks+1 }) eo λg zz sb=>?_
  have hzl:e<s.heap.objs.size:=bp9 ee;have up:∀c o,c≠e->c≠it->s.heap.get? c=some o->g.get? c=some o:=λc o c1 c2 z=>sb.extBut c o c1 (kp c o c1 c2 z)
  have hT:H s.heap.objs.size=none:=I.hok.fresh (bp7 _);have prG:g.get? s.heap.objs.size=some { cls:=.type "tuple",data:=.seq #[.int i s.toks,ux] }:=sb.extBut _ _ (bw3 hzl) pr;have fpn:∀c u,H c=some u->c∉[e,it]:=λc u z hm=>by rw[(hf c hm).1]at z;cases z
  have upH:∀c o u,H c=some u->s.heap.get? c=some o->g.get? c=some o:=λc o u q z=>by
   have:=fpn c u q
   simp only[bp1,bq0,bv1,not_or]at this;exact up c o this.1 this.2 z
  have ns:∀m,s.heap.Ns X.env.locals m->g.Ns X.env.locals m:=λm hm=>by
   obtain⟨o,es,ep,e1,e2⟩:=hm
   exact⟨o,es,ep,up _ o (Ne.symm (hf e (by simp)).2.1) (Ne.symm (hf it (by simp)).2.1) e1,e2⟩
  have I2:a8 X ag σ (upd H s.heap.objs.size (.tup [.int i,x])) { s with heap:=g,toks:=s.toks+1 }:=by
   refine I.step (g':=s.gens) (d':=s.drawn) (ch:=[e,it]) (λc hc'=>?_) (λc o _ _ hc' z _=>?_) (λc o _ _ hc' z _=>⟨o.slots,?_⟩) (λc o _ z n=>?_) (λc o hc' z=>⟨o,?_⟩)
    (λc zs z=>by rw[aW (cS z hT)];exact z) (λc u zs z=>by rw[aW (cS z hT)];exact z) (λc ps z=>⟨#[],by rw[aW (cS z hT),z];simp⟩) ns (λc u z=>?_) I.bare
   ·exact⟨(hf c hc').2.2.2.1,(hf c hc').2.1,(hf c hc').2.2.2.2.1,(hf c hc').2.2.2.2.2⟩
   ·simp only[bp1,bq0,bv1,not_or]at hc'
    exact up c o hc'.1 hc'.2 z
   ·simp only[bp1,bq0,bv1,not_or]at hc'
    exact up c o hc'.1 hc'.2 z
   ·rw[aW (br1 (bp9 z))];exact n
   ·simp only[bp1,bq0,bv1,not_or]at hc'
    exact up c o hc'.1 hc'.2 z
   ·by_cases hcT:c=s.heap.objs.size
    ·subst hcT
     rw[bZ]at z;cases z
     exact⟨by show 2<=sizeLine;decide,[.int i s.toks,ux],.cons ⟨_,rfl⟩ (.cons rux .nil),⟨_,prG,rfl,_,rfl⟩,λu e=>by rw[prG]at e;cases e;rfl⟩
    ·rw[aW hcT]at z
     refine (I.hok c u z).stay (λc' o' hc2 q'=>?_) (λc' q'=>by rw[aW (cS q' hT)];exact q') λc' zs q'=>by rw[aW (cS q' hT)];exact q'
     rcases hc2 with rfl|hc2
     ·exact upH _ _ _ z q'
     ·exact upH _ _ _ hc2 q'
  refine⟨.ref s.heap.objs.size,_,I2,rfl,⟨_,x,hT,rfl,rfl,λxs' ha'=>?_⟩,⟨⟨ux,by push_cast;exact zz⟩,it'.at λo z=>sb.extBut _ o (Ne.symm d) z⟩,λc hc'=>?_⟩
  ·rw[I.tuple_inj ha' ha];exact hx
  ·obtain⟨o,z⟩:∃o,s.heap.get? c=some o:=by
    simp only[bp1,bq0,bv1]at hc'
    obtain⟨o1,f1,_⟩:=st.s1
    rcases hc' with rfl|rfl
    ·exact⟨_,ee⟩
    ·exact⟨_,f1⟩
   rw[aW (br1 (bp9 z))];exact (hf c hc').1
 ·intro X hP hw hK hc i ag s σ H E I hf st hg
  subst hP hw hK
  obtain⟨xs,ha,hi⟩:=hg
  obtain⟨us,ru,pu,lu⟩:=I.tuple ha
  obtain⟨old,ee⟩:=st.ee
  have hh:X.A.handled=none:=I.ok.hd hc;have e1:=ru.length;refine Zp.aP2 hh ee st.s1 pu (by rw[bz5];simp only[bo8];omega) λg kp=>⟨rfl,?_⟩
  have fpn:∀c u,H c=some u->c∉[e,it]:=λc u z hm=>by rw[(hf c hm).1]at z;cases z
  have upH:∀c o u,H c=some u->s.heap.get? c=some o->g.get? c=some o:=λc o u q z=>by
   have:=fpn c u q
   simp only[bp1,bq0,bv1,not_or]at this;exact kp c o this.2 z
  have ns:∀m,s.heap.Ns X.env.locals m->g.Ns X.env.locals m:=λm hm=>by
   obtain⟨o,es,ep,e1,e2⟩:=hm
   exact⟨o,es,ep,kp _ o (Ne.symm (hf it (by simp)).2.1) e1,e2⟩
  refine I.step (g':=s.gens) (d':=s.drawn) (ch:=[it]) (λc hc'=>?_) (λc o _ _ hc' z _=>?_) (λc o _ _ hc' z _=>⟨o.slots,?_⟩) (λc o _ z n=>n) (λc o hc' z=>⟨o,?_⟩)
   (λc zs z=>z) (λc u zs z=>z) (λc ps z=>⟨#[],by rw[z];simp⟩) ns (λc u z=>?_) I.bare
  ·have hm:c∈[e,it]:=bp0 _ hc'
   exact⟨(hf c hm).2.2.2.1,(hf c hm).2.1,(hf c hm).2.2.2.2.1,(hf c hm).2.2.2.2.2⟩
  ·exact kp c o (λy=>hc' (by rw[y];simp)) z
  ·exact kp c o (λy=>hc' (by rw[y];simp)) z
  ·exact kp c o (λy=>hc' (by rw[y];simp)) z
  ·refine (I.hok c u z).stay (λc' o' hc2 q'=>?_) (λ_ q'=>q') λ_ _ q'=>q'
   rcases hc2 with rfl|hc2
   ·exact upH _ _ _ z q'
   ·exact upH _ _ _ hc2 q'
 ·obtain⟨old,ee⟩:=st.ee
  exact wpAny_pyIter_enum ee q
section
variable {X:Cx}
noncomputable def W0 (K:ac)(ta:TA):TI:=λσ H R=>ta σ H λvs H1=>∃a,vs = [.ref a]/\((∃xs,aM K H1 a xs/\R (xL K a) H1)∨(∃xs,aJ K H1 a xs/\R (xM K a) H1))
theorem aP8 {elts:List Expr}{kt:Nat}{pt:Pos}{a:Expr}{ta:TA}{p pos:Pos}(hg:Gl X "enumerate")(hm:X.mg "enumerate" = none)(ha:PA X [a] ta)(hs:starEach [a] X.env = [(false,eval a X.env)]:=by rfl) :
  PI X (.Tuple elts kt pt) (.Call (.Name "enumerate" p) [a] [] pos) (W0 X.K ta):=by
 intro ag s σ H R I h;refine Call_ (lE I hg hm PyProof.Rows.boot_enumerate (bC5 (aO (ha pos ag s σ H _ I h) λus s1 ⟨vs,H1,I1,r1,q1⟩=>?_) (by rw[hs];rfl) (by rfl)))
 obtain⟨a',e,q⟩:=q1
 subst e;have fresh:∀k,H1 (s1.heap.objs.size+k)=none:=λk=>I1.hok.fresh (by1 _ _)
 cases r1 with
 |cons r rr=>
  cases rr;cases r;rcases q with⟨xs,h1,q⟩|⟨xs,h1,q⟩
  ·obtain⟨us,_,p1,_⟩:=I1.list h1
   refine call_enumerate_list p1.isList λh' z s1' sz kp=>wpAny_pyIter_enum z ?_
   refine⟨s1.heap.objs.size+1,[s1.heap.objs.size+1,s1.heap.objs.size],_,_,H1,rfl,I1.kept (t':=s1.toks) kp,
    aP0 a' _ _ (Nat.succ_ne_self _),⟨⟨_,z⟩,s1'⟩,λc hc=>?_,q⟩
   simp only[bp1,bq0,bv1]at hc;rcases hc with rfl|rfl
   ·exact I1.fpOk (by1 _ _) (fresh 1)
   ·exact I1.fpOk (bp7 _) (fresh 0)
  ·obtain⟨us,_,p1,_⟩:=I1.tuple h1
   refine Zp.aP5 p1 λh' z s1' sz kp=>wpAny_pyIter_enum z ?_
   refine⟨s1.heap.objs.size+1,[s1.heap.objs.size+1,s1.heap.objs.size],_,_,H1,rfl,I1.kept (t':=s1.toks) kp,
    aP7 a' _ _ (Nat.succ_ne_self _),⟨⟨_,z⟩,s1'⟩,λc hc=>?_,q⟩
   simp only[bp1,bq0,bv1]at hc;rcases hc with rfl|rfl
   ·exact I1.fpOk (by1 _ _) (fresh 1)
   ·exact I1.fpOk (bp7 _) (fresh 0)
end
end L2
namespace PP
open PySem L2 PyProof.Rows
noncomputable def k8 (xs:List PV):List PV:=xs.mapIdx λi x=>PV.tup [.int (i:Int),x]
theorem xN (xs:List PV):(k8 xs).length=xs.length:=by unfold k8;rw[List.length_mapIdx]
theorem W5 {xs:List PV}{i:Nat}{x:PV}(h:xs[i]? = some x):(k8 xs)[i]? = some (.tup [.int (i:Int),x]):=by
 unfold k8;rw[List.getElem?_mapIdx,h];rfl
theorem aP9 {xs:List PV}{i:Nat}{z:PV}(h:(k8 xs)[i]? = some z):∃x,xs[i]? = some x/\z = .tup [.int (i:Int),x]:=by
 unfold k8 at h;rw[List.getElem?_mapIdx]at h;cases e:xs[i]? with
 |none=>rw[e]at h;cases h
 |some x=>rw[e]at h;exact⟨x,rfl,(br7 h).symm⟩
noncomputable def xO (te:aF):eL:=λρ Q=>te ρ λx g=>∃xs,(x = .lst xs∨x = .tup xs)/\(g = .rd->flat x=true)/\Q (k8 xs) (rO g xs)
theorem aQ0 {K:ac}{H0:Hp}{W:ay->Prop}{g:Bool}{H1:Hp}{a:ay}{us:List V}{xs:List PV}(tw:∀a,W a->∃o,H1 a=some o/\dY o=true)(ha:∀W' H',Ev W H1 W' H'->aM K H' a us)(r:Reps K (Ms H0 W g) H1 us xs):kR K H0 W g H1 (xL K a) (k8 xs):=by
 have lr:=r.length;have ll:=xN xs;refine⟨λW' H' i e hi=>⟨us,us[i]'(by omega),ha W' H' e,by simp⟩,λW' H' i v H2 e y hi=>?_,λW' H' e=>⟨us,ha W' H' e,by omega⟩⟩
 obtain⟨T,x,hT,rfl,rfl,y⟩:=y
 obtain⟨z,hz,rz⟩:=r.get (y us (ha W' _ e))
 have sm:=bK hT (HO.tup [.int (i:Int),x])
 exact⟨sm,_,W5 hz,.tup bZ (.cons (.int _) (.cons ((rz.keep (e.keep tw)).same sm λ_ q=>q) .nil))⟩
theorem aQ1 {K:ac}{H0:Hp}{W:ay->Prop}{g:Bool}{H1:Hp}{a:ay}{us:List V}{xs:List PV}(tw:∀a,W a->∃o,H1 a=some o/\dY o=true)(ha:∀W' H',Ev W H1 W' H'->aJ K H' a us)(r:Reps K (Ms H0 W g) H1 us xs):kR K H0 W g H1 (xM K a) (k8 xs):=by
 have lr:=r.length;have ll:=xN xs;refine⟨λW' H' i e hi=>⟨us,us[i]'(by omega),ha W' H' e,by simp⟩,λW' H' i v H2 e y hi=>?_,λW' H' e=>⟨us,ha W' H' e,by omega⟩⟩
 obtain⟨T,x,hT,rfl,rfl,y⟩:=y
 obtain⟨z,hz,rz⟩:=r.get (y us (ha W' _ e))
 have sm:=bK hT (HO.tup [.int (i:Int),x])
 exact⟨sm,_,W5 hz,.tup bZ (.cons (.int _) (.cons ((rz.keep (e.keep tw)).same sm λ_ q=>q) .nil))⟩
section
variable {X:Cx}{σ:L2.St}{H:Hp}{te:aF}{R:It→Hp→Prop}
theorem aQ2 (h:LI X (xO te) σ H R):W0 X.K (iT (LE X te) kJ) σ H R:=by
 obtain⟨W,ρ,Q,px,q,k⟩:=h
 refine⟨W,ρ,_,px,q,?_⟩;rintro v H1 x g s r ⟨xs,hx,hg,q⟩;have px1:=px.mono s;have tw:∀a,W a->∃o,H1 a=some o/\dY o=true:=λa z=>(px1.wm a z).2
 rcases hx with rfl|rfl
 ·obtain⟨a,us,rfl,m,h,r⟩:=r.sqL
  have wa:¬W a:=by
   cases g with
   |fr=>exact (px.new m).1
   |nw=>exact m.1
   |sh=>exact m
   |rd=>have:=hg rfl;unfold flat at this;cases this
  exact⟨a,rfl,.inl ⟨us,aM.of h,k _ _ _ _ s (aQ0 tw (λW' H' e=>aM.of (e _ _ h wa rfl).1) (lQ px (λz=>by have:=hg z;unfold flat at this;cases this) r)) q⟩⟩
 ·obtain⟨a,us,rfl,h,r⟩:=r.sqT
  refine⟨a,rfl,.inr ⟨us,aJ.of h,k _ _ _ _ s (aQ1 tw (λW' H' e=>aJ.of (e _ _ h (λz=>?_) rfl).1) (lQ px (λz=>by have:=hg z;unfold flat at this;exact this) r)) q⟩⟩
  obtain⟨o,h',mu⟩:=tw _ z;rw[h]at h';cases h';cases mu
theorem aQ3 {elts:List Expr}{kt:Nat}{pt p2 pos:Pos}{a:Expr}{ta:aF}(hg:Gl X "enumerate")(hm:X.mg "enumerate" = none)(ha:QE X a ta)(hs:starEach [a] X.env = [(false,eval a X.env)]:=by rfl):QI X (.Tuple elts kt pt) (.Call (.Name "enumerate" p2) [a] [] pos) (xO ta):=
 oX (aP8 hg hm (gW ha jD hs) hs) λ_ _ _=>aQ2
end
section
variable {X:Cx}{e:Expr}{te:aF}{pos p2:Pos}{scope:Scope}{N:List Str}{fr:List (Option Nat)}{x y:Str}{tp xp yp:Pos}{kt:Nat}{iter elt:Expr}{ti:eL}
noncomputable abbrev xP (x y:Str)(xp yp:Pos)(kt:Nat)(tp:Pos):Expr:=.Tuple [.Name x xp,.Name y yp] kt tp
theorem aQ4 {ifs:List Expr}{tcs:cL}(hc:X.calm=true)(he:∀(s:ax) (H:Hp) (C:ay) (fp:List ay),QE (bR X scope N s H C fp cU) elt te)(hi:∀(s:ax) (H:Hp) (C:ay) (fp:List ay),kN (bR X scope N s H C fp cU) ifs (LT (bR X scope N s H C fp cU) tcs))(hN:N.Nodup)(h0:N[0]? = some x)(h1:N[1]? = some y)(hl:∀(s:ax) (H:Hp) (C:ay) (fp:List ay),(bR X scope N s H C fp cU).env.scope.names.lookup x=some .local)(hl2:∀(s:ax) (H:Hp) (C:ay) (fp:List ay),(bR X scope N s H C fp cU).env.scope.names.lookup y=some .local)(s:ax)(H:Hp) :
  mO X scope N (xP x y xp yp kt tp) ifs elt s H (o8 X.K 2 (fU (cW 0) (fU (cW 1) mJ))) (LT (X.frm H) tcs) (LE (X.frm H) te):=
 ⟨λC fp=>uK (X:=bR X scope N s H C fp cU) hc (i9 (fR hN h0 (.inl (hl s H C fp)) (.inr (hl s H C fp))) (i9 (fR hN h1 (.inl (hl2 s H C fp)) (.inr (hl2 s H C fp))) qJ)),λC fp=>hi s H C fp,λC fp=>he s H C fp⟩
theorem W6 (hi:QI X (xP x y xp yp kt tp) iter ti)(he:∀(s:ax) (H:Hp) (C:ay) (fp:List ay),QE (bR X scope N s H C fp cU) elt te)(hc:X.calm=true:=by rfl)(S:eQ X scope N fr:=by exact eQ.of rfl rfl)(hN:N.Nodup:=by decide +kernel)(h0:N[0]? = some x:=by rfl)(h1:N[1]? = some y:=by rfl)(hl:∀(s:ax) (H:Hp) (C:ay) (fp:List ay),(bR X scope N s H C fp cU).env.scope.names.lookup x=some .local:=by intro _ _ _ _;rfl)(hl2:∀(s:ax) (H:Hp) (C:ay) (fp:List ay),(bR X scope N s H C fp cU).env.scope.names.lookup y=some .local:=by intro _ _ _ _;rfl)(hf:fr[0]? = some none:=by rfl)(hf2:fr[1]? = some none:=by rfl)(hs:∀x,foldedSetIterable iter X.env x=pure x:=by intro _;rfl):QE X (.ListComp elt [⟨xP x y xp yp kt tp,iter,[],0⟩] scope pos) (eV ti fr (mZ 0 1) dM te):=
 cO (vJ (gh:=λ_=>o8 X.K 2 (fU (cW 0) (fU (cW 1) mJ))) (tch:=λH=>LT (X.frm H) dM) (teh:=λH=>LE (X.frm H) te) hc S hi (aQ4 hc he (λ_ _ _ _=>x4) hN h0 h1 hl hl2) hs) λ_ _ _=>rS (N5 _ 0 1) (λi e=>by rcases e with e|e<;>(subst e;assumption))
end
section
variable {X:Cx}{a b e o f:Expr}{ta tb te td tk tx:aF}{pos p2 ah ai:Pos}{σ:L2.St}{H:Hp}{Q':VK}
theorem xQ {x:Str}{n:Int}{t:Nat}(hg:Gl X x)(hm:X.mg x=some (.int n t))(hd:(x==("__debug__":Str))=false:=by decide):QE X (.Name x pos) (qC (.int n)):=
 cO (ao9 (v:=.int n) hg hm ⟨t,rfl⟩ hd) λ_ _ _=>oQ λ_=>.int n
end
end PP
namespace Core
open PySem L2 PP
section
variable (ws:ae)(ls:aa)(os ns:ae)
noncomputable def m9:Nat->ae
 |0=>[]
 |k+1=>m9 k++(os.find? (kin ws ls (ns++m9 k))).toList
noncomputable def xR (k:Nat):Option Int:=os.find? (kin ws ls (ns++m9 ws ls os ns k))
end
section
variable {ws:ae}{ls:aa}{os ns:ae}
theorem bn9 {k:Nat}{h:Int}(e:xR ws ls os ns k=some h):m9 ws ls os ns (k+1)=m9 ws ls os ns k++[h]:=by
 show m9 ws ls os ns k++(xR ws ls os ns k).toList=_;rw[e];rfl
noncomputable def aQ5 (ws:ae)(ls:aa)(T:ae):Prop:=∀h∈rng ws.length,kin ws ls T h=false
theorem bo0 {k:Nat}{h:Int}(e:xR ws ls os ns k=some h):h∈os/\h∉ns++m9 ws ls os ns k:=
 ⟨List.mem_of_find?_eq_some e,bA3 (aN3 (List.find?_some e))⟩
end
theorem sY {i:Nat}{h:Int}{g:Bool}{ρ:bG}{Q:bG->Prop}(q:Q (ρ.set i (some (.sh true (.int h))))):cN i (.int h) g ρ Q:=by
 show Q (ρ.set i (some (.sh (g||true) (.int h))));rw[Bool.or_true];exact q
noncomputable def aQ6 (ns S:ae):Int:=(ns.length:Int)-(((ns.filter λx=>decide (x∈S)).length:Nat):Int)
noncomputable def aQ7 (ws:ae)(ls:aa)(S:ae)(h:Int):Bool:=decide (aQ6 (vQ ls h) S<ws.getD h.toNat 0)
noncomputable def stay (ws:ae)(ls:aa)(S:ae):ae:=S.filter (aQ7 ws ls S)
end Core
namespace Raw
open PySem PySem.W PyProof.Rows
section
variable {prog:az}{w:bc}{A:ba}{E:av→ax→Prop}{s:ax}{T:String}{r d:ay}{n:Nat}{P:Nat→av→Prop}{OK:Heap→Prop}
theorem aQ8 {R:Result->ax->Prop}(K:KdlSrc prog w T r d n P OK)(hh:A.handled=none)(hok:OK s.heap)(hn:n<=sizeLine)(hR:∀h' tk acc c,(∀b o,b≠s.heap.objs.size->(s.heap.push { cls:=.type "list",data:=.seq ([]:List av).toArray }).get? b=some o->h'.get? b=some o)->h'.get? s.heap.objs.size=some { cls:=.type "list",dict:=none,data:=.seq acc c,slots:=#[] }->ItemsOf P acc n->R (.ok (.ret (.ref s.heap.objs.size))) { s with heap:=h',toks:=tk }) :
  codeAny (model prog w) A (.builtin "proto.collect" ⟨[.ref r],[]⟩) R s:=by
 have lt:=K.there _ hok;refine bv8 PySem.F.entry_proto_collect ?_;rw[bt7 PySem.F.plain_proto_collect _];show wpAny _ A.in1 (newList [] >>= λl=>again (.builtin "list.__iadd__" ⟨[l,.ref r],[]⟩)) _ _ s;refine bo2 (bs2 ?_);refine bo5 ⟨by6 PySem.F.plain_list_iadd _,bv8 PySem.F.entry_list_iadd ?_⟩;rw[bt7 PySem.F.plain_list_iadd _];show wpAny _ A.in1 (Builtin.List.listExtendWith (.ref s.heap.objs.size) (.ref r) (.ref s.heap.objs.size)) _ _ _;exact kdl_extend (s:={ s with heap:=s.heap.push { cls:=.type "list",data:=.seq ([]:List av).toArray } }) (R:=R) K hh (K.keep _ _ hok λb _ o e=>bo4 _ e) s.heap.objs.size (bw3 lt.1) (bw3 lt.2) _ 0 (bp4 _ rfl) hR hn
theorem W7 {Q:List av->ax->Prop}(K:KdlSrc prog w T r d n P OK)(hh:A.handled=none)(hok:OK s.heap)(hn:n<=sizeLine)(hQ:∀h' tk acc,(∀b o,s.heap.get? b=some o->h'.get? b=some o)->s.heap.objs.size<=h'.objs.size->ItemsOf P acc n->Q acc.toList { s with heap:=h',toks:=tk }) :
  wpAny (model prog w) A (collect (.ref r)) Q E s:=by
 unfold collect;refine bo2 (wpAny_runValue (aQ8 (s:=s) K hh hok hn λh' tk acc c kp at1 it=>?_));show wpAny _ A (load s.heap.objs.size >>= _) _ _ _;refine bo2 (wpAny_load at1 ?_);exact bo5 (hQ h' tk acc (λb o e=>kp b o (br1 (bp9 e)) (bo4 _ e)) (by8 (bp9 at1)) it)
end
end Raw
namespace Core
open PySem L2 PP
theorem aQ9 {xs:List PV}{w:Int}(h:0<=w):jQ xs none (some w)=xs.take w.toNat:=by
 unfold jQ;rw[HT.au6,List.drop_zero,Nat.sub_zero]
 have:HT.aY xs.length xs.length (some w)=min w.toNat xs.length:=by
  show (if w<0 then (w+(xs.length:Int)).toNat else min w.toNat xs.length)=_;rw[if_neg (by omega)]
 rw[this,<- List.take_take,bx0]
end Core
namespace PP
open PySem L2 PyProof.Rows
noncomputable def iZ (xs ys:List PV):List PV:=List.zipWith (λx y=>PV.tup [x,y]) xs ys
theorem xS (xs ys:List PV):(iZ xs ys).length=min xs.length ys.length:=by unfold iZ;rw[List.length_zipWith]
theorem W8 {xs ys:List PV}{i:Nat}{x y:PV}(h:xs[i]? = some x)(h':ys[i]? = some y):(iZ xs ys)[i]? = some (.tup [x,y]):=by
 unfold iZ;rw[List.getElem?_zipWith,h,h']
theorem aR0 {xs ys:List PV}{i:Nat}{z:PV}(h:(iZ xs ys)[i]? = some z):∃x y,xs[i]? = some x/\ys[i]? = some y/\z = .tup [x,y]:=by
 unfold iZ at h;rw[List.getElem?_zipWith]at h;cases e:xs[i]? with
 |none=>rw[e]at h;cases h
 |some x=>
  cases e':ys[i]? with
  |none=>rw[e,e']at h;cases h
  |some y=>rw[e,e']at h;exact⟨x,y,rfl,rfl,(br7 h).symm⟩
theorem aR1 {K:ac}{H0:Hp}{W:ay->Prop}{g:Bool}{H1:Hp}{a b:ay}{us vs:List V}{xs ys:List PV}(tw:∀a,W a->∃o,H1 a=some o/\dY o=true)(ha:∀W' H',Ev W H1 W' H'->aJ K H' a us)(hb:∀W' H',Ev W H1 W' H'->aJ K H' b vs)(r:Reps K (Ms H0 W g) H1 us xs)(r':Reps K (Ms H0 W g) H1 vs ys):kR K H0 W g H1 (vT K a b) (iZ xs ys):=by
 have lr:=r.length;have lr':=r'.length;have ll:=xS xs ys;refine⟨λW' H' i e hi=>⟨us,vs,us[i]'(by omega),vs[i]'(by omega),ha W' H' e,hb W' H' e,by simp,by simp⟩,λW' H' i v H2 e y hi=>?_,λW' H' e=>⟨us,vs,ha W' H' e,hb W' H' e,by omega⟩⟩
 obtain⟨T,x,y',hT,rfl,rfl,y⟩:=y
 obtain⟨h1,h2⟩:=y us vs (ha W' _ e) (hb W' _ e)
 obtain⟨z,hz,rz⟩:=r.get h1
 obtain⟨z',hz',rz'⟩:=r'.get h2
 have sm:=bK hT (HO.tup [x,y'])
 exact⟨sm,_,W8 hz hz',.tup bZ (.cons ((rz.keep (e.keep tw)).same sm λ_ q=>q) (.cons ((rz'.keep (e.keep tw)).same sm λ_ q=>q) .nil))⟩
end PP
namespace Core
open PySem L2 PP
section
variable {ws:ae}{ls:aa}{ns wts:ae}{m:Nat}
noncomputable def loose (ls:aa)(wts ns:ae):List ((Int×Int)×Int):=(ls.zip wts).filter λz=>!(decide (z.1.1∈ns)&&decide (z.1.2∈ns))
end
end Core
namespace PP
open PySem L2 PyProof.Rows
section
variable {X:Cx}{a b e:Expr}{ta tb te:aF}{D:dW}{σ:L2.St}{H:Hp}{pos p2:Pos}
noncomputable def pP (p:hU)(te:aF):aS:=λD ρ=>te ρ λx g=>w9 g x/\p x (w6 g x) ρ λρ2=>D.nx ρ2
theorem W9 {p:hU}{g:TG}{own:Nat->Prop}(hg:kS X.K own p g)(h:LS X (pP p te) D σ H):lF (LE X te) g D σ H:=by
 obtain⟨W,ρ,D',px,q,k⟩:=h
 refine⟨W,ρ,_,px,q,?_⟩;rintro v H1 x gt s r ⟨st,q⟩;refine hg X.H₀ W σ ρ H1 v x _ _ _ (px.mono s) (M5 px st r) q λσ' ρ' px' _ _ q'=>?_
 exact k.nx W σ' H1 ρ' (Ev.same s) px' q'
end
noncomputable abbrev fN:=(Str->Prop)->cD
noncomputable def EX (K:ac)(H0:Hp)(Ep:Str->Prop):XK:=λc d H'=>d=none/\aG H0 H'/\∃n C,c = .ref C/\PySem.W.nsIn K mainGlobals n=some (some (.ref C))/\Ep n
noncomputable def X0 (K:ac)(p:fN):Sp:=λvs H Q E=>∃xs Qp Ep,Reps K (λ_=>True) H vs xs/\p Ep xs Qp/\(∀v H' x,aG H H'->aE K (λa=>H a=none) H' v x->Qp x->Q v H')/\
 ∀n C H',aG H H'->PySem.W.nsIn K mainGlobals n=some (some (.ref C))->Ep n->E (.ref C) none H'
structure cQ (P:az)(w:bc)(K:ac)(mg:Str->Option av)(base:Heap)(k:Nat)(x:Str)(ps:List Str)(p:fN):Prop where
 ex:∃f fd,dX P w K mg base (eY P w) k f fd ps (X0 K p)/\lH K fd ps []/\PySem.W.keepIn K (.ref f)=true/\mg x=some (.ref f)
section
variable {X:Cx}{σ:L2.St}{H:Hp}{D:dW}{tr:cM}{Q':VK}{a b c e:Expr}{es:List Expr}{pos p2 cp np hp:Pos}{t:aS}{te:aF}{tc:cL}
noncomputable def kZ (Ep:Str->Prop)(p:fN)(t:cM):aF:=aD (p Ep) t
theorem X1 {p:fN}{Ep:Str->Prop}(h:LE X (kZ Ep p tr) σ H Q'):uW (X0 X.K p) [] (EX X.K X.H₀ Ep) (LA X tr) σ H Q':=by
 obtain⟨W,ρ,Q,px,q,k⟩:=h
 refine⟨W,ρ,_,px,q,λvs H1 xs s1 r1 q1=>⟨_,_,Ep,by rw[bv0];exact r1.any,q1,λv H' x s2 r2 q2=>k v H' x .fr (s1.trans s2) (r2.same (aG.refl _) λ_ z=>s1.free z) q2,λn C H' s2 z1 z2=>⟨rfl,(px.same.trans s1).trans s2,n,C,rfl,z1,z2⟩⟩⟩
theorem nN {Ep:Str->Prop}{k j:Nat}{x:Str}{ps:List Str}{p:fN}(hX:nL X (EX X.K X.H₀ Ep))(d:cQ X.prog X.w X.K X.mg X.base k x ps p)(hr:cI j X.A)(ha:QA X (e::es) tr)(hkj:k<=j:=by decide)(hg:Gl X x:=by rfl)(hdb:(x==("__debug__":Str))=false:=by decide)(he:starEach (e::es) X.env=(false,eval e X.env)::starEach es X.env:=by rfl)(hpl:(backTo pos (starEach es X.env)).any (·.1)=false:=by rfl):QE X (.Call (.Name x p2) (e::es) [] pos) (kZ Ep p tr):=by
 obtain⟨f,fd,F,b,kp,m⟩:=d.ex
 exact cO (uX F (hr.mono hkj) hg m kp b .nil hX.pass ha hdb he hpl) λ_ _ _=>X1
theorem sZ {k j:Nat}{x:Str}{ps:List Str}{p:fN}(d:cQ X.prog X.w X.K X.mg X.base k x ps p)(hr:cI j X.A)(ha:QA X (e::es) tr)(hkj:k<=j:=by decide)(hg:Gl X x:=by rfl)(hdb:(x==("__debug__":Str))=false:=by decide)(he:starEach (e::es) X.env=(false,eval e X.env)::starEach es X.env:=by rfl)(hpl:(backTo pos (starEach es X.env)).any (·.1)=false:=by rfl):QE X (.Call (.Name x p2) (e::es) [] pos) (aD (p λ_=>False) tr):=by
 obtain⟨f,fd,F,b,kp,m⟩:=d.ex
 refine cO (uX F (E:=EX X.K X.H₀ λ_=>False) (hr.mono hkj) hg m kp b .nil (λ_ _ _ _ _ _ _ h=>?_) ha hdb he hpl) λ_ _ _ h=>X1 (Ep:=λ_=>False) h
 obtain⟨_,_,_,_,_,_,_,_,_,_,_,_,z⟩:=h
 exact z.elim
noncomputable def nO (Ep:Str->Prop)(n:Str)(t:cM):aS:=λ_ ρ=>t ρ λxs=>xs.length<=1000/\Ep n
theorem aR2 {Ep:Str->Prop}{n:Str}{C:ay}(hn:PySem.W.nsIn X.K mainGlobals n=some (some (.ref C)))(h:LS X (nO Ep n tr) D σ H):U2 (EX X.K X.H₀ Ep) C (LA X tr) D σ H:=by
 obtain⟨W,ρ,D',px,q,k⟩:=h
 exact⟨W,ρ,_,px,q,λvs H1 xs s1 r z=>⟨by rw[r.length];exact w4 z.1,rfl,px.same.trans s1,n,C,rfl,hn,z.2⟩⟩
structure Xc (K:ac)(mg:Str->Option av)(base:Heap)(n:Str):Prop where
 ex:∃C B newId initId bm,OwnCls n C bm newId mg base/\ExcBaseFacts B newId initId bm/\PySem.W.nsIn K mainGlobals n=some (some (.ref C))
theorem t0 {Ep:Str->Prop}{n:Str}(hX:nL X (EX X.K X.H₀ Ep))(x:Xc X.K X.mg X.base n)(ha:QA X (e::es) tr)(hc:X.calm=true:=by rfl)(hg:Gl X n:=by rfl)(hd:(n==("__debug__":Str))=false:=by decide)(he:starEach (e::es) X.env=(false,eval e X.env)::starEach es X.env:=by rfl)(hpl:(backTo cp (starEach es X.env)).any (·.1)=false:=by rfl):QS X (.Raise (some (.Call (.Name n np) (e::es) [] cp)) none pos) (nO Ep n tr):=by
 obtain⟨C,B,newId,initId,bm,O,FB,hn⟩:=x.ex
 exact eM (aM5 hX hc O FB ha hg hd he hpl) λ_ _ _=>aR2 hn
noncomputable def oI:V->av
 |.ref a=>.ref a
 |.ty n=>.type n
 |_=>.none
end
structure t5 (K:ac)(C:ay):Prop where
 cls:PySem.W.isClsIn K C=true
 ty:PySem.W.typeIn K (.ref C)=some (.type "type")
 ga:PySem.W.findIn K (.ref C) "__getattribute__" = some (some (.builtin "BaseException.__getattribute__"))
 gt:PySem.W.findIn K (.ref C) "__getattr__" = some none
 fc:PySem.W.findIn K (.ref C) "__class__" = some (some (.builtin "object.__class__"))
 fg:PySem.W.specialIn K (.builtin "object.__class__") "__get__" = some (some (.builtin "getset_descriptor.__get__"))
 ft:PySem.W.takesIn K (.builtin "object.__class__")=some true
 ob:PySem.W.mroIn K C (.type "object")=some true
 be:PySem.W.mroIn K C (.type "BaseException")=some true
theorem xT {K:ac}{h₀:Heap}{mg:Str->Option av}{x:Str}{C:ay}{bmB:List av}{newId:String}(X:K.In h₀)(m:mg x=some (.ref C))(q:PySem.W.excIn K C bmB newId=true):OwnCls x C bmB newId mg h₀:=by
 refine⟨m,?_⟩;unfold PySem.W.excIn at q;split at q
 case h_2=>cases q
 rename_i dd cd sl ho
 split at q
 case h_2=>cases q
 rename_i C' bm k0 k1 k2 k3 n k5 hm hs
 simp only[bz1,beq_iff_eq,Bool.not_eq_true']at q
 obtain⟨⟨⟨⟨⟨rfl,rfl⟩,dl⟩,ht⟩,hok⟩,hni⟩:=q
 obtain⟨nm,bs,mro,ns,qn,hd,sn,sub,ab,col,del⟩:=cd
 dsimp only at hm dl hok hni;subst hm dl;obtain rfl:sl = #[k0,k1,k2,k3,some (.builtin n),k5]:=by
  obtain⟨l⟩:=sl
  exact congrArg Array.mk hs
 exact⟨bm,ns,nm,qn,bs,hd,sn,sub,ab,col,dd,k0,k1,k2,k3,k5,_,X _ _ ho,.of_isNs (PySem.W.isNs_of_in X hok),PySem.W.nsMap_none_of_in X hok hni,PySem.W.tail_of_in X ht⟩
theorem cQ.of {P:az}{w:bc}{K:ac}{mg:Str->Option av}{base:Heap}{k:Nat}{x:Str}{ps N:List Str}{p:fN}{st:Stmt}{f:ay}{fd:FuncData}(F:gJ K x x st f fd)(m:mg x=some (.ref f))(S:FnScope N ps (b6 st))(hb:∀(kV doc pm:av) (an:Option ay) (cdv ct:av) (us:List av),us.length=ps.length->bindArgs (PySem.W.fnOf x x (jF st) (eO st) (b6 st) .none kV doc pm an cdv ct) ⟨us,[]⟩=pure (ps.zip us))(t:(Str->Prop)->aS)(len:∀Ep xs Q,p Ep xs Q->xs.length=ps.length)(rd:∀Ep xs Q,p Ep xs Q->t Ep { nx:=λ_=>Q .non,rt:=Q } (gB N xs))(body:∀(cdv:av) (A:ba) (outer:List Env) (s:ax) (H:Hp) (E:XK) (Ep:Str->Prop),cI k (A.deeper (envOfC x (b6 st) s.heap.objs.size f cdv))->nL (dH (eY P w) P w K mg base N x (b6 st) f cdv A outer s H E) (EX K H Ep)->
   fJ (dH (eY P w) P w K mg base N x (b6 st) f cdv A outer s H E) (eO st) (t Ep)):cQ P w K mg base (k+1) x ps p:=by
 refine⟨f,fd,F.okX S (λvs H Q E h=>?_) (λcdv A outer s H vs Q E hr h=>?_),F.binds hb,F.kp,m⟩
 ·obtain⟨xs,Qp,Ep,r,q,_⟩:=h
  rw[r.length];exact len Ep xs Qp q
 ·obtain⟨xs,Qp,Ep,r,q,k,ke⟩:=h
  have ht:=body cdv A outer s H E Ep hr (aM4 λc d H' z=>?_)
  ·refine⟨_,ht,λ_=>False,gB N xs,_,x3 r,rd Ep xs Qp q,?_,?_,?_,?_⟩
   ·exact λW' σ' H' ρ' e px q=>k _ _ _ px.same .non q
   ·exact λv H' x s r q=>k _ _ _ s r q
   ·exact λW' σ' H' ρ' e px q=>q
   ·exact λW' σ' H' ρ' e px q=>q
  ·obtain⟨rfl,s1,n,C,rfl,z1,z2⟩:=z
   exact ke n C H' s1 z1 z2
end PP
namespace Core
open PySem L2 PP
noncomputable abbrev nQ (t:(Str->Prop)->aS)(N:List Str)(p:fN):Prop:=∀Ep xs Q,p Ep xs Q->t Ep { nx:=λ_=>Q .non,rt:=Q } (gB N xs)
end Core
namespace PP
open PySem L2
theorem us1 {us:List av}(h:us.length=1):∃a,us = [a]:=List.length_eq_one_iff.mp h
theorem us2 {us:List av}(h:us.length=2):∃a b,us = [a,b]:=by
 cases us with
 |nil=>cases h
 |cons a r=>
  obtain⟨b,rfl⟩:=us1 (us:=r) (by simpa using h)
  exact⟨a,b,rfl⟩
theorem xU {us:List av}(h:us.length=3):∃a b c,us = [a,b,c]:=by
 cases us with
 |nil=>cases h
 |cons a r=>
  obtain⟨b,c,rfl⟩:=us2 (us:=r) (by simpa using h)
  exact⟨a,b,c,rfl⟩
theorem X2 {us:List av}(h:us.length=4):∃a b c d,us = [a,b,c,d]:=by
 cases us with
 |nil=>cases h
 |cons a r=>
  obtain⟨b,c,d,rfl⟩:=xU (us:=r) (by simpa using h)
  exact⟨a,b,c,d,rfl⟩
section
variable {X:Cx}{e:Expr}{tk:aF}{D:dW}{σ:St}{H:Hp}{pos:Pos}
noncomputable def t6 (i:Nat)(tk:aF):aS:=λD ρ=>∃ps,ρ[i]? = some (some (.own (.dT ps)))/\tk ρ λy _=>∃k,y = .tup (k.map kP)/\(∃j:Nat,(ps.map (·.1))[j]? = some k)/\∀j:Nat,(ps.map (·.1))[j]? = some k->D.nx (ρ.set i (some (.own (.dT (ps.eraseIdx j)))))
theorem aR3 {i:Nat}(h:LS X (t6 i tk) D σ H):o6 (U6 (kI i) (LE X tk)) D σ H:=by
 obtain⟨W,ρ,D',px,⟨ps,hi,q⟩,k⟩:=h
 obtain⟨v,ev,a,rfl,wa,kvs,ea,e1,r⟩:=px.sl i _ hi
 refine⟨_,ev,a,rfl,.inr ⟨kvs,.inl ea⟩,W,ρ,_,px,q,?_⟩;rintro kv H2 y g s ry ⟨kk,rfl,is,q⟩
 obtain⟨b,us,rfl,hb,rb⟩:=ry.sqT
 obtain rfl:=rT rb;have ea2:=s _ _ ea;refine⟨kvs,kk,b,ea2,rfl,hb,by rw[e1];exact is,λj v hj=>?_⟩;rw[e1]at hj;refine k.nx W σ _ _ ((Ev.same s).trans (Ev.upd wa)) ((px.mono s).updT hi ev wa ⟨?_,?_⟩) (q j hj)
 ·rw[Raw.jY,Raw.jY,e1]
 ·rw[Raw.jY,Raw.jY]
  exact ((r.same s λ_ z=>z).eraseIdx j).keep (.upd ea2 rfl λb m=>⟨mV wa m,m⟩)
theorem X3 (i:Nat){x:Str}{ah ai xpos:Pos}(hu:X.A.units+1<cLine)(he:QE X e tk)(hm:M1 X (.Name x xpos) "pop" ah e ai:=by exact⟨rfl,rfl,rfl,rfl⟩)(hN:X.N[i]? = some x:=by rfl)(hv:iR X.env.scope x:=by first|exact Or.inl rfl|exact Or.inr (Or.inl rfl)|exact Or.inr (Or.inr rfl))(hd:(x==("__debug__":Str))=false:=by decide)(hcd:(x==("__classdict__":Str))=false:=by decide)(hsw:swapsWith (.Call (.Attribute (.Name x xpos) "pop" ah) [e] [] ai) none pos.line X.env=pure false:=by rfl):QS X (.Expr (.Call (.Attribute (.Name x xpos) "pop" ah) [e] [] ai) pos) (t6 i tk):=
 eM (qI (aM9 hu (lD hN hv hd hcd) he hm) hsw) λ_ _ _=>aR3
end
end PP
namespace Core
open PySem L2 PP
theorem t7:∀(m:Nat) (l:List Nat),l.Nodup->(∀x∈l,x<m)->l.length<=m
 |0,[],_,_=>bp7 _
 |0,x::_,_,h=>absurd (h x bp5) (bz8 _)
 |m+1,l,nd,h=>by
  by_cases hm:m∈l
  ·have h1:=t7 m (l.erase m) (nd.erase m) λx hx=>by
    obtain⟨h2,h3⟩:=(nd.mem_erase_iff).mp hx
    have:=h x h3
    omega
   rw[List.length_erase_of_mem hm]at h1;omega
  ·have h1:=t7 m l nd λx hx=>by
    have:=h x hx
    have:x≠m:=λz=>hm (z▸hx)
    omega
   omega
end Core
namespace PP
open PySem L2
section
variable {X:Cx}{te:aF}{pos p2:Pos}{scope:Scope}{N:List Str}{fr:List (Option Nat)}{x:Str}{tp:Pos}{iter elt:Expr}{ti:eL}
theorem aR4 {ifs:List Expr}{tcs:cL}(he:∀(s:ax) (H:Hp) (C:ay) (fp:List ay),QE (bR X scope N s H C fp cU) elt te)(hi:∀(s:ax) (H:Hp) (C:ay) (fp:List ay),kN (bR X scope N s H C fp cU) ifs (LT (bR X scope N s H C fp cU) tcs))(hN:N.Nodup)(h0:N[0]? = some x)(hl:∀(s:ax) (H:Hp) (C:ay) (fp:List ay),(bR X scope N s H C fp cU).env.scope.names.lookup x=some .cell)(ho:scope.names.lookup x=some .cell)(s:ax)(H:Hp) :
  mO X scope N (.Name x tp) ifs elt s H (cW 0) (LT (X.frm H) tcs) (LE (X.frm H) te):=
 ⟨λC fp=>fR (X:=bR X scope N s H C fp cU) hN h0 (.inr (hl s H C fp)) (.inl (show (scope.names.lookup x==some NameKind.cell)=true by rw[ho];rfl)),λC fp=>hi s H C fp,λC fp=>he s H C fp⟩
theorem X4 {i:Nat}{z:Str}{zp:Pos}(nd:X.N.Nodup)(hi:QI X (.Name x tp) iter ti)(he:∀(s:ax) (H:Hp) (C:ay) (fp:List ay),QE (bR X scope N s H C fp cU) elt te)(hz:X.N[i]? = some z:=by rfl)(hzl:X.env.scope.names.lookup z=some .local:=by rfl)(hsw:swapsWith (.ListComp elt [⟨.Name x tp,iter,[],0⟩] scope p2) (some (.Name z zp)) pos.line X.env=pure true:=by rfl)(hc:X.calm=true:=by rfl)(S:eQ X scope N fr:=by exact eQ.of rfl rfl)(hN:N.Nodup:=by decide +kernel)(h0:N[0]? = some x:=by rfl)(hl:∀(s:ax) (H:Hp) (C:ay) (fp:List ay),(bR X scope N s H C fp cU).env.scope.names.lookup x=some .cell:=by intro _ _ _ _;rfl)(ho:scope.names.lookup x=some .cell:=by rfl)(hf:fr[0]? = some none:=by rfl)(hs:∀x,foldedSetIterable iter X.env x=pure x:=by intro _;rfl):QS X (.Assign [.Name z zp] (.ListComp elt [⟨.Name x tp,iter,[],0⟩] scope p2) pos) (bH i (eV ti fr (cN 0) dM te)):=
 eM (aA9 (gh:=λ_=>cW 0) (tch:=λH=>LT (X.frm H) dM) (teh:=λH=>LE (X.frm H) te) hc S hi (aR4 he (λ_ _ _ _=>x4) hN h0 hl ho) nd hz hzl hsw hs) λD σ H h=>rS (rR _ 0) (λi e=>by subst e;exact hf) (M6 h)
end
section
variable {X:Cx}{a:Expr}{tk:aF}{σ:St}{H:Hp}{Q':VK}{pos p2:Pos}
theorem aR5 (hN:X.N.Nodup)(i j:Nat){x y:Str}{ah ai xpos:Pos}(hi:X.N[i]? = some x:=by rfl)(hj:X.N[j]? = some y:=by rfl)(hv:iR X.env.scope x:=by first|exact Or.inl rfl|exact Or.inr (Or.inl rfl)|exact Or.inr (Or.inr rfl))(hd:(x==("__debug__":Str))=false:=by decide)(hcd:(x==("__classdict__":Str))=false:=by decide)(hbase:attributeBase (.Name x xpos) "pop" X.env (eval (.Name x xpos) X.env)=eval (.Name x xpos) X.env:=by rfl)(hline:(ah.endLine==ai.line)=true:=by rfl)(hx:i8 X.env.scope y:=by first|exact Or.inl rfl|exact Or.inr rfl)(hs:swapsWith (.Call (.Attribute (.Name x xpos) "pop" ah) [] [] ai) (some (.Name y p2)) pos.line X.env=pure false:=by rfl)(hf:X.fn y=true∨X.env.scope.names.lookup y=some .local:=by first|exact .inl rfl|exact .inr rfl) :
  QS X (.Assign [.Name y p2] (.Call (.Attribute (.Name x xpos) "pop" ah) [] [] ai) pos) (wB i j):=
 eM (uL hN hj hx (ax3 PySem.F.plainAttrs_list PySem.F.slot_list_pop PySem.F.type_list_pop ax7 (lD hi hv hd hcd) hbase hline) hs hf) λ_ _ _=>aF3
end
end PP
namespace Core
open PySem L2 PP
theorem X5 (n:Nat):∀(a b:ad),((((tups a).zip (tups b)).all λp=>bL (n+1) p.1 p.2)&&(tups a).length==(tups b).length)=decide (a=b)
 |[],[]=>rfl
 |[],_::_=>by simp[tups]
 |_::_,[]=>by simp[tups]
 |x::a,y::b=>by
  have ih:=X5 n a b;have e:∀(z:ae) (c:ad),tups (z::c)=PV.tup (intz z)::tups c:=λ_ _=>rfl
  rw[e,e];simp only[by4,bG7,bs9,wL]at ih ⊢;by_cases h:x=y
  ·subst h
   have:((tups a).length+1==(tups b).length+1)=((tups a).length==(tups b).length):=by simp
   rw[this,bp8 rfl,bE8,ih];simp
  ·rw[bp6 h,bF1,bF1]
   simp[h]
theorem t8 (n:Nat)(a b:ad):bL (n+2) (.lst (tups a)) (.lst (tups b))=decide (a=b):=X5 n a b
theorem pQ (n:Nat):∀(a b:ad),cY (n+2) (.lst (tups a)) (.lst (tups b))=true
 |[],_=>by unfold cY tups;simp
 |_::_,[]=>by unfold cY tups;simp
 |x::a,y::b=>by
  have ih:=pQ n a b;show (((PV.tup (intz x)::tups a).zip (PV.tup (intz y)::tups b)).all λp=>cY (n+1) p.1 p.2)=true;rw[by4,bG7,wN,bE8];exact ih
noncomputable abbrev X6 (bs:List Bool):List PV:=bs.map PV.bl
section
variable {ws:ae}{ls:aa}
noncomputable def cne (ws:ae)(ls:aa)(S:ae):Bool:=!decide (S = [])&&decide (stay ws ls S=S)
theorem aR6 {a b:Int×Int}(e:two a=two b):a=b:=by
 unfold two at e;injection e with e1 e2
 injection e2 with e2 _
 exact bC8 e1 e2
end
end Core
namespace PP
open PySem L2
section
variable {X:Cx}{a b:Expr}{ta tb:aF}{pos:Pos}
theorem aR7 {K:ac}{M M':ay->Prop}{H:Hp}{v:V}{m n:ae}(r1:aE K M H v (.tup (intz m)))(r2:aE K M' H v (.tup (intz n))):m=n:=by
 obtain⟨p,us,rfl,h1,q1⟩:=r1.sqT
 obtain⟨p2,ws,e,h2,q2⟩:=r2.sqT
 cases e;rw[h1]at h2;cases h2
 have:=(q1.ofInts).symm.trans q2.ofInts
 exact (List.map_inj_right λ_ _ e=>by cases e;rfl).mp this
end
end PP
namespace Core
open PySem L2 PP
noncomputable def far (ns S:ae):Bool:=decide (((S.filter λx=>decide (x∈ns)).length:Int)=0)
noncomputable def X7 (ws:ae)(ls:aa):ae->ae->Bool
 |_,[]=>true
 |B,h::R=>inB ws.length h&&(kin ws ls B h&&X7 ws ls (B++[h]) R)
end Core
namespace Raw
open PySem PySem.W PySem.Calls PyProof.Rows
theorem xV {xs:List Nat}(a:xs.Pairwise (·<·)){i k:Nat}(hk:k<xs.length)(h:i<=k):xs.getD i 0<=xs.getD k 0:=by
 rcases bs3 i k with z|z
 ·have:=bv3.mp a i k (by omega) hk z
  rw[bp3,bp3,bo6 (by omega),bo6 hk];exact by8 this
 ·rw[Nat.le_antisymm h z];exact bp7 _
theorem aR8 {xs:Array Nat}{i j:Nat}(h:i<xs.size):xs.getD i j=xs.toList.getD i 0:=by
 rw[bp3,br6,bv4,bs5 h];rfl
theorem xW {xs:Array Nat}{j:Nat}(a:xs.toList.Pairwise (·<·)):∀(fuel lo hi:Nat),lo<=hi->hi<=xs.size->hi-lo<=fuel->(∀i,i<lo->xs.toList.getD i 0<j)->(∀i,hi<=i->i<xs.size->j<=xs.toList.getD i 0)->
  SetTable.below.go xs j fuel lo hi<=xs.size/\(∀i,i<SetTable.below.go xs j fuel lo hi->xs.toList.getD i 0<j)/\∀i,SetTable.below.go xs j fuel lo hi<=i->i<xs.size->j<=xs.toList.getD i 0
 |0,lo,hi,h1,h2,h3,h4,h5=>by
  have e:lo=hi:=by omega
  subst e
  exact⟨h2,h4,h5⟩
 |fuel+1,lo,hi,h1,h2,h3,h4,h5=>by
  have sz:xs.toList.length=xs.size:=bq5;unfold SetTable.below.go;by_cases lt:lo<hi
  ·rw[if_pos lt]
   dsimp only;have m1:lo<=(lo+hi)/2:=by omega
   have m2:(lo+hi)/2<hi:=by omega
   rw[aR8 (by omega)];by_cases c:xs.toList.getD ((lo+hi)/2) 0<j
   ·rw[if_pos c]
    exact xW a fuel _ _ (by omega) h2 (by omega) (λi hi'=>Nat.lt_of_le_of_lt (xV a (by omega) (by omega)) c) h5
   ·rw[if_neg c]
    exact xW a fuel _ _ (by omega) (by omega) (by omega) h4 λi h6 h7=>bs7 (Nat.le_of_not_lt c) (xV a (by omega) h6)
  ·rw[if_neg lt]
   have e:lo=hi:=by omega
   subst e
   exact⟨h2,h4,h5⟩
theorem t9 {xs:Array Nat}{j:Nat}(a:xs.toList.Pairwise (·<·)):SetTable.below xs j<=xs.size/\(∀i,i<SetTable.below xs j->xs.toList.getD i 0<j)/\∀i,SetTable.below xs j<=i->i<xs.size->j<=xs.toList.getD i 0:=
 xW a xs.size 0 xs.size (bt5 _) (bp7 _) (by omega) (λi h=>absurd h (bz8 _)) λi h1 h2=>absurd h2 (by omega)
theorem xX {α:Type}(xs:Array α)(p:Nat)(x:α):(SetTable.insertAt xs p x).toList=xs.toList.take p++x::xs.toList.drop p:=by
 unfold SetTable.insertAt;simp;exact bB1 (by simp)
theorem aR9 {xs:Array Nat}{j:Nat}(a:xs.toList.Pairwise (·<·))(ne:xs[SetTable.below xs j]?≠some j):(SetTable.insertAt xs (SetTable.below xs j) j).toList.Pairwise (·<·):=by
 obtain⟨b1,b2,b3⟩:=t9 (j:=j) a
 have sz:xs.toList.length=xs.size:=bq5;rw[xX];refine bt6.mpr ⟨a.sublist (List.take_sublist _ _),List.pairwise_cons.mpr ⟨λx hx=>?_,a.sublist (List.drop_sublist _ _)⟩,λx hx y hy=>?_⟩
 ·obtain⟨i,hi,e⟩:=bu9 hx
  rw[bC4]at hi;rw[List.getElem_drop]at e;have h1:=b3 (SetTable.below xs j) (bp7 _) (by omega);have h2:=xV a (i:=SetTable.below xs j) (k:=SetTable.below xs j+i) (by omega) (by omega);have h3:xs.toList.getD (SetTable.below xs j+i) 0=x:=by rw[bp3,bo6 (by omega),e];rfl
  rcases bs3 j x with z|z
  ·exact z
  ·exfalso
   have h4:xs.toList.getD (SetTable.below xs j) 0=j:=by omega
   rw[bp3,bo6 (by omega)]at h4;refine ne ?_;rw[<- br6,bo6 (by omega)];exact congrArg some h4
 ·have hx':x<j:=by
   obtain⟨i,hi,e⟩:=bu9 hx
   rw[bA8]at hi;rw[List.getElem_take]at e
   have:=b2 i (by omega)
   rw[bp3,bo6 (by omega),e]at this;exact this
  rcases bp1.mp hy with e|hy
  ·rw[e];exact hx'
  ·obtain⟨i,hi,e⟩:=bu9 hy
   rw[bC4]at hi;rw[List.getElem_drop]at e
   have:=b3 (SetTable.below xs j+i) (by omega) (by omega)
   rw[bp3,bo6 (by omega),e]at this;exact bq4 hx' this
structure X8 (b:Bool)(t:SetTable):Prop where
 asc:t.place.toList.Pairwise (·<·)
 dm:t.dummies = #[]
 led:t.led=b
theorem X9 (j:Nat):SetTable.has #[] j=false:=by
 unfold SetTable.has;simp
noncomputable abbrev cG (es:Array (Int×av))(ep:Nat)(t:SetTable):Obj:={ cls:=.type "set",dict:=none,data:=.set es ep t,slots:=#[] }
section
variable {prog:az}{w:bc}{A:ba}{E:av→ax→Prop}{s:ax}
theorem Y0 {h:Heap}{a:ay}{es es':Array (Int×av)}{ep:Nat}{t t':SetTable}(ho:h.get? a=some (cG es ep t)):(h.update a (Obj.putSet es' t')).get? a=some (cG es' (ep+1) t'):=by
 have:=bt9 (Obj.putSet es' t') ho (by rw[putSet_of es' t' (rfl:(cG es ep t).data=_)];rfl)
 rw[putSet_of es' t' (rfl:(cG es ep t).data=_)]at this;exact this
end
section
variable {prog:az}{w:bc}{A:ba}{E:av→ax→Prop}{s:ax}{l:ay}{items:Array av}{ns:ae}
theorem Y1 (a:av){Q₁:av->ax->Prop}(h:Q₁ (.ref s.heap.objs.size) { s with heap:=s.heap.push (dD (!w.params.followText "set-order")) }) :
  codeAny (model prog w) A (.call (.builtin "set.__new__") ⟨[.type "set",a],[]⟩) (wants Q₁ E) s:=by
 refine codeAny_of_tree ?_;show wpAny _ A.in1 (do checkBuiltinCall "set.__new__" ⟨[.type "set",a],[]⟩;again (.builtin "set.__new__" ⟨[.type "set",a],[]⟩)) _ _ s;refine bo2 (wpAny_of_eq (F.newCall_set_1 a) (bo5 ⟨by6 F.plain_set_new _,bv8 F.entry_set_new ?_⟩));rw[bt7 F.plain_set_new _];unfold Builtin.«set.__new__» Builtin.Frozenset.newClass;have hsub:=sub_set_self
 obtain⟨hp,g,d,tk,os⟩:=s
 dsimp only
 wp_walk
 refine wpAny_askSetting (bo5 ?_);dsimp only;simp only[newObj];refine bo2 (wpAny_alloc (bo5 ?_));exact bo5 h
end
theorem aS0:entryFor table "set.__iter__" = some Builtin.«frozenset.__iter__»:=entryFor_alias (id':="frozenset.__iter__") (by kernel_rfl) rfl (by decide +kernel) (by kernel_rfl)
theorem iI:Slot "set_iterator" "__next__" "set_iterator.__next__":=
 .of (owner:="set_iterator") (n:="__next__") (by rw[typeLookup_type,builtinLookup_eq_fast];kernel_rfl) (by decide +kernel) (by decide +kernel) (by decide +kernel) (by first|exact .inl (by decide +kernel)|exact .inr (by decide +kernel)) (by rw[bH2];kernel_rfl)
theorem tD:entryFor table "set_iterator.__next__" = some Builtin.«set_iterator.__next__»:=entryFor_of_tree (by kernel_rfl)
theorem Y2:Manifest.owners.lookup (String.ofList ['r','o','t','a','r','e','t','i','_','t','e','s'].reverse)=some Manifest.sig_set_iterator:=by kernel_rfl
theorem tE (a:av):argsOk "set_iterator.__next__" ⟨[a],[]⟩:=by
 unfold argsOk;rw[signature?_of (id:="set_iterator.__next__") (n:=['_','_','t','x','e','n','_','_']) (o:=['r','o','t','a','r','e','t','i','_','t','e','s']) (by kernel_rfl) Y2];kernel_rfl
theorem aS1:entryFor table "set_iterator.__iter__" = some Builtin.«dict_keyiterator.__iter__»:=
 entryFor_alias (id':="dict_keyiterator.__iter__") (by kernel_rfl) (by first|rfl|decide +kernel|(unfold String.splitOn;simp +decide [String.splitOnAux])) (by decide +kernel) (by kernel_rfl)
theorem Y3:Slot "set_iterator" "__iter__" "set_iterator.__iter__":=
 .of (owner:="set_iterator") (n:="__iter__") (by rw[typeLookup_type,builtinLookup_eq_fast];kernel_rfl) (by decide +kernel) (by decide +kernel) (by decide +kernel) (by first|exact .inl (by decide +kernel)|exact .inr (by decide +kernel)) (by rw[bH2];kernel_rfl)
theorem aS2 (a:av):argsOk "set_iterator.__iter__" ⟨[a],[]⟩:=by
 unfold argsOk;rw[signature?_of (id:="set_iterator.__iter__") (n:=['_','_','r','e','t','i','_','_']) (o:=['r','o','t','a','r','e','t','i','_','t','e','s']) (by kernel_rfl) Y2];kernel_rfl
section
variable {prog:az}{w:bc}{A:ba}{E:av→ax→Prop}{s:ax}{I a:ay}{es:Array (Int×av)}{ep:Nat}{t:SetTable}
noncomputable abbrev gQ (f:av)(i:Nat)(a:ay)(n ep:Nat):Obj:={ cls:=.type "set_iterator",data:=.fields #[f,.int i 0,.ref a,.int n 0,.int ep 0] }
theorem aS3 {f:av}{i:Nat}{Q:Option av->ax->Prop}(hi:s.heap.get? I=some (gQ f i a es.size ep))(ha:s.heap.get? a=some (cG es ep t))(hf:t.fits es.size=true)(ne:I≠a){sl sl':Nat}{x:av}(ef:f = .int sl 0)(hn:∀(s:ax) (Q:Option (av×Nat)->ax->Prop) (E:av->ax->Prop) (A:ba),s.heap.get? a=some (cG es ep t)->Q (some (x,sl')) s->wpAny (model prog w) A (setNext a sl i ep) Q E s)(hQ:∀h',h'.get? I=some (gQ (.int sl' 0) (i+1) a es.size ep)->Heap.SameBut I s.heap h'->Q (some x) { s with heap:=h' }):wpAny (model prog w) A (pyNext (.ref I)) Q E s:=by
 have hT:s.TypeIs (.ref I) "set_iterator":=⟨_,hi,rfl⟩;subst ef;unfold pyNext;refine bo2 (bC6 (bt2 (name:=Str.ofString "__next__") hT iI (bt1 iI hT tD ?_ (tE _))));unfold Builtin.«set_iterator.__next__»;refine bo2 (bo5 ?_);refine bo2 (wpAny_fieldsOf hi rfl ?_);dsimp only;refine bo2 (wpAny_setEntries_of ha rfl hf ?_);rw[if_neg (by simp)];refine bo2 (hn _ _ _ _ ha ?_);dsimp only;refine bo2 (bD0 hi rfl (by simp) ?_);have h1:(s.heap.update I (Obj.mapFields (·.setIfInBounds 0 (rawInt sl')))).get? I=some (gQ (.int sl' 0) i a es.size ep):=by
  have:=bt9 (Obj.mapFields (·.setIfInBounds 0 (rawInt sl'))) hi rfl
  exact this
 refine bo2 (bD0 h1 rfl (by simp) ?_);have h2:=bt9 (Obj.mapFields (·.setIfInBounds 1 (rawInt ((i:Int)+1)))) h1 rfl;exact bo5 ⟨_,rfl,bo5 (hQ _ h2 ((bv7 ..).trans (bv7 ..)))⟩
theorem aS4 {f:av}{i:Nat}{Q:Option av->ax->Prop}(hh:A.handled=none)(hi:s.heap.get? I=some (gQ f i a es.size ep))(ha:s.heap.get? a=some (cG es ep t))(hf:t.fits es.size=true){sl:Nat}(ef:f = .int sl 0)(hn:∀(s:ax) (Q:Option (av×Nat)->ax->Prop) (E:av->ax->Prop) (A:ba),s.heap.get? a=some (cG es ep t)->Q none s->wpAny (model prog w) A (setNext a sl i ep) Q E s)(hQ:∀h',Heap.ExtBut I s.heap h'->Q none { s with heap:=h' }):wpAny (model prog w) A (pyNext (.ref I)) Q E s:=by
 have hT:s.TypeIs (.ref I) "set_iterator":=⟨_,hi,rfl⟩;subst ef;unfold pyNext;refine bo2 (bC6 (bt2 (name:=Str.ofString "__next__") hT iI (bt1 iI hT tD ?_ (tE _))));unfold Builtin.«set_iterator.__next__»;refine bo2 (bo5 ?_);refine bo2 (wpAny_fieldsOf hi rfl ?_);dsimp only;refine bo2 (wpAny_setEntries_of ha rfl hf ?_);rw[if_neg (by simp)];refine bo2 (hn _ _ _ _ ha ?_);dsimp only;refine bo2 (bD0 hi rfl (by simp) ?_);refine bo2 ?_;simp only[newExc,newTuple];refine bo2 (bs2 ?_ (by size_fits));refine bo2 (m:=firstArgMember _ _) (wpAny_of_eq (a:=Value.none) (by first|rfl|(simp only[firstArgMember];rfl)) ?_);refine bs2 ?_ (by size_fits);simp only[raiseNew];refine bo2 (wpAny_handled ?_);rw[show A.in1.handled=none from hh];refine bo2 (bo5 (wpAny_throw ?_));refine bo2 (bF0 (T:="StopIteration") (b:=true) ⟨_,bp4 _ rfl,rfl⟩ isSubtype_stop ?_);exact bo5 (hQ _ (((bv7 ..).extBut.push _).push _))
end
section
variable {prog:az}{w:bc}{A:ba}{E:av→ax→Prop}{s:ax}{I a:ay}{es:Array (Int×av)}{ep:Nat}{t:SetTable}
theorem Y4 {f:av}{i n:Nat}{Q:av->ax->Prop}(hi:s.heap.get? I=some (gQ f i a n ep))(h:Q (.ref I) s):wpAny (model prog w) A (pyIter (.ref I)) Q E s:=by
 have hT:s.TypeIs (.ref I) "set_iterator":=⟨_,hi,rfl⟩;refine wpAny_pyIter_slot hT Y3 (bt1 Y3 hT aS1 ?_ (aS2 _));show wpAny _ _ (ret (.ref I)) _ _ s;exact bo5 ⟨_,rfl,"set_iterator",_,hT,iI.lookup,h⟩
theorem aS5 (hh:A.handled=none)(ne:I≠a)(hf:t.fits es.size=true)(O:List av)(len:O.length=es.size)(sl:Nat->Nat)(hn:∀i x,O[i]? = some x->∀(s:ax) (Q:Option (av×Nat)->ax->Prop) (E:av->ax->Prop) (A:ba),s.heap.get? a=some (cG es ep t)->Q (some (x,sl (i+1))) s->wpAny (model prog w) A (setNext a (sl i) i ep) Q E s)(he:∀(s:ax) (Q:Option (av×Nat)->ax->Prop) (E:av->ax->Prop) (A:ba),s.heap.get? a=some (cG es ep t)->Q none s->wpAny (model prog w) A (setNext a (sl es.size) es.size ep) Q E s) :
  Walks prog w A I [I,a] [I] es.size (λi v=>O[i]? = some v) (λi h=>h.get? I=some (gQ (.int (sl i) 0) i a es.size ep)/\h.get? a=some (cG es ep t)) where
 sub:=λb hb=>by rw[bp2.mp hb];exact bp5
 frame:=λ_ _ _ st hk=>⟨hk I bp5 _ st.1,hk a (bp0 _ bp5) _ st.2⟩
 item:=λi s Q E hi st hQ=>by
  have ho:O[i]? = some O[i]:=bo6 (by omega);refine aS3 st.1 st.2 hf ne rfl (hn i _ ho) λh' g sb=>?_
  have e:s={ s with heap:=s.heap }:=by cases s;rfl
  exact hQ _ h' s.toks ho ⟨g,by rw[sb.2 a (Ne.symm ne)];exact st.2⟩ λb o hb e=>by rw[sb.2 b λz=>hb (by rw[z];exact List.mem_singleton_self _)];exact e
 done:=λs Q E st hQ=>aS4 hh st.1 st.2 hf rfl he λh' eb=>hQ h' s.toks λb o hb e=>eb b o (λz=>hb (by rw[z];exact List.mem_singleton_self _)) e
 self:=λi s Q E st hQ=>Y4 st.1 hQ
theorem Y5 (bt:w.params.followText "set-order" = true)(hf:t.fits es.size=true){i:Nat}{sl:Nat}{Q:Option (av×Nat)->ax->Prop}(ha:s.heap.get? a=some (cG es ep t))(h:Q (((pickOrder (w.params.setOrder a ep) es)[i]?).map λe=>(e.2,sl)) s):wpAny (model prog w) A (setNext a sl i ep) Q E s:=by
 unfold setNext setsByText;refine bo2 (bA0 ha rfl hf ?_);refine bo2 (bo2 (wpAny_askSetting (bo5 ?_)));rw[show ((⟨(model prog w).prog,(model prog w).w.params⟩:Setting).params.followText "set-order")=true from bt,if_pos rfl,if_neg (by simp)];refine bo2 ?_;unfold setWalk setsByText;refine bo2 (bA0 ha rfl hf ?_);refine bo2 (bo2 (wpAny_askSetting (bo5 ?_)));rw[show ((⟨(model prog w).prog,(model prog w).w.params⟩:Setting).params.followText "set-order")=true from bt,if_pos rfl];refine bo2 (wpAny_askSetting (bo5 ?_));exact bo5 h
theorem Y6 (bt:w.params.followText "set-order" = false)(hf:t.fits es.size=true)(tk:X8 (!w.params.followText "set-order") t)(pl:(!t.plain&&decide (es.size>1))=false){i sl:Nat}{Q:Option (av×Nat)->ax->Prop}(ha:s.heap.get? a=some (cG es ep t))(h:Q (match es[SetTable.below t.place sl]?,t.place[SetTable.below t.place sl]? with|some (_,x),some j=>some (x,j+1)|_,_=>none) s):wpAny (model prog w) A (setNext a sl i ep) Q E s:=by
 unfold setNext setsByText;refine bo2 (bA0 ha rfl hf ?_);refine bo2 (bo2 (wpAny_askSetting (bo5 ?_)));rw[show ((⟨(model prog w).prog,(model prog w).w.params⟩:Setting).params.followText "set-order")=false from bt,if_neg (by decide)];have ld:t.led=true:=by rw[tk.led,bt];rfl
 show wpAny _ _ (if (!t.plain&&decide (es.size>1))=true then _ else _) _ _ _;rw[pl,if_neg (by decide)];refine bo2 ?_;show wpAny _ _ (if (!t.led&&!es.isEmpty)=true then _ else _) _ _ _;rw[ld,if_neg (by simp)];exact bo5 (bo5 h)
end
theorem Y7 {α:Type}{l:List α}{i:Nat}(h:i<l.length):(l[i]::l.eraseIdx i).Perm l:=by
 have e:l=l.take i++l[i]::l.drop (i+1):=by rw[<- bB5 h,bs4]
 rw[List.eraseIdx_eq_take_drop_succ];exact List.perm_middle.symm.trans (by rw[<- e])
theorem Y8 {prog:az}{w:bc}{A:ba}{E:av->ax->Prop}{s:ax}{p:ay}{o:Obj}{xs:Array av}{n:Nat}{Q:Option (Array av)->ax->Prop}(ho:s.heap.get? p=some o)(hd:o.data = .seq xs n)(h:Q (some xs) s):wpAny (model prog w) A (seqItems? (.ref p)) Q E s:=by
 unfold seqItems?;refine bo2 (wpAny_load ho ?_);rw[hd];exact bo5 h
theorem Y9 {α:Type}{next:Nat->Nat}:∀(fuel k:Nat) (left:List α) (out:Array α),left.length<=fuel->(pickOrder.go next fuel k left out).toList.Perm (out.toList++left)
 |0,k,left,out,h=>by
  have:left = []:=List.eq_nil_of_length_eq_zero (by omega)
  subst this;rw[bv0];exact bz2 _
 |fuel+1,k,left,out,h=>by
  unfold pickOrder.go;cases hx:left[next k%left.length]? with
  |none=>
   have:left = []:=by
    cases left with
    |nil=>rfl
    |cons a r=>
     have:=List.getElem?_eq_none_iff.mp hx
     have:=Nat.mod_lt (next k) (show 0<(a::r).length from Nat.zero_lt_succ _)
     omega
   subst this;rw[bv0]
  |some x=>
   obtain⟨hi,e⟩:=bq1.mp hx
   have p:=Y7 hi;rw[e]at p;have lp:=p.length_eq;rw[bs9]at lp;refine (Y9 fuel (k+1) _ _ (by omega)).trans ?_;rw[Array.toList_push,bq7];exact p.append_left _
theorem Z0 {α:Type}(next:Nat->Nat)(xs:Array α):(pickOrder next xs).toList.Perm xs.toList:=Y9 xs.size 0 xs.toList #[] (by rw[bq5];exact bp7 _)
noncomputable def l0 (xs:List Nat):Nat->Nat
 |0=>0
 |i+1=>xs.getD i 0+1
theorem Z1 {xs:Array Nat}(a:xs.toList.Pairwise (·<·)):∀i,i<=xs.size->SetTable.below xs (l0 xs.toList i)=i
 |0,_=>by
  obtain⟨_,b2,_⟩:=t9 (j:=l0 xs.toList 0) a
  rcases Nat.eq_zero_or_pos (SetTable.below xs (l0 xs.toList 0)) with z|z
  ·exact z
  ·exact absurd (b2 0 z) (bz8 _)
 |i+1,hi=>by
  obtain⟨b1,b2,b3⟩:=t9 (j:=l0 xs.toList (i+1)) a
  have sz:xs.toList.length=xs.size:=bq5;have e:l0 xs.toList (i+1)=xs.toList.getD i 0+1:=rfl;rcases Nat.lt_trichotomy (SetTable.below xs (l0 xs.toList (i+1))) (i+1) with z|z|z
  ·have:=b3 i (by omega) (by omega)
   omega
  ·exact z
  ·have h1:=b2 (i+1) z
   have h2:=bv3.mp a i (i+1) (by omega) (by omega) (by omega);rw[e,bp3,bp3,bo6 (by omega),bo6 (by omega)]at h1;exact absurd h1 (by show ¬xs.toList[i+1]<xs.toList[i]+1;omega)
theorem aS6 {prog:az}{w:bc}{A:ba}{E:av->ax->Prop}{s:ax}{src:Source}{n:Nat}{Q:Nat->ax->Prop}(hn:n≠0)(h:∀i d,i<n->Q i { s with drawn:=d }):wpAny (model prog w) A (choose src n) Q E s:=
 λ_ _ _=>⟨hn,h _ _ (Nat.mod_lt _ (Nat.pos_of_ne_zero hn))⟩
section
variable {prog:az}{w:bc}{A:ba}{E:av→ax→Prop}
theorem Z2 {α:Type}:∀(n:Nat) (xs:List α) (s:ax) {Q:List α->ax->Prop},xs.length<=n->(∀ys d,ys.Perm xs->Q ys { s with drawn:=d })->wpAny (model prog w) A (drawOrder n xs) Q E s
 |0,xs,s,Q,hl,h=>by
  have:xs = []:=List.eq_nil_of_length_eq_zero (by omega)
  subst this;exact bo5 (h [] s.drawn (bz2 _))
 |n+1,[],s,Q,hl,h=>bo5 (h [] s.drawn (bz2 _))
 |n+1,x::r,s,Q,hl,h=>by
  unfold drawOrder;refine bo2 (aS6 (Nat.succ_ne_zero _) λi d hi=>?_);rw[bo6 hi];have p:=Y7 hi;have lp:=p.length_eq;rw[bs9]at lp;refine bo2 (Z2 n _ _ (by omega) λys d' py=>bo5 ?_);exact h _ d' ((py.cons _).trans p)
end
section
variable {prog:az}{w:bc}{A:ba}{E:av→ax→Prop}{s:ax}{I a p:ay}{es:Array (Int×av)}{ep:Nat}{t:SetTable}
theorem aS7 {i j:Nat}{ps:Array av}{x:Int×av}{Q:Option av->ax->Prop}(hi:s.heap.get? I=some (gQ (.ref p) i a es.size ep))(ha:s.heap.get? a=some (cG es ep t))(hf:t.fits es.size=true)(hp:s.heap.IsTuple p ps)(hj:ps[i]? = some (.int j 0))(hx:es[j]? = some x)(hQ:∀h',h'.get? I=some (gQ (.ref p) (i+1) a es.size ep)->Heap.SameBut I s.heap h'->Q (some x.2) { s with heap:=h' }):wpAny (model prog w) A (pyNext (.ref I)) Q E s:=by
 have hT:s.TypeIs (.ref I) "set_iterator":=⟨_,hi,rfl⟩
 obtain⟨op,hop,hc,nl,hd⟩:=hp
 unfold pyNext;refine bo2 (bC6 (bt2 (name:=Str.ofString "__next__") hT iI (bt1 iI hT tD ?_ (tE _))));unfold Builtin.«set_iterator.__next__»;refine bo2 (bo5 ?_);refine bo2 (wpAny_fieldsOf hi rfl ?_);dsimp only;refine bo2 (wpAny_setEntries_of ha rfl hf ?_);rw[if_neg (by simp)];refine bo2 (Y8 hop hd ?_);dsimp only;rw[bG2,hj];dsimp only;unfold setNextDrawn;refine bo2 (bo2 (bA0 ha rfl hf ?_));dsimp only;rw[if_neg (by simp),bG2,hx];refine bo5 ?_;refine bo2 (bD0 hi rfl (by simp) ?_);have h2:=bt9 (Obj.mapFields (·.setIfInBounds 1 (rawInt ((i:Int)+1)))) hi rfl;exact bo5 ⟨_,rfl,bo5 (hQ _ h2 (bv7 ..))⟩
theorem aS8 {i:Nat}{ps:Array av}{Q:Option av->ax->Prop}(hh:A.handled=none)(hi:s.heap.get? I=some (gQ (.ref p) i a es.size ep))(ha:s.heap.get? a=some (cG es ep t))(hf:t.fits es.size=true)(hp:s.heap.IsTuple p ps)(hj:ps[i]? = none)(hQ:∀h',Heap.ExtBut I s.heap h'->Q none { s with heap:=h' }):wpAny (model prog w) A (pyNext (.ref I)) Q E s:=by
 have hT:s.TypeIs (.ref I) "set_iterator":=⟨_,hi,rfl⟩
 obtain⟨op,hop,hc,nl,hd⟩:=hp
 unfold pyNext;refine bo2 (bC6 (bt2 (name:=Str.ofString "__next__") hT iI (bt1 iI hT tD ?_ (tE _))));unfold Builtin.«set_iterator.__next__»;refine bo2 (bo5 ?_);refine bo2 (wpAny_fieldsOf hi rfl ?_);dsimp only;refine bo2 (wpAny_setEntries_of ha rfl hf ?_);rw[if_neg (by simp)];refine bo2 (Y8 hop hd ?_);dsimp only;rw[bG2,hj];dsimp only;refine bo2 (bD0 hi rfl (by simp) ?_);have h1:(s.heap.update I (Obj.mapFields (·.setIfInBounds 0 (rawInt 0)))).get? I=some (gQ (.int 0 0) i a es.size ep):=bt9 (Obj.mapFields (·.setIfInBounds 0 (rawInt 0))) hi rfl;refine bo2 (bD0 h1 rfl (by simp) ?_);refine bo2 ?_;simp only[newExc,newTuple];refine bo2 (bs2 ?_ (by size_fits));refine bo2 (m:=firstArgMember _ _) (wpAny_of_eq (a:=Value.none) (by first|rfl|(simp only[firstArgMember];rfl)) ?_);refine bs2 ?_ (by size_fits);simp only[raiseNew];refine bo2 (wpAny_handled ?_);rw[show A.in1.handled=none from hh];refine bo2 (bo5 (wpAny_throw ?_));refine bo2 (bF0 (T:="StopIteration") (b:=true) ⟨_,bp4 _ rfl,rfl⟩ isSubtype_stop ?_);exact bo5 (hQ _ ((((bv7 ..).trans (bv7 ..)).extBut.push _).push _))
theorem aS9 (hh:A.handled=none)(ne:I≠a)(nep:I≠p)(hf:t.fits es.size=true){ps:Array av}{js:List Nat}(hps:ps=(js.map λj:Nat=>Value.int j 0).toArray)(len:js.length=es.size)(inn:∀j∈js,j<es.size) :
  Walks prog w A I [I,a,p] [I] es.size (λi v=>(js.map λj=>(es.toList.map (·.2)).getD j .none)[i]? = some v) (λi h=>h.get? I=some (gQ (.ref p) i a es.size ep)/\h.get? a=some (cG es ep t)/\h.IsTuple p ps) where
 sub:=λb hb=>by rw[bp2.mp hb];exact bp5
 frame:=λ_ _ _ st hk=>⟨hk I bp5 _ st.1,hk a (bp0 _ bp5) _ st.2.1,st.2.2.at λo e=>hk p (bp0 _ (bp0 _ bp5)) o e⟩
 item:=λi s Q E hi st hQ=>by
  have hl:i<js.length:=by omega
  have hj:=inn js[i] (by0 hl);have h1:ps[i]? = some (.int js[i] 0):=by rw[hps];simp[hl]
  have h2:es[js[i]]? = some es[js[i]]:=bs5 hj;refine aS7 st.1 st.2.1 hf st.2.2 h1 h2 λh' g sb=>?_
  refine hQ _ h' s.toks ?_ ⟨g,by rw[sb.2 a (Ne.symm ne)];exact st.2.1,st.2.2.at λo e=>by rw[sb.2 p (Ne.symm nep)];exact e⟩ λb o hb e=>by rw[sb.2 b λz=>hb (by rw[z];exact List.mem_singleton_self _)];exact e
  simp[hl,hj]
 done:=λs Q E st hQ=>aS8 hh st.1 st.2.1 hf st.2.2 (by rw[hps];simp[len]) λh' eb=>hQ h' s.toks λb o hb e=>eb b o (λz=>hb (by rw[z];exact List.mem_singleton_self _)) e
 self:=λi s Q E st hQ=>Y4 st.1 hQ
end
section
variable {prog:az}{w:bc}{A:ba}{E:av→ax→Prop}{s:ax}{a:ay}{es:Array (Int×av)}{ep:Nat}{t:SetTable}{ms:ae}
noncomputable def pS (w:bc)(es:Array (Int×av))(t:SetTable):Prop:=es.size<scanBound/\t.fits es.size=true/\X8 (!w.params.followText "set-order") t
theorem aT0 (hh:A.handled=none)(ha:s.heap.get? a=some (cG es ep t))(ok:pS w es t){Q:av->ax->Prop}(h:∀(I:ay) (h1:Heap) (d1:Drawn) (O:List av) (fp:List ay) (St:Nat->Heap->Prop),(∀b o,s.heap.get? b=some o->h1.get? b=some o)->s.heap.objs.size<=I->(∀b∈fp,b=a∨s.heap.objs.size<=b)->O.Perm (es.toList.map (·.2))->
   Walks prog w A I fp [I] es.size (λi v=>O[i]? = some v) St->St 0 h1->Q (.ref I) { s with heap:=h1,drawn:=d1 }):wpAny (model prog w) A (pyIter (.ref a)) Q E s:=by
 obtain⟨hb,hf,tk⟩:=ok
 have hT:s.TypeIs (.ref a) "set":=⟨_,ha,rfl⟩;have lt:=bp9 ha;have sz:es.toList.length=es.size:=bq5;refine wpAny_pyIter_slot hT F.slot_set_iter (bt1 F.slot_set_iter hT aS0 ?_ (F.args_set_iter_1 _));unfold Builtin.«frozenset.__iter__» Builtin.Frozenset.slot0 Builtin.Frozenset.sizeOf;refine bo2 (bo2 (bo5 (bo5 ?_)));refine bo2 (bo2 (wpAny_setEntries_of ha rfl hf (bo5 ?_)));refine bo2 ?_;unfold setDrawn setsByText;refine bo2 (bA0 ha rfl hf ?_);refine bo2 (bo2 (wpAny_askSetting (bo5 ?_)));refine bo5 ?_;show wpAny _ _ (if (!w.params.followText "set-order"&&(!t.plain&&decide (es.size>1)))=true then _ else _) _ _ _;have fin:∀(d1:Drawn) (sl:Nat->Nat) (O:List av),O.Perm (es.toList.map (·.2))->sl 0=0->
   (∀i x,O[i]? = some x->∀(s:ax) (Q:Option (av×Nat)->ax->Prop) (E:av->ax->Prop) (A:ba),s.heap.get? a=some (cG es ep t)->Q (some (x,sl (i+1))) s->wpAny (model prog w) A (setNext a (sl i) i ep) Q E s)->
   (∀(s:ax) (Q:Option (av×Nat)->ax->Prop) (E:av->ax->Prop) (A:ba),s.heap.get? a=some (cG es ep t)->Q none s->wpAny (model prog w) A (setNext a (sl es.size) es.size ep) Q E s)->
   Q (.ref s.heap.objs.size) { s with heap:=s.heap.push (gQ (.int 0 0) 0 a es.size ep),drawn:=d1 }:=λd1 sl O po s0 hn he=>
  h s.heap.objs.size _ d1 O [s.heap.objs.size,a] _ (λb o e=>bo4 _ e) (bp7 _) (λb hb=>by
   rcases bp1.mp hb with e|hb
   ·exact .inr (Nat.le_of_eq e.symm)
   ·exact .inl (bp2.mp hb)) po (aS5 (I:=s.heap.objs.size) hh (bw3 lt) hf O (by rw[po.length_eq,bo7,sz]) sl hn he) ⟨by rw[s0];exact bp4 _ rfl,bo4 _ ha⟩
 have last:∀q:Q (.ref s.heap.objs.size) { s with heap:=s.heap.push (gQ (.int 0 0) 0 a es.size ep) },wpAny (model prog w) A.in1 (do
   let first <- pure (rawInt 0)
   (λfirst=>do
    let e <- setEpoch a
    let o <- newFields "set_iterator" [first,rawInt 0,Value.ref a,rawInt es.size,rawInt e]
    ret o) first) (λfin s'=>∃v,fin = .done (.ret v)/\∃T' r,s'.TypeIs v T'/\typeLookup (.type T') (Str.ofString "__next__")=pure (some r)/\Q v s') E s:=λq=>by
  refine bo2 (bo5 ?_);refine bo2 (wpAny_setEpoch_of ha rfl hf ?_);exact bo2 (bs2 (bo5 ⟨_,rfl,"set_iterator",_,⟨_,bp4 _ rfl,rfl⟩,iI.lookup,q⟩))
 cases bt:w.params.followText "set-order" with
 |true=>
  rw[if_neg (by simp)];refine last (fin s.drawn (λ_=>0) ((pickOrder (w.params.setOrder a ep) es).toList.map (·.2)) ((Z0 _ _).map _) rfl (λi x hx s Q E A ha q=>Y5 bt hf ha ?_) λs Q E A ha q=>Y5 bt hf ha ?_)
  ·rw[bq6,br6]at hx
   cases hp:(pickOrder (w.params.setOrder a ep) es)[i]? with
   |none=>rw[hp]at hx;cases hx
   |some e=>rw[hp]at hx;cases hx;exact q
  ·have:=(Z0 (w.params.setOrder a ep) es).length_eq
   rw[bq5,bq5]at this;rw[bz5 (by omega)];exact q
 |false=>
  have ps:t.place.size=es.size:=by
   unfold SetTable.fits at hf;rw[bz1]at hf;exact eq_of_beq hf.1
  cases pl:(!t.plain&&decide (es.size>1)) with
  |false=>
   rw[if_neg (by simp)];refine last (fin s.drawn (l0 t.place.toList) (es.toList.map (·.2)) (bz2 _) rfl (λi x hx s Q E A ha q=>Y6 bt hf tk pl ha ?_) λs Q E A ha q=>Y6 bt hf tk pl ha ?_)
   ·have il:i<es.size:=by
     have:=(bq1.mp hx).1
     rw[bo7,sz]at this;exact this
    rw[Z1 tk.asc i (by omega),bs5 il,bs5 (by omega)];rw[bq6,br6,bs5 il]at hx;cases hx;have e:l0 t.place.toList (i+1)=t.place[i]+1:=by
     show t.place.toList.getD i 0+1=_;rw[bp3,br6,bs5 (by omega)];rfl
    rw[e]at q;exact q
   ·rw[Z1 tk.asc es.size (by omega),bz5 (bp7 _)];exact q
  |true=>
   rw[if_pos (by simp)];refine bo2 (Z2 es.size (List.range es.size) s (by rw[bC9];exact bp7 _) λjs d pj=>?_);have jl:js.length=es.size:=by rw[pj.length_eq,bC9]
   simp only[newTuple];refine bo2 (bs2 ?_ (by show (List.map _ js).toArray.size<=sizeLine;rw[bo8,bo7,jl];exact fits_of_scanBound hb));have ha1:=bo4 { cls:=.type "tuple",data:=.seq (js.map λ(i:Nat)=>rawInt i).toArray } ha;refine bo2 (wpAny_setEpoch_of ha1 rfl hf ?_);refine bo2 (bs2 (bo5 ⟨_,rfl,"set_iterator",_,⟨_,bp4 _ rfl,rfl⟩,iI.lookup,?_⟩));have sp:(s.heap.push { cls:=.type "tuple",data:=.seq (js.map λ(i:Nat)=>rawInt i).toArray }).objs.size=s.heap.objs.size+1:=bw8 ..;have hp1:=bp4 s.heap (o:={ cls:=.type "tuple",data:=.seq (js.map λ(i:Nat)=>rawInt i).toArray }) rfl;have inn:∀j∈js,j<es.size:=λj hj=>bw2.mp (pj.mem_iff.mp hj)
   refine h _ _ d (js.map λj=>(es.toList.map (·.2)).getD j .none) [_,a,s.heap.objs.size] _ (λb o e=>bo4 _ (bo4 _ e)) (by show _<=(s.heap.push _).objs.size;rw[sp];exact Nat.le_succ _) (λb hb=>?_) ?_ (aS9 (p:=s.heap.objs.size) hh (by show (s.heap.push _).objs.size≠a;rw[sp];exact bw3 (bA1 lt)) (by show (s.heap.push _).objs.size≠s.heap.objs.size;rw[sp];exact Nat.succ_ne_self _) hf rfl jl inn) ⟨bp4 _ rfl,bo4 _ ha1,_,bo4 _ hp1,rfl,_,rfl⟩
   ·rcases bp1.mp hb with e|hb
    ·rw[e];exact .inr (by show _<=(s.heap.push _).objs.size;rw[sp];exact Nat.le_succ _)
    ·rcases bp1.mp hb with e|hb
     ·exact .inl e
     ·exact .inr (Nat.le_of_eq (bp2.mp hb).symm)
   ·refine (pj.map _).trans ?_
    have e:(List.range es.size).map (λj=>(es.toList.map (·.2)).getD j .none)=es.toList.map (·.2):=by
     refine List.ext_getElem (by simp) λi h1 h2=>?_
     simp at h1 h2 ⊢;simp[h2]
    rw[e]
end
end Raw
namespace Raw
open PySem PySem.W PyProof.Rows
section
variable {prog:az}{w:bc}{A:ba}{E:av→ax→Prop}{s:ax}{a:ay}{es:Array (Int×av)}{ep:Nat}{t:SetTable}{ms:ae}
theorem aT1 {Q:Bool->ax->Prop}(hT:s.TypeIs (.ref a) "set")(h:Q false s):wpAny (model prog w) A (Builtin.List.listLengthHint (.ref a)) Q E s:=by
 unfold Builtin.List.listLengthHint;refine bo2 (wpAny_specialOf hT PySem.F.slot_set_len.lookup ?_);generalize hid:("set.__len__":String)=id0
 wp_delta
 rw[show splitId id0=some ("set","__len__") from by subst hid;decide +kernel];subst hid;refine bo2 (bF0 (T:="set") (b:=true) hT (by rw[bH2];kernel_rfl) ?_);refine wpAny_ite_split (λhab=>absurd hab (by decide)) (λ_=>?_);refine wpAny_ite_split (λ_=>?_) (λhab=>absurd (by decide +kernel) hab);refine bo2 (wpAny_typeOf hT ?_);exact bo5 h
theorem aT2 {O:List av}{acc:Array av}{n:Nat}(h:ItemsOf (λi v=>O[i]? = some v) acc n)(hn:O.length=n):acc.toList=O:=by
 refine List.ext_getElem (by rw[bq5,h.1,hn]) λi h1 h2=>?_
 rw[bq5]at h1;have this:O[i]? = some acc[i]:=h.2 i acc[i] (bs5 h1);rw[bo6 h2]at this;rw[Array.getElem_toList];exact (br7 this).symm
theorem aT3 {R:Result->ax->Prop}(hh:A.handled=none)(ha:s.heap.get? a=some (cG es ep t))(ok:pS w es t)(S:ay)(nSa:S≠a)(res:av)(c0:Nat)(hS:s.heap.get? S=some { cls:=.type "list",data:=.seq #[] c0 })(hR:∀h' tk d acc c,(∀b o,b≠S->s.heap.get? b=some o->h'.get? b=some o)->h'.get? S=some { cls:=.type "list",dict:=none,data:=.seq acc c,slots:=#[] }->acc.toList.Perm (es.toList.map (·.2))->R (.ok (.ret res)) { s with heap:=h',toks:=tk,drawn:=d }) :
  wpAny (model prog w) A.in1 (Builtin.List.listExtendWith (.ref S) (.ref a) res)
   (λfin s'=>match fin with|.done f=>R (.ok f) s'|.again c'=>c'.quiet=true/\codeAny (model prog w) A c' R s') (λe s'=>R (.error e) s') s:=by
 have hT:s.TypeIs (.ref a) "set":=⟨_,ha,rfl⟩;have lS:=bp9 hS;have hn:es.size<=sizeLine:=fits_of_scanBound ok.1;unfold Builtin.List.listExtendWith;refine bo2 (wpAny_typeOf (T:="set") hT ?_);have e1:Builtin.List.listSameRef (.ref S) (.ref a)=false:=by simp[Builtin.List.listSameRef,nSa]
 simp only[e1,show (Value.type "set"==Value.type "list")=false by decide,show (Value.type "set"==Value.type "tuple")=false by decide,Bool.or_false,bq3,bu2];refine bo2 (aT0 (A:=A.in1) hh ha ok λI h1 d1 O fp St kp lI fpo po W st=>?_);have nSf:S∉fp:=λz=>(fpo S z).elim nSa λz=>absurd (bq4 lS z) (bu6 _)
 have ol:O.length=es.size:=by rw[po.length_eq,bo7,bq5]
 have key:∀(h:Heap) (c1 tk:Nat),St 0 h->(∀b o,b≠S->s.heap.get? b=some o->h.get? b=some o)->h.get? S=some { cls:=.type "list",data:=.seq #[] c1 }->codeAny (model prog w) A (.builtin "list.extend.loop" ⟨[.ref S,.ref I,res],[]⟩) R { s with heap:=h,toks:=tk,drawn:=d1 }:=by
  intro h c1 tk hst hk hS1;refine codeAny_extend_loopS W.toS hn S nSf res es.size 0 _ #[] c1 rfl (bt5 _) hst hS1 (ItemsOf.nil _) λs' acc c hm hS' it=>?_
  rw[Moved.eq_with hm];refine hR s'.heap s'.toks d1 acc c (λb o hb e=>hm.heap b o (λz=>?_) (hk b o hb e)) hS' (by rw[aT2 it ol];exact po);rcases bp1.mp z with z|z
  ·exact hb z
  ·rw[bp2.mp z]at e
   exact absurd (bq4 (bp9 e) lI) (bu6 _)
 have hS1:=kp _ _ hS;refine bo2 (bv9 (aT1 ⟨_,kp _ _ ha,rfl⟩ ?_));refine wpAny_ite_split (λ_=>?_) (λ_=>bo5 ⟨by6 PySem.F.plain_extend_loop _,key _ c0 _ st (λb o _ e=>kp _ _ e) hS1⟩);refine bo2 (bF3 ?_);refine bo2 ?_;show wpAny _ _ (updateSeq S (·.push .none) >>= λ_=>updateSeq S (·.pop)) _ _ _;refine bo2 (bD3 hS1 rfl ?_);have hS2:=bt9 (Obj.mapSeq (·.push Value.none)) hS1 rfl;refine bD3 (hz:=by seq_fits) hS2 rfl ?_;have hS3:=bt9 (Obj.mapSeq (·.pop)) hS2 rfl;refine bo5 ⟨by6 PySem.F.plain_extend_loop _,key _ _ _ ?_ (λb o hb e=>?_) hS3⟩
 ·refine W.frame 0 _ _ st λb hb o e=>?_
  have hbS:b≠S:=λz=>nSf (z▸hb)
  exact (by2 _ _ (Ne.symm hbS)).trans ((by2 _ _ (Ne.symm hbS)).trans e)
 ·exact (by2 _ _ (Ne.symm hb)).trans ((by2 _ _ (Ne.symm hb)).trans (kp _ _ e))
theorem aT4 {R:Result->ax->Prop}(hh:A.handled=none)(ha:s.heap.get? a=some (cG es ep t))(ok:pS w es t)(hR:∀h' tk d acc c,(∀b o,b≠s.heap.objs.size->(s.heap.push { cls:=.type "list",data:=.seq ([]:List av).toArray }).get? b=some o->h'.get? b=some o)->h'.get? s.heap.objs.size=some { cls:=.type "list",dict:=none,data:=.seq acc c,slots:=#[] }->acc.toList.Perm (es.toList.map (·.2))->R (.ok (.ret (.ref s.heap.objs.size))) { s with heap:=h',toks:=tk,drawn:=d }) :
  codeAny (model prog w) A (.builtin "proto.collect" ⟨[.ref a],[]⟩) R s:=by
 refine bv8 PySem.F.entry_proto_collect ?_;rw[bt7 PySem.F.plain_proto_collect _];show wpAny _ A.in1 (newList [] >>= λl=>again (.builtin "list.__iadd__" ⟨[l,.ref a],[]⟩)) _ _ s;refine bo2 (bs2 ?_);refine bo5 ⟨by6 PySem.F.plain_list_iadd _,bv8 PySem.F.entry_list_iadd ?_⟩;rw[bt7 PySem.F.plain_list_iadd _];show wpAny _ A.in1 (Builtin.List.listExtendWith (.ref s.heap.objs.size) (.ref a) (.ref s.heap.objs.size)) _ _ _;exact aT3 (s:={ s with heap:=s.heap.push { cls:=.type "list",data:=.seq ([]:List av).toArray } }) (R:=R) hh (bo4 _ ha) ok s.heap.objs.size (bw3 (bp9 ha)) _ 0 (bp4 _ rfl) hR
end
end Raw
namespace L2
open PySem PySem.Spec PyProof.Rows
section
variable {X:Cx}
theorem a8.drew {ag:List (ay×Obj)}{σ:St}{H:Hp}{s:ax}(I:a8 X ag σ H s)(d:Drawn):a8 X ag σ H { s with drawn:=d }:=
 ⟨I.ok,I.os,I.bare,I.base,I.loc,I.cell,I.free,I.freeC,I.pin,I.hok,I.len⟩
end
theorem aT5 {a b c:ae}(h1:HT.aH a b=true)(h2:HT.aH b c=true):HT.aH a c=true:=by
 cases e:HT.aH a c with
 |true=>rfl
 |false=>
  have ca:=oO (jH h2) (jH h1)
  have:=r6 e ca
  subst this
  have:=jH h1
  rw[h2]at this;cases this
theorem xY {α:Type}{p q:α->Bool}:∀{l:List α},(∀x∈l,p x=true->q x=true)->(l.filter p).length<=(l.filter q).length
 |[],_=>bp7 _
 |x::l,h=>by
  have ih:=xY (l:=l) λy hy=>h y (bp0 _ hy)
  have hx:=h x bp5;rw[List.filter_cons,List.filter_cons];cases ep:p x with
  |false=>cases q x<;>simp<;>omega
  |true=>rw[hx ep];simp;omega
theorem Z3 {α:Type}{p q:α->Bool}:∀{l:List α},(∀x∈l,p x=true->q x=true)->(∃x∈l,q x=true/\p x=false)->(l.filter p).length<(l.filter q).length
 |[],_,e=>by obtain⟨_,z,_⟩:=e;cases z
 |x::l,h,e=>by
  have hx:=h x bp5;have h':∀y∈l,p y=true->q y=true:=λy hy=>h y (bp0 _ hy)
  have le:=xY h';rw[List.filter_cons,List.filter_cons]
  obtain⟨y,hy,qy,py⟩:=e
  rcases bp1.mp hy with rfl|hy
  ·rw[qy,py];simp;omega
  ·have ih:=Z3 h' ⟨y,hy,qy,py⟩
   cases ep:p x with
   |false=>cases q x<;>simp<;>omega
   |true=>rw[hx ep];simp;omega
noncomputable def mC (ys:ad)(x:ae):Nat:=(ys.filter λy=>HT.aH y x).length
theorem Z4 {ys:ad}{u v:ae}(hu:u∈ys)(hv:v∈ys):HT.aH u v=decide ((mC ys u:Int)<(mC ys v:Int)):=by
 have irr:∀a:ae,HT.aH a a=false:=λa=>by
  cases e:HT.aH a a with
  |false=>rfl
  |true=>have:=jH e;rw[e]at this;cases this
 cases e:HT.aH u v with
 |true=>
  have:mC ys u<mC ys v:=Z3 (λx _ h=>aT5 h e) ⟨u,hu,e,irr u⟩
  exact (bp8 (by omega)).symm
 |false=>
  have:mC ys v<=mC ys u:=xY λx _ h=>by
   cases e2:HT.aH x u with
   |true=>rfl
   |false=>have:=oO e2 e;rw[h]at this;cases this
  exact (bp6 (by omega)).symm
end L2
namespace L2
open PySem PySem.Spec PyProof.Rows SO
section
variable {prog:az}{w:bc}{A:ba}{E:av→ax→Prop}{s:ax}
structure iJ (h:Heap)(v:av)(ns:ae):Prop where
 at_:∃b ob us n,v = .ref b/\h.get? b=some ob/\ob.cls = .type "tuple"/\ob.data = .seq (List.toArray us) n/\IntsAre us ns
noncomputable def xZ (h:Heap)(v:av):ae:=match v with
 |.ref b=>match h.get? b with
  |some ob=>match ob.data with
   |.seq us _=>us.toList.map numOf
   |_=>[]
  |none=>[]
 |_=>[]
theorem Z5:∀{us:List av}{ns:ae},IntsAre us ns->us.map numOf=ns
 |_,_,.nil=>rfl
 |_,_,.cons _ _ h=>by rw[bv2,Z5 h];rfl
theorem iJ.ints {h:Heap}{v:av}{ns:ae}(z:iJ h v ns):xZ h v=ns:=by
 obtain⟨b,ob,us,n,rfl,e2,_,e4,e5⟩:=z.at_
 unfold xZ;dsimp only;rw[e2];dsimp only;rw[e4];exact Z5 e5
noncomputable def nR (h:Heap)(ys:ad)(x:Keyed):Int:=(mC ys (xZ h x.1):Int)
end
end L2
namespace L2
open PySem PySem.Spec PyProof.Rows
section
variable {X:Cx}
theorem aT6 (hc:X.calm=true):cH X (.builtin "min") (λxs H Q=>∃(a:ay) (ns:ae),xs = [.ref a]/\aM X.K H a (ns.map V.int)/\ns≠[]/\∀M:Int,M∈ns->(∀x∈ns,M<=x)->Q (.int M) H):=by
 intro ag s σ H xs us Q I r h
 obtain⟨a,ns,rfl,hq,ne,q⟩:=h
 obtain⟨u,rfl,ru⟩:=fV r
 cases ru
 obtain⟨its,rv,p,hz⟩:=I.list hq
 have ia:=fB rv
 obtain⟨ys,ey⟩:=ia.allInts.items
 have en:ns=ys.toList.map (·.1):=by
  have e1:=nums_intItems ys;rw[<- ey]at e1;exact ia.numsOf.symm.trans e1
 have pos:0<ys.size:=Nat.pos_of_ne_zero λz=>ne (by rw[en,Array.eq_empty_of_size_eq_zero z];rfl)
 have hl:s.heap.IsList a (intItems ys):=ey▸p.isList;refine min_intList (I.ok.hd hc) hl pos λv h' tk ev old=>?_
 obtain⟨t,rfl⟩:=intItems_at ev
 have best:=argBest_lt (numAt ys) (ys.size-1);have mem:∀x:Int,x∈ns↔∃j,j<ys.size/\numAt ys j=x:=λx=>by
  rw[en];constructor
  ·intro z
   obtain⟨j,hj,e⟩:=mem_getD z
   exact⟨j,by simpa using hj,by rw[numAt_eq];exact e⟩
  ·rintro⟨j,hj,rfl⟩
   rw[numAt_eq];exact getD_mem (by simpa using hj)
 refine⟨.int _,H,I.kept (t':=tk) (h':=h') old,⟨t,rfl⟩,q _ ?_ λx hx=>?_⟩
 ·exact (mem _).mpr ⟨_,by have:=best.1;omega,rfl⟩
 ·obtain⟨j,hj,rfl⟩:=(mem x).mp hx
  exact best.2 j (by omega)
end
end L2
namespace PP
open PySem L2
section
variable {X:Cx}{e:Expr}{tr:cM}{pos p2:Pos}
noncomputable def y9:List PV->(PV->Prop)->Prop:=λxs Q=>∃ns:ae,xs = [.lst (intz ns)]/\ns≠[]/\∀M:Int,M∈ns->(∀x∈ns,M<=x)->Q (.int M)
theorem aT7:dZ X y9 (λxs H Q=>∃(a:ay) (ns:ae),xs = [.ref a]/\aM X.K H a (ns.map V.int)/\ns≠[]/\∀M:Int,M∈ns->(∀x∈ns,M<=x)->Q (.int M) H):=by
 rintro H vs xs Q Q' r ⟨ns,rfl,ne,q⟩ k
 obtain⟨v,rfl,r1⟩:=r.one
 obtain⟨a,us,rfl,_,h,r2⟩:=r1.sqL
 rw[r2.ofInts]at h
 exact⟨a,ns,rfl,aM.of h,ne,λM m1 m2=>k _ _ _ (aG.refl _) (.int M) (q M m1 m2)⟩
theorem aT8 (B:Bt X.mg)(hc:X.calm=true)(ha:QA X [e] tr)(hg:Gl X "min":=by rfl)(he:starEach [e] X.env=(false,eval e X.env)::starEach [] X.env:=by rfl)(hpl:(backTo pos (starEach [] X.env)).any (·.1)=false:=by rfl):QE X (.Call (.Name "min" p2) [e] [] pos) (aD y9 tr):=
 gP (aT6 hc) aT7 hg B.min PyProof.Rows.boot_min ha (he:=he) (hpl:=hpl)
end
end PP
namespace L2
open PySem PySem.Spec PyProof.Rows
section
variable {X:Cx}
theorem aT9 (hc:X.calm=true):cH X (.builtin "max") (λxs H Q=>∃(a:ay) (ns:ae),xs = [.ref a]/\aM X.K H a (ns.map V.int)/\ns≠[]/\∀M:Int,M∈ns->(∀x∈ns,x<=M)->Q (.int M) H):=by
 intro ag s σ H xs us Q I r h
 obtain⟨a,ns,rfl,hq,ne,q⟩:=h
 obtain⟨u,rfl,ru⟩:=fV r
 cases ru
 obtain⟨its,rv,p,hz⟩:=I.list hq
 have ia:=fB rv
 obtain⟨ys,ey⟩:=ia.allInts.items
 have en:ns=ys.toList.map (·.1):=by
  have e1:=nums_intItems ys;rw[<- ey]at e1;exact ia.numsOf.symm.trans e1
 have pos:0<ys.size:=Nat.pos_of_ne_zero λz=>ne (by rw[en,Array.eq_empty_of_size_eq_zero z];rfl)
 have hl:s.heap.IsList a (intItems ys):=ey▸p.isList;refine max_intList (I.ok.hd hc) hl pos λv h' tk ev old=>?_
 obtain⟨t,rfl⟩:=intItems_at ev
 have best:=argBest_gt (numAt ys) (ys.size-1);have mem:∀x:Int,x∈ns↔∃j,j<ys.size/\numAt ys j=x:=λx=>by
  rw[en];constructor
  ·intro z
   obtain⟨j,hj,e⟩:=mem_getD z
   exact⟨j,by simpa using hj,by rw[numAt_eq];exact e⟩
  ·rintro⟨j,hj,rfl⟩
   rw[numAt_eq];exact getD_mem (by simpa using hj)
 refine⟨.int _,H,I.kept (t':=tk) (h':=h') old,⟨t,rfl⟩,q _ ?_ λx hx=>?_⟩
 ·exact (mem _).mpr ⟨_,by have:=best.1;omega,rfl⟩
 ·obtain⟨j,hj,rfl⟩:=(mem x).mp hx
  exact best.2 j (by omega)
end
end L2
namespace PP
open PySem L2
section
variable {X:Cx}{a b e o:Expr}{ta tb te to:aF}{tr:cM}{pos p2 ah ai:Pos}{σ:St}{H:Hp}{Q':VK}
noncomputable def yA:List PV->(PV->Prop)->Prop:=λxs Q=>∃ns:ae,xs = [.lst (intz ns)]/\ns≠[]/\∀M:Int,M∈ns->(∀x∈ns,x<=M)->Q (.int M)
theorem aU0:dZ X yA (λxs H Q=>∃(a:ay) (ns:ae),xs = [.ref a]/\aM X.K H a (ns.map V.int)/\ns≠[]/\∀M:Int,M∈ns->(∀x∈ns,x<=M)->Q (.int M) H):=by
 rintro H vs xs Q Q' r ⟨ns,rfl,ne,q⟩ k
 obtain⟨v,rfl,r1⟩:=r.one
 obtain⟨a,us,rfl,_,h,r2⟩:=r1.sqL
 rw[r2.ofInts]at h
 exact⟨a,ns,rfl,aM.of h,ne,λM m1 m2=>k _ _ _ (aG.refl _) (.int M) (q M m1 m2)⟩
theorem aU1 (B:Bt X.mg)(hc:X.calm=true)(ha:QA X [e] tr)(hg:Gl X "max":=by rfl)(he:starEach [e] X.env=(false,eval e X.env)::starEach [] X.env:=by rfl)(hpl:(backTo pos (starEach [] X.env)).any (·.1)=false:=by rfl):QE X (.Call (.Name "max" p2) [e] [] pos) (aD yA tr):=
 gP (aT9 hc) aU0 hg B.max PyProof.Rows.boot_max ha (he:=he) (hpl:=hpl)
open Classical in
theorem aU2 {A:ba}(hu:A.units+2<cLine){ag:List (ay×Obj)}{s:ax}{H:Hp}{us:List V}{its:List av}{rs:ad}{ns:ae}{x:V}{v:av}(I:a8 X ag σ H s)(rx:aQ x v)(r:aL us its)(rn:aE X.K (λ_=>True) H x (.tup (intz ns)))(rr:Reps X.K (λ_=>True) H us (rs.map λr=>PV.tup (intz r))):∃f:av->Bool,∀(j:Nat) (w:av),its[j]? = some w->∃m,rs[j]? = some m/\SeqAt.EqAt A s w v (f w)/\f w=decide (m=ns):=by
 have lr:=r.length;have lp:=rr.length;rw[bo7]at lp;refine⟨λw=>decide (∃v',aQ v' w/\aE X.K (λ_=>True) H v' (.tup (intz ns))),λj w hw=>?_⟩;have hj:=(bq1.mp hw).1;have h1:j<us.length:=by omega
 obtain⟨w',hw',rw'⟩:=r.get (bo6 h1)
 rw[hw]at hw';cases hw'
 obtain⟨m',hm',rm⟩:=rr.get (bo6 h1)
 rw[bq6]at hm';cases hm:rs[j]? with
 |none=>rw[hm]at hm';cases hm'
 |some m=>
  rw[hm]at hm';cases hm';have e2:(decide (∃v',aQ v' w/\aE X.K (λ_=>True) H v' (.tup (intz ns))))=decide (m=ns):=by
   have:(∃v',aQ v' w/\aE X.K (λ_=>True) H v' (.tup (intz ns)))↔m=ns:=by
    refine⟨λ⟨v',h1',h2'⟩=>?_,λe=>⟨_,rw',by rw[<- e];exact rm⟩⟩
    obtain⟨p1,w1,e1,_,_⟩:=rm.sqT
    obtain⟨p2,w2,e2,_,_⟩:=h2'.sqT
    rw[e1]at rw' rm;rw[e2]at h1' h2';cases rw';cases h1';exact aR7 rm h2'
   exact decide_eq_decide.mpr this
  refine⟨m,rfl,?_,e2⟩;show SeqAt.EqAt A s w v (decide _);rw[e2]
  have:=P7 I 2 (A:=A) hu rm rn rw' rx (by exact wN 1 m ns)
  rw[wL 1]at this;exact this
end
end PP
namespace Core
open PySem L2 PP
noncomputable def qV (ws:ae)(ls:aa)(ns R:ae):Prop:=X7 ws ls ns R=true/\aQ5 ws ls (ns++R)
end Core
namespace PP
open PySem L2
section
variable {X:Cx}{a b:Expr}{ta tb:aF}{pos:Pos}
noncomputable def tF:PV->Tg->PV->Tg->PK->Prop:=λx _ y _ Q=>∃ns ms:ae,x = .tup (intz ns)/\y = .tup (intz ms)/\Q (.bl (HT.aH ns ms)) .fr
theorem Z6:fG X tF (v5 X.K):=by
 rintro W Hs H u v x y g g' Q Q' s n r1 r2 ⟨ns,ms,rfl,rfl,q⟩ k
 obtain⟨p1,us,rfl,h1,r1⟩:=r1.sqT
 obtain⟨p2,vs,rfl,h2,r2⟩:=r2.sqT
 obtain rfl:=r1.ofInts;obtain rfl:=r2.ofInts
 exact⟨p1,p2,ns,ms,rfl,rfl,aJ.of h1,aJ.of h2,k _ _ _ _ (aG.refl _) (.bl _) q⟩
theorem aU3 (hu:X.A.units+3<cLine)(ha:QE X a ta)(hb:QE X b tb):QE X (.Compare a [.Lt] [b] pos) (q2 tF ta tb):=nC (C7 (by omega)) Z6 ha hb (gV _)
end
end PP
namespace L2
open PySem PySem.Spec PyProof.Rows PP
section
variable {prog:az}{w:bc}{A:ba}{R:Result→ax→Prop}{I S:ay}{n:Nat}{l:ay}{its:Array av}{s0:ax}{bt:Nat→Nat→Bool}
noncomputable abbrev at_ (s:ax)(h:Heap)(k:Nat):ax:={ s with heap:=h,toks:=k }
noncomputable abbrev dI (g h:Heap):Prop:=∀b o,g.get? b=some o->h.get? b=some o
noncomputable def cP (prog:az)(w:bc)(A:ba)(s0:ax)(its:Array av)(bt:Nat->Nat->Bool):Prop:=
 ∀(i j:Nat) (v u:av) (h:Heap) (k:Nat) (Q E:av->ax->Prop),its[i]? = some v->its[j]? = some u->dI s0.heap h->Q (.bool (bt i j)) (at_ s0 h k)->wpAny (model prog w) A (richCompare .Lt v u) Q E (at_ s0 h k)
end
section
variable {prog:az}{w:bc}{A:ba}{s0:ax}{l:ay}{its:Array av}{bt:Nat→Nat→Bool}
theorem tG {h:Heap}{a:ay}(z:h.objs.size<=a):h.get? a=none:=by
 cases q:h.get? a with
 |none=>rfl
 |some o=>exact absurd (bp9 q) (Nat.not_lt.mpr z)
end
end L2
namespace Core
open PySem L2 PP
noncomputable def FB (L:ad)(f:ae->Int)(r:ae):Prop:=∃i,L[i]? = some r/\(∀(j:Nat) (s:ae),j<i->L[j]? = some s->f s<f r)/\∀s∈L,f s<=f r
end Core
namespace PP
open PySem L2
section
variable {X:Cx}{a b e:Expr}{ta tb:aF}{tr:cM}{pos p2:Pos}
noncomputable def Z7 (K:ac):R2:=λx y H Q=>iA (λi j=>.bl (decide (i<j))) x y H Q∨v5 K x y H Q
theorem aU4 (hu:X.A.units<cLine):cK X (compareOp .Lt) (Z7 X.K):=by
 intro ag s σ H x y v u Q I rx ry h;rcases h with h|h
 ·exact uS ag s σ H x y v u Q I rx ry h
 ·exact C7 hu ag s σ H x y v u Q I rx ry h
noncomputable def tH:PV->Tg->PV->Tg->PK->Prop:=λx g y g' Q=>eR (λi j=>.bl (decide (i<j))) x g y g' Q∨tF x g y g' Q
theorem aU5:fG X tH (Z7 X.K):=by
 intro W Hs H u v x y g g' Q Q' s n r1 r2 h k;rcases h with h|h
 ·exact .inl (mS W Hs H u v x y g g' Q Q' s n r1 r2 h k)
 ·exact .inr (Z6 W Hs H u v x y g g' Q Q' s n r1 r2 h k)
theorem aU6 (hu:X.A.units+1<cLine)(ha:QE X a ta)(hb:QE X b tb):QE X (.Compare a [.Lt] [b] pos) (q2 tH ta tb):=nC (aU4 (by omega)) aU5 ha hb (gV _)
end
end PP
namespace L2
open PySem PySem.Spec PyProof.Rows
section
variable {X:Cx}
noncomputable def Z8 (K:ac)(ta:TA):TI:=λσ H R=>ta σ H λvs H1=>∃a b,vs = [.ref a,.ref b]/\((∃xs ys,aJ K H1 a xs/\aJ K H1 b ys/\R (vT K a b) H1)∨∃xs ys,aM K H1 a xs/\aM K H1 b ys/\R (vV K a b) H1)
theorem aU7 {elts:List Expr}{kt:Nat}{pt:Pos}{a b:Expr}{ta:TA}{p pos:Pos}(hg:Gl X "zip")(hm:X.mg "zip" = none)(ha:PA X [a,b] ta)(hs:starEach [a,b] X.env = [(false,eval a X.env),(false,eval b X.env)]:=by rfl)(hs2:starEach [b] X.env = [(false,eval b X.env)]:=by rfl) :
  PI X (.Tuple elts kt pt) (.Call (.Name "zip" p) [a,b] [] pos) (Z8 X.K ta):=by
 intro ag s σ H R I h;refine Call_ (lE I hg hm PyProof.Rows.boot_zip (bC5 (aO (ha pos ag s σ H _ I h) λus s1 ⟨vs,H1,I1,r1,q1⟩=>?_) (by rw[hs,hs2]) (by rw[hs2];rfl)))
 obtain⟨a',b',e,q1⟩:=q1
 subst e
 obtain⟨u1,u2,rfl,r,r'⟩:=aL.two r1
 cases r;cases r';have fresh:∀k,H1 (s1.heap.objs.size+k)=none:=λk=>I1.hok.fresh (by1 _ _)
 have fp:∀c∈[s1.heap.objs.size+4,s1.heap.objs.size+2,s1.heap.objs.size+3,s1.heap.objs.size,s1.heap.objs.size+1],gI X ag H1 c:=λc hc=>by
  simp only[bp1,bq0,bv1]at hc;rcases hc with rfl|rfl|rfl|rfl|rfl
  ·exact I1.fpOk (by1 _ _) (fresh 4)
  ·exact I1.fpOk (by1 _ _) (fresh 2)
  ·exact I1.fpOk (by1 _ _) (fresh 3)
  ·exact I1.fpOk (bp7 _) (fresh 0)
  ·exact I1.fpOk (by1 _ _) (fresh 1)
 rcases q1 with⟨xs,ys,h1,h2,q⟩|⟨xs,ys,h1,h2,q⟩
 ·obtain⟨us,_,p1,_⟩:=I1.tuple h1
  obtain⟨ws,_,p2,_⟩:=I1.tuple h2
  refine Zp.aC1 p1 p2 λh' z ti to s1' s2' kp=>wpAny_pyIter_zip z ?_
  exact⟨s1.heap.objs.size+4,[s1.heap.objs.size+4,s1.heap.objs.size+2,s1.heap.objs.size+3,s1.heap.objs.size,s1.heap.objs.size+1],_,_,H1,rfl,I1.kept (t':=s1.toks) kp,aC4 a' b' _ _ _ _ _ (by simp),⟨z,ti,⟨_,_,to⟩,s1',s2'⟩,fp,q⟩
 ·obtain⟨us,_,p1,_⟩:=I1.list h1
  obtain⟨ws,_,p2,_⟩:=I1.list h2
  refine call_zip_2 p1.isList p2.isList λh' z ti to s1' s2' _ kp=>wpAny_pyIter_zip z ?_
  exact⟨s1.heap.objs.size+4,[s1.heap.objs.size+4,s1.heap.objs.size+2,s1.heap.objs.size+3,s1.heap.objs.size,s1.heap.objs.size+1],_,_,H1,rfl,I1.kept (t':=s1.toks) kp,aD0 a' b' _ _ _ _ _ (by simp),⟨z,ti,⟨_,_,to⟩,s1',s2'⟩,fp,q⟩
end
end L2
namespace PP
open PySem L2
theorem aU8 {K:ac}{H0:Hp}{W:ay->Prop}{g:Bool}{H1:Hp}{a b:ay}{us vs:List V}{xs ys:List PV}(tw:∀a,W a->∃o,H1 a=some o/\dY o=true)(ha:∀W' H',Ev W H1 W' H'->aM K H' a us)(hb:∀W' H',Ev W H1 W' H'->aM K H' b vs)(r:Reps K (Ms H0 W g) H1 us xs)(r':Reps K (Ms H0 W g) H1 vs ys):kR K H0 W g H1 (vV K a b) (iZ xs ys):=by
 have lr:=r.length;have lr':=r'.length;have ll:=xS xs ys;refine⟨λW' H' i e hi=>⟨us,vs,us[i]'(by omega),vs[i]'(by omega),ha W' H' e,hb W' H' e,by simp,by simp⟩,λW' H' i v H2 e y hi=>?_,λW' H' e=>⟨us,vs,ha W' H' e,hb W' H' e,by omega⟩⟩
 obtain⟨T,x,y',hT,rfl,rfl,y⟩:=y
 obtain⟨h1,h2⟩:=y us vs (ha W' _ e) (hb W' _ e)
 obtain⟨z,hz,rz⟩:=r.get h1
 obtain⟨z',hz',rz'⟩:=r'.get h2
 have sm:=bK hT (HO.tup [x,y'])
 exact⟨sm,_,W8 hz hz',.tup bZ (.cons ((rz.keep (e.keep tw)).same sm λ_ q=>q) (.cons ((rz'.keep (e.keep tw)).same sm λ_ q=>q) .nil))⟩
section
variable {X:Cx}{σ:L2.St}{H:Hp}{ta tb:aF}{R:It→Hp→Prop}
noncomputable def yB (ta tb:aF):eL:=λρ Q=>ta ρ λx g0=>tb ρ λy g=>∃xs ys,((x = .tup xs/\y = .tup ys)∨(x = .lst xs/\y = .lst ys/\g0≠.rd/\g≠.rd))/\flats xs=true/\flats ys=true/\Q (iZ xs ys) true
theorem Z9 {K:ac}{H0 Hs:Hp}{W:ay->Prop}{σ:L2.St}{ρ:bG}{g:Tg}{b:ay}(px:PX K H0 W σ ρ Hs)(ng:g≠.rd)(m:Mg H0 W Hs g b):¬W b:=by
 cases g with
 |fr=>exact (px.new m).1
 |nw=>exact m.1
 |sh=>exact m
 |rd=>exact absurd rfl ng
theorem aU9 (h:LI X (yB ta tb) σ H R):Z8 X.K (iT (LE X ta) (iT (LE X tb) kJ)) σ H R:=by
 obtain⟨W,ρ,Q,px,q,k⟩:=h
 refine⟨W,ρ,_,px,q,λv0 H0 x0 g0 s0 r0 q0=>⟨W,ρ,_,px.mono s0,q0,?_⟩⟩;rintro v H1 x g s r ⟨xs,ys,c,fx,fy,q⟩;have S:=s0.trans s;have px1:=px.mono S;have tw:∀a,W a->∃o,H1 a=some o/\dY o=true:=λa z=>(px1.wm a z).2
 rcases c with⟨rfl,rfl⟩|⟨rfl,rfl,n0,n1⟩
 ·obtain⟨a,us,rfl,h1,ra⟩:=(r0.same (M':=λ_=>True) s λ_ _=>trivial).sqT
  obtain⟨b,vs,rfl,h2,rb⟩:=r.sqT
  have sta:∀{c us},H1 c=some (.tup us)->∀W' H',Ev W H1 W' H'->aJ X.K H' c us:=λ{c us} hc W' H' e=>aJ.of (e _ _ hc (λz=>by obtain⟨o,h',mu⟩:=tw _ z;rw[hc]at h';cases h';cases mu) rfl).1
  exact⟨a,b,rfl,.inl ⟨us,vs,aJ.of h1,aJ.of h2,k _ _ _ _ S (aR1 tw (sta h1) (sta h2) (ra.flat fx) (rb.flat fy)) q⟩⟩
 ·obtain⟨a,us,rfl,m0,h1,ra⟩:=(r0.same s λ_ z=>z).sqL
  obtain⟨b,vs,rfl,m1,h2,rb⟩:=r.sqL
  have w0:=Z9 px n0 m0;have w1:=Z9 (px.mono s0) n1 m1
  exact⟨a,b,rfl,.inr ⟨us,vs,aM.of h1,aM.of h2,k _ _ _ _ S (aU8 tw (λW' H' e=>aM.of (e _ _ h1 w0 rfl).1) (λW' H' e=>aM.of (e _ _ h2 w1 rfl).1) (ra.flat fx) (rb.flat fy)) q⟩⟩
theorem aV0 {elts:List Expr}{kt:Nat}{pt p2 pos:Pos}{a b:Expr}(B:Bt X.mg)(ha:QE X a ta)(hb:QE X b tb)(hg:Gl X "zip":=by rfl)(hs:starEach [a,b] X.env = [(false,eval a X.env),(false,eval b X.env)]:=by rfl)(hs2:starEach [b] X.env = [(false,eval b X.env)]:=by rfl):QI X (.Tuple elts kt pt) (.Call (.Name "zip" p2) [a,b] [] pos) (yB ta tb):=
 oX (aU7 hg B.zip (gW ha (gW hb jD hs2) (by rw[hs,hs2])) hs hs2) λ_ _ _=>aU9
end
end PP
namespace Core
open PySem L2 PP
theorem aV1 (xs:List PV):jQ xs (some 1) none=xs.drop 1:=by
 unfold jQ;have e1:HT.aY xs.length 0 (some 1)=min 1 xs.length:=by
  show (if (1:Int)<0 then ((1:Int)+(xs.length:Int)).toNat else min (1:Int).toNat xs.length)=_;rw[if_neg (by decide)];rfl
 rw[e1];show (xs.drop (min 1 xs.length)).take (xs.length-min 1 xs.length)=_;rw[bB1 (by rw[bC4];exact bp7 _)];cases xs with
 |nil=>rfl
 |cons x xs=>rw[show min 1 (x::xs).length=1 by simp]
noncomputable def tI {α:Type}(lt:α->α->Bool)(A:List α):Bool:=((A.zip (A.drop 1)).map λp=>lt p.1 p.2).all id
noncomputable def aa0:aS:=(bX (aD rM (a6 (eV (yB (a5 0) (wQ (a5 0) (wP (qC (.int 1))) wO)) [none,none] (mZ 0 1) dM (q2 tH (a5 0) (a5 1))) aA)))
theorem aa1 {α:Type}(f:α->PV)(lt:α->α->Bool)(fl:∀a,flat (f a)=true)(hlt:∀(a b:α) (g g':Tg) (K:PK),K (.bl (lt a b)) .fr->tH (f a) g (f b) g' K)(A:List α)(la:A.length<=10000)(x:PV)(hx:x = .tup (A.map f)∨x = .lst (A.map f)){Q:PV->Prop}(q:Q (.bl (tI lt A))) :
  aa0 { nx:=λ_=>Q .non,rt:=Q } [some (.sh (flat x) x)]:=by
 have fls:∀B:List α,flats (B.map f)=true:=λB=>by
  induction B with
  |nil=>rfl
  |cons b B ih=>show (flat (f b)&&flats (B.map f))=true;rw[fl,ih];rfl
 have sx:rK x=some (A.map f):=by rcases hx with rfl|rfl<;>rfl
 have cut:jQ (A.map f) (some 1) none=(A.drop 1).map f:=by rw[aV1,List.map_drop]
 refine⟨_,rfl,_,rfl,_,rfl,_,sx,fls A,?_⟩;rw[cut];refine⟨A.map f,(A.drop 1).map f,?_,fls A,fls _,?_⟩
 ·rcases hx with rfl|rfl
  ·exact .inl ⟨rfl,rfl⟩
  ·refine .inr ⟨rfl,rfl,?_,λz=>by cases z⟩
   cases flat (.lst (A.map f))<;>intro z<;>cases z
 have zl:(iZ (A.map f) ((A.drop 1).map f)).length=A.length-1:=by rw[xS,bo7,bo7,bC4];omega
 refine⟨by rw[zl];omega,λi acc=>acc=X6 (((A.zip (A.drop 1)).take i).map λp=>lt p.1 p.2),rfl,?_,?_⟩
 ·rintro i y acc hy rfl
  obtain⟨u,v,h1,h2,rfl⟩:=aR0 hy
  rw[bq6]at h1 h2;cases ha:A[i]? with
  |none=>rw[ha]at h1;cases h1
  |some a=>
   cases hb:(A.drop 1)[i]? with
   |none=>rw[hb]at h2;cases h2
   |some b=>
    rw[ha]at h1;rw[hb]at h2;cases h1;cases h2;have hz:(A.zip (A.drop 1))[i]? = some (a,b):=List.getElem?_zip_eq_some.mpr ⟨ha,hb⟩;refine⟨_,_,rfl,_,rfl,_,rfl,hlt a b _ _ _ ⟨trivial,?_⟩⟩;dsimp only;rw[bv5,hz,br8];unfold X6;rw[br8];rfl
 ·rintro acc rfl
  rw[bB1 (by rw[zl,List.length_zip,bC4];omega)]
  exact⟨_,rfl,trivial,q⟩
theorem aV2 (ls:aa):tI (λa b=>HT.aH [a.1,a.2] [b.1,b.2]) ls=true↔ls.Pairwise dA:=by
 have lt2:∀a b:Int×Int,HT.aH [a.1,a.2] [b.1,b.2]=true↔dA a b:=λa b=>by
  unfold dA;rw[HT.fX,HT.fX,HT.oH];by_cases h1:a.1=b.1
  ·rw[if_pos h1]
   by_cases h2:a.2=b.2
   ·rw[if_pos h2]
    exact⟨λz=>(by cases z),λz=>(by omega)⟩
   ·rw[if_neg h2,bt0];omega
  ·rw[if_neg h1,bt0];omega
 induction ls with
 |nil=>exact⟨λ_=>.nil,λ_=>rfl⟩
 |cons a r ih=>
  cases r with
  |nil=>exact⟨λ_=>bu4 _ _,λ_=>rfl⟩
  |cons b r=>
   have e:tI (λa b:Int×Int=>HT.aH [a.1,a.2] [b.1,b.2]) (a::b::r)=(HT.aH [a.1,a.2] [b.1,b.2]&&tI (λa b:Int×Int=>HT.aH [a.1,a.2] [b.1,b.2]) (b::r)):=rfl;rw[e,bz1,lt2,List.pairwise_cons];refine⟨λ⟨h1,h2⟩=>⟨λc hc=>?_,ih.mp h2⟩,λ⟨h1,h2⟩=>⟨h1 b bp5,ih.mpr h2⟩⟩;rcases bp1.mp hc with rfl|hc
   ·exact h1
   ·have:=(List.pairwise_cons.mp (ih.mp h2)).1 c hc
    unfold dA at *;omega
noncomputable def nrm (l:Int×Int):Int×Int:=(min l.1 l.2,max l.1 l.2)
end Core
namespace Raw
open PySem PySem.W PySem.Calls PyProof.Rows
section
variable {prog:az}{w:bc}{A:ba}{E:av→ax→Prop}{s:ax}{l:ay}{items:Array av}{ns:ae}
theorem aV3:isSubtype (.type "list") (.type "set")=pure false:=by rw[bH2];kernel_rfl
theorem aV4:isSubtype (.type "list") (.type "frozenset")=pure false:=by rw[bH2];kernel_rfl
end
end Raw
namespace Core
open PySem L2 PP
noncomputable def plc (os:ae)(h:Int):Int:=os.getD h.toNat 0
structure Moved (ws os ws':ae):Prop where
 len:ws'.length=ws.length
 at_:∀h:Nat,h<ws.length->ws'[(os.getD h 0).toNat]? = ws[h]?
noncomputable def mv (os:ae)(l:Int×Int):Int×Int:=nrm (plc os l.1,plc os l.2)
theorem hV {ls:aa}(h:ls.Pairwise dA):ls.Nodup:=h.imp λ{a b} z e=>by subst e;unfold dA at z;omega
theorem aa2 {a b:aa}(p:a.Perm b)(ha:a.Pairwise dA)(hb:b.Pairwise dA):a=b:=
 p.eq_of_pairwise (λx y _ _ h1 h2=>by unfold dA at h1 h2;omega) ha hb
end Core
namespace PP
open PySem L2 PyProof.Rows
section
variable {X:Cx}{a b e:Expr}{ta tb te:aF}{tr:cM}{pos p2:Pos}
theorem aV5:cH X (.builtin "abs") (λxs H Q=>∃i,xs = [.int i]/\Q (.int (if i<0 then -i else i)) H):=by
 intro ag s σ H xs us Q I r h
 obtain⟨i,rfl,q⟩:=h
 obtain⟨u,rfl,t,rfl⟩:=fV r
 exact call_abs_int λu tk=>⟨.int _,H,I.tok _,⟨u,rfl⟩,q⟩
noncomputable def mD (i:Int):Int:=if i<0 then -i else i
noncomputable def tJ:List PV->(PV->Prop)->Prop:=λxs Q=>∃i,xs = [.int i]/\Q (.int (mD i))
theorem aV6:dZ X tJ (λxs H Q=>∃i,xs = [.int i]/\Q (.int (if i<0 then -i else i)) H):=by
 rintro H vs xs Q Q' r ⟨i,rfl,q⟩ k
 obtain⟨v,rfl,r1⟩:=r.one
 cases r1
 exact⟨i,rfl,k _ _ _ (aG.refl _) (.int _) q⟩
theorem aa3 (hm:X.mg "abs" = none)(ha:QA X [e] tr)(hg:Gl X "abs":=by rfl)(he:starEach [e] X.env=(false,eval e X.env)::starEach [] X.env:=by rfl)(hpl:(backTo pos (starEach [] X.env)).any (·.1)=false:=by rfl):QE X (.Call (.Name "abs" p2) [e] [] pos) (aD tJ tr):=
 gP aV5 aV6 hg hm PyProof.Rows.Boot.«abs» ha (he:=he) (hpl:=hpl)
end
end PP
namespace Core
open PySem L2 PP
noncomputable def tK:cD:=λxs Q=>∃x,xs = [x]/\((∃ns,IsI x ns/\ns.length<=1000/\Q (.bl (aN2 ns)))∨∃ls:aa,(x = .tup (aK ls)∨x = .lst (aK ls))/\ls.length<=4096/\∀b:Bool,(b=true↔ls.Pairwise dA)->Q (.bl b))
noncomputable abbrev aa4:aS:=aa0
theorem aV7:dP aa4 ["things"] tK:=by
 rintro xs Q ⟨x,rfl,⟨ns,hx,hl,q⟩|⟨ls,hx,hl,q⟩⟩
 ·exact aa1 PV.int (λa b=>decide (a<b)) (λ_=>rfl) (λa b g g' K h=>.inl ⟨_,_,rfl,rfl,h⟩) ns (by omega) x hx q
 ·exact aa1 (λl:Int×Int=>PV.tup [.int l.1,.int l.2]) (λa b=>HT.aH [a.1,a.2] [b.1,b.2]) (λ_=>rfl) (λa b g g' K h=>.inr ⟨_,_,rfl,rfl,h⟩) ls (by omega) x hx (q _ (aV2 ls))
noncomputable def cR (r c:Int):Prop:=1<=r/\r<=40/\1<=c/\c<=40
noncomputable def tL:fN:=λEp xs Q=>∃r c:Int,xs = [.int r,.int c]/\(cR r c->Q .non)/\(¬cR r c->Ep "BadBoard")
noncomputable def aa5 (Ep:Str->Prop):aS:=(dL (gO (bF (lU (aD hJ (a6 (a5 0) (a6 (a5 1) aA))) (qC (.int 1)))) (bF (qGt (aD kQ (a6 (a5 0) (a6 (a5 1) aA))) (qC (.int 40))))) (nO Ep "BadBoard" (a6 (qC (.str "a board has from 1 to 40 rows and columns")) aA)) dQ)
theorem aV8:nQ aa5 ["rows","columns"] tL:=by
 rintro Ep xs Q ⟨r,c,rfl,q,ex⟩;refine⟨_,rfl,_,rfl,_,_,rfl,_,_,rfl,rfl,_,rfl,?_⟩;show if decide ((if c<r then c else r)<1)=true then _ else _
 by_cases h1:(if c<r then c else r)<1
 ·rw[bp8 h1]
  exact bQ (bQ ⟨by decide,ex λz=>by unfold cR at z;split at h1<;>omega⟩)
 rw[bp6 h1];refine bE ⟨_,rfl,_,rfl,_,_,rfl,_,_,rfl,rfl,_,rfl,?_⟩;show if decide ((if c>r then c else r)>40)=true then _ else _
 by_cases h2:(if c>r then c else r)>40
 ·rw[bp8 h2]
  exact bQ ⟨by decide,ex λz=>by unfold cR at z;split at h2<;>omega⟩
 rw[bp6 h2];refine bE (q ?_);unfold cR;split at h1<;>split at h2<;>omega
noncomputable def bJ (r c:Int)(l:Int×Int):Bool:=decide (0<=l.1)&&(decide (l.1<r)&&(decide (0<=l.2)&&decide (l.2<c)))
theorem nT {r c:Int}{l:Int×Int}:bJ r c l=true↔0<=l.1/\l.1<r/\0<=l.2/\l.2<c:=by
 unfold bJ;simp only[bz1,bt0]
noncomputable def nU:cD:=λxs Q=>∃(r c:Int) (l:Int×Int),xs = [.int r,.int c,.tup [.int l.1,.int l.2]]/\Q (.bl (bJ r c l))
noncomputable def aa6:aS:=(bX (lP (O1 (b7 (a5 2) (qC (.int 0))) (qC (.int 0))) (lP (lU (b7 (a5 2) (qC (.int 0))) (a5 0)) (lP (O1 (b7 (a5 2) (qC (.int 1))) (qC (.int 0))) (lU (b7 (a5 2) (qC (.int 1))) (a5 1))))))
theorem aV9:dP aa6 ["rows","columns","cell"] nU:=by
 rintro xs Q ⟨r,c,l,rfl,q⟩;unfold bJ at q;refine⟨_,rfl,_,_,_,rfl,rfl,rfl,_,_,rfl,rfl,_,rfl,?_⟩;show if decide (l.1 >= 0)=true then _ else _
 by_cases h1:0<=l.1
 ·rw[bp8 h1]at q
  rw[bp8 (show l.1 >= 0 from h1)];refine bQ ⟨_,rfl,_,_,_,rfl,rfl,rfl,_,rfl,_,_,rfl,rfl,_,rfl,?_⟩;show if decide (l.1<r)=true then _ else _
  by_cases h2:l.1<r
  ·rw[bp8 h2]at q ⊢
   refine bQ ⟨_,rfl,_,_,_,rfl,rfl,rfl,_,_,rfl,rfl,_,rfl,?_⟩;show if decide (l.2 >= 0)=true then _ else _
   by_cases h3:0<=l.2
   ·rw[bp8 h3]at q
    rw[bp8 (show l.2 >= 0 from h3)];exact bQ ⟨_,rfl,_,_,_,rfl,rfl,rfl,_,rfl,_,_,rfl,rfl,trivial,q⟩
   ·rw[bp6 h3]at q
    rw[bp6 (show ¬l.2 >= 0 from h3)];exact bE ⟨trivial,q⟩
  ·rw[bp6 h2]at q ⊢
   exact bE ⟨trivial,q⟩
 ·rw[bp6 h1]at q
  rw[bp6 (show ¬l.1 >= 0 from h1)];exact bE ⟨trivial,q⟩
noncomputable def gR (r c:Int)(ls:aa):Prop:=ls.Pairwise dA/\∀l∈ls,bJ r c l=true
noncomputable def l5:fN:=λEp xs Q=>∃(r c:Int) (x:PV) (ls:aa),xs = [.int r,.int c,x]/\(x = .tup (aK ls)∨x = .lst (aK ls))/\ls.length<=4096/\(¬cR r c->Ep "BadBoard")/\(cR r c->¬gR r c ls->Ep "BadSet")/\(cR r c->gR r c ls->Q (.tup (aK ls)))
noncomputable def aa7 (Ep:Str->Prop):aS:=(aN (wA (kZ Ep tL (a6 (a5 0) (a6 (a5 1) aA))))
 (aN (dL (gO (iU (bF (aD tK (a6 (a5 2) aA)))) (iU (bF (aD rM (a6 (eV (e8 (a5 2)) [none,some 0,some 1] (cN 0) dM (aD nU (a6 (a5 1) (a6 (a5 2) (a6 (a5 0) aA))))) aA))))) (nO Ep "BadSet" (a6 (qC (.str "a set is of rising cells of the board")) aA)) dQ)
 (bX (aD oV (a6 (a5 2) aA)))))
theorem aW0:nQ aa7 ["rows","columns","cells"] l5:=by
 rintro Ep xs Q ⟨r,c,x,ls,rfl,hx,hl,e1,e2,q⟩;have sx:jL x=some (aK ls):=by rcases hx with rfl|rfl<;>rfl
 have pl:(aK ls).length=ls.length:=bo7 _;have tg:(Slot.sh (flat x) x).tag = .rd->flat x=true:=by cases flat x<;>intro z<;>cases z
 refine⟨_,rfl,_,rfl,r,c,rfl,λok=>?_,e1⟩;refine⟨_,rfl,_,rfl,.inr ⟨ls,hx,hl,λb hb=>⟨_,rfl,?_⟩⟩⟩;cases b with
 |false=>exact bQ (bQ ⟨by decide,e2 ok λz=>by have:=hb.mpr z.1;cases this⟩)
 |true=>
  have ord:=hb.mp rfl;refine bE ⟨_,rfl,aK ls,sx,tg,by rw[pl];omega,λi acc=>acc=(((ls.take i).map (bJ r c)).map PV.bl),rfl,?_,?_⟩
  ·rintro i z acc hz rfl
   obtain⟨l,rfl,hlm⟩:=kY hz
   refine⟨_,rfl,_,rfl,_,rfl,r,c,l,rfl,trivial,?_⟩;dsimp only;rw[bv5,hlm,br8,br8];rfl
  rintro acc rfl;rw[pl,bx0];refine⟨ls.map (bJ r c),rfl,_,rfl,?_⟩;cases ha:(ls.map (bJ r c)).all id with
  |false=>
   refine bQ ⟨by decide,e2 ok λz=>?_⟩
   have:(ls.map (bJ r c)).all id=true:=by
    rw[List.all_map,bB0];exact λl hlm=>z.2 l hlm
   rw[ha]at this;cases this
  |true=>
   refine bE ?_
   have st:gR r c ls:=⟨ord,λl hlm=>by
    rw[List.all_map,bB0]at ha
    exact ha l hlm⟩
   have sT:rK x=some (aK ls):=by rcases hx with rfl|rfl<;>rfl
   refine⟨_,rfl,⟨_,_,rfl,sT,jZ _,trivial,q ok st⟩,λns z=>?_⟩;rcases hx with rfl|rfl<;>cases z
noncomputable def l6 (l:Int×Int):aa:=[(l.1-1,l.2),(l.1,l.2-1),(l.1,l.2+1),(l.1+1,l.2)]
noncomputable def bB (r c:Int)(l:Int×Int):aa:=(l6 l).filter (bJ r c)
noncomputable def tM:cD:=λxs Q=>∃(r c:Int) (l:Int×Int),xs = [.int r,.int c,.tup [.int l.1,.int l.2]]/\Q (.lst (aK (bB r c l)))
noncomputable def aa8:aS:=(aN (bH 3 (b7 (a5 2) (qC (.int 0))))
 (aN (bH 4 (b7 (a5 2) (qC (.int 1))))
 (aN (bH 5 (jJ (a6 (eU (a6 (jR (a5 3) (qC (.int 1))) (a6 (a5 4) aA))) (a6 (eU (a6 (a5 3) (a6 (jR (a5 4) (qC (.int 1))) aA))) (a6 (eU (a6 (a5 3) (a6 (bS (a5 4) (qC (.int 1))) aA))) (a6 (eU (a6 (bS (a5 3) (qC (.int 1))) (a6 (a5 4) aA))) aA))))))
 (bX (eV (e8 (a5 5)) [none,some 0,some 1] (cN 0) (bF (aD nU (a6 (a5 1) (a6 (a5 2) (a6 (a5 0) aA))))) (a5 0))))))
theorem aW1:dP aa8 ["rows","columns","cell","row","column","sides"] tM:=by
 rintro xs Q ⟨r,c,l,rfl,q⟩;refine⟨_,rfl,_,_,_,rfl,rfl,rfl,trivial,?_⟩;refine⟨_,rfl,_,_,_,rfl,rfl,rfl,trivial,?_⟩;refine⟨_,rfl,_,_,rfl,rfl,_,rfl,by show 2<=1000;decide,rfl,_,rfl,_,rfl,_,_,rfl,rfl,by show 2<=1000;decide,rfl,_,rfl,_,rfl,_,_,rfl,rfl,by show 2<=1000;decide,rfl,_,rfl,_,_,rfl,rfl,_,rfl,by show 2<=1000;decide,rfl,by show 4<=1000;decide,rfl,trivial,?_⟩;refine⟨_,rfl,aK (l6 l),rfl,(λz=>by cases z),by show 4<=16000000;decide,λi acc=>acc=aK (((l6 l).take i).filter (bJ r c)),rfl,?_,?_⟩
 ·rintro i z acc hz rfl
  obtain⟨m,rfl,hm⟩:=kY hz
  have tk:=U7 (p:=bJ r c) hm;refine⟨_,rfl,_,rfl,_,rfl,r,c,m,rfl,_,rfl,?_⟩;cases hb:bJ r c m with
  |true=>
   rw[hb,if_pos rfl]at tk;refine bQ ⟨_,rfl,trivial,?_⟩;dsimp only;rw[tk];unfold aK;rw[br8];rfl
  |false=>
   rw[hb,if_neg (by decide),bv0]at tk;refine bE ?_;dsimp only;rw[tk]
 ·rintro acc rfl
  exact⟨trivial,q⟩
section
variable {ls:aa}{n:Nat}{B:ae}
noncomputable def ins (ls:aa)(S:ae)(h:Int):Nat:=((vQ ls h).filter λx=>decide (x∈S)).length
end
end Core
namespace L2
open PySem PySem.Spec PyProof.Rows SO
theorem fM.keep {h h':Heap}{M:Int}{v:av}{p q:Int}(z:fM h M v p q)(k:∀b o,h.get? b=some o->h'.get? b=some o):fM h' M v p q:=by
 obtain⟨b,ob,us,n,e1,e2,e3,e4,e5⟩:=z.at_
 exact⟨⟨b,ob,us,n,e1,k _ _ e2,e3,e4,e5⟩,z.lo,z.hi⟩
theorem aW2 {h:Heap}{M:Int}:∀{vs:List av},(∀v∈vs,∃pp qq,fM h M v pp qq)->∃fs:List av,PySem.W.KatTups h vs fs/\fs.length=vs.length/\∀v∈fs,∃i t,v=Value.int i t:=by
 intro vs
 induction vs with
 |nil=>intro _;exact⟨[],PySem.W.KatTups.nil,rfl,λ_ z=>nomatch z⟩
 |cons v vs ih=>
  intro hh
  obtain⟨fs,t1,t2,t3⟩:=ih λy hy=>hh y (bp0 _ hy)
  obtain⟨pp,qq,z⟩:=hh v bp5
  obtain⟨b,ob,us,n,rfl,e2,e3,e4,e5⟩:=z.at_
  cases e5 with
  |cons _ t e6=>exact⟨Value.int pp t::fs,PySem.W.KatTups.cons e2 e3 e4 (by simp) t1,by simp[t2],λv hv=>(bp1.mp hv).elim (λz=>⟨pp,t,z⟩) (t3 v)⟩
theorem aW3 {prog:az}{w:bc}{A:ba}{E:av->ax->Prop}{s:ax}{T:String}{r d:ay}{n:Nat}{P:Nat->av->Prop}{OK:Heap->Prop}{Q:av->ax->Prop}{M:Int}(K:PySem.W.KdlSrc prog w T r d n P OK)(hh:A.handled=none)(hok:OK s.heap)(hn:n<=sizeLine)(hI:∀acc,ItemsOf P acc n->∀v∈acc.toList,∃pp qq,fM s.heap M v pp qq)(h:∀h' tk a (acc:Array av) (out:List av) e,(∀b o,s.heap.get? b=some o->h'.get? b=some o)->s.heap.objs.size<=a->h'.get? a=some (seqObj "list" out.toArray e)->ItemsOf P acc n->out.Perm acc.toList->out.Pairwise (λu v=>∀p q p' q',fM s.heap M u p q->fM s.heap M v p' q'->p*(2*M+1)+q<=p'*(2*M+1)+q')->Q (.ref a) { s with heap:=h',toks:=tk }) :
  wpAny (model prog w) A (call (.builtin "sorted") [.ref r]) Q E s:=by
 refine Calls.call_function_entry kind_sorted plain_sorted entry_sorted (args_sorted1 _) ?_;unfold Builtin.«sorted»;refine bo2 (m:=checkCount "sorted" 1 1 _) (bo5 ?_);refine bo2 (Raw.W7 (s:=s) K hh hok hn λh' tk acc kp hs it=>?_);have hz:acc.toList.length<=sizeLine:=by rw[bq5,it.1];exact hn
 refine bo2 (wpAny_newList ?_ hz);have hoL:(h'.push (seqObj "list" acc.toList.toArray 0)).get? h'.objs.size=some (seqObj "list" acc.toList.toArray 0):=bp4 _ rfl;show wpAny _ _ _ _ _ { s with heap:=h'.push (seqObj "list" acc.toList.toArray 0),toks:=tk };refine bo2 (bv9 (bt1 slot_list_sort ⟨_,hoL,rfl⟩ entry_list_sort ?_ (args_list_sort _)));have keepS:∀out:List av,∀b o,s.heap.get? b=some o->(sortedHeap (h'.push (seqObj "list" acc.toList.toArray 0)) h'.objs.size acc.toList out.toArray).get? b=some o:=λout b o hb=>by
  have lt:=bp9 (kp b o hb);rw[sortedHeap_old (br1 lt) (by rw[size_push'];exact bA1 lt)];exact bo4 _ (kp b o hb)
 by_cases h2:acc.toList.length<2
 ·refine qZ (s:={ s with heap:=h'.push (seqObj "list" acc.toList.toArray 0),toks:=tk }) hoL h2 ⟨_,rfl,bo5 ⟨_,rfl,?_⟩⟩
  obtain⟨e,he⟩:=sortedHeap_at (vs:=acc.toList) (out:=acc.toList.toArray) hoL
  refine h _ tk h'.objs.size acc acc.toList e (keepS acc.toList) hs he it (bz2 _) ?_
  match hl:acc.toList,h2 with
  |[],_=>exact bz3
  |[_],_=>exact bu4 _ _
  |_::_::_,h2=>simp at h2;omega
 ·have kM:∀b o,s.heap.get? b=some o->(eW (h'.push (seqObj "list" acc.toList.toArray 0)) h'.objs.size acc.toList).get? b=some o:=λb o hb=>by
   have lt:=bp9 (kp b o hb);exact T8 (br1 lt) (bo4 _ (kp b o hb))
  have allp:∀v∈acc.toList,∃pp qq,fM (eW (h'.push (seqObj "list" acc.toList.toArray 0)) h'.objs.size acc.toList) M v pp qq:=λv hv=>by
   obtain⟨pp,qq,z⟩:=hI acc it v hv
   exact⟨pp,qq,z.keep kM⟩
  obtain⟨fs,t1,t2,t3⟩:=aW2 allp
  refine T9 (s:={ s with heap:=h'.push (seqObj "list" acc.toList.toArray 0),toks:=tk }) (κ:=tuples' true) (Ok:=λx=>∃pp qq,fM (eW (h'.push (seqObj "list" acc.toList.toArray 0)) h'.objs.size acc.toList) M x.1 pp qq) (rk:=sR (eW (h'.push (seqObj "list" acc.toList.toArray 0)) h'.objs.size acc.toList) (2*M+1)) hoL (by omega) hz (λQ hQ=>?_)
   (aM1 (s:={ s with heap:=eW (h'.push (seqObj "list" acc.toList.toArray 0)) h'.objs.size acc.toList,toks:=tk })) (λv hv=>allp v hv) λout pm so=>⟨_,rfl,bo5 ⟨_,rfl,?_⟩⟩
  ·refine PySem.W.kat_kind (T:=.type "int") t1 (by omega) (λv hv=>?_) (by decide) ?_
   ·obtain⟨i,t,rfl⟩:=t3 v hv
    exact PySem.W.Looks.now
   ·have eT:(Value.type "int" != Value.type "tuple")=true:=by decide
    rw[eT];exact hQ
  ·obtain⟨e,he⟩:=sortedHeap_at (vs:=acc.toList) (out:=out.toArray) hoL
   refine h _ tk h'.objs.size acc out e (keepS out) hs he it pm (so.imp λ{u v} le p q p' q' z z'=>?_);have r1:=fM.rk (B:=2*M+1) (x:=(u,u)) (z.keep kM);have r2:=fM.rk (B:=2*M+1) (x:=(v,v)) (z'.keep kM);rw[r1,r2]at le;exact le
noncomputable abbrev aW4 (l:Int×Int):ae:=[l.1,l.2]
noncomputable abbrev kk (l:Int×Int):List aI:=[Sum.inl l.1,Sum.inl l.2]
theorem aa9 {α β:Type}{R:α->β->Prop}{xs ys:List α}(h:xs.Perm ys):∀{ks:List β},Paired R xs ks->∃ks',ks'.Perm ks/\Paired R ys ks':=by
 induction h with
 |nil=>intro ks r;exact⟨ks,bz2 _,r⟩
 |cons v _ ih=>
  intro ks r;cases r with
  |cons r t=>
   obtain⟨xs',p,r'⟩:=ih t
   exact⟨_::xs',p.cons _,.cons r r'⟩
 |swap u v l=>
  intro xs r;cases r with
  |cons r t=>cases t with
   |cons r2 t2=>exact⟨_,List.Perm.swap _ _ _,.cons r2 (.cons r t2)⟩
 |trans _ _ ih1 ih2=>
  intro xs r
  obtain⟨x1,p1,r1⟩:=ih1 r
  obtain⟨x2,p2,r2⟩:=ih2 r1
  exact⟨x2,p2.trans p1,r2⟩
noncomputable def ab0:List V->Hp->VK->Prop:=λxs H Q=>∃(a:ay) (kvs:List (List aI×V)) (ls:aa),xs = [.ref a]/\H a=some (.dT kvs)/\kvs.map (·.1)=ls.map kk/\∀(l:ay) (zs:List V) (ms:aa),H l=none->ms.Perm ls->ms.Pairwise (λu v=>HT.aH [v.1,v.2] [u.1,u.2]=false)->Paired (fF H) zs (ms.map kk)->Q (.ref l) (upd H l (.lst zs))
theorem ab1 {H:Hp}:∀{ys:List V}{vs:List av}{ls:aa},aL ys vs->Paired (fF H) ys (ls.map kk)->Paired (λv l=>∃y,aQ y v/\fF H y (kk l)) vs ls
 |_,_,[],.nil,_=>.nil
 |_,_,[],.cons _ _,p=>nomatch p
 |_,_,l::ls,.cons r t,.cons k p=>.cons ⟨_,r,k⟩ (ab1 t p)
theorem ab2 {H:Hp}:∀{vs:List av}{ls:aa},Paired (λv l=>∃y,aQ y v/\fF H y (kk l)) vs ls->∃ys:List V,aL ys vs/\Paired (fF H) ys (ls.map kk)
 |_,_,.nil=>⟨[],.nil,.nil⟩
 |_,_,.cons ⟨y,r,k⟩ p=>by
  obtain⟨ys,t,q⟩:=ab2 p
  exact⟨y::ys,.cons r t,.cons k q⟩
theorem ab3 {α β:Type}{R:α->β->Prop}:∀{xs:List α}{ys:List β},Paired R xs ys->∀y∈ys,∃x∈xs,R x y
 |_,_,.nil,y,h=>nomatch h
 |_,_,.cons r p,y,h=>by
  rcases bp1.mp h with rfl|h
  ·exact⟨_,bp5,r⟩
  ·obtain⟨x,hx,rx⟩:=ab3 p y h
   exact⟨x,bp0 _ hx,rx⟩
theorem yC {α β:Type}{R:α->β->Prop}:∀{xs:List α}{ys:List β},Paired R xs ys->∀x∈xs,∃y∈ys,R x y
 |_,_,.nil,y,h=>nomatch h
 |_,_,.cons r p,y,h=>by
  rcases bp1.mp h with rfl|h
  ·exact⟨_,bp5,r⟩
  ·obtain⟨x,hx,rx⟩:=yC p y h
   exact⟨x,bp0 _ hx,rx⟩
theorem yD {α β:Type}{J:α->β->Prop}{R:α->α->Prop}{S:β->β->Prop}:∀{xs:List α}{ys:List β},Paired J xs ys->xs.Pairwise R->(∀u v a b,a∈ys->b∈ys->J u a->J v b->R u v->S a b)->ys.Pairwise S
 |_,_,.nil,_,_=>.nil
 |_,_,.cons (a:=x) (b:=y) r p,.cons h t,f=>by
  refine .cons (λb hb=>?_) (yD p t λu v a b ha hb=>f u v a b (bp0 _ ha) (bp0 _ hb))
  obtain⟨v,hv,jv⟩:=ab3 p b hb
  exact f x v y b bp5 (bp0 _ hb) r jv (h v hv)
theorem aW5 {X:Cx}(hc:X.calm=true):cH X (.builtin "sorted") ab0:=by
 intro ag s σ H xs us Q I r h
 obtain⟨a,kvs,ls,rfl,ha,hk,q⟩:=h
 obtain⟨u,rfl,ru⟩:=fV r
 cases ru
 obtain⟨es,ep,ys,rd,far,pk,vk,z⟩:=K7 I ha
 rw[hk]at pk;have hl:=vk.length;have hl2:=pk.length;have hl3:=congrArg List.length hk;rw[bo7]at hl hl2 hl3;rw[bo7]at hl3;have hsz:es.toList.length=es.size:=bq5
 obtain⟨M,hM⟩:=U1 (λl:Int×Int=>l.2) ls
 have pv:∀{y:V}{v:av}{l:Int×Int},aQ y v->fF H y (kk l)->l∈ls->fM s.heap M v l.1 l.2:=λ{y v l} ry ka hm=>by
  obtain⟨b,rfl,hb⟩:=ka
  cases ry
  obtain⟨us,ru,⟨ob,e1,c1,n1,d1⟩,_⟩:=I.tuple (show aJ X.K H b (((aW4 l)).map V.int) from aJ.of hb)
  have ia:=fB ru;have mm:=hM l hm
  exact⟨⟨b,ob,us,n1,rfl,e1,c1,d1,ia⟩,mm.1,mm.2⟩
 have jt:=ab1 vk pk;refine aW3 (M:=M) (Raw.K6 far) (I.ok.hd hc) rd (by omega) (λacc it v hv=>?_) λh' tk l acc out e kp hn he it pm so=>?_
 ·rw[r9 it]at hv
  obtain⟨m,hm,y,ry,ka⟩:=yC jt v hv
  exact⟨m.1,m.2,pv ry ka hm⟩
 ·rw[r9 it]at pm
  obtain⟨ms,pms,jo⟩:=aa9 pm.symm jt
  obtain⟨zs,vz,pz⟩:=ab2 jo
  have lz:=vz.length;have lo:=pm.length_eq;rw[bo7]at lo;refine⟨.ref l,upd H l (.lst zs),I.laid (t':=tk) kp hn ⟨by omega,out,e,vz,he⟩,rfl,q l zs ms (I.hok.fresh hn) pms ?_ pz⟩;refine yD jo so λu v a b ha hb ⟨y,ry,ka⟩ ⟨y',ry',kb⟩ le=>?_
  have h1:=pv ry ka (pms.mem_iff.mp ha);have h2:=pv ry' kb (pms.mem_iff.mp hb)
  have:=le _ _ _ _ h1 h2
  rw[U0 h2.lo h2.hi h1.lo h1.hi];exact bp6 (by omega)
end L2
namespace PP
open PySem L2
section
variable {X:Cx}{e:Expr}{tr:cM}{pos p2:Pos}
noncomputable def yE:List PV->(PV->Prop)->Prop:=λxs Q=>∃(ps:List (List aI×PV)) (ls:aa),xs = [.dT ps]/\ps.map (·.1)=ls.map kk/\∀ms:aa,ms.Perm ls->ms.Pairwise (λu v=>HT.aH [v.1,v.2] [u.1,u.2]=false)->Q (.lst (ms.map λl=>PV.tup [.int l.1,.int l.2]))
theorem ab4 {K:ac}{M:ay->Prop}{H:Hp}:∀{zs:List V}{ms:aa},Paired (fF H) zs (ms.map kk)->Reps K M H zs (ms.map λl=>PV.tup [.int l.1,.int l.2])
 |_,[],.nil=>.nil
 |_,l::ms,.cons ⟨q,e,h⟩ p=>by
  subst e;exact .cons (.tup h (.cons (.int _) (.cons (.int _) .nil))) (ab4 p)
theorem aW6:dZ X yE ab0:=by
 rintro H vs xs Q Q' r ⟨ps,ls,rfl,e,q⟩ k
 obtain⟨v,rfl,r1⟩:=r.one
 cases r1 with
 |@dT a kvs _ m h e2 r2=>
  exact⟨a,kvs,ls,rfl,h,e2.trans e,λl zs ms hl' p o pz=>k _ _ _ (bK hl' _) (.lst hl' bZ ((ab4 pz).same (bK hl' _) λ_ z=>z)) (q ms p o)⟩
theorem aW7 (B:Bt X.mg)(hc:X.calm=true)(ha:QA X [e] tr)(hg:Gl X "sorted":=by rfl)(he:starEach [e] X.env=(false,eval e X.env)::starEach [] X.env:=by rfl)(hpl:(backTo pos (starEach [] X.env)).any (·.1)=false:=by rfl):QE X (.Call (.Name "sorted" p2) [e] [] pos) (aD yE tr):=
 gP (aW5 hc) aW6 hg B.sorted PyProof.Rows.boot_sorted ha (he:=he) (hpl:=hpl)
end
section
variable {X:Cx}{o e f:Expr}{td tk tx:aF}{pos ah ai:Pos}{σ:St}{H:Hp}{Q':VK}
noncomputable def yF (td tk tx:aF):aF:=λρ Q=>td ρ λx _=>∃ps,x = .dT ps/\tk ρ λy _=>tx ρ λz _=>∃k,y = .tup (k.map kP)/\flat ((cA ps k).getD z)=true/\Q ((cA ps k).getD z) .fr
theorem aW8 (h:LE X (yF td tk tx) σ H Q'):G6 (LE X td) (LE X tk) (LE X tx) σ H Q':=by
 obtain⟨W,ρ,Q,px,q,k⟩:=h
 refine⟨W,ρ,_,px,q,?_⟩;rintro v H1 x g s r ⟨ps,rfl,q⟩;have r0:=r;cases r with
 |@dT a kvs _ m h e rr=>
  refine⟨a,rfl,.inr ⟨kvs,.inl h⟩,W,ρ,_,px.mono s,q,λw H2 y g' s2 r2 q2=>⟨W,ρ,_,(px.mono s).mono s2,q2,?_⟩⟩;rintro w3 H3 z gz s3 r3 ⟨kk,rfl,fl,q⟩
  obtain⟨a',o',ea,dg,h1,h2⟩:=wI (.inr ⟨ps,kk,rfl,rfl,rfl⟩) (r0.same (s2.trans s3) λ_ z=>z) (r2.same s3 λ_ z=>z)
  cases ea;refine⟨o',dg,?_⟩;cases hv:cA ps kk with
  |none=>
   rw[hv]at fl q;rw[h1 hv];exact k _ _ _ .fr ((s.trans s2).trans s3) (r3.flat fl) q
  |some z'=>
   rw[hv]at fl q
   obtain⟨u,rfl,ru⟩:=h2 z' hv
   exact k _ _ _ .fr ((s.trans s2).trans s3) (ru.flat fl) q
theorem aW9 (hu:X.A.units+1<cLine)(ho:QE X o td)(he:QE X e tk)(hf:QE X f tx)(m:M2 X o "get" ah e f ai:=by exact⟨rfl,rfl,rfl,rfl⟩):QE X (.Call (.Attribute o "get" ah) [e,f] [] ai) (yF td tk tx):=cO (az3 hu ho he hf m) λ_ _ _=>aW8
end
end PP
namespace Core
open PySem L2 PP
noncomputable def dS (K:aa):List (List aI×PV):=K.map λl=>(cV l,PV.bl true)
theorem ab5 {a b:Int×Int}(h:cV a=cV b):a=b:=by
 unfold cV at h;injection h with h1 h2
 injection h2 with h2
 exact bC8 (Sum.inl.inj h1) (Sum.inl.inj h2)
theorem aX0 (K:aa):(dS K).map (·.1)=K.map cV:=by unfold dS;rw[bw0];rfl
theorem ab6 (K:aa):(dS K).length=K.length:=by unfold dS;rw[bo7]
theorem ab7 (K:aa)(x:Int×Int):(cA (dS K) (cV x)).isSome=decide (x∈K):=by
 rw[<- nM,bC0,List.any_eq_true,bt0];unfold dS;refine⟨λ⟨p,hp,e⟩=>?_,λh=>⟨_,br5.mpr ⟨x,h,rfl⟩,bp8 rfl⟩⟩
 obtain⟨y,hy,rfl⟩:=br5.mp hp
 rw[<- ab5 (bG1 e:cV y=cV x)];exact hy
theorem ab8 {K:aa}{x:Int×Int}(h:x∉K):dR (dS K) (cV x) (.bl true)=dS (K++[x]):=by
 have:((dS K).any λkv=>decide (kv.1=cV x))=false:=by
  rw[nM,ab7,bp6 h]
 unfold dR;rw[this];unfold dS;rw[br8];rfl
noncomputable def Met (ps:List (List aI×PV))(f:Int×Int->Nat):Prop:=∀x,(cA ps (cV x)).getD (.int 0) = .int (f x)
theorem Met.nil:Met [] λ_=>0:=λ_=>rfl
theorem Met.put {ps:List (List aI×PV)}{f:Int×Int->Nat}(h:Met ps f)(s:Int×Int)(v:PV)(hv:v = .int ((f s+1:Nat):Int)):Met (dR ps (cV s) v) (λx=>if x=s then f x+1 else f x):=λx=>by
 rw[V0];dsimp only;by_cases e:x=s
 ·subst e;rw[if_pos rfl,if_pos rfl,hv];rfl
 ·rw[if_neg (λz=>e (ab5 z)),if_neg e];exact h x
inductive iK (r c:Int)(S:aa):Int×Int->Prop
 |seed {x:Int×Int}:x∈S->iK r c S x
 |kin {x a b:Int×Int}:bJ r c x=true->a∈bB r c x->b∈bB r c x->a≠b->iK r c S a->iK r c S b->iK r c S x
theorem tN {r c:Int}{x y:Int×Int}(hx:bJ r c x=true)(h:y∈bB r c x):x∈bB r c y:=by
 unfold bB at h ⊢
 obtain⟨h1,_⟩:=bx1.mp h
 refine bx1.mpr ⟨?_,hx⟩;unfold l6 at h1 ⊢;simp only[bp1,bq0,bv1,Prod.ext_iff]at h1 ⊢;rcases h1 with⟨a,b⟩|⟨a,b⟩|⟨a,b⟩|⟨a,b⟩
 ·exact .inr (.inr (.inr ⟨by rw[a];exact (Int.sub_add_cancel ..).symm,b.symm⟩))
 ·exact .inr (.inr (.inl ⟨a.symm,by rw[b];exact (Int.sub_add_cancel ..).symm⟩))
 ·exact .inr (.inl ⟨a.symm,by rw[b];exact (Int.add_sub_cancel ..).symm⟩)
 ·exact .inl ⟨by rw[a];exact (Int.add_sub_cancel ..).symm,b.symm⟩
theorem ab9 {r c:Int}{x y:Int×Int}(h:y∈bB r c x):bJ r c y=true:=(bx1.mp h).2
theorem ac0 (r c:Int)(x:Int×Int):(bB r c x).Nodup:=by
 unfold bB;refine List.Pairwise.filter _ (?_:(l6 x).Nodup);unfold l6;simp only[bC1,bp1,bq0,bv1,Prod.ext_iff,not_false_eq_true,List.nodup_nil,and_true];omega
noncomputable def cZ (r c:Int)(P:aa)(x:Int×Int):Nat:=(P.filter λp=>decide (x∈bB r c p)).length
theorem ac1 (r c:Int)(P:aa)(p x:Int×Int):cZ r c (P++[p]) x=cZ r c P x+(if x∈bB r c p then 1 else 0):=by
 unfold cZ;rw[List.filter_append,br0];by_cases h:x∈bB r c p<;>simp[h]
theorem aX1 {r c:Int}{P:aa}{x a b:Int×Int}(ha:a∈P)(hb:b∈P)(ne:a≠b)(xa:x∈bB r c a)(xb:x∈bB r c b):2<=cZ r c P x:=by
 unfold cZ;have ma:a∈P.filter λp=>decide (x∈bB r c p):=bx1.mpr ⟨ha,bp8 xa⟩
 have mb:b∈P.filter λp=>decide (x∈bB r c p):=bx1.mpr ⟨hb,bp8 xb⟩
 generalize P.filter (λp=>decide (x∈bB r c p))=l at ma mb
 match l with
 |[]=>cases ma
 |[y]=>rw[bp2.mp ma,bp2.mp mb]at ne;exact absurd rfl ne
 |_::_::_=>simp
theorem aX2 {r c:Int}{P:aa}{x:Int×Int}(h:1<=cZ r c P x):∃q∈P,x∈bB r c q:=by
 unfold cZ at h;cases hl:P.filter λp=>decide (x∈bB r c p) with
 |nil=>rw[hl]at h;cases h
 |cons q t=>
  have:q∈P.filter λp=>decide (x∈bB r c p):=by rw[hl];exact bp5
  exact⟨q,(bx1.mp this).1,bG1 (bx1.mp this).2⟩
structure Wk (r c:Int)(S K P:aa):Prop where
 nd:K.Nodup
 ndP:P.Nodup
 sub:∀x∈P,x∈K
 brn:∀x∈K,iK r c S x
 sd:∀x∈S,x∈K
 bd:∀x∈K,bJ r c x=true
 low:∀x,x∉K->cZ r c P x<2
noncomputable def dE (r c:Int)(K P:aa)(s:Int×Int):Bool:=!decide (s∈K)&&decide (cZ r c P s=1)
theorem Wk.step {r c:Int}{S K P:aa}{p:Int×Int}(w:Wk r c S K P)(hp:p∈K)(np:p∉P):Wk r c S (K++(bB r c p).filter (dE r c K P)) (P++[p]):=by
 have new:∀s∈(bB r c p).filter (dE r c K P),s∈bB r c p/\s∉K/\cZ r c P s=1:=λs hs=>by
  obtain⟨h1,h2⟩:=bx1.mp hs
  unfold dE at h2;rw[bz1,Bool.not_eq_true',bA2,bt0]at h2
  exact⟨h1,h2.1,h2.2⟩
 refine⟨bD1.mpr ⟨w.nd,List.Pairwise.filter _ (ac0 r c p),λa ha b hb e=>(new b hb).2.1 (e▸ha)⟩,bD1.mpr ⟨w.ndP,bu4 _ _,λa ha b hb e=>np (by rw[<- bp2.mp hb,<- e];exact ha)⟩,λx hx=>?_,λx hx=>?_,λx hx=>bt4 _ (w.sd x hx),λx hx=>?_,λx hx=>?_⟩
 ·rcases bs0.mp hx with h|h
  ·exact bt4 _ (w.sub x h)
  ·rw[bp2.mp h];exact bt4 _ hp
 ·rcases bs0.mp hx with h|h
  ·exact w.brn x h
  ·obtain⟨h1,h2,h3⟩:=new x h
   obtain⟨q,hq,xq⟩:=aX2 (r:=r) (c:=c) (P:=P) (x:=x) (by omega)
   have qK:=w.sub q hq;exact .kin (ab9 h1) (tN (w.bd p hp) h1) (tN (w.bd q qK) xq) (λe=>np (e▸hq)) (w.brn p hp) (w.brn q qK)
 ·rcases bs0.mp hx with h|h
  ·exact w.bd x h
  ·exact ab9 (new x h).1
 ·have nK:x∉K:=λh=>hx (bt4 _ h)
  have lo:=w.low x nK;rw[ac1];by_cases h:x∈bB r c p
  ·rw[if_pos h]
   have:cZ r c P x≠1:=λe=>hx (bs8 _ (bx1.mpr ⟨h,by unfold dE;rw[bp6 nK,bp8 e];rfl⟩))
   omega
  ·rw[if_neg h];omega
theorem Wk.all {r c:Int}{S K P:aa}(w:Wk r c S K P)(h:∀x∈K,x∈P)(x:Int×Int):x∈K↔iK r c S x:=by
 refine⟨w.brn x,λb=>?_⟩
 induction b with
 |seed hs=>exact w.sd _ hs
 |@kin x a b bx sa sb ne _ _ ia ib=>
  refine bx6 λnx=>?_
  have:=aX1 (h a ia) (h b ib) ne (tN bx sa) (tN bx sb)
  have:=w.low x nx
  omega
theorem Wk.init {r c:Int}{S:aa}(nd:S.Nodup)(bd:∀x∈S,bJ r c x=true):Wk r c S S []:=⟨nd,.nil,(λ_ h=>nomatch h),λx h=>.seed h,λx h=>h,bd,λx _=>(by decide:(0:Nat)<2)⟩
theorem tO {r c:Int}(ok:cR r c){K:aa}(nd:K.Nodup)(bd:∀x∈K,bJ r c x=true):K.length<=1600:=by
 have:=t7 1600 (K.map λl=>(l.1*40+l.2).toNat) (by
  refine bu7.mpr (nd.imp_of_mem λ{a b} ha hb hab e=>hab ?_);have i1:=nT.mp (bd a ha);have i2:=nT.mp (bd b hb)
  have:=ok.2.2.2
  exact bC8 (by omega) (by omega)) λx hx=>by
   obtain⟨l,hl,rfl⟩:=br5.mp hx
   have i1:=nT.mp (bd l hl)
   have:=ok.2.1
   have:=ok.2.2.2
   omega
 rwa [bo7]at this
theorem tP {α:Type}{l:List α}{i:Nat}{x:α}(nd:l.Nodup)(h:l[i]? = some x):x∉l.take i:=λz=>by
 have:(l.take (i+1)).Nodup:=nd.sublist (List.take_sublist _ _)
 rw[bv5,h]at this;exact (bD1.mp this).2.2 x z x (by simp) rfl
theorem aX3 (K:aa):flats ((dS K).map (·.2))=true:=by
 unfold dS;rw[bw0]
 induction K with
 |nil=>rfl
 |cons a r ih=>exact ih
noncomputable def tQ:cD:=λxs Q=>∃(x:PV) (ls:aa),xs = [x]/\(x = .tup (aK ls)∨x = .lst (aK ls))/\ls.Nodup/\ls.length<=4096/\Q (.dT (dS ls))
noncomputable def ac2:aS:=(aN (iE 1 (qC (.dT [])))
 (aN (fH (e8 (a5 0)) (cN 2)
  (lT 1 (a5 2) (qC (.bl true))))
 (jK 1)))
theorem aX4:dP ac2 ["hearths","inside","hearth"] tQ:=by
 rintro xs Q ⟨x,ls,rfl,hx,nd,hl,q⟩;have sx:jL x=some (aK ls):=by rcases hx with rfl|rfl<;>rfl
 have tg:(Slot.sh (flat x) x).tag = .rd->flat x=true:=by cases flat x<;>intro z<;>cases z
 refine⟨rfl,rfl,_,rfl,aK ls,sx,tg,λi ρ=>∃y,ρ = [some (.sh (flat x) x),some (.own (.dT (dS (ls.take i)))),y],⟨none,rfl⟩,?_,?_⟩
 ·rintro i y ρ hy ⟨y0,rfl⟩
  obtain⟨l,rfl,h⟩:=kY hy
  have tk:dR (dS (ls.take i)) (cV l) (.bl true)=dS (ls.take (i+1)):=by rw[ab8 (tP nd h),bv5,h];rfl
  refine⟨_,rfl,_,rfl,cV l,rfl,trivial,by rw[ab6,bA8];omega,?_⟩;rw[tk]
  exact⟨_,rfl⟩
 ·rintro ρ ⟨y,rfl⟩
  rw[gE,bx0]
  exact⟨_,rfl,trivial,q⟩
noncomputable def pT:fN:=λEp xs Q=>∃(r c:Int) (x:PV) (ls:aa),xs = [.int r,.int c,x]/\(x = .tup (aK ls)∨x = .lst (aK ls))/\ls.length<=4096/\(¬cR r c->Ep "BadBoard")/\(cR r c->¬gR r c ls->Ep "BadSet")/\
 (cR r c->gR r c ls->∀K:aa,K.Pairwise dA->(∀y,y∈K↔iK r c ls y)->K.length<=1600->Q (.tup (aK K)))
noncomputable def ac3 (Ep:Str->Prop):aS:=(aN (bH 3 (kZ Ep l5 (a6 (a5 0) (a6 (a5 1) (a6 (a5 2) aA)))))
 (aN (iE 4 (aD tQ (a6 (a5 3) aA)))
 (aN (iE 5 (aD rL (a6 (a5 3) aA)))
 (aN (iE 6 (qC (.dT [])))
 (aN (rJ (rN (a5 5))
  (aN (wB 5 7)
  (fH (e8 (aD tM (a6 (a5 0) (a6 (a5 1) (a6 (a5 7) aA))))) (cN 8)
   (aN (lT 6 (a5 8) (bS (yF (a5 6) (a5 8) (qC (.int 0))) (qC (.int 1))))
   (dL (vY (bF (wR (wJ (a5 6) (a5 8)) (qC (.int 2)))) (bF (oS true (a5 8) (a5 4)))) (aN (lT 4 (a5 8) (qC (.bl true)))
    (mW 5 (a5 8))) dQ)))))
 (bX (aD oV (a6 (aD yE (a6 (a5 4) aA)) aA))))))))
noncomputable def iL (r c:Int)(P:aa)(ss:aa)(x:Int×Int):Nat:=cZ r c P x+(if x∈ss then 1 else 0)
theorem aX5 {r c:Int}{P ss:aa}{j:Nat}{s:Int×Int}(nd:ss.Nodup)(h:ss[j]? = some s):(λx=>if x=s then iL r c P (ss.take j) x+1 else iL r c P (ss.take j) x)=iL r c P (ss.take (j+1)):=by
 funext x
 unfold iL;have tk:ss.take (j+1)=ss.take j++[s]:=by rw[bv5,h];rfl
 rw[tk];by_cases e:x=s
 ·subst e
  rw[if_pos rfl,if_neg (tP nd h),if_pos (by simp)]
 ·rw[if_neg e]
  by_cases m:x∈ss.take j
  ·rw[if_pos m,if_pos (bt4 _ m)]
  ·rw[if_neg m,if_neg (λz=>by rcases bs0.mp z with z|z;exact m z;exact e (bp2.mp z))]
theorem aX6 {a b:Int×Int}(h:HT.aH [b.1,b.2] [a.1,a.2]=false)(ne:a≠b):dA a b:=by
 rw[HT.fX,HT.fX,HT.oH]at h;unfold dA;by_cases e:b.1=a.1
 ·rw[if_pos e]at h
  by_cases e2:b.2=a.2
  ·exact absurd (bC8 e.symm e2.symm) ne
  ·rw[if_neg e2]at h
   have:=bA3 h
   omega
 ·rw[if_neg e]at h
  have:=bA3 h
  omega
theorem aX7 {ms:aa}(nd:ms.Nodup)(so:ms.Pairwise λu v=>HT.aH [v.1,v.2] [u.1,u.2]=false):ms.Pairwise dA:=(List.Pairwise.and so nd).imp λz=>aX6 z.1 z.2
theorem aX8:nQ ac3 ["rows","columns","seeds","chosen","burning","lit","met","cell","side"] pT:=by
 rintro Ep xs Q ⟨r,c,x,ls,rfl,hx,hl,e1,e2,q⟩;refine⟨_,rfl,_,rfl,_,rfl,r,c,x,ls,rfl,hx,hl,e1,e2,λok st=>⟨trivial,?_⟩⟩;have q:=q ok st;have snd:ls.Nodup:=hV st.1;refine⟨_,rfl,_,ls,rfl,.inl rfl,snd,hl,rfl,aX3 ls,?_⟩;refine⟨_,rfl,_,_,rfl,rfl,jZ _,rfl,jZ _,?_⟩;refine⟨rfl,rfl,?_⟩
 refine⟨λn ρ=>∃(K P L:aa) (ps:List (List aI×PV)) (y7 y8:Option Slot),ρ = [si r,si c,some (.sh (flat x) x),some (.sh true (.tup (aK ls))),some (.own (.dT (dS K))),some (.own (.lst (aK L))),some (.own (.dT ps)),y7,y8]/\
   n+P.length=1600/\(P++L).Perm K/\Wk r c ls K P/\Met ps (cZ r c P)/\ps.length<=4*P.length,⟨1600,ls,[],ls,[],none,none,rfl,rfl,bz2 _,Wk.init snd st.2,Met.nil,bp7 _⟩,?_⟩
 rintro n ρ ⟨K,P,L,ps,y7,y8,rfl,nP,pm,wk,me,pl⟩;refine⟨_,rfl,_,rfl,?_⟩;have kf:=tO ok wk.nd wk.bd;have pk:P.length+L.length=K.length:=by rw[<- pm.length_eq,br0]
 rcases List.eq_nil_or_concat L with hL|⟨L',p,hL⟩
 ·subst hL
  have all:=wk.all λy hy=>by
   have:=pm.mem_iff.mpr hy
   rwa [bv0]at this
  refine bE ⟨_,rfl,_,K,rfl,aX0 K,λms pms so=>⟨⟨_,_,rfl,rfl,jZ _,trivial,q ms (aX7 (pms.nodup_iff.mpr wk.nd) so) (λy=>(pms.mem_iff).trans (all y)) (by rw[pms.length_eq];exact kf)⟩,λns z=>by cases z⟩⟩
 ·have hL:L=L'++[p]:=by rw[hL];simp
  subst hL;rw[br0,bu5]at pk;have pp:aK (L'++[p])=aK L'++[.tup [.int p.1,.int p.2]]:=by unfold aK;rw[br8];rfl
  have nz:(!(aK (L'++[p])).isEmpty)=true:=by rw[pp];cases L'<;>rfl
  show if (!(aK (L'++[p])).isEmpty)=true then _ else _
  rw[nz];have pK:p∈K:=pm.mem_iff.mp (by simp);have ndPL:(P++(L'++[p])).Nodup:=pm.nodup_iff.mpr wk.nd;have np:p∉P:=λz=>(bD1.mp ndPL).2.2 p z p (by simp) rfl
  have wk2:=wk.step pK np;have snd2:=ac0 r c p;have sl4:(bB r c p).length<=4:=by
   unfold bB;exact List.length_filter_le _ (l6 p)
  refine bQ ⟨aK L',.tup [.int p.1,.int p.2],by rw[pp];rfl,?_⟩
  refine⟨_,rfl,_,rfl,_,rfl,r,c,p,rfl,aK (bB r c p),rfl,(λz=>by cases z),λj ρ=>∃(ps:List (List aI×PV)) (y8:Option Slot),ρ = [si r,si c,some (.sh (flat x) x),some (.sh true (.tup (aK ls))),some (.own (.dT (dS (K++((bB r c p).take j).filter (dE r c K P))))),some (.own (.lst (aK (L'++((bB r c p).take j).filter (dE r c K P))))),some (.own (.dT ps)),some (.sh true (.tup [.int p.1,.int p.2])),y8]/\
    Met ps (iL r c P ((bB r c p).take j))/\ps.length<=4*P.length+j,⟨ps,y8,?_,?_,by omega⟩,?_,?_⟩
  ·rw[List.take_zero,List.filter_nil,bv0,bv0];rfl
  ·have:iL r c P ((bB r c p).take 0)=cZ r c P:=by funext y;unfold iL;simp
   rw[this];exact me
  ·rintro j y ρ hy ⟨ps2,y8,rfl,me2,pl2⟩
   obtain⟨s,rfl,hs⟩:=kY hy
   have jl:=(bq1.mp hs).1;have nj:=tP snd2 hs;have tk:=U7 (p:=dE r c K P) hs;have ms:=me2 s;have me3:=me2.put s (.int ((iL r c P ((bB r c p).take j) s:Int)+1)) rfl;rw[aX5 snd2 hs]at me3;have fs:iL r c P ((bB r c p).take j) s=cZ r c P s:=by unfold iL;rw[if_neg nj];rfl
   rw[fs]at ms me3;have vs:cA (dR ps2 (cV s) (.int ((cZ r c P s:Int)+1))) (cV s)=some (.int ((cZ r c P s:Int)+1)):=by rw[V0,if_pos rfl]
   have lp:=aN6 ps2 (cV s) (.int ((cZ r c P s:Int)+1));refine⟨_,rfl,ps2,rfl,_,rfl,cV s,rfl,by rw[ms];rfl,_,_,ms,rfl,ps2,rfl,_,rfl,cV s,rfl,trivial,by omega,?_⟩;refine⟨_,rfl,_,rfl,_,.inr ⟨_,cV s,rfl,rfl,vs.symm⟩,.inl ⟨_,_,rfl,rfl,_,rfl,?_⟩⟩;show if decide ((cZ r c P s:Int)+1=2)=true then _ else _
   have tl:=List.length_take_le j (bB r c p);have fl:=List.length_filter_le (dE r c K P) ((bB r c p).take j);by_cases h1:(cZ r c P s:Int)+1=2
   ·rw[bp8 h1]
    refine bQ ⟨_,rfl,_,rfl,_,.inr ⟨_,cV s,rfl,rfl,rfl⟩,_,rfl,?_⟩;show if (!(cA (dS (K++((bB r c p).take j).filter (dE r c K P))) (cV s)).isSome)=true then _ else _
    rw[ab7];by_cases h2:s∈K++((bB r c p).take j).filter (dE r c K P)
    ·have sK:s∈K:=by
      rcases bs0.mp h2 with z|z
      ·exact z
      ·exact absurd (bx1.mp z).1 nj
     have nf:dE r c K P s=false:=by unfold dE;rw[bp8 sK];rfl
     rw[nf,if_neg (by decide),bv0]at tk;rw[bp8 h2];refine bE ?_;rw[<- tk]
     exact⟨dR ps2 (cV s) (.int ((cZ r c P s:Int)+1)),_,rfl,me3,by omega⟩
    ·have sK:s∉K:=λz=>h2 (bt4 _ z)
     have nf:dE r c K P s=true:=by unfold dE;rw[bp6 sK,bp8 (by omega)];rfl
     rw[nf,if_pos rfl]at tk;rw[bp6 h2];refine bQ ⟨_,rfl,_,rfl,cV s,rfl,trivial,by rw[ab6,br0];omega,?_⟩;rw[ab8 h2,bq7,<- tk];refine⟨_,rfl,_,rfl,trivial,by rw[gE,br0];omega,?_⟩;have ap:aK (L'++((bB r c p).take j).filter (dE r c K P))++[.tup [.int s.1,.int s.2]]=aK (L'++((bB r c p).take (j+1)).filter (dE r c K P)):=by
      rw[tk,<- bq7];unfold aK;rw[br8 (l₂:=[s])];rfl
     refine⟨dR ps2 (cV s) (.int ((cZ r c P s:Int)+1)),some (Slot.sh (rO Tg.fr (aK (bB r c p))||flat (PV.tup [PV.int s.1,PV.int s.2])) (.tup [.int s.1,.int s.2])),?_,me3,by omega⟩;show [_,_,_,_,_,some (Slot.own (PV.lst (aK (L'++((bB r c p).take j).filter (dE r c K P))++[.tup [.int s.1,.int s.2]]))),_,_,_]=_;rw[ap]
   ·rw[bp6 h1]
    have nf:dE r c K P s=false:=by unfold dE;rw[bp6 (by omega:¬cZ r c P s=1),bG9]
    rw[nf,if_neg (by decide),bv0]at tk;refine bE (bE ?_);rw[<- tk]
    exact⟨dR ps2 (cV s) (.int ((cZ r c P s:Int)+1)),_,rfl,me3,by omega⟩
  ·rintro ρ ⟨ps2,y8,rfl,me2,pl2⟩
   rw[gE,bx0]at me2;rw[gE]at pl2;rw[gE,bx0];have fe:iL r c P (bB r c p)=cZ r c (P++[p]):=by funext y;rw[ac1];rfl
   rw[fe]at me2;have k2:=tO ok wk2.nd wk2.bd;have sp:=wk2.ndP.length_le_of_subset wk2.sub;rw[br0,bu5]at sp;refine⟨n-1,by omega,K++(bB r c p).filter (dE r c K P),P++[p],L'++(bB r c p).filter (dE r c K P),ps2,_,_,rfl,by rw[br0,bu5];omega,?_,wk2,me2,by rw[br0,bu5];omega⟩
   have:(P++[p]++(L'++(bB r c p).filter (dE r c K P))).Perm ((P++(L'++[p]))++(bB r c p).filter (dE r c K P)):=by
    rw[<- bq7 (P++[p])];refine List.Perm.append_right _ ?_;rw[bq7];exact bD5 _ bw5
   exact this.trans (pm.append_right _)
noncomputable def fO:cD:=λxs Q=>∃(ns:ae) (k:Int),xs = [.scr ns,.int k]/\ns.length<=63/\0<=k/\k<=1000/\∀z:Int,Q (.int z)
noncomputable def ac4:aS:=(aN (dL (bF (lU (a5 1) (aD mX (a6 (a5 0) aA)))) (bX (b7 (a5 0) (a5 1))) dQ)
 (aN (bH 2 (dN (oT (bS (bS (dN (aD m7 (a6 (a5 0) (a6 (dN (a5 1) (aD kQ (a6 (qC (.int 1)) (a6 (aD mX (a6 (a5 0) aA)) aA)))) aA))) (qC (.int 1000000007))) (oT (qC (.int 977)) (a5 1))) (qC (.int 1))) (qC (.int 48271))) (qC (.int 2147483647))))
 (bX (kT (dN (oT (a5 2) (a5 2)) (qC (.int 2147483647))) (qC (.int 8))))))
theorem aX9:dP ac4 ["script","k","stir"] fO:=by
 rintro xs Q ⟨ns,k,rfl,hl,k0,k1,q⟩;refine⟨_,rfl,_,rfl,_,_,rfl,rfl,_,_,rfl,rfl,_,rfl,?_⟩;show if decide (k<(ns.length:Int))=true then _ else _
 by_cases h:k<(ns.length:Int)
 ·rw[bp8 h]
  have hk:L2.atI (intz ns) k=some (.int (ns.getD k.toNat 0)):=V1 k0 h;exact bQ ⟨_,rfl,_,rfl,_,_,_,rfl,rfl,hk,trivial,q _⟩
 ·rw[bp6 h]
  refine bE ?_;have mx:(0:Int)<(if (ns.length:Int)>1 then (ns.length:Int) else 1):=by split<;>omega
  refine⟨_,rfl,_,rfl,_,rfl,_,_,rfl,rfl,_,_,rfl,_,_,rfl,rfl,mx,_,ns,_,rfl,.inl rfl,bE4 _ (Int.ne_of_gt mx),?_⟩;refine⟨_,_,rfl,rfl,(by show (0:Int)<1000000007;decide),_,rfl,_,_,rfl,rfl,.inl ⟨by decide,by decide⟩,_,_,rfl,rfl,_,_,rfl,rfl,_,_,rfl,rfl,.inr ⟨by decide,by decide⟩,_,_,rfl,rfl,(by show (0:Int)<2147483647;decide),trivial,?_⟩;dsimp only;generalize hv:(ns.getD (k%(if (ns.length:Int)>1 then (ns.length:Int) else 1)).toNat 0%1000000007+977*k+1)*48271%2147483647=v;have v0:0<=v:=by rw[<- hv];exact bE4 _ (by decide)
  have v1:v<2147483647:=by rw[<- hv];exact Int.emod_lt_of_pos _ (by decide)
  exact⟨_,rfl,_,rfl,_,_,rfl,rfl,.inl ⟨by omega,by omega⟩,_,_,rfl,rfl,(by show (0:Int)<2147483647;decide),_,_,rfl,rfl,⟨by decide,by decide⟩,trivial,q _⟩
theorem ac5 (K:aa):(cY 3 (.lst (aK K)) (.lst (aK K))=true/\bL 3 (.lst (aK K)) (.lst (aK K))=true)/\cY 3 (.tup (aK K)) (.tup (aK K))=true/\bL 3 (.tup (aK K)) (.tup (aK K))=true:=by
 have h1:cY 3 (.lst (tups (K.map two))) (.lst (tups (K.map two)))=true:=pQ 1 (K.map two) (K.map two);have h2:bL 3 (.lst (tups (K.map two))) (.lst (tups (K.map two)))=decide (K.map two=K.map two):=t8 1 (K.map two) (K.map two);have h3:cY 3 (.tup (tups (K.map two))) (.tup (tups (K.map two)))=true:=pQ 1 (K.map two) (K.map two);have h4:bL 3 (.tup (tups (K.map two))) (.tup (tups (K.map two)))=decide (K.map two=K.map two):=t8 1 (K.map two) (K.map two);rw[bp8 rfl]at h2 h4;have ep:tups (K.map two)=aK K:=(xJ K).symm;rw[ep]at h1 h2 h3 h4
 exact⟨⟨h1,h2⟩,h3,h4⟩
end Core
namespace L2
open PySem PySem.Spec PyProof.Rows SO
noncomputable abbrev kn (ns:ae):List aI:=ns.map Sum.inl
noncomputable def k9 (h:Heap)(ys:ad)(v:av):Prop:=∃ns∈ys,ns≠[]/\iJ h v ns
theorem iJ.keep {h h':Heap}{v:av}{ns:ae}(z:iJ h v ns)(k:∀b o,h.get? b=some o->h'.get? b=some o):iJ h' v ns:=by
 obtain⟨b,ob,us,n,e1,e2,e3,e4,e5⟩:=z.at_
 exact⟨⟨b,ob,us,n,e1,k _ _ e2,e3,e4,e5⟩⟩
theorem k9.keep {h h':Heap}{ys:ad}{v:av}(z:k9 h ys v)(k:∀b o,h.get? b=some o->h'.get? b=some o):k9 h' ys v:=by
 obtain⟨ns,m,ne,z⟩:=z
 exact⟨ns,m,ne,z.keep k⟩
theorem aY0 {prog:az}{w:bc}{A:ba}{E:av->ax->Prop}{s:ax}(ys:ad):SO.cP prog w A E s (tuples' true) (λx=>k9 s.heap ys x.1) (nR s.heap ys):=by
 rintro x y ⟨ns,m1,_,z⟩ ⟨ms,m2,_,z'⟩ st Q hk hq;unfold nR at hq;rw[z.ints,z'.ints,<- Z4 m1 m2]at hq
 obtain⟨b,ob,us,n,e1,e2,e3,e4,e5⟩:=z.at_
 obtain⟨b',ob',us',n',e1',e2',e3',e4',e5'⟩:=z'.at_
 rw[lt'_eq];refine bq2 (wpS_get ?_);rw[hk,e1,e1'];refine bq2 (wpS_lift (bC6 (PySem.W.kat_lt e2 e4 e2' e4' ?_)))
 have:=oP (prog:=prog) (w:=w) (A:=A) (s:=s) (Q:=λa s'=>s'=s/\wpS (model prog w) A E s (pure (some a)) Q st) 0 e5 e5' ⟨rfl,bq9 hq⟩
 simpa using this
theorem aY1 {h:Heap}{ys:ad}:∀{vs:List av},(∀v∈vs,k9 h ys v)->∃fs:List av,PySem.W.KatTups h vs fs/\fs.length=vs.length/\∀v∈fs,∃i t,v=Value.int i t:=by
 intro vs
 induction vs with
 |nil=>intro _;exact⟨[],PySem.W.KatTups.nil,rfl,λ_ z=>nomatch z⟩
 |cons v vs ih=>
  intro hh
  obtain⟨fs,t1,t2,t3⟩:=ih λy hy=>hh y (bp0 _ hy)
  obtain⟨ns,_,ne,z⟩:=hh v bp5
  obtain⟨b,ob,us,n,rfl,e2,e3,e4,e5⟩:=z.at_
  cases e5 with
  |nil=>exact absurd rfl ne
  |cons p t e6=>exact⟨Value.int p t::fs,PySem.W.KatTups.cons e2 e3 e4 (by simp) t1,by simp[t2],λv hv=>(bp1.mp hv).elim (λz=>⟨p,t,z⟩) (t3 v)⟩
theorem aY2 {M:Model}{A:ba}{E:av->ax->Prop}{s:ax}{ys:ad}{vs:List av}{Q:SortKind->ax->Prop}(hh:∀v∈vs,k9 s.heap ys v)(h2:2<=vs.length)(hQ:Q (tuples' true) s):wpAny M A (keyKind' vs.toArray) Q E s:=by
 obtain⟨fs,t1,t2,t3⟩:=aY1 hh
 refine PySem.W.kat_kind (T:=.type "int") t1 (by omega) (λv hv=>?_) (by decide) ?_
 ·obtain⟨i,t,rfl⟩:=t3 v hv
  exact PySem.W.Looks.now
 ·have eT:(Value.type "int" != Value.type "tuple")=true:=by decide
  rw[eT];exact hQ
theorem aY3 {h:Heap}{ys:ad}{u v:av}{p q:ae}(z:iJ h u p)(z':iJ h v q)(hp:p∈ys)(hq:q∈ys)(le:nR h ys (u,u)<=nR h ys (v,v)):HT.aH q p=false:=by
 unfold nR at le;rw[z.ints,z'.ints]at le;rw[Z4 hq hp];exact bp6 (by omega)
theorem aY4 {prog:az}{w:bc}{A:ba}{E:av->ax->Prop}{s:ax}{T:String}{r d:ay}{n:Nat}{P:Nat->av->Prop}{OK:Heap->Prop}{Q:av->ax->Prop}{ys:ad}(K:PySem.W.KdlSrc prog w T r d n P OK)(hh:A.handled=none)(hok:OK s.heap)(hn:n<=sizeLine)(hI:∀acc,ItemsOf P acc n->∀v∈acc.toList,k9 s.heap ys v)(h:∀h' tk a (acc:Array av) (out:List av) e,(∀b o,s.heap.get? b=some o->h'.get? b=some o)->s.heap.objs.size<=a->h'.get? a=some (seqObj "list" out.toArray e)->ItemsOf P acc n->out.Perm acc.toList->out.Pairwise (λu v=>∀p q,p∈ys->q∈ys->iJ s.heap u p->iJ s.heap v q->HT.aH q p=false)->Q (.ref a) { s with heap:=h',toks:=tk }) :
  wpAny (model prog w) A (call (.builtin "sorted") [.ref r]) Q E s:=by
 refine Calls.call_function_entry kind_sorted plain_sorted entry_sorted (args_sorted1 _) ?_;unfold Builtin.«sorted»;refine bo2 (m:=checkCount "sorted" 1 1 _) (bo5 ?_);refine bo2 (Raw.W7 (s:=s) K hh hok hn λh' tk acc kp hs it=>?_);have hz:acc.toList.length<=sizeLine:=by rw[bq5,it.1];exact hn
 refine bo2 (wpAny_newList ?_ hz);have hoL:(h'.push (seqObj "list" acc.toList.toArray 0)).get? h'.objs.size=some (seqObj "list" acc.toList.toArray 0):=bp4 _ rfl;show wpAny _ _ _ _ _ { s with heap:=h'.push (seqObj "list" acc.toList.toArray 0),toks:=tk };refine bo2 (bv9 (bt1 slot_list_sort ⟨_,hoL,rfl⟩ entry_list_sort ?_ (args_list_sort _)));have keepS:∀out:List av,∀b o,s.heap.get? b=some o->(sortedHeap (h'.push (seqObj "list" acc.toList.toArray 0)) h'.objs.size acc.toList out.toArray).get? b=some o:=λout b o hb=>by
  have lt:=bp9 (kp b o hb);rw[sortedHeap_old (br1 lt) (by rw[size_push'];exact bA1 lt)];exact bo4 _ (kp b o hb)
 by_cases h2:acc.toList.length<2
 ·refine qZ (s:={ s with heap:=h'.push (seqObj "list" acc.toList.toArray 0),toks:=tk }) hoL h2 ⟨_,rfl,bo5 ⟨_,rfl,?_⟩⟩
  obtain⟨e,he⟩:=sortedHeap_at (vs:=acc.toList) (out:=acc.toList.toArray) hoL
  refine h _ tk h'.objs.size acc acc.toList e (keepS acc.toList) hs he it (bz2 _) ?_
  match hl:acc.toList,h2 with
  |[],_=>exact bz3
  |[_],_=>exact bu4 _ _
  |_::_::_,h2=>simp at h2;omega
 ·have kM:∀b o,s.heap.get? b=some o->(eW (h'.push (seqObj "list" acc.toList.toArray 0)) h'.objs.size acc.toList).get? b=some o:=λb o hb=>by
   have lt:=bp9 (kp b o hb);exact T8 (br1 lt) (bo4 _ (kp b o hb))
  have allp:∀v∈acc.toList,k9 (eW (h'.push (seqObj "list" acc.toList.toArray 0)) h'.objs.size acc.toList) ys v:=λv hv=>(hI acc it v hv).keep kM
  refine T9 (s:={ s with heap:=h'.push (seqObj "list" acc.toList.toArray 0),toks:=tk }) (κ:=tuples' true) (Ok:=λx=>k9 (eW (h'.push (seqObj "list" acc.toList.toArray 0)) h'.objs.size acc.toList) ys x.1) (rk:=nR (eW (h'.push (seqObj "list" acc.toList.toArray 0)) h'.objs.size acc.toList) ys) hoL (by omega) hz (λQ hQ=>?_)
   (aY0 (s:={ s with heap:=eW (h'.push (seqObj "list" acc.toList.toArray 0)) h'.objs.size acc.toList,toks:=tk }) ys) (λv hv=>allp v hv) λout pm so=>⟨_,rfl,bo5 ⟨_,rfl,?_⟩⟩
  ·exact aY2 (s:={ s with heap:=eW (h'.push (seqObj "list" acc.toList.toArray 0)) h'.objs.size acc.toList,toks:=tk }) allp (by omega) hQ
  ·obtain⟨e,he⟩:=sortedHeap_at (vs:=acc.toList) (out:=out.toArray) hoL
   exact h _ tk h'.objs.size acc out e (keepS out) hs he it pm (so.imp λ{u v} le p q hp hq z z'=>aY3 (z.keep kM) (z'.keep kM) hp hq le)
noncomputable def ac6:List V->Hp->VK->Prop:=λxs H Q=>∃(a:ay) (kvs:List (List aI×V)) (ls:ad),xs = [.ref a]/\H a=some (.dT kvs)/\kvs.map (·.1)=ls.map kn/\(∀k∈ls,k≠[])/\∀(l:ay) (zs:List V) (ms:ad),H l=none->ms.Perm ls->ms.Pairwise (λu v=>HT.aH v u=false)->Paired (fF H) zs (ms.map kn)->Q (.ref l) (upd H l (.lst zs))
theorem ac7 {H:Hp}:∀{ys:List V}{vs:List av}{ls:ad},aL ys vs->Paired (fF H) ys (ls.map kn)->Paired (λv l=>∃y,aQ y v/\fF H y (kn l)) vs ls
 |_,_,[],.nil,_=>.nil
 |_,_,[],.cons _ _,p=>nomatch p
 |_,_,l::ls,.cons r t,.cons k p=>.cons ⟨_,r,k⟩ (ac7 t p)
theorem ac8 {H:Hp}:∀{vs:List av}{ls:ad},Paired (λv l=>∃y,aQ y v/\fF H y (kn l)) vs ls->∃ys:List V,aL ys vs/\Paired (fF H) ys (ls.map kn)
 |_,_,.nil=>⟨[],.nil,.nil⟩
 |_,_,.cons ⟨y,r,k⟩ p=>by
  obtain⟨ys,t,q⟩:=ac8 p
  exact⟨y::ys,.cons r t,.cons k q⟩
theorem ac9 (l:ae):(kn l).map kV=l.map V.int:=by unfold kn;rw[bw0];rfl
theorem aY5 {X:Cx}(hc:X.calm=true):cH X (.builtin "sorted") ac6:=by
 intro ag s σ H xs us Q I r h
 obtain⟨a,kvs,ls,rfl,ha,hk,hne,q⟩:=h
 obtain⟨u,rfl,ru⟩:=fV r
 cases ru
 obtain⟨es,ep,ys,rd,far,pk,vk,z⟩:=K7 I ha
 rw[hk]at pk;have hl:=vk.length;have hl2:=pk.length;have hl3:=congrArg List.length hk;rw[bo7]at hl hl2 hl3;rw[bo7]at hl3;have hsz:es.toList.length=es.size:=bq5;have pv:∀{y:V}{v:av}{l:ae},aQ y v->fF H y (kn l)->iJ s.heap v l:=λ{y v l} ry ka=>by
  obtain⟨b,rfl,hb⟩:=ka
  cases ry;rw[ac9]at hb
  obtain⟨us,ru,⟨ob,e1,c1,n1,d1⟩,_⟩:=I.tuple (show aJ X.K H b (l.map V.int) from aJ.of hb)
  exact⟨⟨b,ob,us,n1,rfl,e1,c1,d1,fB ru⟩⟩
 have jt:=ac7 vk pk;refine aY4 (ys:=ls) (Raw.K6 far) (I.ok.hd hc) rd (by omega) (λacc it v hv=>?_) λh' tk l acc out e kp hn he it pm so=>?_
 ·rw[r9 it]at hv
  obtain⟨m,hm,y,ry,ka⟩:=yC jt v hv
  exact⟨m,hm,hne m hm,pv ry ka⟩
 ·rw[r9 it]at pm
  obtain⟨ms,pms,jo⟩:=aa9 pm.symm jt
  obtain⟨zs,vz,pz⟩:=ac8 jo
  have lz:=vz.length;have lo:=pm.length_eq;rw[bo7]at lo;refine⟨.ref l,upd H l (.lst zs),I.laid (t':=tk) kp hn ⟨by omega,out,e,vz,he⟩,rfl,q l zs ms (I.hok.fresh hn) pms ?_ pz⟩;exact yD jo so λu v a b ha hb ⟨y,ry,ka⟩ ⟨y',ry',kb⟩ le=>le _ _ (pms.mem_iff.mp ha) (pms.mem_iff.mp hb) (pv ry ka) (pv ry' kb)
end L2
namespace PP
open PySem L2
section
variable {X:Cx}{e:Expr}{tr:cM}{pos p2:Pos}
noncomputable abbrev kA (rs:ad):List PV:=rs.map λr=>PV.tup (intz r)
noncomputable def yG:List PV->(PV->Prop)->Prop:=λxs Q=>∃(ps:List (List aI×PV)) (ls:ad),xs = [.dT ps]/\ps.map (·.1)=ls.map kn/\(∀k∈ls,k≠[])/\∀ms:ad,ms.Perm ls->ms.Pairwise (λu v=>HT.aH v u=false)->Q (.lst (kA ms))
theorem ad0 {K:ac}{M:ay->Prop}{H:Hp}:∀{zs:List V}{ms:ad},Paired (fF H) zs (ms.map kn)->Reps K M H zs (kA ms)
 |_,[],.nil=>.nil
 |_,l::ms,.cons ⟨q,e,h⟩ p=>by
  subst e;rw[ac9]at h;exact .cons (.tup h (Reps.intz l)) (ad0 p)
theorem aY6:dZ X yG ac6:=by
 rintro H vs xs Q Q' r ⟨ps,ls,rfl,e,hne,q⟩ k
 obtain⟨v,rfl,r1⟩:=r.one
 cases r1 with
 |@dT a kvs _ m h e2 r2=>
  exact⟨a,kvs,ls,rfl,h,e2.trans e,hne,λl zs ms hl' p o pz=>k _ _ _ (bK hl' _) (.lst hl' bZ ((ad0 pz).same (bK hl' _) λ_ z=>z)) (q ms p o)⟩
theorem aY7 (B:Bt X.mg)(hc:X.calm=true)(ha:QA X [e] tr)(hg:Gl X "sorted":=by rfl)(he:starEach [e] X.env=(false,eval e X.env)::starEach [] X.env:=by rfl)(hpl:(backTo pos (starEach [] X.env)).any (·.1)=false:=by rfl):QE X (.Call (.Name "sorted" p2) [e] [] pos) (aD yG tr):=
 gP (aY5 hc) aY6 hg B.sorted PyProof.Rows.boot_sorted ha (he:=he) (hpl:=hpl)
end
end PP
namespace HT
open PySem PyProof.Rows
section
open PySem.SeqAt
open PySem.MeetsSeq PySem.MeetsSeq2 PySem.MeetsSeq3
theorem aY8 (A:ba)(s:ax)(a:Int)(t:Tok)(c:Int)(u:Tok)(prog:az)(w:bc)(E:av->ax->Prop)(Q:av->ax->Prop)(h:Q (.bool (decide (c<a))) s) :
  wpAny (model prog w) A (richCompare .Gt (.int a t) (.int c u)) Q E s:=
 (PyProof.Rows.gt_int h:wpAny (model prog w) A (compareOp .Gt (.int a t) (.int c u)) Q E s)
theorem aY9 (l b:ay)(items items2:Array av)(n n2:Nat)(dd dd2:Option ay)(sl sl2:Array (Option av))(ns ms:ae)(hi:IntsAre items.toList ns)(hj:IntsAre items2.toList ms) :
  Meets (Builtin.«tuple.__gt__» ⟨[.ref l,.ref b],[]⟩)
   (λ_ R s=>s.heap.get? l=some { cls:=.type "tuple",dict:=dd,data:=.seq items n,slots:=sl }/\s.heap.get? b=some { cls:=.type "tuple",dict:=dd2,data:=.seq items2 n2,slots:=sl2 }/\
    R (.ok (.ret (.bool (aH ms ns)))) s):=
 .of_wp λprog w A R s h=>by
  obtain⟨hp,g,d,tk,os⟩:=s;obtain⟨hl,hb,h⟩:=h
  have f2:=AutoSeq1.sub_tuple_tuple;have z1:items.size=ns.length:=by rw[<- hi.length];simp
  have z2:items2.size=ms.length:=by rw[<- hj.length];simp
  wp_walk using bA4 hl,bA4 hb,wpAny_forIn_list _ (λb9 b s'=>b.1=none/\s'=⟨hp,g,d,tk,os⟩/\∃(vs ws:List av) (ns' ms':ae),b9=vs.zip ws/\
   IntsAre vs ns'/\IntsAre ws ms'/\ns'.length+items2.size=ms'.length+items.size/\R (.ok (.ret (.bool (aH ms' ns')))) ⟨hp,g,d,tk,os⟩) _
  case turn=>
   rintro⟨y,x⟩ b9 b s' ⟨hb',rfl,vs,ws,ns',ms',hz,hvi,hwi,aj,hR⟩
   cases hvi with
   |nil=>rw[List.zip_nil_left]at hz;cases hz
   |cons a t hvi'=>
    cases hwi with
    |nil=>rw[List.zip_nil_right]at hz;cases hz
    |cons c u hwi'=>
     rw[by4]at hz;injection hz with hyx hrest
     injection hyx with hy hx
     subst hy hx;rw[fX]at hR;simp only[bs9]at aj
     obtain⟨e,he,hiff⟩:=C1 A.in1 ⟨hp,g,d,tk,os⟩ a t c u
     refine bo2 (he prog w _ _ ?_);cases e with
     |true=>
      rw[if_pos (hiff.mp rfl).symm]at hR
      wp_walk
      exact⟨rfl,rfl,_,_,_,_,hrest,hvi',hwi',by omega,hR⟩
     |false=>
      rw[if_neg (λq=>absurd (hiff.mpr (Eq.symm q)) br3)]at hR;have hri:=aY8 A.in1 ⟨hp,g,d,tk,os⟩ a t c u prog w
      wp_walk using hri
      exact⟨_,rfl,by simpa using hR⟩
  case fin=>
   rintro⟨b1,b2⟩ s' ⟨hb',rfl,vs,ws,ns',ms',hz,hvi,hwi,aj,hR⟩
   simp only at hb';subst hb';have hv:aH ms' ns'=decide (items.size>items2.size):=by
    cases hvi with
    |nil=>
     cases hwi with
     |nil=>
      simp only[bE2]at aj;rw[oH];exact (bp6 (by omega)).symm
     |cons c u hw=>
      simp only[bE2,bs9]at aj;rw[C0];exact (bp6 (by omega)).symm
    |cons a t hv=>
     cases hwi with
     |nil=>
      simp only[bE2,bs9]at aj;rw[B9];exact (bp8 (by omega)).symm
     |cons c u hw=>
      rw[by4]at hz;cases hz
   rw[hv]at hR
   wp_walk
   exact⟨_,rfl,by simpa[Builtin.Tuple.tupleCompareSizes] using hR⟩
  case h=>
   exact⟨rfl,rfl,items.toList,items2.toList,ns,ms,rfl,hi,hj,by omega,h⟩
end
section
variable {prog:az}{w:bc}{A:ba}{E:av→ax→Prop}{s:ax}
theorem aZ0 {l b:ay}{items items2:Array av}{ns ms:ae}{Q:av->ax->Prop}(hl:IsTup s.heap l items)(hb:IsTup s.heap b items2)(hi:IntsAre items.toList ns)(hj:IntsAre items2.toList ms)(hu:A.units<cLine)(h:Q (.bool (aH ms ns)) s):wpAny (model prog w) A (richCompare .Gt (.ref l) (.ref b)) Q E s:=by
 obtain⟨⟨cls,dd,data,sl⟩,ho,hc,n,hd⟩:=id hl
 obtain⟨⟨cls2,dd2,data2,sl2⟩,ho2,hc2,n2,hd2⟩:=id hb
 simp only at hc hd hc2 hd2;subst hc hd hc2 hd2;exact richCompare_meets_room (op:=.Gt) ⟨_,ho,rfl⟩ ⟨_,ho2,rfl⟩ PySem.F.slot_tuple_gt PySem.F.entry_tuple_gt (PySem.F.args_tuple_gt_2 _ _) (aY9 l b items items2 n n2 dd dd2 sl sl2 ns ms hi hj)
  ⟨ho,ho2,show Value.bool (aH ms ns)≠Value.notImplemented/\Q (.bool (aH ms ns)) s from ⟨(λx=>nomatch x),h⟩⟩ hu
end
end HT
namespace L2
open PySem PySem.Spec PyProof.Rows PP
section
variable {prog:az}{w:bc}{A:ba}{R:Result→ax→Prop}{I S:ay}{n:Nat}{s0:ax}{a b:av}{lt:Bool}{fp:List ay}{P:Nat→av→Prop}{St:Nat→Heap→Prop}
theorem aZ1 (W:Walks prog w A.in1 I fp [I] 2 P St)(p0:∀v,P 0 v->v=a)(p1:∀v,P 1 v->v=b)(sI:S≠I)(sf:S∉fp)(fI:s0.heap.get? I=none)(fS:s0.heap.get? S=none)(ask:∀(h:Heap) (k:Nat) (Q E:av->ax->Prop),dI s0.heap h->Q (.bool lt) (at_ s0 h k)->wpAny (model prog w) A.in1 (richCompare .Lt b a) Q E (at_ s0 h k))(fin:∀h k,dI s0.heap h->R (.ok (.ret (if lt=true then b else a))) (at_ s0 h k)){h:Heap}{k c:Nat}(old:dI s0.heap h)(st:St 0 h)(hS:h.get? S=some { cls:=.type "list",dict:=none,data:=.seq #[] c,slots:=#[] }):codeAny (model prog w) A (.builtin "min.loop" ⟨[.ref I,.none,.ref S],[]⟩) R (at_ s0 h k):=by
 have nm:(toString "min"++toString ".loop":String)="min.loop":=by decide
 have nS:S∉[I]:=λz=>sI (bp2.mp z)
 have put:∀{h h':Heap},dI s0.heap h->(∀b o,b∉[I]->h.get? b=some o->h'.get? b=some o)->dI s0.heap h':=λ{h h'} o1 o2 b o e=>o2 b o (λz=>by rw[bp2.mp z,fI]at e;cases e) (o1 b o e)
 have put2:∀{h:Heap}{f:Obj->Obj},dI s0.heap h->dI s0.heap (h.update S f):=λ{h f} o1 b o e=>(by2 _ _ (λz:S=b=>by rw[<- z,fS]at e;cases e)).trans (o1 b o e)
 have last:∀(h:Heap) (k c:Nat),dI s0.heap h->St 2 h->h.get? S=some { cls:=.type "list",dict:=none,data:=.seq #[if lt=true then b else a,if lt=true then b else a] c,slots:=#[] }->codeAny (model prog w) A (.builtin "min.loop" ⟨[.ref I,.none,.ref S],[]⟩) R (at_ s0 h k):=λh k c old st hS=>by
  refine bv8 PySem.F.entry_min_loop ?_;rw[bt7 bB2];refine bo2 (bx2 hS rfl ?_);refine bo2 (bF5 (W.done _ _ _ st λh2 k2 o2=>?_));exact bo2 (bD3 (o2 S _ nS hS) rfl (bo2 (bD2 (bo5 (fin _ k2 (put2 (put old o2)))))))
 have fr:∀{h:Heap}{f:Obj->Obj}{j:Nat},St j h->St j (h.update S f):=λ{h f j} st=>W.frame _ _ _ st λb hb o e=>(by2 _ _ (λz:S=b=>sf (by rw[z];exact hb))).trans e
 refine bv8 PySem.F.entry_min_loop ?_;rw[bt7 bB2];refine bo2 (bx2 hS rfl ?_);refine bo2 (bF5 (W.item 0 _ _ _ (by decide) st λv h2 k2 hv st2 o2=>?_));obtain rfl:=p0 v hv;have hS2:=o2 S _ nS hS;refine bo2 (bo5 ?_);refine bo2 (m:=updateSeq _ (λ_=>#[v,v])) (bD3 hS2 rfl ?_);rw[nm];refine bo5 ⟨by6 bB2 _,bv8 PySem.F.entry_min_loop ?_⟩;rw[bt7 bB2];have hS3:(h2.update S (Obj.mapSeq λ_=>#[v,v])).get? S=some (Obj.mapSeq (λ_=>#[v,v]) { cls:=.type "list",dict:=none,data:=.seq #[] c,slots:=#[] }):=bt9 _ hS2 rfl;refine bo2 (bx2 hS3 rfl ?_);refine bo2 (bF5 (W.item 1 _ _ _ (by decide) (fr st2) λu h4 k4 hu st4 o4=>?_));obtain rfl:=p1 u hu;have hS4:=o4 S _ nS hS3;have old4:=put (put2 (f:=Obj.mapSeq λ_=>#[v,v]) (put old o2)) o4;refine bo2 (bo5 ?_);refine bo2 (m:=tryCatch (holding [u,u] (richCompare .Lt u v >>= _)) _) (bF5 (bv9 (bo2 (ask h4 k4 _ _ old4 ?_))));refine bo2 (bv9 (bB7 (bo2 (bD2 (bo5 ?_)))));cases lt with
 |false=>
  simp only[bq3,bu2];refine bo2 (bD2 ?_);rw[nm];exact bo5 ⟨by6 bB2 _,last h4 k4 _ old4 st4 hS4⟩
 |true=>
  simp only[if_true];refine bo2 (bD3 hS4 rfl (bo2 (bD2 ?_)));rw[nm];exact bo5 ⟨by6 bB2 _,last _ k4 _ (put2 old4) (fr st4) (bt9 _ hS4 rfl)⟩
theorem aZ2 {Q E:av->ax->Prop}(hh:A.in1.handled=none)(ask:∀(h:Heap) (k:Nat) (Q E:av->ax->Prop),dI s0.heap h->Q (.bool lt) (at_ s0 h k)->wpAny (model prog w) A.in1 (richCompare .Lt b a) Q E (at_ s0 h k))(fin:∀h k,dI s0.heap h->Q (if lt=true then b else a) (at_ s0 h k)):wpAny (model prog w) A (call (.builtin "min") [a,b]) Q E s0:=by
 have nm:(toString "min"++toString ".loop":String)="min.loop":=by decide
 refine call_function_tree PySem.F.kind_min PySem.F.plain_min PySem.F.entry_min (PySem.F.args_min2 _ _) ?_;refine bo2 (wpAny_of_eq (show Builtin.Builtins.bindParams "min" ["key","default"] 0 ⟨[],[]⟩=pure [none,none] from rfl) ?_);show wpAny _ A.in1 (newTuple [a,b] >>= _) _ _ _;refine bo2 (bs2 ?_);have hT:(s0.heap.push { cls:=.type "tuple",data:=.seq #[a,b] }).IsTuple s0.heap.objs.size #[a,b]:=⟨_,bp4 _ rfl,rfl,0,rfl⟩;have z1:(s0.heap.push { cls:=.type "tuple",data:=.seq #[a,b] }).objs.size=s0.heap.objs.size+1:=bw8 ..;refine bo2 (bC3 hT ?_);refine bo2 (bs2 ?_);rw[nm];have z2:((s0.heap.push { cls:=.type "tuple",data:=.seq #[a,b] }).push { cls:=.type "tuple_iterator",data:=.fields #[.ref s0.heap.objs.size,.int 0 0] }).objs.size=s0.heap.objs.size+2:=by rw[bw8,z1]
 have ne:s0.heap.objs.size≠(s0.heap.push { cls:=.type "tuple",data:=.seq #[a,b] }).objs.size:=by omega
 refine bo5 ⟨by6 bB2 _,aZ1 (lt:=lt) (Walks.tuple (A:=A.in1) hh _ s0.heap.objs.size ne #[a,b]) (λv hv=>?_) (λv hv=>?_) (λz=>?_) (λz=>?_) (tG (bs7 (Nat.le_succ _) (Nat.le_of_eq z1.symm))) (tG (bs7 (by1 _ 2) (Nat.le_of_eq z2.symm))) ask fin (λb o e=>bo4 _ (bo4 _ (bo4 _ e)))
  ⟨⟨_,bo4 _ (bp4 _ rfl),rfl,rfl⟩,(hT.push _).push _⟩ (bp4 _ rfl)⟩
 ·exact (br7 (show some a=some v from hv)).symm
 ·exact (br7 (show some b=some v from hv)).symm
 ·have z:=z2.symm.trans (z.trans z1)
  omega
 ·rcases bp1.mp z with z|z
  ·have z:=z2.symm.trans (z.trans z1)
   omega
  ·have z:=z2.symm.trans (bp2.mp z)
   omega
end
section
variable {prog:az}{w:bc}{A:ba}{R:Result→ax→Prop}{I S:ay}{n:Nat}{s0:ax}{a b:av}{lt:Bool}{fp:List ay}{P:Nat→av→Prop}{St:Nat→Heap→Prop}
theorem aZ3 (W:Walks prog w A.in1 I fp [I] 2 P St)(p0:∀v,P 0 v->v=a)(p1:∀v,P 1 v->v=b)(sI:S≠I)(sf:S∉fp)(fI:s0.heap.get? I=none)(fS:s0.heap.get? S=none)(ask:∀(h:Heap) (k:Nat) (Q E:av->ax->Prop),dI s0.heap h->Q (.bool lt) (at_ s0 h k)->wpAny (model prog w) A.in1 (richCompare .Gt b a) Q E (at_ s0 h k))(fin:∀h k,dI s0.heap h->R (.ok (.ret (if lt=true then b else a))) (at_ s0 h k)){h:Heap}{k c:Nat}(old:dI s0.heap h)(st:St 0 h)(hS:h.get? S=some { cls:=.type "list",dict:=none,data:=.seq #[] c,slots:=#[] }):codeAny (model prog w) A (.builtin "max.loop" ⟨[.ref I,.none,.ref S],[]⟩) R (at_ s0 h k):=by
 have nm:(toString "max"++toString ".loop":String)="max.loop":=by decide
 have nS:S∉[I]:=λz=>sI (bp2.mp z)
 have put:∀{h h':Heap},dI s0.heap h->(∀b o,b∉[I]->h.get? b=some o->h'.get? b=some o)->dI s0.heap h':=λ{h h'} o1 o2 b o e=>o2 b o (λz=>by rw[bp2.mp z,fI]at e;cases e) (o1 b o e)
 have put2:∀{h:Heap}{f:Obj->Obj},dI s0.heap h->dI s0.heap (h.update S f):=λ{h f} o1 b o e=>(by2 _ _ (λz:S=b=>by rw[<- z,fS]at e;cases e)).trans (o1 b o e)
 have last:∀(h:Heap) (k c:Nat),dI s0.heap h->St 2 h->h.get? S=some { cls:=.type "list",dict:=none,data:=.seq #[if lt=true then b else a,if lt=true then b else a] c,slots:=#[] }->codeAny (model prog w) A (.builtin "max.loop" ⟨[.ref I,.none,.ref S],[]⟩) R (at_ s0 h k):=λh k c old st hS=>by
  refine bv8 PySem.F.entry_max_loop ?_;rw[bt7 bB3];refine bo2 (bx2 hS rfl ?_);refine bo2 (bF5 (W.done _ _ _ st λh2 k2 o2=>?_));exact bo2 (bD3 (o2 S _ nS hS) rfl (bo2 (bD2 (bo5 (fin _ k2 (put2 (put old o2)))))))
 have fr:∀{h:Heap}{f:Obj->Obj}{j:Nat},St j h->St j (h.update S f):=λ{h f j} st=>W.frame _ _ _ st λb hb o e=>(by2 _ _ (λz:S=b=>sf (by rw[z];exact hb))).trans e
 refine bv8 PySem.F.entry_max_loop ?_;rw[bt7 bB3];refine bo2 (bx2 hS rfl ?_);refine bo2 (bF5 (W.item 0 _ _ _ (by decide) st λv h2 k2 hv st2 o2=>?_));obtain rfl:=p0 v hv;have hS2:=o2 S _ nS hS;refine bo2 (bo5 ?_);refine bo2 (m:=updateSeq _ (λ_=>#[v,v])) (bD3 hS2 rfl ?_);rw[nm];refine bo5 ⟨by6 bB3 _,bv8 PySem.F.entry_max_loop ?_⟩;rw[bt7 bB3];have hS3:(h2.update S (Obj.mapSeq λ_=>#[v,v])).get? S=some (Obj.mapSeq (λ_=>#[v,v]) { cls:=.type "list",dict:=none,data:=.seq #[] c,slots:=#[] }):=bt9 _ hS2 rfl;refine bo2 (bx2 hS3 rfl ?_);refine bo2 (bF5 (W.item 1 _ _ _ (by decide) (fr st2) λu h4 k4 hu st4 o4=>?_));obtain rfl:=p1 u hu;have hS4:=o4 S _ nS hS3;have old4:=put (put2 (f:=Obj.mapSeq λ_=>#[v,v]) (put old o2)) o4;refine bo2 (bo5 ?_);refine bo2 (m:=tryCatch (holding [u,u] (richCompare .Gt u v >>= _)) _) (bF5 (bv9 (bo2 (ask h4 k4 _ _ old4 ?_))));refine bo2 (bv9 (bB7 (bo2 (bD2 (bo5 ?_)))));cases lt with
 |false=>
  simp only[bq3,bu2];refine bo2 (bD2 ?_);rw[nm];exact bo5 ⟨by6 bB3 _,last h4 k4 _ old4 st4 hS4⟩
 |true=>
  simp only[if_true];refine bo2 (bD3 hS4 rfl (bo2 (bD2 ?_)));rw[nm];exact bo5 ⟨by6 bB3 _,last _ k4 _ (put2 old4) (fr st4) (bt9 _ hS4 rfl)⟩
theorem aZ4 {Q E:av->ax->Prop}(hh:A.in1.handled=none)(ask:∀(h:Heap) (k:Nat) (Q E:av->ax->Prop),dI s0.heap h->Q (.bool lt) (at_ s0 h k)->wpAny (model prog w) A.in1 (richCompare .Gt b a) Q E (at_ s0 h k))(fin:∀h k,dI s0.heap h->Q (if lt=true then b else a) (at_ s0 h k)):wpAny (model prog w) A (call (.builtin "max") [a,b]) Q E s0:=by
 have nm:(toString "max"++toString ".loop":String)="max.loop":=by decide
 refine call_function_tree PySem.F.kind_max PySem.F.plain_max PySem.F.entry_max (PySem.F.args_max2 _ _) ?_;refine bo2 (wpAny_of_eq (show Builtin.Builtins.bindParams "max" ["key","default"] 0 ⟨[],[]⟩=pure [none,none] from rfl) ?_);show wpAny _ A.in1 (newTuple [a,b] >>= _) _ _ _;refine bo2 (bs2 ?_);have hT:(s0.heap.push { cls:=.type "tuple",data:=.seq #[a,b] }).IsTuple s0.heap.objs.size #[a,b]:=⟨_,bp4 _ rfl,rfl,0,rfl⟩;have z1:(s0.heap.push { cls:=.type "tuple",data:=.seq #[a,b] }).objs.size=s0.heap.objs.size+1:=bw8 ..;refine bo2 (bC3 hT ?_);refine bo2 (bs2 ?_);rw[nm];have z2:((s0.heap.push { cls:=.type "tuple",data:=.seq #[a,b] }).push { cls:=.type "tuple_iterator",data:=.fields #[.ref s0.heap.objs.size,.int 0 0] }).objs.size=s0.heap.objs.size+2:=by rw[bw8,z1]
 have ne:s0.heap.objs.size≠(s0.heap.push { cls:=.type "tuple",data:=.seq #[a,b] }).objs.size:=by omega
 refine bo5 ⟨by6 bB3 _,aZ3 (lt:=lt) (Walks.tuple (A:=A.in1) hh _ s0.heap.objs.size ne #[a,b]) (λv hv=>?_) (λv hv=>?_) (λz=>?_) (λz=>?_) (tG (bs7 (Nat.le_succ _) (Nat.le_of_eq z1.symm))) (tG (bs7 (by1 _ 2) (Nat.le_of_eq z2.symm))) ask fin (λb o e=>bo4 _ (bo4 _ (bo4 _ e)))
  ⟨⟨_,bo4 _ (bp4 _ rfl),rfl,rfl⟩,(hT.push _).push _⟩ (bp4 _ rfl)⟩
 ·exact (br7 (show some a=some v from hv)).symm
 ·exact (br7 (show some b=some v from hv)).symm
 ·have z:=z2.symm.trans (z.trans z1)
  omega
 ·rcases bp1.mp z with z|z
  ·have z:=z2.symm.trans (z.trans z1)
   omega
  ·have z:=z2.symm.trans (bp2.mp z)
   omega
end
section
variable {X:Cx}
theorem aZ5 (hc:X.calm=true)(hu:X.A.units+3<cLine):cH X (.builtin "min") (λxs H Q=>∃a b ns ms,xs = [.ref a,.ref b]/\H a=some (.tup (ns.map V.int))/\H b=some (.tup (ms.map V.int))/\Q (if HT.aH ms ns=true then .ref b else .ref a) H):=by
 intro ag s σ H xs us Q I r h
 obtain⟨a,b,ns,ms,rfl,ha,hb,q⟩:=h
 obtain⟨u,w',rfl,r1,r2⟩:=lG r
 cases r1;cases r2;refine aZ2 (lt:=HT.aH ms ns) (I.ok.hd hc) (λh k Q E old hq=>?_) λh k old=>⟨_,H,I.kept (t':=k) old,?_,q⟩
 ·have I2:a8 X ag σ H (at_ s h k):=I.kept (t':=k) old
  obtain⟨its,v1,t1,_⟩:=I2.tuple (aJ.of (K:=X.K) ha)
  obtain⟨am,v2,t2,_⟩:=I2.tuple (aJ.of (K:=X.K) hb)
  exact (HT.C2 t2 t1 (fB v2) (fB v1) (by show X.A.units+1<cLine;omega) hq:wpAny (model X.prog X.w) X.A.in1 (compareOp .Lt _ _) Q E (at_ s h k))
 ·split<;>rfl
theorem aZ6 (hc:X.calm=true)(hu:X.A.units+3<cLine):cH X (.builtin "max") (λxs H Q=>∃a b ns ms,xs = [.ref a,.ref b]/\H a=some (.tup (ns.map V.int))/\H b=some (.tup (ms.map V.int))/\Q (if HT.aH ns ms=true then .ref b else .ref a) H):=by
 intro ag s σ H xs us Q I r h
 obtain⟨a,b,ns,ms,rfl,ha,hb,q⟩:=h
 obtain⟨u,w',rfl,r1,r2⟩:=lG r
 cases r1;cases r2;refine aZ4 (lt:=HT.aH ns ms) (I.ok.hd hc) (λh k Q E old hq=>?_) λh k old=>⟨_,H,I.kept (t':=k) old,?_,q⟩
 ·have I2:a8 X ag σ H (at_ s h k):=I.kept (t':=k) old
  obtain⟨its,v1,t1,_⟩:=I2.tuple (aJ.of (K:=X.K) ha)
  obtain⟨am,v2,t2,_⟩:=I2.tuple (aJ.of (K:=X.K) hb)
  exact HT.aZ0 t2 t1 (fB v2) (fB v1) (by show X.A.units+1<cLine;omega) hq
 ·split<;>rfl
theorem aZ7 (hc:X.calm=true):cH X (.builtin "max") (λxs H Q=>∃i j k,xs = [.int i,.int j,.int k]/\Q (.int (max i (max j k))) H):=by
 intro ag s σ H xs us Q I r h
 obtain⟨i,j,k,rfl,q⟩:=h
 cases r with
 |cons r1 r2=>
  obtain⟨u,w',rfl,⟨t',rfl⟩,⟨t'',rfl⟩⟩:=lG r2
  obtain⟨t,rfl⟩:=r1
  refine max_three_ints (I.ok.hd hc) λh' tk kp=>⟨_,H,I.kept kp,?_,q⟩
  by_cases h1:j>i
  ·rw[if_pos h1]
   by_cases h2:k>j
   ·rw[if_pos h2,show max i (max j k)=k by omega];exact⟨_,rfl⟩
   ·rw[if_neg h2,show max i (max j k)=j by omega];exact⟨_,rfl⟩
  ·rw[if_neg h1]
   by_cases h2:k>i
   ·rw[if_pos h2,show max i (max j k)=k by omega];exact⟨_,rfl⟩
   ·rw[if_neg h2,show max i (max j k)=i by omega];exact⟨_,rfl⟩
end
end L2
namespace PP
open PySem L2
section
variable {X:Cx}{a b c e:Expr}{ta tb te:aF}{tr:cM}{pos p2:Pos}{σ:St}{H:Hp}{D:dW}
theorem Reps.three {K:ac}{M:ay->Prop}{H:Hp}{vs:List V}{x y z:PV}(r:Reps K M H vs [x,y,z]):∃v w u,vs = [v,w,u]/\aE K M H v x/\aE K M H w y/\aE K M H u z:=by
 cases r with
 |cons r t=>
  obtain⟨w,u,rfl,q1,q2⟩:=t.two
  exact⟨_,_,_,rfl,r,q1,q2⟩
noncomputable def yH:List PV->(PV->Prop)->Prop:=λxs Q=>∃i j k:Int,xs = [.int i,.int j,.int k]/\Q (.int (max i (max j k)))
theorem aZ8:dZ X yH (λxs H Q=>∃i j k,xs = [.int i,.int j,.int k]/\Q (.int (max i (max j k))) H):=by
 rintro H vs xs Q Q' r ⟨i,j,k,rfl,q⟩ kk
 obtain⟨v,w,u,rfl,r1,r2,r3⟩:=r.three
 cases r1;cases r2;cases r3
 exact⟨i,j,k,rfl,kk _ _ _ (aG.refl _) (.int _) q⟩
theorem aZ9 (B:Bt X.mg)(hc:X.calm=true)(ha:QA X [a,b,c] tr)(hg:Gl X "max":=by rfl)(he:starEach [a,b,c] X.env=(false,eval a X.env)::starEach [b,c] X.env:=by rfl)(hpl:(backTo pos (starEach [b,c] X.env)).any (·.1)=false:=by rfl):QE X (.Call (.Name "max" p2) [a,b,c] [] pos) (aD yH tr):=
 gP (aZ7 hc) aZ8 hg B.max PyProof.Rows.boot_max ha (he:=he) (hpl:=hpl)
noncomputable def yI:List PV->(PV->Prop)->Prop:=λxs Q=>∃ns ms:ae,xs = [.tup (intz ns),.tup (intz ms)]/\Q (.tup (intz (if HT.aH ms ns=true then ms else ns)))
noncomputable def yJ:List PV->(PV->Prop)->Prop:=λxs Q=>∃ns ms:ae,xs = [.tup (intz ns),.tup (intz ms)]/\Q (.tup (intz (if HT.aH ns ms=true then ms else ns)))
theorem ba0:dZ X yI (λxs H Q=>∃a b ns ms,xs = [.ref a,.ref b]/\H a=some (.tup (ns.map V.int))/\H b=some (.tup (ms.map V.int))/\Q (if HT.aH ms ns=true then .ref b else .ref a) H):=by
 rintro H vs xs Q Q' r ⟨ns,ms,rfl,q⟩ k
 obtain⟨v,w,rfl,r1,r2⟩:=r.two
 obtain⟨p,us,rfl,h1,q1⟩:=r1.sqT
 obtain⟨p',us',rfl,h2,q2⟩:=r2.sqT
 obtain rfl:=q1.ofInts;obtain rfl:=q2.ofInts;refine⟨p,p',ns,ms,rfl,h1,h2,k _ _ _ (aG.refl _) ?_ q⟩;split
 ·exact .tup h2 (Reps.intz _)
 ·exact .tup h1 (Reps.intz _)
theorem ba1:dZ X yJ (λxs H Q=>∃a b ns ms,xs = [.ref a,.ref b]/\H a=some (.tup (ns.map V.int))/\H b=some (.tup (ms.map V.int))/\Q (if HT.aH ns ms=true then .ref b else .ref a) H):=by
 rintro H vs xs Q Q' r ⟨ns,ms,rfl,q⟩ k
 obtain⟨v,w,rfl,r1,r2⟩:=r.two
 obtain⟨p,us,rfl,h1,q1⟩:=r1.sqT
 obtain⟨p',us',rfl,h2,q2⟩:=r2.sqT
 obtain rfl:=q1.ofInts;obtain rfl:=q2.ofInts;refine⟨p,p',ns,ms,rfl,h1,h2,k _ _ _ (aG.refl _) ?_ q⟩;split
 ·exact .tup h2 (Reps.intz _)
 ·exact .tup h1 (Reps.intz _)
theorem ba2 (B:Bt X.mg)(hc:X.calm=true)(hu:X.A.units+3<cLine)(ha:QA X [a,b] tr)(hg:Gl X "min":=by rfl)(he:starEach [a,b] X.env=(false,eval a X.env)::starEach [b] X.env:=by rfl)(hpl:(backTo pos (starEach [b] X.env)).any (·.1)=false:=by rfl):QE X (.Call (.Name "min" p2) [a,b] [] pos) (aD yI tr):=
 gP (aZ5 hc hu) ba0 hg B.min PyProof.Rows.boot_min ha (he:=he) (hpl:=hpl)
theorem ba3 (B:Bt X.mg)(hc:X.calm=true)(hu:X.A.units+3<cLine)(ha:QA X [a,b] tr)(hg:Gl X "max":=by rfl)(he:starEach [a,b] X.env=(false,eval a X.env)::starEach [b] X.env:=by rfl)(hpl:(backTo pos (starEach [b] X.env)).any (·.1)=false:=by rfl):QE X (.Call (.Name "max" p2) [a,b] [] pos) (aD yJ tr):=
 gP (aZ6 hc hu) ba1 hg B.max PyProof.Rows.boot_max ha (he:=he) (hpl:=hpl)
end
end PP
namespace HT
open PySem PyProof.Rows
section
open PySem.SeqAt
open PySem.MeetsSeq PySem.MeetsSeq2 PySem.MeetsSeq3
theorem ba4 (l:ay)(items:Array av)(n:Nat)(x:av)(e:av->Bool)(j:Nat)(hj:j<items.size)(hit:e items[j]=true)(hs1:items.size<=sizeLine)(k:Nat) :
  ∀i:Nat,j-i=k->i<=j->(∀m (hm:m<items.size),i<=m->m<j->e items[m]=false)->Meets (Builtin.«list.remove.loop» ⟨[.ref l,x,rawInt i],[]⟩)
   (λA R s=>s.heap.get? l=some (seqObj "list" items n)/\(∀y,y∈items->EqAt A.in1 s y x (e y))/\R (.ok (.ret .none)) { s with heap:=s.heap.update l (Obj.mapSeq λxs=>xs.eraseIdxIfInBounds j) }):=by
 have fits:∀i,(items.eraseIdxIfInBounds i).size<=sizeLine+1:=λi=>bs7 (size_erased items _) (Nat.le_succ_of_le hs1)
 induction k with
 |zero=>
  intro i hk hij hno prog w A R s h
  obtain⟨hp,g,d,tk,os⟩:=s
  obtain⟨hl,he,h⟩:=h
  obtain rfl:i=j:=by omega
  have hl':hp.get? l=some { cls:=.type "list",dict:=none,data:=.seq items n,slots:=#[] }:=hl
  wp_walk using bA4 hl'
  rw[show items[((i:Nat):Int).toNat]? = some items[i] by simp[hj]];refine bo2 (he _ (bu8 hj) prog w _ _ ?_);rw[hit]
  wp_walk using (bD3 hl' rfl (hz:=hs1) (_hz':=fits i)),bA4 hl'
  simpa using h
 |succ k ih=>
  intro i hk hij hno prog w A R s h
  obtain⟨hp,g,d,tk,os⟩:=s
  obtain⟨hl,he,h⟩:=h
  have hlt:i<items.size:=by omega
  have hl':hp.get? l=some { cls:=.type "list",dict:=none,data:=.seq items n,slots:=#[] }:=hl
  wp_walk using bA4 hl'
  rw[show items[((i:Nat):Int).toNat]? = some items[i] by simp[hlt]];refine bo2 (he _ (bu8 hlt) prog w _ _ ?_);rw[hno i hlt (bp7 _) (by omega)]
  wp_walk
  rw[show ((i:Int)+1)=((i+1:Nat):Int) by omega];refine⟨by6 plain_remove_loop _,bv8 entry_remove_loop ?_⟩;rw[bt7 plain_remove_loop _];exact ih (i+1) (by omega) (by omega) (λm hm h1 h2=>hno m hm (by omega) h2) prog w A R _ ⟨hl,he,h⟩
theorem ba5 (l:ay)(items:Array av)(n:Nat)(x:av)(e:av->Bool)(j:Nat)(hj:j<items.size)(hit:e items[j]=true)(hno:∀m (hm:m<items.size),m<j->e items[m]=false)(hs1:items.size<=sizeLine) :
  Meets (Builtin.«list.remove» ⟨[.ref l,x],[]⟩)
   (λA R s=>s.heap.get? l=some (seqObj "list" items n)/\(∀y,y∈items->EqAt A.in1 s y x (e y))/\R (.ok (.ret .none)) { s with heap:=s.heap.update l (Obj.mapSeq λxs=>xs.eraseIdxIfInBounds j) }):=by
 intro prog w A R s h
 obtain⟨hp,g,d,tk,os⟩:=s
 obtain⟨hl,he,h⟩:=h
 have hl':hp.get? l=some { cls:=.type "list",dict:=none,data:=.seq items n,slots:=#[] }:=hl
 wp_walk using bA4 hl'
 refine⟨by6 plain_remove_loop _,bv8 entry_remove_loop ?_⟩;rw[bt7 plain_remove_loop _];exact ba4 l items n x e j hj hit hs1 _ 0 rfl (bt5 _) (λm hm _ h2=>hno m hm h2) prog w A R _ ⟨hl,he,h⟩
end
end HT
namespace PP
open PySem L2
section
variable {X:Cx}{σ:St}{H:Hp}{D:dW}{te:aF}{e:Expr}{pos:Pos}
noncomputable def ad1 (K:ac):V->List V->Hp->VK->Prop:=λx vs H Q=>∃(p:ay) (us:List V) (w:V) (ns:ae) (rs:ad) (j:Nat),x = .ref p/\vs = [w]/\H p=some (.lst us)/\aE K (λ_=>True) H w (.tup (intz ns))/\Reps K (λ_=>True) H us (rs.map λr=>PV.tup (intz r))/\rs[j]? = some ns/\(∀k,k<j->rs[k]?≠some ns)/\us.length<16000000/\Q .non (upd H p (.lst (us.eraseIdx j)))
theorem ad2:∀(j:Nat) {us:List V}{its:List av},aL us its->aL (us.eraseIdx j) (its.eraseIdx j)
 |_,_,_,.nil=>.nil
 |0,_,_,.cons _ t=>t
 |j+1,_,_,.cons r t=>.cons r (ad2 j t)
theorem ba6 (hu:X.A.units+3<cLine):qP X "list.remove" (ad1 X.K):=by
 intro ag s σ H x vs v us Q I rx rv h
 obtain⟨p,ws,w,ns,rs,j,rfl,rfl,hp,rn,rr,hj,hno,hl,q⟩:=h
 cases rx
 obtain⟨u,rfl,ru⟩:=fV rv
 obtain⟨z,its,n,r,hl2,e⟩:=I.lstM hp
 have lr:=r.length;have lp:=rr.length;rw[bo7]at lp;have jl:=(bq1.mp hj).1;have hsz:sizeLine=16777216:=sizeLine_eq
 obtain⟨f,key⟩:=aU2 (A:=X.A.in1) (by show X.A.units+1+2<cLine;omega) I ru r rn rr
 have jz:j<its.toArray.size:=by rw[bo8];omega
 refine call_meets PySem.F.slot_list_remove ⟨_,e,rfl⟩ PySem.F.entry_list_remove (PySem.F.args_list_remove_2 _ _) (HT.ba5 p its.toArray n u f j jz ?_ ?_ (by rw[bo8];omega)) ⟨e,λy hy=>?_,.non,_,I.lset (its':=its.eraseIdx j) hp e ?_ (ad2 j r) ?_,rfl,q⟩
 ·obtain⟨m,hm,_,h2⟩:=key j its[j] (bo6 (by omega))
  rw[hj]at hm;cases hm;show f its[j]=true;rw[h2];exact bp8 rfl
 ·intro k hk hlt
  rw[bo8]at hk
  obtain⟨m,hm,_,h2⟩:=key k its[k] (bo6 hk)
  show f its[k]=false;rw[h2];exact bp6 λz=>hno k hlt (by rw[hm,z])
 ·have hy:y∈its:=by simpa using hy
  obtain⟨k,hk⟩:=List.getElem?_of_mem hy
  obtain⟨m,_,h1,_⟩:=key k y hk
  exact h1
 ·simp[Array.eraseIdxIfInBounds,jz]
  omega
 ·have:=List.length_eraseIdx_le ws j
  omega
noncomputable def yK (i:Nat)(te:aF):aS:=λD ρ=>∃rs:ad,ρ[i]? = some (some (.own (.lst (rs.map λr=>PV.tup (intz r)))))/\te ρ λy _=>∃(ns:ae) (j:Nat),y = .tup (intz ns)/\rs[j]? = some ns/\(∀k,k<j->rs[k]?≠some ns)/\rs.length<16000000/\D.nx (ρ.set i (some (.own (.lst ((rs.eraseIdx j).map λr=>PV.tup (intz r))))))
theorem ba7 {i:Nat}(h:LS X (yK i te) D σ H):o6 (v7 X.K "list" (ad1 X.K) (kI i) (iT (LE X te) kJ)) D σ H:=by
 obtain⟨W,ρ,D',px,⟨rs,hi,q⟩,k⟩:=h
 obtain⟨v,ev,a,rfl,wa,us,ea,r⟩:=px.sl i _ hi
 have lr:=r.length;rw[bo7]at lr;refine⟨_,ev,vR (aM.of ea),W,ρ,_,px,q,?_⟩;rintro w H1 y g s ry ⟨ns,j,rfl,hj,hno,hl,q⟩;have ea2:=s _ _ ea;refine⟨a,us,w,ns,rs,j,rfl,rfl,ea2,ry.same (aG.refl _) (λ_ _=>trivial),r.same s (λ_ _=>trivial),hj,hno,by omega,?_⟩;refine k.nx W σ _ _ ((Ev.same s).trans (Ev.upd wa)) ((px.mono s).updL hi ev wa ?_) q;have r2:=(r.same (M':=Ms X.H₀ W true) s λ_ z=>z).eraseIdx j;rw[<- Raw.jY]at r2;exact r2.keep (.upd ea2 rfl λb m=>⟨mV wa m,m⟩)
theorem ba8 (i:Nat){x:Str}{ah ai xpos:Pos}(hu:X.A.units+3<cLine)(he:QE X e te)(hN:X.N[i]? = some x:=by rfl)(hv:iR X.env.scope x:=by first|exact Or.inl rfl|exact Or.inr (Or.inl rfl)|exact Or.inr (Or.inr rfl))(hd:(x==("__debug__":Str))=false:=by decide)(hcd:(x==("__classdict__":Str))=false:=by decide)(hbase:attributeBase (.Name x xpos) "remove" X.env (eval (.Name x xpos) X.env)=eval (.Name x xpos) X.env:=by rfl)(hfew:((backTo ai (starEach [e] X.env)).all (λx=>!x.1)&&(backToKw ai (keywordEach [] X.env)).all (λx=>x.1.isSome)&&decide (([e]:List Expr).length+([]:List Keyword).length+(if ([]:List Keyword).isEmpty then 0 else 1)<30))=true:=by rfl)(hline:(ah.endLine==ai.line)=true:=by rfl)(hs:starEach [e] X.env=(false,eval e X.env)::starEach [] X.env:=by rfl)(ao:(backTo ai (starEach [] X.env)).any (·.1)=false:=by rfl)(hsw:swapsWith (.Call (.Attribute (.Name x xpos) "remove" ah) [e] [] ai) none pos.line X.env=pure false:=by rfl) :
  QS X (.Expr (.Call (.Attribute (.Name x xpos) "remove" ah) [e] [] ai) pos) (yK i te):=
 eM (qI (E9 PySem.F.plainAttrs_list PySem.F.slot_list_remove PySem.F.type_list_remove (ba6 hu) (lD hN hv hd hcd) (gW he jD hs) hbase hfew hline hs ao) hsw) λ_ _ _=>ba7
noncomputable def yL (i j k l:Nat):hU:=λx g ρ Q=>∃y z u w,x = .tup [y,z,u,w]/\Q ((((ρ.set i (some (.sh (g||flat y) y))).set j (some (.sh (g||flat z) z))).set k (some (.sh (g||flat u) u))).set l (some (.sh (g||flat w) w)))
noncomputable abbrev ad3 (K:ac)(i j k l:Nat):TG:=o8 K 4 (fU (cW i) (fU (cW j) (fU (cW k) (fU (cW l) mJ))))
theorem Reps.four {K:ac}{M:ay->Prop}{H:Hp}{vs:List V}{x y z u:PV}(r:Reps K M H vs [x,y,z,u]):∃v1 v2 v3 v4,vs = [v1,v2,v3,v4]/\aE K M H v1 x/\aE K M H v2 y/\aE K M H v3 z/\aE K M H v4 u:=by
 cases r with
 |cons r t=>
  obtain⟨v,w,u,rfl,q1,q2,q3⟩:=t.three
  exact⟨_,_,_,_,rfl,r,q1,q2,q3⟩
theorem ba9 (K:ac)(i j k l:Nat):kS K (λn=>n=i∨n=j∨n=k∨n=l) (yL i j k l) (ad3 K i j k l):=by
 intro H0 W σ ρ H v x g Q Q' px r q kk
 obtain⟨y,z,u,w,rfl,q⟩:=q
 obtain⟨a,us,rfl,h,r⟩:=r.sqT
 obtain⟨u1,u2,u3,u4,rfl,r1,r2,r3,r4⟩:=r.four
 refine⟨a,_,rfl,aJ.of h,rfl,u1,_,rfl,u2,_,rfl,u3,_,rfl,u4,_,rfl,rfl,kk _ _ ((((px.setSh (iF r1)).setSh (iF r2)).setSh (iF r3)).setSh (iF r4)) (λn hn=>?_) (by simp only[bA5]) q⟩;rw[br9 (λe=>hn (.inr (.inr (.inr e.symm)))),br9 (λe=>hn (.inr (.inr (.inl e.symm)))),br9 (λe=>hn (.inr (.inl e.symm))),br9 (λe=>hn (.inl e.symm))]
structure Nm (X:Cx)(i:Nat)(x:Str):Prop where
 a:X.N[i]? = some x
 b:i8 X.env.scope x
 c:X.fn x=true∨X.env.scope.names.lookup x=some .local
theorem bb0 {x y z u:Str}{tp xp yp zp up:Pos}{kt i j k l:Nat}(hN:X.N.Nodup)(hc:X.calm=true)(n1:Nm X i x)(n2:Nm X j y)(n3:Nm X k z)(n4:Nm X l u):PG X (.Tuple [.Name x xp,.Name y yp,.Name z zp,.Name u up] kt tp) (ad3 X.K i j k l):=
 uK hc (i9 (fR hN n1.a n1.b n1.c) (i9 (fR hN n2.a n2.b n2.c) (i9 (fR hN n3.a n3.b n3.c) (i9 (fR hN n4.a n4.b n4.c) qJ))))
theorem bb1 (i j k l:Nat){x y z u:Str}{tp xp yp zp up:Pos}{kt:Nat}(hN:X.N.Nodup)(he:QE X e te)(n1:Nm X i x:=by exact⟨rfl,by first|exact Or.inl rfl|exact Or.inr rfl,by first|exact .inl rfl|exact .inr rfl⟩)(n2:Nm X j y:=by exact⟨rfl,by first|exact Or.inl rfl|exact Or.inr rfl,by first|exact .inl rfl|exact .inr rfl⟩)(n3:Nm X k z:=by exact⟨rfl,by first|exact Or.inl rfl|exact Or.inr rfl,by first|exact .inl rfl|exact .inr rfl⟩)(n4:Nm X l u:=by exact⟨rfl,by first|exact Or.inl rfl|exact Or.inr rfl,by first|exact .inl rfl|exact .inr rfl⟩)(hc:X.calm=true:=by rfl)(hs:swapsWithSole [.Tuple [.Name x xp,.Name y yp,.Name z zp,.Name u up] kt tp] e pos.line X.env=pure false:=by rfl)(hw:swappedStores [.Tuple [.Name x xp,.Name y yp,.Name z zp,.Name u up] kt tp] e X.env=pure none:=by rfl) :
  QS X (.Assign [.Tuple [.Name x xp,.Name y yp,.Name z zp,.Name u up] kt tp] e pos) (pP (yL i j k l) te):=
 eM (zU he (bb0 hN hc n1 n2 n3 n4) hs hw) λ_ _ _=>W9 (ba9 _ i j k l)
end
end PP
namespace Core
open PySem L2 PP
structure Bx where
 t:Int
 l:Int
 b:Int
 r:Int
deriving DecidableEq
noncomputable def Bx.k (x:Bx):ae:=[x.t,x.l,x.b,x.r]
theorem Bx.k_inj {x y:Bx}(h:x.k=y.k):x=y:=by
 obtain⟨a,b,c,d⟩:=x
 obtain⟨a',b',c',d'⟩:=y
 unfold Bx.k at h;simp only[List.cons.injEq,and_true]at h
 obtain⟨rfl,rfl,rfl,rfl⟩:=h
 rfl
noncomputable def l7 (s e s' e':Int):Int:=max 0 (max (s'-e) (s-e'))
noncomputable def aX (x y:Bx):Bool:=decide (l7 x.t x.b y.t y.b+l7 x.l x.r y.l y.r<=2)
noncomputable def aR (x y:Bx):Bx:=⟨min x.t y.t,min x.l y.l,max x.b y.b,max x.r y.r⟩
noncomputable def okX (x:Bx):Prop:=x.t<=x.b/\x.l<=x.r
noncomputable def aC (x:Bx)(p:Int×Int):Prop:=x.t<=p.1/\p.1<=x.b/\x.l<=p.2/\p.2<=x.r
noncomputable def bD (x y:Bx):Prop:=y.t<=x.t/\y.l<=x.l/\x.b<=y.b/\x.r<=y.r
noncomputable def cX (p:Int×Int):Bx:=⟨p.1,p.2,p.1,p.2⟩
noncomputable def kB (x a:Int×Int):Prop:=(a.1=x.1/\(a.2=x.2-1∨a.2=x.2+1))∨(a.2=x.2/\(a.1=x.1-1∨a.1=x.1+1))
theorem j5 {a b:Int×Int}(h:a.1≠b.1∨a.2≠b.2):a≠b:=λe=>by subst e;exact h.elim (λz=>z rfl) λz=>z rfl
theorem ad4 (s e s' e':Int):0<=l7 s e s' e'/\s'-e<=l7 s e s' e'/\s-e'<=l7 s e s' e':=
 ⟨Int.le_max_left ..,bt8 (Int.le_max_left ..) (Int.le_max_right ..),bt8 (Int.le_max_right ..) (Int.le_max_right ..)⟩
theorem ad5 {s e s' e' g:Int}(h0:0<=g)(h1:s'-e<=g)(h2:s-e'<=g):l7 s e s' e'<=g:=Int.max_le.mpr ⟨h0,Int.max_le.mpr ⟨h1,h2⟩⟩
theorem tR {x y:Bx}(h:aX x y=true):∃g h:Int,0<=g/\0<=h/\g+h<=2/\y.t-x.b<=g/\x.t-y.b<=g/\y.l-x.r<=h/\x.l-y.r<=h:=
 have a:=ad4 x.t x.b y.t y.b;have b:=ad4 x.l x.r y.l y.r
 ⟨_,_,a.1,b.1,bG1 h,a.2.1,a.2.2,b.2.1,b.2.2⟩
theorem pU {x y:Bx}{g h:Int}(g0:0<=g)(h0:0<=h)(gh:g+h<=2)(a1:y.t-x.b<=g)(a2:x.t-y.b<=g)(b1:y.l-x.r<=h)(b2:x.l-y.r<=h):aX x y=true:=
 bp8 (bt8 (Int.add_le_add (ad5 g0 a1 a2) (ad5 h0 b1 b2)) gh)
theorem nV (x y:Bx):aX x y=aX y x:=by
 have go:∀x y:Bx,aX x y=true->aX y x=true:=λx y h=>by
  obtain⟨g,h,g0,h0,gh,a1,a2,b1,b2⟩:=tR h
  exact pU g0 h0 gh a2 a1 b2 b1
 exact bC0.mpr ⟨go x y,go y x⟩
theorem yM {x y:Bx}{p:Int×Int}(h1:aC x p)(h2:aC y p):aX x y=true:=
 pU (g:=0) (h:=0) (bo9 _) (bo9 _) (by decide) (Int.sub_nonpos_of_le (bt8 h2.1 h1.2.1)) (Int.sub_nonpos_of_le (bt8 h1.1 h2.2.1)) (Int.sub_nonpos_of_le (bt8 h2.2.2.1 h1.2.2.2)) (Int.sub_nonpos_of_le (bt8 h1.2.2.1 h2.2.2.2))
theorem ad6 {x:Bx}(ok:okX x):aX x x=true:=yM (p:=(x.t,x.l)) ⟨bo9 _,ok.1,bo9 _,ok.2⟩ ⟨bo9 _,ok.1,bo9 _,ok.2⟩
theorem tS (x y:Bx):bD x (aR x y):=⟨Int.min_le_left ..,Int.min_le_left ..,Int.le_max_left ..,Int.le_max_left ..⟩
theorem yN (x y:Bx):bD y (aR x y):=⟨Int.min_le_right ..,Int.min_le_right ..,Int.le_max_right ..,Int.le_max_right ..⟩
theorem ad7 {x y z:Bx}(h:bD x z)(h':bD y z):bD (aR x y) z:=⟨Int.le_min.mpr ⟨h.1,h'.1⟩,Int.le_min.mpr ⟨h.2.1,h'.2.1⟩,Int.max_le.mpr ⟨h.2.2.1,h'.2.2.1⟩,Int.max_le.mpr ⟨h.2.2.2,h'.2.2.2⟩⟩
theorem bD.in_ {x y:Bx}(s:bD x y){p:Int×Int}(h:aC x p):aC y p:=⟨bt8 s.1 h.1,bt8 h.2.1 s.2.2.1,bt8 s.2.1 h.2.2.1,bt8 h.2.2.2 s.2.2.2⟩
theorem bD.refl (x:Bx):bD x x:=⟨bo9 _,bo9 _,bo9 _,bo9 _⟩
theorem bD.trans {x y z:Bx}(h:bD x y)(h':bD y z):bD x z:=⟨bt8 h'.1 h.1,bt8 h'.2.1 h.2.1,bt8 h.2.2.1 h'.2.2.1,bt8 h.2.2.2 h'.2.2.2⟩
theorem tT {x y:Bx}(h:okX x):okX (aR x y):=
 have s:=tS x y
 ⟨bt8 s.1 (bt8 h.1 s.2.2.1),bt8 s.2.1 (bt8 h.2 s.2.2.2)⟩
theorem bb2 (x y:Bx):aR x y=aR y x:=by unfold aR;rw[Int.min_comm x.t,Int.min_comm x.l,Int.max_comm x.b,Int.max_comm x.r]
theorem ad8 {x y:Bx}{p:Int×Int}(h:aC x p):aC (aR x y) p:=(tS x y).in_ h
theorem tU {x y:Bx}{p:Int×Int}(h:aC y p):aC (aR x y) p:=(yN x y).in_ h
noncomputable def fP (B:Bx)(U:Int×Int->Prop):Prop:=∀x a b,aC B x->kB x a->kB x b->a≠b->U a->U b->U x
noncomputable def dF (U:Int×Int->Prop)(x:Bx):Prop:=∀p,aC x p->U p
theorem bb3 {U:Int×Int->Prop}{x y:Bx}(f:dF U y)(s:bD x y):dF U x:=λp h=>f p (s.in_ h)
section
variable {B:Bx}{U:Int×Int→Prop}
theorem bb4 (cl:fP B U){y y' l r c0:Int}(hy:y'=y-1∨y'=y+1)(bd:∀c,l<=c->c<=r->aC B (y,c))(f:∀c,l<=c->c<=r->U (y',c))(h0:l<=c0/\c0<=r)(u0:U (y,c0)):∀(n:Nat) (c:Int),l<=c->c<=r->(c-c0).natAbs=n->U (y,c):=by
 have ny:y≠y':=by omega
 intro n
 induction n with
 |zero=>intro c h1 h2 h3;rw[show c=c0 by omega];exact u0
 |succ n ih=>
  intro c h1 h2 h3;have go:∀d:Int,(d=c-1∨d=c+1)->l<=d->d<=r->(d-c0).natAbs=n->U (y,c):=λd hd g1 g2 g3=>
   cl (y,c) (y,d) (y',c) (bd c h1 h2) (.inl ⟨rfl,hd⟩) (.inr ⟨rfl,hy⟩) (j5 (.inl ny)) (ih d g1 g2 g3) (f c h1 h2)
  by_cases g:c0<c
  ·exact go (c-1) (.inl rfl) (by omega) (by omega) (by omega)
  ·exact go (c+1) (.inr rfl) (by omega) (by omega) (by omega)
theorem bb5 (cl:fP B U){y y' l r c0:Int}(hy:y'=y-1∨y'=y+1)(bd:∀c,l<=c->c<=r->aC B (c,y))(f:∀c,l<=c->c<=r->U (c,y'))(h0:l<=c0/\c0<=r)(u0:U (c0,y)):∀(n:Nat) (c:Int),l<=c->c<=r->(c-c0).natAbs=n->U (c,y):=by
 have ny:y≠y':=by omega
 intro n
 induction n with
 |zero=>intro c h1 h2 h3;rw[show c=c0 by omega];exact u0
 |succ n ih=>
  intro c h1 h2 h3;have go:∀d:Int,(d=c-1∨d=c+1)->l<=d->d<=r->(d-c0).natAbs=n->U (c,y):=λd hd g1 g2 g3=>
   cl (c,y) (d,y) (c,y') (bd c h1 h2) (.inr ⟨rfl,hd⟩) (.inl ⟨rfl,hy⟩) (j5 (.inr ny)) (ih d g1 g2 g3) (f c h1 h2)
  by_cases g:c0<c
  ·exact go (c-1) (.inl rfl) (by omega) (by omega) (by omega)
  ·exact go (c+1) (.inr rfl) (by omega) (by omega) (by omega)
variable {t l b r:Int}
theorem ad9 (cl:fP B U)(f:dF U ⟨t,l,b,r⟩){y y' c0:Int}(hy:y'=y-1∨y'=y+1)(h1:t<=y'/\y'<=b)(u:U (y,c0))(h2:l<=c0/\c0<=r){R:Bx}(s:bD R B)(hl:R.l=l)(hr:R.r=r)(iy:R.t<=y/\y<=R.b)(old:∀q:Int×Int,aC R q->q.1≠y->t<=q.1/\q.1<=b):dF U R:=by
 intro q hq;have a3:l<=q.2:=hl▸hq.2.2.1;have a4:q.2<=r:=hr▸hq.2.2.2;by_cases e:q.1=y
 ·have:=bb4 cl hy (λc g1 g2=>s.in_ ⟨iy.1,iy.2,hl.symm▸g1,hr.symm▸g2⟩) (λc g1 g2=>f (y',c) ⟨h1.1,h1.2,g1,g2⟩) h2 u _ q.2 a3 a4 rfl
  rw[show q=(y,q.2) from bC8 e rfl];exact this
 ·have o:=old q hq e
  exact f q ⟨o.1,o.2,a3,a4⟩
theorem ae0 (cl:fP B U)(f:dF U ⟨t,l,b,r⟩){y y' c0:Int}(hy:y'=y-1∨y'=y+1)(h1:l<=y'/\y'<=r)(u:U (c0,y))(h2:t<=c0/\c0<=b){R:Bx}(s:bD R B)(ht:R.t=t)(hb:R.b=b)(iy:R.l<=y/\y<=R.r)(old:∀q:Int×Int,aC R q->q.2≠y->l<=q.2/\q.2<=r):dF U R:=by
 intro q hq;have a3:t<=q.1:=ht▸hq.1;have a4:q.1<=b:=hb▸hq.2.1;by_cases e:q.2=y
 ·have:=bb5 cl hy (λc g1 g2=>s.in_ ⟨ht.symm▸g1,hb.symm▸g2,iy.1,iy.2⟩) (λc g1 g2=>f (c,y') ⟨g1,g2,h1.1,h1.2⟩) h2 u _ q.1 a3 a4 rfl
  rw[show q=(q.1,y) from bC8 rfl e];exact this
 ·have o:=old q hq e
  exact f q ⟨a3,a4,o.1,o.2⟩
theorem tV (cl:fP B U)(f:dF U ⟨t,l,b,r⟩)(tb:t<=b){c0:Int}(u:U (b+1,c0))(h2:l<=c0/\c0<=r)(s:bD ⟨t,l,b+1,r⟩ B):dF U ⟨t,l,b+1,r⟩:=
 ad9 cl f (y:=b+1) (y':=b) (.inl (by omega)) ⟨tb,bo9 _⟩ u h2 s rfl rfl ⟨by show t<=b+1;omega,bo9 _⟩ λq hq ne=>⟨hq.1,by have:q.1<=b+1:=hq.2.1;omega⟩
theorem tW (cl:fP B U)(f:dF U ⟨t,l,b,r⟩)(tb:t<=b){c0:Int}(u:U (t-1,c0))(h2:l<=c0/\c0<=r)(s:bD ⟨t-1,l,b,r⟩ B):dF U ⟨t-1,l,b,r⟩:=
 ad9 cl f (y:=t-1) (y':=t) (.inr (by omega)) ⟨bo9 _,tb⟩ u h2 s rfl rfl ⟨bo9 _,by show t-1<=b;omega⟩ λq hq ne=>⟨by have:t-1<=q.1:=hq.1;omega,hq.2.1⟩
theorem yO (cl:fP B U)(f:dF U ⟨t,l,b,r⟩)(lr:l<=r){c0:Int}(u:U (c0,r+1))(h2:t<=c0/\c0<=b)(s:bD ⟨t,l,b,r+1⟩ B):dF U ⟨t,l,b,r+1⟩:=
 ae0 cl f (y:=r+1) (y':=r) (.inl (by omega)) ⟨lr,bo9 _⟩ u h2 s rfl rfl ⟨by show l<=r+1;omega,bo9 _⟩ λq hq ne=>⟨hq.2.2.1,by have:q.2<=r+1:=hq.2.2.2;omega⟩
theorem yP (cl:fP B U)(f:dF U ⟨t,l,b,r⟩)(lr:l<=r){c0:Int}(u:U (c0,l-1))(h2:t<=c0/\c0<=b)(s:bD ⟨t,l-1,b,r⟩ B):dF U ⟨t,l-1,b,r⟩:=
 ae0 cl f (y:=l-1) (y':=l) (.inr (by omega)) ⟨bo9 _,lr⟩ u h2 s rfl rfl ⟨bo9 _,by show l-1<=r;omega⟩ λq hq ne=>⟨by have:l-1<=q.2:=hq.2.2.1;omega,hq.2.2.2⟩
noncomputable def eC (B:Bx)(U:Int×Int->Prop)(R:Bx)(p:Int×Int):Prop:=∃R',okX R'/\bD R R'/\aC R' p/\bD R' B/\dF U R'
theorem eC.step {R R1:Bx}{p:Int×Int}(s:bD R R1)(h:eC B U R1 p):eC B U R p:=by
 obtain⟨R',h1,h2,h3,h4,h5⟩:=h
 exact⟨R',h1,s.trans h2,h3,h4,h5⟩
section
variable (cl:fP B U){p1 p2:Int}(u:U (p1, p2))(ip:aC B (p1, p2))
include cl u ip
theorem yQ (f:dF U ⟨t,l,b,r⟩)(tb:t<=b)(lr:l<=r)(s:bD ⟨t,l,b,r⟩ B)(h:t<=p1/\p1<=b)(g1:p2-r<=2)(g2:l-p2<=2):eC B U ⟨t,l,b,r⟩ (p1,p2):=by
 obtain⟨s1,s2,s3,s4⟩:=s
 obtain⟨i1,i2,i3,i4⟩:=ip
 dsimp only at *;by_cases a:p2<=r
 ·by_cases a':l<=p2
  ·exact⟨_,⟨tb,lr⟩,bD.refl _,⟨h.1,h.2,a',a⟩,⟨s1,s2,s3,s4⟩,f⟩
  ·have u1:U (p1,l-1):=by
    by_cases e:p2=l-1
    ·rw[<- e];exact u
    ·exact cl (p1,l-1) (p1,p2) (p1,l) ⟨i1,i2,by show B.l<=l-1;omega,by show l-1<=B.r;omega⟩ (.inl ⟨rfl,.inl (by show p2=l-1-1;omega)⟩) (.inl ⟨rfl,.inr (by show l=l-1+1;omega)⟩) (j5 (.inr (by show p2≠l;omega))) u (f _ ⟨h.1,h.2,bo9 _,lr⟩)
   have f1:=yP cl f lr u1 h ⟨s1,by show B.l<=l-1;omega,s3,s4⟩;by_cases e:p2=l-1
   ·exact⟨⟨t,l-1,b,r⟩,⟨tb,by show l-1<=r;omega⟩,⟨bo9 _,by show l-1<=l;omega,bo9 _,bo9 _⟩,⟨h.1,h.2,by show l-1<=p2;omega,a⟩,⟨s1,by show B.l<=l-1;omega,s3,s4⟩,f1⟩
   ·have e2:p2=l-1-1:=by omega
    have f2:=yP cl f1 (by omega) (c0:=p1) (by rw[<- e2];exact u) h ⟨s1,by show B.l<=l-1-1;omega,s3,s4⟩
    exact⟨⟨t,l-1-1,b,r⟩,⟨tb,by show l-1-1<=r;omega⟩,⟨bo9 _,by show l-1-1<=l;omega,bo9 _,bo9 _⟩,⟨h.1,h.2,by show l-1-1<=p2;omega,a⟩,⟨s1,by show B.l<=l-1-1;omega,s3,s4⟩,f2⟩
 ·have u1:U (p1,r+1):=by
   by_cases e:p2=r+1
   ·rw[<- e];exact u
   ·exact cl (p1,r+1) (p1,p2) (p1,r) ⟨i1,i2,by show B.l<=r+1;omega,by show r+1<=B.r;omega⟩ (.inl ⟨rfl,.inr (by show p2=r+1+1;omega)⟩) (.inl ⟨rfl,.inl (by show r=r+1-1;omega)⟩) (j5 (.inr (by show p2≠r;omega))) u (f _ ⟨h.1,h.2,lr,bo9 _⟩)
  have f1:=yO cl f lr u1 h ⟨s1,s2,s3,by show r+1<=B.r;omega⟩;by_cases e:p2=r+1
  ·exact⟨⟨t,l,b,r+1⟩,⟨tb,by show l<=r+1;omega⟩,⟨bo9 _,bo9 _,bo9 _,by show r<=r+1;omega⟩,⟨h.1,h.2,by show l<=p2;omega,by show p2<=r+1;omega⟩,⟨s1,s2,s3,by show r+1<=B.r;omega⟩,f1⟩
  ·have e2:p2=r+1+1:=by omega
   have f2:=yO cl f1 (by omega) (c0:=p1) (by rw[<- e2];exact u) h ⟨s1,s2,s3,by show r+1+1<=B.r;omega⟩
   exact⟨⟨t,l,b,r+1+1⟩,⟨tb,by show l<=r+1+1;omega⟩,⟨bo9 _,bo9 _,bo9 _,by show r<=r+1+1;omega⟩,⟨h.1,h.2,by show l<=p2;omega,by show p2<=r+1+1;omega⟩,⟨s1,s2,s3,by show r+1+1<=B.r;omega⟩,f2⟩
theorem bb6 (f:dF U ⟨t,l,b,r⟩)(tb:t<=b)(lr:l<=r)(s:bD ⟨t,l,b,r⟩ B){g h:Int}(g0:0<=g)(h0:0<=h)(gh:g+h<=2)(a1:p1-b<=g)(a2:t-p1<=g)(b1:p2-r<=h)(b2:l-p2<=h):eC B U ⟨t,l,b,r⟩ (p1,p2):=by
 by_cases c1:p1<=b
 ·by_cases c2:t<=p1
  ·exact yQ cl u ip f tb lr s ⟨c2,c1⟩ (by omega) (by omega)
  ·
   obtain⟨s1,s2,s3,s4⟩:=s
   obtain⟨i1,i2,i3,i4⟩:=ip
   dsimp only at *;have go:∀c0,U (t-1,c0)->l<=c0/\c0<=r->p1=t-1->eC B U ⟨t,l,b,r⟩ (p1,p2):=λc0 u0 hc e=>
    eC.step (R1:=⟨t-1,l,b,r⟩) ⟨by show t-1<=t;omega,bo9 _,bo9 _,bo9 _⟩ (yQ cl u ⟨i1,i2,i3,i4⟩ (tW cl f tb u0 hc ⟨by show B.t<=t-1;omega,s2,s3,s4⟩) (by omega) lr ⟨by show B.t<=t-1;omega,s2,s3,s4⟩ ⟨by omega,by omega⟩ (by omega) (by omega))
   by_cases e:p1=t-1
   ·by_cases d1:p2<=r
    ·by_cases d2:l<=p2
     ·exact go p2 (by rw[<- e];exact u) ⟨d2,d1⟩ e
     ·exact go l (cl (t-1,l) (p1,p2) (t,l) ⟨by show B.t<=t-1;omega,by show t-1<=B.b;omega,s2,by show l<=B.r;omega⟩ (.inl ⟨e,.inl (by show p2=l-1;omega)⟩) (.inr ⟨rfl,.inr (by show t=t-1+1;omega)⟩) (j5 (.inl (by show p1≠t;omega))) u (f _ ⟨bo9 _,tb,bo9 _,lr⟩)) ⟨bo9 _,lr⟩ e
    ·exact go r (cl (t-1,r) (p1,p2) (t,r) ⟨by show B.t<=t-1;omega,by show t-1<=B.b;omega,by show B.l<=r;omega,s4⟩ (.inl ⟨e,.inr (by show p2=r+1;omega)⟩) (.inr ⟨rfl,.inr (by show t=t-1+1;omega)⟩) (j5 (.inl (by show p1≠t;omega))) u (f _ ⟨bo9 _,tb,lr,bo9 _⟩)) ⟨lr,bo9 _⟩ e
   ·have hc:l<=p2/\p2<=r:=⟨by omega,by omega⟩
    have e2:p1=t-1-1:=by omega
    have u1:U (t-1,p2):=cl (t-1,p2) (p1,p2) (t,p2) ⟨by show B.t<=t-1;omega,by show t-1<=B.b;omega,i3,i4⟩ (.inr ⟨rfl,.inl e2⟩) (.inr ⟨rfl,.inr (by show t=t-1+1;omega)⟩) (j5 (.inl (by show p1≠t;omega))) u (f _ ⟨bo9 _,tb,hc.1,hc.2⟩);have f1:=tW cl f tb u1 hc ⟨by show B.t<=t-1;omega,s2,s3,s4⟩;have f2:=tW cl f1 (by omega) (c0:=p2) (by rw[<- e2];exact u) hc ⟨by show B.t<=t-1-1;omega,s2,s3,s4⟩
    exact⟨⟨t-1-1,l,b,r⟩,⟨by show t-1-1<=b;omega,lr⟩,⟨by show t-1-1<=t;omega,bo9 _,bo9 _,bo9 _⟩,⟨by show t-1-1<=p1;omega,c1,hc.1,hc.2⟩,⟨by show B.t<=t-1-1;omega,s2,s3,s4⟩,f2⟩
 ·
  obtain⟨s1,s2,s3,s4⟩:=s
  obtain⟨i1,i2,i3,i4⟩:=ip
  dsimp only at *;have go:∀c0,U (b+1,c0)->l<=c0/\c0<=r->p1=b+1->eC B U ⟨t,l,b,r⟩ (p1,p2):=λc0 u0 hc e=>
   eC.step (R1:=⟨t,l,b+1,r⟩) ⟨bo9 _,bo9 _,by show b<=b+1;omega,bo9 _⟩ (yQ cl u ⟨i1,i2,i3,i4⟩ (tV cl f tb u0 hc ⟨s1,s2,by show b+1<=B.b;omega,s4⟩) (by omega) lr ⟨s1,s2,by show b+1<=B.b;omega,s4⟩ ⟨by omega,by omega⟩ (by omega) (by omega))
  by_cases e:p1=b+1
  ·by_cases d1:p2<=r
   ·by_cases d2:l<=p2
    ·exact go p2 (by rw[<- e];exact u) ⟨d2,d1⟩ e
    ·exact go l (cl (b+1,l) (p1,p2) (b,l) ⟨by show B.t<=b+1;omega,by show b+1<=B.b;omega,s2,by show l<=B.r;omega⟩ (.inl ⟨e,.inl (by show p2=l-1;omega)⟩) (.inr ⟨rfl,.inl (by show b=b+1-1;omega)⟩) (j5 (.inl (by show p1≠b;omega))) u (f _ ⟨tb,bo9 _,bo9 _,lr⟩)) ⟨bo9 _,lr⟩ e
   ·exact go r (cl (b+1,r) (p1,p2) (b,r) ⟨by show B.t<=b+1;omega,by show b+1<=B.b;omega,by show B.l<=r;omega,s4⟩ (.inl ⟨e,.inr (by show p2=r+1;omega)⟩) (.inr ⟨rfl,.inl (by show b=b+1-1;omega)⟩) (j5 (.inl (by show p1≠b;omega))) u (f _ ⟨tb,bo9 _,lr,bo9 _⟩)) ⟨lr,bo9 _⟩ e
  ·have hc:l<=p2/\p2<=r:=⟨by omega,by omega⟩
   have e2:p1=b+1+1:=by omega
   have u1:U (b+1,p2):=cl (b+1,p2) (p1,p2) (b,p2) ⟨by show B.t<=b+1;omega,by show b+1<=B.b;omega,i3,i4⟩ (.inr ⟨rfl,.inr e2⟩) (.inr ⟨rfl,.inl (by show b=b+1-1;omega)⟩) (j5 (.inl (by show p1≠b;omega))) u (f _ ⟨tb,bo9 _,hc.1,hc.2⟩);have f1:=tV cl f tb u1 hc ⟨s1,s2,by show b+1<=B.b;omega,s4⟩;have f2:=tV cl f1 (by omega) (c0:=p2) (by rw[<- e2];exact u) hc ⟨s1,s2,by show b+1+1<=B.b;omega,s4⟩
   exact⟨⟨t,l,b+1+1,r⟩,⟨by show t<=b+1+1;omega,lr⟩,⟨bo9 _,bo9 _,by show b<=b+1+1;omega,bo9 _⟩,⟨by show t<=p1;omega,by show p1<=b+1+1;omega,hc.1,hc.2⟩,⟨s1,s2,by show b+1+1<=B.b;omega,s4⟩,f2⟩
end
theorem bb7 (cl:fP B U){C:Bx}(fC:dF U C)(sC:bD C B){p:Int×Int}(pC:aC C p):∀(n:Nat) (t l b r:Int),aC ⟨t,l,b,r⟩ p->dF U ⟨t,l,b,r⟩->bD ⟨t,l,b,r⟩ B->(t-C.t).toNat+(l-C.l).toNat+(C.b-b).toNat+(C.r-r).toNat=n->∃R,dF U R/\bD ⟨t,l,b,r⟩ R/\bD C R:=by
 obtain⟨c1,c2,c3,c4⟩:=pC
 obtain⟨d1,d2,d3,d4⟩:=sC
 intro n
 induction n with
 |zero=>
  intro t l b r pR f s h
  exact⟨_,f,bD.refl _,by show t<=C.t;omega,by show l<=C.l;omega,by show C.b<=b;omega,by show C.r<=r;omega⟩
 |succ n ih=>
  rintro t l b r ⟨a1,a2,a3,a4⟩ f ⟨s1,s2,s3,s4⟩ h;dsimp only at a1 a2 a3 a4 s1 s2 s3 s4;have tb:=bt8 a1 a2;have lr:=bt8 a3 a4;by_cases h1:C.t<t
  ·have s':bD ⟨t-1,l,b,r⟩ B:=⟨by show B.t<=t-1;omega,s2,s3,s4⟩
   have u:=fC (t-1,p.2) ⟨by show C.t<=t-1;omega,by show t-1<=C.b;omega,c3,c4⟩
   obtain⟨R,g1,g2,g3⟩:=ih (t-1) l b r ⟨by show t-1<=p.1;omega,a2,a3,a4⟩ (tW cl f tb u ⟨a3,a4⟩ s') s' (by omega)
   exact⟨R,g1,bD.trans (y:=⟨t-1,l,b,r⟩) ⟨by show t-1<=t;omega,bo9 _,bo9 _,bo9 _⟩ g2,g3⟩
  ·by_cases h2:C.l<l
   ·have s':bD ⟨t,l-1,b,r⟩ B:=⟨s1,by show B.l<=l-1;omega,s3,s4⟩
    have u:=fC (p.1,l-1) ⟨c1,c2,by show C.l<=l-1;omega,by show l-1<=C.r;omega⟩
    obtain⟨R,g1,g2,g3⟩:=ih t (l-1) b r ⟨a1,a2,by show l-1<=p.2;omega,a4⟩ (yP cl f lr u ⟨a1,a2⟩ s') s' (by omega)
    exact⟨R,g1,bD.trans (y:=⟨t,l-1,b,r⟩) ⟨bo9 _,by show l-1<=l;omega,bo9 _,bo9 _⟩ g2,g3⟩
   ·by_cases h3:b<C.b
    ·have s':bD ⟨t,l,b+1,r⟩ B:=⟨s1,s2,by show b+1<=B.b;omega,s4⟩
     have u:=fC (b+1,p.2) ⟨by show C.t<=b+1;omega,by show b+1<=C.b;omega,c3,c4⟩
     obtain⟨R,g1,g2,g3⟩:=ih t l (b+1) r ⟨a1,by show p.1<=b+1;omega,a3,a4⟩ (tV cl f tb u ⟨a3,a4⟩ s') s' (by omega)
     exact⟨R,g1,bD.trans (y:=⟨t,l,b+1,r⟩) ⟨bo9 _,bo9 _,by show b<=b+1;omega,bo9 _⟩ g2,g3⟩
    ·have h4:r<C.r:=by omega
     have s':bD ⟨t,l,b,r+1⟩ B:=⟨s1,s2,s3,by show r+1<=B.r;omega⟩;have u:=fC (p.1,r+1) ⟨c1,c2,by show C.l<=r+1;omega,by show r+1<=C.r;omega⟩
     obtain⟨R,g1,g2,g3⟩:=ih t l b (r+1) ⟨a1,a2,a3,by show p.2<=r+1;omega⟩ (yO cl f lr u ⟨a1,a2⟩ s') s' (by omega)
     exact⟨R,g1,bD.trans (y:=⟨t,l,b,r+1⟩) ⟨bo9 _,bo9 _,bo9 _,by show r<=r+1;omega⟩ g2,g3⟩
theorem tX {a b c d g:Int}(ab:a<=b)(cd:c<=d)(g0:0<=g)(h1:c-b<=g)(h2:a-d<=g):∃p,c<=p/\p<=d/\p-b<=g/\a-p<=g:=by
 by_cases e1:a<=c
 ·exact⟨c,bo9 _,cd,h1,by omega⟩
 ·by_cases e2:a<=d
  ·exact⟨a,by omega,e2,by omega,by omega⟩
  ·exact⟨d,cd,bo9 _,by omega,h2⟩
theorem ae1 {A C:Bx}(okA:okX A)(okC:okX C)(nr:aX A C=true)(cl:fP (aR A C) U)(fA:dF U A)(fC:dF U C):dF U (aR A C):=by
 obtain⟨g,h,g0,h0,gh,a1,a2,b1,b2⟩:=tR nr
 obtain⟨p1,q1,q2,q3,q4⟩:=tX okA.1 okC.1 g0 a1 a2
 obtain⟨p2,r1,r2,r3,r4⟩:=tX okA.2 okC.2 h0 b1 b2
 have pC:aC C (p1,p2):=⟨q1,q2,r1,r2⟩
 obtain⟨⟨t,l,b,r⟩,k1,k2,k3,k4,k5⟩:=bb6 cl (fC _ pC) (tU pC) (t:=A.t) (l:=A.l) (b:=A.b) (r:=A.r) fA okA.1 okA.2 (tS A C) g0 h0 gh q3 q4 r3 r4
 obtain⟨R,m1,m2,m3⟩:=bb7 cl fC (yN A C) pC _ t l b r k3 k5 k4 rfl
 exact bb3 m1 (ad7 (bD.trans k2 m2) m3)
end
theorem yR {x a:Int×Int}(h:kB x a):∃g k:Int,0<=g/\0<=k/\g+k<=1/\a.1-x.1<=g/\x.1-a.1<=g/\a.2-x.2<=k/\x.2-a.2<=k:=by
 rcases h with⟨h1,h2⟩|⟨h1,h2⟩
 ·exact⟨0,1,by decide,by decide,by decide,by omega,by omega,by omega,by omega⟩
 ·exact⟨1,0,by decide,by decide,by decide,by omega,by omega,by omega,by omega⟩
theorem yS {T:List Bx}(pw:∀x∈T,∀y∈T,aX x y=true->x=y)(B:Bx):fP B (λp=>∃x∈T,aC x p):=by
 rintro x a b _ xa xb ne ⟨A,hA,ia⟩ ⟨C,hC,ib⟩
 obtain⟨g,k,g0,k0,gk,d1,d2,d3,d4⟩:=yR xa
 obtain⟨g',k',g0',k0',gk',d1',d2',d3',d4'⟩:=yR xb
 obtain⟨i1,i2,i3,i4⟩:=ia
 obtain⟨j1,j2,j3,j4⟩:=ib
 have nr:aX A C=true:=pU (g:=g+g') (h:=k+k') (by omega) (by omega) (by omega) (by omega) (by omega) (by omega) (by omega)
 have:=pw A hA C hC nr
 subst this;refine⟨A,hA,?_⟩;rcases xa with⟨e1,e2⟩|⟨e1,e2⟩
 ·rcases xb with⟨e3,e4⟩|⟨e3,e4⟩
  ·have:a.2≠b.2:=λz=>ne (bC8 (e1.trans e3.symm) z)
   exact⟨by omega,by omega,by omega,by omega⟩
  ·exact⟨by omega,by omega,by omega,by omega⟩
 ·rcases xb with⟨e3,e4⟩|⟨e3,e4⟩
  ·exact⟨by omega,by omega,by omega,by omega⟩
  ·have:a.1≠b.1:=λz=>ne (bC8 z (e1.trans e3.symm))
   exact⟨by omega,by omega,by omega,by omega⟩
noncomputable abbrev aV:=Int×Int
inductive eD (B:Bx)(S:aV->Prop):aV->Prop
 |seed {x:aV}:S x->eD B S x
 |kin {x a b:aV}:aC B x->kB x a->kB x b->a≠b->eD B S a->eD B S b->eD B S x
theorem eD.clo {B B':Bx}{S:aV->Prop}(s:bD B' B):fP B' (eD B S):=λx a b h1 h2 h3 h4 h5 h6=>.kin (s.in_ h1) h2 h3 h4 h5 h6
theorem eD.mono {B B':Bx}{S S':aV->Prop}(s:bD B B')(h:∀x,S x->S' x){x:aV}(b:eD B S x):eD B' S' x:=by
 induction b with
 |seed z=>exact .seed (h _ z)
 |kin h1 h2 h3 h4 _ _ i1 i2=>exact .kin (s.in_ h1) h2 h3 h4 i1 i2
theorem eD.least {B:Bx}{S U:aV->Prop}(cl:fP B U)(h:∀x,S x->U x){x:aV}(b:eD B S x):U x:=by
 induction b with
 |seed z=>exact h _ z
 |kin h1 h2 h3 h4 _ _ i1 i2=>exact cl _ _ _ h1 h2 h3 h4 i1 i2
noncomputable abbrev kC (r c:Int):Bx:=⟨0,0,r-1,c-1⟩
theorem nW {r c:Int}{p:aV}:aC (kC r c) p↔bJ r c p=true:=by
 rw[nT];unfold aC;dsimp only;omega
theorem tY {r c:Int}{x a:aV}:a∈bB r c x↔kB x a/\bJ r c a=true:=by
 unfold bB;rw[bx1];refine and_congr_left λ_=>?_
 unfold l6 kB;simp only[bp1,bq0,bv1,Prod.ext_iff];constructor
 ·rintro (⟨h,k⟩|⟨h,k⟩|⟨h,k⟩|⟨h,k⟩)
  ·exact .inr ⟨k,.inl h⟩
  ·exact .inl ⟨h,.inl k⟩
  ·exact .inl ⟨h,.inr k⟩
  ·exact .inr ⟨k,.inr h⟩
 ·rintro (⟨h,k|k⟩|⟨h,k|k⟩)
  ·exact .inr (.inl ⟨h,k⟩)
  ·exact .inr (.inr (.inl ⟨h,k⟩))
  ·exact .inl ⟨k,h⟩
  ·exact .inr (.inr (.inr ⟨k,h⟩))
theorem yT {r c:Int}{S:List aV}(bd:∀x∈S,bJ r c x=true){p:aV}:iK r c S p↔eD (kC r c) (·∈S) p:=by
 have bd':∀{q:aV},eD (kC r c) (·∈S) q->bJ r c q=true:=λ{q} h=>by
  cases h with
  |seed h=>exact bd _ h
  |kin h1 _ _ _ _ _=>exact nW.mp h1
 constructor
 ·intro h
  induction h with
  |seed h=>exact .seed h
  |kin h1 h2 h3 h4 _ _ i1 i2=>exact .kin (nW.mpr h1) (tY.mp h2).1 (tY.mp h3).1 h4 i1 i2
 ·intro h
  induction h with
  |seed h=>exact .seed h
  |kin h1 h2 h3 h4 b1 b2 i1 i2=>exact .kin (nW.mp h1) (tY.mpr ⟨h2,bd' b1⟩) (tY.mpr ⟨h3,bd' b2⟩) h4 i1 i2
noncomputable def kD (x:Bx):Int:=(x.b-x.t+1)+(x.r-x.l+1)
structure hZ (G:List aV)(x:Bx):Prop where
 ok:okX x
 ins:∀s∈G,aC x s
 full:∀p,aC x p->eD x (·∈G) p
 few:kD x<=2*(G.length:Int)
theorem hZ.cell (p:aV):hZ [p] (cX p):=by
 refine⟨by unfold okX cX;exact⟨bo9 _,bo9 _⟩,λs hs=>?_,λq hq=>.seed ?_,?_⟩
 ·rw[bp2.mp hs];unfold aC cX;dsimp only;omega
 ·unfold aC cX at hq
  dsimp only at hq;exact bp2.mpr (bC8 (by omega) (by omega))
 ·unfold kD cX;dsimp only;simp only[bu5];omega
theorem ae2 {a b c d g:Int}(h1:a<=b)(h2:c<=d)(g0:0<=g)(g1:c-b<=g)(g2:a-d<=g):max b d-min a c<=(b-a)+(d-c)+g:=by
 rcases Int.le_total a c with m|m
 ·rw[Int.min_eq_left m]
  rcases Int.le_total b d with k|k
  ·rw[Int.max_eq_right k];omega
  ·rw[Int.max_eq_left k];omega
 ·rw[Int.min_eq_right m]
  rcases Int.le_total b d with k|k
  ·rw[Int.max_eq_right k];omega
  ·rw[Int.max_eq_left k];omega
theorem bb8 {x y:Bx}(h1:okX x)(h2:okX y)(nr:aX x y=true):kD (aR x y)<=kD x+kD y:=by
 obtain⟨g,k,g0,k0,gk,a1,a2,b1,b2⟩:=tR nr
 have e1:=ae2 h1.1 h2.1 g0 a1 a2;have e2:=ae2 h1.2 h2.2 k0 b1 b2;unfold kD aR;dsimp only;generalize max x.b y.b-min x.t y.t=A at e1 ⊢;generalize max x.r y.r-min x.l y.l=B at e2 ⊢;clear a1 a2 b1 b2 h1 h2 nr;omega
theorem hZ.hull {G G':List aV}{x y:Bx}(h:hZ G x)(h':hZ G' y)(nr:aX x y=true):hZ (G++G') (aR x y):=by
 refine⟨tT h.ok,λs hs=>?_,?_,?_⟩
 ·rcases bs0.mp hs with z|z
  ·exact ad8 (h.ins s z)
  ·exact tU (h'.ins s z)
 ·exact ae1 h.ok h'.ok nr (eD.clo (bD.refl _)) (λp hp=>(h.full p hp).mono (tS x y) λs hs=>bt4 _ hs) (λp hp=>(h'.full p hp).mono (yN x y) λs hs=>bs8 _ hs)
 ·have:=bb8 h.ok h'.ok nr
  have:=h.few
  have:=h'.few
  rw[br0];omega
theorem hZ.same {G G':List aV}{x:Bx}(h:hZ G x)(h':∀s∈G',aC x s):hZ (G++G') x:=by
 refine⟨h.ok,λs hs=>?_,λp hp=>(h.full p hp).mono (bD.refl _) λs hs=>bt4 _ hs,?_⟩
 ·rcases bs0.mp hs with z|z
  ·exact h.ins s z
  ·exact h' s z
 ·have:=h.few
  rw[br0];omega
noncomputable def iM (T:List Bx)(s:Bx×Bx):Bool:=decide (s.1∈T)&&(decide (s.2∈T)&&(HT.aH s.1.k s.2.k&&aX s.1 s.2))
noncomputable def gS (T:List Bx)(s:Bx×Bx):List Bx:=(T.erase s.1).erase s.2
noncomputable def kE (T:List Bx)(s:Bx×Bx):List Bx:=if aR s.1 s.2∈gS T s then gS T s else gS T s++[aR s.1 s.2]
noncomputable def iN (s:Bx×Bx)(T:List Bx):Option (List Bx):=if iM T s=true then some (kE T s) else none
noncomputable def eF (T:List Bx)(sts:List (Bx×Bx)):Option (List Bx):=sts.foldl (λo s=>o.bind (iN s)) (some T)
theorem tZ (T:List Bx)(sts:List (Bx×Bx))(s:Bx×Bx):eF T (sts++[s])=(eF T sts).bind (iN s):=by unfold eF;rw[List.foldl_append];rfl
theorem bb9 {T:List Bx}:∀{a b:List (Bx×Bx)},eF T a=none->eF T (a++b)=none:=by
 intro a b h;unfold eF at *;rw[List.foldl_append,h]
 induction b with
 |nil=>rfl
 |cons x r ih=>exact ih
theorem u5 {T:List Bx}{s:Bx×Bx}:iM T s=true↔s.1∈T/\s.2∈T/\HT.aH s.1.k s.2.k=true/\aX s.1 s.2=true:=by
 unfold iM;simp only[bz1,bt0]
noncomputable def bU (S:List aV)(T:List Bx):Prop:=∃f:List (Bx×List aV),T=f.map (·.1)/\(∀e∈f,hZ e.2 e.1)/\(f.map (·.2)).flatten.Perm S
theorem bU.init (S:List aV):bU S (S.map cX):=by
 refine⟨S.map λp=>(cX p,[p]),by rw[bw0];rfl,λe he=>?_,?_⟩
 ·obtain⟨p,_,rfl⟩:=br5.mp he
  exact hZ.cell p
 ·rw[bw0]
  have:(S.map ((·.2) ∘ λp:aV=>(cX p,[p]))).flatten=S:=by
   induction S with
   |nil=>rfl
   |cons a r ih=>show [a]++_=_;rw[ih];rfl
  rw[this]
theorem bU.perm {S:List aV}{T T':List Bx}(p:T'.Perm T)(h:bU S T):bU S T':=by
 obtain⟨f,rfl,h1,h2⟩:=h
 obtain⟨g,pg,rfl⟩:∃g:List (Bx×List aV),g.Perm f/\T'=g.map (·.1):=by
  clear h1 h2;generalize hm:f.map (·.1)=m at p
  induction p generalizing f with
  |nil=>exact⟨f,bz2 _,hm.symm⟩
  |cons x _ ih=>
   cases f with
   |nil=>cases hm
   |cons e f=>
    cases hm
    obtain⟨g,pg,hg⟩:=ih f rfl
    exact⟨e::g,pg.cons _,by rw[hg];rfl⟩
  |swap x y l=>
   match f,hm with
   |e::e'::f,hm=>
    cases hm
    exact⟨e'::e::f,List.Perm.swap _ _ _,rfl⟩
  |trans _ _ ih1 ih2=>
   obtain⟨g,pg,hg⟩:=ih2 f hm
   obtain⟨g',pg',hg'⟩:=ih1 g hg.symm
   exact⟨g',pg'.trans pg,hg'⟩
 exact⟨g,rfl,λe he=>h1 e (pg.mem_iff.mp he),((pg.map _).flatten).trans h2⟩
theorem bU.join {S:List aV}{x y:Bx}{T:List Bx}(h:bU S (x::y::T))(nr:aX x y=true):bU S (aR x y::T):=by
 obtain⟨f,e,h1,h2⟩:=h
 match f,e with
 |ex::ey::f,e=>
  cases e;refine⟨(aR ex.1 ey.1,ex.2++ey.2)::f,rfl,λe he=>?_,?_⟩
  ·rcases bp1.mp he with rfl|he
   ·exact (h1 ex bp5).hull (h1 ey (bp0 _ bp5)) nr
   ·exact h1 e (bp0 _ (bp0 _ he))
  ·have:(((aR ex.1 ey.1,ex.2++ey.2)::f).map (·.2)).flatten=((ex::ey::f).map (·.2)).flatten:=by
    simp only[bv2,List.flatten_cons,bq7]
   rw[this];exact h2
theorem bU.dup {S:List aV}{x:Bx}{T:List Bx}(h:bU S (x::T))(hx:x∈T):bU S T:=by
 obtain⟨f,e,h1,h2⟩:=h
 match f,e with
 |ex::f,e=>
  cases e
  obtain⟨ey,hy,e2⟩:=br5.mp hx
  obtain⟨a,b,rfl⟩:=List.append_of_mem hy
  refine⟨a++(ey.1,ey.2++ex.2)::b,by simp,λe he=>?_,?_⟩
  ·rcases bs0.mp he with z|z
   ·exact h1 e (bp0 _ (bt4 _ z))
   ·rcases bp1.mp z with rfl|z
    ·refine (h1 ey (by simp)).same λs hs=>?_
     have e2:ey.1=ex.1:=e2;rw[e2];exact (h1 ex bp5).ins s hs
    ·exact h1 e (bp0 _ (bs8 _ (bp0 _ z)))
  ·refine List.Perm.trans ?_ h2
   simp only[br8,bv2,List.flatten_append,List.flatten_cons];have p1:(ey.2++ex.2++(b.map (·.2)).flatten).Perm (ex.2++(ey.2++(b.map (·.2)).flatten)):=by
    rw[bq7];refine bw5.trans ?_;rw[bq7];exact bD5 _ bw5
   refine (bD5 _ p1).trans ?_;rw[<- bq7,<- bq7 ex.2];exact List.Perm.append_right _ bw5
theorem ae3 {x y:Bx}(h:HT.aH x.k y.k=true):x≠y:=λe=>by
 subst e
 have:=jH h
 rw[h]at this;cases this
theorem yU {T:List Bx}{s:Bx×Bx}(ok:iM T s=true):T.Perm (s.1::s.2::gS T s):=by
 obtain⟨h1,h2,h3,_⟩:=u5.mp ok
 have:s.2∈T.erase s.1:=(List.mem_erase_of_ne (ae3 h3).symm).mpr h2
 exact (List.perm_cons_erase h1).trans ((List.perm_cons_erase this).cons _)
theorem bU.step {S:List aV}{T:List Bx}{s:Bx×Bx}(h:bU S T)(ok:iM T s=true):bU S (kE T s):=by
 have h2:=(h.perm (yU ok).symm).join (u5.mp ok).2.2.2;unfold kE;by_cases e:aR s.1 s.2∈gS T s
 ·rw[if_pos e];exact h2.dup e
 ·rw[if_neg e];exact h2.perm (bw5 (l₁:=gS T s) (l₂:=[aR s.1 s.2]))
theorem bc0 {T:List Bx}{s:Bx×Bx}(nd:T.Nodup):(kE T s).Nodup:=by
 have:(gS T s).Nodup:=(nd.erase _).erase _
 unfold kE;split
 ·exact this
 ·rename_i h
  exact bD1.mpr ⟨this,bu4 _ _,λa ha b hb e=>h (by rw[<- bp2.mp hb,<- e];exact ha)⟩
theorem pV {S:List aV}(nd:S.Nodup):∀(sts:List (Bx×Bx)) {T:List Bx},eF (S.map cX) sts=some T->bU S T/\T.Nodup:=by
 intro sts;rcases List.eq_nil_or_concat sts with rfl|⟨a,s,rfl⟩
 ·intro T h
  cases h;refine⟨bU.init S,bu7.mpr (nd.imp λ{a b} ne e=>ne ?_)⟩;unfold cX at e;simp only[Bx.mk.injEq]at e;exact bC8 e.1 e.2.1
 ·intro T h
  rw[List.concat_eq_append,tZ]at h;cases hw:eF (S.map cX) a with
  |none=>rw[hw]at h;cases h
  |some T1=>
   rw[hw]at h
   obtain⟨o1,n1⟩:=pV nd a hw
   have h:iN s T1=some T:=h;unfold iN at h;split at h
   ·rename_i ok
    cases h
    exact⟨o1.step ok,bc0 n1⟩
   ·cases h
 termination_by sts=>sts.length
 decreasing_by subst_vars;simp
noncomputable def dU (T:List Bx):Prop:=T.Pairwise λx y=>aX x y=false
theorem dU.eq {T:List Bx}(h:dU T){x y:Bx}(hx:x∈T)(hy:y∈T)(nr:aX x y=true):x=y:=by
 obtain⟨i,hi,rfl⟩:=bu9 hx
 obtain⟨j,hj,rfl⟩:=bu9 hy
 have pw:=bv3.mp h;rcases Nat.lt_trichotomy i j with z|z|z
 ·rw[pw i j hi hj z]at nr;cases nr
 ·subst z;rfl
 ·rw[nV,pw j i hj hi z]at nr;cases nr
theorem bU.on_board {r c:Int}{S G:List aV}{x:Bx}(bd:∀p∈S,bJ r c p=true)(gs:∀s∈G,s∈S)(sp:hZ G x){p:aV}(hp:aC x p):aC (kC r c) p:=by
 have okk:=sp.ok;unfold okX at okk;have gb:∀s∈G,aC (kC r c) s:=λs hs=>nW.mpr (bd s (gs s hs))
 have key:∀q,aC x q->eD x (·∈G) q:=sp.full
 have cl:fP x (λq=>aC (kC r c) q):=by
  intro y a b hy ya yb ne ua ub;have ne':a.1≠b.1∨a.2≠b.2:=bx6 λz=>ne (bC8 (by omega) (by omega))
  unfold aC kB at *;dsimp only at *;omega
 exact (key p hp).least cl gb
theorem bU.burnt {r c:Int}{S:List aV}{T:List Bx}(o:bU S T)(far:dU T)(bd:∀x∈S,bJ r c x=true)(p:aV):(∃x∈T,aC x p)↔iK r c S p:=by
 obtain⟨f,rfl,h1,h2⟩:=o
 rw[yT bd];have insd:∀e∈f,∀s∈e.2,s∈S:=λe he s hs=>h2.mem_iff.mp (List.mem_flatten.mpr ⟨e.2,br5.mpr ⟨e,he,rfl⟩,hs⟩)
 constructor
 ·rintro⟨x,hx,hp⟩
  obtain⟨e,he,rfl⟩:=br5.mp hx
  have sp:=h1 e he;refine (sp.full p hp).least (λx a b hx2 xa xb ne ua ub=>?_) λs hs=>.seed (insd e he s hs)
  refine eD.kin ?_ xa xb ne ua ub;exact bU.on_board bd (insd e he) sp hx2
 ·intro h
  refine h.least (yS (λx hx y hy=>far.eq hx hy) _) λs hs=>?_
  obtain⟨g,hg,hs2⟩:=List.mem_flatten.mp (h2.mem_iff.mpr hs)
  obtain⟨e,he,rfl⟩:=br5.mp hg
  exact⟨e.1,br5.mpr ⟨e,he,rfl⟩,(h1 e he).ins s hs2⟩
theorem bU.ok {S:List aV}{T:List Bx}(o:bU S T){x:Bx}(hx:x∈T):okX x:=by
 obtain⟨f,rfl,h1,_⟩:=o
 obtain⟨e,he,rfl⟩:=br5.mp hx
 exact (h1 e he).ok
theorem ae4 {T:List Bx}(far:dU T){x:Bx}(ok:okX x)(h:∀p,aC x p->∃y∈T,aC y p):∃y∈T,∀p,aC x p->aC y p:=by
 unfold okX at ok
 obtain⟨y,hy,h0⟩:=h (x.t,x.l) (by unfold aC;dsimp only;omega)
 refine⟨y,hy,?_⟩
 have:∀(n:Nat) (p:aV),aC x p->(p.1-x.t+(p.2-x.l)).toNat=n->aC y p:=by
  intro n
  induction n with
  |zero=>
   intro p hp hn;unfold aC at hp;rw[show p=(x.t,x.l) from bC8 (by omega) (by omega)];exact h0
  |succ n ih=>
   intro p hp hn
   obtain⟨y',hy',hp'⟩:=h p hp
   obtain⟨q,hq,aq,hqn⟩:∃q:aV,aC x q/\kB p q/\(q.1-x.t+(q.2-x.l)).toNat=n:=by
    unfold aC at hp;by_cases e:x.t<p.1
    ·exact⟨(p.1-1,p.2),by unfold aC;dsimp only;omega,.inr ⟨rfl,.inl rfl⟩,by dsimp only;omega⟩
    ·exact⟨(p.1,p.2-1),by unfold aC;dsimp only;omega,.inl ⟨rfl,.inl rfl⟩,by dsimp only;omega⟩
   have iq:=ih q hq hqn
   obtain⟨g,k,g0,k0,gk,d1,d2,d3,d4⟩:=yR aq
   have nr:aX y y'=true:=pU g0 k0 (bt8 gk (by decide)) (bt8 (Int.sub_le_sub hp'.1 iq.2.1) d2) (bt8 (Int.sub_le_sub iq.1 hp'.2.1) d1) (bt8 (Int.sub_le_sub hp'.2.2.1 iq.2.2.2) d4) (bt8 (Int.sub_le_sub iq.2.2.1 hp'.2.2.2) d3);rw[far.eq hy hy' nr];exact hp'
 exact λp hp=>this _ p hp rfl
theorem u6 {T T':List Bx}(far:dU T)(far':dU T')(ok:∀x∈T,okX x)(ok':∀x∈T',okX x)(same:∀p,(∃x∈T,aC x p)↔∃x∈T',aC x p){x:Bx}(hx:x∈T):x∈T':=by
 obtain⟨y,hy,h1⟩:=ae4 far' (ok x hx) λp hp=>(same p).mp ⟨x,hx,hp⟩
 obtain⟨z,hz,h2⟩:=ae4 far (ok' y hy) λp hp=>(same p).mpr ⟨y,hy,hp⟩
 have okx:=ok x hx;have oky:=ok' y hy;unfold okX at okx oky;have a1:=h1 (x.t,x.l) (by unfold aC;dsimp only;omega);have a2:=h1 (x.b,x.r) (by unfold aC;dsimp only;omega);have e:x=z:=far.eq hx hz (yM (p:=(x.t,x.l)) (by unfold aC;dsimp only;omega) (h2 _ a1));subst e;have b1:=h2 (y.t,y.l) (by unfold aC;dsimp only;omega);have b2:=h2 (y.b,y.r) (by unfold aC;dsimp only;omega)
 have:x=y:=by
  obtain⟨p,q,u,v⟩:=x
  obtain⟨p',q',u',v'⟩:=y
  unfold aC at a1 a2 b1 b2;dsimp only at *;simp only[Bx.mk.injEq];omega
 rw[this];exact hy
theorem pW {i:Nat}{x:PV}{g:Bool}{ρ:bG}{Q:bG->Prop}(f:flat x=true)(q:Q (ρ.set i (some (.sh true x)))):cN i x g ρ Q:=by
 unfold cN;rw[f,Bool.or_true];exact q
theorem u7 {b:Bool}{x:PV}{P:Prop}(h:(Slot.sh b x).tag = .rd):P:=by cases b<;>cases h
noncomputable abbrev aT (x:Bx):PV:=.tup (intz x.k)
noncomputable abbrev bV (bs:List Bx):List PV:=kA (bs.map Bx.k)
theorem pX (x:Bx):flat (aT x)=true:=sV x.k
theorem pY {bs:List Bx}{i:Nat}{v:PV}(h:(bV bs)[i]? = some v):∃x,v=aT x/\bs[i]? = some x:=by
 unfold bV kA at h;rw[bw0,bq6]at h;cases e:bs[i]? with
 |none=>rw[e]at h;cases h
 |some x=>rw[e]at h;cases h;exact⟨x,rfl,rfl⟩
theorem pZ (bs:List Bx):(bV bs).length=bs.length:=by unfold bV kA;rw[bo7,bo7]
theorem bc1 (bs:List Bx):flats (bV bs)=true:=V2 _
noncomputable def qA:cD:=λxs Q=>∃a b c d:Int,xs = [.int a,.int b,.int c,.int d]/\Q (.int (l7 a b c d))
noncomputable def ae5:aS:=(bX (aD yH (a6 (qC (.int 0)) (a6 (jR (a5 2) (a5 1)) (a6 (jR (a5 0) (a5 3)) aA)))))
theorem bc2:dP ae5 ["start","end","other_start","other_end"] qA:=by
 rintro xs Q ⟨a,b,c,d,rfl,q⟩
 exact⟨_,rfl,_,rfl,c,b,rfl,rfl,_,rfl,_,rfl,a,d,rfl,rfl,_,_,_,rfl,trivial,q⟩
noncomputable def i5:cD:=λxs Q=>∃x y:Bx,xs = [aT x,aT y]/\Q (.bl (aX x y))
noncomputable def ae6:aS:=(aN (bH 2 (aD qA (a6 (b7 (a5 0) (qC (.int 0))) (a6 (b7 (a5 0) (qC (.int 2))) (a6 (b7 (a5 1) (qC (.int 0))) (a6 (b7 (a5 1) (qC (.int 2))) aA))))))
 (aN (bH 3 (aD qA (a6 (b7 (a5 0) (qC (.int 1))) (a6 (b7 (a5 0) (qC (.int 3))) (a6 (b7 (a5 1) (qC (.int 1))) (a6 (b7 (a5 1) (qC (.int 3))) aA))))))
 (bX (qLe (bS (a5 2) (a5 3)) (qC (.int 2))))))
theorem bc3:dP ae6 ["one","other","between_rows","between_columns"] i5:=by
 rintro xs Q ⟨x,y,rfl,q⟩;refine⟨_,rfl,_,_,_,rfl,rfl,rfl,_,rfl,_,_,_,rfl,rfl,rfl,_,rfl,_,_,_,rfl,rfl,rfl,_,rfl,_,_,_,rfl,rfl,rfl,_,_,_,_,rfl,trivial,?_⟩;refine⟨_,rfl,_,_,_,rfl,rfl,rfl,_,rfl,_,_,_,rfl,rfl,rfl,_,rfl,_,_,_,rfl,rfl,rfl,_,rfl,_,_,_,rfl,rfl,rfl,_,_,_,_,rfl,trivial,?_⟩
 exact⟨_,rfl,_,rfl,_,_,rfl,rfl,_,_,rfl,rfl,trivial,q⟩
noncomputable def j6:cD:=λxs Q=>∃x y:Bx,xs = [aT x,aT y]/\Q (aT (aR x y))
noncomputable def ae7:aS:=(bX (eU (a6 (aD hJ (a6 (b7 (a5 0) (qC (.int 0))) (a6 (b7 (a5 1) (qC (.int 0))) aA))) (a6 (aD hJ (a6 (b7 (a5 0) (qC (.int 1))) (a6 (b7 (a5 1) (qC (.int 1))) aA))) (a6 (aD kQ (a6 (b7 (a5 0) (qC (.int 2))) (a6 (b7 (a5 1) (qC (.int 2))) aA))) (a6 (aD kQ (a6 (b7 (a5 0) (qC (.int 3))) (a6 (b7 (a5 1) (qC (.int 3))) aA))) aA))))))
theorem ae8 (i j:Int):(if j<i then j else i)=min i j:=by split<;>omega
theorem ae9 (i j:Int):(if j>i then j else i)=max i j:=by split<;>omega
theorem bc4:dP ae7 ["one","other"] j6:=by
 rintro xs Q ⟨x,y,rfl,q⟩
 refine⟨_,rfl,_,_,_,rfl,rfl,rfl,_,rfl,_,_,_,rfl,rfl,rfl,x.t,y.t,rfl,_,rfl,_,_,_,rfl,rfl,rfl,_,rfl,_,_,_,rfl,rfl,rfl,x.l,y.l,rfl,
  _,rfl,_,_,_,rfl,rfl,rfl,_,rfl,_,_,_,rfl,rfl,rfl,x.b,y.b,rfl,_,rfl,_,_,_,rfl,rfl,rfl,_,rfl,_,_,_,rfl,rfl,rfl,x.r,y.r,rfl,by show 4<=1000;decide,rfl,trivial,?_⟩
 show Q (.tup [.int (if y.t<x.t then y.t else x.t),.int (if y.l<x.l then y.l else x.l),.int (if y.b>x.b then y.b else x.b),.int (if y.r>x.r then y.r else x.r)]);rw[ae8,ae8,ae9,ae9];exact q
noncomputable def nX:cD:=λxs Q=>∃(x:PV) (ls:aa),xs = [x]/\(x = .tup (aK ls)∨x = .lst (aK ls))/\ls.length<=4096/\Q (.lst (bV (ls.map cX)))
noncomputable def af0:aS:=(bX (eV (e8 (a5 0)) [none,none] (mZ 0 1) dM (eU (a6 (a5 0) (a6 (a5 1) (a6 (a5 0) (a6 (a5 1) aA)))))))
theorem bc5:dP af0 ["cells"] nX:=by
 rintro xs Q ⟨x,ls,rfl,hx,hl,q⟩;have sx:jL x=some (aK ls):=by rcases hx with rfl|rfl<;>rfl
 refine⟨_,rfl,aK ls,sx,u7,by rw[gE];omega,λi acc=>acc=bV ((ls.take i).map cX),rfl,?_,?_⟩
 ·rintro i v acc hv rfl
  obtain⟨l,rfl,h⟩:=kY hv
  refine⟨_,_,rfl,?_⟩;unfold dM;dsimp only;rw[if_pos rfl];refine⟨_,rfl,_,rfl,_,rfl,_,rfl,by show 4<=1000;decide,rfl,trivial,?_⟩;have tk:ls.take (i+1)=ls.take i++[l]:=by rw[bv5,h];rfl
  rw[tk,br8];unfold bV kA;rw[br8,br8];rfl
 ·rintro acc rfl
  rw[gE,bx0]
  exact⟨trivial,q⟩
noncomputable def yV:Option Bx->PV
 |some y=>aT y
 |none=>.non
noncomputable def mE:cD:=λxs Q=>∃(bs:List Bx) (x:Bx),xs = [.lst (bV bs),aT x]/\Q (yV (bs.find? λy=>aX y x))
noncomputable def af1:aS:=(aN (fH (e8 (a5 0)) (cN 2)
  (dL (bF (aD i5 (a6 (a5 2) (a6 (a5 1) aA)))) (jK 2) dQ))
 (bX (qC .non)))
theorem af2 {bs:List Bx}{x:Bx}(h:∀y∈bs,aX y x=false):bs.find? (λy=>aX y x)=none:=by
 rw[List.find?_eq_none];intro y hy;rw[h y hy];exact br3
theorem bc6 {bs:List Bx}{x y:Bx}{i:Nat}(h:∀z∈bs.take i,aX z x=false)(hi:bs[i]? = some y)(hy:aX y x=true):bs.find? (λy=>aX y x)=some y:=by
 have hl:=(bq1.mp hi).1;have e:bs=bs.take i++y::bs.drop (i+1):=by
  have:=(bs4 i bs).symm
  rw[bB5 hl]at this;rw[(bq1.mp hi).2]at this;exact this
 rw[e,List.find?_append,af2 h];simp[hy]
theorem bc7:dP af1 ["boxes","box","other"] mE:=by
 rintro xs Q ⟨bs,x,rfl,q⟩;refine⟨_,rfl,bV bs,rfl,u7,λi ρ=>(∀y∈bs.take i,aX y x=false)/\∃z,ρ = [some (.sh (flat (.lst (bV bs))) (.lst (bV bs))),some (.sh (flat (aT x)) (aT x)),z],⟨λy hy=>(by rw[List.take_zero]at hy;cases hy),none,rfl⟩,?_,?_⟩
 ·rintro i v ρ hv ⟨hno,z,rfl⟩
  obtain⟨y,rfl,hy⟩:=pY hv
  refine pW (pX y) ?_;refine⟨_,rfl,_,rfl,y,x,rfl,_,rfl,?_⟩;cases hn:aX y x with
  |true=>
   refine bQ ⟨_,rfl,trivial,?_⟩;rw[bc6 hno hy hn]at q;exact q
  |false=>
   refine bE ⟨λw hw=>?_,_,rfl⟩;rw[bv5,hy]at hw;rcases bs0.mp hw with g|g
   ·exact hno w g
   ·rw[show w=y by simpa using g];exact hn
 ·rintro ρ ⟨hno,z,rfl⟩
  rw[pZ,bx0]at hno;rw[af2 hno]at q
  exact⟨trivial,q⟩
noncomputable abbrev mF (s:Bx×Bx):PV:=.tup [aT s.1,aT s.2]
theorem bc8 (s:Bx×Bx):flat (mF s)=true:=by
 show (flat (aT s.1)&&(flat (aT s.2)&&true))=true;rw[pX,pX];rfl
noncomputable def bO (T:List Bx):List (List aI×PV):=T.map λx=>(kn x.k,PV.bl true)
theorem af3 {a b:Bx}(h:kn a.k=kn b.k):a=b:=Bx.k_inj (by
 have:=congrArg (List.map λk:aI=>match k with|.inl i=>i|.inr _=>0) h
 unfold kn at this;rw[bw0,bw0]at this
 exact (List.map_id _).symm.trans (Eq.trans this (List.map_id _)))
theorem bc9 (T:List Bx):(bO T).map (·.1)=(T.map Bx.k).map kn:=by unfold bO;rw[bw0,bw0];rfl
theorem af4 (T:List Bx)(x:Bx):((bO T).any λp=>decide (p.1=kn x.k))=decide (x∈T):=by
 rw[bC0,List.any_eq_true,bt0];unfold bO;refine⟨λ⟨p,hp,e⟩=>?_,λh=>⟨_,br5.mpr ⟨x,h,rfl⟩,bp8 rfl⟩⟩
 obtain⟨y,hy,rfl⟩:=br5.mp hp
 rw[<- af3 (bG1 e:kn y.k=kn x.k)];exact hy
theorem af5 (T:List Bx)(x:Bx):(cA (bO T) (kn x.k)).isSome=decide (x∈T):=by rw[<- nM,af4]
theorem af6 (T:List Bx)(x:Bx):dR (bO T) (kn x.k) (.bl true)=bO (if x∈T then T else T++[x]):=by
 unfold dR;rw[af4];by_cases h:x∈T
 ·rw[bp8 h,if_pos rfl,if_pos h]
  unfold bO;rw[bw0];refine List.map_congr_left λy _=>?_
  show (if kn y.k=kn x.k then (kn y.k,PV.bl true) else (kn y.k,PV.bl true))=_;split<;>rfl
 ·rw[bp6 h,if_neg (by decide),if_neg h]
  unfold bO;rw[br8];rfl
theorem af7 (T:List Bx):(bO T).length=T.length:=by unfold bO;rw[bo7]
theorem bd0 (T:List Bx):flats ((bO T).map (·.2))=true:=by
 unfold bO;rw[bw0]
 induction T with
 |nil=>rfl
 |cons a r ih=>exact ih
theorem nY (l:ae):(kn l).map kP=intz l:=by unfold kn;rw[bw0];rfl
noncomputable def u8:cD:=λxs Q=>∃(T:List Bx) (s:Bx×Bx),xs = [.dT (bO T),mF s]/\Q (.bl (iM T s))
noncomputable def af8 (K:ac):aS:=(aN (dL (gO (iU (bF (jO K "tuple" (a5 1)))) (bF (oU (aD mX (a6 (a5 1) aA)) (qC (.int 2))))) (bX (qC (.bl false))) dQ)
 (aN (dL (gO (bF (oS true (b7 (a5 1) (qC (.int 0))) (a5 0))) (bF (oS true (b7 (a5 1) (qC (.int 1))) (a5 0)))) (bX (qC (.bl false))) dQ)
 (bX (lP (q2 tF (b7 (a5 1) (qC (.int 0))) (b7 (a5 1) (qC (.int 1)))) (aD i5 (a6 (b7 (a5 1) (qC (.int 0))) (a6 (b7 (a5 1) (qC (.int 1))) aA)))))))
theorem bd1 {K:ac}(kt:PySem.W.kitOne K (.type "tuple") (.type "tuple")=some true):dP (af8 K) ["there","step"] u8:=by
 rintro xs Q ⟨T,s,rfl,q⟩;refine⟨_,rfl,_,_,rfl,kt,_,rfl,bE ⟨_,rfl,_,_,rfl,rfl,.inl ⟨_,_,rfl,rfl,_,rfl,bE ?_⟩⟩⟩;refine⟨_,rfl,_,_,_,rfl,rfl,rfl,_,rfl,_,.inr ⟨bO T,kn s.1.k,rfl,by rw[nY],rfl⟩,_,rfl,?_⟩;show if (!(cA (bO T) (kn s.1.k)).isSome)=true then _ else _
 rw[af5];by_cases h1:s.1∈T
 ·rw[bp8 h1]
  refine bE ⟨_,rfl,_,_,_,rfl,rfl,rfl,_,rfl,_,.inr ⟨bO T,kn s.2.k,rfl,by rw[nY],rfl⟩,_,rfl,?_⟩;show if (!(cA (bO T) (kn s.2.k)).isSome)=true then _ else _
  rw[af5];by_cases h2:s.2∈T
  ·rw[bp8 h2]
   refine bE ⟨_,rfl,_,_,_,rfl,rfl,rfl,_,rfl,_,_,_,rfl,rfl,rfl,s.1.k,s.2.k,rfl,rfl,_,rfl,?_⟩;unfold iM at q;rw[bp8 h1,bp8 h2,bE8,bE8]at q;cases hl:HT.aH s.1.k s.2.k with
   |true=>
    rw[hl,bE8]at q;exact bQ ⟨_,rfl,_,_,_,rfl,rfl,rfl,_,rfl,_,_,_,rfl,rfl,rfl,s.1,s.2,rfl,trivial,q⟩
   |false=>
    rw[hl,bF1]at q;exact bE ⟨trivial,q⟩
  ·rw[bp6 h2]
   unfold iM at q;rw[bp6 h2,bF1,bG9]at q;exact bQ ⟨trivial,q⟩
 ·rw[bp6 h1]
  unfold iM at q;rw[bp6 h1,bF1]at q;exact bQ (bQ ⟨trivial,q⟩)
noncomputable def u9:cD:=λxs Q=>∃ls:List Bx,xs = [.lst (bV ls)]/\ls.Nodup/\ls.length<=4096/\Q (.dT (bO ls))
noncomputable def af9:aS:=(aN (iE 1 (qC (.dT [])))
 (aN (fH (e8 (a5 0)) (cN 2)
  (lT 1 (a5 2) (qC (.bl true))))
 (jK 1)))
theorem bd2:dP af9 ["hearths","inside","hearth"] u9:=by
 rintro xs Q ⟨ls,rfl,nd,hl,q⟩;refine⟨rfl,rfl,_,rfl,bV ls,rfl,u7,λi ρ=>∃y,ρ = [some (.sh (flat (.lst (bV ls))) (.lst (bV ls))),some (.own (.dT (bO (ls.take i)))),y],⟨none,rfl⟩,?_,?_⟩
 ·rintro i y ρ hy ⟨y0,rfl⟩
  obtain⟨l,rfl,h⟩:=pY hy
  have tk:dR (bO (ls.take i)) (kn l.k) (.bl true)=bO (ls.take (i+1)):=by rw[af6,if_neg (tP nd h),bv5,h];rfl
  refine⟨_,rfl,_,rfl,kn l.k,by rw[nY];rfl,trivial,by rw[af7,bA8];omega,?_⟩;rw[tk]
  exact⟨_,rfl⟩
 ·rintro ρ ⟨y,rfl⟩
  rw[pZ,bx0]
  exact⟨_,rfl,trivial,q⟩
theorem ag0 {α:Type}:∀{l:List α}{j:Nat}{x:α},l[j]? = some x->l.Perm (x::l.eraseIdx j)
 |[],_,_,h=>by simp at h
 |a::l,0,x,h=>by simp at h;subst h;exact bz2 _
 |a::l,j+1,x,h=>by
  rw[bw4]at h;exact ((ag0 h).cons a).trans (List.Perm.swap _ _ _)
theorem ag1 {l:List Bx}{j:Nat}{x:Bx}(nd:l.Nodup)(h:l[j]? = some x):l.eraseIdx j=l.erase x:=by
 induction l generalizing j with
 |nil=>simp at h
 |cons a l ih=>
  obtain⟨h1,h2⟩:=bC1.mp nd
  cases j with
  |zero=>simp at h;subst h;simp
  |succ j=>
   rw[bw4]at h
   have:a≠x:=λe=>h1 (by rw[e];exact bD9 h)
   rw[List.eraseIdx_cons_succ,ih h2 h,List.erase_cons_tail (by simpa using this)]
theorem ag2 {α β:Type}{f:α->β}{zs:List β}{l:List α}(p:zs.Perm (l.map f)):∃l':List α,zs=l'.map f/\l'.Perm l:=by
 generalize hm:l.map f=m at p
 induction p generalizing l with
 |nil=>exact⟨l,hm.symm,bz2 _⟩
 |cons x _ ih=>
  cases l with
  |nil=>cases hm
  |cons e l=>
   cases hm
   obtain⟨g,hg,pg⟩:=ih rfl
   exact⟨e::g,by rw[hg];rfl,pg.cons _⟩
 |swap x y z=>
  match l,hm with
  |e::e'::l,hm=>
   cases hm
   exact⟨e'::e::l,rfl,List.Perm.swap _ _ _⟩
 |trans _ _ ih1 ih2=>
  obtain⟨g,hg,pg⟩:=ih2 hm
  obtain⟨g',hg',pg'⟩:=ih1 hg.symm
  exact⟨g',hg',pg'.trans pg⟩
theorem dU.perm {T T':List Bx}(p:T.Perm T')(h:dU T):dU T':=(p.pairwise_iff λ{x y} z=>by rw[nV];exact z).mp h
theorem bd3 {ls:List aV}(nd:ls.Nodup):(ls.map cX).Nodup:=bu7.mpr (nd.imp λ{a b} ne e=>ne (by
 unfold cX at e;simp only[Bx.mk.injEq]at e
 exact bC8 e.1 e.2.1))
structure l8 (ls:List aV)(sts:List (Bx×Bx))(se more:List Bx):Prop where
 ex:∃T,eF (ls.map cX) sts=some T/\T.Perm (se++more)
 far:dU se
noncomputable def dJ (g c:Bx):Bx×Bx:=if HT.aH c.k g.k=true then (c,g) else (g,c)
theorem ag3 {g c:Bx}(ne:g≠c)(h:HT.aH c.k g.k=false):HT.aH g.k c.k=true:=by
 cases e:HT.aH g.k c.k with
 |true=>rfl
 |false=>exact absurd (Bx.k_inj (r6 e h)) ne
theorem bd4 {g c:Bx}(h1:okX g)(h2:okX c)(ne:g≠c):3<=kD (aR g c):=by
 refine bx6 λz=>ne ?_
 obtain⟨a,b,d,e⟩:=g
 obtain⟨a',b',d',e'⟩:=c
 unfold kD aR at z;unfold okX at h1 h2;dsimp only at *;simp only[Bx.mk.injEq];omega
theorem l8.step {ls:List aV}{sts:List (Bx×Bx)}{se:List Bx}{g c:Bx}{more:List aV}{j:Nat}(nd:ls.Nodup)(h:l8 ls sts se (g::more.map cX))(hj:se[j]? = some c)(nr:aX c g=true) :
  g≠c/\l8 ls (sts++[dJ g c]) (se.eraseIdx j) (aR g c::more.map cX):=by
 obtain⟨T,hw,pm⟩:=h.ex
 obtain⟨ow,tnd⟩:=pV nd sts hw
 have snd:(se++g::more.map cX).Nodup:=pm.nodup_iff.mp tnd;have hc:=bD9 hj
 obtain⟨nd1,nd2,nd3⟩:=bD1.mp snd
 have ne:g≠c:=λe=>nd3 c hc g bp5 e.symm
 have gT:g∈T:=pm.mem_iff.mpr (by simp);have cT:c∈T:=pm.mem_iff.mpr (bt4 _ hc);have okg:=ow.ok gT;have okc:=ow.ok cT;have p1:(dJ g c).1=c/\(dJ g c).2=g∨(dJ g c).1=g/\(dJ g c).2=c:=by unfold dJ;split;exact .inl ⟨rfl,rfl⟩;exact .inr ⟨rfl,rfl⟩
 have hu:aR (dJ g c).1 (dJ g c).2=aR g c:=by
  rcases p1 with⟨e1,e2⟩|⟨e1,e2⟩<;>rw[e1,e2]
  exact bb2 _ _
 have ok:iM T (dJ g c)=true:=by
  refine u5.mpr ⟨?_,?_,?_,?_⟩
  ·rcases p1 with⟨e1,_⟩|⟨e1,_⟩<;>rw[e1]<;>assumption
  ·rcases p1 with⟨_,e1⟩|⟨_,e1⟩<;>rw[e1]<;>assumption
  ·unfold dJ
   cases hl:HT.aH c.k g.k with
   |true=>exact hl
   |false=>exact ag3 ne hl
  ·rcases p1 with⟨e1,e2⟩|⟨e1,e2⟩<;>rw[e1,e2]
   ·exact nr
   ·rw[nV];exact nr
 have pse:=ag0 hj;have cutP':(gS T (dJ g c)).Perm (se.eraseIdx j++more.map cX):=by
  have a1:(c::g::gS T (dJ g c)).Perm (c::g::(se.eraseIdx j++more.map cX)):=by
   have b1:(c::g::gS T (dJ g c)).Perm T:=by
    refine List.Perm.trans ?_ (yU ok).symm;rcases p1 with⟨e1,e2⟩|⟨e1,e2⟩<;>rw[e1,e2]
    exact List.Perm.swap _ _ _
   refine b1.trans (pm.trans ((pse.append_right _).trans ?_));show (c::(se.eraseIdx j++g::more.map cX)).Perm _;exact List.perm_middle.cons c
  exact a1.cons_inv.cons_inv
 have hn:aR g c∉gS T (dJ g c):=λz=>by
  rcases bs0.mp (cutP'.mem_iff.mp z) with z|z
  ·have hs:=(List.eraseIdx_sublist se j).subset z
   have okk:=okc;unfold okX at okk
   have:aX c (aR g c)=true:=yM (p:=(c.t,c.l)) (by unfold aC;dsimp only;omega) (tU (by unfold aC;dsimp only;omega))
   have e:=h.far.eq hc hs this;have nd5:(c::se.eraseIdx j).Nodup:=pse.nodup_iff.mp nd1;exact (bC1.mp nd5).1 (by rw[e];rw[e]at z;rwa [e])
  ·obtain⟨p,_,e⟩:=br5.mp z
   have:=bd4 okg okc ne
   rw[<- e]at this;unfold kD cX at this;dsimp only at this;omega
 refine⟨ne,⟨kE T (dJ g c),?_,?_⟩,h.far.sublist (List.eraseIdx_sublist se j)⟩
 ·rw[tZ,hw]
  show iN (dJ g c) T=_;unfold iN;rw[if_pos ok]
 ·unfold kE
  rw[hu,if_neg hn];refine (cutP'.append_right _).trans ?_;rw[bq7];refine bD5 _ ?_;exact bw5
theorem bd5 {α:Type}{P:List α->Prop}(h0:P [])(hs:∀a s,P a->P (a++[s]))(l:List α):P l:=by
 rw[<- List.reverse_reverse l]
 induction l.reverse with
 |nil=>exact h0
 |cons x r ih=>rw[List.reverse_cons];exact hs _ _ ih
theorem l8.len {ls:List aV}{sts:List (Bx×Bx)}:∀{T:List Bx},eF (ls.map cX) sts=some T->T.length<=ls.length:=by
 refine bd5 (P:=λsts=>∀{T:List Bx},eF (ls.map cX) sts=some T->T.length<=ls.length) ?_ ?_ sts
 ·intro T h;cases h;rw[bo7];exact bp7 _
 ·intro a s ih T h
  rw[tZ]at h;cases hw:eF (ls.map cX) a with
  |none=>rw[hw]at h;cases h
  |some T1=>
   rw[hw]at h;have h:iN s T1=some T:=h;unfold iN at h;split at h
   ·rename_i ok
    cases h
    have:=ih hw
    have:=(yU ok).length_eq
    rw[bs9,bs9]at this;unfold kE;split
    ·omega
    ·rw[br0,bu5];omega
   ·cases h
noncomputable abbrev gF (sts:List (Bx×Bx)):List PV:=sts.map mF
theorem bd6 {sts:List (Bx×Bx)}{i:Nat}{v:PV}(h:(gF sts)[i]? = some v):∃s,v=mF s/\sts[i]? = some s:=by
 rw[bq6]at h;cases e:sts[i]? with
 |none=>rw[e]at h;cases h
 |some x=>rw[e]at h;cases h;exact⟨x,rfl,rfl⟩
noncomputable def uA:fN:=λEp xs Q=>∃(r c:Int) (x:PV) (ls:List aV),xs = [.int r,.int c,x]/\(x = .tup (aK ls)∨x = .lst (aK ls))/\ls.length<=4096/\(¬cR r c->Ep "BadBoard")/\(cR r c->¬gR r c ls->Ep "BadSet")/\
 (cR r c->gR r c ls->∀sts T,eF (ls.map cX) sts=some T->dU T->sts.length<=ls.length->Q (.lst (gF sts)))
noncomputable def ag4 (Ep:Str->Prop):aS:=(aN (iE 3 (jJ aA))
 (aN (iE 4 (jJ aA))
 (aN (fH (e8 (aD nX (a6 (kZ Ep l5 (a6 (a5 0) (a6 (a5 1) (a6 (a5 2) aA)))) aA))) (cN 5)
  (aN (bH 6 (a5 5))
  (aN (bH 7 (aD mE (a6 (a5 3) (a6 (a5 6) aA))))
  (aN (rJ (bF (O2 (a5 7) (qC .non)))
   (aN (mW 4 (eU (a6 (aD yI (a6 (a5 6) (a6 (a5 7) aA))) (a6 (aD yJ (a6 (a5 6) (a6 (a5 7) aA))) aA))))
   (aN (bH 6 (aD j6 (a6 (a5 6) (a6 (a5 7) aA))))
   (aN (yK 3 (a5 7))
   (bH 7 (aD mE (a6 (a5 3) (a6 (a5 6) aA))))))))
  (mW 3 (a5 6))))))
 (jK 4))))
theorem bd7:nQ ag4 ["rows","columns","seeds","settled","steps","box","growing","close"] uA:=by
 rintro Ep xs Q ⟨r,c,x,ls,rfl,hx,hl,e1,e2,q⟩;refine⟨by show 0<=1000;decide,rfl,rfl,rfl,by show 0<=1000;decide,rfl,rfl,rfl,?_⟩;refine⟨_,rfl,_,rfl,_,rfl,r,c,x,ls,rfl,hx,hl,e1,e2,λok st=>?_⟩;have q:=q ok st;have nd:ls.Nodup:=hV st.1
 refine⟨_,ls,rfl,.inl rfl,hl,bV (ls.map cX),rfl,(λz=>by cases z),λi ρ=>∃(se:List Bx) (sts:List (Bx×Bx)) (y5 y6 y7:Option Slot),ρ = [si r,si c,some (.sh (flat x) x),some (.own (.lst (bV se))),some (.own (.lst (gF sts))),y5,y6,y7]/\l8 ls sts se ((ls.drop i).map cX)/\sts.length+se.length=i,
  ⟨[],[],none,none,none,rfl,⟨⟨_,rfl,bz2 _⟩,bz3⟩,rfl⟩,?_,?_⟩
 ·rintro i v ρ hv ⟨se,sts,y5,y6,y7,rfl,gr,cnt⟩
  obtain⟨b,rfl,hb⟩:=pY hv
  rw[bq6]at hb
  obtain⟨p,hp,rfl⟩:∃p,ls[i]? = some p/\b=cX p:=by
   cases e:ls[i]? with
   |none=>rw[e]at hb;cases hb
   |some p=>rw[e]at hb;cases hb;exact⟨p,rfl,rfl⟩
  have il:=(bq1.mp hp).1;have dr:ls.drop i=p::ls.drop (i+1):=by rw[bB5 il,(bq1.mp hp).2]
  rw[dr,bv2]at gr;refine pW (pX _) ?_;refine⟨_,rfl,trivial,?_⟩;refine⟨_,rfl,_,rfl,se,cX p,rfl,trivial,?_⟩
  refine⟨λm ρ=>∃(se:List Bx) (sts:List (Bx×Bx)) (g:Bx),ρ = [si r,si c,some (.sh (flat x) x),some (.own (.lst (bV se))),some (.own (.lst (gF sts))),some (.sh true (aT (cX p))),some (.sh true (aT g)),some (.sh true (yV (se.find? λy=>aX y g)))]/\l8 ls sts se (g::(ls.drop (i+1)).map cX)/\sts.length+se.length=i/\m=se.length,
   ⟨_,se,sts,cX p,rfl,gr,cnt,rfl⟩,?_⟩
  rintro m ρ ⟨se,sts,g,rfl,gr,cnt,rfl⟩;refine⟨_,rfl,rfl,_,rfl,?_⟩;cases hf:se.find? λy=>aX y g with
  |none=>
   refine bE ⟨_,rfl,_,rfl,trivial,by rw[pZ];omega,?_⟩;refine⟨se++[g],sts,some (.sh true (aT (cX p))),some (.sh true (aT g)),some (.sh true (yV none)),?_,⟨?_,?_⟩,by rw[br0,bu5];omega⟩
   ·have:bV se++[aT g]=bV (se++[g]):=by unfold bV kA;rw[br8,br8];rfl
    show [_,_,_,some (Slot.own (PV.lst (bV se++[aT g]))),_,_,_,_]=_;rw[this]
   ·obtain⟨T,hw,pm⟩:=gr.ex
    exact⟨T,hw,by rw[bq7];exact pm⟩
   ·have hn:=List.find?_eq_none.mp hf
    refine bt6.mpr ⟨gr.far,bu4 _ _,λa ha b hb=>?_⟩;rw[bp2.mp hb];simpa using hn a ha
  |some cl=>
   have nr:aX cl g=true:=by simpa using List.find?_some hf
   have hc:=List.mem_of_find?_eq_some hf
   obtain⟨j,hj⟩:=List.getElem?_of_mem hc
   obtain⟨ne,gr2⟩:=gr.step nd hj nr
   obtain⟨T,hw,pm⟩:=gr.ex
   have snd:(se++g::(ls.drop (i+1)).map cX).Nodup:=pm.nodup_iff.mp (pV nd sts hw).2;have nd1:=(bD1.mp snd).1;have il':i<4096:=by omega
   refine bQ ⟨_,rfl,_,rfl,_,rfl,g.k,cl.k,rfl,_,rfl,_,rfl,g.k,cl.k,rfl,by show 2<=1000;decide,?_,trivial,by rw[bo7];omega,?_⟩
   ·show (flat (.tup (intz (if HT.aH cl.k g.k=true then cl.k else g.k)))&&(flat (.tup (intz (if HT.aH g.k cl.k=true then cl.k else g.k)))&&true))=true
    rw[sV,sV];rfl
   have eS:PV.tup [.tup (intz (if HT.aH cl.k g.k=true then cl.k else g.k)),.tup (intz (if HT.aH g.k cl.k=true then cl.k else g.k))]=mF (dJ g cl):=by
    unfold dJ;cases hl:HT.aH cl.k g.k with
    |true=>rw[jH hl];rfl
    |false=>rw[ag3 ne hl];rfl
   refine⟨_,rfl,_,rfl,g,cl,rfl,trivial,?_⟩;refine⟨se.map Bx.k,rfl,_,rfl,cl.k,j,rfl,by rw[bq6,hj];rfl,λk hk e=>?_,by rw[bo7];omega,?_⟩
   ·rw[bq6]at e
    cases e2:se[k]? with
    |none=>rw[e2]at e;cases e
    |some y=>
     rw[e2]at e;have e3:=Bx.k_inj (br7 e);subst e3;have kl:=(bq1.mp e2).1;have jl:=(bq1.mp hj).1
     have:=bv3.mp nd1 k j kl jl hk
     exact this ((bq1.mp e2).2.trans (bq1.mp hj).2.symm)
   have jl:=(bq1.mp hj).1;have cutE:((se.map Bx.k).eraseIdx j).map (λr=>PV.tup (intz r))=bV (se.eraseIdx j):=by
    unfold bV kA;rw[<- Raw.jY]
   dsimp only;rw[cutE];refine⟨_,rfl,_,rfl,se.eraseIdx j,aR g cl,rfl,trivial,?_⟩;have le:(se.eraseIdx j).length+1=se.length:=by rw[List.length_eraseIdx,if_pos jl];omega
   refine⟨(se.eraseIdx j).length,by omega,se.eraseIdx j,sts++[dJ g cl],aR g cl,?_,gr2,by rw[br0,bu5];omega,rfl⟩;show [_,_,_,_,some (Slot.own (PV.lst (gF sts++[PV.tup [.tup (intz (if HT.aH cl.k g.k=true then cl.k else g.k)),.tup (intz (if HT.aH g.k cl.k=true then cl.k else g.k))]]))),_,_,_]=_;rw[eS]
   have:gF sts++[mF (dJ g cl)]=gF (sts++[dJ g cl]):=by unfold gF;rw[br8];rfl
   rw[this];rfl
 ·rintro ρ ⟨se,sts,y5,y6,y7,rfl,gr,cnt⟩
  rw[pZ,bo7]at gr cnt;rw[List.drop_length]at gr
  obtain⟨T,hw,pm⟩:=gr.ex
  rw[List.map_nil,bv0]at pm
  exact⟨_,rfl,trivial,q sts T hw (gr.far.perm pm.symm) (by omega)⟩
noncomputable def uB:fN:=λEp xs Q=>∃(r c:Int) (x:PV) (ls:List aV) (sts:List (Bx×Bx)),xs = [.int r,.int c,x,.lst (gF sts)]/\(x = .tup (aK ls)∨x = .lst (aK ls))/\ls.length<=4096/\(¬cR r c->Ep "BadBoard")/\(cR r c->¬gR r c ls->Ep "BadSet")/\
 (cR r c->gR r c ls->(eF (ls.map cX) sts=none->Ep "NoPaper")/\∀T,eF (ls.map cX) sts=some T->(¬dU T->Ep "NoPaper")/\(dU T->∀bs:List Bx,bs.Perm T->bs.Pairwise (λu v=>HT.aH v.k u.k=false)->Q (.lst (bV bs))))
noncomputable def ag5 (Ep:Str->Prop):aS:=(aN (iE 4 (aD u9 (a6 (aD nX (a6 (kZ Ep l5 (a6 (a5 0) (a6 (a5 1) (a6 (a5 2) aA)))) aA)) aA)))
 (aN (fH (e8 (a5 3)) (cN 5)
  (aN (dL (iU (bF (aD u8 (a6 (a5 4) (a6 (a5 5) aA))))) (nO Ep "NoPaper" (a6 (qC (.str "a step is of two near boxes that are there, the lesser first")) aA)) dQ)
  (aN (t6 4 (b7 (a5 5) (qC (.int 0))))
  (aN (t6 4 (b7 (a5 5) (qC (.int 1))))
  (lT 4 (aD j6 (a6 (b7 (a5 5) (qC (.int 0))) (a6 (b7 (a5 5) (qC (.int 1))) aA))) (qC (.bl true)))))))
 (aN (bH 6 (aD yG (a6 (a5 4) aA)))
 (aN (fH (xO (a5 6)) (mZ 7 8)
  (dL (bF (O2 (aD mE (a6 (wQ (a5 6) wO (wP (a5 7))) (a6 (a5 8) aA))) (qC .non))) (nO Ep "NoPaper" (a6 (qC (.str "near boxes are left behind the last step")) aA)) dQ))
 (jK 6)))))
theorem ag6 (T:List Bx)(j:Nat):(bO T).eraseIdx j=bO (T.eraseIdx j):=by unfold bO;rw[Raw.jY]
theorem ag7 {T:List Bx}{j:Nat}{x:Bx}(h:((bO T).map (·.1))[j]? = some (kn x.k)):T[j]? = some x:=by
 unfold bO at h;rw[bw0,bq6]at h;cases e:T[j]? with
 |none=>rw[e]at h;cases h
 |some y=>rw[e]at h;rw[af3 (br7 h)]
theorem ag8 {T:List Bx}{x:Bx}(h:x∈T):∃j:Nat,((bO T).map (·.1))[j]? = some (kn x.k):=by
 obtain⟨j,hj⟩:=List.getElem?_of_mem h
 refine⟨j,?_⟩;unfold bO;rw[bw0,bq6,hj];rfl
theorem bd8:nQ ag5 ["rows","columns","seeds","steps","there","step","boxes","turn","box"] uB:=by
 rintro Ep xs Q ⟨r,c,x,ls,sts,rfl,hx,hl,e1,e2,q⟩;refine⟨_,rfl,_,rfl,_,rfl,r,c,x,ls,rfl,hx,hl,e1,e2,λok st=>?_⟩
 obtain⟨qn,q⟩:=q ok st
 have nd:ls.Nodup:=hV st.1;refine⟨_,ls,rfl,.inl rfl,hl,ls.map cX,rfl,bd3 nd,by rw[bo7];exact hl,rfl,bd0 _,?_⟩;refine⟨_,rfl,gF sts,rfl,u7,λi ρ=>∃(T:List Bx) (z5:Option Slot),eF (ls.map cX) (sts.take i)=some T/\ρ = [si r,si c,some (.sh (flat x) x),some (.sh (flat (.lst (gF sts))) (.lst (gF sts))),some (.own (.dT (bO T))),z5,none,none,none],⟨ls.map cX,none,rfl,rfl⟩,?_,?_⟩
 ·rintro i v ρ hv ⟨T,z5,hw,rfl⟩
  obtain⟨s,rfl,hs⟩:=bd6 hv
  have tk:sts.take (i+1)=sts.take i++[s]:=by rw[bv5,hs];rfl
  have wn:eF (ls.map cX) (sts.take (i+1))=iN s T:=by rw[tk,tZ,hw];rfl
  have tnd:=(pV nd _ hw).2;have tl:=l8.len hw;refine pW (bc8 s) ?_;refine⟨_,rfl,_,rfl,T,s,rfl,_,rfl,?_⟩;cases hok:iM T s with
  |false=>
   refine bQ ⟨by show 1<=1000;decide,qn ?_⟩
   have:eF (ls.map cX) (sts.take (i+1))=none:=by rw[wn];unfold iN;rw[hok];rfl
   have:=bb9 (b:=sts.drop (i+1)) this
   rwa [bs4]at this
  |true=>
   obtain⟨h1,h2,h3,h4⟩:=u5.mp hok
   have ne:=ae3 h3;refine bE ⟨bO T,rfl,_,rfl,_,_,_,rfl,rfl,rfl,kn s.1.k,by rw[nY],ag8 h1,λj hj=>?_⟩;rw[ag6,ag1 tnd (ag7 hj)];have h2':s.2∈T.erase s.1:=(List.mem_erase_of_ne ne.symm).mpr h2;refine⟨bO (T.erase s.1),rfl,_,rfl,_,_,_,rfl,rfl,rfl,kn s.2.k,by rw[nY],ag8 h2',λj hj=>?_⟩;rw[ag6,ag1 (tnd.erase _) (ag7 hj)];have ll:(gS T s).length<=T.length:=bs7 (List.length_erase_le ..) (List.length_erase_le ..);refine⟨bO (gS T s),rfl,_,rfl,_,_,_,rfl,rfl,rfl,_,rfl,_,_,_,rfl,rfl,rfl,s.1,s.2,rfl,kn (aR s.1 s.2).k,by rw[nY],trivial,by rw[af7];omega,?_⟩;rw[af6];refine⟨kE T s,some (.sh true (mF s)),?_,rfl⟩;rw[wn];unfold iN;rw[if_pos hok]
 ·rintro ρ ⟨T,z5,hw,rfl⟩
  rw[bo7,bx0]at hw
  obtain⟨q1,q2⟩:=q T hw
  refine⟨_,rfl,bO T,T.map Bx.k,rfl,bc9 T,λk hk=>?_,λms pm so=>⟨trivial,?_⟩⟩
  ·obtain⟨b,_,rfl⟩:=br5.mp hk
   unfold Bx.k;exact List.cons_ne_nil _ _
  obtain⟨bs,rfl,pb⟩:=ag2 pm
  rw[bu7]at so;refine⟨_,rfl,bV bs,.inl rfl,(λz=>by cases z),λi ρ=>∃z7 z8:Option Slot,dU (bs.take i)/\ρ = [si r,si c,some (.sh (flat x) x),some (.sh (flat (.lst (gF sts))) (.lst (gF sts))),some (.own (.dT (bO T))),z5,some (.sh true (.lst (bV bs))),z7,z8],⟨none,none,by rw[List.take_zero];exact bz3,rfl⟩,?_,?_⟩
  ·rintro i v ρ hv ⟨z7,z8,far,rfl⟩
   obtain⟨w,hw2,rfl⟩:=aP9 hv
   obtain⟨b,rfl,hb⟩:=pY hw2
   have tk:bs.take (i+1)=bs.take i++[b]:=by rw[bv5,hb];rfl
   refine⟨_,_,rfl,?_⟩;have cut:jQ (bV bs) none (some (i:Int))=bV (bs.take i):=by
    rw[aQ9 (by omega)];unfold bV kA;rw[show ((i:Int)).toNat=i by omega,List.map_take,List.map_take]
   refine⟨_,rfl,_,rfl,(i:Int),rfl,bV bs,rfl,bc1 bs,_,rfl,bs.take i,b,by rw[cut];rfl,rfl,_,rfl,?_⟩;cases hf:(bs.take i).find? λy=>aX y b with
   |some y=>
    refine bQ ⟨by show 1<=1000;decide,q1 λfT=>?_⟩;have nr:aX y b=true:=by simpa using List.find?_some hf
    have fb:dU (bs.take (i+1)):=(fT.perm pb.symm).sublist (List.take_sublist _ _);rw[tk]at fb
    have:=(bt6.mp fb).2.2 y (List.mem_of_find?_eq_some hf) b (by simp)
    rw[nr]at this;cases this
   |none=>
    refine bE ⟨_,_,?_,rfl⟩;have hn:=List.find?_eq_none.mp hf;rw[tk];refine bt6.mpr ⟨far,bu4 _ _,λa ha b' hb'=>?_⟩;rw[bp2.mp hb'];simpa using hn a ha
  ·rintro ρ ⟨z7,z8,far,rfl⟩
   rw[xN,pZ,bx0]at far
   exact⟨_,rfl,trivial,q2 (far.perm pb) bs pb so⟩
structure yW (ls:List aV)(bs:List Bx):Prop where
 own:bU ls bs
 far:dU bs
 so:bs.Pairwise λu v=>HT.aH v.k u.k=false
 len:bs.length<=ls.length
noncomputable def qB:fN:=λEp xs Q=>∃(r c:Int) (x:PV) (ls:List aV),xs = [.int r,.int c,x]/\(x = .tup (aK ls)∨x = .lst (aK ls))/\ls.length<=4096/\(¬cR r c->Ep "BadBoard")/\(cR r c->¬gR r c ls->Ep "BadSet")/\
 (cR r c->gR r c ls->∀bs,yW ls bs->Q (.lst (bV bs)))
noncomputable def ag9 (Ep:Str->Prop):aS:=(bX (kZ Ep uB (a6 (a5 0) (a6 (a5 1) (a6 (a5 2) (a6 (kZ Ep uA (a6 (a5 0) (a6 (a5 1) (a6 (a5 2) aA)))) aA))))))
theorem bd9:nQ ag9 ["rows","columns","seeds"] qB:=by
 rintro Ep xs Q ⟨r,c,x,ls,rfl,hx,hl,e1,e2,q⟩;refine⟨_,rfl,_,rfl,_,rfl,_,rfl,_,rfl,_,rfl,r,c,x,ls,rfl,hx,hl,e1,e2,λok st sts T hw far sl=>?_⟩;have nd:ls.Nodup:=hV st.1;refine⟨r,c,x,ls,sts,rfl,hx,hl,e1,e2,λ_ _=>⟨(λz=>by rw[hw]at z;cases z),λT' hw'=>?_⟩⟩;rw[hw]at hw';cases hw'
 exact⟨λz=>absurd far z,λ_ bs pb so=>⟨trivial,q ok st bs ⟨((pV nd sts hw).1).perm pb,far.perm pb.symm,so,by rw[pb.length_eq];exact l8.len hw⟩⟩⟩
noncomputable def kF (x:Bx):Prop:=okX x/\0<=x.t/\0<=x.l/\x.b<40/\x.r<40
theorem kF.few {x:Bx}{K:List aV}(h:kF x)(nd:K.Nodup)(m:∀p∈K,aC x p):K.length<=1600:=by
 refine tO (r:=40) (c:=40) (by unfold cR;decide) nd λp hp=>nT.mpr ?_
 have:=m p hp
 unfold aC at this;unfold kF at h;omega
noncomputable def kG:cD:=λxs Q=>∃x:Bx,xs = [aT x]/\kF x/\∀K:List aV,K.Pairwise dA->(∀p,p∈K↔aC x p)->K.length<=1600->Q (.lst (aK K))
noncomputable def ah0:aS:=(aN (pP (yL 1 2 3 4) (a5 0))
 (aN (iE 5 (jJ aA))
 (aN (fH (rQ (a5 1) (bS (a5 3) (qC (.int 1)))) (cN 6)
  (fH (rQ (a5 2) (bS (a5 4) (qC (.int 1)))) (cN 7)
   (mW 5 (eU (a6 (a5 6) (a6 (a5 7) aA))))))
 (jK 5))))
theorem be0:dP ah0 ["box","top","left","bottom","right","cells","row","column"] kG:=by
 rintro xs Q ⟨x,rfl,on,q⟩;have on':=on;unfold kF okX at on';refine⟨_,rfl,trivial,_,_,_,_,rfl,?_⟩;refine⟨by show 0<=1000;decide,rfl,rfl,rfl,?_⟩;refine⟨_,rfl,_,rfl,_,_,rfl,rfl,x.t,x.b+1,rfl,rfl,by omega,λi ρ=>∃(K:List aV) (y6 y7:Option Slot),ρ = [some (.sh (flat (aT x)) (aT x)),si x.t,si x.l,si x.b,si x.r,some (.own (.lst (aK K))),y6,y7]/\K.Pairwise dA/\∀p,p∈K↔aC x p/\p.1<x.t+i,⟨[],none,none,?_,bz3,λp=>⟨λz=>(by cases z),λz=>?_⟩⟩,?_,?_⟩
 ·show [_,some (Slot.sh (_||flat (.int x.t)) (.int x.t)),some (Slot.sh (_||flat (.int x.l)) (.int x.l)),some (Slot.sh (_||flat (.int x.b)) (.int x.b)),some (Slot.sh (_||flat (.int x.r)) (.int x.r)),_,_,_]=_
  rw[show flat (.int x.t)=true from rfl,show flat (.int x.l)=true from rfl,show flat (.int x.b)=true from rfl,show flat (.int x.r)=true from rfl,Bool.or_true];rfl
 ·unfold aC at z;omega
 ·rintro i v ρ hv ⟨K,y6,y7,rfl,ord,mem⟩
  obtain⟨rfl,hi⟩:=sU hv
  refine sY ?_;refine⟨_,rfl,_,rfl,_,_,rfl,rfl,x.l,x.r+1,rfl,rfl,by omega,λj ρ=>∃(K:List aV) (y7:Option Slot),ρ = [some (.sh (flat (aT x)) (aT x)),si x.t,si x.l,si x.b,si x.r,some (.own (.lst (aK K))),si (x.t+i),y7]/\K.Pairwise dA/\∀p,p∈K↔aC x p/\(p.1<x.t+i∨(p.1=x.t+i/\p.2<x.l+j)),⟨K,y7,rfl,ord,λp=>?_⟩,?_,?_⟩
  ·rw[mem];unfold aC;omega
  ·rintro j v ρ hv ⟨K,y7,rfl,ord,mem⟩
   obtain⟨rfl,hj⟩:=sU hv
   refine sY ?_;have few:=on.few (hV ord) λp hp=>((mem p).mp hp).1
   refine⟨_,rfl,_,rfl,_,rfl,by show 2<=1000;decide,rfl,trivial,by rw[gE];omega,?_⟩;refine⟨K++[(x.t+i,x.l+j)],some (.sh true (.int (x.l+j))),?_,?_,λp=>?_⟩
   ·have:aK K++[.tup [.int (x.t+i),.int (x.l+j)]]=aK (K++[(x.t+(i:Int),x.l+(j:Int))]):=by unfold aK;rw[br8];rfl
    show [_,_,_,_,_,some (Slot.own (PV.lst (aK K++[.tup [.int (x.t+i),.int (x.l+j)]]))),_,_]=_;rw[this]
   ·refine bt6.mpr ⟨ord,bu4 _ _,λa ha b hb=>?_⟩
    rw[bp2.mp hb]
    have:=(mem a).mp ha
    unfold dA;dsimp only;omega
   ·rw[bs0,mem,bp2,Prod.ext_iff]
    unfold aC;dsimp only;omega
  ·rintro ρ ⟨K,y7,rfl,ord,mem⟩
   rw[mY]at mem;refine⟨K,_,_,rfl,ord,λp=>?_⟩;rw[mem];unfold aC;omega
 ·rintro ρ ⟨K,y6,y7,rfl,ord,mem⟩
  rw[mY]at mem;have mem:∀p,p∈K↔aC x p:=λp=>by rw[mem];unfold aC;omega
  exact⟨_,rfl,trivial,q K ord mem (on.few (hV ord) λp hp=>(mem p).mp hp)⟩
theorem be1 (a b:List aV):aK a++aK b=aK (a++b):=by unfold aK;rw[br8]
section
variable {ns:ae}{a r c z t l:Int}{Q:PV→Prop}(q:∀x:Bx, Q (aT x))
include q
end
end Core
namespace Raw
open PySem
noncomputable abbrev gG:=SetTable.Probe
noncomputable def ah1 (m:Nat):SetTable:={ mask:=m,place:=#[],dummies:=#[],finger:=0,led:=true,moves:=0,plain:=true }
noncomputable def gU (m:Nat)(p:gG):gG:=(ah1 m).advance p
noncomputable def aU (m:Nat):Nat->gG->gG
 |0,p=>p
 |n+1,p=>aU m n (gU m p)
theorem yX (m:Nat):∀(n:Nat) (p:gG),aU m (n+1) p=gU m (aU m n p)
 |0,_=>rfl
 |n+1,p=>yX m n (gU m p)
theorem qD (m:Nat):∀(a b:Nat) (p:gG),aU m (a+b) p=aU m b (aU m a p)
 |0,b,p=>by rw[Nat.zero_add];rfl
 |a+1,b,p=>by
  rw[show a+1+b=(a+b)+1 by omega];exact qD m a b (gU m p)
noncomputable def bI (m:Nat)(h:Int):gG:=(ah1 m).probeStart h
theorem ah2 (m:Nat)(p:gG):(gU m p).dummy=p.dummy:=by
 unfold gU SetTable.advance;split<;>rfl
theorem be2 {t:SetTable}{j i:Nat}(e:t.slot j = .live i):t.place.toList[i]? = some j:=by
 unfold SetTable.slot at e;dsimp only at e;split at e
 ·rename_i h
  cases e;rw[br6];exact eq_of_beq h
 ·split at e<;>cases e
theorem ah3 {t:SetTable}(a:t.place.toList.Pairwise (·<·)){j:Nat}(hj:j∈t.place.toList):∃i,t.slot j = .live i/\t.place.toList[i]? = some j:=by
 obtain⟨k,hk,e⟩:=bu9 hj
 obtain⟨b1,b2,b3⟩:=t9 (j:=j) a
 have hb:SetTable.below t.place j=k:=by
  have hk':k<t.place.size:=by rw[<- bq5];exact hk
  rcases Nat.lt_trichotomy k (SetTable.below t.place j) with z|z|z
  ·have:=b2 k z
   rw[bp3,bo6 hk,e]at this;exact absurd this (bu6 _)
  ·exact z.symm
  ·have h3:=b3 _ (bp7 _) (by omega)
   have hl:SetTable.below t.place j<t.place.toList.length:=by omega
   rw[bp3,bo6 hl]at h3
   have:=(bv3.mp a) _ _ hl hk z
   simp only[bE9]at h3;omega
 have g:t.place[SetTable.below t.place j]? = some j:=by
  rw[hb,<- br6,bo6 hk,e]
 refine⟨_,?_,by rw[br6];exact g⟩;unfold SetTable.slot;dsimp only;rw[if_pos (by rw[g];exact bx9 _)]
theorem be3 {t:SetTable}(dm:t.dummies = #[]){j:Nat}(hj:j∉t.place.toList):t.slot j = .empty:=by
 unfold SetTable.slot;dsimp only;rw[if_neg,if_neg]
 ·rw[dm,X9];exact br3
 ·intro q
  refine hj (bD9 (i:=SetTable.below t.place j) ?_);rw[br6];exact eq_of_beq q
theorem ah4 {t:SetTable}(a:t.place.toList.Pairwise (·<·))(dm:t.dummies = #[]){H:Nat->Int}{h:Int}:∀(E f:Nat) (p:gG),p.dummy=none->E<f->(aU t.mask E p).j∉t.place.toList->(∀k,k<E->(aU t.mask k p).j∈t.place.toList)->
  ((∀k,k<E->∀i,t.slot (aU t.mask k p).j = .live i->H i≠h)/\SetTable.probe.go t H h f p=some (.empty (aU t.mask E p).j none)) ∨
  ∃k,k<E/\∃i,t.slot (aU t.mask k p).j = .live i/\H i=h/\(∀l,l<k->∀i,t.slot (aU t.mask l p).j = .live i->H i≠h)/\SetTable.probe.go t H h f p=some (.candidate (aU t.mask k p).j i (aU t.mask (k+1) p))
 |0,f+1,p,hp,hf,he,_=>by
  refine .inl ⟨λk hk=>absurd hk (bz8 _),?_⟩;unfold SetTable.probe.go;rw[be3 dm (j:=p.j) he];show some (SetTable.Met.empty p.j p.dummy)=_;rw[hp];rfl
 |E+1,f+1,p,hp,hf,he,hl=>by
  obtain⟨i,si,_⟩:=ah3 a (hl 0 (Nat.succ_pos _))
  have si:t.slot p.j = .live i:=si;by_cases e:H i=h
  ·refine .inr ⟨0,Nat.succ_pos _,i,si,e,λl hl=>absurd hl (bz8 _),?_⟩
   unfold SetTable.probe.go;rw[si];dsimp only;rw[if_pos (by rw[e];exact bx9 _)];rfl
  ·have st:SetTable.probe.go t H h (f+1) p=SetTable.probe.go t H h f (gU t.mask p):=by
    rw[SetTable.probe.go.eq_def];dsimp only;rw[si];dsimp only;rw[if_neg (by simpa using e)];rfl
   rcases ah4 a dm (H:=H) (h:=h) E f (gU t.mask p) (by rw[ah2];exact hp) (by omega) he (λk hk=>hl (k+1) (by omega)) with⟨q,g⟩|⟨k,hk,i',s',e',q,g⟩
   ·refine .inl ⟨λk hk=>?_,by rw[st];exact g⟩
    cases k with
    |zero=>intro i' s';rw[show t.slot (aU t.mask 0 p).j = .live i from si]at s';cases s';exact e
    |succ k=>exact q k (by omega)
   ·refine .inr ⟨k+1,by omega,i',s',e',λl hl2=>?_,by rw[st];exact g⟩
    cases l with
    |zero=>intro i' s';rw[show t.slot (aU t.mask 0 p).j = .live i from si]at s';cases s';exact e
    |succ l=>exact q l (by omega)
noncomputable def i6 (m:Nat)(x:Nat×Nat):gG:={ j:=x.1,more:=SetTable.runEnd m x.1-x.1,i:=x.1,perturb:=x.2,dummy:=none }
noncomputable def dB (m i:Nat):Nat:=SetTable.runEnd m i-i
theorem be4 (m i:Nat):dB m i<=9:=by
 unfold dB SetTable.runEnd;split<;>omega
theorem yY {m i:Nat}(h:i<=m):i+dB m i<=m:=by
 unfold dB SetTable.runEnd;split<;>omega
theorem be5 (m:Nat)(h:Int):bI m h=i6 m (SetTable.bits h%(m+1),SetTable.bits h):=rfl
theorem mG (m:Nat)(x:Nat×Nat):∀k,k<=dB m x.1->aU m k (i6 m x)={ j:=x.1+k,more:=dB m x.1-k,i:=x.1,perturb:=x.2,dummy:=none }
 |0,_=>rfl
 |k+1,hk=>by
  rw[yX,mG m x k (by omega)];unfold gU SetTable.advance;rw[if_pos (show dB m x.1-k>0 by omega)];show SetTable.Probe.mk _ _ _ _ _=_;congr 1
theorem yZ (m:Nat)(x:Nat×Nat):aU m (dB m x.1+1) (i6 m x)=i6 m (SetTable.leap m x.1 x.2):=by
 rw[yX,mG m x _ (bp7 _)];unfold gU SetTable.advance;rw[if_neg (show ¬dB m x.1-dB m x.1>0 by omega)];rfl
noncomputable def lp (m:Nat):Nat->Nat×Nat->Nat×Nat
 |0,x=>x
 |n+1,x=>lp m n (SetTable.leap m x.1 x.2)
theorem ah5 (m:Nat):∀(n:Nat) (x:Nat×Nat),∃N,N<=10*n/\aU m N (i6 m x)=i6 m (lp m n x)
 |0,x=>⟨0,bp7 _,rfl⟩
 |n+1,x=>by
  obtain⟨N,hN,e⟩:=ah5 m n (SetTable.leap m x.1 x.2)
  refine⟨dB m x.1+1+N,by have:=be4 m x.1;omega,?_⟩;rw[qD,yZ];exact e
theorem ah6 (m:Nat):∀(n:Nat) (x:Nat×Nat),(lp m n x).2=x.2/32^n
 |0,x=>by show x.2=_;rw[Nat.pow_zero,Nat.div_one]
 |n+1,x=>by
  show (lp m n (SetTable.leap m x.1 x.2)).2=_;rw[ah6 m n];show x.2/32/32^n=_;rw[Nat.div_div_eq_div_mul,Nat.pow_succ,Nat.mul_comm]
theorem z0 (m:Nat):∀(n:Nat) (x:Nat×Nat),x.1<=m->(lp m n x).1<=m
 |0,x,h=>h
 |n+1,x,h=>z0 m n _ (by
  show (x.1*5+1+x.2/32)%(m+1)<=m
  have:=Nat.mod_lt (x.1*5+1+x.2/32) (show m+1>0 by omega)
  omega)
theorem ah7 (m:Nat):∀(a b:Nat) (x:Nat×Nat),lp m (a+b) x=lp m b (lp m a x)
 |0,b,x=>by rw[Nat.zero_add];rfl
 |a+1,b,x=>by
  rw[show a+1+b=(a+b)+1 by omega];exact ah7 m a b _
noncomputable def kH (M:Nat):Nat->Nat->Nat
 |0,i=>i
 |n+1,i=>kH M n ((i*5+1)%M)
theorem uC (M:Nat):∀(a b i:Nat),kH M (a+b) i=kH M b (kH M a i)
 |0,b,i=>by rw[Nat.zero_add];rfl
 |a+1,b,i=>by
  rw[show a+1+b=(a+b)+1 by omega];exact uC M a b _
theorem ah8 (m:Nat):∀(n i:Nat),lp m n (i,0)=(kH (m+1) n i,0)
 |0,i=>rfl
 |n+1,i=>by
  show lp m n (SetTable.leap m i 0)=_;rw[show SetTable.leap m i 0=((i*5+1)%(m+1),0) from rfl];exact ah8 m n _
noncomputable def iO (M:Nat):Prop:=∀a,a<M->∀b,b<M->∃n,n<M/\kH M n a=b
noncomputable def z9 (M:Nat):Nat->Nat->List Nat
 |0,_=>[]
 |n+1,i=>i::z9 M n ((i*5+1)%M)
theorem ah9 (M:Nat):∀(n i b:Nat),b∈z9 M n i->∃k,k<n/\kH M k i=b
 |0,_,_,h=>by cases h
 |n+1,i,b,h=>by
  rcases bp1.mp h with e|h
  ·exact⟨0,Nat.succ_pos _,e.symm⟩
  ·obtain⟨k,hk,e⟩:=ah9 M n _ b h
   exact⟨k+1,by omega,e⟩
theorem zA {M:Nat}(all:(List.range M).all (λb=>(z9 M M 0).contains b)=true)(back:kH M M 0=0):iO M:=by
 intro a ha b hb;have f:∀b,b<M->∃k,k<M/\kH M k 0=b:=λb hb=>
  ah9 M M 0 b (List.contains_iff_mem.mp (bB0.mp all b (bw2.mpr hb)))
 obtain⟨p,hp,ea⟩:=f a ha
 obtain⟨q,hq,eb⟩:=f b hb
 rcases bs3 q p with z|z
 ·refine⟨M-p+q,by omega,?_⟩
  rw[<- ea,<- uC,show p+(M-p+q)=M+q by omega,uC,back];exact eb
 ·refine⟨q-p,by omega,?_⟩
  rw[<- ea,<- uC,show p+(q-p)=q by omega];exact eb
theorem be6:iO 8:=zA (by decide) (by decide)
theorem be7:iO 32:=zA (by decide +kernel) (by decide +kernel)
theorem be8:iO 128:=zA (by decide +kernel) (by decide +kernel)
theorem be9 (h:Int):SetTable.bits h<2^64:=by
 unfold SetTable.bits
 have:=Int.emod_lt_of_pos h (show (0:Int)<2^64 by decide)
 have:=bE4 h (show (2^64:Int)≠0 by decide)
 omega
theorem ai0 {m:Nat}(c:iO (m+1)){j:Nat}(hj:j<=m)(h:Int):∃b,b<SetTable.turns m/\(lp m b (SetTable.bits h%(m+1),SetTable.bits h)).1=j:=by
 have hx:SetTable.bits h%(m+1)<=m:=by
  have:=Nat.mod_lt (SetTable.bits h) (show m+1>0 by omega)
  omega
 have e2:(lp m 13 (SetTable.bits h%(m+1),SetTable.bits h)).2=0:=by
  rw[ah6];exact Nat.div_eq_of_lt (Nat.lt_trans (be9 h) (by decide))
 have e1:=z0 m 13 (SetTable.bits h%(m+1),SetTable.bits h) hx
 obtain⟨n,hn,e⟩:=c _ (Nat.lt_succ_of_le e1) j (Nat.lt_succ_of_le hj)
 refine⟨13+n,by unfold SetTable.turns;omega,?_⟩;rw[ah7,show lp m 13 (SetTable.bits h%(m+1),SetTable.bits h)=((lp m 13 (SetTable.bits h%(m+1),SetTable.bits h)).1,0) from bC8 rfl e2,ah8];exact e
theorem ai1 {P:Nat->Prop}:∀{F:Nat},(∃n,n<F/\P n)->∃n,n<F/\P n/\∀k,k<n->¬P k
 |0,⟨n,h,_⟩=>absurd h (bz8 _)
 |F+1,⟨n,h,p⟩=>by
  by_cases q:∃n,n<F/\P n
  ·obtain⟨n,h,p,l⟩:=ai1 q
   exact⟨n,by omega,p,l⟩
  ·exact⟨n,h,p,λk hk pk=>q ⟨k,by omega,pk⟩⟩
theorem ai2 {L:List Nat}{m:Nat}(nd:L.length<=m):∃j,j<=m/\j∉L:=by
 refine bx6 λq=>?_
 have s:∀j∈List.range (m+1),j∈L:=λj hj=>bx6 λz=>q ⟨j,by have:=bw2.mp hj;omega,z⟩
 have:=List.nodup_range.length_le_of_subset s
 rw[bC9]at this;omega
theorem ends {m:Nat}(c:iO (m+1)){L:List Nat}(hl:L.length<=m)(h:Int):∃E,E<10*SetTable.turns m/\(aU m E (bI m h)).j∉L/\∀k,k<E->(aU m k (bI m h)).j∈L:=by
 obtain⟨j,hj,hn⟩:=ai2 hl
 obtain⟨b,hb,e⟩:=ai0 c hj h
 obtain⟨N,hN,e2⟩:=ah5 m b (SetTable.bits h%(m+1),SetTable.bits h)
 obtain⟨E,hE,p,l⟩:=ai1 (P:=λn=>(aU m n (bI m h)).j∉L) (F:=10*SetTable.turns m) ⟨N,by omega,by
  rw[be5,e2];show (lp m b _).1∉L
  rw[e];exact hn⟩
 exact⟨E,hE,p,λk hk=>Classical.not_not.mp (l k hk)⟩
noncomputable def eC (m:Nat)(L:List Nat)(j:Nat)(h:Int):Prop:=∃n,(aU m n (bI m h)).j=j/\∀k,k<n->(aU m k (bI m h)).j∈L
theorem eC.mono {m:Nat}{L L':List Nat}{j:Nat}{h:Int}(r:eC m L j h)(s:∀x∈L,x∈L'):eC m L' j h:=
 let ⟨n,e,a⟩:=r;⟨n,e,λk hk=>s _ (a k hk)⟩
structure TT (t:SetTable)(hs:ae):Prop where
 asc:t.place.toList.Pairwise (·<·)
 dm:t.dummies = #[]
 len:t.place.size=hs.length
 le:∀j∈t.place.toList,j<=t.mask
 cyc:iO (t.mask+1)
 odd:t.gaveWay=false
 room:hs.length<=t.mask
 rch:∀x∈t.place.toList.zip hs,eC t.mask t.place.toList x.1 x.2
theorem TT.fresh (f n:Nat)(l:Bool):TT (SetTable.fresh f n l) []:=⟨bz3,rfl,rfl,λ_ h=>(bq0 h).elim,be6,show (7%2==0)=false from rfl,bt5 _,λ_ h=>(bq0 h).elim⟩
theorem TT.fits {t:SetTable}{hs:ae}(T:TT t hs):t.fits hs.length=true:=by
 have:t.fill=hs.length:=by unfold SetTable.fill;rw[T.dm,T.len];rfl
 unfold SetTable.fits;rw[this,T.len];simpa using T.room
theorem TT.ends {t:SetTable}{hs:ae}(T:TT t hs)(h:Int):∃E,E<10*SetTable.turns t.mask/\(aU t.mask E (bI t.mask h)).j∉t.place.toList/\∀k,k<E->(aU t.mask k (bI t.mask h)).j∈t.place.toList:=
 Raw.ends T.cyc (by rw[bq5,T.len];exact T.room) h
theorem eC.before {m:Nat}{L:List Nat}{j E:Nat}{h:Int}(r:eC m L j h)(hj:j∈L)(he:(aU m E (bI m h)).j∉L):∃k,k<E/\(aU m k (bI m h)).j=j:=by
 obtain⟨n,e,a⟩:=r
 refine⟨n,bx6 λq=>?_,e⟩;rcases bs3 E n with z|z
 ·exact he (a E z)
 ·exact he (by rw[show E=n by omega,e];exact hj)
theorem bf0 {L:List Nat}{hs:ae}(e:L.length=hs.length)(p j:Nat)(h:Int):(L.take p++j::L.drop p).zip (hs.take p++h::hs.drop p)=(L.zip hs).take p++(j,h)::(L.zip hs).drop p:=by
 rw[List.zip_append (by rw[bA8,bA8,e]),by4];congr 1
 ·unfold List.zip;rw[List.take_zipWith]
 ·congr 1
  unfold List.zip;rw[List.drop_zipWith]
theorem TT.put {t:SetTable}{hs:ae}(T:TT t hs){h:Int}{E:Nat}(he:(aU t.mask E (bI t.mask h)).j∉t.place.toList)(hl:∀k,k<E->(aU t.mask k (bI t.mask h)).j∈t.place.toList)(rm:hs.length+1<=t.mask)(jm:(aU t.mask E (bI t.mask h)).j<=t.mask) :
  TT (t.put (aU t.mask E (bI t.mask h)).j).1 (hs.take (SetTable.below t.place (aU t.mask E (bI t.mask h)).j)++h::hs.drop (SetTable.below t.place (aU t.mask E (bI t.mask h)).j)):=by
 obtain⟨j,hj⟩:∃j,(aU t.mask E (bI t.mask h)).j=j:=⟨_,rfl⟩
 rw[hj]at he jm ⊢
 obtain⟨p,hp⟩:∃p,SetTable.below t.place j=p:=⟨_,rfl⟩
 have ne:t.place[SetTable.below t.place j]?≠some j:=λq=>he (bD9 (i:=SetTable.below t.place j) (by rw[br6];exact q))
 have pl:((t.put j).1.place).toList=t.place.toList.take p++j::t.place.toList.drop p:=by
  show (SetTable.insertAt t.place (SetTable.below t.place j) j).toList=_;rw[xX,hp]
 have mem:∀x,x∈(t.put j).1.place.toList↔x=j∨x∈t.place.toList:=λx=>by
  rw[pl,bs0,bp1]
  conv=>rhs;rw[<- bs4 p t.place.toList,bs0]
  constructor
  ·rintro (q|q|q)
   ·exact .inr (.inl q)
   ·exact .inl q
   ·exact .inr (.inr q)
  ·rintro (q|q|q)
   ·exact .inr (.inl q)
   ·exact .inl q
   ·exact .inr (.inr q)
 have e1:t.place.toList.length=hs.length:=by rw[bq5,T.len]
 rw[hp];refine⟨aR9 T.asc ne,?_,?_,?_,T.cyc,T.odd,?_,?_⟩
 ·show (if SetTable.has t.dummies j then SetTable.eraseAt t.dummies (SetTable.below t.dummies j) else t.dummies) = #[]
  rw[T.dm,X9];rfl
 ·rw[<- bq5,pl]
  simp only[br0,bs9,bA8,bC4];omega
 ·intro x hx
  rcases (mem x).mp hx with q|q
  ·rw[q];exact jm
  ·exact T.le x q
 ·show _<=t.mask
  simp only[br0,bs9,bA8,bC4];omega
 ·intro x hx
  have sub:∀y∈t.place.toList,y∈(t.put j).1.place.toList:=λy hy=>(mem y).mpr (.inr hy)
  rw[pl,bf0 e1]at hx;rcases bs0.mp hx with q|q
  ·exact (T.rch x (bG4 q)).mono sub
  ·rcases bp1.mp q with q|q
   ·rw[q];exact⟨E,hj,λk hk=>sub _ (hl k hk)⟩
   ·exact (T.rch x (List.mem_of_mem_drop q)).mono sub
noncomputable def eZ (ow:Array (Option Nat)):List Nat:=(List.range ow.size).filter λj=>(ow[j]?.getD none).isSome
theorem l9 {ow:Array (Option Nat)}{j:Nat}:j∈eZ ow↔∃i,ow[j]? = some (some i):=by
 unfold eZ;rw[bx1,bw2];constructor
 ·rintro⟨h,e⟩
  rw[bs5 h]at e ⊢;cases hx:ow[j] with
  |none=>rw[hx]at e;cases e
  |some i=>exact⟨i,rfl⟩
 ·rintro⟨i,e⟩
  refine⟨?_,by rw[e];rfl⟩;rcases bs3 j ow.size with z|z
  ·exact z
  ·rw[bz5 z]at e;cases e
theorem ai3 {m:Nat}{ow:Array (Option Nat)}(sz:ow.size=m+1):∀(fuel:Nat) (x:Nat×Nat),x.1<=m->(∃b,b<fuel/\(lp m b x).1∉eZ ow)->
  ∃E,SetTable.layClean.free m ow fuel x.1 x.2=some (aU m E (i6 m x)).j/\(aU m E (i6 m x)).j∉eZ ow/\(aU m E (i6 m x)).j<=m/\∀k,k<E->(aU m k (i6 m x)).j∈eZ ow
 |0,_,_,⟨_,h,_⟩=>absurd h (bz8 _)
 |fuel+1,x,hx,⟨b,hb,hf⟩=>by
  have bl:=yY hx;have non:∀k,k<=dB m x.1->((ow.getD (x.1+k) (some 0)).isNone=true↔x.1+k∉eZ ow):=λk hk=>by
   rw[l9,bv4,bs5 (show x.1+k<ow.size by omega)];cases ow[x.1+k] with
   |none=>simp
   |some i=>simp
  have ln:SetTable.runEnd m x.1+1-x.1=dB m x.1+1:=by
   unfold dB SetTable.runEnd;split<;>omega
  unfold SetTable.layClean.free;rw[ln];cases hfi:(List.range (dB m x.1+1)).find? λk=>(ow.getD (x.1+k) (some 0)).isNone with
  |some k=>
   obtain⟨h1,k1,k2,h2,h3⟩:=List.find?_eq_some_iff_getElem.mp hfi
   rw[List.getElem_range]at h2;rw[bC9]at k2;have hk:k<=dB m x.1:=by omega
   refine⟨k,?_,?_,?_,λl hl=>?_⟩
   ·rw[mG m x k hk]
   ·rw[mG m x k hk];exact (non k hk).mp h1
   ·rw[mG m x k hk];show x.1+k<=m;omega
   ·rw[mG m x l (by omega)]
    have:=h3 l (by omega)
    rw[List.getElem_range]at this;exact bx6 λq=>by rw[(non l (by omega)).mpr q]at this;cases this
  |none=>
   have all:∀k,k<=dB m x.1->x.1+k∈eZ ow:=λk hk=>bx6 λq=>by
    have:=List.find?_eq_none.mp hfi k (bw2.mpr (by omega))
    exact this ((non k hk).mpr q)
   cases b with
   |zero=>exact absurd (all 0 (bt5 _)) hf
   |succ b=>
    obtain⟨E,e1,e2,e3,e4⟩:=ai3 sz fuel (SetTable.leap m x.1 x.2) (z0 m 1 x hx) ⟨b,by omega,hf⟩
    have st:aU m (dB m x.1+1+E) (i6 m x)=aU m E (i6 m (SetTable.leap m x.1 x.2)):=by rw[qD,yZ]
    refine⟨dB m x.1+1+E,by rw[st];exact e1,by rw[st];exact e2,by rw[st];exact e3,λk hk=>?_⟩;rcases bs3 k (dB m x.1+1) with z|z
    ·rw[mG m x k (by omega)];exact all k (by omega)
    ·rw[show k=dB m x.1+1+(k-(dB m x.1+1)) by omega,qD,yZ]
     exact e4 _ (by omega)
structure bU (m:Nat)(hs:ae)(ow:Array (Option Nat)):Prop where
 sz:ow.size=m+1
 has:∀(i:Nat) (h:Int),hs[i]? = some h->∃j,ow[j]? = some (some i)/\eC m (eZ ow) j h
 back:∀(j i:Nat),ow[j]? = some (some i)->i<hs.length
 inj:∀(j j' i:Nat),ow[j]? = some (some i)->ow[j']? = some (some i)->j=j'
theorem bU.few {m:Nat}{hs:ae}{ow:Array (Option Nat)}(O:bU m hs ow):(eZ ow).length<=hs.length:=by
 have nd:((eZ ow).map λj=>((ow[j]?.getD none).getD 0)).Nodup:=by
  have l:(eZ ow).Nodup:=List.nodup_range.filter _;unfold List.Nodup at l ⊢;refine bu7.mpr (l.imp_of_mem ?_);intro a b ha hb ne e
  obtain⟨i,ea⟩:=l9.mp ha
  obtain⟨i',eb⟩:=l9.mp hb
  rw[ea,eb]at e;have e:i=i':=e;exact ne (O.inj a b i ea (by rw[e];exact eb))
 have:=nd.length_le_of_subset (l₂:=List.range hs.length) λy hy=>by
  obtain⟨j,hj,e⟩:=br5.mp hy
  obtain⟨i,ea⟩:=l9.mp hj
  rw[ea]at e;rw[<- e];exact bw2.mpr (O.back j i ea)
 rw[bo7,bC9]at this;exact this
theorem bU.put {m:Nat}{hs:ae}{ow:Array (Option Nat)}(O:bU m hs ow){h:Int}{E:Nat}(hn:(aU m E (bI m h)).j∉eZ ow)(hm:(aU m E (bI m h)).j<=m)(hl:∀k,k<E->(aU m k (bI m h)).j∈eZ ow):bU m (hs++[h]) (ow.setIfInBounds (aU m E (bI m h)).j (some hs.length)):=by
 obtain⟨p,hp⟩:∃p,(aU m E (bI m h)).j=p:=⟨_,rfl⟩
 rw[hp]at hn hm ⊢;have hz:p<ow.size:=by rw[O.sz];omega
 have at_:∀j,(ow.setIfInBounds p (some hs.length))[j]? = if p=j then some (some hs.length) else ow[j]?:=λj=>by
  rw[Array.getElem?_setIfInBounds];split
  ·rfl
  ·rfl
 have sub:∀y∈eZ ow,y∈eZ (ow.setIfInBounds p (some hs.length)):=λy hy=>by
  obtain⟨i,e⟩:=l9.mp hy
  refine l9.mpr ⟨i,?_⟩;rw[at_,if_neg (λq=>hn (by rw[q];exact hy))];exact e
 refine⟨by rw[Array.size_setIfInBounds];exact O.sz,λi k hk=>?_,λj i e=>?_,λj j' i e e'=>?_⟩
 ·rcases bs3 i hs.length with z|z
  ·rw[bB4 z]at hk
   obtain⟨j,e,r⟩:=O.has i k hk
   refine⟨j,?_,r.mono sub⟩;rw[at_,if_neg (λq=>hn (by rw[q];exact l9.mpr ⟨i,e⟩))];exact e
  ·rw[bC7 z]at hk
   have hi:i=hs.length:=by
    rcases bs3 hs.length i with q|q
    ·rw[List.getElem?_eq_none (by simp;omega)]at hk;cases hk
    ·omega
   subst hi;rw[Nat.sub_self]at hk;cases hk
   exact⟨p,by rw[at_,if_pos rfl],E,hp,λk hk=>sub _ (hl k hk)⟩
 ·rw[at_]at e
  rw[br0,bu5];split at e
  ·cases e;omega
  ·have:=O.back j i e;omega
 ·rw[at_]at e e'
  split at e<;>split at e'
  ·omega
  ·cases e;exact absurd (O.back j' _ e') (bu6 _)
  ·cases e';exact absurd (O.back j _ e) (bu6 _)
  ·exact O.inj j j' i e e'
noncomputable def qE (m:Nat)(acc:Option (Array (Option Nat)×Nat))(h:Int):Option (Array (Option Nat)×Nat):=do
 let (owner,k) <- acc
 let j <- SetTable.layClean.free m owner (SetTable.turns m) (SetTable.bits h%(m+1)) (SetTable.bits h)
 pure (owner.setIfInBounds j (some k),k+1)
theorem ai4 {m:Nat}(c:iO (m+1)):∀(b9 done:ae) (ow:Array (Option Nat)),bU m done ow->(done++b9).length<=m->
  ∃ow',b9.foldl (qE m) (some (ow,done.length))=some (ow',(done++b9).length)/\bU m (done++b9) ow'
 |[],done,ow,O,_=>by rw[bv0];exact⟨ow,rfl,O⟩
 |h::b9,done,ow,O,hm=>by
  have hm':done.length+(b9.length+1)<=m:=by rw[br0,bs9]at hm;exact hm
  have fw:=O.few
  obtain⟨j,hj,hn⟩:=ai2 (L:=eZ ow) (m:=m) (by omega)
  obtain⟨b,hb,e⟩:=ai0 c hj h
  have hx:SetTable.bits h%(m+1)<=m:=by
   have:=Nat.mod_lt (SetTable.bits h) (show m+1>0 by omega)
   omega
  obtain⟨E,e1,e2,e3,e4⟩:=ai3 O.sz (SetTable.turns m) (SetTable.bits h%(m+1),SetTable.bits h) hx ⟨b,hb,by rw[e];exact hn⟩
  have st:qE m (some (ow,done.length)) h=some (ow.setIfInBounds (aU m E (bI m h)).j (some done.length),(done++[h]).length):=by
   unfold qE;show (SetTable.layClean.free m ow (SetTable.turns m) (SetTable.bits h%(m+1)) (SetTable.bits h) >>= _)=_;rw[e1,br0];rfl
  obtain⟨ow',f,O'⟩:=ai4 c b9 (done++[h]) _ (O.put e2 e3 e4) (by rw[bq7];exact hm)
  refine⟨ow',?_,by rw[bq7]at O';exact O'⟩;rw[List.foldl_cons,st,f,bq7];rfl
theorem bf1 {m:Nat}(c:iO (m+1)){hs:ae}(hm:hs.length<=m):∃ow,SetTable.layClean m hs.toArray=some ow/\bU m hs ow:=by
 have O:bU m [] (Array.replicate (m+1) none):=by
  have no:∀j i,¬(Array.replicate (m+1) (none:Option Nat))[j]? = some (some i):=λj i e=>by
   rw[Array.getElem?_replicate]at e;split at e<;>cases e
  exact⟨Array.size_replicate,λi h e=>(by cases e),λj i e=>(no j i e).elim,λj j' i e _=>(no j i e).elim⟩
 obtain⟨ow,f,O'⟩:=ai4 c hs [] _ O hm
 refine⟨ow,?_,O'⟩;show ((Array.foldl (qE m) (some (Array.replicate (m+1) none,0)) hs.toArray).map (·.1))=_;rw[<- Array.foldl_toList];show ((hs.foldl (qE m) (some (Array.replicate (m+1) none,0))).map (·.1))=_;rw[show (0:Nat)=([]:ae).length from rfl,f];rfl
theorem bf2 {m:Nat}(c:iO (m+1))(od:(m%2==0)=false){hs:ae}(hm:hs.length<=m)(fg mv:Nat)(ld pn:Bool):∃t order,SetTable.laid m fg mv ld pn hs.toArray=some (t,order)/\order.toList.Perm (List.range hs.length)/\TT t (order.toList.map (hs.getD · 0))/\t.led=ld/\t.plain=pn/\t.mask=m/\t.moves=mv:=by
 obtain⟨ow,e,O⟩:=bf1 c hm
 obtain⟨lv,hlv⟩:∃lv,(List.range (m+1)).filterMap (λj=>(ow.getD j none).map (λi=>(j,i)))=lv:=⟨_,rfl⟩
 have mem:∀x:Nat×Nat,x∈lv↔ow[x.1]? = some (some x.2):=λx=>by
  rw[<- hlv,bD6];constructor
  ·rintro⟨j,hj,q⟩
   rw[bv4,bs5 (by rw[O.sz];exact bw2.mp hj)]at q;have hz:j<ow.size:=by rw[O.sz];exact bw2.mp hj
   cases ho:ow[j] with
   |none=>rw[bE9,ho]at q;cases q
   |some i=>
    rw[bE9,ho]at q;cases q;rw[bs5 hz,ho]
  ·intro q
   refine⟨x.1,bw2.mpr ?_,?_⟩
   ·rcases bs3 x.1 ow.size with z|z
    ·rw[<- O.sz];exact z
    ·rw[bz5 z]at q;cases q
   ·rw[bv4,q];rfl
 have asc:(lv.map (·.1)).Pairwise (·<·):=by
  rw[<- hlv];refine bu7.mpr (List.Pairwise.filterMap _ (R:=(·<·)) ?_ List.pairwise_lt_range);intro i i' hlt x hx y hy;cases ho:ow.getD i none with
  |none=>rw[ho]at hx;cases hx
  |some v=>
   rw[ho]at hx;cases ho2:ow.getD i' none with
   |none=>rw[ho2]at hy;cases hy
   |some v2=>
    rw[ho2]at hy;cases hx;cases hy;exact hlt
 have nd:(lv.map (·.2)).Nodup:=by
  unfold List.Nodup;have a2:=bu7.mp asc;refine bu7.mpr (a2.imp_of_mem ?_);intro a b ha hb lt q
  have:=O.inj a.1 b.1 a.2 ((mem a).mp ha) (by rw[q];exact (mem b).mp hb)
  omega
 have pm:(lv.map (·.2)).Perm (List.range hs.length):=by
  refine (bF6 nd List.nodup_range).mpr λi=>?_
  rw[bw2,br5];constructor
  ·rintro⟨x,hx,q⟩
   rw[<- q];exact O.back x.1 x.2 ((mem x).mp hx)
  ·intro hi
   obtain⟨j,q,_⟩:=O.has i hs[i] (bo6 hi)
   exact⟨(j,i),(mem (j,i)).mpr q,rfl⟩
 have ln:lv.length=hs.length:=by
  have:=pm.length_eq
  rw[bo7,bC9]at this;exact this
 refine⟨{ mask:=m,place:=(lv.map (·.1)).toArray,dummies:=#[],finger:=fg,led:=ld,moves:=mv,plain:=pn },(lv.map (·.2)).toArray,?_,?_,?_,rfl,rfl,rfl,rfl⟩
 ·unfold SetTable.laid
  rw[e];show some (SetTable.mk _ _ _ _ _ _ _,_)=_;rw[hlv]
 ·show (lv.map (·.2)).Perm _
  exact pm
 ·refine⟨asc,rfl,?_,?_,c,od,?_,?_⟩
  ·show (lv.map (·.1)).toArray.size=_
   rw[bo8,bo7,bo7];show _=(lv.map (·.2)).length;rw[bo7]
  ·intro j hj
   obtain⟨x,hx,q⟩:=br5.mp hj
   rw[<- hlv]at hx
   obtain⟨y,hy,q2⟩:=bD6.mp hx
   cases ho:ow.getD y none with
   |none=>rw[ho]at q2;cases q2
   |some v=>
    rw[ho]at q2;cases q2
    have:=bw2.mp hy
    rw[<- q];show y<=m;omega
  ·rw[bo7]
   show (lv.map (·.2)).length<=m;rw[bo7,ln];exact hm
  ·intro x hx
   have hx:x∈(lv.map (·.1)).zip ((lv.map (·.2)).map (hs.getD · 0)):=hx;rw[bw0,List.zip_map']at hx
   obtain⟨y,hy,q⟩:=br5.mp hx
   have yo:=(mem y).mp hy;have yl:=O.back y.1 y.2 yo
   obtain⟨j,q2,r⟩:=O.has y.2 hs[y.2] (bo6 yl)
   have:=O.inj j y.1 y.2 q2 yo
   rw[this]at r;rw[<- q];show eC m (lv.map (·.1)) y.1 (hs.getD y.2 0);rw[bp3,bo6 yl];refine r.mono λz hz=>?_
   obtain⟨i,q3⟩:=l9.mp hz
   exact br5.mpr ⟨(z,i),(mem (z,i)).mpr q3,rfl⟩
end Raw
namespace Raw
open PySem PySem.W PySem.Calls PyProof.Rows
section
variable {prog:az}{w:bc}{A:ba}{E:av→ax→Prop}{s:ax}
noncomputable abbrev cJ (prog:az)(w:bc)(h:Heap)(k:ae)(a:ay):Prop:=IsTupleKey (intKind prog w) h k a
noncomputable abbrev bY (prog:az)(w:bc)(k:ae):Int:=tupleKeyHash (intKind prog w) k
theorem ai5 {k:ae}{vs:List av}(h:ItemsAre (intKind prog w) k vs):∀v∈vs,∃n t,v = .int n t:=by
 induction h with
 |nil=>intro v hv;cases hv
 |cons h1 _ ih=>
  intro v hv;rcases bp1.mp hv with e|hv
  ·rw[e]
   obtain⟨u,e⟩:=Value.isInt_shape h1
   exact⟨_,u,e⟩
  ·exact ih v hv
theorem bf3 (n:Nat)(k:Int)(t:Tok):ofAClassStatement n (.int k t)=pure false:=by
 cases n<;>rfl
theorem ai6 {k:ae}{a:ay}{Q:Bool->ax->Prop}(hk:cJ prog w s.heap k a)(h:Q false s):wpAny (model prog w) A (ofAClassStatement 8 (.ref a)) Q E s:=by
 have hT:=hk.typeIs
 obtain⟨o,items,n,ho,_,hd,hi⟩:=hk
 unfold ofAClassStatement;refine bo2 (wpAny_typeOf hT ?_);dsimp only;rw[if_pos (by rfl)];refine bo2 (bo5 ?_);simp only[Bool.not_true,bq3,bu2];refine bo2 (bx2 ho hd ?_);dsimp only;refine bo2 ?_;rw[<- Array.forIn_toList];refine wpAny_forIn_list _ (λb9 r s'=>r.1=none/\s'=s/\∀v∈b9,∃n t,v = .int n t) _ ?_ ?_ _ _ ⟨rfl,rfl,ai5 hi⟩
 ·rintro v b9 r s' ⟨hr,rfl,hall⟩
  obtain⟨n,t,rfl⟩:=hall v bp5
  rw[bf3];refine bo2 (bo5 ?_);simp only[bq3,bu2];exact bo5 ⟨rfl,rfl,λu hu'=>hall u (bp0 _ hu')⟩
 ·rintro⟨r1,r2⟩ s' ⟨hr,rfl,_⟩
  simp only at hr;subst hr;exact bo5 h
theorem bf4 {k:ae}{x:ay}{Q:Bool->ax->Prop}(hk:cJ prog w s.heap k x)(l:List av)(hl:∀v∈l,∃k y,v = .ref y/\cJ prog w s.heap k y)(h:Q false s):wpAny (model prog w) A (searchCouldBeSeen (.ref x) l) Q E s:=by
 unfold searchCouldBeSeen;refine bo2 ?_;refine wpAny_forIn_list _ (λb9 r s'=>r.1=none/\s'=s/\∀v∈b9,∃k y,v = .ref y/\cJ prog w s.heap k y) _ ?_ ?_ _ _ ⟨rfl,rfl,hl⟩
 ·rintro v b9 r s' ⟨hr,rfl,hall⟩
  obtain⟨k',y,rfl,hy⟩:=hall v bp5
  have tl:=λu hu'=>hall u (bp0 _ hu')
  dsimp only;split
  ·exact bo5 ⟨rfl,rfl,tl⟩
  ·refine bo2 (wpAny_eqIsQuiet_tuple hk ?_)
   simp only[Bool.not_true,bq3,bu2];refine bo2 (wpAny_eqIsQuiet_tuple hy ?_);simp only[Bool.not_true,bq3,bu2];refine bo2 (ai6 hk ?_);simp only[bq3,bu2];refine bo2 (ai6 hy ?_);simp only[bq3,bu2];exact bo5 ⟨rfl,rfl,tl⟩
 ·rintro⟨r1,r2⟩ s' ⟨hr,rfl,_⟩
  simp only at hr;subst hr;exact bo5 h
theorem ai7 (m:Nat):∀(n:Nat) (p:gG),(aU m n p).dummy=p.dummy
 |0,_=>rfl
 |n+1,p=>(ai7 m n _).trans (ah2 m p)
noncomputable abbrev iP (prog:az)(w:bc)(x:ae×ay):Int×av:=(bY prog w x.1,.ref x.2)
structure j7 (prog:az)(w:bc)(h:Heap)(es:Array (Int×av))(t:SetTable)(L:List (ae×ay)):Prop where
 es:es.toList=L.map (iP prog w)
 is:∀x∈L,cJ prog w h x.1 x.2
 tt:TT t (L.map λx=>bY prog w x.1)
theorem j7.fits {h:Heap}{es:Array (Int×av)}{t:SetTable}{L:List (ae×ay)}(e:j7 prog w h es t L):t.fits es.size=true:=by
 have:=e.tt.fits
 rw[bo7]at this;rw[<- bq5,e.es,bo7];exact this
theorem j7.at_ {h:Heap}{es:Array (Int×av)}{t:SetTable}{L:List (ae×ay)}(e:j7 prog w h es t L){i j:Nat}(hi:t.slot j = .live i):∃x,L[i]? = some x/\es[i]? = some (iP prog w x)/\x∈L:=by
 have h1:=be2 hi;have h2:i<t.place.toList.length:=by
  rcases bs3 i t.place.toList.length with z|z
  ·exact z
  ·rw[List.getElem?_eq_none z]at h1;cases h1
 have h3:i<L.length:=by
  have:=e.tt.len
  rw[bo7]at this;rw[bq5,this]at h2;exact h2
 refine⟨L[i],bo6 h3,?_,by0 h3⟩;rw[<- br6,e.es,bq6,bo6 h3];rfl
noncomputable def qF (es:Array (Int×av))(i:Nat):Int:=(es[i]?.map (·.1)).getD 0
theorem ai8 {a x:ay}{k:ae}{L:List (ae×ay)}{es:Array (Int×av)}{ep:Nat}{t:SetTable}{Q:SetFound->ax->Prop}(ho:s.heap.get? a=some (cG es ep t))(e:j7 prog w s.heap es t L)(hx:cJ prog w s.heap k x)(hu:A.units<cLine){F:Nat}(hF:(aU t.mask F (bI t.mask (bY prog w k))).j∉t.place.toList)(hl:∀l,l<F->(aU t.mask l (bI t.mask (bY prog w k))).j∈t.place.toList)(f10:F<10*SetTable.turns t.mask)(there:k∈L.map (·.1)->Q (.there none) s)(free:k∉L.map (·.1)->Q (.free (aU t.mask F (bI t.mask (bY prog w k))).j false) s) :
  ∀(fuel n:Nat) (stand:Option gG),n<=F->F-n<fuel->stand.getD (t.probeStart (bY prog w k))=aU t.mask n (bI t.mask (bY prog w k))->
   (∀l,l<n->∀i y,t.slot (aU t.mask l (bI t.mask (bY prog w k))).j = .live i->L[i]? = some y->y.1≠k)->
   wpAny (model prog w) A (setSearchFrom a (.ref x) (bY prog w k) true fuel stand) Q E s
 |0,_,_,_,h,_,_=>absurd h (bz8 _)
 |fuel+1,n,stand,hn,hf,hs,past=>by
  unfold setSearchFrom;refine bo2 (bA0 ho rfl e.fits ?_);dsimp only;rw[if_neg (by rw[e.tt.odd];exact br3),hs];have sh:∀l,aU t.mask l (aU t.mask n (bI t.mask (bY prog w k)))=aU t.mask (n+l) (bI t.mask (bY prog w k)):=λl=>(qD _ _ _ _).symm
  have hF':(aU t.mask (F-n) (aU t.mask n (bI t.mask (bY prog w k)))).j∉t.place.toList:=by rw[sh,show n+(F-n)=F by omega];exact hF
  have hsh:∀i y,L[i]? = some y->qF es i=bY prog w y.1:=λi y hy=>by
   unfold qF;rw[<- br6,e.es,bq6,hy];rfl
  rcases ah4 e.tt.asc e.tt.dm (H:=qF es) (h:=bY prog w k) (F-n) (10*SetTable.turns t.mask) (aU t.mask n (bI t.mask (bY prog w k))) (by rw[ai7];rfl) (by omega) hF' (λl hl2=>by rw[sh];exact hl _ (by omega)) with⟨q,g⟩|⟨k',hk',i,s',e',q,g⟩
  ·erw [show t.probe (qF es) (bY prog w k) (aU t.mask n (bI t.mask (bY prog w k)))=_ from g]
   dsimp only;refine bo5 ?_;rw[sh,show n+(F-n)=F by omega];refine free λkm=>?_
   obtain⟨y,hy,ey⟩:=br5.mp km
   obtain⟨i,hi,eg⟩:=bu9 hy
   have ty:=e.tt.len;rw[bo7]at ty;have hi':i<t.place.toList.length:=by rw[bq5,ty];exact hi
   obtain⟨l,hlF,el⟩:=(e.tt.rch (t.place.toList[i],bY prog w k) (List.mem_iff_getElem?.mpr ⟨i,by
    rw[List.getElem?_zip_eq_some];refine⟨bo6 hi',?_⟩;rw[bq6,bo6 hi,eg,<- ey]
    rfl⟩)).before (by0 hi') hF
   obtain⟨i',s2,p2⟩:=ah3 e.tt.asc (hl l hlF)
   have ii:i'=i:=by
    rw[el]at p2;have nd:t.place.toList.Nodup:=e.tt.asc.imp λh=>br1 h
    exact (List.getElem?_inj (by
     rcases bs3 i' t.place.toList.length with z|z
     ·exact z
     ·rw[List.getElem?_eq_none z]at p2;cases p2) nd).mp (p2.trans (bo6 hi').symm)
   rw[ii]at s2;have hyi:L[i]? = some y:=by rw[bo6 hi,eg]
   rcases bs3 l n with z|z
   ·exact past l z i y s2 hyi ey
   ·refine q (l-n) (by omega) i (by rw[sh,show n+(l-n)=l by omega];exact s2) ?_
    rw[hsh i y hyi,ey]
  ·erw [show t.probe (qF es) (bY prog w k) (aU t.mask n (bI t.mask (bY prog w k)))=_ from g]
   dsimp only
   obtain⟨y,hy,ey,ym⟩:=e.at_ s'
   have b9:wpAny (model prog w) A (do
     let some (_,y):=es[i]? | unsupported "internal:set-entry"
     let equal <- holding [y] (eqBool y (.ref x))
     let (es',_,t') <- setState a
     if true&&equal then return SetFound.there none
     let some same:=t'.sameMemory t.moves t.mask|unsupported "set.changed-during-lookup:is-the-new-block-at-the-old-address"
     let still <- match (if same then t'.slot (aU t.mask k' (aU t.mask n (bI t.mask (bY prog w k)))).j else .empty) with
      |.live i'=>match es'[i']? with
       |some (_,y')=>do pure (if <- isSame y' y then some i' else none)
       |none=>pure none
      |_=>pure none
     match still with
     |none=>rule "set.search.anew";setSearchFrom a (.ref x) (bY prog w k) true fuel none
     |some i'=>if equal then return .there (some i') else setSearchFrom a (.ref x) (bY prog w k) true fuel (some (aU t.mask (k'+1) (aU t.mask n (bI t.mask (bY prog w k)))))) Q E s:=by
    rw[ey];dsimp only;refine bo2 (bv9 (wpAny_eqBool_tuple hu (e.is y ym) hx ?_));refine bo2 (bA0 ho rfl e.fits ?_);dsimp only;by_cases eq:y.1=k
    ·rw[bp8 eq]
     exact bo5 (there (br5.mpr ⟨y,ym,eq⟩))
    ·rw[bp6 eq]
     simp only[bG9,bq3,bu2];rw[show t.sameMemory t.moves t.mask=some true by unfold SetTable.sameMemory;rw[if_pos (bx9 _)]];dsimp only;rw[if_pos rfl,s'];dsimp only;rw[ey];dsimp only;refine bo2 (wpAny_isSame_ref_self ?_);rw[if_pos rfl];refine bo2 (bo5 ?_);dsimp only;refine ai8 ho e hx hu hF hl f10 there free fuel (n+k'+1) _ (by omega) (by omega) ?_ ?_
     ·rw[bE9,sh];rfl
     ·intro l hl2 i2 y2 h1 h2 h3
      rcases bs3 l n with z|z
      ·exact past l z i2 y2 h1 h2 h3
      ·rcases bs3 l (n+k') with z2|z2
       ·refine q (l-n) (by omega) i2 (by rw[sh,show n+(l-n)=l by omega];exact h1) ?_
        rw[hsh i2 y2 h2,h3]
       ·have:l=n+k':=by omega
        subst this;rw[sh,h1]at s';cases s';rw[hy]at h2;cases h2;exact eq h3
   split
   ·refine bo2 (bf4 hx _ ?_ ?_)
    ·intro v hv
     obtain⟨u,hu1,hu2⟩:=br5.mp hv
     rw[Array.toList_filter]at hu1;have hu3:=(bx1.mp hu1).1;rw[e.es]at hu3
     obtain⟨z,hz,ez⟩:=br5.mp hu3
     exact⟨z.1,z.2,by rw[<- hu2,<- ez],e.is z hz⟩
    ·simp only[bq3,bu2]
     exact b9
   ·exact b9
theorem bf5 {k:ae}{a:ay}{Q:Bool->ax->Prop}(hk:cJ prog w s.heap k a)(h:Q true s):wpAny (model prog w) A (hashByValue 8 (.ref a)) Q E s:=by
 have hT:=hk.typeIs
 obtain⟨o,items,n,ho,_,hd,hi⟩:=hk
 unfold hashByValue;refine bo2 (wpAny_specialOf hT F.slot_tuple_hash.lookup ?_);dsimp only;refine bo2 (bx2 ho hd ?_);refine bo2 ?_;rw[bE9,<- Array.forIn_toList];refine wpAny_forIn_list _ (λb9 r s'=>r.1=none/\s'=s/\∀v∈b9,∃n t,v = .int n t) _ ?_ ?_ _ _ ⟨rfl,rfl,ai5 hi⟩
 ·rintro v b9 r s' ⟨hr,rfl,hall⟩
  obtain⟨n,t,rfl⟩:=hall v bp5
  rw[show hashByValue 7 (.int n t)=pure true by unfold hashByValue;rfl];refine bo2 (bo5 ?_);simp only[Bool.not_true,bq3,bu2];exact bo5 ⟨rfl,rfl,λu hu'=>hall u (bp0 _ hu')⟩
 ·rintro⟨r1,r2⟩ s' ⟨hr,rfl,_⟩
  simp only at hr;subst hr;exact bo5 h
theorem bf6 {m:Nat}{p:gG}(h:p.j+p.more<=m):(gU m p).j+(gU m p).more<=m:=by
 unfold gU SetTable.advance;split
 ·show p.j+1+(p.more-1)<=m
  omega
 ·show (p.i*5+1+p.perturb/32)%(m+1)+dB m ((p.i*5+1+p.perturb/32)%(m+1))<=m
  have:=Nat.mod_lt (p.i*5+1+p.perturb/32) (show m+1>0 by omega)
  exact yY (by omega)
theorem ai9 (m:Nat):∀(n:Nat) (p:gG),p.j+p.more<=m->(aU m n p).j<=m
 |0,p,h=>bs7 (by1 _ _) h
 |n+1,p,h=>ai9 m n _ (bf6 h)
theorem bf7 (m:Nat)(h:Int):(bI m h).j+(bI m h).more<=m:=by
 show SetTable.bits h%(m+1)+dB m (SetTable.bits h%(m+1))<=m
 have:=Nat.mod_lt (SetTable.bits h) (show m+1>0 by omega)
 exact yY (by omega)
theorem zB {α β:Type}{f g:α->Option β}:∀{l:List α},(∀x∈l,f x=g x)->l.filterMap f=l.filterMap g
 |[],_=>rfl
 |x::l,h=>by
  rw[List.filterMap_cons,List.filterMap_cons,h x bp5,zB λy hy=>h y (bp0 _ hy)]
theorem aj0 {α:Type}(L:List α):∀n,(List.range n).filterMap (L[·]?)=L.take n
 |0=>rfl
 |n+1=>by
  rw[List.range_succ,List.filterMap_append,aj0 L n,List.take_succ];congr 1
theorem bf8 {α:Type}{L:List α}{o:List Nat}(p:o.Perm (List.range L.length)):(o.filterMap (L[·]?)).Perm L:=by
 have:=p.filterMap (L[·]?)
 rw[aj0,bx0]at this;exact this
theorem bf9 {α:Type}{L:List α}{o:List Nat}(p:o.Perm (List.range L.length))(g:α->Int):o.map ((L.map g).getD · 0)=(o.filterMap (L[·]?)).map g:=by
 rw[List.map_filterMap,<- List.filterMap_eq_map];refine zB λi hi=>?_
 have hl:i<L.length:=bw2.mp (p.mem_iff.mp hi);simp[bo6 hl]
theorem bg0 {L:List (ae×ay)}{es:Array (Int×av)}(e:es.toList=L.map (iP prog w))(o:Array Nat):(o.filterMap (es[·]?)).toList=(o.toList.filterMap (L[·]?)).map (iP prog w):=by
 rw[Array.toList_filterMap,List.map_filterMap];refine zB λi hi=>?_
 rw[<- br6,e,bq6]
noncomputable def NF (m n:Nat):Prop:=(m=7/\n<=4)∨(m=31/\n<=18)∨(m=127/\n<=76)
structure i7 (prog:az)(w:bc)(h:Heap)(a:ay)(es:Array (Int×av))(ep:Nat)(t:SetTable)(L:List (ae×ay)):Prop where
 ho:h.get? a=some (cG es ep t)
 e:j7 prog w h es t L
 led:t.led = !w.params.followText "set-order"
 nf:NF t.mask L.length
theorem cJ.same {h h':Heap}{d:ay}{es:Array (Int×av)}{ep:Nat}{t:SetTable}(sb:Heap.SameBut d h h')(ho:h.get? d=some (cG es ep t)){k:ae}{a:ay}(x:cJ prog w h k a):cJ prog w h' k a:=by
 obtain⟨o',items,n,ho',hc,hd',hi⟩:=x
 have hne:a≠d:=by
  rintro rfl;obtain rfl:=br7 (ho'.symm.trans ho);exact nomatch hd'
 exact⟨o',items,n,(sb.2 a hne).trans ho',hc,hd',hi⟩
theorem bg1 (L:List (ae×ay))(p:Nat)(x:ae×ay):(L.map (iP prog w)).take p++iP prog w x::(L.map (iP prog w)).drop p=(L.take p++x::L.drop p).map (iP prog w):=by
 rw[br8,bv2,List.map_take,List.map_drop]
theorem bg2 {a x:ay}{k:ae}{L:List (ae×ay)}{es:Array (Int×av)}{ep:Nat}{t:SetTable}{Q:Bool->ax->Prop}(S:i7 prog w s.heap a es ep t L)(room:L.length+1<=76)(hu:A.units<cLine)(hx:cJ prog w s.heap k x)(h:∀b h' es' ep' t' L',Heap.SameBut a s.heap h'->i7 prog w h' a es' ep' t' L'->(k∈L.map (·.1)->L'=L)->(k∉L.map (·.1)->L'.Perm (L++[(k,x)]))->Q b { s with heap:=h' }) :
  wpAny (model prog w) A (setAddHashed a (.ref x) (bY prog w k)) Q E s:=by
 obtain⟨ho,e,led,nf⟩:=S
 have m127:t.mask<=127:=by rcases nf with q|q|q<;>omega
 obtain⟨F,f10,hF,hl⟩:=e.tt.ends (bY prog w k)
 have F5:F<100000:=by unfold SetTable.turns at f10;omega
 unfold setAddHashed setAddHashedIn;refine bv9 (bo2 (bA0 ho rfl e.fits ?_));dsimp only;rw[if_neg (by unfold byScan;rw[show Value.scannable (.ref x)=false from rfl];simp)];unfold setSearch;refine bo2 (ai8 ho e hx hu hF hl f10 (λkm=>?_) (λkn=>?_) 100000 0 none (bt5 _) (by omega) rfl λl hl=>absurd hl (bz8 _))
 ·dsimp only
  have es':s={ s with heap:=s.heap }:=by cases s;rfl
  rw[es'];exact bo5 (h _ s.heap es ep t L (Heap.SameBut.refl a s.heap) ⟨ho,e,led,nf⟩ (λ_=>rfl) λn=>absurd km n)
 ·dsimp only
  refine bo2 (bA0 ho rfl e.fits ?_);dsimp only
  obtain⟨j,hj⟩:∃j,(aU t.mask F (bI t.mask (bY prog w k))).j=j:=⟨_,rfl⟩
  have jm:j<=t.mask:=by rw[<- hj];exact ai9 _ _ _ (bf7 _ _)
  have rm:(L.map λx=>bY prog w x.1).length+1<=t.mask:=by
   rw[bo7];rcases nf with q|q|q<;>omega
  have T1:=e.tt.put hF hl rm (by rw[hj];exact jm);rw[hj]at T1 ⊢
  obtain⟨t1,ht1⟩:∃t1,(t.put j).1=t1:=⟨_,rfl⟩
  obtain⟨p,hp⟩:∃p,SetTable.below t.place j=p:=⟨_,rfl⟩
  obtain⟨L1,hL1⟩:∃L1,L.take p++(k,x)::L.drop p=L1:=⟨_,rfl⟩
  have T1:TT t1 (L1.map λx=>bY prog w x.1):=by
   rw[ht1,hp]at T1;rw[<- hL1,br8,bv2,List.map_take,List.map_drop];exact T1
  have p1:L1.Perm (L++[(k,x)]):=by
   rw[<- hL1];refine List.perm_middle.trans ?_;rw[bs4];exact (bw5 (l₁:=[(k,x)]) (l₂:=L))
  have n1:L1.length=L.length+1:=by rw[p1.length_eq,br0,bu5]
  have m1:t1.mask=t.mask:=by rw[<- ht1];rfl
  have l1:t1.led=t.led:=by rw[<- ht1];rfl
  obtain⟨es1,he1⟩:∃es1,SetTable.insertAt es p (iP prog w (k,x))=es1:=⟨_,rfl⟩
  have ee1:es1.toList=L1.map (iP prog w):=by rw[<- he1,xX,e.es,bg1,hL1]
  have sz:es.size=L.length:=by rw[<- bq5,e.es,bo7]
  have sz1:es1.size=L.length+1:=by rw[<- bq5,ee1,bo7,n1]
  have is1:∀{h':Heap}{d:List (ae×ay)},Heap.SameBut a s.heap h'->d.Perm L1->∀y∈d,cJ prog w h' y.1 y.2:=λsb pd y hy=>by
   have:=p1.mem_iff.mp (pd.mem_iff.mp hy)
   rcases bs0.mp this with q|q
   ·exact cJ.same sb ho (e.is y q)
   ·rw[bp2.mp q];exact cJ.same sb ho hx
  have b9:wpAny (model prog w) A (do
    storeSet a es1 t1
    if (!false&&t1.tooFull)=true then do
     setRelay a (SetTable.grown (es.size+1))
     pure true
    else pure true) Q E s:=by
   refine bo2 (wpAny_storeSet_of ho rfl ?_ (fits_of_scanBound (by rw[show scanBound=4096 from rfl];omega)));have ho1:=Y0 (es':=es1) (t':=t1) ho;have sb1:=bv7 s.heap a (Obj.putSet es1 t1);have E1:j7 prog w (s.heap.update a (Obj.putSet es1 t1)) es1 t1 L1:=⟨ee1,is1 sb1 (bz2 _),T1⟩;have full:t1.tooFull=decide ((L.length+1)*5 >= t.mask*3):=by
    unfold SetTable.tooFull SetTable.fill;rw[T1.dm,T1.len,bo7,n1,m1];rfl
   split
   ·rename_i tf
    rw[Bool.not_false,bE8,full]at tf;have tf:=bG1 tf;refine bo2 ?_;unfold setRelay;refine bo2 (bA0 ho1 rfl E1.fits ?_);dsimp only
    obtain⟨m2,e2,c2,o2,r2,f2⟩:∃m2,SetTable.sizeAbove (SetTable.grown (es.size+1))=m2+1/\iO (m2+1)/\(m2%2==0)=false/\L1.length<=m2/\NF m2 L1.length:=by
     rw[sz,n1];rcases nf with⟨q,q2⟩|⟨q,q2⟩|⟨q,q2⟩
     ·have:L.length=4:=by omega
      rw[this]
      exact⟨31,by decide,be7,rfl,by decide,.inr (.inl ⟨rfl,by decide⟩)⟩
     ·have:L.length=18:=by omega
      rw[this]
      exact⟨127,by decide,be8,rfl,by decide,.inr (.inr ⟨rfl,by decide⟩)⟩
     ·omega
    have m2l:m2<=127:=by rcases f2 with q|q|q<;>omega
    rw[if_neg (by rw[e2,sizeLine_eq];omega)]
    obtain⟨t2,o,q1,q2,q3,q4,q5,q6,q7⟩:=bf2 c2 o2 (hs:=L1.map λx=>bY prog w x.1) (by rw[bo7];exact r2) t1.finger (t1.movedTo m2) t1.led t1.plain
    have ha:es1.map (·.1)=(L1.map λx=>bY prog w x.1).toArray:=by
     apply Array.toList_inj.mp;rw[Array.toList_map,ee1,bw0];rfl
    have rl:t1.relaid (es1.map (·.1)) (SetTable.grown (es.size+1))=some (t2,o):=by
     unfold SetTable.relaid;rw[e2,bF2,ha];exact q1
    rw[rl];rw[bo7]at q2;have e3:=bg0 ee1 o;have p3:=bf8 q2;have z3:(o.filterMap (es1[·]?)).size=es1.size:=by rw[<- bq5,e3,bo7,p3.length_eq,sz1,n1]
    rw[bf9 q2]at q3;have ho2:=Y0 (es':=o.filterMap (es1[·]?)) (t':=t2) ho1;have sb2:=sb1.trans (bv7 _ a (Obj.putSet (o.filterMap (es1[·]?)) t2));have E2:j7 prog w _ (o.filterMap (es1[·]?)) t2 (o.toList.filterMap (L1[·]?)):=⟨e3,is1 sb2 p3,q3⟩
    show wpAny (model prog w) A ((do
     if (o.filterMap (es1[·]?)).size != es1.size then unsupported "internal:set-table-lost-an-element"
     pure (o.filterMap (es1[·]?),t2)) >>= λr=>storeSet a r.1 r.2) _ E _
    rw[if_neg (by rw[z3];simp)];refine bo2 (bo5 ?_);refine wpAny_storeSet_of ho1 rfl ?_ (fits_of_scanBound (by rw[z3,show scanBound=4096 from rfl];omega));refine bo5 (h true _ _ _ t2 _ sb2 ⟨ho2,E2,q4.trans (l1.trans led),?_⟩ (λq=>absurd q kn) λ_=>p3.trans p1);rw[q6,p3.length_eq];exact f2
   ·rename_i tf
    refine bo5 (h true _ es1 _ t1 L1 sb1 ⟨ho1,E1,l1.trans led,?_⟩ (λq=>absurd q kn) λ_=>p1);rw[Bool.not_false,bE8,full]at tf;have tf:¬_:=λq=>tf (bp8 q)
    rw[m1,n1];unfold NF at nf ⊢;omega
  have pj:(t.put j).2=p:=hp;rw[pj,ht1,he1];split
  ·refine bo2 (bf5 hx ?_)
   simp only[↓reduceIte];exact b9
  ·refine bo2 (bo5 ?_)
   simp only[↓reduceIte];exact b9
end
section
variable {prog:az}{w:bc}{A:ba}{E:av→ax→Prop}{s:ax}
theorem j7.len {h:Heap}{es:Array (Int×av)}{t:SetTable}{L:List (ae×ay)}(e:j7 prog w h es t L):es.size=L.length:=by
 rw[<- bq5,e.es,bo7]
theorem i7.g {h:Heap}{a:ay}{es:Array (Int×av)}{ep:Nat}{t:SetTable}{L:List (ae×ay)}(S:i7 prog w h a es ep t L):pS w es t:=
 ⟨by rw[S.e.len,show scanBound=4096 from rfl];rcases S.nf with q|q|q<;>omega,S.e.fits,S.e.tt.asc,S.e.tt.dm,S.led⟩
theorem cJ.keep {h h':Heap}{k:ae}{b:ay}(x:cJ prog w h k b)(kp:∀o,h.get? b=some o->h'.get? b=some o):cJ prog w h' k b:=by
 obtain⟨o,items,n,ho,r⟩:=x
 exact⟨o,items,n,kp o ho,r⟩
theorem i7.keep {h h':Heap}{a:ay}{es:Array (Int×av)}{ep:Nat}{t:SetTable}{L:List (ae×ay)}(S:i7 prog w h a es ep t L)(kp:∀o,h.get? a=some o->h'.get? a=some o)(ke:∀x∈L,∀o,h.get? x.2=some o->h'.get? x.2=some o):i7 prog w h' a es ep t L:=
 ⟨kp _ S.ho,⟨S.e.es,λx hx=>(S.e.is x hx).keep (ke x hx),S.e.tt⟩,S.led,S.nf⟩
end
section
variable {prog:az}{w:bc}{A:ba}{R:Result→ax→Prop}{I:ay}{fp wr:List ay}{G:Array GenState→Array GenState→Prop}{n:Nat}{P:Nat→av→Prop}{St:Nat→ax→Prop}
theorem aj1 (W:WalksS prog w A.in1 I fp wr G n P St)(a:ay)(af:a∉fp)(val:Nat->ae×ay)(hval:∀i v,P i v->v = .ref (val i).2)(vw:∀i,i<n->(val i).2∉a::wr)(hb:n<=76)(hu:A.in1.units<cLine) :
  ∀(k i:Nat) (s:ax) (es:Array (Int×av)) (ep:Nat) (t:SetTable) (L:List (ae×ay)),n-i=k->i<=n->St i s->i7 prog w s.heap a es ep t L->(∀j,j<n->cJ prog w s.heap (val j).1 (val j).2)->(L.map (·.1)).Nodup->L.length<=i->(∀x∈L,∃j,j<n/\val j=x)->(∀x,x∈L.map (·.1)↔∃j,j<i/\(val j).1=x)->
   (∀s' es' ep' t' L',Moved (a::wr) G s s'->i7 prog w s'.heap a es' ep' t' L'->(L'.map (·.1)).Nodup->(∀x∈L',∃j,j<n/\val j=x)->(∀x,x∈L'.map (·.1)↔∃j,j<n/\(val j).1=x)->R (.ok (.ret .none)) s')->
   codeAny (model prog w) A (.builtin "set.update.loop" ⟨[.ref a,.ref I],[]⟩) R s:=by
 have aw:a∉wr:=λh=>af (W.sub _ h)
 have up:∀b∈wr,b∈a::wr:=λb hb=>bp0 _ hb
 intro k
 induction k with
 |zero=>
  intro i s es ep t L hk hi st hS tk nd _ own mem hR;obtain rfl:i=n:=by omega
  refine bv8 F.entry_set_update_loop ?_;rw[bt7 F.plain_set_update_loop _];show wpAny _ A.in1 (pyNext (.ref I) >>= _) _ _ s;refine bo2 (W.done s _ _ st λs' hm=>?_);show wpAny _ A.in1 (ret Value.none) _ _ s';refine bo5 (hR s' es ep t L (hm.mono up) (hS.keep (λo e=>hm.heap a _ aw e) λx hx o e=>?_) nd own mem)
  obtain⟨j,hj,e2⟩:=own x hx
  exact hm.heap _ _ (by rw[<- e2];exact λz=>vw j hj (up _ z)) e
 |succ k ih=>
  intro i s es ep t L hk hi st hS tk nd ln own mem hR;have lt:i<n:=by omega
  refine bv8 F.entry_set_update_loop ?_;rw[bt7 F.plain_set_update_loop _];show wpAny _ A.in1 (pyNext (.ref I) >>= _) _ _ s;refine bo2 (W.item i s _ _ lt st λv s' hP st' hm=>?_);obtain rfl:=hval i v hP;have hvw:∀j,j<n->(val j).2∉wr:=λj hj z=>vw j hj (up _ z)
  have hS':i7 prog w s'.heap a es ep t L:=hS.keep (λo e=>hm.heap a _ aw e) λx hx o e=>by
   obtain⟨j,hj,e2⟩:=own x hx
   exact hm.heap _ _ (by rw[<- e2];exact hvw j hj) e
  have tk':∀j,j<n->cJ prog w s'.heap (val j).1 (val j).2:=λj hj=>(tk j hj).keep λo e=>hm.heap _ _ (hvw j hj) e
  show wpAny _ A.in1 (holding [Value.ref (val i).2] (setAdd a (.ref (val i).2)) >>= _) _ _ s';refine bo2 (bv9 ?_);unfold setAdd;refine bv9 (bo2 (wpAny_pyHash_tuple hu (tk' i lt) ?_));refine bg2 (s:={ s' with toks:=s'.toks+_ }) hS' (by omega) hu (tk' i lt) λb h' es2 ep2 t2 L2 sb S2 p1 p2=>?_
  have nd':(L2.map (·.1)).Nodup:=by
   by_cases z:(val i).1∈L.map (·.1)
   ·rw[p1 z];exact nd
   ·refine ((p2 z).map (·.1)).nodup_iff.mpr ?_
    rw[br8];exact bD1.mpr ⟨nd,bu4 _ _,λx hx y hy e=>z (by have e:x=(val i).1:=e.trans (bp2.mp hy);rw[<- e];exact hx)⟩
  have ln':L2.length<=i+1:=by
   by_cases z:(val i).1∈L.map (·.1)
   ·rw[p1 z];omega
   ·rw[(p2 z).length_eq,br0,bu5];omega
  have own':∀x∈L2,∃j,j<n/\val j=x:=λx hx=>by
   by_cases z:(val i).1∈L.map (·.1)
   ·rw[p1 z]at hx;exact own x hx
   ·rcases bs0.mp ((p2 z).mem_iff.mp hx) with q|q
    ·exact own x q
    ·exact⟨i,lt,(bp2.mp q).symm⟩
  have mem':∀x,x∈L2.map (·.1)↔∃j,j<i+1/\(val j).1=x:=λx=>by
   have:x∈L2.map (·.1)↔x∈L.map (·.1)∨x=(val i).1:=by
    by_cases z:(val i).1∈L.map (·.1)
    ·rw[p1 z]
     exact⟨.inl,λh=>h.elim id λe=>by rw[e];exact z⟩
    ·rw[((p2 z).map (·.1)).mem_iff,br8,bs0]
     exact⟨λh=>h.imp id λh=>bp2.mp h,λh=>h.imp id λh=>bp2.mpr h⟩
   rw[this,mem x];constructor
   ·rintro (⟨j,hj,e⟩|e)
    ·exact⟨j,by omega,e⟩
    ·exact⟨i,by omega,e.symm⟩
   ·rintro⟨j,hj,e⟩
    by_cases z:j=i
    ·exact .inr (by rw[<- e,z])
    ·exact .inl ⟨j,by omega,e⟩
  have tk2:∀j,j<n->cJ prog w h' (val j).1 (val j).2:=λj hj=>cJ.same sb hS'.ho (tk' j hj)
  refine bo5 ⟨by6 F.plain_set_update_loop _,ih (i+1) _ es2 ep2 t2 L2 (by omega) lt (W.frame _ s' _ _ st' (by1 _ _) λb hb o e=>?_) S2 tk2 nd' ln' own' mem' λs2 es3 ep3 t3 L3 m2 hS2 n2 ow2 me2=>?_⟩
  ·rw[sb.2 b λz:b=a=>af (by rw[<- z];exact hb)];exact e
  ·refine hR s2 es3 ep3 t3 L3 (Moved.trans W.gtrans ((hm.mono up).then_heap (by1 _ _) λb o hb e=>?_) m2) hS2 n2 ow2 me2
   rw[sb.2 b λz:b=a=>hb (by rw[z];exact bp5)];exact e
end
section
variable {prog:az}{w:bc}{A:ba}{E:av→ax→Prop}{s:ax}{l:ay}{items:Array av}{vs:List (ae×ay)}
noncomputable def lC (prog:az)(w:bc)(vs:List (ae×ay))(h h':Heap):Prop:=(∃es ep t L,i7 prog w h' h.objs.size es ep t L/\(L.map (·.1)).Nodup/\(∀x∈L,x∈vs)/\∀k,k∈L.map (·.1)↔k∈vs.map (·.1))/\∀b o,b<h.objs.size->h.get? b=some o->h'.get? b=some o
theorem bg3 {Q:av->ax->Prop}(hh:A.handled=none)(hu:A.in1.units<cLine)(hl:s.heap.IsTuple l items)(hi:items.toList=vs.map λx=>.ref x.2)(ht:∀x∈vs,cJ prog w s.heap x.1 x.2)(hb:vs.length<=76)(h:∀h' tk,lC prog w vs s.heap h'->Q .none { s with heap:=h',toks:=tk }) :
  wpAny (model prog w) A (Builtin.«set.__init__» ⟨[.ref s.heap.objs.size,.ref l],[]⟩) (λfin s'=>∃r,fin = .done (.ret r)/\Q r s') E { s with heap:=s.heap.push (dD (!w.params.followText "set-order")) }:=by
 generalize hled:(!w.params.followText "set-order")=led;have hS:(s.heap.push (dD led)).get? s.heap.objs.size=some (dD led):=bp4 _ rfl;have hT:Shared.TypeIs { s with heap:=s.heap.push (dD led) } (.ref s.heap.objs.size) "set":=⟨_,hS,rfl⟩
 obtain⟨ol,jX,hcl,nl,hdl⟩:=hl
 have lt:l<s.heap.objs.size:=bp9 jX
 obtain⟨ocls,odict,odata,oslots⟩:=ol
 dsimp only at hcl hdl;subst hcl hdl;have hol1:=bo4 (dD led) jX;have tu:(s.heap.push (dD led)).IsTuple l items:=⟨_,hol1,rfl,nl,rfl⟩;have t1:=aN0;have t2:=aN1;have t3:(Value.type "tuple"==Value.type "dict")=false:=by decide
 unfold Builtin.«set.__init__» noKeywords Builtin.Frozenset.updateFrom;generalize pi:pyIter=PI
 wp_walk
 subst pi;apply bC3 tu;apply bo2;apply wpAny_runValue;have sz:(s.heap.push (dD led)).objs.size=s.heap.objs.size+1:=bw8 ..;have il:items.size=vs.length:=by rw[<- bq5,hi,bo7]
 have at_:∀j,j<items.size->vs.getD j ([],0)∈vs:=λj hj=>by
  rw[bp3,bo6 (by omega)];exact by0 _
 have tkk:∀j,j<items.size->cJ prog w s.heap (vs.getD j ([],0)).1 (vs.getD j ([],0)).2:=λj hj=>ht _ (at_ j hj)
 have tl:∀j,j<items.size->(vs.getD j ([],0)).2<s.heap.objs.size:=λj hj=>by
  obtain⟨o,_,_,ho,_⟩:=tkk j hj
  exact bp9 ho
 refine aj1 (Walks.tuple (by simp[hh]) (s.heap.push (dD led)).objs.size l (by rw[sz];exact br1 (bA1 lt)) items).toS s.heap.objs.size (λz=>?_) (λi=>vs.getD i ([],0)) (λi v hv=>?_) (λi hi z=>?_) (by omega) hu items.size 0 _ #[] 0 (.fresh 0 0 led) [] (Nat.sub_zero _) (bt5 _) ⟨⟨_,bp4 _ rfl,rfl,rfl⟩,tu.push _⟩ ⟨bo4 _ hS,⟨rfl,(λ_ h=>(bq0 h).elim),.fresh 0 0 led⟩,hled.symm,.inl ⟨rfl,bt5 _⟩⟩ (λj hj=>(tkk j hj).keep λo e=>bo4 _ (bo4 _ e)) .nil (bp7 _) (λ_ h=>(bq0 h).elim) (λx=>⟨(λz=>(bq0 z).elim),(λ⟨_,z,_⟩=>absurd z (bz8 _))⟩) ?_
 ·simp only[bp1,bq0,bv1]at z
  rcases z with z|z
  ·rw[sz]at z
   exact br1 (Nat.lt_succ_self _) z
  ·exact bw3 lt z
 ·have hv:items[i]? = some v:=hv
  rw[<- br6,hi,bq6]at hv;show v = .ref (vs.getD i ([],0)).2;rw[bp3];cases hx:vs[i]? with
  |none=>rw[hx]at hv;cases hv
  |some x=>rw[hx]at hv;cases hv;rfl
 ·have:=tl i hi
  have z:(vs.getD i ([],0)).2∈s.heap.objs.size::[(s.heap.push (dD led)).objs.size]:=z;rw[sz]at z;rcases bp1.mp z with z|z
  ·exact absurd z (br1 this)
  ·exact absurd (bp2.mp z) (br1 (bA1 this))
 ·rintro⟨h',g',d',tk',os'⟩ es ep t L hm hS' nd own mem
  obtain rfl:g'=s.gens:=hm.gens;obtain rfl:d'=s.drawn:=hm.drawn;obtain rfl:os'=s.os:=hm.os
  change wpAny _ _ _ _ _ _
  apply bo5
  change wpAny _ _ (ret Value.none) _ _ _
  refine bo5 ⟨_,rfl,h h' tk' ⟨⟨es,ep,t,L,hS',nd,λx hx=>?_,λx=>?_⟩,λb o lb e=>hm.heap b o (λz=>?_) (bo4 _ (bo4 _ e))⟩⟩
  ·obtain⟨j,hj,e⟩:=own x hx
   rw[<- e];exact at_ j hj
  ·rw[mem x]
   constructor
   ·rintro⟨j,hj,e⟩
    exact br5.mpr ⟨_,at_ j hj,e⟩
   ·intro hx
    obtain⟨y,hy,e⟩:=br5.mp hx
    obtain⟨j,hj,e2⟩:=bu9 hy
    exact⟨j,by omega,by rw[bp3,bo6 hj,e2];exact e⟩
  simp only[bp1,bq0,bv1]at z;rcases z with z|z
  ·exact br1 lb z
  ·rw[sz]at z
   exact br1 (bA1 lb) z
theorem bo1 {Q:av->ax->Prop}(hh:A.handled=none)(hu:A.units+3<cLine)(hl:s.heap.IsTuple l items)(hi:items.toList=vs.map λx=>.ref x.2)(ht:∀x∈vs,cJ prog w s.heap x.1 x.2)(hb:vs.length<=76)(h:∀h' tk,lC prog w vs s.heap h'->Q (.ref s.heap.objs.size) { s with heap:=h',toks:=tk }) :
  wpAny (model prog w) A (call (.type "set") [.ref l]) Q E s:=by
 have C:=F.called_set
 obtain⟨c,tl,hmro⟩:=C.mro
 have c1:=C.made;have c2:=C.sub;have c3:=C.notType;have c4:=C.canCreate;have c5:=F.typeCall_set_1 (.ref l);have c6:=C.init.lookup;have c7:=C.init.bind (.ref s.heap.objs.size);apply wpAny_call;apply codeAny_of_tree
 change wpAny _ _ (callAny (.type "set") _) _ _ _
 refine bo5 ⟨Code.quiet_builtin _ (by decide +kernel),bv8 F.entry_type_call ?_⟩;rw[Around.under_plain (weight_type_call_type "set" [.ref l] []) rfl]
 repeat (any_goals first|assumption|wp_step|fail)
 refine codeAny_mono (Y1 (.ref l) (E:=E) (Q₁:=λobj s₁=>obj = .ref s.heap.objs.size/\s₁={ s with heap:=s.heap.push (dD (!w.params.followText "set-order")) }) ⟨rfl,rfl⟩) λr s₁ hr=>?_
 match r,hr with
 |.error _,hr=>exact hr
 |.ok (.ret obj),hr=>
  obtain⟨rfl,rfl⟩:=hr
  have hT:Shared.TypeIs { s with heap:=s.heap.push (dD (!w.params.followText "set-order")) } (.ref s.heap.objs.size) "set":=⟨_,bp4 _ rfl,rfl⟩
  repeat (any_goals first|assumption|wp_step|fail)
  refine codeAny_mono (codeAny_call_builtin (R:=wants (λr s₂=>r = .none/\∃h' tk,s₂={ s with heap:=h',toks:=tk }/\lC prog w vs s.heap h') E) C.init.plain F.entry_set_init (check_set_init_1 hT ?_)) λr₂ s₂ hr₂=>?_
  ·refine bx4 (bg3 (E:=λ_ _=>False) (Q:=λr s₂=>r = .none/\∃h' tk,s₂={ s with heap:=h',toks:=tk }/\lC prog w vs s.heap h') (by simp[hh]) ?_ hl hi ht hb λh' tk f=>⟨rfl,h',tk,rfl,f⟩) ?_ ?_
   ·show A.units+3<cLine;omega
   ·rintro fin s' ⟨r,rfl,q⟩
    exact q
   ·exact λ_ _ h=>h.elim
  match r₂,hr₂ with
  |.error _,hr₂=>exact hr₂
  |.ok (.ret _),hr₂=>
   obtain⟨rfl,h',tk,rfl,f⟩:=hr₂
   repeat (any_goals first|assumption|wp_step|fail)
   exact h _ _ f
theorem bg4 {Q:av->ax->Prop}(hh:A.handled=none)(hu:A.in1.units<cLine)(hl:s.heap.IsList l items)(hi:items.toList=vs.map λx=>.ref x.2)(ht:∀x∈vs,cJ prog w s.heap x.1 x.2)(hb:vs.length<=76)(h:∀h' tk,lC prog w vs s.heap h'->Q .none { s with heap:=h',toks:=tk }) :
  wpAny (model prog w) A (Builtin.«set.__init__» ⟨[.ref s.heap.objs.size,.ref l],[]⟩) (λfin s'=>∃r,fin = .done (.ret r)/\Q r s') E { s with heap:=s.heap.push (dD (!w.params.followText "set-order")) }:=by
 generalize hled:(!w.params.followText "set-order")=led;have hS:(s.heap.push (dD led)).get? s.heap.objs.size=some (dD led):=bp4 _ rfl;have hT:Shared.TypeIs { s with heap:=s.heap.push (dD led) } (.ref s.heap.objs.size) "set":=⟨_,hS,rfl⟩
 obtain⟨ol,jX,hcl,nl,hdl⟩:=hl
 have lt:l<s.heap.objs.size:=bp9 jX
 obtain⟨ocls,odict,odata,oslots⟩:=ol
 dsimp only at hcl hdl;subst hcl hdl;have hol1:=bo4 (dD led) jX;have tu:(s.heap.push (dD led)).IsList l items:=⟨_,hol1,rfl,nl,rfl⟩;have t1:=aV3;have t2:=aV4;have t3:(Value.type "list"==Value.type "dict")=false:=by decide
 unfold Builtin.«set.__init__» noKeywords Builtin.Frozenset.updateFrom;generalize pi:pyIter=PI
 wp_walk
 subst pi;apply wpAny_pyIter_list tu;apply bo2;apply wpAny_runValue;have sz:(s.heap.push (dD led)).objs.size=s.heap.objs.size+1:=bw8 ..;have il:items.size=vs.length:=by rw[<- bq5,hi,bo7]
 have at_:∀j,j<items.size->vs.getD j ([],0)∈vs:=λj hj=>by
  rw[bp3,bo6 (by omega)];exact by0 _
 have tkk:∀j,j<items.size->cJ prog w s.heap (vs.getD j ([],0)).1 (vs.getD j ([],0)).2:=λj hj=>ht _ (at_ j hj)
 have tl:∀j,j<items.size->(vs.getD j ([],0)).2<s.heap.objs.size:=λj hj=>by
  obtain⟨o,_,_,ho,_⟩:=tkk j hj
  exact bp9 ho
 refine aj1 (Walks.list (by simp[hh]) (s.heap.push (dD led)).objs.size l (by rw[sz];exact br1 (bA1 lt)) items).toS s.heap.objs.size (λz=>?_) (λi=>vs.getD i ([],0)) (λi v hv=>?_) (λi hi z=>?_) (by omega) hu items.size 0 _ #[] 0 (.fresh 0 0 led) [] (Nat.sub_zero _) (bt5 _) ⟨⟨_,bp4 _ rfl,rfl,rfl⟩,tu.push _⟩ ⟨bo4 _ hS,⟨rfl,(λ_ h=>(bq0 h).elim),.fresh 0 0 led⟩,hled.symm,.inl ⟨rfl,bt5 _⟩⟩ (λj hj=>(tkk j hj).keep λo e=>bo4 _ (bo4 _ e)) .nil (bp7 _) (λ_ h=>(bq0 h).elim) (λx=>⟨(λz=>(bq0 z).elim),(λ⟨_,z,_⟩=>absurd z (bz8 _))⟩) ?_
 ·simp only[bp1,bq0,bv1]at z
  rcases z with z|z
  ·rw[sz]at z
   exact br1 (Nat.lt_succ_self _) z
  ·exact bw3 lt z
 ·have hv:items[i]? = some v:=hv
  rw[<- br6,hi,bq6]at hv;show v = .ref (vs.getD i ([],0)).2;rw[bp3];cases hx:vs[i]? with
  |none=>rw[hx]at hv;cases hv
  |some x=>rw[hx]at hv;cases hv;rfl
 ·have:=tl i hi
  have z:(vs.getD i ([],0)).2∈s.heap.objs.size::[(s.heap.push (dD led)).objs.size]:=z;rw[sz]at z;rcases bp1.mp z with z|z
  ·exact absurd z (br1 this)
  ·exact absurd (bp2.mp z) (br1 (bA1 this))
 ·rintro⟨h',g',d',tk',os'⟩ es ep t L hm hS' nd own mem
  obtain rfl:g'=s.gens:=hm.gens;obtain rfl:d'=s.drawn:=hm.drawn;obtain rfl:os'=s.os:=hm.os
  change wpAny _ _ _ _ _ _
  apply bo5
  change wpAny _ _ (ret Value.none) _ _ _
  refine bo5 ⟨_,rfl,h h' tk' ⟨⟨es,ep,t,L,hS',nd,λx hx=>?_,λx=>?_⟩,λb o lb e=>hm.heap b o (λz=>?_) (bo4 _ (bo4 _ e))⟩⟩
  ·obtain⟨j,hj,e⟩:=own x hx
   rw[<- e];exact at_ j hj
  ·rw[mem x]
   constructor
   ·rintro⟨j,hj,e⟩
    exact br5.mpr ⟨_,at_ j hj,e⟩
   ·intro hx
    obtain⟨y,hy,e⟩:=br5.mp hx
    obtain⟨j,hj,e2⟩:=bu9 hy
    exact⟨j,by omega,by rw[bp3,bo6 hj,e2];exact e⟩
  simp only[bp1,bq0,bv1]at z;rcases z with z|z
  ·exact br1 lb z
  ·rw[sz]at z
   exact br1 (bA1 lb) z
theorem bg5 {Q:av->ax->Prop}(hh:A.handled=none)(hu:A.units+3<cLine)(hl:s.heap.IsList l items)(hi:items.toList=vs.map λx=>.ref x.2)(ht:∀x∈vs,cJ prog w s.heap x.1 x.2)(hb:vs.length<=76)(h:∀h' tk,lC prog w vs s.heap h'->Q (.ref s.heap.objs.size) { s with heap:=h',toks:=tk }) :
  wpAny (model prog w) A (call (.type "set") [.ref l]) Q E s:=by
 have C:=F.called_set
 obtain⟨c,tl,hmro⟩:=C.mro
 have c1:=C.made;have c2:=C.sub;have c3:=C.notType;have c4:=C.canCreate;have c5:=F.typeCall_set_1 (.ref l);have c6:=C.init.lookup;have c7:=C.init.bind (.ref s.heap.objs.size);apply wpAny_call;apply codeAny_of_tree
 change wpAny _ _ (callAny (.type "set") _) _ _ _
 refine bo5 ⟨Code.quiet_builtin _ (by decide +kernel),bv8 F.entry_type_call ?_⟩;rw[Around.under_plain (weight_type_call_type "set" [.ref l] []) rfl]
 repeat (any_goals first|assumption|wp_step|fail)
 refine codeAny_mono (Y1 (.ref l) (E:=E) (Q₁:=λobj s₁=>obj = .ref s.heap.objs.size/\s₁={ s with heap:=s.heap.push (dD (!w.params.followText "set-order")) }) ⟨rfl,rfl⟩) λr s₁ hr=>?_
 match r,hr with
 |.error _,hr=>exact hr
 |.ok (.ret obj),hr=>
  obtain⟨rfl,rfl⟩:=hr
  have hT:Shared.TypeIs { s with heap:=s.heap.push (dD (!w.params.followText "set-order")) } (.ref s.heap.objs.size) "set":=⟨_,bp4 _ rfl,rfl⟩
  repeat (any_goals first|assumption|wp_step|fail)
  refine codeAny_mono (codeAny_call_builtin (R:=wants (λr s₂=>r = .none/\∃h' tk,s₂={ s with heap:=h',toks:=tk }/\lC prog w vs s.heap h') E) C.init.plain F.entry_set_init (check_set_init_1 hT ?_)) λr₂ s₂ hr₂=>?_
  ·refine bx4 (bg4 (E:=λ_ _=>False) (Q:=λr s₂=>r = .none/\∃h' tk,s₂={ s with heap:=h',toks:=tk }/\lC prog w vs s.heap h') (by simp[hh]) ?_ hl hi ht hb λh' tk f=>⟨rfl,h',tk,rfl,f⟩) ?_ ?_
   ·show A.units+3<cLine;omega
   ·rintro fin s' ⟨r,rfl,q⟩
    exact q
   ·exact λ_ _ h=>h.elim
  match r₂,hr₂ with
  |.error _,hr₂=>exact hr₂
  |.ok (.ret _),hr₂=>
   obtain⟨rfl,h',tk,rfl,f⟩:=hr₂
   repeat (any_goals first|assumption|wp_step|fail)
   exact h _ _ f
end
end Raw
namespace L2
open PySem PySem.Spec PyProof.Rows
section
variable {prog:az}{w:bc}{A:ba}{E:av→ax→Prop}{s:ax}{a:ay}{es:Array (Int×av)}{ep:Nat}{t:SetTable}
theorem bg6 {Q:av->ax->Prop}(hh:A.handled=none)(ha:s.heap.get? a=some (Raw.cG es ep t))(ok:Raw.pS w es t)(few:es.size<64)(q:∀(h1:Heap) (tk:Nat) (d:Drawn) (vs:List av),(∀b o,s.heap.get? b=some o->h1.get? b=some o)->s.heap.objs.size<=h1.objs.size->vs.Perm (es.toList.map (·.2))->(h1.push (seqObj "list" vs.toArray 0)).get? h1.objs.size=some (seqObj "list" vs.toArray 0)->
   wpAny (model prog w) A.in1.in1 (Builtin.«list.sort» ⟨[.ref h1.objs.size],[]⟩) (λfin s'=>∃v,fin = .done (.ret v)/\Q (.ref h1.objs.size) s') E { s with heap:=h1.push (seqObj "list" vs.toArray 0),toks:=tk,drawn:=d }) :
  wpAny (model prog w) A (call (.builtin "sorted") [.ref a]) Q E s:=by
 refine Calls.call_function_entry kind_sorted plain_sorted entry_sorted (args_sorted1 _) ?_;unfold Builtin.«sorted»;refine bo2 (m:=checkCount "sorted" 1 1 _) (bo5 ?_);unfold collect;refine bo2 (bo2 (wpAny_runValue (Raw.aT4 (s:=s) hh ha ok λh' tk d acc c kp at1 pa=>?_)));show wpAny _ _ (load s.heap.objs.size >>= _) _ _ _;refine bo2 (wpAny_load at1 ?_);refine bo5 ?_;have lv:acc.toList.length<64:=by rw[pa.length_eq,bo7,bq5];exact few
 refine bo2 (wpAny_newList ?_ (bs7 (by8 lv) (by decide)));have hoL:(h'.push (seqObj "list" acc.toList.toArray 0)).get? h'.objs.size=some (seqObj "list" acc.toList.toArray 0):=bp4 _ rfl;show wpAny _ _ _ _ _ { s with heap:=h'.push (seqObj "list" acc.toList.toArray 0),toks:=tk,drawn:=d };have kq:∀b o,s.heap.get? b=some o->h'.get? b=some o:=λb o e=>kp b o (br1 (bp9 e)) (bo4 _ e)
 refine bo2 (bv9 (bt1 slot_list_sort ⟨_,hoL,rfl⟩ entry_list_sort ?_ (args_list_sort _)));refine bx4 (q h' tk d acc.toList kq (by8 (bp9 at1)) pa hoL) ?_ λ_ _ z=>z
 rintro fin s' ⟨v,e,z⟩
 exact⟨v,e,bo5 ⟨_,rfl,z⟩⟩
end
theorem bg7 {α β:Type}{f:α->β}{us ws:List β}(p:us.Perm ws):∀{L:List α},ws=L.map f->∃L':List α,L'.Perm L/\us=L'.map f:=by
 induction p with
 |nil=>
  intro L e;cases L with
  |nil=>exact⟨[],.refl _,rfl⟩
  |cons=>cases e
 |cons x _ ih=>
  intro L e;cases L with
  |nil=>cases e
  |cons y L=>
   injection e with e1 e2
   obtain⟨L',p,e3⟩:=ih e2
   exact⟨y::L',p.cons y,by rw[e1,e3];rfl⟩
 |swap x y l=>
  intro L e
  match L,e with
  |a::b::L,e=>
   injection e with e1 e2
   injection e2 with e2 e3
   exact⟨b::a::L,List.Perm.swap _ _ _,by rw[e1,e2,e3];rfl⟩
 |trans _ _ ih1 ih2=>
  intro L e
  obtain⟨L1,p1,e1⟩:=ih2 e
  obtain⟨L2,p2,e2⟩:=ih1 e1
  exact⟨L2,p2.trans p1,e2⟩
section
variable {X:Cx}
noncomputable abbrev fQ:=ae×ay
noncomputable def uD (X:Cx)(o:Obj)(L:List fQ):Prop:=∃es ep t,o=Raw.cG es ep t/\es.toList=L.map (Raw.iP X.prog X.w)/\Raw.TT t (L.map λx=>Raw.bY X.prog X.w x.1)/\t.led=(!X.w.params.followText "set-order")/\Raw.NF t.mask L.length
theorem zC:∀L:List fQ,aL (L.map λx=>V.ref x.2) (L.map λx=>Value.ref x.2)
 |[]=>.nil
 |_::L=>.cons rfl (zC L)
theorem bg8 {prog:az}{w:bc}{us:List av}{ns:ae}(h:IntsAre us ns):PySem.ItemsAre (intKind prog w) ns us:=by
 induction h with
 |nil=>exact .nil
 |cons n t _ ih=>exact .cons (intKind_is _ _ _ _) ih
theorem aj2 {σ:St}{H:Hp}{s:ax}{ag:List (ay×Obj)}(I:a8 X ag σ H s){b:ay}{k:ae}(q:aJ X.K H b (k.map V.int)):Raw.cJ X.prog X.w s.heap k b:=by
 obtain⟨us,ru,⟨ob,e1,c1,n1,d1⟩,_⟩:=I.tuple q
 exact⟨ob,us.toArray,n1,e1,c1,d1,bg8 (fB ru)⟩
theorem bg9 {α:Type}{d:α}{c:Nat->Nat->Bool}{R:α->α->Prop}{ys:List α}{p:Array Nat}{n:Nat}(hp:Srt.PP n p)(ha:Srt.fE c p n)(hR:∀i j,Srt.Le c i j->R (ys.getD i d) (ys.getD j d)) :
  (p.toList.map λi=>ys.getD i d).Pairwise R:=by
 rw[bu7,bv3];intro i j hi hj hij;have hs:=hp.size;have h1:i<n:=by rw[<- hs];simpa using hi
 have h2:j<n:=by rw[<- hs];simpa using hj
 have q:=ha i j (by8 hij) h2;have e:∀k (hk:k<p.toList.length),Srt.G p k=p.toList[k]:=λk hk=>by
  have hk':k<p.size:=by simpa using hk
  unfold Srt.G;rw[bv4];simp[hk']
 rw[e i hi,e j hj]at q;exact hR _ _ q
theorem bh0 (hc:X.calm=true):cH X (.builtin "sorted") (λxs H Q=>∃(a:ay) (o:Obj) (L:List fQ),xs = [.ref a]/\H a=some (.frz o (.own a))/\uD X o L/\(∀x∈L,aJ X.K H x.2 (x.1.map V.int)/\x.1≠[])/\L.length<64/\
  ∀l (zs:List fQ),H l=none->zs.Perm L->zs.Pairwise (λu v=>HT.aH v.1 u.1=false)->Q (.ref l) (upd H l (.lst (zs.map λx=>V.ref x.2)))):=by
 intro ag s σ H xs us Q I r h
 obtain⟨a,o,L0,rfl,ha,⟨es,ep,t,rfl,ee,tt,led,nf⟩,hk0,h64,q⟩:=h
 obtain⟨u,rfl,rx⟩:=fV r
 obtain rfl:u=Value.ref a:=rx;have ho:s.heap.get? a=some (Raw.cG es ep t):=(show bN X.prog X.w H s.heap a (.frz (Raw.cG es ep t) (.own a)) from I.hok a _ ha).1;have S:Raw.i7 X.prog X.w s.heap a es ep t L0:=⟨ho,⟨ee,λx hx=>aj2 I (hk0 x hx).1,tt⟩,led,nf⟩;refine bg6 (I.ok.hd hc) ho S.g (by rw[S.e.len];exact h64) λh1 tk d vs kp sz pv hoL=>?_
 rw[ee,bw0]at pv
 obtain⟨L,pL,rfl⟩:=bg7 (f:=λx:fQ=>Value.ref x.2) pv rfl
 have hk:∀x∈L,aJ X.K H x.2 (x.1.map V.int)/\x.1≠[]:=λx hx=>hk0 x (pL.mem_iff.mp hx)
 have rv:=zC L;have hl:L.length<64:=by rw[pL.length_eq];exact h64
 have old:∀b o,s.heap.get? b=some o->(h1.push (seqObj "list" (L.map λx=>Value.ref x.2).toArray 0)).get? b=some o:=λb o e=>bo4 _ (kp b o e)
 have J:=I.drew d;by_cases h2:L.length<2
 ·refine qZ hoL (by rw[bo7];exact h2) ⟨_,rfl,?_⟩
  obtain⟨e,he⟩:=sortedHeap_at (vs:=L.map λx=>Value.ref x.2) (out:=(L.map λx=>Value.ref x.2).toArray) hoL
  refine⟨.ref h1.objs.size,upd H h1.objs.size (.lst (L.map λx=>V.ref x.2)),J.laid (s:={ s with drawn:=d }) (t':=tk) (λb o hb=>?_) sz ⟨by rw[bo7];exact bs7 (show L.length<=64 by omega) (by decide),_,e,rv,he⟩,rfl,q _ L (I.hok.fresh sz) pL ?_⟩
  ·have lt:=bq4 (bp9 hb) sz
   rw[sortedHeap_old (br1 lt) (by rw[size_push'];exact bA1 lt)];exact old b o hb
  ·match L,h2 with
   |[],_=>exact bz3
   |[_],_=>exact bu4 _ _
   |_::_::_,h2=>simp at h2;omega
 ·obtain⟨m,F⟩:=I.fr
  have lL:X.env.locals<s.heap.objs.size:=F.ns.lt;have N:=zH (g:=X.base) (h:=s.heap) (L:=X.env.locals);have ab:=F.above;have lt:∀p∈mI X.base s.heap X.env.locals,p.1<h1.objs.size:=λp hp=>bq4 (bp9 (N p hp).1) sz
  refine PySem.W.kat_list_sort (s:={ s with heap:=h1.push (seqObj "list" (L.map λx=>Value.ref x.2).toArray 0),toks:=tk,drawn:=d }) (F.kept old) (N.grown old) hoL (bw3 (bq4 lL sz)) (Heap.get?_none_of_le (bs7 ab (bs7 (by8 lL) sz))) (λp hp=>br1 (lt p hp)) (by rw[bo7];omega) (by rw[bo7];exact hl) λe1 h' F' N'=>?_
  have hL:∀{b:ay}{k:ae},aJ X.K H b (k.map V.int)->b≠X.env.locals:=λ{b k} z e=>by
   obtain⟨its',_,⟨ob,e1,c1,_⟩,_⟩:=I.tuple z
   obtain⟨m',⟨o',es',ep',e2,d2,_⟩,_⟩:=I.loc
   rcases z with (z|⟨_,z⟩)|⟨o3,its3,n3,z3,zc,zd,_⟩
   ·rw[e,I.free]at z;cases z
   ·rw[e,I.free]at z;cases z
   ·have:=I.kIn b o3 z3
    rw[e,e2]at this;cases this;rw[d2]at zd;cases zd
  have keep:=I.newsAll (λp hp=>bp0 _ hp) F' N';have gd:∀i,i<L.length->(L.map λx=>Value.ref x.2).getD i Value.none = .ref (L.getD i ([],0)).2:=λi hi=>by
   rw[bp3,bp3,bq6,bo6 hi];rfl
  have look:∀i,i<L.length->∃(b:ay) (ob:Obj) (us:List av) (n:Nat),(L.map λx=>Value.ref x.2).getD i Value.none = .ref b/\h'.get? b=some ob/\ob.cls = .type "tuple"/\ob.data = .seq us.toArray n/\IntsAre us (L.getD i ([],0)).1/\(L.getD i ([],0)).1≠[]:=λi hi=>by
   have hy:L.getD i ([],0)∈L:=by
    rw[bp3,bo6 hi];exact by0 hi
   obtain⟨sq,ne⟩:=hk _ hy
   obtain⟨us,ru,⟨ob,e1,c1,n1,d1⟩,_⟩:=I.tuple sq
   exact⟨_,ob,us,n1,gd i hi,keep _ ob (hL sq) e1,c1,d1,fB ru,ne⟩
  have firsts:∀L:List fQ,(∀x∈L,aJ X.K H x.2 (x.1.map V.int)/\x.1≠[])->∃fs:List av,PySem.W.KatTups h' (L.map λx=>Value.ref x.2) fs/\fs.length=L.length/\∀v∈fs,∃i t,v=Value.int i t:=by
   intro L
   induction L with
   |nil=>intro _;exact⟨[],PySem.W.KatTups.nil,rfl,λ_ z=>nomatch z⟩
   |cons x L ih=>
    intro hh
    obtain⟨fs,t1,t2,t3⟩:=ih λy hy=>hh y (bp0 _ hy)
    obtain⟨sq,ne⟩:=hh x bp5
    obtain⟨us,ru,⟨ob,e1,c1,n1,d1⟩,_⟩:=I.tuple sq
    have ia:=fB ru
    obtain⟨kk,bb⟩:=x
    dsimp only at ia ne;cases ia with
    |nil=>exact absurd rfl ne
    |@cons n t vs0 ns0 ht=>
     exact⟨Value.int n t::fs,PySem.W.KatTups.cons (keep bb ob (hL sq) e1) c1 d1 (by simp) t1,by simp[t2],λv hv=>(bp1.mp hv).elim (λz=>⟨n,t,z⟩) (t3 v)⟩
  obtain⟨fs,t1,t2,t3⟩:=firsts L hk
  refine PySem.W.kat_kind (T:=.type "int") t1 (by omega) (λv hv=>?_) (by decide) ?_
  ·obtain⟨i,t,rfl⟩:=t3 v hv
   exact PySem.W.Looks.now
  let c:Nat->Nat->Bool:=λi j=>HT.aH (L.getD i ([],0)).1 (L.getD j ([],0)).1
  have O:Srt.qV c:=⟨λh=>jH h,λh1 h2=>oO h1 h2⟩;have ok:=Srt.K0 (n:=L.length) O (by omega);rw[bo7];refine Srt.c9.run (I:=λs'=>s'={ s with heap:=h',toks:=tk,drawn:=d }) (λi j C s' hi hj hI hC=>?_) (λpa s' hR hI=>?_) _ _ rfl ok
  ·subst hI
   obtain⟨b1,o1,u1,n1,g1,g2,_,g4,g5,_⟩:=look i (by omega)
   obtain⟨b2,o2,u2,n2,k1,k2,_,k4,k5,_⟩:=look j (by omega)
   show wpAny _ _ (keyLt' (tuples' (Value.type "int" != Value.type "tuple")) ((L.map λx=>Value.ref x.2).getD i Value.none) ((L.map λx=>Value.ref x.2).getD j Value.none)) _ _ _;rw[g1,k1];have eT:(Value.type "int" != Value.type "tuple")=true:=by decide
   rw[eT];refine PySem.W.kat_lt g2 g4 k2 k4 ?_
   have:=oP (prog:=X.prog) (w:=X.w) (A:=X.A.in1.in1) (s:={ s with heap:=h',toks:=tk,drawn:=d }) (Q:=C) 0 g5 k5 (hC _ rfl)
   simpa using this
  ·subst hI
   obtain⟨hp,hasc⟩:=hR
   refine PySem.W.KasFin.intro F' N' (PySem.W.UpdF.head λp hp=>br1 (lt p hp)) λh2 cc F2 N2=>?_
   have keep2:=I.newsAll (λp hp=>bp0 _ hp) F2 N2;have hDn:s.heap.get? h1.objs.size=none:=Heap.get?_none_of_le sz;have hpl:∀i∈pa.toList,i<L.length:=λi hi=>bw2.mp (hp.mem_iff.mp hi)
   have pm:=K1 (d:=(([],0):fQ)) L hp
   obtain⟨hDo,hDL,hDb⟩:=N2 (h1.objs.size,_) bp5
   obtain⟨hHD,I2⟩:=J.laidF (s:={ s with drawn:=d }) (t':=tk) (a:=h1.objs.size) (o:=.lst ((pa.toList.map λi=>L.getD i ([],0)).map λx=>V.ref x.2)) hDn keep2 (λm' hm'=>by
     have e:m'=m:=funext λnm=>Heap.Ns.agree hm' F.ns nm
     rw[e];exact F2.ns) ⟨by rw[bo7,pm.length_eq];exact bs7 (show L.length<=64 by omega) (by decide),_,cc,zC _,by
      rw[bw0]
      have:(pa.toList.map λi=>(L.map λx=>Value.ref x.2).getD i Value.none)=pa.toList.map ((λx:fQ=>Value.ref x.2) ∘ λi=>L.getD i ([],0)):=List.map_congr_left λi hi=>gd i (hpl i hi)
      rw[<- this];exact hDo⟩
   exact⟨_,rfl,.ref h1.objs.size,_,I2,rfl,q _ _ hHD (pm.trans pL) (bg9 hp hasc λi j hle=>hle)⟩
end
section
variable {X:Cx}
theorem aj3:∀{L:List fQ}{us:List av},aL (L.map λx=>V.ref x.2) us->us=L.map λx=>Value.ref x.2
 |[],_,.nil=>rfl
 |_::_,_,.cons r t=>by rw[aj3 t,bv2];cases r;rfl
theorem bh1 (hc:X.calm=true)(hu:X.A.units+3<cLine):cH X (.type "set") (λxs H Q=>∃(p:ay) (ks:List fQ),xs = [.ref p]/\aM X.K H p (ks.map λx=>V.ref x.2)/\(∀x∈ks,aJ X.K H x.2 (x.1.map V.int))/\ks.length<=76/\
  ∀l o L,H l=none->uD X o L->(L.map (·.1)).Nodup->(∀x∈L,x∈ks)->(∀k,k∈L.map (·.1)↔k∈ks.map (·.1))->Q (.ref l) (upd H l (.frz o (.own l)))):=by
 intro ag s σ H xs us Q I r h
 obtain⟨p,ks,rfl,hq,hk,hl,q⟩:=h
 obtain⟨u,rfl,rx⟩:=fV r
 obtain rfl:u=Value.ref p:=rx
 obtain⟨its,r',pl,hz⟩:=I.list hq
 have e1:its=ks.map λx=>Value.ref x.2:=aj3 r'
 refine Raw.bg5 (items:=its.toArray) (vs:=ks) (I.ok.hd hc) hu pl.isList (by rw[e1]) (λx hx=>aj2 I (hk x hx)) hl λh' tk f=>?_
 obtain⟨⟨es,ep,t,L,S,nd,sub,mem⟩,f2⟩:=f
 exact⟨.ref s.heap.objs.size,_,I.laid (t':=tk) (λb o e=>f2 b o (bp9 e) e) (bp7 _) (show bN X.prog X.w _ _ _ (.frz (Raw.cG es ep t) (.own _)) from ⟨S.ho,_,S.ho⟩),rfl,q _ _ L (I.hok.fresh (bp7 _)) ⟨es,ep,t,rfl,S.e.es,S.e.tt,S.led,S.nf⟩ nd sub mem⟩
end
end L2
namespace PP
open PySem L2
section
variable {X:Cx}{e:Expr}{tr:cM}{pos p2 p3 p4:Pos}
theorem aj4 {K:ac}{M:ay->Prop}{H:Hp}:∀{us:List V}{ys:ad},Reps K M H us (ys.map λr=>PV.tup (intz r))->∃ks:List fQ,us=ks.map (λx=>V.ref x.2)/\ks.map (·.1)=ys/\∀x∈ks,H x.2=some (.tup (x.1.map V.int))
 |_,[],.nil=>⟨[],rfl,rfl,λ_ h=>nomatch h⟩
 |_,y::ys,.cons r t=>by
  obtain⟨a,us,rfl,h,r1⟩:=r.sqT
  obtain rfl:=r1.ofInts
  obtain⟨ks,h1,h2,h3⟩:=aj4 t
  refine⟨(y,a)::ks,by rw[h1];rfl,by rw[<- h2];rfl,λx hx=>?_⟩;rcases bp1.mp hx with rfl|hx
  ·exact h
  ·exact h3 x hx
theorem aj5 {K:ac}{M:ay->Prop}{H:Hp}:∀{ks:List fQ},(∀x∈ks,H x.2=some (.tup (x.1.map V.int)))->Reps K M H (ks.map λx=>V.ref x.2) ((ks.map (·.1)).map λr=>PV.tup (intz r))
 |[],_=>.nil
 |x::ks,h=>.cons (.tup (h x bp5) (Reps.intz _)) (aj5 λy hy=>h y (bp0 _ hy))
noncomputable def aj6:List PV->(PV->Prop)->Prop:=λxs Q=>∃ys:ad,xs = [.lst (ys.map λr=>PV.tup (intz r))]/\ys.length<=76/\(∀y∈ys,y≠[])/\(∀ms:ad,ms.Nodup->(∀x,x∈ms↔x∈ys)->ms.length<64)/\
 ∀zs:ad,zs.Nodup->zs.Pairwise (λu v=>HT.aH v u=false)->(∀x,x∈zs↔x∈ys)->Q (.lst (zs.map λr=>PV.tup (intz r)))
theorem bh2 {H H1:Hp}{M:ay->Prop}{ys:ad}{ks:List fQ}{P:PV->Prop}{Q':VK}(s1:aG H H1)(k1:ks.map (·.1)=ys)(k2:∀x∈ks,H1 x.2=some (.tup (x.1.map V.int)))(ne:∀y∈ys,y≠[])(few:∀ms:ad,ms.Nodup->(∀x,x∈ms↔x∈ys)->ms.length<64)(q:∀zs:ad,zs.Nodup->zs.Pairwise (λu v=>HT.aH v u=false)->(∀x,x∈zs↔x∈ys)->P (.lst (zs.map λr=>PV.tup (intz r))))(mn:∀l,H l=none->M l)(k:∀v H' (y:PV),aG H H'->aE X.K M H' v y->P y->Q' v H') :
  ∀l o L,H1 l=none->uD X o L->(L.map (·.1)).Nodup->(∀x∈L,x∈ks)->(∀k,k∈L.map (·.1)↔k∈ks.map (·.1))->
   ∃(a:ay) (o':Obj) (L':List fQ),[V.ref l] = [.ref a]/\upd H1 l (.frz o (.own l)) a=some (.frz o' (.own a))/\uD X o' L'/\(∀x∈L',aJ X.K (upd H1 l (.frz o (.own l))) x.2 (x.1.map V.int)/\x.1≠[])/\L'.length<64/\
    ∀l2 (zs:List fQ),upd H1 l (.frz o (.own l)) l2=none->zs.Perm L'->zs.Pairwise (λu v=>HT.aH v.1 u.1=false)->Q' (.ref l2) (upd (upd H1 l (.frz o (.own l))) l2 (.lst (zs.map λx=>V.ref x.2))):=by
 intro l o L hf sv nd sub mem;have hb:∀x∈L,upd H1 l (.frz o (.own l)) x.2=some (.tup (x.1.map V.int)):=λx hx=>bK hf _ _ _ (k2 x (sub x hx))
 refine⟨l,o,L,rfl,bZ,sv,λx hx=>⟨aJ.of (hb x hx),ne _ ?_⟩,?_,λl2 zs hf2 pz so=>?_⟩
 ·rw[<- k1];exact br5.mpr ⟨x,sub x hx,rfl⟩
 ·have:=few (L.map (·.1)) nd λx=>by rw[mem x,k1]
  rw[bo7]at this;exact this
 ·have hz:∀x∈zs,upd (upd H1 l (.frz o (.own l))) l2 (.lst (zs.map λx=>V.ref x.2)) x.2=some (.tup (x.1.map V.int)):=λx hx=>bK hf2 _ _ _ (hb x (pz.mem_iff.mp hx))
  refine k _ _ (.lst ((zs.map (·.1)).map λr=>PV.tup (intz r))) ((s1.trans (bK hf _)).trans (bK hf2 _)) ?_ (q _ ((pz.map (·.1)).nodup_iff.mpr nd) ?_ λx=>?_)
  ·have n2:H l2=none:=by
    cases z:H l2 with
    |none=>rfl
    |some u=>
     have:=(s1.trans (bK hf (.frz o (.own l)))) _ _ z
     rw[hf2]at this;cases this
   exact .lst (mn _ n2) bZ (aj5 hz)
  ·rw[bu7];exact so
  ·rw[(pz.map (·.1)).mem_iff,mem x,k1]
theorem bh3 (hu:X.A.units+3<cLine)(B:Bt X.mg)(bs:X.mg "set" = none)(hc:X.calm=true)(ha:QA X [e] tr)(hg:Gl X "sorted":=by rfl)(hg2:Gl X "set":=by rfl)(he:starEach [e] X.env=(false,eval e X.env)::starEach [] X.env:=by rfl)(hpl:∀p:Pos,(backTo p (starEach [] X.env)).any (·.1)=false:=by intro _;rfl)(he2:starEach [.Call (.Name "set" p3) [e] [] p4] X.env=(false,eval (.Call (.Name "set" p3) [e] [] p4) X.env)::starEach [] X.env:=by rfl):QE X (.Call (.Name "sorted" p2) [.Call (.Name "set" p3) [e] [] p4] [] pos) (aD aj6 tr):=
 cO (uZ (bh0 hc) hg B.sorted PyProof.Rows.boot_sorted (gW (B8 (bh1 hc hu) hg2 bs PyProof.Rows.boot_set ha (by decide) (by decide) he (hpl _)) jD he2) (by decide) (by decide) he2 (hpl _)) λσ H Q' h=>by
  obtain⟨W,ρ,Q,px,q,k⟩:=h
  refine⟨W,ρ,_,px,q,λvs H1 xs s1 r1 q1=>?_⟩
  obtain⟨ys,e1,hl,ne,few,q⟩:=q1
  have r2:=r1.any;rw[e1]at r2
  obtain⟨v,rfl,r3⟩:=r2.one
  obtain⟨p,us,rfl,_,hp,r4⟩:=r3.sqL
  obtain⟨ks,rfl,k1,k2⟩:=aj4 r4
  exact⟨p,ks,rfl,aM.of hp,λx hx=>aJ.of (k2 x hx),by rw[<- k1,bo7]at hl;exact hl,bh2 s1 k1 k2 ne few q (λ_ z=>z) λv H' y s r p=>k v H' y .fr s r p⟩
end
end PP
namespace Core
open PySem L2 PP
section
variable {r c:Int}{x y:Bx}{S:List aV}
theorem nZ (kx:∀p,aC x p->bJ r c p=true)(ky:∀p,aC y p->bJ r c p=true)(hS:∀p,p∈S↔aC x p∨aC y p):∀p∈S,bJ r c p=true:=
 λp hp=>((hS p).mp hp).elim (kx p) (ky p)
theorem aj7 (ok:okX x)(kx:∀p,aC x p->bJ r c p=true):bD x (kC r c):=by
 have a:=nW.mpr (kx (x.t,x.l) ⟨bo9 _,ok.1,bo9 _,ok.2⟩);have b:=nW.mpr (kx (x.b,x.r) ⟨ok.1,bo9 _,ok.2,bo9 _⟩)
 exact⟨a.1,a.2.2.1,b.2.1,b.2.2.2⟩
theorem aj8 (okx:okX x)(oky:okX y)(kx:∀p,aC x p->bJ r c p=true)(ky:∀p,aC y p->bJ r c p=true)(hS:∀p,p∈S↔aC x p∨aC y p)(nr:aX x y=true)(p:aV):iK r c S p↔aC (aR x y) p:=by
 rw[yT (nZ kx ky hS)];constructor
 ·intro h
  have cl:=yS (T:=[aR x y]) (λa ha b hb _=>by rw[bp2.mp ha,bp2.mp hb]) (kC r c)
  obtain⟨z,hz,iz⟩:=h.least cl λq hq=>⟨_,bp2.mpr rfl,((hS q).mp hq).elim ad8 tU⟩
  rw[bp2.mp hz]at iz;exact iz
 ·intro h
  exact ae1 okx oky nr (eD.clo (ad7 (aj7 okx kx) (aj7 oky ky))) (λq hq=>.seed ((hS q).mpr (.inl hq))) (λq hq=>.seed ((hS q).mpr (.inr hq))) p h
theorem aj9 (kx:∀p,aC x p->bJ r c p=true)(ky:∀p,aC y p->bJ r c p=true)(hS:∀p,p∈S↔aC x p∨aC y p)(nr:aX x y=false)(p:aV):iK r c S p↔aC x p∨aC y p:=by
 rw[yT (nZ kx ky hS)];constructor
 ·intro h
  have cl:=yS (T:=[x,y]) (λa ha b hb z=>by
   have ha':a=x∨a=y:=by simpa using ha
   have hb':b=x∨b=y:=by simpa using hb
   rcases ha' with rfl|rfl<;>rcases hb' with rfl|rfl
   ·rfl
   ·rw[nr]at z;cases z
   ·rw[nV,nr]at z;cases z
   ·rfl) (kC r c)
  obtain⟨z,hz,iz⟩:=h.least cl λq hq=>((hS q).mp hq).elim (λw=>⟨x,by simp,w⟩) λw=>⟨y,by simp,w⟩
  have hz':z=x∨z=y:=by simpa using hz
  rcases hz' with rfl|rfl
  ·exact .inl iz
  ·exact .inr iz
 ·exact λh=>.seed ((hS p).mpr h)
theorem bh4 {bs:List Bx}(g:yW S bs)(okx:okX x)(oky:okX y)(kx:∀p,aC x p->bJ r c p=true)(ky:∀p,aC y p->bJ r c p=true)(hS:∀p,p∈S↔aC x p∨aC y p)(nr:aX x y=true):bs = [aR x y]:=by
 have same:∀p,(∃b∈bs,aC b p)↔∃b∈[aR x y],aC b p:=λp=>by
  rw[g.own.burnt g.far (nZ kx ky hS) p,aj8 okx oky kx ky hS nr p];simp
 have ok1:∀b∈[aR x y],okX b:=λb hb=>by rw[bp2.mp hb];exact tT okx
 have ok2:∀b∈bs,okX b:=λb hb=>g.own.ok hb
 have far1:dU [aR x y]:=bu4 _ _;have h1:=u6 far1 g.far ok1 ok2 (λp=>(same p).symm) (bp2.mpr rfl);have h2:∀b∈bs,b=aR x y:=λb hb=>bp2.mp (u6 g.far far1 ok2 ok1 same hb)
 match bs,h1,h2,g.far with
 |[b],_,h2,_=>rw[h2 b (by simp)]
 |b::b'::bs,_,h2,far=>
  have:=(List.pairwise_cons.mp far).1 b' (by simp)
  rw[h2 b (by simp),h2 b' (by simp),ad6 (tT okx)]at this;cases this
theorem bh5 {bs zs:List Bx}(g:yW S bs)(okx:okX x)(oky:okX y)(kx:∀p,aC x p->bJ r c p=true)(ky:∀p,aC y p->bJ r c p=true)(hS:∀p,p∈S↔aC x p∨aC y p)(nr:aX x y=false)(pz:zs.Perm [x,y])(so:zs.Pairwise λu v=>HT.aH v.k u.k=false):bs=zs:=by
 have same:∀p,(∃b∈bs,aC b p)↔∃b∈[x,y],aC b p:=λp=>by
  rw[g.own.burnt g.far (nZ kx ky hS) p,aj9 kx ky hS nr p];simp
 have far1:dU [x,y]:=List.pairwise_pair.mpr nr;have ok1:∀b∈[x,y],okX b:=λb hb=>by
  have:b=x∨b=y:=by simpa using hb
  rcases this with rfl|rfl
  ·exact okx
  ·exact oky
 have ok2:∀b∈bs,okX b:=λb hb=>g.own.ok hb
 have ndf:∀{T:List Bx},dU T->(∀b∈T,okX b)->T.Nodup:=λ{T} f k=>by
  unfold List.Nodup;exact (f.imp_of_mem λ{a b} ha _ h e=>by rw[<- e,ad6 (k a ha)]at h;cases h)
 have pb:bs.Perm [x,y]:=(bF6 (ndf g.far ok2) (ndf far1 ok1)).mpr λb=>
  ⟨λhb=>u6 g.far far1 ok2 ok1 same hb,λhb=>u6 far1 g.far ok1 ok2 (λp=>(same p).symm) hb⟩
 refine (pb.trans pz.symm).eq_of_pairwise (le:=λu v=>HT.aH v.k u.k=false) (λa b _ _ h1 h2=>?_) g.so so;exact Bx.k_inj (r6 h2 h1)
end
theorem ak0 {a b p g:Int}(ab:a<=b)(g0:0<=g)(h1:p-b<=g)(h2:a-p<=g):a<=max a (min b p)/\max a (min b p)<=b/\((max a (min b p)-p).natAbs:Int)<=g:=by
 rcases Int.le_total b p with m|m
 ·rw[Int.min_eq_left m,Int.max_eq_right ab];omega
 ·rw[Int.min_eq_right m]
  rcases Int.le_total a p with k|k
  ·rw[Int.max_eq_right k];omega
  ·rw[Int.max_eq_left k];omega
theorem bh6 {x y:Bx}(okx:okX x)(oky:okX y):aX x y=true↔∃p q:aV,aC x p/\aC y q/\((p.1-q.1).natAbs:Int)+((p.2-q.2).natAbs:Int)<=2:=by
 constructor
 ·intro nr
  obtain⟨g,h,g0,h0,gh,a1,a2,b1,b2⟩:=tR nr
  obtain⟨p1,q1,q2,q3,q4⟩:=tX okx.1 oky.1 g0 a1 a2
  obtain⟨p2,r1,r2,r3,r4⟩:=tX okx.2 oky.2 h0 b1 b2
  have ok1:=okx.1;have ok2:=okx.2
  obtain⟨c1,c2,c3⟩:=ak0 okx.1 g0 q3 q4
  obtain⟨e1,e2,e3⟩:=ak0 okx.2 h0 r3 r4
  exact⟨(max x.t (min x.b p1),max x.l (min x.r p2)),(p1,p2),⟨c1,c2,e1,e2⟩,⟨q1,q2,r1,r2⟩,bt8 (Int.add_le_add c3 e3) gh⟩
 ·rintro⟨p,q,hp,hq,d⟩
  unfold aC at hp hq;exact pU (g:=((p.1-q.1).natAbs:Int)) (h:=((p.2-q.2).natAbs:Int)) (by omega) (by omega) d (by omega) (by omega) (by omega) (by omega)
noncomputable def dG (x:Bx):Prop:=okX x/\0<=x.t/\0<=x.l/\x.b<=11/\x.r<=11/\x.b<=x.t+4/\x.r<=x.l+4
noncomputable def o0:cD:=λxs Q=>∃(ns:ae) (a:Int),xs = [.scr ns,.int a]/\ns.length<=63/\0<=a/\a<=900/\∀x:Bx,dG x->Q (aT x)
noncomputable def ak1:aS:=(aN (bH 2 (dN (aD fO (a6 (a5 0) (a6 (a5 1) aA))) (qC (.int 12))))
 (aN (bH 3 (dN (aD fO (a6 (a5 0) (a6 (bS (a5 1) (qC (.int 1))) aA))) (qC (.int 12))))
 (bX (eU (a6 (a5 2) (a6 (a5 3) (a6 (aD hJ (a6 (qC (.int 11)) (a6 (bS (a5 2) (dN (aD fO (a6 (a5 0) (a6 (bS (a5 1) (qC (.int 2))) aA))) (qC (.int 5)))) aA))) (a6 (aD hJ (a6 (qC (.int 11)) (a6 (bS (a5 3) (dN (aD fO (a6 (a5 0) (a6 (bS (a5 1) (qC (.int 3))) aA))) (qC (.int 5)))) aA))) aA))))))))
theorem ak2 (z y:Int):0<=z%12/\z%12<=(if z%12+y%5<11 then z%12+y%5 else 11)/\(if z%12+y%5<11 then z%12+y%5 else 11)<=11/\(if z%12+y%5<11 then z%12+y%5 else 11)<=z%12+4:=by
 have h0:0<=z%12:=bE4 _ (by decide);have h1:z%12<12:=Int.emod_lt_of_pos _ (by decide);have h2:0<=y%5:=bE4 _ (by decide);have h3:y%5<5:=Int.emod_lt_of_pos _ (by decide);generalize z%12=a at *;generalize y%5=b at *;split<;>omega
theorem bh7:dP ak1 ["script","at","top","left"] o0:=by
 rintro xs Q ⟨ns,a,rfl,hn,a0,a1,q⟩;refine⟨_,rfl,_,rfl,ns,a,rfl,hn,a0,by omega,λz1=>⟨z1,12,rfl,rfl,(by show (0:Int)<12;decide),trivial,?_⟩⟩;refine⟨_,rfl,_,rfl,a,1,rfl,rfl,ns,a+1,rfl,hn,by omega,by omega,λz2=>⟨z2,12,rfl,rfl,(by show (0:Int)<12;decide),trivial,?_⟩⟩;refine⟨_,rfl,_,rfl,_,rfl,_,rfl,_,rfl,a,2,rfl,rfl,ns,a+2,rfl,hn,by omega,by omega,λz3=>⟨z3,5,rfl,rfl,(by show (0:Int)<5;decide),z1%12,z3%5,rfl,rfl,11,z1%12+z3%5,rfl,_,rfl,_,rfl,_,rfl,a,3,rfl,rfl,ns,a+3,rfl,hn,by omega,by omega,λz4=>⟨z4,5,rfl,rfl,(by show (0:Int)<5;decide),z2%12,z4%5,rfl,rfl,11,z2%12+z4%5,rfl,by show 4<=1000;decide,rfl,trivial,?_⟩⟩⟩;have a1:=ak2 z1 z3;have a2:=ak2 z2 z4;exact q ⟨z1%12,z2%12,if z1%12+z3%5<11 then z1%12+z3%5 else 11,if z2%12+z4%5<11 then z2%12+z4%5 else 11⟩ ⟨⟨a1.2.1,a2.2.1⟩,a1.1,a2.1,a1.2.2.1,a2.2.2.1,a1.2.2.2,a2.2.2.2⟩
noncomputable def uE:cD:=λxs Q=>∃(x:Bx) (ns:ae) (a:Int),xs = [aT x,.scr ns,.int a]/\ns.length<=63/\0<=a/\a<=800/\∀y:Bx,dG y->Q (aT y)
noncomputable def ak3:aS:=(aN (bH 3 (aD kQ (a6 (qC (.int 0)) (a6 (aD hJ (a6 (qC (.int 11)) (a6 (a5 3) aA))) aA))))
 (aN (bH 4 (aD kQ (a6 (qC (.int 0)) (a6 (aD hJ (a6 (qC (.int 11)) (a6 (a5 4) aA))) aA))))
 (aN (bH 5 (dN (aD fO (a6 (a5 1) (a6 (bS (a5 2) (qC (.int 3))) aA))) (qC (.int 4))))
 (bX (eU (a6 (a5 3) (a6 (a5 4) (a6 (aD hJ (a6 (qC (.int 11)) (a6 (bS (a5 3) (a5 5)) aA))) (a6 (aD hJ (a6 (qC (.int 11)) (a6 (bS (a5 4) (dN (kT (aD fO (a6 (a5 1) (a6 (bS (a5 2) (qC (.int 3))) aA))) (qC (.int 4))) (qC (.int 4)))) aA))) aA)))))))))
theorem bh8 {x:Bx}{ns:ae}{a t l:Int}{y5:Option Slot}{Q:PV->Prop}(hn:ns.length<=63)(a0:0<=a)(a1:a<=800)(q:∀y:Bx,dG y->Q (aT y)):ak3 { nx:=λ_=>Q .non,rt:=Q } [some (.sh true (aT x)),some (.sh true (.scr ns)),si a,si t,si l,y5]:=by
 have cl:∀t:Int,0<=(if (if t<11 then t else 11)>0 then (if t<11 then t else 11) else (0:Int))/\(if (if t<11 then t else 11)>0 then (if t<11 then t else 11) else (0:Int))<=11:=λt=>by split<;>split<;>omega
 refine⟨_,rfl,11,t,rfl,0,_,rfl,trivial,?_⟩;have hT:=cl t;generalize (if (if t<11 then t else 11)>0 then (if t<11 then t else 11) else (0:Int))=T at hT ⊢;refine⟨_,rfl,11,l,rfl,0,_,rfl,trivial,?_⟩;have hL:=cl l;generalize (if (if l<11 then l else 11)>0 then (if l<11 then l else 11) else (0:Int))=L at hL ⊢;refine⟨_,rfl,_,rfl,a,3,rfl,rfl,ns,a+3,rfl,hn,by omega,by omega,λz=>⟨z,4,rfl,rfl,(by show (0:Int)<4;decide),trivial,?_⟩⟩;refine⟨_,rfl,_,rfl,_,rfl,_,rfl,T,z%4,rfl,rfl,11,T+z%4,rfl,_,rfl,_,rfl,_,rfl,a,3,rfl,rfl,ns,a+3,rfl,hn,by omega,by omega,λz2=>⟨_,_,rfl,rfl,⟨by decide,by decide⟩,z2/4,4,rfl,rfl,(by show (0:Int)<4;decide),L,z2/4%4,rfl,rfl,11,L+z2/4%4,rfl,by show 4<=1000;decide,rfl,trivial,?_⟩⟩;refine q ⟨T,L,if T+z%4<11 then T+z%4 else 11,if L+z2/4%4<11 then L+z2/4%4 else 11⟩ ?_;unfold dG okX;dsimp only;split<;>split<;>omega
noncomputable def ak4:aS:=(aN (dL (bF (wR (dN (aD fO (a6 (a5 1) (a6 (a5 2) aA))) (qC (.int 5))) (qC (.int 1)))) (bX (aD o0 (a6 (a5 1) (a6 (bS (a5 2) (qC (.int 1))) aA)))) dQ)
 (aN (bH 3 (jR (bS (b7 (a5 0) (oT (dN (kT (aD fO (a6 (a5 1) (a6 (a5 2) aA))) (qC (.int 5))) (qC (.int 2))) (qC (.int 2)))) (dN (aD fO (a6 (a5 1) (a6 (bS (a5 2) (qC (.int 1))) aA))) (qC (.int 9)))) (qC (.int 4))))
 (aN (bH 4 (jR (bS (b7 (a5 0) (bS (qC (.int 1)) (oT (dN (kT (aD fO (a6 (a5 1) (a6 (a5 2) aA))) (qC (.int 10))) (qC (.int 2))) (qC (.int 2))))) (dN (aD fO (a6 (a5 1) (a6 (bS (a5 2) (qC (.int 2))) aA))) (qC (.int 9)))) (qC (.int 4))))
 ak3)))
theorem bh9:dP ak4 ["box","script","at","top","left","high"] uE:=by
 rintro xs Q ⟨x,ns,a,rfl,hn,a0,a1,q⟩;refine⟨_,rfl,_,rfl,ns,a,rfl,hn,a0,by omega,λz=>⟨z,5,rfl,rfl,(by show (0:Int)<5;decide),.inl ⟨_,_,rfl,rfl,_,rfl,?_⟩⟩⟩;generalize hd:decide (z%5=1)=d;show if d=true then _ else _
 cases d with
 |true=>exact bQ ⟨_,rfl,_,rfl,a,1,rfl,rfl,ns,a+1,rfl,hn,by omega,by omega,λy hy=>⟨trivial,q y hy⟩⟩
 |false=>
  refine bE ?_;have ix0:∀z:Int,∃v,L2.atI [PV.int x.t,.int x.l,.int x.b,.int x.r] (z%2*2)=some (PV.int v):=λz=>by
   have:z%2=0∨z%2=1:=by omega
   rcases this with e|e<;>rw[e]<;>exact⟨_,rfl⟩
  have ix1:∀z:Int,∃v,L2.atI [PV.int x.t,.int x.l,.int x.b,.int x.r] (1+z%2*2)=some (PV.int v):=λz=>by
   have:z%2=0∨z%2=1:=by omega
   rcases this with e|e<;>rw[e]<;>exact⟨_,rfl⟩
  refine⟨_,rfl,_,rfl,_,rfl,ns,a,rfl,hn,a0,by omega,λz1=>⟨_,_,rfl,rfl,⟨by decide,by decide⟩,z1/5,2,rfl,rfl,(by show (0:Int)<2;decide),?_⟩⟩
  obtain⟨v,hv⟩:=ix0 (z1/5)
  refine⟨_,_,rfl,rfl,?_,_,_,_,rfl,rfl,hv,_,rfl,_,rfl,a,1,rfl,rfl,ns,a+1,rfl,hn,by omega,by omega,λz2=>⟨z2,9,rfl,rfl,(by show (0:Int)<9;decide),_,_,rfl,rfl,_,_,rfl,rfl,trivial,?_⟩⟩
  ·exact .inr ⟨by decide,by decide⟩
  refine⟨_,rfl,_,rfl,_,rfl,ns,a,rfl,hn,a0,by omega,λz3=>⟨_,_,rfl,rfl,⟨by decide,by decide⟩,z3/10,2,rfl,rfl,(by show (0:Int)<2;decide),?_⟩⟩
  obtain⟨v2,hv2⟩:=ix1 (z3/10)
  refine⟨_,_,rfl,rfl,?_,_,_,rfl,rfl,_,_,_,rfl,rfl,hv2,_,rfl,_,rfl,a,2,rfl,rfl,ns,a+2,rfl,hn,by omega,by omega,λz4=>⟨z4,9,rfl,rfl,(by show (0:Int)<9;decide),_,_,rfl,rfl,_,_,rfl,rfl,trivial,?_⟩⟩
  ·exact .inr ⟨by decide,by decide⟩
  exact bh8 hn a0 a1 q
noncomputable def iQ (p q:aV):Int:=mD (p.1-q.1)+mD (p.2-q.2)
theorem bi0 {x y:Bx}(okx:okX x)(oky:okX y):aX x y=true↔∃p q:aV,aC x p/\aC y q/\iQ p q<=2:=by
 rw[bh6 okx oky];have e:∀i:Int,mD i=(i.natAbs:Int):=λi=>by unfold mD;split<;>omega
 unfold iQ;simp only[e]
noncomputable def uF:cD:=λxs Q=>∃x y:Bx,xs = [aT x,aT y]/\kF x/\kF y/\∀n:Int,(n<3↔aX x y=true)->Q (.int n)
noncomputable def ak5:aS:=(aN (bH 2 (qC (.int 99)))
 (aN (fH (e8 (aD kG (a6 (a5 0) aA))) (cN 3)
  (fH (e8 (aD kG (a6 (a5 1) aA))) (cN 4)
   (bH 2 (aD hJ (a6 (a5 2) (a6 (bS (aD tJ (a6 (jR (b7 (a5 3) (qC (.int 0))) (b7 (a5 4) (qC (.int 0)))) aA)) (aD tJ (a6 (jR (b7 (a5 3) (qC (.int 1))) (b7 (a5 4) (qC (.int 1)))) aA))) aA))))))
 (jK 2)))
theorem bi1:dP ak5 ["one","other","least_steps","mine","theirs"] uF:=by
 rintro xs Q ⟨x,y,rfl,onx,ony,q⟩;refine⟨trivial,?_⟩;refine⟨_,rfl,x,rfl,onx,λK _ mem _=>⟨aK K,rfl,(λz=>by cases z),λi ρ=>∃(m:Int) (y3 y4:Option Slot),ρ = [some (.sh (flat (aT x)) (aT x)),some (.sh (flat (aT y)) (aT y)),si m,y3,y4]/\(m<3↔∃p∈K.take i,∃q,aC y q/\iQ p q<=2),⟨99,none,none,rfl,by simp⟩,?_,?_⟩⟩
 ·rintro i v ρ hv ⟨m,y3,y4,rfl,hm⟩
  obtain⟨p,rfl,hp⟩:=kY hv
  have tk:K.take (i+1)=K.take i++[p]:=by rw[bv5,hp];rfl
  refine⟨_,rfl,y,rfl,ony,λK2 _ mem2 _=>⟨aK K2,rfl,(λz=>by cases z),λj ρ=>∃(m:Int) (y4:Option Slot),ρ = [some (.sh (flat (aT x)) (aT x)),some (.sh (flat (aT y)) (aT y)),si m,some (.sh true (.tup [.int p.1,.int p.2])),y4]/\(m<3↔(∃p∈K.take i,∃q,aC y q/\iQ p q<=2)∨∃q∈K2.take j,iQ p q<=2),⟨m,y4,rfl,by rw[hm];simp⟩,?_,?_⟩⟩
  ·rintro j v ρ hv2 ⟨m,y4,rfl,hm⟩
   obtain⟨q2,rfl,hq2⟩:=kY hv2
   have tk2:K2.take (j+1)=K2.take j++[q2]:=by rw[bv5,hq2];rfl
   refine⟨_,rfl,_,rfl,_,_,_,rfl,rfl,rfl,_,rfl,_,_,_,rfl,rfl,rfl,p.1,q2.1,rfl,rfl,_,rfl,_,rfl,_,_,_,rfl,rfl,rfl,_,rfl,_,_,_,rfl,rfl,rfl,p.2,q2.2,rfl,rfl,_,rfl,mD (p.1-q2.1),mD (p.2-q2.2),rfl,rfl,m,iQ p q2,rfl,trivial,?_⟩;refine⟨if iQ p q2<m then iQ p q2 else m,some (.sh true (.tup [.int q2.1,.int q2.2])),rfl,?_⟩;rw[tk2]
   have:(if iQ p q2<m then iQ p q2 else m)<3↔m<3∨iQ p q2<=2:=by split<;>omega
   rw[this,hm];simp only[bs0,bp2,or_and_right,exists_or,exists_eq_left];rw[or_assoc]
  ·rintro ρ ⟨m,y4,rfl,hm⟩
   rw[gE,bx0]at hm;refine⟨m,_,_,rfl,?_⟩;rw[hm,tk];simp only[bs0,bp2,or_and_right,exists_or,exists_eq_left,mem2]
 ·rintro ρ ⟨m,y3,y4,rfl,hm⟩
  rw[gE,bx0]at hm;refine⟨_,rfl,trivial,q m ?_⟩;rw[hm,bi0 onx.1 ony.1];simp only[mem]
  exact⟨λ⟨p,h1,q,h2,h3⟩=>⟨p,q,h1,h2,h3⟩,λ⟨p,q,h1,h2,h3⟩=>⟨p,h1,q,h2,h3⟩⟩
end Core
namespace PP
open PySem L2
section
variable {X:Cx}{e:Expr}{te:aF}
noncomputable def ak6 (K:ac)(n:Nat)(t:jC):TG:=λv σ H Q=>∃a xs,v = .ref a/\aM K H a xs/\xs.length=n/\t xs σ H Q
theorem bi2 {es:List Expr}{k:Nat}{t:jC}{n:Nat}{pos:Pos}(hc:X.calm=true)(h:o7 X es t)(hn:(assignEach es X.env).length=n:=by rfl)(hst:(assignEach es X.env).findIdx? (·.1)=none:=by rfl):PG X (.Tuple es k pos) (ak6 X.K n t):=by
 intro ag s σ H v u Q I r hw
 obtain⟨a,xs,e1,hq,hl,hw⟩:=hw
 subst e1;cases r
 obtain⟨its,rv,ht,hz⟩:=I.list hq
 rw[PyProof.Rows.assign_Tuple];refine bo2 (wpAny_standAt ?_);unfold unpack;rw[hst,show (assignEach es X.env).length=its.toArray.size by rw[hn,<- hl,rv.length];simp];refine bo2 (bv9 (PySem.W.kun_itemsOf (I.ok.hd hc) ht.isList λh' hx=>?_));have I1:a8 X ag σ H { s with heap:=h' }:=I.kept (t':=s.toks) λb o e=>hx b o (br1 (bp9 e)) e
 exact h ag _ σ H xs _ Q I1 (by simpa using rv) hw
noncomputable def zD (i j k:Nat):hU:=λx g ρ Q=>∃y z u,x = .lst [y,z,u]/\Q (((ρ.set i (some (.sh (g||flat y) y))).set j (some (.sh (g||flat z) z))).set k (some (.sh (g||flat u) u)))
noncomputable abbrev bi3 (K:ac)(i j k:Nat):TG:=ak6 K 3 (fU (cW i) (fU (cW j) (fU (cW k) mJ)))
theorem bi4 (K:ac)(i j k:Nat):kS K (λn=>n=i∨n=j∨n=k) (zD i j k) (bi3 K i j k):=by
 intro H0 W σ ρ H v x g Q Q' px r q kk
 obtain⟨y,z,u,rfl,q⟩:=q
 obtain⟨a,us,rfl,_,h,r⟩:=r.sqL
 obtain⟨u1,u2,u3,rfl,r1,r2,r3⟩:=r.three
 refine⟨a,_,rfl,aM.of h,rfl,u1,_,rfl,u2,_,rfl,u3,_,rfl,rfl,kk _ _ (((px.setSh (iF r1)).setSh (iF r2)).setSh (iF r3)) (λn hn=>?_) (by simp only[bA5]) q⟩;rw[br9 (λe=>hn (.inr (.inr e.symm))),br9 (λe=>hn (.inr (.inl e.symm))),br9 (λe=>hn (.inl e.symm))]
theorem bi5 (i j k:Nat){x y z:Str}{tp xp yp zp pos:Pos}{kt:Nat}(hN:X.N.Nodup)(he:QE X e te)(n1:Nm X i x:=by exact⟨rfl,by first|exact Or.inl rfl|exact Or.inr rfl,by first|exact .inl rfl|exact .inr rfl⟩)(n2:Nm X j y:=by exact⟨rfl,by first|exact Or.inl rfl|exact Or.inr rfl,by first|exact .inl rfl|exact .inr rfl⟩)(n3:Nm X k z:=by exact⟨rfl,by first|exact Or.inl rfl|exact Or.inr rfl,by first|exact .inl rfl|exact .inr rfl⟩)(hc:X.calm=true:=by rfl)(hs:swapsWithSole [.Tuple [.Name x xp,.Name y yp,.Name z zp] kt tp] e pos.line X.env=pure false:=by rfl)(hw:swappedStores [.Tuple [.Name x xp,.Name y yp,.Name z zp] kt tp] e X.env=pure none:=by rfl) :
  QS X (.Assign [.Tuple [.Name x xp,.Name y yp,.Name z zp] kt tp] e pos) (pP (zD i j k) te):=
 eM (zU he (bi2 hc (i9 (fR hN n1.a n1.b n1.c) (i9 (fR hN n2.a n2.b n2.c) (i9 (fR hN n3.a n3.b n3.c) qJ)))) hs hw) λ_ _ _=>W9 (bi4 _ i j k)
end
end PP
namespace Core
open PySem L2 PP
noncomputable def qG:cD:=λxs Q=>∃c:Int,xs = [.int c]/\Q (.bl true)
noncomputable def ak7:aS:=(aN (dL (gO (bF (oU (aD i5 (a6 (a5 2) (a6 (a5 5) aA))) (a5 6))) (bF (oU (aD i5 (a6 (a5 5) (a6 (a5 2) aA))) (a5 6)))) (bX (qC (.bl false))) dQ)
 (bX (q2 (jP 2 false) (aD j6 (a6 (a5 5) (a6 (a5 2) aA))) (a5 7))))
noncomputable def ak8:aS:=(aN (dL (bF (wR (dN (kT (a5 0) (qC (.int 48))) (qC (.int 2))) (qC (.int 1)))) (pP (zD 2 5 7) (eV (e8 (jJ (a6 (a5 2) (a6 (a5 5) (a6 (a5 7) aA))))) [none] (cN 0) dM (eU (a6 (b7 (a5 0) (qC (.int 1))) (a6 (b7 (a5 0) (qC (.int 0))) (a6 (b7 (a5 0) (qC (.int 3))) (a6 (b7 (a5 0) (qC (.int 2))) aA))))))) dQ)
 ak7)
noncomputable def ak9:aS:=(aN (bH 1 (jR (dN (kT (a5 0) (qC (.int 64))) (O0 (qC (.int 10)) (qC (.int 50)))) (O0 (qC (.int 10)) (qC (.int 40)))))
 (aN (bH 2 (eU (a6 (a5 1) (a6 (qC (.int 7)) (a6 (bS (a5 1) (dN (a5 0) (qC (.int 3)))) (a6 (qC (.int 9)) aA))))))
 (aN (bH 3 (bS (qC (.int 1)) (dN (kT (a5 0) (qC (.int 3))) (qC (.int 4)))))
 (aN (bH 4 (dN (kT (a5 0) (qC (.int 12))) (qC (.int 4))))
 (aN (bH 5 (eU (a6 (bS (b7 (a5 2) (qC (.int 2))) (a5 3)) (a6 (bS (qC (.int 9)) (a5 4)) (a6 (bS (b7 (a5 2) (qC (.int 2))) (a5 3)) (a6 (bS (qC (.int 10)) (a5 4)) aA))))))
 (aN (bH 6 (lU (bS (a5 3) (a5 4)) (qC (.int 3))))
 (aN (bH 7 (eU (a6 (a5 1) (a6 (qC (.int 7)) (a6 (bS (b7 (a5 2) (qC (.int 2))) (a5 3)) (a6 (bS (qC (.int 10)) (a5 4)) aA))))))
 ak8)))))))
noncomputable def j8 (x:Bx):Bx:=⟨x.l,x.t,x.r,x.b⟩
theorem bi6 (x y:Bx):aX (j8 x) (j8 y)=aX x y:=by
 unfold aX j8;dsimp only;rw[Int.add_comm]
theorem al0 {c a1 a3 a4:Int}{x y h:Bx}{d:Bool}{Q:PV->Prop}(n1:aX x y=d)(hh:aR y x=h)(q:Q (.bl true)) :
  ak7 { nx:=λ_=>Q .non,rt:=Q } [si c,si a1,some (.sh true (aT x)),si a3,si a4,some (.sh true (aT y)),some (.sh true (.bl d)),some (.sh true (aT h))]:=by
 have n2:aX y x=d:=by rw[nV];exact n1
 refine⟨_,rfl,_,rfl,x,y,rfl,_,rfl,.inr ⟨_,_,rfl,rfl,_,rfl,?_⟩⟩;show if (!decide (aX x y=d))=true then _ else _
 rw[bp8 n1];refine bE ⟨_,rfl,_,rfl,y,x,rfl,_,rfl,.inr ⟨_,_,rfl,rfl,_,rfl,?_⟩⟩;show if (!decide (aX y x=d))=true then _ else _
 rw[bp8 n2];refine bE ⟨_,rfl,_,rfl,y,x,rfl,_,rfl,.inl ⟨_,_,rfl,rfl⟩,wN 2 _ _,trivial,?_⟩;show Q (.bl (bL 3 (.tup (intz (aR y x).k)) (.tup (intz h.k))));rw[wL,hh,bp8 rfl];exact q
theorem bi7 {c a1 a3 a4:Int}{x y h:Bx}{d:Bool}{Q:PV->Prop}(n1:aX x y=d)(hh:aR y x=h)(q:Q (.bl true)) :
  ak8 { nx:=λ_=>Q .non,rt:=Q } [si c,si a1,some (.sh true (aT x)),si a3,si a4,some (.sh true (aT y)),some (.sh true (.bl d)),some (.sh true (aT h))]:=by
 refine⟨_,rfl,_,_,rfl,rfl,⟨by decide,by decide⟩,c/48,2,rfl,rfl,(by show (0:Int)<2;decide),.inl ⟨_,_,rfl,rfl,_,rfl,?_⟩⟩;generalize hd:decide (c/48%2=1)=b;show if b=true then _ else _
 cases b with
 |false=>exact bE (al0 n1 hh q)
 |true=>
  refine bQ ⟨_,rfl,_,rfl,_,rfl,by show 3<=1000;decide,rfl,[aT x,aT y,aT h],rfl,(λz=>by cases z),by show 3<=16000000;decide,λi acc=>acc=(([x,y,h].take i).map λb=>aT (j8 b)),rfl,?_,?_⟩
  ·rintro i v acc hv rfl
   have:∃b:Bx,v=aT b/\[x,y,h][i]? = some b:=pY (bs:=[x,y,h]) hv
   obtain⟨b,rfl,hb⟩:=this
   refine pW (pX b) ?_;refine⟨_,rfl,_,_,_,rfl,rfl,rfl,_,rfl,_,_,_,rfl,rfl,rfl,_,rfl,_,_,_,rfl,rfl,rfl,_,rfl,_,_,_,rfl,rfl,rfl,by show 4<=1000;decide,rfl,trivial,?_⟩;dsimp only;rw[bv5,hb,br8];rfl
  ·rintro acc rfl
   refine⟨trivial,aT (j8 x),aT (j8 y),aT (j8 h),rfl,?_⟩;refine al0 (x:=j8 x) (y:=j8 y) (h:=j8 h) (by rw[bi6];exact n1) ?_ q;subst hh;rfl
theorem bi8:dP ak9 ["cell","far","one","down","along","other","due","hull"] qG:=by
 rintro xs Q ⟨c,rfl,q⟩;refine⟨_,rfl,_,_,rfl,rfl,⟨by decide,by decide⟩,_,_,rfl,rfl,⟨by decide,by decide,by decide⟩,_,_,rfl,rfl,(by show (0:Int)<10^(50:Int).toNat;decide),_,_,rfl,rfl,⟨by decide,by decide,by decide⟩,_,_,rfl,rfl,trivial,?_⟩;dsimp only;generalize c/64%10^(50:Int).toNat-10^(40:Int).toNat=f;refine⟨_,rfl,_,rfl,_,rfl,_,_,rfl,rfl,(by show (0:Int)<3;decide),f,c%3,rfl,rfl,by show 4<=1000;decide,rfl,trivial,?_⟩;refine⟨_,rfl,_,_,rfl,rfl,⟨by decide,by decide⟩,c/3,4,rfl,rfl,(by show (0:Int)<4;decide),1,c/3%4,rfl,rfl,trivial,?_⟩;refine⟨_,rfl,_,_,rfl,rfl,⟨by decide,by decide⟩,c/12,4,rfl,rfl,(by show (0:Int)<4;decide),trivial,?_⟩;dsimp only;have g0:0<=c%3:=bE4 _ (by decide);have d0:0<=c/3%4:=bE4 _ (by decide);have a0:0<=c/12%4:=bE4 _ (by decide);generalize c%3=g at g0 ⊢;generalize c/3%4=d at d0 ⊢;generalize c/12%4=a at a0 ⊢;refine⟨_,rfl,_,_,_,rfl,rfl,rfl,_,rfl,f+g,1+d,rfl,rfl,_,rfl,9,a,rfl,rfl,_,rfl,_,_,_,rfl,rfl,rfl,_,rfl,f+g,1+d,rfl,rfl,_,rfl,10,a,rfl,rfl,by show 4<=1000;decide,rfl,trivial,?_⟩;refine⟨_,rfl,_,rfl,1+d,a,rfl,rfl,1+d+a,3,rfl,rfl,trivial,?_⟩;refine⟨_,rfl,_,rfl,_,_,_,rfl,rfl,rfl,_,rfl,f+g,1+d,rfl,rfl,_,rfl,10,a,rfl,rfl,by show 4<=1000;decide,rfl,trivial,?_⟩;refine bi7 (x:=⟨f,7,f+g,9⟩) (y:=⟨f+g+(1+d),9+a,f+g+(1+d),10+a⟩) (h:=⟨f,7,f+g+(1+d),10+a⟩) (d:=decide (1+d+a<3)) ?_ ?_ q
 ·unfold aX l7
  dsimp only;congr 1;exact propext ⟨λh=>by omega,λh=>by omega⟩
 ·unfold aR
  dsimp only;congr 1<;>omega
noncomputable def zE:cD:=V7
noncomputable def al1:aS:=(aN (dL (iU (rN (a5 3))) (dL (gO (bF (q2 (jP 2 true) (aD (pT λ_=>False) (a6 (qC (.int 12)) (a6 (qC (.int 12)) (a6 (a5 5) aA)))) (aD oV (a6 (a5 5) aA)))) (bF (q2 (jP 2 true) (aD (qB λ_=>False) (a6 (qC (.int 12)) (a6 (qC (.int 12)) (a6 (a5 5) aA)))) (aD xH (a6 (jJ (a6 (a5 1) (a6 (a5 2) aA))) aA))))) (bX (qC (.bl false))) dQ) (dL (gO (bF (q2 (jP 2 true) (aD (pT λ_=>False) (a6 (qC (.int 12)) (a6 (qC (.int 12)) (a6 (a5 5) aA)))) (aD oV (a6 (aD kG (a6 (a5 6) aA)) aA)))) (bF (q2 (jP 2 true) (aD (qB λ_=>False) (a6 (qC (.int 12)) (a6 (qC (.int 12)) (a6 (a5 5) aA)))) (jJ (a6 (a5 6) aA))))) (bX (qC (.bl false))) dQ))
 (bX (aD qG (a6 (aD m7 (a6 (a5 0) (a6 (qC (.int 0)) aA))) aA))))
noncomputable def al2 (K:ac):aS:=(aN (bH 7 (eV (rP (qC (.int 2))) [none,some 5] (cN 0) dM (aD y9 (a6 (eV (e8 (a5 1)) [none,some 0] (cN 0) dM (b7 (a5 0) (a5 1))) aA))))
 (aN (bH 8 (eV (rP (qC (.int 2))) [none,some 5] (cN 0) dM (aD yA (a6 (eV (e8 (a5 1)) [none,some 0] (cN 0) dM (b7 (a5 0) (a5 1))) aA))))
 (aN (dL (gO (iU (bF (jO K "tuple" (a5 6)))) (gO (bF (q2 (jP 2 true) (aD rL (a6 (a5 6) aA)) (xK (a5 7) (a5 8)))) (iU (bF (aD sW (a6 (b7 (a5 6) (qC (.int 0))) aA)))))) (bX (qC (.bl false))) dQ)
 al1)))
noncomputable def al3 (K:ac):aS:=(aN (bH 5 (aD aj6 (a6 (xK (aD kG (a6 (a5 1) aA)) (aD kG (a6 (a5 2) aA))) aA)))
 (aN (bH 6 (aD j6 (a6 (a5 1) (a6 (a5 2) aA))))
 (al2 K)))
noncomputable def al4 (K:ac):aS:=(aN (bH 1 (aD o0 (a6 (a5 0) (a6 (qC (.int 1)) aA))))
 (aN (bH 2 (aD uE (a6 (a5 1) (a6 (a5 0) (a6 (qC (.int 5)) aA)))))
 (aN (bH 3 (lU (aD uF (a6 (a5 1) (a6 (a5 2) aA))) (qC (.int 3))))
 (aN (bH 4 (aD i5 (a6 (a5 1) (a6 (a5 2) aA))))
 (aN (dL (gO (iU (bF (jO K "bool" (a5 4)))) (gO (bF (oU (a5 4) (a5 3))) (bF (oU (aD i5 (a6 (a5 2) (a6 (a5 1) aA))) (a5 3))))) (bX (qC (.bl false))) dQ)
 (al3 K))))))
theorem al5 {α:Type}[DecidableEq α]:∀{xs ys:List α},xs.Nodup->(∀x∈xs,x∈ys)->xs.length<=ys.length
 |[],_,_,_=>bt5 _
 |x::xs,ys,nd,h=>by
  have hx:=h x (by simp)
  have:=al5 (xs:=xs) (ys:=ys.erase x) (bC1.mp nd).2 λy hy=>(List.mem_erase_of_ne (λe:y=x=>(bC1.mp nd).1 (e▸hy))).mpr (h y (by simp[hy]))
  rw[List.length_erase_of_mem hx]at this
  have:=List.length_pos_of_mem hx
  simp only[bs9];omega
theorem bi9 {zs:ad}{A:List aV}(h:∀z,z∈zs->z∈A.map two):∃K:List aV,zs=K.map two:=by
 refine⟨zs.map λr=>(r.getD 0 0,r.getD 1 0),?_⟩;rw[bw0];refine (List.map_id zs).symm.trans (List.map_congr_left λz hz=>?_)
 obtain⟨p,_,rfl⟩:=br5.mp (h z hz)
 rfl
theorem dG.on {x:Bx}(h:dG x):kF x:=by unfold dG at h;exact⟨h.1,by omega,by omega,by omega,by omega⟩
theorem dG.bd {x:Bx}(h:dG x)(p:aV)(hp:aC x p):bJ 12 12 p=true:=by
 unfold dG at h;unfold aC at hp;exact nT.mpr (by omega)
theorem dG.few {x:Bx}{K:List aV}(h:dG x)(nd:K.Nodup)(m:∀p∈K,aC x p):K.length<=25:=by
 unfold dG at h
 have:=t7 25 (K.map λp=>((p.1-x.t)*5+(p.2-x.l)).toNat) (by
  refine bu7.mpr (nd.imp_of_mem λ{a b} ha hb hab e=>hab ?_);have i1:=m a ha;have i2:=m b hb;unfold aC at i1 i2
  exact bC8 (by omega) (by omega)) λn hn=>by
   obtain⟨p,hp,rfl⟩:=br5.mp hn
   have i1:=m p hp;unfold aC at i1;omega
 rwa [bo7]at this
noncomputable def fK (k:Int)(p:aV):Int:=if k=0 then p.1 else p.2
theorem bj0 {K:List aV}{k:Int}{m:Option Slot}{P:PV->Tg->Prop}(hk:k=0∨k=1)(hl:K.length<=1600)(q:P (.lst (intz (K.map (fK k)))) .fr) :
  eV (e8 (a5 1)) [none,some 0] (cN 0) dM (b7 (a5 0) (a5 1)) [some (.sh true (.int k)),some (.sh false (.lst (aK K)))] P:=by
 refine⟨_,rfl,aK K,rfl,(λz=>by cases z),by rw[gE];omega,λi acc=>acc=intz ((K.take i).map (fK k)),rfl,?_,?_⟩
 ·rintro i v acc hv rfl
  obtain⟨p,rfl,hp⟩:=kY hv
  have tk:K.take (i+1)=K.take i++[p]:=by rw[bv5,hp];rfl
  refine pW rfl ?_;refine⟨_,rfl,_,rfl,_,k,_,rfl,rfl,(?_:L2.atI [PV.int p.1,.int p.2] k=some (.int (fK k p))),trivial,?_⟩
  ·rcases hk with rfl|rfl<;>rfl
  ·dsimp only;rw[tk,br8,aN4];rfl
 ·rintro acc rfl
  rw[gE,bx0];exact q
theorem al6 {ρ:bG}{A B:Prop}(h:A):dM ρ (λb=>if b=true then A else B):=by
 show (if true=true then A else B);rw[if_pos rfl];exact h
theorem al7 {R:List PV->(PV->Prop)->Prop}{K:List aV}{k:Int}{P:PV->Tg->Prop}(hk:k=0∨k=1)(hl:K.length<=1600)(q:R [.lst (intz (K.map (fK k)))] λz=>P z .fr) :
  aD R (a6 (eV (e8 (a5 1)) [none,some 0] (cN 0) dM (b7 (a5 0) (a5 1))) aA) [some (.sh true (.int k)),some (.sh false (.lst (aK K)))] P:=by
 unfold aD a6 aA;exact bj0 (m:=none) hk hl q
theorem bj1 {x y:Bx}{K:List aV}(okx:okX x)(oky:okX y)(hK:∀p,p∈K↔aC x p∨aC y p){k M:Int}(hk:k=0∨k=1)(m1:M∈K.map (fK k))(m2:∀z∈K.map (fK k),M<=z):M=if k=0 then (aR x y).t else (aR x y).l:=by
 unfold okX at okx oky;have a:=m2 _ (br5.mpr ⟨(x.t,x.l),(hK _).mpr (.inl ⟨bo9 _,okx.1,bo9 _,okx.2⟩),rfl⟩);have b:=m2 _ (br5.mpr ⟨(y.t,y.l),(hK _).mpr (.inr ⟨bo9 _,oky.1,bo9 _,oky.2⟩),rfl⟩)
 obtain⟨p,hp,rfl⟩:=br5.mp m1
 have hp:=(hK p).mp hp;unfold aC at hp;unfold aR;rcases hk with rfl|rfl
 ·rw[if_pos rfl];unfold fK at *;rw[if_pos rfl]at *;dsimp only at *;rw[if_pos rfl]at *;omega
 ·rw[if_neg (by decide)];unfold fK at *;rw[if_neg (by decide)]at *;dsimp only at *;rw[if_neg (by decide)]at *;omega
theorem bj2 {x y:Bx}{K:List aV}(okx:okX x)(oky:okX y)(hK:∀p,p∈K↔aC x p∨aC y p){k M:Int}(hk:k=0∨k=1)(m1:M∈K.map (fK k))(m2:∀z∈K.map (fK k),z<=M):M=if k=0 then (aR x y).b else (aR x y).r:=by
 unfold okX at okx oky;have a:=m2 _ (br5.mpr ⟨(x.b,x.r),(hK _).mpr (.inl ⟨okx.1,bo9 _,okx.2,bo9 _⟩),rfl⟩);have b:=m2 _ (br5.mpr ⟨(y.b,y.r),(hK _).mpr (.inr ⟨oky.1,bo9 _,oky.2,bo9 _⟩),rfl⟩)
 obtain⟨p,hp,rfl⟩:=br5.mp m1
 have hp:=(hK p).mp hp;unfold aC at hp;unfold aR;rcases hk with rfl|rfl
 ·rw[if_pos rfl];unfold fK at *;rw[if_pos rfl]at *;dsimp only at *;rw[if_pos rfl]at *;omega
 ·rw[if_neg (by decide)];unfold fK at *;rw[if_neg (by decide)]at *;dsimp only at *;rw[if_neg (by decide)]at *;omega
section
variable {F:ac}{ns:ae}{x y:Bx}{K:List aV}{b:Bool}{Q:PV→Prop}
theorem bj3 {x y:Bx}(ox:dG x)(oy:dG y):kF (aR x y):=by
 unfold dG at ox oy;refine⟨tT ox.1,?_⟩;unfold aR;dsimp only;omega
theorem bj4 (ox:dG x)(oy:dG y)(hK:∀p,p∈K↔aC x p∨aC y p)(oK:K.Pairwise dA)(kl:K.length<=1600)(q:Q (.bl true))(y7 y8:Option Slot) :
  al1 { nx:=λ_=>Q .non,rt:=Q } [some (.sh true (.scr ns)),some (.sh true (aT x)),some (.sh true (aT y)),some (.sh true (.bl (aX x y))),some (.sh true (.bl b)),some (.sh true (.lst (aK K))),some (.sh true (aT (aR x y))),y7,y8]:=by
 have okb:cR 12 12:=by unfold cR;decide
 have bd:=nZ ox.bd oy.bd hK;have st:gR 12 12 K:=⟨oK,bd⟩;have no1:¬cR 12 12->False:=λz=>z okb
 have no2:cR 12 12->¬gR 12 12 K->False:=λ_ z=>z st
 have l4:K.length<=4096:=by omega
 have fin:∀(m:bG->Prop),(bX (aD qG (a6 (aD m7 (a6 (a5 0) (a6 (qC (.int 0)) aA))) aA))) { nx:=λ_=>Q .non,rt:=Q } [some (.sh true (.scr ns)),some (.sh true (aT x)),some (.sh true (aT y)),some (.sh true (.bl (aX x y))),some (.sh true (.bl b)),some (.sh true (.lst (aK K))),some (.sh true (aT (aR x y))),y7,y8]:=λm=>⟨_,rfl,_,ns,0,rfl,.inl rfl,by decide,_,rfl,trivial,q⟩
 cases nr:aX x y with
 |false=>
  rw[nr]at fin;refine⟨_,rfl,_,rfl,?_⟩;refine bQ ⟨_,rfl,12,12,_,K,rfl,.inr rfl,l4,no1,no2,λ_ _ K2 ord2 mem2 l2=>⟨_,rfl,⟨_,_,rfl,rfl,jZ _,?_⟩,λns z=>by cases z⟩⟩;have e:K2=K:=aa2 ((bF6 (hV ord2) (hV oK)).mpr λp=>((mem2 p).trans (aj9 ox.bd oy.bd hK nr p)).trans (hK p).symm) ord2 oK;subst e
  obtain⟨_,p5,p6⟩:=ac5 K2
  refine⟨.inl ⟨_,_,rfl,rfl⟩,p5,_,rfl,?_⟩;show if (!bL 3 (.tup (aK K2)) (.tup (aK K2)))=true then _ else _
  rw[p6];refine bE ⟨_,rfl,12,12,_,K2,rfl,.inr rfl,l4,no1,no2,λ_ _ bs g=>⟨_,rfl,_,rfl,by show 2<=1000;decide,rfl,[x.k,y.k],rfl,by show 2<64;decide,λr hr=>?_,λZ pz so=>?_⟩⟩
  ·have:r=x.k∨r=y.k:=by simpa using hr
   rcases this with rfl|rfl<;>exact List.cons_ne_nil _ _
  ·obtain⟨zs,rfl,pb⟩:=ag2 (f:=Bx.k) (l:=[x,y]) pz
   rw[bu7]at so;have e:=bh5 g ox.1 oy.1 ox.bd oy.bd hK nr pb so;subst e;refine⟨.inr ⟨_,_,rfl,rfl⟩,pQ 1 _ _,_,rfl,?_⟩;show if (!bL 3 (.lst (tups (bs.map Bx.k))) (.lst (tups (bs.map Bx.k))))=true then _ else _
   rw[t8,bp8 rfl];exact bE (fin λ_=>True)
 |true=>
  rw[nr]at fin;refine⟨_,rfl,_,rfl,?_⟩;have oh:=bj3 ox oy;refine bE ⟨_,rfl,12,12,_,K,rfl,.inr rfl,l4,no1,no2,λ_ _ K2 ord2 mem2 l2=>⟨_,rfl,aR x y,rfl,oh,λK3 ord3 mem3 l3=>⟨⟨_,_,rfl,rfl,jZ _,?_⟩,λns z=>by cases z⟩⟩⟩;have e:K2=K3:=aa2 ((bF6 (hV ord2) (hV ord3)).mpr λp=>((mem2 p).trans (aj8 ox.1 oy.1 ox.bd oy.bd hK nr p)).trans (mem3 p).symm) ord2 ord3;subst e
  obtain⟨_,p5,p6⟩:=ac5 K2
  refine⟨.inl ⟨_,_,rfl,rfl⟩,p5,_,rfl,?_⟩;show if (!bL 3 (.tup (aK K2)) (.tup (aK K2)))=true then _ else _
  rw[p6];refine bE ⟨_,rfl,12,12,_,K,rfl,.inr rfl,l4,no1,no2,λ_ _ bs g=>⟨_,rfl,by show 1<=1000;decide,rfl,?_⟩⟩;have e:=bh4 g ox.1 oy.1 ox.bd oy.bd hK nr;subst e;refine⟨.inr ⟨_,_,rfl,rfl⟩,pQ 1 [(aR x y).k] [(aR x y).k],_,rfl,?_⟩;show if (!bL 3 (.lst (tups [(aR x y).k])) (.lst (tups [(aR x y).k])))=true then _ else _
  rw[t8,bp8 rfl];exact bE (fin λ_=>True)
theorem bj5 (kt:PySem.W.kitOne F (.type "tuple") (.type "tuple")=some true)(ox:dG x)(oy:dG y)(hK:∀p,p∈K↔aC x p∨aC y p)(oK:K.Pairwise dA)(kl:K.length<=1600)(q:Q (.bl true)) :
  al2 F { nx:=λ_=>Q .non,rt:=Q } [some (.sh true (.scr ns)),some (.sh true (aT x)),some (.sh true (aT y)),some (.sh true (.bl (aX x y))),some (.sh true (.bl b)),some (.sh true (.lst (aK K))),some (.sh true (aT (aR x y))),none,none]:=by
 have ne:∀k,K.map (fK k)≠[]:=λk z=>by
  have:(x.t,x.l)∈K:=(hK _).mpr (.inl ⟨bo9 _,ox.1.1,bo9 _,ox.1.2⟩)
  rw[List.map_eq_nil_iff.mp z]at this;cases this
 refine⟨2,rfl,by decide,by decide,by show 2<=16000000;decide,λi acc=>acc=intz ([(aR x y).t,(aR x y).l].take i),rfl,?_,?_⟩
 ·rintro i v acc hv rfl
  obtain⟨rfl,hi⟩:=sU hv
  have hi:i<2:=hi;rw[show (0:Int)+(i:Int)=(i:Int) by omega];refine sY ?_;refine al6 ?_;refine al7 (k:=(i:Int)) (by omega) kl ?_;refine⟨_,rfl,ne _,λM m1 m2=>⟨trivial,?_⟩⟩;have e:=bj1 ox.1 oy.1 hK (by omega) m1 m2;subst e;rcases (show i=0∨i=1 by omega) with rfl|rfl<;>rfl
 ·rintro acc rfl
  refine⟨trivial,?_⟩;refine⟨2,rfl,by decide,by decide,by show 2<=16000000;decide,λi acc=>acc=intz ([(aR x y).b,(aR x y).r].take i),rfl,?_,?_⟩
  ·rintro i v acc hv rfl
   obtain⟨rfl,hi⟩:=sU hv
   have hi:i<2:=hi;rw[show (0:Int)+(i:Int)=(i:Int) by omega];refine sY ?_;refine al6 ?_;refine al7 (k:=(i:Int)) (by omega) kl ?_;refine⟨_,rfl,ne _,λM m1 m2=>⟨trivial,?_⟩⟩;have e:=bj2 ox.1 oy.1 hK (by omega) m1 m2;subst e;rcases (show i=0∨i=1 by omega) with rfl|rfl<;>rfl
  ·rintro acc rfl
   refine⟨trivial,?_⟩;refine⟨_,rfl,_,_,rfl,kt,_,rfl,bE ⟨_,rfl,_,_,rfl,rfl,mR _,_,rfl,_,rfl,intz [(aR x y).t,(aR x y).l],intz [(aR x y).b,(aR x y).r],rfl,rfl,mR _,mR _,by show 4<=16000000;decide,.inr ⟨_,_,rfl,rfl⟩,aI3 2 (aR x y).k (aR x y).k,_,rfl,?_⟩⟩;show if (!bL 3 (.lst (intz (aR x y).k)) (.lst (intz (aR x y).k)))=true then _ else _
   rw[aI2,bp8 rfl];refine bE ⟨_,rfl,_,_,_,rfl,rfl,rfl,_,rfl,_,rfl,bE ?_⟩;exact bj4 ox oy hK oK kl q _ _
theorem bj6 (kt:PySem.W.kitOne F (.type "tuple") (.type "tuple")=some true)(ox:dG x)(oy:dG y)(q:Q (.bl true)) :
  al3 F { nx:=λ_=>Q .non,rt:=Q } [some (.sh true (.scr ns)),some (.sh true (aT x)),some (.sh true (aT y)),some (.sh true (.bl (aX x y))),some (.sh true (.bl b)),none,none,none,none]:=by
 refine⟨_,rfl,x,rfl,ox.on,λA oA mA lA=>⟨_,rfl,y,rfl,oy.on,λB oB mB lB=>?_⟩⟩;have la:=ox.few (hV oA) λp hp=>(mA p).mp hp
 have lb:=oy.few (hV oB) λp hp=>(mB p).mp hp
 refine⟨aK A,aK B,rfl,rfl,jZ _,jZ _,by rw[gE,gE];omega,(A++B).map two,by rw[be1,xJ];rfl,by rw[bo7,br0];omega,λr hr=>?_,λms nd hm=>?_,λzs nd so hz=>⟨trivial,?_⟩⟩
 ·obtain⟨p,_,rfl⟩:=br5.mp hr
  exact List.cons_ne_nil _ _
 ·have:=al5 nd λz hz=>(hm z).mp hz
  rw[bo7,br0]at this;omega
 ·obtain⟨K,rfl⟩:=bi9 λz w=>(hz z).mp w
  have ndK:K.Nodup:=List.Pairwise.of_map two (λa b h e=>h (congrArg two e)) nd;have oK:K.Pairwise dA:=aO3 so ndK;have hK:∀p,p∈K↔aC x p∨aC y p:=λp=>by
   have i:∀L:List aV,two p∈L.map two↔p∈L:=λL=>⟨λh=>by obtain⟨r,hr,e⟩:=br5.mp h;rw[<- aR6 e];exact hr,λh=>br5.mpr ⟨p,h,rfl⟩⟩
   rw[<- i K,hz,i,bs0,mA,mB]
  have kl:K.length<=1600:=tO (r:=12) (c:=12) (by unfold cR;decide) ndK (nZ ox.bd oy.bd hK);rw[show ((K.map two).map λr=>PV.tup (intz r))=aK K from (xJ K).symm];refine⟨_,rfl,_,rfl,x,y,rfl,trivial,?_⟩;exact bj5 kt ox oy hK oK kl q
end
theorem bj7 {F:ac}(kb:PySem.W.kitOne F (.type "bool") (.type "bool")=some true)(kt:PySem.W.kitOne F (.type "tuple") (.type "tuple")=some true):dP (al4 F) ["script","one","other","due","found","every","told","lows","highs"] zE:=by
 rintro xs Q ⟨ns,rfl,hn,q⟩;refine⟨_,rfl,ns,1,rfl,hn,by decide,by decide,λx ox=>⟨trivial,?_⟩⟩;refine⟨_,rfl,_,rfl,x,ns,5,rfl,hn,by decide,by decide,λy oy=>⟨trivial,?_⟩⟩;refine⟨_,rfl,_,rfl,x,y,rfl,ox.on,oy.on,λn hn3=>⟨n,3,rfl,rfl,trivial,?_⟩⟩;have ed:decide (n<3)=aX x y:=by
  cases e:aX x y with
  |true=>exact bp8 (hn3.mpr e)
  |false=>exact bp6 λz=>by rw[hn3.mp z]at e;cases e
 dsimp only;rw[ed];refine⟨_,rfl,_,rfl,x,y,rfl,trivial,?_⟩;refine⟨_,rfl,_,_,rfl,kb,_,rfl,bE ⟨_,rfl,_,rfl,.inr ⟨_,_,rfl,rfl,_,rfl,?_⟩⟩⟩;show if (!decide (aX x y=aX x y))=true then _ else _
 rw[bp8 rfl];refine bE ⟨_,rfl,_,rfl,y,x,rfl,_,rfl,.inr ⟨_,_,rfl,rfl,_,rfl,?_⟩⟩;show if (!decide (aX y x=aX x y))=true then _ else _
 rw[bp8 (nV y x)];exact bE (bj6 kt ox oy q)
end Core
namespace K_k61
open PySem PySem.W L2 PP Core
theorem _root_.L2.FnScope.au {N P:List Str}{s:Scope}(a:s.kind=.function:=by rfl)(b:s.isCoroutine=false:=by rfl)(c:s.isGenerator=false:=by rfl)(d:N.Nodup:=by decide +kernel)(e:N.take P.length=P:=by rfl)(f:∀x∈P,s.names.lookup x=some .local∨s.names.lookup x=some .cell:=by decide +kernel)(g:∀y∈s.names,y.2≠.free:=by decide +kernel):FnScope N P s:=⟨a,b,c,d,e,f,g⟩
noncomputable def bC (i:Nat):Stmt:=PySem.Challenge.pw_kindleweb_k61_whole_two_boxes.main.body.getD i (.Pass ⟨0,0,0,0⟩)
structure FK (K:Frag)(n:Str)(i:Nat)(f:ay)(d:FuncData):Prop where
 a:nsIn K mainGlobals n=some (some (.ref f))
 F:gJ K n n (bC i) f d
structure FM (K:Frag)(mg:Str->Option av)(n:Str)(i:Nat)(f:ay)(d:FuncData):Prop where
 F:gJ K n n (bC i) f d
 m:mg n=some (.ref f)
theorem FK.M {K:Frag}{mg:Str->Option av}{n:Str}{i:Nat}{f:ay}{d:FuncData}{h:Heap}(z:FK K n i f d)(X:K.In h)(G:h.Ns mainGlobals mg):FM K mg n i f d:=⟨z.F,mg_of X G z.a⟩
noncomputable abbrev Hb (x:Str)(ps:List Str)(i:Nat):Prop:=∀(kV doc pm:av) (an:Option ay) (cdv ct:av) (us:List av),us.length=ps.length->bindArgs (fnOf x x (jF (bC i)) (eO (bC i)) (b6 (bC i)) .none kV doc pm an cdv ct) ⟨us,[]⟩=pure (ps.zip us)
theorem uG {A:ba}{k:Nat}(hr:cI k A):A.units+3<cLine:=by have:=hr.units;omega
section
variable {P:az}{w:bc}{K:Frag}{mg:Str→Option av}{base:Heap}{f:ay}{fd:FuncData}{k i:Nat}{x:Str}{ps N:List Str}
theorem Df.au {p:cD}(F:FM K mg x i f fd)(S:FnScope N ps (b6 (bC i)))(body:∀(cdv:av) (A:ba) (outer:List Env) (s:ax) (H:Hp) (E:XK),cI k (A.deeper (PyProof.Rows.envOfC x (b6 (bC i)) s.heap.objs.size f cdv))->∃t,fJ (dH g9 P w K mg base N x (b6 (bC i)) f cdv A outer s H E).nox (eO (bC i)) t/\∀xs Q,p xs Q->t { nx:=λ_=>Q .non,rt:=Q } (gB N xs))(hb:Hb x ps i:=by intro _ _ _ _ _ _ us hl;first|(obtain⟨_,rfl⟩:=us1 hl;rfl)|(obtain⟨_,_,rfl⟩:=us2 hl;rfl)|(obtain⟨_,_,_,rfl⟩:=xU hl;rfl)|(obtain⟨_,_,_,_,rfl⟩:=X2 hl;rfl)|(obtain⟨_,_,_,_,_,rfl⟩:=us5 hl;rfl))(len:∀xs Q,p xs Q->xs.length=ps.length:=by intro xs Q h;repeat (first|(obtain⟨rfl,_⟩:=h;rfl)|(obtain⟨_,h⟩:=h))):Df P w K mg base (k+1) x ps p:=
 Df.of F.F F.m S hb len body
theorem cQ.au {p:fN}(F:FM K mg x i f fd)(S:FnScope N ps (b6 (bC i)))(t:(Str->Prop)->aS)(rd:∀Ep xs Q,p Ep xs Q->t Ep { nx:=λ_=>Q .non,rt:=Q } (gB N xs))(body:∀(cdv:av) (A:ba) (outer:List Env) (s:ax) (H:Hp) (E:XK) (Ep:Str->Prop),cI k (A.deeper (PyProof.Rows.envOfC x (b6 (bC i)) s.heap.objs.size f cdv))->nL (dH (eY P w) P w K mg base N x (b6 (bC i)) f cdv A outer s H E) (EX K H Ep)->fJ (dH (eY P w) P w K mg base N x (b6 (bC i)) f cdv A outer s H E) (eO (bC i)) (t Ep))(hb:Hb x ps i:=by intro _ _ _ _ _ _ us hl;first|(obtain⟨_,rfl⟩:=us1 hl;rfl)|(obtain⟨_,_,rfl⟩:=us2 hl;rfl)|(obtain⟨_,_,_,rfl⟩:=xU hl;rfl)|(obtain⟨_,_,_,_,rfl⟩:=X2 hl;rfl)|(obtain⟨_,_,_,_,_,rfl⟩:=us5 hl;rfl))(len:∀Ep xs Q,p Ep xs Q->xs.length=ps.length:=by intro Ep xs Q h;repeat (first|(obtain⟨rfl,_⟩:=h;rfl)|(obtain⟨_,h⟩:=h))):cQ P w K mg base (k+1) x ps p:=
 cQ.of F.F F.m S hb t len rd body
end
section
variable {P:az}{w:bc}{K:Frag}{mg:Str→Option av}{base:Heap}{f:ay}{fd:FuncData}
theorem bj8:FnScope ["things"] ["things"] (b6 (bC 6)):=.au
theorem bj9 (B:Bt mg)(F:FM K mg "rises" 6 f fd) :Df P w K mg base 1 "rises" ["things"] tK:=
 Df.au F bj8 (λcdv A outer s H E hr=>by
  have hu:=mM hr
  exact⟨(aa4),(aZ (cF (P9 B rfl (a7 (W6 (N:=["ahead","behind"]) (fr:=[none,none]) (aV0 B (qv 0) (Q7 (qv 0) (Q6 a9) Q5)) (λ_ _ _ _=>(aU6 hu (qv 0) (qv 1)))) aB)))),aV7⟩)
theorem uH:FnScope ["hearths","inside","hearth"] ["hearths"] (b6 (bC 7)):=.au
theorem bk0 (B:Bt mg)(F:FM K mg "marked" 7 f fd) :Df P w K mg base 1 "marked" ["hearths"] u9:=
 Df.au F uH (λcdv A outer s H E hr=>by
  have nd:=uH.nd;have hu:=mM hr
  exact⟨(af9),(aP (jV (i:=1) nd wX)
   (aP (iY 2 nd (gD (qv 0))
    (aZ (pA hu (i:=1) (qv 2) iG)))
   (aZ (lX 1)))),bd2⟩)
theorem bk1 (B:Bt mg)(F:FM K mg "marked" 7 f fd) :Df P w K mg base 1 "marked" ["hearths"] tQ:=
 Df.au F uH (λcdv A outer s H E hr=>by
  have nd:=uH.nd;have hu:=mM hr
  exact⟨ac2,(aP (jV (i:=1) nd wX)
   (aP (iY 2 nd (gD (qv 0))
    (aZ (pA hu (i:=1) (qv 2) iG)))
   (aZ (lX 1)))),aX4⟩)
theorem bk2:FnScope ["rows","columns"] ["rows","columns"] (b6 (bC 11)):=.au
theorem bk3 (B:Bt mg)(F:FM K mg "looked_through" 11 f fd)(x_BadBoard:Xc K mg base "BadBoard"){u_MOST_ROWS:Nat}(m_MOST_ROWS:mg "MOST_ROWS" = some (.int 40 u_MOST_ROWS)):cQ P w K mg base 1 "looked_through" ["rows","columns"] tL:=
 cQ.au F bk2 aa5 aV8 (λcdv A outer s H E Ep hr hX=>by
  exact (aZ (e9 (iW (iH (wT (iX B rfl (a7 (qv 0) (a7 (qv 1) aB))) a9) (jU (aI6 (nE B rfl (a7 (qv 0) (a7 (qv 1) aB))) (xQ rfl m_MOST_ROWS))))) (aZ (t0 hX x_BadBoard (a7 rU aB))) eN)))
theorem bk4:FnScope ["rows","columns","cell"] ["rows","columns","cell"] (b6 (bC 12)):=.au
theorem bk5 (B:Bt mg)(F:FM K mg "is_cell" 12 f fd) :Df P w K mg base 1 "is_cell" ["rows","columns","cell"] nU:=
 Df.au F bk4 (λcdv A outer s H E hr=>by
  exact⟨(aa6),(aZ (cF (p9 (O7 (b8 (qv 2) a9) a9) (p9 (rV (b8 (qv 2) a9) (qv 0)) (p9 (O7 (b8 (qv 2) a9) a9) (wW (rV (b8 (qv 2) a9) (qv 1)))))))),aV9⟩)
theorem bk6:FnScope ["start","end","other_start","other_end"] ["start","end","other_start","other_end"] (b6 (bC 19)):=.au
theorem bk7 (B:Bt mg)(F:FM K mg "gap" 19 f fd) :Df P w K mg base 1 "gap" ["start","end","other_start","other_end"] qA:=
 Df.au F bk6 (λcdv A outer s H E hr=>by
  exact⟨(ae5),(aZ (cF (aZ9 B rfl (a7 a9 (a7 (jS (qv 2) (qv 1)) (a7 (jS (qv 0) (qv 3)) aB)))))),bc2⟩)
theorem bk8:FnScope ["one","other"] ["one","other"] (b6 (bC 20)):=.au
theorem bk9 (B:Bt mg)(F:FM K mg "hull_of" 20 f fd) :Df P w K mg base 1 "hull_of" ["one","other"] j6:=
 Df.au F bk8 (λcdv A outer s H E hr=>by
  exact⟨(ae7),(aZ (cF (gC (a7 (iX B rfl (a7 (b8 (qv 0) a9) (a7 (b8 (qv 1) a9) aB))) (a7 (iX B rfl (a7 (b8 (qv 0) a9) (a7 (b8 (qv 1) a9) aB))) (a7 (nE B rfl (a7 (b8 (qv 0) a9) (a7 (b8 (qv 1) a9) aB))) (a7 (nE B rfl (a7 (b8 (qv 0) a9) (a7 (b8 (qv 1) a9) aB))) aB))))))),bc4⟩)
theorem bl0:FnScope ["cells"] ["cells"] (b6 (bC 21)):=.au
theorem bl1 (B:Bt mg)(F:FM K mg "cell_boxes" 21 f fd) :Df P w K mg base 1 "cell_boxes" ["cells"] nX:=
 Df.au F bl0 (λcdv A outer s H E hr=>by
  exact⟨(af0),(aZ (cF (W6 (N:=["row","column"]) (fr:=[none,none]) (gD (qv 0)) (λ_ _ _ _=>(gC (a7 (qv 0) (a7 (qv 1) (a7 (qv 0) (a7 (qv 1) aB))))))))),bc5⟩)
theorem bl2:FnScope ["script","k"] ["script","k"] (b6 (bC 28)):=.au
theorem bl3 (B:Bt mg)(F:FM K mg "_law_cell" 28 f fd) :Df P w K mg base 1 "_law_cell" ["script","k"] m7:=
 Df.au F bl2 (λcdv A outer s H E hr=>by
  exact⟨(V3),(aP (e9 (wT (qv 1) (rX B (a7 (qv 0) aB))) (aZ (cF (b8 (qv 0) (qv 1)))) eN)
   (aZ (cF a9))),aN8⟩)
theorem bl4:FnScope ["found"] ["found"] (b6 (bC 30)):=.au
theorem bl5 (B:Bt mg)(F:FM K mg "_law_whole" 30 f fd) :Df P w K mg base 1 "_law_whole" ["found"] sW:=
 Df.au F bl4 (λcdv A outer s H E hr=>by
  exact⟨(V4 K),(aZ (cF (p9 (aJ5 B (qv 0)) (wW (aI9 (Q2 B (qv 0))))))),aN9 (pO K).ii (pO K).ib⟩)
theorem al8:FnScope ["box","top","left","bottom","right","cells","row","column"] ["box"] (b6 (bC 31)):=.au
theorem bl6 (B:Bt mg)(F:FM K mg "_law_cells_of" 31 f fd) :Df P w K mg base 1 "_law_cells_of" ["box"] kG:=
 Df.au F al8 (λcdv A outer s H E hr=>by
  have nd:=al8.nd
  exact⟨(ah0),(aP (bb1 1 2 3 4 nd (qv 0))
   (aP (jV (i:=5) nd (lW aB))
   (aP (iY 6 nd (P5 rfl B.range (qv 1) (bT (qv 3) a9))
    (aZ (iY 7 nd (P5 rfl B.range (qv 2) (bT (qv 4) a9))
     (aZ (rW 5 (gC (a7 (qv 6) (a7 (qv 7) aB))))))))
   (aZ (lX 5))))),be0⟩)
theorem bl7:FnScope ["rows","columns","cells"] ["rows","columns","cells"] (b6 (bC 13)):=.au
theorem bl8 (B:Bt mg)(F:FM K mg "made_cells" 13 f fd)(d_looked_through:cQ P w K mg base 1 "looked_through" ["rows","columns"] tL)(d_rises:Df P w K mg base 1 "rises" ["things"] tK)(d_is_cell:Df P w K mg base 1 "is_cell" ["rows","columns","cell"] nU)(x_BadSet:Xc K mg base "BadSet"):cQ P w K mg base 2 "made_cells" ["rows","columns","cells"] l5:=
 cQ.au F bl7 aa7 aW0 (λcdv A outer s H E Ep hr hX=>by
  exact (aP (aJ1 (nN hX d_looked_through hr (a7 (qv 0) (a7 (qv 1) aB))))
   (aP (e9 (iW (iH (kW (jT (bA d_rises hr (a7 (qv 2) aB)))) (jU (kW (jT (P9 B rfl (a7 (rZ (N:=["cell","rows","columns"]) (fr:=[none,some 0,some 1]) (gD (qv 2)) (λ_ _ _ _=>(bA d_is_cell hr (a7 (qv 1) (a7 (qv 2) (a7 (qv 0) aB)))))) aB))))))) (aZ (t0 hX x_BadSet (a7 rU aB))) eN)
   (aZ (cF (rY B (a7 (qv 2) aB)))))))
theorem al9:FnScope ["rows","columns","cell","row","column","sides"] ["rows","columns","cell"] (b6 (bC 14)):=.au
theorem bl9 (B:Bt mg)(F:FM K mg "sides_of" 14 f fd)(d_is_cell:Df P w K mg base 1 "is_cell" ["rows","columns","cell"] nU):Df P w K mg base 2 "sides_of" ["rows","columns","cell"] tM:=
 Df.au F al9 (λcdv A outer s H E hr=>by
  have nd:=al9.nd
  exact⟨(aa8),(aP (bP (i:=3) nd (b8 (qv 2) a9))
   (aP (bP (i:=4) nd (b8 (qv 2) a9))
   (aP (bP (i:=5) nd (lW (a7 (gC (a7 (jS (qv 3) a9) (a7 (qv 4) aB))) (a7 (gC (a7 (qv 3) (a7 (jS (qv 4) a9) aB))) (a7 (gC (a7 (qv 3) (a7 (bT (qv 4) a9) aB))) (a7 (gC (a7 (bT (qv 3) a9) (a7 (qv 4) aB))) aB))))))
   (aZ (cF (aK0 (N:=["side","rows","columns"]) (fr:=[none,some 0,some 1]) (gD (qv 5)) (λ_ _ _ _=>(jT (bA d_is_cell hr (a7 (qv 1) (a7 (qv 2) (a7 (qv 0) aB)))))) (λ_ _ _ _=>(qv 0)))))))),aW1⟩)
theorem am0:FnScope ["one","other","between_rows","between_columns"] ["one","other"] (b6 (bC 18)):=.au
theorem bm0 (B:Bt mg)(F:FM K mg "near_boxes" 18 f fd)(d_gap:Df P w K mg base 1 "gap" ["start","end","other_start","other_end"] qA){u_MOST_STEPS_APART:Nat}(m_MOST_STEPS_APART:mg "MOST_STEPS_APART" = some (.int 2 u_MOST_STEPS_APART)):Df P w K mg base 2 "near_boxes" ["one","other"] i5:=
 Df.au F am0 (λcdv A outer s H E hr=>by
  have nd:=am0.nd
  exact⟨(ae6),(aP (bP (i:=2) nd (bA d_gap hr (a7 (b8 (qv 0) a9) (a7 (b8 (qv 0) a9) (a7 (b8 (qv 1) a9) (a7 (b8 (qv 1) a9) aB))))))
   (aP (bP (i:=3) nd (bA d_gap hr (a7 (b8 (qv 0) a9) (a7 (b8 (qv 0) a9) (a7 (b8 (qv 1) a9) (a7 (b8 (qv 1) a9) aB))))))
   (aZ (cF (aI5 (bT (qv 2) (qv 3)) (xQ rfl m_MOST_STEPS_APART)))))),bc3⟩)
theorem am1:FnScope ["script","k","stir"] ["script","k"] (b6 (bC 29)):=.au
theorem bm1 (B:Bt mg)(F:FM K mg "_law_number" 29 f fd)(d__law_cell:Df P w K mg base 1 "_law_cell" ["script","k"] m7):Df P w K mg base 2 "_law_number" ["script","k"] fO:=
 Df.au F am1 (λcdv A outer s H E hr=>by
  have nd:=am1.nd
  exact⟨(ac4),(aP (e9 (wT (qv 1) (rX B (a7 (qv 0) aB))) (aZ (cF (b8 (qv 0) (qv 1)))) eN)
   (aP (bP (i:=2) nd (dO (oY (bT (bT (dO (bA d__law_cell hr (a7 (qv 0) (a7 (dO (qv 1) (nE B rfl (a7 a9 (a7 (rX B (a7 (qv 0) aB)) aB)))) aB))) a9) (oY a9 (qv 1))) a9) a9) a9))
   (aZ (cF (kU (dO (oY (qv 2) (qv 2)) a9) a9))))),aX9⟩)
theorem am2:FnScope ["one","other","least_steps","mine","theirs"] ["one","other"] (b6 (bC 34)):=.au
theorem bm2 (B:Bt mg)(F:FM K mg "_law_steps" 34 f fd)(d__law_cells_of:Df P w K mg base 1 "_law_cells_of" ["box"] kG)(ab:mg "abs" = none):Df P w K mg base 2 "_law_steps" ["one","other"] uF:=
 Df.au F am2 (λcdv A outer s H E hr=>by
  have nd:=am2.nd
  exact⟨(ak5),(aP (bP (i:=2) nd a9)
   (aP (iY 3 nd (gD (bA d__law_cells_of hr (a7 (qv 0) aB)))
    (aZ (iY 4 nd (gD (bA d__law_cells_of hr (a7 (qv 1) aB)))
     (aZ (bP (i:=2) nd (iX B rfl (a7 (qv 2) (a7 (bT (aa3 ab (a7 (jS (b8 (qv 3) a9) (b8 (qv 4) a9)) aB)) (aa3 ab (a7 (jS (b8 (qv 3) a9) (b8 (qv 4) a9)) aB))) aB))))))))
   (aZ (lX 2)))),bi1⟩)
theorem am3:FnScope ["rows","columns","seeds","chosen","burning","lit","met","cell","side"] ["rows","columns","seeds"] (b6 (bC 15)):=.au
theorem bm3 (B:Bt mg)(F:FM K mg "board_burnt" 15 f fd)(d_made_cells:cQ P w K mg base 2 "made_cells" ["rows","columns","cells"] l5)(d_marked:Df P w K mg base 1 "marked" ["hearths"] tQ)(d_sides_of:Df P w K mg base 2 "sides_of" ["rows","columns","cell"] tM){u_ENOUGH:Nat}(m_ENOUGH:mg "ENOUGH" = some (.int 2 u_ENOUGH)):cQ P w K mg base 3 "board_burnt" ["rows","columns","seeds"] pT:=
 cQ.au F am3 ac3 aX8 (λcdv A outer s H E Ep hr hX=>by
  have nd:=am3.nd;have hu:=mM hr
  exact (aP (bP (i:=3) nd (nN hX d_made_cells hr (a7 (qv 0) (a7 (qv 1) (a7 (qv 2) aB)))))
   (aP (jV (i:=4) nd (bA d_marked hr (a7 (qv 3) aB)))
   (aP (jV (i:=5) nd (P8 B (a7 (qv 3) aB)))
   (aP (jV (i:=6) nd wX)
   (aP (P3 hX.own (O9 (qv 5))
    (aP (aR5 nd 5 7)
    (aZ (iY 8 (hp:=hX.own) nd (gD (bA d_sides_of hr (a7 (qv 0) (a7 (qv 1) (a7 (qv 7) aB)))))
     (aP (pA hu (i:=6) (qv 8) (bT (aW9 hu (qv 6) (qv 8) a9) a9))
     (aZ (e9 (iW (aI8 (wU (aJ0 hu (qv 6) (qv 8)) (xQ rfl m_ENOUGH)) (aI7 (wV hu (qv 8) (qv 4))))) (aP (pA hu (i:=4) (qv 8) iG)
      (aZ (rW 5 (qv 8)))) eN)))))))
   (aZ (cF (rY B (a7 (aW7 B rfl (a7 (qv 4) aB)) aB))))))))))
theorem am4:FnScope ["boxes","box","other"] ["boxes","box"] (b6 (bC 24)):=.au
theorem bm4 (B:Bt mg)(F:FM K mg "first_near" 24 f fd)(d_near_boxes:Df P w K mg base 2 "near_boxes" ["one","other"] i5):Df P w K mg base 3 "first_near" ["boxes","box"] mE:=
 Df.au F am4 (λcdv A outer s H E hr=>by
  have nd:=am4.nd
  exact⟨(af1),(aP (iY 2 nd (gD (qv 0))
    (aZ (e9 (jT (bA d_near_boxes hr (a7 (qv 2) (a7 (qv 1) aB)))) (aZ (lX 2)) eN)))
   (aZ (cF wS))),bc7⟩)
theorem bm5:FnScope ["there","step"] ["there","step"] (b6 (bC 26)):=.au
theorem bm6 (B:Bt mg)(F:FM K mg "may_be_done" 26 f fd)(d_near_boxes:Df P w K mg base 2 "near_boxes" ["one","other"] i5):Df P w K mg base 3 "may_be_done" ["there","step"] u8:=
 Df.au F bm5 (λcdv A outer s H E hr=>by
  have hu:=mM hr;have hu3:=uG hr
  exact⟨(af8 K),(aP (e9 (iW (iH (kW (jT (Q3 B (qv 1)))) (jU (oZ (rX B (a7 (qv 1) aB)) a9)))) (aZ (cF iG)) eN)
   (aP (e9 (iW (iH (wV hu (b8 (qv 1) a9) (qv 0)) (jU (wV hu (b8 (qv 1) a9) (qv 0))))) (aZ (cF iG)) eN)
   (aZ (cF (p9 (aU3 hu3 (b8 (qv 1) a9) (b8 (qv 1) a9)) (wW (bA d_near_boxes hr (a7 (b8 (qv 1) a9) (a7 (b8 (qv 1) a9) aB))))))))),bd1 (pO K).tt⟩)
theorem am5:FnScope ["script","at","top","left"] ["script","at"] (b6 (bC 32)):=.au
theorem bm7 (B:Bt mg)(F:FM K mg "_law_box" 32 f fd)(d__law_number:Df P w K mg base 2 "_law_number" ["script","k"] fO):Df P w K mg base 3 "_law_box" ["script","at"] o0:=
 Df.au F am5 (λcdv A outer s H E hr=>by
  have nd:=am5.nd
  exact⟨(ak1),(aP (bP (i:=2) nd (dO (bA d__law_number hr (a7 (qv 0) (a7 (qv 1) aB))) a9))
   (aP (bP (i:=3) nd (dO (bA d__law_number hr (a7 (qv 0) (a7 (bT (qv 1) a9) aB))) a9))
   (aZ (cF (gC (a7 (qv 2) (a7 (qv 3) (a7 (iX B rfl (a7 a9 (a7 (bT (qv 2) (dO (bA d__law_number hr (a7 (qv 0) (a7 (bT (qv 1) a9) aB))) a9)) aB))) (a7 (iX B rfl (a7 a9 (a7 (bT (qv 3) (dO (bA d__law_number hr (a7 (qv 0) (a7 (bT (qv 1) a9) aB))) a9)) aB))) aB))))))))),bh7⟩)
theorem am6:FnScope ["cell","far","one","down","along","other","due","hull"] ["cell"] (b6 (bC 35)):=.au
theorem bm8 (B:Bt mg)(F:FM K mg "_law_far_good" 35 f fd)(d_near_boxes:Df P w K mg base 2 "near_boxes" ["one","other"] i5)(d_hull_of:Df P w K mg base 1 "hull_of" ["one","other"] j6):Df P w K mg base 3 "_law_far_good" ["cell"] qG:=
 Df.au F am6 (λcdv A outer s H E hr=>by
  have nd:=am6.nd;have hu3:=uG hr
  exact⟨(ak9),(aP (bP (i:=1) nd (jS (dO (kU (qv 0) a9) (O6 a9 a9)) (O6 a9 a9)))
   (aP (bP (i:=2) nd (gC (a7 (qv 1) (a7 a9 (a7 (bT (qv 1) (dO (qv 0) a9)) (a7 a9 aB))))))
   (aP (bP (i:=3) nd (bT a9 (dO (kU (qv 0) a9) a9)))
   (aP (bP (i:=4) nd (dO (kU (qv 0) a9) a9))
   (aP (bP (i:=5) nd (gC (a7 (bT (b8 (qv 2) a9) (qv 3)) (a7 (bT a9 (qv 4)) (a7 (bT (b8 (qv 2) a9) (qv 3)) (a7 (bT a9 (qv 4)) aB))))))
   (aP (bP (i:=6) nd (rV (bT (qv 3) (qv 4)) a9))
   (aP (bP (i:=7) nd (gC (a7 (qv 1) (a7 a9 (a7 (bT (b8 (qv 2) a9) (qv 3)) (a7 (bT a9 (qv 4)) aB))))))
   (aP (e9 (wU (dO (kU (qv 0) a9) a9) a9) (aZ (bi5 2 5 7 nd (rZ (N:=["box"]) (fr:=[none]) (gD (lW (a7 (qv 2) (a7 (qv 5) (a7 (qv 7) aB))))) (λ_ _ _ _=>(gC (a7 (b8 (qv 0) a9) (a7 (b8 (qv 0) a9) (a7 (b8 (qv 0) a9) (a7 (b8 (qv 0) a9) aB))))))))) eN)
   (aP (e9 (iW (iH (oZ (bA d_near_boxes hr (a7 (qv 2) (a7 (qv 5) aB))) (qv 6)) (jU (oZ (bA d_near_boxes hr (a7 (qv 5) (a7 (qv 2) aB))) (qv 6))))) (aZ (cF iG)) eN)
   (aZ (cF (aJ8 hu3 (bA d_hull_of hr (a7 (qv 5) (a7 (qv 2) aB))) (qv 7))))))))))))),bi8⟩)
theorem am7:FnScope ["rows","columns","seeds","settled","steps","box","growing","close"] ["rows","columns","seeds"] (b6 (bC 23)):=.au
theorem bm9 (B:Bt mg)(F:FM K mg "growth" 23 f fd)(d_cell_boxes:Df P w K mg base 1 "cell_boxes" ["cells"] nX)(d_made_cells:cQ P w K mg base 2 "made_cells" ["rows","columns","cells"] l5)(d_first_near:Df P w K mg base 3 "first_near" ["boxes","box"] mE)(d_hull_of:Df P w K mg base 1 "hull_of" ["one","other"] j6):cQ P w K mg base 4 "growth" ["rows","columns","seeds"] uA:=
 cQ.au F am7 ag4 bd7 (λcdv A outer s H E Ep hr hX=>by
  have nd:=am7.nd;have hu3:=uG hr
  exact (aP (jV (i:=3) nd (lW aB))
   (aP (jV (i:=4) nd (lW aB))
   (aP (iY 5 (hp:=hX.own) nd (gD (bA d_cell_boxes hr (a7 (nN hX d_made_cells hr (a7 (qv 0) (a7 (qv 1) (a7 (qv 2) aB)))) aB)))
    (aP (bP (i:=6) nd (qv 5))
    (aP (bP (i:=7) nd (bA d_first_near hr (a7 (qv 3) (a7 (qv 6) aB))))
    (aP (P3 hX.own (O8 (qv 7) wS)
     (aP (rW 4 (gC (a7 (ba2 B rfl hu3 (a7 (qv 6) (a7 (qv 7) aB))) (a7 (ba3 B rfl hu3 (a7 (qv 6) (a7 (qv 7) aB))) aB))))
     (aP (bP (i:=6) nd (bA d_hull_of hr (a7 (qv 6) (a7 (qv 7) aB))))
     (aP (ba8 3 hu3 (qv 7))
     (aZ (bP (i:=7) nd (bA d_first_near hr (a7 (qv 3) (a7 (qv 6) aB)))))))))
    (aZ (rW 3 (qv 6)))))))
   (aZ (lX 4))))))
theorem am8:FnScope ["rows","columns","seeds","steps","there","step","boxes","turn","box"] ["rows","columns","seeds","steps"] (b6 (bC 25)):=.au
theorem bn0 (B:Bt mg)(F:FM K mg "judged_growth" 25 f fd)(d_marked:Df P w K mg base 1 "marked" ["hearths"] u9)(d_cell_boxes:Df P w K mg base 1 "cell_boxes" ["cells"] nX)(d_made_cells:cQ P w K mg base 2 "made_cells" ["rows","columns","cells"] l5)(d_may_be_done:Df P w K mg base 3 "may_be_done" ["there","step"] u8)(d_hull_of:Df P w K mg base 1 "hull_of" ["one","other"] j6)(d_first_near:Df P w K mg base 3 "first_near" ["boxes","box"] mE)(x_NoPaper:Xc K mg base "NoPaper"):cQ P w K mg base 4 "judged_growth" ["rows","columns","seeds","steps"] uB:=
 cQ.au F am8 ag5 bd8 (λcdv A outer s H E Ep hr hX=>by
  have nd:=am8.nd;have hu:=mM hr
  exact (aP (jV (i:=4) nd (bA d_marked hr (a7 (bA d_cell_boxes hr (a7 (nN hX d_made_cells hr (a7 (qv 0) (a7 (qv 1) (a7 (qv 2) aB)))) aB)) aB)))
   (aP (iY 5 (hp:=hX.own) nd (gD (qv 3))
    (aP (e9 (kW (jT (bA d_may_be_done hr (a7 (qv 4) (a7 (qv 5) aB))))) (aZ (t0 hX x_NoPaper (a7 rU aB))) eN)
    (aP (X3 4 hu (b8 (qv 5) a9))
    (aP (X3 4 hu (b8 (qv 5) a9))
    (aZ (pA hu (i:=4) (bA d_hull_of hr (a7 (b8 (qv 5) a9) (a7 (b8 (qv 5) a9) aB))) iG))))))
   (aP (bP (i:=6) nd (aY7 B rfl (a7 (qv 4) aB)))
   (aP (aJ9 7 8 (hp:=hX.own) nd (aQ3 rfl B.enum (qv 6))
    (aZ (e9 (O8 (bA d_first_near hr (a7 (Q7 (qv 6) Q5 (Q6 (qv 7))) (a7 (qv 8) aB))) wS) (aZ (t0 hX x_NoPaper (a7 rU aB))) eN)))
   (aZ (lX 6)))))))
theorem am9:FnScope ["box","script","at","top","left","high"] ["box","script","at"] (b6 (bC 33)):=.au
theorem bn1 (B:Bt mg)(F:FM K mg "_law_beside" 33 f fd)(d__law_number:Df P w K mg base 2 "_law_number" ["script","k"] fO)(d__law_box:Df P w K mg base 3 "_law_box" ["script","at"] o0):Df P w K mg base 4 "_law_beside" ["box","script","at"] uE:=
 Df.au F am9 (λcdv A outer s H E hr=>by
  have nd:=am9.nd
  exact⟨(ak4),(aP (e9 (wU (dO (bA d__law_number hr (a7 (qv 1) (a7 (qv 2) aB))) a9) a9) (aZ (cF (bA d__law_box hr (a7 (qv 1) (a7 (bT (qv 2) a9) aB))))) eN)
   (aP (bP (i:=3) nd (jS (bT (b8 (qv 0) (oY (dO (kU (bA d__law_number hr (a7 (qv 1) (a7 (qv 2) aB))) a9) a9) a9)) (dO (bA d__law_number hr (a7 (qv 1) (a7 (bT (qv 2) a9) aB))) a9)) a9))
   (aP (bP (i:=4) nd (jS (bT (b8 (qv 0) (bT a9 (oY (dO (kU (bA d__law_number hr (a7 (qv 1) (a7 (qv 2) aB))) a9) a9) a9))) (dO (bA d__law_number hr (a7 (qv 1) (a7 (bT (qv 2) a9) aB))) a9)) a9))
   (aP (bP (i:=3) nd (nE B rfl (a7 a9 (a7 (iX B rfl (a7 a9 (a7 (qv 3) aB))) aB))))
   (aP (bP (i:=4) nd (nE B rfl (a7 a9 (a7 (iX B rfl (a7 a9 (a7 (qv 4) aB))) aB))))
   (aP (bP (i:=5) nd (dO (bA d__law_number hr (a7 (qv 1) (a7 (bT (qv 2) a9) aB))) a9))
   (aZ (cF (gC (a7 (qv 3) (a7 (qv 4) (a7 (iX B rfl (a7 a9 (a7 (bT (qv 3) (qv 5)) aB))) (a7 (iX B rfl (a7 a9 (a7 (bT (qv 4) (dO (kU (bA d__law_number hr (a7 (qv 1) (a7 (bT (qv 2) a9) aB))) a9) a9)) aB))) aB))))))))))))),bh9⟩)
theorem bn2:FnScope ["rows","columns","seeds"] ["rows","columns","seeds"] (b6 (bC 22)):=.au
theorem bn3 (B:Bt mg)(F:FM K mg "grown_boxes" 22 f fd)(d_judged_growth:cQ P w K mg base 4 "judged_growth" ["rows","columns","seeds","steps"] uB)(d_growth:cQ P w K mg base 4 "growth" ["rows","columns","seeds"] uA):cQ P w K mg base 5 "grown_boxes" ["rows","columns","seeds"] qB:=
 cQ.au F bn2 ag9 bd9 (λcdv A outer s H E Ep hr hX=>by
  exact (aZ (cF (nN hX d_judged_growth hr (a7 (qv 0) (a7 (qv 1) (a7 (qv 2) (a7 (nN hX d_growth hr (a7 (qv 0) (a7 (qv 1) (a7 (qv 2) aB)))) aB))))))))
theorem an0:FnScope ["script","one","other","due","found","every","told","lows","highs"] ["script"] (b6 (bC 36)):=.au
theorem bn4 (B:Bt mg)(F:gJ K "law" "law" (bC 36) f fd)(d__law_box:Df P w K mg base 3 "_law_box" ["script","at"] o0)(d__law_beside:Df P w K mg base 4 "_law_beside" ["box","script","at"] uE)(d__law_steps:Df P w K mg base 2 "_law_steps" ["one","other"] uF)(d_near_boxes:Df P w K mg base 2 "near_boxes" ["one","other"] i5)(d__law_cells_of:Df P w K mg base 1 "_law_cells_of" ["box"] kG)(d_hull_of:Df P w K mg base 1 "hull_of" ["one","other"] j6)(d__law_whole:Df P w K mg base 1 "_law_whole" ["found"] sW)(d_board_burnt:cQ P w K mg base 3 "board_burnt" ["rows","columns","seeds"] pT)(d_grown_boxes:cQ P w K mg base 5 "grown_boxes" ["rows","columns","seeds"] qB)(d__law_far_good:Df P w K mg base 3 "_law_far_good" ["cell"] qG)(d__law_cell:Df P w K mg base 1 "_law_cell" ["script","k"] m7)(bs:mg "set" = none):dX P w K mg base g9 6 f fd ["script"] (oR K zE):=
 aO5 F an0 (λxs Q h=>by unfold zE at h;repeat (first|(obtain⟨rfl,_⟩:=h;rfl)|(obtain⟨_,h⟩:=h))) (λcdv A outer s H E hr=>by
  have nd:=an0.nd;have hu3:=uG hr
  exact⟨(al4 K),(aP (bP (i:=1) nd (bA d__law_box hr (a7 (qv 0) (a7 a9 aB))))
   (aP (bP (i:=2) nd (bA d__law_beside hr (a7 (qv 1) (a7 (qv 0) (a7 a9 aB)))))
   (aP (bP (i:=3) nd (rV (bA d__law_steps hr (a7 (qv 1) (a7 (qv 2) aB))) a9))
   (aP (bP (i:=4) nd (bA d_near_boxes hr (a7 (qv 1) (a7 (qv 2) aB))))
   (aP (e9 (iW (iH (kW (jT (Q2 B (qv 4)))) (iH (oZ (qv 4) (qv 3)) (jU (oZ (bA d_near_boxes hr (a7 (qv 2) (a7 (qv 1) aB))) (qv 3)))))) (aZ (cF iG)) eN)
   (aP (bP (i:=5) nd (bh3 hu3 B bs rfl (a7 (V9 (bA d__law_cells_of hr (a7 (qv 1) aB)) (bA d__law_cells_of hr (a7 (qv 2) aB))) aB)))
   (aP (bP (i:=6) nd (bA d_hull_of hr (a7 (qv 1) (a7 (qv 2) aB))))
   (aP (X4 (i:=7) nd (N:=["k","every"]) (fr:=[none,some 5]) (P4 rfl B.range a9) (λ_ _ _ _=>(aT8 B rfl (a7 (rZ (N:=["cell","k"]) (fr:=[none,some 0]) (gD (qv 1)) (λ_ _ _ _=>(b8 (qv 0) (qv 1)))) aB))))
   (aP (X4 (i:=8) nd (N:=["k","every"]) (fr:=[none,some 5]) (P4 rfl B.range a9) (λ_ _ _ _=>(aU1 B rfl (a7 (rZ (N:=["cell","k"]) (fr:=[none,some 0]) (gD (qv 1)) (λ_ _ _ _=>(b8 (qv 0) (qv 1)))) aB))))
   (aP (e9 (iW (iH (kW (jT (Q3 B (qv 6)))) (iH (pB hu3 (P8 B (a7 (qv 6) aB)) (V9 (qv 7) (qv 8))) (jU (kW (jT (bA d__law_whole hr (a7 (b8 (qv 6) a9) aB)))))))) (aZ (cF iG)) eN)
   (aP (e9 (kW (O9 (qv 3))) (aZ (e9 (iW (iH (pB hu3 (sZ d_board_burnt hr (a7 a9 (a7 a9 (a7 (qv 5) aB)))) (rY B (a7 (qv 5) aB))) (jU (pB hu3 (sZ d_grown_boxes hr (a7 a9 (a7 a9 (a7 (qv 5) aB)))) (aO2 B (a7 (lW (a7 (qv 1) (a7 (qv 2) aB))) aB)))))) (aZ (cF iG)) eN)) (aZ (e9 (iW (iH (pB hu3 (sZ d_board_burnt hr (a7 a9 (a7 a9 (a7 (qv 5) aB)))) (rY B (a7 (bA d__law_cells_of hr (a7 (qv 6) aB)) aB))) (jU (pB hu3 (sZ d_grown_boxes hr (a7 a9 (a7 a9 (a7 (qv 5) aB)))) (lW (a7 (qv 6) aB)))))) (aZ (cF iG)) eN)))
   (aZ (cF (bA d__law_far_good hr (a7 (bA d__law_cell hr (a7 (qv 0) (a7 a9 aB))) aB))))))))))))))),bj7 (pO K).bb (pO K).tt⟩)
end
set_option autoImplicit true in
theorem bn5 {l:OpenLaw}{w:bc}{K:Frag}{h:Heap}{mg:Str->Option av}(X:K.In h)(G:h.Ns mainGlobals mg)(hfa:mg "law" = some (.ref fa))(h0:FK K "rises" 6 f0 d0)(h1:FK K "marked" 7 f1 d1)(h2:FK K "looked_through" 11 f2 d2)(h3:FK K "is_cell" 12 f3 d3)(h4:FK K "gap" 19 f4 d4)(h5:FK K "hull_of" 20 f5 d5)(h6:FK K "cell_boxes" 21 f6 d6)(h7:FK K "_law_cell" 28 f7 d7)(h8:FK K "_law_whole" 30 f8 d8)(h9:FK K "_law_cells_of" 31 f9 d9)(h10:FK K "made_cells" 13 f10 d10)(h11:FK K "sides_of" 14 f11 d11)(h12:FK K "near_boxes" 18 f12 d12)(h13:FK K "_law_number" 29 f13 d13)(h14:FK K "_law_steps" 34 f14 d14)(h15:FK K "board_burnt" 15 f15 d15)(h16:FK K "first_near" 24 f16 d16)(h17:FK K "may_be_done" 26 f17 d17)(h18:FK K "_law_box" 32 f18 d18)(h19:FK K "_law_far_good" 35 f19 d19)(h20:FK K "growth" 23 f20 d20)(h21:FK K "judged_growth" 25 f21 d21)(h22:FK K "_law_beside" 33 f22 d22)(h23:FK K "grown_boxes" 22 f23 d23)(a24:nsIn K mainGlobals "law" = some (some (.ref f24)))(l24:K.lookup f24=some ⟨oc24,od24,.func (fnOf "law" "law" (jF (bC 36)) (eO (bC 36)) (b6 (bC 36)) .none kV24 dc24 pm24 an24 cd24 ct24),sl24⟩)(c24:codeIn K cd24 "law" = true)(k24:keepIn K (.ref f24)=true)(z_len:nsIn K mainGlobals "len" = some none)(z_range:nsIn K mainGlobals "range" = some none)(z_tuple:nsIn K mainGlobals "tuple" = some none)(z_list:nsIn K mainGlobals "list" = some none)(z_sorted:nsIn K mainGlobals "sorted" = some none)(z_all:nsIn K mainGlobals "all" = some none)(z_any:nsIn K mainGlobals "any" = some none)(z_zip:nsIn K mainGlobals "zip" = some none)(z_min:nsIn K mainGlobals "min" = some none)(z_max:nsIn K mainGlobals "max" = some none)(z_sum:nsIn K mainGlobals "sum" = some none)(z_isinstance:nsIn K mainGlobals "isinstance" = some none)(z_int:nsIn K mainGlobals "int" = some none)(z_bool:nsIn K mainGlobals "bool" = some none)(z_enumerate:nsIn K mainGlobals "enumerate" = some none)(z_set:nsIn K mainGlobals "set" = some none)(z_abs:nsIn K mainGlobals "abs" = some none){u_ENOUGH:Nat}(z_ENOUGHx:nsIn K mainGlobals "ENOUGH" = some (some (.int 2 u_ENOUGH))){u_MOST_ROWS:Nat}(z_MOST_ROWSx:nsIn K mainGlobals "MOST_ROWS" = some (some (.int 40 u_MOST_ROWS))){u_MOST_STEPS_APART:Nat}(z_MOST_STEPS_APARTx:nsIn K mainGlobals "MOST_STEPS_APART" = some (some (.int 2 u_MOST_STEPS_APART))){C_HearthError C_BadSet C_BadBoard C_NoPaper:ay}(aX_HE:nsIn K mainGlobals "HearthError" = some (some (.ref C_HearthError)))(aX_BS:nsIn K mainGlobals "BadSet" = some (some (.ref C_BadSet)))(aX_BB:nsIn K mainGlobals "BadBoard" = some (some (.ref C_BadBoard)))(aX_NP:nsIn K mainGlobals "NoPaper" = some (some (.ref C_NoPaper)))(zX_BW:nsIn K mainGlobals "BadWeb" = some none)(zX_BO:nsIn K mainGlobals "BadOrder" = some none)(zX_BP:nsIn K mainGlobals "BadPrices" = some none)(zX_BD:nsIn K mainGlobals "BadDeed" = some none)(zX_NW:nsIn K mainGlobals "NotWood" = some none)(zX_NS:nsIn K mainGlobals "NoSuch" = some none)(zX_TM:nsIn K mainGlobals "TooMany" = some none)(zX_NT:nsIn K mainGlobals "NoText" = some none)(zX_OR:nsIn K mainGlobals "OddRound" = some none)(y_fg:specialIn K (.builtin "object.__class__") "__get__" = some (some (.builtin "getset_descriptor.__get__")))(y_ft:takesIn K (.builtin "object.__class__")=some true)(z_VE:nsIn K mainGlobals "ValueError" = some none)(y1_HE:isClsIn K C_HearthError=true)(y2_HE:typeIn K (.ref C_HearthError)=some (.type "type"))(y3_HE:findIn K (.ref C_HearthError) "__getattribute__" = some (some (.builtin "BaseException.__getattribute__")))(y4_HE:findIn K (.ref C_HearthError) "__getattr__" = some none)(y5_HE:findIn K (.ref C_HearthError) "__class__" = some (some (.builtin "object.__class__")))(y6_HE:mroIn K C_HearthError (.type "object")=some true)(y7_HE:mroIn K C_HearthError (.type "BaseException")=some true)(y1_BS:isClsIn K C_BadSet=true)(y2_BS:typeIn K (.ref C_BadSet)=some (.type "type"))(y3_BS:findIn K (.ref C_BadSet) "__getattribute__" = some (some (.builtin "BaseException.__getattribute__")))(y4_BS:findIn K (.ref C_BadSet) "__getattr__" = some none)(y5_BS:findIn K (.ref C_BadSet) "__class__" = some (some (.builtin "object.__class__")))(y6_BS:mroIn K C_BadSet (.type "object")=some true)(y7_BS:mroIn K C_BadSet (.type "BaseException")=some true)(y1_BB:isClsIn K C_BadBoard=true)(y2_BB:typeIn K (.ref C_BadBoard)=some (.type "type"))(y3_BB:findIn K (.ref C_BadBoard) "__getattribute__" = some (some (.builtin "BaseException.__getattribute__")))(y4_BB:findIn K (.ref C_BadBoard) "__getattr__" = some none)(y5_BB:findIn K (.ref C_BadBoard) "__class__" = some (some (.builtin "object.__class__")))(y6_BB:mroIn K C_BadBoard (.type "object")=some true)(y7_BB:mroIn K C_BadBoard (.type "BaseException")=some true)(y1_NP:isClsIn K C_NoPaper=true)(y2_NP:typeIn K (.ref C_NoPaper)=some (.type "type"))(y3_NP:findIn K (.ref C_NoPaper) "__getattribute__" = some (some (.builtin "BaseException.__getattribute__")))(y4_NP:findIn K (.ref C_NoPaper) "__getattr__" = some none)(y5_NP:findIn K (.ref C_NoPaper) "__class__" = some (some (.builtin "object.__class__")))(y6_NP:mroIn K C_NoPaper (.type "object")=some true)(y7_NP:mroIn K C_NoPaper (.type "BaseException")=some true)(q_BB:excIn K C_BadBoard [.type "ValueError",.type "Exception",.type "BaseException",.type "object"] "ValueError.__new__" = true)(q_BS:excIn K C_BadSet [.type "ValueError",.type "Exception",.type "BaseException",.type "object"] "ValueError.__new__" = true)(q_NP:excIn K C_NoPaper [.type "ValueError",.type "Exception",.type "BaseException",.type "object"] "ValueError.__new__" = true)
 :∃fd:FuncData,(∀(s:ax) (v:av),BindsTo s fd ⟨[v],[]⟩ [("script",v)])/\∀base:Heap,K.In base->base.Ns mainGlobals mg->dX l.prog w K mg base g9 6 fa fd ["script"] (sX K):=by
 have e:=hfa.symm.trans (mg_of X G a24);cases e;have F24:=az9 (st:=bC 36) l24 c24 k24;have m24:=mg_of X G a24;have B:Bt mg:=⟨mg_none_of X G z_len,mg_none_of X G z_range,mg_none_of X G z_tuple,mg_none_of X G z_list,mg_none_of X G z_sorted,mg_none_of X G z_all,mg_none_of X G z_any,mg_none_of X G z_zip,mg_none_of X G z_min,mg_none_of X G z_max,mg_none_of X G z_sum,mg_none_of X G z_isinstance,mg_none_of X G z_int,mg_none_of X G z_bool,mg_none_of X G z_enumerate⟩;have bs:=mg_none_of X G z_set;have ab:=mg_none_of X G z_abs;have m_ENOUGH:=mg_of X G z_ENOUGHx;have m_MOST_ROWS:=mg_of X G z_MOST_ROWSx;have m_MOST_STEPS_APART:=mg_of X G z_MOST_STEPS_APARTx;refine⟨fnOf "law" "law" (jF (bC 36)) (eO (bC 36)) (b6 (bC 36)) .none kV24 dc24 pm24 an24 cd24 ct24,λs v=>.of_eq rfl,λbase KB _=>?_⟩;have XK_HearthError:t5 K C_HearthError:=⟨y1_HE,y2_HE,y3_HE,y4_HE,y5_HE,y_fg,y_ft,y6_HE,y7_HE⟩;have XK_BadSet:t5 K C_BadSet:=⟨y1_BS,y2_BS,y3_BS,y4_BS,y5_BS,y_fg,y_ft,y6_BS,y7_BS⟩;have XK_BadBoard:t5 K C_BadBoard:=⟨y1_BB,y2_BB,y3_BB,y4_BB,y5_BB,y_fg,y_ft,y6_BB,y7_BB⟩;have XK_NoPaper:t5 K C_NoPaper:=⟨y1_NP,y2_NP,y3_NP,y4_NP,y5_NP,y_fg,y_ft,y6_NP,y7_NP⟩;have x_BadBoard:Xc K mg base "BadBoard":=⟨C_BadBoard,_,_,_,_,xT KB (mg_of X G aX_BB) q_BB,PySem.F.excBase_ValueError,aX_BB⟩;have x_BadSet:Xc K mg base "BadSet":=⟨C_BadSet,_,_,_,_,xT KB (mg_of X G aX_BS) q_BS,PySem.F.excBase_ValueError,aX_BS⟩;have x_NoPaper:Xc K mg base "NoPaper":=⟨C_NoPaper,_,_,_,_,xT KB (mg_of X G aX_NP) q_NP,PySem.F.excBase_ValueError,aX_NP⟩;have D0:=bj9 (P:=l.prog) (w:=w) (base:=base) B (h0.M X G);have D1:=bk0 (P:=l.prog) (w:=w) (base:=base) B (h1.M X G);have DD1:=bk1 (P:=l.prog) (w:=w) (base:=base) B (h1.M X G);have D2:=bk3 (P:=l.prog) (w:=w) (base:=base) B (h2.M X G)  x_BadBoard m_MOST_ROWS;have D3:=bk5 (P:=l.prog) (w:=w) (base:=base) B (h3.M X G);have D4:=bk7 (P:=l.prog) (w:=w) (base:=base) B (h4.M X G);have D5:=bk9 (P:=l.prog) (w:=w) (base:=base) B (h5.M X G);have D6:=bl1 (P:=l.prog) (w:=w) (base:=base) B (h6.M X G);have D7:=bl3 (P:=l.prog) (w:=w) (base:=base) B (h7.M X G)
 have D8:=bl5 (P:=l.prog) (w:=w) (base:=base) B (h8.M X G);have D9:=bl6 (P:=l.prog) (w:=w) (base:=base) B (h9.M X G);have D10:=bl8 (P:=l.prog) (w:=w) (base:=base) B (h10.M X G) D2 D0 D3 x_BadSet;have D11:=bl9 (P:=l.prog) (w:=w) (base:=base) B (h11.M X G) D3;have D12:=bm0 (P:=l.prog) (w:=w) (base:=base) B (h12.M X G) D4 m_MOST_STEPS_APART;have D13:=bm1 (P:=l.prog) (w:=w) (base:=base) B (h13.M X G) D7;have D14:=bm2 (P:=l.prog) (w:=w) (base:=base) B (h14.M X G) D9 ab;have D15:=bm3 (P:=l.prog) (w:=w) (base:=base) B (h15.M X G) D10 DD1 D11 m_ENOUGH;have D16:=bm4 (P:=l.prog) (w:=w) (base:=base) B (h16.M X G) D12;have D17:=bm6 (P:=l.prog) (w:=w) (base:=base) B (h17.M X G) D12;have D18:=bm7 (P:=l.prog) (w:=w) (base:=base) B (h18.M X G) D13;have D19:=bm8 (P:=l.prog) (w:=w) (base:=base) B (h19.M X G) D12 D5;have D20:=bm9 (P:=l.prog) (w:=w) (base:=base) B (h20.M X G) D6 D10 D16 D5;have D21:=bn0 (P:=l.prog) (w:=w) (base:=base) B (h21.M X G) D1 D6 D10 D17 D5 D16 x_NoPaper;have D22:=bn1 (P:=l.prog) (w:=w) (base:=base) B (h22.M X G) D13 D18;have D23:=bn3 (P:=l.prog) (w:=w) (base:=base) B (h23.M X G) D21 D20;exact aO6 (bn4 B F24 D18 D22 D14 D12 D9 D5 D8 D15 D23 D19 D7 bs)
theorem bn6 {l:OpenLaw}{q:az}{loose:List Str}{XP:(Str->Option av)->Heap->Prop}{YP:bc->Heap->Prop}{d:DefRec}{K:Params->Frag}(hn:l.most=some 63)(hdf:d.params.defaults = [])(hY:∀(w:bc) (h:Heap),YP w h->(K w.params).In h)(F:∀(w:bc) (mg:Str->Option av) (fa:ay) (h:Heap),(K w.params).In h->h.Ns mainGlobals mg->mg d.name=some (.ref fa)->
   ∃fd:FuncData,(∀(s:ax) (u:av),BindsTo s fd ⟨[u],[]⟩ [("script",u)])/\∀base:Heap,(K w.params).In base->base.Ns mainGlobals mg->dX l.prog w (K w.params) mg base g9 6 fa fd ["script"] (sX (K w.params))) :
  WalkO q loose XP YP l.row.toRowW d [] (λf vs=>PySem.call f vs):=
 L2.az7 (n:=63) (k:=6) (x:="script") (CX:=λ_=>g9) (sp:=λw=>sX (K w.params)) hn (by decide) hdf ⟨rfl,by decide,by decide⟩ hY F (λ_ _ a ns hl hO hS=>⟨a,ns,rfl,aO7 hO hS,hl,λ_=>rfl⟩) λ_ _ _ _ _ z=>z
end K_k61
open PySem PySem.W PyProof.Rows
theorem PySem.W.Fast.te13052408679150730464 : True := trivial
theorem PySem.W.Fast.te16555476440528808052 : True := trivial
theorem PySem.W.Fast.te5369427470323729400 : True := trivial
set_option maxRecDepth 100000 in
set_option maxHeartbeats 0 in
theorem PySem.Challenge.cw_kindleweb_k61_whole_two_boxes_holds : PySem.Challenge.rw_kindleweb_k61_whole_two_boxes.Holds := by
 w_on;o_law;k_head;(case hw => w_witness2)
 k_fill
 refine K_k61.bn6 (l := PySem.Challenge.rw_kindleweb_k61_whole_two_boxes) rfl rfl (λw h Y => PySem.W.kIn_of Y) ?F
 case F =>
  intro w mg fa h KX G hmg
  refine' K_k61.bn5 KX G hmg ?h0 ?h1 ?h2 ?h3 ?h4 ?h5 ?h6 ?h7 ?h8 ?h9 ?h10 ?h11 ?h12 ?h13 ?h14 ?h15 ?h16 ?h17 ?h18 ?h19 ?h20 ?h21 ?h22 ?h23 ?a24 ?l24 ?c24 ?k24 ?z_len ?z_range ?z_tuple ?z_list ?z_sorted ?z_all ?z_any ?z_zip ?z_min ?z_max ?z_sum ?z_isinstance ?z_int ?z_bool ?z_enumerate ?z_set ?z_abs ?z_ENOUGHx ?z_MOST_ROWSx ?z_MOST_STEPS_APARTx ?aX_HE ?aX_BS ?aX_BB ?aX_NP ?zX_BW ?zX_BO ?zX_BP ?zX_BD ?zX_NW ?zX_NS ?zX_TM ?zX_NT ?zX_OR ?y_fg ?y_ft ?z_VE ?y1_HE ?y2_HE ?y3_HE ?y4_HE ?y5_HE ?y6_HE ?y7_HE ?y1_BS ?y2_BS ?y3_BS ?y4_BS ?y5_BS ?y6_BS ?y7_BS ?y1_BB ?y2_BB ?y3_BB ?y4_BB ?y5_BB ?y6_BB ?y7_BB ?y1_NP ?y2_NP ?y3_NP ?y4_NP ?y5_NP ?y6_NP ?y7_NP ?q_BB ?q_BS ?q_NP
  (case h0|h1|h2|h3|h4|h5|h6|h7|h8|h9|h10|h11|h12|h13|h14|h15|h16|h17|h18|h19|h20|h21|h22|h23 => exact⟨by k_is, ⟨⟨_, _, _, _, _, _, _, _, _, rfl, by k_is, by k_is⟩, by k_is⟩⟩)
  (case a24|l24|c24|k24|z_len|z_range|z_tuple|z_list|z_sorted|z_all|z_any|z_zip|z_min|z_max|z_sum|z_isinstance|z_int|z_bool|z_enumerate|z_set|z_abs|z_ENOUGHx|z_MOST_ROWSx|z_MOST_STEPS_APARTx|aX_HE|aX_BS|aX_BB|aX_NP|zX_BW|zX_BO|zX_BP|zX_BD|zX_NW|zX_NS|zX_TM|zX_NT|zX_OR|y_fg|y_ft|z_VE|y1_HE|y2_HE|y3_HE|y4_HE|y5_HE|y6_HE|y7_HE|y1_BS|y2_BS|y3_BS|y4_BS|y5_BS|y6_BS|y7_BS|y1_BB|y2_BB|y3_BB|y4_BB|y5_BB|y6_BB|y7_BB|y1_NP|y2_NP|y3_NP|y4_NP|y5_NP|y6_NP|y7_NP => k_is)
  (case q_BB|q_BS|q_NP => k_exc)


