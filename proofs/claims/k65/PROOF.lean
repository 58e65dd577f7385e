import PyProof.Rows.All
import Wide.All
import OpenK.AllK
import Wide.FinOn
import Lean
import PyProof.EqAt
import PyProof.EqKinds
import PyProof.TupleCall
import PyProof.NeKinds
import PyProof.Draws
import PyProof.ZipIter
import PyProof.DictUpdate
import PyProof.AutoSeq1
import PyProof.ListRange
import PyProof.ListMulRoad
import PyProof.FactsAll.tuple_2
import PyProof.Rows.SortShell
import PyProof.EnumFor
import PyProof.EnumMake
import PyProof.EnumStmt
import PyProof.Rows.SortWalk
import KE.KDictList
import PyProof.SumAny
import PyProof.ConsumeWalk
import PyProof.WalksMore
import PyProof.Rows.TupAssign
import PyProof.ExcArgsOwn
import PySem.Challenge.RW_kindleweb_k65_whole_fewest_on_boards
set_option Elab.async false
set_option linter.all false
set_option maxRecDepth 100000
set_option maxHeartbeats 4000000
section
open PySem PySem.Spec PyProof.Rows
def bf1:=@wpAny_bind
def bf3:=@Heap.get?_push_of_some
def bf4:=@List.getElem?_eq_getElem
def bf5:=@wpAny_pure
def bf6:=@List.length_map
def bf7:=@decide_eq_false
def bf8:=@List.size_toArray
def bf9:=@List.mem_cons_of_mem
def bg0:=@Nat.le_refl
def bg1:=@List.mem_cons_self
def bg2:=@List.mem_singleton
def bg3:=@Int.le_refl
def bg4:=@decide_eq_true
def bg5:=@List.getD_eq_getElem?_getD
def bg6:=@List.mem_cons
def bg7:=@Heap.lt_size
def bg8:=@Heap.get?_push_size
def bg9:=@wpS_bind
def bh0:=@Nat.lt_of_lt_of_le
def bh1:=@List.length_append
def bh2:=@Bool.false_eq_true
def bh3:=@Array.length_toList
def bh4:=@wpS_pure
def bh5:=@List.getElem?_map
def bh6:=@List.append_assoc
def bh7:=@List.not_mem_nil
def bh8:=@List.getElem?_eq_some_iff
def bh9:=@List.mem_map
def bi0:=@List.map_append
def bi1:=@Bool.false_ne_true
def bi4:=@Array.getElem?_toList
def bi5:=@decide_eq_true_eq
def bi7:=@Nat.ne_of_lt
def bi8:=@List.map_cons
def bj0:=@Nat.lt_or_ge
def bj1:=@List.mem_append
def bj2:=@Array.getElem?_eq_getElem
def bj4:=@Option.some.inj
def bj5:=@List.length_cons
def bj6:=@List.getElem?_set_ne
def bj7:=@List.mem_append_right
def bj8:=@List.mem_range
def bj9:=@List.append_nil
def bk0:=@List.mem_append_left
def bk1:=@List.mem_filter
def bk2:=@wpAny_newObj_type
def bk3:=@List.take_append_drop
def bk6:=@List.pairwise_map
def bk7:=@Nat.zero_le
def bk8:=@List.pairwise_iff_getElem
def bk9:=@wpAny_call_entry
def bl0:=@List.length_singleton
def bl1:=@Nat.lt_irrefl
def bl2:=@Nat.le_trans
def bl4:=@List.nodup_cons
def bl5:=@wpAny_callSpecial?_slot
def bl6:=@if_false
def bl7:=@Array.getD_eq_getD_getElem?
def bl8:=@List.length_range
def bm0:=@List.getElem_of_mem
def bm1:=@List.getElem_mem
def bm2:=@Array.getElem_mem
def bm3:=@PySem.mem_of_lookup
def bm4:=@Heap.SameBut.update
def bm6:=@List.pairwise_append
def bm7:=@beq_self_eq_true
def bm8:=@wpAny_mono
def bn0:=@List.pairwise_singleton
def bn2:=@PySem.W.kia_one
def bn3:=@Bool.and_eq_true
def bn4:=@List.lookup_cons
def bn5:=@wpAny_holding
def bn6:=@Heap.get?_update_self
def bn7:=@Nat.le_of_lt
def bn8:=@Nat.ne_of_gt
def bn9:=@Array.toList_append
def bo0:=@Int.le_trans
def bo2:=@Bool.and_false
def bo3:=@List.sum_cons
def bo4:=@or_false
def bo6:=@List.getElem?_set_self
def bo7:=@wpS_forRange
def bo8:=@List.take_of_length_le
def bp0:=@List.length_set
def bp3:=@wpAny_setState_of
def bp4:=@List.nodup_append
def bp5:=@decide_eq_false_iff_not
def bp7:=@Bool.eq_iff_iff
def bp8:=@Nat.not_lt_zero
def bp9:=@List.length_take
def bq1:=@List.all_eq_true
def bq2:=@List.getElem?_append_left
def bq3:=@Classical.byContradiction
def bq6:=@wpAny_truthy_bool
def bq7:=@wpAny_field
def bq8:=@Bool.eq_false_iff
def bq9:=@List.take_add_one
def br0:=@List.Perm.refl
def br3:=@List.find?_cons
def br4:=@List.map_map
def br5:=@Int.emod_nonneg
def br6:=@List.mem_of_getElem?
def br7:=@List.length_drop
def br8:=@Around.under_plainId
def br9:=@List.take_length
def bs0:=@List.getElem?_append_right
def bs2:=@List.Pairwise.nil
def bs3:=@wpAny_setField
def bs4:=@Array.getElem?_eq_none
def bs5:=@wpAny_seqItems
def bs8:=@codeAny_builtin
def bs9:=@PyProof.Rows.slot_tuple_getitem
def bt0:=@List.perm_append_comm
def bt1:=@List.mem_filterMap
def bt2:=@List.zip_cons_cons
def bt4:=@Option.getD_some
def bt5:=@of_decide_eq_false
def bt6:=@Nat.le_add_right
def bt7:=@Int.emod_lt_of_pos
def bu3:=@Heap.size_push
def bu5:=@of_decide_eq_true
def bu6:=@Nat.lt_succ_of_lt
def bu8:=@Prod.ext
def bu9:=@PyProof.Rows.callWith_type1
def bv0:=@Heap.get?_update_other
def bv2:=@wpAny_attempt
def bv5:=@Nat.add_sub_cancel
def bv6:=@wpAny_setField_rec
def bv7:=@Nat.eq_or_lt_of_le
def bv8:=@wpAny_execs_nil
def bv9:=@wpAny_passesOwn
def bw0:=@Int.toNat_natCast
def bw1:=@wpS_mono
def bw2:=@List.mem_of_mem_take
def bw6:=@wpAny_rule
def bw8:=@List.nodup_nil
def bx0:=@List.drop_take
def bx1:=@isSubtype_type
end
abbrev av:=PySem.Value
abbrev ax:=PySem.Shared
abbrev ay:=PySem.Addr
abbrev az:=PySem.Program
abbrev ba:=PySem.Around
abbrev bc:=PySem.World
abbrev aa:=List (Int×Int)
abbrev ac:=PySem.W.Frag
abbrev ad:=List (List Int)
abbrev ae:=List Int
namespace L2
open PySem PySem.Spec PyProof.Rows
abbrev aH:=Sum Int Str
def lR:aH->av->Bool
 |.inl k,v=>Value.isInt k v
 |.inr x,v=>Value.isStrOf x v
def ag8 (w:bc):aH->Int
 |.inl k=>hashInt k
 |.inr x=>hashStr w x
theorem iQ:∀{k:aH}{v:av},lR k v=true->(∃i t,k=Sum.inl i/\v=Value.int i t)∨(∃x t,k=Sum.inr x/\v=Value.str x t)
 |.inl i,v,h=>by
  obtain⟨t,e⟩:=Value.isInt_shape (k:=i) (v:=v) h
  exact .inl ⟨i,t,rfl,e⟩
 |.inr x,v,h=>by
  obtain⟨t,e⟩:=Value.isStrOf_shape (x:=x) (v:=v) h
  exact .inr ⟨x,t,rfl,e⟩
theorem ag9 (i:Int)(t:Tok):lR (.inl i) (.int i t)=true:=by simp[lR,Value.isInt]
theorem ah0 (x:Str)(t:Tok):lR (.inr x) (.str x t)=true:=by simp[lR,Value.isStrOf]
theorem ah1 (a b:Int):decide ((Sum.inl a:aH)=Sum.inl b)=(a==b):=by
 by_cases e:a=b
 ·subst e;simp
 ·have h:¬(Sum.inl a:aH)=Sum.inl b:=λq=>e (Sum.inl.inj q)
  rw[bf7 h];exact (beq_eq_false_iff_ne.mpr e).symm
theorem ah2 (a b:Str):decide ((Sum.inr a:aH)=Sum.inr b)=decide (a=b):=by
 by_cases e:a=b
 ·subst e;simp
 ·have h:¬(Sum.inr a:aH)=Sum.inr b:=λq=>e (Sum.inr.inj q)
  rw[bf7 h,bf7 e]
theorem ah3 (a:Int)(b:Str):decide ((Sum.inl a:aH)=Sum.inr b)=false:=bf7 (λq=>nomatch q)
theorem ah4 (a:Str)(b:Int):decide ((Sum.inr a:aH)=Sum.inl b)=false:=bf7 (λq=>nomatch q)
def eG (prog:az)(w:bc):PySem.KeyKind prog w aH where
 is:=lR
 hash:=ag8 w
 inj:=λv a b ha hb=>by
  rcases iQ ha with⟨i,t,rfl,rfl⟩|⟨x,t,rfl,rfl⟩
  ·rcases iQ hb with⟨j,u,rfl,e⟩|⟨y,u,rfl,e⟩
   ·injection e with e1 _;rw[e1]
   ·exact nomatch e
  ·rcases iQ hb with⟨j,u,rfl,e⟩|⟨y,u,rfl,e⟩
   ·exact nomatch e
   ·injection e with e1 _;rw[e1]
 byValue:=λk v h=>by
  rcases iQ h with⟨i,t,rfl,rfl⟩|⟨x,t,rfl,rfl⟩<;>rfl
 pyHash:=λhv h=>by
  rcases iQ hv with⟨i,t,rfl,rfl⟩|⟨x,t,rfl,rfl⟩
  ·exact wpAny_pyHash_int h
  ·exact wpAny_pyHash_str h
 eqBool:=λhu hv h=>by
  rcases iQ hu with⟨i,t,rfl,rfl⟩|⟨x,t,rfl,rfl⟩
  ·rcases iQ hv with⟨j,u,rfl,rfl⟩|⟨y,u,rfl,rfl⟩
   ·rw[ah1]at h;exact wpAny_eqBool_int h
   ·rw[ah3]at h;exact SeqAt.EqAt.int_str i t y u _ _ _ _ h
  ·rcases iQ hv with⟨j,u,rfl,rfl⟩|⟨y,u,rfl,rfl⟩
   ·rw[ah4]at h;exact SeqAt.EqAt.str_int x t j u _ _ _ _ h
   ·rw[ah2]at h;exact wpAny_eqBool_str h
 «strs»:=λk x t v h=>by
  rcases iQ h with⟨i,u,rfl,e⟩|⟨y,u,rfl,e⟩
  ·exact nomatch e
  ·injection e with e1 _
   subst e1;cases v<;>rfl
theorem ah5 (prog:az)(w:bc)(i:Int)(t:Tok):(eG prog w).is (.inl i) (.int i t)=true:=ag9 i t
theorem ah6 (prog:az)(w:bc)(x:Str)(t:Tok):(eG prog w).is (.inr x) (.str x t)=true:=ah0 x t
inductive V where
 |non|bl (b:Bool)|int (i:Int)|str (x:Str)|byt (b:Array UInt8)|flt (b:UInt64)|ref (a:ay)|ty (n:String)
 deriving DecidableEq
def aP:V->av->Prop
 |.non,u=>u=Value.none
 |.bl b,u=>u=Value.bool b
 |.int i,u=>∃t,u=Value.int i t
 |.str x,u=>∃t,u=Value.str x t
 |.byt b,u=>∃t,u=Value.bytes b t
 |.flt b,u=>∃t,u=Value.float b t
 |.ref a,u=>u=Value.ref a
 |.ty n,u=>u=Value.type n
abbrev aI:List V->List av->Prop:=Paired aP
theorem aI.length {xs:List V}{us:List av}(r:aI xs us):xs.length=us.length:=Paired.length r
theorem aI.get:∀{xs:List V}{us:List av}{i:Nat}{x:V},aI xs us->xs[i]? = some x->∃u,us[i]? = some u/\aP x u
 |_,_,_,_,.nil,e=>by simp at e
 |_,_,0,_,.cons r _,e=>by simp at e;subst e;exact⟨_,rfl,r⟩
 |_,_,i+1,x,.cons _ t,e=>by
  obtain⟨u,h1,h2⟩:=aI.get (i:=i) (x:=x) t (by simpa using e)
  exact⟨u,by simpa using h1,h2⟩
theorem aI.append:∀{xs ys:List V}{us ws:List av},aI xs us->aI ys ws->aI (xs++ys) (us++ws)
 |_,_,_,_,.nil,s=>s
 |_,_,_,_,.cons r t,s=>.cons r (aI.append t s)
theorem aI.take:∀{xs:List V}{us:List av} (n:Nat),aI xs us->aI (xs.take n) (us.take n)
 |_,_,0,_=>.nil
 |_,_,_+1,.nil=>.nil
 |_,_,n+1,.cons r t=>.cons r (aI.take n t)
theorem aI.drop:∀{xs:List V}{us:List av} (n:Nat),aI xs us->aI (xs.drop n) (us.drop n)
 |_,_,0,r=>r
 |_,_,_+1,.nil=>.nil
 |_,_,n+1,.cons _ t=>aI.drop n t
def fZ:Option V->Option av->Prop
 |some v,some u=>aP v u
 |none,none=>True
 |_,_=>False
def KV {κ:Type}:List (κ×V)->List (κ×av)->Prop:=Paired λ(p:κ×V) (q:κ×av)=>p.1=q.1/\aP p.2 q.2
def kV:aH->V
 |.inl i=>.int i
 |.inr x=>.str x
inductive HO where
 |lst (xs:List V)
 |tup (xs:List V)
 |dK (kvs:List (aH×V))|dT (kvs:List (List aH×V))
 |set (S:Int->Bool) (n:Nat)
 |ins (C dx:ay) (fs:List (Str×V))
 |own (x:ay)
 |xd (fs:List (Str×V))
 |met (f x:ay)
 |rng (lo hi:Int)
 |frz (o:Obj) (u:HO)
 |tbl (ps:Array av)
 |ext (φ:Heap->Prop)
abbrev Hp:=ay->Option HO
def upd (H:Hp)(a:ay)(o:HO):Hp:=λb=>if b=a then some o else H b
theorem c8 {H:Hp}{a:ay}{o:HO}:upd H a o a=some o:=by unfold upd;rw[if_pos rfl]
theorem aY {H:Hp}{a b:ay}{o:HO}(h:b≠a):upd H a o b=H b:=by unfold upd;rw[if_neg h]
theorem ah7 {H:Hp}{a b:ay}{o u:HO}(h:H a=some o)(h':H b=some u)(d:o≠u):a≠b:=by
 intro e;subst e;rw[h]at h';exact d (bj4 h')
theorem eI {H:Hp}{a b:ay}{o:HO}(h:H a=some o)(h':H b=none):a≠b:=by
 intro e;subst e;rw[h]at h';cases h'
def iR (h:Heap)(a:ay):Prop:=∀o,h.get? a=some o->o.dict=none
theorem iR.new (h:Heap)(o:Obj)(d:o.dict=none)(s:o.isFreed=false:=by rfl):iR (h.push o) h.objs.size:=λu e=>by
 rw[bg8 h (o:=o) s]at e;cases e;exact d
theorem iR.stay {h h':Heap}{a:ay}{o:Obj}(n:iR h a)(e:h.get? a=some o)(e':h'.get? a=some o):iR h' a:=λu hu=>by
 rw[e']at hu;cases hu;exact n _ e
section
variable (P:az)(w:bc)
def bM (H:Hp)(h:Heap)(a:ay):HO->Prop
 |.lst xs=>xs.length<=sizeLine/\∃(its:List av) (n:Nat),aI xs its/\h.get? a=some { cls:=.type "list",data:=.seq its.toArray n }
 |.tup xs=>xs.length<=sizeLine/\∃its:List av,aI xs its/\IsTup h a its.toArray/\iR h a
 |.dK kvs=>kvs.length<=sizeLine/\(a==sysModules)=false/\∃vs,KV kvs vs/\h.DictOf (eG P w) a vs
 |.dT kvs=>kvs.length<=sizeLine/\(a==sysModules)=false/\∃xs:List (List aH×ay×av),
   Paired (λ(p:List aH×V) (q:List aH×ay×av)=>p.1=q.1/\H q.2.1=some (.tup (p.1.map kV))/\aP p.2 q.2.2) kvs xs/\
   ∃o es ep,h.get? a=some o/\o.ExactDict/\o.data = .dict es ep/\es.toList=xs.map (entryOfKey (tupleKind (eG P w)))/\(xs.map (·.1)).Nodup
 |.set S n=>h.SetOf (intKind P w) a S n
 |.ins C dx fs=>H dx=some (.own a)/\fs.length<=1000/\dx≠a/\h.get? a=some (PySem.W.instObj C dx)/\
   ∃mA,h.Ns1 dx mA/\(∀f,fZ (fs.lookup f) (mA f))/\PySem.Within mA (fs.map (·.1))
 |.own _=>∃o,h.get? a=some o
 |.xd fs=>∃mA,h.Ns1 a mA/\∀f,fZ (fs.lookup f) (mA f)
 |.rng lo hi=>∃t u v,h.get? a=some { cls:=.type "range",data:=.fields #[.int lo t,.int hi u,.int 1 v] }
 |.frz o u=>h.get? a=some o/\bM H h a u
 |.tbl ps=>h.get? a=some { cls:=.none,data:=.fields ps }
 |.met f x=>h.get? a=some (PySem.W.methodObj (.ref f) (.ref x))
 |.ext φ=>φ h/\(∃o,h.get? a=some o)/\∀h1 h2:Heap,φ h1->(∀o,h1.get? a=some o->h2.get? a=some o)->φ h2
def bO (H:Hp)(h:Heap):Prop:=∀a o,H a=some o->bM P w H h a o
end
section
variable {P:az}{w:bc}{H H':Hp}{h h':Heap}{a:ay}{o:HO}
theorem bM.lt (x:bM P w H h a o):a<h.objs.size:=by
 cases o with
 |lst xs=>obtain⟨_,_,_,_,e⟩:=x;exact bg7 e
 |tup xs=>obtain⟨_,_,_,p,_⟩:=x;exact p.lt
 |dK kvs=>obtain⟨_,_,_,_,o,_,_,e,_⟩:=x;exact bg7 e
 |dT kvs=>obtain⟨_,_,_,_,o,_,_,e,_⟩:=x;exact bg7 e
 |set S n=>obtain⟨o,_,_,_,e,_⟩:=x;exact bg7 e
 |ins C dx fs=>obtain⟨_,_,_,e,_⟩:=x;exact bg7 e
 |own y=>obtain⟨_,e⟩:=x;exact bg7 e
 |xd fs=>obtain⟨_,⟨_,_,_,e,_⟩,_⟩:=x;exact bg7 e
 |rng lo hi=>obtain⟨_,_,_,e⟩:=x;exact bg7 e
 |frz ob u=>obtain⟨e,_⟩:=x;exact bg7 e
 |tbl ps=>exact bg7 (show h.get? a=some _ from x)
 |met f y=>exact bg7 (show h.get? a=some _ from x)
 |ext φ=>obtain⟨_,⟨_,e⟩,_⟩:=x;exact bg7 e
theorem Paired.mapP {α β:Type}{F G:α->β->Prop}:∀{l₁:List α}{l₂:List β},Paired F l₁ l₂->(∀a b,F a b->G a b)->Paired G l₁ l₂
 |_,_,.nil,_=>.nil
 |_,_,.cons r t,f=>.cons (f _ _ r) (Paired.mapP t f)
theorem bM.stay (x:bM P w H h a o)(k:∀b u,(b=a∨H b=some (.own a))->h.get? b=some u->h'.get? b=some u)(ho:∀b,H b=some (.own a)->H' b=some (.own a))(ht:∀b xs,H b=some (.tup xs)->H' b=some (.tup xs)):bM P w H' h' a o:=by
 induction o with
 |lst xs=>obtain⟨z,its,n,r,e⟩:=x;exact⟨z,its,n,r,k _ _ (.inl rfl) e⟩
 |tup xs=>obtain⟨z,its,r,⟨ob,e,c⟩,nd⟩:=x;exact⟨z,its,r,⟨ob,k _ _ (.inl rfl) e,c⟩,nd.stay e (k _ _ (.inl rfl) e)⟩
 |dK kvs=>obtain⟨z,y,vs,r,ob,es,ep,e,c⟩:=x;exact⟨z,y,vs,r,ob,es,ep,k _ _ (.inl rfl) e,c⟩
 |dT kvs=>
  obtain⟨z,y,xs,r,ob,es,ep,e,c⟩:=x
  exact⟨z,y,xs,Paired.mapP r λp q z=>⟨z.1,ht _ _ z.2.1,z.2.2⟩,ob,es,ep,k _ _ (.inl rfl) e,c⟩
 |set S n=>obtain⟨ob,es,ep,t,e,c⟩:=x;exact⟨ob,es,ep,t,k _ _ (.inl rfl) e,c⟩
 |ins C dx fs=>
  obtain⟨d,z,ne,e,mA,⟨od,es,ep,e2,c⟩,r⟩:=x
  exact⟨ho _ d,z,ne,k _ _ (.inl rfl) e,mA,⟨od,es,ep,k _ _ (.inr d) e2,c⟩,r⟩
 |own y=>obtain⟨ob,e⟩:=x;exact⟨ob,k _ _ (.inl rfl) e⟩
 |xd fs=>obtain⟨mA,⟨od,es,ep,e,c⟩,r⟩:=x;exact⟨mA,⟨od,es,ep,k _ _ (.inl rfl) e,c⟩,r⟩
 |rng lo hi=>obtain⟨t,u,v,e⟩:=x;exact⟨t,u,v,k _ _ (.inl rfl) e⟩
 |frz ob u ih=>obtain⟨e,q⟩:=x;exact⟨k _ _ (.inl rfl) e,ih q⟩
 |tbl ps=>
  have e:h.get? a=some { cls:=.none,data:=.fields ps }:=x;show h'.get? a=some { cls:=.none,data:=.fields ps };exact k a _ (.inl rfl) e
 |met f y=>
  have e:h.get? a=some (PySem.W.methodObj (.ref f) (.ref y)):=x;show h'.get? a=some (PySem.W.methodObj (.ref f) (.ref y));exact k a _ (.inl rfl) e
 |ext φ=>obtain⟨p,⟨o,e⟩,st⟩:=x;exact⟨st _ _ p λo q=>k _ _ (.inl rfl) q,⟨o,k _ _ (.inl rfl) e⟩,st⟩
theorem bO.lt (x:bO P w H h)(e:H a=some o):a<h.objs.size:=(x a o e).lt
theorem bO.fresh (x:bO P w H h)(e:h.objs.size<=a):H a=none:=by
 cases q:H a with
 |none=>rfl
 |some u=>exact absurd (bh0 (x.lt q) e) (bl1 _)
theorem bO.kept (x:bO P w H h)(k:∀b u,h.get? b=some u->h'.get? b=some u):bO P w H h':=λa o e=>
 (x a o e).stay (λb u _ q=>k b u q) (λ_ q=>q) λ_ _ q=>q
theorem bO.laid (x:bO P w H h)(k:∀b u,h.get? b=some u->h'.get? b=some u)(hp:h.objs.size<=a)(new:bM P w (upd H a o) h' a o):bO P w (upd H a o) h':=λb u e=>by
 have hn:=x.fresh hp;by_cases hb:b=a
 ·subst hb;rw[c8]at e;cases e;exact new
 ·rw[aY hb]at e
  exact (x b u e).stay (λc v _ q=>k c v q) (λc q=>by rw[aY (eI q hn)];exact q) λc xs q=>by rw[aY (eI q hn)];exact q
end
def Rd (H:Hp)(a:ay)(u:HO):Prop:=H a=some u∨∃o,H a=some (.frz o u)
theorem Rd.ok {P:az}{w:bc}{H:Hp}{h:Heap}{a:ay}{u:HO}(r:Rd H a u)(x:bO P w H h):bM P w H h a u:=by
 rcases r with r|⟨o,r⟩
 ·exact x a u r
 ·obtain⟨_,q⟩:=x a _ r
  exact q
def nQ:Option HO->Prop
 |some (.lst _)=>True
 |some (.dK _)=>True
 |some (.dT _)=>True
 |some (.set _ _)=>True
 |some (.ins _ _ _)=>True
 |some (.ext _)=>True
 |_=>False
section
variable {P:az}{w:bc}{H:Hp}{h h':Heap}{x e:ay}{o':HO}
theorem bO.write (ok:bO P w H h)(mu:nQ (H x))(he:e=x∨H e=some (.own x))(k:∀b u,b≠e->h.get? b=some u->h'.get? b=some u)(heo:∃u,h'.get? e=some u)(new:bM P w (upd H x o') h' x o'):bO P w (upd H x o') h':=λb u q=>by
 have nown:∀c y,H c=some (.own y)->c≠x:=λc y r z=>by subst z;rw[r]at mu;exact mu
 have ntup:∀c xs,H c=some (.tup xs)->c≠x:=λc xs r z=>by subst z;rw[r]at mu;exact mu
 by_cases hb:b=x
 ·subst hb;rw[c8]at q;cases q;exact new
 ·rw[aY hb]at q
  by_cases hbe:b=e
  ·have q':H b=some (.own x):=by
    rcases he with z|z
    ·exact absurd (hbe.trans z) hb
    ·rw[hbe];exact z
   rw[q]at q';cases q'
   obtain⟨v,hv⟩:=heo
   exact⟨v,by rw[hbe];exact hv⟩
  ·refine (ok b u q).stay (λc v hc r=>k c v ?_ r) (λc r=>by rw[aY (nown c b r)];exact r) λc xs r=>by rw[aY (ntup c xs r)];exact r
   rcases hc with rfl|hc
   ·exact hbe
   ·rintro rfl
    rcases he with z|z
    ·exact nown c b hc z
    ·rw[hc]at z;cases z;exact hb rfl
end
structure Un (fs ex:List ay)(H H':Hp)(h h':Heap):Prop where
 keep:∀b o,h.get? b=some o->H b=none->b∉fs->b∉ex->h'.get? b=some o
 slot:∀b o,h.get? b=some o->H b=none->b∈fs->b∉ex->∃sl,h'.get? b=some { o with slots:=sl }
 free:∀b o,h.get? b=some o->H b=none->b∉ex->H' b=none
 there:∀b o,h.get? b=some o->b∉ex->∃o',h'.get? b=some o'
 tups:∀b xs,H b=some (.tup xs)->H' b=some (.tup xs)
 frzs:∀b o u,H b=some (.frz o u)->H' b=some (.frz o u)
 tbls:∀b ps,H b=some (.tbl ps)->∃more,H' b=some (.tbl (ps++more))
section
variable {fs fs' ex ex':List ay}{H H1 H2:Hp}{h h1 h2 h':Heap}{a x e:ay}{o:HO}
theorem Un.any (u:Un fs ex H H1 h h1){b:ay}{ob:Obj}(q:h.get? b=some ob)(n:H b=none)(hx:b∉ex):∃sl,h1.get? b=some { ob with slots:=sl }:=by
 by_cases hb:b∈fs
 ·exact u.slot b ob q n hb hx
 ·exact⟨ob.slots,u.keep b ob q n hb hx⟩
theorem Un.kept (k:∀b u,h.get? b=some u->h'.get? b=some u):Un fs ex H H h h':=
 ⟨λb ob q _ _ _=>k b ob q,λb ob q _ _ _=>⟨ob.slots,k b ob q⟩,λ_ _ _ n _=>n,λb ob q _=>⟨ob,k b ob q⟩,λ_ _ q=>q,λ_ _ _ q=>q,λ_ ps q=>⟨#[],by rw[q];simp⟩⟩
theorem Un.refl:Un fs ex H H h h:=Un.kept λ_ _ q=>q
theorem Un.laid (k:∀b u,h.get? b=some u->h'.get? b=some u)(hp:h.objs.size<=a)(hn:H a=none):Un fs ex H (upd H a o) h h' where
 keep:=λb u q _ _ _=>k b u q
 slot:=λb u q _ _ _=>⟨u.slots,k b u q⟩
 free:=λb u q n _=>by rw[aY (bi7 (bh0 (bg7 q) hp))];exact n
 there:=λb u q _=>⟨u,k b u q⟩
 tups:=λb xs q=>by rw[aY (eI q hn)];exact q
 frzs:=λb u xs q=>by rw[aY (eI q hn)];exact q
 tbls:=λb ps q=>⟨#[],by rw[aY (eI q hn),q];simp⟩
theorem Un.write (mu:nQ (H x))(he:e=x∨H e=some (.own x))(k:∀b u,b≠e->h.get? b=some u->h'.get? b=some u)(heo:∃u,h'.get? e=some u):Un fs ex H (upd H x o) h h':=by
 have hx:∀b,H b=none->b≠x:=λb n z=>by subst z;rw[n]at mu;exact mu
 have hb:∀b,H b=none->b≠e:=λb n z=>by
  subst z;rcases he with r|r
  ·exact hx b n r
  ·rw[n]at r;cases r
 have hm:∀b u,H b=some u->¬nQ (some u)->b≠x:=λb u q nm z=>by subst z;rw[q]at mu;exact nm mu
 refine⟨λb u q n _ _=>k b u (hb b n) q,λb u q n _ _=>⟨u.slots,k b u (hb b n) q⟩,λb u q n _=>by rw[aY (hx b n)];exact n,λb u q _=>?_,
  λb xs q=>by rw[aY (hm b _ q λz=>z)];exact q,λb u xs q=>by rw[aY (hm b _ q λz=>z)];exact q,λb ps q=>⟨#[],by rw[aY (hm b _ q λz=>z),q];simp⟩⟩
 by_cases hbe:b=e
 ·subst hbe;exact heo
 ·exact⟨u,k b u hbe q⟩
end
def pS (h:Heap)(H:Hp):List ay:=(List.range h.objs.size).filter λa=>(H a).isSome
def iS (h:Heap)(H:Hp):Heap:=PySem.W.hideAll h (pS h H)
theorem ah8 (h:Heap)(H:Hp):(iS h H).objs.size=h.objs.size:=PySem.W.hideAll_size _ _
theorem ah9 {h:Heap}{H:Hp}{b:ay}{o:Obj}(e:h.get? b=some o)(n:H b=none):(iS h H).get? b=some o:=
 PySem.W.hideAll_get _ e λhm=>by
  have q:(H b).isSome=true:=(bk1.mp hm).2;rw[n]at q;simp at q
theorem ai0 {h:Heap}{H:Hp}{b:ay}{o:Obj}(e:(iS h H).get? b=some o):h.get? b=some o/\H b=none:=by
 have e':h.get? b=some o:=PySem.W.of_hideAll (pS h H) e;refine⟨e',?_⟩;cases q:H b with
 |none=>rfl
 |some x=>
  have hm:b∈pS h H:=bk1.mpr ⟨bj8.mpr (bg7 e'),by simp[q]⟩;have z:(iS h H).get? b=none:=PySem.W.hideAll_none (pS h H) hm;rw[z]at e;cases e
def lT (g h:Heap)(L:ay):List (ay×Obj):=(List.range h.objs.size).filterMap λa=>if a=L∨(g.get? a).isSome=true then none else (h.get? a).map λo=>(a,o)
theorem yH {g h:Heap}{L a:ay}{o:Obj}(h1:a≠L)(h2:g.get? a=none)(h3:h.get? a=some o):(a,o)∈lT g h L:=
 bt1.mpr ⟨a,bj8.mpr (bg7 h3),by simp[h1,h2,h3]⟩
theorem ai1 {g h:Heap}{L:ay}{p:ay×Obj}(hp:p∈lT g h L):p.1≠L/\g.get? p.1=none/\h.get? p.1=some p.2:=by
 obtain⟨b,_,e⟩:=bt1.mp hp
 split at e
 ·cases e
 ·rename_i hn
  cases q:h.get? b with
  |none=>rw[q]at e;simp at e
  |some u=>
   rw[q]at e;simp only[Option.map_some,Option.some.injEq]at e;subst e;refine⟨λz=>hn (.inl z),?_,q⟩;show g.get? b=none;cases r:g.get? b with
   |none=>rfl
   |some v=>exact (hn (.inr (by simp[r]))).elim
def b8 (g h:Heap)(L d:ay):List (ay×Obj):=(lT g h L).filter λp=>decide (p.1≠d)
theorem yI {g h:Heap}{L:ay}:News g L h (lT g h L):=λp hp=>let ⟨a,b,c⟩:=ai1 hp;⟨c,a,b⟩
structure Mod (K:ac)(mg:Str->Option av)(base:Heap):Prop where
 kin:K.In base
 glob:base.Ns mainGlobals mg
 blt:∃mb,base.Ns builtinsNs mb/\∀x:Str,x≠"__name__"->mb x=bootBuiltins x
 nolimit:base.NoLimit
structure Cx where
 prog:az
 w:bc
 K:ac
 mg:Str->Option av
 base:Heap
 A:ba
 N:List Str
 s₀:ax
 H₀:Hp
 env:Env
 outer:List Env
 stack:List Env
 ex:List ay
 fn:Str->Bool
 calm:Bool
 pn:List (ay×Obj)
 xe:av->ax->Prop
def bN (l:List Env):List ay:=l.filterMap (·.frame)
abbrev Cx.fs (X:Cx):List ay:=bN X.outer
def jK (sc:Scope)(x:Str):Prop:=sc.names.lookup x=some .local∨sc.names.lookup x=some .cell∨sc.names.lookup x=some .free
def iB (sc:Scope)(x:Str):Prop:=sc.names.lookup x=some .local∨sc.names.lookup x=some .cell
def ai2 (env:Env)(h:Heap)(m:Str->Option av)(x:Str)(u:av):Prop:=
 (env.kindOf x=some .local/\m x=some u)∨((env.kindOf x=some .cell∨env.kindOf x=some .free)/\∃c,env.cells.lookup x=some c/\h.IsCell c (some u))
structure Cx.Ok (X:Cx):Prop where
 mod:Mod X.K X.mg X.base
 kind:X.env.scope.kind = .function
 glob:X.env.globals=mainGlobals
 blt:X.env.builtins=builtinsNs
 above:X.s₀.heap.objs.size<=X.env.locals
 inj:∀x y c,X.env.cells.lookup x=some c->X.env.cells.lookup y=some c->x=y
 has:∀x,(X.env.kindOf x=some .cell∨X.env.kindOf x=some .free)->∃c,X.env.cells.lookup x=some c
 cab:∀x c,X.fn x=true->X.env.cells.lookup x=some c->X.s₀.heap.objs.size<=c
 hd:X.calm=true->X.A.handled=none
 frames:X.A.frames=some X.stack
 stk:X.stack=X.outer∨(X.stack=X.env::X.outer/\X.env.frame=some X.env.locals)
 exf:∀b∈X.ex,b≠X.env.locals/\∀x c,X.env.cells.lookup x=some c->c≠b
 bs:∀b o,X.base.get? b=some o->X.s₀.heap.get? b=some o/\X.H₀ b=none
 bsz:X.base.objs.size<=X.s₀.heap.objs.size
 noex:∀b o,X.base.get? b=some o->b∉X.ex
 exfs:∀b∈X.ex,b∉X.fs
 funs:X.s₀.heap.FunFrames X.base X.outer
 frf:∀b∈X.fs,X.H₀ b=none
structure a6 (X:Cx)(ag:List (ay×Obj))(σ:List (Option V))(H:Hp)(s:ax):Prop where
 ok:X.Ok
 os:s.os=X.s₀.os
 bare:AllBare s.gens
 base:Un X.fs X.ex X.H₀ H X.s₀.heap s.heap
 loc:∃m,s.heap.Ns X.env.locals m/\∀(i:Nat) (x:Str) (v:V),X.N[i]? = some x->σ[i]? = some (some v)->jK X.env.scope x->∃u,aP v u/\ai2 X.env s.heap m x u
 cell:∀x c,X.env.cells.lookup x=some c->∃v,s.heap.IsCell c v
 free:H X.env.locals=none
 freeC:∀x c,X.env.cells.lookup x=some c->H c=none
 pin:∀p∈X.pn++ag,s.heap.get? p.1=some p.2/\H p.1=none/\p.1≠X.env.locals/\p.1∉X.fs/\∀v,p.2.data≠.cell v
 hok:bO X.prog X.w H s.heap
 len:σ.length=X.N.length
section
variable {X:Cx}{ag:List (ay×Obj)}{σ:List (Option V)}{H H':Hp}{s:ax}{h':Heap}
theorem Cx.Ok.nofr (ok:X.Ok){b:ay}{o:Obj}(e:X.base.get? b=some o):b∉X.fs:=λhb=>by
 have:=(ok.funs.mem hb).1
 rw[e]at this;cases this
theorem a6.bs (I:a6 X ag σ H s):∀b o,X.base.get? b=some o->s.heap.get? b=some o/\H b=none:=λb o e=>
 ⟨I.base.keep b o (I.ok.bs b o e).1 (I.ok.bs b o e).2 (I.ok.nofr e) (I.ok.noex b o e),I.base.free b o (I.ok.bs b o e).1 (I.ok.bs b o e).2 (I.ok.noex b o e)⟩
theorem a6.bk (I:a6 X ag σ H s):∀b o,X.base.get? b=some o->s.heap.get? b=some o:=λb o e=>(I.bs b o e).1
theorem a6.mod (I:a6 X ag σ H s):Mod X.K X.mg X.base:=I.ok.mod
theorem a6.kIn (I:a6 X ag σ H s):X.K.In s.heap:=I.ok.mod.kin.keeps I.bk
theorem a6.fr (I:a6 X ag σ H s):∃m,Fr X.base X.env.locals s.heap m:=
 let ⟨m,hn,_⟩:=I.loc
 ⟨m,hn,I.bk,bl2 I.ok.bsz I.ok.above⟩
theorem a6.lt (I:a6 X ag σ H s):X.env.locals<s.heap.objs.size:=let ⟨_,hn,_⟩:=I.loc;hn.lt
theorem a6.sz (I:a6 X ag σ H s):X.s₀.heap.objs.size<=s.heap.objs.size:=bl2 I.ok.above (bn7 I.lt)
theorem a6.nofs (I:a6 X ag σ H s){a:ay}(h:s.heap.objs.size<=a):a∉X.fs:=λhb=>by
 obtain⟨_,o,ho,_⟩:=I.ok.funs.mem hb
 exact absurd (bh0 (bg7 ho) (bl2 I.sz h)) (bl1 _)
theorem a6.cne (I:a6 X ag σ H s):∀x c,X.env.cells.lookup x=some c->c≠X.env.locals:=λx c e z=>by
 obtain⟨v,o,ho,hd⟩:=I.cell x c e
 obtain⟨m,⟨o',es,ep,ho',hd',_⟩,_⟩:=I.loc
 rw[z,ho']at ho;cases ho;rw[hd']at hd;cases hd
theorem a6.funs (I:a6 X ag σ H s):s.heap.FunFrames X.base X.outer:=by
 have all:∀(l:List Env),(∀b∈bN l,b∈X.fs)->X.s₀.heap.FunFrames X.base l->s.heap.FunFrames X.base l:=by
  intro l
  induction l with
  |nil=>intro _ _;trivial
  |cons env r ih=>
   intro hs hl
   obtain⟨hk,⟨L,o,hf,hn,ho,hd⟩,hr⟩:=hl
   have hL:L∈X.fs:=hs L (by unfold bN;rw[List.filterMap_cons,hf];exact bg1)
   obtain⟨sl,e⟩:=I.base.slot L o ho (I.ok.frf L hL) hL λz=>I.ok.exfs L z hL
   exact⟨hk,⟨L,_,hf,hn,e,hd⟩,ih (λb hb=>hs b (by unfold bN;rw[List.filterMap_cons,hf];exact bf9 _ hb)) hr⟩
 exact all X.outer (λ_ hb=>hb) I.ok.funs
theorem a6.stack (I:a6 X ag σ H s):s.heap.FunFrames X.base X.stack:=by
 rcases I.ok.stk with e|⟨e,hf⟩
 ·rw[e];exact I.funs
 ·rw[e]
  obtain⟨m,hn,_⟩:=I.loc
  refine .cons (by rw[I.ok.kind];decide) hf hn ?_ I.funs;exact Heap.get?_none_of_le (bl2 I.ok.bsz I.ok.above)
theorem a6.stkSub (I:a6 X ag σ H s):∀b∈bN X.stack,b∈X.env.locals::X.fs:=λb hb=>by
 rcases I.ok.stk with e|⟨e,hf⟩
 ·rw[e]at hb;exact bf9 _ hb
 ·rw[e]at hb
  unfold bN at hb;rw[List.filterMap_cons,hf]at hb;exact hb
theorem a6.stkFree (I:a6 X ag σ H s):∀b∈bN X.stack,H b=none:=λb hb=>by
 rcases bg6.mp (I.stkSub b hb) with e|hb
 ·rw[e];exact I.free
 ·obtain⟨_,o,ho,_⟩:=I.ok.funs.mem hb
  exact I.base.free b o ho (I.ok.frf b hb) λz=>I.ok.exfs b z hb
theorem a6.step {g':Array GenState}{t':Nat}{d':Drawn}{ch:List ay}(I:a6 X ag σ H s)(hch:∀b∈ch,(b∈X.ex∨X.s₀.heap.objs.size<=b)/\b≠X.env.locals/\(∀x c,X.env.cells.lookup x=some c->c≠b)/\∀p∈X.pn++ag,p.1≠b)(keep:∀b o,b≠X.env.locals->b∉X.fs->b∉ch->s.heap.get? b=some o->H b=none->h'.get? b=some o)(slot:∀b o,b≠X.env.locals->b∈X.fs->b∉ch->s.heap.get? b=some o->H b=none->∃sl,h'.get? b=some { o with slots:=sl })(free:∀b o,b∉ch->s.heap.get? b=some o->H b=none->H' b=none)(there:∀b o,b∉ch->s.heap.get? b=some o->∃o',h'.get? b=some o')(tups:∀b xs,H b=some (.tup xs)->H' b=some (.tup xs))(frzs:∀b o u,H b=some (.frz o u)->H' b=some (.frz o u))(tbls:∀b ps,H b=some (.tbl ps)->∃more,H' b=some (.tbl (ps++more)))(ns:∀m,s.heap.Ns X.env.locals m->h'.Ns X.env.locals m)(hok:bO X.prog X.w H' h')(hg:AllBare g') :
  a6 X ag σ H' { s with heap:=h',gens:=g',drawn:=d',toks:=t' }:=by
 have neL:∀b o,X.s₀.heap.get? b=some o->b≠X.env.locals:=λb o e=>bi7 (bh0 (bg7 e) I.ok.above)
 have neC:∀b o,X.s₀.heap.get? b=some o->b∉X.ex->b∉ch:=λb o e hx hb=>by
  rcases (hch b hb).1 with z|z
  ·exact hx z
  ·exact absurd (bh0 (bg7 e) z) (bl1 _)
 have cellK:∀x c,X.env.cells.lookup x=some c->∀v,s.heap.IsCell c v->h'.IsCell c v:=λx c e v ⟨o,ho,hd⟩=>by
  have nch:c∉ch:=λz=>(hch c z).2.2.1 x c e rfl
  by_cases hc:c∈X.fs
  ·obtain⟨sl,q⟩:=slot c o (I.cne x c e) hc nch ho (I.freeC x c e)
   exact⟨_,q,hd⟩
  ·exact⟨o,keep c o (I.cne x c e) hc nch ho (I.freeC x c e),hd⟩
 refine⟨I.ok,I.os,hg,⟨λb o e n hb hx=>?_,λb o e n hb hx=>?_,λb o e n hx=>?_,λb o e hx=>?_,λb xs e=>tups b xs (I.base.tups b xs e),λb o xs e=>frzs b o xs (I.base.frzs b o xs e),λb ps e=>?_⟩,?_,λx c e=>?_,?_,λx c e=>?_,λp hp=>?_,hok,I.len⟩
 ·exact keep b o (neL b o e) hb (neC b o e hx) (I.base.keep b o e n hb hx) (I.base.free b o e n hx)
 ·obtain⟨sl,e1⟩:=I.base.slot b o e n hb hx
  obtain⟨sl',e2⟩:=slot b _ (neL b o e) hb (neC b o e hx) e1 (I.base.free b o e n hx)
  exact⟨sl',e2⟩
 ·obtain⟨o',e1⟩:=I.base.there b o e hx
  exact free b o' (neC b o e hx) e1 (I.base.free b o e n hx)
 ·obtain⟨o',e1⟩:=I.base.there b o e hx
  exact there b o' (neC b o e hx) e1
 ·obtain⟨m1,e1⟩:=I.base.tbls b ps e
  obtain⟨m2,e2⟩:=tbls b _ e1
  exact⟨m1++m2,by rw[e2,Array.append_assoc]⟩
 ·obtain⟨m,hn,hl⟩:=I.loc
  refine⟨m,ns m hn,λi x v e1 e2 e3=>?_⟩
  obtain⟨u,r,l⟩:=hl i x v e1 e2 e3
  refine⟨u,r,?_⟩;rcases l with l|⟨k,c,e,z⟩
  ·exact .inl l
  ·exact .inr ⟨k,c,e,cellK x c e _ z⟩
 ·obtain⟨v,z⟩:=I.cell x c e
  exact⟨v,cellK x c e v z⟩
 ·obtain⟨m,⟨o,_,_,ho,_⟩,_⟩:=I.loc
  exact free _ o (λz=>(hch _ z).2.1 rfl) ho I.free
 ·obtain⟨v,o,ho,hd⟩:=I.cell x c e
  exact free c o (λz=>(hch c z).2.2.1 x c e rfl) ho (I.freeC x c e)
 ·obtain⟨e,n,ne,nf,d⟩:=I.pin p hp
  have nch:p.1∉ch:=λz=>(hch p.1 z).2.2.2 p hp rfl
  exact⟨keep p.1 p.2 ne nf nch e n,free p.1 p.2 nch e n,ne,nf,d⟩
theorem a6.un {t':Nat}(I:a6 X ag σ H s)(u:Un X.fs [] H H' s.heap h')(hok:bO X.prog X.w H' h'):a6 X ag σ H' { s with heap:=h',toks:=t' }:=by
 obtain⟨m,⟨o,es,ep,ho,r⟩,_⟩:=id I.loc
 obtain⟨sl,hL⟩:=u.any ho I.free (by simp)
 exact I.step (g':=s.gens) (d':=s.drawn) (ch:=[]) (λ_ z=>nomatch z) (λb o _ hb _ e n=>u.keep b o e n hb (by simp)) (λb o _ hb _ e n=>u.slot b o e n hb (by simp)) (λb o _ e n=>u.free b o e n (by simp)) (λb o _ e=>u.there b o e (by simp)) u.tups u.frzs u.tbls (λm' hm=>by
  obtain⟨o',es',ep',ho',r'⟩:=hm
  rw[ho]at ho';cases ho'
  exact⟨_,es',ep',hL,r'⟩) hok I.bare
theorem a6.call {g':Array GenState}{t':Nat}{d':Drawn}{ch:List ay}(I:a6 X ag σ H s)(u:Un (bN X.stack) ch H H' s.heap h')(hok:bO X.prog X.w H' h')(hg:AllBare g')(hch:∀b∈ch,(b∈X.ex∨X.s₀.heap.objs.size<=b)/\b≠X.env.locals/\(∀x c,X.env.cells.lookup x=some c->c≠b)/\∀p∈X.pn++ag,p.1≠b) :
  a6 X ag σ H' { s with heap:=h',gens:=g',drawn:=d',toks:=t' }:=by
 obtain⟨m,⟨o,es,ep,ho,r⟩,_⟩:=id I.loc
 obtain⟨sl,hL⟩:=u.any ho I.free λz=>(hch _ z).2.1 rfl
 exact I.step (ch:=ch) hch (λb o hL hb hc e n=>u.keep b o e n (λz=>(bg6.mp (I.stkSub b z)).elim hL hb) hc) (λb o _ _ hc e n=>u.any e n hc) (λb o hc e n=>u.free b o e n hc) (λb o hc e=>u.there b o e hc) u.tups u.frzs u.tbls (λm' hm=>by
  obtain⟨o',es',ep',ho',r'⟩:=hm
  rw[ho]at ho';cases ho'
  exact⟨_,es',ep',hL,r'⟩) hok hg
theorem a6.turned {t':Nat}{it:ay}(I:a6 X ag σ H s)(k:∀b o,b≠it->s.heap.get? b=some o->h'.get? b=some o)(hn:H it=none)(hL:it≠X.env.locals)(h1:it∈X.ex∨X.s₀.heap.objs.size<=it)(h2:∀x c,X.env.cells.lookup x=some c->c≠it)(h3:∀p∈X.pn++ag,p.1≠it):a6 X ag σ H { s with heap:=h',toks:=t' }:=by
 have nit:∀b u,H b=some u->b≠it:=λb u e z=>by rw[z,hn]at e;cases e
 refine I.step (g':=s.gens) (d':=s.drawn) (ch:=[it]) (λb hb=>?_) (λb o _ _ hc e _=>k b o (λz=>hc (by simp[z])) e) (λb o _ _ hc e _=>⟨o.slots,k b o (λz=>hc (by simp[z])) e⟩) (λ_ _ _ _ n=>n)
  (λb o hc e=>⟨o,k b o (λz=>hc (by simp[z])) e⟩) (λ_ _ e=>e) (λ_ _ _ e=>e) (λb ps e=>⟨#[],by rw[e];simp⟩) (λm hm=>?_) (λb u e=>?_) I.bare
 ·have e:b=it:=by simpa using hb
  subst e
  exact⟨h1,hL,h2,h3⟩
 ·obtain⟨o,es,ep,ho,r⟩:=hm
  exact⟨o,es,ep,k _ o (Ne.symm hL) ho,r⟩
 ·refine (I.hok b u e).stay (λc v hc q=>k c v ?_ q) (λ_ q=>q) λ_ _ q=>q
  rcases hc with z|z
  ·rw[z];exact nit b u e
  ·exact nit c _ z
theorem a6.tok (I:a6 X ag σ H s)(t:Nat):a6 X ag σ H { s with toks:=t }:=I.un (h':=s.heap) (t':=t) Un.refl I.hok
theorem a6.kept {t':Nat}(I:a6 X ag σ H s)(k:∀b u,s.heap.get? b=some u->h'.get? b=some u):a6 X ag σ H { s with heap:=h',toks:=t' }:=I.un (Un.kept k) (I.hok.kept k)
theorem a6.laid {a:ay}{o:HO}{t':Nat}(I:a6 X ag σ H s)(k:∀b u,s.heap.get? b=some u->h'.get? b=some u)(hp:s.heap.objs.size<=a)(new:bM X.prog X.w (upd H a o) h' a o) :
  a6 X ag σ (upd H a o) { s with heap:=h',toks:=t' }:=I.un (Un.laid k hp (I.hok.fresh hp)) (I.hok.laid k hp new)
theorem a6.write {x e:ay}{o:HO}{t':Nat}(I:a6 X ag σ H s)(mu:nQ (H x))(he:e=x∨H e=some (.own x))(k:∀b u,b≠e->s.heap.get? b=some u->h'.get? b=some u)(heo:∃u,h'.get? e=some u)(new:bM X.prog X.w (upd H x o) h' x o):a6 X ag σ (upd H x o) { s with heap:=h',toks:=t' }:=I.un (Un.write mu he k heo) (I.hok.write mu he k heo new)
theorem a6.weak {σ':List (Option V)}(I:a6 X ag σ H s)(hl:σ'.length=σ.length)(w:∀(i:Nat) v,σ'[i]? = some (some v)->σ[i]? = some (some v)):a6 X ag σ' H s:=
 ⟨I.ok,I.os,I.bare,I.base,let ⟨m,hn,hl'⟩:=I.loc;⟨m,hn,λi x v e1 e2 e3=>hl' i x v e1 (w i v e2) e3⟩,I.cell,I.free,I.freeC,I.pin,I.hok,hl.trans I.len⟩
theorem a6.pins_of {pins':List (ay×Obj)}(I:a6 X ag σ H s)(h:∀p∈pins',s.heap.get? p.1=some p.2/\H p.1=none/\p.1≠X.env.locals/\p.1∉X.fs/\∀v,p.2.data≠.cell v):a6 X pins' σ H s:=
 ⟨I.ok,I.os,I.bare,I.base,I.loc,I.cell,I.free,I.freeC,λp hp=>(bj1.mp hp).elim (λz=>I.pin p (bk0 _ z)) (h p),I.hok,I.len⟩
theorem tS {N:List Str}(hN:N.Nodup){i j:Nat}{x:Str}(a:N[i]? = some x)(b:N[j]? = some x):i=j:=by
 obtain⟨h1,e1⟩:=bh8.mp a
 obtain⟨h2,e2⟩:=bh8.mp b
 exact (List.getElem_inj hN).mp (e1.trans e2.symm)
theorem yJ {M:Model}{A:ba}{E:av->ax->Prop}{i:Nat}{x:Str}{v:V}{u:av}{Q:Unit->ax->Prop}(I:a6 X ag σ H s)(hN:X.N.Nodup)(hi:X.N[i]? = some x)(hx:iB X.env.scope x)(r:aP v u)(h:∀s',a6 X ag (σ.set i (some v)) H s'->(∃a,Heap.SameBut a s.heap s'.heap/\(a=X.env.locals∨X.env.cells.lookup x=some a))->Q () s')(hf:X.fn x=true∨X.env.scope.names.lookup x=some .local:=by first|exact .inl rfl|exact .inr rfl|assumption):wpAny M A (storeName X.env x u) Q E s:=by
 obtain⟨m,hn,hl⟩:=id I.loc
 have hcls:(X.env.scope.kind==.class||(X.env.scope.kind==.module&&X.env.locals != X.env.globals))=false:=by rw[I.ok.kind];rfl
 have hiσ:i<σ.length:=by rw[I.len];exact (bh8.mp hi).1
 have cne:=I.cne;have tracked:∀{a:ay}{h':Heap},(∃o,s.heap.get? a=some o/\H a=none)->Heap.SameBut a s.heap h'->bO X.prog X.w H h':=λ{a h'} ha hs b ob e=>by
  obtain⟨_,_,hfree⟩:=ha
  refine (I.hok b ob e).stay (λc w' hc q=>(hs.2 c ?_).trans q) (λ_ q=>q) λ_ _ q=>q
  rintro rfl;rcases hc with rfl|hc
  ·rw[hfree]at e;cases e
  ·rw[hfree]at hc;cases hc
 rcases hx with hk|hk
 ·refine wpAny_storeName_local hk hn (λh' hn' hs=>?_) hcls
  obtain⟨oL,_,_,hoL,_⟩:=id hn
  refine h _ ⟨I.ok,I.os,I.bare,⟨λb o e n hb hx=>?_,λb o e n hb hx=>?_,I.base.free,λb o e hx=>?_,I.base.tups,I.base.frzs,I.base.tbls⟩,⟨_,hn',λj y v' e1 e2 e3=>?_⟩,λy c e=>?_,I.free,I.freeC,λp hp=>?_,tracked ⟨oL,hoL,I.free⟩ hs,by simpa using I.len⟩ ⟨_,hs,.inl rfl⟩
  ·exact (hs.2 b (bi7 (bh0 (bg7 e) I.ok.above))).trans (I.base.keep b o e n hb hx)
  ·obtain⟨sl,e1⟩:=I.base.slot b o e n hb hx
   exact⟨sl,(hs.2 b (bi7 (bh0 (bg7 e) I.ok.above))).trans e1⟩
  ·obtain⟨o',e1⟩:=I.base.there b o e hx
   exact⟨o',(hs.2 b (bi7 (bh0 (bg7 e) I.ok.above))).trans e1⟩
  ·by_cases hj:j=i
   ·subst hj
    rw[hi]at e1;cases e1;rw[bo6 hiσ]at e2;cases e2
    exact⟨u,r,.inl ⟨hk,by simp⟩⟩
   ·rw[bj6 (Ne.symm hj)]at e2
    obtain⟨u',r',q⟩:=hl j y v' e1 e2 e3
    refine⟨u',r',?_⟩;rcases q with⟨k,e⟩|⟨k,c,e,z⟩
    ·refine .inl ⟨k,?_⟩
     have:y≠x:=λe=>hj (tS hN e1 (e▸hi))
     simp[this,e]
    ·exact .inr ⟨k,c,e,z.sameBut hs (cne y c e)⟩
  ·obtain⟨w',z⟩:=I.cell y c e
   exact⟨w',z.sameBut hs (cne y c e)⟩
  ·obtain⟨e,n,ne,nf,d⟩:=I.pin p hp
   exact⟨(hs.2 p.1 ne).trans e,n,ne,nf,d⟩
 ·have hfn:X.fn x=true:=by
   rcases hf with z|z
   ·exact z
   ·rw[z]at hk;cases hk
  obtain⟨c,hc⟩:=I.ok.has x (.inl hk)
  obtain⟨w',z⟩:=I.cell x c hc
  refine wpAny_storeName_cell I.ok.kind hk hc z (λh' hc' hs=>?_)
  obtain⟨oc,hoc,hocd⟩:=id z
  refine h { s with heap:=h' } ⟨I.ok,I.os,I.bare,⟨λb o e n hb hx=>?_,λb o e n hb hx=>?_,I.base.free,λb o e hx=>?_,I.base.tups,I.base.frzs,I.base.tbls⟩,⟨m,hn.sameBut hs (Ne.symm (cne x c hc)),λj y v' e1 e2 e3=>?_⟩,λy c' e=>?_,I.free,I.freeC,λp hp=>?_,tracked ⟨oc,hoc,I.freeC x c hc⟩ hs,by simpa using I.len⟩ ⟨c,hs,.inr hc⟩
  ·exact (hs.2 b (bi7 (bh0 (bg7 e) (I.ok.cab x c hfn hc)))).trans (I.base.keep b o e n hb hx)
  ·obtain⟨sl,e1⟩:=I.base.slot b o e n hb hx
   exact⟨sl,(hs.2 b (bi7 (bh0 (bg7 e) (I.ok.cab x c hfn hc)))).trans e1⟩
  ·obtain⟨o',e1⟩:=I.base.there b o e hx
   exact⟨o',(hs.2 b (bi7 (bh0 (bg7 e) (I.ok.cab x c hfn hc)))).trans e1⟩
  ·by_cases hj:j=i
   ·subst hj
    rw[hi]at e1;cases e1;rw[bo6 hiσ]at e2;cases e2
    exact⟨u,r,.inr ⟨.inl hk,c,hc,hc'⟩⟩
   ·rw[bj6 (Ne.symm hj)]at e2
    obtain⟨u',r',q⟩:=hl j y v' e1 e2 e3
    refine⟨u',r',?_⟩;rcases q with q|⟨k,c',e,z'⟩
    ·exact .inl q
    ·refine .inr ⟨k,c',e,z'.sameBut hs ?_⟩
     rintro rfl;exact hj (tS hN e1 (I.ok.inj _ _ _ e hc▸hi))
  ·by_cases hcc:c'=c
   ·subst hcc;exact⟨_,hc'⟩
   ·obtain⟨w2,z2⟩:=I.cell y c' e
    exact⟨w2,z2.sameBut hs hcc⟩
  ·obtain⟨e,n,ne,nf,d⟩:=I.pin p hp
   refine⟨(hs.2 p.1 ?_).trans e,n,ne,nf,d⟩;intro q;rw[q,hoc]at e;have q':oc=p.2:=bj4 e;exact d w' (by rw[<- q'];exact hocd)
theorem tT {M:Model}{A:ba}{E:av->ax->Prop}{i:Nat}{x:Str}{v:V}{u:av}{Q:Unit->ax->Prop}(I:a6 X ag σ H s)(hN:X.N.Nodup)(hi:X.N[i]? = some x)(hx:iB X.env.scope x)(r:aP v u)(h:∀s',a6 X ag (σ.set i (some v)) H s'->Q () s')(hf:X.fn x=true∨X.env.scope.names.lookup x=some .local:=by first|exact .inl rfl|exact .inr rfl|assumption):wpAny M A (storeName X.env x u) Q E s:=
 yJ I hN hi hx r (λs' I' _=>h s' I') hf
theorem a6.call' {s':ax}{ch:List ay}(I:a6 X ag σ H s)(ho:s'.os=s.os)(u:Un (bN X.stack) ch H H' s.heap s'.heap)(hok:bO X.prog X.w H' s'.heap)(hg:AllBare s'.gens)(hch:∀b∈ch,(b∈X.ex∨X.s₀.heap.objs.size<=b)/\b≠X.env.locals/\(∀x c,X.env.cells.lookup x=some c->c≠b)/\∀p∈X.pn++ag,p.1≠b):a6 X ag σ H' s':=by
 obtain⟨h',g',d',t',o'⟩:=s'
 have e:o'=s.os:=ho;subst e;exact I.call (g':=g') (t':=t') (d':=d') u hok hg hch
end
abbrev XK:=av->Option ay->Hp->Prop
abbrev St:=List (Option V)
abbrev VK:=V->Hp->Prop
abbrev TE:=St->Hp->VK->Prop
abbrev TT:=St->Hp->(Bool->Hp->Prop)->Prop
abbrev TA:=St->Hp->(List V->Hp->Prop)->Prop
structure dP where
 nx:St->Hp->Prop
 rt:VK
 bk:St->Hp->Prop:=λ_ _=>False
 ct:St->Hp->Prop:=λ_ _=>False
abbrev TS:=dP->St->Hp->Prop
def EP (X:Cx)(ag:List (ay×Obj))(σ:St)(Q:VK)(u:av)(s':ax):Prop:=∃v H',a6 X ag σ H' s'/\aP v u/\Q v H'
def TP (X:Cx)(ag:List (ay×Obj))(σ:St)(Q:Bool->Hp->Prop)(b:Bool)(s':ax):Prop:=∃H',a6 X ag σ H' s'/\Q b H'
def AP (X:Cx)(ag:List (ay×Obj))(σ:St)(Q:List V->Hp->Prop)(us:List av)(s':ax):Prop:=∃vs H',a6 X ag σ H' s'/\aI vs us/\Q vs H'
def SP (X:Cx)(ag:List (ay×Obj))(D:dP)(f:Flow)(s':ax):Prop:=
 match f with
 |.next=>∃σ' H',a6 X ag σ' H' s'/\D.nx σ' H'
 |.brk=>∃σ' H',a6 X ag σ' H' s'/\D.bk σ' H'
 |.cont=>∃σ' H',a6 X ag σ' H' s'/\D.ct σ' H'
 |.ret u=>∃v σ' H',a6 X ag σ' H' s'/\aP v u/\D.rt v H'
def PE (X:Cx)(e:Expr)(t:TE):Prop:=
 ∀(ag:List (ay×Obj)) (s:ax) (σ:St) (H:Hp) (Q:VK),a6 X ag σ H s->t σ H Q->wpAny (model X.prog X.w) X.A (eval e X.env) (EP X ag σ Q) X.xe s
def PT (X:Cx)(e:Expr)(t:TT):Prop:=
 ∀(ag:List (ay×Obj)) (s:ax) (σ:St) (H:Hp) (Q:Bool->Hp->Prop),a6 X ag σ H s->t σ H Q->wpAny (model X.prog X.w) X.A (isTrue e X.env (eval e X.env)) (TP X ag σ Q) X.xe s
def PW (X:Cx)(e:Expr)(t:TT):Prop:=
 ∀(whole:Sem av) (ag:List (ay×Obj)) (s:ax) (σ:St) (H:Hp) (Q:Bool->Hp->Prop),a6 X ag σ H s->t σ H Q->wpAny (model X.prog X.w) X.A (isTrue e X.env whole) (TP X ag σ Q) X.xe s
theorem PW.pt {X:Cx}{e:Expr}{t:TT}(h:PW X e t):PT X e t:=h _
def PA (X:Cx)(es:List Expr)(t:TA):Prop:=
 ∀(pos:Pos) (ag:List (ay×Obj)) (s:ax) (σ:St) (H:Hp) (Q:List V->Hp->Prop),a6 X ag σ H s->t σ H Q->wpAny (model X.prog X.w) X.A (spliced (backTo pos (starEach es X.env))) (AP X ag σ Q) X.xe s
def PS (X:Cx)(st:Stmt)(t:TS):Prop:=
 ∀(ag:List (ay×Obj)) (s:ax) (σ:St) (H:Hp) (D:dP),a6 X ag σ H s->t D σ H->wpAny (model X.prog X.w) X.A (exec st X.env) (SP X ag D) X.xe s
def dQ (X:Cx)(st:List Stmt)(t:TS):Prop:=
 ∀(ag:List (ay×Obj)) (s:ax) (σ:St) (H:Hp) (D:dP),a6 X ag σ H s->t D σ H->wpAny (model X.prog X.w) X.A (execs st X.env) (SP X ag D) X.xe s
theorem aJ {α:Type}{t:Sem α}{Q Q':α->ax->Prop}{M:Model}{A:ba}{E:av->ax->Prop}{s:ax}(h:wpAny M A t Q E s)(hQ:∀a s,Q a s->Q' a s):wpAny M A t Q' E s:=bm8 h hQ λ_ _ x=>x
section
variable {X:Cx}
theorem bin {a b:Expr}{ta tb:TE}(ha:PE X a ta)(hb:PE X b tb){ag:List (ay×Obj)}{s:ax}{σ:St}{H:Hp}{R:V->V->Hp->Prop}(I:a6 X ag σ H s)(h:ta σ H λx H1=>tb σ H1 λy H2=>R x y H2){α:Type}{Q:α->ax->Prop}{f:av->av->Sem α}(hf:∀v u s2 x y H2,a6 X ag σ H2 s2->aP x v->aP y u->R x y H2->wpAny (model X.prog X.w) X.A (f v u) Q X.xe s2) :
  wpAny (model X.prog X.w) X.A (eval a X.env) (λv s₁=>wpAny (model X.prog X.w) X.A (eval b X.env) (λu s₂=>wpAny (model X.prog X.w) X.A (f v u) Q X.xe s₂) X.xe s₁) X.xe s:=by
 refine aJ (ha ag s σ H _ I h) λv s1 ⟨x,H1,I1,r1,q1⟩=>?_
 refine aJ (hb ag s1 σ H1 _ I1 q1) λu s2 ⟨y,H2,I2,r2,q2⟩=>?_
 exact hf v u s2 x y H2 I2 r1 r2 q2
def lU (i:Nat):TE:=λσ H Q=>∃v,σ[i]? = some (some v)/\Q v H
def tC (v:V):TE:=λ_ H Q=>Q v H
theorem nR {i:Nat}{x:Str}{pos:Pos}(hN:X.N[i]? = some x)(hv:jK X.env.scope x)(hd:(x==("__debug__":Str))=false:=by decide)(hcd:(x==("__classdict__":Str))=false:=by decide):PE X (.Name x pos) (lU i):=by
 intro ag s σ H Q I h
 obtain⟨v,e,h⟩:=h
 obtain⟨m,hn,hl⟩:=I.loc
 obtain⟨u,r,l⟩:=hl i x v hN e hv
 have fin:EP X ag σ Q u s:=⟨v,H,I,r,h⟩;rcases l with⟨hk,hm⟩|⟨hk,c,hc,hcell⟩
 ·exact wpAny_Name (wpAny_loadName_local I.ok.kind hk hn hm fin) hd
 ·rcases hk with hk|hk
  ·exact wpAny_Name (wpAny_loadName_cell I.ok.kind hk hc hcell fin) hd
  ·exact wpAny_Name (wpAny_loadName_free I.ok.kind hk hc hcell fin hcd) hd
theorem ai3 {i j pos}:PE X (.Constant (.int i) j pos) (tC (.int i)):=λ_ _ _ H _ I h=>wpAny_Constant_int ⟨.int i,H,I.tok _,⟨_,rfl⟩,h⟩
theorem ai4 {b j pos}:PE X (.Constant (.bool b) j pos) (tC (.bl b)):=λ_ _ _ H _ I h=>Constant_bool ⟨.bl b,H,I,rfl,h⟩
theorem ai5 {j pos}:PE X (.Constant .none j pos) (tC .non):=λ_ _ _ H _ I h=>Constant_none ⟨.non,H,I,rfl,h⟩
theorem ai6 {x j pos}:PE X (.Constant (.str x) j pos) (tC (.str x)):=λ_ _ _ H _ I h=>Calls.Constant_str ⟨.str x,H,I.tok _,⟨_,rfl⟩,h⟩
def Gl (X:Cx)(x:Str):Prop:=X.env.kindOf x=some .globalImplicit
theorem nS {E:av->ax->Prop}{ag:List (ay×Obj)}{s:ax}{σ:St}{H:Hp}{x:Str}{u:av}{pos:Pos}{Q:av->ax->Prop}(I:a6 X ag σ H s)(hg:Gl X x)(hm:X.mg x=some u)(h:Q u s)(hd:(x==("__debug__":Str))=false:=by decide):wpAny (model X.prog X.w) X.A (eval (.Name x pos) X.env) Q E s:=
 Calls.Name_function_global I.ok.kind hg (Calls.loadGlobal_global (by rw[I.ok.glob];exact I.mod.glob.keeps I.bk) hm h) hd
theorem lV {E:av->ax->Prop}{ag:List (ay×Obj)}{s:ax}{σ:St}{H:Hp}{x:Str}{u:av}{pos:Pos}{Q:av->ax->Prop}(I:a6 X ag σ H s)(hg:Gl X x)(hm:X.mg x=none)(hv:bootBuiltins x=some u)(h:Q u s)(hn:x≠"__name__":=by decide)(hd:(x==("__debug__":Str))=false:=by decide):wpAny (model X.prog X.w) X.A (eval (.Name x pos) X.env) Q E s:=by
 obtain⟨mb,h1,h2⟩:=I.mod.blt
 exact Calls.Name_function_global I.ok.kind hg (Calls.loadGlobal_builtin (by rw[I.ok.glob];exact I.mod.glob.keeps I.bk) hm (by rw[I.ok.blt];exact h1.keeps I.bk) ((h2 x hn).trans hv) h) hd
theorem yK {x:Str}{v:V}{u:av}{pos:Pos}(hg:Gl X x)(hm:X.mg x=some u)(r:aP v u)(hd:(x==("__debug__":Str))=false:=by decide):PE X (.Name x pos) (tC v):=
 λ_ _ _ H _ I h=>nS I hg hm ⟨v,H,I,r,h⟩ hd
theorem yL {x:Str}{v:V}{u:av}{pos:Pos}(hg:Gl X x)(hm:X.mg x=none)(hv:bootBuiltins x=some u)(r:aP v u)(hn:x≠"__name__":=by decide)(hd:(x==("__debug__":Str))=false:=by decide):PE X (.Name x pos) (tC v):=
 λ_ _ _ H _ I h=>lV I hg hm hv ⟨v,H,I,r,h⟩ hn hd
variable {a b:Expr}{ta tb:TE}{pos:Pos}
def PC (X:Cx)(op:CmpOp)(a b:Expr)(t:TE):Prop:=
 ∀(ag:List (ay×Obj)) (s:ax) (σ:St) (H:Hp) (Q:VK),a6 X ag σ H s->t σ H Q->
  wpAny (model X.prog X.w) X.A (eval a X.env) (λv s₁=>wpAny (model X.prog X.w) X.A (eval b X.env) (λu s₂=>wpAny (model X.prog X.w) X.A (compareOp op v u) (EP X ag σ Q) X.xe s₂) X.xe s₁) X.xe s
def tB (t:TE):TT:=λσ H Q=>t σ H λx H1=>∃c,x = .bl c/\Q c H1
theorem ai7 {op:CmpOp}{t:TE}(h:PC X op a b t)(h1:behindInMarks op b=false:=by first|exact nobehind _ (by decide) (by decide)|rfl):PT X (.Compare a [op] [b] pos) (tB t):=by
 intro ag s σ H Q I hw;refine wpAny_isTrue_Compare1 (aJ (h ag s σ H _ I hw) λv s1 h1=>aJ h1 λu s2 h2=>aJ h2 λc s3 ⟨x,H1,I1,r1,q1⟩=>?_) h1
 obtain⟨d,rfl,q⟩:=q1
 cases r1;exact bq6 ⟨H1,I1,q⟩
theorem ai8 {e:Expr}{t:TE}(h:PE X e t)(he:∀whole,isTrue e X.env whole=(do let v <- whole;standAt e.pos;holding [v] (truthy v)):=by intro _;rfl):PT X e (tB t):=by
 intro ag s σ H Q I hw;refine isTrue_plain (aJ (h ag s σ H _ I hw) λv s1 ⟨x,H1,I1,r1,q1⟩=>?_) (he _)
 obtain⟨d,rfl,q⟩:=q1
 cases r1;exact bq6 ⟨H1,I1,q⟩
variable {tA tB':TT}{b8:List Expr}
def yM (t u:TT):TT:=λσ H Q=>t σ H λc H1=>if c=true then u σ H1 Q else Q false H1
def yN (t u:TT):TT:=λσ H Q=>t σ H λc H1=>if c=true then Q true H1 else u σ H1 Q
def yO (t:TT):TT:=λσ H Q=>t σ H λc H1=>Q (!c) H1
theorem ai9 (ha:PT X a tA):PW X (.BoolOp .And [a] pos) tA:=by
 intro wh ag s σ H Q I h;refine isTrue_and (aJ (ha ag s σ H Q I h) λc s1 e=>?_);cases c with
 |true=>exact isTrue_and_nil e
 |false=>exact e
theorem aj0 (ha:PT X a tA):PW X (.BoolOp .Or [a] pos) tA:=by
 intro wh ag s σ H Q I h;refine isTrue_or (aJ (ha ag s σ H Q I h) λc s1 e=>?_);cases c with
 |false=>exact isTrue_or_nil e
 |true=>exact e
theorem aj1 (ha:PT X a tA)(hb:PW X (.BoolOp .And (b::b8) pos) tB'):PW X (.BoolOp .And (a::b::b8) pos) (yM tA tB'):=by
 intro wh ag s σ H Q I h;refine isTrue_and (aJ (ha ag s σ H _ I h) λc s1 ⟨H1,I1,q1⟩=>?_);cases c with
 |true=>exact hb wh ag s1 σ H1 Q I1 q1
 |false=>exact⟨H1,I1,q1⟩
theorem aj2 (ha:PT X a tA)(hb:PW X (.BoolOp .Or (b::b8) pos) tB'):PW X (.BoolOp .Or (a::b::b8) pos) (yN tA tB'):=by
 intro wh ag s σ H Q I h;refine isTrue_or (aJ (ha ag s σ H _ I h) λc s1 ⟨H1,I1,q1⟩=>?_);cases c with
 |true=>exact⟨H1,I1,q1⟩
 |false=>exact hb wh ag s1 σ H1 Q I1 q1
theorem aj3 (ha:PT X a tA):PT X (.UnaryOp .Not a pos) (yO tA):=by
 intro ag s σ H Q I h;exact isTrue_not (ha ag s σ H (λc H1=>Q (!c) H1) I h)
def yP (ta tb:TE):TE:=λσ H Q=>ta σ H λx H1=>∃c,x = .bl c/\if c=true then tb σ H1 Q else Q (.bl false) H1
def yQ (ta:TE):TE:=λσ H Q=>ta σ H λx H1=>∃c,x = .bl c/\Q (.bl (!c)) H1
theorem aj4 {op}{t:TE}(h:PE X a t):PE X (.BoolOp op [a] pos) t:=λag s σ H Q I hw=>BoolOp_one (h ag s σ H Q I hw)
theorem aj5 (ha:PE X a ta)(hb:PE X (.BoolOp .And (b::b8) pos) tb):PE X (.BoolOp .And (a::b::b8) pos) (yP ta tb):=by
 intro ag s σ H Q I h;refine BoolOp_and (aJ (ha ag s σ H _ I h) λv s1 ⟨x,H1,I1,r1,q1⟩=>?_)
 obtain⟨c,rfl,q1⟩:=q1
 cases r1;refine bq6 ?_;cases c with
 |true=>exact hb ag s1 σ H1 Q I1 q1
 |false=>exact⟨.bl false,H1,I1,rfl,q1⟩
theorem aj6 (ha:PE X a ta):PE X (.UnaryOp .Not a pos) (yQ ta):=by
 intro ag s σ H Q I h;refine UnaryOp_ (aJ (ha ag s σ H _ I h) λv s1 ⟨x,H1,I1,r1,q1⟩=>?_)
 obtain⟨c,rfl,q1⟩:=q1
 cases r1;exact not_of (bq6 ⟨.bl (!c),H1,I1,rfl,q1⟩)
end
def aT (K:ac)(H:Hp)(a:ay)(xs:List V):Prop:=
 Rd H a (.lst xs) ∨
  ∃(o:Obj) (its:Array av) (n:Nat),K.lookup a=some o/\o.cls = .type "list"/\o.dict=none/\o.data = .seq its n/\its.size<=sizeLine/\aI xs its.toList
def aM (K:ac)(H:Hp)(a:ay)(xs:List V):Prop:=
 Rd H a (.tup xs) ∨
  ∃(o:Obj) (its:Array av) (n:Nat),K.lookup a=some o/\o.cls = .type "tuple"/\o.data = .seq its n/\its.size<=sizeLine/\aI xs its.toList
def aj7:av->Option V
 |.none=>some .non
 |.bool b=>some (.bl b)
 |.int i _=>some (.int i)
 |.str x _=>some (.str x)
 |.bytes b _=>some (.byt b)
 |.float b _=>some (.flt b)
 |.ref a=>some (.ref a)
 |.type n=>some (.ty n)
 |_=>none
theorem aP.abs {x:V}{u:av}(r:aP x u):aj7 u=some x:=by
 cases x with
 |non=>cases r;rfl
 |bl _=>cases r;rfl
 |int _=>obtain⟨t,rfl⟩:=r;rfl
 |str _=>obtain⟨t,rfl⟩:=r;rfl
 |byt _=>obtain⟨t,rfl⟩:=r;rfl
 |flt _=>obtain⟨t,rfl⟩:=r;rfl
 |ref _=>cases r;rfl
 |ty _=>cases r;rfl
theorem aP.inj {x y:V}{u:av}(r:aP x u)(q:aP y u):x=y:=bj4 (r.abs.symm.trans q.abs)
theorem aI.inj:∀{xs ys:List V}{us:List av},aI xs us->aI ys us->xs=ys
 |_,_,_,.nil,.nil=>rfl
 |_,_,_,.cons r t,.cons r' t'=>by rw[r.inj r',aI.inj t t']
section
variable {X:Cx}{ag:List (ay×Obj)}{σ:St}{H:Hp}{s:ax}{a:ay}{xs ys:List V}
theorem aT.of {K:ac}(h:H a=some (.lst xs)):aT K H a xs:=.inl (.inl h)
theorem aM.of {K:ac}(h:H a=some (.tup xs)):aM K H a xs:=.inl (.inl h)
theorem a6.list (I:a6 X ag σ H s)(h:aT X.K H a xs):∃its:List av,aI xs its/\PlainL s.heap a its.toArray/\xs.length<=sizeLine:=by
 rcases h with h|⟨o,its,n,hk,hc,hd,hs,hz,r⟩
 ·obtain⟨z,its,n,r,e⟩:=h.ok I.hok
  exact⟨its,r,⟨_,n,e,rfl,rfl,rfl⟩,z⟩
 ·refine⟨its.toList,r,⟨o,n,I.kIn a o hk,hc,hd,by simpa using hs⟩,?_⟩
  have e:=r.length;simp only[bh3]at e;omega
theorem a6.tuple (I:a6 X ag σ H s)(h:aM X.K H a xs):∃its:List av,aI xs its/\IsTup s.heap a its.toArray/\xs.length<=sizeLine:=by
 rcases h with h|⟨o,its,n,hk,hc,hs,hz,r⟩
 ·obtain⟨z,its,r,p,_⟩:=h.ok I.hok
  exact⟨its,r,p,z⟩
 ·refine⟨its.toList,r,⟨o,I.kIn a o hk,hc,n,by simpa using hs⟩,?_⟩
  have e:=r.length;simp only[bh3]at e;omega
theorem a6.list_inj (I:a6 X ag σ H s)(h:aT X.K H a xs)(h':aT X.K H a ys):xs=ys:=by
 obtain⟨its,r,⟨o,n,e,_,_,d⟩,_⟩:=I.list h
 obtain⟨its',r',⟨o',n',e',_,_,d'⟩,_⟩:=I.list h'
 rw[e]at e';cases e';rw[d]at d';injection d' with d1 _
 have:its=its':=by simpa using congrArg Array.toList d1
 subst this;exact r.inj r'
theorem a6.tuple_inj (I:a6 X ag σ H s)(h:aM X.K H a xs)(h':aM X.K H a ys):xs=ys:=by
 obtain⟨its,r,⟨o,e,_,n,d⟩,_⟩:=I.tuple h
 obtain⟨its',r',⟨o',e',_,n',d'⟩,_⟩:=I.tuple h'
 rw[e]at e';cases e';rw[d]at d';injection d' with d1 _
 have:its=its':=by simpa using congrArg Array.toList d1
 subst this;exact r.inj r'
end
abbrev Cx.wish (X:Cx)(E:av->ax->Prop):Cx:={ X with xe:=E }
abbrev Cx.nox (X:Cx):Cx:=X.wish λ_ _=>False
theorem Cx.Ok.wish {X:Cx}(ok:X.Ok)(E:av->ax->Prop):(X.wish E).Ok:=
 ⟨ok.mod,ok.kind,ok.glob,ok.blt,ok.above,ok.inj,ok.has,ok.cab,ok.hd,ok.frames,ok.stk,ok.exf,ok.bs,ok.bsz,ok.noex,ok.exfs,ok.funs,ok.frf⟩
theorem Cx.Ok.unwish {X:Cx}{E:av->ax->Prop}(ok:(X.wish E).Ok):X.Ok:=
 ⟨ok.mod,ok.kind,ok.glob,ok.blt,ok.above,ok.inj,ok.has,ok.cab,ok.hd,ok.frames,ok.stk,ok.exf,ok.bs,ok.bsz,ok.noex,ok.exfs,ok.funs,ok.frf⟩
section
variable {X:Cx}{ag:List (ay×Obj)}{σ:St}{H:Hp}{s:ax}{E:av→ax→Prop}
theorem a6.wish (I:a6 X ag σ H s)(E:av->ax->Prop):a6 (X.wish E) ag σ H s:=⟨I.ok.wish E,I.os,I.bare,I.base,I.loc,I.cell,I.free,I.freeC,I.pin,I.hok,I.len⟩
theorem a6.unwish (I:a6 (X.wish E) ag σ H s):a6 X ag σ H s:=⟨I.ok.unwish,I.os,I.bare,I.base,I.loc,I.cell,I.free,I.freeC,I.pin,I.hok,I.len⟩
theorem SP.unwish {D:dP}{f:Flow}{s':ax}(h:SP (X.wish E) ag D f s'):SP X ag D f s':=by
 cases f with
 |next=>obtain⟨σ',H',I,q⟩:=h;exact⟨σ',H',I.unwish,q⟩
 |brk=>obtain⟨σ',H',I,q⟩:=h;exact⟨σ',H',I.unwish,q⟩
 |cont=>obtain⟨σ',H',I,q⟩:=h;exact⟨σ',H',I.unwish,q⟩
 |ret u=>obtain⟨v,σ',H',I,r,q⟩:=h;exact⟨v,σ',H',I.unwish,r,q⟩
theorem dQ.nox {st:List Stmt}{t:TS}(h:dQ X.nox st t):dQ X st t:=λag s σ H D I hw=>
 bm8 (h ag s σ H D (I.wish _) hw) (λ_ _ q=>q.unwish) λ_ _ z=>False.elim z
end
section
variable {X:Cx}{st:Stmt}{b8:List Stmt}{t u:TS}{e:Expr}{te:TE}{pos:Pos}
def yR:TS:=λD σ H=>D.nx σ H
def yS (t u:TS):TS:=λD σ H=>t { D with nx:=u D } σ H
theorem aj8:dQ X [] yR:=λ_ _ σ H _ I h=>bv8 ⟨σ,H,I,h⟩
theorem aj9 (h1:PS X st t)(h2:dQ X b8 u):dQ X (st::b8) (yS t u):=by
 intro ag s σ H D I h;refine wpAny_execs_cons (aJ (h1 ag s σ H { D with nx:=u D } I h) λf s1 q=>?_);cases f with
 |next=>
  obtain⟨σ',H',I',q⟩:=q
  exact h2 ag s1 σ' H' D I' q
 |ret v=>exact q
 |brk=>exact q
 |cont=>exact q
theorem ak0 (h1:PS X st t):dQ X [st] t:=by
 intro ag s σ H D I h;refine wpAny_execs_cons (aJ (h1 ag s σ H D I h) λf s1 q=>?_);cases f with
 |next=>exact bv8 q
 |ret v=>exact q
 |brk=>exact q
 |cont=>exact q
theorem a6.quiet {ag:List (ay×Obj)}{σ:St}{H:Hp}{s:ax}(I:a6 X ag σ H s):interactive X.env=false:=by simp[interactive,I.ok.kind]
def tU (te:TE):TS:=λD σ H=>te σ H λ_ H1=>D.nx σ H1
theorem yT (he:PE X e te)(hs:swapsWith e none pos.line X.env=pure false:=by rfl):PS X (.Expr e pos) (tU te):=by
 intro ag s σ H D I h;exact wpAny_Expr_any (aJ (he ag s σ H _ I h) λv s1 ⟨x,H1,I1,r1,q1⟩=>⟨σ,H1,I1,q1⟩) I.quiet hs
def tV (te:TE):TS:=λD σ H=>te σ H D.rt
theorem yU (he:PE X e te):PS X (.Return (some e) pos) (tV te):=by
 intro ag s σ H D I h;exact wpAny_Return_some (aJ (he ag s σ H _ I h) λv s1 ⟨x,H1,I1,r1,q1⟩=>⟨x,σ,H1,I1,r1,q1⟩)
def yV (c:TT)(t u:TS):TS:=λD σ H=>c σ H λb H1=>if b=true then t D σ H1 else u D σ H1
theorem ak1 {c:Expr}{a b:List Stmt}{tc:TT}(hc:PT X c tc)(ha:dQ X a t)(hb:dQ X b u):PS X (.If c a b pos) (yV tc t u):=by
 intro ag s σ H D I h;refine wpAny_If (aJ (hc ag s σ H _ I h) λd s1 ⟨H1,I1,q1⟩=>?_);cases d with
 |true=>exact ha ag s1 σ H1 D I1 q1
 |false=>exact hb ag s1 σ H1 D I1 q1
end
abbrev TG:=V->St->Hp->(St->Hp->Prop)->Prop
abbrev kF:=List V->St->Hp->(St->Hp->Prop)->Prop
def PG (X:Cx)(target:Expr)(t:TG):Prop:=
 ∀(ag:List (ay×Obj)) (s:ax) (σ:St) (H:Hp) (v:V) (u:av) (Q:St->Hp->Prop),a6 X ag σ H s->aP v u->t v σ H Q->
  wpAny (model X.prog X.w) X.A (assign target X.env u) (λ_ s'=>∃σ' H',a6 X ag σ' H' s'/\Q σ' H') X.xe s
def pT (X:Cx)(ts:List Expr)(t:kF):Prop:=
 ∀(ag:List (ay×Obj)) (s:ax) (σ:St) (H:Hp) (vs:List V) (us:List av) (Q:St->Hp->Prop),a6 X ag σ H s->aI vs us->t vs σ H Q->
  wpAny (model X.prog X.w) X.A (assignInOrder ((assignEach ts X.env).map (·.2)) us) (λ_ s'=>∃σ' H',a6 X ag σ' H' s'/\Q σ' H') X.xe s
section
variable {X:Cx}{pos:Pos}
def dC (i:Nat):TG:=λv σ H Q=>Q (σ.set i (some v)) H
theorem lW {i:Nat}{x:Str}(hN:X.N.Nodup)(hi:X.N[i]? = some x)(hx:iB X.env.scope x)(hf:X.fn x=true∨X.env.scope.names.lookup x=some .local:=by first|exact .inl rfl|exact .inr rfl|assumption):PG X (.Name x pos) (dC i):=by
 intro ag s σ H v u Q I r h;exact wpAny_assign_Name (tT I hN hi hx r (λs' I'=>⟨_,H,I',h⟩) hf)
def lX:kF:=λvs σ H Q=>vs = []/\Q σ H
def hU (t:TG)(u:kF):kF:=λvs σ H Q=>∃v r,vs=v::r/\t v σ H λσ' H'=>u r σ' H' Q
theorem yW:pT X [] lX:=by
 intro ag s σ H vs us Q I r h
 obtain⟨e,h⟩:=h
 subst e;cases r;exact assignInOrder_nil ⟨σ,H,I,h⟩
theorem pU {e:Expr}{es:List Expr}{t:TG}{u:kF}(h1:PG X e t)(h2:pT X es u)(hs:(assignEach (e::es) X.env).map (·.2)=assign e X.env::(assignEach es X.env).map (·.2):=by rfl):pT X (e::es) (hU t u):=by
 intro ag s σ H vs us Q I r h
 obtain⟨v,vr,e1,h⟩:=h
 subst e1;cases r with
 |cons r rr=>
  rw[hs];refine assignInOrder_cons (aJ (h1 ag s σ H _ _ _ I r h) λ_ s1 ⟨σ1,H1,I1,q1⟩=>?_);exact h2 ag s1 σ1 H1 _ _ Q I1 rr q1
def lY (K:ac)(n:Nat)(t:kF):TG:=λv σ H Q=>∃a xs,v = .ref a/\aM K H a xs/\xs.length=n/\t xs σ H Q
theorem yX {es:List Expr}{k:Nat}{t:kF}{n:Nat}(hc:X.calm=true)(h:pT X es t)(hn:(assignEach es X.env).length=n:=by rfl)(hst:(assignEach es X.env).findIdx? (·.1)=none:=by rfl):PG X (.Tuple es k pos) (lY X.K n t):=by
 intro ag s σ H v u Q I r hw
 obtain⟨a,xs,e1,hq,hl,hw⟩:=hw
 subst e1;cases r
 obtain⟨its,rv,ht,hz⟩:=I.tuple hq
 refine assign_Tuple_tuple (I.ok.hd hc) ht (by simp[hn,<- hl,rv.length]) hst λh' hx=>?_
 have I1:a6 X ag σ H { s with heap:=h' }:=I.kept (t':=s.toks) λb o e=>hx b o (bi7 (bg7 e)) e
 exact h ag _ σ H xs _ Q I1 (by simpa using rv) hw
def kG (te:TE)(g:TG):TS:=λD σ H=>te σ H λx H1=>g x σ H1 D.nx
theorem ak2 {tg e:Expr}{te:TE}{g:TG}(he:PE X e te)(hg:PG X tg g)(hs:swapsWithSole [tg] e pos.line X.env=pure false:=by rfl)(hw:swappedStores [tg] e X.env=pure none:=by rfl)(h1:(assignEach [tg] X.env).map (·.2) = [assign tg X.env]:=by rfl):PS X (.Assign [tg] e pos) (kG te g):=by
 intro ag s σ H D I h;refine wpAny_Assign_stores (aJ (he ag s σ H _ I h) λv s1 ⟨x,H1,I1,r1,q1⟩=>?_) hs hw;rw[h1];exact aJ (hg ag s1 σ H1 x v _ I1 r1 q1) λ_ s2 q=>q
theorem tW {i:Nat}{x:Str}{e:Expr}{te:TE}{pos':Pos}(hN:X.N.Nodup)(hi:X.N[i]? = some x)(hx:iB X.env.scope x)(he:PE X e te)(hs:swapsWith e (some (.Name x pos')) pos.line X.env=pure false:=by rfl)(hf:X.fn x=true∨X.env.scope.names.lookup x=some .local:=by first|exact .inl rfl|exact .inr rfl|assumption) :
  PS X (.Assign [.Name x pos'] e pos) (kG te (dC i)):=by
 intro ag s σ H D I h;refine wpAny_Assign_Name (aJ (he ag s σ H _ I h) λv s1 ⟨y,H1,I1,r1,q1⟩=>?_) hs;exact tT I1 hN hi hx r1 (λs2 I2=>⟨_,H1,I2,q1⟩) hf
end
section
variable {X:Cx}{pos:Pos}
def yY (c:TT)(tb:TS):TS:=λD σ H=>∃W:Nat->St->Hp->Prop,(∃m,W m σ H)/\∀m σ H,W m σ H->
 c σ H λb H1=>if b=true then ∃N:St->Hp->Prop,(∀σ' H',N σ' H'->∃m',m'<m/\W m' σ' H')/\tb { D with nx:=N,ct:=N,bk:=D.nx } σ H1 else D.nx σ H1
theorem ak3 {c:Expr}{body:List Stmt}{tc:TT}{tb:TS}(hp:PassesOwn (model X.prog X.w) X.A X.env X.xe)(hc:PT X c tc)(hb:dQ X body tb):PS X (.While c body [] pos) (yY tc tb):=by
 intro ag s σ H D I h
 obtain⟨W,⟨m0,w0⟩,turn⟩:=h
 refine wpAny_While (codeAny_whileLoop (λn s'=>∃σ' H',a6 X ag σ' H' s'/\W n σ' H') ?_ m0 ⟨σ,H,I,w0⟩);rintro n s1 ⟨σ1,H1,I1,w1⟩;refine bv9 hp (aJ (hc ag s1 σ1 H1 _ I1 (turn n σ1 H1 w1)) λb s2 ⟨H2,I2,q2⟩=>?_);cases b with
 |true=>
  obtain⟨N,hN,q2⟩:=q2
  rw[if_pos rfl];refine bv9 hp (aJ (hb ag s2 σ1 H2 _ I2 q2) λf s3 q3=>?_);cases f with
  |next=>
   obtain⟨σ3,H3,I3,n3⟩:=q3
   obtain⟨m',hm,w3⟩:=hN σ3 H3 n3
   exact⟨m',hm,σ3,H3,I3,w3⟩
  |cont=>
   obtain⟨σ3,H3,I3,n3⟩:=q3
   obtain⟨m',hm,w3⟩:=hN σ3 H3 n3
   exact⟨m',hm,σ3,H3,I3,w3⟩
  |brk=>exact q3
  |ret v=>exact q3
 |false=>
  rw[if_neg bi1];exact bv8 ⟨σ1,H2,I2,q2⟩
end
structure It where
 go:Nat->Hp->Prop
 yld:Nat->Hp->V->Hp->Prop
 stop:Nat->Hp->Prop
def g6 (X:Cx)(ag:List (ay×Obj))(H:Hp)(b:ay):Prop:=
 H b=none/\b≠X.env.locals/\b∉X.fs/\(b∈X.ex∨X.s₀.heap.objs.size<=b)/\(∀x c,X.env.cells.lookup x=some c->c≠b)/\∀p∈X.pn++ag,p.1≠b
theorem a6.fpOk {X:Cx}{ag:List (ay×Obj)}{σ:St}{H H':Hp}{s:ax}{b:ay}(I:a6 X ag σ H s)(hb:s.heap.objs.size<=b)(hn:H' b=none):g6 X ag H' b:=by
 refine⟨hn,bn8 (bh0 I.lt hb),I.nofs hb,.inr (bl2 I.sz hb),λx c e z=>?_,λp hp z=>?_⟩
 ·obtain⟨v,q⟩:=I.cell x c e
  exact absurd (bh0 q.lt (by rw[z];exact hb)) (bl1 _)
 ·exact absurd (bh0 (bg7 (I.pin p hp).1) (by rw[z];exact hb)) (bl1 _)
structure iT (P:az)(w:bc)(K:ac)(tg:Expr)(J:It)(fp:List ay)(it:ay)(tn:Nat->Heap->Prop):Prop where
 mem:it∈fp
 obj:∀i h,tn i h->∀b∈fp,∃o,h.get? b=some o/\∀v,o.data≠.cell v
 keep:∀i h h',tn i h->(∀b∈fp,∀o,h.get? b=some o->h'.get? b=some o)->tn i h'
 item:∀(X:Cx),X.prog=P->X.w=w->X.K=K->X.calm=true->∀(i:Nat) (ag:List (ay×Obj)) (s:ax) (σ:St) (H:Hp) (E:av->ax->Prop),a6 X ag σ H s->(∀b∈fp,g6 X ag H b)->tn i s.heap->J.go i H->
  wpAny (model P w) X.A (pyNext (.ref it)) (λr s1=>∃u,r=some u/\
   wpAny (model P w) X.A (letOwnedTupleGo tg (.ref it) u) (λ_ s2=>∃x H',a6 X ag σ H' s2/\aP x u/\J.yld i H x H'/\tn (i+1) s2.heap/\∀b∈fp,H' b=none) E s1) E s
 done:∀(X:Cx),X.prog=P->X.w=w->X.K=K->X.calm=true->∀(i:Nat) (ag:List (ay×Obj)) (s:ax) (σ:St) (H:Hp) (E:av->ax->Prop),a6 X ag σ H s->(∀b∈fp,g6 X ag H b)->tn i s.heap->J.stop i H->
  wpAny (model P w) X.A (pyNext (.ref it)) (λr s1=>r=none/\a6 X ag σ H s1) E s
 self:∀(A:ba) (i:Nat) (s:ax) (Q:av->ax->Prop) (E:av->ax->Prop),tn i s.heap->Q (.ref it) s->wpAny (model P w) A (pyIter (.ref it)) Q E s
abbrev TI:=St->Hp->(It->Hp->Prop)->Prop
def tX (X:Cx)(ag:List (ay×Obj))(σ:St)(tg:Expr)(R:It->Hp->Prop)(itv:av)(s2:ax):Prop:=
 ∃(it:ay) (fp:List ay) (tn:Nat->Heap->Prop) (J:It) (H':Hp),itv = .ref it/\a6 X ag σ H' s2/\iT X.prog X.w X.K tg J fp it tn/\tn 0 s2.heap/\(∀b∈fp,g6 X ag H' b)/\R J H'
def PI (X:Cx)(tg iter:Expr)(wi:TI):Prop:=
 ∀(ag:List (ay×Obj)) (s:ax) (σ:St) (H:Hp) (R:It->Hp->Prop),a6 X ag σ H s->wi σ H R->
  wpAny (model X.prog X.w) X.A (eval iter X.env) (λv s1=>wpAny (model X.prog X.w) X.A (pyIter v) (tX X ag σ tg R) X.xe s1) X.xe s
theorem pV {M:Model}{A:ba}{E:av->ax->Prop}{s:ax}{tg:Expr}{it:ay}{u:av}{o:Obj}{n:String}{vs:Array av}{Q:Unit->ax->Prop}(ho:s.heap.get? it=some o)(hc:o.cls = .type n)(hd:o.data = .fields vs)(hn:["enumerate","zip","dict_itemiterator","dict_reverseitemiterator","odict_iterator","itertools.zip_longest","itertools.pairwise"].contains n=false)(hQ:Q () s):wpAny M A (letOwnedTupleGo tg (.ref it) u) Q E s:=by
  unfold letOwnedTupleGo;cases tg<;>first
    |exact bf5 hQ
    |(cases u<;>first
        |exact bf5 hQ
        | (refine bf1 (wpAny_load ho ?_)
           rw[hc,hd];show wpAny M A (if (["enumerate","zip","dict_itemiterator","dict_reverseitemiterator","odict_iterator","itertools.zip_longest","itertools.pairwise"].contains n&&vs[0]?==some (rawInt _))=true then _ else _) Q E s;rw[if_neg (by intro h;rw[hn,Bool.false_and]at h;cases h)]
           exact bf5 hQ))
def tY (K:ac)(a:ay):It:=
 ⟨λi H=>∃xs x,aT K H a xs/\xs[i]? = some x,λi H x H'=>H'=H/\∀xs,aT K H a xs->xs[i]? = some x,λi H=>∃xs,aT K H a xs/\xs.length<=i⟩
def tZ (K:ac)(a:ay):It:=
 ⟨λi H=>∃xs x,aM K H a xs/\xs[i]? = some x,λi H x H'=>H'=H/\∀xs,aM K H a xs->xs[i]? = some x,λi H=>∃xs,aM K H a xs/\xs.length<=i⟩
def pW (lo:Int)(n:Nat):It:=⟨λi _=>i<n,λi H x H'=>H'=H/\x = .int (lo+i),λi _=>n<=i⟩
theorem ak4 {P:az}{w:bc}{K:ac}{tg:Expr}(a it:ay):iT P w K tg (tY K a) [it] it (λi h=>h.IsListIter it a i) where
 mem:=by simp
 obj:=λi h st b hb=>by
  have e:b=it:=by simpa using hb
  subst e
  obtain⟨o,e,c,d⟩:=st
  exact⟨o,e,λv z=>by rw[d]at z;cases z⟩
 keep:=λi h h' st k=>st.at λo e=>k it (by simp) o e
 item:=by
  intro X hP hw hK hc i ag s σ H E I hf st hg;subst hP hw hK
  obtain⟨xs,x,hq,hx⟩:=hg
  obtain⟨its,rv,p,hz⟩:=I.list hq
  obtain⟨u,hu,ru⟩:=rv.get hx
  obtain⟨f0,f1,f2,f3,f4,f5⟩:=hf it (by simp)
  refine wpAny_pyNext_list_item st p.isList (x:=u) (by simpa using hu) λh' st' sb=>?_
  have I1:a6 X ag σ H { s with heap:=h' }:=I.turned (t':=s.toks) (λb o hb e=>(sb.2 b hb).trans e) f0 f1 f3 f4 f5
  obtain⟨o,e,c,d⟩:=id st'
  exact⟨u,rfl,pV (s:={ s with heap:=h' }) e c d (by decide) ⟨x,H,I1,ru,⟨rfl,λys hy=>by rw[I.list_inj hy hq];exact hx⟩,st',λb hb=>(hf b hb).1⟩⟩
 done:=by
  intro X hP hw hK hc i ag s σ H E I hf st hg;subst hP hw hK
  obtain⟨xs,hq,hx⟩:=hg
  obtain⟨its,rv,p,hz⟩:=I.list hq
  obtain⟨f0,f1,f2,f3,f4,f5⟩:=hf it (by simp)
  have hl:=rv.length;exact wpAny_pyNext_list_end (I.ok.hd hc) st p.isList (by simp;omega) λh' eb=>⟨rfl,I.turned (t':=s.toks) (λb o hb e=>eb b o hb e) f0 f1 f3 f4 f5⟩
 self:=λ_ _ _ _ _ st h=>wpAny_pyIter_listiter st h
theorem ak5 {P:az}{w:bc}{K:ac}{tg:Expr}(a it:ay):iT P w K tg (tZ K a) [it] it (λi h=>h.IsTupleIter it a i) where
 mem:=by simp
 obj:=λi h st b hb=>by
  have e:b=it:=by simpa using hb
  subst e
  obtain⟨o,e,c,d⟩:=st
  exact⟨o,e,λv z=>by rw[d]at z;cases z⟩
 keep:=λi h h' st k=>st.at λo e=>k it (by simp) o e
 item:=by
  intro X hP hw hK hc i ag s σ H E I hf st hg;subst hP hw hK
  obtain⟨xs,x,hq,hx⟩:=hg
  obtain⟨its,rv,p,hz⟩:=I.tuple hq
  obtain⟨u,hu,ru⟩:=rv.get hx
  obtain⟨f0,f1,f2,f3,f4,f5⟩:=hf it (by simp)
  refine wpAny_pyNext_tuple_item st (show s.heap.IsTuple a its.toArray from p) (x:=u) (by simpa using hu) λh' st' sb=>?_
  have I1:a6 X ag σ H { s with heap:=h' }:=I.turned (t':=s.toks) (λb o hb e=>(sb.2 b hb).trans e) f0 f1 f3 f4 f5
  obtain⟨o,e,c,d⟩:=id st'
  exact⟨u,rfl,pV (s:={ s with heap:=h' }) e c d (by decide) ⟨x,H,I1,ru,⟨rfl,λys hy=>by rw[I.tuple_inj hy hq];exact hx⟩,st',λb hb=>(hf b hb).1⟩⟩
 done:=by
  intro X hP hw hK hc i ag s σ H E I hf st hg;subst hP hw hK
  obtain⟨xs,hq,hx⟩:=hg
  obtain⟨its,rv,p,hz⟩:=I.tuple hq
  obtain⟨f0,f1,f2,f3,f4,f5⟩:=hf it (by simp)
  have hl:=rv.length;exact wpAny_pyNext_tuple_end (I.ok.hd hc) st (show s.heap.IsTuple a its.toArray from p) (by simp;omega) λh' eb=>⟨rfl,I.turned (t':=s.toks) (λb o hb e=>eb b o hb e) f0 f1 f3 f4 f5⟩
 self:=λ_ _ _ _ _ st h=>wpAny_pyIter_tupleiter st h
theorem ak6 {P:az}{w:bc}{K:ac}{tg:Expr}(it:ay)(lo:Int)(n:Nat):iT P w K tg (pW lo n) [it] it (λi h=>IsRangeIter h it (lo+(i:Nat)*1) ((n:Int)-(i:Nat)) 1) where
 mem:=by simp
 obj:=λi h st b hb=>by
  have e:b=it:=by simpa using hb
  subst e
  exact⟨_,st,λv z=>by
   have z':Data.fields _=Data.cell v:=z
   cases z'⟩
 keep:=λi h h' st k=>k it (by simp) _ st
 item:=by
  intro X hP hw hK hc i ag s σ H E I hf st hg;subst hP hw hK
  obtain⟨f0,f1,f2,f3,f4,f5⟩:=hf it (by simp)
  have W:=Walks.range (prog:=X.prog) (w:=X.w) (I.ok.hd hc) it lo 1 n;refine W.item i s _ _ hg st λv h' tk hv st' kk=>?_
  obtain⟨t,rfl⟩:=hv
  have I1:a6 X ag σ H { s with heap:=h',toks:=tk }:=I.turned (λb o hb e=>kk b o (by simpa using hb) e) f0 f1 f3 f4 f5;refine⟨_,rfl,pV (s:={ s with heap:=h',toks:=tk }) (n:="range_iterator") st' rfl rfl (by decide) ⟨.int (lo+i),H,I1,⟨t,?_⟩,⟨rfl,rfl⟩,st',λb hb=>(hf b hb).1⟩⟩;rw[Int.mul_one]
 done:=by
  intro X hP hw hK hc i ag s σ H E I hf st hg;subst hP hw hK
  obtain⟨f0,f1,f2,f3,f4,f5⟩:=hf it (by simp)
  exact wpAny_pyNext_range_end (I.ok.hd hc) st (by have:n<=i:=hg;omega) λh' eb=>⟨rfl,I.turned (t':=s.toks) (λb o hb e=>eb b o hb e) f0 f1 f3 f4 f5⟩
 self:=λ_ _ _ _ _ st h=>wpAny_pyIter_rangeiter st h
section
variable {X:Cx}{tg:Expr}
theorem ak7 {ag:List (ay×Obj)}{σ:St}{H:Hp}{s:ax}{R:It->Hp->Prop}{E:av->ax->Prop}{lo hi:Int}{t u v:Tok}{tk:Nat}(I:a6 X ag σ H s)(h1:-(2^62)<=lo)(h2:lo<2^62)(h3:-(2^62)<=hi)(h4:hi<2^62)(q:R (pW lo (hi-lo).toNat) H):wpAny (model X.prog X.w) X.A (pyIter (.ref s.heap.objs.size)) (tX X ag σ tg R) E { s with heap:=s.heap.push { cls:=.type "range",data:=.fields #[.int lo t,.int hi u,.int 1 v] },toks:=tk }:=by
 refine wpAny_pyIter_range (IsRange.new ..) (small_one h1 h2 h3 h4) ?_;have I1:a6 X ag σ H { s with heap:=s.heap.push { cls:=.type "range",data:=.fields #[.int lo t,.int hi u,.int 1 v] },toks:=tk }:=I.kept λb o e=>bf3 _ e
 refine⟨(s.heap.push { cls:=.type "range",data:=.fields #[.int lo t,.int hi u,.int 1 v] }).objs.size,[(s.heap.push { cls:=.type "range",data:=.fields #[.int lo t,.int hi u,.int 1 v] }).objs.size],_,_,H,rfl,
  I1.kept (t':=tk) λb o e=>bf3 _ e,ak6 _ lo (hi-lo).toNat,?_,λb hb=>?_,q⟩
 ·have e1:lo+((0:Nat):Int)*1=lo:=by simp
  have e2:(((hi-lo).toNat:Nat):Int)-((0:Nat):Int)=Builtin.Range.rangeSize lo hi 1:=by rw[rangeSize_one];split<;>omega
  show IsRangeIter _ _ (lo+((0:Nat):Int)*1) ((((hi-lo).toNat:Nat):Int)-((0:Nat):Int)) 1;rw[e1,e2];exact bg8 _ rfl
 ·have e:b=(s.heap.push { cls:=.type "range",data:=.fields #[.int lo t,.int hi u,.int 1 v] }).objs.size:=by simpa using hb
  subst e;exact I1.fpOk (bg0 _) (I1.hok.fresh (bg0 _))
def yZ (ta:TA):TI:=λσ H R=>ta σ H λvs H1=>∃j:Int,vs = [.int j]/\-(2^62)<=j/\j<2^62/\R (pW 0 j.toNat) H1
theorem ak8 {a:Expr}{ta:TA}{p pos:Pos}(hg:Gl X "range")(hm:X.mg "range" = none)(ha:PA X [a] ta)(hs:starEach [a] X.env = [(false,eval a X.env)]:=by rfl):PI X tg (.Call (.Name "range" p) [a] [] pos) (yZ ta):=by
 intro ag s σ H R I h;refine Call_ (lV I hg hm boot_range (bu9 (aJ (ha pos ag s σ H _ I h) λus s1 ⟨vs,H1,I1,r1,q1⟩=>?_) hs rfl))
 obtain⟨j,e,q1,q2,q⟩:=q1
 subst e;cases r1 with
 |cons r rr=>
  cases rr
  obtain⟨t,rfl⟩:=r
  exact call_range_1 (ak7 I1 (by omega) (by omega) q1 q2 (by simpa using q))
def z0 (wi:TI)(g:TG)(tb:TS):TS:=λD σ H=>wi σ H λJ H1=>∃W:Nat->Nat->St->Hp->Prop,(∃m,W 0 m σ H1)/\∀i m σ H,W i m σ H->
 (J.stop i H/\D.nx σ H)∨(J.go i H/\∃N:St->Hp->Prop,(∀σ' H',N σ' H'->∃m',m'<m/\W (i+1) m' σ' H')/\∀x H',J.yld i H x H'->g x σ H' λσ2 H2=>tb { D with nx:=N,ct:=N,bk:=D.nx } σ2 H2)
def nT (fp:List ay)(h:Heap):List (ay×Obj):=fp.filterMap λb=>(h.get? b).map λo=>(b,o)
theorem pX {fp:List ay}{h:Heap}{b:ay}{o:Obj}(hb:b∈fp)(e:h.get? b=some o):(b,o)∈nT fp h:=bt1.mpr ⟨b,hb,by rw[e];rfl⟩
theorem ak9 {fp:List ay}{h:Heap}{p:ay×Obj}(hp:p∈nT fp h):p.1∈fp/\h.get? p.1=some p.2:=by
 obtain⟨b,hb,e⟩:=bt1.mp hp
 cases q:h.get? b with
 |none=>rw[q]at e;cases e
 |some o=>
  rw[q]at e;have e':(b,o)=p:=bj4 e;subst e'
  exact⟨hb,q⟩
theorem a6.pinned {ag:List (ay×Obj)}{σ:St}{H:Hp}{s:ax}{fp:List ay}(I:a6 X ag σ H s)(hf:∀b∈fp,g6 X ag H b)(ho:∀b∈fp,∃o,s.heap.get? b=some o/\∀v,o.data≠.cell v):a6 X (ag++nT fp s.heap) σ H s:=
 I.pins_of λp hp=>(bj1.mp hp).elim (λz=>I.pin p (bj7 _ z)) λz=>by
  obtain⟨hb,e⟩:=ak9 z
  obtain⟨f0,f1,f2,_⟩:=hf p.1 hb
  obtain⟨o,e',d⟩:=ho p.1 hb
  rw[e]at e';cases e'
  exact⟨e,f0,f1,f2,d⟩
theorem a6.unpinned {ag pl:List (ay×Obj)}{σ:St}{H:Hp}{s:ax}(I:a6 X (ag++pl) σ H s):a6 X ag σ H s:=I.pins_of λp hp=>I.pin p (bj7 _ (bk0 _ hp))
theorem al0 {iter:Expr}{body:List Stmt}{wi:TI}{g:TG}{tb:TS}{pos:Pos}(hp:PassesOwn (model X.prog X.w) X.A X.env X.xe)(hc:X.calm=true)(hi:PI X tg iter wi)(hg:PG X tg g)(hb:dQ X body tb)(hs:∀x,foldedSetIterable iter X.env x=pure x:=by intro _;rfl):PS X (.For tg iter body [] pos) (z0 wi g tb):=by
 intro ag s σ H D I h;refine wpAny_For (aJ (hi ag s σ H _ I h) λv s1 h1=>aJ h1 λitv s2 h2=>?_) hs
 obtain⟨it,fp,tn,J,H2,e,I2,T,st2,f2,W,⟨m0,w0⟩,turn⟩:=h2
 subst e;have stat:∀{H':Hp},(∀b∈fp,H' b=none)->∀b∈fp,g6 X ag H' b:=λhn b hb=>⟨hn b hb,(f2 b hb).2⟩
 refine codeAny_forLoop_any (λn s'=>∃i σ' H',a6 X ag σ' H' s'/\tn i s'.heap/\(∀b∈fp,H' b=none)/\W i n σ' H') ?_ m0 ⟨0,σ,H2,I2,st2,λb hb=>(f2 b hb).1,w0⟩;rintro n s3 ⟨i,σ3,H3,I3,st3,fr3,w3⟩;rcases turn i n σ3 H3 w3 with⟨stop,qn⟩|⟨go,N,hN,step⟩
 ·refine bv9 hp (aJ (T.done X rfl rfl rfl hc i ag s3 σ3 H3 X.xe I3 (stat fr3) st3 stop) λr s4 ⟨hr,I4⟩=>?_)
  subst hr;exact bv8 ⟨σ3,H3,I4,qn⟩
 ·refine bv9 hp (aJ (T.item X rfl rfl rfl hc i ag s3 σ3 H3 X.xe I3 (stat fr3) st3 go) λr s4 ⟨u,hr,h4⟩=>?_)
  subst hr;refine bv9 hp (aJ h4 λ_ s5 ⟨x,H5,I5,r5,y5,st5,fr5⟩=>?_);have I5':=I5.pinned (stat fr5) (T.obj _ _ st5);refine bv9 hp (aJ (hg _ s5 σ3 H5 x u _ I5' r5 (step x H5 y5)) λ_ s6 ⟨σ6,H6,I6,q6⟩=>?_);refine bv9 hp (aJ (hb _ s6 σ6 H6 _ I6 q6) λf s7 q7=>?_);have again:∀{σ7:St}{H7:Hp},a6 X (ag++nT fp s5.heap) σ7 H7 s7->N σ7 H7->∃m,m<n/\∃i σ' H',a6 X ag σ' H' s7/\tn i s7.heap/\(∀b∈fp,H' b=none)/\W i m σ' H':=λ{σ7 H7} I7 n7=>by
   obtain⟨m',hm,w7⟩:=hN σ7 H7 n7
   refine⟨m',hm,i+1,σ7,H7,I7.unpinned,T.keep _ _ _ st5 λb hb o e=>(I7.pin (b,o) (bj7 _ (bj7 _ (pX hb e)))).1,λb hb=>?_,w7⟩
   obtain⟨o,e,d⟩:=T.obj _ _ st5 b hb
   exact (I7.pin (b,o) (bj7 _ (bj7 _ (pX hb e)))).2.1
  cases f with
  |next=>obtain⟨σ7,H7,I7,n7⟩:=q7;exact again I7 n7
  |cont=>obtain⟨σ7,H7,I7,n7⟩:=q7;exact again I7 n7
  |brk=>obtain⟨σ7,H7,I7,q7⟩:=q7;exact⟨σ7,H7,I7.unpinned,q7⟩
  |ret v=>obtain⟨x7,σ7,H7,I7,r7,q7⟩:=q7;exact⟨x7,σ7,H7,I7.unpinned,r7,q7⟩
end
abbrev R2:=V->V->Hp->VK->Prop
def c9 (X:Cx)(f:av->av->Sem av)(r:R2):Prop:=
 ∀(ag:List (ay×Obj)) (s:ax) (σ:St) (H:Hp) (x y:V) (v u:av) (Q:VK),a6 X ag σ H s->aP x v->aP y u->r x y H Q->
  wpAny (model X.prog X.w) X.A (f v u) (EP X ag σ Q) X.xe s
def u5 (X:Cx)(f:av->Sem av)(r:V->Hp->VK->Prop):Prop:=
 ∀(ag:List (ay×Obj)) (s:ax) (σ:St) (H:Hp) (x:V) (v:av) (Q:VK),a6 X ag σ H s->aP x v->r x H Q->
  wpAny (model X.prog X.w) X.A (f v) (EP X ag σ Q) X.xe s
def cU (X:Cx)(f:av)(r:List V->Hp->VK->Prop):Prop:=
 ∀(ag:List (ay×Obj)) (s:ax) (σ:St) (H:Hp) (xs:List V) (us:List av) (Q:VK),a6 X ag σ H s->aI xs us->r xs H Q->
  wpAny (model X.prog X.w) X.A (call f us) (EP X ag σ Q) X.xe s
def al1 (X:Cx)(r:V->Hp->(Bool->Hp->Prop)->Prop):Prop:=
 ∀(ag:List (ay×Obj)) (s:ax) (σ:St) (H:Hp) (x:V) (v:av) (Q:Bool->Hp->Prop),a6 X ag σ H s->aP x v->r x H Q->
  wpAny (model X.prog X.w) X.A (truthy v) (TP X ag σ Q) X.xe s
def nU (r:R2)(ta tb:TE):TE:=λσ H Q=>ta σ H λx H1=>tb σ H1 λy H2=>r x y H2 Q
def tUn (r:V->Hp->VK->Prop)(ta:TE):TE:=λσ H Q=>ta σ H λx H1=>r x H1 Q
def rI (C:Int->Int->Prop)(g:Int->Int->V):R2:=λx y H Q=>∃i j,x = .int i/\y = .int j/\C i j/\Q (g i j) H
def g9 (g:Int->Int->V):R2:=λx y H Q=>∃i j,x = .int i/\y = .int j/\Q (g i j) H
def rU (g:Int->V):V->Hp->VK->Prop:=λx H Q=>∃i,x = .int i/\Q (g i) H
section
variable {X:Cx}{a b c:Expr}{ta tb tc:TE}{pos:Pos}
theorem u6 (ha:PE X a ta)(hb:PE X b tb){ag:List (ay×Obj)}{s:ax}{σ:St}{H:Hp}{R:V->V->Hp->Prop}(I:a6 X ag σ H s)(h:ta σ H λx H1=>tb σ H1 λy H2=>R x y H2){Q:av->ax->Prop}{f:av->av->Sem av}(hf:∀v u s2 x y H2,a6 X ag σ H2 s2->aP x v->aP y u->R x y H2->wpAny (model X.prog X.w) X.A (f v u) Q X.xe s2) :
  wpAny (model X.prog X.w) X.A (eval a X.env) (λv s₁=>wpAny (model X.prog X.w) X.A (eval b X.env) (λu s₂=>wpAny (model X.prog X.w) X.A (f v u) Q X.xe s₂) X.xe s₁) X.xe s:=by
 refine aJ (ha ag s σ H _ I h) λv s1 ⟨x,H1,I1,r1,q1⟩=>?_
 refine aJ (hb ag s1 σ H1 _ I1 q1) λu s2 ⟨y,H2,I2,r2,q2⟩=>?_
 exact hf v u s2 x y H2 I2 r1 r2 q2
theorem al2 {op:Operator}{r:R2}(ho:c9 X (binaryOp op) r)(ha:PE X a ta)(hb:PE X b tb):PE X (.BinOp a op b pos) (nU r ta tb):=by
 intro ag s σ H Q I h;exact wpAny_BinOp (u6 ha hb I h λv u s2 x y H2 I2 rx ry q=>ho ag s2 σ H2 x y v u Q I2 rx ry q)
theorem al3 {op:UnaryOp}{r:V->Hp->VK->Prop}(ho:u5 X (unaryOp op) r)(ha:PE X a ta):PE X (.UnaryOp op a pos) (tUn r ta):=by
 intro ag s σ H Q I h;exact UnaryOp_ (aJ (ha ag s σ H _ I h) λv s1 ⟨x,H1,I1,r1,q1⟩=>ho ag s1 σ H1 x v Q I1 r1 q1)
theorem pY {f:av->av->Sem av}{C:Int->Int->Prop}{g:Int->Int->Int}(rule:∀(i j:Int) (t u:Tok) (s:ax) (Q:av->ax->Prop) (E:av->ax->Prop),C i j->Q (.int (g i j) s.toks) { s with toks:=s.toks+1 }->wpAny (model X.prog X.w) X.A (f (.int i t) (.int j u)) Q E s) :
  c9 X f (rI C λi j=>.int (g i j)):=by
 intro ag s σ H x y v u Q I rx ry h
 obtain⟨i,j,rfl,rfl,hc,q⟩:=h
 obtain⟨t,rfl⟩:=rx
 obtain⟨t',rfl⟩:=ry
 exact rule i j t t' s _ _ hc ⟨.int (g i j),H,I.tok _,⟨_,rfl⟩,q⟩
theorem z9 {f:av->av->Sem av}{g:Int->Int->Int}(rule:∀(i j:Int) (t u:Tok) (s:ax) (Q:av->ax->Prop) (E:av->ax->Prop),Q (.int (g i j) s.toks) { s with toks:=s.toks+1 }->wpAny (model X.prog X.w) X.A (f (.int i t) (.int j u)) Q E s) :
  c9 X f (g9 λi j=>.int (g i j)):=by
 intro ag s σ H x y v u Q I rx ry h
 obtain⟨i,j,rfl,rfl,q⟩:=h
 obtain⟨t,rfl⟩:=rx
 obtain⟨t',rfl⟩:=ry
 exact rule i j t t' s _ _ ⟨.int (g i j),H,I.tok _,⟨_,rfl⟩,q⟩
theorem qA {f:av->av->Sem av}{g:Int->Int->Bool}(rule:∀(i j:Int) (t u:Tok) (s:ax) (Q:av->ax->Prop) (E:av->ax->Prop),Q (.bool (g i j)) s->wpAny (model X.prog X.w) X.A (f (.int i t) (.int j u)) Q E s) :
  c9 X f (g9 λi j=>.bl (g i j)):=by
 intro ag s σ H x y v u Q I rx ry h
 obtain⟨i,j,rfl,rfl,q⟩:=h
 obtain⟨t,rfl⟩:=rx
 obtain⟨t',rfl⟩:=ry
 exact rule i j t t' s _ _ ⟨.bl (g i j),H,I,rfl,q⟩
def u7 (i j:Int):Prop:=0<j/\j<1073741824
def u8 (i j:Int):Prop:=0<=j/\j<=1000000/\i.natAbs<2^64
def nV (i j:Int):Prop:=(-(2^64)<i/\i<2^64)∨(-(2^64)<j/\j<2^64)
theorem nV.ok {i j:Int}(h:nV i j):IntMulOk i j:=by
 rcases h with⟨h1,h2⟩|⟨h1,h2⟩
 ·exact .of_left (intBits_le_64 h1 h2)
 ·exact .of_right (intBits_le_64 h1 h2)
theorem al4:c9 X (binaryOp .Add) (g9 λi j=>.int (i+j)):=z9 λ_ _ _ _ _ _ _ q=>add_int q
theorem al5:c9 X (binaryOp .Sub) (g9 λi j=>.int (i-j)):=z9 λ_ _ _ _ _ _ _ q=>sub_int q
theorem al6:c9 X (binaryOp .Mult) (rI nV λi j=>.int (i*j)):=pY λ_ _ _ _ _ _ _ hc q=>mul_int q hc.ok
theorem al7:c9 X (binaryOp .FloorDiv) (rI u7 λi j=>.int (i/j)):=pY λi j _ _ _ _ _ hc q=>by
 have h1:(0:Int)<j:=hc.1;have h2:j<1073741824:=hc.2;exact floordiv_int (by omega) (by rw[Int.fdiv_eq_ediv_of_nonneg i (by omega)];exact q) (.inl (PyProof.noPylong_small (by omega)))
theorem al8:c9 X (binaryOp .Mod) (rI (λ_ j=>0<j) λi j=>.int (i%j)):=pY λi j _ _ _ _ _ hc q=>by
 have h1:(0:Int)<j:=hc;exact mod_int' (by omega) (by rw[Int.fmod_eq_emod_of_nonneg i (by omega)];exact q)
theorem al9:c9 X (binaryOp .Pow) (rI u8 λi j=>.int (i^j.toNat)):=pY λ_ _ _ _ _ _ _ hc q=>pow_int_small hc.1 hc.2.1 hc.2.2 q
theorem unI {f:av->Sem av}{g:Int->Int}(rule:∀(i:Int) (t:Tok) (s:ax) (Q:av->ax->Prop) (E:av->ax->Prop),Q (.int (g i) s.toks) { s with toks:=s.toks+1 }->wpAny (model X.prog X.w) X.A (f (.int i t)) Q E s) :
  u5 X f (rU λi=>.int (g i)):=by
 intro ag s σ H x v Q I rx h
 obtain⟨i,rfl,q⟩:=h
 obtain⟨t,rfl⟩:=rx
 exact rule i t s _ _ ⟨.int (g i),H,I.tok _,⟨_,rfl⟩,q⟩
theorem am0:u5 X (unaryOp .USub) (rU λi=>.int (-i)):=unI λ_ _ _ _ _ q=>neg_int q
end
def zA:V->V->Bool
 |.non,.non=>true|.non,.int _=>true|.int _,.non=>true|.non,.bl _=>true|.bl _,.non=>true|.non,.str _=>true|.str _,.non=>true
 |.int _,.int _=>true|.bl _,.bl _=>true|.str _,.str _=>true|.byt _,.byt _=>true
 |.int _,.str _=>true|.str _,.int _=>true|.bl _,.str _=>true|.str _,.bl _=>true
 |_,_=>false
def zB:R2:=λx y H Q=>zA x y=true/\Q (.bl (decide (x=y))) H
def zC:R2:=λx y H Q=>zA x y=true/\Q (.bl (!decide (x=y))) H
theorem zD {i j:Int}:decide (V.int i=V.int j)=(i==j):=by
 rw[bp7];simp
theorem zE {i j:Bool}:decide (V.bl i=V.bl j)=(i==j):=by
 rw[bp7];simp
theorem zF {i j:Str}:decide (V.str i=V.str j)=(i==j):=by
 rw[bp7];simp
theorem zG {i j:Array UInt8}:decide (V.byt i=V.byt j)=(i.toList==j.toList):=by
 rw[bp7];cases i;cases j;simp
section
variable {X:Cx}{a b c:Expr}{ta tb tc:TE}{pos:Pos}
theorem bW {ag:List (ay×Obj)}{σ:St}{H:Hp}{s:ax}{Q:VK}{k k':Bool}(I:a6 X ag σ H s)(q:Q (.bl k) H)(e:k=k'):EP X ag σ Q (.bool k') s:=by
 subst e
 exact⟨.bl k,H,I,rfl,q⟩
theorem am1:c9 X (compareOp .Eq) zB:=by
 intro ag s σ H x y v u Q I rx ry h
 obtain⟨hs,q⟩:=h
 cases x with
 |non=>
  cases rx;cases y with
  |non=>cases ry;exact PySem.EqNone.eq_none_none (bW I q (by simp))
  |bl j=>cases ry;exact PySem.EqNone.eq_none_bool (bW I q (by simp))
  |int j=>obtain⟨t',rfl⟩:=ry;exact PySem.EqNone.eq_none_int (bW I q (by simp))
  |str j=>obtain⟨t',rfl⟩:=ry;exact PySem.EqNone.eq_none_str (bW I q (by simp))
  |_=>exact absurd (show false=true from hs) bi1
 |bl i=>
  cases rx;cases y with
  |non=>cases ry;exact PySem.EqNone.eq_bool_none (bW I q (by simp))
  |bl j=>cases ry;exact eq_bool (bW I q zE)
  |str j=>obtain⟨t',rfl⟩:=ry;exact PySem.EqMixed.eq_bool_str (bW I q (by simp))
  |_=>exact absurd (show false=true from hs) bi1
 |int i=>
  obtain⟨t,rfl⟩:=rx
  cases y with
  |non=>cases ry;exact PySem.EqNone.eq_int_none (bW I q (by simp))
  |int j=>obtain⟨t',rfl⟩:=ry;exact eq_int (bW I q zD)
  |str j=>obtain⟨t',rfl⟩:=ry;exact PySem.EqMixed.eq_int_str (bW I q (by simp))
  |_=>exact absurd (show false=true from hs) bi1
 |str i=>
  obtain⟨t,rfl⟩:=rx
  cases y with
  |non=>cases ry;exact PySem.EqNone.eq_str_none (bW I q (by simp))
  |bl j=>cases ry;exact PySem.EqMixed.eq_str_bool (bW I q (by simp))
  |int j=>obtain⟨t',rfl⟩:=ry;exact PySem.EqMixed.eq_str_int (bW I q (by simp))
  |str j=>obtain⟨t',rfl⟩:=ry;exact eq_str (bW I q zF)
  |_=>exact absurd (show false=true from hs) bi1
 |byt i=>
  obtain⟨t,rfl⟩:=rx
  cases y with
  |byt j=>obtain⟨t',rfl⟩:=ry;exact PySem.W.eq_bytes (bW I q zG)
  |_=>exact absurd (show false=true from hs) bi1
 |_=>cases y<;>exact absurd (show false=true from hs) bi1
theorem am2:c9 X (compareOp .NotEq) zC:=by
 intro ag s σ H x y v u Q I rx ry h
 obtain⟨hs,q⟩:=h
 cases x with
 |non=>
  cases rx;cases y with
  |non=>cases ry;exact PySem.EqNone.ne_none_none (bW I q (by simp))
  |bl j=>cases ry;exact PySem.EqNone.ne_none_bool (bW I q (by simp))
  |int j=>obtain⟨t',rfl⟩:=ry;exact PySem.EqNone.ne_none_int (bW I q (by simp))
  |str j=>obtain⟨t',rfl⟩:=ry;exact PySem.EqNone.ne_none_str (bW I q (by simp))
  |_=>exact absurd (show false=true from hs) bi1
 |bl i=>
  cases rx;cases y with
  |non=>cases ry;exact PySem.EqNone.ne_bool_none (bW I q (by simp))
  |bl j=>cases ry;exact ne_bool (bW I q (congrArg not zE))
  |str j=>obtain⟨t',rfl⟩:=ry;exact PySem.EqMixed.ne_bool_str (bW I q (by simp))
  |_=>exact absurd (show false=true from hs) bi1
 |int i=>
  obtain⟨t,rfl⟩:=rx
  cases y with
  |non=>cases ry;exact PySem.EqNone.ne_int_none (bW I q (by simp))
  |int j=>obtain⟨t',rfl⟩:=ry;exact ne_int (bW I q (congrArg not zD))
  |str j=>obtain⟨t',rfl⟩:=ry;exact PySem.EqMixed.ne_int_str (bW I q (by simp))
  |_=>exact absurd (show false=true from hs) bi1
 |str i=>
  obtain⟨t,rfl⟩:=rx
  cases y with
  |non=>cases ry;exact PySem.EqNone.ne_str_none (bW I q (by simp))
  |bl j=>cases ry;exact PySem.EqMixed.ne_str_bool (bW I q (by simp))
  |int j=>obtain⟨t',rfl⟩:=ry;exact PySem.EqMixed.ne_str_int (bW I q (by simp))
  |str j=>obtain⟨t',rfl⟩:=ry;exact ne_str (bW I q (congrArg not zF))
  |_=>exact absurd (show false=true from hs) bi1
 |byt i=>
  obtain⟨t,rfl⟩:=rx
  cases y with
  |byt j=>obtain⟨t',rfl⟩:=ry;exact PySem.W.ne_bytes (bW I q (congrArg not zG))
  |_=>exact absurd (show false=true from hs) bi1
 |_=>cases y<;>exact absurd (show false=true from hs) bi1
theorem qB:c9 X (compareOp .Lt) (g9 λi j=>.bl (decide (i<j))):=qA λ_ _ _ _ _ _ _ q=>lt_int q
theorem am3:c9 X (compareOp .LtE) (g9 λi j=>.bl (decide (i<=j))):=qA λ_ _ _ _ _ _ _ q=>le_int q
theorem am4:c9 X (compareOp .Gt) (g9 λi j=>.bl (decide (j<i))):=qA λ_ _ _ _ _ _ _ q=>gt_int q
theorem zH:c9 X (compareOp .GtE) (g9 λi j=>.bl (decide (j<=i))):=qA λ_ _ _ _ _ _ _ q=>ge_int q
theorem iU (b:Expr){op:CmpOp}(h:op≠.In:=by decide)(h2:op≠.NotIn:=by decide):behindInMarks op b=false:=by
 have e1:(op==CmpOp.In)=false:=by cases op<;>first|rfl|exact absurd rfl h
 have e2:(op==CmpOp.NotIn)=false:=by cases op<;>first|rfl|exact absurd rfl h2
 cases b<;>simp[behindInMarks,e1,e2]
theorem am5 {op:CmpOp}{r:R2}(ho:c9 X (compareOp op) r)(ha:PE X a ta)(hb:PE X b tb)(hm:behindInMarks op b=false):PE X (.Compare a [op] [b] pos) (nU r ta tb):=by
 intro ag s σ H Q I h;exact wpAny_Compare1 (u6 ha hb I h λv u s2 x y H2 I2 rx ry q=>ho ag s2 σ H2 x y v u Q I2 rx ry q) hm
def zI (t:TE):TT:=λσ H Q=>t σ H λx H'=>∃k,x = .bl k/\Q k H'
theorem am6 {op:CmpOp}{r:R2}(ho:c9 X (compareOp op) r)(ha:PE X a ta)(hb:PE X b tb)(hm:behindInMarks op b=false):PT X (.Compare a [op] [b] pos) (zI (nU r ta tb)):=by
 intro ag s σ H Q I h
 refine wpAny_isTrue_Compare1 (aJ (ha ag s σ H _ I h) λv s1 ⟨x,H1,I1,r1,q1⟩=>aJ (hb ag s1 σ H1 _ I1 q1) λu s2 ⟨y,H2,I2,r2,q2⟩=>
  aJ (ho ag s2 σ H2 x y v u _ I2 r1 r2 q2) λc s3 ⟨z,H3,I3,r3,k,e,q3⟩=>?_) hm
 subst e;cases r3;exact bq6 ⟨H3,I3,q3⟩
def zJ (r r':R2)(ta tb tc:TE):TE:=λσ H Q=>ta σ H λx H1=>tb σ H1 λy H2=>r x y H2 λz H3=>∃k,z = .bl k/\
 (if k=true then tc σ H3 λw' H4=>r' y w' H4 Q else Q (.bl false) H3)
theorem am7 {op op':CmpOp}{r r':R2}(ho:c9 X (compareOp op) r)(ho':c9 X (compareOp op') r')(ha:PE X a ta)(hb:PE X b tb)(hc:PE X c tc)(hm:lastMarks [op,op'] [b,c]=false:=by with_unfolding_all rfl):PT X (.Compare a [op,op'] [b,c] pos) (zI (zJ r r' ta tb tc)):=by
 intro ag s σ H Q I h
 refine isTrue_chain (aJ (ha ag s σ H _ I h) λv s1 ⟨x,H1,I1,r1,q1⟩=>test_link (aJ (hb ag s1 σ H1 _ I1 q1) λu s2 ⟨y,H2,I2,r2,q2⟩=>
  aJ (ho ag s2 σ H2 x y v u _ I2 r1 r2 q2) λd s3 ⟨z,H3,I3,r3,k,e,q3⟩=>?_)) hm
 subst e;cases r3;refine bq6 ?_;cases k with
 |false=>
  obtain⟨k',e',q'⟩:=q3
  cases e';exact ite_ff ⟨H3,I3,q'⟩
 |true=>
  refine ite_tt (test_last (aJ (hc ag s3 σ H3 _ I3 q3) λw' s4 ⟨z',H4,I4,r4,q4⟩=>aJ (ho' ag s4 σ H4 y z' u w' _ I4 r2 r4 q4) λd' s5 ⟨z2,H5,I5,r5,k2,e2,q5⟩=>?_));subst e2;cases r5;exact bq6 ⟨H5,I5,q5⟩
def u9 (K:ac)(x:V)(H:Hp)(k:Bool):Prop:=
 match x with
 |.non=>k=false
 |.bl b=>k=b
 |.int i=>k=(i != 0)
 |.str y=>y.length<=sizeLine/\k=((y.length:Int) != 0)
 |.byt y=>y.size<=sizeLine/\k=((y.size:Int) != 0)
 |.ref p=>(∃xs,aT K H p xs/\k = !xs.isEmpty)∨(∃xs,aM K H p xs/\k = !xs.isEmpty)∨∃kvs,H p=some (.dK kvs)/\k = !kvs.isEmpty
 |_=>False
theorem am8 {κ:Type}{kvs:List (κ×V)}{vs:List (κ×av)}(r:KV kvs vs):(!vs.isEmpty) = !kvs.isEmpty:=by
 cases r<;>rfl
theorem zK {xs:List V}{its:List av}(r:aI xs its):(!its.toArray.isEmpty) = !xs.isEmpty:=by
 cases r<;>simp
theorem nW:(sizeLine:Nat)<2^63:=by rw[sizeLine_eq];decide
theorem am9:al1 X (λx H Q=>∃k,u9 X.K x H k/\Q k H):=by
 intro ag s σ H x v Q I rx h
 obtain⟨k,e,q⟩:=h
 have hl:=nW;have hs:sizeLine=16777216:=sizeLine_eq;cases x with
 |non=>
  cases rx;have e':k=false:=e;subst e';exact truthy_none ⟨H,I,q⟩
 |bl b=>
  cases rx;have e':k=b:=e;subst e';exact bq6 ⟨H,I,q⟩
 |int i=>
  obtain⟨t,rfl⟩:=rx
  have e':k=(i != 0):=e;subst e';exact PySem.P.truthy_int ⟨H,I,q⟩
 |str y=>
  obtain⟨t,rfl⟩:=rx
  obtain⟨hy,e'⟩:y.length<=sizeLine/\k=((y.length:Int) != 0):=e
  subst e';exact PySem.P.truthy_str (by omega) ⟨H,I.tok _,q⟩
 |byt y=>
  obtain⟨t,rfl⟩:=rx
  obtain⟨hy,e'⟩:y.size<=sizeLine/\k=((y.size:Int) != 0):=e
  subst e';exact PySem.W.truthy_bytes (by omega) ⟨H,I.tok _,q⟩
 |ref p=>
  cases rx;have e':(∃xs,aT X.K H p xs/\k = !xs.isEmpty)∨(∃xs,aM X.K H p xs/\k = !xs.isEmpty)∨∃kvs,H p=some (.dK kvs)/\k = !kvs.isEmpty:=e
  rcases e' with⟨xs,hx,e'⟩|⟨xs,hx,e'⟩|⟨kvs,hx,e'⟩
  ·subst e'
   obtain⟨its,r,pl,hz⟩:=I.list hx
   have aj:=r.length;exact wpAny_truthy_list pl.isList (by simp only[bf8];omega) ⟨H,I.tok _,by rw[zK r];exact q⟩
  ·subst e'
   obtain⟨its,r,pl,hz⟩:=I.tuple hx
   have aj:=r.length;exact truthy_tuple pl (by simp only[bf8];omega) ⟨H,I.tok _,by rw[zK r];exact q⟩
  ·subst e'
   obtain⟨hz,hS,vs,r,m⟩:kvs.length<=sizeLine/\(p==sysModules)=false/\∃vs,KV kvs vs/\s.heap.DictOf (eG X.prog X.w) p vs:=I.hok p _ hx
   have aj:kvs.length=vs.length:=Paired.length r;exact wpAny_truthy_dict hS m (by omega) ⟨H,I.tok _,by rw[am8 r];exact q⟩
 |_=>exact (show False from e).elim
theorem an0 (ha:PE X a ta)(he:∀whole,isTrue a X.env whole=(do let v <- whole;standAt a.pos;holding [v] (truthy v))) :
  PT X a (λσ H Q=>ta σ H λx H'=>∃k,u9 X.K x H' k/\Q k H'):=by
 intro ag s σ H Q I h;exact isTrue_plain (aJ (ha ag s σ H _ I h) λv s1 ⟨x,H1,I1,r1,q1⟩=>am9 ag s1 σ H1 x v Q I1 r1 q1) (he _)
theorem iC {x:V}{us:List av}(r:aI [x] us):∃u,us = [u]/\aP x u:=by
 cases r with
 |cons r1 r2=>cases r2;exact⟨_,rfl,r1⟩
theorem lZ {x y:V}{us:List av}(r:aI [x,y] us):∃u w',us = [u,w']/\aP x u/\aP y w':=by
 cases r with
 |cons r1 r2=>
  cases r2 with
  |cons r3 r4=>cases r4;exact⟨_,_,rfl,r1,r3⟩
theorem an1 (hc:X.calm=true):cU X (.builtin "max") (λxs H Q=>∃i j,xs = [.int i,.int j]/\Q (.int (if j>i then j else i)) H):=by
 intro ag s σ H xs us Q I r h
 obtain⟨i,j,rfl,q⟩:=h
 obtain⟨u,w',rfl,⟨t,rfl⟩,⟨t',rfl⟩⟩:=lZ r
 refine max_two_ints (I.ok.hd hc) λh' tk k=>⟨_,H,I.kept k,?_,q⟩
 by_cases hj:j>i
 ·rw[if_pos hj,if_pos hj];exact⟨_,rfl⟩
 ·rw[if_neg hj,if_neg hj];exact⟨_,rfl⟩
theorem an2 (hc:X.calm=true):cU X (.builtin "min") (λxs H Q=>∃i j,xs = [.int i,.int j]/\Q (.int (if j<i then j else i)) H):=by
 intro ag s σ H xs us Q I r h
 obtain⟨i,j,rfl,q⟩:=h
 obtain⟨u,w',rfl,⟨t,rfl⟩,⟨t',rfl⟩⟩:=lZ r
 refine min_two_ints (I.ok.hd hc) λh' tk k=>⟨_,H,I.kept k,?_,q⟩
 by_cases hj:j<i
 ·rw[if_pos hj,if_pos hj];exact⟨_,rfl⟩
 ·rw[if_neg hj,if_neg hj];exact⟨_,rfl⟩
end
structure uA (h:Heap)(x dx C:ay)(mA:Str->Option av):Prop where
 obj:h.get? x=some (PySem.W.instObj C dx)
 ns:h.Ns1 dx mA
 ne:dx≠x
theorem an3 {h:Heap}{dx:ay}{mA:Str->Option av}(n:h.Ns1 dx mA):∃od,h.get? dx=some od/\∀name,PySem.W.lookIn name od=some (mA name):=by
 obtain⟨o,es,ep,ho,hd,hk,_,hm⟩:=n
 refine⟨o,ho,λname=>?_⟩;have e:=hm name;unfold nsFind findBy at e;rw[<- Array.find?_toList]at e;unfold PySem.W.lookIn;rw[hd];dsimp only;split
 ·rename_i y q
  rw[q]at e;exact congrArg some e
 ·rename_i q
  rw[q]at e;have a:es.toList.any (·.refKey)=false:=by
   rw[List.any_eq_false];intro y hy
   obtain⟨z,t,hkey⟩:=hk y (Array.mem_toList_iff.mp hy)
   simp[DictEntry.refKey,hkey]
  have a':¬es.toList.any (·.refKey)=true:=by rw[a];exact bi1
  rw[if_neg a'];exact congrArg some e
theorem uA.look {h:Heap}{x dx C:ay}{mA:Str->Option av}(I:uA h x dx C mA):∃od,PySem.W.InstAt h x (PySem.W.instObj C dx) C (some od)/\∀name,PySem.W.lookIn name od=some (mA name):=
 let ⟨od,ho,hl⟩:=an3 I.ns
 ⟨od,⟨I.obj,rfl,rfl,ho⟩,hl⟩
theorem fZ.some_of {v:V}{o:Option av}(r:fZ (some v) o):∃u,o=some u/\aP v u:=by
 cases o with
 |none=>exact (show False from r).elim
 |some u=>exact⟨u,rfl,r⟩
section
variable {P:az}{w:bc}{H H':Hp}{h h':Heap}{a C dx:ay}{fs fs':List (Str×V)}
theorem an4 (hok:bO P w H h)(e:H a=some (.ins C dx fs)):∃mA,uA h a dx C mA/\(∀f,fZ (fs.lookup f) (mA f))/\PySem.Within mA (fs.map (·.1))/\fs.length<=1000/\H dx=some (.own a):=by
 obtain⟨d,z,ne,ob,mA,n,r,q⟩:=(show bM P w H h a (.ins C dx fs) from hok a _ e)
 exact⟨mA,⟨ob,n,ne⟩,r,q,z,d⟩
end
structure uB (K:ac)(C:ay):Prop where
 pg:PySem.W.plainGet K C Str.empty=true
 hd:PySem.W.hasDictIn K C=true
 po:PySem.W.plainOver K C=true
 sa:PySem.W.findIn K (.ref C) "__setattr__" = some (some (.builtin "object.__setattr__"))
theorem uB.get {K:ac}{C:ay}(c:uB K C)(f:Str):PySem.W.plainGet K C f=true:=c.pg
section
variable {X:Cx}{ag:List (ay×Obj)}{σ:St}{H:Hp}{s:ax}{A:ba}{E:av→ax→Prop}{Q:av→ax→Prop}{c:av}{b:Bool}
inductive fN (K:ac)(H:Hp):V->av->Prop where
 |non:fN K H .non (.type "NoneType")
 |bl (x:Bool):fN K H (.bl x) (.type "bool")
 |int (i:Int):fN K H (.int i) (.type "int")
 |str (x:Str):fN K H (.str x) (.type "str")
 |flt (x:UInt64):fN K H (.flt x) (.type "float")
 |lst {a:ay}{xs:List V} (e:H a=some (.lst xs)):fN K H (.ref a) (.type "list")
 |frz {a:ay}{o:Obj}{xs:List V} (e:H a=some (.frz o (.lst xs))):fN K H (.ref a) (.type "list")
 |tup {a:ay}{xs:List V} (e:H a=some (.tup xs)):fN K H (.ref a) (.type "tuple")
 |dK {a:ay}{kvs:List (aH×V)} (e:H a=some (.dK kvs)):fN K H (.ref a) (.type "dict")
 |dT {a:ay}{kvs:List (List aH×V)} (e:H a=some (.dT kvs)):fN K H (.ref a) (.type "dict")
 |ins {a C dx:ay}{fs:List (Str×V)} (e:H a=some (.ins C dx fs)) (cl:uB K C) (ha:PySem.W.findIn K (.ref C) "__class__" = some (some (.builtin "object.__class__")))
   (hn:PySem.W.specialIn K (.builtin "object.__class__") "__get__" = some (some (.builtin "getset_descriptor.__get__"))) (htk:PySem.W.takesIn K (.builtin "object.__class__")=some true)
   (hm:PySem.W.mroIn K C (.type "object")=some true):fN K H (.ref a) (.ref C)
theorem an5 {x:V}{u t:av}(I:a6 X ag σ H s)(rx:aP x u)(ty:fN X.K H x t)(e:PySem.W.kitOne X.K t c=some b)(h:∀tk,Q (.bool b) { s with toks:=tk }) :
  wpAny (model X.prog X.w) A (call (.builtin "isinstance") [u,c]) Q E s:=by
 cases ty with
 |non=>cases (show u=Value.none from rx);exact bn2 PySem.W.kitx_none I.kIn True.intro e (λz=>nomatch z) h
 |bl y=>cases (show u=Value.bool y from rx);exact bn2 PySem.W.kitx_bool I.kIn True.intro e (λz=>nomatch z) h
 |int i=>obtain⟨t,q⟩:=(show ∃t,u=Value.int i t from rx);cases q;exact bn2 PySem.W.kitx_int I.kIn True.intro e (λz=>nomatch z) h
 |str y=>obtain⟨t,q⟩:=(show ∃t,u=Value.str y t from rx);cases q;exact bn2 PySem.W.kitx_str I.kIn True.intro e (λz=>nomatch z) h
 |flt y=>obtain⟨t,q⟩:=(show ∃t,u=Value.float y t from rx);cases q;exact bn2 PySem.W.kitx_float I.kIn True.intro e (λz=>nomatch z) h
 |@lst a xs ea=>
  cases (show u=Value.ref a from rx)
  obtain⟨_,_,n,_,h1⟩:=(show bM X.prog X.w H s.heap a (.lst xs) from I.hok a _ ea)
  exact bn2 PySem.W.kitx_list I.kIn ⟨_,h1,rfl⟩ e (λz=>nomatch z) h
 |@frz a ob xs ea=>
  cases (show u=Value.ref a from rx)
  obtain⟨_,_,_,n,_,h1⟩:=(show bM X.prog X.w H s.heap a (.frz ob (.lst xs)) from I.hok a _ ea)
  exact bn2 PySem.W.kitx_list I.kIn ⟨_,h1,rfl⟩ e (λz=>nomatch z) h
 |@tup a xs ea=>
  cases (show u=Value.ref a from rx)
  obtain⟨_,_,_,p,_⟩:=(show bM X.prog X.w H s.heap a (.tup xs) from I.hok a _ ea)
  obtain⟨o,h1,h2,_⟩:=p
  exact bn2 PySem.W.kitx_tuple I.kIn ⟨o,h1,h2⟩ e (λz=>nomatch z) h
 |@dK a kvs ea=>
  cases (show u=Value.ref a from rx)
  obtain⟨_,_,vs,_,p⟩:=(show bM X.prog X.w H s.heap a (.dK kvs) from I.hok a _ ea)
  obtain⟨o,es,ep,h1,h2,_⟩:=p
  exact bn2 PySem.W.kitx_dict I.kIn ⟨o,h1,h2.1⟩ e (λz=>nomatch z) h
 |@dT a kvs ea=>
  cases (show u=Value.ref a from rx)
  obtain⟨_,_,xs,_,o,es,ep,h1,h2,_⟩:=(show bM X.prog X.w H s.heap a (.dT kvs) from I.hok a _ ea)
  exact bn2 PySem.W.kitx_dict I.kIn ⟨o,h1,h2.1⟩ e (λz=>nomatch z) h
 |@ins a C dx fs ea cl ha hn htk hm=>
  cases (show u=Value.ref a from rx)
  obtain⟨mA,O,_⟩:=an4 I.hok ea
  obtain⟨od,J,_⟩:=O.look
  exact bn2 (PySem.W.kitx_own (cl.get _) cl.hd ha hn htk hm) I.kIn J e (λz=>nomatch z) h
end
structure bX (k:Nat)(A:ba):Prop where
 hd:A.handled=none
 dp:A.depth+3*k+5<recursionLimit
 un:A.units+16*k+200<cLine
theorem bX.mono {j k:Nat}{A:ba}(r:bX k A)(h:j<=k):bX j A:=⟨r.hd,by have:=r.dp;omega,by have:=r.un;omega⟩
theorem bX.deeper {k:Nat}{A:ba}(r:bX (k+1) A)(env:Env):bX k (A.deeper env):=
 ⟨r.hd,by have:=r.dp;show A.depth+1+3*k+5<_;omega,by have:=r.un;show A.units+3+16*k+200<_;omega⟩
theorem bX.depth {k:Nat}{A:ba}(r:bX k A):A.depth<recursionLimit:=by have:=r.dp;omega
theorem bX.units {k:Nat}{A:ba}(r:bX k A):A.units+64<cLine:=by have:=r.un;omega
def m5:TA:=λ_ H Q=>Q [] H
def iV (ta:TE)(tr:TA):TA:=λσ H Q=>ta σ H λx H1=>tr σ H1 λxs H2=>Q (x::xs) H2
section
variable {X:Cx}{e:Expr}{es:List Expr}{te:TE}{t:TA}{pos:Pos}
theorem jL:PA X [] m5:=λ_ _ _ _ H Q I h=>Calls.spliced_nil ⟨[],H,I,.nil,h⟩
theorem gA (ha:PE X e te)(hr:PA X es t)(hs:starEach (e::es) X.env=(false,eval e X.env)::starEach es X.env:=by rfl):PA X (e::es) (iV te t):=by
 intro pos ag s σ H Q I h;rw[hs];show wpAny _ _ (spliced ((false,eval e X.env)::backTo pos (starEach es X.env))) _ _ s;refine Calls.spliced_cons (aJ (ha ag s σ H _ I h) λu s1 ⟨x,H1,I1,r1,q1⟩=>?_);exact aJ (hr pos ag s1 σ H1 _ I1 q1) λus s2 ⟨xs,H2,I2,r2,q2⟩=>⟨x::xs,H2,I2,.cons r1 r2,q2⟩
def zL (t:TA):TE:=λσ H Q=>t σ H λxs H1=>xs.length<=sizeLine/\∀p,H1 p=none->Q (.ref p) (upd H1 p (.tup xs))
def zM (t:TA):TE:=λσ H Q=>t σ H λxs H1=>xs.length<=sizeLine/\∀p,H1 p=none->Q (.ref p) (upd H1 p (.lst xs))
theorem an6 {x1}(h:PA X es t):PE X (.Tuple es x1 pos) (zL t):=by
 intro ag s σ H Q I hq;refine wpAny_Tuple_spliced (aJ (h pos ag s σ H _ I hq) λus s1 ⟨xs,H1,I1,r,z,q⟩=>⟨by rw[<- r.length];exact z,?_⟩);have hf:H1 s1.heap.objs.size=none:=I1.hok.fresh (bg0 _);refine⟨.ref s1.heap.objs.size,upd H1 s1.heap.objs.size (.tup xs),I1.laid (t':=s1.toks) (λb u e=>bf3 _ e) (bg0 _) ?_,rfl,q _ hf⟩
 exact⟨z,us,r,⟨_,bg8 _ rfl,rfl,_,rfl⟩,iR.new _ _ rfl⟩
theorem an7 (h:PA X es t):PE X (.List es pos) (zM t):=by
 intro ag s σ H Q I hq;refine wpAny_List_spliced (aJ (h pos ag s σ H _ I hq) λus s1 ⟨xs,H1,I1,r,z,q⟩=>⟨by rw[<- r.length];exact z,?_⟩);have hf:H1 s1.heap.objs.size=none:=I1.hok.fresh (bg0 _);refine⟨.ref s1.heap.objs.size,upd H1 s1.heap.objs.size (.lst xs),I1.laid (t':=s1.toks) (λb u e=>bf3 _ e) (bg0 _) ?_,rfl,q _ hf⟩
 exact⟨z,us,0,r,bg8 _ rfl⟩
end
abbrev Sp:=List V->Hp->VK->XK->Prop
abbrev gN:=List Env->Hp->ax->XK->av->ax->Prop
structure qD (P:az)(w:bc)(K:ac)(mg:Str->Option av)(base:Heap)(A:ba)(outer:List Env)(s:ax)(H:Hp):Prop where
 frames:A.frames=some outer
 mod:Mod K mg base
 bs:∀b o,base.get? b=some o->s.heap.get? b=some o/\H b=none
 bsz:base.objs.size<=s.heap.objs.size
 funs:s.heap.FunFrames base outer
 frf:∀b∈bN outer,H b=none
 hok:bO P w H s.heap
 bare:AllBare s.gens
def CE (outer:List Env)(P:az)(w:bc)(H:Hp)(s:ax)(Q:VK)(u:av)(s':ax):Prop:=
 ∃v H',s'.os=s.os/\AllBare s'.gens/\Un (bN outer) [] H H' s.heap s'.heap/\bO P w H' s'.heap/\aP v u/\Q v H'
def CR (CX:gN)(outer:List Env)(P:az)(w:bc)(H:Hp)(s:ax)(Q:VK)(E:XK)(r:Result)(s':ax):Prop:=
 match r with
 |.ok (.ret u)=>CE outer P w H s Q u s'
 |.ok _=>False
 |.error e=>CX outer H s E e s'
structure dR (P:az)(w:bc)(K:ac)(mg:Str->Option av)(base:Heap)(CX:gN)(k:Nat)(f:ay)(fd:FuncData)(ps:List Str)(sp:Sp):Prop where
 len:∀vs H Q E,sp vs H Q E->vs.length=ps.length
 run:∀(A:ba) (outer:List Env) (s:ax) (H:Hp) (args:Args) (us:List av) (vs:List V) (Q:VK) (E:XK),bX k A->qD P w K mg base A outer s H->BindsTo s fd args (ps.zip us)->aI vs us->sp vs H Q E->
  codeAny (model P w) A (.call (.ref f) args) (CR CX outer P w H s Q E) s
theorem dR.imp {P:az}{w:bc}{K:ac}{mg:Str->Option av}{base:Heap}{CX:gN}{k:Nat}{f:ay}{fd:FuncData}{ps:List Str}{sp sp':Sp}(F:dR P w K mg base CX k f fd ps sp)(h:∀vs H Q E,sp' vs H Q E->sp vs H Q E):dR P w K mg base CX k f fd ps sp':=
 ⟨λvs H Q E q=>F.len vs H Q E (h _ _ _ _ q),λA outer s H args us vs Q E hr he hb hv hs=>F.run A outer s H args us vs Q E hr he hb hv (h _ _ _ _ hs)⟩
section
variable {X:Cx}{ag:List (ay×Obj)}{σ:St}{H:Hp}{s s':ax}
theorem a6.env0 (I:a6 X ag σ H s):qD X.prog X.w X.K X.mg X.base X.A X.stack s H:=
 ⟨I.ok.frames,I.ok.mod,I.bs,bl2 I.ok.bsz I.sz,I.stack,I.stkFree,I.hok,I.bare⟩
theorem a6.after {Q:VK}{u:av}(I:a6 X ag σ H s)(h:CE X.stack X.prog X.w H s Q u s'):EP X ag σ Q u s':=by
 obtain⟨v,H',os,bare,un,hok,r,q⟩:=h
 obtain⟨hh,g,d,t,os'⟩:=s'
 obtain rfl:os'=s.os:=os
 exact⟨v,H',I.call (h':=hh) (g':=g) (d':=d) (t':=t) (ch:=[]) un hok bare (λb z=>absurd z (by simp)),r,q⟩
end
def uC (sp:Sp)(dvs:List V)(E:XK)(t:TA):TE:=λσ H Q=>t σ H λvs H1=>sp (vs++dvs) H1 Q E
def jM (K:ac)(fd:FuncData)(ps:List Str)(ds:List av):Prop:=
 ∀(s:ax) (us:List av),K.In s.heap->(us++ds).length=ps.length->BindsTo s fd ⟨us,[]⟩ (ps.zip (us++ds))
theorem jM.all {K:ac}{fd:FuncData}{ps:List Str}(h:∀us:List av,us.length=ps.length->bindArgs fd ⟨us,[]⟩=pure (ps.zip us)):jM K fd ps []:=λs us _ hl=>by
 rw[bj9]at hl ⊢;exact .of_eq (h us hl)
def nX (CX:gN)(X:Cx)(E:XK):Prop:=∀(ag:List (ay×Obj)) (σ:St) (H:Hp) (s:ax) (e:av) (s':ax),a6 X ag σ H s->CX X.stack H s E e s'->X.xe e s'
section
variable {X:Cx}{CX:gN}{k:Nat}{f C:ay}{fd:FuncData}{ps:List Str}{sp:Sp}{dvs:List V}{ds:List av}{E:XK}{x m:Str}{p pos ah:Pos}{e o:Expr}{es:List Expr}{ta:TE}{t:TA}
theorem an8 {ag:List (ay×Obj)}{σ:St}{H:Hp}{s:ax}{Q:VK}{us:List av}{vs:List V}(F:dR X.prog X.w X.K X.mg X.base CX k f fd ps sp)(hr:bX k X.A)(hb:jM X.K fd ps ds)(hd:aI dvs ds)(hx:nX CX X E)(I:a6 X ag σ H s)(r:aI vs us)(h:sp (vs++dvs) H Q E):wpAny (model X.prog X.w) X.A (call (.ref f) us) (EP X ag σ Q) X.xe s:=by
 have r2:aI (vs++dvs) (us++ds):=r.append hd;have hl:(us++ds).length=ps.length:=by rw[<- r2.length];exact F.len _ _ _ _ h
 refine wpAny_call (codeAny_mono (F.run X.A X.stack s H ⟨us,[]⟩ (us++ds) (vs++dvs) Q E hr I.env0 (hb s us I.kIn hl) r2 h) λr s' hq=>?_);cases r with
 |error e=>exact hx ag σ H s e s' I hq
 |ok fl=>
  cases fl with
  |ret u=>exact I.after hq
  |next=>exact False.elim hq
  |brk=>exact False.elim hq
  |cont=>exact False.elim hq
theorem uD (F:dR X.prog X.w X.K X.mg X.base CX k f fd ps sp)(hr:bX k X.A)(hg:Gl X x)(hm:X.mg x=some (.ref f))(hk:PySem.W.keepIn X.K (.ref f)=true)(hb:jM X.K fd ps ds)(hd:aI dvs ds)(hx:nX CX X E)(ha:PA X (e::es) t)(hdb:(x==("__debug__":Str))=false:=by decide)(he:starEach (e::es) X.env=(false,eval e X.env)::starEach es X.env:=by rfl)(hpl:(backTo pos (starEach es X.env)).any (·.1)=false:=by rfl) :
  PE X (.Call (.Name x p) (e::es) [] pos) (uC sp dvs E t):=by
 intro ag s σ H Q I h;refine wpAny_Call_Name_kw (nS I hg hm ?_ hdb);refine PySem.W.callWith_K (h₀:=X.base) I.ok.mod.kin hk (aJ (ha pos ag s σ H _ I h) λus s1 ⟨vs,H1,I1,r,q⟩=>⟨I1.kIn,?_⟩) he hpl;exact an8 F hr hb hd hx I1 r q
end
def PK (X:Cx)(kws:List Keyword)(t:TA):Prop:=
 ∀(pos:Pos) (ag:List (ay×Obj)) (s:ax) (σ:St) (H:Hp) (Q:List V->Hp->Prop),a6 X ag σ H s->t σ H Q->wpAny (model X.prog X.w) X.A (evalAll ((backToKw pos (keywordEach kws X.env)).map (·.2))) (AP X ag σ Q) X.xe s
structure FnScope (N P:List Str)(sc:Scope):Prop where
 kind:sc.kind = .function
 co:sc.isCoroutine=false
 gen:sc.isGenerator=false
 nd:N.Nodup
 pre:N.take P.length=P
 par:∀x∈P,sc.names.lookup x=some .local∨sc.names.lookup x=some .cell
 nofree:∀y∈sc.names,y.2≠.free
theorem zN {kindOf:Str->Option NameKind}{x:Str}:∀{binds:List (Str×av)}{m:Str->Option av},(∀v,(x,v)∉binds)->bindL kindOf binds m x=m x
 |[],_,_=>rfl
 |(n,v)::r,m,h=>by
  unfold bindL;rw[zN λw hw=>h w (bf9 _ hw)];split
  ·have:x≠n:=by rintro rfl;exact h v bg1
   simp[this]
  ·rfl
theorem zO {kindOf:Str->Option NameKind}{x:Str}:∀{binds:List (Str×av)}{m:Str->Option av},(∀v,(x,v)∉binds)->bindC kindOf binds m x=m x
 |[],_,_=>rfl
 |(n,v)::r,m,h=>by
  unfold bindC;rw[zO λw hw=>h w (bf9 _ hw)];split
  ·rfl
  ·have:x≠n:=by rintro rfl;exact h v bg1
   simp[this]
theorem zP {kindOf:Str->Option NameKind}{x:Str}{v:av}:∀{P:List Str}{vs:List av}{i:Nat}{m:Str->Option av},P.Nodup->P[i]? = some x->vs[i]? = some v->kindOf x=some .local->
  bindL kindOf (P.zip vs) m x=some v
 |[],_,_,_,_,h,_,_=>by simp at h
 |_::_,[],_,_,_,_,h,_=>by simp at h
 |p::P,w::vs,0,m,nd,h1,h2,hk=>by
  simp at h1 h2;subst h1;subst h2;show bindL kindOf ((p,w)::P.zip vs) m p=_;unfold bindL;rw[zN λv hv=>(bl4.mp nd).1 (List.of_mem_zip hv).1,if_pos hk];simp
 |p::P,w::vs,i+1,m,nd,h1,h2,hk=>by
  show bindL kindOf ((p,w)::P.zip vs) m x=_;unfold bindL;exact zP (i:=i) (bl4.mp nd).2 (by simpa using h1) (by simpa using h2) hk
theorem zQ {kindOf:Str->Option NameKind}{x:Str}{v:av}:∀{P:List Str}{vs:List av}{i:Nat}{m:Str->Option av},P.Nodup->P[i]? = some x->vs[i]? = some v->kindOf x≠some .local->
  bindC kindOf (P.zip vs) m x=some v
 |[],_,_,_,_,h,_,_=>by simp at h
 |_::_,[],_,_,_,_,h,_=>by simp at h
 |p::P,w::vs,0,m,nd,h1,h2,hk=>by
  simp at h1 h2;subst h1;subst h2;show bindC kindOf ((p,w)::P.zip vs) m p=_;unfold bindC;rw[zO λv hv=>(bl4.mp nd).1 (List.of_mem_zip hv).1,if_neg hk];simp
 |p::P,w::vs,i+1,m,nd,h1,h2,hk=>by
  show bindC kindOf ((p,w)::P.zip vs) m x=_;unfold bindC;exact zQ (i:=i) (bl4.mp nd).2 (by simpa using h1) (by simpa using h2) hk
def gO (N:List Str)(vs:List V):St:=vs.map some++List.replicate (N.length-vs.length) none
def dG (CX:gN)(P:az)(w:bc)(K:ac)(mg:Str->Option av)(base:Heap)(N:List Str)(qual:Str)(scope:Scope)(f:ay)(cd:av)(A:ba)(outer:List Env)(s:ax)(H:Hp)(E:XK):Cx where
 prog:=P
 w:=w
 K:=K
 mg:=mg
 base:=base
 A:=A.deeper (envOfC qual scope s.heap.objs.size f cd)
 N:=N
 s₀:=s
 H₀:=H
 env:=envOfC qual scope s.heap.objs.size f cd
 outer:=outer
 stack:=envOfC qual scope s.heap.objs.size f cd::outer
 ex:=[]
 calm:=true
 fn:=λ_=>true
 pn:=[]
 xe:=λe s'=>wpAny (model P w) (A.deeper (envOfC qual scope s.heap.objs.size f cd)) (leaving (envOfC qual scope s.heap.objs.size f cd) e) (λ_ s''=>CX outer H s E e s'') (λe' s''=>CX outer H s E e' s'') s'
theorem zR {sc:Scope}{n:Nat}{x:Str}(h:sc.names.lookup x=some .cell):∃c,(cellsFrom n sc.names []).lookup x=some c:=by
 have q:=PySem.W.cellsFrom_some sc.names n [] (.inl h);exact Option.isSome_iff_exists.mp q
theorem an9 {CX:gN}{P:az}{w:bc}{K:ac}{mg:Str->Option av}{base:Heap}{N ps:List Str}{qual:Str}{scope:Scope}{f:ay}{cd:av}{A:ba}{outer:List Env}{s s1:ax}{H:Hp}{E:XK}{us:List av}{vs:List V}(S:FnScope N ps scope)(hd:A.handled=none)(e0:qD P w K mg base A outer s H)(hl:vs.length=ps.length)(r:aI vs us)(x:InCallC s s.heap.objs.size (bindL (envOfC qual scope s.heap.objs.size f cd).kindOf (ps.zip us) λ_=>none) (cellsFrom (s.heap.objs.size+1) scope.names []) (bindC (envOfC qual scope s.heap.objs.size f cd).kindOf (ps.zip us) λ_=>none) s1) :
  a6 (dG CX P w K mg base N qual scope f cd A outer s H E) [] (gO N vs) H s1:=by
 have hpl:ps.length<=N.length:=by have:=congrArg List.length S.pre;rw[bp9]at this;omega
 obtain⟨h1,tk,rfl,hk⟩:=x.done
 have noA:∀b:ay,b∉(dG CX P w K mg base N qual scope f cd A outer s H E).ex:=λb z=>absurd (show b∈([]:List ay) from z) (by simp)
 refine⟨⟨e0.mod,S.kind,rfl,rfl,bg0 _,λy z c h1 h2=>?_,λy hy=>?_,λy c _ h=>?_,λ_=>hd,Around.frames_deeper e0.frames,.inr ⟨rfl,rfl⟩,λb z=>absurd z (noA b),e0.bs,e0.bsz,λb _ _=>noA b,λb z=>absurd z (noA b),e0.funs,e0.frf⟩,
  rfl,e0.bare,Un.kept hk,⟨_,x.toInCall.ns,λi y v h1 h2 h3=>?_⟩,λy c h=>⟨_,x.cell y c h⟩,e0.hok.fresh (bg0 _),λy c h=>?_,λp hp=>absurd (show p∈([]:List (ay×Obj)) from hp) (by simp),e0.hok.kept hk,?_⟩
 ·exact name_of_addr x.apart (bm3 h1) (bm3 h2)
 ·have hy:scope.names.lookup y=some .cell∨scope.names.lookup y=some .free:=hy
  rcases hy with hy|hy
  ·exact zR hy
  ·exact absurd rfl (S.nofree _ (bm3 hy))
 ·exact bn7 (x.above y c (bm3 h))
 ·have hi:i<vs.length:=by
   unfold gO at h2;by_cases hi:i<vs.length
   ·exact hi
   ·rw[bs0 (by simpa using hi)]at h2
    rw[List.getElem?_replicate]at h2;split at h2<;>cases h2
  have ha:vs[i]? = some v:=by
   unfold gO at h2;rw[bq2 (by simpa using hi),bh5]at h2;cases e:vs[i]? with
   |none=>rw[e]at h2;cases h2
   |some a=>rw[e]at h2;cases h2;rfl
  obtain⟨u,hu,rv⟩:=r.get ha
  have hp:ps[i]? = some y:=by
   rw[<- S.pre,List.getElem?_take_of_lt (by omega)];exact h1
  have ndP:ps.Nodup:=by rw[<- S.pre];exact S.nd.sublist (List.take_sublist _ _)
  refine⟨u,rv,?_⟩;rcases S.par y (br6 hp) with k|k
  ·exact .inl ⟨k,zP ndP hp hu k⟩
  ·obtain⟨c,e⟩:=zR (n:=s.heap.objs.size+1) k
   refine .inr ⟨.inl k,c,e,?_⟩;have q:=x.cell y c e;rw[zQ ndP hp hu (by show scope.names.lookup y≠_;rw[k];decide)]at q;exact q
 ·exact e0.hok.fresh (bn7 (x.above y c (bm3 h)))
 ·unfold gO
  show _=N.length;rw[bh1,bf6,List.length_replicate];omega
theorem zS {CX:gN}{P:az}{w:bc}{K:ac}{mg:Str->Option av}{base:Heap}{k:Nat}{f:ay}{name qual:Str}{params:Arguments}{body:List Stmt}{scope:Scope}{dV kV doc pm cdv ct oc:av}{an od:Option ay}{osl:Array (Option av)}{N ps:List Str}{sp:Sp}(lk:K.lookup f=some ⟨oc,od,.func (PySem.W.fnOf name qual params body scope dV kV doc pm an cdv ct),osl⟩)(hcd:PySem.W.codeIn K cdv qual=true)(S:FnScope N ps scope)(len:∀vs H Q E,sp vs H Q E->vs.length=ps.length)(hbody:∀(A:ba) (outer:List Env) (s:ax) (H:Hp) (vs:List V) (Q:VK) (E:XK),bX k (A.deeper (envOfC qual scope s.heap.objs.size f cdv))->sp vs H Q E->
   ∃t,dQ (dG CX P w K mg base N qual scope f cdv A outer s H E) body t/\t { nx:=λ_ H'=>Q .non H',rt:=Q } (gO N vs) H) :
  dR P w K mg base CX (k+1) f (PySem.W.fnOf name qual params body scope dV kV doc pm an cdv ct) ps sp:=by
 refine⟨len,λA outer s H args us vs Q E hr e0 hb r hsp=>?_⟩;have hl:=len _ _ _ _ hsp;have KX:K.In s.heap:=e0.mod.kin.keeps λb o e=>(e0.bs b o e).1
 have lim:s.heap.NoLimit:=e0.mod.nolimit.keeps λb o e=>(e0.bs b o e).1
 have hkind:∀y∈ps.zip us,scope.names.lookup y.1=some .local∨(scope.names.lookup y.1=some .cell/\((cellsFrom (s.heap.objs.size+1) scope.names []).lookup y.1).isSome=true):=λ⟨n,v⟩ hy=>by
  rcases S.par n (List.of_mem_zip hy).1 with q|q
  ·exact .inl q
  ·exact .inr ⟨q,PySem.W.cellsFrom_some _ _ _ (.inl q)⟩
 refine codeAny_call_function hr.depth (KX _ _ lk) rfl S.co S.gen rfl (PySem.W.codeRec_of KX hcd) (hb _ _ _ _ ?_);refine wpAny_newFunctionEnv_cells S.kind hkind λenv he s1 x=>?_
 subst he;refine⟨lim.keeps x.toInCall.keep,codeAny_func ?_⟩
 obtain⟨t,ht,hq⟩:=hbody A outer s H vs Q E (hr.deeper _) hsp
 have I:a6 (dG CX P w K mg base N qual scope f cdv A outer s H E) [] (gO N vs) H s1:=an9 S hr.hd e0 hl r x;refine bm8 (ht [] s1 (gO N vs) H _ I hq) (λfl s' hs=>?_) λe s' hs=>hs
 have fin:∀{σ':St}{H':Hp}{v:V}{u:av},a6 (dG CX P w K mg base N qual scope f cdv A outer s H E) [] σ' H' s'->aP v u->Q v H'->CE outer P w H s Q u s':=
  λ{σ' H' v u} J rv q=>⟨v,H',J.os,J.bare,J.base,J.hok,rv,q⟩
 cases fl with
 |ret u=>
  obtain⟨v,σ',H',J,rv,q⟩:=hs
  exact fin J rv q
 |next=>
  obtain⟨σ',H',J,q⟩:=hs
  exact fin (v:=V.non) (u:=Value.none) J rfl q
 |brk=>
  obtain⟨_,_,_,q⟩:=hs
  exact False.elim q
 |cont=>
  obtain⟨_,_,_,q⟩:=hs
  exact False.elim q
section
variable {X:Cx}{x:Str}{p pos:Pos}{e:Expr}{es:List Expr}{t:TA}{id T:String}{r:List V→Hp→VK→Prop}
def uE (r:List V->Hp->VK->Prop)(t:TA):TE:=λσ H Q=>t σ H λvs H1=>r vs H1 Q
theorem qE (hc:cU X (.builtin id) r)(hg:Gl X x)(hm:X.mg x=none)(hv:bootBuiltins x=some (.builtin id))(ha:PA X (e::es) t)(hn:x≠"__name__":=by decide)(hdb:(x==("__debug__":Str))=false:=by decide)(he:starEach (e::es) X.env=(false,eval e X.env)::starEach es X.env:=by rfl)(hpl:(backTo pos (starEach es X.env)).any (·.1)=false:=by rfl):PE X (.Call (.Name x p) (e::es) [] pos) (uE r t):=by
 intro ag s σ H Q I h;refine wpAny_Call_Name_kw (lV I hg hm hv ?_ hn hdb);exact PyProof.Rows.callWith_builtin1 (aJ (ha pos ag s σ H _ I h) λus s1 ⟨vs,H1,I1,r1,q1⟩=>hc ag s1 σ H1 vs us Q I1 r1 q1) he hpl
theorem zT (hc:cU X (.type T) r)(hg:Gl X x)(hm:X.mg x=none)(hv:bootBuiltins x=some (.type T))(ha:PA X (e::es) t)(hn:x≠"__name__":=by decide)(hdb:(x==("__debug__":Str))=false:=by decide)(he:starEach (e::es) X.env=(false,eval e X.env)::starEach es X.env:=by rfl)(hpl:(backTo pos (starEach es X.env)).any (·.1)=false:=by rfl):PE X (.Call (.Name x p) (e::es) [] pos) (uE r t):=by
 intro ag s σ H Q I h;refine wpAny_Call_Name_kw (lV I hg hm hv ?_ hn hdb);exact bu9 (aJ (ha pos ag s σ H _ I h) λus s1 ⟨vs,H1,I1,r1,q1⟩=>hc ag s1 σ H1 vs us Q I1 r1 q1) he hpl
end
end L2
namespace HT
open PySem PyProof.Rows
def b9:ae->ae->Bool
 |[],[]=>false
 |[],_::_=>true
 |_::_,[]=>false
 |x::xs,y::ys=>if x=y then b9 xs ys else decide (x<y)
theorem gP (x y:Int)(xs ys:ae):b9 (x::xs) (y::ys)=if x=y then b9 xs ys else decide (x<y):=rfl
theorem qF:b9 [] []=false:=rfl
theorem ao0 (y:Int)(ys:ae):b9 [] (y::ys)=true:=rfl
theorem ao1 (x:Int)(xs:ae):b9 (x::xs) []=false:=rfl
theorem ao2 (A:ba)(s:ax)(a:Int)(t:Tok)(c:Int)(u:Tok):∃e,SeqAt.EqAt A s (.int a t) (.int c u) e/\(e=true↔a=c):=
 ⟨(a==c),SeqAt.EqAt.int_int a t c u,by simp⟩
theorem ao3 (A:ba)(s:ax)(a:Int)(t:Tok)(c:Int)(u:Tok)(prog:az)(w:bc)(E:av->ax->Prop)(Q:av->ax->Prop)(h:Q (.bool (decide (a<c))) s) :
  wpAny (model prog w) A (richCompare .Lt (.int a t) (.int c u)) Q E s:=
 (PyProof.Rows.lt_int h:wpAny (model prog w) A (compareOp .Lt (.int a t) (.int c u)) Q E s)
section
open PySem.SeqAt
open PySem.AutoSeq1 (wpAny_loadPart')
open PySem.MeetsSeq PySem.MeetsSeq2 PySem.MeetsSeq3
theorem ao4 (l b:ay)(items items2:Array av)(n n2:Nat)(dd dd2:Option ay)(sl sl2:Array (Option av))(ns ms:ae)(hi:IntsAre items.toList ns)(hj:IntsAre items2.toList ms) :
  Meets (Builtin.«tuple.__lt__» ⟨[.ref l,.ref b],[]⟩)
   (λ_ R s=>s.heap.get? l=some { cls:=.type "tuple",dict:=dd,data:=.seq items n,slots:=sl }/\s.heap.get? b=some { cls:=.type "tuple",dict:=dd2,data:=.seq items2 n2,slots:=sl2 }/\
    R (.ok (.ret (.bool (b9 ns ms)))) s):=
 .of_wp λprog w A R s h=>by
  obtain⟨hp,g,d,tk,os⟩:=s;obtain⟨hl,hb,h⟩:=h
  have f2:=AutoSeq1.sub_tuple_tuple;have z1:items.size=ns.length:=by rw[<- hi.length];simp
  have z2:items2.size=ms.length:=by rw[<- hj.length];simp
  wp_walk using wpAny_loadPart' hl,wpAny_loadPart' hb,wpAny_forIn_list _ (λb8 b s'=>b.1=none/\s'=⟨hp,g,d,tk,os⟩/\∃(vs ws:List av) (ns' ms':ae),b8=vs.zip ws/\
   IntsAre vs ns'/\IntsAre ws ms'/\ns'.length+items2.size=ms'.length+items.size/\R (.ok (.ret (.bool (b9 ns' ms')))) ⟨hp,g,d,tk,os⟩) _
  case turn=>
   rintro⟨y,x⟩ b8 b s' ⟨hb',rfl,vs,ws,ns',ms',hz,hvi,hwi,aj,hR⟩
   cases hvi with
   |nil=>rw[List.zip_nil_left]at hz;cases hz
   |cons a t hvi'=>
    cases hwi with
    |nil=>rw[List.zip_nil_right]at hz;cases hz
    |cons c u hwi'=>
     rw[bt2]at hz;injection hz with hyx hrest
     injection hyx with hy hx
     subst hy hx;rw[gP]at hR;simp only[bj5]at aj
     obtain⟨e,he,hiff⟩:=ao2 A.in1 ⟨hp,g,d,tk,os⟩ a t c u
     refine bf1 (he prog w _ _ ?_);cases e with
     |true=>
      rw[if_pos (hiff.mp rfl)]at hR
      wp_walk
      exact⟨rfl,rfl,_,_,_,_,hrest,hvi',hwi',by omega,hR⟩
     |false=>
      rw[if_neg (λq=>absurd (hiff.mpr q) bi1)]at hR;have hri:=ao3 A.in1 ⟨hp,g,d,tk,os⟩ a t c u prog w
      wp_walk using hri
      exact⟨_,rfl,by simpa using hR⟩
  case fin=>
   rintro⟨b1,b2⟩ s' ⟨hb',rfl,vs,ws,ns',ms',hz,hvi,hwi,aj,hR⟩
   simp only at hb';subst hb';have hv:b9 ns' ms'=decide (items.size<items2.size):=by
    cases hvi with
    |nil=>
     cases hwi with
     |nil=>
      simp only[List.length_nil]at aj;rw[qF];exact (bf7 (by omega)).symm
     |cons c u hw=>
      simp only[List.length_nil,bj5]at aj;rw[ao0];exact (bg4 (by omega)).symm
    |cons a t hv=>
     cases hwi with
     |nil=>
      simp only[List.length_nil,bj5]at aj;rw[ao1];exact (bf7 (by omega)).symm
     |cons c u hw=>
      rw[bt2]at hz;cases hz
   rw[hv]at hR
   wp_walk
   exact⟨_,rfl,by simpa[Builtin.Tuple.tupleCompareSizes] using hR⟩
  case h=>
   exact⟨rfl,rfl,items.toList,items2.toList,ns,ms,rfl,hi,hj,by omega,h⟩
end
section
variable {prog:az}{w:bc}{A:ba}{E:av→ax→Prop}{s:ax}
theorem ao5 {l b:ay}{items items2:Array av}{ns ms:ae}{Q:av->ax->Prop}(hl:IsTup s.heap l items)(hb:IsTup s.heap b items2)(hi:IntsAre items.toList ns)(hj:IntsAre items2.toList ms)(hu:A.units<cLine)(h:Q (.bool (b9 ns ms)) s):wpAny (model prog w) A (compareOp .Lt (.ref l) (.ref b)) Q E s:=by
 obtain⟨⟨cls,dd,data,sl⟩,ho,hc,n,hd⟩:=id hl
 obtain⟨⟨cls2,dd2,data2,sl2⟩,ho2,hc2,n2,hd2⟩:=id hb
 simp only at hc hd hc2 hd2;subst hc hd hc2 hd2;exact richCompare_meets_room (op:=.Lt) ⟨_,ho,rfl⟩ ⟨_,ho2,rfl⟩ PySem.F.slot_tuple_lt PySem.F.entry_tuple_lt (PySem.F.args_tuple_lt_2 _ _) (ao4 l b items items2 n n2 dd dd2 sl sl2 ns ms hi hj)
  ⟨ho,ho2,show Value.bool (b9 ns ms)≠Value.notImplemented/\Q (.bool (b9 ns ms)) s from ⟨(λx=>nomatch x),h⟩⟩ hu
def aV (n d:Nat):Option Int->Nat
 |none=>d
 |some v=>if v<0 then (v+(n:Int)).toNat else min v.toNat n
theorem ao6 (n d:Nat)(hd:d<=n)(o:Option Int):aV n d o<=n:=by
 cases o with
 |none=>exact hd
 |some v=>
  show (if v<0 then (v+(n:Int)).toNat else min v.toNat n)<=n;by_cases hv:v<0
  ·rw[if_pos hv];omega
  ·rw[if_neg hv];exact Nat.min_le_right _ _
theorem zU (v:Int)(n d:Nat):(if v<0 then max (v+(n:Int)) 0 else min v (n:Int))=((aV n d (some v):Nat):Int):=by
 show (if v<0 then max (v+(n:Int)) 0 else min v (n:Int))=(((if v<0 then (v+(n:Int)).toNat else min v.toNat n):Nat):Int);by_cases hv:v<0
 ·simp only[if_pos hv];omega
 ·simp only[if_neg hv];omega
theorem ao7 (lo hi:Option Int)(n:Nat):Builtin.Slice.sliceAdjust lo hi 1 (n:Int)=(((aV n 0 lo:Nat):Int),((aV n n hi:Nat):Int)):=by
 have h1:¬((1:Int)<0):=by omega
 unfold Builtin.Slice.sliceAdjust;simp only[h1,bl6];refine bu8 ?_ ?_
 ·cases lo with
  |none=>rfl
  |some v=>exact zU v n 0
 ·cases hi with
  |none=>rfl
  |some v=>exact zU v n n
theorem ao8 (i j:Nat):Builtin.Slice.slicePlaces (i:Int) (j:Int) 1=j-i:=by
 unfold Builtin.Slice.slicePlaces;have h1:(1:Int)>0:=by omega
 simp only[h1,if_true,Int.ediv_one];split<;>omega
theorem zV {v:av}{o:Option Int}{Q:Option Int->ax->Prop}(p:IsPart v o)(h:Q o s):wpAny (model prog w) A (Builtin.Slice.slicePartIndex v) Q E s:=by
 cases p with
 |none=>exact slicePart_none h
 |int i t=>exact slicePart_int h
theorem zW {sl:ay}{vl vu:av}{lo hi:Option Int}{n:Nat}{Q:Int×Int×Nat->ax->Prop}(hs:s.heap.IsSliceOf sl vl vu .none)(pl:IsPart vl lo)(pu:IsPart vu hi)(h:Q (((aV n 0 lo:Nat):Int),1,aV n n hi-aV n 0 lo) s):wpAny (model prog w) A (Builtin.Slice.sliceApplied (.ref sl) (pure (n:Int))) Q E s:=by
 obtain⟨os,hos,hcs,hds⟩:=id hs
 unfold Builtin.Slice.sliceApplied Builtin.Slice.sliceFields;refine bf1 (bf1 (bq7 hos hds (x:=vl) rfl (bf1 (bq7 hos hds (x:=vu) rfl (bf1 (bq7 hos hds (x:=.none) rfl (bf5 ?_)))))));refine bf1 (slicePart_none ?_);show wpAny _ _ (if ((1:Int)==0)=true then _ else _) _ _ s;rw[if_neg (by decide)];refine bf1 (zV pl (bf1 (zV pu (bf1 (bf5 ?_)))));show wpAny _ _ (match Builtin.Slice.sliceAdjust lo hi 1 (n:Int) with|(lo,hi)=>pure (lo,(1:Int),Builtin.Slice.slicePlaces lo hi 1)) _ _ s;rw[ao7 lo hi n];show wpAny _ _ (pure (((aV n 0 lo:Nat):Int),(1:Int),Builtin.Slice.slicePlaces ((aV n 0 lo:Nat):Int) ((aV n n hi:Nat):Int) 1)) _ _ s;rw[ao8];exact bf5 h
theorem ao9 (xs:Array av)(i k:Nat):((List.range k).filterMap λ(m:Nat)=>xs[((i:Int)+(m:Int)*1).toNat]?).toArray=((xs.toList.drop i).take k).toArray:=by
 have e:(λ(m:Nat)=>xs[((i:Int)+(m:Int)*1).toNat]?)=λm=>xs[i+m]?:=by
  funext m
  have:((i:Int)+(m:Int)*1).toNat=i+m:=by omega
  rw[this]
 rw[e]
 have:=pick_run xs i k
 rw[List.filterMap_map]at this;have e2:((λx=>xs[x]?) ∘ λx=>i+x)=λm=>xs[i+m]?:=rfl
 rw[e2]at this;rw[this]
theorem ap0 {t sl:ay}{items:Array av}{vl vu:av}{lo hi:Option Int}{Q:av->ax->Prop}(ht:IsTup s.heap t items)(hs:s.heap.IsSliceOf sl vl vu .none)(pl:IsPart vl lo)(pu:IsPart vu hi)(hw:¬(aV items.size 0 lo=0/\aV items.size items.size hi=items.size))(h:Q (.ref s.heap.objs.size) { s with heap:=s.heap.push { cls:=.type "tuple",data:=.seq ((items.toList.drop (aV items.size 0 lo)).take (aV items.size items.size hi-aV items.size 0 lo)).toArray } })(hsz:items.size<=sizeLine):wpAny (model prog w) A (getItem (.ref t) (.ref sl)) Q E s:=by
 have htake:sizeOk (.seq ((items.toList.drop (aV items.size 0 lo)).take (aV items.size items.size hi-aV items.size 0 lo)).toArray):=by
  show ((items.toList.drop (aV items.size 0 lo)).take (aV items.size items.size hi-aV items.size 0 lo)).toArray.size<=sizeLine;rw[bf8,bp9,br7,bh3];omega
 have hj:aV items.size items.size hi<=items.size:=ao6 _ _ (bg0 _) hi
 obtain⟨os,hos,hcs,hds⟩:=id hs
 have hTs:s.TypeIs (.ref sl) "slice":=⟨os,hos,hcs⟩;unfold getItem
 try with_reducible refine bn5 ?_
 first|refine bf1 (bf5 ?_)|skip
 refine bf1 (wpAny_sequenceKey ht.typeIs (by decide) ?_)
 refine bf1 (bl5 (name:=Str.ofString "__getitem__") ht.typeIs bs9
  (bk9 bs9 ht.typeIs entry_tuple_getitem ?_ (args_tuple_getitem _ _)))
 show wpAny _ _ (Builtin.Tuple.tupleItemsOf (.ref t) >>= _) _ _ s;refine bf1 (tupleItemsOf_ ht ?_);refine bf1 (wpAny_typeOf hTs ?_);rw[if_pos (by decide)];refine bf1 (zW hs pl pu ?_);have hno:¬((((aV items.size 0 lo:Nat):Int)==0&&(1:Int)==1&&(aV items.size items.size hi-aV items.size 0 lo)==items.size)=true):=by
  intro q;rw[bn3,bn3]at q;have q1:((aV items.size 0 lo:Nat):Int)=0:=eq_of_beq q.1.1;have q2:aV items.size items.size hi-aV items.size 0 lo=items.size:=eq_of_beq q.2;exact hw ⟨by omega,by omega⟩
 show wpAny _ _ (if (((aV items.size 0 lo:Nat):Int)==0&&(1:Int)==1&&(aV items.size items.size hi-aV items.size 0 lo)==items.size)=true then _ else _) _ _ s;rw[if_neg hno,ao9]
 first
  |exact bf1 (m:=Builtin.Tuple.tupleExact _) (bk2 (bf5 ⟨_,rfl,bf5 h⟩) htake)
  |exact bf1 (m:=Builtin.Tuple.tupleExact _) (bk2 (bf1 (bf5 (bf5 ⟨_,rfl,bf5 h⟩))) htake)
  |exact bf1 (bf1 (m:=Builtin.Tuple.tupleExact _) (bk2 (bf5 (bf5 ⟨_,rfl,bf5 h⟩)) htake))
  |exact bf1 (bf1 (m:=Builtin.Tuple.tupleExact _) (bk2 (bf5 ⟨_,rfl,bf5 h⟩) htake))
end
end HT
namespace L2
open PySem PySem.Spec PyProof.Rows
abbrev TO:=St->Hp->(Option Int->Hp->Prop)->Prop
def PO (X:Cx)(e:Option Expr)(t:TO):Prop:=
 ∀(ag:List (ay×Obj)) (s:ax) (σ:St) (H:Hp) (Q:Option Int->Hp->Prop),a6 X ag σ H s->t σ H Q->
  wpAny (model X.prog X.w) X.A (evalPart e X.env) (λu s'=>∃o H',a6 X ag σ H' s'/\IsPart u o/\Q o H') X.xe s
def ap1:TO:=λ_ H Q=>Q none H
def ap2 (t:TE):TO:=λσ H Q=>t σ H λx H1=>∃i,x = .int i/\Q (some i) H1
theorem iW {ns:ae}:∀{us:List av},aI (ns.map V.int) us->IntsAre us ns:=by
 induction ns with
 |nil=>intro us r;rw[List.map_nil]at r;cases r;exact .nil
 |cons n ns ih=>
  intro us r;rw[bi8]at r;cases r with
  |cons r1 r2=>
   obtain⟨t,e⟩:=r1
   subst e;exact .cons n t (ih r2)
section
variable {X:Cx}{e:Expr}{te:TE}{lo hi:Option Expr}{tl th:TO}{pos p2:Pos}
theorem ap3:PO X none ap1:=by
 intro ag s σ H Q I h;rw[evalPart_none];exact bf5 ⟨none,H,I,.none,h⟩
theorem ap4 (h:PE X e te):PO X (some e) (ap2 te):=by
 intro ag s σ H Q I hw;rw[evalPart_some];refine aJ (h ag s σ H _ I hw) λu s1 ⟨x,H1,I1,r1,q1⟩=>?_
 obtain⟨i,rfl,q⟩:=q1
 obtain⟨t,rfl⟩:=r1
 exact⟨some i,H1,I1,.int i t,q⟩
def jN (X:Cx)(r:V->Option Int->Option Int->Hp->VK->Prop):Prop:=
 ∀(ag:List (ay×Obj)) (s:ax) (σ:St) (H:Hp) (x:V) (v vl vu:av) (lo hi:Option Int) (sl:ay) (Q:VK),a6 X ag σ H s->aP x v->s.heap.IsSliceOf sl vl vu .none->IsPart vl lo->IsPart vu hi->r x lo hi H Q->
  ∃T id,typeLookup (.type T) "__getitem__" = pure (some (.builtin id))/\s.TypeIs v T/\wpAny (model X.prog X.w) X.A (getItem v (.ref sl)) (EP X ag σ Q) X.xe s
theorem jN.or {r r':V->Option Int->Option Int->Hp->VK->Prop}(h:jN X r)(h':jN X r'):jN X (λx lo hi H Q=>r x lo hi H Q∨r' x lo hi H Q):=by
 intro ag s σ H x v vl vu lo hi sl Q I rx hs pl pu q;rcases q with q|q
 ·exact h ag s σ H x v vl vu lo hi sl Q I rx hs pl pu q
 ·exact h' ag s σ H x v vl vu lo hi sl Q I rx hs pl pu q
def tSl (r:V->Option Int->Option Int->Hp->VK->Prop)(te:TE)(tl th:TO):TE:=λσ H Q=>te σ H λx H1=>tl σ H1 λl H2=>th σ H2 λu H3=>r x l u H3 Q
theorem ap5 {r:V->Option Int->Option Int->Hp->VK->Prop}(hr:jN X r)(he:PE X e te)(hl:PO X lo tl)(hu:PO X hi th):PE X (.Subscript e (.Slice lo hi none p2) pos) (tSl r te tl th):=by
 intro ag s σ H Q I h;refine Subscript_ (aJ (he ag s σ H _ I h) λv s1 ⟨x,H1,I1,r1,q1⟩=>?_);refine wpAny_Slice (aJ (hl ag s1 σ H1 _ I1 q1) λvl s2 ⟨l,H2,I2,pl,q2⟩=>aJ (hu ag s2 σ H2 _ I2 q2) λvu s3 ⟨u,H3,I3,pu,q3⟩=>?_);rw[evalPart_none];refine bf5 ?_;have I4:a6 X ag σ H3 { s3 with heap:=s3.heap.push { cls:=.type "slice",data:=.fields #[vl,vu,.none] } }:=I3.kept (t':=s3.toks) λb ob q=>bf3 _ q
 obtain⟨T,id,hT,ht,hg⟩:=hr ag { s3 with heap:=s3.heap.push { cls:=.type "slice",data:=.fields #[vl,vu,.none] } } σ H3 x v vl vu l u s3.heap.objs.size Q I4 r1 (Heap.IsSliceOf.new ..) pl pu q3
 show wpAny (model X.prog X.w) X.A (subscriptTail e (.Slice lo hi none p2) v (.ref s3.heap.objs.size)) (EP X ag σ Q) X.xe { s3 with heap:=s3.heap.push { cls:=.type "slice",data:=.fields #[vl,vu,.none] } };exact tail_any (ops:=[.ref s3.heap.objs.size,v]) ht hT hg (by with_unfolding_all rfl)
def hV (xs:List V)(lo hi:Option Int):List V:=(xs.drop (HT.aV xs.length 0 lo)).take (HT.aV xs.length xs.length hi-HT.aV xs.length 0 lo)
theorem zX (xs:List V)(lo hi:Option Int):(hV xs lo hi).length<=xs.length:=by
 unfold hV;rw[bp9,br7];omega
def ap6 (K:ac):V->Option Int->Option Int->Hp->VK->Prop:=λx lo hi H Q=>∃a xs,x = .ref a/\aM K H a xs/\
 ¬(HT.aV xs.length 0 lo=0/\HT.aV xs.length xs.length hi=xs.length)/\∀p,H p=none->Q (.ref p) (upd H p (.tup (hV xs lo hi)))
theorem ap7:jN X (ap6 X.K):=by
 intro ag s σ H x v vl vu lo hi sl Q I rx hs pl pu h
 obtain⟨a,xs,rfl,hx,hw,q⟩:=h
 cases rx
 obtain⟨its,r,ht,hz⟩:=I.tuple hx
 have aj:its.toArray.size=xs.length:=by rw[bf8];exact r.length.symm
 refine⟨"tuple",_,PyProof.Rows.slot_tuple_getitem.lookup,ht.typeIs,?_⟩;refine HT.ap0 ht hs pl pu (by rw[aj];exact hw) ?_ (by rw[aj];exact hz);rw[aj];refine⟨.ref s.heap.objs.size,_,I.laid (t':=s.toks) (o:=.tup (hV xs lo hi)) (λb ob q=>bf3 _ q) (bg0 _) ?_,rfl,q _ (I.hok.fresh (bg0 _))⟩
 exact⟨bl2 (zX xs lo hi) hz,_,(r.drop (HT.aV xs.length 0 lo)).take (HT.aV xs.length xs.length hi-HT.aV xs.length 0 lo),IsTup.new _ _,iR.new _ _ rfl⟩
def uF (K:ac):R2:=λx y H Q=>∃a b ns ms,x = .ref a/\y = .ref b/\aM K H a (ns.map V.int)/\aM K H b (ms.map V.int)/\Q (.bl (HT.b9 ns ms)) H
theorem ap8 (hu:X.A.units<cLine):c9 X (compareOp .Lt) (uF X.K):=by
 intro ag s σ H x y v u Q I rx ry h
 obtain⟨a,b,ns,ms,rfl,rfl,ha,hb,q⟩:=h
 cases rx;cases ry
 obtain⟨its,r1,p1,_⟩:=I.tuple ha
 obtain⟨ao,r2,p2,_⟩:=I.tuple hb
 have i1:IntsAre its.toArray.toList ns:=iW r1;have i2:IntsAre ao.toArray.toList ms:=iW r2;exact HT.ao5 p1 p2 i1 i2 hu ⟨.bl (HT.b9 ns ms),H,I,rfl,q⟩
end
def kH (n:Nat)(i:Int):Option Nat:=if 0<=i then (if i<n then some i.toNat else none) else if -(n:Int)<=i then some (i+n).toNat else none
def atI {α:Type}(xs:List α)(i:Int):Option α:=(kH xs.length i).bind λj=>xs[j]?
theorem ap9 {n:Nat}{i:Int}{j:Nat}(h:kH n i=some j):seqIndex? i n=some j/\j<n/\-(n:Int)<=i/\i<n:=by
 unfold kH at h;by_cases h0:0<=i
 ·rw[if_pos h0]at h
  by_cases h1:i<n
  ·rw[if_pos h1]at h
   have e:i.toNat=j:=bj4 h
   exact⟨by rw[seqIndex_of h0 h1,e],by omega,by omega,h1⟩
  ·rw[if_neg h1]at h;cases h
 ·rw[if_neg h0]at h
  by_cases h1:-(n:Int)<=i
  ·rw[if_pos h1]at h
   have e:(i+n).toNat=j:=bj4 h
   exact⟨by rw[seqIndex_neg (by omega) h1,e],by omega,h1,by omega⟩
  ·rw[if_neg h1]at h;cases h
theorem uG {α:Type}{xs:List α}{i:Int}{v:α}(h:atI xs i=some v):∃j,seqIndex? i xs.length=some j/\xs[j]? = some v/\j<xs.length/\-(xs.length:Int)<=i/\i<xs.length:=by
 unfold atI at h;cases e:kH xs.length i with
 |none=>rw[e]at h;cases h
 |some j=>
  rw[e]at h
  obtain⟨h1,h2,h3,h4⟩:=ap9 e
  exact⟨j,h1,h,h2,h3,h4⟩
theorem uH {α:Type}{xs:List α}{j:Nat}{v:α}(h:xs[j]? = some v):atI xs (j:Int)=some v:=by
 have hj:j<xs.length:=(bh8.mp h).1;have e:kH xs.length (j:Int)=some j:=by
  unfold kH;rw[if_pos (by omega),if_pos (by omega)];simp
 unfold atI;rw[e];exact h
def zY (b:Expr):Prop:=∀o i,subscripted b false o i=operate [o,i] (getItem o i)
def iX (X:Cx)(r:R2):Prop:=
 ∀(value slice:Expr) (ag:List (ay×Obj)) (s:ax) (σ:St) (H:Hp) (x y:V) (v u:av) (Q:VK),a6 X ag σ H s->aP x v->aP y u->r x y H Q->
  subscripted slice false v u=operate [v,u] (getItem v u)->wpAny (model X.prog X.w) X.A (subscriptTail value slice v u) (EP X ag σ Q) X.xe s
def zZ (X:Cx)(id:String)(r:V->List V->Hp->VK->Prop):Prop:=
 ∀(ag:List (ay×Obj)) (s:ax) (σ:St) (H:Hp) (x:V) (xs:List V) (v:av) (us:List av) (Q:VK),a6 X ag σ H s->aP x v->aI xs us->r x xs H Q->
  wpAny (model X.prog X.w) X.A (call (.builtin id) (v::us)) (EP X ag σ Q) X.xe s
section
variable {X:Cx}{a b:Expr}{ta tb:TE}{pos:Pos}
theorem iX.or {r r':R2}(h:iX X r)(h':iX X r'):iX X (λx y H Q=>r x y H Q∨r' x y H Q):=by
 intro value slice ag s σ H x y v u Q I rx ry q hs;rcases q with q|q
 ·exact h value slice ag s σ H x y v u Q I rx ry q hs
 ·exact h' value slice ag s σ H x y v u Q I rx ry q hs
theorem aq0 {r:R2}(hr:iX X r)(ha:PE X a ta)(hb:PE X b tb)(hs:zY b):PE X (.Subscript a b pos) (nU r ta tb):=by
 intro ag s σ H Q I h;exact Subscript_ (u6 ha hb I h λv u s2 x y H2 I2 rx ry q=>hr a b ag s2 σ H2 x y v u Q I2 rx ry q (hs _ _))
def A0 (K:ac):R2:=λx y H Q=>∃p xs i v,x = .ref p/\y = .int i/\aT K H p xs/\atI xs i=some v/\Q v H
def A1 (K:ac):R2:=λx y H Q=>∃p xs i v,x = .ref p/\y = .int i/\aM K H p xs/\atI xs i=some v/\Q v H
def A2:R2:=λx y H Q=>∃z i c,x = .str z/\y = .int i/\z.length<=sizeLine/\atI z.cps.toList i=some c/\Q (.str ⟨#[c]⟩) H
theorem aq1:iX X (A0 X.K):=by
 intro value slice ag s σ H x y v u Q I rx ry h hs
 obtain⟨p,xs,i,z,rfl,rfl,hq,he,q⟩:=h
 cases rx
 obtain⟨t,rfl⟩:=ry
 obtain⟨its,r,pl,hz⟩:=I.list hq
 obtain⟨j,h1,h2,h3,h4,h5⟩:=uG he
 obtain⟨w,ew,rw'⟩:=r.get h2
 have hl:=r.length;have hn:=nW;have fin:EP X ag σ Q w s:=⟨z,H,I,rw',q⟩;by_cases h0:0<=i
 ·have hj:i.toNat=j:=by
   rw[seqIndex_of h0 h5]at h1;exact bj4 h1
  exact item_listR pl.isList h0 (by omega) (by rw[hj];simpa using ew) fin hs
 ·have hj:(i+(its.toArray.size:Int)).toNat=j:=by
   rw[seqIndex_neg (by omega) h4]at h1;rw[bf8,<- hl];exact bj4 h1
  exact subscriptTail_builtinR (x:=w) pl.isList.typeIs slot_list_getitem.lookup
   (wpAny_getItem_list_neg (Q:=λr s'=>r=w/\EP X ag σ Q r s') pl.isList (by omega) (by rw[bf8]<;>omega) (by omega) (by rw[hj];simpa using ew) ⟨rfl,fin⟩) hs
theorem aq2:iX X (A1 X.K):=by
 intro value slice ag s σ H x y v u Q I rx ry h hs
 obtain⟨p,xs,i,z,rfl,rfl,hq,he,q⟩:=h
 cases rx
 obtain⟨t,rfl⟩:=ry
 obtain⟨its,r,pl,hz⟩:=I.tuple hq
 obtain⟨j,h1,h2,h3,h4,h5⟩:=uG he
 obtain⟨w,ew,rw'⟩:=r.get h2
 have hl:=r.length;have hn:=nW;have fin:EP X ag σ Q w s:=⟨z,H,I,rw',q⟩;exact subscriptTail_builtinR (x:=w) pl.typeIs slot_tuple_getitem.lookup
  (getItem_tuple (j:=j) (Q:=λr s'=>r=w/\EP X ag σ Q r s') pl (by omega) (by omega) (by rw[bf8,<- hl];exact h1) (by simpa using ew) ⟨rfl,fin⟩) hs
theorem aq3:iX X A2:=by
 intro value slice ag s σ H x y v u Q I rx ry h hs
 obtain⟨z,i,c,rfl,rfl,hz,he,q⟩:=h
 obtain⟨t,rfl⟩:=rx
 obtain⟨t',rfl⟩:=ry
 obtain⟨j,h1,h2,h3,h4,h5⟩:=uG he
 have hl:z.cps.toList.length=z.length:=by simp[Str.length]
 rw[hl]at h1 h4 h5;have hn:=nW
 exact tail_any (typeIs_str s z t) slot_str_getitem.lookup (getItem_str (c:=c) (by
  have e1:decide (i < -(2^63:Int))=false:=bf7 (by omega);have e2:decide (i >= 2^63)=false:=bf7 (by omega)
  rw[e1,e2,Bool.or_false]) (by rw[h1];simpa using h2) ⟨.str ⟨#[c]⟩,H,I.tok _,⟨_,rfl⟩,q⟩) hs
def A3 (K:ac):R2:=λx y H Q=>A0 K x y H Q∨A1 K x y H Q∨A2 x y H Q
theorem aq4:iX X (A3 X.K):=aq1.or (aq2.or aq3)
theorem aq5 (lo hi:Option Int)(n:Nat):(sliceBounds lo hi none n).1=((HT.aV n 0 lo:Nat):Int)/\(sliceBounds lo hi none n).2.1=((HT.aV n n hi:Nat):Int)/\(sliceBounds lo hi none n).2.2=1:=by
 refine⟨?_,?_,rfl⟩
 ·cases lo with
  |none=>simp[sliceBounds,HT.aV]
  |some i=>
   simp only[sliceBounds,HT.aV,Option.getD_none,show (1:Int)>0 by decide,if_true];by_cases h:i<0
   ·simp only[h,if_true]<;>omega
   ·simp only[h,bl6]<;>omega
 ·cases hi with
  |none=>simp[sliceBounds,HT.aV]
  |some i=>
   simp only[sliceBounds,HT.aV,Option.getD_none,show (1:Int)>0 by decide,if_true];by_cases h:i<0
   ·simp only[h,if_true]<;>omega
   ·simp only[h,bl6]<;>omega
theorem aq6 (its:List av)(lo hi:Option Int):slicePick its.toArray lo hi none=((its.drop (HT.aV its.length 0 lo)).take (HT.aV its.length its.length hi-HT.aV its.length 0 lo)).toArray:=by
 obtain⟨h1,h2,h3⟩:=aq5 lo hi its.toArray.size
 unfold slicePick;rw[h1,h2,h3];simp only[sliceRange_one,pick_run,bf8]<;>rfl
def aq7 (K:ac):V->Option Int->Option Int->Hp->VK->Prop:=λx lo hi H Q=>∃a xs,x = .ref a/\aT K H a xs/\∀p,H p=none->Q (.ref p) (upd H p (.lst (hV xs lo hi)))
theorem aq8:jN X (aq7 X.K):=by
 intro ag s σ H x v vl vu lo hi sl Q I rx hs pl pu h
 obtain⟨a,xs,rfl,hx,q⟩:=h
 cases rx
 obtain⟨its,r,ht,hz⟩:=I.list hx
 have aj:=r.length;refine⟨"list",_,slot_list_getitem.lookup,ht.isList.typeIs,?_⟩;refine wpAny_getItem_list_slice ht.isList hs pl pu .none (by simp) ?_ (by rw[bf8]<;>omega);rw[aq6,<- aj];refine⟨.ref s.heap.objs.size,_,I.laid (t':=s.toks) (o:=.lst (hV xs lo hi)) (λb ob q=>bf3 _ q) (bg0 _) ?_,rfl,q _ (I.hok.fresh (bg0 _))⟩
 exact⟨bl2 (zX xs lo hi) hz,_,0,(r.drop (HT.aV xs.length 0 lo)).take (HT.aV xs.length xs.length hi-HT.aV xs.length 0 lo),bg8 _ rfl⟩
theorem aq9:cU X (.builtin "len") (λxs H Q=>∃p ys,xs = [.ref p]/\(aT X.K H p ys∨aM X.K H p ys)/\Q (.int ys.length) H):=by
 intro ag s σ H xs us Q I r h
 obtain⟨p,ys,rfl,hq,q⟩:=h
 obtain⟨u,rfl,rx⟩:=iC r
 cases rx;have hn:=nW;rcases hq with hq|hq
 ·obtain⟨its,r',pl,hz⟩:=I.list hq
  have aj:=r'.length;exact Calls.call_len_list pl.isList (by simp only[bf8]<;>omega) ⟨.int ys.length,H,I.tok _,⟨s.toks+1,by rw[bf8,aj]⟩,q⟩
 ·obtain⟨its,r',pl,hz⟩:=I.tuple hq
  have aj:=r'.length;exact len_tuple pl (by simp only[bf8]<;>omega) ⟨.int ys.length,H,I.tok _,⟨s.toks+1,by rw[bf8,aj]⟩,q⟩
theorem cU.or {f:av}{r r':List V->Hp->VK->Prop}(h:cU X f r)(h':cU X f r'):cU X f (λxs H Q=>r xs H Q∨r' xs H Q):=by
 intro ag s σ H xs us Q I rs q;rcases q with q|q
 ·exact h ag s σ H xs us Q I rs q
 ·exact h' ag s σ H xs us Q I rs q
theorem ar0:cU X (.type "list") (λxs H Q=>∃p ys,xs = [.ref p]/\(aT X.K H p ys∨aM X.K H p ys)/\∀l,H l=none->Q (.ref l) (upd H l (.lst ys))):=by
 intro ag s σ H xs us Q I r h
 obtain⟨p,ys,rfl,hq,q⟩:=h
 obtain⟨u,rfl,rx⟩:=iC r
 cases rx;have fin:∀(its:List av),aI ys its->ys.length<=sizeLine->∀(h':Heap) (c':Nat),(∀b o',s.heap.get? b=some o'->h'.get? b=some o')->
   h'.get? s.heap.objs.size=some { cls:=.type "list",dict:=none,data:=.seq its.toArray c',slots:=#[] }->EP X ag σ Q (.ref s.heap.objs.size) { s with heap:=h' }:=λits r' hz h' c' kp e=>
  ⟨.ref s.heap.objs.size,_,I.laid (t':=s.toks) kp (bg0 _) (show bM X.prog X.w _ h' _ (.lst ys) from ⟨hz,its,c',r',e⟩),rfl,q _ (I.hok.fresh (bg0 _))⟩
 rcases hq with hq|hq
 ·obtain⟨its,r',pl,hz⟩:=I.list hq
  have aj:=r'.length
  obtain⟨o,ho,hc,n,hd⟩:=pl.isList
  exact call_list_seq p (.inl rfl) ho hc hd (λh' c' kp e=>fin its r' hz h' c' kp e) (by simp only[bf8]<;>omega)
 ·obtain⟨its,r',pl,hz⟩:=I.tuple hq
  have aj:=r'.length
  obtain⟨o,ho,hc,n,hd⟩:=pl
  exact call_list_seq p (.inr rfl) ho hc hd (λh' c' kp e=>fin its r' hz h' c' kp e) (by simp only[bf8]<;>omega)
theorem ar1:cU X (.type "tuple") (λxs H Q=>∃p ys,xs = [.ref p]/\((aT X.K H p ys/\∀l,H l=none->Q (.ref l) (upd H l (.tup ys)))∨(aM X.K H p ys/\Q (.ref p) H))):=by
 intro ag s σ H xs us Q I r h
 obtain⟨p,ys,rfl,h⟩:=h
 obtain⟨u,rfl,rx⟩:=iC r
 cases rx;rcases h with⟨hq,q⟩|⟨hq,q⟩
 ·obtain⟨its,r',pl,hz⟩:=I.list hq
  have aj:=r'.length;refine call_tuple_list pl.isList (λh' kp=>?_) (by simp only[bf8]<;>omega);have I1:a6 X ag σ H { s with heap:=h' }:=I.kept (t':=s.toks) kp;have I2:a6 X ag σ (upd H h'.objs.size (.tup ys)) { s with heap:=h'.push { cls:=.type "tuple",data:=.seq its.toArray } }:=
   I1.laid (t':=s.toks) (λb o e=>bf3 _ e) (bg0 _) (show bM X.prog X.w _ _ _ (.tup ys) from ⟨hz,its,r',IsTup.new _ _,iR.new _ _ rfl⟩)
  exact⟨.ref h'.objs.size,_,I2,rfl,q _ (I1.hok.fresh (bg0 _))⟩
 ·obtain⟨its,r',pl,hz⟩:=I.tuple hq
  exact call_tuple_same pl ⟨.ref p,H,I,rfl,q⟩
def gQ (K:ac)(T:String)(x:V)(H:Hp):Prop:=match x with
 |.str _=>T="str"
 |.int _=>T="int"
 |.ref p=>(T="list"/\∃xs,aT K H p xs)∨(T="tuple"/\∃o,K.lookup p=some o/\o.cls = .type "tuple"/\o.dict=none) ∨
   (T="dict"/\((∃kvs,H p=some (.dK kvs))∨∃kvs,H p=some (.dT kvs)))∨(T="set"/\∃S n,H p=some (.set S n))
 |_=>False
theorem A4 {ag:List (ay×Obj)}{σ:St}{H:Hp}{s:ax}{T:String}{x:V}{v:av}(I:a6 X ag σ H s)(r:aP x v)(ty:gQ X.K T x H) :
  s.TypeIs v T/\∀a,v = .ref a->∃ob,s.heap.get? a=some ob/\ob.dict=none:=by
 cases x with
 |str z=>
  obtain⟨t,rfl⟩:=r
  cases (show T="str" from ty)
  exact⟨typeIs_str s z t,λ_ e=>nomatch e⟩
 |int i=>
  obtain⟨t,rfl⟩:=r
  cases (show T="int" from ty)
  exact⟨typeIs_int s i t,λ_ e=>nomatch e⟩
 |ref p=>
  cases r;rcases ty with⟨rfl,xs,hq⟩|⟨rfl,o,hk,hc,hd⟩|⟨rfl,hk⟩|⟨rfl,S,n,hk⟩
  ·obtain⟨its,_,pl,_⟩:=I.list hq
   refine⟨pl.isList.typeIs,λa e=>?_⟩;cases e
   obtain⟨o,n,e,c,hd,_⟩:=pl
   exact⟨o,e,hd⟩
  ·refine⟨⟨o,I.kIn p o hk,hc⟩,λa e=>?_⟩
   cases e
   exact⟨o,I.kIn _ o hk,hd⟩
  ·have z:∃o,s.heap.get? p=some o/\o.ExactDict:=by
    rcases hk with⟨kvs,hk⟩|⟨kvs,hk⟩
    ·obtain⟨_,_,_,_,o,_,_,e,ex,_⟩:=I.hok p _ hk
     exact⟨o,e,ex⟩
    ·obtain⟨_,_,_,_,o,_,_,e,ex,_⟩:=I.hok p _ hk
     exact⟨o,e,ex⟩
   obtain⟨o,e,ex⟩:=z
   refine⟨⟨o,e,ex.1⟩,λa e2=>?_⟩;cases e2
   exact⟨o,e,ex.2.1⟩
  ·obtain⟨o,_,_,_,e,ex,_⟩:=I.hok p _ hk
   refine⟨⟨o,e,ex.1⟩,λa e2=>?_⟩;cases e2
   exact⟨o,e,ex.2.1⟩
 |_=>exact False.elim ty
def A5 (K:ac)(T:String)(r:V->List V->Hp->VK->Prop)(to:TE):TE:=λσ H Q=>to σ H λx H1=>gQ K T x H1/\r x [] H1 Q
def A6 (K:ac)(T:String)(r:V->List V->Hp->VK->Prop)(to:TE)(t:TA):TE:=λσ H Q=>to σ H λx H1=>gQ K T x H1/\t σ H1 λxs H2=>r x xs H2 Q
variable {o e:Expr}{es:List Expr}{to:TE}{t:TA}{name:Str}{ah ai:Pos}{T id:String}{r:V→List V→Hp→VK→Prop}
theorem ar2 (pa:PlainAttrs T)(slot:Slot T name id)(hty:typeOf (.builtin id)=pure (.type "method_descriptor"))(hm:zZ X id r)(ho:PE X o to)(hbase:attributeBase o name X.env (eval o X.env)=eval o X.env:=by rfl)(hline:(ah.endLine==ai.line)=true:=by rfl):PE X (.Call (.Attribute o name ah) [] [] ai) (A5 X.K T r to):=by
 intro ag s σ H Q I h;refine wpAny_Call_method0_late hbase hline (aJ (ho ag s σ H _ I h) λv s1 ⟨x,H1,I1,r1,ty,q1⟩=>?_)
 obtain⟨h1,h2⟩:=A4 I1 r1 ty
 exact⟨T,id,pa,slot,hty,h1,h2,Calls.callWith_builtin rfl (PySem.evalArgs_none (hm ag s1 σ H1 x [] v [] Q I1 r1 .nil q1))⟩
theorem ar3 (pa:PlainAttrs T)(slot:Slot T name id)(hty:typeOf (.builtin id)=pure (.type "method_descriptor"))(hm:zZ X id r)(ho:PE X o to)(ha:PA X (e::es) t)(hbase:attributeBase o name X.env (eval o X.env)=eval o X.env:=by rfl)(hfew:((backTo ai (starEach (e::es) X.env)).all (λx=>!x.1)&&(backToKw ai (keywordEach [] X.env)).all (λx=>x.1.isSome)
  &&decide ((e::es).length+([]:List Keyword).length+(if ([]:List Keyword).isEmpty then 0 else 1)<30))=true:=by rfl)(hline:(ah.endLine==ai.line)=true:=by rfl)(hs:starEach (e::es) X.env=(false,eval e X.env)::starEach es X.env:=by rfl)(aq:(backTo ai (starEach es X.env)).any (·.1)=false:=by rfl) :
  PE X (.Call (.Attribute o name ah) (e::es) [] ai) (A6 X.K T r to t):=by
 intro ag s σ H Q I h;refine wpAny_Call_method_late hbase hfew hline rfl (aJ (ho ag s σ H _ I h) λv s1 ⟨x,H1,I1,r1,ty,q1⟩=>?_)
 obtain⟨h1,h2⟩:=A4 I1 r1 ty
 refine⟨T,id,pa,slot,hty,h1,h2,?_⟩;have hA:=ha ai ag s1 σ H1 _ I1 q1;rw[hs]at hA ⊢;refine Calls.callWith_builtin (by show (false||(backTo ai (starEach es X.env)).any (·.1))=false;rw[aq]<;>rfl) (Calls.evalArgs_plain ?_);exact aJ hA λus s2 ⟨vs,H2,I2,r2,q2⟩=>hm ag s2 σ H2 x vs v us Q I2 r1 r2 q2
end
def uI (X:Cx)(id:String)(r:V->List V->Hp->VK->Prop):Prop:=
 ∀(ag:List (ay×Obj)) (s:ax) (σ:St) (H:Hp) (x:V) (xs:List V) (v:av) (us:List av) (Q:VK),a6 X ag σ H s->aP x v->aI xs us->r x xs H Q->
  wpAny (model X.prog X.w) X.A (call (.builtin id) (v::us)) (EP X ag σ Q) X.xe s
theorem aI.one {x:V}{us:List av}(h:aI [x] us):∃u,us = [u]/\aP x u:=by
 cases h with
 |cons r t=>
  cases t
  exact⟨_,rfl,r⟩
theorem aI.two {x y:V}{us:List av}(h:aI [x,y] us):∃u v,us = [u,v]/\aP x u/\aP y v:=by
 cases h with
 |cons r t=>
  cases t with
  |cons q t=>
   cases t
   exact⟨_,_,rfl,r,q⟩
theorem aI.zero:∀{us:List av},aI [] us->us = []
 |_,.nil=>rfl
theorem aI.dropLast {xs:List V}{us:List av}(h:aI xs us):aI xs.dropLast us.dropLast:=by
 induction h with
 |nil=>exact .nil
 |cons r t ih=>
  cases t with
  |nil=>exact .nil
  |cons q t'=>exact .cons r ih
theorem ar4 {α:Type}(l:List α):l.eraseIdx (l.length-1)=l.dropLast:=by
 induction l with
 |nil=>rfl
 |cons a r ih=>
  cases r with
  |nil=>rfl
  |cons b r=>
   have e:(a::b::r).length-1=((b::r).length-1)+1:=by
    have h1:(a::b::r).length=r.length+2:=rfl;have h2:(b::r).length=r.length+1:=rfl;omega
   rw[e,List.eraseIdx_cons_succ,ih]
   all_goals rfl
section
variable {X:Cx}{ag:List (ay×Obj)}{σ:St}{H:Hp}{s:ax}{l b:ay}{xs ys zs:List V}
theorem a6.lset {its its':List av}{n:Nat}{f:Array av->Array av}{t':Nat}(I:a6 X ag σ H s)(hH:H l=some (.lst xs))(e:s.heap.get? l=some { cls:=.type "list",data:=.seq its.toArray n })(hf:f its.toArray=its'.toArray)(hv:aI ys its')(hz:ys.length<=sizeLine) :
  a6 X ag σ (upd H l (.lst ys)) { s with heap:=s.heap.update l (Obj.mapSeq f),toks:=t' }:=by
 have q:=PySem.IsL.update e f;rw[hf]at q;refine I.write (x:=l) (e:=l) (by rw[hH];exact trivial) (.inl rfl) (λb' u hb hu=>(bv0 s.heap (Obj.mapSeq f) (Ne.symm hb)).trans hu) ⟨_,q⟩ ?_
 exact⟨hz,its',_,hv,q⟩
theorem a6.lnew {its:List av}{t':Nat}(I:a6 X ag σ H s)(hv:aI ys its)(hz:ys.length<=sizeLine) :
  a6 X ag σ (upd H s.heap.objs.size (.lst ys)) { s with heap:=s.heap.push { cls:=.type "list",data:=.seq its.toArray },toks:=t' }:=
 I.laid (λ_ _ q=>bf3 _ q) (bg0 _) ⟨hz,its,0,hv,bg8 _ rfl⟩
theorem a6.fresh (I:a6 X ag σ H s):H s.heap.objs.size=none:=I.hok.fresh (bg0 _)
theorem a6.lstM (I:a6 X ag σ H s)(hH:H l=some (.lst xs)):xs.length<=sizeLine/\∃(its:List av) (n:Nat),aI xs its/\xs.length=its.length/\s.heap.get? l=some { cls:=.type "list",data:=.seq its.toArray n }:=by
 obtain⟨z,its,n,r,e⟩:=I.hok l _ hH
 exact⟨z,its,n,r,r.length,e⟩
theorem ar5 {n:Nat}(h:n<=sizeLine):Builtin.List.listTooLong n=false:=by
 unfold Builtin.List.listTooLong;exact bf7 (by omega)
end
section
variable {X:Cx}
def A7:V->List V->Hp->VK->Prop:=λx vs H Q=>∃l xs y,x = .ref l/\vs = [y]/\H l=some (.lst xs)/\xs.length<sizeLine/\Q .non (upd H l (.lst (xs++[y])))
theorem A8:uI X "list.append" A7:=by
 intro ag s σ H x vs v us Q I rx rv h
 obtain⟨l,xs,y,rfl,rfl,hH,hz,q⟩:=h
 cases rx
 obtain⟨u,rfl,ru⟩:=rv.one
 obtain⟨z,its,n,r,hl,e⟩:=I.lstM hH
 refine call_meets F.slot_list_append ⟨_,e,rfl⟩ F.entry_list_append (F.args_list_append_2 _ _) (PySem.list_append l its.toArray n u (by rw[bf8];omega)) ⟨e,?_⟩;refine⟨.non,_,I.lset (its':=its++[u]) hH e (by simp) (r.append (.cons ru .nil)) ?_,rfl,q⟩;rw[bh1,bl0];omega
def ar6:V->List V->Hp->VK->Prop:=λx vs H Q=>∃l b xs zs,x = .ref l/\vs = [.ref b]/\H l=some (.lst xs)/\H b=some (.lst zs)/\xs.length+zs.length<=sizeLine/\Q .non (upd H l (.lst (xs++zs)))
theorem be4:uI X "list.extend" ar6:=by
 intro ag s σ H x vs v us Q I rx rv h
 obtain⟨l,b,xs,zs,rfl,rfl,hH,hB,hz,q⟩:=h
 cases rx
 obtain⟨u,rfl,ru⟩:=rv.one
 cases ru
 obtain⟨z,its,n,r,hl,e⟩:=I.lstM hH
 obtain⟨z2,ao,n2,r2,hl2,e2⟩:=I.lstM hB
 have hsz:its.toArray.size+ao.toArray.size<=sizeLine:=by rw[bf8,bf8];omega
 have hlong:¬(!its.toArray.isEmpty&&Builtin.List.listTooLong (its.toArray.size+ao.toArray.size))=true:=by
  rw[ar5 hsz,bo2];exact bi1
 refine call_meets F.slot_list_extend ⟨_,e,rfl⟩ F.entry_list_extend (F.args_list_extend_2 _ _)
  (AutoSeq1.list_extend_list_list_0 l its.toArray n b ao.toArray n2 hlong (by rw[bf8];omega) (by omega)) ⟨e,e2,?_⟩
 refine⟨.non,_,I.lset (its':=its++ao) hH e (by simp) (r.append r2) ?_,rfl,q⟩;rw[bh1];omega
def A9:V->List V->Hp->VK->Prop:=λx vs H Q=>∃l xs y,x = .ref l/\vs = []/\H l=some (.lst xs)/\xs[xs.length-1]? = some y/\Q y (upd H l (.lst xs.dropLast))
theorem ar7:uI X "list.pop" A9:=by
 intro ag s σ H x vs v us Q I rx rv h
 obtain⟨l,xs,y,rfl,rfl,hH,hy,q⟩:=h
 cases rx;have hus:=rv.zero;subst hus
 obtain⟨z,its,n,r,hl,e⟩:=I.lstM hH
 obtain⟨u,hu,ru⟩:=r.get hy
 have hy':its.toArray[its.toArray.size-1]? = some u:=by
  show its.toArray[its.length-1]? = some u;rw[<- bi4,<- hl];exact hu
 refine call_meets F.slot_list_pop ⟨_,e,rfl⟩ F.entry_list_pop (F.args_list_pop_1 _) (MeetsSeq.list_pop_last l its.toArray n u hy' (by rw[bf8];omega)) ⟨e,?_⟩;refine⟨y,_,I.lset (its':=its.dropLast) hH e ?_ r.dropLast ?_,ru,q⟩
 ·show its.toArray.eraseIdxIfInBounds (its.toArray.size-1)=its.dropLast.toArray
  rw[bf8,List.eraseIdxIfInBounds_toArray,ar4]
 ·rw[List.length_dropLast]
  omega
def B0:R2:=λx y H Q=>∃l b xs zs,x = .ref l/\y = .ref b/\H l=some (.lst xs)/\H b=some (.lst zs)/\xs.length+zs.length<=sizeLine/\∀p,H p=none->Q (.ref p) (upd H p (.lst (xs++zs)))
theorem ar8:c9 X (binaryOp .Add) B0:=by
 intro ag s σ H x y v u Q I rx ry h
 obtain⟨l,b,xs,zs,rfl,rfl,hH,hB,hz,q⟩:=h
 cases rx;cases ry
 obtain⟨z,its,n,r,hl,e⟩:=I.lstM hH
 obtain⟨z2,ao,n2,r2,hl2,e2⟩:=I.lstM hB
 refine PySem.P.add_list e e2 ?_ (by rw[bf8,bf8];omega);have ea:its.toArray++ao.toArray=(its++ao).toArray:=by simp
 rw[ea]
 exact⟨.ref _,_,I.lnew (t':=s.toks) (r.append r2) (by rw[bh1];omega),rfl,q _ I.fresh⟩
end
section
variable {κ:Type}[DecidableEq κ]
def eZ (kvs:List (κ×V))(k:κ):Option V:=(kvs.find? λkv=>decide (kv.1=k)).map (·.2)
def fO (kvs:List (κ×V))(k:κ)(v:V):List (κ×V):=
 if (kvs.any λkv=>decide (kv.1=k))=true then kvs.map (λkv=>if kv.1=k then (kv.1,v) else kv) else kvs++[(k,v)]
theorem uJ {p:κ×V}{r:List (κ×V)}{k:κ}(e:p.1=k):eZ (p::r) k=some p.2:=by simp[eZ,br3,e]
theorem uK {p:κ×V}{r:List (κ×V)}{k:κ}(e:¬p.1=k):eZ (p::r) k=eZ r k:=by simp[eZ,br3,e]
theorem B1 (k:κ):∀kvs:List (κ×V),(kvs.any λkv=>decide (kv.1=k))=(eZ kvs k).isSome
 |[]=>rfl
 |p::r=>by
  rw[List.any_cons];by_cases e:p.1=k
  ·simp only[uJ e,bg4 e,Bool.true_or,Option.isSome_some]
  ·rw[uK e,bf7 e,Bool.false_or];exact B1 k r
theorem B2 (kvs:List (κ×V))(k:κ)(v:V):(fO kvs k v).length<=kvs.length+1:=by
 unfold fO;split
 ·rw[bf6];omega
 ·rw[bh1,bj5,List.length_nil];omega
theorem fZ.isSome_eq {o:Option V}{u:Option av}(r:fZ o u):o.isSome=u.isSome:=by
 cases o with
 |none=>cases u with
  |none=>rfl
  |some _=>exact (show False from r).elim
 |some _=>cases u with
  |none=>exact (show False from r).elim
  |some _=>rfl
theorem fZ.getD {o:Option V}{u:Option av}{d:V}{d':av}(r:fZ o u)(rd:aP d d'):aP (o.getD d) (u.getD d'):=by
 cases o with
 |none=>cases u with
  |none=>exact rd
  |some _=>exact (show False from r).elim
 |some _=>cases u with
  |none=>exact (show False from r).elim
  |some _=>exact r
theorem KV.val {kvs:List (κ×V)}{vs:List (κ×av)}(r:KV kvs vs)(k:κ):fZ (eZ kvs k) (valueAt vs k):=by
 unfold KV at r
 induction r with
 |nil=>exact True.intro
 |@cons p q ps qs h t ih=>
  obtain⟨h1,h2⟩:=h
  by_cases e:p.1=k
  ·have e':q.1=k:=h1.symm.trans e
   have b:valueAt (q::qs) k=some q.2:=by simp[valueAt,br3,e']
   rw[uJ e,b];exact h2
  ·have e':¬q.1=k:=λz=>e (h1.trans z)
   have b:valueAt (q::qs) k=valueAt qs k:=by simp[valueAt,br3,e']
   rw[uK e,b];exact ih
theorem KV.any {kvs:List (κ×V)}{vs:List (κ×av)}(r:KV kvs vs)(k:κ):(kvs.any λkv=>decide (kv.1=k))=vs.any λkv=>decide (kv.1=k):=by
 unfold KV at r
 induction r with
 |nil=>rfl
 |cons h t ih=>rw[List.any_cons,List.any_cons,ih,h.1]
theorem KV.repl {kvs:List (κ×V)}{vs:List (κ×av)}(r:KV kvs vs)(k:κ){y:V}{u:av}(ry:aP y u) :
  KV (kvs.map λkv=>if kv.1=k then (kv.1,y) else kv) (vs.map λkv=>if kv.1=k then (kv.1,u) else kv):=by
 unfold KV at r ⊢
 induction r with
 |nil=>exact .nil
 |@cons p q ps qs h t ih=>
  rw[bi8,bi8];refine .cons ?_ ih
  obtain⟨h1,h2⟩:=h
  by_cases e:p.1=k
  ·rw[if_pos e,if_pos (h1.symm.trans e)];exact⟨h1,ry⟩
  ·rw[if_neg e,if_neg (λz=>e (h1.trans z))];exact⟨h1,h2⟩
theorem KV.put {kvs:List (κ×V)}{vs:List (κ×av)}(r:KV kvs vs)(k:κ){y:V}{u:av}(ry:aP y u):KV (fO kvs k y) (stored vs k u):=by
 unfold fO stored;rw[r.any k];by_cases e:(vs.any λkv=>decide (kv.1=k))=true
 ·rw[if_pos e,if_pos e];exact r.repl k ry
 ·rw[if_neg e,if_neg e];exact Paired.snoc r ⟨rfl,ry⟩
theorem KV.length {kvs:List (κ×V)}{vs:List (κ×av)}(r:KV kvs vs):kvs.length=vs.length:=Paired.length r
end
theorem nY {P:az}{w:bc}{k:aH}{u:av}(r:aP (kV k) u):(eG P w).is k u=true:=by
 cases k with
 |inl i=>obtain⟨t,e⟩:=(show ∃t,u=Value.int i t from r);subst e;exact ah5 P w i t
 |inr x=>obtain⟨t,e⟩:=(show ∃t,u=Value.str x t from r);subst e;exact ah6 P w x t
theorem B3 {P:az}{w:bc}:∀{ks:List aH}{us:List av},aI (ks.map kV) us->ItemsAre (eG P w) ks us
 |[],_,r=>by rw[List.map_nil]at r;cases r;exact .nil
 |k::ks,_,r=>by
  rw[bi8]at r;cases r with
  |cons h t=>exact .cons (nY h) (B3 t)
abbrev KT (H:Hp):List (List aH×V)->List (List aH×ay×av)->Prop:=Paired λp q=>p.1=q.1/\H q.2.1=some (.tup (p.1.map kV))/\aP p.2 q.2.2
theorem KT.val {H:Hp}{kvs:List (List aH×V)}{xs:List (List aH×ay×av)}(r:KT H kvs xs)(k:List aH):fZ (eZ kvs k) ((atKey xs k).map (·.2)):=by
 induction r with
 |nil=>exact True.intro
 |@cons p q ps qs h t ih=>
  obtain⟨h1,_,h2⟩:=h
  by_cases e:p.1=k
  ·have e':q.1=k:=h1.symm.trans e
   have b:atKey (q::qs) k=some q.2:=by simp[atKey,br3,e']
   rw[uJ e,b];exact h2
  ·have e':¬q.1=k:=λz=>e (h1.trans z)
   have b:atKey (q::qs) k=atKey qs k:=by simp[atKey,br3,e']
   rw[uK e,b];exact ih
theorem KT.repl {H:Hp}{kvs:List (List aH×V)}{xs:List (List aH×ay×av)}(r:KT H kvs xs)(k:List aH){y:V}{u:av}(ry:aP y u) :
  KT H (kvs.map λkv=>if kv.1=k then (kv.1,y) else kv) (xs.map (putAt k u)):=by
 induction r with
 |nil=>exact .nil
 |@cons p q ps qs h t ih=>
  rw[bi8,bi8];refine .cons ?_ ih
  obtain⟨h1,h2,h3⟩:=h
  unfold putAt;by_cases e:p.1=k
  ·rw[if_pos e,if_pos (h1.symm.trans e)];exact⟨h1,h2,ry⟩
  ·rw[if_neg e,if_neg (λz=>e (h1.trans z))];exact⟨h1,h2,h3⟩
theorem KT.put {H:Hp}{kvs:List (List aH×V)}{xs:List (List aH×ay×av)}(r:KT H kvs xs)(k:List aH){b:ay}{y:V}{u:av}(hb:H b=some (.tup (k.map kV)))(ry:aP y u) :
  KT H (fO kvs k y) (storedH xs k b u):=by
 have e:(kvs.any λkv=>decide (kv.1=k))=(atKey xs k).isSome:=by
  rw[B1,(r.val k).isSome_eq,Option.isSome_map]
 unfold fO storedH;rw[e];by_cases q:(atKey xs k).isSome=true
 ·rw[if_pos q,if_pos q];exact r.repl k ry
 ·rw[if_neg q,if_neg q];exact Paired.snoc r ⟨rfl,hb,ry⟩
theorem KT.keeps {H H':Hp}{kvs:List (List aH×V)}{xs:List (List aH×ay×av)}(r:KT H kvs xs)(ht:∀b ys,H b=some (.tup ys)->H' b=some (.tup ys)):KT H' kvs xs:=
 Paired.mapP r λ_ _ z=>⟨z.1,ht _ _ z.2.1,z.2.2⟩
section
variable {P:az}{w:bc}{H:Hp}{h:Heap}{a:ay}
theorem B4 {u:HO}(ok:bO P w H h)(e:Rd H a u):bM P w H h a u:=e.ok ok
theorem kI {kvs:List (aH×V)}(ok:bO P w H h)(e:Rd H a (.dK kvs)):kvs.length<=sizeLine/\(a==sysModules)=false/\∃vs,KV kvs vs/\h.DictOf (eG P w) a vs:=
 show bM P w H h a (.dK kvs) from B4 ok e
theorem ar9 {kvs:List (aH×V)}(ok:bO P w H h)(e:H a=some (.dK kvs)):kvs.length<=sizeLine/\(a==sysModules)=false/\∃vs,KV kvs vs/\h.DictOf (eG P w) a vs:=kI ok (.inl e)
theorem nZ {ks:List aH}(ok:bO P w H h)(e:H a=some (.tup (ks.map kV))):(tupleKind (eG P w)).is h ks a:=by
 obtain⟨_,its,r,⟨o,h1,h2,n,h3⟩,_⟩:=(show bM P w H h a (.tup (ks.map kV)) from ok a _ e)
 exact⟨o,its.toArray,n,h1,h2,h3,by simpa using B3 r⟩
theorem m6 {kvs:List (List aH×V)}(ok:bO P w H h)(e:Rd H a (.dT kvs)):kvs.length<=sizeLine/\(a==sysModules)=false/\
  ∃xs,KT H kvs xs/\h.DictOfH (tupleKind (eG P w)) a xs:=by
 obtain⟨z,y,xs,r,o,es,ep,h1,h2,h3,h4,h5⟩:=(show bM P w H h a (.dT kvs) from B4 ok e)
 refine⟨z,y,xs,r,o,es,ep,h1,h2,h3,h4,λx hx=>?_,h5⟩;have all:∀{l:List (List aH×V)}{m:List (List aH×ay×av)},KT H l m->∀x∈m,(tupleKind (eG P w)).is h x.1 x.2.1:=by
  intro l m q
  induction q with
  |nil=>intro x hx;exact nomatch hx
  |@cons p q ps qs hq t ih=>
   intro x hx;rcases bg6.mp hx with e|hx
   ·subst e
    exact nZ ok (by rw[<- hq.1];exact hq.2.1)
   ·exact ih x hx
 exact all r x hx
theorem as0 {kvs:List (List aH×V)}(ok:bO P w H h)(e:H a=some (.dT kvs)):kvs.length<=sizeLine/\(a==sysModules)=false/\
  ∃xs,KT H kvs xs/\h.DictOfH (tupleKind (eG P w)) a xs:=m6 ok (.inl e)
end
def fP (H:Hp)(a:ay)(y:V)(r:Option V):Prop:=
 (∃kvs k,Rd H a (.dK kvs)/\y=kV k/\r=eZ kvs k)∨∃kvs k b,Rd H a (.dT kvs)/\y = .ref b/\H b=some (.tup (k.map kV))/\r=eZ kvs k
def o7 (H:Hp)(a:ay)(y v:V)(H':Hp):Prop:=
 (∃kvs k,H a=some (.dK kvs)/\y=kV k/\kvs.length<sizeLine/\H'=upd H a (.dK (fO kvs k v))) ∨
 ∃kvs k b,H a=some (.dT kvs)/\y = .ref b/\H b=some (.tup (k.map kV))/\kvs.length<sizeLine/\H'=upd H a (.dT (fO kvs k v))
theorem fP.k {H:Hp}{a:ay}{kvs:List (aH×V)}{k:aH}(e:H a=some (.dK kvs)):fP H a (kV k) (eZ kvs k):=.inl ⟨kvs,k,.inl e,rfl,rfl⟩
theorem fP.t {H:Hp}{a b:ay}{kvs:List (List aH×V)}{k:List aH}(e:H a=some (.dT kvs))(eb:H b=some (.tup (k.map kV))):fP H a (.ref b) (eZ kvs k):=.inr ⟨kvs,k,b,.inl e,rfl,eb,rfl⟩
theorem o7.t {H:Hp}{a b:ay}{kvs:List (List aH×V)}{k:List aH}{v:V}(e:H a=some (.dT kvs))(eb:H b=some (.tup (k.map kV)))(hl:kvs.length<sizeLine) :
  o7 H a (.ref b) v (upd H a (.dT (fO kvs k v))):=.inr ⟨kvs,k,b,e,rfl,eb,hl,rfl⟩
section
variable {X:Cx}{ag:List (ay×Obj)}{σ:St}{H:Hp}{s:ax}{a:ay}{y v:V}{u r:av}{o:Option V}{A:ba}{E:av→ax→Prop}
theorem a6.big (I:a6 X ag σ H s):sysModules<s.heap.objs.size:=by
 have h:mainGlobals<s.heap.objs.size:=(I.mod.glob.keeps I.bk).lt;exact Nat.lt_trans (by decide) h
theorem as1 {Q:av->ax->Prop}(hu:A.units+1<cLine)(I:a6 X ag σ H s)(g:fP H a y (some v))(ry:aP y u)(h:∀w' s',a6 X ag σ H s'->aP v w'->Q w' s') :
  wpAny (model X.prog X.w) A (getItem (.ref a) u) Q E s:=by
 rcases g with⟨kvs,k,e,ey,l⟩|⟨kvs,k,b,e,ey,eb,l⟩
 ·subst ey
  obtain⟨z,hd,vs,rel,dd⟩:=kI I.hok e
  obtain⟨w',hw,rw'⟩:=fZ.some_of (v:=v) (o:=valueAt vs k) (by rw[l];exact rel.val k)
  exact wpAny_getItem_of (nY ry) dd.mapOf hw (h w' _ (I.tok _) rw')
 ·subst ey
  cases (show u=Value.ref b from ry)
  obtain⟨z,hd,xs,rel,dd⟩:=m6 I.hok e
  obtain⟨w',hw,rw'⟩:=fZ.some_of (v:=v) (o:=(atKey xs k).map (·.2)) (by rw[l];exact rel.val k)
  obtain⟨p,hp,hp2⟩:=Option.map_eq_some_iff.mp hw
  refine wpAny_getItem_heap (tupleKind_room_in1 hu) (nZ I.hok eb) dd hp ?_;rw[hp2];exact h w' _ (I.tok _) rw'
theorem as2 {Q:av->ax->Prop}(hu:A.units+1<cLine)(I:a6 X ag σ H s)(g:fP H a y o)(ry:aP y u)(h:∀s',a6 X ag σ H s'->Q (.bool (!o.isSome)) s') :
  wpAny (model X.prog X.w) A (compareOp .NotIn u (.ref a)) Q E s:=by
 rcases g with⟨kvs,k,e,ey,l⟩|⟨kvs,k,b,e,ey,eb,l⟩
 ·subst ey
  obtain⟨z,hd,vs,rel,dd⟩:=kI I.hok e
  refine wpAny_notIn_of (nY ry) hd dd.mapOf ?_;rw[<- (rel.val k).isSome_eq,<- l];exact h _ (I.tok _)
 ·subst ey
  cases (show u=Value.ref b from ry)
  obtain⟨z,hd,xs,rel,dd⟩:=m6 I.hok e
  refine wpAny_notIn_heap (tupleKind_room_in1 hu) (nZ I.hok eb) hd dd ?_;have q:=(rel.val k).isSome_eq;rw[Option.isSome_map]at q;rw[<- q,<- l];exact h _ (I.tok _)
theorem B5 {h':Heap}{t':Nat}{ob:HO}(I:a6 X ag σ H s)(mu:nQ (H a))(hs:Heap.SameBut a s.heap h')(he:∃q,h'.get? a=some q)(new:bM X.prog X.w (upd H a ob) h' a ob) :
  a6 X ag σ (upd H a ob) { s with heap:=h',toks:=t' }:=
 I.write (x:=a) (e:=a) mu (.inl rfl) (λb q hb z=>(hs.2 b hb).trans z) he new
theorem as3 {P:az}{w:bc}{H':Hp}{h':Heap}{kvs:List (aH×V)}{vs:List (aH×av)}(z:kvs.length<=sizeLine)(hd:(a==sysModules)=false)(rel:KV kvs vs)(dd:h'.DictOf (eG P w) a vs) :
  bM P w H' h' a (.dK kvs):=⟨z,hd,vs,rel,dd⟩
theorem as4 {H':Hp}{Q:Unit->ax->Prop}(hu:A.units+1<cLine)(I:a6 X ag σ H s)(g:o7 H a y v H')(ry:aP y u)(rv:aP v r)(h:∀s',a6 X ag σ H' s'->Q () s') :
  wpAny (model X.prog X.w) A (setItem (.ref a) u r) Q E s:=by
 rcases g with⟨kvs,k,e,ey,l,eH⟩|⟨kvs,k,b,e,ey,eb,l,eH⟩
 ·subst ey eH
  obtain⟨z,hd,vs,rel,dd⟩:=ar9 I.hok e
  have hz:vs.length<=sizeLine:=by rw[<- rel.length];exact z
  have hl:(fO kvs k v).length<=sizeLine:=by have:=B2 kvs k v;omega
  refine wpAny_setItem_pairs (hsz:=hz) (nY ry) dd λh' dd' hs=>h _ ?_
  have he:∃q,h'.get? a=some q:=let ⟨q,_,_,hq,_⟩:=dd';⟨q,hq⟩
  exact B5 I (by rw[e];exact True.intro) hs he (as3 hl hd (rel.put k rv) dd')
 ·subst ey eH
  cases (show u=Value.ref b from ry)
  obtain⟨z,hd,xs,rel,dd⟩:=as0 I.hok e
  have hz:xs.length<=sizeLine:=by rw[<- Paired.length rel];exact z
  have hl:(fO kvs k v).length<=sizeLine:=by have:=B2 kvs k v;omega
  refine wpAny_setItem_heap (hsz:=hz) (tupleKind_room_in1 hu) (nZ I.hok eb) dd λh' dd' hs=>h _ ?_
  obtain⟨q,es,ep,hq,h2,h3,h4,_,h5⟩:=dd'
  refine B5 I (by rw[e];exact True.intro) hs ⟨q,hq⟩ ⟨hl,hd,_,(rel.put k eb rv).keeps λc ys ec=>?_,q,es,ep,hq,h2,h3,h4,h5⟩;rw[aY (ah7 ec e (λz=>nomatch z))];exact ec
end
section
variable {X:Cx}{ag:List (ay×Obj)}{σ:St}{H:Hp}{s:ax}{a:ay}{kvs:List (aH×V)}{k:aH}{u:av}{A:ba}{E:av→ax→Prop}
theorem as5 {Q:av->ax->Prop}(I:a6 X ag σ H s)(e:Rd H a (.dK kvs))(h:∀t s',a6 X ag σ H s'->Q (.int kvs.length t) s'):wpAny (model X.prog X.w) A (call (.builtin "len") [.ref a]) Q E s:=by
 obtain⟨z,hd,vs,rel,dd⟩:=kI I.hok e
 refine call_len_dict hd dd (by rw[<- rel.length];rw[sizeLine_eq]at z;omega) ?_;rw[<- rel.length];exact h _ _ (I.tok _)
end
def uL (i:Expr):Prop:=∀ov iv,subscripted i false ov iv=operate [ov,iv] (getItem ov iv)
theorem as6 {prog:az}{w:bc}{A:ba}{E:av->ax->Prop}{s:ax}{env:Env}{value slice:Expr}{pos:Pos}{T id:String}{Q:av->ax->Prop}(hl:typeLookup (.type T) "__getitem__" = pure (some (.builtin id)))(hs:uL slice)(h:wpAny (model prog w) A (eval value env) (λo s₁=>wpAny (model prog w) A (eval slice env) (λi s₂=>s₂.TypeIs o T/\wpAny (model prog w) A (getItem o i) Q E s₂) E s₁) E s) :
  wpAny (model prog w) A (eval (.Subscript value slice pos) env) Q E s:=by
 refine Subscript_ (bm8 h (λo s₁ h₁=>bm8 h₁ (λi s₂ h₂=>?_) λ_ _ x=>x) λ_ _ x=>x)
 obtain⟨hT,h₂⟩:=h₂
 unfold subscriptTail;refine bf1 ?_;rw[getitemInPython_of_ne hT.not_modules];refine bf1 (wpAny_specialOf hT hl ?_);have fin:wpAny (model prog w) A (subscripted slice false o i) (λr s₃=>wpAny (model prog w) A (letTemporaryGo value o r >>= λ_=>pure r) Q E s₃) E s₂:=by
  rw[hs o i];exact wpAny_operating (bm8 h₂ (λr s₃ h₃=>bf1 (wpAny_letTemporaryGo (bf5 h₃))) λ_ _ x=>x)
 first
  |exact bf5 (bf1 fin)
  |exact bf1 (bf5 (bf1 fin))
  |exact bf1 fin
theorem as7 {X:Cx}{ag:List (ay×Obj)}{σ:St}{H:Hp}{s:ax}{a:ay}{y:V}{o:Option V}(I:a6 X ag σ H s)(g:fP H a y o):s.TypeIs (.ref a) "dict":=by
 rcases g with⟨kvs,k,e,_,_⟩|⟨kvs,k,b,e,_,_,_⟩
 ·obtain⟨_,_,vs,_,dd⟩:=kI I.hok e
  exact dd.typeIs
 ·obtain⟨_,_,xs,_,dd⟩:=m6 I.hok e
  exact dd.typeIs
def B6 (td ty:TE):TE:=λσ H Q=>td σ H λx H1=>ty σ H1 λy H2=>∃a v,x = .ref a/\fP H2 a y (some v)/\Q v H2
def B7 (ty td:TE):TE:=λσ H Q=>ty σ H λy H1=>td σ H1 λx H2=>∃a o,x = .ref a/\fP H2 a y o/\Q (.bl (!o.isSome)) H2
def B8 (td ty tv:TE):TS:=λD σ H=>tv σ H λv H1=>td σ H1 λx H2=>ty σ H2 λy H3=>∃a H4,x = .ref a/\o7 H3 a y v H4/\D.nx σ H4
section
variable {X:Cx}{o i e value:Expr}{pos pos' tpos:Pos}{td ty tv:TE}
theorem as8 (hu:X.A.units+1<cLine)(ho:PE X o td)(hi:PE X i ty)(hs:uL i):PE X (.Subscript o i pos) (B6 td ty):=by
 intro ag s σ H Q I h;refine as6 PySem.F.slot_dict_getitem.lookup hs (aJ (ho ag s σ H _ I h) λu s1 ⟨x,H1,I1,rx,q1⟩=>aJ (hi ag s1 σ H1 _ I1 q1) λiv s2 ⟨y,H2,I2,ry,a,v,ex,g,q2⟩=>?_);subst ex;obtain rfl:u=Value.ref a:=rx
 exact⟨as7 I2 g,as1 hu I2 g ry λw' s3 I3 rw'=>⟨v,H2,I3,rw',q2⟩⟩
theorem as9 (hu:X.A.units+1<cLine)(hi:PE X i ty)(ho:PE X o td):PC X .NotIn i o (B7 ty td):=by
 intro ag s σ H Q I h;refine aJ (hi ag s σ H _ I h) λiv s1 ⟨y,H1,I1,ry,q1⟩=>aJ (ho ag s1 σ H1 _ I1 q1) λu s2 ⟨x,H2,I2,rx,a,ov,ex,g,q2⟩=>?_
 subst ex;obtain rfl:u=Value.ref a:=rx;exact as2 hu I2 g ry λs3 I3=>⟨.bl (!ov.isSome),H2,I3,rfl,q2⟩
theorem at0 (hu:X.A.units+1<cLine)(ho:PE X o td)(hi:PE X i ty)(hv:PE X value tv)(hs:swapsWith value (some (.Subscript o i pos')) pos.line X.env=pure false) :
  PS X (.Assign [.Subscript o i pos'] value pos) (B8 td ty tv):=by
 intro ag s σ H D I h;refine wpAny_Assign_Subscript (aJ (hv ag s σ H _ I h) λr s1 ⟨v,H1,I1,rv,q1⟩=>aJ (ho ag s1 σ H1 _ I1 q1) λu s2 ⟨x,H2,I2,rx,q2⟩=>aJ (hi ag s2 σ H2 _ I2 q2) λiv s3 ⟨y,H3,I3,ry,a,H4,ex,g,q3⟩=>?_) hs;subst ex;obtain rfl:u=Value.ref a:=rx;exact as4 hu I3 g ry rv λs4 I4=>⟨σ,H4,I4,q3⟩
end
theorem at2 {P:az}{w:bc}{H:Hp}(h:Heap)(hb:sysModules<h.objs.size):bM P w H (h.push { cls:=.type "dict",data:=.dict #[] }) h.objs.size (.dT []):=
 ⟨bk7 _,beq_eq_false_iff_ne.mpr (Ne.symm (bi7 hb)),[],.nil,_,#[],0,bg8 _ rfl,⟨rfl,rfl,rfl⟩,rfl,rfl,bw8⟩
def B9:TE:=λ_ H Q=>∀p,H p=none->Q (.ref p) (upd H p (.dT []))
section
variable {X:Cx}{pos:Pos}
theorem at3:PE X (.Dict [] [] pos) B9:=λag s σ H Q I h=>
 wpAny_Dict_empty ⟨.ref s.heap.objs.size,_,I.laid (a:=s.heap.objs.size) (o:=.dT []) (t':=s.toks) (λ_ _ q=>bf3 _ q) (bg0 _) (at2 s.heap I.big),rfl,h _ (I.hok.fresh (bg0 _))⟩
end
structure M2 (X:Cx)(o:Expr)(m:Str)(ah:Pos)(e f:Expr)(ai:Pos):Prop where
 base:attributeBase o m X.env (eval o X.env)=eval o X.env
 few:((backTo ai (starEach [e,f] X.env)).all (λx=>!x.1)&&(backToKw ai (keywordEach [] X.env)).all (λx=>x.1.isSome)
 &&decide (([e,f]:List Expr).length+([]:List Keyword).length+(if ([]:List Keyword).isEmpty then 0 else 1)<30))=true
 line:(ah.endLine==ai.line)=true
 trees:backTo ai (starEach [e,f] X.env) = [(false,eval e X.env),(false,eval f X.env)]
def C0 (H:Hp)(a:ay):Prop:=(∃kvs,Rd H a (.dK kvs))∨∃kvs,Rd H a (.dT kvs)
theorem at4 {X:Cx}{ag:List (ay×Obj)}{σ:St}{H:Hp}{s:ax}{a:ay}(I:a6 X ag σ H s)(d:C0 H a) :
  s.TypeIs (.ref a) "dict"/\(∀b,Value.ref a = .ref b->∃ob,s.heap.get? b=some ob/\ob.dict=none)/\(a==sysModules)=false:=by
 rcases d with⟨kvs,e⟩|⟨kvs,e⟩
 ·obtain⟨_,hd,vs,_,dd⟩:=kI I.hok e
  refine⟨dd.typeIs,λb q=>?_,hd⟩;cases q
  obtain⟨ob,_,_,h1,h2,_⟩:=dd
  exact⟨ob,h1,h2.2.1⟩
 ·obtain⟨_,hd,xs,_,dd⟩:=m6 I.hok e
  refine⟨dd.typeIs,λb q=>?_,hd⟩;cases q
  obtain⟨ob,_,_,h1,h2,_⟩:=dd
  exact⟨ob,h1,h2.2.1⟩
section
variable {X:Cx}{ag:List (ay×Obj)}{σ:St}{H:Hp}{s:ax}{a:ay}{y d:V}{u r:av}{o:Option V}{A:ba}{E:av→ax→Prop}
theorem at6 {Q:av->ax->Prop}(hu:A.units+1<cLine)(I:a6 X ag σ H s)(g:fP H a y o)(ry:aP y u)(rd:aP d r)(h:∀w' s',a6 X ag σ H s'->aP (o.getD d) w'->Q w' s') :
  wpAny (model X.prog X.w) A (call (.builtin "dict.get") [.ref a,u,r]) Q E s:=by
 rcases g with⟨kvs,k,e,ey,l⟩|⟨kvs,k,b,e,ey,eb,l⟩
 ·subst ey
  obtain⟨z,hd,vs,rel,dd⟩:=kI I.hok e
  refine call_meetsIn PySem.F.slot_dict_get dd.typeIs PySem.F.entry_dict_get (PySem.F.args_dict_get_3 _ _ _) (meets_dict_get_default (eG X.prog X.w) a (nY ry) hd r) ⟨_,dd.mapOf,h _ _ (I.tok _) ?_⟩;rw[l];exact (rel.val k).getD rd
 ·subst ey
  cases (show u=Value.ref b from ry)
  obtain⟨z,hd,xs,rel,dd⟩:=m6 I.hok e
  refine call_meetsIn PySem.F.slot_dict_get dd.typeIs PySem.F.entry_dict_get (PySem.F.args_dict_get_3 _ _ _) (meetsH_dict_get_default (tupleKind (eG X.prog X.w)) a b hd r) ⟨tupleKind_room_in1 hu,k,xs,nZ I.hok eb,dd,h _ _ (I.tok _) ?_⟩;rw[l];exact (rel.val k).getD rd
end
def C1 (td ty tx:TE):TE:=λσ H Q=>td σ H λx H1=>∃a,x = .ref a/\C0 H1 a/\ty σ H1 λy H2=>tx σ H2 λz H3=>∃o,fP H3 a y o/\Q (o.getD z) H3
section
variable {X:Cx}{o e f:Expr}{ah ai:Pos}{td ty tx:TE}
theorem at7 (hu:X.A.units+1<cLine)(ho:PE X o td)(he:PE X e ty)(hf:PE X f tx)(m:M2 X o "get" ah e f ai):PE X (.Call (.Attribute o "get" ah) [e,f] [] ai) (C1 td ty tx):=by
 intro ag s σ H Q I h;refine wpAny_Call_method m.base m.few m.line PySem.F.plainAttrs_dict PySem.F.slot_dict_get PySem.F.type_dict_get (aJ (ho ag s σ H _ I h) λu s1 ⟨x,H1,I1,rx,a,ex,d,q1⟩=>?_);subst ex;obtain rfl:u=Value.ref a:=rx
 obtain⟨t1,t2,_⟩:=at4 I1 d
 refine⟨t1,t2,?_⟩;rw[m.trees]
 refine Calls.callWith_builtin rfl (Calls.evalArgs_plain (Calls.spliced_cons (aJ (he ag s1 σ H1 _ I1 q1) λiv s2 ⟨y,H2,I2,ry,q2⟩=>
  Calls.spliced_cons (aJ (hf ag s2 σ H2 _ I2 q2) λfv s3 ⟨z,H3,I3,rz,ov,g,q3⟩=>Calls.spliced_nil ?_))))
 exact at6 hu I3 g ry rz λw' s4 I4 rw'=>⟨_,H3,I4,rw',q3⟩
end
end L2
namespace Att
open PySem PySem.W PySem.Calls PyProof.Rows
theorem at8 {P:Params}{h:Heap}:∀(ns:ae) (vs:List av),WellAll P h vs (ns.map WData.int)->IntsAre vs ns:=by
 intro ns
 induction ns with
 |nil=>
  intro vs w;rw[List.map_nil]at w;cases w;exact .nil
 |cons n ns ih=>
  intro vs w;rw[bi8]at w;cases w with
  |cons a b=>
   cases a;exact .cons _ _ (ih _ b)
theorem C2 {l:OpenLaw}{n:Nat}(hn:l.most=some n){P:Params}{h:Heap}{args:List WData}{vals:List av}(hpre:l.row.toRowW.claim.pre args=true)(hwl:WellAll P h vals args) :
  ∃a vs ns,vals = [Value.ref a]/\args = [WData.list (ns.map WData.int)]/\h.get? a=some { cls:=.type "list",data:=.seq vs.toArray }/\IntsAre vs ns/\ns.length<=n:=by
 have hsh:WShape.hasAll [] args [.list .int]=true:=(pre_splitW hpre).1;have hc:l.pre.holds [] { args:=args }=true:=(pre_splitW hpre).2
 obtain⟨d,r,rfl,h1,h2⟩:=hasAllW_cons hsh
 obtain rfl:=hasAllW_nil h2
 obtain⟨xs,rfl,h3⟩:=hasW_list h1
 obtain⟨ns,rfl⟩:=items_int h3
 have aj:ns.length<=n:=by
  unfold OpenLaw.pre at hc;have h4:(WTm.not (.lt (.lit (.int (n:Int))) (.len (.arg 0)))).holds [] { args:=[.list (ns.map .int)] }=true:=by
   have h4:=(holds_andW hc).1;rw[hn]at h4;exact h4
  have h5:=condW_of h4 (w_not (w_lt w_lit (w_len_list (w_arg rfl))));rw[bf6]at h5;refine Nat.le_of_not_lt λq=>?_
  have q':(n:Int)<((ns.length:Nat):Int):=by omega
  first
   |(rw[bg4 q']at h5;exact absurd h5 (by decide))
   |(simp at h5;omega)
 cases hwl with
 |cons w1 w2=>
  cases w2;cases w1 with
  |list ho hall=>exact⟨_,_,ns,rfl,rfl,ho,at8 ns _ hall,aj⟩
theorem C3 (l:OpenLaw)(args:List WData):l.row.toRowW.claim.post args (.bool true) args=true:=
 postW_of (r:=l.row.toRowW) (X:=(true==true))
  (show WShape.has [] (.bool true) .bool=true by first|rfl|decide|simp[WShape.has,WShape.arms,WShape.armsAll])
  (show (WTm.eq .res (.lit (.bool true))).value [] { args:=args,res:=some (.bool true),after:=args }=some (.bool (true==true)) from w_eq_bool (w_res rfl) w_lit) rfl
theorem be5 {l:OpenLaw}{n:Nat}{q:az}{loose:List Str}{XP:(Str->Option av)->Heap->Prop}{YP:bc->Heap->Prop}{d:DefRec}{x:Str}(hn:l.most=some n)(hdf:d.params.defaults = [])(hbind:∀pm cd doc v:av,bindArgs (docDef d.name d.params d.body d.scope pm cd doc) ⟨[v],[]⟩=pure [(x,v)])(hx:d.scope.names.lookup x=some .local∨d.scope.names.lookup x=some .cell)(hk:d.scope.kind = .function)(hco:d.scope.isCoroutine=false)(hgen:d.scope.isGenerator=false)(body:∀(w:bc) (s₀ s₁ s:ax) (mg mb:Str->Option av) (fa:ay) (o:Obj) (pm cd doc:av) (a:ay) (vs:List av) (ns:ae),
   Ground q loose [] XP w s₀ mg mb s₁.heap->YP w s₁.heap->
   s₁.heap.get? fa=some o->o.data = .func (docDef d.name d.params d.body d.scope pm cd doc)->s₁.heap.CodeRec cd d.name->mg d.name=some (.ref fa)->
   s₁.heap.get? a=some { cls:=.type "list",data:=.seq vs.toArray }->IntsAre vs ns->ns.length<=n->
   s.gens = #[]->s.os=s₁.os->
   Fr s₁.heap s₁.heap.objs.size s.heap (bindL (envOfC d.name d.scope s₁.heap.objs.size fa cd).kindOf [(x,.ref a)] λ_=>none)->
   Cl s₁.heap.objs.size (cellsFrom (s₁.heap.objs.size+1) d.scope.names []) s.heap (bindC (envOfC d.name d.scope s₁.heap.objs.size fa cd).kindOf [(x,.ref a)] λ_=>none)->
   wpAny (model l.prog w) (callerA.deeper (envOfC d.name d.scope s₁.heap.objs.size fa cd)) (execs d.body (envOfC d.name d.scope s₁.heap.objs.size fa cd))
    (λf s'=>f = .ret (.bool true)/\OldK s₁.heap s'.heap/\s'.os=s₁.os/\AllBare s'.gens) (λ_ _=>False) s) :
  WalkO q loose XP YP l.row.toRowW d [] (λf vs=>PySem.call f vs):=by
 intro w s₀ s₁ mg mb G Y fa o pm cd doc dV kV ho hd hcd hD hmg hg args vals as hpre hlay hrd hwl hlo;obtain rfl:dV = .none:=Dflts.none hD hdf;obtain rfl:kV = .none:=Dflts.noKw hD
 obtain⟨a,vs,ns,rfl,rfl,hobj,hints,aj⟩:=C2 hn hpre hwl
 refine enter_call ?_;refine call_cells_ret (o:=o) (by rw[depth_caller];decide) ho (fd_plain hd) G.T.nolimit hcd (hbind pm cd doc (.ref a)) (λy hy=>?_) (λh₁ tk F X=>?_) hco hgen hk
 ·obtain rfl:y=(x,Value.ref a):=bg2.mp hy
  rcases hx with e|e
  ·exact .inl e
  ·exact .inr ⟨e,cellsFrom_some _ _ _ (.inl e)⟩
 ·refine bm8 (body w s₀ s₁ { s₁ with heap:=h₁,toks:=tk } mg mb fa o pm cd doc a vs ns G Y ho (fd_plain hd) hcd hmg hobj hints aj hg rfl F X) (λf s' hq=>?_) (λ_ _ hq=>hq)
  obtain⟨rfl,h2,h3,h4⟩:=hq
  exact⟨.inl ⟨.bool true,.bool true,[],rfl,λ_=>rfl,.bool true,C3 l _,λ_=>⟨bs2,λ_ hm=>(nomatch hm)⟩⟩,h2,h3,h4⟩
theorem at9 {l:OpenLaw}{n:Nat}{q:az}{loose:List Str}{XP:(Str->Option av)->Heap->Prop}{YP:bc->Heap->Prop}{d:DefRec}(hn:l.most=some n)(hdf:d.params.defaults = [])(call:∀(w:bc) (s₀ s₁:ax) (mg mb:Str->Option av) (fa:ay) (o:Obj) (pm cd doc:av) (a:ay) (vs:List av) (ns:ae),
   Ground q loose [] XP w s₀ mg mb s₁.heap->YP w s₁.heap->
   s₁.heap.get? fa=some o->o.data = .func (docDef d.name d.params d.body d.scope pm cd doc)->s₁.heap.CodeRec cd d.name->mg d.name=some (.ref fa)->
   s₁.heap.get? a=some { cls:=.type "list",data:=.seq vs.toArray }->IntsAre vs ns->ns.length<=n->s₁.gens = #[]->
   codeAny (model l.prog w) callerA (.call (.ref fa) ⟨[.ref a],[]⟩) (λr s'=>r = .ok (.ret (.bool true))/\OldK s₁.heap s'.heap/\s'.os=s₁.os/\AllBare s'.gens) s₁) :
  WalkO q loose XP YP l.row.toRowW d [] (λf vs=>PySem.call f vs):=by
 intro w s₀ s₁ mg mb G Y fa o pm cd doc dV kV ho hd hcd hD hmg hg args vals as hpre hlay hrd hwl hlo;obtain rfl:dV = .none:=Dflts.none hD hdf;obtain rfl:kV = .none:=Dflts.noKw hD
 obtain⟨a,vs,ns,rfl,rfl,hobj,hints,aj⟩:=C2 hn hpre hwl
 refine enter_call (codeAny_mono (call w s₀ s₁ mg mb fa o pm cd doc a vs ns G Y ho (fd_plain hd) hcd hmg hobj hints aj hg) λr s' hq=>?_)
 obtain⟨rfl,h2,h3,h4⟩:=hq
 exact⟨.inl ⟨.bool true,.bool true,[],rfl,λ_=>rfl,.bool true,C3 l _,λ_=>⟨bs2,λ_ hm=>(nomatch hm)⟩⟩,h2,h3,h4⟩
end Att
namespace L2
open PySem PySem.Spec PyProof.Rows
theorem C4:∀{vs:List av}{ns:ae},IntsAre vs ns->aI (ns.map V.int) vs
 |_,_,.nil=>.nil
 |_,_,.cons n t h=>.cons ⟨t,rfl⟩ (C4 h)
def qG (H:Hp):Prop:=∀b,H b=none∨∃o xs,H b=some (.frz o (.lst xs))
theorem au0 {P:az}{w:bc}{K:ac}{mg mb:Str->Option av}{CX:gN}{k:Nat}{fa a:ay}{fd:FuncData}{x:Str}{sp:Sp}{s₁:ax}{vs:List av}{ns:ae}(KX:K.In s₁.heap)(hns:s₁.heap.Ns mainGlobals mg)(hb:s₁.heap.Ns builtinsNs mb)(hbb:∀x:Str,x≠"__name__"->mb x=bootBuiltins x)(hlim:s₁.heap.NoLimit)(hg:s₁.gens = #[])(ha:s₁.heap.get? a=some { cls:=.type "list",data:=.seq vs.toArray })(hi:IntsAre vs ns)(hl:ns.length<=sizeLine)(hr:bX k callerA)(F:∀base:Heap,K.In base->base.Ns mainGlobals mg->dR P w K mg base CX k fa fd [x] sp)(hbind:∀(s:ax) (u:av),BindsTo s fd ⟨[u],[]⟩ [(x,u)])(hsp:∀H:Hp,qG H->aT K H a (ns.map V.int)->sp [.ref a] H (λv _=>v = .bl true) λ_ _ _=>False)(hCX:∀H e s',CX [] H s₁ (λ_ _ _=>False) e s'->False) :
  codeAny (model P w) callerA (.call (.ref fa) ⟨[.ref a],[]⟩) (λr s'=>r = .ok (.ret (.bool true))/\OldK s₁.heap s'.heap/\s'.os=s₁.os/\AllBare s'.gens) s₁:=by
 have rv:=C4 hi;have lenV:=hi.length;have core:∀H:Hp,qG H->aT K H a (ns.map V.int)->bO P w H s₁.heap->(∀b,H b≠none->b=a)->(H a≠none->K.lookup a=none)->
   codeAny (model P w) callerA (.call (.ref fa) ⟨[.ref a],[]⟩) (λr s'=>r = .ok (.ret (.bool true))/\OldK s₁.heap s'.heap/\s'.os=s₁.os/\AllBare s'.gens) s₁:=by
  intro H hO hS hok hA hK;have base_of:∀{b:ay}{o:Obj},s₁.heap.get? b=some o->H b=none->(iS s₁.heap H).get? b=some o:=λe n=>ah9 e n
  have noA:∀{b:ay}{o:Obj}{es:Array DictEntry}{ep:Nat},s₁.heap.get? b=some o->o.data = .dict es ep->H b=none:=λ{b o es ep} e d=>by
   cases q:H b with
   |none=>rfl
   |some u=>
    have e':b=a:=hA b (by rw[q];simp);subst e';rw[ha]at e;cases e;have d':Data.seq vs.toArray _=Data.dict es ep:=d;cases d'
  have nsK:∀{b:ay}{m:Str->Option av},s₁.heap.Ns b m->(iS s₁.heap H).Ns b m:=λ{b m} ⟨o,es,ep,e,d,r⟩=>⟨o,es,ep,base_of e (noA e d),d,r⟩
  have hKb:K.In (iS s₁.heap H):=λb o e=>base_of (KX b o e) (by
   cases q:H b with
   |none=>rfl
   |some u=>
    have e':b=a:=hA b (by rw[q];simp);subst e'
    rw[hK (by rw[q];simp)]at e;cases e)
  have hM:Mod K mg (iS s₁.heap H):=⟨hKb,nsK hns,⟨mb,nsK hb,hbb⟩,let ⟨mc,h1,h2⟩:=hlim;⟨mc,nsK h1,h2⟩⟩;have e0:qD P w K mg (iS s₁.heap H) callerA [] s₁ H:=⟨rfl,hM,λb o e=>ai0 e,Nat.le_of_eq (ah8 _ _),trivial,λb hb=>absurd (show b∈([]:List ay) from hb) (by simp),hok,.of_eq hg⟩;refine codeAny_mono ((F _ hKb (nsK hns)).run callerA [] s₁ H ⟨[.ref a],[]⟩ [.ref a] [.ref a] _ _ hr e0 (hbind s₁ (.ref a)) (.cons rfl .nil) (hsp H hO hS)) λr s' h=>?_
  cases r with
  |error e=>exact (hCX H e s' h).elim
  |ok fl=>
   cases fl with
   |next=>exact False.elim h
   |brk=>exact False.elim h
   |cont=>exact False.elim h
   |ret u=>
    obtain⟨v,H',os,bare,un,hok',r',q⟩:=h
    have q':v = .bl true:=q;subst q';obtain rfl:u=Value.bool true:=r';refine⟨rfl,OldK.of_keep λb o e=>?_,os,bare⟩;cases q:H b with
    |none=>exact un.keep b o e q (by intro z;exact absurd (show b∈([]:List ay) from z) (by simp)) (by simp)
    |some u=>
     rcases hO b with z|⟨ob,xs,z⟩
     ·rw[q]at z;cases z
     ·have z2:=un.frzs b ob _ z
      obtain⟨e1,_⟩:=hok b _ z
      obtain⟨e2,_⟩:=hok' b _ z2
      rw[e]at e1;cases e1;exact e2
 cases hk:K.lookup a with
 |some o=>
  have e:=KX a o hk;rw[ha]at e;cases e;refine core (λ_=>none) (λ_=>.inl rfl) (.inr ⟨_,vs.toArray,_,hk,rfl,rfl,rfl,by rw[bf8,lenV];exact hl,by simpa using rv⟩) (λb u z=>by have z':(none:Option HO)=some u:=z;cases z') (λb z=>absurd rfl z) λz=>absurd rfl z
 |none=>
  refine core (λb=>if b=a then some (.frz { cls:=.type "list",data:=.seq vs.toArray } (.lst (ns.map V.int))) else none) (λb=>?_) (.inl (.inr ⟨{ cls:=.type "list",data:=.seq vs.toArray },if_pos rfl⟩)) (λb u z=>?_) (λb z=>?_) λ_=>hk
  ·by_cases hb:b=a
   ·exact .inr ⟨_,_,if_pos hb⟩
   ·exact .inl (if_neg hb)
  ·by_cases hb:b=a
   ·have z':=(if_pos hb).symm.trans z
    cases z';subst hb
    exact⟨ha,by rw[bf6];exact hl,vs,_,rv,ha⟩
   ·have z':=(if_neg hb).symm.trans z
    cases z'
  ·by_cases hb:b=a
   ·exact hb
   ·exact absurd (if_neg hb) z
theorem au1 {l:PySem.W.OpenLaw}{n k:Nat}{q:az}{loose:List Str}{XP:(Str->Option av)->Heap->Prop}{YP:bc->Heap->Prop}{d:DefRec}{K:Params->ac}{CX:bc->gN}{sp:bc->Sp}{x:Str}(hn:l.most=some n)(hn2:n<=sizeLine)(hdf:d.params.defaults = [])(hr:bX k callerA)(hY:∀(w:bc) (h:Heap),YP w h->(K w.params).In h)(F:∀(w:bc) (mg:Str->Option av) (fa:ay) (h:Heap),(K w.params).In h->h.Ns mainGlobals mg->mg d.name=some (.ref fa)->
   ∃fd:FuncData,(∀(s:ax) (u:av),BindsTo s fd ⟨[u],[]⟩ [(x,u)])/\
    ∀base:Heap,(K w.params).In base->base.Ns mainGlobals mg->dR l.prog w (K w.params) mg base (CX w) k fa fd [x] (sp w))(hsp:∀(w:bc) (H:Hp) (a:ay) (ns:ae),ns.length<=n->qG H->aT (K w.params) H a (ns.map V.int)->sp w [.ref a] H (λv _=>v = .bl true) λ_ _ _=>False)(hCX:∀(w:bc) (H:Hp) (s:ax) (e:av) (s':ax),CX w [] H s (λ_ _ _=>False) e s'->False) :
  PySem.W.WalkO q loose XP YP l.row.toRowW d [] (λf vs=>PySem.call f vs):=by
 refine Att.at9 hn hdf λw s₀ s₁ mg mb fa o pm cd doc a vs ns G Y ho hd hcd hmg hobj hints aj hg=>?_
 have KX:=hY w _ Y
 obtain⟨fd,hb,hF⟩:=F w mg fa _ KX G.T.g hmg
 exact au0 KX G.T.g G.T.b G.T.builtins G.T.nolimit hg hobj hints (bl2 aj hn2) hr hF hb (λH hO hS=>hsp w H a ns aj hO hS) λH e s'=>hCX w H s₁ e s'
def iY (s:Stmt):Arguments:=match s with
 |.FunctionDef _ a _ _ _ _ _ _ _ _=>a
 |_=>{ posonlyargs:=[],args:=[],vararg:=none,kwonlyargs:=[],kw_defaults:=[],kwarg:=none,defaults:=[] }
def eJ (s:Stmt):List Stmt:=match s with
 |.FunctionDef _ _ b _ _ _ _ _ _ _=>b
 |_=>[]
def b7 (s:Stmt):Scope:=match s with
 |.FunctionDef _ _ _ _ _ _ sc _ _ _=>sc
 |_=>{ kind:=.function,names:=[],isGenerator:=false,isCoroutine:=false }
abbrev fQ:gN:=λ_ _ _ _ _ _=>False
abbrev E0:XK:=λ_ _ _=>False
theorem au2 {X:Cx}:nX fQ X E0:=λ_ _ _ _ _ _ _ h=>h.elim
structure gB (K:ac)(x qual:Str)(st:Stmt)(f:ay)(fd:FuncData):Prop where
 ex:∃(oc:av) (od:Option ay) (kV doc pm:av) (an:Option ay) (cdv ct:av) (osl:Array (Option av)),
  fd=PySem.W.fnOf x qual (iY st) (eJ st) (b7 st) .none kV doc pm an cdv ct/\K.lookup f=some ⟨oc,od,.func fd,osl⟩/\PySem.W.codeIn K cdv qual=true
 kp:PySem.W.keepIn K (.ref f)=true
section
variable {P:az}{w:bc}{K:ac}{mg:Str→Option av}{base:Heap}
theorem gB.ok {x qual:Str}{st:Stmt}{f:ay}{fd:FuncData}{N ps:List Str}{k:Nat}{sp:Sp}(F:gB K x qual st f fd)(S:FnScope N ps (b7 st))(len:∀vs H Q E,sp vs H Q E->vs.length=ps.length)(hbody:∀(cdv:av) (A:ba) (outer:List Env) (s:ax) (H:Hp) (vs:List V) (Q:VK) (E:XK),bX k (A.deeper (envOfC qual (b7 st) s.heap.objs.size f cdv))->sp vs H Q E->
   ∃t,dQ (dG fQ P w K mg base N qual (b7 st) f cdv A outer s H E).nox (eJ st) t/\t { nx:=λ_ H'=>Q .non H',rt:=Q } (gO N vs) H):dR P w K mg base fQ (k+1) f fd ps sp:=by
 obtain⟨oc,od,kV,doc,pm,an,cdv,ct,osl,rfl,lk,hcd⟩:=F.ex
 refine zS lk hcd S len λA outer s H vs Q E hr hsp=>?_
 obtain⟨t,h,q⟩:=hbody cdv A outer s H vs Q E hr hsp
 exact⟨t,h.nox,q⟩
theorem gB.binds {x qual:Str}{st:Stmt}{f:ay}{fd:FuncData}{ps:List Str}(F:gB K x qual st f fd)(h:∀(kV doc pm:av) (an:Option ay) (cdv ct:av) (us:List av),us.length=ps.length->bindArgs (PySem.W.fnOf x qual (iY st) (eJ st) (b7 st) .none kV doc pm an cdv ct) ⟨us,[]⟩=pure (ps.zip us)):jM K fd ps []:=by
 obtain⟨oc,od,kV,doc,pm,an,cdv,ct,osl,rfl,lk,hcd⟩:=F.ex
 exact .all (h kV doc pm an cdv ct)
theorem au3 {x qual:Str}{st:Stmt}{f:ay}{oc:av}{od an:Option ay}{osl:Array (Option av)}{kV doc pm cdv ct:av}(l:K.lookup f=some ⟨oc,od,.func (PySem.W.fnOf x qual (iY st) (eJ st) (b7 st) .none kV doc pm an cdv ct),osl⟩)(c:PySem.W.codeIn K cdv qual=true)(k:PySem.W.keepIn K (.ref f)=true):gB K x qual st f (PySem.W.fnOf x qual (iY st) (eJ st) (b7 st) .none kV doc pm an cdv ct):=⟨⟨oc,od,kV,doc,pm,an,cdv,ct,osl,rfl,l,c⟩,k⟩
end
theorem qH {A:ba}{k:Nat}(hr:bX k A):A.units+1<cLine:=Nat.lt_of_le_of_lt (Nat.add_le_add_left (by decide:1<=64) _) hr.units
theorem au4 {n:Nat}(h:n<=1000):n<sizeLine:=Nat.lt_of_le_of_lt h (by decide)
section
variable {X:Cx}
theorem au5:cU X (.builtin "len") (λxs H Q=>∃a kvs,xs = [V.ref a]/\H a=some (.dK kvs)/\Q (.int kvs.length) H):=by
 intro ag s σ H xs us Q I r h
 obtain⟨a,kvs,rfl,ha,q⟩:=h
 obtain⟨u,rfl,ru⟩:=iC r
 cases ru;exact as5 I (.inl ha) λt s' I'=>⟨.int kvs.length,H,I',⟨t,rfl⟩,q⟩
end
theorem aU {A B:Prop}(h:B):if false=true then A else B:=by
 rw[if_neg bi1];exact h
theorem bD {A B:Prop}(h:A):if true=true then A else B:=by
 rw[if_pos rfl];exact h
def aD (H H':Hp):Prop:=∀b o,H b=some o->H' b=some o
theorem aD.refl (H:Hp):aD H H:=λ_ _ h=>h
theorem aD.trans {H H1 H2:Hp}(a:aD H H1)(b:aD H1 H2):aD H H2:=λc o h=>b c o (a c o h)
theorem aD.free {H H':Hp}(e:aD H H'){l:ay}(h:H' l=Option.none):H l=Option.none:=by
 cases q:H l with
 |none=>rfl
 |some o=>
  rw[e l o q]at h;cases h
def eC (cells:List (Str×ay)):List (Str×NameKind)->List (Str×ay)->List (Str×ay)
 |[],cs=>cs
 |(n,k)::r,cs=>eC cells r (if k==.free then (n,(cells.lookup n).getD 0)::cs else cs)
theorem uM {env:Env}:∀(ns:List (Str×NameKind)) (cs:List (Str×ay)),(∀x∈ns,x.2 = .free->∃c,env.cells.lookup x.1=some c)->
  (forIn ns cs (λ(x:Str×NameKind) r=>(match x with
   |(name,kind)=>if (kind==.free)=true then (do let y <- cellOf env name;pure (ForInStep.yield ((name,y)::r))) else pure (ForInStep.yield r)):_->_->Sem _))=(pure (eC env.cells ns cs):Sem (List (Str×ay)))
 |[],cs,_=>by rw[List.forIn_nil];rfl
 |(n,k)::r,cs,h=>by
  rw[List.forIn_cons];have hr:∀x∈r,x.2 = .free->∃c,env.cells.lookup x.1=some c:=λx hx=>h x (bf9 _ hx)
  cases hk:(k==NameKind.free) with
  |true=>
   have e:k = .free:=by simpa using hk
   obtain⟨c,hc⟩:=h (n,k) bg1 e
   simp only[hk,if_true];have e1:cellOf env n=pure c:=by unfold cellOf;rw[hc]
   rw[e1];show ((pure c >>= λy=>pure (ForInStep.yield ((n,y)::cs))) >>= _:Sem _)=_;rw[pure_bind,pure_bind]
   have:=uM (env:=env) r ((n,c)::cs) hr
   refine this.trans ?_;unfold eC;simp only[hk,if_true,hc,bt4];cases r<;>rfl
  |false=>
   simp only[hk,bh2,bl6];rw[pure_bind]
   have:=uM (env:=env) r cs hr
   refine this.trans ?_
   conv=>rhs;unfold eC
   simp only[hk,bh2,bl6]
theorem C5 {scope:Scope}{env:Env}(h:∀x∈scope.names,x.2 = .free->∃c,env.cells.lookup x.1=some c):closureFor scope env=pure (eC env.cells scope.names []):=by
 have e:=uM (env:=env) scope.names [] h;unfold closureFor;rw[show (pure (eC env.cells scope.names []):Sem (List (Str×ay)))=(pure (eC env.cells scope.names []) >>= pure) by rw[pure_bind]];rw[<- e]
theorem qI {cells:List (Str×ay)}:∀(ns:List (Str×NameKind)) (cs:List (Str×ay)) {x:Str}{c:ay},(∀y∈ns,y.2 = .free->∃c,cells.lookup y.1=some c)->
  (∀x c,cs.lookup x=some c->cells.lookup x=some c)->(eC cells ns cs).lookup x=some c->cells.lookup x=some c
 |[],cs,x,c,_,hc,h=>hc x c h
 |(n,k)::r,cs,x,c,hn,hc,h=>by
  unfold eC at h;have hr:∀y∈r,y.2 = .free->∃c,cells.lookup y.1=some c:=λy hy=>hn y (bf9 _ hy)
  cases hk:(k==NameKind.free) with
  |false=>
   simp only[hk,bh2,bl6]at h;exact qI r cs hr hc h
  |true=>
   simp only[hk,if_true]at h;refine qI r _ hr (λy d e=>?_) h
   obtain⟨c0,h0⟩:=hn (n,k) bg1 (by simpa using hk)
   have h0:cells.lookup n=some c0:=h0;rw[h0]at e;rw[bn4]at e;by_cases hyn:y=n
   ·subst hyn
    simp only[bm7,bt4]at e;rw[h0];exact e
   ·have:(y==n)=false:=beq_eq_false_iff_ne.mpr hyn
    simp only[this]at e;exact hc y d e
theorem uN {cells:List (Str×ay)}:∀(ns:List (Str×NameKind)) (cs:List (Str×ay)) {x:Str},((x,NameKind.free)∈ns∨∃c,cs.lookup x=some c)->∃c,(eC cells ns cs).lookup x=some c
 |[],cs,x,h=>by
  rcases h with h|h
  ·simp at h
  ·exact h
 |(n,k)::r,cs,x,h=>by
  unfold eC;refine uN r _ ?_;rcases h with h|⟨c,h⟩
  ·rcases bg6.mp h with e|e
   ·cases e
    exact .inr ⟨_,by simp[bn4];rfl⟩
   ·exact .inl e
  ·right
   cases hk:(k==NameKind.free) with
   |false=>exact⟨c,by simpa[hk] using h⟩
   |true=>
    simp only[if_true];rw[bn4];by_cases hxn:(x==n)=true
    ·simp only[hxn];exact⟨_,rfl⟩
    ·simp only[bq8.mpr hxn];exact⟨c,h⟩
theorem qJ {env:Env}:∀{names:List (Str×NameKind)}{x:Str}{k:NameKind},(names.map λ(n,k)=>if (k==NameKind.free&&env.scope.kind==.function&&env.kindOf n==some .cell) then (n,NameKind.cell) else (n,k)).lookup x=some k->
  names.lookup x=some k∨(names.lookup x=some .free/\k = .cell)
 |[],_,_,h=>by simp at h
 |(n,q)::r,x,k,h=>by
  have ih:=@qJ env r x k;rw[bi8]at h;by_cases hx:(x==n)=true
  ·have e:x=n:=by simpa using hx
   subst e;by_cases hc:(q==NameKind.free&&env.scope.kind==.function&&env.kindOf x==some .cell)=true
   ·simp only[hc,if_true,bn4,bm7]at h
    have hq:q = .free:=by simp at hc;exact hc.1.1
    exact .inr ⟨by simp[bn4,hq],(bj4 h).symm⟩
   ·simp only[hc,bh2,bl6,bn4,bm7]at h
    exact .inl (by simp[bn4];exact bj4 h)
  ·have hx':(x==n)=false:=bq8.mpr hx
   have h':(r.map λ(n,k)=>if (k==NameKind.free&&env.scope.kind==.function&&env.kindOf n==some .cell) then (n,NameKind.cell) else (n,k)).lookup x=some k:=by
    by_cases hc:(q==NameKind.free&&env.scope.kind==.function&&env.kindOf n==some .cell)=true
    ·simp only[hc,if_true,bn4,hx']at h;exact h
    ·simp only[hc,bh2,bl6,bn4,hx']at h;exact h
   simp only[bn4,hx'];exact ih h'
def gC (fr:List (Option Nat))(σ:St):St:=fr.map λo=>o.bind λj=>(σ[j]?).join
def Wk (σ₁ σ₂:St):Prop:=σ₁.length=σ₂.length/\∀(i:Nat) v,σ₁[i]? = some (some v)->σ₂[i]? = some (some v)
theorem iZ:∀(ns:List (Str×NameKind)) (n:Nat) (cs:List (Str×ay)),cellsFrom n ns cs=cellsFrom n ns []++cs
 |[],_,_=>rfl
 |(x,k)::r,n,cs=>by
  unfold cellsFrom;split
  ·rw[iZ r (n+1) ((x,n)::cs),iZ r (n+1) [(x,n)]];simp
  ·exact iZ r n cs
theorem uO:∀(ns:List (Str×NameKind)) (n:Nat) {x:Str}{c:ay},(x,c)∈cellsFrom n ns []->(x,NameKind.cell)∈ns
 |[],_,_,_,h=>by simp[cellsFrom]at h
 |(y,k)::r,n,x,c,h=>by
  unfold cellsFrom at h;split at h
  ·rename_i hk
   rw[iZ]at h;rcases bj1.mp h with z|z
   ·exact bf9 _ (uO r _ z)
   ·rw[bg2]at z
    cases z
    have:k = .cell:=by simpa using hk
    rw[this];exact bg1
  ·exact bf9 _ (uO r _ h)
theorem qL:∀(ns:List (Str×NameKind)) (n:Nat) {x:Str},(x,NameKind.cell)∈ns->∃c,(x,c)∈cellsFrom n ns []
 |(y,k)::r,n,x,h=>by
  unfold cellsFrom;rcases bg6.mp h with z|z
  ·cases z
   rw[if_pos (by rfl),iZ]
   exact⟨n,bj7 _ (by simp)⟩
  ·split
   ·obtain⟨c,hc⟩:=qL r (n+1) z
    rw[iZ]
    exact⟨c,bk0 _ hc⟩
   ·exact qL r n z
theorem uP {α:Type}:∀{l:List (Str×α)}{x:Str}{c:α},(x,c)∈l->∃d,l.lookup x=some d
 |(y,v)::r,x,c,h=>by
  rw[bn4];cases hb:x==y with
  |true=>exact⟨v,rfl⟩
  |false=>
   rcases bg6.mp h with z|z
   ·cases z;simp at hb
   ·exact uP z
theorem qM {α:Type}{x:Str}:∀(l r:List (Str×α)),(l++r).lookup x=(match l.lookup x with|some v=>some v|none=>r.lookup x)
 |[],_=>rfl
 |(y,v)::l,r=>by
  rw[List.cons_append,bn4,bn4];cases hb:x==y with
  |true=>rfl
  |false=>exact qM l r
def gR (X:Cx)(scope:Scope)(C:ay):List (Str×ay):=cellsFrom (C+1) scope.names (eC X.env.cells scope.names [])
theorem kJ {X:Cx}{scope:Scope}{C:ay}{x:Str}{c:ay}(h:(gR X scope C).lookup x=some c) :
  (x,c)∈cellsFrom (C+1) scope.names []∨((∀d,(x,d)∉cellsFrom (C+1) scope.names [])/\(eC X.env.cells scope.names []).lookup x=some c):=by
 unfold gR at h;rw[iZ,qM]at h;cases e:(cellsFrom (C+1) scope.names []).lookup x with
 |some v=>rw[e]at h;cases h;exact .inl (bm3 e)
 |none=>
  rw[e]at h;refine .inr ⟨λd hd=>?_,h⟩
  obtain⟨d',z⟩:=uP hd
  rw[e]at z;cases z
theorem au6 {X:Cx}{scope:Scope}{C:ay}{x:Str}{c:ay}(hn:(x,NameKind.cell)∉scope.names)(h:(eC X.env.cells scope.names []).lookup x=some c):(gR X scope C).lookup x=some c:=by
 unfold gR;rw[iZ,qM];cases e:(cellsFrom (C+1) scope.names []).lookup x with
 |some v=>exact absurd (uO _ _ (bm3 e)) hn
 |none=>exact h
theorem C6 {X:Cx}{scope:Scope}{C:ay}{x:Str}(h:(x,NameKind.cell)∈scope.names∨∃c,(eC X.env.cells scope.names []).lookup x=some c):∃c,(gR X scope C).lookup x=some c:=by
 unfold gR;rw[iZ,qM];cases e:(cellsFrom (C+1) scope.names []).lookup x with
 |some v=>exact⟨v,rfl⟩
 |none=>
  rcases h with h|h
  ·obtain⟨c,hc⟩:=qL scope.names (C+1) h
   obtain⟨d,hd⟩:=uP hc
   rw[e]at hd;cases hd
  ·exact h
def bP (X:Cx)(scope:Scope)(N:List Str)(s:ax)(H:Hp)(C:ay)(fp:List ay)(E:av->ax->Prop):Cx:=
 { X with N:=N,s₀:=s,H₀:=H,env:=compEnvC scope (gR X scope C) C X.env,outer:=X.stack,ex:=fp,fn:=λx=>scope.names.lookup x==some .cell,pn:=[],xe:=E }
structure dL (X:Cx)(scope:Scope)(N:List Str)(fr:List (Option Nat)):Prop where
 kind:scope.kind = .function
 own:∀y∈scope.names,y.2 = .cell->scope.names.lookup y.1=some .cell
 names:∀y∈scope.names,y.2 = .local->scope.names.lookup y.1=some .local
 free:∀y∈scope.names,y.2 = .free->X.env.scope.names.lookup y.1=some .cell∨X.env.scope.names.lookup y.1=some .free
 len:fr.length=N.length
 from_:∀(i j:Nat),fr[i]? = some (some j)->∃x,N[i]? = some x/\X.N[j]? = some x/\scope.names.lookup x=some .free
section
variable {X:Cx}{ag:List (ay×Obj)}{σ:St}{H:Hp}{s:ax}{scope:Scope}{N:List Str}{fr:List (Option Nat)}
theorem dL.cells (S:dL X scope N fr)(I:a6 X ag σ H s):∀y∈scope.names,y.2 = .free->∃c,X.env.cells.lookup y.1=some c:=λy hy hk=>I.ok.has y.1 (S.free y hy hk)
theorem au7 {C D:ay}{fp:List ay}{E:av->ax->Prop}{h1:Heap}{tk:Nat}{m:Str->Option av}(S:dL X scope N fr)(I:a6 X ag σ H s)(hf:∀b∈fp,g6 X ag H b)(hfl:∀b∈fp,b<s.heap.objs.size)(hD:s.heap.objs.size<=D)(hC:s.heap.objs.size<=C)(hDC:D<C)(old:∀b o,s.heap.get? b=some o->h1.get? b=some o)(hns:h1.Ns C m)(hacc:h1.get? D=some { cls:=.type "list",data:=.seq #[] 0 })(hco:CellsOk h1 (C+1) (cellsFrom (C+1) scope.names [])) :
  a6 (bP X scope N s H C fp E) [] (gC fr σ) (upd H D (.lst [])) { s with heap:=h1,toks:=tk }:=by
 have hHD:H D=none:=I.hok.fresh hD;have cl:=S.cells I;have cs:∀{x:Str}{c:ay},(eC X.env.cells scope.names []).lookup x=some c->X.env.cells.lookup x=some c:=λ{x c} h=>qI scope.names [] cl (λ_ _ z=>by simp at z) h
 have clt:∀{x:Str}{c:ay},X.env.cells.lookup x=some c->c<s.heap.objs.size:=λ{x c} h=>by obtain⟨v,z⟩:=I.cell x c h;exact z.lt
 have nge:∀{x:Str}{c:ay},(x,c)∈cellsFrom (C+1) scope.names []->C<c:=λ{x c} h=>(hco.empty x c h).2
 refine⟨⟨I.ok.mod,?_,I.ok.glob,I.ok.blt,hC,?_,?_,?_,I.ok.hd,I.ok.frames,.inl rfl,?_,I.bs,bl2 I.ok.bsz I.sz,?_,?_,I.stack,I.stkFree⟩,rfl,I.bare,Un.laid old hD hHD,⟨m,hns,?_⟩,?_,?_,?_,λp hp=>absurd (show p∈([]:List (ay×Obj)) from hp) (by simp),?_,?_⟩
 ·exact S.kind
 ·intro x y c h1 h2
  rcases kJ h1 with a|⟨_,a⟩<;>rcases kJ h2 with b|⟨_,b⟩
  ·exact name_of_addr hco.apart a b
  ·exact absurd (bh0 (Nat.lt_trans (nge a) (clt (cs b))) hC) (bl1 _)
  ·exact absurd (bh0 (Nat.lt_trans (nge b) (clt (cs a))) hC) (bl1 _)
  ·exact I.ok.inj x y c (cs a) (cs b)
 ·intro x hx
  have hx:(relabel scope X.env).names.lookup x=some .cell∨(relabel scope X.env).names.lookup x=some .free:=hx;have fin:(x,NameKind.free)∈scope.names->∃c,(gR X scope C).lookup x=some c:=λz=>C6 (.inr (uN scope.names [] (.inl z)))
  rcases hx with hx|hx
  ·rcases qJ hx with z|z
   ·exact C6 (.inl (bm3 z))
   ·exact fin (bm3 z.1)
  ·rcases qJ hx with z|z
   ·exact fin (bm3 z)
   ·exact absurd z.2 (by decide)
 ·intro x c hx h
  have hx:(scope.names.lookup x==some NameKind.cell)=true:=hx;have hx:scope.names.lookup x=some .cell:=by simpa using hx
  rcases kJ h with a|⟨a,_⟩
  ·exact bl2 hC (bn7 (nge a))
  ·obtain⟨d,hd⟩:=qL scope.names (C+1) (bm3 hx)
   exact absurd hd (a d)
 ·intro b hb
  refine⟨bi7 (bh0 (hfl b hb) hC),λx c e=>?_⟩;rcases kJ e with a|⟨_,a⟩
  ·exact bn8 (Nat.lt_trans (bh0 (hfl b hb) hC) (nge a))
  ·exact (hf b hb).2.2.2.2.1 x c (cs a)
 ·intro b o e hb
  rcases (hf b hb).2.2.2.1 with z|z
  ·exact I.ok.noex b o e z
  ·exact absurd (bh0 (bg7 e) (bl2 I.ok.bsz z)) (bl1 _)
 ·intro b hb z
  rcases bg6.mp (I.stkSub b z) with e|e
  ·exact (hf b hb).2.1 e
  ·exact (hf b hb).2.2.1 e
 ·intro i x v e1 e2 e3
  have e2:(fr.map λo=>o.bind λj=>(σ[j]?).join)[i]? = some (some v):=e2;rw[bh5]at e2;cases ef:fr[i]? with
  |none=>rw[ef]at e2;cases e2
  |some o=>
   rw[ef]at e2;cases o with
   |none=>cases e2
   |some j=>
    have e2:some ((σ[j]?).join)=some (some v):=e2;have ej:σ[j]? = some (some v):=by
     cases q:σ[j]? with
     |none=>rw[q]at e2;cases e2
     |some w=>rw[q]at e2;cases w with
      |none=>cases e2
      |some w=>cases e2;rfl
    obtain⟨y,a1,a2,a4⟩:=S.from_ i j ef
    have e1:N[i]? = some x:=e1;rw[e1]at a1;cases a1;have a3:(x,NameKind.free)∈scope.names:=bm3 a4;have vis:jK X.env.scope x:=(S.free _ a3 rfl).elim (λz=>.inr (.inl z)) λz=>.inr (.inr z)
    obtain⟨m0,hn0,hl0⟩:=I.loc
    obtain⟨u,r,l⟩:=hl0 j x v a2 ej vis
    refine⟨u,r,.inr ⟨?_,?_⟩⟩
    ·have e3:(relabel scope X.env).names.lookup x=some .local∨(relabel scope X.env).names.lookup x=some .cell∨(relabel scope X.env).names.lookup x=some .free:=e3
     rcases e3 with z|z|z
     ·rcases qJ z with y|y
      ·rw[a4]at y;cases y
      ·exact absurd y.2 (by decide)
     ·exact .inl z
     ·exact .inr z
    ·obtain⟨c,hc⟩:=uN (cells:=X.env.cells) scope.names [] (x:=x) (.inl a3)
     refine⟨c,au6 (λz=>by have:=S.own _ z rfl;rw[a4]at this;cases this) hc,?_⟩;have hc':=cs hc;have S1:=S.free (x,.free) a3 rfl;rcases l with⟨k,_⟩|⟨_,c2,hc2,z⟩
     ·have k:X.env.scope.names.lookup x=some .local:=k
      rcases S1 with q|q<;>(have q:X.env.scope.names.lookup x=_:=q;rw[k]at q;cases q)
     ·rw[hc']at hc2;cases hc2
      obtain⟨oc,ho,hd⟩:=z
      exact⟨oc,old c oc ho,hd⟩
 ·intro x c e
  rcases kJ e with a|⟨_,a⟩
  ·exact⟨_,(hco.empty x c a).1⟩
  ·obtain⟨v,oc,ho,hd⟩:=I.cell x c (cs a)
   exact⟨v,oc,old c oc ho,hd⟩
 ·show upd H D (.lst []) C=none
  rw[aY (bn8 hDC)];exact I.hok.fresh hC
 ·intro x c e
  show upd H D (.lst []) c=none;rcases kJ e with a|⟨_,a⟩
  ·rw[aY (bn8 (Nat.lt_trans hDC (nge a)))];exact I.hok.fresh (bl2 hC (bn7 (nge a)))
  ·have q:=cs a
   rw[aY (bi7 (bh0 (clt q) hD))];exact I.freeC x c q
 ·exact I.hok.laid old hD ⟨bk7 _,[],0,.nil,hacc⟩
 ·show (gC fr σ).length=N.length
  unfold gC;rw[bf6];exact S.len
end
def kK (X:Cx)(ifs:List Expr)(t:TT):Prop:=
 ∀(ag:List (ay×Obj)) (s:ax) (σ:St) (H:Hp) (Q:Bool->Hp->Prop),a6 X ag σ H s->t σ H Q->
  wpAny (model X.prog X.w) X.A (forIn ifs true λc r=>if r=true then do let ok <- isTrue c X.env (eval c X.env);pure (ForInStep.yield ok) else pure (ForInStep.yield r)) (TP X ag σ Q) X.xe s
def C7:TT:=λ_ H Q=>Q true H
theorem au8 {X:Cx}:kK X [] C7:=λ_ _ _ H _ I h=>wpAny_tests_nil ⟨H,I,h⟩
theorem au9 {X:Cx}{c:Expr}{t:TT}(h:PT X c t):kK X [c] t:=λag s σ H Q I hq=>wpAny_tests_one (h ag s σ H Q I hq)
section
variable {prog:az}{w:bc}{A:ba}
def uQ (prog:az)(w:bc)(A:ba)(elt tg:Expr)(ifs:List Expr)(it acc:av)(env:Env)(lost:av->ax->Prop)(stop next:ax->Prop)(s:ax):Prop:=
 let M:=model prog w
 let tests:Sem Bool:=forIn ifs true λc r=>if r=true then do let ok <- isTrue c env (eval c env);pure (ForInStep.yield ok) else pure (ForInStep.yield r)
 let put:ax->Prop:=wpAny M A (eval elt env) (λx=>wpAny M A (call (.builtin "list.append") [acc,x]) (λ_=>next) lost) lost
 let taken:av->ax->Prop:=λv=>wpAny M A (letOwnedTupleGo tg it v) (λ_=>wpAny M A (assign tg env v) (λ_=>wpAny M A tests (λok s'=>if ok=true then put s' else next s') lost) lost) lost
 wpAny M A (pyNext it) (λr s'=>match r with
  |none=>stop s'
  |some v=>taken v s') lost s
theorem av0 {R:Result->ax->Prop}{s:ax}{elt tg iter:Expr}{ifs:List Expr}{scope:Scope}{pos:Pos}{it acc:av}{env:Env}(I:Nat->ax->Prop)(turn:∀n s,I n s->uQ prog w A elt tg ifs it acc env (notedBy (model prog w) A env λe=>R (.error e)) (R (.ok .next)) (λs'=>∃m,m<n/\I m s') s)(n:Nat)(h:I n s) :
  codeAny (model prog w) A (.compLoop (.ListComp elt [⟨tg,iter,ifs,0⟩] scope pos) 0 it acc env) R s:=by
 apply codeAny_loop rfl I _ n h;intro k s1 h1
 change wpAny _ A ((compTurn _ 0 it acc env).onRaise (λx=>do noteFrame x env;theTreesLotGoes x)) _ _ s1
 apply wpAny_noted;rw[compTurn_list];have t:=turn k s1 h1;unfold uQ at t;apply bf1;apply wpAny_standAt;apply bf1;refine bm8 t (λr s2 h2=>?_) λ_ _ z=>z
 cases r with
 |none=>exact bf5 h2
 |some v=>
  apply bf1;refine bm8 h2 (λ_ s3 h3=>?_) λ_ _ z=>z
  apply bf1;refine bm8 h3 (λ_ s4 h4=>?_) λ_ _ z=>z
  apply bf1;refine bm8 h4 (λok s5 h5=>?_) λ_ _ z=>z
  cases ok with
  |false=>exact bf5 ⟨rfl,h5⟩
  |true=>
   apply bf1;apply bf1;refine bm8 h5 (λx s6 h6=>?_) λ_ _ z=>z
   apply bf1;exact bm8 h6 (λ_ s7 h7=>bf5 (bf5 ⟨rfl,h7⟩)) λ_ _ z=>z
end
def C8 (g:TG)(tc:TT)(te:TE)(σ0:St)(J:It)(D:ay)(Q:VK)(W:Nat->Nat->List V->Hp->Prop):Prop:=
 ∀i m acc H',W i m acc H'->H' D=some (.lst acc)/\((J.stop i H'/\Q (.ref D) H')∨(J.go i H'/\∀x H2,J.yld i H' x H2->g x σ0 H2 λσ2 H3=>Wk σ0 σ2/\tc σ2 H3 λb H4=>
  if b=true then te σ2 H4 λv H5=>H5 D=some (.lst acc)/\acc.length<sizeLine/\∃m',m'<m/\W (i+1) m' (acc++[v]) (upd H5 D (.lst (acc++[v]))) else ∃m',m'<m/\W (i+1) m' acc H4))
section
variable {M:Model}{A:ba}{E:av→ax→Prop}{s:ax}
theorem av1 {scope:Scope}{globals:ay}{cl:List (Str×ay)}{qual:Str}{func:Option ay}{code:av}{builtins:ay}{outer:Env}{Q:Env->ax->Prop}(hQ:∀h',h'.Ns s.heap.objs.size (λ_=>none)->(∀b o,s.heap.get? b=some o->h'.get? b=some o)->CellsOk h' (s.heap.objs.size+1) (cellsFrom (s.heap.objs.size+1) scope.names [])->
   Q (newEnv scope s.heap.objs.size globals (cellsFrom (s.heap.objs.size+1) scope.names cl) qual func code (some outer) builtins) { s with heap:=h' }) :
  wpAny M A (newFunctionEnv scope globals cl [] qual func code (some outer) builtins) Q E s:=by
 simp only[newFunctionEnv,Option.isSome_some,if_true];refine bf1 (wpAny_alloc ?_);refine bf1 (wpAny_layCells _ (λname kind cells=>by cases hkc:kind==NameKind.cell<;>simp[hkc]) _ _ _ _ ?_);have ok:=cellsFrom_ok scope.names (s.heap.push { cls:=.type "dict",data:=.dict #[] }) (s.heap.objs.size+1) [] ⟨λ_ _ hm=>(nomatch hm),bs2⟩ (by rw[bu3];exact bg0 _);rw[bu3]at ok;rw[show ({ s with heap:=s.heap.push { cls:=.type "dict",data:=.dict #[] } }:ax).heap.objs.size=s.heap.objs.size+1 from bu3 ..];rw[List.forIn_nil];refine bf1 (bf5 (bf5 (hQ _ ((Heap.Ns.new s.heap (.type "dict")).keeps (pushCells_keeps _ _)) (λb o e=>pushCells_keeps _ _ b o (bf3 _ e)) ok)))
end
section
variable {X:Cx}{ag:List (ay×Obj)}{σ:St}{H:Hp}{s:ax}{scope:Scope}{N:List Str}{fr:List (Option Nat)}{tg iter elt:Expr}{ifs:List Expr}{pos:Pos}{wi:TI}{g:TG}{tc:TT}{te:TE}
structure o8 (X:Cx)(scope:Scope)(N:List Str)(tg:Expr)(ifs:List Expr)(elt:Expr)(s:ax)(H:Hp)(g:TG)(tc:TT)(te:TE):Prop where
 tg:∀(C:ay) (fp:List ay),PG (bP X scope N s H C fp λ_ _=>False) tg g
 ifs:∀(C:ay) (fp:List ay),kK (bP X scope N s H C fp λ_ _=>False) ifs tc
 elt:∀(C:ay) (fp:List ay),PE (bP X scope N s H C fp λ_ _=>False) elt te
theorem av2 {C:ay}{fp:List ay}{E:av->ax->Prop}{pins':List (ay×Obj)}{σ':St}{H':Hp}{s':ax}(I:a6 X ag σ H s)(hf:∀b∈fp,g6 X ag H b)(I':a6 (bP X scope N s H C fp E) pins' σ' H' s'):a6 X ag σ H' s':=
 I.call' (ch:=fp) I'.os I'.base I'.hok I'.bare λb hb=>⟨(hf b hb).2.2.2.1,(hf b hb).2.1,(hf b hb).2.2.2.2.1,(hf b hb).2.2.2.2.2⟩
theorem C9 {Rr:av->ay->Result->ax->Prop}{J:It}{fp:List ay}{it:ay}{tn:Nat->Heap->Prop}{Q:VK}(hc:X.calm=true)(S:dL X scope N fr)(B:o8 X scope N tg ifs elt s H g tc te)(I:a6 X ag σ H s)(T:iT X.prog X.w X.K tg J fp it tn)(hst:tn 0 s.heap)(hf:∀b∈fp,g6 X ag H b)(h:∀D,H D=none->∃W:Nat->Nat->List V->Hp->Prop,(∃m,W 0 m [] (upd H D (.lst [])))/\C8 g tc te (gC fr σ) J D Q W)(hend:∀(D C:ay) (s':ax) (H':Hp) (m:Str->Option av),s.heap.objs.size<=C->s.heap.objs.size<=D->a6 X ag σ H' s'->s'.heap.Ns C m->H' C=none->Q (.ref D) H'->Rr (.ref D) C (.ok .next) s') :
  wpAny (model X.prog X.w) X.A (newList []) (λacc s₃=>wpAny (model X.prog X.w) X.A (newFunctionEnv scope X.env.globals (eC X.env.cells scope.names []) [] X.env.qual none .none (some X.env)) (λcenv s₄=>
   codeAny (model X.prog X.w) X.A (.compStart (.ListComp elt [⟨tg,iter,ifs,0⟩] scope pos) 0 (.ref it) acc { cenv with scope:=relabel scope X.env }) (Rr acc cenv.locals) s₄) X.xe s₃) X.xe s:=by
 refine bk2 (av1 (λh₁ hns₁ keep₁ hco₁=>?_));dsimp only at hns₁ keep₁ hco₁ ⊢;generalize hH2:s.heap.push { cls:=.type "list",dict:=none,data:=.seq ([]:List av).toArray }=H2 at hns₁ keep₁ hco₁ ⊢;have hC:H2.objs.size=s.heap.objs.size+1:=by rw[<- hH2,bu3]
 have hDC:s.heap.objs.size<H2.objs.size:=by rw[hC];exact Nat.lt_succ_self _
 have hCle:s.heap.objs.size<=H2.objs.size:=by rw[hC];exact Nat.le_succ _
 have old:∀b o,s.heap.get? b=some o->h₁.get? b=some o:=λb o e=>keep₁ b o (hH2▸bf3 _ e)
 have hacc:h₁.get? s.heap.objs.size=some { cls:=.type "list",data:=.seq #[] 0 }:=keep₁ _ _ (hH2▸bg8 _ rfl);have hfl:∀b∈fp,b<s.heap.objs.size:=λb hb=>by obtain⟨o,e,_⟩:=T.obj _ _ hst b hb;exact bg7 e
 obtain⟨W,⟨m0,w0⟩,turn⟩:=h s.heap.objs.size (I.hok.fresh (bg0 _))
 have st1:tn 0 h₁:=T.keep _ _ _ hst λb _ o e=>old b o e
 have fr0:∀b∈fp,upd H s.heap.objs.size (.lst []) b=none:=λb hb=>by rw[aY (bi7 (hfl b hb))];exact (hf b hb).1
 have stat:∀{H':Hp},(∀b∈fp,H' b=none)->∀b∈fp,g6 (bP X scope N s H H2.objs.size fp λ_ _=>False) [] H' b:=λ{H'} hn b hb=>by
  have f:=hf b hb;refine⟨hn b hb,bi7 (bh0 (hfl b hb) hCle),λz=>?_,.inl hb,λx c e=>(kJ e).elim (λz=>bn8 (Nat.lt_trans (bh0 (hfl b hb) hCle) (hco₁.empty x c z).2)) λz=>f.2.2.2.2.1 x c (qI scope.names [] (S.cells I) (λ_ _ z=>by simp at z) z.2),λp hp=>absurd (show p∈([]:List (ay×Obj)) from hp) (by simp)⟩;rcases bg6.mp (I.stkSub b z) with e|e
  ·exact f.2.1 e
  ·exact f.2.2.1 e
 generalize hX:bP X scope N s H H2.objs.size fp (λ_ _=>False)=Y at stat;have I0:a6 Y [] (gC fr σ) (upd H s.heap.objs.size (.lst [])) { s with heap:=h₁ }:=hX▸au7 S I hf hfl (bg0 _) hCle hDC old hns₁ hacc hco₁;have bt:PG Y tg g:=hX▸B.tg H2.objs.size fp;have bi:kK Y ifs tc:=hX▸B.ifs H2.objs.size fp;have be:PE Y elt te:=hX▸B.elt H2.objs.size fp;have eP:Y.prog=X.prog:=by rw[<- hX];rfl
 have ew:Y.w=X.w:=by rw[<- hX];rfl
 have eK:Y.K=X.K:=by rw[<- hX];rfl
 have eA:Y.A=X.A:=by rw[<- hX];rfl
 have eE:Y.env=compEnvC scope (gR X scope H2.objs.size) H2.objs.size X.env:=by rw[<- hX];rfl
 have eX:Y.xe=λ_ _=>False:=by rw[<- hX];rfl
 have ec:Y.calm=true:=by rw[<- hX];exact hc
 have never:∀{E:av->ax->Prop} (e:av) (s':ax),Y.xe e s'->E e s':=λ{E} e s' z=>by rw[eX]at z;exact z.elim
 have out:∀{pins' σ' H' s'},a6 Y pins' σ' H' s'->a6 X ag σ H' s':=λ{_ _ _ _} I'=>av2 (C:=H2.objs.size) (E:=λ_ _=>False) (scope:=scope) (N:=N) I hf (hX▸I')
 have loop:codeAny (model X.prog X.w) X.A (.compLoop (.ListComp elt [⟨tg,iter,ifs,0⟩] scope pos) 0 (.ref it) (.ref s.heap.objs.size) (compEnvC scope (gR X scope H2.objs.size) H2.objs.size X.env))
   (Rr (.ref s.heap.objs.size) H2.objs.size) { s with heap:=h₁ }:=by
  refine av0 (λn s'=>∃i acc H',a6 Y [] (gC fr σ) H' s'/\tn i s'.heap/\(∀b∈fp,H' b=none)/\W i n acc H') ?_ m0 ⟨0,[],_,I0,st1,fr0,w0⟩;rintro n s3 ⟨i,acc,H3,I3,st3,fr3,w3⟩;unfold uQ;dsimp only
  obtain⟨hD3,step⟩:=turn i n acc H3 w3
  rcases step with⟨stop,qn⟩|⟨go,step⟩
  ·have z:=T.done Y eP ew eK ec i [] s3 _ H3 (notedBy (model X.prog X.w) X.A (compEnvC scope (gR X scope H2.objs.size) H2.objs.size X.env) λe s'=>Rr (.ref s.heap.objs.size) H2.objs.size (.error e) s') I3 (stat fr3) st3 stop
   rw[eA]at z;refine aJ z λr s4 ⟨hr,I4⟩=>?_
   subst hr
   obtain⟨m4,hn4,_⟩:=I4.loc
   rw[eE]at hn4;have f4:=I4.free;rw[eE]at f4;exact hend _ _ s4 H3 m4 hCle (bg0 _) (out I4) hn4 f4 qn
  ·have z:=T.item Y eP ew eK ec i [] s3 _ H3 (notedBy (model X.prog X.w) X.A (compEnvC scope (gR X scope H2.objs.size) H2.objs.size X.env) λe s'=>Rr (.ref s.heap.objs.size) H2.objs.size (.error e) s') I3 (stat fr3) st3 go
   rw[eA]at z;refine aJ z λr s4 ⟨u,hr,h4⟩=>?_
   subst hr;refine aJ h4 λ_ s5 ⟨x,H5,I5,r5,y5,st5,fr5⟩=>?_
   have I5':=I5.pinned (stat fr5) (T.obj _ _ st5);have q1:=bt _ s5 _ H5 x u _ I5' r5 (step x H5 y5);rw[eP,ew,eA,eE]at q1;refine bm8 q1 (λ_ s6 ⟨σ6,H6,I6,wk,q6⟩=>?_) never;have q2:=bi _ s6 σ6 H6 _ I6 q6;rw[eP,ew,eA,eE]at q2;refine bm8 q2 (λb s7 ⟨H7,I7,q7⟩=>?_) never;have again:∀{H8:Hp}{s8:ax}{acc':List V},a6 Y ([]++nT fp s5.heap) σ6 H8 s8->(∃m',m'<n/\W (i+1) m' acc' H8)->∃m,m<n/\∃i acc H',a6 Y [] (gC fr σ) H' s8/\tn i s8.heap/\(∀b∈fp,H' b=none)/\W i m acc H':=λ{H8 s8 acc'} I8 n8=>by
    obtain⟨m',hm,w8⟩:=n8
    refine⟨m',hm,i+1,acc',H8,(I8.unpinned).weak wk.1 wk.2,T.keep _ _ _ st5 λb hb o e=>(I8.pin (b,o) (bj7 _ (bj7 _ (pX hb e)))).1,λb hb=>?_,w8⟩
    obtain⟨o,e,d⟩:=T.obj _ _ st5 b hb
    exact (I8.pin (b,o) (bj7 _ (bj7 _ (pX hb e)))).2.1
   cases b with
   |false=>
    rw[if_neg bi1]at q7 ⊢;exact again I7 q7
   |true=>
    rw[if_pos rfl]at q7 ⊢;have q3:=be _ s7 σ6 H7 _ I7 q7;rw[eP,ew,eA,eE]at q3;refine bm8 q3 (λv s8 ⟨y,H8,I8,r8,hD8,hz8,q8⟩=>?_) never;have q4:=A8 _ s8 σ6 H8 (.ref s.heap.objs.size) [y] (.ref s.heap.objs.size) [v] (λ_ H9=>∃m',m'<n/\W (i+1) m' (acc++[y]) H9) I8 rfl (.cons r8 .nil) ⟨_,_,_,rfl,rfl,hD8,hz8,q8⟩;rw[eP,ew,eA]at q4;exact bm8 q4 (λ_ s9 ⟨_,H9,I9,_,q9⟩=>again I9 q9) never
 exact codeAny_compStart_list loop (T.self _ 0 _ _ _ st1 loop)
end
section
variable {X:Cx}{scope:Scope}{N:List Str}{fr:List (Option Nat)}{tg iter elt:Expr}{ifs:List Expr}{pos:Pos}{wi:TI}{g:TG}{tc:TT}{te:TE}
theorem a6.drop {ag:List (ay×Obj)}{σ:St}{H H':Hp}{s s':ax}{C:ay}{h':Heap}(I0:a6 X ag σ H s)(hC:s.heap.objs.size<=C){σ':St}(I:a6 X ag σ' H' s')(hn:H' C=none)(sb:Heap.SameBut C s'.heap h'):a6 X ag σ' H' { s' with heap:=h' }:=by
 refine I.turned (t':=s'.toks) (it:=C) (λb o hb e=>(sb.2 b hb).trans e) hn (bn8 (bh0 I0.lt hC)) (.inr (bl2 I0.sz hC)) (λx c e z=>?_) λp hp z=>?_
 ·obtain⟨v,q⟩:=I0.cell x c e
  exact absurd (bh0 q.lt (by rw[z];exact hC)) (bl1 _)
 ·exact absurd (bh0 (bg7 (I0.pin p hp).1) (by rw[z];exact hC)) (bl1 _)
variable {gh:Hp→TG}{tch:Hp→TT}{teh:Hp→TE}
def uR (wi:TI)(fr:List (Option Nat))(gh:Hp->TG)(tch:Hp->TT)(teh:Hp->TE):TE:=λσ H Q=>wi σ H λJ H1=>∀D,H1 D=none->
 ∃W:Nat->Nat->List V->Hp->Prop,(∃m,W 0 m [] (upd H1 D (.lst [])))/\C8 (gh H1) (tch H1) (teh H1) (gC fr σ) J D Q W
theorem uS (hc:X.calm=true)(S:dL X scope N fr)(hi:PI X tg iter wi)(B:∀(s:ax) (H:Hp),o8 X scope N tg ifs elt s H (gh H) (tch H) (teh H))(hs:∀x,foldedSetIterable iter X.env x=pure x:=by intro _;rfl):PE X (.ListComp elt [⟨tg,iter,ifs,0⟩] scope pos) (uR wi fr gh tch teh):=by
 intro ag s σ H Q I h;rw[eval_ListComp];refine wpAny_comprehension_free (use:=none) rfl hs (C5 (S.cells I)) S.kind S.names (aJ (hi ag s σ H _ I h) λv s1 h1=>aJ h1 λitv s2 h2=>?_)
 obtain⟨it,fp,tn,J,H2,e,I2,T,st2,f2,hW⟩:=h2
 subst e;refine C9 (Rr:=λacc C=>compPost (model X.prog X.w) X.A X.xe none (EP X ag σ Q) acc C) hc S (B _ _) I2 T st2 f2 hW ?_;intro D C s' H' m hC hD I' hns hHC q
 exact⟨m,hns,λh' sb=>⟨.ref D,H',I2.drop hC I' hHC sb,rfl,q⟩⟩
theorem uT {i:Nat}{x:Str}{px spos:Pos}(hc:X.calm=true)(S:dL X scope N fr)(hi:PI X tg iter wi)(B:∀(s:ax) (H:Hp),o8 X scope N tg ifs elt s H (gh H) (tch H) (teh H))(hN:X.N.Nodup)(hix:X.N[i]? = some x)(hx:X.env.scope.names.lookup x=some .local)(hsw:swapsWith (.ListComp elt [⟨tg,iter,ifs,0⟩] scope pos) (some (.Name x px)) spos.line X.env=pure true)(hs:∀x,foldedSetIterable iter X.env x=pure x:=by intro _;rfl) :
  PS X (.Assign [.Name x px] (.ListComp elt [⟨tg,iter,ifs,0⟩] scope pos) spos) (kG (uR wi fr gh tch teh) (dC i)):=by
 intro ag s σ H D I h;rw[exec_Assign_Name_used _ _ _ _ hsw];refine bf1 (wpAny_standAt (bf1 ?_));show wpAny _ _ (do let _ <- comprehension (.ListComp elt [⟨tg,iter,ifs,0⟩] scope pos) scope X.env _ (newList []) false (eval iter X.env) (some (assign (.Name x px) X.env))) _ _ s
 refine bf1 (bm8 (wpAny_comprehension_free (Q:=λ_ s'=>SP X ag D .next s') (use:=some (assign (.Name x px) X.env)) rfl hs (C5 (S.cells I)) S.kind S.names (aJ (hi ag s σ H _ I h) λv s1 h1=>aJ h1 λitv s2 h2=>?_))
  (λ_ s' hq=>bf5 (bf5 hq)) λ_ _ e=>e)
 obtain⟨it,fp,tn,J,H2,e,I2,T,st2,f2,hW⟩:=h2
 subst e;refine C9 (Rr:=λacc C=>compPost (model X.prog X.w) X.A X.xe (some (assign (.Name x px) X.env)) (λ_ s'=>SP X ag D .next s') acc C) hc S (B _ _) I2 T st2 f2 hW ?_;intro D' C s' H' m hC hD I' hns hHC q;refine wpAny_assign_Name (yJ I' hN hix (.inl hx) (v:=.ref D') rfl (λs'' I'' sb=>?_) (.inr hx))
 obtain⟨a,sb,ha⟩:=sb
 have hCa:C≠a:=by
  rcases ha with z|z
  ·rw[z];exact bn8 (bh0 I2.lt hC)
  ·intro e;subst e
   obtain⟨v,q⟩:=I2.cell x _ z
   exact absurd (bh0 q.lt hC) (bl1 _)
 exact⟨m,hns.sameBut sb hCa,λh' sb'=>⟨_,H',I2.drop hC I'' hHC sb',q⟩⟩
end
theorem bK {H:Hp}{p:ay}(h:H p=none)(o:HO):aD H (upd H p o):=λb u q=>by rw[aY (eI q h)];exact q
end L2
namespace Srt
open PySem PySem.W PyProof.Rows
abbrev G (p:Array Nat)(i:Nat):Nat:=p.getD i 0
theorem o9 {p q:Array Nat}{i j:Nat}(h:p[i]? = q[j]?):G p i=G q j:=by
 unfold G;rw[bl7,bl7,h]
theorem uU {p:Array Nat}{i j:Nat}(hj:j<=p.size)(k:Nat):G (kas_rev p i j) k=if i<=k/\k<j then G p (i+j-1-k) else G p k:=by
 have e:=getElem?_mirror_all (i:=i) hj k;unfold kas_rev;by_cases h1:i<=k/\k<j
 ·rw[if_pos h1]at e ⊢;exact o9 e
 ·rw[if_neg h1]at e ⊢;exact o9 e
theorem av3 {p:Array Nat}{src d:Nat}(hs:src<p.size)(hd:d<=src)(k:Nat):G (bubble p src d) k=if k=src-d then G p src else if src-d<k/\k<=src then G p (k-1) else G p k:=by
 have e:=getElem?_bubble hs d hd k;by_cases h1:k=src-d
 ·rw[if_pos h1]at e ⊢;exact o9 e
 ·rw[if_neg h1]at e ⊢
  by_cases h2:src-d<k/\k<=src
  ·rw[if_pos h2]at e ⊢;exact o9 e
  ·rw[if_neg h2]at e ⊢;exact o9 e
def PP (n:Nat)(p:Array Nat):Prop:=p.toList.Perm (List.range n)
theorem PP.size {n:Nat}{p:Array Nat}(h:PP n p):p.size=n:=by
 have:=h.length_eq
 rw[bl8]at this;simpa using this
theorem PP.lt {n:Nat}{p:Array Nat}(h:PP n p){k:Nat}(hk:k<n):G p k<n:=by
 have hs:=h.size;have hk':k<p.toList.length:=by simpa[hs] using hk
 have e:G p k=p.toList[k]:=by
  unfold G;rw[bl7];simp[hs,hk]
 have m:p.toList[k]∈p.toList:=bm1 hk';rw[e];exact bj8.mp (h.mem_iff.mp m)
theorem PP.of {n:Nat}{p q:Array Nat}(h:PP n p)(e:q.Perm p):PP n q:=(Array.perm_iff_toList_perm.mp e).trans h
theorem PP.rev {n:Nat}{p:Array Nat}(h:PP n p)(i j:Nat):PP n (kas_rev p i j):=h.of (mirror_perm _ _ _ _)
theorem PP.bub {n:Nat}{p:Array Nat}(h:PP n p)(i j:Nat):PP n (bubble p i j):=h.of (bubble_perm _ _ _)
structure qN (c:Nat->Nat->Bool):Prop where
 asym:∀{i j},c i j=true->c j i=false
 ntr:∀{i j k},c i j=false->c j k=false->c i k=false
section
variable {c:Nat→Nat→Bool}(O:qN c)
def Le (c:Nat->Nat->Bool)(i j:Nat):Prop:=c j i=false
include O
theorem le_refl (i:Nat):Le c i i:=by
 unfold Le;cases h:c i i with
 |false=>rfl
 |true=>have:=O.asym h;rw[h]at this;exact this
theorem le_trans {i j k:Nat}(h1:Le c i j)(h2:Le c j k):Le c i k:=O.ntr h2 h1
theorem qO {i j:Nat}(h:c i j=true):Le c i j:=O.asym h
omit O
def fB (c:Nat->Nat->Bool)(p:Array Nat)(n:Nat):Prop:=∀a b,a<=b->b<n->Le c (G p a) (G p b)
def jO (c:Nat->Nat->Bool)(p:Array Nat)(n:Nat):Prop:=∀a b,a<=b->b<n->Le c (G p b) (G p a)
include O
theorem av4 {p:Array Nat}{n:Nat}(h:fB c p n)(h1:1<=n)(hl:Le c (G p (n-1)) (G p n)):fB c p (n+1):=λa b hab hb=>by
 by_cases hbn:b<n
 ·exact h a b hab hbn
 ·have e:b=n:=by omega
  subst e;by_cases han:a=b
  ·subst han;exact le_refl O _
  ·exact le_trans O (h a (b-1) (by omega) (by omega)) hl
theorem qP {p:Array Nat}{n:Nat}(h:jO c p n)(h1:1<=n)(hl:Le c (G p n) (G p (n-1))):jO c p (n+1):=λa b hab hb=>by
 by_cases hbn:b<n
 ·exact h a b hab hbn
 ·have e:b=n:=by omega
  subst e;by_cases han:a=b
  ·subst han;exact le_refl O _
  ·exact le_trans O hl (h a (b-1) (by omega) (by omega))
omit O
def bT {α:Type}(n:Nat)(c:Nat->Nat->Bool)(R:α->Prop):KasT α->Prop
 |.ret a=>R a
 |.ask i j k=>i<n/\j<n/\bT n c R (k (c i j))
theorem bT.mono {α:Type}{n:Nat}{R R':α->Prop}(h:∀a,R a->R' a):∀(t:KasT α),bT n c R t->bT n c R' t
 |.ret a,q=>h a q
 |.ask i j k,q=>⟨q.1,q.2.1,bT.mono h (k (c i j)) q.2.2⟩
theorem bT.bind {α β:Type}{n:Nat}{R:α->Prop}{R':β->Prop}{f:α->KasT β}(h:∀a,R a->bT n c R' (f a)):∀(t:KasT α),bT n c R t->bT n c R' (t.bind f)
 |.ret a,q=>h a q
 |.ask i j k,q=>⟨q.1,q.2.1,bT.bind h (k (c i j)) q.2.2⟩
theorem bT.run {α:Type}{n:Nat}{R:α->Prop}{I:ax->Prop}{cmp:Nat->Nat->(Bool->ax->Prop)->ax->Prop}{Q:α->ax->Prop}(hc:∀i j C s,i<n->j<n->I s->(∀s',I s'->C (c i j) s')->cmp i j C s)(hQ:∀a s,R a->I s->Q a s):∀(t:KasT α) (s:ax),I s->bT n c R t->t.kasWp cmp Q s
 |.ret a,s,hI,q=>hQ a s q hI
 |.ask i j k,s,hI,q=>hc i j _ s q.1 q.2.1 hI λs' hI'=>bT.run hc hQ (k (c i j)) s' hI' q.2.2
include O
theorem uV {n:Nat}{p:Array Nat}(hp:PP n p):∀(f m:Nat),1<=m->m+f<=n->fB c p m->bT n c (λr=>m<=r/\r<=m+f/\fB c p r/\(r<m+f->c (G p r) (G p (r-1))=true)) (kas_asc p f m)
 |0,m,_,_,h=>⟨bg0 _,bg0 _,h,λz=>absurd z (bl1 _)⟩
 |f+1,m,h1,h2,h=>by
  refine⟨hp.lt (by omega),hp.lt (by omega),?_⟩;by_cases hc:c (p.getD m 0) (p.getD (m-1) 0)=true
  ·simp only[hc,if_true]
   exact⟨bg0 _,by omega,h,λ_=>hc⟩
  ·have hc':c (p.getD m 0) (p.getD (m-1) 0)=false:=bq8.mpr hc
   simp only[hc',bh2,bl6];refine bT.mono (λr q=>⟨by omega,by omega,q.2.2.1,λz=>q.2.2.2 (by omega)⟩) _ (uV hp f (m+1) (by omega) (by omega) (av4 O h h1 hc'))
omit O
def kN (c:Nat->Nat->Bool)(i j:Nat):Prop:=Le c i j/\Le c j i
include O
theorem uW {p q:Array Nat}{n:Nat}(h:jO c p n)(e:∀k,k<n->kN c (G q k) (G p k)):jO c q n:=λa b hab hb=>
 le_trans O (e b hb).1 (le_trans O (h a b hab hb) (e a (by omega)).2)
theorem E3 {n m i:Nat}{p:Array Nat}(hp:PP n p)(hm:m<=n)(h:∀a,i<=a->a<m->kN c (G p a) (G p (m-1))):∀k,kN c (G (kas_rev p i m) k) (G p k):=λk=>by
 rw[uU (by rw[hp.size];exact hm)];by_cases hk:i<=k/\k<m
 ·rw[if_pos hk]
  have h1:=h (i+m-1-k) (by omega) (by omega);have h2:=h k hk.1 hk.2
  exact⟨le_trans O h1.1 h2.2,le_trans O h2.1 h1.2⟩
 ·rw[if_neg hk];exact⟨le_refl O _,le_refl O _⟩
omit O
def DI (c:Nat->Nat->Bool)(n:Nat)(p:Array Nat)(m q:Nat):Prop:=PP n p/\1<=m/\m<=n/\jO c p m/\q+1<=m/\∀a,m-(q+1)<=a->a<m->kN c (G p a) (G p (m-1))
include O
theorem E4 {n m q:Nat}{p:Array Nat}(h:DI c n p m q):PP n (kas_rev p (m-(q+1)) m)/\∀k,kN c (G (kas_rev p (m-(q+1)) m) k) (G p k):=
 ⟨h.1.rev _ _,E3 O h.1 h.2.2.1 h.2.2.2.2.2⟩
theorem qQ {n:Nat}:∀(f:Nat) (p:Array Nat) (m q:Nat),m+f<=n->DI c n p m q->bT n c (λr=>DI c n r.1 r.2.1 r.2.2) (kas_desc f p m q)
 |0,p,m,q,_,h=>h
 |f+1,p,m,q,hf,h=>by
  have hp:=h.1;have h1:=h.2.1;refine⟨hp.lt (by omega),hp.lt (by omega),?_⟩;by_cases hc:c (p.getD m 0) (p.getD (m-1) 0)=true
  ·simp only[hc,if_true]
   have dn:jO c p (m+1):=qP O h.2.2.2.1 h1 (qO O hc);by_cases hq:q>0
   ·simp only[hq,if_true]
    obtain⟨pr,er⟩:=E4 O h
    refine qQ f _ (m+1) 0 (by omega) ⟨pr,by omega,by omega,uW O dn λk _=>er k,by omega,λa h1 h2=>?_⟩;have e:a=m+1-1:=by omega
    rw[e];exact⟨le_refl O _,le_refl O _⟩
   ·simp only[hq,bl6]
    refine qQ f p (m+1) 0 (by omega) ⟨hp,by omega,by omega,dn,by omega,λa h1 h2=>?_⟩;have e:a=m+1-1:=by omega
    rw[e];exact⟨le_refl O _,le_refl O _⟩
  ·have hc':c (p.getD m 0) (p.getD (m-1) 0)=false:=bq8.mpr hc
   simp only[hc',bh2,bl6];refine⟨hp.lt (by omega),hp.lt (by omega),?_⟩;by_cases hd:c (p.getD (m-1) 0) (p.getD m 0)=true
   ·simp only[hd,if_true]
    exact h
   ·have hd':c (p.getD (m-1) 0) (p.getD m 0)=false:=bq8.mpr hd
    simp only[hd',bh2,bl6];have ee:kN c (G p (m-1)) (G p m):=⟨hc',hd'⟩;refine qQ f p (m+1) (q+1) (by omega) ⟨hp,by omega,by omega,qP O h.2.2.2.1 h1 ee.2,by have:=h.2.2.2.2.1;omega,λa h1 h2=>?_⟩;rw[bv5];by_cases ha:a=m
    ·rw[ha];exact⟨le_refl O _,le_refl O _⟩
    ·have z:=h.2.2.2.2.2 a (by omega) (by omega)
     exact⟨le_trans O z.1 ee.1,le_trans O ee.2 z.2⟩
omit O
def CI (c:Nat->Nat->Bool)(n:Nat)(r:Nat×Array Nat):Prop:=PP n r.2/\1<=r.1/\r.1<=n/\fB c r.2 r.1
include O
theorem E5 {n m:Nat}{p:Array Nat}(hp:PP n p)(h1:1<=m)(hm:m<=n)(h:jO c p m):bT n c (CI c n) (kas_tail3 m n p):=by
 have ha:fB c (kas_rev p 0 m) m:=λa b hab hb=>by
  rw[uU (by rw[hp.size];exact hm),uU (by rw[hp.size];exact hm),if_pos ⟨bk7 _,by omega⟩,if_pos ⟨bk7 _,hb⟩];exact h _ _ (by omega) (by omega)
 refine bT.bind (R:=λr=>m<=r/\r<=m+(n-m)/\fB c (kas_rev p 0 m) r/\_) (λr q=>?_) _ (uV O (hp.rev 0 m) (n-m) m h1 (by omega) ha)
 exact⟨hp.rev _ _,by have:=q.1;omega,by have:=q.2.1;omega,q.2.2.1⟩
theorem E6 {n m:Nat}{p:Array Nat}(hp:PP n p)(h1:1<=m)(hm:m+1<=n)(h:jO c p (m+1)):bT n c (CI c n) (kas_descPart m n p):=by
 refine bT.bind (R:=λr=>DI c n r.1 r.2.1 r.2.2) (λr q=>?_) _ (qQ O (n-(m+1)) p (m+1) 0 (by omega) ⟨hp,by omega,hm,h,by omega,λa h1 h2=>?_⟩)
 ·by_cases hq:r.2.2>0
  ·rw[if_pos hq]
   obtain⟨pr,er⟩:=E4 O q
   exact E5 O pr q.2.1 q.2.2.1 (uW O q.2.2.2.1 λk _=>er k)
  ·rw[if_neg hq]
   exact E5 O q.1 q.2.1 q.2.2.1 q.2.2.2.1
 ·have e:a=m+1-1:=by omega
  rw[e];exact⟨le_refl O _,le_refl O _⟩
theorem av5 {n:Nat}{p:Array Nat}(hp:PP n p)(hn:1<=n):bT n c (CI c n) (kas_count n p):=by
 have a1:fB c p 1:=λa b hab hb=>by
  have e1:a=0:=by omega
  have e2:b=0:=by omega
  rw[e1,e2];exact le_refl O _
 refine bT.bind (R:=λr=>1<=r/\r<=1+(n-1)/\fB c p r/\(r<1+(n-1)->c (G p r) (G p (r-1))=true)) (λm q=>?_) _ (uV O hp (n-1) 1 (bg0 _) (by omega) a1)
 obtain⟨q1,q2,q3,q4⟩:=q
 by_cases hm:(m==n)=true
 ·rw[if_pos hm]
  exact⟨hp,q1,by omega,q3⟩
 ·rw[if_neg hm]
  have hne:m≠n:=by simpa using hm
  have hc:=q4 (by omega);by_cases h1:m>1
  ·rw[if_pos h1]
   refine⟨hp.lt (by omega),hp.lt (by omega),?_⟩;by_cases hd:c (p.getD 0 0) (p.getD (m-1) 0)=true
   ·simp only[hd,if_true]
    exact⟨hp,q1,by omega,q3⟩
   ·have hd':c (p.getD 0 0) (p.getD (m-1) 0)=false:=bq8.mpr hd
    simp only[hd',bh2,bl6];have eq:∀a,0<=a->a<m->kN c (G p a) (G p (m-1)):=λa _ ha=>⟨q3 a (m-1) (by omega) (by omega),le_trans O hd' (q3 0 a (bk7 _) ha)⟩
    have er:=E3 O hp (by omega:m<=n) eq;refine E6 O (hp.rev 0 m) q1 (by omega) (uW O (p:=p) ?_ λk _=>er k);refine qP O (λa b hab hb=>?_) q1 (qO O hc);exact le_trans O (eq b (bk7 _) hb).1 (eq a (bk7 _) (by omega)).2
  ·rw[if_neg h1]
   have e:m=1:=by omega
   subst e;refine E6 O hp (bg0 _) (by omega) (qP O (λa b hab hb=>?_) (bg0 _) (qO O hc));have e1:a=0:=by omega
   have e2:b=0:=by omega
   rw[e1,e2];exact le_refl O _
theorem uX {n k:Nat}{p:Array Nat}(hp:PP n p)(hk:k<n)(ha:fB c p k):∀(f l r:Nat),l<=r->r<=k->r-l<=f->(∀a,a<l->Le c (G p a) (G p k))->(∀a,r<=a->a<k->Le c (G p k) (G p a))->
  bT n c (λl=>l<=k/\(∀a,a<l->Le c (G p a) (G p k))/\∀a,l<=a->a<k->Le c (G p k) (G p a)) (kas_place p k f l r)
 |0,l,r,h1,h2,h3,hl,hr=>⟨by omega,hl,λa h4 h5=>hr a (by omega) h5⟩
 |f+1,l,r,h1,h2,h3,hl,hr=>by
  unfold kas_place;by_cases hlr:l >= r
  ·rw[if_pos hlr]
   exact⟨by omega,hl,λa h4 h5=>hr a (by omega) h5⟩
  ·rw[if_neg hlr]
   refine⟨hp.lt hk,hp.lt (by omega),?_⟩;by_cases hc:c (p.getD k 0) (p.getD ((l+r)/2) 0)=true
   ·simp only[hc,if_true]
    exact uX hp hk ha f l ((l+r)/2) (by omega) (by omega) (by omega) hl λa h4 h5=>le_trans O (qO O hc) (ha _ _ h4 h5)
   ·have hc':c (p.getD k 0) (p.getD ((l+r)/2) 0)=false:=bq8.mpr hc
    simp only[hc',bh2,bl6];exact uX hp hk ha f ((l+r)/2+1) r (by omega) h2 (by omega) (λa h4=>le_trans O (ha a ((l+r)/2) (by omega) (by omega)) hc') hr
theorem E7 {n:Nat}:∀(f:Nat) (p:Array Nat) (k:Nat),PP n p->k+f<=n->fB c p k->bT n c (λq=>PP n q/\fB c q (k+f)) (kas_bin f p k)
 |0,p,k,hp,_,h=>⟨hp,h⟩
 |f+1,p,k,hp,hk,h=>by
  refine bT.bind (R:=λl=>l<=k/\(∀a,a<l->Le c (G p a) (G p k))/\∀a,l<=a->a<k->Le c (G p k) (G p a)) (λl q=>?_) _ (uX O hp (by omega) h k 0 k (bk7 _) (bg0 _) (by omega) (λa z=>absurd z (bp8 _)) λa h1 h2=>absurd h2 (by omega))
  obtain⟨q1,q2,q3⟩:=q
  have e:∀a,G (bubble p k (k-l)) a=if a=l then G p k else if l<a/\a<=k then G p (a-1) else G p a:=λa=>by
   rw[av3 (by rw[hp.size];omega) (by omega),show k-(k-l)=l by omega]
  refine bT.mono (λr z=>⟨z.1,by rw[show k+(f+1)=k+1+f by omega];exact z.2⟩) _ (E7 f _ (k+1) (hp.bub _ _) (by omega) λa b hab hb=>?_);rw[e,e];by_cases ha:a=l
  ·rw[if_pos ha]
   by_cases hb':b=l
   ·rw[if_pos hb'];exact le_refl O _
   ·rw[if_neg hb',if_pos (by omega)];exact q3 _ (by omega) (by omega)
  ·rw[if_neg ha]
   by_cases ha2:l<a/\a<=k
   ·rw[if_pos ha2,if_neg (by omega),if_pos (by omega)]
    exact h _ _ (by omega) (by omega)
   ·rw[if_neg ha2]
    by_cases hb':b=l
    ·rw[if_pos hb'];exact q2 a (by omega)
    ·rw[if_neg hb']
     by_cases hb2:l<b/\b<=k
     ·rw[if_pos hb2];exact h _ _ (by omega) (by omega)
     ·rw[if_neg hb2];exact h _ _ hab (by omega)
theorem E8 {n:Nat}(hn:1<=n):bT n c (λq=>PP n q/\fB c q n) (kas_sort n):=by
 have hp:PP n (List.toArray (List.range n)):=by unfold PP;simp
 refine bT.bind (R:=CI c n) (λr q=>?_) _ (av5 O hp hn)
 obtain⟨q1,q2,q3,q4⟩:=q
 by_cases h:r.1<n
 ·rw[if_pos h]
  have e:max r.1 1=r.1:=by omega
  rw[e];exact bT.mono (λp z=>⟨z.1,by rw[show r.1+(n-r.1)=n by omega]at z;exact z.2⟩) _ (E7 O (n-r.1) r.2 r.1 q1 (by omega) q4)
 ·rw[if_neg h]
  have e:r.1=n:=by omega
  exact⟨q1,by rw[e]at q4;exact q4⟩
end
end Srt
namespace L2
open PySem PySem.Spec PyProof.Rows
theorem bM.there {P:az}{w:bc}{H:Hp}{h:Heap}{a:ay}{o:HO}(x:bM P w H h a o):∃u,h.get? a=some u:=by
 cases o with
 |lst xs=>obtain⟨_,_,_,_,e⟩:=x;exact⟨_,e⟩
 |tup xs=>obtain⟨_,_,_,⟨o,e,_⟩,_⟩:=x;exact⟨_,e⟩
 |dK kvs=>obtain⟨_,_,_,_,o,_,_,e,_⟩:=x;exact⟨_,e⟩
 |dT kvs=>obtain⟨_,_,_,_,o,_,_,e,_⟩:=x;exact⟨_,e⟩
 |set S n=>obtain⟨o,_,_,_,e,_⟩:=x;exact⟨_,e⟩
 |ins C dx fs=>obtain⟨_,_,_,e,_⟩:=x;exact⟨_,e⟩
 |own y=>exact x
 |xd fs=>obtain⟨_,⟨_,_,_,e,_⟩,_⟩:=x;exact⟨_,e⟩
 |rng lo hi=>obtain⟨_,_,_,e⟩:=x;exact⟨_,e⟩
 |frz ob u=>obtain⟨e,_⟩:=x;exact⟨_,e⟩
 |tbl ps=>exact⟨_,(show h.get? a=some _ from x)⟩
 |met f y=>exact⟨_,(show h.get? a=some _ from x)⟩
 |ext φ=>obtain⟨_,z,_⟩:=x;exact z
section
variable {X:Cx}{ag:List (ay×Obj)}{σ:St}{H:Hp}{s:ax}{h':Heap}{a:ay}{o:HO}{t':Nat}
theorem a6.laidF (I:a6 X ag σ H s)(hn:s.heap.get? a=none)(k:∀b u,b≠X.env.locals->s.heap.get? b=some u->h'.get? b=some u)(ns:∀m,s.heap.Ns X.env.locals m->h'.Ns X.env.locals m)(new:bM X.prog X.w (upd H a o) h' a o):H a=none/\a6 X ag σ (upd H a o) { s with heap:=h',toks:=t' }:=by
 have hHn:H a=none:=by
  cases q:H a with
  |none=>rfl
  |some u=>obtain⟨z,e⟩:=(I.hok a u q).there;rw[hn]at e;cases e
 have ne:∀b u,s.heap.get? b=some u->b≠a:=λb u e z=>by rw[z,hn]at e;cases e
 have hL:=I.free
 refine⟨hHn,I.step (g':=s.gens) (d':=s.drawn) (ch:=[]) (λ_ z=>nomatch z) (λb o' h1 _ _ e _=>k b o' h1 e) (λb o' h1 _ _ e _=>⟨o'.slots,k b o' h1 e⟩) (λb o' _ e n=>by rw[aY (ne b o' e)];exact n) (λb o' _ e=>?_)
  (λb xs q=>by rw[aY (eI q hHn)];exact q) (λb u xs q=>by rw[aY (eI q hHn)];exact q) (λb ps q=>⟨#[],by rw[aY (eI q hHn),q];simp⟩) ns (λb u q=>?_) I.bare⟩
 ·by_cases hb:b=X.env.locals
  ·obtain⟨m,hm,_⟩:=I.loc
   obtain⟨o2,_,_,e2,_⟩:=ns m hm
   exact⟨o2,by rw[hb];exact e2⟩
  ·exact⟨o',k b o' hb e⟩
 ·by_cases hb:b=a
  ·subst hb;rw[c8]at q;cases q;exact new
  ·rw[aY hb]at q
   refine (I.hok b u q).stay (λc v hc e=>k c v ?_ e) (λc e=>by rw[aY (eI e hHn)];exact e) λc xs e=>by rw[aY (eI e hHn)];exact e
   rcases hc with z|z
   ·rw[z];intro y;rw[y,hL]at q;cases q
   ·intro y;rw[y,hL]at z;cases z
theorem a6.newsAll (I:a6 X ag σ H s){news:List (ay×Obj)}{m:Str->Option av}(hs:∀p∈lT X.base s.heap X.env.locals,p∈news)(F:Fr X.base X.env.locals h' m)(N:News X.base X.env.locals h' news) :
  ∀b o,b≠X.env.locals->s.heap.get? b=some o->h'.get? b=some o:=λb o h1 e=>by
 cases q:X.base.get? b with
 |some u=>
  have:=I.bk b u q
  rw[e]at this;cases this;exact F.keep b _ q
 |none=>exact (N (b,o) (hs _ (yH h1 q e))).1
end
theorem E9 {α:Type}{d:α}(l:List α){p:List Nat}(h:p.Perm (List.range l.length)):(p.map λi=>l.getD i d).Perm l:=by
 have e:(List.range l.length).map (λi=>l.getD i d)=l:=by
  apply List.ext_getElem
  ·simp
  ·intro i h1 h2
   simp at h1;simp[h1]
 have:=h.map λi=>l.getD i d
 rw[e]at this;exact this
theorem oA:∀{xs:List V}{us:List av} (i:Nat),i<xs.length->aI xs us->aP (xs.getD i .non) (us.getD i Value.none)
 |_,_,_,h,.nil=>by simp at h
 |_,_,0,_,.cons r _=>by simpa using r
 |_,_,i+1,h,.cons _ t=>by
  have:=oA i (by simpa using h) t
  simpa using this
theorem F0 {xs:List V}{us:List av}(r:aI xs us):∀{p:List Nat},(∀i∈p,i<xs.length)->aI (p.map λi=>xs.getD i .non) (p.map λi=>us.getD i Value.none)
 |[],_=>.nil
 |i::p,h=>.cons (oA i (h i bg1) r) (F0 r λj hj=>h j (bf9 _ hj))
theorem uY {α:Type}:∀l:List α,(l.zip l).map (·.2)=l
 |[]=>rfl
 |a::l=>by
  show a::((l.zip l).map (·.2))=a::l;rw[uY l]
theorem uZ {prog:az}{w:bc}{A:ba}{E:av->ax->Prop}{s:ax}{a:ay}{vs:List av}{n:Nat}{P:PySem.Fin->ax->Prop}(e:s.heap.get? a=some (seqObj "list" vs.toArray n))(few:vs.length<2)(q:P (.done (.ret .none)) { s with heap:=sortedHeap s.heap a vs vs.toArray }):wpAny (model prog w) A (Builtin.«list.sort» ⟨[.ref a],[]⟩) P E s:=by
 have big:vs.length<=sizeLine:=bl2 (bn7 few) (by decide);have la:=bg7 e;have c:vs.toArray.size<2:=by simpa using few
 have same:(arrOf (SortSt.mk' general' (vs.toArray.zip vs.toArray) #[] 7 none)).map (·.2)=vs.toArray:=by
  change (vs.toArray.zip vs.toArray).map (·.2)=vs.toArray
  apply Array.ext';simpa using uY vs
 obtain⟨k,ek⟩:∃k,(s.heap.update a (Obj.mapSeq λ_=>#[])).get? a=some (seqObj "list" #[] k):=⟨_,get?_update_seq e λ_=>#[]⟩
 have there:(((s.heap.update a (Obj.mapSeq λ_=>#[])).push (seqObj "tuple" vs.toArray 0)).push (seqObj "list" #[] 0)).get? a=some (seqObj "list" #[] k):=
  bf3 _ (bf3 _ ek)
 rw[list_sort_plain];apply bf1;apply listItems_at e rfl;apply bf1;refine listUpdate_at e rfl ?_ (by simpa using big) (bk7 _);apply bf1;apply seqEpoch_at ek rfl;apply bf1;refine wpAny_newTuple ?_ big;apply bf1;refine wpAny_newList ?_ (bk7 _);apply bn5;simp only[c,if_true,StateT.run_pure];apply bf1;apply bf5;apply bf1;apply bf5;apply bf1;apply seqEpoch_at there rfl;apply bf1;refine listUpdate_at there rfl ?_ (bk7 _) (by rw[same,bf8];exact Nat.le_succ_of_le big);rw[same];simp only[bne_self_eq_false,bh2,bl6];exact bf5 q
theorem F1 {prog:az}{w:bc}{A:ba}{E:av->ax->Prop}{s:ax}{l:ay}{vs:List av}{Q:av->ax->Prop}(hl:s.heap.IsList l vs.toArray)(few:vs.length<2)(q:Q (.ref (s.heap.objs.size+1)) { s with heap:=sortedAll s.heap vs vs.toArray }):wpAny (model prog w) A (call (.builtin "sorted") [.ref l]) Q E s:=by
 have big:vs.length<=sizeLine:=bl2 (bn7 few) (by decide);apply Calls.call_function_entry kind_sorted plain_sorted entry_sorted (args_sorted1 _);simp only[Builtin.«sorted»];apply bf1 (m:=checkCount "sorted" 1 1 _);apply bf5;apply bf1;refine collect_list hl ?_ big;apply bf1;refine wpAny_newList ?_ big;have one:((s.heap.push (seqObj "list" #[] 0)).update s.heap.objs.size (Obj.mapSeq (·++vs.toArray))).objs.size=s.heap.objs.size+1:=(Heap.size_update _ _ _).trans (size_push' _ _);have at1:(((s.heap.push (seqObj "list" #[] 0)).update s.heap.objs.size (Obj.mapSeq (·++vs.toArray))).push (seqObj "list" vs.toArray 0)).get? (s.heap.objs.size+1)=some (seqObj "list" vs.toArray 0):=one▸bg8 _ rfl
 change wpAny _ _ _ _ _ { s with heap:=((s.heap.push (seqObj "list" #[] 0)).update s.heap.objs.size (Obj.mapSeq (·++vs.toArray))).push (seqObj "list" vs.toArray 0) }
 rw[one];apply bf1;apply bn5;refine bk9 slot_list_sort ⟨_,at1,rfl⟩ entry_list_sort ?_ (args_list_sort _);refine uZ at1 few ⟨_,rfl,?_⟩;exact bf5 ⟨_,rfl,q⟩
theorem v3:∀{a b:ae},HT.b9 a b=true->HT.b9 b a=false
 |[],[],h=>by cases h
 |[],_::_,_=>rfl
 |_::_,[],h=>by cases h
 |x::xs,y::ys,h=>by
  rw[HT.gP]at h ⊢;by_cases e:x=y
  ·rw[if_pos e]at h;rw[if_pos e.symm];exact v3 h
  ·rw[if_neg e]at h;rw[if_neg (Ne.symm e)]
   have:=bu5 h
   exact bf7 (by omega)
theorem v4:∀{a b c:ae},HT.b9 a b=false->HT.b9 b c=false->HT.b9 a c=false
 |[],[],c,_,h=>h
 |[],_::_,_,h,_=>by cases h
 |_::_,[],[],_,_=>rfl
 |_::_,[],_::_,_,h=>by cases h
 |_::_,_::_,[],_,_=>rfl
 |x::xs,y::ys,z::zs,h1,h2=>by
  rw[HT.gP]at h1 h2 ⊢;by_cases e1:x=y
  ·rw[if_pos e1]at h1
   by_cases e2:y=z
   ·rw[if_pos e2]at h2;rw[if_pos (e1.trans e2)];exact v4 h1 h2
   ·rw[if_neg e2]at h2;rw[if_neg (by rw[e1];exact e2)];rw[e1];exact h2
  ·rw[if_neg e1]at h1
   have k1:=bt5 h1;by_cases e2:y=z
   ·rw[<- e2,if_neg e1];exact h1
   ·rw[if_neg e2]at h2
    have k2:=bt5 h2;rw[if_neg (by omega)];exact bf7 (by omega)
section
variable {prog:az}{w:bc}{A:ba}{s:ax}{Q:Bool→ax→Prop}
theorem qR:∀{us ws:List av}{xs ys:ae} (i:Nat),IntsAre us xs->IntsAre ws ys->Q (HT.b9 xs ys) s->PySem.W.KatLex prog w A true (decide (us.length<ws.length)) Q (us.zip ws) i s
 |_,_,_,_,_,.nil,.nil,h=>h
 |_,_,_,_,_,.nil,.cons _ _ _,h=>h
 |_,_,_,_,_,.cons _ _ _,.nil,h=>h
 |_,_,_,_,i,.cons (vs:=us) x t hx,.cons (vs:=ws) y u hy,h=>by
  refine PySem.W.kat_cons (wpAny_eqBool_int ?_);rw[HT.gP]at h;by_cases e:x=y
  ·rw[if_pos e]at h
   have eb:(x==y)=true:=by simpa using e
   rw[eb];refine PySem.W.kat_yes ?_;have e2:decide ((Value.int x t::us).length<(Value.int y u::ws).length)=decide (us.length<ws.length):=by simp
   rw[e2];exact qR (i+1) hx hy h
  ·rw[if_neg e]at h
   have eb:(x==y)=false:=by simpa using e
   rw[eb];refine PySem.W.kat_no ?_;cases hi:(true&&i==0) with
   |true=>exact PySem.W.kat_lt_int h
   |false=>exact PySem.W.kat_one _ _ (lt_int h)
end
def F3 (K:ac):List V->Hp->VK->Prop:=λxs H Q=>∃(a:ay) (ys:List V) (key:V->ae),xs = [.ref a]/\aT K H a ys/\ys.length<64/\(∀y∈ys,∃b,y = .ref b/\aM K H b ((key y).map V.int)/\key y≠[])/\
 ∀l (zs:List V),H l=none->zs.Perm ys->zs.Pairwise (λu v=>HT.b9 (key v) (key u)=false)->Q (.ref l) (upd H l (.lst zs))
theorem av6 {c:Nat->Nat->Bool}{R:V->V->Prop}{ys:List V}{p:Array Nat}{n:Nat}(hp:Srt.PP n p)(ha:Srt.fB c p n)(hR:∀i j,Srt.Le c i j->R (ys.getD i .non) (ys.getD j .non)) :
  (p.toList.map λi=>ys.getD i .non).Pairwise R:=by
 rw[bk6,bk8];intro i j hi hj hij;have hs:=hp.size;have h1:i<n:=by rw[<- hs];simpa using hi
 have h2:j<n:=by rw[<- hs];simpa using hj
 have q:=ha i j (bn7 hij) h2;have e:∀k (hk:k<p.toList.length),Srt.G p k=p.toList[k]:=λk hk=>by
  have hk':k<p.size:=by simpa using hk
  unfold Srt.G;rw[bl7];simp[hk']
 rw[e i hi,e j hj]at q;exact hR _ _ q
theorem av7 {X:Cx}:cU X (.builtin "sorted") (F3 X.K):=by
 intro ag s σ H xs us Q I r h
 obtain⟨a,ys,key,rfl,hs,h64,hk,q⟩:=h
 obtain⟨u,rfl,ru⟩:=iC r
 cases ru
 obtain⟨its,rv,p,hz⟩:=I.list hs
 have hl:=rv.length;by_cases h2:its.length<2
 ·
  refine F1 p.isList h2 ?_
  obtain⟨e,he⟩:=sortedAll_at s.heap its its.toArray
  have hn:s.heap.objs.size<=s.heap.objs.size+1:=Nat.le_succ _;refine⟨.ref (s.heap.objs.size+1),upd H (s.heap.objs.size+1) (.lst ys),I.laid (t':=s.toks) (λ_ _=>sortedAll_old) hn ⟨hz,its,e,rv,he⟩,rfl,q _ ys (I.hok.fresh hn) (br0 _) ?_⟩
  match ys,hl with
  |[],_=>exact bs2
  |[_],_=>exact bn0 _ _
  |_::_::_,hl=>simp at hl;omega
 ·obtain⟨m,F⟩:=I.fr
  have hL:∀{b:ay}{k:ae},aM X.K H b (k.map V.int)->b≠X.env.locals:=λ{b k} z e=>by
   obtain⟨its',_,⟨ob,e1,c1,_⟩,_⟩:=I.tuple z
   obtain⟨m',⟨o',es',ep',e2,d2,_⟩,_⟩:=I.loc
   rcases z with (z|⟨_,z⟩)|⟨o3,its3,n3,z3,zc,zd,_⟩
   ·rw[e,I.free]at z;cases z
   ·rw[e,I.free]at z;cases z
   ·have:=I.kIn b o3 z3
    rw[e,e2]at this;cases this;rw[d2]at zd;cases zd
  refine PySem.W.kat_sorted F (yI (g:=X.base) (h:=s.heap) (L:=X.env.locals)) p.isList (by omega) (by omega) λD e1 h' F' N' hD=>?_
  have keep:=I.newsAll (λp hp=>bf9 _ hp) F' N';have look:∀i,i<ys.length->∃(b:ay) (ob:Obj) (us:List av) (n:Nat),its.getD i Value.none = .ref b/\h'.get? b=some ob/\ob.cls = .type "tuple"/\ob.data = .seq us.toArray n/\IntsAre us (key (ys.getD i .non))/\key (ys.getD i .non)≠[]:=λi hi=>by
   have hy:ys.getD i .non∈ys:=by
    rw[bg5,bf4 hi];exact bm1 hi
   obtain⟨b,eb,sq,ne⟩:=hk _ hy
   have rr:=oA i hi rv;rw[eb]at rr;have rr:its.getD i Value.none = .ref b:=rr
   obtain⟨us,ru,⟨ob,e1,c1,n1,d1⟩,_⟩:=I.tuple sq
   exact⟨b,ob,us,n1,rr,keep b ob (hL sq) e1,c1,d1,iW ru,ne⟩
  have firsts:∀{xs:List V}{vs:List av},aI xs vs->(∀y∈xs,∃b,y = .ref b/\aM X.K H b ((key y).map V.int)/\key y≠[])->∃fs:List av,PySem.W.KatTups h' vs fs/\fs.length=vs.length/\∀v∈fs,∃i t,v=Value.int i t:=by
   intro xs vs r
   induction r with
   |nil=>intro _;exact⟨[],PySem.W.KatTups.nil,rfl,λ_ z=>nomatch z⟩
   |@cons x v xs vs rx rt ih=>
    intro hh
    obtain⟨fs,t1,t2,t3⟩:=ih λy hy=>hh y (bf9 _ hy)
    obtain⟨b,eb,sq,ne⟩:=hh x bg1
    subst eb;cases rx
    obtain⟨us,ru,⟨ob,e1,c1,n1,d1⟩,_⟩:=I.tuple sq
    have ia:=iW ru;generalize key (V.ref b)=kk at ia ne;cases ia with
    |nil=>exact absurd rfl ne
    |@cons n t vs0 ns0 ht=>
     exact⟨Value.int n t::fs,PySem.W.KatTups.cons (keep b ob (hL sq) e1) c1 d1 (by simp) t1,by simp[t2],λv hv=>(bg6.mp hv).elim (λz=>⟨n,t,z⟩) (t3 v)⟩
  obtain⟨fs,t1,t2,t3⟩:=firsts rv hk
  refine PySem.W.kat_kind (T:=.type "int") t1 (by omega) (λv hv=>?_) (by decide) ?_
  ·obtain⟨i,t,rfl⟩:=t3 v hv
   exact PySem.W.Looks.now
  let c:Nat->Nat->Bool:=λi j=>HT.b9 (key (ys.getD i .non)) (key (ys.getD j .non))
  have O:Srt.qN c:=⟨λh=>v3 h,λh1 h2=>v4 h1 h2⟩;have ok:=Srt.E8 (n:=its.length) O (by omega);refine Srt.bT.run (I:=λs'=>s'={ s with heap:=h' }) (λi j C s' hi hj hI hC=>?_) (λpa s' hR hI=>?_) _ _ rfl ok
  ·subst hI
   obtain⟨b1,o1,u1,n1,g1,g2,_,g4,g5,_⟩:=look i (by omega)
   obtain⟨b2,o2,u2,n2,k1,k2,_,k4,k5,_⟩:=look j (by omega)
   show wpAny _ _ (keyLt' (tuples' (Value.type "int" != Value.type "tuple")) (its.getD i Value.none) (its.getD j Value.none)) _ _ _;rw[g1,k1];have eT:(Value.type "int" != Value.type "tuple")=true:=by decide
   rw[eT];refine PySem.W.kat_lt g2 g4 k2 k4 ?_
   have:=qR (prog:=X.prog) (w:=X.w) (A:=X.A.in1.in1) (s:={ s with heap:=h' }) (Q:=C) 0 g5 k5 (hC _ rfl)
   simpa using this
  ·subst hI
   obtain⟨hp,hasc⟩:=hR
   refine PySem.W.KasFin.intro F' N' (PySem.W.UpdF.head λp hp=>bi7 (hD p hp)) λh2 cc F2 N2=>?_
   have keep2:=I.newsAll (λp hp=>bf9 _ hp) F2 N2;have hDn:s.heap.get? D=none:=by
    cases z:s.heap.get? D with
    |none=>rfl
    |some o=>
     obtain⟨_,n1,n2⟩:=N2 (D,_) bg1
     exact absurd (hD _ (yH n1 n2 z)) (bl1 _)
   have hpl:∀i∈pa.toList,i<ys.length:=λi hi=>by
    have:=bj8.mp (hp.mem_iff.mp hi);omega
   have hp':pa.toList.Perm (List.range ys.length):=by rw[hl];exact hp
   have pm:=E9 (d:=V.non) ys hp'
   obtain⟨hDo,hDL,hDb⟩:=N2 (D,_) bg1
   obtain⟨hHD,I2⟩:=I.laidF (t':=s.toks) (a:=D) (o:=.lst (pa.toList.map λi=>ys.getD i .non)) hDn keep2 (λm' hm'=>by
     have e:m'=m:=funext λnm=>Heap.Ns.agree hm' F.ns nm
     rw[e];exact F2.ns) ⟨by rw[pm.length_eq];exact hz,_,cc,F0 rv hpl,hDo⟩
   exact⟨.ref D,_,I2,rfl,q D _ hHD pm (av6 hp hasc λi j hle=>hle)⟩
end L2
namespace Raw
open PySem PySem.W PySem.Calls PyProof.Rows
def gS (h:Heap)(d:ay)(es:Array DictEntry)(ep:Nat):Prop:=∃o,h.get? d=some o/\o.ExactDict/\o.data = .dict es ep
theorem gS.ty {s:ax}{d:ay}{es:Array DictEntry}{ep:Nat}(x:gS s.heap d es ep):s.TypeIs (.ref d) "dict":=x.elim λo y=>⟨o,y.1,y.2.1.1⟩
theorem gS.lt {h:Heap}{d:ay}{es:Array DictEntry}{ep:Nat}(x:gS h d es ep):d<h.objs.size:=x.elim λ_ y=>bg7 y.1
theorem gS.keep {h h':Heap}{d:ay}{es:Array DictEntry}{ep:Nat}(x:gS h d es ep)(k:∀o,h.get? d=some o->h'.get? d=some o):gS h' d es ep:=x.elim λo y=>⟨o,k o y.1,y.2⟩
section
variable {prog:az}{w:bc}{A:ba}{E:av→ax→Prop}{s:ax}{d it:ay}{es:Array DictEntry}{ep i:Nat}
theorem made (far:(d==sysModules)=false)(x:gS s.heap d es ep){Q:av->ax->Prop}(q:Q (.ref s.heap.objs.size) { s with heap:=s.heap.push { cls:=.type "dict_keyiterator",data:=.fields #[.ref d,.int 0 0,.int es.size 0,.int ep 0] } }):wpAny (model prog w) A (pyIter (.ref d)) Q E s:=by
 have T:=x.ty
 obtain⟨o,e1,e2,e3⟩:=x
 apply wpAny_pyIter_slot T PySem.F.slot_dict_iter;apply bk9 PySem.F.slot_dict_iter T PySem.F.entry_dict_iter _ (PySem.F.args_dict_iter_1 _);simp only[Builtin.«dict.__iter__»,Builtin.Dict.dictSlotNone];apply bf1;apply bf1;apply wpAny_notOrdered_dict T;apply bf5
 change wpAny _ _ (Builtin.Dict.showsAll d >>= _) _ _ s
 have far':Builtin.Dict.showsAll d=pure ():=by
  unfold Builtin.Dict.showsAll;simp only[far,bh2,bl6]
 rw[far',pure_bind];apply bf1;apply wpAny_dictEntries e1 e3;apply bf1;apply wpAny_dictEpoch e1 e3;apply bf1;refine bk2 (bf5 ?_);refine⟨.ref s.heap.objs.size,rfl,"dict_keyiterator",_,⟨_,bg8 _ rfl,rfl⟩,PySem.F.slot_dict_keyiterator_next.lookup,?_⟩;simpa only[rawInt] using q
theorem turn (hh:A.handled=none)(hi:s.heap.IsKeyIter it d i es.size ep)(x:gS s.heap d es ep){Q:Option av->ax->Prop}(yes:∀(lt:i<es.size) h',h'.IsKeyIter it d (i+1) es.size ep->Heap.SameBut it s.heap h'->Q (some es[i].key) { s with heap:=h' })(no:es.size<=i->∀h',Heap.ExtBut it s.heap h'->Q none { s with heap:=h' }):wpAny (model prog w) A (pyNext (.ref it)) Q E s:=by
 have T:=hi.typeIs
 obtain⟨oi,f1,f2,f3⟩:=hi
 obtain⟨o,e1,e2,e3⟩:=x
 have slot:=PySem.F.slot_dict_keyiterator_next;have plain:Builtin.Dict_items.ownsTuple "dict_keyiterator" = false:=by decide
 have isref:(Value.ref d==Value.none)=false:=rfl;have nn:¬(i:Int)<0:=by omega
 unfold pyNext;apply bf1;apply bv2;apply bl5 (name:=Str.ofString "__next__") T slot;apply bk9 slot T PySem.F.entry_dict_keyiterator_next _ (PySem.F.args_dict_keyiterator_next_1 _);apply bf1;apply bf5;apply bf1;apply bf1;apply bf1
 first
  |apply wpAny_typeNameOfWhole_keyiter T
  |apply wpAny_typeNameOf_keyiter T
 apply bf5;apply bf1;apply wpAny_fieldsOf f1 f3;simp only[plain,bh2,bl6]
 change wpAny _ _ (if (Value.ref d==Value.none)=true then _ else _) _ _ s
 have adr:Builtin.Dict_items.addrOf (Value.ref d)=pure d:=rfl;simp only[isref,bh2,bl6,adr,pure_bind];apply bf1;apply wpAny_dictEntries e1 e3;simp only[bne_self_eq_false,bh2,bl6];apply bf1;apply wpAny_dictEpoch e1 e3;simp only[bne_self_eq_false,bh2,bl6];apply bf5;simp only[nn,bl6,bw0];by_cases lt:i<es.size
 ·simp only[bj2 lt]
  apply bf1;apply bf1
  first
   |apply wpAny_typeNameOfWhole_keyiter T
   |apply wpAny_typeNameOf_keyiter T
  apply bf5;apply bf1;apply wpAny_isOneOf_keyiter T
  change wpAny _ _ (setField (.ref it) 1 (rawInt ((i:Int)+1)) >>= _) _ _ s
  apply bf1;refine bs3 f1 f3 (by simp) ?_;have again:(s.heap.update it (Obj.mapFields (·.setIfInBounds 1 (rawInt ((i:Int)+1))))).IsKeyIter it d (i+1) es.size ep:=by
   refine⟨_,bn6 _ f1 (Obj.isFreed_of_fields (Obj.data_mapFields f3 _)),?_,?_⟩
   ·rw[Obj.cls_mapFields];exact f2
   ·rw[Obj.data_mapFields f3];simp[rawInt]
  apply bf1;apply bn5;apply bf1;refine wpAny_isOneOf_keyiter (s:={ s with heap:=s.heap.update it (Obj.mapFields (·.setIfInBounds 1 (rawInt ((i:Int)+1)))) }) again.typeIs ?_
  change wpAny _ _ (pure es[i].key) _ _ _
  apply bf5;apply bf5
  exact⟨es[i].key,rfl,bf5 (yes lt _ again (bm4 ..))⟩
 ·have ge:es.size<=i:=Nat.le_of_not_lt lt
  simp only[bs4 ge];apply bf1;apply bf1
  first
   |apply wpAny_typeNameOfWhole_keyiter T
   |apply wpAny_typeNameOf_keyiter T
  apply bf5
  change wpAny _ _ (setField (.ref it) 0 .none >>= _) _ _ s
  apply bf1;refine bs3 f1 f3 (by simp) ?_;apply bf1;simp only[newExc,newTuple];apply bf1;refine bk2 ?_ (by size_fits);apply bf1;refine wpAny_of_eq (a:=Value.none) (by first|rfl|(simp only[firstArgMember];rfl)) ?_;refine bk2 ?_ (by size_fits);unfold raiseNew;apply bf1;apply wpAny_handled;have quiet:A.in1.handled=none:=hh;rw[quiet];refine wpAny_throw ?_;apply bf1;refine wpAny_isInstance (T:="StopIteration") (b:=true) ⟨_,bg8 _ rfl,rfl⟩ isSubtype_stop ?_;exact bf5 (no ge _ (((bm4 ..).extBut.push _).push _))
theorem av8 (hh:A.handled=none)(ne:d≠it):Walks prog w A it [it,d] [it] es.size (λi v=>∃lt:i<es.size,es[i].key=v) (λi h=>h.IsKeyIter it d i es.size ep/\gS h d es ep) where
 sub:=by intro b hb;rw[bg2.mp hb];exact bg1
 frame:=by
  intro i h h' st hk
  exact⟨st.1.at (hk it bg1),st.2.keep (hk d (bf9 _ bg1))⟩
 item:=by
  intro i s Q E lt st hQ;refine turn hh st.1 st.2 (λlt' h' again sb=>?_) λge=>absurd lt (Nat.not_lt.mpr ge)
  exact hQ _ h' s.toks ⟨lt',rfl⟩ ⟨again,st.2.keep λo e=>sb.extBut d o ne e⟩ λb o hb e=>sb.extBut b o (λz=>hb (bg2.mpr z)) e
 done:=by
  intro s Q E st hQ;refine turn hh st.1 st.2 (λlt=>absurd lt (bl1 _)) λ_ h' eb=>?_
  exact hQ h' s.toks λb o hb e=>eb b o (λz=>hb (bg2.mpr z)) e
 self:=by intro i s Q E st hQ;exact wpAny_pyIter_keyiter st.1 hQ
theorem av9 (far:(d==sysModules)=false):KdlSrc prog w "dict" d d es.size (λi v=>∃lt:i<es.size,es[i].key=v) (λh=>gS h d es ep) where
 type:=λ_ x=>x.ty
 there:=λ_ x=>⟨x.lt,x.lt⟩
 keep:=λ_ _ x k=>x.keep (k d (.inl rfl))
 notList:=by decide
 notTuple:=by decide
 hint:=λ_ _ _ _ x q=>kdl_hint_dict x.ty q
 iter:=λ_ _ hh x=>⟨_,_,λ_ _ q=>made far x q,av8 hh (bi7 x.lt),⟨_,bg8 _ rfl,rfl,rfl⟩,x.keep λo e=>bf3 _ e⟩
end
end Raw
namespace L2
open PySem PySem.Spec PyProof.Rows
section
variable {X:Cx}{ag:List (ay×Obj)}{σ:St}{H:Hp}{s:ax}{a:ay}
def jP (H:Hp)(y:V)(k:List aH):Prop:=∃q,y = .ref q/\H q=some (.tup (k.map kV))
theorem aw0 {kvs:List (List aH×V)}(I:a6 X ag σ H s)(h:H a=some (.dT kvs)):∃es ep ys,Raw.gS s.heap a es ep/\(a==sysModules)=false/\Paired (jP H) ys (kvs.map (·.1))/\aI ys (es.toList.map (·.key))/\kvs.length<=sizeLine:=by
 obtain⟨z,far,xs,rel,o,es,ep,e1,e2,e3,e4,nd⟩:=(show bM X.prog X.w H s.heap a (.dT kvs) from I.hok a _ h)
 refine⟨es,ep,xs.map λq=>V.ref q.2.1,⟨o,e1,e2,e3⟩,far,?_,?_,z⟩
 ·clear e4 nd h z
  induction rel with
  |nil=>exact .nil
  |cons r rs ih=>exact .cons ⟨_,rfl,r.2.1⟩ ih
 ·rw[e4]
  clear rel e4 nd
  induction xs with
  |nil=>exact .nil
  |cons q qs ih=>exact .cons rfl ih
theorem F4 {es:Array DictEntry}{acc:Array av}(h:ItemsOf (λi v=>∃lt:i<es.size,es[i].key=v) acc es.size):acc.toList=es.toList.map (·.key):=by
 apply List.ext_getElem?;intro j;have h1:=h.1;by_cases hj:j<es.size
 ·have hj':j<acc.size:=by rw[h1];exact hj
  obtain⟨_,e⟩:=h.2 j acc[j] (by simp[hj'])
  rw[bh5];simp[hj,hj',e]
 ·have hj':¬j<acc.size:=by rw[h1];exact hj
  rw[bh5];simp[Nat.le_of_not_lt hj,Nat.le_of_not_lt hj']
end
section
variable {X:Cx}
theorem aw1:cU X (.builtin "isinstance") (λxs H Q=>∃x t n b,xs = [x,.ty n]/\fN X.K H x t/\PySem.W.kitOne X.K t (.type n)=some b/\Q (.bl b) H):=by
 intro ag s σ H xs us Q I r h
 obtain⟨x,t,n,b,rfl,ty,e,q⟩:=h
 obtain⟨u,u',rfl,ru,ru'⟩:=lZ r
 cases ru';exact an5 I ru ty e λtk=>⟨.bl b,H,I.tok tk,rfl,q⟩
end
def F6 (outer:List (Str×NameKind))(XN:List Str)(names:List (Str×NameKind))(N:List Str)(fr:List (Option Nat)):Bool:=
 names.all (λy=>!(y.2==.cell)||names.lookup y.1==some .cell)&&names.all (λy=>!(y.2==.local)||names.lookup y.1==some .local) &&
 names.all (λy=>!(y.2==.free)||(outer.lookup y.1==some .cell||outer.lookup y.1==some .free))&&fr.length==N.length &&
 (fr.zip N).all (λp=>match p.1 with
  |none=>true
  |some j=>XN[j]?==some p.2&&names.lookup p.2==some .free)
theorem dL.of {X:Cx}{scope:Scope}{N:List Str}{fr:List (Option Nat)}(hk:scope.kind = .function)(h:F6 X.env.scope.names X.N scope.names N fr=true):dL X scope N fr:=by
 unfold F6 at h;simp only[bn3]at h
 obtain⟨⟨⟨⟨h1,h2⟩,h3⟩,h4⟩,h5⟩:=h
 refine⟨hk,λy hy e=>?_,λy hy e=>?_,λy hy e=>?_,by simpa using h4,λi j e=>?_⟩
 ·have:=bq1.mp h1 y hy
  rw[e]at this;simpa using this
 ·have:=bq1.mp h2 y hy
  rw[e]at this;simpa using this
 ·have:=bq1.mp h3 y hy
  rw[e]at this;simpa using this
 ·have hl:fr.length=N.length:=by simpa using h4
  have hi:i<fr.length:=(bh8.mp e).1;have m:(some j,N[i]'(by omega))∈fr.zip N:=by
   have:(fr.zip N)[i]? = some (some j,N[i]'(by omega)):=by
    rw[List.getElem?_zip_eq_some]
    exact⟨e,by simp⟩
   exact br6 this
  have:=bq1.mp h5 _ m
  simp only[bn3,beq_iff_eq]at this
  exact⟨N[i]'(by omega),by simp,this.1,this.2⟩
def v7 (ls:aa)(k:Int):ae:=ls.flatMap λl=>(if l.1=k then [l.2] else [])++(if l.2=k then [l.1] else [])
theorem aw2 {α:Type}{xs:List α}{i:Int}{v:α}(h0:0<=i)(h:xs[i.toNat]? = some v):atI xs i=some v:=by
 have:=uH h
 rwa [show ((i.toNat:Nat):Int)=i by omega]at this
theorem qS {n:Nat}(h:n<=16000000):n<sizeLine:=by rw[sizeLine_eq];omega
theorem F7 {K:ac}{H:Hp}{p:ay}{xs:List V}(h:aT K H p xs):gQ K "list" (.ref p) H:=.inl ⟨rfl,xs,h⟩
end L2
namespace Zp
open PySem PyProof.Rows
section
variable {prog:az}{w:bc}{A:ba}{E:av→ax→Prop}{s:ax}
theorem aw3 {it t:ay}{i:Nat}{items:Array av}{x:av}{Q:av->ax->Prop}(hi:s.heap.IsTupleIter it t i)(ht:s.heap.IsTuple t items)(hx:items[i]? = some x)(q:∀h',h'.IsTupleIter it t (i+1)->Heap.SameBut it s.heap h'->Q x { s with heap:=h' }):wpAny (model prog w) A (Builtin.SmallTypes.nextOf (.ref it)) Q E s:=by
 have T:=hi.typeIs
 obtain⟨o,e1,e2,e3⟩:=hi
 obtain⟨u,f1,_,k,f3⟩:=ht
 have slot:=PySem.F.slot_tuple_iterator_next;have isref:(Value.ref t==Value.none)=false:=rfl;unfold Builtin.SmallTypes.nextOf;apply bf1;apply bl5 (name:=Str.ofString "__next__") T slot;apply bk9 slot T PySem.F.entry_tuple_iterator_next _ (PySem.F.args_tuple_iterator_next_1 _)
 change wpAny _ _ (field (.ref it) 0 >>= _) _ _ s
 apply bf1;refine bq7 e1 e3 (x:=.ref t) rfl ?_
 change wpAny _ _ (if (Value.ref t==Value.none)=true then _ else _) _ _ s
 simp only[isref,bh2,bl6]
 change wpAny _ _ (field (.ref it) 1 >>= _) _ _ s
 apply bf1;refine bq7 e1 e3 (x:=.int i 0) rfl ?_
 change wpAny _ _ (seqItems? (.ref t) >>= _) _ _ s
 apply bf1;apply bs5 f1 f3;simp only[bw0,hx];apply bf1;refine bs3 e1 e3 (by simp) ?_;apply bf5;refine⟨x,rfl,bf5 (q _ ⟨_,bn6 _ e1 (Obj.isFreed_of_fields (Obj.data_mapFields e3 _)),?_,?_⟩ (bm4 ..))⟩
 ·rw[Obj.cls_mapFields];exact e2
 ·rw[Obj.data_mapFields e3];simp[rawInt]
theorem aw4 {it t:ay}{i:Nat}{items:Array av}{Q:av->ax->Prop}(hh:A.handled=none)(hi:s.heap.IsTupleIter it t i)(ht:s.heap.IsTuple t items)(hx:items[i]? = none)(q:∀h' e,Heap.ExtBut it s.heap h'->(∃o,h'.get? e=some o/\o.cls = .type "StopIteration")->E (.ref e) { s with heap:=h' }):wpAny (model prog w) A (Builtin.SmallTypes.nextOf (.ref it)) Q E s:=by
 have T:=hi.typeIs
 obtain⟨o,e1,e2,e3⟩:=hi
 obtain⟨u,f1,_,k,f3⟩:=ht
 have slot:=PySem.F.slot_tuple_iterator_next;have isref:(Value.ref t==Value.none)=false:=rfl;unfold Builtin.SmallTypes.nextOf;apply bf1;apply bl5 (name:=Str.ofString "__next__") T slot;apply bk9 slot T PySem.F.entry_tuple_iterator_next _ (PySem.F.args_tuple_iterator_next_1 _)
 change wpAny _ _ (field (.ref it) 0 >>= _) _ _ s
 apply bf1;refine bq7 e1 e3 (x:=.ref t) rfl ?_
 change wpAny _ _ (if (Value.ref t==Value.none)=true then _ else _) _ _ s
 simp only[isref,bh2,bl6]
 change wpAny _ _ (field (.ref it) 1 >>= _) _ _ s
 apply bf1;refine bq7 e1 e3 (x:=.int i 0) rfl ?_
 change wpAny _ _ (seqItems? (.ref t) >>= _) _ _ s
 apply bf1;apply bs5 f1 f3;simp only[bw0,hx];apply bf1;apply bw6;apply bf1;refine bs3 e1 e3 (by simp) ?_;apply bf1;simp only[newExc,newTuple];apply bf1;refine bk2 ?_ (by size_fits);apply bf1;refine wpAny_of_eq (a:=Value.none) (by first|rfl|(simp only[firstArgMember];rfl)) ?_;refine bk2 ?_ (by size_fits);unfold raiseNew;apply bf1;apply wpAny_handled;have quiet:A.in1.handled=none:=hh;rw[quiet];refine wpAny_throw ?_;exact q _ _ (((bm4 ..).extBut.push _).push _) ⟨_,bg8 _ rfl,rfl⟩
theorem aw5 (hh:A.handled=none)(it t:ay)(ne:t≠it)(items:Array av):Draws prog w A it [it,t] items.size (λi v=>items[i]? = some v) (λi h=>h.IsTupleIter it t i/\h.IsTuple t items) where
 live:=λ_ _ st=>st.1.elim λo y=>⟨o,y.1⟩
 frame:=λ_ _ _ st k=>⟨st.1.at λo e=>k it bg1 o e,st.2.elim λo y=>⟨o,k t (bf9 _ bg1) o y.1,y.2⟩⟩
 item:=λi s Q E lt st q=>aw3 st.1 st.2 (bj2 lt) λh' again sb=>q _ h' s.toks (bj2 lt) ⟨again,st.2.elim λo y=>⟨o,sb.extBut t o ne y.1,y.2⟩⟩ sb
 done:=λs Q E st q=>aw4 hh st.1 st.2 (bs4 (bg0 _)) q
end
structure Ap (z TI TO i1 i2:ay)(fp1 fp2:List ay):Prop where
 TIz:TI≠z
 TOz:TO≠z
 TITO:TI≠TO
 z1:z∉fp1
 z2:z∉fp2
 o1:TO∉fp1
 o2:TO∉fp2
 t1:TI∉fp1
 t2:TI∉fp2
 m1:i1∈fp1
 m2:i2∈fp2
 n1:i1∉fp2
 n2:i2∉fp1
structure v8 (z TI TO i1 i2:ay)(St1 St2:Nat->Heap->Prop)(f0:av)(i j:Nat)(h:Heap):Prop where
 zz:IsZip h z TI TO f0
 ti:IsPair h TI (.ref i1) (.ref i2)
 to_:∃a b,IsPair h TO a b
 s1:St1 i h
 s2:St2 j h
section
variable {prog:az}{w:bc}{A:ba}{E:av→ax→Prop}{s:ax}{z TI TO i1 i2:ay}{fp1 fp2:List ay}{n1 n2:Nat}{P1 P2:Nat→av→Prop}{St1 St2:Nat→Heap→Prop}
theorem m7 (ap:Ap z TI TO i1 i2 fp1 fp2){b:ay}(h:b∉fp1):b≠i1:=λe=>h (e▸ap.m1)
theorem qT (ap:Ap z TI TO i1 i2 fp1 fp2){b:ay}(h:b∉fp2):b≠i2:=λe=>h (e▸ap.m2)
theorem item (D1:Draws prog w A.in1 i1 fp1 n1 P1 St1)(D2:Draws prog w A.in1 i2 fp2 n2 P2 St2)(ap:Ap z TI TO i1 i2 fp1 fp2){i:Nat}(l1:i<n1)(l2:i<n2)(st:v8 z TI TO i1 i2 St1 St2 .none i i s.heap){Q:Option av->ax->Prop}(q:∀x y h' tk,P1 i x->P2 i y->v8 z TI TO i1 i2 St1 St2 (rawInt s.heap.objs.size) (i+1) (i+1) h'->IsPair h' s.heap.objs.size x y->(∀c o,c≠z->c≠TO->c≠i1->c≠i2->s.heap.get? c=some o->h'.get? c=some o)->
   h'.objs.size=s.heap.objs.size+1->Q (some (.ref s.heap.objs.size)) { s with heap:=h',toks:=tk }):wpAny (model prog w) A (pyNext (.ref z)) Q E s:=by
 obtain⟨hz,hti,⟨a,b,hto⟩,h1,h2⟩:=st
 have T:s.TypeIs (.ref z) "zip":=⟨_,hz,rfl⟩;have slot:=PySem.F.slot_zip_next;unfold pyNext;apply bf1;apply bv2;apply bl5 (name:=Str.ofString "__next__") T slot;apply bk9 slot T PySem.F.entry_zip_next _ (PySem.F.args_zip_next_1 _)
 change wpAny _ _ (field (.ref z) 2 >>= _) _ _ _
 apply bf1;refine bq7 hz rfl (x:=.bool false) rfl ?_
 change wpAny _ _ (field (.ref z) 3 >>= _) _ _ _
 apply bf1;refine bq7 hz rfl (x:=.ref TI) rfl ?_;apply bf1;apply bs5 hti rfl
 change wpAny _ _ (Builtin.SmallTypes.ownedTupleIsFree (.ref z) >>= _) _ _ _
 apply bf1;unfold Builtin.SmallTypes.ownedTupleIsFree;apply bf1;refine bq7 hz rfl (x:=.none) rfl (bf5 ?_);simp only[if_true];apply bf1;apply bw6;apply bf1;refine bq7 hz rfl (x:=.ref TO) rfl ?_;apply bf1;refine bv6 hz (by simp) λg1 hz1 sb1=>?_
 have k1:∀c o,c≠z->s.heap.get? c=some o->g1.get? c=some o:=λc o c1 e=>sb1.extBut c o c1 e
 apply bf1;simp only[List.zipIdx_cons,List.zipIdx_nil,List.forIn_cons,List.forIn_nil];apply bf1;apply bf1;apply wpAny_onRaise
 change wpAny _ _ (Builtin.SmallTypes.nextOf (.ref i1) >>= _) _ _ _
 apply bf1;refine D1.item i { s with heap:=g1 } _ _ l1 (D1.frame _ _ _ h1 λc hc o e=>k1 c o (λy=>ap.z1 (y▸hc)) e) λx g2 tk2 px st1 sb2=>bf5 ?_
 have k2:∀c o,c≠z->c≠i1->s.heap.get? c=some o->g2.get? c=some o:=λc o c1 c2 e=>sb2.extBut c o c2 (k1 c o c1 e)
 have to2:IsPair g2 TO a b:=k2 _ _ ap.TOz (m7 ap ap.o1) hto;apply bf1;apply bs5 to2 rfl;apply bf1;refine wpAny_updateSeq_pair to2 λg3 to3 sb3=>?_
 have to3:IsPair g3 TO x b:=to3;apply bf1;apply wpAny_letGo;apply bf5;apply bf1;apply bf1;apply wpAny_onRaise
 change wpAny _ _ (Builtin.SmallTypes.nextOf (.ref i2) >>= _) _ _ _
 apply bf1;have k3:∀c o,c≠z->c≠i1->c≠TO->s.heap.get? c=some o->g3.get? c=some o:=λc o c1 c2 c3 e=>sb3.extBut c o c3 (k2 c o c1 c2 e)
 refine D2.item i { s with heap:=g3,toks:=tk2 } _ _ l2 (D2.frame _ _ _ h2 λc hc o e=>k3 c o (λy=>ap.z2 (y▸hc)) (λy=>ap.n1 (y▸hc)) (λy=>ap.o2 (y▸hc)) e) λy g4 tk4 py st2 sb4=>bf5 ?_
 have to4:IsPair g4 TO x b:=sb4.extBut _ _ (qT ap ap.o2) to3;apply bf1;apply bs5 to4 rfl;apply bf1;refine wpAny_updateSeq_pair to4 λg5 to5 sb5=>?_
 have to5:IsPair g5 TO x y:=to5;apply bf1;apply wpAny_letGo;apply bf5;apply bf5;apply bf1;apply bs5 to5 rfl;apply bf1;refine wpAny_newTuple ?_ (by show 2<=sizeLine;decide);have size:g5.objs.size=s.heap.objs.size:=by rw[sb5.1,sb4.1,sb3.1,sb2.1,sb1.1]
 have k5:∀c o,c≠z->c≠TO->c≠i1->c≠i2->s.heap.get? c=some o->g5.get? c=some o:=λc o c1 c2 c3 c4 e=>sb5.extBut c o c2 (sb4.extBut c o c4 (k3 c o c1 c3 c2 e))
 have z5:IsZip g5 z TI TO .ellipsis:=sb5.extBut _ _ (Ne.symm ap.TOz) (sb4.extBut _ _ (qT ap ap.z2) (sb3.extBut _ _ (Ne.symm ap.TOz) (sb2.extBut _ _ (m7 ap ap.z1) hz1)))
 change wpAny _ _ (Builtin.SmallTypes.ownedTupleHandOut (.ref z) (.ref g5.objs.size) >>= _) _ _ _
 apply bf1;unfold Builtin.SmallTypes.ownedTupleHandOut;apply bf1;have z6:IsZip (g5.push { cls:=.type "tuple",data:=.seq #[x,y] }) z TI TO .ellipsis:=bf3 _ z5;refine bv6 z6 (by simp) λg7 z7 sb7=>?_
 have z7:IsZip g7 z TI TO (rawInt g5.objs.size):=z7;refine bv6 z7 (by simp) λg8 z8 sb8=>?_
 have z8:IsZip g8 z TI TO (rawInt g5.objs.size):=z8;have zlt:z<g5.objs.size:=bg7 z5;have up:∀c o,c≠z->g5.get? c=some o->g8.get? c=some o:=λc o c1 e=>sb8.extBut c o c1 (sb7.extBut c o c1 (bf3 _ e))
 have p8:IsPair g8 g5.objs.size x y:=sb8.extBut _ _ (bn8 zlt) (sb7.extBut _ _ (bn8 zlt) (bg8 _ rfl));have s8:g8.objs.size=g5.objs.size+1:=by rw[sb8.1,sb7.1,bu3]
 have f1:St1 (i+1) g8:=D1.frame _ _ _ st1 λc hc o e=>up c o (λy=>ap.z1 (y▸hc)) (sb5.extBut c o (λy=>ap.o1 (y▸hc)) (sb4.extBut c o (λy=>ap.n2 (y▸hc)) (sb3.extBut c o (λy=>ap.o1 (y▸hc)) e)))
 have f2:St2 (i+1) g8:=D2.frame _ _ _ st2 λc hc o e=>up c o (λy=>ap.z2 (y▸hc)) (sb5.extBut c o (λy=>ap.o2 (y▸hc)) e)
 have ti8:IsPair g8 TI (.ref i1) (.ref i2):=up _ _ ap.TIz (k5 _ _ ap.TIz ap.TITO (m7 ap ap.t1) (qT ap ap.t2) hti);rw[size]at z8 p8 s8;apply bf5;refine⟨_,rfl,bf5 ?_⟩
 change Q (some (.ref g5.objs.size)) _
 rw[size];exact q x y g8 tk4 px py ⟨z8,ti8,⟨x,y,up _ _ ap.TOz to5⟩,f1,f2⟩ p8 (λc o c1 c2 c3 c4 e=>up c o c1 (k5 c o c1 c2 c3 c4 e)) s8
theorem fin (D1:Draws prog w A.in1 i1 fp1 n1 P1 St1)(D2:Draws prog w A.in1 i2 fp2 n2 P2 St2)(ap:Ap z TI TO i1 i2 fp1 fp2){i:Nat}(le:i=n1∨(i<n1/\i=n2))(st:v8 z TI TO i1 i2 St1 St2 .none i i s.heap){Q:Option av->ax->Prop}(q:∀h' tk,(∀c o,c≠z->c≠TO->c≠i1->c≠i2->s.heap.get? c=some o->h'.get? c=some o)->Q none { s with heap:=h',toks:=tk }):wpAny (model prog w) A (pyNext (.ref z)) Q E s:=by
 obtain⟨hz,hti,⟨a,b,hto⟩,h1,h2⟩:=st
 have T:s.TypeIs (.ref z) "zip":=⟨_,hz,rfl⟩;have slot:=PySem.F.slot_zip_next;unfold pyNext;apply bf1;apply bv2;apply bl5 (name:=Str.ofString "__next__") T slot;apply bk9 slot T PySem.F.entry_zip_next _ (PySem.F.args_zip_next_1 _)
 change wpAny _ _ (field (.ref z) 2 >>= _) _ _ _
 apply bf1;refine bq7 hz rfl (x:=.bool false) rfl ?_
 change wpAny _ _ (field (.ref z) 3 >>= _) _ _ _
 apply bf1;refine bq7 hz rfl (x:=.ref TI) rfl ?_;apply bf1;apply bs5 hti rfl
 change wpAny _ _ (Builtin.SmallTypes.ownedTupleIsFree (.ref z) >>= _) _ _ _
 apply bf1;unfold Builtin.SmallTypes.ownedTupleIsFree;apply bf1;refine bq7 hz rfl (x:=.none) rfl (bf5 ?_);simp only[if_true];apply bf1;apply bw6;apply bf1;refine bq7 hz rfl (x:=.ref TO) rfl ?_;apply bf1;refine bv6 hz (by simp) λg1 hz1 sb1=>?_
 have k1:∀c o,c≠z->s.heap.get? c=some o->g1.get? c=some o:=λc o c1 e=>sb1.extBut c o c1 e
 apply bf1;simp only[List.zipIdx_cons,List.zipIdx_nil,List.forIn_cons,List.forIn_nil];apply bf1;apply bf1;apply wpAny_onRaise
 change wpAny _ _ (Builtin.SmallTypes.nextOf (.ref i1) >>= _) _ _ _
 apply bf1;have z1:IsZip g1 z TI TO .ellipsis:=hz1;rcases le with rfl|⟨lt,rfl⟩
 ·refine D1.done { s with heap:=g1 } _ _ (D1.frame _ _ _ h1 λc hc o e=>k1 c o (λy=>ap.z1 (y▸hc)) e) λg2 e eb ex=>?_
  have z2:IsZip g2 z TI TO .ellipsis:=eb _ _ (m7 ap ap.z1) z1;refine bv6 z2 (by simp) λg3 z3 sb3=>?_
  obtain⟨oe,eo,co⟩:=ex
  have ne:e≠z:=λy=>by
   rw[y,z2]at eo
   have:=bj4 eo
   rw[<- this]at co;exact absurd (show Value.type "zip" = Value.type "StopIteration" from co) (by decide)
  apply bf1;refine wpAny_isInstance (T:="StopIteration") (b:=true) ⟨oe,sb3.extBut _ _ ne eo,co⟩ isSubtype_stop ?_;exact bf5 (q g3 s.toks λc o c1 _ c3 _ e=>sb3.extBut c o c1 (eb c o c3 (k1 c o c1 e)))
 ·refine D1.item i { s with heap:=g1 } _ _ lt (D1.frame _ _ _ h1 λc hc o e=>k1 c o (λy=>ap.z1 (y▸hc)) e) λx g2 tk2 px st1 sb2=>bf5 ?_
  have k2:∀c o,c≠z->c≠i1->s.heap.get? c=some o->g2.get? c=some o:=λc o c1 c2 e=>sb2.extBut c o c2 (k1 c o c1 e)
  have to2:IsPair g2 TO a b:=k2 _ _ ap.TOz (m7 ap ap.o1) hto;apply bf1;apply bs5 to2 rfl;apply bf1;refine wpAny_updateSeq_pair to2 λg3 to3 sb3=>?_
  apply bf1;apply wpAny_letGo;apply bf5;apply bf1;apply bf1;apply wpAny_onRaise
  change wpAny _ _ (Builtin.SmallTypes.nextOf (.ref i2) >>= _) _ _ _
  apply bf1;have k3:∀c o,c≠z->c≠i1->c≠TO->s.heap.get? c=some o->g3.get? c=some o:=λc o c1 c2 c3 e=>sb3.extBut c o c3 (k2 c o c1 c2 e)
  refine D2.done { s with heap:=g3,toks:=tk2 } _ _ (D2.frame _ _ _ h2 λc hc o e=>k3 c o (λy=>ap.z2 (y▸hc)) (λy=>ap.n1 (y▸hc)) (λy=>ap.o2 (y▸hc)) e) λg4 e eb ex=>?_
  have z4:IsZip g4 z TI TO .ellipsis:=eb _ _ (qT ap ap.z2) (sb3.extBut _ _ (Ne.symm ap.TOz) (sb2.extBut _ _ (m7 ap ap.z1) z1));refine bv6 z4 (by simp) λg5 z5 sb5=>?_
  obtain⟨oe,eo,co⟩:=ex
  have ne:e≠z:=λy=>by
   rw[y,z4]at eo
   have:=bj4 eo
   rw[<- this]at co;exact absurd (show Value.type "zip" = Value.type "StopIteration" from co) (by decide)
  apply bf1;refine wpAny_isInstance (T:="StopIteration") (b:=true) ⟨oe,sb5.extBut _ _ ne eo,co⟩ isSubtype_stop ?_;exact bf5 (q g5 tk2 λc o c1 c2 c3 c4 e=>sb5.extBut c o c1 (eb c o c4 (k3 c o c1 c3 c2 e)))
end
def gD (h:Heap)(t u:ay):Heap:=
 ((((h.push { cls:=.type "tuple_iterator",data:=.fields #[.ref t,.int 0 0] }).push { cls:=.type "tuple_iterator",data:=.fields #[.ref u,.int 0 0] }).push { cls:=.type "tuple",data:=.seq #[.ref h.objs.size,.ref (h.objs.size+1)] }).push
  { cls:=.type "tuple",data:=.seq #[.none,.none] }).push { cls:=.type "zip",data:=.fields #[.none,.bool false,.bool false,.ref (h.objs.size+2),.ref (h.objs.size+3)] }
theorem aw6 (t u:ay)(xs ys:Array av):Meets (Builtin.«zip.__new__» ⟨[.type "zip",.ref t,.ref u],[]⟩) (λ_ R s=>s.heap.IsTuple t xs/\s.heap.IsTuple u ys/\R (.ok (.ret (.ref (s.heap.objs.size+4)))) { s with heap:=gD s.heap t u }):=
 .of_wp λprog w A R s h=>by
  obtain⟨hp,g,d,tk,os⟩:=s
  obtain⟨ht,hu,h⟩:=h
  have sub:=sub_zip;have a1:Heap.IsTuple (Shared.heap ⟨hp,g,d,tk,os⟩) t xs:=ht;have a2:Heap.IsTuple (Shared.heap ⟨hp.push { cls:=.type "tuple_iterator",data:=.fields #[.ref t,.int 0 0] },g,d,tk,os⟩) u ys:=hu.elim λo y=>⟨o,bf3 _ y.1,y.2⟩
  wp_walk using wpAny_pyIter_tuple a1,wpAny_pyIter_tuple a2
  have e:∀(o:Obj) (k:Heap),(k.push o).objs.size=k.objs.size+1:=λo k=>bu3 ..
  refine⟨_,rfl,?_⟩;simp only[gD,e]at h ⊢;exact h
section
variable {prog:az}{w:bc}{A:ba}{E:av→ax→Prop}{s:ax}
theorem aw7 {t u:ay}{xs ys:Array av}{Q:av->ax->Prop}(ht:s.heap.IsTuple t xs)(hu:s.heap.IsTuple u ys)(q:∀h',IsZip h' (s.heap.objs.size+4) (s.heap.objs.size+2) (s.heap.objs.size+3) .none->IsPair h' (s.heap.objs.size+2) (.ref s.heap.objs.size) (.ref (s.heap.objs.size+1))->
   IsPair h' (s.heap.objs.size+3) .none .none->h'.IsTupleIter s.heap.objs.size t 0->h'.IsTupleIter (s.heap.objs.size+1) u 0->(∀c o,s.heap.get? c=some o->h'.get? c=some o)->Q (.ref (s.heap.objs.size+4)) { s with heap:=h' }) :
  wpAny (model prog w) A (call (.type "zip") [.ref t,.ref u]) Q E s:=by
 refine callType_new PySem.F.called_zip (by decide) (PySem.F.typeCall_zip_2 _ _) (PySem.F.newCall_zip_2 _ _) (λobj=>PySem.F.args_object_init_3 obj _ _) PySem.F.entry_zip_new (aw6 t u xs ys) ⟨ht,hu,?_⟩;have e:∀(o:Obj) (k:Heap),(k.push o).objs.size=k.objs.size+1:=λo k=>bu3 ..
 have p0:∀(k:Heap) (o:Obj) (m:Nat),o.isFreed=false->m=k.objs.size->(k.push o).get? m=some o:=λk o m f z=>by rw[z];exact bg8 _ f
 have g0:(gD s.heap t u).get? s.heap.objs.size=some { cls:=.type "tuple_iterator",data:=.fields #[.ref t,.int 0 0] }:=by
  unfold gD;exact bf3 _ (bf3 _ (bf3 _ (bf3 _ (p0 _ _ _ rfl rfl))))
 have g1:(gD s.heap t u).get? (s.heap.objs.size+1)=some { cls:=.type "tuple_iterator",data:=.fields #[.ref u,.int 0 0] }:=by
  unfold gD;exact bf3 _ (bf3 _ (bf3 _ (p0 _ _ _ rfl (by simp only[e]))))
 have g2:(gD s.heap t u).get? (s.heap.objs.size+2)=some { cls:=.type "tuple",data:=.seq #[.ref s.heap.objs.size,.ref (s.heap.objs.size+1)] }:=by
  unfold gD;exact bf3 _ (bf3 _ (p0 _ _ _ rfl (by simp only[e])))
 have g3:(gD s.heap t u).get? (s.heap.objs.size+3)=some { cls:=.type "tuple",data:=.seq #[.none,.none] }:=by
  unfold gD;exact bf3 _ (p0 _ _ _ rfl (by simp only[e]))
 have g4:(gD s.heap t u).get? (s.heap.objs.size+4)=some { cls:=.type "zip",data:=.fields #[.none,.bool false,.bool false,.ref (s.heap.objs.size+2),.ref (s.heap.objs.size+3)] }:=by
  unfold gD;exact p0 _ _ _ rfl (by simp only[e])
 refine⟨⟨_,g4,rfl⟩,q _ g4 g2 g3 ⟨_,g0,rfl,rfl⟩ ⟨_,g1,rfl,rfl⟩ λc o z=>?_⟩;unfold gD;exact bf3 _ (bf3 _ (bf3 _ (bf3 _ (bf3 _ z))))
end
end Zp
namespace L2
open PySem PySem.Spec PyProof.Rows
def v9 (K:ac)(a b:ay):It:=
  ⟨λi H=>∃xs ys x y,aM K H a xs/\aM K H b ys/\xs[i]? = some x/\ys[i]? = some y,
   λi H v H'=>∃T x y,H T=none/\v = .ref T/\H'=upd H T (.tup [x,y])/\∀xs ys,aM K H a xs->aM K H b ys->xs[i]? = some x/\ys[i]? = some y,
   λi H=>∃xs ys,aM K H a xs/\aM K H b ys/\(i=xs.length∨(i<xs.length/\i=ys.length))⟩
def Sq (t:Bool)(K:ac)(H:Hp)(a:ay)(xs:List V):Prop:=match t with
 |true=>aM K H a xs
 |false=>aT K H a xs
def gE (t:Bool)(h:Heap)(i a:ay)(n:Nat):Prop:=match t with
 |true=>h.IsTupleIter i a n
 |false=>h.IsListIter i a n
def F8 (t:Bool)(h:Heap)(a:ay)(xs:Array av):Prop:=match t with
 |true=>h.IsTuple a xs
 |false=>h.IsList a xs
theorem gE.at {h h':Heap}{i a:ay}{n:Nat}:∀{t:Bool},gE t h i a n->(∀o,h.get? i=some o->h'.get? i=some o)->gE t h' i a n
 |true,x,k=>Heap.IsTupleIter.at x k
 |false,x,k=>Heap.IsListIter.at x k
theorem gE.ob {h:Heap}{i a:ay}{n:Nat}:∀{t:Bool},gE t h i a n->∃o,h.get? i=some o/\∀v,o.data≠.cell v
 |true,⟨o,f,_,d⟩=>⟨o,f,λv q=>by rw[d]at q;cases q⟩
 |false,⟨o,f,_,d⟩=>⟨o,f,λv q=>by rw[d]at q;cases q⟩
theorem gE.draws {prog:az}{w:bc}{A:ba}:∀(t:Bool) (hh:A.handled=none) (it a:ay) (ne:a≠it) (items:Array av),Draws prog w A it [it,a] items.size (λi v=>items[i]? = some v) (λi h=>gE t h it a i/\F8 t h a items)
 |true,hh,it,a,ne,items=>Zp.aw5 hh it a ne items
 |false,hh,it,a,ne,items=>Draws.list hh it a ne items
section
variable {X:Cx}{ag:List (ay×Obj)}{σ:St}{H:Hp}{s:ax}{a:ay}{xs ys:List V}
theorem Sq.get (I:a6 X ag σ H s):∀{t:Bool},Sq t X.K H a xs->∃us,aI xs us/\F8 t s.heap a us.toArray
 |true,h=>by obtain⟨us,r,p,_⟩:=I.tuple h;exact⟨us,r,p⟩
 |false,h=>by obtain⟨us,r,p,_⟩:=I.list h;exact⟨us,r,p.isList⟩
theorem Sq.inj (I:a6 X ag σ H s):∀{t:Bool},Sq t X.K H a xs->Sq t X.K H a ys->xs=ys
 |true,h,g=>I.tuple_inj h g
 |false,h,g=>I.list_inj h g
theorem Sq.off (I:a6 X ag σ H s)(he:H a=none)(hb:X.base.get? a=none):∀{t:Bool},Sq t X.K H a xs->False
 |true,h=>by
  rcases h with (h|⟨_,h⟩)|⟨o,_,_,h,_⟩
  ·rw[he]at h;cases h
  ·rw[he]at h;cases h
  ·have:=I.ok.mod.kin a o h
   rw[hb]at this;cases this
 |false,h=>by
  rcases h with (h|⟨_,h⟩)|⟨o,_,_,h,_⟩
  ·rw[he]at h;cases h
  ·rw[he]at h;cases h
  ·have:=I.ok.mod.kin a o h
   rw[hb]at this;cases this
end
def aw8 (t1 t2:Bool)(K:ac)(a b:ay):It:=
  ⟨λi H=>∃xs ys x y,Sq t1 K H a xs/\Sq t2 K H b ys/\xs[i]? = some x/\ys[i]? = some y,
   λi H v H'=>∃T x y,H T=none/\v = .ref T/\H'=upd H T (.tup [x,y])/\∀xs ys,Sq t1 K H a xs->Sq t2 K H b ys->xs[i]? = some x/\ys[i]? = some y,
   λi H=>∃xs ys,Sq t1 K H a xs/\Sq t2 K H b ys/\(i=xs.length∨(i<xs.length/\i=ys.length))⟩
structure vA (t1 t2:Bool)(z TI TO i1 i2 a b:ay)(i:Nat)(h:Heap):Prop where
 zz:IsZip h z TI TO .none
 ti:IsPair h TI (.ref i1) (.ref i2)
 to_:∃x y,IsPair h TO x y
 s1:gE t1 h i1 a i
 s2:gE t2 h i2 b i
theorem F9 (t1 t2:Bool){P:az}{w:bc}{K:ac}{elts:List Expr}{k:Nat}{pos:Pos}(a b z TI TO i1 i2:ay)(d:[z,TI,TO,i1,i2].Nodup) :
  iT P w K (.Tuple elts k pos) (aw8 t1 t2 K a b) [z,TI,TO,i1,i2] z (vA t1 t2 z TI TO i1 i2 a b):=by
 have nd:z≠TI/\z≠TO/\z≠i1/\z≠i2/\TI≠TO/\TI≠i1/\TI≠i2/\TO≠i1/\TO≠i2/\i1≠i2:=by
  simp only[bl4,bg6,bh7,bo4,not_or]at d
  obtain⟨⟨a1,a2,a3,a4⟩,⟨b1,b2,b3⟩,⟨c1,c2⟩,e1,_⟩:=d
  exact⟨a1,a2,a3,a4,b1,b2,b3,c1,c2,e1⟩
 obtain⟨n1,n2,n3,n4,n5,n6,n7,n8,n9,n10⟩:=nd
 have offBase:∀{X:Cx}{ag:List (ay×Obj)}{σ:St}{H:Hp}{s:ax},a6 X ag σ H s->(∀c∈[z,TI,TO,i1,i2],g6 X ag H c)->∀c∈[z,TI,TO,i1,i2],X.base.get? c=none:=by
  intro X ag σ H s I hf c hc;cases q:X.base.get? c with
  |none=>rfl
  |some o=>
   rcases (hf c hc).2.2.2.1 with h|h
   ·exact absurd h (I.ok.noex c o q)
   ·exact absurd (bh0 (bg7 q) (bl2 I.ok.bsz h)) (bl1 _)
 have off:∀{t:Bool}{X:Cx}{ag:List (ay×Obj)}{σ:St}{H:Hp}{s:ax}{c:ay}{zs:List V},a6 X ag σ H s->(∀c∈[z,TI,TO,i1,i2],g6 X ag H c)->Sq t X.K H c zs->c∉[z,TI,TO,i1,i2]:=by
  intro t X ag σ H s c zs I hf hc hm;exact Sq.off I (hf c hm).1 (offBase I hf c hm) hc
 have ap:∀{c e:ay},c∉[z,TI,TO,i1,i2]->e∉[z,TI,TO,i1,i2]->Zp.Ap z TI TO i1 i2 [i1,c] [i2,e]:=λ{c e} hc he=>by
  simp only[bg6,bh7,bo4,not_or]at hc he
  obtain⟨c1,c2,c3,c4,c5⟩:=hc
  obtain⟨e1,e2,e3,e4,e5⟩:=he
  have two:∀{q u v:ay},q≠u->q≠v->q∉[u,v]:=λ{q u v} h1 h2 hm=>by
   simp only[bg6,bh7,bo4]at hm;exact hm.elim h1 h2
  exact⟨n1.symm,n2.symm,n5,two n3 (Ne.symm c1),two n4 (Ne.symm e1),two n8 (Ne.symm c3),two n9 (Ne.symm e3),two n6 (Ne.symm c2),two n7 (Ne.symm e2),bg1,bg1,two n10 (Ne.symm e4),two n10.symm (Ne.symm c5)⟩
 refine⟨by simp,λi h st c hc=>?_,λi h h' st kp=>?_,?_,?_,λA i s Q E st q=>wpAny_pyIter_zip st.zz q⟩
 ·simp only[bg6,bh7,bo4]at hc
  obtain⟨x,y,to⟩:=st.to_
  rcases hc with rfl|rfl|rfl|rfl|rfl
  ·exact⟨_,st.zz,λv q=>by cases q⟩
  ·exact⟨_,st.ti,λv q=>by cases q⟩
  ·exact⟨_,to,λv q=>by cases q⟩
  ·exact st.s1.ob
  ·exact st.s2.ob
 ·obtain⟨x,y,to⟩:=st.to_
  exact⟨kp z (by simp) _ st.zz,kp TI (by simp) _ st.ti,⟨x,y,kp TO (by simp) _ to⟩,st.s1.at λo e=>kp i1 (by simp) o e,st.s2.at λo e=>kp i2 (by simp) o e⟩
 ·
  intro X hP hw hK hc i ag s σ H E I hf st hg;subst hP hw hK
  obtain⟨xs,ys,x,y,ha,hb,hx,hy⟩:=hg
  obtain⟨us,ru,pu⟩:=Sq.get I ha
  obtain⟨vs,rv,pv'⟩:=Sq.get I hb
  obtain⟨ux,eux,rux⟩:=ru.get hx
  obtain⟨vy,evy,rvy⟩:=rv.get hy
  have fa:=off I hf ha;have fb:=off I hf hb;have hh:X.A.in1.handled=none:=I.ok.hd hc;have l1:i<us.toArray.size:=by simpa using (bh8.mp eux).1
  have l2:i<vs.toArray.size:=by simpa using (bh8.mp evy).1
  have fa':a≠i1:=λq=>fa (by rw[q];simp)
  have fb':b≠i2:=λq=>fb (by rw[q];simp)
  have D1:=gE.draws t1 (prog:=X.prog) (w:=X.w) hh i1 a fa' us.toArray;have D2:=gE.draws t2 (prog:=X.prog) (w:=X.w) hh i2 b fb' vs.toArray;refine Zp.item D1 D2 (ap fa fb) l1 l2 ⟨st.zz,st.ti,st.to_,⟨st.s1,pu⟩,⟨st.s2,pv'⟩⟩ λp q h' tk hp hq st' pr kp sz=>⟨_,rfl,?_⟩
  obtain rfl:p=ux:=by
   have:us.toArray[i]? = some ux:=by simpa using eux
   rw[this]at hp;exact (bj4 hp).symm
  obtain rfl:q=vy:=by
   have:vs.toArray[i]? = some vy:=by simpa using evy
   rw[this]at hq;exact (bj4 hq).symm
  refine wpAny_letOwnedTupleGo_zip (s:={ s with heap:=h',toks:=tk }) st'.zz λg zz sb=>?_
  have hzl:z<s.heap.objs.size:=bg7 st.zz;have up:∀c o,c≠z->c≠TO->c≠i1->c≠i2->s.heap.get? c=some o->g.get? c=some o:=λc o c1 c2 c3 c4 e=>sb.extBut c o c1 (kp c o c1 c2 c3 c4 e)
  have hT:H s.heap.objs.size=none:=I.hok.fresh (bg0 _);have prG:IsPair g s.heap.objs.size p q:=sb.extBut _ _ (bn8 hzl) pr;have fpn:∀c u,H c=some u->c∉[z,TI,TO,i1,i2]:=λc u e hm=>by rw[(hf c hm).1]at e;cases e
  have upH:∀c o u,H c=some u->s.heap.get? c=some o->g.get? c=some o:=λc o u e z=>by
   have:=fpn c u e
   simp only[bg6,bh7,bo4,not_or]at this;exact up c o this.1 this.2.2.1 this.2.2.2.1 this.2.2.2.2 z
  have ns:∀m,s.heap.Ns X.env.locals m->g.Ns X.env.locals m:=λm hm=>by
   obtain⟨o,es,ep,e1,e2⟩:=hm
   exact⟨o,es,ep,up _ o (Ne.symm (hf z (by simp)).2.1) (Ne.symm (hf TO (by simp)).2.1) (Ne.symm (hf i1 (by simp)).2.1) (Ne.symm (hf i2 (by simp)).2.1) e1,e2⟩
  have I2:a6 X ag σ (upd H s.heap.objs.size (.tup [x,y])) { s with heap:=g,toks:=tk }:=by
   refine I.step (g':=s.gens) (d':=s.drawn) (ch:=[z,TO,i1,i2]) (λc hc'=>?_) (λc o _ _ hc' e _=>?_) (λc o _ _ hc' e _=>⟨o.slots,?_⟩) (λc o _ e n=>?_) (λc o hc' e=>⟨o,?_⟩)
    (λc zs e=>by rw[aY (eI e hT)];exact e) (λc u zs e=>by rw[aY (eI e hT)];exact e) (λc ps e=>⟨#[],by rw[aY (eI e hT),e];simp⟩) ns (λc u e=>?_) I.bare
   ·have hm:c∈[z,TI,TO,i1,i2]:=by
     simp only[bg6,bh7,bo4]at hc' ⊢;rcases hc' with h|h|h|h<;>simp[h]
    exact⟨(hf c hm).2.2.2.1,(hf c hm).2.1,(hf c hm).2.2.2.2.1,(hf c hm).2.2.2.2.2⟩
   ·simp only[bg6,bh7,bo4,not_or]at hc'
    exact up c o hc'.1 hc'.2.1 hc'.2.2.1 hc'.2.2.2 e
   ·simp only[bg6,bh7,bo4,not_or]at hc'
    exact up c o hc'.1 hc'.2.1 hc'.2.2.1 hc'.2.2.2 e
   ·rw[aY (bi7 (bg7 e))];exact n
   ·simp only[bg6,bh7,bo4,not_or]at hc'
    exact up c o hc'.1 hc'.2.1 hc'.2.2.1 hc'.2.2.2 e
   ·by_cases hcT:c=s.heap.objs.size
    ·subst hcT
     rw[c8]at e;cases e
     exact⟨by show 2<=sizeLine;decide,[p,q],.cons rux (.cons rvy .nil),⟨_,prG,rfl,_,rfl⟩,λu e=>by rw[prG]at e;cases e;rfl⟩
    ·rw[aY hcT]at e
     refine (I.hok c u e).stay (λc' o' hc2 q'=>?_) (λc' q'=>by rw[aY (eI q' hT)];exact q') λc' zs q'=>by rw[aY (eI q' hT)];exact q'
     rcases hc2 with rfl|hc2
     ·exact upH _ _ _ e q'
     ·exact upH _ _ _ hc2 q'
  obtain⟨x',y',to'⟩:=st'.to_
  refine⟨.ref s.heap.objs.size,_,I2,rfl,⟨_,x,y,hT,rfl,rfl,λxs' ys' ha' hb'=>?_⟩,⟨zz,sb.extBut _ _ n1.symm st'.ti,⟨x',y',sb.extBut _ _ n2.symm to'⟩,st'.s1.1.at λo e=>sb.extBut _ o n3.symm e,st'.s2.1.at λo e=>sb.extBut _ o n4.symm e⟩,λc hc'=>?_⟩
  ·rw[Sq.inj I ha' ha,Sq.inj I hb' hb];exact⟨hx,hy⟩
  ·obtain⟨o,e,_⟩:∃o,s.heap.get? c=some o/\True:=by
    simp only[bg6,bh7,bo4]at hc'
    obtain⟨x2,y2,to2⟩:=st.to_
    obtain⟨o1,f1,_⟩:=st.s1.ob
    obtain⟨o2,f2,_⟩:=st.s2.ob
    rcases hc' with rfl|rfl|rfl|rfl|rfl
    ·exact⟨_,st.zz,trivial⟩
    ·exact⟨_,st.ti,trivial⟩
    ·exact⟨_,to2,trivial⟩
    ·exact⟨_,f1,trivial⟩
    ·exact⟨_,f2,trivial⟩
   rw[aY (bi7 (bg7 e))];exact (hf c hc').1
 ·
  intro X hP hw hK hc i ag s σ H E I hf st hg;subst hP hw hK
  obtain⟨xs,ys,ha,hb,hi⟩:=hg
  obtain⟨us,ru,pu⟩:=Sq.get I ha
  obtain⟨vs,rv,pv'⟩:=Sq.get I hb
  have fa:=off I hf ha;have fb:=off I hf hb;have hh:X.A.in1.handled=none:=I.ok.hd hc;have fa':a≠i1:=λq=>fa (by rw[q];simp)
  have fb':b≠i2:=λq=>fb (by rw[q];simp)
  have D1:=gE.draws t1 (prog:=X.prog) (w:=X.w) hh i1 a fa' us.toArray;have D2:=gE.draws t2 (prog:=X.prog) (w:=X.w) hh i2 b fb' vs.toArray;have e1:=ru.length;have e2:=rv.length;refine Zp.fin D1 D2 (ap fa fb) (by simp only[bf8];omega) ⟨st.zz,st.ti,st.to_,⟨st.s1,pu⟩,⟨st.s2,pv'⟩⟩ λg tk kp=>⟨rfl,?_⟩
  have fpn:∀c u,H c=some u->c∉[z,TI,TO,i1,i2]:=λc u e hm=>by rw[(hf c hm).1]at e;cases e
  have upH:∀c o u,H c=some u->s.heap.get? c=some o->g.get? c=some o:=λc o u e z=>by
   have:=fpn c u e
   simp only[bg6,bh7,bo4,not_or]at this;exact kp c o this.1 this.2.2.1 this.2.2.2.1 this.2.2.2.2 z
  have ns:∀m,s.heap.Ns X.env.locals m->g.Ns X.env.locals m:=λm hm=>by
   obtain⟨o,es,ep,e1,e2⟩:=hm
   exact⟨o,es,ep,kp _ o (Ne.symm (hf z (by simp)).2.1) (Ne.symm (hf TO (by simp)).2.1) (Ne.symm (hf i1 (by simp)).2.1) (Ne.symm (hf i2 (by simp)).2.1) e1,e2⟩
  refine I.step (g':=s.gens) (d':=s.drawn) (ch:=[z,TO,i1,i2]) (λc hc'=>?_) (λc o _ _ hc' e _=>?_) (λc o _ _ hc' e _=>⟨o.slots,?_⟩) (λc o _ e n=>n) (λc o hc' e=>⟨o,?_⟩)
   (λc zs e=>e) (λc u zs e=>e) (λc ps e=>⟨#[],by rw[e];simp⟩) ns (λc u e=>?_) I.bare
  ·have hm:c∈[z,TI,TO,i1,i2]:=by
    simp only[bg6,bh7,bo4]at hc' ⊢;rcases hc' with h|h|h|h<;>simp[h]
   exact⟨(hf c hm).2.2.2.1,(hf c hm).2.1,(hf c hm).2.2.2.2.1,(hf c hm).2.2.2.2.2⟩
  ·simp only[bg6,bh7,bo4,not_or]at hc'
   exact kp c o hc'.1 hc'.2.1 hc'.2.2.1 hc'.2.2.2 e
  ·simp only[bg6,bh7,bo4,not_or]at hc'
   exact kp c o hc'.1 hc'.2.1 hc'.2.2.1 hc'.2.2.2 e
  ·simp only[bg6,bh7,bo4,not_or]at hc'
   exact kp c o hc'.1 hc'.2.1 hc'.2.2.1 hc'.2.2.2 e
  ·refine (I.hok c u e).stay (λc' o' hc2 q'=>?_) (λ_ q'=>q') λ_ _ q'=>q'
   rcases hc2 with rfl|hc2
   ·exact upH _ _ _ e q'
   ·exact upH _ _ _ hc2 q'
abbrev aw9:=vA true true
theorem ax0 {P:az}{w:bc}{K:ac}{elts:List Expr}{k:Nat}{pos:Pos}(a b z TI TO i1 i2:ay)(d:[z,TI,TO,i1,i2].Nodup) :
  iT P w K (.Tuple elts k pos) (v9 K a b) [z,TI,TO,i1,i2] z (aw9 z TI TO i1 i2 a b):=F9 true true a b z TI TO i1 i2 d
section
variable {X:Cx}
theorem ax1 (hc:X.calm=true):cU X (.builtin "all") (λxs H Q=>∃(a:ay) (bs:List Bool),xs = [.ref a]/\aT X.K H a (bs.map V.bl)/\Q (.bl (bs.all id)) H):=by
 intro ag s σ H xs us Q I r h
 obtain⟨a,bs,rfl,hq,q⟩:=h
 obtain⟨u,rfl,ru⟩:=iC r
 cases ru
 obtain⟨its,rv,p,hz⟩:=I.list hq
 have hl:=rv.length;rw[bf6]at hl;have hlt:a<s.heap.objs.size:=by obtain⟨o,e,_⟩:=p.isList;exact bg7 e
 refine call_all_walk (wpAny_pyIter_list p.isList ?_);have hh:X.A.in1.handled=none:=I.ok.hd hc;refine⟨s.heap.objs.size,_,_,_,_,_,λi=>bs.getD i false,rfl,Walks.list hh s.heap.objs.size a (bi7 hlt) its.toArray,⟨⟨_,bg8 _ rfl,rfl,rfl⟩,p.isList.push _⟩,?_,λh' tk kp=>?_⟩
 ·intro i v s' Q' E' hP hQ'
  have hi:its[i]? = some v:=by simpa using hP
  have hil:i<bs.length:=by rw[hl];exact (bh8.mp hi).1
  obtain⟨u,e1,e2⟩:=rv.get (i:=i) (x:=.bl bs[i]) (by simp[hil])
  rw[hi]at e1;cases e1;cases e2
  have:bs.getD i false=bs[i]:=by rw[bg5,bf4 hil];rfl
  have hQ2:Q' (bs.getD i false) s':=hQ';rw[this]at hQ2;exact bq6 hQ2
 ·have all_eq:(List.range its.toArray.size).all (λi=>bs.getD i false)=bs.all id:=by
   rw[bf8,<- hl];clear q rv hz hl hq hlt p hh kp
   induction bs with
   |nil=>rfl
   |cons b r ih=>
    rw[bj5,List.range_succ_eq_map,List.all_cons,List.all_map,List.all_cons,<- ih];rfl
  rw[all_eq];refine⟨.bl (bs.all id),H,I.kept (t':=tk) (h':=h') λb o e=>kp b o (λz=>?_) (bf3 _ e),rfl,q⟩;rw[bg2.mp z]at e;exact absurd (bg7 e) (bl1 _)
end
end L2
namespace HT
open PySem PyProof.Rows
section
variable {prog:az}{w:bc}{A:ba}{E:av→ax→Prop}{s:ax}
theorem ax2 {t sl:ay}{items:Array av}{vl vu:av}{lo hi:Option Int}{Q:av->ax->Prop}(ht:IsTup s.heap t items)(hs:s.heap.IsSliceOf sl vl vu .none)(pl:IsPart vl lo)(pu:IsPart vu hi)(h1:aV items.size 0 lo=0)(h2:aV items.size items.size hi=items.size)(h:Q (.ref t) s):wpAny (model prog w) A (getItem (.ref t) (.ref sl)) Q E s:=by
 obtain⟨o,e1,e2,e3⟩:=id hs
 have T:s.TypeIs (.ref sl) "slice":=⟨o,e1,e2⟩;unfold getItem
 try with_reducible refine bn5 ?_
 first|refine bf1 (bf5 ?_)|skip
 apply bf1;apply wpAny_sequenceKey ht.typeIs (by decide);apply bf1;apply bl5 (name:=Str.ofString "__getitem__") ht.typeIs bs9;apply bk9 bs9 ht.typeIs entry_tuple_getitem _ (args_tuple_getitem _ _)
 change wpAny _ _ (Builtin.Tuple.tupleItemsOf (.ref t) >>= _) _ _ s
 apply bf1;apply tupleItemsOf_ ht;apply bf1;apply wpAny_typeOf T;rw[if_pos (by decide)];apply bf1;apply zW hs pl pu;rw[h1,h2];have yes:((((0:Nat):Int)==0&&(1:Int)==1&&(items.size-0)==items.size)=true):=by simp
 change wpAny _ _ (if ((((0:Nat):Int)==0&&(1:Int)==1&&(items.size-0)==items.size)=true) then _ else _) _ _ s
 rw[if_pos yes];apply bf1;unfold Builtin.Tuple.tupleIsExact;apply bf1;apply wpAny_typeOf ht.typeIs;apply bf5
 change wpAny _ _ (rule "tuple.getitem.whole" >>= λ_=>ret (Value.ref t)) _ _ s
 apply bf1;apply bw6;exact bf5 ⟨_,rfl,bf5 h⟩
end
end HT
namespace L2
open PySem PySem.Spec PyProof.Rows
section
variable {X:Cx}
def ax3 (K:ac):V->Option Int->Option Int->Hp->VK->Prop:=λx lo hi H Q=>∃a xs,x = .ref a/\aM K H a xs/\(∀p,H p=none->Q (.ref p) (upd H p (.tup (hV xs lo hi))))/\(hV xs lo hi=xs->Q (.ref a) H)
theorem ax4:jN X (ax3 X.K):=by
 intro ag s σ H x v vl vu lo hi sl Q I rx hs pl pu h
 obtain⟨a,xs,ex,hx,q1,q2⟩:=h
 by_cases hw:HT.aV xs.length 0 lo=0/\HT.aV xs.length xs.length hi=xs.length
 ·subst ex
  cases rx
  obtain⟨its,r,ht,hz⟩:=I.tuple hx
  have aj:its.toArray.size=xs.length:=by rw[bf8];exact r.length.symm
  refine⟨"tuple",_,PyProof.Rows.slot_tuple_getitem.lookup,ht.typeIs,?_⟩;refine HT.ax2 ht hs pl pu (by rw[aj];exact hw.1) (by rw[aj];exact hw.2) ⟨.ref a,H,I,rfl,q2 ?_⟩;unfold hV;rw[hw.1,hw.2];simp
 ·exact ap7 ag s σ H x v vl vu lo hi sl Q I rx hs pl pu ⟨a,xs,ex,hx,hw,q1⟩
end
def vB (K:ac)(a b:ay):It:=
  ⟨λi H=>∃xs ys x y,aT K H a xs/\aT K H b ys/\xs[i]? = some x/\ys[i]? = some y,
   λi H v H'=>∃T x y,H T=none/\v = .ref T/\H'=upd H T (.tup [x,y])/\∀xs ys,aT K H a xs->aT K H b ys->xs[i]? = some x/\ys[i]? = some y,
   λi H=>∃xs ys,aT K H a xs/\aT K H b ys/\(i=xs.length∨(i<xs.length/\i=ys.length))⟩
abbrev ax5:=vA false false
theorem ax6 {P:az}{w:bc}{K:ac}{elts:List Expr}{k:Nat}{pos:Pos}(a b z TI TO i1 i2:ay)(d:[z,TI,TO,i1,i2].Nodup) :
  iT P w K (.Tuple elts k pos) (vB K a b) [z,TI,TO,i1,i2] z (ax5 z TI TO i1 i2 a b):=F9 false false a b z TI TO i1 i2 d
end L2
namespace PP
open PySem L2
inductive PV where
 |non|bl (b:Bool)|int (i:Int)|str (x:Str)|tup (xs:List PV)|lst (xs:List PV)
 |dK (kvs:List (aH×PV))|dT (kvs:List (List aH×PV))|scr (ns:ae)|kt (xs:List PV)|exc (c:Str)|fK (kvs:List (aH×PV))|fT (kvs:List (List aH×PV))|fL (xs:List PV)|fn (x:Str)|ob (a:ay)
mutual
def flat:PV->Bool
 |.tup xs=>flats xs
 |.lst _=>false
 |.dK _=>false
 |.dT _=>false
 |.non=>true
 |.bl _=>true
 |.int _=>true
 |.str _=>true
 |.scr _=>true
 |.kt xs=>flats xs
 |.exc _=>true
 |.fK _=>false
 |.fT _=>false
 |.fL xs=>flats xs
 |.fn _=>true
 |.ob _=>true
def flats:List PV->Bool
 |[]=>true
 |x::r=>flat x&&flats r
end
def j4 (K:ac)(H:Hp)(a:ay)(ns:ae):Prop:=(∃o,H a=some (.frz o (.lst (ns.map V.int)))) ∨
  ∃(o:Obj) (its:Array av) (n:Nat),K.lookup a=some o/\o.cls = .type "list"/\o.dict=none/\o.data = .seq its n/\its.size<=sizeLine/\aI (ns.map V.int) its.toList
def m8 (K:ac)(a:ay)(us:List V):Prop:=∃(o:Obj) (its:Array av) (n:Nat),K.lookup a=some o/\o.cls = .type "tuple"/\o.data = .seq its n/\its.size<=sizeLine/\aI us its.toList
mutual
inductive aA (K:ac)(M:ay->Prop)(H:Hp):V->PV->Prop
 |non:aA K M H .non .non
 |bl (b:Bool):aA K M H (.bl b) (.bl b)
 |int (i:Int):aA K M H (.int i) (.int i)
 |str (x:Str):aA K M H (.str x) (.str x)
 |tup {a:ay}{us:List V}{xs:List PV}:H a=some (.tup us)->Reps K M H us xs->aA K M H (.ref a) (.tup xs)
 |lst {a:ay}{us:List V}{xs:List PV}:M a->H a=some (.lst us)->Reps K M H us xs->aA K M H (.ref a) (.lst xs)
 |dK {a:ay}{kvs:List (aH×V)}{ps:List (aH×PV)}:M a->H a=some (.dK kvs)->kvs.map (·.1)=ps.map (·.1)->Reps K M H (kvs.map (·.2)) (ps.map (·.2))->aA K M H (.ref a) (.dK ps)
 |dT {a:ay}{kvs:List (List aH×V)}{ps:List (List aH×PV)}:M a->H a=some (.dT kvs)->kvs.map (·.1)=ps.map (·.1)->Reps K M H (kvs.map (·.2)) (ps.map (·.2))->aA K M H (.ref a) (.dT ps)
 |scr {a:ay}{ns:ae}:j4 K H a ns->aA K M H (.ref a) (.scr ns)
 |kt {a:ay}{us:List V}{xs:List PV}:m8 K a us->Reps K M H us xs->aA K M H (.ref a) (.kt xs)
 |exc {a C:ay}{o:Obj}{c:Str}:H a=some (.frz o (.own a))->PySem.W.nsIn K mainGlobals c=some (some (.ref C))->o.cls = .ref C->aA K M H (.ref a) (.exc c)
 |fK {a:ay}{o:Obj}{kvs:List (aH×V)}{ps:List (aH×PV)}:H a=some (.frz o (.dK kvs))->kvs.map (·.1)=ps.map (·.1)->Reps K M H (kvs.map (·.2)) (ps.map (·.2))->aA K M H (.ref a) (.fK ps)
 |fT {a:ay}{o:Obj}{kvs:List (List aH×V)}{ps:List (List aH×PV)}:H a=some (.frz o (.dT kvs))->kvs.map (·.1)=ps.map (·.1)->Reps K M H (kvs.map (·.2)) (ps.map (·.2))->aA K M H (.ref a) (.fT ps)
 |fL {a:ay}{o:Obj}{us:List V}{xs:List PV}:H a=some (.frz o (.lst us))->Reps K M H us xs->aA K M H (.ref a) (.fL xs)
 |fn {f:ay}{x:Str}:PySem.W.nsIn K mainGlobals x=some (some (.ref f))->aA K M H (.ref f) (.fn x)
 |ob {a:ay}:aA K M H (.ref a) (.ob a)
inductive Reps (K:ac)(M:ay->Prop)(H:Hp):List V->List PV->Prop
 |nil:Reps K M H [] []
 |cons {v:V}{x:PV}{vs:List V}{xs:List PV}:aA K M H v x->Reps K M H vs xs->Reps K M H (v::vs) (x::xs)
end
def vC:HO->Bool
 |.frz _ _=>true
 |_=>false
def G0:HO->Bool
 |.frz _ u=>vC u
 |.ins _ _ _=>true
 |.ext _=>true
 |_=>false
structure fR (M M':ay->Prop)(H H':Hp):Prop where
 lst:∀a us,M a->H a=some (.lst us)->M' a/\H' a=some (.lst us)
 dK:∀a kvs,M a->H a=some (.dK kvs)->M' a/\H' a=some (.dK kvs)
 dT:∀a kvs,M a->H a=some (.dT kvs)->M' a/\H' a=some (.dT kvs)
 tup:∀a us,H a=some (.tup us)->H' a=some (.tup us)
 frz:∀a o u,H a=some (.frz o u)->vC u=false->H' a=some (.frz o u)
theorem j4.keep {K:ac}{H H':Hp}{a:ay}{ns:ae}(k:∀a o u,H a=some (.frz o u)->vC u=false->H' a=some (.frz o u))(h:j4 K H a ns):j4 K H' a ns:=
 h.elim (λ⟨o,e⟩=>.inl ⟨o,k _ _ _ e rfl⟩) .inr
mutual
theorem aA.keep {K:ac}{M M':ay->Prop}{H H':Hp}(k:fR M M' H H'):∀{v:V}{x:PV},aA K M H v x->aA K M' H' v x
 |_,_,.non=>.non
 |_,_,.bl b=>.bl b
 |_,_,.int i=>.int i
 |_,_,.str x=>.str x
 |_,_,.tup h r=>.tup (k.tup _ _ h) (Reps.keep k r)
 |_,_,.lst m h r=>.lst (k.lst _ _ m h).1 (k.lst _ _ m h).2 (Reps.keep k r)
 |_,_,.dK m h e r=>.dK (k.dK _ _ m h).1 (k.dK _ _ m h).2 e (Reps.keep k r)
 |_,_,.dT m h e r=>.dT (k.dT _ _ m h).1 (k.dT _ _ m h).2 e (Reps.keep k r)
 |_,_,.scr h=>.scr (h.keep k.frz)
 |_,_,.kt h r=>.kt h (Reps.keep k r)
 |_,_,.exc h e c=>.exc (k.frz _ _ _ h rfl) e c
 |_,_,.fK h e r=>.fK (k.frz _ _ _ h rfl) e (Reps.keep k r)
 |_,_,.fT h e r=>.fT (k.frz _ _ _ h rfl) e (Reps.keep k r)
 |_,_,.fL h r=>.fL (k.frz _ _ _ h rfl) (Reps.keep k r)
 |_,_,.fn h=>.fn h
 |_,_,.ob=>.ob
theorem Reps.keep {K:ac}{M M':ay->Prop}{H H':Hp}(k:fR M M' H H'):∀{vs:List V}{xs:List PV},Reps K M H vs xs->Reps K M' H' vs xs
 |_,_,.nil=>.nil
 |_,_,.cons r t=>.cons (aA.keep k r) (Reps.keep k t)
end
mutual
theorem aA.flat {K:ac}{M M':ay->Prop}{H:Hp}{v:V}{x:PV}(f:flat x=true)(r:aA K M H v x):aA K M' H v x:=by
 cases r with
 |non=>exact .non
 |bl b=>exact .bl b
 |int i=>exact .int i
 |str x=>exact .str x
 |tup h r=>exact .tup h (Reps.flat (by unfold PP.flat at f;exact f) r)
 |lst m h r=>unfold PP.flat at f;cases f
 |dK m h e r=>unfold PP.flat at f;cases f
 |dT m h e r=>unfold PP.flat at f;cases f
 |scr h=>exact .scr h
 |kt h r=>exact .kt h (Reps.flat (by unfold PP.flat at f;exact f) r)
 |exc h e c=>exact .exc h e c
 |fK h e r=>unfold PP.flat at f;cases f
 |fT h e r=>unfold PP.flat at f;cases f
 |fL h r=>exact .fL h (Reps.flat (by unfold PP.flat at f;exact f) r)
 |fn h=>exact .fn h
 |ob=>exact .ob
theorem Reps.flat {K:ac}{M M':ay->Prop}{H:Hp}{vs:List V}{xs:List PV}(f:flats xs=true)(r:Reps K M H vs xs):Reps K M' H vs xs:=by
 cases r with
 |nil=>exact .nil
 |cons r t=>
  unfold PP.flats at f;rw[bn3]at f;exact .cons (aA.flat f.1 r) (Reps.flat f.2 t)
end
theorem fR.same {M M':ay->Prop}{H H':Hp}(s:aD H H')(m:∀a,M a->M' a):fR M M' H H':=
 ⟨λa _ h e=>⟨m a h,s _ _ e⟩,λa _ h e=>⟨m a h,s _ _ e⟩,λa _ h e=>⟨m a h,s _ _ e⟩,λ_ _ e=>s _ _ e,λ_ _ _ e _=>s _ _ e⟩
theorem aA.same {K:ac}{M M':ay->Prop}{H H':Hp}{v:V}{x:PV}(r:aA K M H v x)(s:aD H H')(m:∀a,M a->M' a):aA K M' H' v x:=r.keep (.same s m)
theorem Reps.same {K:ac}{M M':ay->Prop}{H H':Hp}{v:List V}{x:List PV}(r:Reps K M H v x)(s:aD H H')(m:∀a,M a->M' a):Reps K M' H' v x:=r.keep (.same s m)
def fD:HO->Bool
 |.lst _=>true
 |.dK _=>true
 |.dT _=>true
 |_=>false
theorem fR.upd {M M':ay->Prop}{H:Hp}{a:ay}{o o':HO}(h:H a=some o')(mu:fD o'=true)(m:∀b,M b->b≠a/\M' b):fR M M' H (upd H a o):=
 ⟨λb _ hb e=>⟨(m b hb).2,by rw[aY (m b hb).1];exact e⟩,λb _ hb e=>⟨(m b hb).2,by rw[aY (m b hb).1];exact e⟩,λb _ hb e=>⟨(m b hb).2,by rw[aY (m b hb).1];exact e⟩,
  λb _ e=>by rw[aY (λz=>by rw[z,h]at e;cases e;cases mu)];exact e,
  λb _ _ e _=>by rw[aY (λz=>by rw[z,h]at e;cases e;cases mu)];exact e⟩
theorem Reps.length {K:ac}{M:ay->Prop}{H:Hp}:∀{vs:List V}{xs:List PV},Reps K M H vs xs->vs.length=xs.length
 |_,_,.nil=>rfl
 |_,_,.cons _ t=>congrArg (·+1) t.length
theorem Reps.get {K:ac}{M:ay->Prop}{H:Hp}:∀{vs:List V}{xs:List PV}{i:Nat}{v:V},Reps K M H vs xs->vs[i]? = some v->∃x,xs[i]? = some x/\aA K M H v x
 |_,_,_,_,.nil,e=>by simp at e
 |_,_,0,_,.cons r _,e=>by simp at e;subst e;exact⟨_,rfl,r⟩
 |_,_,i+1,v,.cons _ t,e=>by
  rw[List.getElem?_cons_succ]at e
  obtain⟨x,h1,h2⟩:=t.get e
  exact⟨x,by rw[List.getElem?_cons_succ];exact h1,h2⟩
theorem Reps.at {K:ac}{M:ay->Prop}{H:Hp}:∀{vs:List V}{xs:List PV}{i:Nat}{x:PV},Reps K M H vs xs->xs[i]? = some x->∃v,vs[i]? = some v/\aA K M H v x
 |_,_,_,_,.nil,e=>by simp at e
 |_,_,0,_,.cons r _,e=>by simp at e;subst e;exact⟨_,rfl,r⟩
 |_,_,i+1,v,.cons _ t,e=>by
  rw[List.getElem?_cons_succ]at e
  obtain⟨x,h1,h2⟩:=t.at e
  exact⟨x,by rw[List.getElem?_cons_succ];exact h1,h2⟩
theorem Reps.append {K:ac}{M:ay->Prop}{H:Hp}:∀{vs:List V}{xs:List PV}{us:List V}{ys:List PV},Reps K M H vs xs->Reps K M H us ys->Reps K M H (vs++us) (xs++ys)
 |_,_,_,_,.nil,s=>s
 |_,_,_,_,.cons r t,s=>.cons r (t.append s)
theorem Reps.take {K:ac}{M:ay->Prop}{H:Hp}:∀(n:Nat) {vs:List V}{xs:List PV},Reps K M H vs xs->Reps K M H (vs.take n) (xs.take n)
 |0,_,_,_=>by simp;exact .nil
 |_+1,_,_,.nil=>.nil
 |n+1,_,_,.cons r t=>.cons r (Reps.take n t)
theorem Reps.drop {K:ac}{M:ay->Prop}{H:Hp}:∀(n:Nat) {vs:List V}{xs:List PV},Reps K M H vs xs->Reps K M H (vs.drop n) (xs.drop n)
 |0,_,_,r=>r
 |_+1,_,_,.nil=>.nil
 |n+1,_,_,.cons _ t=>Reps.drop n t
abbrev intz (ns:ae):List PV:=ns.map PV.int
theorem Reps.intz {K:ac}{M:ay->Prop}{H:Hp}:∀(ns:ae),Reps K M H (ns.map V.int) (intz ns)
 |[]=>.nil
 |n::r=>.cons (.int n) (Reps.intz r)
theorem Reps.ofInts {K:ac}{M:ay->Prop}{H:Hp}:∀{ns:ae}{us:List V},Reps K M H us (PP.intz ns)->us=ns.map V.int
 |[],_,.nil=>rfl
 |n::r,_,.cons q t=>by
  cases q;rw[Reps.ofInts t];rfl
theorem vD:∀(ns:ae),flats (intz ns)=true
 |[]=>rfl
 |n::r=>by show (flat (.int n)&&flats (intz r))=true;rw[vD r];rfl
inductive Tg|rd|sh|nw|fr
inductive Slot|sh (g:Bool) (x:PV)|own (x:PV)|kp (g:Bool) (x:PV) (ks:List (ay×List PV×List PV))
def Slot.val:Slot->PV
 |.sh _ x=>x
 |.own x=>x
 |.kp _ x _=>x
def Slot.tag:Slot->Tg
 |.sh true _=>.nw
 |.sh false _=>.sh
 |.own _=>.rd
 |.kp _ _ _=>.nw
abbrev bE:=List (Option Slot)
def Ms (H0:Hp)(W:ay->Prop):Bool->ay->Prop
 |false,a=>¬W a
 |true,a=>¬W a/\H0 a=none
def Mg (H0:Hp)(W:ay->Prop)(Hs:Hp):Tg->ay->Prop
 |.rd,_=>True
 |.sh,a=>¬W a
 |.nw,a=>¬W a/\H0 a=none
 |.fr,a=>Hs a=none
def hZ (K:ac)(M:ay->Prop)(H:Hp)(a:ay):PV->Prop
 |.lst xs=>∃us,H a=some (.lst us)/\Reps K M H us xs
 |.dK ps=>∃kvs,H a=some (.dK kvs)/\kvs.map (·.1)=ps.map (·.1)/\Reps K M H (kvs.map (·.2)) (ps.map (·.2))
 |.dT ps=>∃kvs,H a=some (.dT kvs)/\kvs.map (·.1)=ps.map (·.1)/\Reps K M H (kvs.map (·.2)) (ps.map (·.2))
 |_=>False
def kL (l:ay)(us:List V):HO:=.ext λh=>us.length<=sizeLine/\∃(its:List av) (n:Nat),aI us its/\h.get? l=some { cls:=.type "list",data:=.seq its.toArray n }
def kO (K:ac)(H0 H:Hp)(a:ay)(st un:List PV):Prop:=∃(C dx l1 l2:ay) (us1 us2:List V),PySem.W.nsIn K mainGlobals "Keeper" = some (some (.ref C))/\(H0 a=none/\H0 dx=none/\H0 l1=none/\H0 l2=none)/\l1≠l2/\H dx=some (.own a)/\
 H a=some (.ins C dx [("standing",.ref l1),("undone",.ref l2)])/\H l1=some (kL l1 us1)/\H l2=some (kL l2 us2)/\Reps K (λ_=>False) H us1 st/\Reps K (λ_=>False) H us2 un
theorem kO.keep {K:ac}{H0 H H':Hp}{a:ay}{st un:List PV}(k:fR (λ_=>False) (λ_=>False) H H')(f:∀b o,H b=some o->fD o=false->H' b=some o)(h:kO K H0 H a st un):kO K H0 H' a st un:=by
 obtain⟨C,dx,l1,l2,us1,us2,h1,h2,h3,h4,h5,h6,h7,r1,r2⟩:=h
 exact⟨C,dx,l1,l2,us1,us2,h1,h2,h3,f _ _ h4 rfl,f _ _ h5 rfl,f _ _ h6 rfl,f _ _ h7 rfl,r1.keep k,r2.keep k⟩
def Ap2 (H:Hp)(a b:ay):Prop:=a≠b/\∀C D dx dy l1 l2 m1 m2,H a=some (.ins C dx [("standing",.ref l1),("undone",.ref l2)])->H b=some (.ins D dy [("standing",.ref m1),("undone",.ref m2)])->l1≠m1/\l1≠m2/\l2≠m1/\l2≠m2
def gF (K:ac)(H0 H:Hp)(ks:List (ay×List PV×List PV)):Prop:=(∀k∈ks,kO K H0 H k.1 k.2.1 k.2.2)/\ks.Pairwise λk m=>Ap2 H k.1 m.1
theorem gF.keep {K:ac}{H0 H H':Hp}{ks:List (ay×List PV×List PV)}(k:fR (λ_=>False) (λ_=>False) H H')(f:∀b o,H b=some o->fD o=false->H' b=some o)(h:gF K H0 H ks):gF K H0 H' ks:=by
 refine⟨λx hx=>(h.1 x hx).keep k f,h.2.imp_of_mem λ{x y} hx hy r=>⟨r.1,λC D dx dy l1 l2 m1 m2 e1 e2=>?_⟩⟩
 obtain⟨C',dx',l1',l2',us1,us2,_,_,_,_,h5,_⟩:=h.1 x hx
 obtain⟨D',dy',m1',m2',ws1,ws2,_,_,_,_,g5,_⟩:=h.1 y hy
 have z1:=f _ _ h5 rfl;have z2:=f _ _ g5 rfl;rw[e1]at z1;rw[e2]at z2;cases z1;cases z2;exact r.2 _ _ _ _ _ _ _ _ h5 g5
theorem gF.same {K:ac}{H0 H H':Hp}{ks:List (ay×List PV×List PV)}(s:aD H H')(h:gF K H0 H ks):gF K H0 H' ks:=h.keep (.same s λ_ z=>z) λ_ _ e _=>s _ _ e
theorem gF.upd {K:ac}{H0 H:Hp}{c:ay}{o o':HO}{ks:List (ay×List PV×List PV)}(e:H c=some o')(mu:fD o'=true)(h:gF K H0 H ks):gF K H0 (upd H c o) ks:=
 h.keep (.upd e mu λ_ z=>z.elim) λb u e2 m2=>by rw[aY (λz=>by rw[z,e]at e2;cases e2;rw[mu]at m2;cases m2)];exact e2
def qU (K:ac)(H0:Hp)(W:ay->Prop)(H:Hp)(v:V):Slot->Prop
 |.sh g x=>aA K (Ms H0 W g) H v x
 |.own x=>∃a,v = .ref a/\W a/\hZ K (Ms H0 W true) H a x
 |.kp g x ks=>(aA K (λ_=>False) H v x/\flat x=true)/\gF K (cond g H0 λ_=>none) H ks
structure PX (K:ac)(H0:Hp)(W:ay->Prop)(σ:St)(ρ:bE)(H:Hp):Prop where
 len:ρ.length=σ.length
 same:aD H0 H
 wm:∀a,W a->H0 a=none/\∃o,H a=some o/\fD o=true
 sl:∀(i:Nat) (m:Slot),ρ[i]? = some (some m)->∃v,σ[i]? = some (some v)/\qU K H0 W H v m
 dis:∀(i j:Nat) (x y:PV) (a:ay),ρ[i]? = some (some (.own x))->ρ[j]? = some (some (.own y))->σ[i]? = some (some (.ref a))->σ[j]? = some (some (.ref a))->i=j
theorem hZ.keep {K:ac}{M M':ay->Prop}{H H':Hp}{a:ay}(k:fR M M' H H')(ha:∀o,H a=some o->H' a=some o):∀{x:PV},hZ K M H a x->hZ K M' H' a x
 |.lst _,⟨us,e,r⟩=>⟨us,ha _ e,r.keep k⟩
 |.dK _,⟨us,e,q,r⟩=>⟨us,ha _ e,q,r.keep k⟩
 |.dT _,⟨us,e,q,r⟩=>⟨us,ha _ e,q,r.keep k⟩
theorem hZ.at {K:ac}{M:ay->Prop}{H:Hp}{a:ay}:∀{x:PV},hZ K M H a x->∃o,H a=some o/\fD o=true
 |.lst _,⟨us,e,r⟩=>⟨_,e,rfl⟩
 |.dK _,⟨us,e,q,r⟩=>⟨_,e,rfl⟩
 |.dT _,⟨us,e,q,r⟩=>⟨_,e,rfl⟩
theorem hZ.rep {K:ac}{M M':ay->Prop}{H:Hp}{a:ay}(m:∀b,M b->M' b)(ha:M' a):∀{x:PV},hZ K M H a x->aA K M' H (.ref a) x
 |.lst _,⟨us,e,r⟩=>.lst ha e (r.same (aD.refl _) m)
 |.dK _,⟨us,e,q,r⟩=>.dK ha e q (r.same (aD.refl _) m)
 |.dT _,⟨us,e,q,r⟩=>.dT ha e q (r.same (aD.refl _) m)
section
variable {K:ac}{H0:Hp}{W W':ay→Prop}{σ:St}{ρ:bE}{H H':Hp}
theorem PX.mono (p:PX K H0 W σ ρ H)(s:aD H H'):PX K H0 W σ ρ H':=by
 refine⟨p.len,p.same.trans s,λa h=>⟨(p.wm a h).1,let ⟨o,e,m⟩:=(p.wm a h).2;⟨o,s _ _ e,m⟩⟩,λi m h=>?_,p.dis⟩
 obtain⟨v,e,r⟩:=p.sl i m h
 refine⟨v,e,?_⟩;cases m with
 |sh g x=>exact aA.same r s λ_ z=>z
 |own x=>
  obtain⟨a,e1,e2,r⟩:=r
  exact⟨a,e1,e2,r.keep (.same s λ_ z=>z) λ_ z=>s _ _ z⟩
 |kp g x ks=>exact⟨⟨r.1.1.same s λ_ z=>z,r.1.2⟩,r.2.same s⟩
theorem PX.new (p:PX K H0 W σ ρ H){a:ay}(h:H a=none):¬W a/\H0 a=none:=
 ⟨λz=>(by obtain⟨_,o,e,_⟩:=p.wm a z;rw[h]at e;cases e),p.same.free h⟩
theorem Mg.back {g:Tg}{H1:Hp}(s:aD H H1){a:ay}(h:Mg H0 W H1 g a):Mg H0 W H g a:=by
 cases g with
 |fr=>exact s.free h
 |rd=>exact h
 |sh=>exact h
 |nw=>exact h
end
abbrev PK:=PV->Tg->Prop
abbrev aC:=bE->PK->Prop
abbrev cD:=bE->(Bool->Prop)->Prop
abbrev cJ:=bE->(List (PV×Tg)->Prop)->Prop
inductive i5 (K:ac)(H0:Hp)(W:ay->Prop)(Hs H:Hp):List V->List (PV×Tg)->Prop
 |nil:i5 K H0 W Hs H [] []
 |cons {v:V}{x:PV}{g:Tg}{vs:List V}{xs:List (PV×Tg)}:aA K (Mg H0 W Hs g) H v x->i5 K H0 W Hs H vs xs->i5 K H0 W Hs H (v::vs) ((x,g)::xs)
def qV (K:ac)(H0:Hp)(W:ay->Prop)(H:Hp)(Q:PK)(Q':VK):Prop:=∀v H' x g,aD H H'->aA K (Mg H0 W H g) H' v x->Q x g->Q' v H'
def LE (X:Cx)(t:aC):TE:=λσ H Q'=>∃(W:ay->Prop) (ρ:bE) (Q:PK),PX X.K X.H₀ W σ ρ H/\t ρ Q/\qV X.K X.H₀ W H Q Q'
def LT (X:Cx)(t:cD):TT:=λσ H Q'=>∃(W:ay->Prop) (ρ:bE) (Q:Bool->Prop),PX X.K X.H₀ W σ ρ H/\t ρ Q/\∀b H',aD H H'->Q b->Q' b H'
def LA (X:Cx)(t:cJ):TA:=λσ H Q'=>∃(W:ay->Prop) (ρ:bE) (Q:List (PV×Tg)->Prop),PX X.K X.H₀ W σ ρ H/\t ρ Q/\∀vs H' xs,aD H H'->i5 X.K X.H₀ W H H' vs xs->Q xs->Q' vs H'
theorem i5.same {K:ac}{H0:Hp}{W:ay->Prop}{Hs Hs' H H':Hp}(s:aD H H')(b:aD Hs' Hs):∀{vs:List V}{xs:List (PV×Tg)},i5 K H0 W Hs H vs xs->i5 K H0 W Hs' H' vs xs
 |_,_,.nil=>.nil
 |_,_,.cons r t=>.cons (r.same s λ_ z=>Mg.back b z) (t.same s b)
theorem i5.any {K:ac}{H0:Hp}{W:ay->Prop}{Hs H:Hp}:∀{vs:List V}{xs:List (PV×Tg)},i5 K H0 W Hs H vs xs->Reps K (λ_=>True) H vs (xs.map (·.1))
 |_,_,.nil=>.nil
 |_,_,.cons r t=>.cons (r.same (aD.refl _) λ_ _=>trivial) t.any
def Nw:Tg->PV->Prop
 |.fr,_=>True
 |.nw,_=>True
 |_,x=>flat x=true
section
variable {K:ac}{H0 Hs H:Hp}{W:ay→Prop}{σ:St}{ρ:bE}
theorem Nw.rep {g:Tg}{x:PV}{v:V}(px:PX K H0 W σ ρ Hs)(n:Nw g x)(r:aA K (Mg H0 W Hs g) H v x):aA K (Ms H0 W true) H v x:=by
 cases g with
 |fr=>exact r.same (aD.refl _) λa z=>px.new z
 |nw=>exact r.same (aD.refl _) λa z=>z
 |sh=>exact r.flat n
 |rd=>exact r.flat n
theorem G1 {v:V}{m:Slot}(r:qU K H0 W H v m):aA K (Mg H0 W Hs m.tag) H v m.val:=by
 cases m with
 |sh g x=>
  cases g with
  |true=>exact aA.same r (aD.refl _) λ_ z=>z
  |false=>exact aA.same r (aD.refl _) λ_ z=>z
 |own x=>
  obtain⟨a,rfl,_,r⟩:=r
  exact r.rep (λ_ _=>trivial) trivial
 |kp g x ks=>exact r.1.1.flat r.1.2
end
section
variable {X:Cx}{σ:St}{H:Hp}{Q':VK}{ta tb:aC}
def a5 (i:Nat):aC:=λρ Q=>∃m,ρ[i]? = some (some m)/\Q m.val m.tag
def qC (x:PV):aC:=λ_ Q=>Q x .fr
theorem ax7 {i:Nat}(h:LE X (a5 i) σ H Q'):lU i σ H Q':=by
 obtain⟨W,ρ,Q,px,⟨m,e,q⟩,k⟩:=h
 obtain⟨v,ev,r⟩:=px.sl i m e
 exact⟨v,ev,k v H _ _ (aD.refl _) (G1 r) q⟩
theorem oB {x:PV}{v:V}(hr:∀M,aA X.K M H v x)(h:LE X (qC x) σ H Q'):tC v σ H Q':=by
 obtain⟨W,ρ,Q,px,q,k⟩:=h
 exact k v H _ _ (aD.refl _) (hr _) q
def fE (X:Cx)(R:PV->Tg->PV->Tg->PK->Prop)(r:R2):Prop:=∀(W:ay->Prop) (Hs H:Hp) (u v:V) (x y:PV) (g g':Tg) (Q:PK) (Q':VK),aD Hs H->
 (∀a,Hs a=none->¬W a/\X.H₀ a=none)->aA X.K (Mg X.H₀ W Hs g) H u x->aA X.K (Mg X.H₀ W Hs g') H v y->R x g y g' Q->(∀w H' z gz,aD H H'->aA X.K (Mg X.H₀ W Hs gz) H' w z->Q z gz->Q' w H')->r u v H Q'
def q2 (R:PV->Tg->PV->Tg->PK->Prop)(ta tb:aC):aC:=λρ Q=>ta ρ λx g=>tb ρ λy g'=>R x g y g' Q
theorem qW {R:PV->Tg->PV->Tg->PK->Prop}{r:R2}(c:fE X R r)(h:LE X (q2 R ta tb) σ H Q'):nU r (LE X ta) (LE X tb) σ H Q':=by
 obtain⟨W,ρ,Q,px,q,k⟩:=h
 refine⟨W,ρ,_,px,q,λu H1 x g s1 r1 q1=>⟨W,ρ,_,px.mono s1,q1,λv H2 y g' s2 r2 q2=>?_⟩⟩;exact c W H H2 u v x y g g' Q Q' (s1.trans s2) (λa z=>px.new z) (r1.same s2 λ_ z=>z) (r2.same (aD.refl _) λ_ z=>Mg.back s1 z) q2 λw H' z gz s3 r3 q3=>k w H' z gz ((s1.trans s2).trans s3) r3 q3
def RI (C:Int->Int->Prop)(f:Int->Int->PV):PV->Tg->PV->Tg->PK->Prop:=λx _ y _ Q=>∃i j,x = .int i/\y = .int j/\C i j/\Q (f i j) .fr
def fF (f:Int->Int->PV):PV->Tg->PV->Tg->PK->Prop:=λx _ y _ Q=>∃i j,x = .int i/\y = .int j/\Q (f i j) .fr
theorem qX {C:Int->Int->Prop}{f:Int->Int->Int}:fE X (RI C λi j=>.int (f i j)) (rI C λi j=>.int (f i j)):=by
 rintro W Hs H u v x y g g' Q Q' s n r1 r2 ⟨i,j,rfl,rfl,c,q⟩ k;cases r1;cases r2
 exact⟨i,j,rfl,rfl,c,k _ _ _ _ (aD.refl _) (.int _) q⟩
theorem G2 {f:Int->Int->Int}:fE X (fF λi j=>.int (f i j)) (g9 λi j=>.int (f i j)):=by
 rintro W Hs H u v x y g g' Q Q' s n r1 r2 ⟨i,j,rfl,rfl,q⟩ k;cases r1;cases r2
 exact⟨i,j,rfl,rfl,k _ _ _ _ (aD.refl _) (.int _) q⟩
theorem m9 {f:Int->Int->Bool}:fE X (fF λi j=>.bl (f i j)) (g9 λi j=>.bl (f i j)):=by
 rintro W Hs H u v x y g g' Q Q' s n r1 r2 ⟨i,j,rfl,rfl,q⟩ k;cases r1;cases r2
 exact⟨i,j,rfl,rfl,k _ _ _ _ (aD.refl _) (.bl _) q⟩
def mB (neg:Bool):PV->Tg->PV->Tg->PK->Prop:=λx _ y _ Q=>(∃i j,x = .int i/\y = .int j/\Q (.bl (if neg=true then !decide (i=j) else decide (i=j))) .fr)∨(∃i j,x = .bl i/\y = .bl j/\Q (.bl (if neg=true then !decide (i=j) else decide (i=j))) .fr)
theorem G3 (i j:Int):decide (V.int i=V.int j)=decide (i=j):=by
 rw[bp7,bi5,bi5];exact⟨λz=>V.int.inj z,λz=>congrArg V.int z⟩
theorem G4 (i j:Bool):decide (V.bl i=V.bl j)=decide (i=j):=by
 rw[bp7,bi5,bi5];exact⟨λz=>V.bl.inj z,λz=>congrArg V.bl z⟩
theorem ax8:fE X (mB false) zB:=by
 rintro W Hs H u v x y g g' Q Q' s n r1 r2 (⟨i,j,rfl,rfl,q⟩|⟨i,j,rfl,rfl,q⟩) k
 ·cases r1;cases r2
  exact⟨rfl,by rw[G3];exact k _ _ _ _ (aD.refl _) (.bl _) q⟩
 ·cases r1;cases r2
  exact⟨rfl,by rw[G4];exact k _ _ _ _ (aD.refl _) (.bl _) q⟩
theorem ax9:fE X (mB true) zC:=by
 rintro W Hs H u v x y g g' Q Q' s n r1 r2 (⟨i,j,rfl,rfl,q⟩|⟨i,j,rfl,rfl,q⟩) k
 ·cases r1;cases r2
  exact⟨rfl,by rw[G3];exact k _ _ _ _ (aD.refl _) (.bl _) q⟩
 ·cases r1;cases r2
  exact⟨rfl,by rw[G4];exact k _ _ _ _ (aD.refl _) (.bl _) q⟩
def aX (t:aC):cD:=λρ Q=>t ρ λx _=>∃b,x = .bl b/\Q b
theorem qY {t:aC}{Q':Bool->Hp->Prop}(h:LT X (aX t) σ H Q'):LE X t σ H λx H'=>∃k,x = .bl k/\Q' k H':=by
 obtain⟨W,ρ,Q,px,q,k⟩:=h
 refine⟨W,ρ,_,px,q,?_⟩;rintro v H1 x g s r ⟨b,rfl,q⟩;cases r
 exact⟨b,rfl,k _ _ s q⟩
def mC (t u:cD):cD:=λρ Q=>t ρ λc=>if c=true then u ρ Q else Q false
def gT (t u:cD):cD:=λρ Q=>t ρ λc=>if c=true then Q true else u ρ Q
def i6 (t:cD):cD:=λρ Q=>t ρ λc=>Q (!c)
variable {t u:cD}{Qb:Bool→Hp→Prop}
theorem ay0 (h:LT X (mC t u) σ H Qb):yM (LT X t) (LT X u) σ H Qb:=by
 obtain⟨W,ρ,Q,px,q,k⟩:=h
 refine⟨W,ρ,_,px,q,λb H1 s1 q1=>?_⟩;cases b with
 |true=>exact bD ⟨W,ρ,Q,px.mono s1,by simpa using q1,λb H2 s2 q2=>k _ _ (s1.trans s2) q2⟩
 |false=>exact aU (k _ _ s1 (by simpa using q1))
theorem ay1 (h:LT X (gT t u) σ H Qb):yN (LT X t) (LT X u) σ H Qb:=by
 obtain⟨W,ρ,Q,px,q,k⟩:=h
 refine⟨W,ρ,_,px,q,λb H1 s1 q1=>?_⟩;cases b with
 |false=>exact aU ⟨W,ρ,Q,px.mono s1,by simpa using q1,λb H2 s2 q2=>k _ _ (s1.trans s2) q2⟩
 |true=>exact bD (k _ _ s1 (by simpa using q1))
theorem ay2 (h:LT X (i6 t) σ H Qb):yO (LT X t) σ H Qb:=by
 obtain⟨W,ρ,Q,px,q,k⟩:=h
 exact⟨W,ρ,_,px,q,λb H1 s1 q1=>k _ _ s1 q1⟩
def kQ (ta tb:aC):aC:=λρ Q=>ta ρ λx _=>∃c,x = .bl c/\if c=true then tb ρ Q else Q (.bl false) .fr
def qZ (ta:aC):aC:=λρ Q=>ta ρ λx _=>∃c,x = .bl c/\Q (.bl (!c)) .fr
theorem qV.back {K:ac}{H0:Hp}{W:ay->Prop}{H H1:Hp}{Q:PK}(k:qV K H0 W H Q Q')(s:aD H H1):qV K H0 W H1 Q Q':=λv H' x g s' r q=>k v H' x g (s.trans s') (r.same (aD.refl _) λ_ z=>Mg.back s z) q
theorem ay3 (h:LE X (kQ ta tb) σ H Q'):yP (LE X ta) (LE X tb) σ H Q':=by
 obtain⟨W,ρ,Q,px,q,k⟩:=h
 refine⟨W,ρ,_,px,q,?_⟩;rintro v H1 x g s1 r ⟨c,rfl,q⟩;cases r;refine⟨c,rfl,?_⟩;cases c with
 |true=>exact bD ⟨W,ρ,Q,px.mono s1,by simpa using q,k.back s1⟩
 |false=>exact aU (k _ _ _ _ s1 (.bl _) (by simpa using q))
theorem ay4 (h:LE X (qZ ta) σ H Q'):yQ (LE X ta) σ H Q':=by
 obtain⟨W,ρ,Q,px,q,k⟩:=h
 refine⟨W,ρ,_,px,q,?_⟩;rintro v H1 x g s1 r ⟨c,rfl,q⟩;cases r
 exact⟨c,rfl,k _ _ _ _ s1 (.bl _) q⟩
def aE:cJ:=λ_ Q=>Q []
def a7 (te:aC)(tr:cJ):cJ:=λρ Q=>te ρ λx g=>tr ρ λxs=>Q ((x,g)::xs)
variable {Qa:List V→Hp→Prop}{tr:cJ}
theorem ay5 (h:LA X aE σ H Qa):m5 σ H Qa:=by
 obtain⟨W,ρ,Q,px,q,k⟩:=h
 exact k _ _ _ (aD.refl _) .nil q
theorem ay6 (h:LA X (a7 ta tr) σ H Qa):iV (LE X ta) (LA X tr) σ H Qa:=by
 obtain⟨W,ρ,Q,px,q,k⟩:=h
 refine⟨W,ρ,_,px,q,λv H1 x g s1 r1 q1=>⟨W,ρ,_,px.mono s1,q1,λvs H2 xs s2 r2 q2=>?_⟩⟩;exact k _ _ _ (s1.trans s2) (.cons (r1.same s2 λ_ z=>z) (r2.same (aD.refl _) s1)) q2
def cO (t:cJ):aC:=λρ Q=>t ρ λxs=>xs.length<=1000/\flats (xs.map (·.1))=true/\Q (.tup (xs.map (·.1))) .fr
def mD (t:cJ):aC:=λρ Q=>t ρ λxs=>xs.length<=1000/\flats (xs.map (·.1))=true/\Q (.lst (xs.map (·.1))) .fr
theorem i5.length {K:ac}{H0:Hp}{W:ay->Prop}{Hs H:Hp}:∀{vs:List V}{xs:List (PV×Tg)},i5 K H0 W Hs H vs xs->vs.length=xs.length
 |_,_,.nil=>rfl
 |_,_,.cons _ t=>congrArg (·+1) t.length
theorem vE {n:Nat}(h:n<=1000):n<=sizeLine:=bn7 (au4 h)
theorem ay7 (h:LE X (cO tr) σ H Q'):zL (LA X tr) σ H Q':=by
 obtain⟨W,ρ,Q,px,q,k⟩:=h
 refine⟨W,ρ,_,px,q,?_⟩;rintro vs H1 xs s1 r ⟨hl,n,q⟩;refine⟨by rw[r.length];exact vE hl,λp hp=>k _ _ _ .fr (s1.trans (bK hp _)) (.tup c8 ?_) q⟩;exact (r.any.flat n).same (bK hp _) λ_ z=>z
theorem ay8 (h:LE X (mD tr) σ H Q'):zM (LA X tr) σ H Q':=by
 obtain⟨W,ρ,Q,px,q,k⟩:=h
 refine⟨W,ρ,_,px,q,?_⟩;rintro vs H1 xs s1 r ⟨hl,n,q⟩;refine⟨by rw[r.length];exact vE hl,λp hp=>k _ _ _ .fr (s1.trans (bK hp _)) (.lst (s1.free hp) c8 ?_) q⟩;exact (r.any.flat n).same (bK hp _) λ_ z=>z
def gU (X:Cx)(R:List PV->(PV->Prop)->Prop)(r:List V->Hp->VK->Prop):Prop:=∀(H:Hp) (vs:List V) (xs:List PV) (Q:PV->Prop) (Q':VK),Reps X.K (λ_=>True) H vs xs->R xs Q->
 (∀w H' z,aD H H'->aA X.K (λa=>H a=none) H' w z->Q z->Q' w H')->r vs H Q'
def aN (R:List PV->(PV->Prop)->Prop)(t:cJ):aC:=λρ Q=>t ρ λxs=>R (xs.map (·.1)) λz=>Q z .fr
theorem G5 {R:List PV->(PV->Prop)->Prop}{r:List V->Hp->VK->Prop}(c:gU X R r)(h:LE X (aN R tr) σ H Q'):uE r (LA X tr) σ H Q':=by
 obtain⟨W,ρ,Q,px,q,k⟩:=h
 refine⟨W,ρ,_,px,q,λvs H1 xs s1 r1 q1=>c H1 vs _ _ Q' r1.any q1 λw H' z s2 r2 q2=>k w H' z .fr (s1.trans s2) (r2.same (aD.refl _) λ_ z=>s1.free z) q2⟩
end
structure jQ where
 nx:bE->Prop
 rt:PV->Prop
 bk:bE->Prop:=λ_=>False
 ct:bE->Prop:=λ_=>False
abbrev aR:=jQ->bE->Prop
def Ev (W:ay->Prop)(H:Hp)(W':ay->Prop)(H':Hp):Prop:=∀b o,H b=some o->¬W b->G0 o=false->H' b=some o/\¬W' b
theorem Ev.trans {W W1 W2:ay->Prop}{H H1 H2:Hp}(a:Ev W H W1 H1)(b:Ev W1 H1 W2 H2):Ev W H W2 H2:=λc o h n z=>let ⟨h1,n1⟩:=a c o h n z;b c o h1 n1 z
theorem Ev.same {W:ay->Prop}{H H':Hp}(s:aD H H'):Ev W H W H':=λc o h n _=>⟨s _ _ h,n⟩
theorem Ev.refl (W:ay->Prop)(H:Hp):Ev W H W H:=Ev.same (aD.refl _)
structure oC (X:Cx)(W:ay->Prop)(H:Hp)(D':jQ)(D:dP):Prop where
 nx:∀W' σ' H' ρ',Ev W H W' H'->PX X.K X.H₀ W' σ' ρ' H'->D'.nx ρ'->D.nx σ' H'
 rt:∀v H' x,aD X.H₀ H'->aA X.K (λa=>X.H₀ a=none) H' v x->D'.rt x->D.rt v H'
 bk:∀W' σ' H' ρ',Ev W H W' H'->PX X.K X.H₀ W' σ' ρ' H'->D'.bk ρ'->D.bk σ' H'
 ct:∀W' σ' H' ρ',Ev W H W' H'->PX X.K X.H₀ W' σ' ρ' H'->D'.ct ρ'->D.ct σ' H'
theorem oC.step {X:Cx}{W W1:ay->Prop}{H H1:Hp}{D':jQ}{D:dP}(k:oC X W H D' D)(e:Ev W H W1 H1):oC X W1 H1 D' D:=
 ⟨λW' σ' H' ρ' e'=>k.nx W' σ' H' ρ' (e.trans e'),k.rt,λW' σ' H' ρ' e'=>k.bk W' σ' H' ρ' (e.trans e'),λW' σ' H' ρ' e'=>k.ct W' σ' H' ρ' (e.trans e')⟩
def LS (X:Cx)(t:aR):TS:=λD σ H=>∃(W:ay->Prop) (ρ:bE) (D':jQ),PX X.K X.H₀ W σ ρ H/\t D' ρ/\oC X W H D' D
theorem eL {α:Type}{l:List α}{i j:Nat}{a b:α}(h:(l.set i a)[j]? = some b):(j=i/\i<l.length/\b=a)∨(j≠i/\l[j]? = some b):=by
 by_cases e:j=i
 ·subst e
  have hl:j<(l.set j a).length:=(bh8.mp h).1;rw[bp0]at hl;rw[bo6 hl]at h;exact .inl ⟨rfl,hl,(bj4 h).symm⟩
 ·rw[bj6 (Ne.symm e)]at h
  exact .inr ⟨e,h⟩
section
variable {K:ac}{H0:Hp}{W W':ay→Prop}{σ:St}{ρ:bE}{H H' Hs:Hp}
theorem PX.setSh {i:Nat}{v:V}{g:Bool}{x:PV}(p:PX K H0 W σ ρ H)(r:aA K (Ms H0 W g) H v x):PX K H0 W (σ.set i (some v)) (ρ.set i (some (.sh g x))) H:=by
 refine⟨by rw[bp0,bp0];exact p.len,p.same,p.wm,λj m h=>?_,λj k y z a h1 h2 h3 h4=>?_⟩
 ·rcases eL h with⟨rfl,hl,e⟩|⟨hne,h⟩
  ·cases e
   rw[p.len]at hl
   exact⟨v,bo6 hl,r⟩
  ·obtain⟨u,e,q⟩:=p.sl j m h
   exact⟨u,by rw[bj6 (Ne.symm hne)];exact e,q⟩
 ·rcases eL h1 with⟨_,_,e⟩|⟨n1,h1⟩
  ·cases e
  ·rcases eL h2 with⟨_,_,e⟩|⟨n2,h2⟩
   ·cases e
   ·rw[bj6 (Ne.symm n1)]at h3
    rw[bj6 (Ne.symm n2)]at h4;exact p.dis j k y z a h1 h2 h3 h4
theorem PX.setNone {i:Nat}{o:Option V}(p:PX K H0 W σ ρ H):PX K H0 W (σ.set i o) (ρ.set i none) H:=by
 refine⟨by rw[bp0,bp0];exact p.len,p.same,p.wm,λj m h=>?_,λj k y z a h1 h2 h3 h4=>?_⟩
 ·rcases eL h with⟨rfl,hl,e⟩|⟨hne,h⟩
  ·cases e
  ·obtain⟨u,e,q⟩:=p.sl j m h
   exact⟨u,by rw[bj6 (Ne.symm hne)];exact e,q⟩
 ·rcases eL h1 with⟨_,_,e⟩|⟨n1,h1⟩
  ·cases e
  ·rcases eL h2 with⟨_,_,e⟩|⟨n2,h2⟩
   ·cases e
   ·rw[bj6 (Ne.symm n1)]at h3
    rw[bj6 (Ne.symm n2)]at h4;exact p.dis j k y z a h1 h2 h3 h4
def mE (W:ay->Prop)(a:ay):ay->Prop:=λb=>W b∨b=a
theorem vF {g:Bool}{a b:ay}(n:b≠a)(h:Ms H0 W g b):Ms H0 (mE W a) g b:=by
 cases g with
 |true=>exact⟨λz=>z.elim h.1 n,h.2⟩
 |false=>exact λz=>z.elim h n
theorem PX.setOwn {i:Nat}{a:ay}{x:PV}(p:PX K H0 W σ ρ Hs)(s:aD Hs H)(ha:Hs a=none)(r:hZ K (Ms H0 (mE W a) true) H a x):PX K H0 (mE W a) (σ.set i (some (.ref a))) (ρ.set i (some (.own x))) H:=by
 have old:∀b o,Hs b=some o->b≠a:=λb o e z=>by rw[z,ha]at e;cases e
 have kp:∀g,fR (Ms H0 W g) (Ms H0 (mE W a) g) Hs H:=λg=>⟨λb _ m e=>⟨vF (old _ _ e) m,s _ _ e⟩,λb _ m e=>⟨vF (old _ _ e) m,s _ _ e⟩,λb _ m e=>⟨vF (old _ _ e) m,s _ _ e⟩,λ_ _ e=>s _ _ e,λ_ _ _ e _=>s _ _ e⟩
 have wa:¬W a:=(p.new ha).1;refine⟨by rw[bp0,bp0];exact p.len,p.same.trans s,λb z=>?_,λj m h=>?_,λj k y z b h1 h2 h3 h4=>?_⟩
 ·rcases z with z|rfl
  ·obtain⟨h1,o,h2,h3⟩:=p.wm b z
   exact⟨h1,o,s _ _ h2,h3⟩
  ·exact⟨(p.new ha).2,r.at⟩
 ·rcases eL h with⟨rfl,hl,e⟩|⟨hne,h⟩
  ·cases e
   rw[p.len]at hl
   exact⟨_,bo6 hl,a,rfl,.inr rfl,r⟩
  ·obtain⟨u,e,q⟩:=p.sl j m h
   refine⟨u,by rw[bj6 (Ne.symm hne)];exact e,?_⟩;cases m with
   |sh g y=>exact aA.keep (kp g) q
   |own y=>
    obtain⟨b,e1,e2,q⟩:=q
    exact⟨b,e1,.inl e2,q.keep (kp true) λo z=>s _ _ z⟩
   |kp g c ks=>exact⟨⟨q.1.1.same s λ_ z=>z,q.1.2⟩,q.2.same s⟩
 ·have ne:∀{j:Nat}{y:PV},ρ[j]? = some (some (.own y))->σ[j]?≠some (some (.ref a)):=λ{j y} h1 h2=>by
   obtain⟨u,e,c,e1,e2,_⟩:=p.sl j _ h1
   rw[h2]at e;cases e;cases e1;exact wa e2
  rcases eL h1 with⟨e1,l1,_⟩|⟨n1,h1⟩
  ·rcases eL h2 with⟨e2,_,_⟩|⟨n2,h2⟩
   ·rw[e1,e2]
   ·rw[e1,bo6 (by rw[<- p.len];exact l1)]at h3
    rw[bj6 (Ne.symm n2)]at h4;cases h3;exact absurd h4 (ne h2)
  ·rw[bj6 (Ne.symm n1)]at h3
   rcases eL h2 with⟨e2,l2,_⟩|⟨n2,h2⟩
   ·rw[e2,bo6 (by rw[<- p.len];exact l2)]at h4
    cases h4;exact absurd h3 (ne h1)
   ·rw[bj6 (Ne.symm n2)]at h4
    exact p.dis j k y z b h1 h2 h3 h4
theorem Ev.own {a:ay}(s:aD Hs H)(ha:Hs a=none):Ev W Hs (mE W a) H:=λb o e n _=>⟨s _ _ e,λz=>z.elim n λz=>by rw[z,ha]at e;cases e⟩
theorem r6 {g:Bool}{a b:ay}(wa:W a)(h:Ms H0 W g b):b≠a:=by
 cases g with
 |true=>exact λz=>h.1 (by rw[z];exact wa)
 |false=>exact λz=>h (by rw[z];exact wa)
theorem PX.updOwn {i:Nat}{a:ay}{x y:PV}{o:HO}(p:PX K H0 W σ ρ H)(hi:ρ[i]? = some (some (.own x)))(ha:σ[i]? = some (some (.ref a)))(wa:W a)(mu:fD o=true)(r:hZ K (Ms H0 W true) (upd H a o) a y) :
  PX K H0 W σ (ρ.set i (some (.own y))) (upd H a o):=by
 obtain⟨w0,o',e',mu'⟩:=p.wm a wa
 have kp:∀g,fR (Ms H0 W g) (Ms H0 W g) H (upd H a o):=λg=>.upd e' mu' λb m=>⟨r6 wa m,m⟩
 refine⟨by rw[bp0];exact p.len,λb u e=>by rw[aY (λz=>by rw[z,w0]at e;cases e)];exact p.same _ _ e,λb z=>?_,λj m h=>?_,λj k y' z b h1 h2 h3 h4=>?_⟩
 ·by_cases e:b=a
  ·subst e;exact⟨w0,o,c8,mu⟩
  ·obtain⟨h1,o2,h2,h3⟩:=p.wm b z
   exact⟨h1,o2,by rw[aY e];exact h2,h3⟩
 ·rcases eL h with⟨rfl,hl,e⟩|⟨hne,h⟩
  ·cases e
   exact⟨_,ha,a,rfl,wa,r⟩
  ·obtain⟨u,e,q⟩:=p.sl j m h
   refine⟨u,e,?_⟩;cases m with
   |sh g y=>exact aA.keep (kp g) q
   |own y=>
    obtain⟨b,e1,e2,q⟩:=q
    have hb:b≠a:=λz=>by
     subst e1;rw[z]at e;exact hne (p.dis j i _ _ a h hi e ha)
    exact⟨b,e1,e2,q.keep (kp true) λo z=>by rw[aY hb];exact z⟩
   |kp g c ks=>exact⟨⟨q.1.1.keep (.upd e' mu' λ_ z=>z.elim),q.1.2⟩,q.2.upd e' mu'⟩
 ·have g1:∃y,ρ[j]? = some (some (.own y)):=by
   rcases eL h1 with⟨e,_,_⟩|⟨_,h⟩
   ·exact⟨x,by rw[e];exact hi⟩
   ·exact⟨_,h⟩
  have g2:∃y,ρ[k]? = some (some (.own y)):=by
   rcases eL h2 with⟨e,_,_⟩|⟨_,h⟩
   ·exact⟨x,by rw[e];exact hi⟩
   ·exact⟨_,h⟩
  obtain⟨y1,g1⟩:=g1
  obtain⟨y2,g2⟩:=g2
  exact p.dis j k y1 y2 b g1 g2 h3 h4
theorem Ev.upd {a:ay}{o:HO}(wa:W a):Ev W H W (upd H a o):=λb u e n _=>⟨by rw[aY (λz=>n (by rw[z];exact wa))];exact e,n⟩
def oD (W:ay->Prop)(a:ay):ay->Prop:=λb=>W b/\b≠a
theorem vG {g:Bool}{a b:ay}(h:Ms H0 W g b):Ms H0 (oD W a) g b:=by
 cases g with
 |true=>exact⟨λz=>h.1 z.1,h.2⟩
 |false=>exact λz=>h z.1
theorem PX.freeze {i:Nat}{a:ay}{x:PV}(p:PX K H0 W σ ρ H)(hi:ρ[i]? = some (some (.own x)))(ha:σ[i]? = some (some (.ref a))):PX K H0 (oD W a) σ (ρ.set i (some (.sh true x))) H:=by
 obtain⟨v,ev,a',e1,wa,r⟩:=p.sl i _ hi
 rw[ha]at ev;cases ev;cases e1;refine⟨by rw[bp0];exact p.len,p.same,λb z=>p.wm b z.1,λj m h=>?_,λj k y' z b h1 h2 h3 h4=>?_⟩
 ·rcases eL h with⟨rfl,hl,e⟩|⟨hne,h⟩
  ·cases e
   exact⟨_,ha,r.rep (M':=Ms H0 (oD W a) true) (λb m=>vG (g:=true) m) (show Ms H0 (oD W a) true a from ⟨λz=>z.2 rfl,(p.wm a wa).1⟩)⟩
  ·obtain⟨u,e,q⟩:=p.sl j m h
   refine⟨u,e,?_⟩;cases m with
   |sh g y=>exact aA.same q (aD.refl _) λ_ m=>vG m
   |own y=>
    obtain⟨b,e1,e2,q⟩:=q
    have hb:b≠a:=λz=>by
     subst e1;rw[z]at e;exact hne (p.dis j i _ _ a h hi e ha)
    exact⟨b,e1,⟨e2,hb⟩,q.keep (.same (aD.refl _) λ_ m=>vG m) λ_ z=>z⟩
   |kp g c ks=>exact q
 ·rcases eL h1 with⟨_,_,e⟩|⟨_,h1⟩
  ·cases e
  ·rcases eL h2 with⟨_,_,e⟩|⟨_,h2⟩
   ·cases e
   ·exact p.dis j k _ _ b h1 h2 h3 h4
theorem Ev.off {a:ay}:Ev W H (oD W a) H:=λb u e n _=>⟨e,λz=>n z.1⟩
end
section
variable {X:Cx}{σ:St}{H:Hp}{D:dP}{te:aC}{t u:aR}
def cK:aR:=λD ρ=>D.nx ρ
def aL (t u:aR):aR:=λD ρ=>t { D with nx:=u D } ρ
theorem ay9 (h:LS X cK D σ H):yR D σ H:=by
 obtain⟨W,ρ,D',px,q,k⟩:=h
 exact k.nx W σ H ρ (Ev.refl _ _) px q
theorem az0 (h:LS X (aL t u) D σ H):yS (LS X t) (LS X u) D σ H:=by
 obtain⟨W,ρ,D',px,q,k⟩:=h
 exact⟨W,ρ,_,px,q,λW' σ' H' ρ' e px' q'=>⟨W',ρ',D',px',q',k.step e⟩,k.rt,k.bk,k.ct⟩
def vH:Tg->PV->Bool
 |.fr,_=>true
 |.nw,_=>true
 |_,x=>flat x
def vI:Tg->PV->Prop
 |.rd,x=>flat x=true
 |_,_=>True
theorem G6 {K:ac}{H0 Hs H:Hp}{W:ay->Prop}{σ:St}{ρ:bE}{g:Tg}{x:PV}{v:V}(px:PX K H0 W σ ρ Hs)(n:vI g x)(r:aA K (Mg H0 W Hs g) H v x):aA K (Ms H0 W (vH g x)) H v x:=by
 cases g with
 |fr=>exact Nw.rep (g:=.fr) px trivial r
 |nw=>exact Nw.rep (g:=.nw) px trivial r
 |sh=>
  show aA K (Ms H0 W (flat x)) H v x;cases e:flat x with
  |true=>exact r.flat e
  |false=>exact r.same (aD.refl _) λ_ z=>z
 |rd=>exact r.flat n
def bB (i:Nat)(te:aC):aR:=λD ρ=>te ρ λx g=>vI g x/\D.nx (ρ.set i (some (.sh (vH g x) x)))
theorem vJ {i:Nat}(h:LS X (bB i te) D σ H):kG (LE X te) (dC i) D σ H:=by
 obtain⟨W,ρ,D',px,q,k⟩:=h
 refine⟨W,ρ,_,px,q,?_⟩;rintro v H1 x g s r ⟨n,q⟩;exact k.nx W _ H1 _ (Ev.same s) ((px.mono s).setSh (G6 px n r)) q
def G7:PV->Bool
 |.lst xs=>flats xs
 |.dK ps=>flats (ps.map (·.2))
 |.dT ps=>flats (ps.map (·.2))
 |_=>false
theorem az1 {K:ac}{M:ay->Prop}{H:Hp}{v:V}{x:PV}(r:aA K M H v x)(o:G7 x=true):∃a,v = .ref a/\M a/\∀M',hZ K M' H a x:=by
 cases r with
 |lst m e r=>exact⟨_,rfl,m,λ_=>⟨_,e,r.flat o⟩⟩
 |dK m e q r=>exact⟨_,rfl,m,λ_=>⟨_,e,q,r.flat o⟩⟩
 |dT m e q r=>exact⟨_,rfl,m,λ_=>⟨_,e,q,r.flat o⟩⟩
 |_=>cases o
def gV (i:Nat)(te:aC):aR:=λD ρ=>te ρ λx g=>g = .fr/\G7 x=true/\D.nx (ρ.set i (some (.own x)))
theorem G8 {i:Nat}(h:LS X (gV i te) D σ H):kG (LE X te) (dC i) D σ H:=by
 obtain⟨W,ρ,D',px,q,k⟩:=h
 refine⟨W,ρ,_,px,q,?_⟩;rintro v H1 x g s r ⟨rfl,o,q⟩
 obtain⟨a,rfl,m,w⟩:=az1 r o
 exact k.nx _ _ H1 _ (Ev.own s m) (px.setOwn s m (w _)) q
def r9 (i:Nat)(t:aR):aR:=λD ρ=>∃x,ρ[i]? = some (some (.own x))/\t D (ρ.set i (some (.sh true x)))
theorem az2 {i:Nat}(h:LS X (r9 i t) D σ H):LS X t D σ H:=by
 obtain⟨W,ρ,D',px,⟨x,hi,q⟩,k⟩:=h
 obtain⟨v,ev,a,rfl,wa,r⟩:=px.sl i _ hi
 exact⟨_,_,D',px.freeze hi ev,q,k.step Ev.off⟩
def oE (te:aC):aR:=λD ρ=>te ρ λ_ _=>D.nx ρ
theorem az3 (h:LS X (oE te) D σ H):tU (LE X te) D σ H:=by
 obtain⟨W,ρ,D',px,q,k⟩:=h
 exact⟨W,ρ,_,px,q,λv H1 x g s r q=>k.nx W σ H1 ρ (Ev.same s) (px.mono s) q⟩
def bR (te:aC):aR:=λD ρ=>te ρ λx g=>Nw g x/\D.rt x
theorem az4 (h:LS X (bR te) D σ H):tV (LE X te) D σ H:=by
 obtain⟨W,ρ,D',px,q,k⟩:=h
 refine⟨W,ρ,_,px,q,?_⟩;rintro v H1 x g s r ⟨n,q⟩;exact k.rt v H1 x (px.same.trans s) ((Nw.rep px n r).same (aD.refl _) λ_ z=>z.2) q
def Slot.nw:Slot->Prop
 |.own _=>True
 |.kp _ _ _=>True
 |.sh true _=>True
 |.sh false x=>flat x=true
def vK (i:Nat):aR:=λD ρ=>∃m,ρ[i]? = some (some m)/\m.nw/\D.rt m.val
theorem az5 {i:Nat}(h:LS X (vK i) D σ H):tV (lU i) D σ H:=by
 obtain⟨W,ρ,D',px,⟨m,hi,n,q⟩,k⟩:=h
 obtain⟨v,ev,r⟩:=px.sl i _ hi
 refine⟨v,ev,k.rt v H _ px.same ?_ q⟩;cases m with
 |own x=>
  obtain⟨a,rfl,wa,r⟩:=r
  exact r.rep (λ_ z=>z.2) (px.wm a wa).1
 |sh g x=>
  cases g with
  |true=>exact aA.same r (aD.refl _) λ_ z=>z.2
  |false=>exact aA.flat n r
 |kp g x ks=>exact r.1.1.flat r.1.2
def cG (c:cD)(t u:aR):aR:=λD ρ=>c ρ λb=>if b=true then t D ρ else u D ρ
theorem az6 {c:cD}(h:LS X (cG c t u) D σ H):yV (LT X c) (LS X t) (LS X u) D σ H:=by
 obtain⟨W,ρ,D',px,q,k⟩:=h
 refine⟨W,ρ,_,px,q,λb H1 s q1=>?_⟩;cases b with
 |true=>exact bD ⟨W,ρ,D',px.mono s,by simpa using q1,k.step (Ev.same s)⟩
 |false=>exact aU ⟨W,ρ,D',px.mono s,by simpa using q1,k.step (Ev.same s)⟩
def rA (c:cD)(tb:aR):aR:=λD ρ=>∃I:Nat->bE->Prop,(∃m,I m ρ)/\∀m ρ',I m ρ'->c ρ' λb=>if b=true then tb { D with nx:=λρ2=>∃m',m'<m/\I m' ρ2,ct:=λρ2=>∃m',m'<m/\I m' ρ2,bk:=D.nx } ρ' else D.nx ρ'
theorem az7 {c:cD}{tb:aR}(h:LS X (rA c tb) D σ H):yY (LT X c) (LS X tb) D σ H:=by
 obtain⟨W,ρ,D',px,⟨I,⟨m0,i0⟩,turn⟩,k⟩:=h
 refine⟨λm σ2 H2=>∃W2 ρ2,PX X.K X.H₀ W2 σ2 ρ2 H2/\Ev W H W2 H2/\I m ρ2,⟨m0,W,ρ,px,Ev.refl _ _,i0⟩,?_⟩;rintro m σ2 H2 ⟨W2,ρ2,px2,e2,i2⟩;refine⟨W2,ρ2,_,px2,turn m ρ2 i2,λb H3 s3 q3=>?_⟩;cases b with
 |true=>
  refine bD ⟨λσ4 H4=>∃W4 ρ4,PX X.K X.H₀ W4 σ4 ρ4 H4/\Ev W H W4 H4/\∃m',m'<m/\I m' ρ4,λσ4 H4 ⟨W4,ρ4,a,b,m',c,d⟩=>⟨m',c,W4,ρ4,a,b,d⟩,W2,ρ2,_,px2.mono s3,by simpa using q3,?_⟩;have e3:Ev W H W2 H3:=e2.trans (Ev.same s3)
  exact⟨λW' σ' H' ρ' e p q=>⟨W',ρ',p,e3.trans e,q⟩,k.rt,λW' σ' H' ρ' e p q=>k.nx W' σ' H' ρ' (e3.trans e) p q,λW' σ' H' ρ' e p q=>⟨W',ρ',p,e3.trans e,q⟩⟩
 |false=>exact aU (k.nx W2 σ2 H3 ρ2 (e2.trans (Ev.same s3)) (px2.mono s3) (by simpa using q3))
end
theorem lim {n:Nat}(h:n<=16000000):n<=sizeLine:=bn7 (qS h)
theorem aA.sqT {K:ac}{M:ay->Prop}{H:Hp}{v:V}{xs:List PV}(r:aA K M H v (.tup xs)):∃a us,v = .ref a/\H a=some (.tup us)/\Reps K M H us xs:=by
 cases r with
 |tup e r=>exact⟨_,_,rfl,e,r⟩
theorem aA.sqL {K:ac}{M:ay->Prop}{H:Hp}{v:V}{xs:List PV}(r:aA K M H v (.lst xs)):∃a us,v = .ref a/\M a/\H a=some (.lst us)/\Reps K M H us xs:=by
 cases r with
 |lst m e r=>exact⟨_,_,rfl,m,e,r⟩
theorem j4.sqL {K:ac}{H:Hp}{a:ay}{ns:ae}(h:j4 K H a ns):aT K H a (ns.map V.int):=h.elim (λz=>.inl (.inr z)) .inr
def j5:PV->Option (List PV)
 |.tup xs=>some xs
 |.lst xs=>some xs
 |.scr ns=>some (intz ns)
 |.kt xs=>some xs
 |.fL xs=>some xs
 |_=>none
theorem aA.seq {K:ac}{M:ay->Prop}{H:Hp}{v:V}{x:PV}{xs:List PV}(r:aA K M H v x)(e:j5 x=some xs):∃a us,v = .ref a/\(aT K H a us∨aM K H a us)/\Reps K M H us xs:=by
 cases r with
 |tup h r=>cases e;exact⟨_,_,rfl,.inr (aM.of h),r⟩
 |lst m h r=>cases e;exact⟨_,_,rfl,.inl (aT.of h),r⟩
 |scr h=>cases e;exact⟨_,_,rfl,.inl h.sqL,Reps.intz _⟩
 |kt h r=>cases e;exact⟨_,_,rfl,.inr (.inr h),r⟩
 |fL h r=>cases e;exact⟨_,_,rfl,.inl (.inl (.inr ⟨_,h⟩)),r⟩
 |_=>cases e
section
variable {X:Cx}{σ:St}{H:Hp}{D:dP}{te ti to:aC}{t u:aR}{Q':VK}
theorem _root_.PP.PX.updL {K:ac}{H0:Hp}{W:ay->Prop}{σ:St}{ρ:bE}{H:Hp}{i:Nat}{a:ay}{x:PV}{us:List V}{ys:List PV}(p:PX K H0 W σ ρ H)(hi:ρ[i]? = some (some (.own x)))(ha:σ[i]? = some (some (.ref a)))(wa:W a)(r:Reps K (Ms H0 W true) (upd H a (.lst us)) us ys) :
  PX K H0 W σ (ρ.set i (some (.own (.lst ys)))) (upd H a (.lst us)):=p.updOwn hi ha wa rfl (y:=.lst ys) ⟨us,c8,r⟩
def kR (i:Nat)(te:aC):aR:=λD ρ=>∃xs,ρ[i]? = some (some (.own (.lst xs)))/\te ρ λx g=>Nw g x/\xs.length<16000000/\D.nx (ρ.set i (some (.own (.lst (xs++[x])))))
theorem az8 {i:Nat}(h:LS X (kR i te) D σ H):tU (A6 X.K "list" A7 (lU i) (iV (LE X te) m5)) D σ H:=by
 obtain⟨W,ρ,D',px,⟨xs,hi,q⟩,k⟩:=h
 obtain⟨v,ev,a,rfl,wa,us,ea,r⟩:=px.sl i _ hi
 refine⟨_,ev,F7 (aT.of ea),W,ρ,_,px,q,?_⟩;rintro w H1 x g s rx ⟨n,hl,q⟩;have ea1:=s _ _ ea;refine⟨a,us,w,rfl,rfl,ea1,qS (by rw[r.length];omega),?_⟩;refine k.nx W σ _ _ ((Ev.same s).trans (Ev.upd wa)) ((px.mono s).updL hi ev wa ?_) q;exact ((r.same s λ_ z=>z).append (.cons (Nw.rep px n rx) .nil)).keep (.upd ea1 rfl λb m=>⟨r6 wa m,m⟩)
def vL (i j:Nat):aR:=λD ρ=>∃xs y,ρ[i]? = some (some (.own (.lst (xs++[y]))))/\D.nx ((ρ.set i (some (.own (.lst xs)))).set j (some (.sh true y)))
theorem Reps.snoc_inv {K:ac}{M:ay->Prop}{H:Hp}{us:List V}{xs:List PV}{y:PV}(r:Reps K M H us (xs++[y])):∃vs v,us=vs++[v]/\Reps K M H vs xs/\aA K M H v y:=by
 have l:=r.length;have h1:=r.take xs.length;have h2:=r.drop xs.length;rw[List.take_left]at h1;rw[List.drop_left]at h2;generalize hd:us.drop xs.length=ds at h2;cases h2 with
 |cons q t=>
  cases t
  exact⟨_,_,by rw[<- hd,bk3],h1,q⟩
theorem az9 {i j:Nat}(h:LS X (vL i j) D σ H):kG (A5 X.K "list" A9 (lU i)) (dC j) D σ H:=by
 obtain⟨W,ρ,D',px,⟨xs,y,hi,q⟩,k⟩:=h
 obtain⟨v,ev,a,rfl,wa,us,ea,r⟩:=px.sl i _ hi
 obtain⟨vs,w,rfl,r1,ry⟩:=r.snoc_inv
 refine⟨_,ev,F7 (aT.of ea),a,_,w,rfl,rfl,ea,by simp,?_⟩;rw[List.dropLast_concat];have kp:fR (Ms X.H₀ W true) (Ms X.H₀ W true) H (upd H a (.lst vs)):=.upd ea rfl λb m=>⟨r6 wa m,m⟩
 exact k.nx W _ _ _ (Ev.upd wa) ((px.updL hi ev wa (r1.keep kp)).setSh (ry.keep kp)) q
end
theorem Reps.atI {K:ac}{M:ay->Prop}{H:Hp}{us:List V}{xs:List PV}{i:Int}{z:PV}(r:Reps K M H us xs)(h:L2.atI xs i=some z):∃v,L2.atI us i=some v/\aA K M H v z:=by
 unfold L2.atI at h ⊢;rw[r.length];cases e:kH xs.length i with
 |none=>rw[e]at h;cases h
 |some j=>rw[e]at h;exact r.at h
section
variable {X:Cx}{σ:St}{H:Hp}{Q':VK}{ta tb te:aC}{tr:cJ}
def vM:PV->Tg->PV->Tg->PK->Prop:=λx g y _ Q=>∃xs i z,j5 x=some xs/\y = .int i/\L2.atI xs i=some z/\Q z g
theorem aA0:fE X vM (A3 X.K):=by
 rintro W Hs H u v x y g g' Q Q' s n r1 r2 ⟨xs,i,z,e,rfl,hz,q⟩ k;cases r2
 obtain⟨a,us,rfl,hs,r⟩:=r1.seq e
 obtain⟨v,hv,rv⟩:=r.atI hz
 rcases hs with hs|hs
 ·exact .inl ⟨a,us,i,v,rfl,rfl,hs,hv,k v H z g (aD.refl _) rv q⟩
 ·exact .inr (.inl ⟨a,us,i,v,rfl,rfl,hs,hv,k v H z g (aD.refl _) rv q⟩)
def vN:PV->Option Nat
 |.tup xs=>some xs.length
 |.lst xs=>some xs.length
 |.scr ns=>some ns.length
 |.dK ps=>some ps.length
 |.kt xs=>some xs.length
 |.fL xs=>some xs.length
 |_=>none
def gG:List PV->(PV->Prop)->Prop:=λxs Q=>∃x n,xs = [x]/\vN x=some n/\Q (.int n)
theorem Reps.one {K:ac}{M:ay->Prop}{H:Hp}{vs:List V}{x:PV}(r:Reps K M H vs [x]):∃v,vs = [v]/\aA K M H v x:=by
 cases r with
 |cons r t=>cases t;exact⟨_,rfl,r⟩
theorem Reps.two {K:ac}{M:ay->Prop}{H:Hp}{vs:List V}{x y:PV}(r:Reps K M H vs [x,y]):∃v w,vs = [v,w]/\aA K M H v x/\aA K M H w y:=by
 cases r with
 |cons r t=>
  obtain⟨w,rfl,q⟩:=t.one
  exact⟨_,_,rfl,r,q⟩
theorem aA1:gU X gG (λxs H Q=>(∃p ys,xs = [.ref p]/\(aT X.K H p ys∨aM X.K H p ys)/\Q (.int ys.length) H)∨∃a kvs,xs = [V.ref a]/\H a=some (.dK kvs)/\Q (.int kvs.length) H):=by
 rintro H vs xs Q Q' r ⟨x,n,rfl,e,q⟩ k
 obtain⟨v,rfl,r1⟩:=r.one
 have fin:∀{m:Nat},m=n->Q' (.int m) H:=λ{m} z=>by rw[z];exact k _ _ _ (aD.refl _) (.int _) q
 cases r1 with
 |tup h r2=>cases e;exact .inl ⟨_,_,rfl,.inr (aM.of h),fin r2.length⟩
 |lst m h r2=>cases e;exact .inl ⟨_,_,rfl,.inl (aT.of h),fin r2.length⟩
 |scr h=>cases e;exact .inl ⟨_,_,rfl,.inl h.sqL,fin (by rw[bf6])⟩
 |kt h r2=>cases e;exact .inl ⟨_,_,rfl,.inr (.inr h),fin r2.length⟩
 |fL h r2=>cases e;exact .inl ⟨_,_,rfl,.inl (.inl (.inr ⟨_,h⟩)),fin r2.length⟩
 |dK m h e' r=>
  cases e;refine .inr ⟨_,_,rfl,h,fin ?_⟩
  have:=congrArg List.length e'
  rw[bf6,bf6]at this;exact this
 |_=>cases e
def rB:PV->Option (List PV)
 |.kt _=>none
 |x=>j5 x
def G9:List PV->(PV->Prop)->Prop:=λxs Q=>∃x ys,xs = [x]/\rB x=some ys/\flats ys=true/\Q (.tup ys)
def rC:List PV->(PV->Prop)->Prop:=λxs Q=>∃x ys,xs = [x]/\j5 x=some ys/\flats ys=true/\Q (.lst ys)
theorem aA2:gU X (λxs Q=>G9 xs Q/\∀ns,xs≠[.scr ns]) (λxs H Q=>∃p ys,xs = [.ref p]/\((aT X.K H p ys/\∀l,H l=none->Q (.ref l) (upd H l (.tup ys)))∨(aM X.K H p ys/\Q (.ref p) H))):=by
 rintro H vs xs Q Q' r ⟨⟨x,ys,rfl,e,f,q⟩,nsc⟩ k
 obtain⟨v,rfl,r1⟩:=r.one
 cases r1 with
 |tup h r2=>cases e;exact⟨_,_,rfl,.inr ⟨aM.of h,k _ _ _ (aD.refl _) (.tup h (r2.flat f)) q⟩⟩
 |lst m h r2=>cases e;exact⟨_,_,rfl,.inl ⟨aT.of h,λl hl=>k _ _ _ (bK hl _) (.tup c8 ((r2.flat f).same (bK hl _) λ_ z=>z)) q⟩⟩
 |scr h=>exact absurd rfl (nsc _)
 |fL h r2=>cases e;exact⟨_,_,rfl,.inl ⟨.inl (.inr ⟨_,h⟩),λl hl=>k _ _ _ (bK hl _) (.tup c8 ((r2.flat f).same (bK hl _) λ_ z=>z)) q⟩⟩
 |_=>cases e
theorem aA3:gU X rC (λxs H Q=>∃p ys,xs = [.ref p]/\(aT X.K H p ys∨aM X.K H p ys)/\∀l,H l=none->Q (.ref l) (upd H l (.lst ys))):=by
 rintro H vs xs Q Q' r ⟨x,ys,rfl,e,f,q⟩ k
 obtain⟨v,rfl,r1⟩:=r.one
 obtain⟨a,us,rfl,hs,r2⟩:=r1.seq e
 exact⟨_,_,rfl,hs,λl hl=>k _ _ _ (bK hl _) (.lst hl c8 ((r2.flat f).same (bK hl _) λ_ z=>z)) q⟩
def rD:List PV->(PV->Prop)->Prop:=λxs Q=>∃bs:List Bool,xs = [.lst (bs.map PV.bl)]/\Q (.bl (bs.all id))
theorem Reps.ofBls {K:ac}{M:ay->Prop}{H:Hp}:∀{ns:List Bool}{us:List V},Reps K M H us (ns.map PV.bl)->us=ns.map V.bl
 |[],_,.nil=>rfl
 |n::r,_,.cons q t=>by
  cases q;rw[Reps.ofBls t];rfl
theorem aA4:gU X rD (λxs H Q=>∃(a:ay) (bs:List Bool),xs = [.ref a]/\aT X.K H a (bs.map V.bl)/\Q (.bl (bs.all id)) H):=by
 rintro H vs xs Q Q' r ⟨bs,rfl,q⟩ k
 obtain⟨v,rfl,r1⟩:=r.one
 obtain⟨a,us,rfl,_,h,r2⟩:=r1.sqL
 obtain rfl:=r2.ofBls
 exact⟨a,bs,rfl,aT.of h,k _ _ _ (aD.refl _) (.bl _) q⟩
def rE:List PV->(PV->Prop)->Prop:=λxs Q=>∃i j,xs = [.int i,.int j]/\Q (.int (if j<i then j else i))
def oF:List PV->(PV->Prop)->Prop:=λxs Q=>∃i j,xs = [.int i,.int j]/\Q (.int (if j>i then j else i))
theorem aA5:gU X rE (λxs H Q=>∃i j,xs = [.int i,.int j]/\Q (.int (if j<i then j else i)) H):=by
 rintro H vs xs Q Q' r ⟨i,j,rfl,q⟩ k
 obtain⟨v,w,rfl,r1,r2⟩:=r.two
 cases r1;cases r2
 exact⟨i,j,rfl,k _ _ _ (aD.refl _) (.int _) q⟩
theorem aA6:gU X oF (λxs H Q=>∃i j,xs = [.int i,.int j]/\Q (.int (if j>i then j else i)) H):=by
 rintro H vs xs Q Q' r ⟨i,j,rfl,q⟩ k
 obtain⟨v,w,rfl,r1,r2⟩:=r.two
 cases r1;cases r2
 exact⟨i,j,rfl,k _ _ _ (aD.refl _) (.int _) q⟩
abbrev cV:=List PV->(PV->Prop)->Prop
def oG (K:ac)(p:cV):Sp:=λvs H Q _=>∃xs Qp,Reps K (λ_=>True) H vs xs/\p xs Qp/\∀v H' x,aD H H'->aA K (λa=>H a=none) H' v x->Qp x->Q v H'
theorem aA7 {p:cV}{E:XK}(h:LE X (aN p tr) σ H Q'):uC (oG X.K p) [] E (LA X tr) σ H Q':=by
 obtain⟨W,ρ,Q,px,q,k⟩:=h
 refine⟨W,ρ,_,px,q,λvs H1 xs s1 r1 q1=>⟨_,_,by rw[bj9];exact r1.any,q1,λv H' x s2 r2 q2=>k v H' x .fr (s1.trans s2) (r2.same (aD.refl _) λ_ z=>s1.free z) q2⟩⟩
def aA8:PV->Option Bool
 |.non=>some false
 |.bl b=>some b
 |.int i=>some (i != 0)
 |.tup xs=>some (!xs.isEmpty)
 |.lst xs=>some (!xs.isEmpty)
 |.dK ps=>some (!ps.isEmpty)
 |_=>none
def vO (t:aC):cD:=λρ Q=>t ρ λx _=>∃b,aA8 x=some b/\Q b
theorem vP {α β:Type}:∀{l:List α}{m:List β},l.length=m.length->l.isEmpty=m.isEmpty
 |[],[],_=>rfl
 |_::_,_::_,_=>rfl
theorem aA9 {t:aC}{Qb:Bool->Hp->Prop}(h:LT X (vO t) σ H Qb):LE X t σ H λx H'=>∃k,u9 X.K x H' k/\Qb k H':=by
 obtain⟨W,ρ,Q,px,q,k⟩:=h
 refine⟨W,ρ,_,px,q,?_⟩;rintro v H1 x g s r ⟨b,e,q⟩;refine⟨b,?_,k _ _ s q⟩;cases r with
 |non=>cases e;rfl
 |bl b=>cases e;rfl
 |int i=>cases e;rfl
 |str x=>cases e
 |tup h r=>cases e;exact .inr (.inl ⟨_,aM.of h,by rw[vP r.length]⟩)
 |lst m h r=>cases e;exact .inl ⟨_,aT.of h,by rw[vP r.length]⟩
 |dK m h e' r=>
  cases e;refine .inr (.inr ⟨_,h,?_⟩)
  have:=congrArg List.length e'
  rw[bf6,bf6]at this;rw[vP this]
 |dT m h e' r=>cases e
 |scr h=>cases e
 |kt h r=>cases e
 |exc h e' c=>cases e
 |fK h e' r=>cases e
 |fT h e' r=>cases e
 |fL h r=>cases e
 |fn h=>cases e
 |ob=>cases e
end
structure kS (K:ac)(H0:Hp)(W:ay->Prop)(g:Bool)(H1:Hp)(J:It)(xs:List PV):Prop where
 go:∀W' H' i,Ev W H1 W' H'->i<xs.length->J.go i H'
 yld:∀W' H' i v H2,Ev W H1 W' H'->J.yld i H' v H2->i<xs.length->aD H' H2/\∃x,xs[i]? = some x/\aA K (Ms H0 W' g) H2 v x
 stop:∀W' H',Ev W H1 W' H'->J.stop xs.length H'
abbrev fS:=bE->(List PV->Bool->Prop)->Prop
def LI (X:Cx)(t:fS):TI:=λσ H R=>∃(W:ay->Prop) (ρ:bE) (Q:List PV->Bool->Prop),PX X.K X.H₀ W σ ρ H/\t ρ Q/\∀J H1 xs g,aD H H1->kS X.K X.H₀ W g H1 J xs->Q xs g->R J H1
theorem Ev.keep {H0:Hp}{W W':ay->Prop}{H H':Hp}{g:Bool}(e:Ev W H W' H')(tw:∀a,W a->∃o,H a=some o/\fD o=true):fR (Ms H0 W g) (Ms H0 W' g) H H':=by
 have m:∀{a:ay}{o:HO},Ms H0 W g a->H a=some o->G0 o=false->Ms H0 W' g a/\H' a=some o:=λ{a o} z h hk=>by
  cases g with
  |true=>
   obtain⟨h1,h2⟩:=e a _ h z.1 hk
   exact⟨⟨h2,z.2⟩,h1⟩
  |false=>
   obtain⟨h1,h2⟩:=e a _ h z hk
   exact⟨h2,h1⟩
 refine⟨λa _ z h=>m z h rfl,λa _ z h=>m z h rfl,λa _ z h=>m z h rfl,λa _ h=>(e a _ h (λz=>?_) rfl).1,λa _ _ h f=>(e a _ h (λz=>?_) f).1⟩
 ·obtain⟨o,h',mu⟩:=tw a z;rw[h]at h';cases h';cases mu
 ·obtain⟨o,h',mu⟩:=tw a z;rw[h]at h';cases h';cases mu
section
variable {X:Cx}{σ:St}{H:Hp}{te:aC}{tr:cJ}{R:It→Hp→Prop}
def J0 (K:ac)(tl:TE):TI:=λσ H R=>tl σ H λx H1=>∃a,x = .ref a/\((∃xs,aT K H1 a xs/\R (tY K a) H1)∨(∃xs,aM K H1 a xs/\R (tZ K a) H1))
def rF:Tg->List PV->Bool
 |.fr,_=>true
 |.nw,_=>true
 |_,xs=>flats xs
def gH (te:aC):fS:=λρ Q=>te ρ λx g=>∃xs,j5 x=some xs/\(g = .rd->flat x=true)/\Q xs (rF g xs)
theorem vQ {K:ac}{H0:Hp}{W:ay->Prop}{g:Bool}{H1:Hp}{a:ay}{us:List V}{xs:List PV}(tw:∀a,W a->∃o,H1 a=some o/\fD o=true)(ha:∀W' H',Ev W H1 W' H'->aT K H' a us)(r:Reps K (Ms H0 W g) H1 us xs):kS K H0 W g H1 (tY K a) xs:=by
 have lr:=r.length;refine⟨λW' H' i e hi=>⟨us,us[i]'(by omega),ha W' H' e,by simp⟩,λW' H' i v H2 e y hi=>?_,λW' H' e=>⟨us,ha W' H' e,by omega⟩⟩
 obtain⟨rfl,y⟩:=y
 obtain⟨x,hx,rx⟩:=r.get (y us (ha W' _ e))
 exact⟨aD.refl _,x,hx,rx.keep (e.keep tw)⟩
theorem J1 {K:ac}{H0:Hp}{W:ay->Prop}{g:Bool}{H1:Hp}{a:ay}{us:List V}{xs:List PV}(tw:∀a,W a->∃o,H1 a=some o/\fD o=true)(ha:∀W' H',Ev W H1 W' H'->aM K H' a us)(r:Reps K (Ms H0 W g) H1 us xs):kS K H0 W g H1 (tZ K a) xs:=by
 have lr:=r.length;refine⟨λW' H' i e hi=>⟨us,us[i]'(by omega),ha W' H' e,by simp⟩,λW' H' i v H2 e y hi=>?_,λW' H' e=>⟨us,ha W' H' e,by omega⟩⟩
 obtain⟨rfl,y⟩:=y
 obtain⟨x,hx,rx⟩:=r.get (y us (ha W' _ e))
 exact⟨aD.refl _,x,hx,rx.keep (e.keep tw)⟩
theorem oH {K:ac}{H0 Hs H:Hp}{W:ay->Prop}{σ:St}{ρ:bE}{g:Tg}{us:List V}{xs:List PV}(px:PX K H0 W σ ρ Hs)(hg:g = .rd->flats xs=true)(r:Reps K (Mg H0 W Hs g) H us xs):Reps K (Ms H0 W (rF g xs)) H us xs:=by
 cases g with
 |fr=>exact r.same (aD.refl _) λ_ z=>px.new z
 |nw=>exact r.same (aD.refl _) λ_ z=>z
 |sh=>
  show Reps K (Ms H0 W (flats xs)) H us xs;cases e:flats xs with
  |true=>exact r.flat e
  |false=>exact r.same (aD.refl _) λ_ z=>z
 |rd=>exact r.flat (hg rfl)
theorem aB0 (h:LI X (gH te) σ H R):J0 X.K (LE X te) σ H R:=by
 obtain⟨W,ρ,Q,px,q,k⟩:=h
 refine⟨W,ρ,_,px,q,?_⟩;rintro v H1 x g s r ⟨xs,e,hg,q⟩;have px1:=px.mono s;have tw:∀a,W a->∃o,H1 a=some o/\fD o=true:=λa z=>(px1.wm a z).2
 cases r with
 |tup h r=>
  cases e;refine⟨_,rfl,.inr ⟨_,aM.of h,k _ _ _ _ s (J1 tw (λW' H' e=>aM.of (e _ _ h (λz=>?_) rfl).1) (oH px (λz=>by have:=hg z;unfold flat at this;exact this) r)) q⟩⟩
  obtain⟨o,h',mu⟩:=tw _ z;rw[h]at h';cases h';cases mu
 |@lst a us xs' m h r=>
  cases e;have wa:¬W a:=by
   cases g with
   |fr=>exact (px.new m).1
   |nw=>exact m.1
   |sh=>exact m
   |rd=>have:=hg rfl;unfold flat at this;cases this
  exact⟨_,rfl,.inl ⟨_,aT.of h,k _ _ _ _ s (vQ tw (λW' H' e=>aT.of (e _ _ h wa rfl).1) (oH px (λz=>by have:=hg z;unfold flat at this;cases this) r)) q⟩⟩
 |scr h=>
  cases e;refine⟨_,rfl,.inl ⟨_,h.sqL,k _ _ _ _ s (vQ tw (λW' H' e=>(j4.keep (λa o u hz f=>(e _ _ hz (λz=>?_) f).1) h).sqL) (oH (g:=g) px (λz=>vD _) (Reps.intz _))) q⟩⟩
  obtain⟨o,h',mu⟩:=tw _ z;rw[hz]at h';cases h';cases mu
 |kt h r=>
  cases e
  exact⟨_,rfl,.inr ⟨_,.inr h,k _ _ _ _ s (J1 tw (λW' H' e=>.inr h) (oH px (λz=>by have:=hg z;unfold flat at this;exact this) r)) q⟩⟩
 |fL h r=>
  cases e;refine⟨_,rfl,.inl ⟨_,.inl (.inr ⟨_,h⟩),k _ _ _ _ s (vQ tw (λW' H' e=>.inl (.inr ⟨_,(e _ _ h (λz=>?_) rfl).1⟩)) (oH px (λz=>by have:=hg z;unfold flat at this;exact this) r)) q⟩⟩
  obtain⟨o,h',mu⟩:=tw _ z;rw[h]at h';cases h';cases mu
 |_=>cases e
def jR (lo:Int)(n:Nat):List PV:=(List.range n).map λ(i:Nat)=>PV.int (lo+(i:Int))
theorem jS (lo:Int)(n:Nat):(jR lo n).length=n:=by unfold jR;rw[bf6,bl8]
theorem J2 {lo:Int}{n i:Nat}(h:i<n):(jR lo n)[i]? = some (.int (lo+i)):=by unfold jR;rw[bh5,List.getElem?_range h];rfl
def kT (te:aC):fS:=λρ Q=>te ρ λx _=>∃j:Int,x = .int j/\-1000000<=j/\j<=1000000/\Q (jR 0 j.toNat) true
theorem aB1 {K:ac}{H0:Hp}{W:ay->Prop}{H1:Hp}(lo:Int)(n:Nat):kS K H0 W true H1 (pW lo n) (jR lo n):=by
 refine⟨λW' H' i e hi=>by rw[jS]at hi;exact hi,λW' H' i v H2 e y hi=>?_,λW' H' e=>by show n<=(jR lo n).length;rw[jS];exact bg0 _⟩;rw[jS]at hi
 obtain⟨rfl,rfl⟩:=y
 exact⟨aD.refl _,_,J2 hi,.int _⟩
theorem aB2 (h:LI X (kT te) σ H R):yZ (iV (LE X te) m5) σ H R:=by
 obtain⟨W,ρ,Q,px,q,k⟩:=h
 refine⟨W,ρ,_,px,q,?_⟩;rintro v H1 x g s r ⟨j,rfl,h1,h2,q⟩;cases r
 exact⟨j,rfl,by omega,by omega,k _ _ _ _ s (aB1 0 j.toNat) q⟩
end
abbrev iD:=PV->Bool->bE->(bE->Prop)->Prop
def mF (K:ac)(own:Nat->Prop)(p:iD)(t:TG):Prop:=∀(H0:Hp) (W:ay->Prop) (σ:St) (ρ:bE) (H:Hp) (v:V) (x:PV) (g:Bool) (Q:bE->Prop) (Q':St->Hp->Prop),
 PX K H0 W σ ρ H->aA K (Ms H0 W g) H v x->p x g ρ Q->(∀σ' ρ',PX K H0 W σ' ρ' H->(∀i,¬own i->σ'[i]? = σ[i]?)->σ'.length=σ.length->Q ρ'->Q' σ' H)->t v σ H Q'
def cP (i:Nat):iD:=λx g ρ Q=>Q (ρ.set i (some (.sh (g||flat x) x)))
theorem rG {K:ac}{H0 H:Hp}{W:ay->Prop}{v:V}{x:PV}{g:Bool}(r:aA K (Ms H0 W g) H v x):aA K (Ms H0 W (g||flat x)) H v x:=by
 cases g with
 |true=>exact r
 |false=>
  show aA K (Ms H0 W (flat x)) H v x;cases e:flat x with
  |true=>exact r.flat e
  |false=>exact r
theorem oI (K:ac)(i:Nat):mF K (· = i) (cP i) (dC i):=by
 intro H0 W σ ρ H v x g Q Q' px r q k;exact k _ _ (px.setSh (rG r)) (λj hj=>by rw[bj6 (Ne.symm hj)]) (bp0 ..) q
def jT (i j:Nat):iD:=λx g ρ Q=>∃y z,x = .tup [y,z]/\Q ((ρ.set i (some (.sh (g||flat y) y))).set j (some (.sh (g||flat z) z)))
theorem vR (K:ac)(i j:Nat):mF K (λk=>k=i∨k=j) (jT i j) (lY K 2 (hU (dC i) (hU (dC j) lX))):=by
 intro H0 W σ ρ H v x g Q Q' px r q k
 obtain⟨y,z,rfl,q⟩:=q
 obtain⟨a,us,rfl,h,r⟩:=r.sqT
 obtain⟨u1,u2,rfl,r1,r2⟩:=r.two
 refine⟨a,_,rfl,aM.of h,rfl,u1,_,rfl,u2,_,rfl,rfl,k _ _ ((px.setSh (rG r1)).setSh (rG r2)) (λk hk=>?_) (by rw[bp0,bp0]) q⟩;rw[bj6 (λe=>hk (.inr e.symm)),bj6 (λe=>hk (.inl e.symm))]
section
variable {X:Cx}{σ:St}{H:Hp}{D:dP}
def gI (ti:fS)(p:iD)(tb:aR):aR:=λD ρ=>ti ρ λxs g=>∃I:Nat->bE->Prop,I 0 ρ/\(∀i x ρ',xs[i]? = some x->I i ρ'->p x g ρ' λρ2=>tb { D with nx:=I (i+1),ct:=I (i+1),bk:=D.nx } ρ2)/\∀ρ',I xs.length ρ'->D.nx ρ'
theorem aB3 {ti:fS}{p:iD}{g:TG}{tb:aR}{own:Nat->Prop}(hg:mF X.K own p g)(h:LS X (gI ti p tb) D σ H):z0 (LI X ti) g (LS X tb) D σ H:=by
 obtain⟨W,ρ,D',px,q,k⟩:=h
 refine⟨W,ρ,_,px,q,?_⟩;rintro J H1 xs gb s it ⟨I,i0,turn,fin⟩;refine⟨λi m σ2 H2=>m=xs.length-i/\i<=xs.length/\∃W2 ρ2,PX X.K X.H₀ W2 σ2 ρ2 H2/\Ev W H1 W2 H2/\I i ρ2,⟨xs.length,by omega,bk7 _,W,ρ,px.mono s,Ev.refl _ _,i0⟩,?_⟩;rintro i m σ2 H2 ⟨rfl,hi,W2,ρ2,px2,e2,i2⟩;have e0:Ev W H W2 H2:=(Ev.same s).trans e2;by_cases hlt:i<xs.length
 ·refine .inr ⟨it.go W2 H2 i e2 hlt,λσ3 H3=>∃W3 ρ3,PX X.K X.H₀ W3 σ3 ρ3 H3/\Ev W H1 W3 H3/\I (i+1) ρ3,λσ3 H3 ⟨W3,ρ3,a,b,c⟩=>⟨xs.length-(i+1),by omega,rfl,hlt,W3,ρ3,a,b,c⟩,λv H3 y=>?_⟩
  obtain⟨s3,x,hx,rx⟩:=it.yld W2 H2 i v H3 e2 y hlt
  refine hg X.H₀ W2 σ2 ρ2 H3 v x gb _ _ (px2.mono s3) rx (turn i x ρ2 hx i2) λσ4 ρ4 px4 _ _ q4=>?_
  have e3:Ev W H1 W2 H3:=e2.trans (Ev.same s3);have e3':Ev W H W2 H3:=e0.trans (Ev.same s3)
  exact⟨W2,ρ4,_,px4,q4,λW' σ' H' ρ' e p q=>⟨W',ρ',p,e3.trans e,q⟩,k.rt,λW' σ' H' ρ' e p q=>k.nx W' σ' H' ρ' (e3'.trans e) p q,λW' σ' H' ρ' e p q=>⟨W',ρ',p,e3.trans e,q⟩⟩
 ·have e:i=xs.length:=by omega
  subst e;exact .inl ⟨it.stop W2 H2 e2,k.nx W2 σ2 H2 ρ2 e0 px2 (fin ρ2 i2)⟩
end
def Slot.blk:Slot->Slot
 |.kp _ x ks=>.kp false x ks
 |.sh _ x=>.sh false x
 |.own x=>.sh false x
def mG (fr:List (Option Nat))(ρ:bE):bE:=fr.map λo=>o.bind λj=>(ρ[j]?).join.map Slot.blk
theorem kO.any {K:ac}{H0 H:Hp}{a:ay}{st un:List PV}(h:kO K H0 H a st un):kO K (λ_=>none) H a st un:=by
 obtain⟨C,dx,l1,l2,us1,us2,h1,h2,h⟩:=h
 exact⟨C,dx,l1,l2,us1,us2,h1,⟨rfl,rfl,rfl,rfl⟩,h⟩
theorem gF.any {K:ac}{H0 H:Hp}{ks:List (ay×List PV×List PV)}(h:gF K H0 H ks):gF K (λ_=>none) H ks:=⟨λk hk=>(h.1 k hk).any,h.2⟩
theorem Slot.blk_own {m:Slot}{x:PV}(h:m.blk = .own x):False:=by
 cases m<;>cases h
theorem aB4 {K:ac}{H0 H1 H1' H':Hp}{W W':ay->Prop}{v:V}{m:Slot}(r:qU K H0 W H1 v m)(k:fR (λ_=>False) (λ_=>False) H1 H')(f:∀b o,H1 b=some o->fD o=false->H' b=some o)(rv:aA K (λa=>¬W' a) H' v m.val):qU K H1' W' H' v m.blk:=by
 cases m with
 |sh g x=>exact rv
 |own x=>exact rv
 |kp g x ks=>exact⟨⟨r.1.1.keep k,r.1.2⟩,r.2.any.keep k f⟩
def kU (D:ay):ay->Prop:=λa=>a=D
theorem aB5 {K:ac}{H0:Hp}{W:ay->Prop}{σ:St}{ρ:bE}{H1 H':Hp}{D:ay}{acc:List V}{fr:List (Option Nat)}(px:PX K H0 W σ ρ H1)(hD:H1 D=none)(s:aD H1 H')(ha:H' D=some (.lst acc)) :
  PX K H1 (kU D) (gC fr σ) (mG fr ρ) H':=by
 have old:∀{a:ay}{o:HO},H1 a=some o->a≠D:=λ{a o} e z=>by rw[z,hD]at e;cases e
 refine⟨by unfold gC mG;rw[bf6,bf6],s,λa z=>by cases z;exact⟨hD,_,ha,rfl⟩,λi m h=>?_,λi j x y a h1=>?_⟩
 ·unfold mG at h
  rw[bh5]at h;cases ef:fr[i]? with
  |none=>rw[ef]at h;cases h
  |some o=>
   rw[ef]at h;cases o with
   |none=>cases h
   |some j=>
    have h:some ((ρ[j]?).join.map Slot.blk)=some (some m):=h;cases er:ρ[j]? with
    |none=>rw[er]at h;cases h
    |some o=>
     rw[er]at h;cases o with
     |none=>cases h
     |some m0=>
      cases h
      obtain⟨v,ev,r⟩:=px.sl j m0 er
      refine⟨v,?_,?_⟩
      ·unfold gC
       rw[bh5,ef];show some ((σ[j]?).join)=_;rw[ev];rfl
      ·have r':aA K (λ_=>True) H1 v m0.val:=(G1 (Hs:=H1) r).same (aD.refl _) λ_ _=>trivial
       refine aB4 r (.same s λ_ z=>z) (λ_ _ e _=>s _ _ e) ?_;exact r'.keep ⟨λa _ _ e=>⟨old e,s _ _ e⟩,λa _ _ e=>⟨old e,s _ _ e⟩,λa _ _ e=>⟨old e,s _ _ e⟩,λ_ _ e=>s _ _ e,λ_ _ _ e _=>s _ _ e⟩
 ·unfold mG at h1
  rw[bh5]at h1;cases ef:fr[i]? with
  |none=>rw[ef]at h1;cases h1
  |some o=>
   rw[ef]at h1;cases o with
   |none=>cases h1
   |some j=>
    have h1:some ((ρ[j]?).join.map Slot.blk)=some (some (Slot.own x)):=h1;cases er:ρ[j]? with
    |none=>rw[er]at h1;cases h1
    |some o=>
     rw[er]at h1;cases o with
     |none=>cases h1
     |some m0=>exact (Slot.blk_own (bj4 (bj4 h1))).elim
section
variable {X:Cx}{σ:St}{H:Hp}{Q':VK}
abbrev _root_.L2.Cx.frm (X:Cx)(H1:Hp):Cx:={ X with H₀:=H1 }
def fG (ti:fS)(fr:List (Option Nat))(p:iD)(tc:cD)(te:aC):aC:=λρ Q=>ti ρ λxs g=>xs.length<=16000000/\∃I:Nat->List PV->Prop,I 0 []/\
 (∀i x acc,xs[i]? = some x->I i acc->p x false (mG fr ρ) λρ2=>tc ρ2 λb=>if b=true then te ρ2 λy gy=>Nw gy y/\I (i+1) (acc++[y]) else I (i+1) acc)/\∀acc,I xs.length acc->Q (.lst acc) .fr
theorem mH {ti:fS}{fr:List (Option Nat)}{p:iD}{g:TG}{tc:cD}{te:aC}{own:Nat->Prop}(hg:mF X.K own p g)(ho:∀i,own i->fr[i]? = some none)(h:LE X (fG ti fr p tc te) σ H Q') :
  uR (LI X ti) fr (λ_=>g) (λH1=>LT (X.frm H1) tc) (λH1=>LE (X.frm H1) te) σ H Q':=by
 obtain⟨W,ρ,Q,px,q,k⟩:=h
 refine⟨W,ρ,_,px,q,?_⟩;rintro J H1 xs gb s it ⟨hl,I,i0,turn,fin⟩ D hD;have px1:=px.mono s;refine⟨λi m acc H'=>m=xs.length-i/\i<=xs.length/\aD H1 H'/\H' D=some (.lst acc)/\∃ys,Reps X.K (Ms H1 (kU D) true) H' acc ys/\ys.length<=i/\I i ys,⟨xs.length,by omega,bk7 _,bK hD _,c8,[],.nil,bg0 _,i0⟩,?_⟩;rintro i m acc H' ⟨rfl,hi,sm,ha,ys,ry,hy,iy⟩;refine⟨ha,?_⟩;have ev:Ev W H1 (mE W D) H':=Ev.own sm hD;by_cases hlt:i<xs.length
 ·refine .inr ⟨it.go _ H' i ev hlt,λv H2 y=>?_⟩
  obtain⟨s2,x,hx,rx⟩:=it.yld _ H' i v H2 ev y hlt
  have ha2:=s2 _ _ ha;have pxb:PX X.K H1 (kU D) (gC fr σ) (mG fr ρ) H2:=aB5 px1 hD (sm.trans s2) ha2;have rx':aA X.K (Ms H1 (kU D) false) H2 v x:=rx.same (aD.refl _) λa z=>by
   cases gb with
   |true=>exact λe=>z.1 (.inr e)
   |false=>exact λe=>z (.inr e)
  refine hg H1 (kU D) _ _ H2 v x false _ _ pxb rx' (turn i x ys hx iy) λσ2 ρ2 px2 hown aj q2=>⟨⟨aj.symm,λj w e=>?_⟩,?_⟩
  ·by_cases oj:own j
   ·have:=ho j oj
    unfold gC at e;rw[bh5,this]at e;cases e
   ·rw[hown j oj];exact e
  ·refine⟨kU D,ρ2,_,px2,q2,λb H4 s4 q4=>?_⟩
   have ha4:=s4 _ _ ha2;have sm4:=(sm.trans s2).trans s4;cases b with
   |false=>
    refine aU ⟨xs.length-(i+1),by omega,rfl,hlt,sm4,ha4,ys,ry.same (s2.trans s4) λ_ z=>z,by omega,by simpa using q4⟩
   |true=>
    refine bD ⟨kU D,ρ2,_,px2.mono s4,by simpa using q4,?_⟩;rintro w H5 y gy s5 ryy ⟨nw,q5⟩;have ha5:=s5 _ _ ha4;have lr:=ry.length;refine⟨ha5,qS (by omega),xs.length-(i+1),by omega,rfl,hlt,λb o e=>?_,c8,ys++[y],?_,by rw[bh1,bl0];omega,q5⟩
    ·rw[aY (λz=>by rw[z,hD]at e;cases e)]
     exact s5 _ _ (sm4 _ _ e)
    ·exact ((ry.same ((s2.trans s4).trans s5) λ_ z=>z).append (.cons (Nw.rep (px2.mono s4) nw ryy) .nil)).keep (.upd ha5 rfl λb m=>⟨m.1,m⟩)
 ·have e:i=xs.length:=by omega
  subst e;refine .inl ⟨it.stop _ H' ev,k _ H' _ .fr (s.trans sm) (.lst (s.free hD) ha (ry.same (aD.refl _) λ_ z=>s.free z.2)) (fin ys iy)⟩
def dU:cD:=λ_ Q=>Q true
theorem aB6 {Qb:Bool->Hp->Prop}(h:LT X dU σ H Qb):C7 σ H Qb:=by
 obtain⟨W,ρ,Q,px,q,k⟩:=h
 exact k _ _ (aD.refl _) q
end
section
variable {κ:Type}[DecidableEq κ]
def bY (ps:List (κ×PV))(k:κ):Option PV:=(ps.find? λp=>decide (p.1=k)).map (·.2)
def dH (ps:List (κ×PV))(k:κ)(x:PV):List (κ×PV):=if (ps.any λp=>decide (p.1=k))=true then ps.map (λp=>if p.1=k then (p.1,x) else p) else ps++[(k,x)]
variable {K:ac}{M:ay→Prop}{H:Hp}
theorem j6 (k:κ):∀{kvs:List (κ×V)}{ps:List (κ×PV)},kvs.map (·.1)=ps.map (·.1)->Reps K M H (kvs.map (·.2)) (ps.map (·.2))->(bY ps k=none->eZ kvs k=none)/\∀x,bY ps k=some x->∃v,eZ kvs k=some v/\aA K M H v x
 |[],[],_,_=>⟨λ_=>rfl,λx h=>by cases h⟩
 |[],_::_,e,_=>by cases e
 |_::_,[],e,_=>by cases e
 |(k1,v)::kvs,(k2,x)::ps,e,r=>by
  injection e with e1 e2
  have e1:k1=k2:=e1;subst e1;cases r with
  |cons r t=>
   obtain⟨h1,h2⟩:=j6 k e2 t
   unfold bY eZ at h1 h2 ⊢;by_cases e:k1=k
   ·simp only[br3,e,decide_true,Option.map_some]
    exact⟨λz=>(by cases z),λy z=>(by cases z;exact⟨v,rfl,r⟩)⟩
   ·simp only[br3,e,decide_false]
    exact⟨h1,h2⟩
theorem aB7 (k:κ){kvs:List (κ×V)}{ps:List (κ×PV)}(e:kvs.map (·.1)=ps.map (·.1)):(kvs.any λp=>decide (p.1=k))=ps.any λp=>decide (p.1=k):=by
 have h1:(kvs.any λp=>decide (p.1=k))=(kvs.map (·.1)).any λz=>decide (z=k):=by rw[List.any_map];rfl
 have h2:(ps.any λp=>decide (p.1=k))=(ps.map (·.1)).any λz=>decide (z=k):=by rw[List.any_map];rfl
 rw[h1,h2,e]
theorem J3 (k:κ){w:V}{y:PV}(q:aA K M H w y):∀{kvs:List (κ×V)}{ps:List (κ×PV)},kvs.map (·.1)=ps.map (·.1)->Reps K M H (kvs.map (·.2)) (ps.map (·.2))->
  (kvs.map λkv=>if kv.1=k then (kv.1,w) else kv).map (·.1)=(ps.map λkv=>if kv.1=k then (kv.1,y) else kv).map (·.1)/\Reps K M H ((kvs.map λkv=>if kv.1=k then (kv.1,w) else kv).map (·.2)) ((ps.map λkv=>if kv.1=k then (kv.1,y) else kv).map (·.2))
 |[],[],_,_=>⟨rfl,.nil⟩
 |[],_::_,e,_=>by cases e
 |_::_,[],e,_=>by cases e
 |(k1,v)::kvs,(k2,x)::ps,e,r=>by
  injection e with e1 e2
  have e1:k1=k2:=e1;subst e1;cases r with
  |cons r t=>
   obtain⟨h1,h2⟩:=J3 k q e2 t
   by_cases e:k1=k
   ·simp only[bi8,e,if_true]
    exact⟨by rw[h1],.cons q h2⟩
   ·simp only[bi8,e,bl6]
    exact⟨by rw[h1],.cons r h2⟩
theorem aB8 (k:κ){w:V}{y:PV}(q:aA K M H w y){kvs:List (κ×V)}{ps:List (κ×PV)}(e:kvs.map (·.1)=ps.map (·.1))(r:Reps K M H (kvs.map (·.2)) (ps.map (·.2))) :
  (fO kvs k w).map (·.1)=(dH ps k y).map (·.1)/\Reps K M H ((fO kvs k w).map (·.2)) ((dH ps k y).map (·.2)):=by
 unfold fO dH;rw[aB7 k e];split
 ·exact J3 k q e r
 ·rw[bi0,bi0,bi0,bi0,e]
  exact⟨rfl,r.append (.cons q .nil)⟩
end
def kP:aH->PV
 |.inl i=>.int i
 |.inr x=>.str x
theorem J4 {K:ac}{M:ay->Prop}{H:Hp}{v:V}{k:aH}(r:aA K M H v (kP k)):v=kV k:=by
 cases k with
 |inl i=>cases r;rfl
 |inr x=>cases r;rfl
theorem vS {K:ac}{M:ay->Prop}{H:Hp}:∀{ks:List aH}{us:List V},Reps K M H us (ks.map kP)->us=ks.map kV
 |[],_,.nil=>rfl
 |k::r,_,.cons q t=>by rw[J4 q,vS t];rfl
def J5:PV->PV
 |.fK ps=>.dK ps
 |.fT ps=>.dT ps
 |x=>x
def vT (x y:PV)(o:Option PV):Prop:=(∃ps k,J5 x = .dK ps/\y=kP k/\o=bY ps k)∨(∃ps k,J5 x = .dT ps/\y = .tup (k.map kP)/\o=bY ps k)
theorem vU {K:ac}{M M2:ay->Prop}{H:Hp}{v w:V}{x y:PV}{o:Option PV}(h:vT x y o)(rx:aA K M H v x)(ry:aA K M2 H w y):∃a o',v = .ref a/\fP H a w o'/\(o=none->o'=none)/\∀z,o=some z->∃u,o'=some u/\aA K M H u z:=by
 rcases h with⟨ps,k,ex,rfl,rfl⟩|⟨ps,k,ex,rfl,rfl⟩
 ·obtain rfl:=J4 ry
  cases rx with
  |dK m h e r=>cases ex;exact⟨_,_,rfl,fP.k h,(j6 k e r).1,(j6 k e r).2⟩
  |fK h e r=>cases ex;exact⟨_,_,rfl,.inl ⟨_,k,.inr ⟨_,h⟩,rfl,rfl⟩,(j6 k e r).1,(j6 k e r).2⟩
  |_=>cases ex
 ·obtain⟨b,us,rfl,hb,rb⟩:=ry.sqT
  obtain rfl:=vS rb;cases rx with
  |dT m h e r=>cases ex;exact⟨_,_,rfl,fP.t h hb,(j6 k e r).1,(j6 k e r).2⟩
  |fT h e r=>cases ex;exact⟨_,_,rfl,.inr ⟨_,k,b,.inr ⟨_,h⟩,rfl,hb,rfl⟩,(j6 k e r).1,(j6 k e r).2⟩
  |_=>cases ex
section
variable {X:Cx}{σ:St}{H:Hp}{D:dP}{tk td te:aC}{Q':VK}
def rH (neg:Bool)(tk td:aC):aC:=λρ Q=>tk ρ λy _=>td ρ λx _=>∃o,vT x y o/\Q (.bl (if neg=true then !o.isSome else o.isSome)) .fr
theorem aB9 {α β:Type}{o:Option α}{o':Option β}{P:β->α->Prop}(h1:o=none->o'=none)(h2:∀z,o=some z->∃u,o'=some u/\P u z):o'.isSome=o.isSome:=by
 cases o with
 |none=>rw[h1 rfl];rfl
 |some z=>obtain⟨u,e,_⟩:=h2 z rfl;rw[e];rfl
theorem aC0 (h:LE X (rH true tk td) σ H Q'):B7 (LE X tk) (LE X td) σ H Q':=by
 obtain⟨W,ρ,Q,px,q,k⟩:=h
 refine⟨W,ρ,_,px,q,λw H1 y g s r q=>⟨W,ρ,_,px.mono s,q,?_⟩⟩;rintro v H2 x g' s2 r2 ⟨o,ak,q⟩
 obtain⟨a,o',rfl,dg,h1,h2⟩:=vU ak r2 (r.same s2 λ_ z=>z)
 refine⟨a,o',rfl,dg,?_⟩;rw[aB9 h1 h2];exact k _ _ _ .fr (s.trans s2) (.bl _) q
def rJ (td tk:aC):aC:=λρ Q=>td ρ λx g=>tk ρ λy _=>∃z,vT x y (some z)/\Q z g
theorem aC1 (h:LE X (rJ td tk) σ H Q'):B6 (LE X td) (LE X tk) σ H Q':=by
 obtain⟨W,ρ,Q,px,q,k⟩:=h
 refine⟨W,ρ,_,px,q,λv H1 x g s r q=>⟨W,ρ,_,px.mono s,q,?_⟩⟩;rintro w H2 y g' s2 r2 ⟨z,ak,q⟩
 obtain⟨a,o',rfl,dg,h1,h2⟩:=vU ak (r.same s2 λ_ z=>z) r2
 obtain⟨u,rfl,ru⟩:=h2 z rfl
 exact⟨a,u,rfl,dg,k _ _ _ g (s.trans s2) ru q⟩
theorem PX.updT {K:ac}{H0:Hp}{W:ay->Prop}{σ:St}{ρ:bE}{H:Hp}{i:Nat}{a:ay}{x:PV}{kvs:List (List aH×V)}{ps:List (List aH×PV)}(p:PX K H0 W σ ρ H)(hi:ρ[i]? = some (some (.own x)))(ha:σ[i]? = some (some (.ref a)))(wa:W a)(r:kvs.map (·.1)=ps.map (·.1)/\Reps K (Ms H0 W true) (upd H a (.dT kvs)) (kvs.map (·.2)) (ps.map (·.2))):PX K H0 W σ (ρ.set i (some (.own (.dT ps)))) (upd H a (.dT kvs)):=p.updOwn hi ha wa rfl (y:=.dT ps) ⟨kvs,c8,r⟩
theorem aC2 {κ α β:Type}{l:List (κ×α)}{m:List (κ×β)}(e:l.map (·.1)=m.map (·.1)):l.length=m.length:=by
 have:=congrArg List.length e
 rw[bf6,bf6]at this;exact this
def jU (i:Nat)(tk te:aC):aR:=λD ρ=>te ρ λz g=>∃ps,ρ[i]? = some (some (.own (.dT ps)))/\tk ρ λy _=>∃k,y = .tup (k.map kP)/\Nw g z/\ps.length<16000000/\D.nx (ρ.set i (some (.own (.dT (dH ps k z)))))
theorem aC3 {i:Nat}(h:LS X (jU i tk te) D σ H):B8 (lU i) (LE X tk) (LE X te) D σ H:=by
 obtain⟨W,ρ,D',px,q,k⟩:=h
 refine⟨W,ρ,_,px,q,?_⟩;rintro w H1 z g s rz ⟨ps,hi,q⟩
 obtain⟨v,ev,a,rfl,wa,kvs,ea,e1,r⟩:=(px.mono s).sl i _ hi
 refine⟨_,ev,W,ρ,_,px.mono s,q,?_⟩;rintro kv H2 y g' s2 ry ⟨kk,rfl,nw,hl,q⟩
 obtain⟨b,us,rfl,hb,rb⟩:=ry.sqT
 obtain rfl:=vS rb;have ea2:=s2 _ _ ea;refine⟨a,_,rfl,o7.t ea2 hb (qS (by rw[aC2 e1];omega)),?_⟩;refine k.nx W σ _ _ ((Ev.same (s.trans s2)).trans (Ev.upd wa)) ((px.mono (s.trans s2)).updT hi ev wa ?_) q
 obtain⟨h1,h2⟩:=aB8 kk ((Nw.rep px nw rz).same s2 λ_ z=>z) e1 (r.same s2 λ_ z=>z)
 exact⟨h1,h2.keep (.upd ea2 rfl λb m=>⟨r6 wa m,m⟩)⟩
theorem aC4 (h:LE X (qC (.dT [])) σ H Q'):B9 σ H Q':=by
 obtain⟨W,ρ,Q,px,q,k⟩:=h
 exact λp hp=>k _ _ _ .fr (bK hp _) (.dT hp c8 rfl .nil) q
end
def cL:Nat->PV->PV->Bool
 |_,.non,.non=>true
 |_,.bl a,.bl b=>a==b
 |_,.int a,.int b=>a==b
 |_,.str a,.str b=>a==b
 |n+1,.tup xs,.tup ys=>(xs.zip ys).all (λp=>cL n p.1 p.2)&&xs.length==ys.length
 |n+1,.lst xs,.lst ys=>(xs.zip ys).all (λp=>cL n p.1 p.2)&&xs.length==ys.length
 |n+1,.kt xs,.kt ys=>(xs.zip ys).all (λp=>cL n p.1 p.2)&&xs.length==ys.length
 |_,_,_=>false
def eM:Nat->PV->PV->Bool
 |_,.non,.non=>true
 |_,.bl _,.bl _=>true
 |_,.int _,.int _=>true
 |_,.str _,.str _=>true
 |_,.non,.int _=>true
 |_,.int _,.non=>true
 |n+1,.tup xs,.tup ys=>(xs.zip ys).all (λp=>eM n p.1 p.2)
 |n+1,.lst xs,.lst ys=>(xs.zip ys).all (λp=>eM n p.1 p.2)
 |n+1,.kt xs,.kt ys=>(xs.zip ys).all (λp=>eM n p.1 p.2)
 |_+1,.non,.tup _=>true
 |_+1,.tup _,.non=>true
 |_,_,_=>false
theorem aC5 (n:Nat)(a b:Int):cL n (.int a) (.int b)=(a==b):=by cases n<;>rfl
theorem J6 (n:Nat):∀(a b:ae),((((intz a).zip (intz b)).all λp=>cL n p.1 p.2)&&(intz a).length==(intz b).length)=decide (a=b)
 |[],[]=>rfl
 |[],_::_=>by simp
 |_::_,[]=>by simp
 |x::a,y::b=>by
  have ih:=J6 n a b;simp only[bi8,bt2,List.all_cons,bj5,aC5]at ih ⊢;by_cases e:x=y
  ·subst e
   have:((intz a).length+1==(intz b).length+1)=((intz a).length==(intz b).length):=by simp
   rw[this,bm7,Bool.true_and,ih];simp
  ·have:(x==y)=false:=beq_eq_false_iff_ne.mpr e
   rw[this,Bool.false_and,Bool.false_and];simp[e]
theorem J7 (n:Nat)(a b:ae):cL (n+1) (.tup (intz a)) (.tup (intz b))=decide (a=b):=J6 n a b
theorem J8 (n:Nat):∀(a b:ae),(((intz a).zip (intz b)).all λp=>eM n p.1 p.2)=true
 |[],_=>by simp
 |_::_,[]=>by simp
 |x::a,y::b=>by
  simp only[bi8,bt2,List.all_cons,J8 n a b,Bool.and_true];cases n<;>rfl
theorem K0 (n:Nat)(a b:ae):eM (n+1) (.tup (intz a)) (.tup (intz b))=true:=J8 n a b
def K1 (ta:aC):aC:=λρ Q=>ta ρ λx _=>∃i,x = .int i/\Q (.int (-i)) .fr
def K2:PV->Option String
 |.non=>some "NoneType"
 |.bl _=>some "bool"
 |.int _=>some "int"
 |.str _=>some "str"
 |.tup _=>some "tuple"
 |.kt _=>some "tuple"
 |.lst _=>some "list"
 |_=>none
def jV (K:ac)(n:String)(te:aC):aC:=λρ Q=>te ρ λx _=>∃T b,K2 x=some T/\PySem.W.kitOne K (.type T) (.type n)=some b/\Q (.bl b) .fr
def vV (n:Nat)(neg:Bool):PV->Tg->PV->Tg->PK->Prop:=λx _ y _ Q=>((∃xs ys,x = .tup xs/\y = .tup ys)∨(∃xs ys,x = .lst xs/\y = .lst ys))/\eM (n+1) x y=true/\Q (.bl (if neg=true then !cL (n+1) x y else cL (n+1) x y)) .fr
abbrev mI:=bE->(Option Int->Prop)->Prop
def mJ (xs:List PV)(lo hi:Option Int):List PV:=(xs.drop (HT.aV xs.length 0 lo)).take (HT.aV xs.length xs.length hi-HT.aV xs.length 0 lo)
def aC6:PV->List PV->PV
 |.tup _,ys=>.tup ys
 |.kt _,ys=>.tup ys
 |_,ys=>.lst ys
def K3:mI:=λ_ Q=>Q none
def K4 (te:aC):mI:=λρ Q=>te ρ λx _=>∃i,x = .int i/\Q (some i)
def K5 (te:aC)(tl th:mI):aC:=λρ Q=>te ρ λx _=>tl ρ λlo=>th ρ λhi=>∃xs,rB x=some xs/\flats xs=true/\Q (aC6 x (mJ xs lo hi)) .fr
def eN (N:List Str)(xs:List PV):bE:=xs.map (λx=>some (.sh (flat x) x))++List.replicate (N.length-xs.length) none
abbrev cW (ta tb:aC):aC:=q2 (fF λi j=>.int (i+j)) ta tb
abbrev jW (ta tb:aC):aC:=q2 (fF λi j=>.int (i-j)) ta tb
abbrev j7 (ta tb:aC):aC:=q2 (RI nV λi j=>.int (i*j)) ta tb
abbrev dW (ta tb:aC):aC:=q2 (RI u7 λi j=>.int (i/j)) ta tb
abbrev cH (ta tb:aC):aC:=q2 (RI (λ_ j=>0<j) λi j=>.int (i%j)) ta tb
abbrev K6 (ta tb:aC):aC:=q2 (RI u8 λi j=>.int (i^j.toNat)) ta tb
abbrev jX (ta tb:aC):aC:=q2 (fF λi j=>.bl (decide (i<j))) ta tb
abbrev kW (ta tb:aC):aC:=q2 (fF λi j=>.bl (decide (j<i))) ta tb
abbrev rK (ta tb:aC):aC:=q2 (fF λi j=>.bl (decide (j<=i))) ta tb
abbrev mK (ta tb:aC):aC:=q2 (mB false) ta tb
abbrev rL (ta tb:aC):aC:=q2 (mB true) ta tb
abbrev cQ (ta tb:aC):aC:=q2 vM ta tb
def iE:List PV->(PV->Prop)->Prop:=λxs Q=>G9 xs Q/\∀ns,xs≠[.scr ns]
def QE (X:Cx)(e:Expr)(t:aC):Prop:=PE X e (LE X t)
def QT (X:Cx)(e:Expr)(t:cD):Prop:=PT X e (LT X t)
def QW (X:Cx)(e:Expr)(t:cD):Prop:=PW X e (LT X t)
def QA (X:Cx)(es:List Expr)(t:cJ):Prop:=PA X es (LA X t)
def QS (X:Cx)(st:Stmt)(t:aR):Prop:=PS X st (LS X t)
def fH (X:Cx)(st:List Stmt)(t:aR):Prop:=dQ X st (LS X t)
def QI (X:Cx)(tg iter:Expr)(t:fS):Prop:=PI X tg iter (LI X t)
section
variable {X:Cx}
theorem cA {e:Expr}{t t':TE}(h:PE X e t)(m:∀σ H Q,t' σ H Q->t σ H Q):PE X e t':=λag s σ H Q I q=>h ag s σ H Q I (m σ H Q q)
theorem mL {e:Expr}{t t':TT}(h:PT X e t)(m:∀σ H Q,t' σ H Q->t σ H Q):PT X e t':=λag s σ H Q I q=>h ag s σ H Q I (m σ H Q q)
theorem K7 {e:Expr}{t t':TT}(h:PW X e t)(m:∀σ H Q,t' σ H Q->t σ H Q):PW X e t':=λwh ag s σ H Q I q=>h wh ag s σ H Q I (m σ H Q q)
theorem K8 {e:List Expr}{t t':TA}(h:PA X e t)(m:∀σ H Q,t' σ H Q->t σ H Q):PA X e t':=λpos ag s σ H Q I q=>h pos ag s σ H Q I (m σ H Q q)
theorem dX {e:Stmt}{t t':TS}(h:PS X e t)(m:∀D σ H,t' D σ H->t D σ H):PS X e t':=λag s σ H D I q=>h ag s σ H D I (m D σ H q)
theorem vW {e:List Stmt}{t t':TS}(h:dQ X e t)(m:∀D σ H,t' D σ H->t D σ H):dQ X e t':=λag s σ H D I q=>h ag s σ H D I (m D σ H q)
theorem rM {tg e:Expr}{t t':TI}(h:PI X tg e t)(m:∀σ H R,t' σ H R->t σ H R):PI X tg e t':=λag s σ H R I q=>h ag s σ H R I (m σ H R q)
variable {a b c e o:Expr}{es b8:List Expr}{ta tb te to tk:aC}{tr:cJ}{tA tB' tc:cD}{pos p2 px:Pos}{st:Stmt}{sts:List Stmt}{t u:aR}
theorem qv (i:Nat){x:Str}{pos:Pos}(hN:X.N[i]? = some x:=by rfl)(hv:jK X.env.scope x:=by first|exact Or.inl rfl|exact Or.inr (Or.inl rfl)|exact Or.inr (Or.inr rfl))(hd:(x==("__debug__":Str))=false:=by decide)(hcd:(x==("__classdict__":Str))=false:=by decide):QE X (.Name x pos) (a5 i):=cA (nR hN hv hd hcd) λ_ _ _=>ax7
theorem aB {i j}:QE X (.Constant (.int i) j pos) (qC (.int i)):=cA ai3 λ_ _ _=>oB λ_=>.int i
theorem fI {i j}:QE X (.Constant (.bool i) j pos) (qC (.bl i)):=cA ai4 λ_ _ _=>oB λ_=>.bl i
theorem aC7 {j}:QE X (.Constant .none j pos) (qC .non):=cA ai5 λ_ _ _=>oB λ_=>.non
theorem K9 {i j}:QE X (.Constant (.str i) j pos) (qC (.str i)):=cA ai6 λ_ _ _=>oB λ_=>.str i
theorem kX {op:Operator}{R:PV->Tg->PV->Tg->PK->Prop}{r:R2}(ho:c9 X (binaryOp op) r)(cv:fE X R r)(ha:QE X a ta)(hb:QE X b tb):QE X (.BinOp a op b pos) (q2 R ta tb):=cA (al2 ho ha hb) λ_ _ _=>qW cv
theorem cY (ha:QE X a ta)(hb:QE X b tb):QE X (.BinOp a .Add b pos) (q2 (fF λi j=>.int (i+j)) ta tb):=kX al4 G2 ha hb
theorem jY (ha:QE X a ta)(hb:QE X b tb):QE X (.BinOp a .Sub b pos) (q2 (fF λi j=>.int (i-j)) ta tb):=kX al5 G2 ha hb
theorem j8 (ha:QE X a ta)(hb:QE X b tb):QE X (.BinOp a .Mult b pos) (q2 (RI nV λi j=>.int (i*j)) ta tb):=kX al6 qX ha hb
theorem eO (ha:QE X a ta)(hb:QE X b tb):QE X (.BinOp a .FloorDiv b pos) (q2 (RI u7 λi j=>.int (i/j)) ta tb):=kX al7 qX ha hb
theorem cR (ha:QE X a ta)(hb:QE X b tb):QE X (.BinOp a .Mod b pos) (q2 (RI (λ_ j=>0<j) λi j=>.int (i%j)) ta tb):=kX al8 qX ha hb
theorem L4 (ha:QE X a ta)(hb:QE X b tb):QE X (.BinOp a .Pow b pos) (q2 (RI u8 λi j=>.int (i^j.toNat)) ta tb):=kX al9 qX ha hb
theorem vX {op:CmpOp}{R:PV->Tg->PV->Tg->PK->Prop}{r:R2}(ho:c9 X (compareOp op) r)(cv:fE X R r)(ha:QE X a ta)(hb:QE X b tb)(hm:behindInMarks op b=false):QE X (.Compare a [op] [b] pos) (q2 R ta tb):=cA (am5 ho ha hb hm) λ_ _ _=>qW cv
theorem kY {op:CmpOp}{R:PV->Tg->PV->Tg->PK->Prop}{r:R2}(ho:c9 X (compareOp op) r)(cv:fE X R r)(ha:QE X a ta)(hb:QE X b tb)(hm:behindInMarks op b=false):QT X (.Compare a [op] [b] pos) (aX (q2 R ta tb)):=mL (am6 ho ha hb hm) λ_ _ _ h=>qW cv (qY h)
theorem L5 (ha:QE X a ta)(hb:QE X b tb):QE X (.Compare a [.Lt] [b] pos) (q2 (fF λi j=>.bl (decide (i<j))) ta tb):=vX qB m9 ha hb (iU _)
theorem L6 (ha:QE X a ta)(hb:QE X b tb):QE X (.Compare a [.GtE] [b] pos) (q2 (fF λi j=>.bl (decide (j<=i))) ta tb):=vX zH m9 ha hb (iU _)
theorem mM (ha:QE X a ta)(hb:QE X b tb):QT X (.Compare a [.Lt] [b] pos) (aX (q2 (fF λi j=>.bl (decide (i<j))) ta tb)):=kY qB m9 ha hb (iU _)
theorem mO (ha:QE X a ta)(hb:QE X b tb):QT X (.Compare a [.Gt] [b] pos) (aX (q2 (fF λi j=>.bl (decide (j<i))) ta tb)):=kY am4 m9 ha hb (iU _)
theorem L7 (ha:QE X a ta)(hb:QE X b tb):QT X (.Compare a [.GtE] [b] pos) (aX (q2 (fF λi j=>.bl (decide (j<=i))) ta tb)):=kY zH m9 ha hb (iU _)
theorem mP (ha:QE X a ta)(hb:QE X b tb):QT X (.Compare a [.Eq] [b] pos) (aX (q2 (mB false) ta tb)):=kY am1 ax8 ha hb (iU _)
theorem rN (ha:QE X a ta)(hb:QE X b tb):QT X (.Compare a [.NotEq] [b] pos) (aX (q2 (mB true) ta tb)):=kY am2 ax9 ha hb (iU _)
theorem L8 (hu:X.A.units+1<cLine)(hk:QE X a tk)(hd:QE X b te)(hm:behindInMarks .NotIn b=false:=by rfl):QT X (.Compare a [.NotIn] [b] pos) (aX (rH true tk te)):=mL (ai7 (as9 hu hk hd) hm) λ_ _ _ h=>aC0 (qY h)
theorem iF (h:QE X e te)(he:∀whole,isTrue e X.env whole=(do let v <- whole;standAt e.pos;holding [v] (truthy v)):=by intro _;rfl):QT X e (aX te):=mL (ai8 h he) λ_ _ _ h=>qY h
theorem aC8 (h:QE X e te)(he:∀whole,isTrue e X.env whole=(do let v <- whole;standAt e.pos;holding [v] (truthy v)):=by intro _;rfl):QT X e (vO te):=mL (an0 h he) λ_ _ _ h=>aA9 h
theorem rO (ha:QT X a tA):QW X (.BoolOp .And [a] pos) tA:=ai9 ha
theorem jZ (ha:QT X a tA):QW X (.BoolOp .Or [a] pos) tA:=aj0 ha
theorem rP (ha:QT X a tA)(hb:QW X (.BoolOp .And (b::b8) pos) tB'):QW X (.BoolOp .And (a::b::b8) pos) (mC tA tB'):=K7 (aj1 ha hb) λ_ _ _=>ay0
theorem iG (ha:QT X a tA)(hb:QW X (.BoolOp .Or (b::b8) pos) tB'):QW X (.BoolOp .Or (a::b::b8) pos) (gT tA tB'):=K7 (aj2 ha hb) λ_ _ _=>ay1
theorem gW (h:QW X e tA):QT X e tA:=PW.pt h
theorem j9 (ha:QT X a tA):QT X (.UnaryOp .Not a pos) (i6 tA):=mL (aj3 ha) λ_ _ _=>ay2
theorem vY {op}(h:QE X a ta):QE X (.BoolOp op [a] pos) ta:=aj4 h
theorem oJ (ha:QE X a ta)(hb:QE X (.BoolOp .And (b::b8) pos) tb):QE X (.BoolOp .And (a::b::b8) pos) (kQ ta tb):=cA (aj5 ha hb) λ_ _ _=>ay3
theorem L9 (ha:QE X a ta):QE X (.UnaryOp .Not a pos) (qZ ta):=cA (aj6 ha) λ_ _ _=>ay4
theorem aF:QA X [] aE:=K8 jL λ_ _ _=>ay5
theorem a8 (ha:QE X e te)(hr:QA X es tr)(hs:starEach (e::es) X.env=(false,eval e X.env)::starEach es X.env:=by rfl):QA X (e::es) (a7 te tr):=K8 (gA ha hr hs) λ_ _ _=>ay6
theorem dI {x1}(h:QA X es tr):QE X (.Tuple es x1 pos) (cO tr):=cA (an6 h) λ_ _ _=>ay7
theorem rQ (h:QA X es tr):QE X (.List es pos) (mD tr):=cA (an7 h) λ_ _ _=>ay8
theorem cS (ha:QE X a ta)(hb:QE X b tb)(hs:zY b:=by exact λ_ _=>rfl):QE X (.Subscript a b pos) (q2 vM ta tb):=cA (aq0 aq4 ha hb hs) λ_ _ _=>qW aA0
theorem M0 (hu:X.A.units+1<cLine)(ha:QE X a ta)(hb:QE X b tb)(hs:uL b:=by exact λ_ _=>rfl):QE X (.Subscript a b pos) (rJ ta tb):=cA (as8 hu ha hb hs) λ_ _ _=>aC1
theorem rR:QE X (.Dict [] [] pos) (qC (.dT [])):=cA at3 λ_ _ _=>aC4
theorem kZ {x:Str}{id:String}{R:List PV->(PV->Prop)->Prop}{r:List V->Hp->VK->Prop}(hc:cU X (.builtin id) r)(cv:gU X R r)(hg:Gl X x)(hm:X.mg x=none)(hv:bootBuiltins x=some (.builtin id))(ha:QA X (e::es) tr)(hn:x≠"__name__":=by decide)(hdb:(x==("__debug__":Str))=false:=by decide)(he:starEach (e::es) X.env=(false,eval e X.env)::starEach es X.env:=by rfl)(hpl:(backTo pos (starEach es X.env)).any (·.1)=false:=by rfl):QE X (.Call (.Name x p2) (e::es) [] pos) (aN R tr):=cA (qE hc hg hm hv ha hn hdb he hpl) λ_ _ _=>G5 cv
theorem M1 {x:Str}{T:String}{R:List PV->(PV->Prop)->Prop}{r:List V->Hp->VK->Prop}(hc:cU X (.type T) r)(cv:gU X R r)(hg:Gl X x)(hm:X.mg x=none)(hv:bootBuiltins x=some (.type T))(ha:QA X (e::es) tr)(hn:x≠"__name__":=by decide)(hdb:(x==("__debug__":Str))=false:=by decide)(he:starEach (e::es) X.env=(false,eval e X.env)::starEach es X.env:=by rfl)(hpl:(backTo pos (starEach es X.env)).any (·.1)=false:=by rfl):QE X (.Call (.Name x p2) (e::es) [] pos) (aN R tr):=cA (zT hc hg hm hv ha hn hdb he hpl) λ_ _ _=>G5 cv
theorem dD:fH X [] cK:=vW aj8 λ_ _ _=>ay9
theorem aO (h1:QS X st t)(h2:fH X sts u):fH X (st::sts) (aL t u):=vW (aj9 h1 h2) λ_ _ _=>az0
theorem aW (h1:QS X st t):fH X [st] t:=ak0 h1
theorem bQ {i:Nat}{x:Str}(hN:X.N.Nodup)(he:QE X e te)(hi:X.N[i]? = some x:=by rfl)(hx:iB X.env.scope x:=by first|exact Or.inl rfl|exact Or.inr rfl)(hs:swapsWith e (some (.Name x p2)) pos.line X.env=pure false:=by rfl)(hf:X.fn x=true∨X.env.scope.names.lookup x=some .local:=by first|exact .inl rfl|exact .inr rfl) :
  QS X (.Assign [.Name x p2] e pos) (bB i te):=dX (tW hN hi hx he hs hf) λ_ _ _=>vJ
theorem k6 {i:Nat}{x:Str}(hN:X.N.Nodup)(he:QE X e te)(hi:X.N[i]? = some x:=by rfl)(hx:iB X.env.scope x:=by first|exact Or.inl rfl|exact Or.inr rfl)(hs:swapsWith e (some (.Name x p2)) pos.line X.env=pure false:=by rfl)(hf:X.fn x=true∨X.env.scope.names.lookup x=some .local:=by first|exact .inl rfl|exact .inr rfl) :
  QS X (.Assign [.Name x p2] e pos) (gV i te):=dX (tW hN hi hx he hs hf) λ_ _ _=>G8
theorem aC9 (i:Nat)(h:QS X st t):QS X st (r9 i t):=dX h λ_ _ _=>az2
theorem vZ (he:QE X e te)(hs:swapsWith e none pos.line X.env=pure false:=by rfl):QS X (.Expr e pos) (oE te):=dX (yT he hs) λ_ _ _=>az3
theorem cB (he:QE X e te):QS X (.Return (some e) pos) (bR te):=dX (yU he) λ_ _ _=>az4
theorem aD0 (i:Nat){x:Str}(hN:X.N[i]? = some x:=by rfl)(hv:jK X.env.scope x:=by first|exact Or.inl rfl|exact Or.inr (Or.inl rfl)|exact Or.inr (Or.inr rfl))(hd:(x==("__debug__":Str))=false:=by decide)(hcd:(x==("__classdict__":Str))=false:=by decide) :
  QS X (.Return (some (.Name x p2)) pos) (vK i):=dX (yU (nR hN hv hd hcd)) λ_ _ _=>az5
theorem cZ {sa sb:List Stmt}(hc:QT X c tc)(ha:fH X sa t)(hb:fH X sb u):QS X (.If c sa sb pos) (cG tc t u):=dX (ak1 hc ha hb) λ_ _ _=>az6
theorem M3 {body:List Stmt}(hp:PassesOwn (model X.prog X.w) X.A X.env X.xe)(hc:QT X c tc)(hb:fH X body t):QS X (.While c body [] pos) (rA tc t):=dX (ak3 hp hc hb) λ_ _ _=>az7
theorem oM (i:Nat){x:Str}{ah ai xpos:Pos}(he:QE X e te)(hN:X.N[i]? = some x:=by rfl)(hv:jK X.env.scope x:=by first|exact Or.inl rfl|exact Or.inr (Or.inl rfl)|exact Or.inr (Or.inr rfl))(hd:(x==("__debug__":Str))=false:=by decide)(hcd:(x==("__classdict__":Str))=false:=by decide)(hbase:attributeBase (.Name x xpos) "append" X.env (eval (.Name x xpos) X.env)=eval (.Name x xpos) X.env:=by rfl)(hfew:((backTo ai (starEach [e] X.env)).all (λx=>!x.1)&&(backToKw ai (keywordEach [] X.env)).all (λx=>x.1.isSome)&&decide (([e]:List Expr).length+([]:List Keyword).length+(if ([]:List Keyword).isEmpty then 0 else 1)<30))=true:=by rfl)(hline:(ah.endLine==ai.line)=true:=by rfl)(hs:starEach [e] X.env=(false,eval e X.env)::starEach [] X.env:=by rfl)(aq:(backTo ai (starEach [] X.env)).any (·.1)=false:=by rfl)(hsw:swapsWith (.Call (.Attribute (.Name x xpos) "append" ah) [e] [] ai) none pos.line X.env=pure false:=by rfl) :
  QS X (.Expr (.Call (.Attribute (.Name x xpos) "append" ah) [e] [] ai) pos) (kR i te):=
 dX (yT (ar3 PySem.F.plainAttrs_list PySem.F.slot_list_append PySem.F.type_list_append A8 (nR hN hv hd hcd) (gA he jL hs) hbase hfew hline hs aq) hsw) λ_ _ _=>az8
theorem mQ {i:Nat}{x:Str}{xpos tpos:Pos}(hu:X.A.units+1<cLine)(hk:QE X a tk)(he:QE X e te)(hN:X.N[i]? = some x:=by rfl)(hv:jK X.env.scope x:=by first|exact Or.inl rfl|exact Or.inr (Or.inl rfl)|exact Or.inr (Or.inr rfl))(hd:(x==("__debug__":Str))=false:=by decide)(hcd:(x==("__classdict__":Str))=false:=by decide)(hs:swapsWith e (some (.Subscript (.Name x xpos) a tpos)) pos.line X.env=pure false:=by rfl):QS X (.Assign [.Subscript (.Name x xpos) a tpos] e pos) (jU i tk te):=dX (at0 hu (nR hN hv hd hcd) hk he hs) λ_ _ _=>aC3
theorem aD1 {tg l:Expr}{tl:TE}(hl:PE X l tl):PI X tg l (J0 X.K tl):=by
 intro ag s σ H R I h;refine aJ (hl ag s σ H _ I h) λv s1 ⟨x,H1,I1,r1,q1⟩=>?_
 obtain⟨a,e,q⟩:=q1
 subst e;cases r1;rcases q with⟨xs,hq,q⟩|⟨xs,hq,q⟩
 ·obtain⟨its,rv,p,hz⟩:=I1.list hq
  refine wpAny_pyIter_list p.isList ?_;refine⟨s1.heap.objs.size,[s1.heap.objs.size],_,_,H1,rfl,I1.kept (t':=s1.toks) λb o e=>bf3 _ e,ak4 a _,⟨_,bg8 _ rfl,rfl,rfl⟩,λb hb=>?_,q⟩;have e:b=s1.heap.objs.size:=by simpa using hb
  subst e;exact I1.fpOk (bg0 _) (I1.hok.fresh (bg0 _))
 ·obtain⟨its,rv,p,hz⟩:=I1.tuple hq
  refine wpAny_pyIter_tuple (show s1.heap.IsTuple a its.toArray from p) ?_;refine⟨s1.heap.objs.size,[s1.heap.objs.size],_,_,H1,rfl,I1.kept (t':=s1.toks) λb o e=>bf3 _ e,ak5 a _,⟨_,bg8 _ rfl,rfl,rfl⟩,λb hb=>?_,q⟩;have e:b=s1.heap.objs.size:=by simpa using hb
  subst e;exact I1.fpOk (bg0 _) (I1.hok.fresh (bg0 _))
theorem iH {tg l:Expr}(hl:QE X l te):QI X tg l (gH te):=rM (aD1 hl) λ_ _ _=>aB0
theorem oN {tg:Expr}(hg:Gl X "range")(hm:X.mg "range" = none)(ha:QE X a ta)(hs:starEach [a] X.env = [(false,eval a X.env)]:=by rfl):QI X tg (.Call (.Name "range" p2) [a] [] pos) (kT ta):=rM (ak8 hg hm (gA ha jL hs) hs) λ_ _ _=>aB2
theorem aD2 {tg:Expr}{body:List Stmt}{ti:fS}{p:iD}{g:TG}{own:Nat->Prop}(hp:PassesOwn (model X.prog X.w) X.A X.env X.xe)(hc:X.calm=true)(hi:QI X tg e ti)(hg:PG X tg g)(ht:mF X.K own p g)(hb:fH X body t)(hs:∀x,foldedSetIterable e X.env x=pure x:=by intro _;rfl):QS X (.For tg e body [] pos) (gI ti p t):=dX (al0 hp hc hi hg hb hs) λ_ _ _=>aB3 ht
end
section
variable {X:Cx}{ag:List (ay×Obj)}{σ:St}{H:Hp}{s:ax}{K:ac}{M M':ay→Prop}
theorem m8.inj {a:ay}{us ws:List V}(h:m8 K a us)(h':m8 K a ws):us=ws:=by
 obtain⟨o,its,n,e1,_,e2,_,v⟩:=h
 obtain⟨o',its',n',e1',_,e2',_,v'⟩:=h'
 rw[e1]at e1';cases e1';rw[e2]at e2';cases e2';exact v.inj v'
theorem Reps.self_of {n:Nat}(ih:∀{v:V}{x y:PV},aA K M H v x->aA K M' H v y->eM n x y=true->cL n x y=true):∀{vs:List V}{xs ys:List PV},Reps K M H vs xs->Reps K M' H vs ys->((xs.zip ys).all λp=>eM n p.1 p.2)=true->(((xs.zip ys).all λp=>cL n p.1 p.2)&&xs.length==ys.length)=true
 |_,_,_,.nil,.nil,_=>rfl
 |_,_,_,.cons r t,.cons r' t',o=>by
  simp only[bt2,List.all_cons,bn3]at o;have h1:=ih r r' o.1;have h2:=Reps.self_of ih t t' o.2;simp only[bt2,List.all_cons,h1,Bool.true_and,bj5]at h2 ⊢;rw[<- h2];congr 1;simp
theorem aA.self:∀(n:Nat) {v:V}{x y:PV},aA K M H v x->aA K M' H v y->eM n x y=true->cL n x y=true:=by
 intro n
 induction n with
 |zero=>
  intro v x y r r' o;cases r with
  |non=>cases r';rfl
  |bl b=>cases r';exact bm7 b
  |int i=>cases r';exact bm7 i
  |str z=>cases r';exact bm7 z
  |_=>cases o
 |succ n ih=>
  intro v x y r r' o;cases r with
  |non=>cases r';rfl
  |bl b=>cases r';exact bm7 b
  |int i=>cases r';exact bm7 i
  |str z=>cases r';exact bm7 z
  |tup h rr=>
   cases r' with
   |tup h' rr'=>rw[h]at h';cases h';exact Reps.self_of ih rr rr' o
   |_=>cases o
  |lst _ h rr=>
   cases r' with
   |lst _ h' rr'=>rw[h]at h';cases h';exact Reps.self_of ih rr rr' o
   |_=>cases o
  |kt h rr=>
   cases r' with
   |kt h' rr'=>cases m8.inj h h';exact Reps.self_of ih rr rr' o
   |_=>cases o
  |_=>cases o
theorem Reps.self (n:Nat){vs:List V}{xs ys:List PV}(r:Reps K M H vs xs)(r':Reps K M' H vs ys)(o:((xs.zip ys).all λp=>eM n p.1 p.2)=true):(((xs.zip ys).all λp=>cL n p.1 p.2)&&xs.length==ys.length)=true:=Reps.self_of (aA.self n) r r' o
theorem jA (n:Nat)(xs ys:List PV):(List.range (min xs.length ys.length)).all (λj=>cL n (xs.getD j .non) (ys.getD j .non))=(xs.zip ys).all λp=>cL n p.1 p.2:=by
 rw[bp7];simp only[bq1,bj8];constructor
 ·intro h p hp
  obtain⟨j,hj,e⟩:=bm0 hp
  have hj':j<min xs.length ys.length:=by simpa using hj
  have:=h j hj'
  rw[List.getElem_zip]at e;subst e;have h1:j<xs.length:=by omega
  have h2:j<ys.length:=by omega
  simpa[bg5,h1,h2] using this
 ·intro h j hj
  have h1:j<xs.length:=by omega
  have h2:j<ys.length:=by omega
  have hz:j<(xs.zip ys).length:=by simp;omega
  have:=h _ (bm1 hz)
  rw[List.getElem_zip]at this;simpa[bg5,h1,h2] using this
theorem M4 (I:a6 X ag σ H s):∀(n:Nat) {A:ba}{v w:V}{x y:PV}{a b:av},A.units+n<cLine->aA X.K M H v x->aA X.K M' H w y->aP v a->aP w b->eM n x y=true->SeqAt.EqAt A s a b (cL n x y):=by
 intro n
 induction n with
 |zero=>
  intro A v w x y a b hu rx ry ra rb o;cases rx with
  |non=>
   cases ra;cases ry with
   |non=>cases rb;exact SeqAt.EqAt.same _
   |int i=>obtain⟨t',rfl⟩:=rb;exact SeqAt.EqAt.none_int _ _
   |_=>cases o
  |bl i=>
   cases ra;cases ry with
   |bl j=>cases rb;exact SeqAt.EqAt.bool_bool _ _
   |_=>cases o
  |int i=>
   obtain⟨t,rfl⟩:=ra
   cases ry with
   |int j=>obtain⟨t',rfl⟩:=rb;exact SeqAt.EqAt.int_int _ _ _ _
   |non=>cases rb;exact SeqAt.EqAt.int_none _ _
   |_=>cases o
  |str i=>
   obtain⟨t,rfl⟩:=ra
   cases ry with
   |str j=>obtain⟨t',rfl⟩:=rb;exact SeqAt.EqAt.str_str _ _ _ _
   |_=>cases o
  |_=>cases o
 |succ n ih=>
  intro A v w x y a b hu rx ry ra rb o;have items:∀{us ws:List V}{xs ys:List PV}{its ao:List av},Reps X.K M H us xs->Reps X.K M' H ws ys->aI us its->aI ws ao->((xs.zip ys).all λp=>eM n p.1 p.2)=true->
    ∀j (h1:j<its.toArray.size) (h2:j<ao.toArray.size),SeqAt.EqAt A.in1 s its.toArray[j] ao.toArray[j] (cL n (xs.getD j .non) (ys.getD j .non)):=λ{us ws xs ys its ao} r1 r2 v1 v2 ok j h1 h2=>by
   have l1:=v1.length;have l2:=v2.length;have m1:=r1.length;have m2:=r2.length;have k1:j<its.length:=by simpa using h1
   have k2:j<ao.length:=by simpa using h2
   have j1:j<us.length:=by omega
   have j2:j<ws.length:=by omega
   have i1:j<xs.length:=by omega
   have i2:j<ys.length:=by omega
   obtain⟨u,hu',ru⟩:=v1.get (bf4 j1)
   obtain⟨u2,hu2',ru2⟩:=v2.get (bf4 j2)
   obtain⟨x,hx,rx⟩:=r1.get (bf4 j1)
   obtain⟨y,hy,ry⟩:=r2.get (bf4 j2)
   have e1:its.toArray[j]=u:=by
    rw[bf4 k1]at hu';simpa using hu'
   have e2:ao.toArray[j]=u2:=by
    rw[bf4 k2]at hu2';simpa using hu2'
   have ok':eM n x y=true:=by
    rw[bq1]at ok;have hz:j<(xs.zip ys).length:=by simp;omega
    have:=ok _ (bm1 hz)
    rw[List.getElem_zip]at this;rw[bf4 i1]at hx;rw[bf4 i2]at hy;cases hx;cases hy;exact this
   rw[e1,e2];have g1:xs.getD j .non=x:=by rw[bg5,hx];rfl
   have g2:ys.getD j .non=y:=by rw[bg5,hy];rfl
   rw[g1,g2];exact ih (by show A.units+1+n<cLine;omega) rx ry ru ru2 ok'
  have huA:A.units<cLine:=by omega
  cases rx with
  |@kt p us xs h1 r1=>
   obtain⟨its,v1,p1,_⟩:=I.tuple (.inr h1)
   cases (show a=Value.ref p from ra);cases ry with
   |@kt p2 ws ys h2 r2=>
    obtain⟨ao,v2,p2',_⟩:=I.tuple (.inr h2)
    cases (show b=Value.ref p2 from rb);by_cases e:p=p2
    ·subst e
     have:=aA.self (K:=X.K) (M:=M) (M':=M') (n+1) (.kt h1 r1) (.kt h2 r2) o
     rw[this];exact SeqAt.EqAt.same _
    ·have:=SeqAt.RcAt.tuples p1 p2' huA (items r1 r2 v1 v2 o)
     refine .of_refs e ?_;have l1:=v1.length;have l2:=v2.length;have m1:=r1.length;have m2:=r2.length;rw[bf8,bf8,<- l1,<- l2,m1,m2,jA]at this;exact this
   |_=>cases o
  |@tup p us xs h1 r1=>
   obtain⟨its,v1,p1,_⟩:=I.tuple (aM.of (K:=X.K) h1)
   cases (show a=Value.ref p from ra);cases ry with
   |@tup p2 ws ys h2 r2=>
    obtain⟨ao,v2,p2',_⟩:=I.tuple (aM.of (K:=X.K) h2)
    cases (show b=Value.ref p2 from rb);by_cases e:p=p2
    ·subst e
     have:=aA.self (K:=X.K) (M:=M) (M':=M') (n+1) (.tup h1 r1) (.tup h2 r2) o
     rw[this];exact SeqAt.EqAt.same _
    ·have:=SeqAt.RcAt.tuples p1 p2' huA (items r1 r2 v1 v2 o)
     refine .of_refs e ?_;have l1:=v1.length;have l2:=v2.length;have m1:=r1.length;have m2:=r2.length;rw[bf8,bf8,<- l1,<- l2,m1,m2,jA]at this;exact this
   |non=>cases rb;exact SeqAt.EqAt.tuple_none p1 huA
   |_=>cases o
  |@lst p us xs _ h1 r1=>
   obtain⟨its,v1,p1,_⟩:=I.list (aT.of (K:=X.K) h1)
   cases (show a=Value.ref p from ra);cases ry with
   |@lst p2 ws ys _ h2 r2=>
    obtain⟨ao,v2,p2',_⟩:=I.list (aT.of (K:=X.K) h2)
    cases (show b=Value.ref p2 from rb);have l1:=v1.length;have l2:=v2.length;have m1:=r1.length;have m2:=r2.length;by_cases e:p=p2
    ·subst e
     rw[h1]at h2;cases h2
     have:=Reps.self n r1 r2 o
     show SeqAt.EqAt A s _ _ ((xs.zip ys).all (λp=>cL n p.1 p.2)&&xs.length==ys.length);rw[this];exact SeqAt.EqAt.same _
    ·refine .of_refs e ?_
     by_cases hl:xs.length=ys.length
     ·have:=SeqAt.RcAt.lists p1.isList p2'.isList (by rw[bf8,bf8];omega) huA (items r1 r2 v1 v2 o)
      have hm:min xs.length ys.length=its.length:=by omega
      rw[bf8,<- hm,jA]at this;show SeqAt.RcAt A s _ _ ((xs.zip ys).all (λp=>cL n p.1 p.2)&&xs.length==ys.length);rw[show (xs.length==ys.length)=true by simpa using hl,Bool.and_true];exact this
     ·have:=SeqAt.RcAt.lists_lengths (A:=A) p1.isList p2'.isList (by rw[bf8,bf8];simp;omega) huA
      show SeqAt.RcAt A s _ _ ((xs.zip ys).all (λp=>cL n p.1 p.2)&&xs.length==ys.length);rw[show (xs.length==ys.length)=false by simpa using hl,bo2];exact this
   |_=>cases o
  |non=>
   cases ra;cases ry with
   |non=>cases rb;exact SeqAt.EqAt.same _
   |int i=>obtain⟨t',rfl⟩:=rb;exact SeqAt.EqAt.none_int _ _
   |@tup p2 ws ys h2 r2=>
    obtain⟨ao,v2,p2',_⟩:=I.tuple (aM.of (K:=X.K) h2)
    cases (show b=Value.ref p2 from rb);exact SeqAt.EqAt.none_tuple p2' huA
   |_=>cases o
  |bl i=>
   cases ra;cases ry with
   |bl j=>cases rb;exact SeqAt.EqAt.bool_bool _ _
   |_=>cases o
  |int i=>
   obtain⟨t,rfl⟩:=ra
   cases ry with
   |int j=>obtain⟨t',rfl⟩:=rb;exact SeqAt.EqAt.int_int _ _ _ _
   |non=>cases rb;exact SeqAt.EqAt.int_none _ _
   |_=>cases o
  |str i=>
   obtain⟨t,rfl⟩:=ra
   cases ry with
   |str j=>obtain⟨t',rfl⟩:=rb;exact SeqAt.EqAt.str_str _ _ _ _
   |_=>cases o
  |_=>cases o
end
structure Bt (mg:Str->Option av):Prop where
 len:mg "len" = none
 range:mg "range" = none
 tuple:mg "tuple" = none
 list:mg "list" = none
 sorted:mg "sorted" = none
 all:mg "all" = none
 any:mg "any" = none
 zip:mg "zip" = none
 min:mg "min" = none
 max:mg "max" = none
 sum:mg "sum" = none
 isinst:mg "isinstance" = none
 int:mg "int" = none
 bool:mg "bool" = none
 enum:mg "enumerate" = none
section
variable {X:Cx}{a b c e o:Expr}{es b8:List Expr}{ta tb te to tk:aC}{tr:cJ}{tA tB' tc:cD}{pos p2 px:Pos}{st:Stmt}{sts:List Stmt}{t u:aR}
theorem i7 (B:Bt X.mg)(ha:QA X [e] tr)(hg:Gl X "len":=by rfl)(he:starEach [e] X.env=(false,eval e X.env)::starEach [] X.env:=by rfl)(hpl:(backTo pos (starEach [] X.env)).any (·.1)=false:=by rfl):QE X (.Call (.Name "len" p2) [e] [] pos) (aN gG tr):=
 kZ (aq9.or au5) aA1 hg B.len PySem.boot_len ha (he:=he) (hpl:=hpl)
theorem l0 (B:Bt X.mg)(ha:QA X [e] tr)(hg:Gl X "tuple":=by rfl)(he:starEach [e] X.env=(false,eval e X.env)::starEach [] X.env:=by rfl)(hpl:(backTo pos (starEach [] X.env)).any (·.1)=false:=by rfl):QE X (.Call (.Name "tuple" p2) [e] [] pos) (aN iE tr):=
 M1 ar1 aA2 hg B.tuple PyProof.Rows.boot_tuple ha (he:=he) (hpl:=hpl)
theorem M5 (B:Bt X.mg)(ha:QA X [e] tr)(hg:Gl X "list":=by rfl)(he:starEach [e] X.env=(false,eval e X.env)::starEach [] X.env:=by rfl)(hpl:(backTo pos (starEach [] X.env)).any (·.1)=false:=by rfl):QE X (.Call (.Name "list" p2) [e] [] pos) (aN rC tr):=
 M1 ar0 aA3 hg B.list PyProof.Rows.boot_list ha (he:=he) (hpl:=hpl)
theorem M6 (B:Bt X.mg)(hc:X.calm=true)(ha:QA X [e] tr)(hg:Gl X "all":=by rfl)(he:starEach [e] X.env=(false,eval e X.env)::starEach [] X.env:=by rfl)(hpl:(backTo pos (starEach [] X.env)).any (·.1)=false:=by rfl):QE X (.Call (.Name "all" p2) [e] [] pos) (aN rD tr):=
 kZ (ax1 hc) aA4 hg B.all PyProof.Rows.boot_all ha (he:=he) (hpl:=hpl)
theorem M7 (B:Bt X.mg)(hc:X.calm=true)(ha:QA X [a,b] tr)(hg:Gl X "min":=by rfl)(he:starEach [a,b] X.env=(false,eval a X.env)::starEach [b] X.env:=by rfl)(hpl:(backTo pos (starEach [b] X.env)).any (·.1)=false:=by rfl):QE X (.Call (.Name "min" p2) [a,b] [] pos) (aN rE tr):=
 kZ (an2 hc) aA5 hg B.min PyProof.Rows.boot_min ha (he:=he) (hpl:=hpl)
theorem w4 (B:Bt X.mg)(hc:X.calm=true)(ha:QA X [a,b] tr)(hg:Gl X "max":=by rfl)(he:starEach [a,b] X.env=(false,eval a X.env)::starEach [b] X.env:=by rfl)(hpl:(backTo pos (starEach [b] X.env)).any (·.1)=false:=by rfl):QE X (.Call (.Name "max" p2) [a,b] [] pos) (aN oF tr):=
 kZ (an1 hc) aA6 hg B.max PyProof.Rows.boot_max ha (he:=he) (hpl:=hpl)
theorem aD3 (ha:QE X a ta):QE X (.UnaryOp .USub a pos) (K1 ta):=cA (al3 am0 ha) λσ H Q' h=>by
 obtain⟨W,ρ,Q,px,q,k⟩:=h
 refine⟨W,ρ,_,px,q,?_⟩;rintro v H1 x g s r ⟨i,rfl,q⟩;cases r
 exact⟨i,rfl,k _ _ _ .fr s (.int _) q⟩
theorem aA.kt_ {K:ac}{M:ay->Prop}{H:Hp}{v:V}{xs:List PV}(r:aA K M H v (.kt xs)):∃a us,v = .ref a/\m8 K a us/\Reps K M H us xs:=by
 cases r with
 |kt h r=>exact⟨_,_,rfl,h,r⟩
def M8 (K:ac)(H:Hp)(x:V)(t:av):Prop:=fN K H x t∨∃a us,x = .ref a/\aM K H a us/\t = .type "tuple"
theorem aD4:cU X (.builtin "isinstance") (λxs H Q=>∃x t n b,xs = [x,.ty n]/\M8 X.K H x t/\PySem.W.kitOne X.K t (.type n)=some b/\Q (.bl b) H):=by
 intro ag s σ H xs us Q I r h
 obtain⟨x,t,n,b,rfl,ty,e,q⟩:=h
 rcases ty with ty|⟨a,ws,rfl,hs,rfl⟩
 ·exact aw1 ag s σ H _ us Q I r ⟨x,t,n,b,rfl,ty,e,q⟩
 obtain⟨u,u',rfl,ru,ru'⟩:=lZ r
 cases ru';cases (show u=Value.ref a from ru)
 obtain⟨its,_,⟨o,h1,h2,_⟩,_⟩:=I.tuple hs
 exact bn2 PySem.W.kitx_tuple I.kIn ⟨o,h1,h2⟩ e (λz=>nomatch z) λtk=>⟨.bl b,H,I.tok tk,rfl,q⟩
theorem aD5 {K:ac}{M:ay->Prop}{H:Hp}{v:V}{x:PV}{T:String}(r:aA K M H v x)(e:K2 x=some T):M8 K H v (.type T):=by
 cases r with
 |non=>cases e;exact .inl .non
 |bl b=>cases e;exact .inl (.bl b)
 |int i=>cases e;exact .inl (.int i)
 |str i=>cases e;exact .inl (.str i)
 |tup h _=>cases e;exact .inl (.tup h)
 |lst _ h _=>cases e;exact .inl (.lst h)
 |kt h _=>cases e;exact .inr ⟨_,_,rfl,.inr h,rfl⟩
 |_=>cases e
theorem w5 {x:Str}{n:String}(B:Bt X.mg)(hn:bootBuiltins x=some (.type n))(hm:X.mg x=none)(ha:QE X a ta)(hg:Gl X "isinstance":=by rfl)(hgx:Gl X x:=by rfl)(hx:x≠"__name__":=by decide)(hdx:(x==("__debug__":Str))=false:=by decide)(he:starEach [a,.Name x px] X.env=(false,eval a X.env)::starEach [.Name x px] X.env:=by rfl)(he2:starEach [.Name x px] X.env=(false,eval (.Name x px) X.env)::starEach [] X.env:=by rfl)(hpl:(backTo pos (starEach [.Name x px] X.env)).any (·.1)=false:=by rfl):QE X (.Call (.Name "isinstance" p2) [a,.Name x px] [] pos) (jV X.K n ta):=
 cA (qE aD4 hg B.isinst PyProof.Rows.boot_isinstance (gA ha (gA (yL (v:=.ty n) hgx hm hn rfl hx hdx) jL he2) he) (he:=he) (hpl:=hpl)) λσ H Q' h=>by
  obtain⟨W,ρ,Q,px,q,k⟩:=h
  refine⟨W,ρ,_,px,q,?_⟩;rintro v H1 x g s r ⟨T,b,e,kt,q⟩
  exact⟨v,_,n,b,rfl,aD5 r e,kt,k _ _ _ .fr s (.bl _) q⟩
theorem aD6 (B:Bt X.mg)(ha:QE X a ta)(hg:Gl X "isinstance":=by rfl)(hgx:Gl X "int":=by rfl)(he:starEach [a,.Name "int" px] X.env=(false,eval a X.env)::starEach [.Name "int" px] X.env:=by rfl)(he2:starEach [.Name "int" px] X.env=(false,eval (.Name "int" px) X.env)::starEach [] X.env:=by rfl)(hpl:(backTo pos (starEach [.Name "int" px] X.env)).any (·.1)=false:=by rfl):QE X (.Call (.Name "isinstance" p2) [a,.Name "int" px] [] pos) (jV X.K "int" ta):=w5 B PyProof.Rows.boot_int B.int ha (hg:=hg) (hgx:=hgx) (he:=he) (he2:=he2) (hpl:=hpl)
theorem aD7 (B:Bt X.mg)(ha:QE X a ta)(hg:Gl X "isinstance":=by rfl)(hgx:Gl X "bool":=by rfl)(he:starEach [a,.Name "bool" px] X.env=(false,eval a X.env)::starEach [.Name "bool" px] X.env:=by rfl)(he2:starEach [.Name "bool" px] X.env=(false,eval (.Name "bool" px) X.env)::starEach [] X.env:=by rfl)(hpl:(backTo pos (starEach [.Name "bool" px] X.env)).any (·.1)=false:=by rfl):QE X (.Call (.Name "isinstance" p2) [a,.Name "bool" px] [] pos) (jV X.K "bool" ta):=w5 B PyProof.Rows.boot_bool B.bool ha (hg:=hg) (hgx:=hgx) (he:=he) (he2:=he2) (hpl:=hpl)
theorem M9 (B:Bt X.mg)(ha:QE X a ta)(hg:Gl X "isinstance":=by rfl)(hgx:Gl X "tuple":=by rfl)(he:starEach [a,.Name "tuple" px] X.env=(false,eval a X.env)::starEach [.Name "tuple" px] X.env:=by rfl)(he2:starEach [.Name "tuple" px] X.env=(false,eval (.Name "tuple" px) X.env)::starEach [] X.env:=by rfl)(hpl:(backTo pos (starEach [.Name "tuple" px] X.env)).any (·.1)=false:=by rfl):QE X (.Call (.Name "isinstance" p2) [a,.Name "tuple" px] [] pos) (jV X.K "tuple" ta):=w5 B PyProof.Rows.boot_tuple B.tuple ha (hg:=hg) (hgx:=hgx) (he:=he) (he2:=he2) (hpl:=hpl)
def w6 (K:ac)(n:Nat)(neg:Bool):R2:=λv w H Q=>∃x y,aA K (λ_=>True) H v x/\aA K (λ_=>True) H w y/\((∃xs ys,x = .tup xs/\y = .tup ys)∨(∃xs ys,x = .lst xs/\y = .lst ys)∨(∃xs ys,x = .kt xs/\y = .kt ys))/\eM (n+1) x y=true/\Q (.bl (if neg=true then !cL (n+1) x y else cL (n+1) x y)) H
theorem mR {ag:List (ay×Obj)}{σ:St}{H:Hp}{s:ax}{M M':ay->Prop}(I:a6 X ag σ H s){n:Nat}{A:ba}(hu:A.units+(n+1)<cLine){us ws:List V}{xs ys:List PV}{its ao:List av}(r1:Reps X.K M H us xs)(r2:Reps X.K M' H ws ys)(v1:aI us its)(v2:aI ws ao)(ok:((xs.zip ys).all λp=>eM n p.1 p.2)=true):∀j (h1:j<its.toArray.size) (h2:j<ao.toArray.size),SeqAt.EqAt A.in1 s its.toArray[j] ao.toArray[j] (cL n (xs.getD j .non) (ys.getD j .non)):=by
 intro j h1 h2;have l1:=v1.length;have l2:=v2.length;have m1:=r1.length;have m2:=r2.length;have k1:j<its.length:=by simpa using h1
 have k2:j<ao.length:=by simpa using h2
 have j1:j<us.length:=by omega
 have j2:j<ws.length:=by omega
 have i1:j<xs.length:=by omega
 have i2:j<ys.length:=by omega
 obtain⟨u,hu',ru⟩:=v1.get (bf4 j1)
 obtain⟨u2,hu2',ru2⟩:=v2.get (bf4 j2)
 obtain⟨x,hx,rx⟩:=r1.get (bf4 j1)
 obtain⟨y,hy,ry⟩:=r2.get (bf4 j2)
 have e1:its.toArray[j]=u:=by
  rw[bf4 k1]at hu';simpa using hu'
 have e2:ao.toArray[j]=u2:=by
  rw[bf4 k2]at hu2';simpa using hu2'
 have ok':eM n x y=true:=by
  rw[bq1]at ok;have hz:j<(xs.zip ys).length:=by simp;omega
  have:=ok _ (bm1 hz)
  rw[List.getElem_zip]at this;rw[bf4 i1]at hx;rw[bf4 i2]at hy;cases hx;cases hy;exact this
 rw[e1,e2];have g1:xs.getD j .non=x:=by rw[bg5,hx];rfl
 have g2:ys.getD j .non=y:=by rw[bg5,hy];rfl
 rw[g1,g2];exact M4 I n (by show A.units+1+n<cLine;omega) rx ry ru ru2 ok'
theorem be6 (n:Nat)(hu:X.A.units+(n+1)<cLine):c9 X (compareOp .Eq) (w6 X.K n false):=by
 intro ag s σ H v w a b Q I ra rb h
 obtain⟨x,y,rx,ry,kd,o,q⟩:=h
 have hu0:X.A.units<cLine:=by omega
 rcases kd with⟨xs,ys,rfl,rfl⟩|⟨xs,ys,rfl,rfl⟩|⟨xs,ys,rfl,rfl⟩
 ·obtain⟨p,us,rfl,h1,r1⟩:=rx.sqT
  obtain⟨p2,ws,rfl,h2,r2⟩:=ry.sqT
  cases ra;cases rb
  obtain⟨its,v1,p1,_⟩:=I.tuple (aM.of (K:=X.K) h1)
  obtain⟨ao,v2,p2',_⟩:=I.tuple (aM.of (K:=X.K) h2)
  have l1:=v1.length;have l2:=v2.length;have m1:=r1.length;have m2:=r2.length
  have:=SeqAt.RcAt.tuples p1 p2' hu0 (mR I hu r1 r2 v1 v2 o)
  rw[bf8,bf8,<- l1,<- l2,m1,m2,jA]at this;exact this _ _ _ _ ⟨.bl _,H,I,rfl,q⟩
 ·obtain⟨p,us,rfl,_,h1,r1⟩:=rx.sqL
  obtain⟨p2,ws,rfl,_,h2,r2⟩:=ry.sqL
  cases ra;cases rb
  obtain⟨its,v1,p1,_⟩:=I.list (aT.of (K:=X.K) h1)
  obtain⟨ao,v2,p2',_⟩:=I.list (aT.of (K:=X.K) h2)
  have l1:=v1.length;have l2:=v2.length;have m1:=r1.length;have m2:=r2.length;have q:Q (.bl ((xs.zip ys).all (λp=>cL n p.1 p.2)&&xs.length==ys.length)) H:=q;by_cases hl:xs.length=ys.length
  ·have:=SeqAt.RcAt.lists p1.isList p2'.isList (by rw[bf8,bf8];omega) hu0 (mR I hu r1 r2 v1 v2 o)
   have hm:min xs.length ys.length=its.length:=by omega
   rw[bf8,<- hm,jA]at this;rw[show (xs.length==ys.length)=true by simpa using hl,Bool.and_true]at q;exact this _ _ _ _ ⟨.bl _,H,I,rfl,q⟩
  ·have:=SeqAt.RcAt.lists_lengths (A:=X.A) p1.isList p2'.isList (by rw[bf8,bf8];simp;omega) hu0
   rw[show (xs.length==ys.length)=false by simpa using hl,bo2]at q;exact this _ _ _ _ ⟨.bl _,H,I,rfl,q⟩
 ·obtain⟨p,us,rfl,h1,r1⟩:=rx.kt_
  obtain⟨p2,ws,rfl,h2,r2⟩:=ry.kt_
  cases ra;cases rb
  obtain⟨its,v1,p1,_⟩:=I.tuple (.inr h1)
  obtain⟨ao,v2,p2',_⟩:=I.tuple (.inr h2)
  have l1:=v1.length;have l2:=v2.length;have m1:=r1.length;have m2:=r2.length
  have:=SeqAt.RcAt.tuples p1 p2' hu0 (mR I hu r1 r2 v1 v2 o)
  rw[bf8,bf8,<- l1,<- l2,m1,m2,jA]at this;exact this _ _ _ _ ⟨.bl _,H,I,rfl,q⟩
theorem aD8 (n:Nat)(hu:X.A.units+(n+1)<cLine):c9 X (compareOp .NotEq) (w6 X.K n true):=by
 intro ag s σ H v w a b Q I ra rb h
 obtain⟨x,y,rx,ry,kd,o,q⟩:=h
 have hu0:X.A.units<cLine:=by omega
 rcases kd with⟨xs,ys,rfl,rfl⟩|⟨xs,ys,rfl,rfl⟩|⟨xs,ys,rfl,rfl⟩
 ·obtain⟨p,us,rfl,h1,r1⟩:=rx.sqT
  obtain⟨p2,ws,rfl,h2,r2⟩:=ry.sqT
  cases ra;cases rb
  obtain⟨its,v1,p1,_⟩:=I.tuple (aM.of (K:=X.K) h1)
  obtain⟨ao,v2,p2',_⟩:=I.tuple (aM.of (K:=X.K) h2)
  have l1:=v1.length;have l2:=v2.length;have m1:=r1.length;have m2:=r2.length
  have:=SeqAt.RcNeAt.tuples p1 p2' hu0 (mR I hu r1 r2 v1 v2 o)
  rw[bf8,bf8,<- l1,<- l2,m1,m2,jA]at this;exact this _ _ _ _ ⟨.bl _,H,I,rfl,q⟩
 ·obtain⟨p,us,rfl,_,h1,r1⟩:=rx.sqL
  obtain⟨p2,ws,rfl,_,h2,r2⟩:=ry.sqL
  cases ra;cases rb
  obtain⟨its,v1,p1,_⟩:=I.list (aT.of (K:=X.K) h1)
  obtain⟨ao,v2,p2',_⟩:=I.list (aT.of (K:=X.K) h2)
  have l1:=v1.length;have l2:=v2.length;have m1:=r1.length;have m2:=r2.length;have q:Q (.bl (!((xs.zip ys).all (λp=>cL n p.1 p.2)&&xs.length==ys.length))) H:=q;by_cases hl:xs.length=ys.length
  ·have:=SeqAt.RcNeAt.lists p1.isList p2'.isList (by rw[bf8,bf8];omega) hu0 (mR I hu r1 r2 v1 v2 o)
   have hm:min xs.length ys.length=its.length:=by omega
   rw[bf8,<- hm,jA]at this;rw[show (xs.length==ys.length)=true by simpa using hl,Bool.and_true]at q;exact this _ _ _ _ ⟨.bl _,H,I,rfl,q⟩
  ·have:=SeqAt.RcNeAt.lists_lengths (A:=X.A) p1.isList p2'.isList (by rw[bf8,bf8];simp;omega) hu0
   rw[show (xs.length==ys.length)=false by simpa using hl,bo2]at q;exact this _ _ _ _ ⟨.bl _,H,I,rfl,q⟩
 ·obtain⟨p,us,rfl,h1,r1⟩:=rx.kt_
  obtain⟨p2,ws,rfl,h2,r2⟩:=ry.kt_
  cases ra;cases rb
  obtain⟨its,v1,p1,_⟩:=I.tuple (.inr h1)
  obtain⟨ao,v2,p2',_⟩:=I.tuple (.inr h2)
  have l1:=v1.length;have l2:=v2.length;have m1:=r1.length;have m2:=r2.length
  have:=SeqAt.RcNeAt.tuples p1 p2' hu0 (mR I hu r1 r2 v1 v2 o)
  rw[bf8,bf8,<- l1,<- l2,m1,m2,jA]at this;exact this _ _ _ _ ⟨.bl _,H,I,rfl,q⟩
theorem aD9 {n:Nat}{neg:Bool}:fE X (vV n neg) (w6 X.K n neg):=by
 rintro W Hs H u v x y g g' Q Q' s n r1 r2 ⟨kd,o,q⟩ k
 exact⟨x,y,r1.same (aD.refl _) λ_ _=>trivial,r2.same (aD.refl _) λ_ _=>trivial,kd.elim .inl λz=>.inr (.inl z),o,k _ _ _ .fr (aD.refl _) (.bl _) q⟩
theorem aE0 (hu:X.A.units+3<cLine)(ha:QE X a ta)(hb:QE X b tb):QT X (.Compare a [.NotEq] [b] pos) (aX (q2 (vV 2 true) ta tb)):=kY (aD8 2 hu) aD9 ha hb (iU _)
end
end PP
namespace PP
open PySem L2 PyProof.Rows
def LO (X:Cx)(t:mI):TO:=λσ H Q'=>∃(W:ay->Prop) (ρ:bE) (Q:Option Int->Prop),PX X.K X.H₀ W σ ρ H/\t ρ Q/\∀o H',aD H H'->Q o->Q' o H'
def QO (X:Cx)(e:Option Expr)(t:mI):Prop:=PO X e (LO X t)
theorem Reps.cut {K:ac}{M:ay->Prop}{H:Hp}{us:List V}{xs:List PV}(r:Reps K M H us xs)(lo hi:Option Int):Reps K M H (hV us lo hi) (mJ xs lo hi):=by
 unfold hV mJ;rw[r.length];exact (r.drop _).take _
section
variable {X:Cx}{a b c e o:Expr}{es b8:List Expr}{ta tb te to tk:aC}{tr:cJ}{tA tB' tc:cD}{pos p2 px:Pos}{st:Stmt}{sts:List Stmt}{t u:aR}
theorem aE1:QO X none K3:=λag s σ H Q I h=>ap3 ag s σ H Q I (by
 obtain⟨W,ρ,Q1,px,q,k⟩:=h
 exact k _ _ (aD.refl _) q)
theorem aE2 (h:QE X e te):QO X (some e) (K4 te):=λag s σ H Q I hq=>ap4 h ag s σ H Q I (by
 obtain⟨W,ρ,Q1,px,q,k⟩:=hq
 refine⟨W,ρ,_,px,q,?_⟩;rintro v H1 x g s r ⟨i,rfl,q⟩;cases r
 exact⟨i,rfl,k _ _ s q⟩)
theorem aE3 {lo hi:Option Expr}{tl th:mI}{sp:Pos}(he:QE X e te)(hl:QO X lo tl)(hh:QO X hi th):QE X (.Subscript e (.Slice lo hi none sp) pos) (K5 te tl th):=cA (ap5 (aq8.or ax4) he hl hh) λσ H Q' h=>by
 obtain⟨W,ρ,Q,px,q,k⟩:=h
 refine⟨W,ρ,_,px,q,λv H1 x g s1 r1 q1=>⟨W,ρ,_,px.mono s1,q1,λlo H2 s2 q2=>⟨W,ρ,_,px.mono (s1.trans s2),q2,?_⟩⟩⟩;rintro hi H3 s3 ⟨xs,e,f,q3⟩;have S:=(s1.trans s2).trans s3;have r3:=r1.same (M':=Mg X.H₀ W H g) (s2.trans s3) λ_ z=>z
 cases r3 with
 |tup h r=>
  cases e;refine .inr ⟨_,_,rfl,aM.of h,λp hp=>k _ _ _ .fr (S.trans (bK hp _)) (.tup c8 (((r.flat f).cut lo hi).same (bK hp _) λ_ z=>z)) q3,λec=>k _ _ _ .fr S (.tup h ?_) q3⟩
  have:=(r.flat (M':=Mg X.H₀ W H .fr) f).cut lo hi
  rw[ec]at this;exact this
 |lst m h r=>
  cases e;exact .inl ⟨_,_,rfl,aT.of h,λp hp=>k _ _ _ .fr (S.trans (bK hp _)) (.lst (S.free hp) c8 (((r.flat f).cut lo hi).same (bK hp _) λ_ z=>z)) q3⟩
 |scr h=>
  cases e;exact .inl ⟨_,_,rfl,h.sqL,λp hp=>k _ _ _ .fr (S.trans (bK hp _)) (.lst (S.free hp) c8 (((Reps.intz _).cut lo hi).same (bK hp _) λ_ z=>z)) q3⟩
 |fL h r=>
  cases e;exact .inl ⟨_,_,rfl,.inl (.inr ⟨_,h⟩),λp hp=>k _ _ _ .fr (S.trans (bK hp _)) (.lst (S.free hp) c8 (((r.flat f).cut lo hi).same (bK hp _) λ_ z=>z)) q3⟩
 |_=>cases e
structure Df (P:az)(w:bc)(K:ac)(mg:Str->Option av)(base:Heap)(k:Nat)(x:Str)(ps:List Str)(p:cV):Prop where
 ex:∃f fd,dR P w K mg base fQ k f fd ps (oG K p)/\jM K fd ps []/\PySem.W.keepIn K (.ref f)=true/\mg x=some (.ref f)
theorem dS {k j:Nat}{x:Str}{ps:List Str}{p:cV}(d:Df X.prog X.w X.K X.mg X.base k x ps p)(hr:bX j X.A)(ha:QA X (e::es) tr)(hkj:k<=j:=by decide)(hg:Gl X x:=by rfl)(hdb:(x==("__debug__":Str))=false:=by decide)(he:starEach (e::es) X.env=(false,eval e X.env)::starEach es X.env:=by rfl)(hpl:(backTo pos (starEach es X.env)).any (·.1)=false:=by rfl):QE X (.Call (.Name x p2) (e::es) [] pos) (aN p tr):=by
 obtain⟨f,fd,F,b,kp,m⟩:=d.ex
 exact cA (uD F (hr.mono hkj) hg m kp b .nil au2 ha hdb he hpl) λ_ _ _=>aA7
theorem w9 {K:ac}{H:Hp}{N:List Str}{vs:List V}{xs:List PV}(r:Reps K (λ_=>True) H vs xs):PX K H (λ_=>False) (L2.gO N vs) (eN N xs) H:=by
 have lr:=r.length;have own:∀{i:Nat}{m:Slot},(eN N xs)[i]? = some (some m)->∃x,xs[i]? = some x/\m = .sh (flat x) x:=λ{i m} h=>by
  unfold eN at h;by_cases hi:i<xs.length
  ·rw[bq2 (by simpa using hi),bh5]at h
   rw[bf4 hi]at h ⊢;cases h
   exact⟨_,rfl,rfl⟩
  ·rw[bs0 (by simpa using hi),List.getElem?_replicate]at h
   split at h<;>cases h
 refine⟨by unfold L2.gO eN;simp[lr],aD.refl _,λa z=>z.elim,λi m h=>?_,λi j x y a h1=>?_⟩
 ·obtain⟨x,hx,rfl⟩:=own h
  obtain⟨v,hv,rx⟩:=r.at hx
  refine⟨v,?_,rG (g:=false) (rx.same (aD.refl _) λ_ _ z=>z)⟩;have hi:i<vs.length:=(bh8.mp hv).1;unfold L2.gO;rw[bq2 (by simpa using hi),bh5,hv];rfl
 ·obtain⟨x,_,e⟩:=own h1
  cases e
theorem Df.of {P:az}{w:bc}{K:ac}{mg:Str->Option av}{base:Heap}{k:Nat}{x:Str}{ps N:List Str}{p:cV}{st:Stmt}{f:ay}{fd:FuncData}(F:gB K x x st f fd)(m:mg x=some (.ref f))(S:FnScope N ps (b7 st))(hb:∀(kV doc pm:av) (an:Option ay) (cdv ct:av) (us:List av),us.length=ps.length->bindArgs (PySem.W.fnOf x x (iY st) (eJ st) (b7 st) .none kV doc pm an cdv ct) ⟨us,[]⟩=pure (ps.zip us))(len:∀xs Q,p xs Q->xs.length=ps.length)(body:∀(cdv:av) (A:ba) (outer:List Env) (s:ax) (H:Hp) (E:XK),bX k (A.deeper (envOfC x (b7 st) s.heap.objs.size f cdv))->
   ∃t,fH (dG fQ P w K mg base N x (b7 st) f cdv A outer s H E).nox (eJ st) t/\∀xs Q,p xs Q->t { nx:=λ_=>Q .non,rt:=Q } (eN N xs)):Df P w K mg base (k+1) x ps p:=by
 refine⟨f,fd,F.ok S (λvs H Q E h=>?_) (λcdv A outer s H vs Q E hr h=>?_),F.binds hb,F.kp,m⟩
 ·obtain⟨xs,Qp,r,q,_⟩:=h
  rw[r.length];exact len xs Qp q
 ·obtain⟨xs,Qp,r,q,k⟩:=h
  obtain⟨t,ht,hq⟩:=body cdv A outer s H E hr
  refine⟨_,ht,λ_=>False,eN N xs,_,w9 r,hq xs Qp q,?_,?_,?_,?_⟩
  ·exact λW' σ' H' ρ' e px q=>k _ _ _ px.same .non q
  ·exact λv H' x s r q=>k _ _ _ s r q
  ·exact λW' σ' H' ρ' e px q=>q
  ·exact λW' σ' H' ρ' e px q=>q
theorem iI (i:Nat){x:Str}{tp:Pos}{body:List Stmt}{ti:fS}(hN:X.N.Nodup)(hi:QI X (.Name x tp) e ti)(hb:fH X body t)(hx:X.N[i]? = some x:=by rfl)(hl:iB X.env.scope x:=by first|exact Or.inl rfl|exact Or.inr rfl)(hf:X.fn x=true∨X.env.scope.names.lookup x=some .local:=by first|exact .inl rfl|exact .inr rfl)(hp:PassesOwn (model X.prog X.w) X.A X.env X.xe:=by exact PassesOwn.never)(hc:X.calm=true:=by rfl)(hs:∀x,foldedSetIterable e X.env x=pure x:=by intro _;rfl):QS X (.For (.Name x tp) e body [] pos) (gI ti (cP i) t):=
 aD2 hp hc hi (lW hN hx hl hf) (oI _ i) hb hs
abbrev cI:av->ax->Prop:=λ_ _=>False
section
variable {scope:Scope}{N:List Str}{fr:List (Option Nat)}{x y:Str}{tp xp yp:Pos}{kt:Nat}{iter elt:Expr}{ti:fS}
theorem rS {ifs:List Expr}{tcs:cD}(he:∀(s:ax) (H:Hp) (C:ay) (fp:List ay),QE (bP X scope N s H C fp cI) elt te)(hi:∀(s:ax) (H:Hp) (C:ay) (fp:List ay),kK (bP X scope N s H C fp cI) ifs (LT (bP X scope N s H C fp cI) tcs))(hN:N.Nodup)(h0:N[0]? = some x)(hl:∀(s:ax) (H:Hp) (C:ay) (fp:List ay),(bP X scope N s H C fp cI).env.scope.names.lookup x=some .local)(s:ax)(H:Hp) :
  o8 X scope N (.Name x tp) ifs elt s H (dC 0) (LT (X.frm H) tcs) (LE (X.frm H) te):=
 ⟨λC fp=>lW (X:=bP X scope N s H C fp cI) hN h0 (.inl (hl s H C fp)) (.inr (hl s H C fp)),λC fp=>hi s H C fp,λC fp=>he s H C fp⟩
theorem oO {Y:Cx}:kK Y [] (LT Y dU):=λag s σ H Q I h=>au8 ag s σ H Q I (aB6 h)
theorem aE4 (hi:QI X (.Name x tp) iter ti)(he:∀(s:ax) (H:Hp) (C:ay) (fp:List ay),QE (bP X scope N s H C fp cI) elt te)(hc:X.calm=true:=by rfl)(S:dL X scope N fr:=by exact dL.of rfl rfl)(hN:N.Nodup:=by decide +kernel)(h0:N[0]? = some x:=by rfl)(hl:∀(s:ax) (H:Hp) (C:ay) (fp:List ay),(bP X scope N s H C fp cI).env.scope.names.lookup x=some .local:=by intro _ _ _ _;rfl)(hf:fr[0]? = some none:=by rfl)(hs:∀x,foldedSetIterable iter X.env x=pure x:=by intro _;rfl):QE X (.ListComp elt [⟨.Name x tp,iter,[],0⟩] scope pos) (fG ti fr (cP 0) dU te):=
 cA (uS (gh:=λ_=>dC 0) (tch:=λH=>LT (X.frm H) dU) (teh:=λH=>LE (X.frm H) te) hc S hi (rS he (λ_ _ _ _=>oO) hN h0 hl) hs) λ_ _ _=>mH (oI _ 0) (λi e=>by subst e;exact hf)
theorem N0 {c:Expr}{tcs:cD}(hi:QI X (.Name x tp) iter ti)(ht:∀(s:ax) (H:Hp) (C:ay) (fp:List ay),QT (bP X scope N s H C fp cI) c tcs)(he:∀(s:ax) (H:Hp) (C:ay) (fp:List ay),QE (bP X scope N s H C fp cI) elt te)(hc:X.calm=true:=by rfl)(S:dL X scope N fr:=by exact dL.of rfl rfl)(hN:N.Nodup:=by decide +kernel)(h0:N[0]? = some x:=by rfl)(hl:∀(s:ax) (H:Hp) (C:ay) (fp:List ay),(bP X scope N s H C fp cI).env.scope.names.lookup x=some .local:=by intro _ _ _ _;rfl)(hf:fr[0]? = some none:=by rfl)(hs:∀x,foldedSetIterable iter X.env x=pure x:=by intro _;rfl):QE X (.ListComp elt [⟨.Name x tp,iter,[c],0⟩] scope pos) (fG ti fr (cP 0) tcs te):=
 cA (uS (gh:=λ_=>dC 0) (tch:=λH=>LT (X.frm H) tcs) (teh:=λH=>LE (X.frm H) te) hc S hi (rS he (λs H C fp=>au9 (ht s H C fp)) hN h0 hl) hs) λ_ _ _=>mH (oI _ 0) (λi e=>by subst e;exact hf)
theorem aE5 {i:Nat}{z:Str}{zp:Pos}(nd:X.N.Nodup)(hi:QI X (.Name x tp) iter ti)(he:∀(s:ax) (H:Hp) (C:ay) (fp:List ay),QE (bP X scope N s H C fp cI) elt te)(hz:X.N[i]? = some z:=by rfl)(hzl:X.env.scope.names.lookup z=some .local:=by rfl)(hsw:swapsWith (.ListComp elt [⟨.Name x tp,iter,[],0⟩] scope p2) (some (.Name z zp)) pos.line X.env=pure true:=by rfl)(hc:X.calm=true:=by rfl)(S:dL X scope N fr:=by exact dL.of rfl rfl)(hN:N.Nodup:=by decide +kernel)(h0:N[0]? = some x:=by rfl)(hl:∀(s:ax) (H:Hp) (C:ay) (fp:List ay),(bP X scope N s H C fp cI).env.scope.names.lookup x=some .local:=by intro _ _ _ _;rfl)(hf:fr[0]? = some none:=by rfl)(hs:∀x,foldedSetIterable iter X.env x=pure x:=by intro _;rfl):QS X (.Assign [.Name z zp] (.ListComp elt [⟨.Name x tp,iter,[],0⟩] scope p2) pos) (bB i (fG ti fr (cP 0) dU te)):=
 dX (uT (gh:=λ_=>dC 0) (tch:=λH=>LT (X.frm H) dU) (teh:=λH=>LE (X.frm H) te) hc S hi (rS he (λ_ _ _ _=>oO) hN h0 hl) nd hz hzl hsw hs) λD σ H h=>mH (oI _ 0) (λi e=>by subst e;exact hf) (vJ h)
theorem aE6 {i:Nat}{z:Str}{zp:Pos}(nd:X.N.Nodup)(hi:QI X (.Name x tp) iter ti)(he:∀(s:ax) (H:Hp) (C:ay) (fp:List ay),QE (bP X scope N s H C fp cI) elt te)(hz:X.N[i]? = some z:=by rfl)(hzl:X.env.scope.names.lookup z=some .local:=by rfl)(hsw:swapsWith (.ListComp elt [⟨.Name x tp,iter,[],0⟩] scope p2) (some (.Name z zp)) pos.line X.env=pure true:=by rfl)(hc:X.calm=true:=by rfl)(S:dL X scope N fr:=by exact dL.of rfl rfl)(hN:N.Nodup:=by decide +kernel)(h0:N[0]? = some x:=by rfl)(hl:∀(s:ax) (H:Hp) (C:ay) (fp:List ay),(bP X scope N s H C fp cI).env.scope.names.lookup x=some .local:=by intro _ _ _ _;rfl)(hf:fr[0]? = some none:=by rfl)(hs:∀x,foldedSetIterable iter X.env x=pure x:=by intro _;rfl):QS X (.Assign [.Name z zp] (.ListComp elt [⟨.Name x tp,iter,[],0⟩] scope p2) pos) (gV i (fG ti fr (cP 0) dU te)):=
 dX (uT (gh:=λ_=>dC 0) (tch:=λH=>LT (X.frm H) dU) (teh:=λH=>LE (X.frm H) te) hc S hi (rS he (λ_ _ _ _=>oO) hN h0 hl) nd hz hzl hsw hs) λD σ H h=>mH (oI _ 0) (λi e=>by subst e;exact hf) (G8 h)
end
end
end PP
namespace SO
open PySem PyProof.Rows
section
variable (rk:Keyed→Int)
def Kr (xs:Array Keyed)(i:Nat):Int:=((xs[i]?).map rk).getD 0
def Up (xs:Array Keyed)(lo hi:Nat):Prop:=∀i j,lo<=i->i<=j->j<hi->Kr rk xs i<=Kr rk xs j
def Dn (xs:Array Keyed)(lo hi:Nat):Prop:=∀i j,lo<=i->i<=j->j<hi->Kr rk xs j<=Kr rk xs i
end
variable {rk:Keyed→Int}
theorem l8 {xs ys:Array Keyed}{i j:Nat}(h:xs[i]? = ys[j]?):Kr rk xs i=Kr rk ys j:=by unfold Kr;rw[h]
theorem rT {xs:Array Keyed}{i j:Nat}(hj:j<=xs.size)(k:Nat):Kr rk (mirror xs i j ((j-i)/2)) k=Kr rk xs (if i<=k/\k<j then i+j-1-k else k):=by
 refine l8 ?_;rw[getElem?_mirror_all hj];split<;>rfl
theorem wA {xs:Array Keyed}{i j:Nat}(hj:j<=xs.size)(e:∀k,i<=k->k<j->Kr rk xs k=Kr rk xs (j-1))(k:Nat):Kr rk (mirror xs i j ((j-i)/2)) k=Kr rk xs k:=by
 rw[rT hj];split
 ·rename_i h;rw[e k h.1 h.2,e _ (by omega) (by omega)]
 ·rfl
theorem aE7 {xs:Array Keyed}{src d:Nat}(hs:src<xs.size)(hd:d<=src)(k:Nat):Kr rk (bubble xs src d) k=Kr rk xs (if k=src-d then src else if src-d<k/\k<=src then k-1 else k):=by
 refine l8 ?_;rw[getElem?_bubble hs d hd]
 repeat' split
 all_goals rfl
structure SB (κ:SortKind)(a0:Array Keyed)(pd:Array (Nat×Nat×Nat))(st:SortSt):Prop where
 pm:(arrOf st).Perm a0
 kd:kindOf st=κ
 ok:failedOf st=none
 pd:pendingOf st=pd
section
variable {κ:SortKind}{a0:Array Keyed}{pd:Array (Nat×Nat×Nat)}{st:SortSt}{prog:az}{w:bc}{A:ba}{E:av→ax→Prop}{s:ax}{Ok:Keyed→Prop}
theorem SB.sz (h:SB κ a0 pd st):(arrOf st).size=a0.size:=h.pm.size_eq
theorem SB.put (h:SB κ a0 pd st){xs:Array Keyed}(hp:xs.Perm (arrOf st)):SB κ a0 pd (setArr st xs):=⟨hp.trans h.pm,h.kd,h.ok,h.pd⟩
def cE (prog:az)(w:bc)(A:ba)(E:av->ax->Prop)(s:ax)(κ:SortKind)(Ok:Keyed->Prop)(rk:Keyed->Int):Prop:=
 ∀(x y:Keyed),Ok x->Ok y->∀(st:SortSt) (Q:Option Bool->SortSt->Prop),kindOf st=κ->Q (some (decide (rk x<rk y))) st->wpS (model prog w) A E s (lt' x y) Q st
def bL (Ok:Keyed->Prop)(xs:Array Keyed):Prop:=∀x∈xs,Ok x
theorem SB.all (h:SB κ a0 pd st)(o:bL Ok a0):bL Ok (arrOf st):=λx hx=>o x (h.pm.mem_iff.mp hx)
theorem dA {xs:Array Keyed}{i:Nat}{Q:Keyed->SortSt->Prop}(hi:i<xs.size)(h:Q xs[i] st):wpS (model prog w) A E s (elem' xs i) Q st:=by
 rw[elem'_eq,getElem?_pos xs i hi];exact bh4 h
theorem bZ {xs:Array Keyed}{i:Nat}(hi:i<xs.size):Kr rk xs i=rk xs[i]:=by unfold Kr;rw[getElem?_pos xs i hi];rfl
theorem oP (c:cE prog w A E s κ Ok rk)(o:bL Ok a0)(b:SB κ a0 pd st){i j:Nat}{Q:Option Bool->SortSt->Prop}(hi:i<a0.size)(hj:j<a0.size)(h:Q (some (decide (Kr rk (arrOf st) i<Kr rk (arrOf st) j))) st):wpS (model prog w) A E s (ltAt' i j) Q st:=by
 have hi':i<(arrOf st).size:=by rw[b.sz];exact hi
 have hj':j<(arrOf st).size:=by rw[b.sz];exact hj
 rw[ltAt'_eq];refine bg9 (wpS_get (bg9 (dA hi' (bg9 (dA hj' ?_)))));refine c _ _ (b.all o _ (bm2 hi')) (b.all o _ (bm2 hj')) st Q b.kd ?_;rw[<- bZ (rk:=rk) hi',<- bZ (rk:=rk) hj'];exact h
theorem rV {i j:Nat}{Q:Unit->SortSt->Prop}(h:Q () (setArr st (mirror (arrOf st) i j ((j-i)/2)))):wpS (model prog w) A E s (reverseSlice' i j) Q st:=by
 rw[reverseSlice'_eq];exact wpS_modify h
abbrev CS:=Option (Option Nat)×Nat
abbrev DS:=Option (Option Nat)×Nat×Nat
def oQ (lo b am:Nat):StateT SortSt Sem CS:=forIn [b:am] ((none,b):CS) λ_ r=>do
 match <- ltAt' (lo+r.2) (lo+r.2-1) with
 |some q=>if q=true then pure (ForInStep.done (none,r.2)) else pure (ForInStep.yield (none,r.2+1))
 |_=>pure (ForInStep.done (some none,r.2))
def wB (lo b am:Nat):StateT SortSt Sem DS:=forIn [b:am] ((none,b,0):DS) λ_ r=>do
 match <- ltAt' (lo+r.2.1) (lo+r.2.1-1) with
 |some q=>
  if q=true then (if r.2.2>0 then do reverseSlice' (lo+r.2.1-(r.2.2+1)) (lo+r.2.1);pure (ForInStep.yield (none,r.2.1+1,0)) else pure (ForInStep.yield (none,r.2.1+1,0)))
  else do
   match <- ltAt' (lo+r.2.1-1) (lo+r.2.1) with
   |some q=>if q=true then pure (ForInStep.done (none,r.2.1,r.2.2)) else pure (ForInStep.yield (none,r.2.1+1,r.2.2+1))
   |_=>pure (ForInStep.done (some none,r.2.1,r.2.2))
 |_=>pure (ForInStep.done (some none,r.2.1,r.2.2))
theorem N1 (c:cE prog w A E s κ Ok rk)(o:bL Ok a0)(b:SB κ a0 pd st){lo n am:Nat}{Q:CS->SortSt->Prop}(hz:lo+am<=a0.size)(h1:1<=n)(hn:n<=am)(u:Up rk (arrOf st) lo (lo+n))(h:∀m,n<=m->m<=am->Up rk (arrOf st) lo (lo+m)->(m=am∨Kr rk (arrOf st) (lo+m)<Kr rk (arrOf st) (lo+m-1))->Q (none,m) st):wpS (model prog w) A E s (oQ lo n am) Q st:=by
 unfold oQ;refine bo7 (I:=λx r st'=>st'=st/\r=(none,x)/\Up rk (arrOf st) lo (lo+x)) ?_ ?_ ⟨rfl,rfl,u⟩
 ·rintro x r st' hx hx' ⟨rfl,rfl,u'⟩
  refine bg9 (oP c o b (by omega) (by omega) ?_);by_cases hq:Kr rk (arrOf st') (lo+x)<Kr rk (arrOf st') (lo+x-1)
  ·rw[bg4 hq]
   exact bh4 (h x hx (by omega) u' (.inr hq))
  ·rw[bf7 hq]
   refine bh4 ⟨rfl,rfl,λi j hi hij hj=>?_⟩;rcases bj0 j (lo+x) with z|z
   ·exact u' i j hi hij z
   ·have ej:j=lo+x:=by omega
    subst ej;rcases bv7 hij with z|z
    ·rw[z];exact bg3 _
    ·have:=u' i (lo+x-1) hi (by omega) (by omega)
     omega
 ·rintro r st' ⟨rfl,rfl,u'⟩
  have em:max n am=am:=by omega
  rw[em]at u' ⊢;exact h am hn (bg0 _) u' (.inl rfl)
structure oR (rk:Keyed->Int)(xs ys:Array Keyed)(lo m q:Nat):Prop where
 dn:Dn rk ys lo (lo+m)
 le:q+1<=m
 eq:∀i,lo+m-(q+1)<=i->i<lo+m->Kr rk ys i=Kr rk ys (lo+m-1)
 low:∀i,i<lo->Kr rk ys i=Kr rk xs i
theorem aE8 (c:cE prog w A E s κ Ok rk)(o:bL Ok a0)(b:SB κ a0 pd st){lo n am:Nat}{xs:Array Keyed}{Q:DS->SortSt->Prop}(hz:lo+am<=a0.size)(h1:1<=n)(hn:n<=am)(u:oR rk xs (arrOf st) lo n 0)(h:∀m q st',SB κ a0 pd st'->n<=m->m<=am->oR rk xs (arrOf st') lo m q->Q (none,m,q) st'):wpS (model prog w) A E s (wB lo n am) Q st:=by
 unfold wB;refine bo7 (I:=λx r st'=>∃q,r=(none,x,q)/\SB κ a0 pd st'/\oR rk xs (arrOf st') lo x q) ?_ ?_ ⟨0,rfl,b,u⟩
 ·rintro x r st' hx hx' ⟨q,rfl,b',f⟩
  have sz:=b'.sz;dsimp only;refine bg9 (oP c o b' (by omega) (by omega) ?_);by_cases hq:Kr rk (arrOf st') (lo+x)<Kr rk (arrOf st') (lo+x-1)
  ·rw[bg4 hq]
   have nx:∀ys:Array Keyed,(∀k,Kr rk ys k=Kr rk (arrOf st') k)->oR rk xs ys lo (x+1) 0:=λys e=>by
    refine⟨λi j hi hij hj=>?_,by omega,λi h1 h2=>by rw[show i=lo+(x+1)-1 by omega],λi hi=>(e i).trans (f.low i hi)⟩;rw[e,e];rcases bj0 j (lo+x) with z|z
    ·exact f.dn i j hi hij z
    ·have ej:j=lo+x:=by omega
     subst ej;rcases bv7 hij with z|z
     ·rw[z];exact bg3 _
     ·have:=f.dn i (lo+x-1) hi (by omega) (by omega)
      omega
   dsimp only;rw[if_pos rfl];by_cases hp:q>0
   ·rw[if_pos hp]
    exact bg9 (rV (bh4 ⟨0,rfl,b'.put (mirror_perm _ _ _ _),nx _ (wA (by omega) f.eq)⟩))
   ·rw[if_neg hp]
    exact bh4 ⟨0,rfl,b',nx _ λ_=>rfl⟩
  ·rw[bf7 hq]
   dsimp only;rw[if_neg bi1];refine bg9 (oP c o b' (by omega) (by omega) ?_);by_cases hl:Kr rk (arrOf st') (lo+x-1)<Kr rk (arrOf st') (lo+x)
   ·rw[bg4 hl]
    exact bh4 (h x q st' b' hx (by omega) f)
   ·rw[bf7 hl]
    have ex:Kr rk (arrOf st') (lo+x)=Kr rk (arrOf st') (lo+x-1):=by omega
    refine bh4 ⟨q+1,rfl,b',λi j hi hij hj=>?_,by have:=f.le;omega,λi h1 h2=>?_,f.low⟩
    ·rcases bj0 j (lo+x) with z|z
     ·exact f.dn i j hi hij z
     ·have ej:j=lo+x:=by omega
      subst ej;rcases bv7 hij with z|z
      ·rw[z];exact bg3 _
      ·rw[ex];exact f.dn i (lo+x-1) hi (by omega) (by omega)
    ·rw[show lo+(x+1)-1=lo+x by omega]
     rcases bj0 i (lo+x) with z|z
     ·rw[ex];exact f.eq i (by omega) z
     ·rw[show i=lo+x by omega]
 ·rintro r st' ⟨q,rfl,b',f⟩
  have em:max n am=am:=by omega
  rw[em]at f ⊢;exact h am q st' b' hn (bg0 _) f
theorem N3 (c:cE prog w A E s κ Ok rk)(o:bL Ok a0)(b:SB κ a0 pd st){lo am:Nat}(n:Nat){xs:Array Keyed}{Q:Option Nat->SortSt->Prop}{K:DS->StateT SortSt Sem (Option Nat)}{k:CS->StateT SortSt Sem (Option Nat)}(hz:lo+am<=a0.size)(hn:n+1<=am)(hK:∀m q,K (none,m,q)=if q>0 then reverseSlice' (lo+m-(q+1)) (lo+m) >>= λ_=>reverseSlice' lo (lo+m) >>= λ_=>oQ lo m am >>= k else reverseSlice' lo (lo+m) >>= λ_=>oQ lo m am >>= k)(hk:∀m,k (none,m)=pure (some m))(u:oR rk xs (arrOf st) lo (n+1) 0)(h:∀m st',SB κ a0 pd st'->1<=m->m<=am->Up rk (arrOf st') lo (lo+m)->(∀i,i<lo->Kr rk (arrOf st') i=Kr rk xs i)->Q (some m) st'):wpS (model prog w) A E s (liftM (rule "list.sort.descending-run") >>= λ_=>wB lo (n+1) am >>= K) Q st:=by
 refine bg9 (wpS_lift (bw6 ⟨rfl,?_⟩));refine bg9 (aE8 c o b hz (by omega) hn u λm q st1 b1 m1 m2 f=>?_);have fin:∀st2:SortSt,SB κ a0 pd st2->(∀k,Kr rk (arrOf st2) k=Kr rk (arrOf st1) k)->
   wpS (model prog w) A E s (reverseSlice' lo (lo+m) >>= λ_=>oQ lo m am >>= k) Q st2:=λst2 b2 e=>by
  have sz:=b2.sz;have low:∀i,i<lo->Kr rk (mirror (arrOf st2) lo (lo+m) ((lo+m-lo)/2)) i=Kr rk xs i:=λi hi=>by
   rw[rT (by omega),if_neg (by omega),e];exact f.low i hi
  refine bg9 (rV (bg9 (N1 (κ:=κ) c o (b2.put (mirror_perm _ _ _ _)) hz (by omega) m2 ?_ λm' h1 h2 up _=>by rw[hk];exact bh4 (h m' _ (b2.put (mirror_perm _ _ _ _)) (by omega) h2 up low))))
  ·intro i j hi hij hj
   show Kr rk (mirror (arrOf st2) lo (lo+m) _) i<=Kr rk (mirror (arrOf st2) lo (lo+m) _) j;rw[rT (by omega),rT (by omega),if_pos (by omega),if_pos (by omega),e,e];exact f.dn _ _ (by omega) (by omega) (by omega)
 rw[hK];by_cases hp:q>0
 ·rw[if_pos hp]
  have sz:=b1.sz;exact bg9 (rV (fin _ (b1.put (mirror_perm _ _ _ _)) (wA (by omega) f.eq)))
 ·rw[if_neg hp]
  exact fin st1 b1 λ_=>rfl
theorem aE9 (c:cE prog w A E s κ Ok rk)(o:bL Ok a0)(b:SB κ a0 pd st){lo am:Nat}{Q:Option Nat->SortSt->Prop}(hz:lo+am<=a0.size)(h1:1<=am)(h:∀m st',SB κ a0 pd st'->1<=m->m<=am->Up rk (arrOf st') lo (lo+m)->(∀i,i<lo->Kr rk (arrOf st') i=Kr rk (arrOf st) i)->Q (some m) st'):wpS (model prog w) A E s (countRun' lo am) Q st:=by
 rw[countRun'_eq];refine bg9 (N1 (n:=1) c o b hz (bg0 _) h1 (λi j hi hij hj=>by rw[show i=j by omega];exact bg3 _) λn n1 n2 un on=>?_);dsimp only;by_cases en:(n==am)=true
 ·rw[if_pos en]
  exact bh4 (h n st b n1 n2 un λ_ _=>rfl)
 ·rw[if_neg en]
  have en':n≠am:=by simpa using en
  have lt:=on.resolve_left en';have sz:=b.sz;by_cases g:n>1
  ·rw[if_pos g]
   refine bg9 (oP c o b (by omega) (by omega) ?_);by_cases hq:Kr rk (arrOf st) lo<Kr rk (arrOf st) (lo+n-1)
   ·rw[bg4 hq]
    exact bh4 (h n st b n1 n2 un λ_ _=>rfl)
   ·rw[bf7 hq]
    dsimp only;rw[if_neg bi1];have all:∀k,lo<=k->k<lo+n->Kr rk (arrOf st) k=Kr rk (arrOf st) (lo+n-1):=λk k1 k2=>by
     have a1:=un lo k (bg0 _) k1 k2;have a2:=un k (lo+n-1) k1 (by omega) (by omega);omega
    have sm:=wA (rk:=rk) (xs:=arrOf st) (i:=lo) (j:=lo+n) (by omega) all;refine bg9 (rV (N3 (xs:=arrOf st) (κ:=κ) c o (b.put (mirror_perm _ _ _ _)) n hz (by omega) (λ_ _=>rfl) (λ_=>rfl) ⟨λi j hi hij hj=>?_,by omega,λi h1 h2=>by rw[show i=lo+(n+1)-1 by omega],λi _=>sm i⟩ h));show Kr rk (mirror (arrOf st) lo (lo+n) _) j<=Kr rk (mirror (arrOf st) lo (lo+n) _) i;rw[sm,sm];rcases bj0 j (lo+n) with z|z
    ·rw[all i hi (by omega),all j (by omega) z];exact bg3 _
    ·have ej:j=lo+n:=by omega
     subst ej;rcases bv7 hij with z|z
     ·rw[z];exact bg3 _
     ·rw[all i hi (by omega)];exact Int.le_of_lt lt
  ·rw[if_neg g]
   have e1:n=1:=by omega
   subst e1;refine N3 (xs:=arrOf st) c o b 1 hz (by omega) (λ_ _=>rfl) (λ_=>rfl) ⟨λi j hi hij hj=>?_,by omega,λi h1 h2=>by rw[show i=lo+(1+1)-1 by omega],λi _=>rfl⟩ h;rcases bv7 hij with z|z
   ·rw[z];exact bg3 _
   ·have ei:i=lo+1-1:=by omega
    have ej:j=lo+1:=by omega
    rw[ei,ej];exact Int.le_of_lt lt
theorem aF0 (c:cE prog w A E s κ Ok rk)(o:bL Ok a0)(b:SB κ a0 pd st){lo n q:Nat}{Q:Bool->SortSt->Prop}(hz:lo+n<=a0.size)(hq:q<=n)(u:Up rk (arrOf st) lo (lo+q))(h:∀st',SB κ a0 pd st'->Up rk (arrOf st') lo (lo+n)->(∀i,i<lo->Kr rk (arrOf st') i=Kr rk (arrOf st) i)->Q true st'):wpS (model prog w) A E s (binarySort' lo n q) Q st:=by
 rw[binarySort'_eq]
 refine bg9 (bw1 (bo7 (I:=λk r st'=>r=(none,())/\SB κ a0 pd st'/\Up rk (arrOf st') lo (lo+min k n)/\∀i,i<lo->Kr rk (arrOf st') i=Kr rk (arrOf st) i)
  (Q:=λr st'=>r=(none,())/\SB κ a0 pd st'/\Up rk (arrOf st') lo (lo+n)/\∀i,i<lo->Kr rk (arrOf st') i=Kr rk (arrOf st) i) ?_ ?_ ?_) ?_)
 ·rintro k r st1 hk hkn ⟨rfl,b1,u1,l1⟩
  rw[show min k n=k by omega]at u1;have hk0:lo+k<a0.size:=by omega
  have sz:=b1.sz
  refine bg9 (bw1 (bo7 (I:=λx r st'=>st'=st1/\∃l g,r=(none,l,g)/\l<=g/\g<=k/\g-l<=k-x/\(∀i,i<l->Kr rk (arrOf st1) (lo+i)<=Kr rk (arrOf st1) (lo+k))/\∀i,g<=i->i<k->Kr rk (arrOf st1) (lo+k)<Kr rk (arrOf st1) (lo+i))
   (Q:=λr st'=>st'=st1/\∃l g,r=(none,l,g)/\l<=k/\(∀i,i<l->Kr rk (arrOf st1) (lo+i)<=Kr rk (arrOf st1) (lo+k))/\∀i,l<=i->i<k->Kr rk (arrOf st1) (lo+k)<Kr rk (arrOf st1) (lo+i)) ?_ ?_ ?_) ?_)
  ·rintro x r st2 _ hx ⟨rfl,l,g,rfl,d1,d2,d3,f1,f2⟩
   dsimp only;by_cases hlg:l >= g
   ·rw[if_pos hlg]
    have e:g=l:=by omega
    subst e;exact bh4 ⟨rfl,g,g,rfl,d2,f1,f2⟩
   ·rw[if_neg hlg]
    refine bg9 (oP c o b1 hk0 (by omega) ?_);by_cases hc:Kr rk (arrOf st2) (lo+k)<Kr rk (arrOf st2) (lo+(l+g)/2)
    ·rw[bg4 hc]
     refine bh4 ⟨rfl,l,(l+g)/2,rfl,by omega,by omega,by omega,f1,λi i1 i2=>?_⟩
     have:=u1 (lo+(l+g)/2) (lo+i) (by omega) (by omega) (by omega)
     omega
    ·rw[bf7 hc]
     refine bh4 ⟨rfl,(l+g)/2+1,g,rfl,by omega,d2,by omega,λi i1=>?_,f2⟩
     have:=u1 (lo+i) (lo+(l+g)/2) (by omega) (by omega) (by omega)
     omega
  ·rintro r st2 ⟨rfl,l,g,rfl,d1,d2,d3,f1,f2⟩
   have e:g=l:=by omega
   subst e
   exact⟨rfl,g,g,rfl,d2,f1,f2⟩
  ·exact⟨rfl,0,k,rfl,by omega,by omega,by omega,λi hi=>absurd hi (by omega),λi i1 i2=>absurd i1 (by omega)⟩
  ·rintro r st2 ⟨rfl,l,g,rfl,d,f1,f2⟩
   dsimp only;rw[moveDown'_eq];have kb:∀i,Kr rk (bubble (arrOf st2) (lo+k) (lo+k-(lo+l))) i=Kr rk (arrOf st2) (if i=lo+l then lo+k else if lo+l<i/\i<=lo+k then i-1 else i):=λi=>by
    rw[aE7 (by omega) (by omega),show lo+k-(lo+k-(lo+l))=lo+l by omega]
   refine bg9 (wpS_modify (bh4 ⟨rfl,b1.put (bubble_perm _ _ _),λi j hi hij hj=>?_,λi hi=>?_⟩))
   ·show Kr rk (bubble (arrOf st2) (lo+k) (lo+k-(lo+l))) i<=Kr rk (bubble (arrOf st2) (lo+k) (lo+k-(lo+l))) j
    rw[kb,kb];rw[show min (k+1) n=k+1 by omega]at hj;have v1:∀p,lo<=p->p<lo+l->Kr rk (arrOf st2) p<=Kr rk (arrOf st2) (lo+k):=λp p1 p2=>by have:=f1 (p-lo) (by omega);rwa [show lo+(p-lo)=p by omega]at this
    have v2:∀p,lo+l<=p->p<lo+k->Kr rk (arrOf st2) (lo+k)<Kr rk (arrOf st2) p:=λp p1 p2=>by have:=f2 (p-lo) (by omega) (by omega);rwa [show lo+(p-lo)=p by omega]at this
    repeat' split
    all_goals first
     |(exfalso;omega)
     |exact bg3 _
     |exact v1 _ (by omega) (by omega)
     |exact Int.le_of_lt (v2 _ (by omega) (by omega))
     |exact u1 _ _ (by omega) (by omega) (by omega)
   ·show Kr rk (bubble (arrOf st2) (lo+k) (lo+k-(lo+l))) i=_
    rw[kb,if_neg (by omega),if_neg (by omega)];exact l1 i hi
 ·rintro r st1 ⟨rfl,b1,u1,l1⟩
  rw[show min (max (max q 1) n) n=n by omega]at u1
  exact⟨rfl,b1,u1,l1⟩
 ·refine⟨rfl,b,λi j hi hij hj=>?_,λ_ _=>rfl⟩
  rcases bj0 j (lo+q) with z|z
  ·exact u i j hi hij z
  ·rw[show i=j by omega];exact bg3 _
 ·rintro r st1 ⟨rfl,b1,u1,l1⟩
  exact bh4 (h st1 b1 u1 l1)
end
def k7:Bool->Keyed->Array Keyed->Nat->Nat->Nat->StateT SortSt Sem (Option Nat):=sortPriv% PySem.Builtin.gallop
def l9 (lf:Bool)(key:Keyed)(xs:Array Keyed)(bs i:Nat):StateT SortSt Sem (Option Bool):=do
 let z <- elem' xs (bs+i)
 if lf then lt' z key else return (<- lt' key z).map (!·)
theorem aF1 (lf:Bool)(key:Keyed)(xs:Array Keyed)(bs n h:Nat):k7 lf key xs bs n h=(do
 let mut la:=0
 let mut of:=1
 let mut l:=0
 let mut g:=0
 let some rt <- l9 lf key xs bs h|return none
 if rt then
  let mx:=n-h
  for _ in [0:n] do
   if of >= mx then break
   let some mr <- l9 lf key xs bs (h+of)|return none
   if !mr then break
   la:=of
   of:=2*of+1
  l:=h+la+1
  g:=h+min of mx
 else
  let mx:=h+1
  for _ in [0:n] do
   if of >= mx then break
   let some fd <- l9 lf key xs bs (h-of)|return none
   if fd then break
   la:=of
   of:=2*of+1
  l:=h+1-min of mx
  g:=h-la
 for _ in [0:n] do
  if l >= g then break
  let m:=l+(g-l)/2
  let some mr <- l9 lf key xs bs m|return none
  if mr then l:=m+1 else g:=m
 return some g):=rfl
section
variable {rk:Keyed→Int}{κ:SortKind}{st:SortSt}{prog:az}{w:bc}{A:ba}{E:av→ax→Prop}{s:ax}{Ok:Keyed→Prop}
def bU (rk:Keyed->Int)(lf:Bool)(key:Keyed)(xs:Array Keyed)(bs i:Nat):Bool:=if lf then decide (Kr rk xs (bs+i)<rk key) else decide (Kr rk xs (bs+i)<=rk key)
theorem rW (c:cE prog w A E s κ Ok rk)(hk:kindOf st=κ){lf:Bool}{key:Keyed}{xs:Array Keyed}{bs i:Nat}{Q:Option Bool->SortSt->Prop}(ok:Ok key)(o:bL Ok xs)(hi:bs+i<xs.size)(h:Q (some (bU rk lf key xs bs i)) st):wpS (model prog w) A E s (l9 lf key xs bs i) Q st:=by
 unfold l9;refine bg9 (dA hi ?_);unfold bU at h;rw[bZ hi]at h;cases lf with
 |true=>
  simp only[if_true]at h ⊢;exact c _ _ (o _ (bm2 hi)) ok st Q hk h
 |false=>
  simp only[bh2,bl6]at h ⊢;refine bg9 (c _ _ ok (o _ (bm2 hi)) st _ hk (bh4 ?_));have e:(!decide (rk key<rk xs[bs+i]))=decide (rk xs[bs+i]<=rk key):=by
   by_cases z:rk xs[bs+i]<=rk key
   ·rw[bg4 z,bf7 (by omega)];rfl
   ·rw[bf7 z,bg4 (by omega)];rfl
  show Q (some (!decide (rk key<rk xs[bs+i]))) st;rw[e];exact h
abbrev GS:=Option (Option Nat)×Nat×Nat
def N4 (lf:Bool)(key:Keyed)(xs:Array Keyed)(bs n l g:Nat):StateT SortSt Sem GS:=forIn [0:n] ((none,l,g):GS) λ_ r=>
 if r.2.1 >= r.2.2 then pure (ForInStep.done (none,r.2.1,r.2.2)) else do
  match <- l9 lf key xs bs (r.2.1+(r.2.2-r.2.1)/2) with
  |some q=>if q=true then pure (ForInStep.yield (none,r.2.1+(r.2.2-r.2.1)/2+1,r.2.2)) else pure (ForInStep.yield (none,r.2.1,r.2.1+(r.2.2-r.2.1)/2))
  |_=>pure (ForInStep.done (some none,r.2.1,r.2.2))
theorem N5 (c:cE prog w A E s κ Ok rk)(hk:kindOf st=κ){lf:Bool}{key:Keyed}{xs:Array Keyed}{bs n l g:Nat}{Q:GS->SortSt->Prop}(ok:Ok key)(o:bL Ok xs)(hz:bs+n<=xs.size)(mono:∀i j,i<=j->j<n->bU rk lf key xs bs j=true->bU rk lf key xs bs i=true)(hlg:l<=g)(hg:g<=n)(h1:∀i,i<l->bU rk lf key xs bs i=true)(h2:∀i,g<=i->i<n->bU rk lf key xs bs i=false)(hq:∀k,k<=n->(∀i,i<k->bU rk lf key xs bs i=true)->(∀i,k<=i->i<n->bU rk lf key xs bs i=false)->Q (none,k,k) st):wpS (model prog w) A E s (N4 lf key xs bs n l g) Q st:=by
 unfold N4;refine bo7 (I:=λx r st'=>st'=st/\∃l g,r=(none,l,g)/\l<=g/\g<=n/\g-l<=n-x/\(∀i,i<l->bU rk lf key xs bs i=true)/\∀i,g<=i->i<n->bU rk lf key xs bs i=false) ?_ ?_ ⟨rfl,l,g,rfl,hlg,hg,by omega,h1,h2⟩
 ·rintro x r st' _ hx ⟨rfl,l,g,rfl,d1,d2,d3,f1,f2⟩
  dsimp only;by_cases hc:l >= g
  ·rw[if_pos hc]
   have e:g=l:=by omega
   subst e;exact bh4 (hq g d2 f1 f2)
  ·rw[if_neg hc]
   refine bg9 (rW c hk ok o (by omega) ?_);cases z:bU rk lf key xs bs (l+(g-l)/2) with
   |true=>exact bh4 ⟨rfl,_,_,rfl,by omega,d2,by omega,λi hi=>mono i (l+(g-l)/2) (by omega) (by omega) z,f2⟩
   |false=>
    refine bh4 ⟨rfl,_,_,rfl,by omega,by omega,by omega,f1,λi i1 i2=>?_⟩;cases y:bU rk lf key xs bs i with
    |false=>rfl
    |true=>rw[mono _ i i1 i2 y]at z;cases z
 ·rintro r st' ⟨rfl,l,g,rfl,d1,d2,d3,f1,f2⟩
  have e:g=l:=by omega
  subst e;exact hq g d2 f1 f2
theorem mS (c:cE prog w A E s κ Ok rk)(hk:kindOf st=κ){lf:Bool}{key:Keyed}{xs:Array Keyed}{bs n h:Nat}{Q:Option Nat->SortSt->Prop}(ok:Ok key)(o:bL Ok xs)(hh:h<n)(hz:bs+n<=xs.size)(u:Up rk xs bs (bs+n))(hq:∀k,k<=n->(∀i,i<k->bU rk lf key xs bs i=true)->(∀i,k<=i->i<n->bU rk lf key xs bs i=false)->Q (some k) st):wpS (model prog w) A E s (k7 lf key xs bs n h) Q st:=by
 have mono:∀i j,i<=j->j<n->bU rk lf key xs bs j=true->bU rk lf key xs bs i=true:=λi j hij hj e=>by
  have:=u (bs+i) (bs+j) (by omega) (by omega) (by omega)
  unfold bU at e ⊢;cases lf with
  |true=>simp only[if_true,bi5]at e ⊢;omega
  |false=>simp only[bh2,bl6,bi5]at e ⊢;omega
 have monf:∀i j,i<=j->j<n->bU rk lf key xs bs i=false->bU rk lf key xs bs j=false:=λi j hij hj e=>by
  cases z:bU rk lf key xs bs j with
  |false=>rfl
  |true=>rw[mono i j hij hj z]at e;cases e
 rw[aF1];refine bg9 (rW c hk ok o (by omega) ?_);dsimp only;cases z:bU rk lf key xs bs h with
 |true=>
  rw[if_pos rfl]
  refine bg9 (bw1 (bo7 (I:=λx r st'=>st'=st/\∃la of,r=(none,la,of)/\la<of/\x<of/\h+la<n/\bU rk lf key xs bs (h+la)=true)
   (Q:=λr st'=>st'=st/\∃la of,r=(none,la,of)/\la<of/\h+la<n/\bU rk lf key xs bs (h+la)=true/\(of<n-h->bU rk lf key xs bs (h+of)=false)) ?_ ?_ ⟨rfl,0,1,rfl,by omega,by omega,by omega,z⟩) ?_)
  ·rintro x r st' _ hx ⟨rfl,la,of,rfl,d1,d2,d3,f⟩
   dsimp only;by_cases hc:of >= n-h
   ·rw[if_pos hc]
    exact bh4 ⟨rfl,la,of,rfl,d1,d3,f,λy=>absurd y (by omega)⟩
   ·rw[if_neg hc]
    refine bg9 (rW c hk ok o (by omega) ?_);cases y:bU rk lf key xs bs (h+of) with
    |true=>exact bh4 ⟨rfl,of,2*of+1,rfl,by omega,by omega,by omega,y⟩
    |false=>exact bh4 ⟨rfl,la,of,rfl,d1,d3,f,λ_=>y⟩
  ·rintro r st' ⟨rfl,la,of,rfl,d1,d2,d3,f⟩
   exact⟨rfl,la,of,rfl,d1,d3,f,λy=>absurd y (by omega)⟩
  ·rintro r st' ⟨rfl,la,of,rfl,d1,d3,f,ft⟩
   dsimp only;refine bg9 (N5 (l:=h+la+1) (g:=h+min of (n-h)) c hk ok o hz mono (by omega) (by omega) (λi hi=>mono i (h+la) (by omega) d3 f) (λi i1 i2=>?_) λk k1 k2 k3=>bh4 (hq k k1 k2 k3));rcases bj0 of (n-h) with y|y
   ·exact monf (h+of) i (by omega) i2 (ft y)
   ·exact absurd i1 (by omega)
 |false=>
  rw[if_neg bi1]
  refine bg9 (bw1 (bo7 (I:=λx r st'=>st'=st/\∃la of,r=(none,la,of)/\la<of/\x<of/\la<=h/\bU rk lf key xs bs (h-la)=false)
   (Q:=λr st'=>st'=st/\∃la of,r=(none,la,of)/\la<of/\la<=h/\bU rk lf key xs bs (h-la)=false/\(of<h+1->bU rk lf key xs bs (h-of)=true)) ?_ ?_ ⟨rfl,0,1,rfl,by omega,by omega,by omega,z⟩) ?_)
  ·rintro x r st' _ hx ⟨rfl,la,of,rfl,d1,d2,d3,f⟩
   dsimp only;by_cases hc:of >= h+1
   ·rw[if_pos hc]
    exact bh4 ⟨rfl,la,of,rfl,d1,d3,f,λy=>absurd y (by omega)⟩
   ·rw[if_neg hc]
    refine bg9 (rW c hk ok o (by omega) ?_);cases y:bU rk lf key xs bs (h-of) with
    |false=>exact bh4 ⟨rfl,of,2*of+1,rfl,by omega,by omega,by omega,y⟩
    |true=>exact bh4 ⟨rfl,la,of,rfl,d1,d3,f,λ_=>y⟩
  ·rintro r st' ⟨rfl,la,of,rfl,d1,d2,d3,f⟩
   exact⟨rfl,la,of,rfl,d1,d3,f,λy=>absurd y (by omega)⟩
  ·rintro r st' ⟨rfl,la,of,rfl,d1,d3,f,ft⟩
   dsimp only;refine bg9 (N5 (l:=h+1-min of (h+1)) (g:=h-la) c hk ok o hz mono (by omega) (by omega) (λi hi=>?_) (λi i1 i2=>monf (h-la) i i1 i2 f) λk k1 k2 k3=>bh4 (hq k k1 k2 k3));rcases bj0 of (h+1) with y|y
   ·exact mono i (h-of) (by omega) (by omega) (ft y)
   ·exact absurd hi (by omega)
end
def mT:Nat->StateT SortSt Sem Unit:=sortPriv% PySem.Builtin.setMinGallop
def wC:Array Keyed->Array Keyed->StateT SortSt Sem (Array Keyed):=sortPriv% PySem.Builtin.mergeLo
theorem aF2 (g:Nat):mT g=modify (λst=>SortSt.mk' (kindOf st) (arrOf st) (pendingOf st) g (failedOf st)):=rfl
abbrev LS:=Option (Array Keyed)×Array Keyed×Nat×Nat×Nat×Nat×Nat
abbrev wD:=Option (Array Keyed)×Array Keyed×Nat×Nat×Nat×Nat
abbrev LO:=Option (Array Keyed)×Array Keyed×Nat×Nat×Nat
def rX (x y o:Array Keyed)(i j mg p q:Nat):StateT SortSt Sem (ForInStep LS):=do
 let v <- elem' x i
 if (i+1+1==x.size)=true then pure (.done (some (o.push v++y.extract j y.size++x.extract (i+1) x.size),o.push v,i+1,j,mg,p,q))
 else if (decide (p<7)&&decide (q<7))=true then pure (.done (none,o.push v,i+1,j,mg,p,q)) else pure (.yield (none,o.push v,i+1,j,mg,p,q))
def rY (x y o:Array Keyed)(i j mg p q:Nat):StateT SortSt Sem (ForInStep LS):=do
 let v <- elem' y j
 if (j+1==y.size)=true then pure (.done (some (o.push v++x.extract i x.size++y.extract (j+1) y.size),o.push v,i,j+1,mg,p,q)) else do
  let u <- elem' x i
  match <- k7 true u y (j+1) (y.size-(j+1)) 0 with
  |some k=>
   if k>0 then
    if (j+1+k==y.size)=true then pure (.done (some (o.push v++y.extract (j+1) (j+1+k)++x.extract i x.size++y.extract (j+1+k) y.size),o.push v++y.extract (j+1) (j+1+k),i,j+1+k,mg,p,k))
    else rX x y (o.push v++y.extract (j+1) (j+1+k)) i (j+1+k) mg p k
   else rX x y (o.push v) i (j+1) mg p k
  |_=>pure (.done (some (o.push v++x.extract i x.size++y.extract (j+1) y.size),o.push v,i,j+1,mg,p,q))
def rZ (x y o:Array Keyed)(i j mg p q:Nat):StateT SortSt Sem (ForInStep LS):=do
 mT mg
 let v <- elem' y j
 match <- k7 false v x i (x.size-i) 0 with
 |some k=>
  if k>0 then
   if (i+k+1==x.size)=true then pure (.done (some (o++x.extract i (i+k)++y.extract j y.size++x.extract (i+k) x.size),o++x.extract i (i+k),i+k,j,mg,k,q))
   else if (i+k==x.size)=true then pure (.done (some (o++x.extract i (i+k)++x.extract (i+k) x.size++y.extract j y.size),o++x.extract i (i+k),i+k,j,mg,k,q))
   else rY x y (o++x.extract i (i+k)) (i+k) j mg k q
  else rY x y o i j mg k q
 |_=>pure (.done (some (o++x.extract i x.size++y.extract j y.size),o,i,j,mg,p,q))
def wE (x y o:Array Keyed)(i j mg p q:Nat):StateT SortSt Sem LS:=forIn [0:x.size+y.size] ((none,o,i,j,mg,p,q):LS) λ_ r=>
 if r.2.2.2.2.1>1 then rZ x y r.2.1 r.2.2.1 r.2.2.2.1 (r.2.2.2.2.1-1) r.2.2.2.2.2.1 r.2.2.2.2.2.2 else rZ x y r.2.1 r.2.2.1 r.2.2.2.1 r.2.2.2.2.1 r.2.2.2.2.2.1 r.2.2.2.2.2.2
def wF (x y o:Array Keyed)(i j mg:Nat):StateT SortSt Sem wD:=forIn [0:x.size+y.size] ((none,o,i,j,0,0):wD) λ_ r=>do
 let v <- elem' y r.2.2.2.1
 let u <- elem' x r.2.2.1
 match <- lt' v u with
 |some q=>
  if q=true then do
   let v <- elem' y r.2.2.2.1
   if (r.2.2.2.1+1==y.size)=true then pure (.done (some (r.2.1.push v++x.extract r.2.2.1 x.size++y.extract (r.2.2.2.1+1) y.size),r.2.1.push v,r.2.2.1,r.2.2.2.1+1,0,r.2.2.2.2.2+1))
   else if r.2.2.2.2.2+1 >= mg then pure (.done (none,r.2.1.push v,r.2.2.1,r.2.2.2.1+1,0,r.2.2.2.2.2+1)) else pure (.yield (none,r.2.1.push v,r.2.2.1,r.2.2.2.1+1,0,r.2.2.2.2.2+1))
  else do
   let u <- elem' x r.2.2.1
   if (r.2.2.1+1+1==x.size)=true then pure (.done (some (r.2.1.push u++y.extract r.2.2.2.1 y.size++x.extract (r.2.2.1+1) x.size),r.2.1.push u,r.2.2.1+1,r.2.2.2.1,r.2.2.2.2.1+1,0))
   else if r.2.2.2.2.1+1 >= mg then pure (.done (none,r.2.1.push u,r.2.2.1+1,r.2.2.2.1,r.2.2.2.2.1+1,0)) else pure (.yield (none,r.2.1.push u,r.2.2.1+1,r.2.2.2.1,r.2.2.2.2.1+1,0))
 |_=>pure (.done (some (r.2.1++x.extract r.2.2.1 x.size++y.extract r.2.2.2.1 y.size),r.2.1,r.2.2.1,r.2.2.2.1,r.2.2.2.2.1,r.2.2.2.2.2))
def N6 (x y o:Array Keyed)(i j mg:Nat):StateT SortSt Sem LO:=forIn [0:x.size+y.size] ((none,o,i,j,mg):LO) λ_ r=>do
 let u <- wF x y r.2.1 r.2.2.1 r.2.2.2.1 r.2.2.2.2
 match u.1 with
 |some z=>pure (.done (some z,u.2.1,u.2.2.1,u.2.2.2.1,r.2.2.2.2))
 |none=>do
  liftM (rule "list.sort.gallop")
  let v <- wE x y u.2.1 u.2.2.1 u.2.2.2.1 (r.2.2.2.2+1) u.2.2.2.2.1 u.2.2.2.2.2
  match v.1 with
  |some z=>pure (.done (some z,v.2.1,v.2.2.1,v.2.2.2.1,v.2.2.2.2.1))
  |none=>do
   mT (v.2.2.2.2.1+1)
   pure (.yield (none,v.2.1,v.2.2.1,v.2.2.2.1,v.2.2.2.2.1+1))
theorem aF3 (x y:Array Keyed):wC x y=(do
 liftM (rule "list.sort.merge-lo")
 let v <- elem' y 0
 if (1==y.size)=true then pure (#[v]++x.extract 0 x.size++y.extract 1 y.size)
 else if (0+1==x.size)=true then pure (#[v]++y.extract 1 y.size++x.extract 0 x.size)
 else do
  let z <- get
  let r <- N6 x y #[v] 0 1 (gallopOf z)
  match r.1 with
  |some z=>pure z
  |none=>unsupported "internal:list.sort.merge-bound"):=by kernel_rfl
section
variable (rk:Keyed→Int)
def Sd (l:List Keyed):Prop:=l.Pairwise λa b=>rk a<=rk b
structure MI (xs ys o:List Keyed)(i j:Nat):Prop where
 pm:o.Perm (xs.take i++ys.take j)
 sx:Sd rk (o++xs.drop i)
 sy:Sd rk (o++ys.drop j)
end
variable {rk:Keyed→Int}{xs ys o:List Keyed}{i j:Nat}
theorem Sd.ins {o a b d:List Keyed}(h1:Sd rk (o++a))(h2:Sd rk (o++(b++d)))(h:∀u∈b,∀t∈a,rk u<=rk t):Sd rk ((o++b)++a):=by
 unfold Sd at *;rw[bh6]
 obtain⟨p1,p2,p3⟩:=bm6.mp h1
 obtain⟨q1,q2,q3⟩:=bm6.mp h2
 obtain⟨r1,r2,r3⟩:=bm6.mp q2
 refine bm6.mpr ⟨p1,bm6.mpr ⟨r1,p2,h⟩,λu hu t ht=>?_⟩;rcases bj1.mp ht with z|z
 ·exact q3 u hu t (bk0 _ z)
 ·exact p3 u hu t z
theorem MI.ofy (m:MI rk xs ys o i j)(k:Nat)(h:∀u∈(ys.drop j).take k,∀t∈xs.drop i,rk u<=rk t):MI rk xs ys (o++(ys.drop j).take k) i (j+k):=by
 have e:(ys.drop j).take k++ys.drop (j+k)=ys.drop j:=by rw[<- List.drop_drop];exact bk3 k _
 refine⟨?_,Sd.ins m.sx (d:=ys.drop (j+k)) (by rw[e];exact m.sy) h,by rw[bh6,e];exact m.sy⟩;rw[List.take_add,<- bh6];exact m.pm.append_right _
theorem MI.ofx (m:MI rk xs ys o i j)(k:Nat)(h:∀u∈(xs.drop i).take k,∀t∈ys.drop j,rk u<=rk t):MI rk xs ys (o++(xs.drop i).take k) (i+k) j:=by
 have e:(xs.drop i).take k++xs.drop (i+k)=xs.drop i:=by rw[<- List.drop_drop];exact bk3 k _
 refine⟨?_,by rw[bh6,e];exact m.sx,Sd.ins m.sy (d:=xs.drop (i+k)) (by rw[e];exact m.sx) h⟩;rw[List.take_add];refine (m.pm.append_right _).trans ?_;rw[bh6,bh6];exact (bt0).append_left _
theorem MI.fin (m:MI rk xs ys o i j)(h:xs.length<=i∨ys.length<=j):(o++xs.drop i++ys.drop j).Perm (xs++ys)/\Sd rk (o++xs.drop i++ys.drop j):=by
 refine⟨?_,?_⟩
 ·rw[bh6]
  refine (m.pm.append_right _).trans ?_;have e1:xs=xs.take i++xs.drop i:=(bk3 i xs).symm;have e2:ys=ys.take j++ys.drop j:=(bk3 j ys).symm
  conv=>rhs;rw[e1,e2]
  rw[bh6,bh6];refine List.Perm.append_left _ ?_;rw[<- bh6,<- bh6];exact (bt0).append_right _
 ·rcases h with h|h
  ·rw[List.drop_eq_nil_of_le h,bj9];exact m.sy
  ·rw[List.drop_eq_nil_of_le h,bj9];exact m.sx
theorem MI.lst (m:MI rk xs ys o i j)(h:∀u∈ys,∀t∈xs.drop i,rk u<=rk t):(o++ys.drop j++xs.drop i).Perm (xs++ys)/\Sd rk (o++ys.drop j++xs.drop i):=by
 have m2:=m.ofy ys.length λu hu t ht=>h u (List.mem_of_mem_drop (bw2 hu)) t ht
 have e:(ys.drop j).take ys.length=ys.drop j:=bo8 (by simp);rw[e]at m2;have f:=m2.fin (.inr (by omega));rw[List.drop_eq_nil_of_le (as:=ys) (i:=j+ys.length) (by omega),bj9]at f;exact f
theorem N7 {x:Array Keyed}{i k:Nat}{u:Keyed}(h:u∈(x.toList.drop i).take k):∃t,t<k/\i+t<x.size/\rk u=Kr rk x (i+t):=by
 obtain⟨t,ht,e⟩:=bm0 h
 have h1:t<k/\i+t<x.size:=by simp at ht;omega
 refine⟨t,h1.1,h1.2,?_⟩;rw[bZ h1.2,<- e];simp
theorem oS {x:Array Keyed}{i:Nat}{u:Keyed}(h:u∈x.toList.drop i):∃t,i+t<x.size/\rk u=Kr rk x (i+t):=by
 obtain⟨t,ht,e⟩:=bm0 h
 have h1:i+t<x.size:=by simp at ht;omega
 refine⟨t,h1,?_⟩;rw[bZ h1,<- e];simp
theorem Sd.up {x:Array Keyed}(h:Sd rk x.toList)(lo hi:Nat)(hh:hi<=x.size):Up rk x lo hi:=λi j _ hij hj=>by
 rw[bZ (by omega:i<x.size),bZ (by omega:j<x.size)];rcases bv7 hij with z|z
 ·subst z;exact bg3 _
 ·have:=bk8.mp h i j (by simp;omega) (by simp;omega) z
  simpa using this
theorem N8 (x:Array Keyed)(i k:Nat):(x.extract i (i+k)).toList=(x.toList.drop i).take k:=by
 simp[List.extract]
theorem sA (x:Array Keyed)(i:Nat):(x.extract i x.size).toList=x.toList.drop i:=by
 simp[List.extract];exact bo8 (by simp)
theorem lA {x:Array Keyed}{i:Nat}(h:i<x.size):[x[i]]=(x.toList.drop i).take 1:=by
 rw[List.drop_eq_getElem_cons (by simpa using h)];simp
structure Gq (st st':SortSt):Prop where
 kd:kindOf st'=kindOf st
 ar:arrOf st'=arrOf st
 pd:pendingOf st'=pendingOf st
 ok:failedOf st'=failedOf st
theorem Gq.refl (st:SortSt):Gq st st:=⟨rfl,rfl,rfl,rfl⟩
section
variable {κ:SortKind}{st:SortSt}{prog:az}{w:bc}{A:ba}{E:av→ax→Prop}{s:ax}{Ok:Keyed→Prop}
theorem sB {st0:SortSt}{g:Nat}{Q:Unit->SortSt->Prop}(q:Gq st0 st)(h:∀st',Gq st0 st'->Q () st'):wpS (model prog w) A E s (mT g) Q st:=by
 rw[aF2];exact wpS_modify (h _ ⟨q.kd,q.ar,q.pd,q.ok⟩)
def dY (rk:Keyed->Int)(x y r:Array Keyed):Prop:=r.toList.Perm (x.toList++y.toList)/\Sd rk r.toList
theorem MI.y1 {x y o:Array Keyed}(m:MI rk x.toList y.toList o.toList i j)(hj:j<y.size)(h:∀t,i+t<x.size->rk y[j]<=Kr rk x (i+t)):MI rk x.toList y.toList (o.push y[j]).toList i (j+1):=by
 have:=m.ofy 1 λu hu t ht=>?_
 ·rw[<- lA hj]at this;simpa using this
 ·rw[<- lA hj,bg2]at hu
  subst hu
  obtain⟨q,q1,q2⟩:=oS (rk:=rk) ht
  rw[q2];exact h q q1
theorem MI.x1 {x y o:Array Keyed}(m:MI rk x.toList y.toList o.toList i j)(hi:i<x.size)(h:∀t,j+t<y.size->rk x[i]<=Kr rk y (j+t)):MI rk x.toList y.toList (o.push x[i]).toList (i+1) j:=by
 have:=m.ofx 1 λu hu t ht=>?_
 ·rw[<- lA hi]at this;simpa using this
 ·rw[<- lA hi,bg2]at hu
  subst hu
  obtain⟨q,q1,q2⟩:=oS (rk:=rk) ht
  rw[q2];exact h q q1
theorem MI.yk {x y o:Array Keyed}(m:MI rk x.toList y.toList o.toList i j)(k:Nat)(h:∀p t,p<k->j+p<y.size->i+t<x.size->Kr rk y (j+p)<=Kr rk x (i+t)):MI rk x.toList y.toList (o++y.extract j (j+k)).toList i (j+k):=by
 have:=m.ofy k λu hu t ht=>?_
 ·rw[<- N8]at this;rw[bn9];exact this
 ·obtain⟨p,p1,p2,p3⟩:=N7 (rk:=rk) hu
  obtain⟨q,q1,q2⟩:=oS (rk:=rk) ht
  rw[q2,p3];exact h p q p1 p2 q1
theorem MI.xk {x y o:Array Keyed}(m:MI rk x.toList y.toList o.toList i j)(k:Nat)(h:∀p t,p<k->i+p<x.size->j+t<y.size->Kr rk x (i+p)<=Kr rk y (j+t)):MI rk x.toList y.toList (o++x.extract i (i+k)).toList (i+k) j:=by
 have:=m.ofx k λu hu t ht=>?_
 ·rw[<- N8]at this;rw[bn9];exact this
 ·obtain⟨p,p1,p2,p3⟩:=N7 (rk:=rk) hu
  obtain⟨q,q1,q2⟩:=oS (rk:=rk) ht
  rw[q2,p3];exact h p q p1 p2 q1
theorem mU {key:Keyed}{xs:Array Keyed}{bs i:Nat}:bU rk false key xs bs i=decide (Kr rk xs (bs+i)<=rk key):=rfl
theorem mV {key:Keyed}{xs:Array Keyed}{bs i:Nat}:bU rk true key xs bs i=decide (Kr rk xs (bs+i)<rk key):=rfl
def GI (rk:Keyed->Int)(x y:Array Keyed)(lb:Nat)(st:SortSt)(c:LS)(st':SortSt):Prop:=Gq st st'/\∃o i j mg p q,c=(none,o,i,j,mg,p,q)/\MI rk x.toList y.toList o.toList i j/\i+1<x.size/\j<y.size/\lb<=i+j
def GQ (rk:Keyed->Int)(x y:Array Keyed)(lb:Nat)(st:SortSt)(c:LS)(st':SortSt):Prop:=Gq st st'/\((∃r o i j mg p q,c=(some r,o,i,j,mg,p,q)/\dY rk x y r)∨∃o i j mg p q,c=(none,o,i,j,mg,p,q)/\MI rk x.toList y.toList o.toList i j/\i+1<x.size/\j<y.size/\lb<=i+j)
def GR (rk:Keyed->Int)(x y:Array Keyed)(lb:Nat)(st:SortSt)(r:ForInStep LS)(st':SortSt):Prop:=match r with|.done c=>GQ rk x y lb st c st'|.yield c=>GI rk x y lb st c st'
theorem MI.done {x y o:Array Keyed}(m:MI rk x.toList y.toList o.toList i j)(hh:x.size<=i∨y.size<=j):dY rk x y (o++x.extract i x.size++y.extract j y.size):=by
 unfold dY;rw[bn9,bn9,sA,sA];exact m.fin (by simpa using hh)
theorem MI.last {x y o:Array Keyed}(m:MI rk x.toList y.toList o.toList i j)(x0:0<x.size)(hl:∀u∈y.toList,rk u<=rk x[x.size-1])(hh:i+1=x.size):dY rk x y (o++y.extract j y.size++x.extract i x.size):=by
 unfold dY;rw[bn9,bn9,sA,sA];refine m.lst λu hu t ht=>?_
 obtain⟨q,q1,q2⟩:=oS (rk:=rk) ht
 have e:i+q=x.size-1:=by omega
 rw[q2,e,bZ (by omega)];exact hl u hu
theorem N9 {st0:SortSt}{x y o:Array Keyed}{mg p q lb:Nat}(x0:0<x.size)(hl:∀u∈y.toList,rk u<=rk x[x.size-1])(g:Gq st0 st)(m:MI rk x.toList y.toList o.toList i j)(hi:i+1<x.size)(hj:j<y.size)(hb:lb<=i+j)(hm:∀t,j+t<y.size->rk x[i]<=Kr rk y (j+t)):wpS (model prog w) A E s (rX x y o i j mg p q) (GR rk x y lb st0) st:=by
 unfold rX;have hi':i<x.size:=by omega
 have m':=m.x1 hi' hm;refine bg9 (dA hi' ?_);by_cases he:(i+1+1==x.size)=true
 ·rw[if_pos he]
  have he:i+1+1=x.size:=by simpa using he
  exact bh4 ⟨g,.inl ⟨_,_,_,_,_,_,_,rfl,m'.last x0 hl he⟩⟩
 ·rw[if_neg he]
  have he:i+1+1≠x.size:=by simpa using he
  split
  ·exact bh4 ⟨g,.inr ⟨_,_,_,_,_,_,rfl,m',by omega,hj,by omega⟩⟩
  ·exact bh4 ⟨g,_,_,_,_,_,_,rfl,m',by omega,hj,by omega⟩
theorem O0 (c:cE prog w A E s κ Ok rk){st0:SortSt}(hk:kindOf st0=κ){x y o:Array Keyed}{mg p q lb:Nat}(ox:bL Ok x)(oy:bL Ok y)(sx:Sd rk x.toList)(sy:Sd rk y.toList)(x0:0<x.size)(hl:∀u∈y.toList,rk u<=rk x[x.size-1])(g:Gq st0 st)(m:MI rk x.toList y.toList o.toList i j)(hi:i+1<x.size)(hj:j<y.size)(hb:lb<=i+j)(hm:∀t,i+t<x.size->rk y[j]<=Kr rk x (i+t)):wpS (model prog w) A E s (rY x y o i j mg p q) (GR rk x y lb st0) st:=by
 unfold rY;have hi':i<x.size:=by omega
 have m':=m.y1 hj hm;refine bg9 (dA hj ?_);by_cases he:(j+1==y.size)=true
 ·rw[if_pos he]
  have he:j+1=y.size:=by simpa using he
  exact bh4 ⟨g,.inl ⟨_,_,_,_,_,_,_,rfl,m'.done (.inr (by omega))⟩⟩
 ·rw[if_neg he]
  have he:j+1≠y.size:=by simpa using he
  refine bg9 (dA hi' (bg9 (mS c (g.kd.trans hk) (ox _ (bm2 hi')) oy (by omega) (by omega) (sy.up _ _ (by omega)) λk k1 k2 k3=>?_)));dsimp only;have ux:=sx.up 0 _ (bg0 x.size);have mk:=m'.yk k λp t hp _ ht=>by
   have a1:=k2 p hp;rw[mV,bi5]at a1;have a2:=ux i (i+t) (by omega) (by omega) ht;rw[bZ hi']at a2;omega
  have km:∀t,j+1+k+t<y.size->rk x[i]<=Kr rk y (j+1+k+t):=λt ht=>by
   have a1:=k3 (k+t) (by omega) (by omega);rw[mV,bp5,<- Nat.add_assoc]at a1;omega
  by_cases hk0:k>0
  ·rw[if_pos hk0]
   by_cases hf:(j+1+k==y.size)=true
   ·rw[if_pos hf]
    have hf:j+1+k=y.size:=by simpa using hf
    exact bh4 ⟨g,.inl ⟨_,_,_,_,_,_,_,rfl,mk.done (.inr (by omega))⟩⟩
   ·rw[if_neg hf]
    have hf:j+1+k≠y.size:=by simpa using hf
    exact N9 x0 hl g mk hi (by omega) (by omega) km
  ·rw[if_neg hk0]
   have e0:k=0:=by omega
   subst e0;exact N9 x0 hl g m' hi (by omega) (by omega) km
theorem O1 (c:cE prog w A E s κ Ok rk){st0:SortSt}(hk:kindOf st0=κ){x y o:Array Keyed}{mg p q lb:Nat}(ox:bL Ok x)(oy:bL Ok y)(sx:Sd rk x.toList)(sy:Sd rk y.toList)(x0:0<x.size)(hl:∀u∈y.toList,rk u<=rk x[x.size-1])(g:Gq st0 st)(m:MI rk x.toList y.toList o.toList i j)(hi:i+1<x.size)(hj:j<y.size)(hb:lb<=i+j) :
  wpS (model prog w) A E s (rZ x y o i j mg p q) (GR rk x y lb st0) st:=by
 unfold rZ;refine bg9 (sB g λst4 q4=>bg9 (dA hj (bg9 (mS c (q4.kd.trans hk) (oy _ (bm2 hj)) ox (by omega) (by omega) (sx.up _ _ (by omega)) λk k1 k2 k3=>?_))));dsimp only;have uy:=sy.up 0 _ (bg0 y.size);have mk:=m.xk k λp t hp _ ht=>by
  have a1:=k2 p hp;rw[mU,bi5]at a1;have a2:=uy j (j+t) (by omega) (by omega) ht;rw[bZ hj]at a2;omega
 have km:∀t,i+k+t<x.size->rk y[j]<=Kr rk x (i+k+t):=λt ht=>by
  have a1:=k3 (k+t) (by omega) (by omega);rw[mU,bp5,<- Nat.add_assoc]at a1;omega
 by_cases hk0:k>0
 ·rw[if_pos hk0]
  by_cases he:(i+k+1==x.size)=true
  ·rw[if_pos he]
   exact bh4 ⟨q4,.inl ⟨_,_,_,_,_,_,_,rfl,mk.last x0 hl (by simpa using he)⟩⟩
  ·rw[if_neg he]
   have he:i+k+1≠x.size:=by simpa using he
   by_cases hf:(i+k==x.size)=true
   ·rw[if_pos hf]
    have hf:i+k=x.size:=by simpa using hf
    exact bh4 ⟨q4,.inl ⟨_,_,_,_,_,_,_,rfl,mk.done (.inl (by omega))⟩⟩
   ·rw[if_neg hf]
    have hf:i+k≠x.size:=by simpa using hf
    exact O0 c hk ox oy sx sy x0 hl q4 mk (by omega) hj (by omega) km
 ·rw[if_neg hk0]
  have e0:k=0:=by omega
  subst e0;exact O0 c hk ox oy sx sy x0 hl q4 m hi hj hb km
theorem aF4 (c:cE prog w A E s κ Ok rk){st0:SortSt}(hk:kindOf st0=κ){x y o:Array Keyed}{mg p q lb:Nat}(ox:bL Ok x)(oy:bL Ok y)(sx:Sd rk x.toList)(sy:Sd rk y.toList)(x0:0<x.size)(hl:∀u∈y.toList,rk u<=rk x[x.size-1])(g:Gq st0 st)(m:MI rk x.toList y.toList o.toList i j)(hi:i+1<x.size)(hj:j<y.size)(hb:lb<=i+j) :
  wpS (model prog w) A E s (wE x y o i j mg p q) (GQ rk x y lb st0) st:=by
 unfold wE;refine bo7 (I:=λ_=>GI rk x y lb st0) ?_ ?_ ⟨g,o,i,j,_,p,q,rfl,m,hi,hj,hb⟩
 ·rintro t c3 st3 _ _ ⟨q3,o,i,j,mg,p,q,rfl,m,hi,hj,pr3⟩
  dsimp only;split
  ·exact bw1 (O1 c hk ox oy sx sy x0 hl q3 m hi hj pr3) λr _ hr=>by cases r<;>exact hr
  ·exact bw1 (O1 c hk ox oy sx sy x0 hl q3 m hi hj pr3) λr _ hr=>by cases r<;>exact hr
 ·rintro c3 st3 ⟨q3,o,i,j,mg,p,q,rfl,m,hi,hj,pr3⟩
  exact⟨q3,.inr ⟨_,_,_,_,_,_,rfl,m,hi,hj,pr3⟩⟩
theorem aF5 (c:cE prog w A E s κ Ok rk){st0:SortSt}(hk:kindOf st0=κ){x y o:Array Keyed}{mg:Nat}{Q:wD->SortSt->Prop}(ox:bL Ok x)(oy:bL Ok y)(sx:Sd rk x.toList)(sy:Sd rk y.toList)(x0:0<x.size)(hl:∀u∈y.toList,rk u<=rk x[x.size-1])(g:Gq st0 st)(m:MI rk x.toList y.toList o.toList i j)(hi:i+1<x.size)(hj:j<y.size)(h1:∀r o' i' j' p q st',Gq st0 st'->dY rk x y r->Q (some r,o',i',j',p,q) st')(h2:∀o' i' j' p q st',Gq st0 st'->MI rk x.toList y.toList o'.toList i' j'->i'+1<x.size->j'<y.size->i+j+1<=i'+j'->Q (none,o',i',j',p,q) st') :
  wpS (model prog w) A E s (wF x y o i j mg) Q st:=by
 have ux:Up rk x 0 x.size:=sx.up 0 _ (bg0 _);have uy:Up rk y 0 y.size:=sy.up 0 _ (bg0 _);unfold wF;refine bo7 (I:=λt c st'=>Gq st0 st'/\∃o i' j' p q,c=(none,o,i',j',p,q)/\MI rk x.toList y.toList o.toList i' j'/\i'+1<x.size/\j'<y.size/\i+j+t<=i'+j') ?_ ?_ ⟨g,o,i,j,0,0,rfl,m,hi,hj,by omega⟩
 ·rintro t c2 st2 _ ht ⟨q2,o,i',j',p,q,rfl,m,hi,hj,pr2⟩
  dsimp only;have hi':i'<x.size:=by omega
  refine bg9 (dA hj (bg9 (dA hi' (bg9 (c _ _ (oy _ (bm2 hj)) (ox _ (bm2 hi')) st2 _ (q2.kd.trans hk) ?_)))));by_cases hc:rk y[j']<rk x[i']
  ·rw[bg4 hc]
   dsimp only;rw[if_pos rfl];have m':=m.y1 hj λt ht=>by
    have:=ux i' (i'+t) (by omega) (by omega) ht
    rw[bZ hi']at this;omega
   refine bg9 (dA hj ?_);by_cases he:(j'+1==y.size)=true
   ·rw[if_pos he]
    have he:j'+1=y.size:=by simpa using he
    exact bh4 (h1 _ _ _ _ _ _ _ q2 (m'.done (.inr (by omega))))
   ·rw[if_neg he]
    have he:j'+1≠y.size:=by simpa using he
    split
    ·exact bh4 (h2 _ _ _ _ _ _ q2 m' hi (by omega) (by omega))
    ·exact bh4 ⟨q2,_,_,_,_,_,rfl,m',hi,by omega,by omega⟩
  ·rw[bf7 hc]
   dsimp only;rw[if_neg bi1];have m':=m.x1 hi' λt ht=>by
    have:=uy j' (j'+t) (by omega) (by omega) ht
    rw[bZ hj]at this;omega
   refine bg9 (dA hi' ?_);by_cases he:(i'+1+1==x.size)=true
   ·rw[if_pos he]
    exact bh4 (h1 _ _ _ _ _ _ _ q2 (m'.last x0 hl (by simpa using he)))
   ·rw[if_neg he]
    have he:i'+1+1≠x.size:=by simpa using he
    split
    ·exact bh4 (h2 _ _ _ _ _ _ q2 m' (by omega) hj (by omega))
    ·exact bh4 ⟨q2,_,_,_,_,_,rfl,m',by omega,hj,by omega⟩
 ·rintro c2 st2 ⟨q2,o,i',j',p,q,rfl,m,hi,hj,pr2⟩
  exact h2 _ _ _ _ _ _ q2 m hi hj (by omega)
theorem aF6 (c:cE prog w A E s κ Ok rk)(hk:kindOf st=κ){x y:Array Keyed}{Q:Array Keyed->SortSt->Prop}(ox:bL Ok x)(oy:bL Ok y)(sx:Sd rk x.toList)(sy:Sd rk y.toList)(x0:0<x.size)(y0:0<y.size)(hf:∀t∈x.toList,rk y[0]<=rk t)(hl:∀u∈y.toList,rk u<=rk x[x.size-1])(h:∀r st',Gq st st'->dY rk x y r->Q r st'):wpS (model prog w) A E s (wC x y) Q st:=by
 rw[aF3];refine bg9 (wpS_lift (bw6 ⟨rfl,bg9 (dA y0 ?_)⟩));have m0:MI rk x.toList y.toList (#[y[0]]:Array Keyed).toList 0 1:=by
  have mm:MI rk x.toList y.toList [] 0 0:=⟨by simp,sx,sy⟩
  have:=mm.ofy 1 λu hu t ht=>?_
  ·rw[<- lA y0]at this;exact this
  ·rw[<- lA y0,bg2]at hu
   subst hu;exact hf t ht
 by_cases e1:(1==y.size)=true
 ·rw[if_pos e1]
  have e1:1=y.size:=by simpa using e1
  exact bh4 (h _ st (Gq.refl st) (m0.done (.inr (by omega))))
 ·rw[if_neg e1]
  have e1:1≠y.size:=by simpa using e1
  by_cases e2:(0+1==x.size)=true
  ·rw[if_pos e2]
   exact bh4 (h _ st (Gq.refl st) (m0.last x0 hl (by simpa using e2)))
  ·rw[if_neg e2]
   have e2:0+1≠x.size:=by simpa using e2
   refine bg9 (wpS_get ?_);unfold N6
   refine bg9 (bw1 (bo7
    (I:=λn c st'=>Gq st st'/\∃o i j mg,c=(none,o,i,j,mg)/\MI rk x.toList y.toList o.toList i j/\i+1<x.size/\j<y.size/\n+1<=i+j)
    (Q:=λc st'=>Gq st st'/\∃r o i j mg,c=(some r,o,i,j,mg)/\dY rk x y r) ?_ ?_ ⟨Gq.refl st,_,0,1,_,rfl,m0,by omega,by omega,by omega⟩) ?_)
   ·rintro n c1 st1 _ hn ⟨q1,o,i,j,mg,rfl,m,hi,hj,pr⟩
    dsimp only;refine bg9 (aF5 c hk ox oy sx sy x0 hl q1 m hi hj (λr o' i' j' p q st' g md=>bh4 ⟨g,r,_,_,_,_,rfl,md⟩) λo' i' j' p q st' g m' hi' hj' pr'=>?_);refine bg9 (wpS_lift (bw6 ⟨rfl,?_⟩));refine bg9 (bw1 (aF4 c hk ox oy sx sy x0 hl g m' hi' hj' pr') ?_);rintro c3 st3 ⟨q3,⟨r,o,i3,j3,mg,p,q,rfl,md⟩|⟨o,i3,j3,mg,p,q,rfl,m,hi,hj,pr3⟩⟩
    ·exact bh4 ⟨q3,r,_,_,_,_,rfl,md⟩
    ·exact bg9 (sB q3 λst4 q4=>bh4 ⟨q4,o,i3,j3,_,rfl,m,hi,hj,by omega⟩)
   ·rintro c1 st1 ⟨q1,o,i,j,mg,rfl,m,hi,hj,pr⟩
    exact absurd pr (by omega)
   ·rintro c1 st1 ⟨q1,r,o,i,j,mg,rfl,md⟩
    exact bh4 (h r _ q1 md)
end
def wG:Array Keyed->Array Keyed->StateT SortSt Sem (Array Keyed):=sortPriv% PySem.Builtin.mergeHi
abbrev LH:=Option (Array Keyed)×Nat×Nat×Array Keyed×Nat×Nat×Nat
abbrev wH:=Option (Array Keyed)×Nat×Nat×Array Keyed×Nat×Nat
abbrev LP:=Option (Array Keyed)×Nat×Nat×Array Keyed×Nat
def sD (x y o:Array Keyed)(i j mg p q:Nat):StateT SortSt Sem (ForInStep LH):=do
 let v <- elem' x (i-1)
 if (i-1==0)=true then pure (.done (some (x.extract 0 (i-1)++y.extract 0 j++(o.push v).reverse),i-1,j,o.push v,mg,p,q))
 else if (decide (p<7)&&decide (q<7))=true then pure (.done (none,i-1,j,o.push v,mg,p,q)) else pure (.yield (none,i-1,j,o.push v,mg,p,q))
def sE (x y o:Array Keyed)(i j mg p q:Nat):StateT SortSt Sem (ForInStep LH):=do
 let v <- elem' y (j-1)
 if (j-1==1)=true then pure (.done (some (y.extract 0 (j-1)++x.extract 0 i++(o.push v).reverse),i,j-1,o.push v,mg,p,q)) else do
  let u <- elem' x (i-1)
  match <- k7 true u y 0 (j-1) (j-1-1) with
  |some z=>
   if j-1-z>0 then
    if (z==1)=true then pure (.done (some (y.extract 0 z++x.extract 0 i++(o.push v++(y.extract z (j-1)).reverse).reverse),i,z,o.push v++(y.extract z (j-1)).reverse,mg,p,j-1-z))
    else if (z==0)=true then pure (.done (some (x.extract 0 i++y.extract 0 z++(o.push v++(y.extract z (j-1)).reverse).reverse),i,z,o.push v++(y.extract z (j-1)).reverse,mg,p,j-1-z))
    else sD x y (o.push v++(y.extract z (j-1)).reverse) i z mg p (j-1-z)
   else sD x y (o.push v) i (j-1) mg p (j-1-z)
  |_=>pure (.done (some (x.extract 0 i++y.extract 0 (j-1)++(o.push v).reverse),i,j-1,o.push v,mg,p,q))
def sF (x y o:Array Keyed)(i j mg p q:Nat):StateT SortSt Sem (ForInStep LH):=do
 mT mg
 let v <- elem' y (j-1)
 match <- k7 false v x 0 i (i-1) with
 |some z=>
  if i-z>0 then
   if (z==0)=true then pure (.done (some (x.extract 0 z++y.extract 0 j++(o++(x.extract z i).reverse).reverse),z,j,o++(x.extract z i).reverse,mg,i-z,q))
   else sE x y (o++(x.extract z i).reverse) z j mg (i-z) q
  else sE x y o i j mg (i-z) q
 |_=>pure (.done (some (x.extract 0 i++y.extract 0 j++o.reverse),i,j,o,mg,p,q))
def wI (x y o:Array Keyed)(i j mg p q:Nat):StateT SortSt Sem LH:=forIn [0:x.size+y.size] ((none,i,j,o,mg,p,q):LH) λ_ r=>
 if r.2.2.2.2.1>1 then sF x y r.2.2.2.1 r.2.1 r.2.2.1 (r.2.2.2.2.1-1) r.2.2.2.2.2.1 r.2.2.2.2.2.2 else sF x y r.2.2.2.1 r.2.1 r.2.2.1 r.2.2.2.2.1 r.2.2.2.2.2.1 r.2.2.2.2.2.2
def mW (x y o:Array Keyed)(i j mg:Nat):StateT SortSt Sem wH:=forIn [0:x.size+y.size] ((none,i,j,o,0,0):wH) λ_ r=>do
 let v <- elem' y (r.2.2.1-1)
 let u <- elem' x (r.2.1-1)
 match <- lt' v u with
 |some q=>
  if q=true then do
   let u <- elem' x (r.2.1-1)
   if (r.2.1-1==0)=true then pure (.done (some (x.extract 0 (r.2.1-1)++y.extract 0 r.2.2.1++(r.2.2.2.1.push u).reverse),r.2.1-1,r.2.2.1,r.2.2.2.1.push u,r.2.2.2.2.1+1,0))
   else if r.2.2.2.2.1+1 >= mg then pure (.done (none,r.2.1-1,r.2.2.1,r.2.2.2.1.push u,r.2.2.2.2.1+1,0)) else pure (.yield (none,r.2.1-1,r.2.2.1,r.2.2.2.1.push u,r.2.2.2.2.1+1,0))
  else do
   let v <- elem' y (r.2.2.1-1)
   if (r.2.2.1-1==1)=true then pure (.done (some (y.extract 0 (r.2.2.1-1)++x.extract 0 r.2.1++(r.2.2.2.1.push v).reverse),r.2.1,r.2.2.1-1,r.2.2.2.1.push v,0,r.2.2.2.2.2+1))
   else if r.2.2.2.2.2+1 >= mg then pure (.done (none,r.2.1,r.2.2.1-1,r.2.2.2.1.push v,0,r.2.2.2.2.2+1)) else pure (.yield (none,r.2.1,r.2.2.1-1,r.2.2.2.1.push v,0,r.2.2.2.2.2+1))
 |_=>pure (.done (some (x.extract 0 r.2.1++y.extract 0 r.2.2.1++r.2.2.2.1.reverse),r.2.1,r.2.2.1,r.2.2.2.1,r.2.2.2.2.1,r.2.2.2.2.2))
def O2 (x y o:Array Keyed)(i j mg:Nat):StateT SortSt Sem LP:=forIn [0:x.size+y.size] ((none,i,j,o,mg):LP) λ_ r=>do
 let u <- mW x y r.2.2.2.1 r.2.1 r.2.2.1 r.2.2.2.2
 match u.1 with
 |some z=>pure (.done (some z,u.2.1,u.2.2.1,u.2.2.2.1,r.2.2.2.2))
 |none=>do
  liftM (rule "list.sort.gallop")
  let v <- wI x y u.2.2.2.1 u.2.1 u.2.2.1 (r.2.2.2.2+1) u.2.2.2.2.1 u.2.2.2.2.2
  match v.1 with
  |some z=>pure (.done (some z,v.2.1,v.2.2.1,v.2.2.2.1,v.2.2.2.2.1))
  |none=>do
   mT (v.2.2.2.2.1+1)
   pure (.yield (none,v.2.1,v.2.2.1,v.2.2.2.1,v.2.2.2.2.1+1))
theorem aF7 (x y:Array Keyed):wG x y=(do
 liftM (rule "list.sort.merge-hi")
 let v <- elem' x (x.size-1)
 if (x.size-1==0)=true then pure (x.extract 0 (x.size-1)++y.extract 0 y.size++(#[v]:Array Keyed).reverse)
 else if (y.size==1)=true then pure (y.extract 0 y.size++x.extract 0 (x.size-1)++(#[v]:Array Keyed).reverse)
 else do
  let z <- get
  let r <- O2 x y #[v] (x.size-1) y.size (gallopOf z)
  match r.1 with
  |some z=>pure z
  |none=>unsupported "internal:list.sort.merge-bound"):=by kernel_rfl
structure MH (rk:Keyed->Int)(xs ys o:List Keyed)(i j:Nat):Prop where
 pm:o.Perm (xs.drop i++ys.drop j)
 sx:Sd rk (xs.take i++o)
 sy:Sd rk (ys.take j++o)
variable {rk:Keyed→Int}{xs ys o:List Keyed}{i j:Nat}
theorem Sd.insR {o a b d:List Keyed}(h1:Sd rk (a++o))(h2:Sd rk ((d++b)++o))(h:∀t∈a,∀u∈b,rk t<=rk u):Sd rk (a++(b++o)):=by
 unfold Sd at *
 obtain⟨p1,p2,p3⟩:=bm6.mp h1
 obtain⟨q1,q2,q3⟩:=bm6.mp h2
 obtain⟨r1,r2,r3⟩:=bm6.mp q1
 refine bm6.mpr ⟨p1,bm6.mpr ⟨r2,p2,λu hu t ht=>q3 u (bj7 _ hu) t ht⟩,λu hu t ht=>?_⟩;rcases bj1.mp ht with z|z
 ·exact h u hu t z
 ·exact p3 u hu t z
theorem sG (l:List Keyed){z j:Nat}(h:z<=j):l.take z++(l.take j).drop z=l.take j:=by
 have e:l.take z=(l.take j).take z:=by rw[List.take_take,Nat.min_eq_left h]
 rw[e];exact bk3 z _
theorem wJ (l:List Keyed){z j:Nat}(h:z<=j):(l.take j).drop z++l.drop j=l.drop z:=by
 rw[bx0,show l.drop j=(l.drop z).drop (j-z) by rw[List.drop_drop,Nat.add_sub_cancel' h]];exact bk3 _ _
theorem MH.ofy (m:MH rk xs ys o i j){z:Nat}(hz:z<=j)(h:∀t∈xs.take i,∀u∈(ys.take j).drop z,rk t<=rk u):MH rk xs ys ((ys.take j).drop z++o) i z:=by
 refine⟨?_,Sd.insR m.sx (d:=ys.take z) (by rw[sG _ hz];exact m.sy) h,by rw[<- bh6,sG _ hz];exact m.sy⟩;rw[<- wJ ys hz];refine (m.pm.append_left _).trans ?_;rw[<- bh6,<- bh6];exact (bt0).append_right _
theorem MH.ofx (m:MH rk xs ys o i j){z:Nat}(hz:z<=i)(h:∀t∈ys.take j,∀u∈(xs.take i).drop z,rk t<=rk u):MH rk xs ys ((xs.take i).drop z++o) z j:=by
 refine⟨?_,by rw[<- bh6,sG _ hz];exact m.sx,Sd.insR m.sy (d:=xs.take z) (by rw[sG _ hz];exact m.sx) h⟩;rw[<- wJ xs hz,bh6];exact m.pm.append_left _
theorem MH.fin (m:MH rk xs ys o i j)(h:i=0∨j=0):(xs.take i++ys.take j++o).Perm (xs++ys)/\Sd rk (xs.take i++ys.take j++o):=by
 refine⟨?_,?_⟩
 ·have e1:xs=xs.take i++xs.drop i:=(bk3 i xs).symm
  have e2:ys=ys.take j++ys.drop j:=(bk3 j ys).symm
  conv=>rhs;rw[e1,e2]
  rw[bh6,bh6];refine List.Perm.append_left _ ((m.pm.append_left _).trans ?_);rw[<- bh6,<- bh6];exact (bt0).append_right _
 ·rcases h with h|h
  ·subst h;simpa using m.sy
  ·subst h;simpa using m.sx
theorem MH.fst (m:MH rk xs ys o i j)(h:∀t∈ys.take j,∀u∈xs,rk t<=rk u):(ys.take j++xs.take i++o).Perm (xs++ys)/\Sd rk (ys.take j++xs.take i++o):=by
 have m2:=m.ofx (bk7 i) λt ht u hu=>h t ht u (bw2 (List.mem_of_mem_drop hu))
 have f:=m2.fin (.inl rfl);simpa using f
theorem oT {x:Array Keyed}{i:Nat}{u:Keyed}(h:u∈x.toList.take i):∃t,t<i/\t<x.size/\rk u=Kr rk x t:=by
 obtain⟨t,ht,e⟩:=bm0 h
 have h1:t<i/\t<x.size:=by simp at ht;omega
 refine⟨t,h1.1,h1.2,?_⟩;rw[bZ h1.2,<- e];simp
theorem oU {x:Array Keyed}{z i:Nat}{u:Keyed}(h:u∈(x.toList.take i).drop z):∃t,z<=t/\t<i/\t<x.size/\rk u=Kr rk x t:=by
 obtain⟨t,ht,e⟩:=bm0 h
 have h1:z+t<i/\z+t<x.size:=by simp at ht;omega
 refine⟨z+t,by omega,h1.1,h1.2,?_⟩;rw[bZ h1.2,<- e];simp
theorem lB (x:Array Keyed)(z i:Nat):(x.extract z i).toList=(x.toList.take i).drop z:=by
 rw[bx0];simp[List.extract]
theorem sH (x:Array Keyed)(i:Nat):(x.extract 0 i).toList=x.toList.take i:=by
 simp[List.extract]
theorem oV {x:Array Keyed}{i:Nat}(h:i<x.size):[x[i]]=(x.toList.take (i+1)).drop i:=by
 rw[bx0,lA h,show i+1-i=1 by omega]
section
variable {κ:SortKind}{st:SortSt}{prog:az}{w:bc}{A:ba}{E:av→ax→Prop}{s:ax}{Ok:Keyed→Prop}
theorem MH.y1 {x y o:Array Keyed}(m:MH rk x.toList y.toList o.toList.reverse i (j+1))(hj:j<y.size)(h:∀t,t<i->t<x.size->Kr rk x t<=rk y[j]):MH rk x.toList y.toList (o.push y[j]).toList.reverse i j:=by
 have:=m.ofy (Nat.le_succ j) λt ht u hu=>?_
 ·rw[<- oV hj]at this;simpa using this
 ·rw[<- oV hj,bg2]at hu
  subst hu
  obtain⟨q,q1,q2,q3⟩:=oT (rk:=rk) ht
  rw[q3];exact h q q1 q2
theorem MH.x1 {x y o:Array Keyed}(m:MH rk x.toList y.toList o.toList.reverse (i+1) j)(hi:i<x.size)(h:∀t,t<j->t<y.size->Kr rk y t<=rk x[i]):MH rk x.toList y.toList (o.push x[i]).toList.reverse i j:=by
 have:=m.ofx (Nat.le_succ i) λt ht u hu=>?_
 ·rw[<- oV hi]at this;simpa using this
 ·rw[<- oV hi,bg2]at hu
  subst hu
  obtain⟨q,q1,q2,q3⟩:=oT (rk:=rk) ht
  rw[q3];exact h q q1 q2
theorem MH.yk {x y o:Array Keyed}(m:MH rk x.toList y.toList o.toList.reverse i j){z:Nat}(hz:z<=j)(h:∀t p,t<i->t<x.size->z<=p->p<j->p<y.size->Kr rk x t<=Kr rk y p):MH rk x.toList y.toList (o++(y.extract z j).reverse).toList.reverse i z:=by
 have:=m.ofy hz λt ht u hu=>?_
 ·rw[<- lB]at this;simpa using this
 ·obtain⟨q,q1,q2,q3⟩:=oT (rk:=rk) ht
  obtain⟨p,p1,p2,p3,p4⟩:=oU (rk:=rk) hu
  rw[q3,p4];exact h q p q1 q2 p1 p2 p3
theorem MH.xk {x y o:Array Keyed}(m:MH rk x.toList y.toList o.toList.reverse i j){z:Nat}(hz:z<=i)(h:∀t p,t<j->t<y.size->z<=p->p<i->p<x.size->Kr rk y t<=Kr rk x p):MH rk x.toList y.toList (o++(x.extract z i).reverse).toList.reverse z j:=by
 have:=m.ofx hz λt ht u hu=>?_
 ·rw[<- lB]at this;simpa using this
 ·obtain⟨q,q1,q2,q3⟩:=oT (rk:=rk) ht
  obtain⟨p,p1,p2,p3,p4⟩:=oU (rk:=rk) hu
  rw[q3,p4];exact h q p q1 q2 p1 p2 p3
theorem MH.done {x y o:Array Keyed}(m:MH rk x.toList y.toList o.toList.reverse i j)(hh:i=0∨j=0):dY rk x y (x.extract 0 i++y.extract 0 j++o.reverse):=by
 unfold dY;rw[bn9,bn9,sH,sH,Array.toList_reverse];exact m.fin hh
theorem MH.frst {x y o:Array Keyed}(m:MH rk x.toList y.toList o.toList.reverse i j)(y0:0<y.size)(hf:∀t∈x.toList,rk y[0]<=rk t)(hh:j=1):dY rk x y (y.extract 0 j++x.extract 0 i++o.reverse):=by
 unfold dY;rw[bn9,bn9,sH,sH,Array.toList_reverse];refine m.fst λt ht u hu=>?_
 subst hh
 obtain⟨q,q1,q2,q3⟩:=oT (rk:=rk) ht
 have e:q=0:=by omega
 subst e;rw[q3,bZ y0];exact hf u hu
structure HB (rk:Keyed->Int)(x y:Array Keyed)(lb i j:Nat)(o:Array Keyed):Prop where
 m:MH rk x.toList y.toList o.toList.reverse i j
 i0:0<i
 i1:i<x.size
 j0:1<j
 j1:j<=y.size
 pr:i+j+lb<=x.size+y.size
def HI (rk:Keyed->Int)(x y:Array Keyed)(lb:Nat)(st:SortSt)(c:LH)(st':SortSt):Prop:=Gq st st'/\∃i j o mg p q,c=(none,i,j,o,mg,p,q)/\HB rk x y lb i j o
def HQ (rk:Keyed->Int)(x y:Array Keyed)(lb:Nat)(st:SortSt)(c:LH)(st':SortSt):Prop:=Gq st st'/\((∃r i j o mg p q,c=(some r,i,j,o,mg,p,q)/\dY rk x y r)∨∃i j o mg p q,c=(none,i,j,o,mg,p,q)/\HB rk x y lb i j o)
def HR (rk:Keyed->Int)(x y:Array Keyed)(lb:Nat)(st:SortSt)(r:ForInStep LH)(st':SortSt):Prop:=match r with|.done c=>HQ rk x y lb st c st'|.yield c=>HI rk x y lb st c st'
theorem O3 {st0:SortSt}{x y o:Array Keyed}{i j mg p q lb:Nat}(g:Gq st0 st)(b:HB rk x y lb (i+1) j o)(hm:∀(hi:i<x.size) t,t<j->t<y.size->Kr rk y t<=rk x[i]):wpS (model prog w) A E s (sD x y o (i+1) j mg p q) (HR rk x y lb st0) st:=by
 unfold sD
 obtain⟨m,i0,i1,j0,j1,pr⟩:=b
 have hi':i<x.size:=by omega
 have m':=m.x1 hi' (hm hi');simp only[bv5];refine bg9 (dA hi' ?_);by_cases he:(i==0)=true
 ·rw[if_pos he]
  have he:i=0:=by simpa using he
  exact bh4 ⟨g,.inl ⟨_,_,_,_,_,_,_,rfl,m'.done (.inl he)⟩⟩
 ·rw[if_neg he]
  have he:i≠0:=by simpa using he
  split
  ·exact bh4 ⟨g,.inr ⟨_,_,_,_,_,_,rfl,m',by omega,by omega,j0,j1,by omega⟩⟩
  ·exact bh4 ⟨g,_,_,_,_,_,_,rfl,m',by omega,by omega,j0,j1,by omega⟩
theorem O4 (c:cE prog w A E s κ Ok rk){st0:SortSt}(hk:kindOf st0=κ){x y o:Array Keyed}{i j mg p q lb:Nat}(ox:bL Ok x)(oy:bL Ok y)(sx:Sd rk x.toList)(sy:Sd rk y.toList)(y0:0<y.size)(hf:∀t∈x.toList,rk y[0]<=rk t)(g:Gq st0 st)(b:HB rk x y lb (i+1) (j+1) o)(hm:∀(hj:j<y.size) t,t<i+1->t<x.size->Kr rk x t<=rk y[j]):wpS (model prog w) A E s (sE x y o (i+1) (j+1) mg p q) (HR rk x y lb st0) st:=by
 unfold sE
 obtain⟨m,i0,i1,j0,j1,pr⟩:=b
 have hi':i<x.size:=by omega
 have hj:j<y.size:=by omega
 have m':=m.y1 hj (hm hj);simp only[bv5];refine bg9 (dA hj ?_);by_cases he:(j==1)=true
 ·rw[if_pos he]
  have he:j=1:=by simpa using he
  exact bh4 ⟨g,.inl ⟨_,_,_,_,_,_,_,rfl,m'.frst y0 hf he⟩⟩
 ·rw[if_neg he]
  have he:j≠1:=by simpa using he
  refine bg9 (dA hi' (bg9 (mS c (g.kd.trans hk) (ox _ (bm2 hi')) oy (by omega) (by omega) (sy.up _ _ (by omega)) λz k1 k2 k3=>?_)));dsimp only;have ux:=sx.up 0 _ (bg0 x.size);have mk:=m'.yk k1 λt p ht ht' hp hp' _=>by
   have a1:=k3 p hp hp';rw[mV,bp5,Nat.zero_add]at a1;have a2:=ux t i (by omega) (by omega) hi';rw[bZ (i:=i) hi']at a2;omega
  have km:∀(hi:i<x.size) t,t<z->t<y.size->Kr rk y t<=rk x[i]:=λ_ t ht _=>by
   have a1:=k2 t ht;rw[mV,bi5,Nat.zero_add]at a1;omega
  by_cases hk0:j-z>0
  ·rw[if_pos hk0]
   by_cases h1:(z==1)=true
   ·rw[if_pos h1]
    have h1:z=1:=by simpa using h1
    exact bh4 ⟨g,.inl ⟨_,_,_,_,_,_,_,rfl,mk.frst y0 hf h1⟩⟩
   ·rw[if_neg h1]
    have h1:z≠1:=by simpa using h1
    by_cases h0:(z==0)=true
    ·rw[if_pos h0]
     have h0:z=0:=by simpa using h0
     exact bh4 ⟨g,.inl ⟨_,_,_,_,_,_,_,rfl,mk.done (.inr h0)⟩⟩
    ·rw[if_neg h0]
     have h0:z≠0:=by simpa using h0
     exact O3 g ⟨mk,by omega,i1,by omega,by omega,by omega⟩ km
  ·rw[if_neg hk0]
   have e0:z=j:=by omega
   subst e0;exact O3 g ⟨m',by omega,i1,by omega,by omega,by omega⟩ km
theorem O5 (c:cE prog w A E s κ Ok rk){st0:SortSt}(hk:kindOf st0=κ){x y o:Array Keyed}{i j mg p q lb:Nat}(ox:bL Ok x)(oy:bL Ok y)(sx:Sd rk x.toList)(sy:Sd rk y.toList)(y0:0<y.size)(hf:∀t∈x.toList,rk y[0]<=rk t)(g:Gq st0 st)(b:HB rk x y lb i (j+1) o) :
  wpS (model prog w) A E s (sF x y o i (j+1) mg p q) (HR rk x y lb st0) st:=by
 unfold sF
 obtain⟨m,i0,i1,j0,j1,pr⟩:=b
 have hj:j<y.size:=by omega
 simp only[bv5];refine bg9 (sB g λst4 q4=>bg9 (dA hj (bg9 (mS c (q4.kd.trans hk) (oy _ (bm2 hj)) ox (by omega) (by omega) (sx.up _ _ (by omega)) λz k1 k2 k3=>?_))));dsimp only;have uy:=sy.up 0 _ (bg0 y.size);have mk:=m.xk k1 λt p ht ht' hp hp' _=>by
  have a1:=k3 p hp hp';rw[mU,bp5,Nat.zero_add]at a1;have a2:=uy t j (by omega) (by omega) hj;rw[bZ (i:=j) hj]at a2;omega
 have km:∀(hj:j<y.size) t,t<z->t<x.size->Kr rk x t<=rk y[j]:=λ_ t ht _=>by
  have a1:=k2 t ht;rw[mU,bi5,Nat.zero_add]at a1;exact a1
 by_cases hk0:i-z>0
 ·rw[if_pos hk0]
  by_cases he:(z==0)=true
  ·rw[if_pos he]
   exact bh4 ⟨q4,.inl ⟨_,_,_,_,_,_,_,rfl,mk.done (.inl (by simpa using he))⟩⟩
  ·rw[if_neg he]
   have he:z≠0:=by simpa using he
   obtain⟨z2,rfl⟩:∃z2,z=z2+1:=⟨z-1,by omega⟩
   exact O4 c hk ox oy sx sy y0 hf q4 ⟨mk,by omega,by omega,j0,j1,by omega⟩ km
 ·rw[if_neg hk0]
  have e0:z=i:=by omega
  subst e0
  obtain⟨z2,rfl⟩:∃z2,z=z2+1:=⟨z-1,by omega⟩
  exact O4 c hk ox oy sx sy y0 hf q4 ⟨m,i0,i1,j0,j1,pr⟩ km
theorem aF8 (c:cE prog w A E s κ Ok rk){st0:SortSt}(hk:kindOf st0=κ){x y o:Array Keyed}{i j mg p q lb:Nat}(ox:bL Ok x)(oy:bL Ok y)(sx:Sd rk x.toList)(sy:Sd rk y.toList)(y0:0<y.size)(hf:∀t∈x.toList,rk y[0]<=rk t)(g:Gq st0 st)(b:HB rk x y lb i j o) :
  wpS (model prog w) A E s (wI x y o i j mg p q) (HQ rk x y lb st0) st:=by
 unfold wI;refine bo7 (I:=λ_=>HI rk x y lb st0) ?_ ?_ ⟨g,i,j,o,_,p,q,rfl,b⟩
 ·rintro t c3 st3 _ _ ⟨q3,i,j,o,mg,p,q,rfl,b3⟩
  obtain⟨j3,rfl⟩:∃j3,j=j3+1:=⟨j-1,by have:=b3.j0;omega⟩
  dsimp only;split
  ·exact bw1 (O5 c hk ox oy sx sy y0 hf q3 b3) λr _ hr=>by cases r<;>exact hr
  ·exact bw1 (O5 c hk ox oy sx sy y0 hf q3 b3) λr _ hr=>by cases r<;>exact hr
 ·rintro c3 st3 ⟨q3,i,j,o,mg,p,q,rfl,b3⟩
  exact⟨q3,.inr ⟨_,_,_,_,_,_,rfl,b3⟩⟩
theorem aF9 (c:cE prog w A E s κ Ok rk){st0:SortSt}(hk:kindOf st0=κ){x y o:Array Keyed}{i j mg n:Nat}{Q:wH->SortSt->Prop}(ox:bL Ok x)(oy:bL Ok y)(sx:Sd rk x.toList)(sy:Sd rk y.toList)(y0:0<y.size)(hf:∀t∈x.toList,rk y[0]<=rk t)(g:Gq st0 st)(b:HB rk x y n i j o)(h1:∀r i' j' o' p q st',Gq st0 st'->dY rk x y r->Q (some r,i',j',o',p,q) st')(h2:∀i' j' o' p q st',Gq st0 st'->HB rk x y (n+1) i' j' o'->Q (none,i',j',o',p,q) st') :
  wpS (model prog w) A E s (mW x y o i j mg) Q st:=by
 have ux:Up rk x 0 x.size:=sx.up 0 _ (bg0 _);have uy:Up rk y 0 y.size:=sy.up 0 _ (bg0 _);unfold mW;refine bo7 (I:=λt c st'=>Gq st0 st'/\∃i j o p q,c=(none,i,j,o,p,q)/\HB rk x y (n+t) i j o) ?_ ?_ ⟨g,i,j,o,0,0,rfl,b⟩
 ·rintro t c2 st2 _ ht ⟨q2,i',j',o,p,q,rfl,m,i0,i1,j0,j1,pr⟩
  obtain⟨i2,rfl⟩:∃i2,i'=i2+1:=⟨i'-1,by omega⟩
  obtain⟨j2,rfl⟩:∃j2,j'=j2+1:=⟨j'-1,by omega⟩
  simp only[bv5];have hi:i2<x.size:=by omega
  have hj:j2<y.size:=by omega
  refine bg9 (dA hj (bg9 (dA hi (bg9 (c _ _ (oy _ (bm2 hj)) (ox _ (bm2 hi)) st2 _ (q2.kd.trans hk) ?_)))));by_cases hc:rk y[j2]<rk x[i2]
  ·rw[bg4 hc]
   dsimp only;rw[if_pos rfl];have m':=m.x1 hi λt ht _=>by
    have:=uy t j2 (by omega) (by omega) hj
    rw[bZ hj]at this;omega
   refine bg9 (dA hi ?_);by_cases he:(i2==0)=true
   ·rw[if_pos he]
    exact bh4 (h1 _ _ _ _ _ _ _ q2 (m'.done (.inl (by simpa using he))))
   ·rw[if_neg he]
    have he:i2≠0:=by simpa using he
    split
    ·exact bh4 (h2 _ _ _ _ _ _ q2 ⟨m',by omega,by omega,j0,j1,by omega⟩)
    ·exact bh4 ⟨q2,_,_,_,_,_,rfl,m',by omega,by omega,j0,j1,by omega⟩
  ·rw[bf7 hc]
   dsimp only;rw[if_neg bi1];have m':=m.y1 hj λt ht _=>by
    have:=ux t i2 (by omega) (by omega) hi
    rw[bZ hi]at this;omega
   refine bg9 (dA hj ?_);by_cases he:(j2==1)=true
   ·rw[if_pos he]
    exact bh4 (h1 _ _ _ _ _ _ _ q2 (m'.frst y0 hf (by simpa using he)))
   ·rw[if_neg he]
    have he:j2≠1:=by simpa using he
    split
    ·exact bh4 (h2 _ _ _ _ _ _ q2 ⟨m',i0,i1,by omega,by omega,by omega⟩)
    ·exact bh4 ⟨q2,_,_,_,_,_,rfl,m',i0,i1,by omega,by omega,by omega⟩
 ·rintro c2 st2 ⟨q2,i',j',o,p,q,rfl,m,i0,i1,j0,j1,pr⟩
  exact h2 _ _ _ _ _ _ q2 ⟨m,i0,i1,j0,j1,by omega⟩
theorem aG0 (c:cE prog w A E s κ Ok rk)(hk:kindOf st=κ){x y:Array Keyed}{Q:Array Keyed->SortSt->Prop}(ox:bL Ok x)(oy:bL Ok y)(sx:Sd rk x.toList)(sy:Sd rk y.toList)(x0:0<x.size)(y0:0<y.size)(hf:∀t∈x.toList,rk y[0]<=rk t)(hl:∀u∈y.toList,rk u<=rk x[x.size-1])(h:∀r st',Gq st st'->dY rk x y r->Q r st'):wpS (model prog w) A E s (wG x y) Q st:=by
 rw[aF7];refine bg9 (wpS_lift (bw6 ⟨rfl,bg9 (dA (by omega:x.size-1<x.size) ?_)⟩));have m0:MH rk x.toList y.toList (#[x[x.size-1]]:Array Keyed).toList.reverse (x.size-1) y.size:=by
  have mm:MH rk x.toList y.toList [] x.size y.size:=⟨by simp,by rw[bo8 (by simp),bj9];exact sx,by rw[bo8 (by simp),bj9];exact sy⟩;have e:=oV (x:=x) (i:=x.size-1) (by omega);rw[show x.size-1+1=x.size by omega]at e
  have:=mm.ofx (Nat.sub_le x.size 1) λt ht u hu=>?_
  ·rw[<- e]at this;simpa using this
  ·rw[<- e,bg2]at hu
   subst hu;exact hl t (bw2 ht)
 by_cases e1:(x.size-1==0)=true
 ·rw[if_pos e1]
  exact bh4 (h _ st (Gq.refl st) (m0.done (.inl (by simpa using e1))))
 ·rw[if_neg e1]
  have e1:x.size-1≠0:=by simpa using e1
  by_cases e2:(y.size==1)=true
  ·rw[if_pos e2]
   exact bh4 (h _ st (Gq.refl st) (m0.frst y0 hf (by simpa using e2)))
  ·rw[if_neg e2]
   have e2:y.size≠1:=by simpa using e2
   refine bg9 (wpS_get ?_);unfold O2
   refine bg9 (bw1 (bo7
    (I:=λn c st'=>Gq st st'/\∃i j o mg,c=(none,i,j,o,mg)/\HB rk x y (n+1) i j o)
    (Q:=λc st'=>Gq st st'/\∃r i j o mg,c=(some r,i,j,o,mg)/\dY rk x y r) ?_ ?_ ⟨Gq.refl st,_,_,_,_,rfl,m0,by omega,by omega,by omega,by omega,by omega⟩) ?_)
   ·rintro n c1 st1 _ hn ⟨q1,i,j,o,mg,rfl,b⟩
    dsimp only;refine bg9 (aF9 c hk ox oy sx sy y0 hf q1 b (λr o' i' j' p q st' g md=>bh4 ⟨g,r,_,_,_,_,rfl,md⟩) λi' j' o' p q st' g b'=>?_);refine bg9 (wpS_lift (bw6 ⟨rfl,?_⟩));refine bg9 (bw1 (aF8 c hk ox oy sx sy y0 hf g b') ?_);rintro c3 st3 ⟨q3,⟨r,i3,j3,o,mg,p,q,rfl,md⟩|⟨i3,j3,o,mg,p,q,rfl,b3⟩⟩
    ·exact bh4 ⟨q3,r,_,_,_,_,rfl,md⟩
    ·exact bg9 (sB q3 λst4 q4=>bh4 ⟨q4,i3,j3,o,_,rfl,b3⟩)
   ·rintro c1 st1 ⟨q1,i,j,o,mg,rfl,b⟩
    have:=b.pr
    exact absurd this (by omega)
   ·rintro c1 st1 ⟨q1,r,i,j,o,mg,rfl,md⟩
    exact bh4 (h r _ q1 md)
end
theorem aG1 (i:Nat):mergeAt' i=(do
 let z <- get
 let (some (sa,na,pw),some (sb,nb,_)):=((pendingOf z)[i]?,(pendingOf z)[i+1]?)|unsupported "internal:list.sort.pending"
 set (SortSt.mk' (kindOf z) (arrOf z) (((pendingOf z).setIfInBounds i (sa,na+nb,pw)).eraseIdxIfInBounds (i+1)) (gallopOf z) (failedOf z))
 let some k <- k7 false (<- elem' (arrOf z) sb) (arrOf z) sa na 0|return false
 let (sa,na):=(sa+k,na-k)
 if na==0 then return true
 let some nb <- k7 true (<- elem' (arrOf z) (sa+na-1)) (arrOf z) sb nb (nb-1)|return false
 if nb==0 then return true
 let x:=(arrOf z).extract sa sb
 let y:=(arrOf z).extract sb (sb+nb)
 let m <- if na<=nb then wC x y else wG x y
 modify λz=>setArr z (m.toList.zipIdx.foldl (λa (p,j)=>a.setIfInBounds (sa+j) p) (arrOf z))
 return (failedOf (<- get)).isNone):=rfl
variable {rk:Keyed→Int}
theorem aG2 {σ:Type}{M:Model}{A:ba}{E:av->ax->Prop}{s:ax}{a b:σ}{Q:PUnit->σ->Prop}(h:Q ⟨⟩ a):wpS M A E s (set a:StateT σ Sem PUnit) Q b:=by
 unfold wpS;rw[StateT.run_set];exact bf5 ⟨rfl,h⟩
theorem O6 (o:Nat):∀(m:List Keyed) (n:Nat) (a:Array Keyed) (t:Nat),o+n+m.length<=a.size->
  ((m.zipIdx n).foldl (λa (p,j)=>a.setIfInBounds (o+j) p) a)[t]? = if o+n<=t/\t<o+n+m.length then m[t-(o+n)]? else a[t]?
 |[],n,a,t,_=>by
  show a[t]? = _;rw[if_neg (λz=>Nat.not_lt_of_ge z.1 z.2)]
 |p::m,n,a,t,h=>by
  rw[List.zipIdx_cons,List.foldl_cons];have h':o+(n+1)+m.length<=(a.setIfInBounds (o+n) p).size:=by rw[Array.size_setIfInBounds];simp at h;omega
  have ih:=O6 o m (n+1) (a.setIfInBounds (o+n) p) t h';refine ih.trans ?_;have hs:o+n<a.size:=by simp at h;omega
  rw[Array.getElem?_setIfInBounds];by_cases e:o+n=t
  ·subst e
   rw[if_neg (by omega),if_pos rfl,if_pos hs,if_pos (by simp),Nat.sub_self];rfl
  ·rw[if_neg e]
   by_cases c:o+n<=t/\t<o+n+(p::m).length
   ·rw[if_pos c,if_pos (by simp at c;omega)]
    rw[show t-(o+n)=(t-(o+(n+1)))+1 by omega];rfl
   ·rw[if_neg c,if_neg (by simp at c ⊢;omega)]
theorem O7 {a:Array Keyed}{lo hi:Nat}(u:Up rk a lo hi)(hh:hi<=a.size):Sd rk (a.extract lo hi).toList:=by
 unfold Sd;rw[bk8];intro i j hi' hj hij;have h2:lo+j<hi:=by simp at hj;omega
 have:=u (lo+i) (lo+j) (by omega) (by omega) h2
 rw[bZ (by omega:lo+i<a.size),bZ (by omega:lo+j<a.size)]at this;simpa using this
theorem O8 {a:Array Keyed}{lo mid hi:Nat}(u:Up rk a lo mid)(v:Up rk a mid hi)(h0:lo<mid)(h1:mid<hi)(h:Kr rk a (mid-1)<=Kr rk a mid):Up rk a lo hi:=λi j hi' hij hj=>by
 rcases bj0 j mid with z|z
 ·exact u i j hi' hij z
 ·rcases bj0 i mid with y|y
  ·have a1:=u i (mid-1) hi' (by omega) (by omega)
   have a2:=v mid j (bg0 _) z hj;omega
  ·exact v i j y hij hj
theorem O9 {a:Array Keyed}{lo hi t:Nat}(h:t<hi-lo)(hh:hi<=a.size):Kr rk (a.extract lo hi) t=Kr rk a (lo+t):=by
 refine l8 ?_;rw[Array.getElem?_extract_of_lt (by omega)];exact (getElem?_pos a (lo+t) (by omega)).symm
section
variable {κ:SortKind}{a0:Array Keyed}{pd:Array (Nat×Nat×Nat)}{st:SortSt}{prog:az}{w:bc}{A:ba}{E:av→ax→Prop}{s:ax}{Ok:Keyed→Prop}
theorem aG3 {a m:Array Keyed}{p x e:Nat}(hpx:p<=x)(hxe:x<=e)(he:e<=a.size)(md:dY rk (a.extract p x) (a.extract x e) m) :
  let r:=m.toList.zipIdx.foldl (λa (q,j)=>a.setIfInBounds (p+j) q) a
  r.Perm a/\(∀t,(t<p∨e<=t)->Kr rk r t=Kr rk a t)/\(∀t t',p<=t->t<=t'->t'<e->Kr rk r t<=Kr rk r t')/\∀t,p<=t->t<e->∃t',p<=t'/\t'<e/\Kr rk r t=Kr rk a t':=by
 intro r;have ml:m.toList.length=e-p:=by
  rw[md.1.length_eq];simp;omega
 have g:∀t,r[t]? = if p<=t/\t<e then m[t-p]? else a[t]?:=λt=>by
  have:=O6 p m.toList 0 a t (by omega)
  rw[show r=(m.toList.zipIdx 0).foldl (λa (q,j)=>a.setIfInBounds (p+j) q) a from rfl,this];simp only[Nat.add_zero,ml,show p+(e-p)=e by omega,bi4]
 have ex:(a.extract p x).toList++(a.extract x e).toList=(a.toList.take e).drop p:=by
  rw[lB,lB,bx0,bx0,bx0];rw[show x=p+(x-p) by omega,<- List.drop_drop,show p+(x-p)-p=x-p by omega,show e-(p+(x-p))=(e-p)-(x-p) by omega]
  have:=bk3 (x-p) ((a.toList.drop p).take (e-p))
  rw[List.take_take,bx0,Nat.min_eq_left (by omega)]at this;exact this
 have rl:r.toList=a.toList.take p++(m.toList++a.toList.drop e):=by
  apply List.ext_getElem?;intro t;rw[bi4,g];rcases bj0 t p with z|z
  ·rw[if_neg (by omega),bq2 (by simp;omega),List.getElem?_take_of_lt z,bi4]
  ·rw[bs0 (by simp;omega)]
   have lp:(a.toList.take p).length=p:=by simp;omega
   rw[lp];rcases bj0 t e with y|y
   ·rw[if_pos ⟨z,y⟩,bq2 (by omega),bi4]
   ·rw[if_neg (by omega),bs0 (by omega),ml,List.getElem?_drop,bi4]
    congr 1;omega
 have mp:m.toList.Perm ((a.toList.take e).drop p):=ex▸md.1;refine⟨?_,λt ht=>l8 (by rw[g,if_neg (by omega)]),λt t' h1 h2 h3=>?_,λt h1 h2=>?_⟩
 ·refine Array.perm_iff_toList_perm.mpr ?_
  rw[rl]
  have:a.toList=a.toList.take p++((a.toList.take e).drop p++a.toList.drop e):=by
   rw[wJ _ (by omega:p<=e)];exact (bk3 p _).symm
  conv=>rhs;rw[this]
  exact (mp.append_right _).append_left _
 ·have e1:Kr rk r t=Kr rk m (t-p):=l8 (by rw[g,if_pos (by omega)])
  have e2:Kr rk r t'=Kr rk m (t'-p):=l8 (by rw[g,if_pos (by omega)]);rw[e1,e2];have ms:m.size=e-p:=by rw[<- ml];simp
  exact md.2.up 0 m.size (bg0 _) (t-p) (t'-p) (by omega) (by omega) (by omega)
 ·have e1:Kr rk r t=Kr rk m (t-p):=l8 (by rw[g,if_pos (by omega)])
  have ms:m.size=e-p:=by rw[<- ml];simp
  have hm:t-p<m.size:=by omega
  have mm:m[t-p]∈(a.toList.take e).drop p:=mp.mem_iff.mp (by simp)
  obtain⟨t',q1,q2,q3,q4⟩:=oU (rk:=rk) mm
  exact⟨t',q1,q2,by rw[e1,bZ hm];exact q4⟩
theorem aG4 (c:cE prog w A E s κ Ok rk)(o:bL Ok a0)(b:SB κ a0 pd st){i sa na pw sb nb pw':Nat}{Q:Bool->SortSt->Prop}(e1:pd[i]? = some (sa,na,pw))(e2:pd[i+1]? = some (sb,nb,pw'))(hs:sb=sa+na)(n0:0<na)(m0:0<nb)(hz:sb+nb<=a0.size)(u:Up rk (arrOf st) sa sb)(v:Up rk (arrOf st) sb (sb+nb))(h:∀st',SB κ a0 ((pd.setIfInBounds i (sa,na+nb,pw)).eraseIdxIfInBounds (i+1)) st'->Up rk (arrOf st') sa (sb+nb)->(∀t,(t<sa∨sb+nb<=t)->Kr rk (arrOf st') t=Kr rk (arrOf st) t)->Q true st'):wpS (model prog w) A E s (mergeAt' i) Q st:=by
 have sz:=b.sz;rw[aG1];refine bg9 (wpS_get ?_);rw[b.pd,e1,e2];dsimp only;refine bg9 (aG2 ?_);generalize hst:SortSt.mk' (kindOf st) (arrOf st) ((pd.setIfInBounds i (sa,na+nb,pw)).eraseIdxIfInBounds (i+1)) (gallopOf st) (failedOf st)=st1;have b1:SB κ a0 ((pd.setIfInBounds i (sa,na+nb,pw)).eraseIdxIfInBounds (i+1)) st1:=by rw[<- hst];exact⟨b.pm,b.kd,b.ok,rfl⟩
 have ar:arrOf st1=arrOf st:=by rw[<- hst]
 have oa:=b.all o;have hsb:sb<(arrOf st).size:=by omega
 refine bg9 (dA hsb (bg9 (mS c b1.kd (oa _ (bm2 hsb)) oa n0 (by omega) (hs▸u) λk k1 k2 k3=>?_)));dsimp only;have k2':∀t,sa<=t->t<sa+k->Kr rk (arrOf st) t<=Kr rk (arrOf st) sb:=λt t1 t2=>by
  have:=k2 (t-sa) (by omega)
  rw[mU,bi5,show sa+(t-sa)=t by omega]at this;rw[bZ hsb];exact this
 have k3':∀t,sa+k<=t->t<sb->Kr rk (arrOf st) sb<Kr rk (arrOf st) t:=λt t1 t2=>by
  have:=k3 (t-sa) (by omega) (by omega)
  rw[mU,bp5,show sa+(t-sa)=t by omega]at this;rw[bZ hsb];omega
 by_cases ek:(na-k==0)=true
 ·rw[if_pos ek]
  have ek:na-k=0:=by simpa using ek
  refine bh4 (h st1 b1 ?_ λt _=>by rw[ar]);rw[ar];exact O8 u v (by omega) (by omega) (k2' (sb-1) (by omega) (by omega))
 ·rw[if_neg ek]
  have ek:na-k≠0:=by simpa using ek
  have el:sa+k+(na-k)-1=sb-1:=by omega
  rw[el];have hsl:sb-1<(arrOf st).size:=by omega
  refine bg9 (dA hsl (bg9 (mS c b1.kd (oa _ (bm2 hsl)) oa (by omega) (by omega) v λl l1 l2 l3=>?_)));dsimp only;have l2':∀t,sb<=t->t<sb+l->Kr rk (arrOf st) t<Kr rk (arrOf st) (sb-1):=λt t1 t2=>by
   have:=l2 (t-sb) (by omega)
   rw[mV,bi5,show sb+(t-sb)=t by omega]at this;rw[bZ hsl];exact this
  have l3':∀t,sb+l<=t->t<sb+nb->Kr rk (arrOf st) (sb-1)<=Kr rk (arrOf st) t:=λt t1 t2=>by
   have:=l3 (t-sb) (by omega) (by omega)
   rw[mV,bp5,show sb+(t-sb)=t by omega]at this;rw[bZ hsl];omega
  by_cases en:(l==0)=true
  ·rw[if_pos en]
   have en:l=0:=by simpa using en
   subst en;refine bh4 (h st1 b1 ?_ λt _=>by rw[ar]);rw[ar];exact O8 u v (by omega) (by omega) (l3' sb (by omega) (by omega))
  ·rw[if_neg en]
   have en:l≠0:=by simpa using en
   have sub:∀p e,bL Ok ((arrOf st).extract p e):=λp e z hz=>oa z (by
    have:z∈((arrOf st).extract p e).toList:=Array.mem_toList_iff.mpr hz
    rw[lB]at this
    exact Array.mem_toList_iff.mp (bw2 (List.mem_of_mem_drop this)))
   have sx:Sd rk ((arrOf st).extract (sa+k) sb).toList:=O7 (λi j h1 h2 h3=>u i j (by omega) h2 h3) (by omega);have sy:Sd rk ((arrOf st).extract sb (sb+l)).toList:=O7 (λi j h1 h2 h3=>v i j h1 h2 (by omega)) (by omega);have x0:0<((arrOf st).extract (sa+k) sb).size:=by simp;omega
   have y0:0<((arrOf st).extract sb (sb+l)).size:=by simp;omega
   have hf:∀t∈((arrOf st).extract (sa+k) sb).toList,rk ((arrOf st).extract sb (sb+l))[0]<=rk t:=λt ht=>by
    rw[lB]at ht
    obtain⟨t',q1,q2,q3,q4⟩:=oU (rk:=rk) ht
    rw[q4,<- bZ (rk:=rk) y0,O9 (by omega) (by omega)];exact Int.le_of_lt (k3' t' q1 q2)
   have hl:∀t∈((arrOf st).extract sb (sb+l)).toList,rk t<=rk ((arrOf st).extract (sa+k) sb)[((arrOf st).extract (sa+k) sb).size-1]:=λt ht=>by
    rw[lB]at ht
    obtain⟨t',q1,q2,q3,q4⟩:=oU (rk:=rk) ht
    have e:((arrOf st).extract (sa+k) sb).size=sb-(sa+k):=by simp;omega
    rw[q4,<- bZ (rk:=rk) (by omega),O9 (by omega) (by omega),e,show sa+k+(sb-(sa+k)-1)=sb-1 by omega];exact Int.le_of_lt (l2' t' q1 q2)
   have fin:∀(m:Array Keyed) (st2:SortSt),Gq st1 st2->dY rk ((arrOf st).extract (sa+k) sb) ((arrOf st).extract sb (sb+l)) m->
     wpS (model prog w) A E s (do modify (λz=>setArr z (m.toList.zipIdx.foldl (λa (p,j)=>a.setIfInBounds (sa+k+j) p) (arrOf z)));return (failedOf (<- get)).isNone) Q st2:=λm st2 g md=>by
    have b2:SB κ a0 ((pd.setIfInBounds i (sa,na+nb,pw)).eraseIdxIfInBounds (i+1)) st2:=⟨by rw[g.ar];exact b1.pm,g.kd.trans b1.kd,g.ok.trans b1.ok,g.pd.trans b1.pd⟩;have a2:arrOf st2=arrOf st:=g.ar.trans ar
    obtain⟨r1,r2,r3,r4⟩:=aG3 (by omega) (by omega) (by omega) md
    generalize hr:m.toList.zipIdx.foldl (λa (q,j)=>a.setIfInBounds (sa+k+j) q) (arrOf st)=r at r1 r2 r3 r4;refine bg9 (wpS_modify (bg9 (wpS_get (bh4 ?_))));have b3:=b2.put (xs:=m.toList.zipIdx.foldl (λa (q,j)=>a.setIfInBounds (sa+k+j) q) (arrOf st2)) (by rw[a2,hr];exact r1);have er:arrOf (setArr st2 (m.toList.zipIdx.foldl (λa (q,j)=>a.setIfInBounds (sa+k+j) q) (arrOf st2)))=r:=by rw[<- hr,a2]
    have tr:(failedOf (setArr st2 (m.toList.zipIdx.foldl (λa (q,j)=>a.setIfInBounds (sa+k+j) q) (arrOf st2)))).isNone=true:=by rw[b3.ok];rfl
    rw[tr];refine h _ b3 (λi j hi hij hj=>?_) λt ht=>?_
    ·rw[er]
     have bl:∀t,sa<=t->t<sa+k->∀t',sa+k<=t'->t'<sb+l->Kr rk (arrOf st) t<=Kr rk (arrOf st) t':=λt t1 t2 t' t3 t4=>by
      rcases bj0 t' sb with z|z
      ·exact u t t' t1 (by omega) z
      ·have a1:=k2' t t1 t2
       have a2:=v sb t' (bg0 _) z (by omega);omega
     have br:∀t,sb+l<=t->t<sb+nb->∀t',sa+k<=t'->t'<sb+l->Kr rk (arrOf st) t'<=Kr rk (arrOf st) t:=λt t1 t2 t' t3 t4=>by
      rcases bj0 t' sb with z|z
      ·have a1:=u t' (sb-1) (by omega) (by omega) (by omega)
       have a2:=l3' t t1 t2;omega
      ·exact v t' t z (by omega) t2
     have blr:∀t,sa<=t->t<sa+k->∀t',sb+l<=t'->t'<sb+nb->Kr rk (arrOf st) t<=Kr rk (arrOf st) t':=λt t1 t2 t' t3 t4=>by
      have a1:=bl t t1 t2 (sb-1) (by omega) (by omega);have a2:=l3' t' t3 t4;omega
     rcases bj0 i (sa+k) with z|z
     ·rw[r2 i (.inl z)]
      rcases bj0 j (sa+k) with y|y
      ·rw[r2 j (.inl y)];exact u i j hi hij (by omega)
      ·rcases bj0 j (sb+l) with x|x
       ·obtain⟨t',q1,q2,q3⟩:=r4 j y x
        rw[q3];exact bl i hi z t' q1 q2
       ·rw[r2 j (.inr x)];exact blr i hi z j x hj
     ·rcases bj0 j (sb+l) with x|x
      ·exact r3 i j z hij x
      ·rw[r2 j (.inr x)]
       rcases bj0 i (sb+l) with y|y
       ·obtain⟨t',q1,q2,q3⟩:=r4 i z y
        rw[q3];exact br j x hj t' q1 q2
       ·rw[r2 i (.inr y)];exact v i j (by omega) hij hj
    ·rw[er];exact r2 t (by omega)
   by_cases hle:na-k<=l
   ·rw[if_pos hle]
    exact bg9 (aF6 c b1.kd (sub _ _) (sub _ _) sx sy x0 y0 hf hl λm st2 g md=>fin m st2 g md)
   ·rw[if_neg hle]
    exact bg9 (aG0 c b1.kd (sub _ _) (sub _ _) sx sy x0 y0 hf hl λm st2 g md=>fin m st2 g md)
end
def Ch:Nat->List (Nat×Nat)->Nat->Prop
 |a,[],b=>a=b
 |a,(p,n)::r,b=>p=a/\0<n/\Ch (a+n) r b
theorem Ch.split:∀{l l':List (Nat×Nat)}{a b:Nat},Ch a (l++l') b->∃m,Ch a l m/\Ch m l' b
 |[],_,a,_,h=>⟨a,rfl,h⟩
 |(p,n)::l,l',a,b,h=>by
  obtain⟨h1,h2,h3⟩:=h
  obtain⟨m,q1,q2⟩:=Ch.split h3
  exact⟨m,⟨h1,h2,q1⟩,q2⟩
theorem Ch.join:∀{l l':List (Nat×Nat)}{a m b:Nat},Ch a l m->Ch m l' b->Ch a (l++l') b
 |[],_,a,m,_,h,h'=>by cases (show a=m from h);exact h'
 |(p,n)::l,l',a,m,b,h,h'=>⟨h.1,h.2.1,Ch.join h.2.2 h'⟩
theorem Ch.len:∀{l:List (Nat×Nat)}{a b:Nat},Ch a l b->a+l.length<=b
 |[],a,b,h=>by cases (show a=b from h);simp
 |(p,n)::l,a,b,h=>by
  have:=Ch.len h.2.2
  have:=h.2.1
  simp;omega
theorem Ch.mem:∀{l:List (Nat×Nat)}{a b:Nat}{r:Nat×Nat},Ch a l b->r∈l->a<=r.1/\r.1+r.2<=b/\0<r.2
 |(p,n)::l,a,b,r,h,hr=>by
  obtain⟨h1,h2,h3⟩:=h
  have hb:=Ch.len h3;rcases bg6.mp hr with e|e
  ·subst e
   have h1:p=a:=h1;refine⟨?_,?_,h2⟩
   ·show a<=p;omega
   ·show p+n<=b;omega
  ·have:=Ch.mem h3 e
   exact⟨by omega,this.2.1,this.2.2⟩
def sk (pd:Array (Nat×Nat×Nat)):List (Nat×Nat):=pd.toList.map λr=>(r.1,r.2.1)
theorem sI (pd:Array (Nat×Nat×Nat)):(sk pd).length=pd.size:=by simp[sk]
structure Rn (rk:Keyed->Int)(a:Array Keyed)(l:List (Nat×Nat))(lo:Nat):Prop where
 ch:Ch 0 l lo
 up:∀r∈l,Up rk a r.1 (r.1+r.2)
variable {rk:Keyed→Int}{κ:SortKind}{a0:Array Keyed}{pd:Array (Nat×Nat×Nat)}{st:SortSt}{prog:az}{w:bc}{A:ba}{E:av→ax→Prop}{s:ax}{Ok:Keyed→Prop}
theorem Rn.same {a b:Array Keyed}{l:List (Nat×Nat)}{lo:Nat}(h:Rn rk a l lo)(e:∀t,t<lo->Kr rk b t=Kr rk a t):Rn rk b l lo:=⟨h.ch,λr hr i j hi hij hj=>by
 have:=(h.ch.mem hr).2.1
 rw[e i (by omega),e j (by omega)]
 exact h.up r hr i j hi hij hj⟩
theorem P0 (c:cE prog w A E s κ Ok rk)(o:bL Ok a0)(b:SB κ a0 pd st){i lo:Nat}{Q:Bool->SortSt->Prop}(hi:i+1<pd.size)(hz:lo<=a0.size)(rn:Rn rk (arrOf st) (sk pd) lo)(h:∀pd' st',SB κ a0 pd' st'->pd'.size+1=pd.size->Rn rk (arrOf st') (sk pd') lo->(∀t,lo<=t->Kr rk (arrOf st') t=Kr rk (arrOf st) t)->Q true st'):wpS (model prog w) A E s (mergeAt' i) Q st:=by
 obtain⟨⟨sa,na,pw⟩,e1⟩:∃r,pd[i]? = some r:=⟨pd[i],getElem?_pos pd i (by omega)⟩
 obtain⟨⟨sb,nb,pw'⟩,e2⟩:∃r,pd[i+1]? = some r:=⟨pd[i+1],getElem?_pos pd (i+1) hi⟩
 have d1:pd.toList=pd.toList.take i++(sa,na,pw)::(sb,nb,pw')::pd.toList.drop (i+2):=by
  have hl:i<pd.toList.length:=by simp;omega
  have hl2:i+1<pd.toList.length:=by simpa using hi
  have g1:pd.toList[i]=(sa,na,pw):=by rw[getElem?_pos pd i (by omega)]at e1;simpa using e1
  have g2:pd.toList[i+1]=(sb,nb,pw'):=by rw[getElem?_pos pd (i+1) hi]at e2;simpa using e2
  have:=bk3 i pd.toList
  rw[List.drop_eq_getElem_cons hl,List.drop_eq_getElem_cons hl2,g1,g2]at this;exact this.symm
 have li:(pd.toList.take i).length=i:=by simp;omega
 have d2:((pd.setIfInBounds i (sa,na+nb,pw)).eraseIdxIfInBounds (i+1)).toList=pd.toList.take i++(sa,na+nb,pw)::pd.toList.drop (i+2):=by
  have e:((pd.setIfInBounds i (sa,na+nb,pw)).eraseIdxIfInBounds (i+1)).toList=(pd.toList.set i (sa,na+nb,pw)).eraseIdx (i+1):=by
   unfold Array.eraseIdxIfInBounds;rw[dif_pos (by rw[Array.size_setIfInBounds];exact hi),Array.toList_eraseIdx,Array.toList_setIfInBounds]
  rw[e]
  conv=>lhs;rw[d1]
  rw[List.set_append_right _ _ (by omega),li,Nat.sub_self,List.set_cons_zero,List.eraseIdx_append_of_length_le (by omega),li,show i+1-i=1 by omega];rfl
 have k1:sk pd=(pd.toList.take i).map (λr=>(r.1,r.2.1))++(sa,na)::(sb,nb)::(pd.toList.drop (i+2)).map (λr=>(r.1,r.2.1)):=by
  unfold sk;conv=>lhs;rw[d1]
  simp
 have k2:sk ((pd.setIfInBounds i (sa,na+nb,pw)).eraseIdxIfInBounds (i+1))=(pd.toList.take i).map (λr=>(r.1,r.2.1))++(sa,na+nb)::(pd.toList.drop (i+2)).map (λr=>(r.1,r.2.1)):=by
  unfold sk;rw[d2];simp
 have ch:=rn.ch;rw[k1]at ch
 obtain⟨m,c1,c2⟩:=ch.split
 obtain⟨f1,f2,f3,f4,f5⟩:=c2
 have f1:sa=m:=f1;have f3:sb=m+na:=f3;have up:=rn.up;rw[k1]at up;have lo2:=f5.len;refine aG4 c o b e1 e2 (by omega) f2 f4 (by omega) (by have:=up (sa,na) (by simp);rw[f3,<- f1];exact this) (up (sb,nb) (by simp)) λst' b' u' fr=>h _ st' b' ?_ ⟨?_,?_⟩ λt ht=>fr t (by omega)
 ·rw[<- sI,<- sI,k1,k2];simp;omega
 ·rw[k2]
  refine c1.join ⟨f1,by omega,?_⟩;rw[<- Nat.add_assoc];exact f5
 ·intro r hr
  rw[k2]at hr;rcases bj1.mp hr with z|z
  ·intro p q h1 h2 h3
   have:=(c1.mem z).2.1
   rw[fr p (by omega),fr q (by omega)];exact up r (bk0 _ z) p q h1 h2 h3
  ·rcases bg6.mp z with z|z
   ·subst z
    show Up rk (arrOf st') sa (sa+(na+nb));rw[show sa+(na+nb)=sb+nb by omega];exact u'
   ·intro p q h1 h2 h3
    have:=(f5.mem z).1
    rw[fr p (by omega),fr q (by omega)];exact up r (bj7 _ (bf9 _ (bf9 _ z))) p q h1 h2 h3
abbrev RS:=Option Unit×Nat
def P3 (sz pw:Nat):StateT SortSt Sem (Option Unit×Unit):=forIn [0:sz] ((none,()):Option Unit×Unit) λ_ _=>do
 let z <- get
 match (if (pendingOf z).size>1 then (pendingOf z)[(pendingOf z).size-2]? else none) with
 |some (_,_,o)=>if o<=pw then pure (.done (none,())) else do
   let q <- mergeAt' ((pendingOf z).size-2)
   if (!q)=true then pure (.done (some (),())) else pure (.yield (none,()))
 |_=>pure (.done (none,()))
def jn (sz lo n:Nat):StateT SortSt Sem (ForInStep RS):=do
 let z <- get
 match (pendingOf z).back? with
 |some (s1,n1,_)=>do
  let r <- P3 sz (power' sz (2*s1+n1) (2*s1+n1+n1+n) sz)
  match r.1 with
  |some u=>pure (.done (some u,lo))
  |none=>do
   modify λs=>setPending s ((pendingOf s).modify ((pendingOf s).size-1) λx=>(x.1,x.2.1,power' sz (2*s1+n1) (2*s1+n1+n1+n) sz))
   modify λs=>setPending s ((pendingOf s).push (lo,n,0))
   pure (.yield (none,lo+n))
 |_=>do
  modify λs=>setPending s ((pendingOf s).push (lo,n,0))
  pure (.yield (none,lo+n))
def P4 (sz mr lo:Nat):StateT SortSt Sem (ForInStep RS):=if lo >= sz then pure (.done (none,lo)) else do
 match <- countRun' lo (sz-lo) with
 |some n=>
  if n<mr then
   liftM (rule "list.sort.binary-insertion")
   let q <- binarySort' lo (min (sz-lo) mr) n
   if (!q)=true then pure (.done (some (),lo)) else jn sz lo (min (sz-lo) mr)
  else jn sz lo n
 |_=>pure (.done (some (),lo))
def P5 (sz:Nat):StateT SortSt Sem (Option Unit×Unit):=forIn [0:sz] ((none,()):Option Unit×Unit) λ_ _=>do
 let z <- get
 if (pendingOf z).size<=1 then pure (.done (none,())) else do
  let q <- mergeAt' (if ((if (pendingOf z).size-2>0 then (pendingOf z)[(pendingOf z).size-2-1]?.map (·.2.1) else none).any (·<((pendingOf z)[(pendingOf z).size-2+1]?.elim 0 (·.2.1))))=true then (pendingOf z).size-2-1 else (pendingOf z).size-2)
  if (!q)=true then pure (.done (some (),())) else pure (.yield (none,()))
theorem aG5:sortRuns'=(do
 let z <- get
 let r <- (forIn [0:(arrOf z).size] ((none,0):RS) λ_ r=>P4 (arrOf z).size (minRun' (arrOf z).size (arrOf z).size 0) r.2)
 match r.1 with
 |some u=>pure u
 |none=>do
  let q <- P5 (arrOf z).size
  match q.1 with
  |some u=>pure u
  |none=>pure ()):=by kernel_rfl
theorem P6 {lo nn:Nat}(n1:0<nn){pd:Array (Nat×Nat×Nat)}{a:Array Keyed}(r:Rn rk a (sk pd) lo)(u:Up rk a lo (lo+nn)):Rn rk a (sk (pd.push (lo,nn,0))) (lo+nn):=by
 have e:sk (pd.push (lo,nn,0))=sk pd++[(lo,nn)]:=by simp[sk]
 refine⟨by rw[e];exact r.ch.join ⟨rfl,n1,rfl⟩,λq hq=>?_⟩;rw[e]at hq;rcases bj1.mp hq with z|z
 ·exact r.up q z
 ·rw[bg2]at z
  subst z;exact u
theorem P7 (c:cE prog w A E s κ Ok rk)(o:bL Ok a0)(b:SB κ a0 pd st){lo n:Nat}{Q:ForInStep RS->SortSt->Prop}(n1:1<=n)(n2:lo+n<=a0.size)(rn:Rn rk (arrOf st) (sk pd) lo)(u:Up rk (arrOf st) lo (lo+n))(h:∀pd' st',SB κ a0 pd' st'->Rn rk (arrOf st') (sk pd') (lo+n)->Q (.yield (none,lo+n)) st'):wpS (model prog w) A E s (jn a0.size lo n) Q st:=by
 unfold jn;refine bg9 (wpS_get ?_);rw[b.pd];cases hb:pd.back? with
 |none=>exact bg9 (wpS_modify (bh4 (h (pd.push (lo,n,0)) _ ⟨b.pm,b.kd,b.ok,by show (pendingOf st).push _=_;rw[b.pd]⟩ (P6 n1 rn u))))
 |some q=>
  obtain⟨s1,m1,q3⟩:=q
  dsimp only;generalize power' a0.size (2*s1+m1) (2*s1+m1+m1+n) a0.size=pw;unfold P3
  refine bg9 (bw1 (bo7
   (I:=λ_ r st'=>r=(none,())/\∃pd,SB κ a0 pd st'/\Rn rk (arrOf st') (sk pd) lo/\Up rk (arrOf st') lo (lo+n))
   (Q:=λr st'=>r=(none,())/\∃pd,SB κ a0 pd st'/\Rn rk (arrOf st') (sk pd) lo/\Up rk (arrOf st') lo (lo+n)) ?_ (λ_ _ z=>z) ⟨rfl,pd,b,rn,u⟩) ?_)
  ·rintro t r st4 _ ht ⟨rfl,pd4,b4,r4,u4⟩
   refine bg9 (wpS_get ?_);rw[b4.pd];cases ho:(if pd4.size>1 then pd4[pd4.size-2]? else none) with
   |none=>exact bh4 ⟨rfl,pd4,b4,r4,u4⟩
   |some z=>
    obtain⟨z1,z2,z3⟩:=z
    have h1:pd4.size>1:=by
     by_cases y:pd4.size>1
     ·exact y
     ·rw[if_neg y]at ho;cases ho
    dsimp only;by_cases hp:z3<=pw
    ·rw[if_pos hp]
     exact bh4 ⟨rfl,pd4,b4,r4,u4⟩
    ·rw[if_neg hp]
     refine bg9 (P0 c o b4 (by omega) (by omega) r4 λpd5 st5 b5 _ r5 f5=>?_);exact bh4 ⟨rfl,pd5,b5,r5,λi j hi hij hj=>by rw[f5 i hi,f5 j (by omega)];exact u4 i j hi hij hj⟩
  ·rintro r st4 ⟨rfl,pd4,b4,r4,u4⟩
   refine bg9 (wpS_modify (bg9 (wpS_modify (bh4 ?_))));have e:sk (pd4.modify (pd4.size-1) λx=>(x.1,x.2.1,pw))=sk pd4:=by
    unfold sk;rw[Array.toList_modify];apply List.ext_getElem?;intro t;rw[bh5,bh5,List.getElem?_modify];cases pd4.toList[t]? with
    |none=>simp
    |some v=>by_cases y:pd4.size-1=t<;>simp[y]
   refine h ((pd4.modify (pd4.size-1) λx=>(x.1,x.2.1,pw)).push (lo,n,0)) _ ⟨b4.pm,b4.kd,b4.ok,?_⟩ (P6 n1 (by rw[e];exact r4) u4);show ((pendingOf st4).modify ((pendingOf st4).size-1) λx=>(x.1,x.2.1,pw)).push _=_;rw[b4.pd]
theorem aG6 (c:cE prog w A E s κ Ok rk)(o:bL Ok a0)(b:SB κ a0 #[] st){Q:Unit->SortSt->Prop}(h2:1<=a0.size)(h:∀st',(arrOf st').Perm a0->failedOf st'=none->Up rk (arrOf st') 0 a0.size->Q () st'):wpS (model prog w) A E s sortRuns' Q st:=by
 rw[aG5];refine bg9 (wpS_get ?_);rw[b.sz];generalize minRun' a0.size a0.size 0=mr
 refine bg9 (bw1 (bo7
  (I:=λx r st'=>∃lo pd,r=(none,lo)/\x<=lo/\lo<=a0.size/\SB κ a0 pd st'/\Rn rk (arrOf st') (sk pd) lo)
  (Q:=λr st'=>∃pd,r=(none,a0.size)/\SB κ a0 pd st'/\Rn rk (arrOf st') (sk pd) a0.size) ?_ ?_ ⟨0,#[],rfl,bg0 _,bk7 _,b,⟨rfl,λr hr=>absurd hr (by simp[sk])⟩⟩) ?_)
 ·rintro x r st1 _ hx ⟨lo,pd,rfl,xl,lz,b1,rn⟩
  unfold P4;dsimp only;by_cases hd:lo >= a0.size
  ·rw[if_pos hd]
   have e:lo=a0.size:=by omega
   subst e;exact bh4 ⟨pd,rfl,b1,rn⟩
  ·rw[if_neg hd]
   refine bg9 (aE9 c o b1 (by omega) (by omega) λn st2 b2 n1 n2 u2 l2=>?_);have rn2:=rn.same l2;dsimp only;by_cases hmr:n<mr
   ·rw[if_pos hmr]
    refine bg9 (wpS_lift (bw6 ⟨rfl,?_⟩));refine bg9 (aF0 c o b2 (by omega) (by omega) u2 λst3 b3 u3 l3=>?_);rw[if_neg (by decide)];exact P7 c o b3 (by omega) (by omega) (rn2.same l3) u3 λpd' st' b' r'=>⟨_,pd',rfl,by omega,by omega,b',r'⟩
   ·rw[if_neg hmr]
    exact P7 c o b2 n1 (by omega) rn2 u2 λpd' st' b' r'=>⟨lo+n,pd',rfl,by omega,by omega,b',r'⟩
 ·rintro r st1 ⟨lo,pd,rfl,xl,lz,b1,rn⟩
  have e:lo=a0.size:=by omega
  subst e
  exact⟨pd,rfl,b1,rn⟩
 ·rintro r st1 ⟨pd,rfl,b1,rn⟩
  dsimp only;unfold P5
  refine bg9 (bw1 (bo7
   (I:=λt r st'=>r=(none,())/\∃pd,SB κ a0 pd st'/\Rn rk (arrOf st') (sk pd) a0.size/\(pd.size+t<=a0.size∨pd.size<=1))
   (Q:=λr st'=>r=(none,())/\∃pd,SB κ a0 pd st'/\Rn rk (arrOf st') (sk pd) a0.size/\pd.size<=1) ?_ ?_ ⟨rfl,pd,b1,rn,.inl (by have:=rn.ch.len;rw[sI]at this;omega)⟩) ?_)
  ·rintro t r st2 _ ht ⟨rfl,pd,b2,rn2,pr⟩
   refine bg9 (wpS_get ?_);rw[b2.pd];by_cases h1:pd.size<=1
   ·rw[if_pos h1]
    exact bh4 ⟨rfl,pd,b2,rn2,h1⟩
   ·rw[if_neg h1]
    refine bg9 (P0 c o b2 ?_ (bg0 _) rn2 λpd' st3 b3 sz3 rn3 _=>?_)
    ·split<;>split<;>omega
    ·exact bh4 ⟨rfl,pd',b3,rn3,by omega⟩
  ·rintro r st2 ⟨rfl,pd,b2,rn2,pr⟩
   exact⟨rfl,pd,b2,rn2,by omega⟩
  ·rintro r st2 ⟨rfl,pd,b2,rn2,pr⟩
   refine bh4 (h st2 b2.pm b2.ok ?_);have ch:=rn2.ch;have up:=rn2.up;rw[<- sI]at pr;cases e:sk pd with
   |nil=>rw[e]at ch;exact absurd (show 0=a0.size from ch) (by omega)
   |cons r l=>
    rw[e]at ch up pr;have el:l = []:=List.eq_nil_of_length_eq_zero (by have:=pr;rw[bj5]at this;omega);subst el
    obtain⟨p,n⟩:=r
    obtain⟨q1,q2,q3⟩:=ch
    have q1:p=0:=q1;have q3:0+n=a0.size:=q3;subst q1
    have:=up (0,n) (by simp)
    rw[<- q3];exact this
end SO
namespace L2
open PySem PySem.Spec PyProof.Rows SO
abbrev dM (h:Heap)(a:ay)(vs:List av):Heap:=((h.update a (Obj.mapSeq λ_=>#[])).push (seqObj "tuple" vs.toArray 0)).push (seqObj "list" #[] 0)
abbrev fU (h:Heap)(vs:List av):Heap:=((h.push (seqObj "list" #[] 0)).update h.objs.size (Obj.mapSeq (·++vs.toArray))).push (seqObj "list" vs.toArray 0)
theorem aG7 {h:Heap}{vs:List av}{b:ay}{o:Obj}(e:h.get? b=some o):(fU h vs).get? b=some o:=by
 have l:=bg7 e;refine bf3 _ ?_;rw[Heap.get?_update_ne _ _ _ _ (bi7 l)];exact bf3 _ e
theorem P8 {h:Heap}{vs:List av}{a b:ay}{o:Obj}(hb:b≠a)(e:h.get? b=some o):(dM h a vs).get? b=some o:=by
 refine bf3 _ (bf3 _ ?_);rw[Heap.get?_update_ne _ _ _ _ hb];exact e
theorem P9 {prog:az}{w:bc}{A:ba}{E:av->ax->Prop}{s:ax}{a:ay}{vs:List av}{n:Nat}{P:PySem.Fin->ax->Prop}{κ:SortKind}{Ok:Keyed->Prop}{rk:Keyed->Int}(e:s.heap.get? a=some (seqObj "list" vs.toArray n))(h2:2<=vs.length)(big:vs.length<=sizeLine)(hk:∀Q:SortKind->ax->Prop,Q κ { s with heap:=dM s.heap a vs }->wpAny (model prog w) A (keyKind' vs.toArray) Q E { s with heap:=dM s.heap a vs })(c:cE prog w A E { s with heap:=dM s.heap a vs } κ Ok rk)(o:∀v∈vs,Ok (v,v))(q:∀out:List av,out.Perm vs->out.Pairwise (λu v=>rk (u,u)<=rk (v,v))->P (.done (.ret .none)) { s with heap:=sortedHeap s.heap a vs out.toArray }):wpAny (model prog w) A (Builtin.«list.sort» ⟨[.ref a],[]⟩) P E s:=by
 have la:=bg7 e;have cc:¬vs.toArray.size<2:=by simpa using h2
 obtain⟨k,ek⟩:∃k,(s.heap.update a (Obj.mapSeq λ_=>#[])).get? a=some (seqObj "list" #[] k):=⟨_,get?_update_seq e λ_=>#[]⟩
 have there:(dM s.heap a vs).get? a=some (seqObj "list" #[] k):=bf3 _ (bf3 _ ek);rw[list_sort_plain];apply bf1;apply listItems_at e rfl;apply bf1;refine listUpdate_at e rfl ?_ (by simpa using big) (bk7 _);apply bf1;apply seqEpoch_at ek rfl;apply bf1;refine wpAny_newTuple ?_ big;apply bf1;refine wpAny_newList ?_ (bk7 _);apply bn5;simp only[cc,bl6];apply bf1;refine hk _ ?_;have zl:(vs.toArray.zip vs.toArray).toList=vs.zip vs:=by simp
 apply bf1;refine bm8 (aG6 (a0:=vs.toArray.zip vs.toArray) (Q:=λ_ st'=>(arrOf st').Perm (vs.toArray.zip vs.toArray)/\failedOf st'=none/\Up rk (arrOf st') 0 (vs.toArray.zip vs.toArray).size) c (λx hx=>?_) ⟨Array.Perm.refl _,rfl,rfl,rfl⟩ (by simp;omega) λst' a1 a2 a3=>⟨a1,a2,a3⟩) ?_ λ_ _ z=>z
 ·have hx':x∈vs.zip vs:=by rw[<- zl];exact Array.mem_toList_iff.mpr hx
  obtain⟨y1,y2⟩:=mem_zip_self hx'
  have:=o x.1 y2
  have ex:x=(x.1,x.1):=bu8 rfl y1.symm;rw[ex];exact this
 ·rintro⟨⟨⟩,st'⟩ s' ⟨rfl,pm,ok,up⟩
  have lp:(arrOf st').toList.Perm (vs.zip vs):=by rw[<- zl];exact Array.perm_iff_toList_perm.mp pm
  have out:(arrOf st').map (·.2)=((arrOf st').toList.map (·.2)).toArray:=by apply Array.toList_inj.mp;rw[Array.toList_map]
  have op:((arrOf st').toList.map (·.2)).Perm vs:=by
   have:=lp.map (·.2)
   rw[uY]at this;exact this
  have sz:(arrOf st').size=vs.length:=by rw[pm.size_eq];simp
  dsimp only;apply bf1;apply seqEpoch_at there rfl;apply bf1;refine listUpdate_at there rfl ?_ (bk7 _) (by rw[Array.size_map,sz];exact Nat.le_succ_of_le big);rw[ok];simp only[bne_self_eq_false,bh2,bl6];refine bf5 ?_;have hq:=q _ op ?_
  ·rw[<- out]at hq;exact hq
  ·rw[bk6,bk8]
   intro i j hi hj hij;have hi':i<(arrOf st').size:=by simpa using hi
   have hj':j<(arrOf st').size:=by simpa using hj
   have h1:=up i j (bk7 _) (bn7 hij) (by simp;omega);rw[bZ hi',bZ hj']at h1;have dg:∀x∈(arrOf st').toList,(x.2,x.2)=x:=λx hx=>bu8 (mem_zip_self (lp.mem_iff.mp hx)).1.symm rfl
   rw[dg _ (bm1 hi),dg _ (bm1 hj)];simpa using h1
theorem aG8 {prog:az}{w:bc}{A:ba}{E:av->ax->Prop}{s:ax}{l:ay}{vs:List av}{Q:av->ax->Prop}{κ:SortKind}{Ok:Keyed->Prop}{rk:Keyed->Int}(hl:s.heap.IsList l vs.toArray)(h2:2<=vs.length)(big:vs.length<=sizeLine)(hk:∀(A:ba) (E:av->ax->Prop) (Q:SortKind->ax->Prop),Q κ { s with heap:=dM (fU s.heap vs) (s.heap.objs.size+1) vs }->wpAny (model prog w) A (keyKind' vs.toArray) Q E { s with heap:=dM (fU s.heap vs) (s.heap.objs.size+1) vs })(c:∀(A:ba) (E:av->ax->Prop),cE prog w A E { s with heap:=dM (fU s.heap vs) (s.heap.objs.size+1) vs } κ Ok rk)(o:∀v∈vs,Ok (v,v))(q:∀out:List av,out.Perm vs->out.Pairwise (λu v=>rk (u,u)<=rk (v,v))->Q (.ref (s.heap.objs.size+1)) { s with heap:=sortedAll s.heap vs out.toArray }):wpAny (model prog w) A (call (.builtin "sorted") [.ref l]) Q E s:=by
 apply Calls.call_function_entry kind_sorted plain_sorted entry_sorted (args_sorted1 _);simp only[Builtin.«sorted»];apply bf1 (m:=checkCount "sorted" 1 1 _);apply bf5;apply bf1;refine collect_list hl ?_ big;apply bf1;refine wpAny_newList ?_ big;have one:((s.heap.push (seqObj "list" #[] 0)).update s.heap.objs.size (Obj.mapSeq (·++vs.toArray))).objs.size=s.heap.objs.size+1:=(Heap.size_update _ _ _).trans (size_push' _ _);have at1:(fU s.heap vs).get? (s.heap.objs.size+1)=some (seqObj "list" vs.toArray 0):=one▸bg8 _ rfl
 change wpAny _ _ _ _ _ { s with heap:=fU s.heap vs }
 rw[one];apply bf1;apply bn5;refine bk9 slot_list_sort ⟨_,at1,rfl⟩ entry_list_sort ?_ (args_list_sort _);exact P9 (s:={ s with heap:=fU s.heap vs }) at1 h2 big (hk _ _) (c _ _) o λout a1 a2=>⟨_,rfl,bf5 ⟨_,rfl,q out a1 a2⟩⟩
def oW (h:Heap)(B:Int)(x:Keyed):Int:=match x.1 with
 |.ref b=>match h.get? b with
  |some ob=>match ob.data with
   |.seq us _=>numOf (us.getD 0 .none)*B+numOf (us.getD 1 .none)
   |_=>0
  |none=>0
 |_=>0
structure dJ (h:Heap)(M:Int)(v:av)(p q:Int):Prop where
 at_:∃b ob us n,v = .ref b/\h.get? b=some ob/\ob.cls = .type "tuple"/\ob.data = .seq (List.toArray us) n/\IntsAre us [p,q]
 lo:-M<=q
 hi:q<=M
theorem dJ.rk {h:Heap}{M B:Int}{x:Keyed}{p q:Int}(z:dJ h M x.1 p q):oW h B x=p*B+q:=by
 obtain⟨b,ob,us,n,e1,e2,_,e4,e5⟩:=z.at_
 cases e5 with
 |cons _ t e6=>cases e6 with
  |cons _ u e7=>cases e7;unfold oW;rw[e1];dsimp only;rw[e2];dsimp only;rw[e4];rfl
theorem wK {p q p' q' M:Int}(h1:-M<=q)(h2:q<=M)(h3:-M<=q')(h4:q'<=M):HT.b9 [p,q] [p',q']=decide (p*(2*M+1)+q<p'*(2*M+1)+q'):=by
 rw[HT.gP];have mm:∀{a b:Int},a<b->a*(2*M+1)+(2*M+1)<=b*(2*M+1):=λ{a b} z=>by
  have:=Int.mul_le_mul_of_nonneg_right (show a+1<=b by omega) (show 0<=2*M+1 by omega)
  rw[Int.add_mul,Int.one_mul]at this;exact this
 by_cases e:p=p'
 ·subst e
  rw[if_pos rfl,HT.gP];by_cases e2:q=q'
  ·subst e2
   rw[if_pos rfl,HT.qF,bf7 (by omega)]
  ·rw[if_neg e2]
   by_cases l:q<q'
   ·rw[bg4 l,bg4 (by omega)]
   ·rw[bf7 l,bf7 (by omega)]
 ·rw[if_neg e]
  by_cases l:p<p'
  ·have:=mm l
   rw[bg4 l,bg4 (by omega)]
  ·have:=mm (show p'<p by omega)
   rw[bf7 l,bf7 (by omega)]
theorem Q0 {prog:az}{w:bc}{A:ba}{E:av->ax->Prop}{s:ax}{M:Int}:cE prog w A E s (tuples' true) (λx=>∃p q,dJ s.heap M x.1 p q) (oW s.heap (2*M+1)):=by
 rintro x y ⟨p,q,z⟩ ⟨p',q',z'⟩ st Q hk hq;rw[z.rk,z'.rk]at hq;rw[<- wK z.lo z.hi z'.lo z'.hi]at hq
 obtain⟨b,ob,us,n,e1,e2,e3,e4,e5⟩:=z.at_
 obtain⟨b',ob',us',n',e1',e2',e3',e4',e5'⟩:=z'.at_
 rw[lt'_eq];refine bg9 (wpS_get ?_);rw[hk,e1,e1'];refine bg9 (wpS_lift (bv2 (PySem.W.kat_lt e2 e4 e2' e4' ?_)))
 have:=qR (prog:=prog) (w:=w) (A:=A) (s:=s) (Q:=λa s'=>s'=s/\wpS (model prog w) A E s (pure (some a)) Q st) 0 e5 e5' ⟨rfl,bh4 hq⟩
 simpa using this
theorem aG9 {vs vs':List av}(h:vs.Perm vs'):∀{xs:List V},aI xs vs->∃xs',xs'.Perm xs/\aI xs' vs':=by
 induction h with
 |nil=>intro xs r;exact⟨xs,br0 _,r⟩
 |cons v _ ih=>
  intro xs r;cases r with
  |cons r t=>
   obtain⟨xs',p,r'⟩:=ih t
   exact⟨_::xs',p.cons _,.cons r r'⟩
 |swap u v l=>
  intro xs r;cases r with
  |cons r t=>cases t with
   |cons r2 t2=>exact⟨_,List.Perm.swap _ _ _,.cons r2 (.cons r t2)⟩
 |trans _ _ ih1 ih2=>
  intro xs r
  obtain⟨x1,p1,r1⟩:=ih1 r
  obtain⟨x2,p2,r2⟩:=ih2 r1
  exact⟨x2,p2.trans p1,r2⟩
theorem wL {α:Type}(f:α->Int):∀l:List α,∃M:Int,∀y∈l,-M<=f y/\f y<=M
 |[]=>⟨0,λ_ h=>nomatch h⟩
 |x::l=>by
  obtain⟨M,h⟩:=wL f l
  refine⟨max M (max (f x) (- f x)),λy hy=>?_⟩;rcases bg6.mp hy with e|e
  ·subst e;omega
  ·have:=h y e;omega
def Q2 (K:ac):List V->Hp->VK->Prop:=λxs H Q=>∃(a:ay) (ys:List V) (key:V->ae),xs = [.ref a]/\aT K H a ys/\ys.length<=4096/\(∀y∈ys,∃b,y = .ref b/\aM K H b ((key y).map V.int)/\(key y).length=2)/\
 ∀l (zs:List V),H l=none->zs.Perm ys->zs.Pairwise (λu v=>HT.b9 (key v) (key u)=false)->Q (.ref l) (upd H l (.lst zs))
theorem aH0 {X:Cx}:cU X (.builtin "sorted") (Q2 X.K):=by
 intro ag s σ H xs us Q I r h
 obtain⟨a,ys,key,rfl,hs,hz4,hk,q⟩:=h
 obtain⟨u,rfl,ru⟩:=iC r
 cases ru
 obtain⟨its,rv,p,hz⟩:=I.list hs
 have hl:=rv.length;have hn:s.heap.objs.size<=s.heap.objs.size+1:=Nat.le_succ _;by_cases h2:its.length<2
 ·refine F1 p.isList h2 ?_
  obtain⟨e,he⟩:=sortedAll_at s.heap its its.toArray
  refine⟨.ref (s.heap.objs.size+1),upd H (s.heap.objs.size+1) (.lst ys),I.laid (t':=s.toks) (λ_ _=>sortedAll_old) hn ⟨hz,its,e,rv,he⟩,rfl,q _ ys (I.hok.fresh hn) (br0 _) ?_⟩
  match ys,hl with
  |[],_=>exact bs2
  |[_],_=>exact bn0 _ _
  |_::_::_,hl=>simp at hl;omega
 ·obtain⟨M,hM⟩:=wL (λy=>(key y).getD 1 0) ys
  have pv:∀{y:V}{v:av},aP y v->y∈ys->∃pp qq,key y = [pp,qq]/\dJ (dM (fU s.heap its) (s.heap.objs.size+1) its) M v pp qq:=λ{y v} ry hy=>by
   obtain⟨b,rfl,sq,l2⟩:=hk y hy
   cases ry
   obtain⟨us,ru,⟨ob,e1,c1,n1,d1⟩,_⟩:=I.tuple sq
   have ia:=iW ru;have mm:=hM _ hy
   match hkk:key (V.ref b),l2 with
   |[pp,qq],_=>
    rw[hkk]at ia mm
    exact⟨pp,qq,rfl,⟨b,ob,us,n1,rfl,P8 (bi7 (bu6 (bg7 e1))) (aG7 e1),c1,d1,ia⟩,mm.1,mm.2⟩
  have pvs:∀{xs:List V}{vs:List av},aI xs vs->(∀y∈xs,y∈ys)->∀v∈vs,∃pp qq,dJ (dM (fU s.heap its) (s.heap.objs.size+1) its) M v pp qq:=by
   intro xs vs r
   induction r with
   |nil=>intro _ v hv;cases hv
   |cons rx rt ih=>
    intro hh v hv;rcases bg6.mp hv with z|z
    ·subst z
     obtain⟨pp,qq,_,z⟩:=pv rx (hh _ bg1)
     exact⟨pp,qq,z⟩
    ·exact ih (λy hy=>hh y (bf9 _ hy)) v z
  have firsts:∀{vs:List av},(∀v∈vs,∃pp qq,dJ (dM (fU s.heap its) (s.heap.objs.size+1) its) M v pp qq)->∃fs:List av,PySem.W.KatTups (dM (fU s.heap its) (s.heap.objs.size+1) its) vs fs/\fs.length=vs.length/\∀v∈fs,∃i t,v=Value.int i t:=by
   intro vs
   induction vs with
   |nil=>intro _;exact⟨[],PySem.W.KatTups.nil,rfl,λ_ z=>nomatch z⟩
   |cons v vs ih=>
    intro hh
    obtain⟨fs,t1,t2,t3⟩:=ih λy hy=>hh y (bf9 _ hy)
    obtain⟨pp,qq,z⟩:=hh v bg1
    obtain⟨b,ob,us,n,rfl,e2,e3,e4,e5⟩:=z.at_
    cases e5 with
    |cons _ t e6=>exact⟨Value.int pp t::fs,PySem.W.KatTups.cons e2 e3 e4 (by simp) t1,by simp[t2],λv hv=>(bg6.mp hv).elim (λz=>⟨pp,t,z⟩) (t3 v)⟩
  have allp:=pvs rv λ_ h=>h
  obtain⟨fs,t1,t2,t3⟩:=firsts allp
  refine aG8 (κ:=tuples' true) (Ok:=λx=>∃pp qq,dJ (dM (fU s.heap its) (s.heap.objs.size+1) its) M x.1 pp qq) (rk:=oW (dM (fU s.heap its) (s.heap.objs.size+1) its) (2*M+1)) p.isList (by omega) (by rw[<- hl];exact hz)
   (λA E Q hQ=>?_) (λA E=>Q0 (s:={ s with heap:=dM (fU s.heap its) (s.heap.objs.size+1) its })) (λv hv=>allp v hv) λout pm so=>?_
  ·refine PySem.W.kat_kind (T:=.type "int") t1 (by omega) (λv hv=>?_) (by decide) ?_
   ·obtain⟨i,t,rfl⟩:=t3 v hv
    exact PySem.W.Looks.now
   ·have eT:(Value.type "int" != Value.type "tuple")=true:=by decide
    rw[eT];exact hQ
  ·obtain⟨zs,pz,rz⟩:=aG9 pm.symm rv
   obtain⟨e,he⟩:=sortedAll_at s.heap its out.toArray
   refine⟨.ref (s.heap.objs.size+1),upd H (s.heap.objs.size+1) (.lst zs),I.laid (t':=s.toks) (λ_ _=>sortedAll_old) hn ⟨by rw[pz.length_eq];exact hz,out,e,rz,he⟩,rfl,q _ zs (I.hok.fresh hn) pz ?_⟩;have lz:=rz.length;rw[bk8];intro i j hi hj hij;have s1:=bk8.mp so i j (by omega) (by omega) hij;have gi:=oA i hi rz;have gj:=oA j hj rz;simp only[bg5,bf4 hi,bf4 hj,bf4 (show i<out.length by omega),bf4 (show j<out.length by omega),bt4]at gi gj
   obtain⟨pi,qi,ki,vi⟩:=pv gi (pz.mem_iff.mp (bm1 hi))
   obtain⟨pj,qj,kj,vj⟩:=pv gj (pz.mem_iff.mp (bm1 hj))
   rw[dJ.rk (x:=(out[i],out[i])) vi,dJ.rk (x:=(out[j],out[j])) vj]at s1;rw[ki,kj,wK vj.lo vj.hi vi.lo vi.hi];exact bf7 (by omega)
end L2
namespace L2
open PySem PySem.Spec PyProof.Rows
theorem bM.at {P:az}{w:bc}{H:Hp}{h:Heap}{a:ay}{o:HO}(x:bM P w H h a o):∃ob,h.get? a=some ob:=by
 cases o with
 |lst xs=>obtain⟨_,_,_,_,e⟩:=x;exact⟨_,e⟩
 |tup xs=>obtain⟨_,_,_,⟨_,e,_⟩,_⟩:=x;exact⟨_,e⟩
 |dK kvs=>obtain⟨_,_,_,_,_,_,_,e,_⟩:=x;exact⟨_,e⟩
 |dT kvs=>obtain⟨_,_,_,_,_,_,_,e,_⟩:=x;exact⟨_,e⟩
 |set S n=>obtain⟨_,_,_,_,e,_⟩:=x;exact⟨_,e⟩
 |ins C dx fs=>obtain⟨_,_,_,e,_⟩:=x;exact⟨_,e⟩
 |own y=>exact x
 |xd fs=>obtain⟨_,⟨_,_,_,e,_⟩,_⟩:=x;exact⟨_,e⟩
 |rng lo hi=>obtain⟨_,_,_,e⟩:=x;exact⟨_,e⟩
 |frz ob u=>obtain⟨e,_⟩:=x;exact⟨_,e⟩
 |tbl ps=>exact⟨_,x⟩
 |met f y=>exact⟨_,x⟩
 |ext φ=>exact x.2.1
structure lC (P:az)(w:bc)(outer:List Env)(H:Hp)(s:ax)(H':Hp)(B:Heap)(a C:ay)(s':ax):Prop where
 os:s'.os=s.os
 bare:AllBare s'.gens
 un:Un (bN outer) [] H H' s.heap s'.heap
 hok:bO P w H' s'.heap
 fly:∃a0,Heap.FlyingW B outer a (.ref C) a0 s'.heap
 b0:∀b o,s.heap.get? b=some o->b∉bN outer->∃o',B.get? b=some o'
 b1:∀b o,s.heap.get? b=some o->H b=none->b∉bN outer->B.get? b=some o
 b2:∀b u o,H' b=some u->s'.heap.get? b=some o->B.get? b=some o
def dZ (P:az)(w:bc):gN:=λouter H s E e s'=>∃(H':Hp) (B:Heap) (a C:ay),e = .ref a/\lC P w outer H s H' B a C s'/\E (.ref C) none H'
section
variable {P:az}{w:bc}{outer:List Env}{H H':Hp}{s s':ax}{B h2:Heap}{a C:ay}
theorem lC.fresh (f:lC P w outer H s H' B a C s'):H' a=none:=by
 cases q:H' a with
 |none=>rfl
 |some u=>
  obtain⟨ob,e⟩:=(f.hok a u q).at
  have z:=f.b2 a u ob q e
  obtain⟨_,_,n,_⟩:=f.fly
  rw[n]at z;cases z
theorem lC.hok2 (f:lC P w outer H s H' B a C s')(k:B.StaysIn h2):bO P w H' h2:=λb u e=>
 (f.hok b u e).stay (λc v hc q=>by
  rcases hc with z|z
  ·subst z;exact k _ _ (f.b2 _ _ _ e q)
  ·exact k _ _ (f.b2 _ _ _ z q)) (λ_ q=>q) λ_ _ q=>q
end
section
variable {P:az}{w:bc}{K:ac}{mg:Str→Option av}{base:Heap}{N:List Str}{qual:Str}{scope:Scope}{f:ay}{cd:av}{A:ba}{outer:List Env}{s₀:ax}{H₀:Hp}{E₀ E₁:XK}
theorem sJ {ag:List (ay×Obj)}{σ:St}{H:Hp}{s:ax}(I:a6 (dG (dZ P w) P w K mg base N qual scope f cd A outer s₀ H₀ E₀) ag σ H s){b:ay}{o:Obj}(e:s₀.heap.get? b=some o)(n:b∉bN outer) :
  b∉bN (envOfC qual scope s₀.heap.objs.size f cd::outer):=λz=>by
 rcases bg6.mp (I.stkSub b z) with y|y
 ·have l:=bg7 e
  have y:b=s₀.heap.objs.size:=y;exact absurd l (by rw[y];exact bl1 _)
 ·exact n y
theorem aH1 (hE:∀c d H',E₁ c d H'->E₀ c d H'):nX (dZ P w) (dG (dZ P w) P w K mg base N qual scope f cd A outer s₀ H₀ E₀) E₁:=by
 intro ag σ H s e s' I hx
 obtain⟨H',B,a,C,e1,fl,q⟩:=hx
 subst e1;have I':=I.call' fl.os fl.un fl.hok fl.bare (ch:=[]) (λb z=>absurd z (by simp))
 obtain⟨a0,fly⟩:=fl.fly
 refine wpAny_leaves_onW I.ok.frames rfl fly λh' fly' up=>?_
 have slot:∀b o,s₀.heap.get? b=some o->b∈bN outer->∃sl,h'.get? b=some { o with slots:=sl }:=λb o e hb=>by
  obtain⟨sl,e1⟩:=I'.base.slot b o e (I.ok.frf b hb) hb (λz=>nomatch z)
  obtain⟨_,o2,e2,nf⟩:=I.ok.funs.mem hb
  rw[show (dG (dZ P w) P w K mg base N qual scope f cd A outer s₀ H₀ E₀).s₀=s₀ from rfl,e]at e2;cases e2
  obtain⟨sl',e3⟩:=up b _ e1 nf
  exact⟨sl',e3⟩
 have old:∀b o,s₀.heap.get? b=some o->H₀ b=none->b∉bN outer->B.get? b=some o:=λb o e n hb=>
  fl.b1 b o (I.base.keep b o e n hb (λz=>nomatch z)) (I.base.free b o e n (λz=>nomatch z)) (sJ I e hb)
 have old0:∀b o,s₀.heap.get? b=some o->b∉bN outer->∃o',B.get? b=some o':=λb o e hb=>by
  obtain⟨o1,e1⟩:=I.base.there b o e (λz=>nomatch z)
  exact fl.b0 b o1 e1 (sJ I e hb)
 refine⟨H',B,a,C,rfl,⟨I'.os,I'.bare,⟨λb o e n hb _=>fly'.1 _ _ (old b o e n hb),λb o e n hb _=>slot b o e hb,λb o e n hx=>I'.base.free b o e n hx,λb o e _=>?_,I'.base.tups,I'.base.frzs,I'.base.tbls⟩,fl.hok2 fly'.1,⟨a0,fly'⟩,old0,old,λb u o e h=>?_⟩,hE _ _ _ q⟩
 ·by_cases hb:b∈bN outer
  ·obtain⟨sl,e1⟩:=slot b o e hb
   exact⟨_,e1⟩
  ·obtain⟨o',e1⟩:=old0 b o e hb
   exact⟨o',fly'.1 _ _ e1⟩
 ·obtain⟨ob,e1⟩:=(fl.hok b u e).at
  have e2:=fl.b2 b u ob e e1;have e3:=fly'.1 _ _ e2;have h:h'.get? b=some o:=h;rw[h]at e3;cases e3;exact e2
theorem aH2 {ag:List (ay×Obj)}{σ:St}{H:Hp}{s:ax}{h':Heap}{e C:ay}{args:List av}(I:a6 (dG (dZ P w) P w K mg base N qual scope f cd A outer s₀ H₀ E₀) ag σ H s)(mx:Heap.MadeExcOf s.heap h' e (.ref C) args)(q:E₀ (.ref C) none H) :
  (dG (dZ P w) P w K mg base N qual scope f cd A outer s₀ H₀ E₀).xe (.ref e) { s with heap:=h' }:=by
 have tr:∀b u,H b=some u->b∉bN (envOfC qual scope s₀.heap.objs.size f cd::outer):=λb u z n=>by
  rw[I.stkFree b n]at z;cases z
 have inB:∀b o,s.heap.get? b=some o->b∉bN (envOfC qual scope s₀.heap.objs.size f cd::outer)->(PySem.W.hideAll s.heap (bN (envOfC qual scope s₀.heap.objs.size f cd::outer))).get? b=some o:=λb o z n=>PySem.W.hideAll_get _ z n
 refine wpAny_leaves_madeW (base:=PySem.W.hideAll s.heap (bN (envOfC qual scope s₀.heap.objs.size f cd::outer))) I.ok.frames rfl (λb o z=>PySem.W.of_hideAll _ z) (PySem.W.funFrames_hide I.stack λenv he b hb=>bt1.mpr ⟨env,he,hb⟩) mx λh'' t fly _ _ up=>?_
 have slot:∀b o,s₀.heap.get? b=some o->b∈bN outer->∃sl,h''.get? b=some { o with slots:=sl }:=λb o e hb=>by
  obtain⟨sl,e1⟩:=I.base.slot b o e (I.ok.frf b hb) hb (λz=>nomatch z)
  obtain⟨_,o2,e2,nf⟩:=I.ok.funs.mem hb
  rw[show (dG (dZ P w) P w K mg base N qual scope f cd A outer s₀ H₀ E₀).s₀=s₀ from rfl,e]at e2;cases e2
  obtain⟨sl',e3⟩:=up b _ (mx.keeps _ _ e1) nf
  exact⟨sl',e3⟩
 have old:∀b o,s₀.heap.get? b=some o->H₀ b=none->b∉bN outer->(PySem.W.hideAll s.heap (bN (envOfC qual scope s₀.heap.objs.size f cd::outer))).get? b=some o:=λb o e n hb=>
  inB b o (I.base.keep b o e n hb (λz=>nomatch z)) (sJ I e hb)
 have old0:∀b o,s₀.heap.get? b=some o->b∉bN outer->∃o',(PySem.W.hideAll s.heap (bN (envOfC qual scope s₀.heap.objs.size f cd::outer))).get? b=some o':=λb o e hb=>by
  obtain⟨o1,e1⟩:=I.base.there b o e (λz=>nomatch z)
  exact⟨o1,inB b o1 e1 (sJ I e hb)⟩
 refine⟨H,_,e,C,rfl,⟨I.os,I.bare,⟨λb o e n hb _=>fly.1 _ _ (old b o e n hb),λb o e n hb _=>slot b o e hb,λb o e n hx=>I.base.free b o e n hx,λb o e _=>?_,I.base.tups,I.base.frzs,I.base.tbls⟩,λb u z=>?_,⟨_,fly⟩,old0,old,λb u o z h=>?_⟩,q⟩
 ·by_cases hb:b∈bN outer
  ·obtain⟨sl,e1⟩:=slot b o e hb
   exact⟨_,e1⟩
  ·obtain⟨o',e1⟩:=old0 b o e hb
   exact⟨o',fly.1 _ _ e1⟩
 ·refine (I.hok b u z).stay (λc v hc y=>?_) (λ_ y=>y) λ_ _ y=>y
  rcases hc with z'|z'
  ·subst z';exact fly.1 _ _ (inB _ _ y (tr _ _ z))
  ·exact fly.1 _ _ (inB _ _ y (tr _ _ z'))
 ·obtain⟨ob,e1⟩:=(I.hok b u z).at
  have e2:=inB b ob e1 (tr b u z);have e3:=fly.1 _ _ e2;have h:h''.get? b=some o:=h;rw[h]at e3;cases e3;exact e2
end
structure mX (X:Cx)(E:XK):Prop where
 pass:nX (dZ X.prog X.w) X E
 made:∀(ag:List (ay×Obj)) (σ:St) (H:Hp) (s:ax) (h':Heap) (e C:ay) (args:List av),a6 X ag σ H s->Heap.MadeExcOf s.heap h' e (.ref C) args->E (.ref C) none H->X.xe (.ref e) { s with heap:=h' }
 own:PassesOwn (model X.prog X.w) X.A X.env X.xe
theorem aH3 {P:az}{w:bc}{K:ac}{mg:Str->Option av}{base:Heap}{N:List Str}{qual:Str}{scope:Scope}{f:ay}{cd:av}{A:ba}{outer:List Env}{s₀:ax}{H₀:Hp}{E₀ E₁:XK}(hE:∀c d H',E₁ c d H'->E₀ c d H') :
  mX (dG (dZ P w) P w K mg base N qual scope f cd A outer s₀ H₀ E₀) E₁:=
 ⟨aH1 hE,λ_ _ _ _ _ _ _ _ I mx q=>aH2 I mx (hE _ _ _ q),PassesOwn.leaving⟩
def Q3 (E:XK)(C:ay)(t:TA):TS:=λ_ σ H=>t σ H λvs H1=>vs.length<=sizeLine/\E (.ref C) none H1
theorem aH4 {X:Cx}{E:XK}{x:Str}{C:ay}{bm:List av}{B newId initId:String}{np ai pos:Pos}{e:Expr}{es:List Expr}{t:TA}(hX:mX X E)(hc:X.calm=true)(O:OwnCls x C bm newId X.mg X.base)(FB:ExcBaseFacts B newId initId bm)(ha:PA X (e::es) t)(hg:Gl X x)(hd:(x==("__debug__":Str))=false:=by decide)(he:starEach (e::es) X.env=(false,eval e X.env)::starEach es X.env:=by rfl)(hpl:(backTo ai (starEach es X.env)).any (·.1)=false:=by rfl) :
  PS X (.Raise (some (.Call (.Name x np) (e::es) [] ai)) none pos) (Q3 E C t):=by
 intro ag s σ H D I h
 obtain⟨tl,Na,nm,qn,bs,hx,sn,sub,ab,col,dd,k0,k1,k2,k3,k5,mN,hC,hN,hni,T⟩:=O.obj
 refine wpAny_Raise_call_subT (nm:=nm) (q:=qn) (N:=Na) (bs:=bs) (bm:=tl) (hdct:=hx) (sn:=sn) (sub:=sub) (ab:=ab) (col:=col) (dd:=dd) (k0:=k0) (k1:=k1) (k2:=k2) (k3:=k3) (k5:=k5) FB (C:=C) (mN:=mN) (T.hasType FB.hasBase) (I.ok.hd hc) (by rw[he];show (false||(backTo ai (starEach es X.env)).any (·.1))=false;rw[hpl];rfl) hni (nS I hg O.bound ⟨rfl,?_⟩ hd);have h1:=ha ai ag s σ H _ I h;rw[he]at h1 ⊢;refine Calls.evalArgs_plain (bm8 h1 (λus s2 h2=>?_) λ_ _ y=>y)
 obtain⟨vs,H2,I2,r,hl,q⟩:=h2
 have r:aI vs us:=r
 exact⟨rfl,by show us.length<=sizeLine;rw[<- r.length];exact hl,I2.bk _ _ hC,hN.keeps I2.bk,T.keeps I2.bk,λh' e' mx=>hX.made ag σ H2 s2 h' e' C _ I2 mx q⟩
theorem gB.okX {P:az}{w:bc}{K:ac}{mg:Str->Option av}{base:Heap}{x qual:Str}{st:Stmt}{f:ay}{fd:FuncData}{N ps:List Str}{k:Nat}{sp:Sp}(F:gB K x qual st f fd)(S:FnScope N ps (b7 st))(len:∀vs H Q E,sp vs H Q E->vs.length=ps.length)(hbody:∀(cdv:av) (A:ba) (outer:List Env) (s:ax) (H:Hp) (vs:List V) (Q:VK) (E:XK),bX k (A.deeper (envOfC qual (b7 st) s.heap.objs.size f cdv))->sp vs H Q E->
   ∃t,dQ (dG (dZ P w) P w K mg base N qual (b7 st) f cdv A outer s H E) (eJ st) t/\t { nx:=λ_ H'=>Q .non H',rt:=Q } (gO N vs) H):dR P w K mg base (dZ P w) (k+1) f fd ps sp:=by
 obtain⟨oc,od,kV,doc,pm,an,cdv,ct,osl,rfl,lk,hcd⟩:=F.ex
 exact zS lk hcd S len λA outer s H vs Q E hr hsp=>hbody cdv A outer s H vs Q E hr hsp
section
variable {X:Cx}{ag:List (ay×Obj)}{σ:St}{H H1 H':Hp}{s s1 s':ax}{B h2:Heap}{a C:ay}
theorem Q4 {oe:Obj}(I:a6 X ag σ H1 s1)(fl:lC X.prog X.w X.stack H1 s1 H' B a C s')(st:B.StaysIn h2)(up:s'.heap.UpToSlots h2)(he:h2.get? a=some oe) :
  a6 X ag σ (upd H' a (.frz oe (.own a))) { s' with heap:=h2 }:=by
 obtain⟨a0,fly⟩:=fl.fly
 have na:B.get? a=none:=fly.2.1;have nf:a∉bN X.stack:=λz=>by
  obtain⟨_,o,e,d⟩:=fly.2.2.1.mem z
  obtain⟨o2,vs,e2,_,d2,_⟩:=fly.first
  rw[e]at e2;cases e2;exact d vs d2
 have nb:∀b o,s1.heap.get? b=some o->b≠a:=λb o e z=>by
  subst z
  obtain⟨o',e'⟩:=fl.b0 _ o e nf
  rw[na]at e';cases e'
 have nt:∀b u,H' b=some u->b≠a:=λb u e z=>by
  subst z;rw[fl.fresh]at e;cases e
 have off:∀b,b≠X.env.locals->b∉X.fs->b∉bN X.stack:=λb n1 n2 z=>(bg6.mp (I.stkSub b z)).elim n1 n2
 have slot:∀b o,s1.heap.get? b=some o->b∈bN X.stack->∃sl,h2.get? b=some { o with slots:=sl }:=λb o e hb=>by
  obtain⟨sl,e1⟩:=fl.un.any e (I.stkFree b hb) (λz=>nomatch z)
  obtain⟨_,o2,e2,d⟩:=I.stack.mem hb
  rw[e]at e2;cases e2
  obtain⟨sl',e3⟩:=up b _ e1 d
  exact⟨sl',e3⟩
 have ns:∀m,s1.heap.Ns X.env.locals m->h2.Ns X.env.locals m:=λm hm=>by
  obtain⟨o,es,ep,e,r⟩:=hm
  obtain⟨sl,e1⟩:=fl.un.any e I.free (λz=>nomatch z)
  exact up.ns ⟨_,es,ep,e1,r⟩
 have hok:bO X.prog X.w (upd H' a (.frz oe (.own a))) h2:=λb u e=>by
  by_cases hb:b=a
  ·subst hb;rw[c8]at e;cases e;exact⟨he,_,he⟩
  ·rw[aY hb]at e
   exact (fl.hok2 st b u e).stay (λ_ _ _ q=>q) (λc q=>by rw[aY (nt c _ q)];exact q) λc xs q=>by rw[aY (nt c _ q)];exact q
 have bare:=fl.bare;have un:=fl.un;have b0:=fl.b0;have b1:=fl.b1;have os:=fl.os;clear fl fly up
 obtain⟨hh,g,d,t,os'⟩:=s'
 obtain rfl:os'=s1.os:=os;show a6 X ag σ _ { s1 with heap:=h2,gens:=g,drawn:=d,toks:=t };refine I.step (h':=h2) (g':=g) (d':=d) (t':=t) (ch:=[]) (λ_ z=>nomatch z) (λb o n1 n2 _ e n=>st _ _ (b1 b o e n (off b n1 n2))) (λb o n1 hb _ e n=>?_) (λb o _ e n=>by rw[aY (nb b o e)];exact un.free b o e n (λz=>nomatch z)) (λb o _ e=>?_)
  (λb xs q=>by rw[aY (nt b _ (un.tups b xs q))];exact un.tups b xs q) (λb o u q=>by rw[aY (nt b _ (un.frzs b o u q))];exact un.frzs b o u q) (λb ps q=>by
   obtain⟨more,q'⟩:=un.tbls b ps q
   exact⟨more,by rw[aY (nt b _ q')];exact q'⟩) ns hok bare
 ·by_cases hs:b∈bN X.stack
  ·exact slot b o e hs
  ·exact⟨o.slots,st _ _ (b1 b o e n hs)⟩
 ·by_cases hb:b∈bN X.stack
  ·obtain⟨sl,e1⟩:=slot b o e hb
   exact⟨_,e1⟩
  ·obtain⟨o',e1⟩:=b0 b o e hb
   exact⟨o',st _ _ e1⟩
abbrev Cx.suite (X:Cx)(a:ay):Cx:={ X with A:=X.A.mark (some (.ref a)),calm:=false,xe:=λ_ _=>False }
theorem Cx.Ok.suite {X:Cx}(ok:X.Ok)(a:ay):(X.suite a).Ok:=
 ⟨ok.mod,ok.kind,ok.glob,ok.blt,ok.above,ok.inj,ok.has,ok.cab,λz=>Bool.noConfusion z,ok.frames,ok.stk,ok.exf,ok.bs,ok.bsz,ok.noex,ok.exfs,ok.funs,ok.frf⟩
theorem a6.suite (I:a6 X ag σ H s)(a:ay):a6 (X.suite a) ag σ H s:=⟨I.ok.suite a,I.os,I.bare,I.base,I.loc,I.cell,I.free,I.freeC,I.pin,I.hok,I.len⟩
theorem a6.unsuite (I:a6 (X.suite a) ag σ H s)(ok:X.Ok):a6 X ag σ H s:=⟨ok,I.os,I.bare,I.base,I.loc,I.cell,I.free,I.freeC,I.pin,I.hok,I.len⟩
theorem sL {M:Model}{A:ba}{E:av->ax->Prop}{i:Nat}{x:Str}{pos:Pos}{Q:Unit->ax->Prop}(I:a6 X ag σ H s)(hN:X.N.Nodup)(hi:X.N[i]? = some x)(hk:X.env.scope.names.lookup x=some .local)(h:∀s',a6 X ag (σ.set i none) H s'->Q () s'):wpAny M A (do bindName X.env x .none;unbindBehindTheSuite X.env x pos) Q E s:=by
 obtain⟨m,hn,hl⟩:=id I.loc
 obtain⟨oL,_,_,hoL,_⟩:=id hn
 have ab:∀b o,X.s₀.heap.get? b=some o->b≠X.env.locals:=λb o e=>bi7 (bh0 (bg7 e) I.ok.above)
 refine wpAny_nameGoes_keeps hk hn (by rw[I.ok.kind];rfl) λh' v hn' hs=>?_
 refine h _ ⟨I.ok,I.os,I.bare,⟨λb o e n hb hx=>(hs.2 b (ab b o e)).trans (I.base.keep b o e n hb hx),λb o e n hb hx=>?_,I.base.free,λb o e hx=>?_,I.base.tups,I.base.frzs,I.base.tbls⟩,⟨_,hn',λj y v' e1 e2 e3=>?_⟩,λy c e=>?_,I.free,I.freeC,λp hp=>?_,λb u e=>?_,by simpa using I.len⟩
 ·obtain⟨sl,e1⟩:=I.base.slot b o e n hb hx
  exact⟨sl,(hs.2 b (ab b o e)).trans e1⟩
 ·obtain⟨o',e1⟩:=I.base.there b o e hx
  exact⟨o',(hs.2 b (ab b o e)).trans e1⟩
 ·by_cases hj:j=i
  ·subst hj
   have hjl:j<σ.length:=by rw[I.len];exact (bh8.mp hi).1
   rw[bo6 hjl]at e2;cases e2
  ·rw[bj6 (Ne.symm hj)]at e2
   obtain⟨u',r',q⟩:=hl j y v' e1 e2 e3
   refine⟨u',r',?_⟩;rcases q with⟨k,e⟩|⟨k,c,e,z⟩
   ·have ny:y≠x:=λz=>hj (tS hN e1 (z▸hi))
    exact .inl ⟨k,by simp[ny,e]⟩
   ·exact .inr ⟨k,c,e,z.sameBut hs (I.cne y c e)⟩
 ·obtain⟨w',z⟩:=I.cell y c e
  exact⟨w',z.sameBut hs (I.cne y c e)⟩
 ·obtain⟨e,n,ne,nf,d⟩:=I.pin p hp
  exact⟨(hs.2 p.1 ne).trans e,n,ne,nf,d⟩
 ·refine (I.hok b u e).stay (λc v hc q=>(hs.2 c λz=>?_).trans q) (λ_ q=>q) λ_ _ q=>q
  subst z;rcases hc with z|z
  ·subst z;rw[I.free]at e;cases e
  ·rw[I.free]at z;cases z
theorem aH5 {M:Model}{A:ba}{E:av->ax->Prop}{K:ac}{e C D:ay}{oe:Obj}{Q:Bool->ax->Prop}(k:K.In s.heap)(he:s.heap.get? e=some oe)(hc:oe.cls = .ref C)(h1:(PySem.W.clsIn K D).isSome=true)(h2:PySem.W.typeIn K (.ref D)=some (.type "type"))(h3:PySem.W.subIn K (.ref D) (.type "BaseException")=some true)(h4:PySem.W.subIn K (.ref C) (.ref D)=some true)(hq:Q true s):wpAny M A (excMatches (.ref e) (.ref D)) Q E s:=by
 obtain⟨h,g,d,t,os⟩:=s
 have k:K.In h:=k;have he:h.get? e=some oe:=he;have l1:PySem.W.Looks M h (isType (.ref D)) true:=by
  unfold PySem.W.clsIn at h1;split at h1
  ·rename_i c' d' cd' sl' ho
   intro A' Q' E' s' kk q;unfold isType loadHead;exact bf1 (wpAny_loadPart (kk _ _ (k _ _ ho)) (bf5 q))
  ·cases h1
 have l2:PySem.W.Looks M h (typeOf (.ref D)) (.type "type"):=PySem.W.looks_typeIn k h2;have l3:PySem.W.Looks M h (isSubtype (.ref D) (.type "BaseException")) true:=PySem.W.looks_subIn k h3;have l4:PySem.W.Looks M h (isSubtype (.ref C) (.ref D)) true:=PySem.W.looks_subIn k h4;have l5:PySem.W.Looks M h (typeOf (.ref e)) (.ref C):=hc▸(PySem.W.Looks.ld he).andThen .now;have l6:PySem.W.Looks M h (isInstance (.ref D) (.type "tuple")) false:=l2.andThen (PySem.W.Looks.of_pure tc_notTuple);have l7:PySem.W.Looks M h (isExcClass (.ref D)) true:=by
  unfold isExcClass;exact l1.andThen (by simpa using l3)
 have f:=tc_notTuple;unfold excMatches
 repeat (first|exact hq|(with_reducible refine l2.at ?_)|(with_reducible refine l7.at ?_)|(with_reducible refine l1.at ?_)|(with_reducible refine l3.at ?_)|(with_reducible refine l5.at ?_)|(with_reducible refine l4.at ?_)|wp_step)
end
def wM (D:dP)(i:Nat):dP:={ nx:=λσ H=>D.nx (σ.set i none) H,rt:=D.rt,bk:=λσ H=>D.bk (σ.set i none) H,ct:=λσ H=>D.ct (σ.set i none) H }
section
variable {X:Cx}{ag:List (ay×Obj)}{σ:St}{H H1 H':Hp}{s s1 s':ax}{B:Heap}{a C Ch:ay}{i:Nat}{x n:Str}{np pos hpos:Pos}{b₀:Stmt}{suite:List Stmt}{ts:TS}{D:dP}{b8:List ExceptHandler}
structure wN (K:ac)(Ch:ay):Prop where
 c1:(PySem.W.clsIn K Ch).isSome=true
 c2:PySem.W.typeIn K (.ref Ch)=some (.type "type")
 c3:PySem.W.subIn K (.ref Ch) (.type "BaseException")=some true
theorem aH6 (I:a6 X ag σ H1 s1)(fl:lC X.prog X.w X.stack H1 s1 H' B a C s')(hstk:X.stack=X.env::X.outer/\X.env.frame=some X.env.locals)(hg:Gl X x)(hm:X.mg x=some (.ref Ch))(ct:wN X.K Ch)(sub:PySem.W.subIn X.K (.ref C) (.ref Ch)=some true)(hN:X.N.Nodup)(hi:X.N[i]? = some n)(hl:X.env.scope.names.lookup n=some .local)(hs:dQ (X.suite a) (b₀::suite) ts)(q:∀oe:Obj,oe.cls = .ref C->ts (wM D i) (σ.set i (some (.ref a))) (upd H' a (.frz oe (.own a))))(hd:(x==("__debug__":Str))=false) :
  wpAny (model X.prog X.w) X.A (noteFrame (.ref a) X.env) (λ_ s₂=>wpAny (model X.prog X.w) X.A (setFlight (.ref a) none) (λ_ s₃=>wpAny (model X.prog X.w) X.A (handleBy (.ref a) X.env (.ExceptHandler (some (.Name x np)) (some n) (b₀::suite) hpos::b8)) (SP X ag D) X.xe s₃) X.xe s₂) X.xe s':=by
 obtain⟨a0,fly⟩:=fl.fly
 rw[hstk.1]at fly;refine wpAny_looks_onW (outer:=X.outer) (L:=X.env.locals) (by rw[I.ok.frames,hstk.1]) hstk.2 fly λh4 held up4=>wpAny_landsW held λh5 fly5 up5=>?_
 obtain⟨o5,v5,e5,c5,_⟩:=fly5.first
 have I5:=Q4 I fl fly5.1 (up4.trans up5) e5;refine wpAny_handleBy_cons (codeAny_handlers_test (nS (I5.suite a) hg hm ?_ hd)) (by intro z;cases z);refine aH5 I5.kIn e5 c5 ct.c1 ct.c2 ct.c3 sub ?_;show codeAny (model X.prog X.w) (X.A.mark (some (.ref a))) (.handlers (.ref a) [.ExceptHandler none (some n) (b₀::suite) hpos] X.env) _ _;refine codeAny_handlers_suite_as (lands_againW fly5 λh6 fly6 up6=>?_)
 obtain⟨o6,v6,e6,c6,_⟩:=fly6.first
 have I6:=Q4 I fl fly6.1 ((up4.trans up5).trans up6) e6;refine tT I6 hN hi (.inl hl) (v:=.ref a) rfl (λs7 I7=>?_) (.inr hl);refine bm8 (hs ag s7 _ _ (wM D i) (I7.suite a) (q o6 c6)) (λf s8 h8=>?_) λ_ _ z=>z.elim
 show wpAny (model X.prog X.w) X.A (do bindName X.env n .none;unbindBehindTheSuite X.env n hpos) (λ_ s9=>SP X ag D f s9) X.xe s8;cases f with
 |next=>obtain⟨σ',H',J,q⟩:=h8;exact sL (J.unsuite I.ok) hN hi hl λs9 J9=>⟨_,_,J9,q⟩
 |brk=>obtain⟨σ',H',J,q⟩:=h8;exact sL (J.unsuite I.ok) hN hi hl λs9 J9=>⟨_,_,J9,q⟩
 |cont=>obtain⟨σ',H',J,q⟩:=h8;exact sL (J.unsuite I.ok) hN hi hl λs9 J9=>⟨_,_,J9,q⟩
 |ret u=>obtain⟨v,σ',H',J,r,q⟩:=h8;exact sL (J.unsuite I.ok) hN hi hl λs9 J9=>⟨v,_,_,J9,r,q⟩
end
abbrev TB:=dP->XK->St->Hp->Prop
def XB (X:Cx)(ag:List (ay×Obj))(σ:St)(Ex:XK):av->ax->Prop:=λe s'=>∃H1 s1,a6 X ag σ H1 s1/\dZ X.prog X.w X.stack H1 s1 Ex e s'
def PB (X:Cx)(sts:List Stmt)(t:TB):Prop:=
 ∀(ag:List (ay×Obj)) (s:ax) (σ:St) (H:Hp) (D:dP) (Ex:XK),a6 X ag σ H s->t D Ex σ H->wpAny (model X.prog X.w) X.A (execs sts X.env) (SP X ag D) (XB X ag σ Ex) s
def aH7 (sp:Sp)(t:TA):TB:=λD Ex σ H=>t σ H λvs H1=>sp vs H1 (λ_ H2=>D.nx σ H2) Ex
def aH8 (c:TT)(t u:TB):TB:=λD Ex σ H=>c σ H λb H1=>if b=true then t D Ex σ H1 else u D Ex σ H1
section
variable {X:Cx}{k:Nat}{f Ch:ay}{fd:FuncData}{ps:List Str}{sp:Sp}{x n:Str}{p cp pos np hpos:Pos}{e c:Expr}{es:List Expr}{t:TA}{tb ub:TB}{tc:TT}{sa sb body:List Stmt}{i:Nat}{b₀:Stmt}{suite:List Stmt}{ts:TS}
theorem aH9 (F:dR X.prog X.w X.K X.mg X.base (dZ X.prog X.w) k f fd ps sp)(hr:bX k X.A)(hg:Gl X x)(hm:X.mg x=some (.ref f))(hk:PySem.W.keepIn X.K (.ref f)=true)(hb:jM X.K fd ps [])(ha:∀E,PA (X.wish E) (e::es) t)(hdb:(x==("__debug__":Str))=false:=by decide)(he:starEach (e::es) X.env=(false,eval e X.env)::starEach es X.env:=by rfl)(hpl:(backTo cp (starEach es X.env)).any (·.1)=false:=by rfl)(hsw:swapsWith (.Call (.Name x p) (e::es) [] cp) none pos.line X.env=pure false:=by rfl) :
  PB X [.Expr (.Call (.Name x p) (e::es) [] cp) pos] (aH7 sp t):=by
 intro ag s σ H D Ex I h;refine wpAny_execs_cons (wpAny_Expr_any ?_ I.quiet hsw);refine wpAny_Call_Name_kw (nS I hg hm ?_ hdb);refine PySem.W.callWith_K (h₀:=X.base) I.ok.mod.kin hk (aJ (ha (XB X ag σ Ex) cp ag s σ H _ (I.wish _) h) λus s1 h1=>⟨?_,?_⟩) he hpl
 ·obtain⟨_,_,I1,_⟩:=h1
  exact I1.kIn
 ·obtain⟨vs,H1,I1,r,q⟩:=h1
  have I1:=I1.unwish;have hl:us.length=ps.length:=by rw[<- r.length];exact F.len _ _ _ _ q
  have bd:=hb s1 us I1.kIn (by rw[bj9];exact hl);rw[bj9]at bd;refine wpAny_call (codeAny_mono (F.run X.A X.stack s1 H1 ⟨us,[]⟩ us vs _ Ex hr I1.env0 bd r q) λrs s' hq=>?_);cases rs with
  |error ev=>exact⟨H1,s1,I1,hq⟩
  |ok fl=>
   cases fl with
   |ret u=>
    obtain⟨v,H2,I2,_,q2⟩:=I1.after hq
    exact bv8 ⟨σ,H2,I2,q2⟩
   |next=>exact False.elim hq
   |brk=>exact False.elim hq
   |cont=>exact False.elim hq
theorem aI0 (hc:∀E,PT (X.wish E) c tc)(ha:PB X sa tb)(hb:PB X sb ub):PB X [.If c sa sb pos] (aH8 tc tb ub):=by
 intro ag s σ H D Ex I h;refine wpAny_execs_cons (wpAny_If (aJ (hc (XB X ag σ Ex) ag s σ H _ (I.wish _) h) λd s1 h1=>?_))
 obtain⟨H1,I1,q1⟩:=h1
 have I1:=I1.unwish;have fin:∀(fl:Flow) (s2:ax),SP X ag D fl s2->(match fl with|.next=>wpAny (model X.prog X.w) X.A (execs [] X.env) (SP X ag D) (XB X ag σ Ex) s2|fl=>SP X ag D fl s2):=λfl s2 q=>by
  cases fl with
  |next=>exact bv8 q
  |_=>exact q
 cases d with
 |true=>exact aJ (ha ag s1 σ H1 D Ex I1 q1) fin
 |false=>exact aJ (hb ag s1 σ H1 D Ex I1 q1) fin
def Q5 (K:ac)(Ch:ay)(i:Nat)(tb:TB)(ts:TS):TS:=λD σ H=>
 tb D (λc _ H'=>∀(a C:ay) (oe:Obj),c = .ref C->H' a=none->oe.cls = .ref C->PySem.W.subIn K (.ref C) (.ref Ch)=some true/\ts (wM D i) (σ.set i (some (.ref a))) (upd H' a (.frz oe (.own a)))) σ H
theorem aI1 (hstk:X.stack=X.env::X.outer/\X.env.frame=some X.env.locals)(hb:PB X body tb)(hg:Gl X x)(hm:X.mg x=some (.ref Ch))(ct:wN X.K Ch)(hN:X.N.Nodup)(hi:X.N[i]? = some n)(hl:X.env.scope.names.lookup n=some .local)(hs:∀a,dQ (X.suite a) (b₀::suite) ts)(hd:(x==("__debug__":Str))=false:=by decide):PS X (.Try body [.ExceptHandler (some (.Name x np)) (some n) (b₀::suite) hpos] [] [] pos) (Q5 X.K Ch i tb ts):=by
 intro ag s σ H D I h;refine wpAny_Try_except (bm8 (hb ag s σ H D _ I h) (λfl s1 q=>?_) (λev s1 q=>?_))
 ·cases fl with
  |next=>exact bv8 q
  |_=>exact q
 ·obtain⟨H1,s2,I1,H',B,a,C,e1,fl,q⟩:=q
  subst e1
  obtain⟨a0,fly⟩:=fl.fly
  obtain⟨o5,_,_,c5,_⟩:=fly.first
  exact aH6 I1 fl hstk hg hm ct (q a C o5 rfl fl.fresh c5).1 hN hi hl (hs a) (λoe hc=>(q a C oe rfl fl.fresh hc).2) hd
end
end L2
namespace L2
open PySem PySem.Spec PyProof.Rows PySem.Calls Builtin Builtin.ObjectAttr Builtin.Getset_descriptor
structure iJ (K:ac)(D:ay):Prop where
 cls:(PySem.W.clsIn K D).isSome=true
 ga:PySem.W.findIn K (.ref D) "__getattribute__" = some (some (.builtin "BaseException.__getattribute__"))
 gt:PySem.W.findIn K (.ref D) "__getattr__" = some none
 fc:PySem.W.findIn K (.ref D) "__class__" = some (some (.builtin "object.__class__"))
 fg:PySem.W.specialIn K (.builtin "object.__class__") "__get__" = some (some (.builtin "getset_descriptor.__get__"))
 ft:PySem.W.takesIn K (.builtin "object.__class__")=some true
 ob:PySem.W.mroIn K D (.type "object")=some true
 be:PySem.W.mroIn K D (.type "BaseException")=some true
def k8 (h:Heap)(x D:ay):Prop:=∃ox:Obj,h.get? x=some ox/\ox.cls = .ref D
theorem k8.type {h:Heap}{x D:ay}{M:Model}(I:k8 h x D):PySem.W.Looks M h (typeOf (.ref x)) (.ref D):=by
 obtain⟨ox,e,c⟩:=I
 exact c▸(PySem.W.Looks.ld e).andThen .now
section
variable {prog:az}{w:bc}{A:ba}{E:av→ax→Prop}{K:ac}{x D:ay}{h:Heap}{g:Array GenState}{d:Drawn}{t:Nat}{os:OsState}
theorem aI2 {M:Model}(F:iJ K D)(k:K.In h):PySem.W.Looks M h (find (.ref x) (.ref D) "__class__") (.bind (.builtin "getset_descriptor.__get__") (.builtin "object.__class__")):=by
 have L1:=PySem.W.looks_findIn (M:=M) k F.fc;have L2:=PySem.W.looks_specialIn (M:=M) k F.fg;have L3:=PySem.W.looks_takesIn (M:=M) k F.ft;unfold find;refine L1.andThen (PySem.W.Looks.andThen (a:=some (Value.builtin "getset_descriptor.__get__")) L2 ?_);refine PySem.W.Looks.andThen (a:=some (Value.builtin "getset_descriptor.__get__",Value.builtin "object.__class__")) ?_ (PySem.W.Looks.tag .now);unfold dataDescriptor?;exact L3.andThen .now
theorem aI3 {tp:av}{R:Result->ax->Prop}(F:iJ K D)(k:K.In h)(I:k8 h x D)(hq:R (.ok (.ret (.ref D))) ⟨h,g,d,t,os⟩):codeAny (model prog w) A (.call (.builtin "getset_descriptor.__get__") ⟨[.builtin "object.__class__",.ref x,tp],[]⟩) R ⟨h,g,d,t,os⟩:=by
 have L0:=I.type (M:=model prog w);have L1:=PySem.W.looks_mroIn (M:=model prog w) k F.ob;refine codeAny_call_builtin PySem.W.KF.slot_gs.plain PySem.W.KF.entry_gs (PySem.W.KF.slot_gs.check _ _ _ _ _ _ _ _ PySem.W.KF.type_class (PySem.W.KF.args_gs _ _ _) ?_);unfold Builtin.«getset_descriptor.__get__» descrGet;rw[PySem.W.dga_obj];refine bf1 (bf5 ?_);unfold descrGetter descrCheckInstance descrNameAndClass isInstance;simp only[PySem.W.KF.owner_class]
 repeat lk
 refine⟨Code.quiet_builtin _ (by decide +kernel),bs8 PySem.W.KF.entry_class ?_⟩;unfold Builtin.«object.__class__» shownTypeOf
 repeat lk
 exact hq
theorem aI4 {M:Model}{nameV:av}{Q:Unit->ax->Prop}(F:iJ K D)(k:K.In h)(I:k8 h x D)(hq:Q () ⟨h,g,d,t,os⟩):wpAny M A (checkBuiltinCall "BaseException.__getattribute__" ⟨[.ref x,nameV],[]⟩) Q E ⟨h,g,d,t,os⟩:=by
 have kd:builtinKind "BaseException.__getattribute__" = some .slot:=by decide +kernel
 have sp:splitId "BaseException.__getattribute__" = some ("BaseException","__getattribute__"):=by decide +kernel
 have L:PySem.W.Looks M h (isInstance (.ref x) (.type "BaseException")) true:=(I.type (M:=M)).andThen (PySem.W.looks_mroIn k F.be);have ha:=PySem.F.args_bexc_ga (.ref x) nameV;simp only[checkBuiltinCall,kd,sp];refine bf1 (L.at ?_)
 repeat (any_goals (first|assumption|wp_step))
theorem aI5 {tk:Tok}{Q:Fin->ax->Prop}(F:iJ K D)(k:K.In h)(I:k8 h x D)(hq:Q (.done (.ret (.ref D))) ⟨h,g,d,t,os⟩):wpAny (model prog w) A (Builtin.«object.__getattribute__» ⟨[.ref x,.str "__class__" tk],[]⟩) Q E ⟨h,g,d,t,os⟩:=by
 have L0:=I.type (M:=model prog w);have L1:=aI2 (M:=model prog w) F k (x:=x);refine bf1 (bf5 (bf1 (bf5 (bf1 (L0.at (bf1 (L1.at ?_)))))));show wpAny _ _ (holding [_] (call _ _) >>= ret) _ _ _;exact bf1 (bn5 (wpAny_call (aI3 F k I (bf5 hq))))
theorem aI6 {tk:Tok}{R:Result->ax->Prop}(F:iJ K D)(k:K.In h)(I:k8 h x D)(hq:R (.ok (.ret (.ref D))) ⟨h,g,d,t,os⟩):codeAny (model prog w) A (.call (.builtin "BaseException.__getattribute__") ⟨[.ref x,.str "__class__" tk],[]⟩) R ⟨h,g,d,t,os⟩:=
 codeAny_call_builtin PySem.F.excAttr_ValueError.ga.plain PySem.F.entry_bexc_ga (aI4 F k I (aI5 F k I hq))
theorem aI7 {Q:Option av->ax->Prop}(F:iJ K D)(k:K.In h)(I:k8 h x D)(hq:Q (some (.ref D)) ⟨h,g,d,t+1,os⟩):wpAny (model prog w) A (getAttr? (.ref x) "__class__") Q E ⟨h,g,d,t,os⟩:=by
 have L0:=I.type (M:=model prog w);have L1:=PySem.W.looks_findIn (M:=model prog w) k F.ga;have L2:=PySem.W.looks_findIn (M:=model prog w) k F.gt;have f3:=PySem.F.excAttr_ValueError.ga.bind (.ref x);unfold getAttr? getAttrBy? getAttrBy;refine bf1 (wpAny_mkText (bf1 (bv2 (bn5 (bf1 (L0.at (bf1 (L1.at ?_))))))));have nx:(onTheHeap (Value.ref D)&&Value.builtin "BaseException.__getattribute__"==Value.builtin "object.__getattribute__")=false:=by
  rw[show (Value.builtin "BaseException.__getattribute__"==Value.builtin "object.__getattribute__")=false by decide +kernel,bo2]
 dsimp only;rw[if_neg (by rw[nx];decide)];unfold getAttrByItsOwn hookBefore
 repeat (any_goals (first|assumption|(with_reducible refine L2.at ?_)|wp_step))
 exact aI6 F k I (PySem.W.handed_on rfl (bf5 hq))
end
theorem aI8 {K:ac}{x D:ay}(F:iJ K D):PySem.W.KitX K (.ref x) (.ref D) (λh=>k8 h x D) where
 ty:=λ_ _ _ I=>I.type
 it:=λM h k _=>by
  have z:=F.cls;unfold PySem.W.clsIn at z;split at z
  ·rename_i c' d' cd' sl' ho
   intro A' Q' E' s' kk q;unfold isType loadHead;exact bf1 (wpAny_loadPart (kk _ _ (k _ _ ho)) (bf5 q))
  ·cases z
 ne:=λh tp dd its n sl k htp=>by
  have z:=F.cls;refine bq8.mpr λq=>?_
  obtain rfl:D=tp:=Value.ref.inj (beq_iff_eq.mp q);unfold PySem.W.clsIn at z;split at z
  ·rename_i ho
   have y:=(k _ _ ho).symm.trans htp;cases y
  ·cases z
 ca:=λ{_ _ _ _ _ s} k I q=>by
  obtain⟨h,g,d,t,os⟩:=s
  exact aI7 F k I q
end L2
namespace Raw
open PySem PySem.W PySem.Calls PyProof.Rows
theorem aI9:isSubtype (.type "tuple") (.type "set")=pure false:=by rw[bx1];kernel_rfl
theorem aJ0:isSubtype (.type "tuple") (.type "frozenset")=pure false:=by rw[bx1];kernel_rfl
section
variable {prog:az}{w:bc}{A:ba}{E:av→ax→Prop}{s:ax}{l:ay}{items:Array av}{ns:ae}
abbrev gX (led:Bool):Obj:={ cls:=.type "set",dict:=none,data:=.set #[] 0 (.fresh 0 0 led) }
end
end Raw
namespace Core
open PySem L2 PP
def aJ1 (ns:ae):Bool:=((ns.zip (ns.drop 1)).map λp=>decide (p.1<p.2)).all id
def kin (ws:ae)(ls:aa)(S:ae)(h:Int):Bool:=!decide (h∈S)&&decide (ws.getD h.toNat 0<=(((v7 ls h).filter λx=>decide (x∈S)).length:Int))
def nextOf (ws:ae)(ls:aa)(S:ae):ae:=((List.range ws.length).map λ(i:Nat)=>(i:Int)).filter (kin ws ls S)
def oX (ws:ae)(ls:aa)(S:ae):Nat->ae
 |0=>S
 |k+1=>oX ws ls S k++nextOf ws ls (oX ws ls S k)
theorem aJ2 {ws:ae}{ls:aa}{S:ae}{x:Int}(h:kin ws ls S x=true):decide (x∈S)=false:=by
 unfold kin at h;cases e:decide (x∈S) with
 |false=>rfl
 |true=>rw[e]at h;cases h
def after (ws:ae)(ls:aa)(S:ae)(m:Nat):ad:=(List.range m).map λk=>nextOf ws ls (oX ws ls S k)
def dP (ws:ae)(ls:aa)(ns:ae)(m:Nat):Prop:=(∀k<m,nextOf ws ls (oX ws ls ns k)≠[])/\nextOf ws ls (oX ws ls ns m) = []
theorem aJ3 {ns:ae}{i:Nat}{x:PV}(h:(intz ns)[i]? = some x):∃n,x = .int n/\ns[i]? = some n:=by
 rw[bh5]at h;cases e:ns[i]? with
 |none=>rw[e]at h;cases h
 |some n=>rw[e]at h;exact⟨n,(bj4 h).symm,rfl⟩
theorem oY {lo:Int}{n i:Nat}{x:PV}(h:(jR lo n)[i]? = some x):x = .int (lo+i)/\i<n:=by
 have hi:i<n:=by
  have:=(bh8.mp h).1
  rwa [jS]at this
 rw[J2 hi]at h
 exact⟨(bj4 h).symm,hi⟩
def rng (n:Nat):ae:=(List.range n).map λ(i:Nat)=>(i:Int)
theorem sM {α:Type}{l:List α}{p:α->Bool}{i:Nat}{x:α}(h:l[i]? = some x):(l.take (i+1)).filter p=(l.take i).filter p++(if p x=true then [x] else []):=by
 rw[bq9,h,List.filter_append];congr 1;cases e:p x<;>simp[e]
theorem aJ4 (a:ae):(intz a).length=a.length:=bf6 _
def IsI (x:PV)(ns:ae):Prop:=x = .tup (intz ns)∨x = .lst (intz ns)
theorem eQ:∀(ls:aa),flats (ls.map λl=>PV.tup [.int l.1,.int l.2])=true
 |[]=>rfl
 |l::r=>by
  show (flat (.tup [.int l.1,.int l.2])&&flats (r.map λl=>PV.tup [.int l.1,.int l.2]))=true;rw[eQ r];rfl
theorem aJ5 (ns:ae):flat (.tup (intz ns))=true:=vD ns
abbrev gJ (t:aR)(N:List Str)(p:cV):Prop:=∀xs Q,p xs Q->t { nx:=λ_=>Q .non,rt:=Q } (eN N xs)
def inB (n:Nat)(x:Int):Bool:=decide (0<=x)&&decide (x<(n:Int))
structure DS (ps:List (aH×PV))(S:ae):Prop where
 has:∀i:Int,(bY ps (Sum.inl i:aH)).isSome=decide (i∈S)
 len:ps.length<=S.length
 fl:flats (ps.map (·.2))=true
section
variable {κ:Type}[DecidableEq κ]
theorem jB {p:κ×PV}{r:List (κ×PV)}{k:κ}(e:p.1=k):bY (p::r) k=some p.2:=by simp[bY,br3,e]
theorem jC {p:κ×PV}{r:List (κ×PV)}{k:κ}(e:¬p.1=k):bY (p::r) k=bY r k:=by simp[bY,br3,e]
theorem p5 (k:κ):∀kvs:List (κ×PV),(kvs.any λkv=>decide (kv.1=k))=(bY kvs k).isSome
 |[]=>rfl
 |p::r=>by
  rw[List.any_cons];by_cases e:p.1=k
  ·simp only[jB e,bg4 e,Bool.true_or,Option.isSome_some]
  ·rw[jC e,bf7 e,Bool.false_or];exact p5 k r
theorem Q6 (k j:κ)(y:PV):∀kvs:List (κ×PV),bY (kvs.map λkv=>if kv.1=k then (kv.1,y) else kv) j=(bY kvs j).map λx=>if j=k then y else x
 |[]=>rfl
 |p::r=>by
  have ih:=Q6 k j y r;rw[bi8];by_cases h:p.1=k
  ·rw[if_pos h]
   by_cases e:p.1=j
   ·rw[jB (p:=(p.1,y)) e,jB e,Option.map_some,if_pos (e.symm.trans h)]
   ·rw[jC (p:=(p.1,y)) e,jC e,ih]
  ·rw[if_neg h]
   by_cases e:p.1=j
   ·rw[jB (p:=p) e,jB e,Option.map_some,if_neg (λz=>h (e.trans z))]
   ·rw[jC (p:=p) e,jC e,ih]
theorem Q7 (k j:κ)(y:PV):∀kvs:List (κ×PV),bY kvs k=none->bY (kvs++[(k,y)]) j=if j=k then some y else bY kvs j
 |[],_=>by
  by_cases e:k=j
  ·rw[if_pos e.symm];exact jB (p:=(k,y)) e
  ·rw[if_neg (λz=>e z.symm)];exact jC (p:=(k,y)) e
 |p::r,hn=>by
  rw[List.cons_append];have hk:¬p.1=k:=λz=>by rw[jB z]at hn;cases hn
  rw[jC hk]at hn;have ih:=Q7 k j y r hn;by_cases e:p.1=j
  ·rw[jB e,jB e,if_neg (λz=>hk (e.trans z))]
  ·rw[jC e,jC e,ih]
theorem wO (kvs:List (κ×PV))(k j:κ)(y:PV):bY (dH kvs k y) j=if j=k then some y else bY kvs j:=by
 unfold dH;by_cases a:(kvs.any λkv=>decide (kv.1=k))=true
 ·rw[if_pos a,Q6]
  rw[p5]at a;by_cases e:j=k
  ·obtain⟨x,hx⟩:=Option.isSome_iff_exists.mp a
   rw[if_pos e,e,hx,Option.map_some,if_pos rfl]
  ·rw[if_neg e]
   cases bY kvs j with
   |none=>rfl
   |some x=>rw[Option.map_some,if_neg e]
 ·rw[if_neg a]
  refine Q7 k j y kvs ?_;rw[p5]at a;cases q:bY kvs k with
  |none=>rfl
  |some x=>rw[q]at a;exact (a rfl).elim
theorem Q8 (kvs:List (κ×PV))(k:κ)(v:PV):(dH kvs k v).length<=kvs.length+1:=by
 unfold dH;split
 ·rw[bf6];omega
 ·rw[bh1,bj5,List.length_nil];omega
end
theorem Q9 {ws:ae}{h:Int}(h0:0<=h)(h1:h<(ws.length:Int)):atI (intz ws) h=some (.int (ws.getD h.toNat 0)):=by
 refine aw2 h0 ?_
 have:h.toNat<ws.length:=by omega
 rw[bh5,bg5,bf4 this];rfl
def tups (rs:ad):List PV:=rs.map λr=>PV.tup (intz r)
end Core
namespace PP
open PySem L2
def lD:List PV->(PV->Prop)->Prop:=λxs Q=>∃ys:ad,xs = [.lst (ys.map λr=>PV.tup (intz r))]/\ys.length<64/\(∀y∈ys,y≠[])/\∀zs:ad,zs.Perm ys->zs.Pairwise (λu v=>HT.b9 v u=false)->Q (.lst (zs.map λr=>PV.tup (intz r)))
end PP
namespace Core
open PySem L2 PP
theorem aJ6 (g:Tg)(n:Int):Nw g (.int n):=by cases g<;>first|exact trivial|rfl
def p6 (x:PV)(ns:ae):Prop:=x = .scr ns∨x = .lst (intz ns)
theorem p6.seq {x:PV}{ns:ae}(h:p6 x ns):j5 x=some (intz ns):=by rcases h with rfl|rfl<;>rfl
theorem p6.len {x:PV}{ns:ae}(h:p6 x ns):vN x=some ns.length:=by
 rcases h with rfl|rfl
 ·rfl
 ·show some (intz ns).length=_
  rw[aJ4]
def lE:cV:=λxs Q=>∃x ns k,xs = [x,.int k]/\p6 x ns/\0<=k/\Q (.int (ns.getD k.toNat 0))
def R0:aR:=(aL (cG (aX (jX (a5 1) (aN gG (a7 (a5 0) aE)))) (bR (cQ (a5 0) (a5 1))) cK)
 (bR (qC (.int 0))))
theorem aJ7:gJ R0 ["script","k"] lE:=by
 rintro xs Q ⟨x,ns,k,rfl,hx,h0,q⟩;refine⟨_,rfl,_,rfl,_,_,rfl,hx.len,_,_,rfl,rfl,_,rfl,?_⟩;by_cases h:k<(ns.length:Int)
 ·rw[bg4 h]
  exact bD ⟨_,rfl,_,rfl,_,_,_,hx.seq,rfl,Q9 h0 h,aJ6 _ _,q⟩
 ·rw[bf7 h]
  rw[bg5,List.getElem?_eq_none (by omega)]at q;exact aU ⟨trivial,q⟩
def a9 (ls:aa):List PV:=ls.map λl=>PV.tup [.int l.1,.int l.2]
theorem dE (ls:aa):(a9 ls).length=ls.length:=bf6 _
def dB (l m:Int×Int):Prop:=l.1<m.1∨(l.1=m.1/\l.2<m.2)
abbrev si (n:Int):Option Slot:=some (.sh true (.int n))
def mY:cV:=λxs Q=>∃i,xs = [.int i]/\Q (.bl true)
def R3 (K:ac):aR:=(bR (kQ (jV K "int" (a5 0)) (qZ (jV K "bool" (a5 0)))))
theorem aJ8 {K:ac}(k1:PySem.W.kitOne K (.type "int") (.type "int")=some true)(k2:PySem.W.kitOne K (.type "int") (.type "bool")=some false):gJ (R3 K) ["found"] mY:=by
 rintro xs Q ⟨i,rfl,q⟩
 exact⟨_,rfl,_,_,rfl,k1,_,rfl,bD ⟨_,rfl,_,_,rfl,k2,_,rfl,trivial,q⟩⟩
theorem jD {ls:aa}{i:Nat}{x:PV}(h:(a9 ls)[i]? = some x):∃l,x = .tup [.int l.1,.int l.2]/\ls[i]? = some l:=by
 unfold a9 at h;rw[bh5]at h;cases e:ls[i]? with
 |none=>rw[e]at h;cases h
 |some n=>rw[e]at h;exact⟨n,(bj4 h).symm,rfl⟩
end Core
namespace PP
open PySem L2 PyProof.Rows
section
variable {X:Cx}{a b e:Expr}{ta tb te:aC}{tr:cJ}{pos p2 p3 pos2:Pos}
def wP:V->Int
 |.int i=>i
 |_=>0
def jE (H:Hp):V->ae
 |.ref a=>match H a with
  |some (.tup us)=>us.map wP
  |_=>[]
 |_=>[]
theorem aJ9 {H:Hp}{a:ay}{ns:ae}(h:H a=some (.tup (ns.map V.int))):jE H (.ref a)=ns:=by
 show (match H a with|some (.tup us)=>us.map wP|_=>[])=ns;rw[h];show (ns.map V.int).map wP=ns;rw[br4];exact List.map_id _
theorem wQ {K:ac}{M:ay->Prop}{H:Hp}:∀{us:List V}{ys:ad},Reps K M H us (ys.map λr=>PV.tup (intz r))->us.map (jE H)=ys/\∀u∈us,∃b,u = .ref b/\H b=some (.tup ((jE H u).map V.int))
 |_,[],.nil=>⟨rfl,λu h=>nomatch h⟩
 |_,y::ys,.cons r t=>by
  obtain⟨a,us,rfl,h,r1⟩:=r.sqT
  obtain rfl:=r1.ofInts
  obtain⟨h1,h2⟩:=wQ t
  have hk:=aJ9 h;refine⟨by rw[bi8,h1,hk],λu hu=>?_⟩;rcases bg6.mp hu with rfl|hu
  ·exact⟨a,rfl,by rw[hk];exact h⟩
  ·exact h2 u hu
theorem wR {K:ac}{M:ay->Prop}{H:Hp}:∀{us:List V},(∀u∈us,∃b,u = .ref b/\H b=some (.tup ((jE H u).map V.int)))->Reps K M H us ((us.map (jE H)).map λr=>PV.tup (intz r))
 |[],_=>.nil
 |u::us,h=>by
  obtain⟨b,rfl,hb⟩:=h u bg1
  exact .cons (.tup hb (Reps.intz _)) (wR λv hv=>h v (bf9 _ hv))
theorem aK0:gU X lD (F3 X.K):=by
 rintro H vs xs Q Q' r ⟨ys,rfl,hl,hne,q⟩ k
 obtain⟨v,rfl,r1⟩:=r.one
 obtain⟨a,us,rfl,_,h,r2⟩:=r1.sqL
 obtain⟨h1,h2⟩:=wQ r2
 have lr:=r2.length;rw[bf6]at lr;refine⟨a,us,jE H,rfl,aT.of h,by omega,λy hy=>?_,λl zs hl' pm so=>?_⟩
 ·obtain⟨b,rfl,hb⟩:=h2 y hy
  refine⟨b,rfl,aM.of hb,hne _ ?_⟩;rw[<- h1];exact bh9.mpr ⟨_,hy,rfl⟩
 ·have hz:∀u∈zs,∃b,u = .ref b/\H b=some (.tup ((jE H u).map V.int)):=λu hu=>h2 u (pm.mem_iff.mp hu)
  refine k _ _ _ (bK hl' _) (.lst hl' c8 ((wR hz).same (bK hl' _) λ_ z=>z)) (q _ ?_ ?_)
  ·rw[<- h1];exact pm.map _
  ·rw[bk6];exact so
theorem wS (B:Bt X.mg)(ha:QA X [e] tr)(hg:Gl X "sorted":=by rfl)(he:starEach [e] X.env=(false,eval e X.env)::starEach [] X.env:=by rfl)(hpl:(backTo pos (starEach [] X.env)).any (·.1)=false:=by rfl):QE X (.Call (.Name "sorted" p2) [e] [] pos) (aN lD tr):=
 kZ av7 aK0 hg B.sorted PyProof.Rows.boot_sorted ha (he:=he) (hpl:=hpl)
end
end PP
namespace Core
open PySem L2 PP
def two (l:Int×Int):ae:=[l.1,l.2]
def p7 (r:ae):Int×Int:=(r.getD 0 0,r.getD 1 0)
theorem iK (ls:aa):a9 ls=(ls.map two).map λr=>PV.tup (intz r):=by
 unfold a9;rw[br4];rfl
theorem wT {zs:ad}{ls:aa}(h:zs.Perm (ls.map two)):∃ls':aa,zs=ls'.map two/\ls'.Perm ls:=by
 refine⟨zs.map p7,?_,?_⟩
 ·rw[br4]
  have:∀z∈zs,(two ∘ p7) z=z:=λz hz=>by
   obtain⟨l,_,rfl⟩:=bh9.mp (h.mem_iff.mp hz)
   rfl
  rw[List.map_congr_left this,List.map_id']
 ·have:=h.map p7
  rw[br4]at this;have e:ls.map (p7 ∘ two)=ls:=by
   have:∀l∈ls,(p7 ∘ two) l=id l:=λl _=>rfl
   rw[List.map_congr_left this,List.map_id]
  rw[e]at this;exact this
theorem sN {ls:aa}(so:(ls.map two).Pairwise λu v=>HT.b9 v u=false)(nd:ls.Nodup):ls.Pairwise dB:=by
 rw[bk6]at so;refine (List.pairwise_and_iff.mpr ⟨so,nd⟩).imp λ{a b} h=>?_
 obtain⟨h1,h2⟩:=h
 unfold two at h1;rw[HT.gP]at h1;unfold dB;by_cases e:b.1=a.1
 ·rw[if_pos e,HT.gP]at h1
  by_cases e2:b.2=a.2
  ·exact absurd (bu8 e.symm e2.symm) h2
  ·rw[if_neg e2]at h1
   have:=bt5 h1
   omega
 ·rw[if_neg e]at h1
  have:=bt5 h1
  omega
def bF (l:Int×Int):List aH:=[Sum.inl l.1,Sum.inl l.2]
def R4:cV:=λxs Q=>∃ns:ae,xs = [.scr ns]/\ns.length<=63/\Q (.bl true)
structure aK1 (K:ac):Prop where
 ii:PySem.W.kitOne K (.type "int") (.type "int")=some true
 ib:PySem.W.kitOne K (.type "int") (.type "bool")=some false
 tt:PySem.W.kitOne K (.type "tuple") (.type "tuple")=some true
 ll:PySem.W.kitOne K (.type "list") (.type "list")=some true
 bb:PySem.W.kitOne K (.type "bool") (.type "bool")=some true
theorem wU (K:ac):aK1 K:=by
 have same:∀n:String,PySem.W.kitMeta n=true->True:=λ_ _=>trivial
 refine⟨?_,?_,?_,?_,?_⟩
 ·unfold PySem.W.kitOne;rw[if_pos (by decide)]
 ·have e:(if PySem.W.kitMeta "bool" = true then (fastBuiltinMro "int").map (·.contains (Value.type "bool")) else none)=some false:=by decide +kernel
  unfold PySem.W.kitOne;rw[if_neg (by decide)];exact e
 ·unfold PySem.W.kitOne;rw[if_pos (by decide)]
 ·unfold PySem.W.kitOne;rw[if_pos (by decide)]
 ·unfold PySem.W.kitOne;rw[if_pos (by decide)]
end Core
namespace PP
open PySem L2 PyProof.Rows
theorem aK2 {P:az}{w:bc}{K:ac}{mg:Str->Option av}{base:Heap}{k:Nat}{x:Str}{ps N:List Str}{p:cV}{st:Stmt}{f:ay}{fd:FuncData}(F:gB K x x st f fd)(S:FnScope N ps (b7 st))(len:∀xs Q,p xs Q->xs.length=ps.length)(body:∀(cdv:av) (A:ba) (outer:List Env) (s:ax) (H:Hp) (E:XK),bX k (A.deeper (envOfC x (b7 st) s.heap.objs.size f cdv))->
   ∃t,fH (dG fQ P w K mg base N x (b7 st) f cdv A outer s H E).nox (eJ st) t/\∀xs Q,p xs Q->t { nx:=λ_=>Q .non,rt:=Q } (eN N xs)):dR P w K mg base fQ (k+1) f fd ps (oG K p):=by
 refine F.ok S (λvs H Q E h=>?_) (λcdv A outer s H vs Q E hr h=>?_)
 ·obtain⟨xs,Qp,r,q,_⟩:=h
  rw[r.length];exact len xs Qp q
 ·obtain⟨xs,Qp,r,q,k⟩:=h
  obtain⟨t,ht,hq⟩:=body cdv A outer s H E hr
  refine⟨_,ht,λ_=>False,eN N xs,_,w9 r,hq xs Qp q,?_,?_,?_,?_⟩
  ·exact λW' σ' H' ρ' e px q=>k _ _ _ px.same .non q
  ·exact λv H' x s r q=>k _ _ _ s r q
  ·exact λW' σ' H' ρ' e px q=>q
  ·exact λW' σ' H' ρ' e px q=>q
def sO (K:ac):Sp:=λvs H Q _=>∃(a:ay) (ns:ae),vs = [.ref a]/\j4 K H a ns/\ns.length<=63/\∀H',Q (.bl true) H'
theorem aK3 {P:az}{w:bc}{K:ac}{mg:Str->Option av}{base:Heap}{k:Nat}{f:ay}{fd:FuncData}(F:dR P w K mg base fQ k f fd ["script"] (oG K Core.R4)):dR P w K mg base fQ k f fd ["script"] (sO K):=
 F.imp λvs H Q E h=>by
  obtain⟨a,ns,rfl,hs,hl,q⟩:=h
  refine⟨[.scr ns],λz=>z = .bl true,.cons (.scr hs) .nil,⟨ns,rfl,hl,rfl⟩,?_⟩;rintro v H' x _ r rfl;cases r;exact q H'
theorem aK4 {K:ac}{H:Hp}{a:ay}{ns:ae}(hO:qG H)(h:aT K H a (ns.map V.int)):j4 K H a ns:=by
 rcases h with (h|⟨o,h⟩)|h
 ·rcases hO a with e|⟨o,xs,e⟩<;>(rw[h]at e;cases e)
 ·exact .inl ⟨o,h⟩
 ·exact .inr h
end PP
namespace PyProof.Rows
open PySem
end PyProof.Rows
namespace PP
open PySem L2 PyProof.Rows
section
variable {X:Cx}{a b e:Expr}{ta tb te:aC}{tr:cJ}{pos p2:Pos}
def wV:PV->Tg->PV->Tg->PK->Prop:=λx _ y _ Q=>∃xs ys,x = .lst xs/\y = .lst ys/\flats xs=true/\flats ys=true/\xs.length+ys.length<=16000000/\Q (.lst (xs++ys)) .fr
abbrev sP (ta tb:aC):aC:=q2 wV ta tb
theorem aK5:fE X wV B0:=by
 rintro W Hs H u v x y g g' Q Q' s n r1 r2 ⟨xs,ys,rfl,rfl,f1,f2,hl,q⟩ k
 obtain⟨a,us,rfl,_,h1,q1⟩:=r1.sqL
 obtain⟨b,ws,rfl,_,h2,q2⟩:=r2.sqL
 have l1:=q1.length;have l2:=q2.length;refine⟨a,b,us,ws,rfl,rfl,h1,h2,lim (by omega),λp hp=>k _ _ _ .fr (bK hp _) (.lst (s.free hp) c8 (((q1.flat f1).append (q2.flat f2)).same (bK hp _) λ_ z=>z)) q⟩
theorem aK6 (ha:QE X a ta)(hb:QE X b tb):QE X (.BinOp a .Add b pos) (sP ta tb):=kX ar8 aK5 ha hb
end
section
variable {X:Cx}{e:Expr}{te:aC}{pos p2:Pos}{scope:Scope}{N:List Str}{fr:List (Option Nat)}{x y:Str}{tp xp yp:Pos}{kt:Nat}{iter elt:Expr}{ti:fS}
abbrev mZ (x y:Str)(xp yp:Pos)(kt:Nat)(tp:Pos):Expr:=.Tuple [.Name x xp,.Name y yp] kt tp
theorem R5 {ifs:List Expr}{tcs:cD}(hc:X.calm=true)(he:∀(s:ax) (H:Hp) (C:ay) (fp:List ay),QE (bP X scope N s H C fp cI) elt te)(hi:∀(s:ax) (H:Hp) (C:ay) (fp:List ay),kK (bP X scope N s H C fp cI) ifs (LT (bP X scope N s H C fp cI) tcs))(hN:N.Nodup)(h0:N[0]? = some x)(h1:N[1]? = some y)(hl:∀(s:ax) (H:Hp) (C:ay) (fp:List ay),(bP X scope N s H C fp cI).env.scope.names.lookup x=some .local)(hl2:∀(s:ax) (H:Hp) (C:ay) (fp:List ay),(bP X scope N s H C fp cI).env.scope.names.lookup y=some .local)(s:ax)(H:Hp) :
  o8 X scope N (mZ x y xp yp kt tp) ifs elt s H (lY X.K 2 (hU (dC 0) (hU (dC 1) lX))) (LT (X.frm H) tcs) (LE (X.frm H) te):=
 ⟨λC fp=>yX (X:=bP X scope N s H C fp cI) hc (pU (lW hN h0 (.inl (hl s H C fp)) (.inr (hl s H C fp))) (pU (lW hN h1 (.inl (hl2 s H C fp)) (.inr (hl2 s H C fp))) yW)),λC fp=>hi s H C fp,λC fp=>he s H C fp⟩
theorem aK7 (hi:QI X (mZ x y xp yp kt tp) iter ti)(he:∀(s:ax) (H:Hp) (C:ay) (fp:List ay),QE (bP X scope N s H C fp cI) elt te)(hc:X.calm=true:=by rfl)(S:dL X scope N fr:=by exact dL.of rfl rfl)(hN:N.Nodup:=by decide +kernel)(h0:N[0]? = some x:=by rfl)(h1:N[1]? = some y:=by rfl)(hl:∀(s:ax) (H:Hp) (C:ay) (fp:List ay),(bP X scope N s H C fp cI).env.scope.names.lookup x=some .local:=by intro _ _ _ _;rfl)(hl2:∀(s:ax) (H:Hp) (C:ay) (fp:List ay),(bP X scope N s H C fp cI).env.scope.names.lookup y=some .local:=by intro _ _ _ _;rfl)(hf:fr[0]? = some none:=by rfl)(hf2:fr[1]? = some none:=by rfl)(hs:∀x,foldedSetIterable iter X.env x=pure x:=by intro _;rfl):QE X (.ListComp elt [⟨mZ x y xp yp kt tp,iter,[],0⟩] scope pos) (fG ti fr (jT 0 1) dU te):=
 cA (uS (gh:=λ_=>lY X.K 2 (hU (dC 0) (hU (dC 1) lX))) (tch:=λH=>LT (X.frm H) dU) (teh:=λH=>LE (X.frm H) te) hc S hi (R5 hc he (λ_ _ _ _=>oO) hN h0 h1 hl hl2) hs) λ_ _ _=>mH (vR _ 0 1) (λi e=>by rcases e with e|e<;>(subst e;assumption))
theorem aK8 {i:Nat}{z:Str}{zp:Pos}(nd:X.N.Nodup)(hi:QI X (mZ x y xp yp kt tp) iter ti)(he:∀(s:ax) (H:Hp) (C:ay) (fp:List ay),QE (bP X scope N s H C fp cI) elt te)(hz:X.N[i]? = some z:=by rfl)(hzl:X.env.scope.names.lookup z=some .local:=by rfl)(hsw:swapsWith (.ListComp elt [⟨mZ x y xp yp kt tp,iter,[],0⟩] scope p2) (some (.Name z zp)) pos.line X.env=pure true:=by rfl)(hc:X.calm=true:=by rfl)(S:dL X scope N fr:=by exact dL.of rfl rfl)(hN:N.Nodup:=by decide +kernel)(h0:N[0]? = some x:=by rfl)(h1:N[1]? = some y:=by rfl)(hl:∀(s:ax) (H:Hp) (C:ay) (fp:List ay),(bP X scope N s H C fp cI).env.scope.names.lookup x=some .local:=by intro _ _ _ _;rfl)(hl2:∀(s:ax) (H:Hp) (C:ay) (fp:List ay),(bP X scope N s H C fp cI).env.scope.names.lookup y=some .local:=by intro _ _ _ _;rfl)(hf:fr[0]? = some none:=by rfl)(hf2:fr[1]? = some none:=by rfl)(hs:∀x,foldedSetIterable iter X.env x=pure x:=by intro _;rfl):QS X (.Assign [.Name z zp] (.ListComp elt [⟨mZ x y xp yp kt tp,iter,[],0⟩] scope p2) pos) (bB i (fG ti fr (jT 0 1) dU te)):=
 dX (uT (gh:=λ_=>lY X.K 2 (hU (dC 0) (hU (dC 1) lX))) (tch:=λH=>LT (X.frm H) dU) (teh:=λH=>LE (X.frm H) te) hc S hi (R5 hc he (λ_ _ _ _=>oO) hN h0 h1 hl hl2) nd hz hzl hsw hs) λD σ H h=>mH (vR _ 0 1) (λi e=>by rcases e with e|e<;>(subst e;assumption)) (vJ h)
end
section
variable {X:Cx}{a b e o f:Expr}{ta tb te td tk tx:aC}{pos p2 ah ai:Pos}{σ:L2.St}{H:Hp}{Q':VK}
theorem R6 {x:Str}{n:Int}{t:Nat}(hg:Gl X x)(hm:X.mg x=some (.int n t))(hd:(x==("__debug__":Str))=false:=by decide):QE X (.Name x pos) (qC (.int n)):=
 cA (yK (v:=.int n) hg hm ⟨t,rfl⟩ hd) λ_ _ _=>oB λ_=>.int n
end
end PP
namespace Core
open PySem L2 PP
section
variable (ws:ae)(ls:aa)(os ns:ae)
def lF:Nat->ae
 |0=>[]
 |k+1=>lF k++(os.find? (kin ws ls (ns++lF k))).toList
def wW (k:Nat):Option Int:=os.find? (kin ws ls (ns++lF ws ls os ns k))
end
section
variable {ws:ae}{ls:aa}{os ns:ae}
theorem be7 {k:Nat}{h:Int}(e:wW ws ls os ns k=some h):lF ws ls os ns (k+1)=lF ws ls os ns k++[h]:=by
 show lF ws ls os ns k++(wW ws ls os ns k).toList=_;rw[e];rfl
def aK9 (ws:ae)(ls:aa)(T:ae):Prop:=∀h∈rng ws.length,kin ws ls T h=false
theorem be8 {k:Nat}{h:Int}(e:wW ws ls os ns k=some h):h∈os/\h∉ns++lF ws ls os ns k:=
 ⟨List.mem_of_find?_eq_some e,bt5 (aJ2 (List.find?_some e))⟩
end
theorem sQ {i:Nat}{h:Int}{g:Bool}{ρ:bE}{Q:bE->Prop}(q:Q (ρ.set i (some (.sh true (.int h))))):cP i (.int h) g ρ Q:=by
 show Q (ρ.set i (some (.sh (g||true) (.int h))));rw[Bool.or_true];exact q
def aL0 (ns S:ae):Int:=(ns.length:Int)-(((ns.filter λx=>decide (x∈S)).length:Nat):Int)
def aL1 (ws:ae)(ls:aa)(S:ae)(h:Int):Bool:=decide (aL0 (v7 ls h) S<ws.getD h.toNat 0)
def stay (ws:ae)(ls:aa)(S:ae):ae:=S.filter (aL1 ws ls S)
end Core
namespace Raw
open PySem PySem.W PyProof.Rows
section
variable {prog:az}{w:bc}{A:ba}{E:av→ax→Prop}{s:ax}{T:String}{r d:ay}{n:Nat}{P:Nat→av→Prop}{OK:Heap→Prop}
theorem aL2 {R:Result->ax->Prop}(K:KdlSrc prog w T r d n P OK)(hh:A.handled=none)(hok:OK s.heap)(hn:n<=sizeLine)(hR:∀h' tk acc c,(∀b o,b≠s.heap.objs.size->(s.heap.push { cls:=.type "list",data:=.seq ([]:List av).toArray }).get? b=some o->h'.get? b=some o)->h'.get? s.heap.objs.size=some { cls:=.type "list",dict:=none,data:=.seq acc c,slots:=#[] }->ItemsOf P acc n->R (.ok (.ret (.ref s.heap.objs.size))) { s with heap:=h',toks:=tk }) :
  codeAny (model prog w) A (.builtin "proto.collect" ⟨[.ref r],[]⟩) R s:=by
 have lt:=K.there _ hok;refine bs8 PySem.F.entry_proto_collect ?_;rw[br8 PySem.F.plain_proto_collect _];show wpAny _ A.in1 (newList [] >>= λl=>again (.builtin "list.__iadd__" ⟨[l,.ref r],[]⟩)) _ _ s;refine bf1 (bk2 ?_);refine bf5 ⟨plainId_quiet PySem.F.plain_list_iadd _,bs8 PySem.F.entry_list_iadd ?_⟩;rw[br8 PySem.F.plain_list_iadd _];show wpAny _ A.in1 (Builtin.List.listExtendWith (.ref s.heap.objs.size) (.ref r) (.ref s.heap.objs.size)) _ _ _;exact kdl_extend (s:={ s with heap:=s.heap.push { cls:=.type "list",data:=.seq ([]:List av).toArray } }) (R:=R) K hh (K.keep _ _ hok λb _ o e=>bf3 _ e) s.heap.objs.size (bn8 lt.1) (bn8 lt.2) _ 0 (bg8 _ rfl) hR hn
theorem aL3 {Q:List av->ax->Prop}(K:KdlSrc prog w T r d n P OK)(hh:A.handled=none)(hok:OK s.heap)(hn:n<=sizeLine)(hQ:∀h' tk acc,(∀b o,s.heap.get? b=some o->h'.get? b=some o)->s.heap.objs.size<=h'.objs.size->ItemsOf P acc n->Q acc.toList { s with heap:=h',toks:=tk }) :
  wpAny (model prog w) A (collect (.ref r)) Q E s:=by
 unfold collect;refine bf1 (wpAny_runValue (aL2 (s:=s) K hh hok hn λh' tk acc c kp at1 it=>?_));show wpAny _ A (load s.heap.objs.size >>= _) _ _ _;refine bf1 (wpAny_load at1 ?_);exact bf5 (hQ h' tk acc (λb o e=>kp b o (bi7 (bg7 e)) (bf3 _ e)) (bn7 (bg7 at1)) it)
end
end Raw
namespace PP
open PySem L2 PyProof.Rows
def iL (xs ys:List PV):List PV:=List.zipWith (λx y=>PV.tup [x,y]) xs ys
theorem wX (xs ys:List PV):(iL xs ys).length=min xs.length ys.length:=by unfold iL;rw[List.length_zipWith]
theorem R7 {xs ys:List PV}{i:Nat}{x y:PV}(h:xs[i]? = some x)(h':ys[i]? = some y):(iL xs ys)[i]? = some (.tup [x,y]):=by
 unfold iL;rw[List.getElem?_zipWith,h,h']
theorem aL4 {xs ys:List PV}{i:Nat}{z:PV}(h:(iL xs ys)[i]? = some z):∃x y,xs[i]? = some x/\ys[i]? = some y/\z = .tup [x,y]:=by
 unfold iL at h;rw[List.getElem?_zipWith]at h;cases e:xs[i]? with
 |none=>rw[e]at h;cases h
 |some x=>
  cases e':ys[i]? with
  |none=>rw[e,e']at h;cases h
  |some y=>rw[e,e']at h;exact⟨x,y,rfl,rfl,(bj4 h).symm⟩
theorem aL5 {K:ac}{H0:Hp}{W:ay->Prop}{g:Bool}{H1:Hp}{a b:ay}{us vs:List V}{xs ys:List PV}(tw:∀a,W a->∃o,H1 a=some o/\fD o=true)(ha:∀W' H',Ev W H1 W' H'->aM K H' a us)(hb:∀W' H',Ev W H1 W' H'->aM K H' b vs)(r:Reps K (Ms H0 W g) H1 us xs)(r':Reps K (Ms H0 W g) H1 vs ys):kS K H0 W g H1 (v9 K a b) (iL xs ys):=by
 have lr:=r.length;have lr':=r'.length;have ll:=wX xs ys;refine⟨λW' H' i e hi=>⟨us,vs,us[i]'(by omega),vs[i]'(by omega),ha W' H' e,hb W' H' e,by simp,by simp⟩,λW' H' i v H2 e y hi=>?_,λW' H' e=>⟨us,vs,ha W' H' e,hb W' H' e,by omega⟩⟩
 obtain⟨T,x,y',hT,rfl,rfl,y⟩:=y
 obtain⟨h1,h2⟩:=y us vs (ha W' _ e) (hb W' _ e)
 obtain⟨z,hz,rz⟩:=r.get h1
 obtain⟨z',hz',rz'⟩:=r'.get h2
 have sm:=bK hT (HO.tup [x,y'])
 exact⟨sm,_,R7 hz hz',.tup c8 (.cons ((rz.keep (e.keep tw)).same sm λ_ q=>q) (.cons ((rz'.keep (e.keep tw)).same sm λ_ q=>q) .nil))⟩
end PP
namespace Core
open PySem L2 PP
section
variable {ws:ae}{ls:aa}{ns wts:ae}{m:Nat}
def loose (ls:aa)(wts ns:ae):List ((Int×Int)×Int):=(ls.zip wts).filter λz=>!(decide (z.1.1∈ns)&&decide (z.1.2∈ns))
end
end Core
namespace PP
open PySem L2 PyProof.Rows
section
variable {X:Cx}{a b e:Expr}{ta tb te:aC}{D:dP}{σ:L2.St}{H:Hp}{pos p2:Pos}
def wY (p:iD)(te:aC):aR:=λD ρ=>te ρ λx g=>vI g x/\p x (vH g x) ρ λρ2=>D.nx ρ2
theorem aL6 {p:iD}{g:TG}{own:Nat->Prop}(hg:mF X.K own p g)(h:LS X (wY p te) D σ H):kG (LE X te) g D σ H:=by
 obtain⟨W,ρ,D',px,q,k⟩:=h
 refine⟨W,ρ,_,px,q,?_⟩;rintro v H1 x gt s r ⟨st,q⟩;refine hg X.H₀ W σ ρ H1 v x _ _ _ (px.mono s) (G6 px st r) q λσ' ρ' px' _ _ q'=>?_
 exact k.nx W σ' H1 ρ' (Ev.same s) px' q'
theorem aL7 (i j:Nat){x y:Str}{tp xp yp:Pos}{kt:Nat}(hN:X.N.Nodup)(he:QE X e te)(hx:X.N[i]? = some x:=by rfl)(hy:X.N[j]? = some y:=by rfl)(hlx:iB X.env.scope x:=by first|exact Or.inl rfl|exact Or.inr rfl)(hly:iB X.env.scope y:=by first|exact Or.inl rfl|exact Or.inr rfl)(hfx:X.fn x=true∨X.env.scope.names.lookup x=some .local:=by first|exact .inl rfl|exact .inr rfl)(hfy:X.fn y=true∨X.env.scope.names.lookup y=some .local:=by first|exact .inl rfl|exact .inr rfl)(hc:X.calm=true:=by rfl)(hs:swapsWithSole [.Tuple [.Name x xp,.Name y yp] kt tp] e pos.line X.env=pure false:=by rfl)(hw:swappedStores [.Tuple [.Name x xp,.Name y yp] kt tp] e X.env=pure none:=by rfl):QS X (.Assign [.Tuple [.Name x xp,.Name y yp] kt tp] e pos) (wY (jT i j) te):=by
 have g:PG X (.Tuple [.Name x xp,.Name y yp] kt tp) (lY X.K 2 (hU (dC i) (hU (dC j) lX))):=yX hc (pU (lW hN hx hlx hfx) (pU (lW hN hy hly hfy) yW));exact dX (ak2 he g hs hw) λ_ _ _=>aL6 (vR _ i j)
end
abbrev eR:=(Str->Prop)->cV
def EX (K:ac)(H0:Hp)(Ep:Str->Prop):XK:=λc d H'=>d=none/\aD H0 H'/\∃n C,c = .ref C/\PySem.W.nsIn K mainGlobals n=some (some (.ref C))/\Ep n
def R8 (K:ac)(p:eR):Sp:=λvs H Q E=>∃xs Qp Ep,Reps K (λ_=>True) H vs xs/\p Ep xs Qp/\(∀v H' x,aD H H'->aA K (λa=>H a=none) H' v x->Qp x->Q v H')/\
 ∀n C H',aD H H'->PySem.W.nsIn K mainGlobals n=some (some (.ref C))->Ep n->E (.ref C) none H'
structure cF (P:az)(w:bc)(K:ac)(mg:Str->Option av)(base:Heap)(k:Nat)(x:Str)(ps:List Str)(p:eR):Prop where
 ex:∃f fd,dR P w K mg base (dZ P w) k f fd ps (R8 K p)/\jM K fd ps []/\PySem.W.keepIn K (.ref f)=true/\mg x=some (.ref f)
section
variable {X:Cx}{σ:L2.St}{H:Hp}{D:dP}{tr:cJ}{Q':VK}{a b c e:Expr}{es:List Expr}{pos p2 cp np hp:Pos}{t:aR}{te:aC}{tc:cD}
def nA (Ep:Str->Prop)(p:eR)(t:cJ):aC:=aN (p Ep) t
theorem R9 {p:eR}{Ep:Str->Prop}(h:LE X (nA Ep p tr) σ H Q'):uC (R8 X.K p) [] (EX X.K X.H₀ Ep) (LA X tr) σ H Q':=by
 obtain⟨W,ρ,Q,px,q,k⟩:=h
 refine⟨W,ρ,_,px,q,λvs H1 xs s1 r1 q1=>⟨_,_,Ep,by rw[bj9];exact r1.any,q1,λv H' x s2 r2 q2=>k v H' x .fr (s1.trans s2) (r2.same (aD.refl _) λ_ z=>s1.free z) q2,λn C H' s2 z1 z2=>⟨rfl,(px.same.trans s1).trans s2,n,C,rfl,z1,z2⟩⟩⟩
theorem sR {Ep:Str->Prop}{k j:Nat}{x:Str}{ps:List Str}{p:eR}(hX:mX X (EX X.K X.H₀ Ep))(d:cF X.prog X.w X.K X.mg X.base k x ps p)(hr:bX j X.A)(ha:QA X (e::es) tr)(hkj:k<=j:=by decide)(hg:Gl X x:=by rfl)(hdb:(x==("__debug__":Str))=false:=by decide)(he:starEach (e::es) X.env=(false,eval e X.env)::starEach es X.env:=by rfl)(hpl:(backTo pos (starEach es X.env)).any (·.1)=false:=by rfl):QE X (.Call (.Name x p2) (e::es) [] pos) (nA Ep p tr):=by
 obtain⟨f,fd,F,b,kp,m⟩:=d.ex
 exact cA (uD F (hr.mono hkj) hg m kp b .nil hX.pass ha hdb he hpl) λ_ _ _=>R9
theorem wZ {k j:Nat}{x:Str}{ps:List Str}{p:eR}(d:cF X.prog X.w X.K X.mg X.base k x ps p)(hr:bX j X.A)(ha:QA X (e::es) tr)(hkj:k<=j:=by decide)(hg:Gl X x:=by rfl)(hdb:(x==("__debug__":Str))=false:=by decide)(he:starEach (e::es) X.env=(false,eval e X.env)::starEach es X.env:=by rfl)(hpl:(backTo pos (starEach es X.env)).any (·.1)=false:=by rfl):QE X (.Call (.Name x p2) (e::es) [] pos) (aN (p λ_=>False) tr):=by
 obtain⟨f,fd,F,b,kp,m⟩:=d.ex
 refine cA (uD F (E:=EX X.K X.H₀ λ_=>False) (hr.mono hkj) hg m kp b .nil (λ_ _ _ _ _ _ _ h=>?_) ha hdb he hpl) λ_ _ _ h=>R9 (Ep:=λ_=>False) h
 obtain⟨_,_,_,_,_,_,_,_,_,_,_,_,z⟩:=h
 exact z.elim
def sS (Ep:Str->Prop)(n:Str)(t:cJ):aR:=λ_ ρ=>t ρ λxs=>xs.length<=1000/\Ep n
theorem aL8 {Ep:Str->Prop}{n:Str}{C:ay}(hn:PySem.W.nsIn X.K mainGlobals n=some (some (.ref C)))(h:LS X (sS Ep n tr) D σ H):Q3 (EX X.K X.H₀ Ep) C (LA X tr) D σ H:=by
 obtain⟨W,ρ,D',px,q,k⟩:=h
 exact⟨W,ρ,_,px,q,λvs H1 xs s1 r z=>⟨by rw[r.length];exact vE z.1,rfl,px.same.trans s1,n,C,rfl,hn,z.2⟩⟩
structure Xc (K:ac)(mg:Str->Option av)(base:Heap)(n:Str):Prop where
 ex:∃C B newId initId bm,OwnCls n C bm newId mg base/\ExcBaseFacts B newId initId bm/\PySem.W.nsIn K mainGlobals n=some (some (.ref C))
theorem S0 {Ep:Str->Prop}{n:Str}(hX:mX X (EX X.K X.H₀ Ep))(x:Xc X.K X.mg X.base n)(ha:QA X (e::es) tr)(hc:X.calm=true:=by rfl)(hg:Gl X n:=by rfl)(hd:(n==("__debug__":Str))=false:=by decide)(he:starEach (e::es) X.env=(false,eval e X.env)::starEach es X.env:=by rfl)(hpl:(backTo cp (starEach es X.env)).any (·.1)=false:=by rfl):QS X (.Raise (some (.Call (.Name n np) (e::es) [] cp)) none pos) (sS Ep n tr):=by
 obtain⟨C,B,newId,initId,bm,O,FB,hn⟩:=x.ex
 exact dX (aH4 hX hc O FB ha hg hd he hpl) λ_ _ _=>aL8 hn
abbrev jF:=jQ->(Str->Prop)->bE->Prop
def LB (X:Cx)(t:jF):TB:=λD Ex σ H=>∃(W:ay->Prop) (ρ:bE) (D':jQ) (Ep:Str->Prop),PX X.K X.H₀ W σ ρ H/\t D' Ep ρ/\oC X W H D' D/\∀n C H',aD H H'->PySem.W.nsIn X.K mainGlobals n=some (some (.ref C))->Ep n->Ex (.ref C) none H'
def QB (X:Cx)(sts:List Stmt)(t:jF):Prop:=PB X sts (LB X t)
theorem S3 {sts:List Stmt}{t t':TB}(h:PB X sts t)(m:∀D Ex σ H,t' D Ex σ H->t D Ex σ H):PB X sts t':=λag s σ H D Ex I q=>h ag s σ H D Ex I (m D Ex σ H q)
def x3 (p:eR)(t:cJ):jF:=λD Ep ρ=>t ρ λxs=>p Ep (xs.map (·.1)) λ_=>D.nx ρ
def S4 (c:cD)(t u:jF):jF:=λD Ep ρ=>c ρ λb=>if b=true then t D Ep ρ else u D Ep ρ
theorem S5 {k j:Nat}{x:Str}{ps:List Str}{p:eR}(d:cF X.prog X.w X.K X.mg X.base k x ps p)(hr:bX j X.A)(ha:∀E,QA (X.wish E) (e::es) tr)(hkj:k<=j:=by decide)(hg:Gl X x:=by rfl)(hdb:(x==("__debug__":Str))=false:=by decide)(he:starEach (e::es) X.env=(false,eval e X.env)::starEach es X.env:=by rfl)(hpl:(backTo cp (starEach es X.env)).any (·.1)=false:=by rfl)(hsw:swapsWith (.Call (.Name x p2) (e::es) [] cp) none pos.line X.env=pure false:=by rfl):QB X [.Expr (.Call (.Name x p2) (e::es) [] cp) pos] (x3 p tr):=by
 obtain⟨f,fd,F,b,kp,m⟩:=d.ex
 refine S3 (aH9 (t:=LA X tr) F (hr.mono hkj) hg m kp b (λE=>ha E) hdb he hpl hsw) λD Ex σ H h=>?_
 obtain⟨W,ρ,D',Ep,px,q,k,ke⟩:=h
 exact⟨W,ρ,_,px,q,λvs H1 xs s1 r q1=>⟨_,_,Ep,r.any,q1,λv H' x s2 r2 q2=>k.nx W σ H' ρ (Ev.same (s1.trans s2)) (px.mono (s1.trans s2)) q2,λn C H' s2 z1 z2=>ke n C H' (s1.trans s2) z1 z2⟩⟩
theorem aL9 {sa sb:List Stmt}{tb ub:jF}(hc:∀E,QT (X.wish E) c tc)(ha:QB X sa tb)(hb:QB X sb ub):QB X [.If c sa sb pos] (S4 tc tb ub):=by
 refine S3 (aI0 (tc:=LT X tc) (λE=>hc E) ha hb) λD Ex σ H h=>?_
 obtain⟨W,ρ,D',Ep,px,q,k,ke⟩:=h
 refine⟨W,ρ,_,px,q,λb H1 s1 q1=>?_⟩;have ke':∀n C H',aD H1 H'->PySem.W.nsIn X.K mainGlobals n=some (some (.ref C))->Ep n->Ex (.ref C) none H':=λn C H' s2 z1 z2=>ke n C H' (s1.trans s2) z1 z2
 cases b with
 |true=>exact bD ⟨W,ρ,D',Ep,px.mono s1,by simpa using q1,k.step (Ev.same s1),ke'⟩
 |false=>exact aU ⟨W,ρ,D',Ep,px.mono s1,by simpa using q1,k.step (Ev.same s1),ke'⟩
def S6 (D:jQ)(i:Nat):jQ:={ nx:=λρ=>D.nx (ρ.set i none),rt:=D.rt,bk:=λρ=>D.bk (ρ.set i none),ct:=λρ=>D.ct (ρ.set i none) }
def nB:List Str:=["BadWeb","BadSet","BadOrder","BadPrices","BadBoard","BadDeed","NotWood","NoPaper","NoSuch","TooMany","NoText","OddRound"]
def lG (n m:Str):Option Bool:=if nB.contains n then some (n==m||m=="HearthError"||m=="ValueError") else none
def x4 (m:Str)(i:Nat)(tb:jF)(ts:aR):aR:=λD ρ=>tb D (λn=>lG n m=some true/\ts (S6 D i) (ρ.set i (some (.sh true (.exc n))))) ρ
theorem aM0 {m:Str}{Ch:ay}{i:Nat}{tb:jF}{ts:aR}(hs:∀n C,lG n m=some true->PySem.W.nsIn X.K mainGlobals n=some (some (.ref C))->PySem.W.subIn X.K (.ref C) (.ref Ch)=some true)(h:LS X (x4 m i tb ts) D σ H):Q5 X.K Ch i (LB X tb) (LS X ts) D σ H:=by
 obtain⟨W,ρ,D',px,q,k⟩:=h
 refine⟨W,ρ,D',_,px,q,k,λn C H' s z1 z2 a C' oe hc na hcl=>?_⟩;cases hc;refine⟨hs n C z2.1 z1,W,_,S6 D' i,(px.mono (s.trans (bK na _))).setSh (g:=true) (.exc c8 z1 hcl),z2.2,?_⟩;have k':=k.step (Ev.same (W:=W) (s.trans (bK na (.frz oe (.own a)))))
 exact⟨λW' σ' H2 ρ' ev px' q'=>k'.nx W' _ H2 _ ev px'.setNone q',k'.rt,λW' σ' H2 ρ' ev px' q'=>k'.bk W' _ H2 _ ev px'.setNone q',λW' σ' H2 ρ' ev px' q'=>k'.ct W' _ H2 _ ev px'.setNone q'⟩
structure x5 (K:ac)(mg:Str->Option av)(m:Str):Prop where
 ex:∃Ch,mg m=some (.ref Ch)/\wN K Ch/\∀n C,lG n m=some true->PySem.W.nsIn K mainGlobals n=some (some (.ref C))->PySem.W.subIn K (.ref C) (.ref Ch)=some true
theorem aM1 (i:Nat){m n:Str}{b₀:Stmt}{suite body:List Stmt}{tb:jF}{ts:aR}(ct:x5 X.K X.mg m)(hN:X.N.Nodup)(hb:QB X body tb)(hs:∀a,fH (X.suite a) (b₀::suite) ts)(hstk:X.stack=X.env::X.outer/\X.env.frame=some X.env.locals:=by exact⟨rfl,rfl⟩)(hi:X.N[i]? = some n:=by rfl)(hl:X.env.scope.names.lookup n=some .local:=by rfl)(hg:Gl X m:=by rfl)(hd:(m==("__debug__":Str))=false:=by decide):QS X (.Try body [.ExceptHandler (some (.Name m np)) (some n) (b₀::suite) hp] [] [] pos) (x4 m i tb ts):=by
 obtain⟨Ch,hm,c,sub⟩:=ct.ex
 exact dX (aI1 (ts:=LS X ts) hstk hb hg hm c hN hi hl (λa=>vW (hs a) λ_ _ _ ⟨W,ρ,D',px,q,k⟩=>⟨W,ρ,D',px,q,⟨k.nx,k.rt,k.bk,k.ct⟩⟩) hd) λ_ _ _=>aM0 sub
def gQ:V->av
 |.ref a=>.ref a
 |.ty n=>.type n
 |_=>.none
def aM2 (K:ac):List V->Hp->VK->Prop:=λxs H Q=>∃v v2 b,xs = [v,v2]/\gQ v2≠.none/\((∃a o C,v = .ref a/\H a=some (.frz o (.own a))/\o.cls = .ref C/\iJ K C/\PySem.W.kitOne K (.ref C) (gQ v2)=some b)∨(v = .non/\PySem.W.kitOne K (.type "NoneType") (gQ v2)=some b))/\Q (.bl b) H
theorem aM3:cU X (.builtin "isinstance") (aM2 X.K):=by
 intro ag s σ H xs us Q I r h
 obtain⟨v,v2,b,rfl,hv,hk,q⟩:=h
 obtain⟨u,u',rfl,ru,ru'⟩:=lZ r
 obtain rfl:u'=gQ v2:=by
  cases v2<;>first|exact ru'|exact absurd rfl hv
 rcases hk with⟨a,o,C,rfl,hH,hc,F,e⟩|⟨rfl,e⟩
 ·obtain⟨h1,_⟩:=I.hok a _ hH
  cases (show u=Value.ref a from ru);exact bn2 (aI8 F) I.kIn ⟨o,h1,hc⟩ e (λz=>nomatch z) λtk=>⟨.bl b,H,I.tok tk,rfl,q⟩
 ·cases (show u=Value.none from ru)
  exact bn2 PySem.W.kitx_none I.kIn trivial e (λz=>nomatch z) λtk=>⟨.bl b,H,I.tok tk,rfl,q⟩
def aM4 (m:Str):PV->Option Bool
 |.exc n=>lG n m
 |.non=>some false
 |_=>none
def nC (m:Str)(te:aC):aC:=λρ Q=>te ρ λx _=>∃b,aM4 m x=some b/\Q (.bl b) .fr
structure x6 (K:ac)(m:Str)(v2:V):Prop where
 nn:gQ v2≠.none
 ex:∀n C b,PySem.W.nsIn K mainGlobals n=some (some (.ref C))->lG n m=some b->iJ K C/\PySem.W.kitOne K (.ref C) (gQ v2)=some b
 no:PySem.W.kitOne K (.type "NoneType") (gQ v2)=some false
theorem S7 {x:Str}{v2:V}{px:Pos}(B:Bt X.mg)(A:x6 X.K x v2)(hx:PE X (.Name x px) (tC v2))(ha:QE X a te)(hg:Gl X "isinstance":=by rfl)(he:starEach [a,.Name x px] X.env=(false,eval a X.env)::starEach [.Name x px] X.env:=by rfl)(he2:starEach [.Name x px] X.env=(false,eval (.Name x px) X.env)::starEach [] X.env:=by rfl)(hpl:(backTo pos (starEach [.Name x px] X.env)).any (·.1)=false:=by rfl):QE X (.Call (.Name "isinstance" p2) [a,.Name x px] [] pos) (nC x te):=
 cA (qE aM3 hg B.isinst PyProof.Rows.boot_isinstance (gA ha (gA hx jL he2) he) (he:=he) (hpl:=hpl)) λσ H Q' h=>by
  obtain⟨W,ρ,Q,px,q,k⟩:=h
  refine⟨W,ρ,_,px,q,?_⟩;rintro v H1 y g s r ⟨b,e,q⟩;refine⟨v,v2,b,rfl,A.nn,?_,k _ _ _ .fr s (.bl _) q⟩;cases r with
  |exc h z c=>
   obtain⟨F,kt⟩:=A.ex _ _ _ z e
   exact .inl ⟨_,_,_,rfl,h,c,F,kt⟩
  |non=>cases e;exact .inr ⟨rfl,A.no⟩
  |_=>cases e
end
section
variable {X:Cx}{a:Expr}{pos p2 px:Pos}{te:aC}
structure p9 (K:ac)(mg:Str->Option av)(m:Str):Prop where
 ex:∃C,mg m=some (.ref C)/\x6 K m (.ref C)
structure x8 (K:ac)(mg:Str->Option av):Prop where
 mg:mg "ValueError" = none
 is:x6 K "ValueError" (.ty "ValueError")
theorem S8 {x:Str}(B:Bt X.mg)(A:p9 X.K X.mg x)(ha:QE X a te)(hgx:Gl X x:=by rfl)(hdx:(x==("__debug__":Str))=false:=by decide)(hg:Gl X "isinstance":=by rfl)(he:starEach [a,.Name x px] X.env=(false,eval a X.env)::starEach [.Name x px] X.env:=by rfl)(he2:starEach [.Name x px] X.env=(false,eval (.Name x px) X.env)::starEach [] X.env:=by rfl)(hpl:(backTo pos (starEach [.Name x px] X.env)).any (·.1)=false:=by rfl):QE X (.Call (.Name "isinstance" p2) [a,.Name x px] [] pos) (nC x te):=by
 obtain⟨C,m,i⟩:=A.ex
 exact S7 B i (yK hgx m rfl hdx) ha hg he he2 hpl
theorem aM5 (B:Bt X.mg)(A:x8 X.K X.mg)(ha:QE X a te)(hgx:Gl X "ValueError":=by rfl)(hg:Gl X "isinstance":=by rfl)(he:starEach [a,.Name "ValueError" px] X.env=(false,eval a X.env)::starEach [.Name "ValueError" px] X.env:=by rfl)(he2:starEach [.Name "ValueError" px] X.env=(false,eval (.Name "ValueError" px) X.env)::starEach [] X.env:=by rfl)(hpl:(backTo pos (starEach [.Name "ValueError" px] X.env)).any (·.1)=false:=by rfl):QE X (.Call (.Name "isinstance" p2) [a,.Name "ValueError" px] [] pos) (nC "ValueError" te):=
 S7 B A.is (yL (v:=.ty "ValueError") hgx A.mg PyProof.Rows.Boot.«ValueError» rfl (by decide) (by decide)) ha hg he he2 hpl
end
structure lH (K:ac)(C:ay):Prop where
 cls:PySem.W.isClsIn K C=true
 ty:PySem.W.typeIn K (.ref C)=some (.type "type")
 ga:PySem.W.findIn K (.ref C) "__getattribute__" = some (some (.builtin "BaseException.__getattribute__"))
 gt:PySem.W.findIn K (.ref C) "__getattr__" = some none
 fc:PySem.W.findIn K (.ref C) "__class__" = some (some (.builtin "object.__class__"))
 fg:PySem.W.specialIn K (.builtin "object.__class__") "__get__" = some (some (.builtin "getset_descriptor.__get__"))
 ft:PySem.W.takesIn K (.builtin "object.__class__")=some true
 ob:PySem.W.mroIn K C (.type "object")=some true
 be:PySem.W.mroIn K C (.type "BaseException")=some true
theorem lH.exc {K:ac}{C:ay}(h:lH K C):iJ K C:=⟨h.cls,h.ga,h.gt,h.fc,h.fg,h.ft,h.ob,h.be⟩
theorem S9 {K:ac}{h₀:Heap}{mg:Str->Option av}{x:Str}{C:ay}{bmB:List av}{newId:String}(X:K.In h₀)(m:mg x=some (.ref C))(q:PySem.W.excIn K C bmB newId=true):OwnCls x C bmB newId mg h₀:=by
 refine⟨m,?_⟩;unfold PySem.W.excIn at q;split at q
 case h_2=>cases q
 rename_i dd cd sl ho
 split at q
 case h_2=>cases q
 rename_i C' bm k0 k1 k2 k3 n k5 hm hs
 simp only[bn3,beq_iff_eq,Bool.not_eq_true']at q
 obtain⟨⟨⟨⟨⟨rfl,rfl⟩,dl⟩,ht⟩,hok⟩,hni⟩:=q
 obtain⟨nm,bs,mro,ns,qn,hd,sn,sub,ab,col,del⟩:=cd
 dsimp only at hm dl hok hni;subst hm dl;obtain rfl:sl = #[k0,k1,k2,k3,some (.builtin n),k5]:=by
  obtain⟨l⟩:=sl
  exact congrArg Array.mk hs
 exact⟨bm,ns,nm,qn,bs,hd,sn,sub,ab,col,dd,k0,k1,k2,k3,k5,_,X _ _ ho,.of_isNs (PySem.W.isNs_of_in X hok),PySem.W.nsMap_none_of_in X hok hni,PySem.W.tail_of_in X ht⟩
theorem sU {n m:Str}{b:Bool}(h:lG n m=some b):n∈nB/\b=(n==m||m=="HearthError"||m=="ValueError"):=by
 unfold lG at h;split at h
 ·rename_i z
  exact⟨by simpa using z,by cases h;rfl⟩
 ·cases h
theorem T0 {K:ac}{C D:ay}{b:Bool}(hd:lH K D)(ne:(C==D)=false)(s:PySem.W.subIn K (.ref C) (.ref D)=some b):PySem.W.kitOne K (.ref C) (.ref D)=some b:=by
 have ne':(Value.ref C==Value.ref D)=false:=by
  rw[beq_eq_false_iff_ne]at ne ⊢;exact λz=>ne (Value.ref.inj z)
 have c:=hd.cls;unfold PySem.W.isClsIn at c;unfold PySem.W.kitOne PySem.W.kitCls;rw[if_neg (by rw[ne'];decide)];dsimp only;rw[if_pos (by rw[c,hd.ty];decide)];exact s
theorem T2 {K:ac}{C:ay}:PySem.W.kitOne K (.ref C) (.ref C)=some true:=by
 unfold PySem.W.kitOne;rw[if_pos (bm7 _)]
theorem T3 {K:ac}{C:ay}(s:PySem.W.subIn K (.ref C) (.type "ValueError")=some true):PySem.W.kitOne K (.ref C) (.type "ValueError")=some true:=by
 unfold PySem.W.kitOne PySem.W.kitCls;rw[if_neg (λz=>by cases beq_iff_eq.mp z)];dsimp only;rw[if_pos (by decide +kernel)];exact s
theorem T4 {K:ac}{D:ay}(hd:lH K D)(s:PySem.W.subIn K (.type "NoneType") (.ref D)=some false):PySem.W.kitOne K (.type "NoneType") (.ref D)=some false:=by
 have c:=hd.cls;unfold PySem.W.isClsIn at c;unfold PySem.W.kitOne PySem.W.kitCls;rw[if_neg (λz=>by cases beq_iff_eq.mp z)];dsimp only;rw[if_pos (by rw[c,hd.ty];decide)];exact s
theorem aM6 {K:ac}:PySem.W.kitOne K (.type "NoneType") (.type "ValueError")=some false:=by
 have e:(if PySem.W.kitMeta "ValueError" = true then (fastBuiltinMro "NoneType").map (·.contains (Value.type "ValueError")) else none)=some false:=by decide +kernel
 unfold PySem.W.kitOne;rw[if_neg (by decide)];exact e
theorem cF.of {P:az}{w:bc}{K:ac}{mg:Str->Option av}{base:Heap}{k:Nat}{x:Str}{ps N:List Str}{p:eR}{st:Stmt}{f:ay}{fd:FuncData}(F:gB K x x st f fd)(m:mg x=some (.ref f))(S:FnScope N ps (b7 st))(hb:∀(kV doc pm:av) (an:Option ay) (cdv ct:av) (us:List av),us.length=ps.length->bindArgs (PySem.W.fnOf x x (iY st) (eJ st) (b7 st) .none kV doc pm an cdv ct) ⟨us,[]⟩=pure (ps.zip us))(t:(Str->Prop)->aR)(len:∀Ep xs Q,p Ep xs Q->xs.length=ps.length)(rd:∀Ep xs Q,p Ep xs Q->t Ep { nx:=λ_=>Q .non,rt:=Q } (eN N xs))(body:∀(cdv:av) (A:ba) (outer:List Env) (s:ax) (H:Hp) (E:XK) (Ep:Str->Prop),bX k (A.deeper (envOfC x (b7 st) s.heap.objs.size f cdv))->mX (dG (dZ P w) P w K mg base N x (b7 st) f cdv A outer s H E) (EX K H Ep)->
   fH (dG (dZ P w) P w K mg base N x (b7 st) f cdv A outer s H E) (eJ st) (t Ep)):cF P w K mg base (k+1) x ps p:=by
 refine⟨f,fd,F.okX S (λvs H Q E h=>?_) (λcdv A outer s H vs Q E hr h=>?_),F.binds hb,F.kp,m⟩
 ·obtain⟨xs,Qp,Ep,r,q,_⟩:=h
  rw[r.length];exact len Ep xs Qp q
 ·obtain⟨xs,Qp,Ep,r,q,k,ke⟩:=h
  have ht:=body cdv A outer s H E Ep hr (aH3 λc d H' z=>?_)
  ·refine⟨_,ht,λ_=>False,eN N xs,_,w9 r,rd Ep xs Qp q,?_,?_,?_,?_⟩
   ·exact λW' σ' H' ρ' e px q=>k _ _ _ px.same .non q
   ·exact λv H' x s r q=>k _ _ _ s r q
   ·exact λW' σ' H' ρ' e px q=>q
   ·exact λW' σ' H' ρ' e px q=>q
  ·obtain⟨rfl,s1,n,C,rfl,z1,z2⟩:=z
   exact ke n C H' s1 z1 z2
end PP
namespace Core
open PySem L2 PP
abbrev pA (t:(Str->Prop)->aR)(N:List Str)(p:eR):Prop:=∀Ep xs Q,p Ep xs Q->t Ep { nx:=λ_=>Q .non,rt:=Q } (eN N xs)
end Core
namespace PP
open PySem L2
theorem us1 {us:List av}(h:us.length=1):∃a,us = [a]:=List.length_eq_one_iff.mp h
theorem us2 {us:List av}(h:us.length=2):∃a b,us = [a,b]:=by
 cases us with
 |nil=>cases h
 |cons a r=>
  obtain⟨b,rfl⟩:=us1 (us:=r) (by simpa using h)
  exact⟨a,b,rfl⟩
theorem x9 {us:List av}(h:us.length=3):∃a b c,us = [a,b,c]:=by
 cases us with
 |nil=>cases h
 |cons a r=>
  obtain⟨b,c,rfl⟩:=us2 (us:=r) (by simpa using h)
  exact⟨a,b,c,rfl⟩
theorem xA {us:List av}(h:us.length=4):∃a b c d,us = [a,b,c,d]:=by
 cases us with
 |nil=>cases h
 |cons a r=>
  obtain⟨b,c,d,rfl⟩:=x9 (us:=r) (by simpa using h)
  exact⟨a,b,c,d,rfl⟩
theorem T5 {us:List av}(h:us.length=5):∃a b c d e,us = [a,b,c,d,e]:=by
 cases us with
 |nil=>cases h
 |cons a r=>
  obtain⟨b,c,d,e,rfl⟩:=xA (us:=r) (by simpa using h)
  exact⟨a,b,c,d,e,rfl⟩
end PP
namespace Core
open PySem L2 PP
theorem xB:∀(m:Nat) (l:List Nat),l.Nodup->(∀x∈l,x<m)->l.length<=m
 |0,[],_,_=>bg0 _
 |0,x::_,_,h=>absurd (h x bg1) (bp8 _)
 |m+1,l,nd,h=>by
  by_cases hm:m∈l
  ·have h1:=xB m (l.erase m) (nd.erase m) λx hx=>by
    obtain⟨h2,h3⟩:=(nd.mem_erase_iff).mp hx
    have:=h x h3
    omega
   rw[List.length_erase_of_mem hm]at h1;omega
  ·have h1:=xB m l nd λx hx=>by
    have:=h x hx
    have:x≠m:=λz=>hm (z▸hx)
    omega
   omega
end Core
namespace PP
open PySem L2
section
variable {X:Cx}{e:Expr}{tr:cJ}{pos p2:Pos}
def xC:List PV->(PV->Prop)->Prop:=λxs Q=>∃ys:ad,xs = [.lst (ys.map λr=>PV.tup (intz r))]/\ys.length<=4096/\(∀y∈ys,y.length=2)/\∀zs:ad,zs.Perm ys->zs.Pairwise (λu v=>HT.b9 v u=false)->Q (.lst (zs.map λr=>PV.tup (intz r)))
theorem aM7:gU X xC (Q2 X.K):=by
 rintro H vs xs Q Q' r ⟨ys,rfl,hl,hne,q⟩ k
 obtain⟨v,rfl,r1⟩:=r.one
 obtain⟨a,us,rfl,_,h,r2⟩:=r1.sqL
 obtain⟨h1,h2⟩:=wQ r2
 have lr:=r2.length;rw[bf6]at lr;refine⟨a,us,jE H,rfl,aT.of h,by omega,λy hy=>?_,λl zs hl' pm so=>?_⟩
 ·obtain⟨b,rfl,hb⟩:=h2 y hy
  refine⟨b,rfl,aM.of hb,hne _ ?_⟩;rw[<- h1];exact bh9.mpr ⟨_,hy,rfl⟩
 ·have hz:∀u∈zs,∃b,u = .ref b/\H b=some (.tup ((jE H u).map V.int)):=λu hu=>h2 u (pm.mem_iff.mp hu)
  refine k _ _ _ (bK hl' _) (.lst hl' c8 ((wR hz).same (bK hl' _) λ_ z=>z)) (q _ ?_ ?_)
  ·rw[<- h1];exact pm.map _
  ·rw[bk6];exact so
theorem aM8 (B:Bt X.mg)(ha:QA X [e] tr)(hg:Gl X "sorted":=by rfl)(he:starEach [e] X.env=(false,eval e X.env)::starEach [] X.env:=by rfl)(hpl:(backTo pos (starEach [] X.env)).any (·.1)=false:=by rfl):QE X (.Call (.Name "sorted" p2) [e] [] pos) (aN xC tr):=
 kZ aH0 aM7 hg B.sorted PyProof.Rows.boot_sorted ha (he:=he) (hpl:=hpl)
end
section
variable {X:Cx}{a:Expr}{tk:aC}{σ:St}{H:Hp}{Q':VK}{pos p2:Pos}
theorem aM9 (hN:X.N.Nodup)(i j:Nat){x y:Str}{ah ai xpos:Pos}(hi:X.N[i]? = some x:=by rfl)(hj:X.N[j]? = some y:=by rfl)(hv:jK X.env.scope x:=by first|exact Or.inl rfl|exact Or.inr (Or.inl rfl)|exact Or.inr (Or.inr rfl))(hd:(x==("__debug__":Str))=false:=by decide)(hcd:(x==("__classdict__":Str))=false:=by decide)(hbase:attributeBase (.Name x xpos) "pop" X.env (eval (.Name x xpos) X.env)=eval (.Name x xpos) X.env:=by rfl)(hline:(ah.endLine==ai.line)=true:=by rfl)(hx:iB X.env.scope y:=by first|exact Or.inl rfl|exact Or.inr rfl)(hs:swapsWith (.Call (.Attribute (.Name x xpos) "pop" ah) [] [] ai) (some (.Name y p2)) pos.line X.env=pure false:=by rfl)(hf:X.fn y=true∨X.env.scope.names.lookup y=some .local:=by first|exact .inl rfl|exact .inr rfl) :
  QS X (.Assign [.Name y p2] (.Call (.Attribute (.Name x xpos) "pop" ah) [] [] ai) pos) (vL i j):=
 dX (tW hN hj hx (ar2 PySem.F.plainAttrs_list PySem.F.slot_list_pop PySem.F.type_list_pop ar7 (nR hi hv hd hcd) hbase hline) hs hf) λ_ _ _=>az9
end
end PP
namespace Core
open PySem L2 PP
abbrev T6 (bs:List Bool):List PV:=bs.map PV.bl
section
variable {ws:ae}{ls:aa}
def cne (ws:ae)(ls:aa)(S:ae):Bool:=!decide (S = [])&&decide (stay ws ls S=S)
theorem aN0 {a b:Int×Int}(e:two a=two b):a=b:=by
 unfold two at e;injection e with e1 e2
 injection e2 with e2 _
 exact bu8 e1 e2
end
end Core
namespace PP
open PySem L2
section
variable {X:Cx}{a b:Expr}{ta tb:aC}{pos:Pos}
theorem aN1 {K:ac}{M M':ay->Prop}{H:Hp}{v:V}{m n:ae}(r1:aA K M H v (.tup (intz m)))(r2:aA K M' H v (.tup (intz n))):m=n:=by
 obtain⟨p,us,rfl,h1,q1⟩:=r1.sqT
 obtain⟨p2,ws,e,h2,q2⟩:=r2.sqT
 cases e;rw[h1]at h2;cases h2
 have:=(q1.ofInts).symm.trans q2.ofInts
 exact (List.map_inj_right λ_ _ e=>by cases e;rfl).mp this
end
end PP
namespace Core
open PySem L2 PP
def far (ns S:ae):Bool:=decide (((S.filter λx=>decide (x∈ns)).length:Int)=0)
def T7 (ws:ae)(ls:aa):ae->ae->Bool
 |_,[]=>true
 |B,h::R=>inB ws.length h&&(kin ws ls B h&&T7 ws ls (B++[h]) R)
end Core
namespace Raw
open PySem PySem.W PySem.Calls PyProof.Rows
theorem xD {xs:List Nat}(a:xs.Pairwise (·<·)){i k:Nat}(hk:k<xs.length)(h:i<=k):xs.getD i 0<=xs.getD k 0:=by
 rcases bj0 i k with z|z
 ·have:=bk8.mp a i k (by omega) hk z
  rw[bg5,bg5,bf4 (by omega),bf4 hk];exact bn7 this
 ·rw[Nat.le_antisymm h z];exact bg0 _
theorem aN2 {xs:Array Nat}{i j:Nat}(h:i<xs.size):xs.getD i j=xs.toList.getD i 0:=by
 rw[bg5,bi4,bl7,bj2 h];rfl
theorem xE {xs:Array Nat}{j:Nat}(a:xs.toList.Pairwise (·<·)):∀(fuel lo hi:Nat),lo<=hi->hi<=xs.size->hi-lo<=fuel->(∀i,i<lo->xs.toList.getD i 0<j)->(∀i,hi<=i->i<xs.size->j<=xs.toList.getD i 0)->
  SetTable.below.go xs j fuel lo hi<=xs.size/\(∀i,i<SetTable.below.go xs j fuel lo hi->xs.toList.getD i 0<j)/\∀i,SetTable.below.go xs j fuel lo hi<=i->i<xs.size->j<=xs.toList.getD i 0
 |0,lo,hi,h1,h2,h3,h4,h5=>by
  have e:lo=hi:=by omega
  subst e
  exact⟨h2,h4,h5⟩
 |fuel+1,lo,hi,h1,h2,h3,h4,h5=>by
  have sz:xs.toList.length=xs.size:=bh3;unfold SetTable.below.go;by_cases lt:lo<hi
  ·rw[if_pos lt]
   dsimp only;have m1:lo<=(lo+hi)/2:=by omega
   have m2:(lo+hi)/2<hi:=by omega
   rw[aN2 (by omega)];by_cases c:xs.toList.getD ((lo+hi)/2) 0<j
   ·rw[if_pos c]
    exact xE a fuel _ _ (by omega) h2 (by omega) (λi hi'=>Nat.lt_of_le_of_lt (xD a (by omega) (by omega)) c) h5
   ·rw[if_neg c]
    exact xE a fuel _ _ (by omega) (by omega) (by omega) h4 λi h6 h7=>bl2 (Nat.le_of_not_lt c) (xD a (by omega) h6)
  ·rw[if_neg lt]
   have e:lo=hi:=by omega
   subst e
   exact⟨h2,h4,h5⟩
theorem sV {xs:Array Nat}{j:Nat}(a:xs.toList.Pairwise (·<·)):SetTable.below xs j<=xs.size/\(∀i,i<SetTable.below xs j->xs.toList.getD i 0<j)/\∀i,SetTable.below xs j<=i->i<xs.size->j<=xs.toList.getD i 0:=
 xE a xs.size 0 xs.size (bk7 _) (bg0 _) (by omega) (λi h=>absurd h (bp8 _)) λi h1 h2=>absurd h2 (by omega)
theorem xF {α:Type}(xs:Array α)(p:Nat)(x:α):(SetTable.insertAt xs p x).toList=xs.toList.take p++x::xs.toList.drop p:=by
 unfold SetTable.insertAt;simp;exact bo8 (by simp)
theorem aN3 {xs:Array Nat}{j:Nat}(a:xs.toList.Pairwise (·<·))(ne:xs[SetTable.below xs j]?≠some j):(SetTable.insertAt xs (SetTable.below xs j) j).toList.Pairwise (·<·):=by
 obtain⟨b1,b2,b3⟩:=sV (j:=j) a
 have sz:xs.toList.length=xs.size:=bh3;rw[xF];refine bm6.mpr ⟨a.sublist (List.take_sublist _ _),List.pairwise_cons.mpr ⟨λx hx=>?_,a.sublist (List.drop_sublist _ _)⟩,λx hx y hy=>?_⟩
 ·obtain⟨i,hi,e⟩:=bm0 hx
  rw[br7]at hi;rw[List.getElem_drop]at e;have h1:=b3 (SetTable.below xs j) (bg0 _) (by omega);have h2:=xD a (i:=SetTable.below xs j) (k:=SetTable.below xs j+i) (by omega) (by omega);have h3:xs.toList.getD (SetTable.below xs j+i) 0=x:=by rw[bg5,bf4 (by omega),e];rfl
  rcases bj0 j x with z|z
  ·exact z
  ·exfalso
   have h4:xs.toList.getD (SetTable.below xs j) 0=j:=by omega
   rw[bg5,bf4 (by omega)]at h4;refine ne ?_;rw[<- bi4,bf4 (by omega)];exact congrArg some h4
 ·have hx':x<j:=by
   obtain⟨i,hi,e⟩:=bm0 hx
   rw[bp9]at hi;rw[List.getElem_take]at e
   have:=b2 i (by omega)
   rw[bg5,bf4 (by omega),e]at this;exact this
  rcases bg6.mp hy with e|hy
  ·rw[e];exact hx'
  ·obtain⟨i,hi,e⟩:=bm0 hy
   rw[br7]at hi;rw[List.getElem_drop]at e
   have:=b3 (SetTable.below xs j+i) (by omega) (by omega)
   rw[bg5,bf4 (by omega),e]at this;exact bh0 hx' this
structure T8 (b:Bool)(t:SetTable):Prop where
 asc:t.place.toList.Pairwise (·<·)
 dm:t.dummies = #[]
 led:t.led=b
theorem T9 (j:Nat):SetTable.has #[] j=false:=by
 unfold SetTable.has;simp
abbrev cC (es:Array (Int×av))(ep:Nat)(t:SetTable):Obj:={ cls:=.type "set",dict:=none,data:=.set es ep t,slots:=#[] }
section
variable {prog:az}{w:bc}{A:ba}{E:av→ax→Prop}{s:ax}
theorem U0 {h:Heap}{a:ay}{es es':Array (Int×av)}{ep:Nat}{t t':SetTable}(ho:h.get? a=some (cC es ep t)):(h.update a (Obj.putSet es' t')).get? a=some (cC es' (ep+1) t'):=by
 have:=bn6 (Obj.putSet es' t') ho (by rw[putSet_of es' t' (rfl:(cC es ep t).data=_)];rfl)
 rw[putSet_of es' t' (rfl:(cC es ep t).data=_)]at this;exact this
end
section
variable {prog:az}{w:bc}{A:ba}{E:av→ax→Prop}{s:ax}{l:ay}{items:Array av}{ns:ae}
theorem aN4 (a:av){Q₁:av->ax->Prop}(h:Q₁ (.ref s.heap.objs.size) { s with heap:=s.heap.push (gX (!w.params.followText "set-order")) }) :
  codeAny (model prog w) A (.call (.builtin "set.__new__") ⟨[.type "set",a],[]⟩) (wants Q₁ E) s:=by
 refine codeAny_of_tree ?_;show wpAny _ A.in1 (do checkBuiltinCall "set.__new__" ⟨[.type "set",a],[]⟩;again (.builtin "set.__new__" ⟨[.type "set",a],[]⟩)) _ _ s;refine bf1 (wpAny_of_eq (F.newCall_set_1 a) (bf5 ⟨plainId_quiet F.plain_set_new _,bs8 F.entry_set_new ?_⟩));rw[br8 F.plain_set_new _];unfold Builtin.«set.__new__» Builtin.Frozenset.newClass;have hsub:=sub_set_self
 obtain⟨hp,g,d,tk,os⟩:=s
 dsimp only
 wp_walk
 refine wpAny_askSetting (bf5 ?_);dsimp only;simp only[newObj];refine bf1 (wpAny_alloc (bf5 ?_));exact bf5 h
end
theorem aN5:entryFor table "set.__iter__" = some Builtin.«frozenset.__iter__»:=entryFor_alias (id':="frozenset.__iter__") (by kernel_rfl) rfl (by decide +kernel) (by kernel_rfl)
theorem i8:Slot "set_iterator" "__next__" "set_iterator.__next__":=
 .of (owner:="set_iterator") (n:="__next__") (by rw[typeLookup_type,builtinLookup_eq_fast];kernel_rfl) (by decide +kernel) (by decide +kernel) (by decide +kernel) (by first|exact .inl (by decide +kernel)|exact .inr (by decide +kernel)) (by rw[bx1];kernel_rfl)
theorem sW:entryFor table "set_iterator.__next__" = some Builtin.«set_iterator.__next__»:=entryFor_of_tree (by kernel_rfl)
theorem U1:Manifest.owners.lookup (String.ofList ['r','o','t','a','r','e','t','i','_','t','e','s'].reverse)=some Manifest.sig_set_iterator:=by kernel_rfl
theorem sX (a:av):argsOk "set_iterator.__next__" ⟨[a],[]⟩:=by
 unfold argsOk;rw[signature?_of (id:="set_iterator.__next__") (n:=['_','_','t','x','e','n','_','_']) (o:=['r','o','t','a','r','e','t','i','_','t','e','s']) (by kernel_rfl) U1];kernel_rfl
theorem aN6:entryFor table "set_iterator.__iter__" = some Builtin.«dict_keyiterator.__iter__»:=
 entryFor_alias (id':="dict_keyiterator.__iter__") (by kernel_rfl) (by first|rfl|decide +kernel|(unfold String.splitOn;simp +decide [String.splitOnAux])) (by decide +kernel) (by kernel_rfl)
theorem U2:Slot "set_iterator" "__iter__" "set_iterator.__iter__":=
 .of (owner:="set_iterator") (n:="__iter__") (by rw[typeLookup_type,builtinLookup_eq_fast];kernel_rfl) (by decide +kernel) (by decide +kernel) (by decide +kernel) (by first|exact .inl (by decide +kernel)|exact .inr (by decide +kernel)) (by rw[bx1];kernel_rfl)
theorem aN7 (a:av):argsOk "set_iterator.__iter__" ⟨[a],[]⟩:=by
 unfold argsOk;rw[signature?_of (id:="set_iterator.__iter__") (n:=['_','_','r','e','t','i','_','_']) (o:=['r','o','t','a','r','e','t','i','_','t','e','s']) (by kernel_rfl) U1];kernel_rfl
section
variable {prog:az}{w:bc}{A:ba}{E:av→ax→Prop}{s:ax}{I a:ay}{es:Array (Int×av)}{ep:Nat}{t:SetTable}
abbrev gK (f:av)(i:Nat)(a:ay)(n ep:Nat):Obj:={ cls:=.type "set_iterator",data:=.fields #[f,.int i 0,.ref a,.int n 0,.int ep 0] }
theorem aN8 {f:av}{i:Nat}{Q:Option av->ax->Prop}(hi:s.heap.get? I=some (gK f i a es.size ep))(ha:s.heap.get? a=some (cC es ep t))(hf:t.fits es.size=true)(ne:I≠a){sl sl':Nat}{x:av}(ef:f = .int sl 0)(hn:∀(s:ax) (Q:Option (av×Nat)->ax->Prop) (E:av->ax->Prop) (A:ba),s.heap.get? a=some (cC es ep t)->Q (some (x,sl')) s->wpAny (model prog w) A (setNext a sl i ep) Q E s)(hQ:∀h',h'.get? I=some (gK (.int sl' 0) (i+1) a es.size ep)->Heap.SameBut I s.heap h'->Q (some x) { s with heap:=h' }):wpAny (model prog w) A (pyNext (.ref I)) Q E s:=by
 have hT:s.TypeIs (.ref I) "set_iterator":=⟨_,hi,rfl⟩;subst ef;unfold pyNext;refine bf1 (bv2 (bl5 (name:=Str.ofString "__next__") hT i8 (bk9 i8 hT sW ?_ (sX _))));unfold Builtin.«set_iterator.__next__»;refine bf1 (bf5 ?_);refine bf1 (wpAny_fieldsOf hi rfl ?_);dsimp only;refine bf1 (wpAny_setEntries_of ha rfl hf ?_);rw[if_neg (by simp)];refine bf1 (hn _ _ _ _ ha ?_);dsimp only;refine bf1 (bs3 hi rfl (by simp) ?_);have h1:(s.heap.update I (Obj.mapFields (·.setIfInBounds 0 (rawInt sl')))).get? I=some (gK (.int sl' 0) i a es.size ep):=by
  have:=bn6 (Obj.mapFields (·.setIfInBounds 0 (rawInt sl'))) hi rfl
  exact this
 refine bf1 (bs3 h1 rfl (by simp) ?_);have h2:=bn6 (Obj.mapFields (·.setIfInBounds 1 (rawInt ((i:Int)+1)))) h1 rfl;exact bf5 ⟨_,rfl,bf5 (hQ _ h2 ((bm4 ..).trans (bm4 ..)))⟩
theorem aN9 {f:av}{i:Nat}{Q:Option av->ax->Prop}(hh:A.handled=none)(hi:s.heap.get? I=some (gK f i a es.size ep))(ha:s.heap.get? a=some (cC es ep t))(hf:t.fits es.size=true){sl:Nat}(ef:f = .int sl 0)(hn:∀(s:ax) (Q:Option (av×Nat)->ax->Prop) (E:av->ax->Prop) (A:ba),s.heap.get? a=some (cC es ep t)->Q none s->wpAny (model prog w) A (setNext a sl i ep) Q E s)(hQ:∀h',Heap.ExtBut I s.heap h'->Q none { s with heap:=h' }):wpAny (model prog w) A (pyNext (.ref I)) Q E s:=by
 have hT:s.TypeIs (.ref I) "set_iterator":=⟨_,hi,rfl⟩;subst ef;unfold pyNext;refine bf1 (bv2 (bl5 (name:=Str.ofString "__next__") hT i8 (bk9 i8 hT sW ?_ (sX _))));unfold Builtin.«set_iterator.__next__»;refine bf1 (bf5 ?_);refine bf1 (wpAny_fieldsOf hi rfl ?_);dsimp only;refine bf1 (wpAny_setEntries_of ha rfl hf ?_);rw[if_neg (by simp)];refine bf1 (hn _ _ _ _ ha ?_);dsimp only;refine bf1 (bs3 hi rfl (by simp) ?_);refine bf1 ?_;simp only[newExc,newTuple];refine bf1 (bk2 ?_ (by size_fits));refine bf1 (m:=firstArgMember _ _) (wpAny_of_eq (a:=Value.none) (by first|rfl|(simp only[firstArgMember];rfl)) ?_);refine bk2 ?_ (by size_fits);simp only[raiseNew];refine bf1 (wpAny_handled ?_);rw[show A.in1.handled=none from hh];refine bf1 (bf5 (wpAny_throw ?_));refine bf1 (wpAny_isInstance (T:="StopIteration") (b:=true) ⟨_,bg8 _ rfl,rfl⟩ isSubtype_stop ?_);exact bf5 (hQ _ (((bm4 ..).extBut.push _).push _))
end
section
variable {prog:az}{w:bc}{A:ba}{E:av→ax→Prop}{s:ax}{I a:ay}{es:Array (Int×av)}{ep:Nat}{t:SetTable}
theorem U3 {f:av}{i n:Nat}{Q:av->ax->Prop}(hi:s.heap.get? I=some (gK f i a n ep))(h:Q (.ref I) s):wpAny (model prog w) A (pyIter (.ref I)) Q E s:=by
 have hT:s.TypeIs (.ref I) "set_iterator":=⟨_,hi,rfl⟩;refine wpAny_pyIter_slot hT U2 (bk9 U2 hT aN6 ?_ (aN7 _));show wpAny _ _ (ret (.ref I)) _ _ s;exact bf5 ⟨_,rfl,"set_iterator",_,hT,i8.lookup,h⟩
theorem aO0 (hh:A.handled=none)(ne:I≠a)(hf:t.fits es.size=true)(O:List av)(len:O.length=es.size)(sl:Nat->Nat)(hn:∀i x,O[i]? = some x->∀(s:ax) (Q:Option (av×Nat)->ax->Prop) (E:av->ax->Prop) (A:ba),s.heap.get? a=some (cC es ep t)->Q (some (x,sl (i+1))) s->wpAny (model prog w) A (setNext a (sl i) i ep) Q E s)(he:∀(s:ax) (Q:Option (av×Nat)->ax->Prop) (E:av->ax->Prop) (A:ba),s.heap.get? a=some (cC es ep t)->Q none s->wpAny (model prog w) A (setNext a (sl es.size) es.size ep) Q E s) :
  Walks prog w A I [I,a] [I] es.size (λi v=>O[i]? = some v) (λi h=>h.get? I=some (gK (.int (sl i) 0) i a es.size ep)/\h.get? a=some (cC es ep t)) where
 sub:=λb hb=>by rw[bg2.mp hb];exact bg1
 frame:=λ_ _ _ st hk=>⟨hk I bg1 _ st.1,hk a (bf9 _ bg1) _ st.2⟩
 item:=λi s Q E hi st hQ=>by
  have ho:O[i]? = some O[i]:=bf4 (by omega);refine aN8 st.1 st.2 hf ne rfl (hn i _ ho) λh' g sb=>?_
  have e:s={ s with heap:=s.heap }:=by cases s;rfl
  exact hQ _ h' s.toks ho ⟨g,by rw[sb.2 a (Ne.symm ne)];exact st.2⟩ λb o hb e=>by rw[sb.2 b λz=>hb (by rw[z];exact List.mem_singleton_self _)];exact e
 done:=λs Q E st hQ=>aN9 hh st.1 st.2 hf rfl he λh' eb=>hQ h' s.toks λb o hb e=>eb b o (λz=>hb (by rw[z];exact List.mem_singleton_self _)) e
 self:=λi s Q E st hQ=>U3 st.1 hQ
theorem U4 (bt:w.params.followText "set-order" = true)(hf:t.fits es.size=true){i:Nat}{sl:Nat}{Q:Option (av×Nat)->ax->Prop}(ha:s.heap.get? a=some (cC es ep t))(h:Q (((pickOrder (w.params.setOrder a ep) es)[i]?).map λe=>(e.2,sl)) s):wpAny (model prog w) A (setNext a sl i ep) Q E s:=by
 unfold setNext setsByText;refine bf1 (bp3 ha rfl hf ?_);refine bf1 (bf1 (wpAny_askSetting (bf5 ?_)));rw[show ((⟨(model prog w).prog,(model prog w).w.params⟩:Setting).params.followText "set-order")=true from bt,if_pos rfl,if_neg (by simp)];refine bf1 ?_;unfold setWalk setsByText;refine bf1 (bp3 ha rfl hf ?_);refine bf1 (bf1 (wpAny_askSetting (bf5 ?_)));rw[show ((⟨(model prog w).prog,(model prog w).w.params⟩:Setting).params.followText "set-order")=true from bt,if_pos rfl];refine bf1 (wpAny_askSetting (bf5 ?_));exact bf5 h
theorem U5 (bt:w.params.followText "set-order" = false)(hf:t.fits es.size=true)(tk:T8 (!w.params.followText "set-order") t)(pl:(!t.plain&&decide (es.size>1))=false){i sl:Nat}{Q:Option (av×Nat)->ax->Prop}(ha:s.heap.get? a=some (cC es ep t))(h:Q (match es[SetTable.below t.place sl]?,t.place[SetTable.below t.place sl]? with|some (_,x),some j=>some (x,j+1)|_,_=>none) s):wpAny (model prog w) A (setNext a sl i ep) Q E s:=by
 unfold setNext setsByText;refine bf1 (bp3 ha rfl hf ?_);refine bf1 (bf1 (wpAny_askSetting (bf5 ?_)));rw[show ((⟨(model prog w).prog,(model prog w).w.params⟩:Setting).params.followText "set-order")=false from bt,if_neg (by decide)];have ld:t.led=true:=by rw[tk.led,bt];rfl
 show wpAny _ _ (if (!t.plain&&decide (es.size>1))=true then _ else _) _ _ _;rw[pl,if_neg (by decide)];refine bf1 ?_;show wpAny _ _ (if (!t.led&&!es.isEmpty)=true then _ else _) _ _ _;rw[ld,if_neg (by simp)];exact bf5 (bf5 h)
end
theorem U6 {α:Type}{l:List α}{i:Nat}(h:i<l.length):(l[i]::l.eraseIdx i).Perm l:=by
 have e:l=l.take i++l[i]::l.drop (i+1):=by rw[<- List.drop_eq_getElem_cons h,bk3]
 rw[List.eraseIdx_eq_take_drop_succ];exact List.perm_middle.symm.trans (by rw[<- e])
theorem U7 {prog:az}{w:bc}{A:ba}{E:av->ax->Prop}{s:ax}{p:ay}{o:Obj}{xs:Array av}{n:Nat}{Q:Option (Array av)->ax->Prop}(ho:s.heap.get? p=some o)(hd:o.data = .seq xs n)(h:Q (some xs) s):wpAny (model prog w) A (seqItems? (.ref p)) Q E s:=by
 unfold seqItems?;refine bf1 (wpAny_load ho ?_);rw[hd];exact bf5 h
theorem U8 {α:Type}{next:Nat->Nat}:∀(fuel k:Nat) (left:List α) (out:Array α),left.length<=fuel->(pickOrder.go next fuel k left out).toList.Perm (out.toList++left)
 |0,k,left,out,h=>by
  have:left = []:=List.eq_nil_of_length_eq_zero (by omega)
  subst this;rw[bj9];exact br0 _
 |fuel+1,k,left,out,h=>by
  unfold pickOrder.go;cases hx:left[next k%left.length]? with
  |none=>
   have:left = []:=by
    cases left with
    |nil=>rfl
    |cons a r=>
     have:=List.getElem?_eq_none_iff.mp hx
     have:=Nat.mod_lt (next k) (show 0<(a::r).length from Nat.zero_lt_succ _)
     omega
   subst this;rw[bj9]
  |some x=>
   obtain⟨hi,e⟩:=bh8.mp hx
   have p:=U6 hi;rw[e]at p;have lp:=p.length_eq;rw[bj5]at lp;refine (U8 fuel (k+1) _ _ (by omega)).trans ?_;rw[Array.toList_push,bh6];exact p.append_left _
theorem U9 {α:Type}(next:Nat->Nat)(xs:Array α):(pickOrder next xs).toList.Perm xs.toList:=U8 xs.size 0 xs.toList #[] (by rw[bh3];exact bg0 _)
def k9 (xs:List Nat):Nat->Nat
 |0=>0
 |i+1=>xs.getD i 0+1
theorem V0 {xs:Array Nat}(a:xs.toList.Pairwise (·<·)):∀i,i<=xs.size->SetTable.below xs (k9 xs.toList i)=i
 |0,_=>by
  obtain⟨_,b2,_⟩:=sV (j:=k9 xs.toList 0) a
  rcases Nat.eq_zero_or_pos (SetTable.below xs (k9 xs.toList 0)) with z|z
  ·exact z
  ·exact absurd (b2 0 z) (bp8 _)
 |i+1,hi=>by
  obtain⟨b1,b2,b3⟩:=sV (j:=k9 xs.toList (i+1)) a
  have sz:xs.toList.length=xs.size:=bh3;have e:k9 xs.toList (i+1)=xs.toList.getD i 0+1:=rfl;rcases Nat.lt_trichotomy (SetTable.below xs (k9 xs.toList (i+1))) (i+1) with z|z|z
  ·have:=b3 i (by omega) (by omega)
   omega
  ·exact z
  ·have h1:=b2 (i+1) z
   have h2:=bk8.mp a i (i+1) (by omega) (by omega) (by omega);rw[e,bg5,bg5,bf4 (by omega),bf4 (by omega)]at h1;exact absurd h1 (by show ¬xs.toList[i+1]<xs.toList[i]+1;omega)
theorem aO1 {prog:az}{w:bc}{A:ba}{E:av->ax->Prop}{s:ax}{src:Source}{n:Nat}{Q:Nat->ax->Prop}(hn:n≠0)(h:∀i d,i<n->Q i { s with drawn:=d }):wpAny (model prog w) A (choose src n) Q E s:=
 λ_ _ _=>⟨hn,h _ _ (Nat.mod_lt _ (Nat.pos_of_ne_zero hn))⟩
section
variable {prog:az}{w:bc}{A:ba}{E:av→ax→Prop}
theorem V1 {α:Type}:∀(n:Nat) (xs:List α) (s:ax) {Q:List α->ax->Prop},xs.length<=n->(∀ys d,ys.Perm xs->Q ys { s with drawn:=d })->wpAny (model prog w) A (drawOrder n xs) Q E s
 |0,xs,s,Q,hl,h=>by
  have:xs = []:=List.eq_nil_of_length_eq_zero (by omega)
  subst this;exact bf5 (h [] s.drawn (br0 _))
 |n+1,[],s,Q,hl,h=>bf5 (h [] s.drawn (br0 _))
 |n+1,x::r,s,Q,hl,h=>by
  unfold drawOrder;refine bf1 (aO1 (Nat.succ_ne_zero _) λi d hi=>?_);rw[bf4 hi];have p:=U6 hi;have lp:=p.length_eq;rw[bj5]at lp;refine bf1 (V1 n _ _ (by omega) λys d' py=>bf5 ?_);exact h _ d' ((py.cons _).trans p)
end
section
variable {prog:az}{w:bc}{A:ba}{E:av→ax→Prop}{s:ax}{I a p:ay}{es:Array (Int×av)}{ep:Nat}{t:SetTable}
theorem aO2 {i j:Nat}{ps:Array av}{x:Int×av}{Q:Option av->ax->Prop}(hi:s.heap.get? I=some (gK (.ref p) i a es.size ep))(ha:s.heap.get? a=some (cC es ep t))(hf:t.fits es.size=true)(hp:s.heap.IsTuple p ps)(hj:ps[i]? = some (.int j 0))(hx:es[j]? = some x)(hQ:∀h',h'.get? I=some (gK (.ref p) (i+1) a es.size ep)->Heap.SameBut I s.heap h'->Q (some x.2) { s with heap:=h' }):wpAny (model prog w) A (pyNext (.ref I)) Q E s:=by
 have hT:s.TypeIs (.ref I) "set_iterator":=⟨_,hi,rfl⟩
 obtain⟨op,hop,hc,nl,hd⟩:=hp
 unfold pyNext;refine bf1 (bv2 (bl5 (name:=Str.ofString "__next__") hT i8 (bk9 i8 hT sW ?_ (sX _))));unfold Builtin.«set_iterator.__next__»;refine bf1 (bf5 ?_);refine bf1 (wpAny_fieldsOf hi rfl ?_);dsimp only;refine bf1 (wpAny_setEntries_of ha rfl hf ?_);rw[if_neg (by simp)];refine bf1 (U7 hop hd ?_);dsimp only;rw[bw0,hj];dsimp only;unfold setNextDrawn;refine bf1 (bf1 (bp3 ha rfl hf ?_));dsimp only;rw[if_neg (by simp),bw0,hx];refine bf5 ?_;refine bf1 (bs3 hi rfl (by simp) ?_);have h2:=bn6 (Obj.mapFields (·.setIfInBounds 1 (rawInt ((i:Int)+1)))) hi rfl;exact bf5 ⟨_,rfl,bf5 (hQ _ h2 (bm4 ..))⟩
theorem aO3 {i:Nat}{ps:Array av}{Q:Option av->ax->Prop}(hh:A.handled=none)(hi:s.heap.get? I=some (gK (.ref p) i a es.size ep))(ha:s.heap.get? a=some (cC es ep t))(hf:t.fits es.size=true)(hp:s.heap.IsTuple p ps)(hj:ps[i]? = none)(hQ:∀h',Heap.ExtBut I s.heap h'->Q none { s with heap:=h' }):wpAny (model prog w) A (pyNext (.ref I)) Q E s:=by
 have hT:s.TypeIs (.ref I) "set_iterator":=⟨_,hi,rfl⟩
 obtain⟨op,hop,hc,nl,hd⟩:=hp
 unfold pyNext;refine bf1 (bv2 (bl5 (name:=Str.ofString "__next__") hT i8 (bk9 i8 hT sW ?_ (sX _))));unfold Builtin.«set_iterator.__next__»;refine bf1 (bf5 ?_);refine bf1 (wpAny_fieldsOf hi rfl ?_);dsimp only;refine bf1 (wpAny_setEntries_of ha rfl hf ?_);rw[if_neg (by simp)];refine bf1 (U7 hop hd ?_);dsimp only;rw[bw0,hj];dsimp only;refine bf1 (bs3 hi rfl (by simp) ?_);have h1:(s.heap.update I (Obj.mapFields (·.setIfInBounds 0 (rawInt 0)))).get? I=some (gK (.int 0 0) i a es.size ep):=bn6 (Obj.mapFields (·.setIfInBounds 0 (rawInt 0))) hi rfl;refine bf1 (bs3 h1 rfl (by simp) ?_);refine bf1 ?_;simp only[newExc,newTuple];refine bf1 (bk2 ?_ (by size_fits));refine bf1 (m:=firstArgMember _ _) (wpAny_of_eq (a:=Value.none) (by first|rfl|(simp only[firstArgMember];rfl)) ?_);refine bk2 ?_ (by size_fits);simp only[raiseNew];refine bf1 (wpAny_handled ?_);rw[show A.in1.handled=none from hh];refine bf1 (bf5 (wpAny_throw ?_));refine bf1 (wpAny_isInstance (T:="StopIteration") (b:=true) ⟨_,bg8 _ rfl,rfl⟩ isSubtype_stop ?_);exact bf5 (hQ _ ((((bm4 ..).trans (bm4 ..)).extBut.push _).push _))
theorem aO4 (hh:A.handled=none)(ne:I≠a)(nep:I≠p)(hf:t.fits es.size=true){ps:Array av}{js:List Nat}(hps:ps=(js.map λj:Nat=>Value.int j 0).toArray)(len:js.length=es.size)(inn:∀j∈js,j<es.size) :
  Walks prog w A I [I,a,p] [I] es.size (λi v=>(js.map λj=>(es.toList.map (·.2)).getD j .none)[i]? = some v) (λi h=>h.get? I=some (gK (.ref p) i a es.size ep)/\h.get? a=some (cC es ep t)/\h.IsTuple p ps) where
 sub:=λb hb=>by rw[bg2.mp hb];exact bg1
 frame:=λ_ _ _ st hk=>⟨hk I bg1 _ st.1,hk a (bf9 _ bg1) _ st.2.1,st.2.2.at λo e=>hk p (bf9 _ (bf9 _ bg1)) o e⟩
 item:=λi s Q E hi st hQ=>by
  have hl:i<js.length:=by omega
  have hj:=inn js[i] (bm1 hl);have h1:ps[i]? = some (.int js[i] 0):=by rw[hps];simp[hl]
  have h2:es[js[i]]? = some es[js[i]]:=bj2 hj;refine aO2 st.1 st.2.1 hf st.2.2 h1 h2 λh' g sb=>?_
  refine hQ _ h' s.toks ?_ ⟨g,by rw[sb.2 a (Ne.symm ne)];exact st.2.1,st.2.2.at λo e=>by rw[sb.2 p (Ne.symm nep)];exact e⟩ λb o hb e=>by rw[sb.2 b λz=>hb (by rw[z];exact List.mem_singleton_self _)];exact e
  simp[hl,hj]
 done:=λs Q E st hQ=>aO3 hh st.1 st.2.1 hf st.2.2 (by rw[hps];simp[len]) λh' eb=>hQ h' s.toks λb o hb e=>eb b o (λz=>hb (by rw[z];exact List.mem_singleton_self _)) e
 self:=λi s Q E st hQ=>U3 st.1 hQ
end
section
variable {prog:az}{w:bc}{A:ba}{E:av→ax→Prop}{s:ax}{a:ay}{es:Array (Int×av)}{ep:Nat}{t:SetTable}{ms:ae}
def pB (w:bc)(es:Array (Int×av))(t:SetTable):Prop:=es.size<scanBound/\t.fits es.size=true/\T8 (!w.params.followText "set-order") t
theorem aO5 (hh:A.handled=none)(ha:s.heap.get? a=some (cC es ep t))(ok:pB w es t){Q:av->ax->Prop}(h:∀(I:ay) (h1:Heap) (d1:Drawn) (O:List av) (fp:List ay) (St:Nat->Heap->Prop),(∀b o,s.heap.get? b=some o->h1.get? b=some o)->s.heap.objs.size<=I->(∀b∈fp,b=a∨s.heap.objs.size<=b)->O.Perm (es.toList.map (·.2))->
   Walks prog w A I fp [I] es.size (λi v=>O[i]? = some v) St->St 0 h1->Q (.ref I) { s with heap:=h1,drawn:=d1 }):wpAny (model prog w) A (pyIter (.ref a)) Q E s:=by
 obtain⟨hb,hf,tk⟩:=ok
 have hT:s.TypeIs (.ref a) "set":=⟨_,ha,rfl⟩;have lt:=bg7 ha;have sz:es.toList.length=es.size:=bh3;refine wpAny_pyIter_slot hT F.slot_set_iter (bk9 F.slot_set_iter hT aN5 ?_ (F.args_set_iter_1 _));unfold Builtin.«frozenset.__iter__» Builtin.Frozenset.slot0 Builtin.Frozenset.sizeOf;refine bf1 (bf1 (bf5 (bf5 ?_)));refine bf1 (bf1 (wpAny_setEntries_of ha rfl hf (bf5 ?_)));refine bf1 ?_;unfold setDrawn setsByText;refine bf1 (bp3 ha rfl hf ?_);refine bf1 (bf1 (wpAny_askSetting (bf5 ?_)));refine bf5 ?_;show wpAny _ _ (if (!w.params.followText "set-order"&&(!t.plain&&decide (es.size>1)))=true then _ else _) _ _ _;have fin:∀(d1:Drawn) (sl:Nat->Nat) (O:List av),O.Perm (es.toList.map (·.2))->sl 0=0->
   (∀i x,O[i]? = some x->∀(s:ax) (Q:Option (av×Nat)->ax->Prop) (E:av->ax->Prop) (A:ba),s.heap.get? a=some (cC es ep t)->Q (some (x,sl (i+1))) s->wpAny (model prog w) A (setNext a (sl i) i ep) Q E s)->
   (∀(s:ax) (Q:Option (av×Nat)->ax->Prop) (E:av->ax->Prop) (A:ba),s.heap.get? a=some (cC es ep t)->Q none s->wpAny (model prog w) A (setNext a (sl es.size) es.size ep) Q E s)->
   Q (.ref s.heap.objs.size) { s with heap:=s.heap.push (gK (.int 0 0) 0 a es.size ep),drawn:=d1 }:=λd1 sl O po s0 hn he=>
  h s.heap.objs.size _ d1 O [s.heap.objs.size,a] _ (λb o e=>bf3 _ e) (bg0 _) (λb hb=>by
   rcases bg6.mp hb with e|hb
   ·exact .inr (Nat.le_of_eq e.symm)
   ·exact .inl (bg2.mp hb)) po (aO0 (I:=s.heap.objs.size) hh (bn8 lt) hf O (by rw[po.length_eq,bf6,sz]) sl hn he) ⟨by rw[s0];exact bg8 _ rfl,bf3 _ ha⟩
 have last:∀q:Q (.ref s.heap.objs.size) { s with heap:=s.heap.push (gK (.int 0 0) 0 a es.size ep) },wpAny (model prog w) A.in1 (do
   let first <- pure (rawInt 0)
   (λfirst=>do
    let e <- setEpoch a
    let o <- newFields "set_iterator" [first,rawInt 0,Value.ref a,rawInt es.size,rawInt e]
    ret o) first) (λfin s'=>∃v,fin = .done (.ret v)/\∃T' r,s'.TypeIs v T'/\typeLookup (.type T') (Str.ofString "__next__")=pure (some r)/\Q v s') E s:=λq=>by
  refine bf1 (bf5 ?_);refine bf1 (wpAny_setEpoch_of ha rfl hf ?_);exact bf1 (bk2 (bf5 ⟨_,rfl,"set_iterator",_,⟨_,bg8 _ rfl,rfl⟩,i8.lookup,q⟩))
 cases bt:w.params.followText "set-order" with
 |true=>
  rw[if_neg (by simp)];refine last (fin s.drawn (λ_=>0) ((pickOrder (w.params.setOrder a ep) es).toList.map (·.2)) ((U9 _ _).map _) rfl (λi x hx s Q E A ha q=>U4 bt hf ha ?_) λs Q E A ha q=>U4 bt hf ha ?_)
  ·rw[bh5,bi4]at hx
   cases hp:(pickOrder (w.params.setOrder a ep) es)[i]? with
   |none=>rw[hp]at hx;cases hx
   |some e=>rw[hp]at hx;cases hx;exact q
  ·have:=(U9 (w.params.setOrder a ep) es).length_eq
   rw[bh3,bh3]at this;rw[bs4 (by omega)];exact q
 |false=>
  have ps:t.place.size=es.size:=by
   unfold SetTable.fits at hf;rw[bn3]at hf;exact eq_of_beq hf.1
  cases pl:(!t.plain&&decide (es.size>1)) with
  |false=>
   rw[if_neg (by simp)];refine last (fin s.drawn (k9 t.place.toList) (es.toList.map (·.2)) (br0 _) rfl (λi x hx s Q E A ha q=>U5 bt hf tk pl ha ?_) λs Q E A ha q=>U5 bt hf tk pl ha ?_)
   ·have il:i<es.size:=by
     have:=(bh8.mp hx).1
     rw[bf6,sz]at this;exact this
    rw[V0 tk.asc i (by omega),bj2 il,bj2 (by omega)];rw[bh5,bi4,bj2 il]at hx;cases hx;have e:k9 t.place.toList (i+1)=t.place[i]+1:=by
     show t.place.toList.getD i 0+1=_;rw[bg5,bi4,bj2 (by omega)];rfl
    rw[e]at q;exact q
   ·rw[V0 tk.asc es.size (by omega),bs4 (bg0 _)];exact q
  |true=>
   rw[if_pos (by simp)];refine bf1 (V1 es.size (List.range es.size) s (by rw[bl8];exact bg0 _) λjs d pj=>?_);have jl:js.length=es.size:=by rw[pj.length_eq,bl8]
   simp only[newTuple];refine bf1 (bk2 ?_ (by show (List.map _ js).toArray.size<=sizeLine;rw[bf8,bf6,jl];exact fits_of_scanBound hb));have ha1:=bf3 { cls:=.type "tuple",data:=.seq (js.map λ(i:Nat)=>rawInt i).toArray } ha;refine bf1 (wpAny_setEpoch_of ha1 rfl hf ?_);refine bf1 (bk2 (bf5 ⟨_,rfl,"set_iterator",_,⟨_,bg8 _ rfl,rfl⟩,i8.lookup,?_⟩));have sp:(s.heap.push { cls:=.type "tuple",data:=.seq (js.map λ(i:Nat)=>rawInt i).toArray }).objs.size=s.heap.objs.size+1:=bu3 ..;have hp1:=bg8 s.heap (o:={ cls:=.type "tuple",data:=.seq (js.map λ(i:Nat)=>rawInt i).toArray }) rfl;have inn:∀j∈js,j<es.size:=λj hj=>bj8.mp (pj.mem_iff.mp hj)
   refine h _ _ d (js.map λj=>(es.toList.map (·.2)).getD j .none) [_,a,s.heap.objs.size] _ (λb o e=>bf3 _ (bf3 _ e)) (by show _<=(s.heap.push _).objs.size;rw[sp];exact Nat.le_succ _) (λb hb=>?_) ?_ (aO4 (p:=s.heap.objs.size) hh (by show (s.heap.push _).objs.size≠a;rw[sp];exact bn8 (bu6 lt)) (by show (s.heap.push _).objs.size≠s.heap.objs.size;rw[sp];exact Nat.succ_ne_self _) hf rfl jl inn) ⟨bg8 _ rfl,bf3 _ ha1,_,bf3 _ hp1,rfl,_,rfl⟩
   ·rcases bg6.mp hb with e|hb
    ·rw[e];exact .inr (by show _<=(s.heap.push _).objs.size;rw[sp];exact Nat.le_succ _)
    ·rcases bg6.mp hb with e|hb
     ·exact .inl e
     ·exact .inr (Nat.le_of_eq (bg2.mp hb).symm)
   ·refine (pj.map _).trans ?_
    have e:(List.range es.size).map (λj=>(es.toList.map (·.2)).getD j .none)=es.toList.map (·.2):=by
     refine List.ext_getElem (by simp) λi h1 h2=>?_
     simp at h1 h2 ⊢;simp[h2]
    rw[e]
end
end Raw
namespace Raw
open PySem PySem.W PyProof.Rows
section
variable {prog:az}{w:bc}{A:ba}{E:av→ax→Prop}{s:ax}{a:ay}{es:Array (Int×av)}{ep:Nat}{t:SetTable}{ms:ae}
theorem aO6 {Q:Bool->ax->Prop}(hT:s.TypeIs (.ref a) "set")(h:Q false s):wpAny (model prog w) A (Builtin.List.listLengthHint (.ref a)) Q E s:=by
 unfold Builtin.List.listLengthHint;refine bf1 (wpAny_specialOf hT PySem.F.slot_set_len.lookup ?_);generalize hid:("set.__len__":String)=id0
 wp_delta
 rw[show splitId id0=some ("set","__len__") from by subst hid;decide +kernel];subst hid;refine bf1 (wpAny_isInstance (T:="set") (b:=true) hT (by rw[bx1];kernel_rfl) ?_);refine wpAny_ite_split (λhab=>absurd hab (by decide)) (λ_=>?_);refine wpAny_ite_split (λ_=>?_) (λhab=>absurd (by decide +kernel) hab);refine bf1 (wpAny_typeOf hT ?_);exact bf5 h
theorem aO7 {O:List av}{acc:Array av}{n:Nat}(h:ItemsOf (λi v=>O[i]? = some v) acc n)(hn:O.length=n):acc.toList=O:=by
 refine List.ext_getElem (by rw[bh3,h.1,hn]) λi h1 h2=>?_
 rw[bh3]at h1;have this:O[i]? = some acc[i]:=h.2 i acc[i] (bj2 h1);rw[bf4 h2]at this;rw[Array.getElem_toList];exact (bj4 this).symm
theorem aO8 {R:Result->ax->Prop}(hh:A.handled=none)(ha:s.heap.get? a=some (cC es ep t))(ok:pB w es t)(S:ay)(nSa:S≠a)(res:av)(c0:Nat)(hS:s.heap.get? S=some { cls:=.type "list",data:=.seq #[] c0 })(hR:∀h' tk d acc c,(∀b o,b≠S->s.heap.get? b=some o->h'.get? b=some o)->h'.get? S=some { cls:=.type "list",dict:=none,data:=.seq acc c,slots:=#[] }->acc.toList.Perm (es.toList.map (·.2))->R (.ok (.ret res)) { s with heap:=h',toks:=tk,drawn:=d }) :
  wpAny (model prog w) A.in1 (Builtin.List.listExtendWith (.ref S) (.ref a) res)
   (λfin s'=>match fin with|.done f=>R (.ok f) s'|.again c'=>c'.quiet=true/\codeAny (model prog w) A c' R s') (λe s'=>R (.error e) s') s:=by
 have hT:s.TypeIs (.ref a) "set":=⟨_,ha,rfl⟩;have lS:=bg7 hS;have hn:es.size<=sizeLine:=fits_of_scanBound ok.1;unfold Builtin.List.listExtendWith;refine bf1 (wpAny_typeOf (T:="set") hT ?_);have e1:Builtin.List.listSameRef (.ref S) (.ref a)=false:=by simp[Builtin.List.listSameRef,nSa]
 simp only[e1,show (Value.type "set"==Value.type "list")=false by decide,show (Value.type "set"==Value.type "tuple")=false by decide,Bool.or_false,bh2,bl6];refine bf1 (aO5 (A:=A.in1) hh ha ok λI h1 d1 O fp St kp lI fpo po W st=>?_);have nSf:S∉fp:=λz=>(fpo S z).elim nSa λz=>absurd (bh0 lS z) (bl1 _)
 have ol:O.length=es.size:=by rw[po.length_eq,bf6,bh3]
 have key:∀(h:Heap) (c1 tk:Nat),St 0 h->(∀b o,b≠S->s.heap.get? b=some o->h.get? b=some o)->h.get? S=some { cls:=.type "list",data:=.seq #[] c1 }->codeAny (model prog w) A (.builtin "list.extend.loop" ⟨[.ref S,.ref I,res],[]⟩) R { s with heap:=h,toks:=tk,drawn:=d1 }:=by
  intro h c1 tk hst hk hS1;refine codeAny_extend_loopS W.toS hn S nSf res es.size 0 _ #[] c1 rfl (bk7 _) hst hS1 (ItemsOf.nil _) λs' acc c hm hS' it=>?_
  rw[Moved.eq_with hm];refine hR s'.heap s'.toks d1 acc c (λb o hb e=>hm.heap b o (λz=>?_) (hk b o hb e)) hS' (by rw[aO7 it ol];exact po);rcases bg6.mp z with z|z
  ·exact hb z
  ·rw[bg2.mp z]at e
   exact absurd (bh0 (bg7 e) lI) (bl1 _)
 have hS1:=kp _ _ hS;refine bf1 (bn5 (aO6 ⟨_,kp _ _ ha,rfl⟩ ?_));refine wpAny_ite_split (λ_=>?_) (λ_=>bf5 ⟨plainId_quiet PySem.F.plain_extend_loop _,key _ c0 _ st (λb o _ e=>kp _ _ e) hS1⟩);refine bf1 (bw6 ?_);refine bf1 ?_;show wpAny _ _ (updateSeq S (·.push .none) >>= λ_=>updateSeq S (·.pop)) _ _ _;refine bf1 (wpAny_updateSeq hS1 rfl ?_);have hS2:=bn6 (Obj.mapSeq (·.push Value.none)) hS1 rfl;refine wpAny_updateSeq (hz:=by seq_fits) hS2 rfl ?_;have hS3:=bn6 (Obj.mapSeq (·.pop)) hS2 rfl;refine bf5 ⟨plainId_quiet PySem.F.plain_extend_loop _,key _ _ _ ?_ (λb o hb e=>?_) hS3⟩
 ·refine W.frame 0 _ _ st λb hb o e=>?_
  have hbS:b≠S:=λz=>nSf (z▸hb)
  exact (bv0 _ _ (Ne.symm hbS)).trans ((bv0 _ _ (Ne.symm hbS)).trans e)
 ·exact (bv0 _ _ (Ne.symm hb)).trans ((bv0 _ _ (Ne.symm hb)).trans (kp _ _ e))
theorem aO9 {R:Result->ax->Prop}(hh:A.handled=none)(ha:s.heap.get? a=some (cC es ep t))(ok:pB w es t)(hR:∀h' tk d acc c,(∀b o,b≠s.heap.objs.size->(s.heap.push { cls:=.type "list",data:=.seq ([]:List av).toArray }).get? b=some o->h'.get? b=some o)->h'.get? s.heap.objs.size=some { cls:=.type "list",dict:=none,data:=.seq acc c,slots:=#[] }->acc.toList.Perm (es.toList.map (·.2))->R (.ok (.ret (.ref s.heap.objs.size))) { s with heap:=h',toks:=tk,drawn:=d }) :
  codeAny (model prog w) A (.builtin "proto.collect" ⟨[.ref a],[]⟩) R s:=by
 refine bs8 PySem.F.entry_proto_collect ?_;rw[br8 PySem.F.plain_proto_collect _];show wpAny _ A.in1 (newList [] >>= λl=>again (.builtin "list.__iadd__" ⟨[l,.ref a],[]⟩)) _ _ s;refine bf1 (bk2 ?_);refine bf5 ⟨plainId_quiet PySem.F.plain_list_iadd _,bs8 PySem.F.entry_list_iadd ?_⟩;rw[br8 PySem.F.plain_list_iadd _];show wpAny _ A.in1 (Builtin.List.listExtendWith (.ref s.heap.objs.size) (.ref a) (.ref s.heap.objs.size)) _ _ _;exact aO8 (s:={ s with heap:=s.heap.push { cls:=.type "list",data:=.seq ([]:List av).toArray } }) (R:=R) hh (bf3 _ ha) ok s.heap.objs.size (bn8 (bg7 ha)) _ 0 (bg8 _ rfl) hR
end
end Raw
namespace L2
open PySem PySem.Spec PyProof.Rows
section
variable {X:Cx}
theorem a6.drew {ag:List (ay×Obj)}{σ:St}{H:Hp}{s:ax}(I:a6 X ag σ H s)(d:Drawn):a6 X ag σ H { s with drawn:=d }:=
 ⟨I.ok,I.os,I.bare,I.base,I.loc,I.cell,I.free,I.freeC,I.pin,I.hok,I.len⟩
end
end L2
namespace PP
open PySem L2
section
variable {X:Cx}{a b e o:Expr}{ta tb te to:aC}{tr:cJ}{pos p2 ah ai:Pos}{σ:St}{H:Hp}{Q':VK}
open Classical in
theorem aP0 {A:ba}(hu:A.units+2<cLine){ag:List (ay×Obj)}{s:ax}{H:Hp}{us:List V}{its:List av}{rs:ad}{ns:ae}{x:V}{v:av}(I:a6 X ag σ H s)(rx:aP x v)(r:aI us its)(rn:aA X.K (λ_=>True) H x (.tup (intz ns)))(rr:Reps X.K (λ_=>True) H us (rs.map λr=>PV.tup (intz r))):∃f:av->Bool,∀(j:Nat) (w:av),its[j]? = some w->∃m,rs[j]? = some m/\SeqAt.EqAt A s w v (f w)/\f w=decide (m=ns):=by
 have lr:=r.length;have lp:=rr.length;rw[bf6]at lp;refine⟨λw=>decide (∃v',aP v' w/\aA X.K (λ_=>True) H v' (.tup (intz ns))),λj w hw=>?_⟩;have hj:=(bh8.mp hw).1;have h1:j<us.length:=by omega
 obtain⟨w',hw',rw'⟩:=r.get (bf4 h1)
 rw[hw]at hw';cases hw'
 obtain⟨m',hm',rm⟩:=rr.get (bf4 h1)
 rw[bh5]at hm';cases hm:rs[j]? with
 |none=>rw[hm]at hm';cases hm'
 |some m=>
  rw[hm]at hm';cases hm';have e2:(decide (∃v',aP v' w/\aA X.K (λ_=>True) H v' (.tup (intz ns))))=decide (m=ns):=by
   have:(∃v',aP v' w/\aA X.K (λ_=>True) H v' (.tup (intz ns)))↔m=ns:=by
    refine⟨λ⟨v',h1',h2'⟩=>?_,λe=>⟨_,rw',by rw[<- e];exact rm⟩⟩
    obtain⟨p1,w1,e1,_,_⟩:=rm.sqT
    obtain⟨p2,w2,e2,_,_⟩:=h2'.sqT
    rw[e1]at rw' rm;rw[e2]at h1' h2';cases rw';cases h1';exact aN1 rm h2'
   exact decide_eq_decide.mpr this
  refine⟨m,rfl,?_,e2⟩;show SeqAt.EqAt A s w v (decide _);rw[e2]
  have:=M4 I 2 (A:=A) hu rm rn rw' rx (by exact K0 1 m ns)
  rw[J7 1]at this;exact this
def V2 (K:ac):R2:=λx y H Q=>∃p us ns,∃rs:ad,y = .ref p/\H p=some (.lst us)/\aA K (λ_=>True) H x (.tup (intz ns))/\Reps K (λ_=>True) H us (rs.map λr=>PV.tup (intz r))/\Q (.bl (!decide (ns∈rs))) H
theorem aP1 (hu:X.A.units+3<cLine):c9 X (compareOp .NotIn) (V2 X.K):=by
 intro ag s σ H x y v u Q I rx ry h
 obtain⟨p,us,ns,rs,rfl,hp,rn,rr,q⟩:=h
 cases ry
 obtain⟨its,r,pl,hz⟩:=I.list (aT.of (K:=X.K) hp)
 have lr:=r.length;have lp:=rr.length;rw[bf6]at lp
 obtain⟨f,key⟩:=aP0 (A:=X.A.in1) (by show X.A.units+1+2<cLine;omega) I rx r rn rr
 refine SeqAt.notIn_listAt f pl.isList (λw hw=>?_) ⟨.bl _,H,I,rfl,?_⟩
 ·have hw:w∈its:=by simpa using hw
  obtain⟨j,hj⟩:=List.getElem?_of_mem hw
  obtain⟨m,_,h1,h2⟩:=key j w hj
  exact h1
 ·have:its.toArray.any f=decide (ns∈rs):=by
   rw[show its.toArray.any f=its.any f by simp,bp7,List.any_eq_true,bi5];refine⟨λ⟨w,hw,e⟩=>?_,λh=>?_⟩
   ·obtain⟨j,hj⟩:=List.getElem?_of_mem hw
    obtain⟨m,hm,_,h2⟩:=key j w hj
    rw[h2,bi5]at e;rw[<- e];exact br6 hm
   ·obtain⟨j,hj⟩:=List.getElem?_of_mem h
    have hl:=(bh8.mp hj).1
    obtain⟨m,hm,_,h2⟩:=key j its[j] (bf4 (by omega))
    rw[hj]at hm;cases hm
    exact⟨its[j]'(by omega),bm1 _,by rw[h2];exact bg4 rfl⟩
  rw[this];exact q
def sY:PV->Tg->PV->Tg->PK->Prop:=λx _ y _ Q=>∃ns,∃rs:ad,x = .tup (intz ns)/\y = .lst (rs.map λr=>PV.tup (intz r))/\Q (.bl (!decide (ns∈rs))) .fr
theorem aP2:fE X sY (V2 X.K):=by
 rintro W Hs H u v x y g g' Q Q' s n r1 r2 ⟨ns,rs,rfl,rfl,q⟩ k
 obtain⟨p,us,rfl,_,h,r⟩:=r2.sqL
 exact⟨p,us,ns,rs,rfl,h,r1.same (aD.refl _) (λ_ _=>trivial),r.same (aD.refl _) (λ_ _=>trivial),k _ _ _ .fr (aD.refl _) (.bl _) q⟩
theorem V3 (hu:X.A.units+3<cLine)(ha:QE X a ta)(hb:QE X b tb)(hm:behindInMarks .NotIn b=false:=by rfl):QT X (.Compare a [.NotIn] [b] pos) (aX (q2 sY ta tb)):=kY (aP1 hu) aP2 ha hb hm
end
end PP
namespace Core
open PySem L2 PP
def qN (ws:ae)(ls:aa)(ns R:ae):Prop:=T7 ws ls ns R=true/\aK9 ws ls (ns++R)
end Core
namespace PP
open PySem L2
section
variable {X:Cx}{a b:Expr}{ta tb:aC}{pos:Pos}
def V4:PV->Tg->PV->Tg->PK->Prop:=λx _ y _ Q=>∃ns ms:ae,x = .tup (intz ns)/\y = .tup (intz ms)/\Q (.bl (HT.b9 ns ms)) .fr
theorem aP3:fE X V4 (uF X.K):=by
 rintro W Hs H u v x y g g' Q Q' s n r1 r2 ⟨ns,ms,rfl,rfl,q⟩ k
 obtain⟨p1,us,rfl,h1,r1⟩:=r1.sqT
 obtain⟨p2,vs,rfl,h2,r2⟩:=r2.sqT
 obtain rfl:=r1.ofInts;obtain rfl:=r2.ofInts
 exact⟨p1,p2,ns,ms,rfl,rfl,aM.of h1,aM.of h2,k _ _ _ _ (aD.refl _) (.bl _) q⟩
end
end PP
namespace L2
open PySem PySem.Spec PyProof.Rows PP
section
variable {prog:az}{w:bc}{A:ba}{R:Result→ax→Prop}{I S:ay}{n:Nat}{l:ay}{its:Array av}{s0:ax}{bt:Nat→Nat→Bool}
abbrev at_ (s:ax)(h:Heap)(k:Nat):ax:={ s with heap:=h,toks:=k }
abbrev aP4 (g h:Heap):Prop:=∀b o,g.get? b=some o->h.get? b=some o
def cE (prog:az)(w:bc)(A:ba)(s0:ax)(its:Array av)(bt:Nat->Nat->Bool):Prop:=
 ∀(i j:Nat) (v u:av) (h:Heap) (k:Nat) (Q E:av->ax->Prop),its[i]? = some v->its[j]? = some u->aP4 s0.heap h->Q (.bool (bt i j)) (at_ s0 h k)->wpAny (model prog w) A (richCompare .Lt v u) Q E (at_ s0 h k)
end
end L2
namespace Core
open PySem L2 PP
def FB (L:ad)(f:ae->Int)(r:ae):Prop:=∃i,L[i]? = some r/\(∀(j:Nat) (s:ae),j<i->L[j]? = some s->f s<f r)/\∀s∈L,f s<=f r
end Core
namespace PP
open PySem L2
section
variable {X:Cx}{a b e:Expr}{ta tb:aC}{tr:cJ}{pos p2:Pos}
def V5 (K:ac):R2:=λx y H Q=>g9 (λi j=>.bl (decide (i<j))) x y H Q∨uF K x y H Q
theorem aP5 (hu:X.A.units<cLine):c9 X (compareOp .Lt) (V5 X.K):=by
 intro ag s σ H x y v u Q I rx ry h;rcases h with h|h
 ·exact qB ag s σ H x y v u Q I rx ry h
 ·exact ap8 hu ag s σ H x y v u Q I rx ry h
def sZ:PV->Tg->PV->Tg->PK->Prop:=λx g y g' Q=>fF (λi j=>.bl (decide (i<j))) x g y g' Q∨V4 x g y g' Q
theorem aP6:fE X sZ (V5 X.K):=by
 intro W Hs H u v x y g g' Q Q' s n r1 r2 h k;rcases h with h|h
 ·exact .inl (m9 W Hs H u v x y g g' Q Q' s n r1 r2 h k)
 ·exact .inr (aP3 W Hs H u v x y g g' Q Q' s n r1 r2 h k)
theorem aP7 (hu:X.A.units+1<cLine)(ha:QE X a ta)(hb:QE X b tb):QE X (.Compare a [.Lt] [b] pos) (q2 sZ ta tb):=vX (aP5 (by omega)) aP6 ha hb (iU _)
end
end PP
namespace L2
open PySem PySem.Spec PyProof.Rows
section
variable {X:Cx}
def V6 (K:ac)(ta:TA):TI:=λσ H R=>ta σ H λvs H1=>∃a b,vs = [.ref a,.ref b]/\((∃xs ys,aM K H1 a xs/\aM K H1 b ys/\R (v9 K a b) H1)∨∃xs ys,aT K H1 a xs/\aT K H1 b ys/\R (vB K a b) H1)
theorem aP8 {elts:List Expr}{kt:Nat}{pt:Pos}{a b:Expr}{ta:TA}{p pos:Pos}(hg:Gl X "zip")(hm:X.mg "zip" = none)(ha:PA X [a,b] ta)(hs:starEach [a,b] X.env = [(false,eval a X.env),(false,eval b X.env)]:=by rfl)(hs2:starEach [b] X.env = [(false,eval b X.env)]:=by rfl) :
  PI X (.Tuple elts kt pt) (.Call (.Name "zip" p) [a,b] [] pos) (V6 X.K ta):=by
 intro ag s σ H R I h;refine Call_ (lV I hg hm PyProof.Rows.boot_zip (bu9 (aJ (ha pos ag s σ H _ I h) λus s1 ⟨vs,H1,I1,r1,q1⟩=>?_) (by rw[hs,hs2]) (by rw[hs2];rfl)))
 obtain⟨a',b',e,q1⟩:=q1
 subst e
 obtain⟨u1,u2,rfl,r,r'⟩:=aI.two r1
 cases r;cases r';have fresh:∀k,H1 (s1.heap.objs.size+k)=none:=λk=>I1.hok.fresh (bt6 _ _)
 have fp:∀c∈[s1.heap.objs.size+4,s1.heap.objs.size+2,s1.heap.objs.size+3,s1.heap.objs.size,s1.heap.objs.size+1],g6 X ag H1 c:=λc hc=>by
  simp only[bg6,bh7,bo4]at hc;rcases hc with rfl|rfl|rfl|rfl|rfl
  ·exact I1.fpOk (bt6 _ _) (fresh 4)
  ·exact I1.fpOk (bt6 _ _) (fresh 2)
  ·exact I1.fpOk (bt6 _ _) (fresh 3)
  ·exact I1.fpOk (bg0 _) (fresh 0)
  ·exact I1.fpOk (bt6 _ _) (fresh 1)
 rcases q1 with⟨xs,ys,h1,h2,q⟩|⟨xs,ys,h1,h2,q⟩
 ·obtain⟨us,_,p1,_⟩:=I1.tuple h1
  obtain⟨ws,_,p2,_⟩:=I1.tuple h2
  refine Zp.aw7 p1 p2 λh' z ti to s1' s2' kp=>wpAny_pyIter_zip z ?_
  exact⟨s1.heap.objs.size+4,[s1.heap.objs.size+4,s1.heap.objs.size+2,s1.heap.objs.size+3,s1.heap.objs.size,s1.heap.objs.size+1],_,_,H1,rfl,I1.kept (t':=s1.toks) kp,ax0 a' b' _ _ _ _ _ (by simp),⟨z,ti,⟨_,_,to⟩,s1',s2'⟩,fp,q⟩
 ·obtain⟨us,_,p1,_⟩:=I1.list h1
  obtain⟨ws,_,p2,_⟩:=I1.list h2
  refine call_zip_2 p1.isList p2.isList λh' z ti to s1' s2' _ kp=>wpAny_pyIter_zip z ?_
  exact⟨s1.heap.objs.size+4,[s1.heap.objs.size+4,s1.heap.objs.size+2,s1.heap.objs.size+3,s1.heap.objs.size,s1.heap.objs.size+1],_,_,H1,rfl,I1.kept (t':=s1.toks) kp,ax6 a' b' _ _ _ _ _ (by simp),⟨z,ti,⟨_,_,to⟩,s1',s2'⟩,fp,q⟩
end
end L2
namespace PP
open PySem L2
theorem aP9 {K:ac}{H0:Hp}{W:ay->Prop}{g:Bool}{H1:Hp}{a b:ay}{us vs:List V}{xs ys:List PV}(tw:∀a,W a->∃o,H1 a=some o/\fD o=true)(ha:∀W' H',Ev W H1 W' H'->aT K H' a us)(hb:∀W' H',Ev W H1 W' H'->aT K H' b vs)(r:Reps K (Ms H0 W g) H1 us xs)(r':Reps K (Ms H0 W g) H1 vs ys):kS K H0 W g H1 (vB K a b) (iL xs ys):=by
 have lr:=r.length;have lr':=r'.length;have ll:=wX xs ys;refine⟨λW' H' i e hi=>⟨us,vs,us[i]'(by omega),vs[i]'(by omega),ha W' H' e,hb W' H' e,by simp,by simp⟩,λW' H' i v H2 e y hi=>?_,λW' H' e=>⟨us,vs,ha W' H' e,hb W' H' e,by omega⟩⟩
 obtain⟨T,x,y',hT,rfl,rfl,y⟩:=y
 obtain⟨h1,h2⟩:=y us vs (ha W' _ e) (hb W' _ e)
 obtain⟨z,hz,rz⟩:=r.get h1
 obtain⟨z',hz',rz'⟩:=r'.get h2
 have sm:=bK hT (HO.tup [x,y'])
 exact⟨sm,_,R7 hz hz',.tup c8 (.cons ((rz.keep (e.keep tw)).same sm λ_ q=>q) (.cons ((rz'.keep (e.keep tw)).same sm λ_ q=>q) .nil))⟩
section
variable {X:Cx}{σ:L2.St}{H:Hp}{ta tb:aC}{R:It→Hp→Prop}
def xG (ta tb:aC):fS:=λρ Q=>ta ρ λx g0=>tb ρ λy g=>∃xs ys,((x = .tup xs/\y = .tup ys)∨(x = .lst xs/\y = .lst ys/\g0≠.rd/\g≠.rd))/\flats xs=true/\flats ys=true/\Q (iL xs ys) true
theorem V7 {K:ac}{H0 Hs:Hp}{W:ay->Prop}{σ:L2.St}{ρ:bE}{g:Tg}{b:ay}(px:PX K H0 W σ ρ Hs)(ng:g≠.rd)(m:Mg H0 W Hs g b):¬W b:=by
 cases g with
 |fr=>exact (px.new m).1
 |nw=>exact m.1
 |sh=>exact m
 |rd=>exact absurd rfl ng
theorem aQ0 (h:LI X (xG ta tb) σ H R):V6 X.K (iV (LE X ta) (iV (LE X tb) m5)) σ H R:=by
 obtain⟨W,ρ,Q,px,q,k⟩:=h
 refine⟨W,ρ,_,px,q,λv0 H0 x0 g0 s0 r0 q0=>⟨W,ρ,_,px.mono s0,q0,?_⟩⟩;rintro v H1 x g s r ⟨xs,ys,c,fx,fy,q⟩;have S:=s0.trans s;have px1:=px.mono S;have tw:∀a,W a->∃o,H1 a=some o/\fD o=true:=λa z=>(px1.wm a z).2
 rcases c with⟨rfl,rfl⟩|⟨rfl,rfl,n0,n1⟩
 ·obtain⟨a,us,rfl,h1,ra⟩:=(r0.same (M':=λ_=>True) s λ_ _=>trivial).sqT
  obtain⟨b,vs,rfl,h2,rb⟩:=r.sqT
  have sta:∀{c us},H1 c=some (.tup us)->∀W' H',Ev W H1 W' H'->aM X.K H' c us:=λ{c us} hc W' H' e=>aM.of (e _ _ hc (λz=>by obtain⟨o,h',mu⟩:=tw _ z;rw[hc]at h';cases h';cases mu) rfl).1
  exact⟨a,b,rfl,.inl ⟨us,vs,aM.of h1,aM.of h2,k _ _ _ _ S (aL5 tw (sta h1) (sta h2) (ra.flat fx) (rb.flat fy)) q⟩⟩
 ·obtain⟨a,us,rfl,m0,h1,ra⟩:=(r0.same s λ_ z=>z).sqL
  obtain⟨b,vs,rfl,m1,h2,rb⟩:=r.sqL
  have w0:=V7 px n0 m0;have w1:=V7 (px.mono s0) n1 m1
  exact⟨a,b,rfl,.inr ⟨us,vs,aT.of h1,aT.of h2,k _ _ _ _ S (aP9 tw (λW' H' e=>aT.of (e _ _ h1 w0 rfl).1) (λW' H' e=>aT.of (e _ _ h2 w1 rfl).1) (ra.flat fx) (rb.flat fy)) q⟩⟩
theorem aQ1 {elts:List Expr}{kt:Nat}{pt p2 pos:Pos}{a b:Expr}(B:Bt X.mg)(ha:QE X a ta)(hb:QE X b tb)(hg:Gl X "zip":=by rfl)(hs:starEach [a,b] X.env = [(false,eval a X.env),(false,eval b X.env)]:=by rfl)(hs2:starEach [b] X.env = [(false,eval b X.env)]:=by rfl):QI X (.Tuple elts kt pt) (.Call (.Name "zip" p2) [a,b] [] pos) (xG ta tb):=
 rM (aP8 hg B.zip (gA ha (gA hb jL hs2) (by rw[hs,hs2])) hs hs2) λ_ _ _=>aQ0
end
end PP
namespace Core
open PySem L2 PP
theorem aQ2 (xs:List PV):mJ xs (some 1) none=xs.drop 1:=by
 unfold mJ;have e1:HT.aV xs.length 0 (some 1)=min 1 xs.length:=by
  show (if (1:Int)<0 then ((1:Int)+(xs.length:Int)).toNat else min (1:Int).toNat xs.length)=_;rw[if_neg (by decide)];rfl
 rw[e1];show (xs.drop (min 1 xs.length)).take (xs.length-min 1 xs.length)=_;rw[bo8 (by rw[br7];exact bg0 _)];cases xs with
 |nil=>rfl
 |cons x xs=>rw[show min 1 (x::xs).length=1 by simp]
def t0 {α:Type}(lt:α->α->Bool)(A:List α):Bool:=((A.zip (A.drop 1)).map λp=>lt p.1 p.2).all id
def V8:aR:=(bR (aN rD (a7 (fG (xG (a5 0) (K5 (a5 0) (K4 (qC (.int 1))) K3)) [none,none] (jT 0 1) dU (q2 sZ (a5 0) (a5 1))) aE)))
theorem V9 {α:Type}(f:α->PV)(lt:α->α->Bool)(fl:∀a,flat (f a)=true)(hlt:∀(a b:α) (g g':Tg) (K:PK),K (.bl (lt a b)) .fr->sZ (f a) g (f b) g' K)(A:List α)(la:A.length<=10000)(x:PV)(hx:x = .tup (A.map f)∨x = .lst (A.map f)){Q:PV->Prop}(q:Q (.bl (t0 lt A))) :
  V8 { nx:=λ_=>Q .non,rt:=Q } [some (.sh (flat x) x)]:=by
 have fls:∀B:List α,flats (B.map f)=true:=λB=>by
  induction B with
  |nil=>rfl
  |cons b B ih=>show (flat (f b)&&flats (B.map f))=true;rw[fl,ih];rfl
 have sx:rB x=some (A.map f):=by rcases hx with rfl|rfl<;>rfl
 have cut:mJ (A.map f) (some 1) none=(A.drop 1).map f:=by rw[aQ2,List.map_drop]
 refine⟨_,rfl,_,rfl,_,rfl,_,sx,fls A,?_⟩;rw[cut];refine⟨A.map f,(A.drop 1).map f,?_,fls A,fls _,?_⟩
 ·rcases hx with rfl|rfl
  ·exact .inl ⟨rfl,rfl⟩
  ·refine .inr ⟨rfl,rfl,?_,λz=>by cases z⟩
   cases flat (.lst (A.map f))<;>intro z<;>cases z
 have zl:(iL (A.map f) ((A.drop 1).map f)).length=A.length-1:=by rw[wX,bf6,bf6,br7];omega
 refine⟨by rw[zl];omega,λi acc=>acc=T6 (((A.zip (A.drop 1)).take i).map λp=>lt p.1 p.2),rfl,?_,?_⟩
 ·rintro i y acc hy rfl
  obtain⟨u,v,h1,h2,rfl⟩:=aL4 hy
  rw[bh5]at h1 h2;cases ha:A[i]? with
  |none=>rw[ha]at h1;cases h1
  |some a=>
   cases hb:(A.drop 1)[i]? with
   |none=>rw[hb]at h2;cases h2
   |some b=>
    rw[ha]at h1;rw[hb]at h2;cases h1;cases h2;have hz:(A.zip (A.drop 1))[i]? = some (a,b):=List.getElem?_zip_eq_some.mpr ⟨ha,hb⟩;refine⟨_,_,rfl,_,rfl,_,rfl,hlt a b _ _ _ ⟨trivial,?_⟩⟩;dsimp only;rw[bq9,hz,bi0];unfold T6;rw[bi0];rfl
 ·rintro acc rfl
  rw[bo8 (by rw[zl,List.length_zip,br7];omega)]
  exact⟨_,rfl,trivial,q⟩
theorem aQ3 (ls:aa):t0 (λa b=>HT.b9 [a.1,a.2] [b.1,b.2]) ls=true↔ls.Pairwise dB:=by
 have lt2:∀a b:Int×Int,HT.b9 [a.1,a.2] [b.1,b.2]=true↔dB a b:=λa b=>by
  unfold dB;rw[HT.gP,HT.gP,HT.qF];by_cases h1:a.1=b.1
  ·rw[if_pos h1]
   by_cases h2:a.2=b.2
   ·rw[if_pos h2]
    exact⟨λz=>(by cases z),λz=>(by omega)⟩
   ·rw[if_neg h2,bi5];omega
  ·rw[if_neg h1,bi5];omega
 induction ls with
 |nil=>exact⟨λ_=>.nil,λ_=>rfl⟩
 |cons a r ih=>
  cases r with
  |nil=>exact⟨λ_=>bn0 _ _,λ_=>rfl⟩
  |cons b r=>
   have e:t0 (λa b:Int×Int=>HT.b9 [a.1,a.2] [b.1,b.2]) (a::b::r)=(HT.b9 [a.1,a.2] [b.1,b.2]&&t0 (λa b:Int×Int=>HT.b9 [a.1,a.2] [b.1,b.2]) (b::r)):=rfl;rw[e,bn3,lt2,List.pairwise_cons];refine⟨λ⟨h1,h2⟩=>⟨λc hc=>?_,ih.mp h2⟩,λ⟨h1,h2⟩=>⟨h1 b bg1,ih.mpr h2⟩⟩;rcases bg6.mp hc with rfl|hc
   ·exact h1
   ·have:=(List.pairwise_cons.mp (ih.mp h2)).1 c hc
    unfold dB at *;omega
def nrm (l:Int×Int):Int×Int:=(min l.1 l.2,max l.1 l.2)
end Core
namespace Raw
open PySem PySem.W PySem.Calls PyProof.Rows
section
variable {prog:az}{w:bc}{A:ba}{E:av→ax→Prop}{s:ax}{l:ay}{items:Array av}{ns:ae}
theorem be9:isSubtype (.type "list") (.type "set")=pure false:=by rw[bx1];kernel_rfl
theorem bf0:isSubtype (.type "list") (.type "frozenset")=pure false:=by rw[bx1];kernel_rfl
end
end Raw
namespace Core
open PySem L2 PP
def W0 (os:ae)(h:Int):Int:=os.getD h.toNat 0
structure Moved (ws os ws':ae):Prop where
 len:ws'.length=ws.length
 at_:∀h:Nat,h<ws.length->ws'[(os.getD h 0).toNat]? = ws[h]?
def mv (os:ae)(l:Int×Int):Int×Int:=nrm (W0 os l.1,W0 os l.2)
theorem nD {ls:aa}(h:ls.Pairwise dB):ls.Nodup:=h.imp λ{a b} z e=>by subst e;unfold dB at z;omega
theorem aQ4 {a b:aa}(p:a.Perm b)(ha:a.Pairwise dB)(hb:b.Pairwise dB):a=b:=
 p.eq_of_pairwise (λx y _ _ h1 h2=>by unfold dB at h1 h2;omega) ha hb
def t5:cV:=λxs Q=>∃x,xs = [x]/\((∃ns,IsI x ns/\ns.length<=1000/\Q (.bl (aJ1 ns)))∨∃ls:aa,(x = .tup (a9 ls)∨x = .lst (a9 ls))/\ls.length<=4096/\∀b:Bool,(b=true↔ls.Pairwise dB)->Q (.bl b))
abbrev W5:aR:=V8
theorem aQ5:gJ W5 ["things"] t5:=by
 rintro xs Q ⟨x,rfl,⟨ns,hx,hl,q⟩|⟨ls,hx,hl,q⟩⟩
 ·exact V9 PV.int (λa b=>decide (a<b)) (λ_=>rfl) (λa b g g' K h=>.inl ⟨_,_,rfl,rfl,h⟩) ns (by omega) x hx q
 ·exact V9 (λl:Int×Int=>PV.tup [.int l.1,.int l.2]) (λa b=>HT.b9 [a.1,a.2] [b.1,b.2]) (λ_=>rfl) (λa b g g' K h=>.inr ⟨_,_,rfl,rfl,h⟩) ls (by omega) x hx (q _ (aQ3 ls))
def aZ (r c:Int):Prop:=1<=r/\r<=40/\1<=c/\c<=40
def kA:eR:=λEp xs Q=>∃r c:Int,xs = [.int r,.int c]/\(aZ r c->Q .non)/\(¬aZ r c->Ep "BadBoard")
def W6 (Ep:Str->Prop):aR:=(cG (gT (aX (jX (aN rE (a7 (a5 0) (a7 (a5 1) aE))) (qC (.int 1)))) (aX (kW (aN oF (a7 (a5 0) (a7 (a5 1) aE))) (qC (.int 40))))) (sS Ep "BadBoard" (a7 (qC (.str "a board has from 1 to 40 rows and columns")) aE)) cK)
theorem aQ6:pA W6 ["rows","columns"] kA:=by
 rintro Ep xs Q ⟨r,c,rfl,q,ex⟩;refine⟨_,rfl,_,rfl,_,_,rfl,_,_,rfl,rfl,_,rfl,?_⟩;show if decide ((if c<r then c else r)<1)=true then _ else _
 by_cases h1:(if c<r then c else r)<1
 ·rw[bg4 h1]
  exact bD (bD ⟨by decide,ex λz=>by unfold aZ at z;split at h1<;>omega⟩)
 rw[bf7 h1];refine aU ⟨_,rfl,_,rfl,_,_,rfl,_,_,rfl,rfl,_,rfl,?_⟩;show if decide ((if c>r then c else r)>40)=true then _ else _
 by_cases h2:(if c>r then c else r)>40
 ·rw[bg4 h2]
  exact bD ⟨by decide,ex λz=>by unfold aZ at z;split at h2<;>omega⟩
 rw[bf7 h2];refine aU (q ?_);unfold aZ;split at h1<;>split at h2<;>omega
def b6 (r c:Int)(l:Int×Int):Bool:=decide (0<=l.1)&&(decide (l.1<r)&&(decide (0<=l.2)&&decide (l.2<c)))
theorem jG {r c:Int}{l:Int×Int}:b6 r c l=true↔0<=l.1/\l.1<r/\0<=l.2/\l.2<c:=by
 unfold b6;simp only[bn3,bi5]
def nE:cV:=λxs Q=>∃(r c:Int) (l:Int×Int),xs = [.int r,.int c,.tup [.int l.1,.int l.2]]/\Q (.bl (b6 r c l))
def W7:aR:=(bR (kQ (rK (cQ (a5 2) (qC (.int 0))) (qC (.int 0))) (kQ (jX (cQ (a5 2) (qC (.int 0))) (a5 0)) (kQ (rK (cQ (a5 2) (qC (.int 1))) (qC (.int 0))) (jX (cQ (a5 2) (qC (.int 1))) (a5 1))))))
theorem aQ7:gJ W7 ["rows","columns","cell"] nE:=by
 rintro xs Q ⟨r,c,l,rfl,q⟩;unfold b6 at q;refine⟨_,rfl,_,_,_,rfl,rfl,rfl,_,_,rfl,rfl,_,rfl,?_⟩;show if decide (l.1 >= 0)=true then _ else _
 by_cases h1:0<=l.1
 ·rw[bg4 h1]at q
  rw[bg4 (show l.1 >= 0 from h1)];refine bD ⟨_,rfl,_,_,_,rfl,rfl,rfl,_,rfl,_,_,rfl,rfl,_,rfl,?_⟩;show if decide (l.1<r)=true then _ else _
  by_cases h2:l.1<r
  ·rw[bg4 h2]at q ⊢
   refine bD ⟨_,rfl,_,_,_,rfl,rfl,rfl,_,_,rfl,rfl,_,rfl,?_⟩;show if decide (l.2 >= 0)=true then _ else _
   by_cases h3:0<=l.2
   ·rw[bg4 h3]at q
    rw[bg4 (show l.2 >= 0 from h3)];exact bD ⟨_,rfl,_,_,_,rfl,rfl,rfl,_,rfl,_,_,rfl,rfl,trivial,q⟩
   ·rw[bf7 h3]at q
    rw[bf7 (show ¬l.2 >= 0 from h3)];exact aU ⟨trivial,q⟩
  ·rw[bf7 h2]at q ⊢
   exact aU ⟨trivial,q⟩
 ·rw[bf7 h1]at q
  rw[bf7 (show ¬l.1 >= 0 from h1)];exact aU ⟨trivial,q⟩
def jH (r c:Int)(ls:aa):Prop:=ls.Pairwise dB/\∀l∈ls,b6 r c l=true
def t6:eR:=λEp xs Q=>∃(r c:Int) (x:PV) (ls:aa),xs = [.int r,.int c,x]/\(x = .tup (a9 ls)∨x = .lst (a9 ls))/\ls.length<=4096/\(¬aZ r c->Ep "BadBoard")/\(aZ r c->¬jH r c ls->Ep "BadSet")/\(aZ r c->jH r c ls->Q (.tup (a9 ls)))
def W8 (Ep:Str->Prop):aR:=(aL (oE (nA Ep kA (a7 (a5 0) (a7 (a5 1) aE))))
 (aL (cG (gT (i6 (aX (aN t5 (a7 (a5 2) aE)))) (i6 (aX (aN rD (a7 (fG (gH (a5 2)) [none,some 0,some 1] (cP 0) dU (aN nE (a7 (a5 1) (a7 (a5 2) (a7 (a5 0) aE))))) aE))))) (sS Ep "BadSet" (a7 (qC (.str "a set is of rising cells of the board")) aE)) cK)
 (bR (aN iE (a7 (a5 2) aE)))))
theorem aQ8:pA W8 ["rows","columns","cells"] t6:=by
 rintro Ep xs Q ⟨r,c,x,ls,rfl,hx,hl,e1,e2,q⟩;have sx:j5 x=some (a9 ls):=by rcases hx with rfl|rfl<;>rfl
 have pl:(a9 ls).length=ls.length:=bf6 _;have tg:(Slot.sh (flat x) x).tag = .rd->flat x=true:=by cases flat x<;>intro z<;>cases z
 refine⟨_,rfl,_,rfl,r,c,rfl,λok=>?_,e1⟩;refine⟨_,rfl,_,rfl,.inr ⟨ls,hx,hl,λb hb=>⟨_,rfl,?_⟩⟩⟩;cases b with
 |false=>exact bD (bD ⟨by decide,e2 ok λz=>by have:=hb.mpr z.1;cases this⟩)
 |true=>
  have ord:=hb.mp rfl;refine aU ⟨_,rfl,a9 ls,sx,tg,by rw[pl];omega,λi acc=>acc=(((ls.take i).map (b6 r c)).map PV.bl),rfl,?_,?_⟩
  ·rintro i z acc hz rfl
   obtain⟨l,rfl,hlm⟩:=jD hz
   refine⟨_,rfl,_,rfl,_,rfl,r,c,l,rfl,trivial,?_⟩;dsimp only;rw[bq9,hlm,bi0,bi0];rfl
  rintro acc rfl;rw[pl,br9];refine⟨ls.map (b6 r c),rfl,_,rfl,?_⟩;cases ha:(ls.map (b6 r c)).all id with
  |false=>
   refine bD ⟨by decide,e2 ok λz=>?_⟩
   have:(ls.map (b6 r c)).all id=true:=by
    rw[List.all_map,bq1];exact λl hlm=>z.2 l hlm
   rw[ha]at this;cases this
  |true=>
   refine aU ?_
   have st:jH r c ls:=⟨ord,λl hlm=>by
    rw[List.all_map,bq1]at ha
    exact ha l hlm⟩
   have sT:rB x=some (a9 ls):=by rcases hx with rfl|rfl<;>rfl
   refine⟨_,rfl,⟨_,_,rfl,sT,eQ _,trivial,q ok st⟩,λns z=>?_⟩;rcases hx with rfl|rfl<;>cases z
def eS (l:Int×Int):aa:=[(l.1-1,l.2),(l.1,l.2-1),(l.1,l.2+1),(l.1+1,l.2)]
def aQ (r c:Int)(l:Int×Int):aa:=(eS l).filter (b6 r c)
def t7:cV:=λxs Q=>∃(r c:Int) (l:Int×Int),xs = [.int r,.int c,.tup [.int l.1,.int l.2]]/\Q (.lst (a9 (aQ r c l)))
def W9:aR:=(aL (bB 3 (cQ (a5 2) (qC (.int 0))))
 (aL (bB 4 (cQ (a5 2) (qC (.int 1))))
 (aL (bB 5 (mD (a7 (cO (a7 (jW (a5 3) (qC (.int 1))) (a7 (a5 4) aE))) (a7 (cO (a7 (a5 3) (a7 (jW (a5 4) (qC (.int 1))) aE))) (a7 (cO (a7 (a5 3) (a7 (cW (a5 4) (qC (.int 1))) aE))) (a7 (cO (a7 (cW (a5 3) (qC (.int 1))) (a7 (a5 4) aE))) aE))))))
 (bR (fG (gH (a5 5)) [none,some 0,some 1] (cP 0) (aX (aN nE (a7 (a5 1) (a7 (a5 2) (a7 (a5 0) aE))))) (a5 0))))))
theorem aQ9:gJ W9 ["rows","columns","cell","row","column","sides"] t7:=by
 rintro xs Q ⟨r,c,l,rfl,q⟩;refine⟨_,rfl,_,_,_,rfl,rfl,rfl,trivial,?_⟩;refine⟨_,rfl,_,_,_,rfl,rfl,rfl,trivial,?_⟩;refine⟨_,rfl,_,_,rfl,rfl,_,rfl,by show 2<=1000;decide,rfl,_,rfl,_,rfl,_,_,rfl,rfl,by show 2<=1000;decide,rfl,_,rfl,_,rfl,_,_,rfl,rfl,by show 2<=1000;decide,rfl,_,rfl,_,_,rfl,rfl,_,rfl,by show 2<=1000;decide,rfl,by show 4<=1000;decide,rfl,trivial,?_⟩;refine⟨_,rfl,a9 (eS l),rfl,(λz=>by cases z),by show 4<=16000000;decide,λi acc=>acc=a9 (((eS l).take i).filter (b6 r c)),rfl,?_,?_⟩
 ·rintro i z acc hz rfl
  obtain⟨m,rfl,hm⟩:=jD hz
  have tk:=sM (p:=b6 r c) hm;refine⟨_,rfl,_,rfl,_,rfl,r,c,m,rfl,_,rfl,?_⟩;cases hb:b6 r c m with
  |true=>
   rw[hb,if_pos rfl]at tk;refine bD ⟨_,rfl,trivial,?_⟩;dsimp only;rw[tk];unfold a9;rw[bi0];rfl
  |false=>
   rw[hb,if_neg (by decide),bj9]at tk;refine aU ?_;dsimp only;rw[tk]
 ·rintro acc rfl
  exact⟨trivial,q⟩
def t8:cV:=λxs Q=>∃(ls:aa) (y:PV),xs = [.tup (a9 ls),y]/\(y = .tup (a9 ls)∨y = .lst (a9 ls))/\ls.length<=4096/\Q (.bl true)
def X0 (K:ac):aR:=(aL (cG (gT (i6 (aX (jV K "tuple" (a5 0)))) (aX (rL (aN gG (a7 (a5 0) aE)) (aN gG (a7 (a5 1) aE))))) (bR (qC (.bl false))) cK)
 (aL (gI (kT (aN gG (a7 (a5 1) aE))) (cP 2)
  (aL (cG (gT (i6 (aX (jV K "tuple" (cQ (a5 0) (a5 2))))) (aX (q2 (vV 2 true) (cQ (a5 0) (a5 2)) (cQ (a5 1) (a5 2))))) (bR (qC (.bl false))) cK)
  (gI (gH (cQ (a5 0) (a5 2))) (cP 3)
   (cG (i6 (aX (aN mY (a7 (a5 3) aE)))) (bR (qC (.bl false))) cK))))
 (bR (qC (.bl true)))))
theorem aR0 {K:ac}(kt:PySem.W.kitOne K (.type "tuple") (.type "tuple")=some true):gJ (X0 K) ["found","due","k","number"] t8:=by
 rintro xs Q ⟨ls,y,rfl,hy,hl,q⟩;have sy:j5 y=some (a9 ls):=by rcases hy with rfl|rfl<;>rfl
 have ly:vN y=some (a9 ls).length:=by rcases hy with rfl|rfl<;>rfl
 have pl:(a9 ls).length=ls.length:=bf6 _;have ft:flat (.tup (a9 ls))=true:=by unfold flat;exact eQ ls
 refine⟨_,rfl,_,_,rfl,kt,_,rfl,aU ⟨_,rfl,_,_,rfl,rfl,_,rfl,_,_,rfl,ly,.inl ⟨_,_,rfl,rfl,_,rfl,?_⟩⟩⟩;show if (!decide (((a9 ls).length:Int)=((a9 ls).length:Int)))=true then _ else _
 rw[bg4 rfl];refine aU ?_;refine⟨_,rfl,_,_,rfl,ly,_,rfl,by omega,by omega,λi ρ=>∃z2 z3:Option Slot,ρ = [some (.sh true (.tup (a9 ls))),some (.sh (flat y) y),z2,z3],⟨none,none,?_⟩,?_,?_⟩
 ·show eN _ _=_
  unfold eN;show [some (Slot.sh (flat (.tup (a9 ls))) (.tup (a9 ls))),_,_,_]=_;rw[ft]
 ·rintro i z ρ hz ⟨z2,z3,rfl⟩
  obtain⟨rfl,hi⟩:=oY hz
  have i1:i<ls.length:=by omega
  have hli:ls[i]? = some ls[i]:=bf4 i1;have a1:L2.atI (a9 ls) ((0:Int)+(i:Int))=some (.tup (intz [ls[i].1,ls[i].2])):=by
   rw[show (0:Int)+(i:Int)=(i:Int) by omega];exact uH (by unfold a9;rw[bh5,hli];rfl)
  refine⟨_,rfl,_,rfl,_,_,_,rfl,rfl,a1,_,_,rfl,kt,_,rfl,aU ⟨_,rfl,_,rfl,_,_,_,rfl,rfl,a1,_,rfl,_,rfl,_,_,_,sy,rfl,a1,.inl ⟨_,_,rfl,rfl⟩,K0 2 _ _,_,rfl,?_⟩⟩;show if (!cL 3 (.tup (intz [ls[i].1,ls[i].2])) (.tup (intz [ls[i].1,ls[i].2])))=true then _ else _
  rw[J7,bg4 rfl];refine aU ?_;refine⟨_,rfl,_,rfl,_,_,_,rfl,rfl,a1,intz [ls[i].1,ls[i].2],rfl,(λz=>aJ5 _),λj ρ=>∃z3:Option Slot,ρ = [some (.sh true (.tup (a9 ls))),some (.sh (flat y) y),si ((0:Int)+(i:Int)),z3],⟨z3,rfl⟩,?_,?_⟩
  ·rintro j w ρ hw ⟨z3,rfl⟩
   obtain⟨n,rfl,hn⟩:=aJ3 hw
   refine sQ ?_;refine⟨_,rfl,n,rfl,_,rfl,aU ⟨si n,rfl⟩⟩
  ·rintro ρ ⟨z3,rfl⟩
   exact⟨_,z3,rfl⟩
 ·rintro ρ ⟨z2,z3,rfl⟩
  exact⟨trivial,q⟩
section
variable {ls:aa}{n:Nat}{B:ae}
def ins (ls:aa)(S:ae)(h:Int):Nat:=((v7 ls h).filter λx=>decide (x∈S)).length
end
end Core
namespace L2
open PySem PySem.Spec PyProof.Rows SO
theorem dJ.keep {h h':Heap}{M:Int}{v:av}{p q:Int}(z:dJ h M v p q)(k:∀b o,h.get? b=some o->h'.get? b=some o):dJ h' M v p q:=by
 obtain⟨b,ob,us,n,e1,e2,e3,e4,e5⟩:=z.at_
 exact⟨⟨b,ob,us,n,e1,k _ _ e2,e3,e4,e5⟩,z.lo,z.hi⟩
theorem aR1 {h:Heap}{M:Int}:∀{vs:List av},(∀v∈vs,∃pp qq,dJ h M v pp qq)->∃fs:List av,PySem.W.KatTups h vs fs/\fs.length=vs.length/\∀v∈fs,∃i t,v=Value.int i t:=by
 intro vs
 induction vs with
 |nil=>intro _;exact⟨[],PySem.W.KatTups.nil,rfl,λ_ z=>nomatch z⟩
 |cons v vs ih=>
  intro hh
  obtain⟨fs,t1,t2,t3⟩:=ih λy hy=>hh y (bf9 _ hy)
  obtain⟨pp,qq,z⟩:=hh v bg1
  obtain⟨b,ob,us,n,rfl,e2,e3,e4,e5⟩:=z.at_
  cases e5 with
  |cons _ t e6=>exact⟨Value.int pp t::fs,PySem.W.KatTups.cons e2 e3 e4 (by simp) t1,by simp[t2],λv hv=>(bg6.mp hv).elim (λz=>⟨pp,t,z⟩) (t3 v)⟩
theorem aR2 {prog:az}{w:bc}{A:ba}{E:av->ax->Prop}{s:ax}{T:String}{r d:ay}{n:Nat}{P:Nat->av->Prop}{OK:Heap->Prop}{Q:av->ax->Prop}{M:Int}(K:PySem.W.KdlSrc prog w T r d n P OK)(hh:A.handled=none)(hok:OK s.heap)(hn:n<=sizeLine)(hI:∀acc,ItemsOf P acc n->∀v∈acc.toList,∃pp qq,dJ s.heap M v pp qq)(h:∀h' tk a (acc:Array av) (out:List av) e,(∀b o,s.heap.get? b=some o->h'.get? b=some o)->s.heap.objs.size<=a->h'.get? a=some (seqObj "list" out.toArray e)->ItemsOf P acc n->out.Perm acc.toList->out.Pairwise (λu v=>∀p q p' q',dJ s.heap M u p q->dJ s.heap M v p' q'->p*(2*M+1)+q<=p'*(2*M+1)+q')->Q (.ref a) { s with heap:=h',toks:=tk }) :
  wpAny (model prog w) A (call (.builtin "sorted") [.ref r]) Q E s:=by
 refine Calls.call_function_entry kind_sorted plain_sorted entry_sorted (args_sorted1 _) ?_;unfold Builtin.«sorted»;refine bf1 (m:=checkCount "sorted" 1 1 _) (bf5 ?_);refine bf1 (Raw.aL3 (s:=s) K hh hok hn λh' tk acc kp hs it=>?_);have hz:acc.toList.length<=sizeLine:=by rw[bh3,it.1];exact hn
 refine bf1 (wpAny_newList ?_ hz);have hoL:(h'.push (seqObj "list" acc.toList.toArray 0)).get? h'.objs.size=some (seqObj "list" acc.toList.toArray 0):=bg8 _ rfl;show wpAny _ _ _ _ _ { s with heap:=h'.push (seqObj "list" acc.toList.toArray 0),toks:=tk };refine bf1 (bn5 (bk9 slot_list_sort ⟨_,hoL,rfl⟩ entry_list_sort ?_ (args_list_sort _)));have keepS:∀out:List av,∀b o,s.heap.get? b=some o->(sortedHeap (h'.push (seqObj "list" acc.toList.toArray 0)) h'.objs.size acc.toList out.toArray).get? b=some o:=λout b o hb=>by
  have lt:=bg7 (kp b o hb);rw[sortedHeap_old (bi7 lt) (by rw[size_push'];exact bu6 lt)];exact bf3 _ (kp b o hb)
 by_cases h2:acc.toList.length<2
 ·refine uZ (s:={ s with heap:=h'.push (seqObj "list" acc.toList.toArray 0),toks:=tk }) hoL h2 ⟨_,rfl,bf5 ⟨_,rfl,?_⟩⟩
  obtain⟨e,he⟩:=sortedHeap_at (vs:=acc.toList) (out:=acc.toList.toArray) hoL
  refine h _ tk h'.objs.size acc acc.toList e (keepS acc.toList) hs he it (br0 _) ?_
  match hl:acc.toList,h2 with
  |[],_=>exact bs2
  |[_],_=>exact bn0 _ _
  |_::_::_,h2=>simp at h2;omega
 ·have kM:∀b o,s.heap.get? b=some o->(dM (h'.push (seqObj "list" acc.toList.toArray 0)) h'.objs.size acc.toList).get? b=some o:=λb o hb=>by
   have lt:=bg7 (kp b o hb);exact P8 (bi7 lt) (bf3 _ (kp b o hb))
  have allp:∀v∈acc.toList,∃pp qq,dJ (dM (h'.push (seqObj "list" acc.toList.toArray 0)) h'.objs.size acc.toList) M v pp qq:=λv hv=>by
   obtain⟨pp,qq,z⟩:=hI acc it v hv
   exact⟨pp,qq,z.keep kM⟩
  obtain⟨fs,t1,t2,t3⟩:=aR1 allp
  refine P9 (s:={ s with heap:=h'.push (seqObj "list" acc.toList.toArray 0),toks:=tk }) (κ:=tuples' true) (Ok:=λx=>∃pp qq,dJ (dM (h'.push (seqObj "list" acc.toList.toArray 0)) h'.objs.size acc.toList) M x.1 pp qq) (rk:=oW (dM (h'.push (seqObj "list" acc.toList.toArray 0)) h'.objs.size acc.toList) (2*M+1)) hoL (by omega) hz (λQ hQ=>?_)
   (Q0 (s:={ s with heap:=dM (h'.push (seqObj "list" acc.toList.toArray 0)) h'.objs.size acc.toList,toks:=tk })) (λv hv=>allp v hv) λout pm so=>⟨_,rfl,bf5 ⟨_,rfl,?_⟩⟩
  ·refine PySem.W.kat_kind (T:=.type "int") t1 (by omega) (λv hv=>?_) (by decide) ?_
   ·obtain⟨i,t,rfl⟩:=t3 v hv
    exact PySem.W.Looks.now
   ·have eT:(Value.type "int" != Value.type "tuple")=true:=by decide
    rw[eT];exact hQ
  ·obtain⟨e,he⟩:=sortedHeap_at (vs:=acc.toList) (out:=out.toArray) hoL
   refine h _ tk h'.objs.size acc out e (keepS out) hs he it pm (so.imp λ{u v} le p q p' q' z z'=>?_);have r1:=dJ.rk (B:=2*M+1) (x:=(u,u)) (z.keep kM);have r2:=dJ.rk (B:=2*M+1) (x:=(v,v)) (z'.keep kM);rw[r1,r2]at le;exact le
abbrev aR3 (l:Int×Int):ae:=[l.1,l.2]
abbrev kk (l:Int×Int):List aH:=[Sum.inl l.1,Sum.inl l.2]
theorem aR4 {α β:Type}{R:α->β->Prop}{xs ys:List α}(h:xs.Perm ys):∀{ks:List β},Paired R xs ks->∃ks',ks'.Perm ks/\Paired R ys ks':=by
 induction h with
 |nil=>intro ks r;exact⟨ks,br0 _,r⟩
 |cons v _ ih=>
  intro ks r;cases r with
  |cons r t=>
   obtain⟨xs',p,r'⟩:=ih t
   exact⟨_::xs',p.cons _,.cons r r'⟩
 |swap u v l=>
  intro xs r;cases r with
  |cons r t=>cases t with
   |cons r2 t2=>exact⟨_,List.Perm.swap _ _ _,.cons r2 (.cons r t2)⟩
 |trans _ _ ih1 ih2=>
  intro xs r
  obtain⟨x1,p1,r1⟩:=ih1 r
  obtain⟨x2,p2,r2⟩:=ih2 r1
  exact⟨x2,p2.trans p1,r2⟩
def X1:List V->Hp->VK->Prop:=λxs H Q=>∃(a:ay) (kvs:List (List aH×V)) (ls:aa),xs = [.ref a]/\H a=some (.dT kvs)/\kvs.map (·.1)=ls.map kk/\∀(l:ay) (zs:List V) (ms:aa),H l=none->ms.Perm ls->ms.Pairwise (λu v=>HT.b9 [v.1,v.2] [u.1,u.2]=false)->Paired (jP H) zs (ms.map kk)->Q (.ref l) (upd H l (.lst zs))
theorem X2 {H:Hp}:∀{ys:List V}{vs:List av}{ls:aa},aI ys vs->Paired (jP H) ys (ls.map kk)->Paired (λv l=>∃y,aP y v/\jP H y (kk l)) vs ls
 |_,_,[],.nil,_=>.nil
 |_,_,[],.cons _ _,p=>nomatch p
 |_,_,l::ls,.cons r t,.cons k p=>.cons ⟨_,r,k⟩ (X2 t p)
theorem X3 {H:Hp}:∀{vs:List av}{ls:aa},Paired (λv l=>∃y,aP y v/\jP H y (kk l)) vs ls->∃ys:List V,aI ys vs/\Paired (jP H) ys (ls.map kk)
 |_,_,.nil=>⟨[],.nil,.nil⟩
 |_,_,.cons ⟨y,r,k⟩ p=>by
  obtain⟨ys,t,q⟩:=X3 p
  exact⟨y::ys,.cons r t,.cons k q⟩
theorem X4 {α β:Type}{R:α->β->Prop}:∀{xs:List α}{ys:List β},Paired R xs ys->∀y∈ys,∃x∈xs,R x y
 |_,_,.nil,y,h=>nomatch h
 |_,_,.cons r p,y,h=>by
  rcases bg6.mp h with rfl|h
  ·exact⟨_,bg1,r⟩
  ·obtain⟨x,hx,rx⟩:=X4 p y h
   exact⟨x,bf9 _ hx,rx⟩
theorem X5 {α β:Type}{R:α->β->Prop}:∀{xs:List α}{ys:List β},Paired R xs ys->∀x∈xs,∃y∈ys,R x y
 |_,_,.nil,y,h=>nomatch h
 |_,_,.cons r p,y,h=>by
  rcases bg6.mp h with rfl|h
  ·exact⟨_,bg1,r⟩
  ·obtain⟨x,hx,rx⟩:=X5 p y h
   exact⟨x,bf9 _ hx,rx⟩
theorem X6 {α β:Type}{J:α->β->Prop}{R:α->α->Prop}{S:β->β->Prop}:∀{xs:List α}{ys:List β},Paired J xs ys->xs.Pairwise R->(∀u v a b,a∈ys->b∈ys->J u a->J v b->R u v->S a b)->ys.Pairwise S
 |_,_,.nil,_,_=>.nil
 |_,_,.cons (a:=x) (b:=y) r p,.cons h t,f=>by
  refine .cons (λb hb=>?_) (X6 p t λu v a b ha hb=>f u v a b (bf9 _ ha) (bf9 _ hb))
  obtain⟨v,hv,jv⟩:=X4 p b hb
  exact f x v y b bg1 (bf9 _ hb) r jv (h v hv)
theorem aR5 {X:Cx}(hc:X.calm=true):cU X (.builtin "sorted") X1:=by
 intro ag s σ H xs us Q I r h
 obtain⟨a,kvs,ls,rfl,ha,hk,q⟩:=h
 obtain⟨u,rfl,ru⟩:=iC r
 cases ru
 obtain⟨es,ep,ys,rd,far,pk,vk,z⟩:=aw0 I ha
 rw[hk]at pk;have hl:=vk.length;have hl2:=pk.length;have hl3:=congrArg List.length hk;rw[bf6]at hl hl2 hl3;rw[bf6]at hl3;have hsz:es.toList.length=es.size:=bh3
 obtain⟨M,hM⟩:=wL (λl:Int×Int=>l.2) ls
 have pv:∀{y:V}{v:av}{l:Int×Int},aP y v->jP H y (kk l)->l∈ls->dJ s.heap M v l.1 l.2:=λ{y v l} ry ka hm=>by
  obtain⟨b,rfl,hb⟩:=ka
  cases ry
  obtain⟨us,ru,⟨ob,e1,c1,n1,d1⟩,_⟩:=I.tuple (show aM X.K H b (((aR3 l)).map V.int) from aM.of hb)
  have ia:=iW ru;have mm:=hM l hm
  exact⟨⟨b,ob,us,n1,rfl,e1,c1,d1,ia⟩,mm.1,mm.2⟩
 have jt:=X2 vk pk;refine aR2 (M:=M) (Raw.av9 far) (I.ok.hd hc) rd (by omega) (λacc it v hv=>?_) λh' tk l acc out e kp hn he it pm so=>?_
 ·rw[F4 it]at hv
  obtain⟨m,hm,y,ry,ka⟩:=X5 jt v hv
  exact⟨m.1,m.2,pv ry ka hm⟩
 ·rw[F4 it]at pm
  obtain⟨ms,pms,jo⟩:=aR4 pm.symm jt
  obtain⟨zs,vz,pz⟩:=X3 jo
  have lz:=vz.length;have lo:=pm.length_eq;rw[bf6]at lo;refine⟨.ref l,upd H l (.lst zs),I.laid (t':=tk) kp hn ⟨by omega,out,e,vz,he⟩,rfl,q l zs ms (I.hok.fresh hn) pms ?_ pz⟩;refine X6 jo so λu v a b ha hb ⟨y,ry,ka⟩ ⟨y',ry',kb⟩ le=>?_
  have h1:=pv ry ka (pms.mem_iff.mp ha);have h2:=pv ry' kb (pms.mem_iff.mp hb)
  have:=le _ _ _ _ h1 h2
  rw[wK h2.lo h2.hi h1.lo h1.hi];exact bf7 (by omega)
end L2
namespace PP
open PySem L2
section
variable {X:Cx}{e:Expr}{tr:cJ}{pos p2:Pos}
def xH:List PV->(PV->Prop)->Prop:=λxs Q=>∃(ps:List (List aH×PV)) (ls:aa),xs = [.dT ps]/\ps.map (·.1)=ls.map kk/\∀ms:aa,ms.Perm ls->ms.Pairwise (λu v=>HT.b9 [v.1,v.2] [u.1,u.2]=false)->Q (.lst (ms.map λl=>PV.tup [.int l.1,.int l.2]))
theorem X7 {K:ac}{M:ay->Prop}{H:Hp}:∀{zs:List V}{ms:aa},Paired (jP H) zs (ms.map kk)->Reps K M H zs (ms.map λl=>PV.tup [.int l.1,.int l.2])
 |_,[],.nil=>.nil
 |_,l::ms,.cons ⟨q,e,h⟩ p=>by
  subst e;exact .cons (.tup h (.cons (.int _) (.cons (.int _) .nil))) (X7 p)
theorem aR6:gU X xH X1:=by
 rintro H vs xs Q Q' r ⟨ps,ls,rfl,e,q⟩ k
 obtain⟨v,rfl,r1⟩:=r.one
 cases r1 with
 |@dT a kvs _ m h e2 r2=>
  exact⟨a,kvs,ls,rfl,h,e2.trans e,λl zs ms hl' p o pz=>k _ _ _ (bK hl' _) (.lst hl' c8 ((X7 pz).same (bK hl' _) λ_ z=>z)) (q ms p o)⟩
theorem aR7 (B:Bt X.mg)(hc:X.calm=true)(ha:QA X [e] tr)(hg:Gl X "sorted":=by rfl)(he:starEach [e] X.env=(false,eval e X.env)::starEach [] X.env:=by rfl)(hpl:(backTo pos (starEach [] X.env)).any (·.1)=false:=by rfl):QE X (.Call (.Name "sorted" p2) [e] [] pos) (aN xH tr):=
 kZ (aR5 hc) aR6 hg B.sorted PyProof.Rows.boot_sorted ha (he:=he) (hpl:=hpl)
end
section
variable {X:Cx}{o e f:Expr}{td tk tx:aC}{pos ah ai:Pos}{σ:St}{H:Hp}{Q':VK}
def t9 (td tk tx:aC):aC:=λρ Q=>td ρ λx _=>∃ps,x = .dT ps/\tk ρ λy _=>tx ρ λz _=>∃k,y = .tup (k.map kP)/\flat ((bY ps k).getD z)=true/\Q ((bY ps k).getD z) .fr
theorem aR8 (h:LE X (t9 td tk tx) σ H Q'):C1 (LE X td) (LE X tk) (LE X tx) σ H Q':=by
 obtain⟨W,ρ,Q,px,q,k⟩:=h
 refine⟨W,ρ,_,px,q,?_⟩;rintro v H1 x g s r ⟨ps,rfl,q⟩;have r0:=r;cases r with
 |@dT a kvs _ m h e rr=>
  refine⟨a,rfl,.inr ⟨kvs,.inl h⟩,W,ρ,_,px.mono s,q,λw H2 y g' s2 r2 q2=>⟨W,ρ,_,(px.mono s).mono s2,q2,?_⟩⟩;rintro w3 H3 z gz s3 r3 ⟨kk,rfl,fl,q⟩
  obtain⟨a',o',ea,dg,h1,h2⟩:=vU (.inr ⟨ps,kk,rfl,rfl,rfl⟩) (r0.same (s2.trans s3) λ_ z=>z) (r2.same s3 λ_ z=>z)
  cases ea;refine⟨o',dg,?_⟩;cases hv:bY ps kk with
  |none=>
   rw[hv]at fl q;rw[h1 hv];exact k _ _ _ .fr ((s.trans s2).trans s3) (r3.flat fl) q
  |some z'=>
   rw[hv]at fl q
   obtain⟨u,rfl,ru⟩:=h2 z' hv
   exact k _ _ _ .fr ((s.trans s2).trans s3) (ru.flat fl) q
theorem X8 (hu:X.A.units+1<cLine)(ho:QE X o td)(he:QE X e tk)(hf:QE X f tx)(m:M2 X o "get" ah e f ai:=by exact⟨rfl,rfl,rfl,rfl⟩):QE X (.Call (.Attribute o "get" ah) [e,f] [] ai) (t9 td tk tx):=cA (at7 hu ho he hf m) λ_ _ _=>aR8
def tD (p p':Int->Int->Bool)(ta tb tc:aC):aC:=λρ Q=>ta ρ λx _=>tb ρ λy _=>∃i j,x = .int i/\y = .int j/\if p i j=true then tc ρ λz _=>∃k,z = .int k/\Q (.bl (p' j k)) .fr else Q (.bl false) .fr
theorem aR9 {p p':Int->Int->Bool}{ta tb tc:aC}(h:LE X (tD p p' ta tb tc) σ H Q'):zJ (g9 λi j=>.bl (p i j)) (g9 λi j=>.bl (p' i j)) (LE X ta) (LE X tb) (LE X tc) σ H Q':=by
 obtain⟨W,ρ,Q,px,q,k⟩:=h
 refine⟨W,ρ,_,px,q,?_⟩;rintro v H1 x g s r q;refine⟨W,ρ,_,px.mono s,q,?_⟩;rintro u H2 y g' s2 r2 ⟨i,j,rfl,rfl,q⟩;cases r;cases r2;refine⟨i,j,rfl,rfl,p i j,rfl,?_⟩;cases hp:p i j with
 |false=>
  rw[hp]at q;rw[if_neg (by decide)]at q;rw[if_neg (by decide)];exact k _ _ _ .fr (s.trans s2) (.bl false) q
 |true=>
  rw[hp,if_pos rfl]at q;rw[if_pos rfl];refine⟨W,ρ,_,(px.mono s).mono s2,q,?_⟩;rintro w H3 z gz s3 r3 ⟨m,rfl,q⟩;cases r3
  exact⟨j,m,rfl,rfl,k _ _ _ .fr ((s.trans s2).trans s3) (.bl _) q⟩
section
variable {a b c:Expr}{ta tb tc:aC}
theorem X9 (ha:QE X a ta)(hb:QE X b tb)(hc:QE X c tc)(hm:lastMarks [.LtE,.Lt] [b,c]=false:=by with_unfolding_all rfl):QT X (.Compare a [.LtE,.Lt] [b,c] pos) (aX (tD (λi j=>decide (i<=j)) (λi j=>decide (i<j)) ta tb tc)):=mL (am7 am3 qB ha hb hc hm) λ_ _ _ h=>aR9 (qY h)
end
end
end PP
namespace Core
open PySem L2 PP
def cM (K:aa):List (List aH×PV):=K.map λl=>(bF l,PV.bl true)
theorem Y0 {a b:Int×Int}(h:bF a=bF b):a=b:=by
 unfold bF at h;injection h with h1 h2
 injection h2 with h2
 exact bu8 (Sum.inl.inj h1) (Sum.inl.inj h2)
theorem aS0 (K:aa):(cM K).map (·.1)=K.map bF:=by unfold cM;rw[br4];rfl
theorem tE (K:aa):(cM K).length=K.length:=by unfold cM;rw[bf6]
theorem xI (K:aa)(x:Int×Int):(bY (cM K) (bF x)).isSome=decide (x∈K):=by
 rw[<- p5,bp7,List.any_eq_true,bi5];unfold cM;refine⟨λ⟨p,hp,e⟩=>?_,λh=>⟨_,bh9.mpr ⟨x,h,rfl⟩,bg4 rfl⟩⟩
 obtain⟨y,hy,rfl⟩:=bh9.mp hp
 rw[<- Y0 (bu5 e:bF y=bF x)];exact hy
theorem tF {K:aa}{x:Int×Int}(h:x∉K):dH (cM K) (bF x) (.bl true)=cM (K++[x]):=by
 have:((cM K).any λkv=>decide (kv.1=bF x))=false:=by
  rw[p5,xI,bf7 h]
 unfold dH;rw[this];unfold cM;rw[bi0];rfl
def Met (ps:List (List aH×PV))(f:Int×Int->Nat):Prop:=∀x,(bY ps (bF x)).getD (.int 0) = .int (f x)
theorem Met.nil:Met [] λ_=>0:=λ_=>rfl
theorem Met.put {ps:List (List aH×PV)}{f:Int×Int->Nat}(h:Met ps f)(s:Int×Int)(v:PV)(hv:v = .int ((f s+1:Nat):Int)):Met (dH ps (bF s) v) (λx=>if x=s then f x+1 else f x):=λx=>by
 rw[wO];dsimp only;by_cases e:x=s
 ·subst e;rw[if_pos rfl,if_pos rfl,hv];rfl
 ·rw[if_neg (λz=>e (Y0 z)),if_neg e];exact h x
inductive eD (r c:Int)(S:aa):Int×Int->Prop
 |seed {x:Int×Int}:x∈S->eD r c S x
 |kin {x a b:Int×Int}:b6 r c x=true->a∈aQ r c x->b∈aQ r c x->a≠b->eD r c S a->eD r c S b->eD r c S x
theorem tG {r c:Int}{x y:Int×Int}(hx:b6 r c x=true)(h:y∈aQ r c x):x∈aQ r c y:=by
 unfold aQ at h ⊢
 obtain⟨h1,_⟩:=bk1.mp h
 refine bk1.mpr ⟨?_,hx⟩;unfold eS at h1 ⊢;simp only[bg6,bh7,bo4,Prod.ext_iff]at h1 ⊢;omega
theorem Y1 {r c:Int}{x y:Int×Int}(h:y∈aQ r c x):b6 r c y=true:=(bk1.mp h).2
theorem xJ (r c:Int)(x:Int×Int):(aQ r c x).Nodup:=by
 unfold aQ;refine List.Pairwise.filter _ (?_:(eS x).Nodup);unfold eS;simp only[bl4,bg6,bh7,bo4,Prod.ext_iff,not_false_eq_true,bw8,and_true];omega
def bJ (r c:Int)(P:aa)(x:Int×Int):Nat:=(P.filter λp=>decide (x∈aQ r c p)).length
theorem xK (r c:Int)(P:aa)(p x:Int×Int):bJ r c (P++[p]) x=bJ r c P x+(if x∈aQ r c p then 1 else 0):=by
 unfold bJ;rw[List.filter_append,bh1];by_cases h:x∈aQ r c p<;>simp[h]
theorem aS1 {r c:Int}{P:aa}{x a b:Int×Int}(ha:a∈P)(hb:b∈P)(ne:a≠b)(xa:x∈aQ r c a)(xb:x∈aQ r c b):2<=bJ r c P x:=by
 unfold bJ;have ma:a∈P.filter λp=>decide (x∈aQ r c p):=bk1.mpr ⟨ha,bg4 xa⟩
 have mb:b∈P.filter λp=>decide (x∈aQ r c p):=bk1.mpr ⟨hb,bg4 xb⟩
 generalize P.filter (λp=>decide (x∈aQ r c p))=l at ma mb
 match l with
 |[]=>cases ma
 |[y]=>rw[bg2.mp ma,bg2.mp mb]at ne;exact absurd rfl ne
 |_::_::_=>simp
theorem aS2 {r c:Int}{P:aa}{x:Int×Int}(h:1<=bJ r c P x):∃q∈P,x∈aQ r c q:=by
 unfold bJ at h;cases hl:P.filter λp=>decide (x∈aQ r c p) with
 |nil=>rw[hl]at h;cases h
 |cons q t=>
  have:q∈P.filter λp=>decide (x∈aQ r c p):=by rw[hl];exact bg1
  exact⟨q,(bk1.mp this).1,bu5 (bk1.mp this).2⟩
structure Wk (r c:Int)(S K P:aa):Prop where
 nd:K.Nodup
 ndP:P.Nodup
 sub:∀x∈P,x∈K
 brn:∀x∈K,eD r c S x
 sd:∀x∈S,x∈K
 bd:∀x∈K,b6 r c x=true
 low:∀x,x∉K->bJ r c P x<2
def bG (r c:Int)(K P:aa)(s:Int×Int):Bool:=!decide (s∈K)&&decide (bJ r c P s=1)
theorem Wk.step {r c:Int}{S K P:aa}{p:Int×Int}(w:Wk r c S K P)(hp:p∈K)(np:p∉P):Wk r c S (K++(aQ r c p).filter (bG r c K P)) (P++[p]):=by
 have new:∀s∈(aQ r c p).filter (bG r c K P),s∈aQ r c p/\s∉K/\bJ r c P s=1:=λs hs=>by
  obtain⟨h1,h2⟩:=bk1.mp hs
  unfold bG at h2;rw[bn3,Bool.not_eq_true',bp5,bi5]at h2
  exact⟨h1,h2.1,h2.2⟩
 refine⟨bp4.mpr ⟨w.nd,List.Pairwise.filter _ (xJ r c p),λa ha b hb e=>(new b hb).2.1 (e▸ha)⟩,bp4.mpr ⟨w.ndP,bn0 _ _,λa ha b hb e=>np (by rw[<- bg2.mp hb,<- e];exact ha)⟩,λx hx=>?_,λx hx=>?_,λx hx=>bk0 _ (w.sd x hx),λx hx=>?_,λx hx=>?_⟩
 ·rcases bj1.mp hx with h|h
  ·exact bk0 _ (w.sub x h)
  ·rw[bg2.mp h];exact bk0 _ hp
 ·rcases bj1.mp hx with h|h
  ·exact w.brn x h
  ·obtain⟨h1,h2,h3⟩:=new x h
   obtain⟨q,hq,xq⟩:=aS2 (r:=r) (c:=c) (P:=P) (x:=x) (by omega)
   have qK:=w.sub q hq;exact .kin (Y1 h1) (tG (w.bd p hp) h1) (tG (w.bd q qK) xq) (λe=>np (e▸hq)) (w.brn p hp) (w.brn q qK)
 ·rcases bj1.mp hx with h|h
  ·exact w.bd x h
  ·exact Y1 (new x h).1
 ·have nK:x∉K:=λh=>hx (bk0 _ h)
  have lo:=w.low x nK;rw[xK];by_cases h:x∈aQ r c p
  ·rw[if_pos h]
   have:bJ r c P x≠1:=λe=>hx (bj7 _ (bk1.mpr ⟨h,by unfold bG;rw[bf7 nK,bg4 e];rfl⟩))
   omega
  ·rw[if_neg h];omega
theorem Wk.all {r c:Int}{S K P:aa}(w:Wk r c S K P)(h:∀x∈K,x∈P)(x:Int×Int):x∈K↔eD r c S x:=by
 refine⟨w.brn x,λb=>?_⟩
 induction b with
 |seed hs=>exact w.sd _ hs
 |@kin x a b bx sa sb ne _ _ ia ib=>
  refine bq3 λnx=>?_
  have:=aS1 (h a ia) (h b ib) ne (tG bx sa) (tG bx sb)
  have:=w.low x nx
  omega
theorem Wk.init {r c:Int}{S:aa}(nd:S.Nodup)(bd:∀x∈S,b6 r c x=true):Wk r c S S []:=⟨nd,.nil,(λ_ h=>nomatch h),λx h=>.seed h,λx h=>h,bd,λx _=>(by decide:(0:Nat)<2)⟩
theorem lJ {r c:Int}(ok:aZ r c){K:aa}(nd:K.Nodup)(bd:∀x∈K,b6 r c x=true):K.length<=1600:=by
 have:=xB 1600 (K.map λl=>(l.1*40+l.2).toNat) (by
  refine bk6.mpr (nd.imp_of_mem λ{a b} ha hb hab e=>hab ?_);have i1:=jG.mp (bd a ha);have i2:=jG.mp (bd b hb)
  have:=ok.2.2.2
  exact bu8 (by omega) (by omega)) λx hx=>by
   obtain⟨l,hl,rfl⟩:=bh9.mp hx
   have i1:=jG.mp (bd l hl)
   have:=ok.2.1
   have:=ok.2.2.2
   omega
 rwa [bf6]at this
theorem nF {α:Type}{l:List α}{i:Nat}{x:α}(nd:l.Nodup)(h:l[i]? = some x):x∉l.take i:=λz=>by
 have:(l.take (i+1)).Nodup:=nd.sublist (List.take_sublist _ _)
 rw[bq9,h]at this;exact (bp4.mp this).2.2 x z x (by simp) rfl
theorem aS3 (K:aa):flats ((cM K).map (·.2))=true:=by
 unfold cM;rw[br4]
 induction K with
 |nil=>rfl
 |cons a r ih=>exact ih
def tH:cV:=λxs Q=>∃(x:PV) (ls:aa),xs = [x]/\(x = .tup (a9 ls)∨x = .lst (a9 ls))/\ls.Nodup/\ls.length<=4096/\Q (.dT (cM ls))
def Y2:aR:=(aL (gV 1 (qC (.dT [])))
 (aL (gI (gH (a5 0)) (cP 2)
  (jU 1 (a5 2) (qC (.bl true))))
 (vK 1)))
theorem aS4:gJ Y2 ["hearths","inside","hearth"] tH:=by
 rintro xs Q ⟨x,ls,rfl,hx,nd,hl,q⟩;have sx:j5 x=some (a9 ls):=by rcases hx with rfl|rfl<;>rfl
 have tg:(Slot.sh (flat x) x).tag = .rd->flat x=true:=by cases flat x<;>intro z<;>cases z
 refine⟨rfl,rfl,_,rfl,a9 ls,sx,tg,λi ρ=>∃y,ρ = [some (.sh (flat x) x),some (.own (.dT (cM (ls.take i)))),y],⟨none,rfl⟩,?_,?_⟩
 ·rintro i y ρ hy ⟨y0,rfl⟩
  obtain⟨l,rfl,h⟩:=jD hy
  have tk:dH (cM (ls.take i)) (bF l) (.bl true)=cM (ls.take (i+1)):=by rw[tF (nF nd h),bq9,h];rfl
  refine⟨_,rfl,_,rfl,bF l,rfl,trivial,by rw[tE,bp9];omega,?_⟩;rw[tk]
  exact⟨_,rfl⟩
 ·rintro ρ ⟨y,rfl⟩
  rw[dE,br9]
  exact⟨_,rfl,trivial,q⟩
def tI:eR:=λEp xs Q=>∃(r c:Int) (x:PV) (ls:aa),xs = [.int r,.int c,x]/\(x = .tup (a9 ls)∨x = .lst (a9 ls))/\ls.length<=4096/\(¬aZ r c->Ep "BadBoard")/\(aZ r c->¬jH r c ls->Ep "BadSet")/\
 (aZ r c->jH r c ls->∀K:aa,K.Pairwise dB->(∀y,y∈K↔eD r c ls y)->K.length<=1600->Q (.tup (a9 K)))
def Y3 (Ep:Str->Prop):aR:=(aL (bB 3 (nA Ep t6 (a7 (a5 0) (a7 (a5 1) (a7 (a5 2) aE)))))
 (aL (gV 4 (aN tH (a7 (a5 3) aE)))
 (aL (gV 5 (aN rC (a7 (a5 3) aE)))
 (aL (gV 6 (qC (.dT [])))
 (aL (rA (vO (a5 5))
  (aL (vL 5 7)
  (gI (gH (aN t7 (a7 (a5 0) (a7 (a5 1) (a7 (a5 7) aE))))) (cP 8)
   (aL (jU 6 (a5 8) (cW (t9 (a5 6) (a5 8) (qC (.int 0))) (qC (.int 1))))
   (cG (mC (aX (mK (rJ (a5 6) (a5 8)) (qC (.int 2)))) (aX (rH true (a5 8) (a5 4)))) (aL (jU 4 (a5 8) (qC (.bl true)))
    (kR 5 (a5 8))) cK)))))
 (bR (aN iE (a7 (aN xH (a7 (a5 4) aE)) aE))))))))
def e8 (r c:Int)(P:aa)(ss:aa)(x:Int×Int):Nat:=bJ r c P x+(if x∈ss then 1 else 0)
theorem Y4 {r c:Int}{P ss:aa}{j:Nat}{s:Int×Int}(nd:ss.Nodup)(h:ss[j]? = some s):(λx=>if x=s then e8 r c P (ss.take j) x+1 else e8 r c P (ss.take j) x)=e8 r c P (ss.take (j+1)):=by
 funext x
 unfold e8;have tk:ss.take (j+1)=ss.take j++[s]:=by rw[bq9,h];rfl
 rw[tk];by_cases e:x=s
 ·subst e
  rw[if_pos rfl,if_neg (nF nd h),if_pos (by simp)]
 ·rw[if_neg e]
  by_cases m:x∈ss.take j
  ·rw[if_pos m,if_pos (bk0 _ m)]
  ·rw[if_neg m,if_neg (λz=>by rcases bj1.mp z with z|z;exact m z;exact e (bg2.mp z))]
theorem aS5 {a b:Int×Int}(h:HT.b9 [b.1,b.2] [a.1,a.2]=false)(ne:a≠b):dB a b:=by
 rw[HT.gP,HT.gP,HT.qF]at h;unfold dB;by_cases e:b.1=a.1
 ·rw[if_pos e]at h
  by_cases e2:b.2=a.2
  ·exact absurd (bu8 e.symm e2.symm) ne
  ·rw[if_neg e2]at h
   have:=bt5 h
   omega
 ·rw[if_neg e]at h
  have:=bt5 h
  omega
theorem aS6 {ms:aa}(nd:ms.Nodup)(so:ms.Pairwise λu v=>HT.b9 [v.1,v.2] [u.1,u.2]=false):ms.Pairwise dB:=(List.Pairwise.and so nd).imp λz=>aS5 z.1 z.2
theorem aS7:pA Y3 ["rows","columns","seeds","chosen","burning","lit","met","cell","side"] tI:=by
 rintro Ep xs Q ⟨r,c,x,ls,rfl,hx,hl,e1,e2,q⟩;refine⟨_,rfl,_,rfl,_,rfl,r,c,x,ls,rfl,hx,hl,e1,e2,λok st=>⟨trivial,?_⟩⟩;have q:=q ok st;have snd:ls.Nodup:=nD st.1;refine⟨_,rfl,_,ls,rfl,.inl rfl,snd,hl,rfl,aS3 ls,?_⟩;refine⟨_,rfl,_,_,rfl,rfl,eQ _,rfl,eQ _,?_⟩;refine⟨rfl,rfl,?_⟩
 refine⟨λn ρ=>∃(K P L:aa) (ps:List (List aH×PV)) (y7 y8:Option Slot),ρ = [si r,si c,some (.sh (flat x) x),some (.sh true (.tup (a9 ls))),some (.own (.dT (cM K))),some (.own (.lst (a9 L))),some (.own (.dT ps)),y7,y8]/\
   n+P.length=1600/\(P++L).Perm K/\Wk r c ls K P/\Met ps (bJ r c P)/\ps.length<=4*P.length,⟨1600,ls,[],ls,[],none,none,rfl,rfl,br0 _,Wk.init snd st.2,Met.nil,bg0 _⟩,?_⟩
 rintro n ρ ⟨K,P,L,ps,y7,y8,rfl,nP,pm,wk,me,pl⟩;refine⟨_,rfl,_,rfl,?_⟩;have kf:=lJ ok wk.nd wk.bd;have pk:P.length+L.length=K.length:=by rw[<- pm.length_eq,bh1]
 rcases List.eq_nil_or_concat L with hL|⟨L',p,hL⟩
 ·subst hL
  have all:=wk.all λy hy=>by
   have:=pm.mem_iff.mpr hy
   rwa [bj9]at this
  refine aU ⟨_,rfl,_,K,rfl,aS0 K,λms pms so=>⟨⟨_,_,rfl,rfl,eQ _,trivial,q ms (aS6 (pms.nodup_iff.mpr wk.nd) so) (λy=>(pms.mem_iff).trans (all y)) (by rw[pms.length_eq];exact kf)⟩,λns z=>by cases z⟩⟩
 ·have hL:L=L'++[p]:=by rw[hL];simp
  subst hL;rw[bh1,bl0]at pk;have pp:a9 (L'++[p])=a9 L'++[.tup [.int p.1,.int p.2]]:=by unfold a9;rw[bi0];rfl
  have nz:(!(a9 (L'++[p])).isEmpty)=true:=by rw[pp];cases L'<;>rfl
  show if (!(a9 (L'++[p])).isEmpty)=true then _ else _
  rw[nz];have pK:p∈K:=pm.mem_iff.mp (by simp);have ndPL:(P++(L'++[p])).Nodup:=pm.nodup_iff.mpr wk.nd;have np:p∉P:=λz=>(bp4.mp ndPL).2.2 p z p (by simp) rfl
  have wk2:=wk.step pK np;have snd2:=xJ r c p;have sl4:(aQ r c p).length<=4:=by
   unfold aQ;exact List.length_filter_le _ (eS p)
  refine bD ⟨a9 L',.tup [.int p.1,.int p.2],by rw[pp];rfl,?_⟩
  refine⟨_,rfl,_,rfl,_,rfl,r,c,p,rfl,a9 (aQ r c p),rfl,(λz=>by cases z),λj ρ=>∃(ps:List (List aH×PV)) (y8:Option Slot),ρ = [si r,si c,some (.sh (flat x) x),some (.sh true (.tup (a9 ls))),some (.own (.dT (cM (K++((aQ r c p).take j).filter (bG r c K P))))),some (.own (.lst (a9 (L'++((aQ r c p).take j).filter (bG r c K P))))),some (.own (.dT ps)),some (.sh true (.tup [.int p.1,.int p.2])),y8]/\
    Met ps (e8 r c P ((aQ r c p).take j))/\ps.length<=4*P.length+j,⟨ps,y8,?_,?_,by omega⟩,?_,?_⟩
  ·rw[List.take_zero,List.filter_nil,bj9,bj9];rfl
  ·have:e8 r c P ((aQ r c p).take 0)=bJ r c P:=by funext y;unfold e8;simp
   rw[this];exact me
  ·rintro j y ρ hy ⟨ps2,y8,rfl,me2,pl2⟩
   obtain⟨s,rfl,hs⟩:=jD hy
   have jl:=(bh8.mp hs).1;have nj:=nF snd2 hs;have tk:=sM (p:=bG r c K P) hs;have ms:=me2 s;have me3:=me2.put s (.int ((e8 r c P ((aQ r c p).take j) s:Int)+1)) rfl;rw[Y4 snd2 hs]at me3;have fs:e8 r c P ((aQ r c p).take j) s=bJ r c P s:=by unfold e8;rw[if_neg nj];rfl
   rw[fs]at ms me3;have vs:bY (dH ps2 (bF s) (.int ((bJ r c P s:Int)+1))) (bF s)=some (.int ((bJ r c P s:Int)+1)):=by rw[wO,if_pos rfl]
   have lp:=Q8 ps2 (bF s) (.int ((bJ r c P s:Int)+1));refine⟨_,rfl,ps2,rfl,_,rfl,bF s,rfl,by rw[ms];rfl,_,_,ms,rfl,ps2,rfl,_,rfl,bF s,rfl,trivial,by omega,?_⟩;refine⟨_,rfl,_,rfl,_,.inr ⟨_,bF s,rfl,rfl,vs.symm⟩,.inl ⟨_,_,rfl,rfl,_,rfl,?_⟩⟩;show if decide ((bJ r c P s:Int)+1=2)=true then _ else _
   have tl:=List.length_take_le j (aQ r c p);have fl:=List.length_filter_le (bG r c K P) ((aQ r c p).take j);by_cases h1:(bJ r c P s:Int)+1=2
   ·rw[bg4 h1]
    refine bD ⟨_,rfl,_,rfl,_,.inr ⟨_,bF s,rfl,rfl,rfl⟩,_,rfl,?_⟩;show if (!(bY (cM (K++((aQ r c p).take j).filter (bG r c K P))) (bF s)).isSome)=true then _ else _
    rw[xI];by_cases h2:s∈K++((aQ r c p).take j).filter (bG r c K P)
    ·have sK:s∈K:=by
      rcases bj1.mp h2 with z|z
      ·exact z
      ·exact absurd (bk1.mp z).1 nj
     have nf:bG r c K P s=false:=by unfold bG;rw[bg4 sK];rfl
     rw[nf,if_neg (by decide),bj9]at tk;rw[bg4 h2];refine aU ?_;rw[<- tk]
     exact⟨dH ps2 (bF s) (.int ((bJ r c P s:Int)+1)),_,rfl,me3,by omega⟩
    ·have sK:s∉K:=λz=>h2 (bk0 _ z)
     have nf:bG r c K P s=true:=by unfold bG;rw[bf7 sK,bg4 (by omega)];rfl
     rw[nf,if_pos rfl]at tk;rw[bf7 h2];refine bD ⟨_,rfl,_,rfl,bF s,rfl,trivial,by rw[tE,bh1];omega,?_⟩;rw[tF h2,bh6,<- tk];refine⟨_,rfl,_,rfl,trivial,by rw[dE,bh1];omega,?_⟩;have ap:a9 (L'++((aQ r c p).take j).filter (bG r c K P))++[.tup [.int s.1,.int s.2]]=a9 (L'++((aQ r c p).take (j+1)).filter (bG r c K P)):=by
      rw[tk,<- bh6];unfold a9;rw[bi0 (l₂:=[s])];rfl
     refine⟨dH ps2 (bF s) (.int ((bJ r c P s:Int)+1)),some (Slot.sh (rF Tg.fr (a9 (aQ r c p))||flat (PV.tup [PV.int s.1,PV.int s.2])) (.tup [.int s.1,.int s.2])),?_,me3,by omega⟩;show [_,_,_,_,_,some (Slot.own (PV.lst (a9 (L'++((aQ r c p).take j).filter (bG r c K P))++[.tup [.int s.1,.int s.2]]))),_,_,_]=_;rw[ap]
   ·rw[bf7 h1]
    have nf:bG r c K P s=false:=by unfold bG;rw[bf7 (by omega:¬bJ r c P s=1),bo2]
    rw[nf,if_neg (by decide),bj9]at tk;refine aU (aU ?_);rw[<- tk]
    exact⟨dH ps2 (bF s) (.int ((bJ r c P s:Int)+1)),_,rfl,me3,by omega⟩
  ·rintro ρ ⟨ps2,y8,rfl,me2,pl2⟩
   rw[dE,br9]at me2;rw[dE]at pl2;rw[dE,br9];have fe:e8 r c P (aQ r c p)=bJ r c (P++[p]):=by funext y;rw[xK];rfl
   rw[fe]at me2;have k2:=lJ ok wk2.nd wk2.bd;have sp:=wk2.ndP.length_le_of_subset wk2.sub;rw[bh1,bl0]at sp;refine⟨n-1,by omega,K++(aQ r c p).filter (bG r c K P),P++[p],L'++(aQ r c p).filter (bG r c K P),ps2,_,_,rfl,by rw[bh1,bl0];omega,?_,wk2,me2,by rw[bh1,bl0];omega⟩
   have:(P++[p]++(L'++(aQ r c p).filter (bG r c K P))).Perm ((P++(L'++[p]))++(aQ r c p).filter (bG r c K P)):=by
    rw[<- bh6 (P++[p])];refine List.Perm.append_right _ ?_;rw[bh6];exact List.Perm.append_left _ bt0
   exact this.trans (pm.append_right _)
def tJ:cV:=λxs Q=>∃(r c:Int) (l:Int×Int),xs = [.int r,.int c,.tup [.int l.1,.int l.2]]/\Q (.lst (a9 (aQ r c l)))
def Y5:aR:=(aL (wY (jT 3 4) (a5 2))
 (aL (bB 5 (mD (a7 (cO (a7 (jW (a5 3) (qC (.int 1))) (a7 (a5 4) aE))) (a7 (cO (a7 (a5 3) (a7 (jW (a5 4) (qC (.int 1))) aE))) (a7 (cO (a7 (a5 3) (a7 (cW (a5 4) (qC (.int 1))) aE))) (a7 (cO (a7 (cW (a5 3) (qC (.int 1))) (a7 (a5 4) aE))) aE))))))
 (bR (fG (gH (a5 5)) [none,some 0,some 1] (cP 0) (mC (aX (tD (λi j=>decide (i<=j)) (λi j=>decide (i<j)) (qC (.int 0)) (cQ (a5 0) (qC (.int 0))) (a5 1))) (aX (tD (λi j=>decide (i<=j)) (λi j=>decide (i<j)) (qC (.int 0)) (cQ (a5 0) (qC (.int 1))) (a5 2)))) (a5 0)))))
theorem aS8:gJ Y5 ["rows","columns","cell","row","column","around"] tJ:=by
 rintro xs Q ⟨r,c,l,rfl,q⟩;refine⟨_,rfl,trivial,_,_,rfl,?_⟩;refine⟨_,rfl,_,_,rfl,rfl,_,rfl,by show 2<=1000;decide,rfl,_,rfl,_,rfl,_,_,rfl,rfl,by show 2<=1000;decide,rfl,_,rfl,_,rfl,_,_,rfl,rfl,by show 2<=1000;decide,rfl,_,rfl,_,_,rfl,rfl,_,rfl,by show 2<=1000;decide,rfl,by show 4<=1000;decide,rfl,trivial,?_⟩;refine⟨_,rfl,a9 (eS l),rfl,(λz=>by cases z),by show 4<=16000000;decide,λi acc=>acc=a9 (((eS l).take i).filter (b6 r c)),rfl,?_,?_⟩
 ·rintro i z acc hz rfl
  obtain⟨w,rfl,hw⟩:=jD hz
  have tk:=sM (p:=b6 r c) hw;have no:b6 r c w=false->a9 (((eS l).take i).filter (b6 r c))=a9 (((eS l).take (i+1)).filter (b6 r c)):=λe=>by
   rw[e,if_neg (by decide),bj9]at tk;rw[tk]
  refine⟨_,rfl,_,_,_,rfl,rfl,rfl,0,w.1,rfl,rfl,?_⟩;show if decide ((0:Int)<=w.1)=true then _ else _
  by_cases a1:(0:Int)<=w.1
  ·rw[bg4 a1]
   refine bD ⟨_,rfl,r,rfl,_,rfl,?_⟩;show if decide (w.1<r)=true then _ else _
   by_cases a2:w.1<r
   ·rw[bg4 a2]
    refine bD ⟨_,rfl,_,_,_,rfl,rfl,rfl,0,w.2,rfl,rfl,?_⟩;show if decide ((0:Int)<=w.2)=true then _ else _
    by_cases a3:(0:Int)<=w.2
    ·rw[bg4 a3]
     refine bD ⟨_,rfl,c,rfl,_,rfl,?_⟩;show if decide (w.2<c)=true then _ else _
     by_cases a4:w.2<c
     ·rw[bg4 a4]
      have b:b6 r c w=true:=jG.mpr ⟨a1,a2,a3,a4⟩;rw[b,if_pos rfl]at tk;refine bD ⟨_,rfl,trivial,?_⟩;dsimp only;rw[tk];unfold a9;rw[bi0];rfl
     ·rw[bf7 a4]
      exact aU (no (by unfold b6;rw[bf7 a4,bo2,bo2,bo2]))
    ·rw[bf7 a3]
     exact aU ⟨_,rfl,aU (no (by unfold b6;rw[bf7 a3,Bool.false_and,bo2,bo2]))⟩
   ·rw[bf7 a2]
    exact aU (aU (no (by unfold b6;rw[bf7 a2,Bool.false_and,bo2])))
  ·rw[bf7 a1]
   exact aU ⟨_,rfl,aU (aU (no (by unfold b6;rw[bf7 a1,Bool.false_and])))⟩
 ·rintro acc rfl
  rw[show (a9 (eS l)).length=4 from rfl,show (eS l).take 4=eS l from rfl]
  exact⟨trivial,q⟩
def pD:cV:=λxs Q=>∃(r c:Int) (ls:aa),xs = [.int r,.int c,.tup (a9 ls)]/\aZ r c/\jH r c ls/\∀K:aa,K.Pairwise dB->(∀y,y∈K↔eD r c ls y)->K.length<=1600->Q (.tup (a9 K))
def Y6:aR:=(aL (gV 3 (qC (.dT [])))
 (aL (gV 4 (qC (.dT [])))
 (aL (gV 5 (aN rC (a7 (a5 2) aE)))
 (aL (gI (gH (a5 2)) (cP 6)
  (jU 4 (a5 6) (qC (.bl true))))
 (aL (bB 7 (qC (.int 0)))
 (aL (rA (aX (jX (a5 7) (aN gG (a7 (a5 5) aE))))
  (aL (gI (gH (aN tJ (a7 (a5 0) (a7 (a5 1) (a7 (cQ (a5 5) (a5 7)) aE))))) (cP 8)
   (aL (jU 3 (a5 8) (cW (t9 (a5 3) (a5 8) (qC (.int 0))) (qC (.int 1))))
   (cG (mC (aX (kW (rJ (a5 3) (a5 8)) (qC (.int 1)))) (aX (rH true (a5 8) (a5 4)))) (aL (jU 4 (a5 8) (qC (.bl true)))
    (kR 5 (a5 8))) cK)))
  (bB 7 (cW (a5 7) (qC (.int 1))))))
 (bR (aN iE (a7 (aN xC (a7 (a5 5) aE)) aE)))))))))
theorem Y7 (ls:aa):flat (.tup (a9 ls))=true:=eQ ls
theorem aS9:gJ Y6 ["rows","columns","seeds","met","burning","line","seed","at","other"] pD:=by
 rintro xs Q ⟨r,c,ls,rfl,ok,st,q⟩;have snd:ls.Nodup:=nD st.1;have sf:=lJ ok snd st.2;refine⟨rfl,rfl,rfl,rfl,?_⟩;refine⟨_,rfl,_,_,rfl,rfl,eQ _,rfl,eQ _,?_⟩;refine⟨_,rfl,a9 ls,rfl,(λz=>Y7 ls),λi ρ=>∃y6:Option Slot,ρ = [si r,si c,some (.sh true (.tup (a9 ls))),some (.own (.dT [])),some (.own (.dT (cM (ls.take i)))),some (.own (.lst (a9 ls))),y6,none,none],⟨none,?_⟩,?_,?_⟩
 ·show [_,_,some (Slot.sh (flat (.tup (a9 ls))) (.tup (a9 ls))),_,_,_,_,_,_]=_
  rw[Y7];rfl
 ·rintro i y ρ hy ⟨y6,rfl⟩
  obtain⟨l,rfl,h⟩:=jD hy
  have tk:dH (cM (ls.take i)) (bF l) (.bl true)=cM (ls.take (i+1)):=by rw[tF (nF snd h),bq9,h];rfl
  refine⟨_,rfl,_,rfl,bF l,rfl,trivial,by rw[tE,bp9];omega,?_⟩;rw[tk]
  exact⟨_,rfl⟩
 rintro ρ ⟨y6,rfl⟩;rw[dE,br9];refine⟨trivial,?_⟩
 refine⟨λn ρ=>∃(K:aa) (at_:Nat) (ps:List (List aH×PV)) (y8:Option Slot),ρ = [si r,si c,some (.sh true (.tup (a9 ls))),some (.own (.dT ps)),some (.own (.dT (cM K))),some (.own (.lst (a9 K))),y6,si (at_:Nat),y8]/\
   n+at_=1600/\at_<=K.length/\Wk r c ls K (K.take at_)/\Met ps (bJ r c (K.take at_))/\ps.length<=4*at_,⟨1600,ls,0,[],none,rfl,rfl,bk7 _,Wk.init snd st.2,Met.nil,bg0 _⟩,?_⟩
 rintro n ρ ⟨K,a,ps,y8,rfl,nP,aK,wk,me,pl⟩;have kf:=lJ ok wk.nd wk.bd;refine⟨_,rfl,_,rfl,_,_,rfl,rfl,_,_,rfl,rfl,_,rfl,?_⟩;show if decide ((a:Int)<((a9 K).length:Int))=true then _ else _
 rw[dE];by_cases lt:(a:Int)<(K.length:Int)
 ·rw[bg4 lt]
  have al:a<K.length:=by omega
  obtain⟨p,hp⟩:∃p,K[a]? = some p:=⟨_,bf4 al⟩
  have pK:=br6 hp;have np:=nF wk.nd hp;have wk2:=wk.step pK np;have t1:K.take (a+1)=K.take a++[p]:=by rw[bq9,hp];rfl
  rw[<- t1]at wk2;have hpP:L2.atI (a9 K) (a:Int)=some (.tup [.int p.1,.int p.2]):=uH (by unfold a9;rw[bh5,hp];rfl);have snd2:=xJ r c p;have sl4:(aQ r c p).length<=4:=by
   unfold aQ;exact List.length_filter_le _ (eS p)
  refine bD ?_
  refine⟨_,rfl,_,rfl,_,rfl,_,rfl,_,_,_,rfl,rfl,hpP,r,c,p,rfl,a9 (aQ r c p),rfl,(λz=>by cases z),λj ρ=>∃(ps:List (List aH×PV)) (y8:Option Slot),ρ = [si r,si c,some (.sh true (.tup (a9 ls))),some (.own (.dT ps)),some (.own (.dT (cM (K++((aQ r c p).take j).filter (bG r c K (K.take a)))))),some (.own (.lst (a9 (K++((aQ r c p).take j).filter (bG r c K (K.take a)))))),y6,si (a:Nat),y8]/\
    Met ps (e8 r c (K.take a) ((aQ r c p).take j))/\ps.length<=4*a+j,⟨ps,y8,?_,?_,by omega⟩,?_,?_⟩
  ·rw[List.take_zero,List.filter_nil,bj9]
  ·have:e8 r c (K.take a) ((aQ r c p).take 0)=bJ r c (K.take a):=by funext y;unfold e8;simp
   rw[this];exact me
  ·rintro j y ρ hy ⟨ps2,y8,rfl,me2,pl2⟩
   obtain⟨s,rfl,hs⟩:=jD hy
   have jl:=(bh8.mp hs).1;have nj:=nF snd2 hs;have tk:=sM (p:=bG r c K (K.take a)) hs;have ms:=me2 s;have me3:=me2.put s (.int ((e8 r c (K.take a) ((aQ r c p).take j) s:Int)+1)) rfl;rw[Y4 snd2 hs]at me3;have fs:e8 r c (K.take a) ((aQ r c p).take j) s=bJ r c (K.take a) s:=by unfold e8;rw[if_neg nj];rfl
   rw[fs]at ms me3;have vs:bY (dH ps2 (bF s) (.int ((bJ r c (K.take a) s:Int)+1))) (bF s)=some (.int ((bJ r c (K.take a) s:Int)+1)):=by rw[wO,if_pos rfl]
   have lp:=Q8 ps2 (bF s) (.int ((bJ r c (K.take a) s:Int)+1));refine⟨_,rfl,ps2,rfl,_,rfl,bF s,rfl,by rw[ms];rfl,_,_,ms,rfl,ps2,rfl,_,rfl,bF s,rfl,trivial,by omega,?_⟩;refine⟨_,rfl,_,rfl,_,.inr ⟨_,bF s,rfl,rfl,vs.symm⟩,_,_,rfl,rfl,_,rfl,?_⟩;show if decide ((bJ r c (K.take a) s:Int)+1>1)=true then _ else _
   have tl:=List.length_take_le j (aQ r c p);have fl:=List.length_filter_le (bG r c K (K.take a)) ((aQ r c p).take j);by_cases h1:(bJ r c (K.take a) s:Int)+1>1
   ·rw[bg4 h1]
    refine bD ⟨_,rfl,_,rfl,_,.inr ⟨_,bF s,rfl,rfl,rfl⟩,_,rfl,?_⟩;show if (!(bY (cM (K++((aQ r c p).take j).filter (bG r c K (K.take a)))) (bF s)).isSome)=true then _ else _
    rw[xI];by_cases h2:s∈K++((aQ r c p).take j).filter (bG r c K (K.take a))
    ·have sK:s∈K:=by
      rcases bj1.mp h2 with z|z
      ·exact z
      ·exact absurd (bk1.mp z).1 nj
     have nf:bG r c K (K.take a) s=false:=by unfold bG;rw[bg4 sK];rfl
     rw[nf,if_neg (by decide),bj9]at tk;rw[bg4 h2];refine aU ?_;rw[<- tk]
     exact⟨dH ps2 (bF s) (.int ((bJ r c (K.take a) s:Int)+1)),_,rfl,me3,by omega⟩
    ·have sK:s∉K:=λz=>h2 (bk0 _ z)
     have lo:=wk.low s sK;have nf:bG r c K (K.take a) s=true:=by unfold bG;rw[bf7 sK,bg4 (by omega)];rfl
     rw[nf,if_pos rfl]at tk;rw[bf7 h2];refine bD ⟨_,rfl,_,rfl,bF s,rfl,trivial,by rw[tE,bh1];omega,?_⟩;rw[tF h2,bh6,<- tk];refine⟨_,rfl,_,rfl,trivial,by rw[dE,bh1];omega,?_⟩;have ap:a9 (K++((aQ r c p).take j).filter (bG r c K (K.take a)))++[.tup [.int s.1,.int s.2]]=a9 (K++((aQ r c p).take (j+1)).filter (bG r c K (K.take a))):=by
      rw[tk,<- bh6];unfold a9;rw[bi0 (l₂:=[s])];rfl
     refine⟨dH ps2 (bF s) (.int ((bJ r c (K.take a) s:Int)+1)),some (Slot.sh (rF Tg.fr (a9 (aQ r c p))||flat (PV.tup [PV.int s.1,PV.int s.2])) (.tup [.int s.1,.int s.2])),?_,me3,by omega⟩;show [_,_,_,_,_,some (Slot.own (PV.lst (a9 (K++((aQ r c p).take j).filter (bG r c K (K.take a)))++[.tup [.int s.1,.int s.2]]))),_,_,_]=_;rw[ap]
   ·rw[bf7 h1]
    have nf:bG r c K (K.take a) s=false:=by unfold bG;rw[bf7 (by omega:¬bJ r c (K.take a) s=1),bo2]
    rw[nf,if_neg (by decide),bj9]at tk;refine aU (aU ?_);rw[<- tk]
    exact⟨dH ps2 (bF s) (.int ((bJ r c (K.take a) s:Int)+1)),_,rfl,me3,by omega⟩
  ·rintro ρ ⟨ps2,y8,rfl,me2,pl2⟩
   rw[dE,br9]at me2;rw[dE]at pl2;rw[dE,br9];have fe:e8 r c (K.take a) (aQ r c p)=bJ r c (K.take (a+1)):=by funext y;rw[t1,xK];rfl
   rw[fe]at me2;have k2:=lJ ok wk2.nd wk2.bd;have t2:(K++(aQ r c p).filter (bG r c K (K.take a))).take (a+1)=K.take (a+1):=List.take_append_of_le_length (by omega);refine⟨_,rfl,_,_,rfl,rfl,trivial,n-1,by omega,K++(aQ r c p).filter (bG r c K (K.take a)),a+1,ps2,y8,rfl,by omega,by rw[bh1];omega,?_,?_,by omega⟩
   ·rw[t2];exact wk2
   ·rw[t2];exact me2
 ·rw[bf7 lt]
  have ea:K.take a=K:=bo8 (by omega);rw[ea]at wk;refine aU ⟨_,rfl,K.map two,by rw[iK];rfl,by rw[bf6];omega,λr hr=>by obtain⟨l,_,rfl⟩:=bh9.mp hr;rfl,λZ pz so=>?_⟩
  obtain⟨l2,rfl,pp⟩:=wT pz
  rw[show ((l2.map two).map λr=>PV.tup (intz r))=a9 l2 from (iK _).symm]
  exact⟨⟨_,_,rfl,rfl,eQ _,trivial,q l2 (sN so (pp.nodup_iff.mpr wk.nd)) (λy=>pp.mem_iff.trans (wk.all (λx hx=>hx) y)) (by rw[pp.length_eq];exact kf)⟩,λns z=>by cases z⟩
def pE:cV:=λxs Q=>∃(ns:ae) (k:Int),xs = [.scr ns,.int k]/\ns.length<=63/\0<=k/\k<=1000/\∀z:Int,Q (.int z)
def Y8:aR:=(aL (cG (aX (jX (a5 1) (aN gG (a7 (a5 0) aE)))) (bR (cQ (a5 0) (a5 1))) cK)
 (aL (bB 2 (cH (j7 (cW (cW (cH (aN lE (a7 (a5 0) (a7 (cH (a5 1) (aN oF (a7 (qC (.int 1)) (a7 (aN gG (a7 (a5 0) aE)) aE)))) aE))) (qC (.int 1000000007))) (j7 (qC (.int 977)) (a5 1))) (qC (.int 1))) (qC (.int 48271))) (qC (.int 2147483647))))
 (bR (dW (cH (j7 (a5 2) (a5 2)) (qC (.int 2147483647))) (qC (.int 8))))))
theorem aT0:gJ Y8 ["script","k","stir"] pE:=by
 rintro xs Q ⟨ns,k,rfl,hl,k0,k1,q⟩;refine⟨_,rfl,_,rfl,_,_,rfl,rfl,_,_,rfl,rfl,_,rfl,?_⟩;show if decide (k<(ns.length:Int))=true then _ else _
 by_cases h:k<(ns.length:Int)
 ·rw[bg4 h]
  have hk:L2.atI (intz ns) k=some (.int (ns.getD k.toNat 0)):=Q9 k0 h;exact bD ⟨_,rfl,_,rfl,_,_,_,rfl,rfl,hk,trivial,q _⟩
 ·rw[bf7 h]
  refine aU ?_;have mx:(0:Int)<(if (ns.length:Int)>1 then (ns.length:Int) else 1):=by split<;>omega
  refine⟨_,rfl,_,rfl,_,rfl,_,_,rfl,rfl,_,_,rfl,_,_,rfl,rfl,mx,_,ns,_,rfl,.inl rfl,br5 _ (Int.ne_of_gt mx),?_⟩;refine⟨_,_,rfl,rfl,(by show (0:Int)<1000000007;decide),_,rfl,_,_,rfl,rfl,.inl ⟨by decide,by decide⟩,_,_,rfl,rfl,_,_,rfl,rfl,_,_,rfl,rfl,.inr ⟨by decide,by decide⟩,_,_,rfl,rfl,(by show (0:Int)<2147483647;decide),trivial,?_⟩;dsimp only;generalize hv:(ns.getD (k%(if (ns.length:Int)>1 then (ns.length:Int) else 1)).toNat 0%1000000007+977*k+1)*48271%2147483647=v;have v0:0<=v:=by rw[<- hv];exact br5 _ (by decide)
  have v1:v<2147483647:=by rw[<- hv];exact bt7 _ (by decide)
  exact⟨_,rfl,_,rfl,_,_,rfl,rfl,.inl ⟨by omega,by omega⟩,_,_,rfl,rfl,(by show (0:Int)<2147483647;decide),_,_,rfl,rfl,⟨by decide,by decide⟩,trivial,q _⟩
theorem Y9 {x:Int×Int}{ls:aa}:decide (two x∈ls.map two)=decide (x∈ls):=by
 rw[bp7,bi5,bi5];refine⟨λh=>?_,λh=>bh9.mpr ⟨x,h,rfl⟩⟩
 obtain⟨y,hy,e⟩:=bh9.mp h
 unfold two at e;injection e with e1 e2
 injection e2 with e2
 rw[<- bu8 e1 e2];exact hy
end Core
namespace L2
open PySem PySem.Spec PyProof.Rows SO
abbrev kn (ns:ae):List aH:=ns.map Sum.inl
end L2
namespace Core
open PySem L2 PP
structure Bx where
 t:Int
 l:Int
 b:Int
 r:Int
deriving DecidableEq
def Bx.k (x:Bx):ae:=[x.t,x.l,x.b,x.r]
def nG (s e s' e':Int):Int:=max 0 (max (s'-e) (s-e'))
def fV (x y:Bx):Bool:=decide (nG x.t x.b y.t y.b+nG x.l x.r y.l y.r<=2)
def gY (x y:Bx):Bx:=⟨min x.t y.t,min x.l y.l,max x.b y.b,max x.r y.r⟩
def okX (x:Bx):Prop:=x.t<=x.b/\x.l<=x.r
def bA (x:Bx)(p:Int×Int):Prop:=x.t<=p.1/\p.1<=x.b/\x.l<=p.2/\p.2<=x.r
def bC (x y:Bx):Prop:=y.t<=x.t/\y.l<=x.l/\x.b<=y.b/\x.r<=y.r
def cX (p:Int×Int):Bx:=⟨p.1,p.2,p.1,p.2⟩
def fJ (x a:Int×Int):Prop:=(a.1=x.1/\(a.2=x.2-1∨a.2=x.2+1))∨(a.2=x.2/\(a.1=x.1-1∨a.1=x.1+1))
theorem iM {a b:Int×Int}(h:a.1≠b.1∨a.2≠b.2):a≠b:=λe=>by subst e;exact h.elim (λz=>z rfl) λz=>z rfl
theorem Z0 (s e s' e':Int):0<=nG s e s' e'/\s'-e<=nG s e s' e'/\s-e'<=nG s e s' e':=
 ⟨Int.le_max_left ..,bo0 (Int.le_max_left ..) (Int.le_max_right ..),bo0 (Int.le_max_right ..) (Int.le_max_right ..)⟩
theorem Z1 {s e s' e' g:Int}(h0:0<=g)(h1:s'-e<=g)(h2:s-e'<=g):nG s e s' e'<=g:=Int.max_le.mpr ⟨h0,Int.max_le.mpr ⟨h1,h2⟩⟩
theorem Z2 {x y:Bx}(h:fV x y=true):∃g h:Int,0<=g/\0<=h/\g+h<=2/\y.t-x.b<=g/\x.t-y.b<=g/\y.l-x.r<=h/\x.l-y.r<=h:=
 have a:=Z0 x.t x.b y.t y.b;have b:=Z0 x.l x.r y.l y.r
 ⟨_,_,a.1,b.1,bu5 h,a.2.1,a.2.2,b.2.1,b.2.2⟩
theorem lM {x y:Bx}{g h:Int}(g0:0<=g)(h0:0<=h)(gh:g+h<=2)(a1:y.t-x.b<=g)(a2:x.t-y.b<=g)(b1:y.l-x.r<=h)(b2:x.l-y.r<=h):fV x y=true:=
 bg4 (bo0 (Int.add_le_add (Z1 g0 a1 a2) (Z1 h0 b1 b2)) gh)
theorem aT1 (x y:Bx):fV x y=fV y x:=by
 have go:∀x y:Bx,fV x y=true->fV y x=true:=λx y h=>by
  obtain⟨g,h,g0,h0,gh,a1,a2,b1,b2⟩:=Z2 h
  exact lM g0 h0 gh a2 a1 b2 b1
 exact bp7.mpr ⟨go x y,go y x⟩
theorem aT2 {x y:Bx}{p:Int×Int}(h1:bA x p)(h2:bA y p):fV x y=true:=
 lM (g:=0) (h:=0) (bg3 _) (bg3 _) (by decide) (Int.sub_nonpos_of_le (bo0 h2.1 h1.2.1)) (Int.sub_nonpos_of_le (bo0 h1.1 h2.2.1)) (Int.sub_nonpos_of_le (bo0 h2.2.2.1 h1.2.2.2)) (Int.sub_nonpos_of_le (bo0 h1.2.2.1 h2.2.2.2))
theorem aT3 (x y:Bx):bC x (gY x y):=⟨Int.min_le_left ..,Int.min_le_left ..,Int.le_max_left ..,Int.le_max_left ..⟩
theorem Z3 (x y:Bx):bC y (gY x y):=⟨Int.min_le_right ..,Int.min_le_right ..,Int.le_max_right ..,Int.le_max_right ..⟩
theorem aT4 {x y z:Bx}(h:bC x z)(h':bC y z):bC (gY x y) z:=⟨Int.le_min.mpr ⟨h.1,h'.1⟩,Int.le_min.mpr ⟨h.2.1,h'.2.1⟩,Int.max_le.mpr ⟨h.2.2.1,h'.2.2.1⟩,Int.max_le.mpr ⟨h.2.2.2,h'.2.2.2⟩⟩
theorem bC.in_ {x y:Bx}(s:bC x y){p:Int×Int}(h:bA x p):bA y p:=⟨bo0 s.1 h.1,bo0 h.2.1 s.2.2.1,bo0 s.2.1 h.2.2.1,bo0 h.2.2.2 s.2.2.2⟩
theorem bC.refl (x:Bx):bC x x:=⟨bg3 _,bg3 _,bg3 _,bg3 _⟩
theorem bC.trans {x y z:Bx}(h:bC x y)(h':bC y z):bC x z:=⟨bo0 h'.1 h.1,bo0 h'.2.1 h.2.1,bo0 h.2.2.1 h'.2.2.1,bo0 h.2.2.2 h'.2.2.2⟩
theorem aT5 {x y:Bx}{p:Int×Int}(h:bA y p):bA (gY x y) p:=(Z3 x y).in_ h
def eU (B:Bx)(U:Int×Int->Prop):Prop:=∀x a b,bA B x->fJ x a->fJ x b->a≠b->U a->U b->U x
def bV (U:Int×Int->Prop)(x:Bx):Prop:=∀p,bA x p->U p
theorem aT6 {U:Int×Int->Prop}{x y:Bx}(f:bV U y)(s:bC x y):bV U x:=λp h=>f p (s.in_ h)
section
variable {B:Bx}{U:Int×Int→Prop}
theorem aT7 (cl:eU B U){y y' l r c0:Int}(hy:y'=y-1∨y'=y+1)(bd:∀c,l<=c->c<=r->bA B (y,c))(f:∀c,l<=c->c<=r->U (y',c))(h0:l<=c0/\c0<=r)(u0:U (y,c0)):∀(n:Nat) (c:Int),l<=c->c<=r->(c-c0).natAbs=n->U (y,c):=by
 have ny:y≠y':=by omega
 intro n
 induction n with
 |zero=>intro c h1 h2 h3;rw[show c=c0 by omega];exact u0
 |succ n ih=>
  intro c h1 h2 h3;have go:∀d:Int,(d=c-1∨d=c+1)->l<=d->d<=r->(d-c0).natAbs=n->U (y,c):=λd hd g1 g2 g3=>
   cl (y,c) (y,d) (y',c) (bd c h1 h2) (.inl ⟨rfl,hd⟩) (.inr ⟨rfl,hy⟩) (iM (.inl ny)) (ih d g1 g2 g3) (f c h1 h2)
  by_cases g:c0<c
  ·exact go (c-1) (.inl rfl) (by omega) (by omega) (by omega)
  ·exact go (c+1) (.inr rfl) (by omega) (by omega) (by omega)
theorem aT8 (cl:eU B U){y y' l r c0:Int}(hy:y'=y-1∨y'=y+1)(bd:∀c,l<=c->c<=r->bA B (c,y))(f:∀c,l<=c->c<=r->U (c,y'))(h0:l<=c0/\c0<=r)(u0:U (c0,y)):∀(n:Nat) (c:Int),l<=c->c<=r->(c-c0).natAbs=n->U (c,y):=by
 have ny:y≠y':=by omega
 intro n
 induction n with
 |zero=>intro c h1 h2 h3;rw[show c=c0 by omega];exact u0
 |succ n ih=>
  intro c h1 h2 h3;have go:∀d:Int,(d=c-1∨d=c+1)->l<=d->d<=r->(d-c0).natAbs=n->U (c,y):=λd hd g1 g2 g3=>
   cl (c,y) (d,y) (c,y') (bd c h1 h2) (.inr ⟨rfl,hd⟩) (.inl ⟨rfl,hy⟩) (iM (.inr ny)) (ih d g1 g2 g3) (f c h1 h2)
  by_cases g:c0<c
  ·exact go (c-1) (.inl rfl) (by omega) (by omega) (by omega)
  ·exact go (c+1) (.inr rfl) (by omega) (by omega) (by omega)
variable {t l b r:Int}
theorem Z4 (cl:eU B U)(f:bV U ⟨t,l,b,r⟩){y y' c0:Int}(hy:y'=y-1∨y'=y+1)(h1:t<=y'/\y'<=b)(u:U (y,c0))(h2:l<=c0/\c0<=r){R:Bx}(s:bC R B)(hl:R.l=l)(hr:R.r=r)(iy:R.t<=y/\y<=R.b)(old:∀q:Int×Int,bA R q->q.1≠y->t<=q.1/\q.1<=b):bV U R:=by
 intro q hq;have a3:l<=q.2:=hl▸hq.2.2.1;have a4:q.2<=r:=hr▸hq.2.2.2;by_cases e:q.1=y
 ·have:=aT7 cl hy (λc g1 g2=>s.in_ ⟨iy.1,iy.2,hl.symm▸g1,hr.symm▸g2⟩) (λc g1 g2=>f (y',c) ⟨h1.1,h1.2,g1,g2⟩) h2 u _ q.2 a3 a4 rfl
  rw[show q=(y,q.2) from bu8 e rfl];exact this
 ·have o:=old q hq e
  exact f q ⟨o.1,o.2,a3,a4⟩
theorem Z5 (cl:eU B U)(f:bV U ⟨t,l,b,r⟩){y y' c0:Int}(hy:y'=y-1∨y'=y+1)(h1:l<=y'/\y'<=r)(u:U (c0,y))(h2:t<=c0/\c0<=b){R:Bx}(s:bC R B)(ht:R.t=t)(hb:R.b=b)(iy:R.l<=y/\y<=R.r)(old:∀q:Int×Int,bA R q->q.2≠y->l<=q.2/\q.2<=r):bV U R:=by
 intro q hq;have a3:t<=q.1:=ht▸hq.1;have a4:q.1<=b:=hb▸hq.2.1;by_cases e:q.2=y
 ·have:=aT8 cl hy (λc g1 g2=>s.in_ ⟨ht.symm▸g1,hb.symm▸g2,iy.1,iy.2⟩) (λc g1 g2=>f (c,y') ⟨g1,g2,h1.1,h1.2⟩) h2 u _ q.1 a3 a4 rfl
  rw[show q=(q.1,y) from bu8 rfl e];exact this
 ·have o:=old q hq e
  exact f q ⟨a3,a4,o.1,o.2⟩
theorem tK (cl:eU B U)(f:bV U ⟨t,l,b,r⟩)(tb:t<=b){c0:Int}(u:U (b+1,c0))(h2:l<=c0/\c0<=r)(s:bC ⟨t,l,b+1,r⟩ B):bV U ⟨t,l,b+1,r⟩:=
 Z4 cl f (y:=b+1) (y':=b) (.inl (by omega)) ⟨tb,bg3 _⟩ u h2 s rfl rfl ⟨by show t<=b+1;omega,bg3 _⟩ λq hq ne=>⟨hq.1,by have:q.1<=b+1:=hq.2.1;omega⟩
theorem tL (cl:eU B U)(f:bV U ⟨t,l,b,r⟩)(tb:t<=b){c0:Int}(u:U (t-1,c0))(h2:l<=c0/\c0<=r)(s:bC ⟨t-1,l,b,r⟩ B):bV U ⟨t-1,l,b,r⟩:=
 Z4 cl f (y:=t-1) (y':=t) (.inr (by omega)) ⟨bg3 _,tb⟩ u h2 s rfl rfl ⟨bg3 _,by show t-1<=b;omega⟩ λq hq ne=>⟨by have:t-1<=q.1:=hq.1;omega,hq.2.1⟩
theorem xL (cl:eU B U)(f:bV U ⟨t,l,b,r⟩)(lr:l<=r){c0:Int}(u:U (c0,r+1))(h2:t<=c0/\c0<=b)(s:bC ⟨t,l,b,r+1⟩ B):bV U ⟨t,l,b,r+1⟩:=
 Z5 cl f (y:=r+1) (y':=r) (.inl (by omega)) ⟨lr,bg3 _⟩ u h2 s rfl rfl ⟨by show l<=r+1;omega,bg3 _⟩ λq hq ne=>⟨hq.2.2.1,by have:q.2<=r+1:=hq.2.2.2;omega⟩
theorem xM (cl:eU B U)(f:bV U ⟨t,l,b,r⟩)(lr:l<=r){c0:Int}(u:U (c0,l-1))(h2:t<=c0/\c0<=b)(s:bC ⟨t,l-1,b,r⟩ B):bV U ⟨t,l-1,b,r⟩:=
 Z5 cl f (y:=l-1) (y':=l) (.inr (by omega)) ⟨bg3 _,lr⟩ u h2 s rfl rfl ⟨bg3 _,by show l-1<=r;omega⟩ λq hq ne=>⟨by have:l-1<=q.2:=hq.2.2.1;omega,hq.2.2.2⟩
def e9 (B:Bx)(U:Int×Int->Prop)(R:Bx)(p:Int×Int):Prop:=∃R',okX R'/\bC R R'/\bA R' p/\bC R' B/\bV U R'
theorem e9.step {R R1:Bx}{p:Int×Int}(s:bC R R1)(h:e9 B U R1 p):e9 B U R p:=by
 obtain⟨R',h1,h2,h3,h4,h5⟩:=h
 exact⟨R',h1,s.trans h2,h3,h4,h5⟩
section
variable (cl:eU B U){p1 p2:Int}(u:U (p1, p2))(ip:bA B (p1, p2))
include cl u ip
theorem xN (f:bV U ⟨t,l,b,r⟩)(tb:t<=b)(lr:l<=r)(s:bC ⟨t,l,b,r⟩ B)(h:t<=p1/\p1<=b)(g1:p2-r<=2)(g2:l-p2<=2):e9 B U ⟨t,l,b,r⟩ (p1,p2):=by
 obtain⟨s1,s2,s3,s4⟩:=s
 obtain⟨i1,i2,i3,i4⟩:=ip
 dsimp only at *;by_cases a:p2<=r
 ·by_cases a':l<=p2
  ·exact⟨_,⟨tb,lr⟩,bC.refl _,⟨h.1,h.2,a',a⟩,⟨s1,s2,s3,s4⟩,f⟩
  ·have u1:U (p1,l-1):=by
    by_cases e:p2=l-1
    ·rw[<- e];exact u
    ·exact cl (p1,l-1) (p1,p2) (p1,l) ⟨i1,i2,by show B.l<=l-1;omega,by show l-1<=B.r;omega⟩ (.inl ⟨rfl,.inl (by show p2=l-1-1;omega)⟩) (.inl ⟨rfl,.inr (by show l=l-1+1;omega)⟩) (iM (.inr (by show p2≠l;omega))) u (f _ ⟨h.1,h.2,bg3 _,lr⟩)
   have f1:=xM cl f lr u1 h ⟨s1,by show B.l<=l-1;omega,s3,s4⟩;by_cases e:p2=l-1
   ·exact⟨⟨t,l-1,b,r⟩,⟨tb,by show l-1<=r;omega⟩,⟨bg3 _,by show l-1<=l;omega,bg3 _,bg3 _⟩,⟨h.1,h.2,by show l-1<=p2;omega,a⟩,⟨s1,by show B.l<=l-1;omega,s3,s4⟩,f1⟩
   ·have e2:p2=l-1-1:=by omega
    have f2:=xM cl f1 (by omega) (c0:=p1) (by rw[<- e2];exact u) h ⟨s1,by show B.l<=l-1-1;omega,s3,s4⟩
    exact⟨⟨t,l-1-1,b,r⟩,⟨tb,by show l-1-1<=r;omega⟩,⟨bg3 _,by show l-1-1<=l;omega,bg3 _,bg3 _⟩,⟨h.1,h.2,by show l-1-1<=p2;omega,a⟩,⟨s1,by show B.l<=l-1-1;omega,s3,s4⟩,f2⟩
 ·have u1:U (p1,r+1):=by
   by_cases e:p2=r+1
   ·rw[<- e];exact u
   ·exact cl (p1,r+1) (p1,p2) (p1,r) ⟨i1,i2,by show B.l<=r+1;omega,by show r+1<=B.r;omega⟩ (.inl ⟨rfl,.inr (by show p2=r+1+1;omega)⟩) (.inl ⟨rfl,.inl (by show r=r+1-1;omega)⟩) (iM (.inr (by show p2≠r;omega))) u (f _ ⟨h.1,h.2,lr,bg3 _⟩)
  have f1:=xL cl f lr u1 h ⟨s1,s2,s3,by show r+1<=B.r;omega⟩;by_cases e:p2=r+1
  ·exact⟨⟨t,l,b,r+1⟩,⟨tb,by show l<=r+1;omega⟩,⟨bg3 _,bg3 _,bg3 _,by show r<=r+1;omega⟩,⟨h.1,h.2,by show l<=p2;omega,by show p2<=r+1;omega⟩,⟨s1,s2,s3,by show r+1<=B.r;omega⟩,f1⟩
  ·have e2:p2=r+1+1:=by omega
   have f2:=xL cl f1 (by omega) (c0:=p1) (by rw[<- e2];exact u) h ⟨s1,s2,s3,by show r+1+1<=B.r;omega⟩
   exact⟨⟨t,l,b,r+1+1⟩,⟨tb,by show l<=r+1+1;omega⟩,⟨bg3 _,bg3 _,bg3 _,by show r<=r+1+1;omega⟩,⟨h.1,h.2,by show l<=p2;omega,by show p2<=r+1+1;omega⟩,⟨s1,s2,s3,by show r+1+1<=B.r;omega⟩,f2⟩
theorem aT9 (f:bV U ⟨t,l,b,r⟩)(tb:t<=b)(lr:l<=r)(s:bC ⟨t,l,b,r⟩ B){g h:Int}(g0:0<=g)(h0:0<=h)(gh:g+h<=2)(a1:p1-b<=g)(a2:t-p1<=g)(b1:p2-r<=h)(b2:l-p2<=h):e9 B U ⟨t,l,b,r⟩ (p1,p2):=by
 by_cases c1:p1<=b
 ·by_cases c2:t<=p1
  ·exact xN cl u ip f tb lr s ⟨c2,c1⟩ (by omega) (by omega)
  ·
   obtain⟨s1,s2,s3,s4⟩:=s
   obtain⟨i1,i2,i3,i4⟩:=ip
   dsimp only at *;have go:∀c0,U (t-1,c0)->l<=c0/\c0<=r->p1=t-1->e9 B U ⟨t,l,b,r⟩ (p1,p2):=λc0 u0 hc e=>
    e9.step (R1:=⟨t-1,l,b,r⟩) ⟨by show t-1<=t;omega,bg3 _,bg3 _,bg3 _⟩ (xN cl u ⟨i1,i2,i3,i4⟩ (tL cl f tb u0 hc ⟨by show B.t<=t-1;omega,s2,s3,s4⟩) (by omega) lr ⟨by show B.t<=t-1;omega,s2,s3,s4⟩ ⟨by omega,by omega⟩ (by omega) (by omega))
   by_cases e:p1=t-1
   ·by_cases d1:p2<=r
    ·by_cases d2:l<=p2
     ·exact go p2 (by rw[<- e];exact u) ⟨d2,d1⟩ e
     ·exact go l (cl (t-1,l) (p1,p2) (t,l) ⟨by show B.t<=t-1;omega,by show t-1<=B.b;omega,s2,by show l<=B.r;omega⟩ (.inl ⟨e,.inl (by show p2=l-1;omega)⟩) (.inr ⟨rfl,.inr (by show t=t-1+1;omega)⟩) (iM (.inl (by show p1≠t;omega))) u (f _ ⟨bg3 _,tb,bg3 _,lr⟩)) ⟨bg3 _,lr⟩ e
    ·exact go r (cl (t-1,r) (p1,p2) (t,r) ⟨by show B.t<=t-1;omega,by show t-1<=B.b;omega,by show B.l<=r;omega,s4⟩ (.inl ⟨e,.inr (by show p2=r+1;omega)⟩) (.inr ⟨rfl,.inr (by show t=t-1+1;omega)⟩) (iM (.inl (by show p1≠t;omega))) u (f _ ⟨bg3 _,tb,lr,bg3 _⟩)) ⟨lr,bg3 _⟩ e
   ·have hc:l<=p2/\p2<=r:=⟨by omega,by omega⟩
    have e2:p1=t-1-1:=by omega
    have u1:U (t-1,p2):=cl (t-1,p2) (p1,p2) (t,p2) ⟨by show B.t<=t-1;omega,by show t-1<=B.b;omega,i3,i4⟩ (.inr ⟨rfl,.inl e2⟩) (.inr ⟨rfl,.inr (by show t=t-1+1;omega)⟩) (iM (.inl (by show p1≠t;omega))) u (f _ ⟨bg3 _,tb,hc.1,hc.2⟩);have f1:=tL cl f tb u1 hc ⟨by show B.t<=t-1;omega,s2,s3,s4⟩;have f2:=tL cl f1 (by omega) (c0:=p2) (by rw[<- e2];exact u) hc ⟨by show B.t<=t-1-1;omega,s2,s3,s4⟩
    exact⟨⟨t-1-1,l,b,r⟩,⟨by show t-1-1<=b;omega,lr⟩,⟨by show t-1-1<=t;omega,bg3 _,bg3 _,bg3 _⟩,⟨by show t-1-1<=p1;omega,c1,hc.1,hc.2⟩,⟨by show B.t<=t-1-1;omega,s2,s3,s4⟩,f2⟩
 ·
  obtain⟨s1,s2,s3,s4⟩:=s
  obtain⟨i1,i2,i3,i4⟩:=ip
  dsimp only at *;have go:∀c0,U (b+1,c0)->l<=c0/\c0<=r->p1=b+1->e9 B U ⟨t,l,b,r⟩ (p1,p2):=λc0 u0 hc e=>
   e9.step (R1:=⟨t,l,b+1,r⟩) ⟨bg3 _,bg3 _,by show b<=b+1;omega,bg3 _⟩ (xN cl u ⟨i1,i2,i3,i4⟩ (tK cl f tb u0 hc ⟨s1,s2,by show b+1<=B.b;omega,s4⟩) (by omega) lr ⟨s1,s2,by show b+1<=B.b;omega,s4⟩ ⟨by omega,by omega⟩ (by omega) (by omega))
  by_cases e:p1=b+1
  ·by_cases d1:p2<=r
   ·by_cases d2:l<=p2
    ·exact go p2 (by rw[<- e];exact u) ⟨d2,d1⟩ e
    ·exact go l (cl (b+1,l) (p1,p2) (b,l) ⟨by show B.t<=b+1;omega,by show b+1<=B.b;omega,s2,by show l<=B.r;omega⟩ (.inl ⟨e,.inl (by show p2=l-1;omega)⟩) (.inr ⟨rfl,.inl (by show b=b+1-1;omega)⟩) (iM (.inl (by show p1≠b;omega))) u (f _ ⟨tb,bg3 _,bg3 _,lr⟩)) ⟨bg3 _,lr⟩ e
   ·exact go r (cl (b+1,r) (p1,p2) (b,r) ⟨by show B.t<=b+1;omega,by show b+1<=B.b;omega,by show B.l<=r;omega,s4⟩ (.inl ⟨e,.inr (by show p2=r+1;omega)⟩) (.inr ⟨rfl,.inl (by show b=b+1-1;omega)⟩) (iM (.inl (by show p1≠b;omega))) u (f _ ⟨tb,bg3 _,lr,bg3 _⟩)) ⟨lr,bg3 _⟩ e
  ·have hc:l<=p2/\p2<=r:=⟨by omega,by omega⟩
   have e2:p1=b+1+1:=by omega
   have u1:U (b+1,p2):=cl (b+1,p2) (p1,p2) (b,p2) ⟨by show B.t<=b+1;omega,by show b+1<=B.b;omega,i3,i4⟩ (.inr ⟨rfl,.inr e2⟩) (.inr ⟨rfl,.inl (by show b=b+1-1;omega)⟩) (iM (.inl (by show p1≠b;omega))) u (f _ ⟨tb,bg3 _,hc.1,hc.2⟩);have f1:=tK cl f tb u1 hc ⟨s1,s2,by show b+1<=B.b;omega,s4⟩;have f2:=tK cl f1 (by omega) (c0:=p2) (by rw[<- e2];exact u) hc ⟨s1,s2,by show b+1+1<=B.b;omega,s4⟩
   exact⟨⟨t,l,b+1+1,r⟩,⟨by show t<=b+1+1;omega,lr⟩,⟨bg3 _,bg3 _,by show b<=b+1+1;omega,bg3 _⟩,⟨by show t<=p1;omega,by show p1<=b+1+1;omega,hc.1,hc.2⟩,⟨s1,s2,by show b+1+1<=B.b;omega,s4⟩,f2⟩
end
theorem aU0 (cl:eU B U){C:Bx}(fC:bV U C)(sC:bC C B){p:Int×Int}(pC:bA C p):∀(n:Nat) (t l b r:Int),bA ⟨t,l,b,r⟩ p->bV U ⟨t,l,b,r⟩->bC ⟨t,l,b,r⟩ B->(t-C.t).toNat+(l-C.l).toNat+(C.b-b).toNat+(C.r-r).toNat=n->∃R,bV U R/\bC ⟨t,l,b,r⟩ R/\bC C R:=by
 obtain⟨c1,c2,c3,c4⟩:=pC
 obtain⟨d1,d2,d3,d4⟩:=sC
 intro n
 induction n with
 |zero=>
  intro t l b r pR f s h
  exact⟨_,f,bC.refl _,by show t<=C.t;omega,by show l<=C.l;omega,by show C.b<=b;omega,by show C.r<=r;omega⟩
 |succ n ih=>
  rintro t l b r ⟨a1,a2,a3,a4⟩ f ⟨s1,s2,s3,s4⟩ h;dsimp only at a1 a2 a3 a4 s1 s2 s3 s4;have tb:=bo0 a1 a2;have lr:=bo0 a3 a4;by_cases h1:C.t<t
  ·have s':bC ⟨t-1,l,b,r⟩ B:=⟨by show B.t<=t-1;omega,s2,s3,s4⟩
   have u:=fC (t-1,p.2) ⟨by show C.t<=t-1;omega,by show t-1<=C.b;omega,c3,c4⟩
   obtain⟨R,g1,g2,g3⟩:=ih (t-1) l b r ⟨by show t-1<=p.1;omega,a2,a3,a4⟩ (tL cl f tb u ⟨a3,a4⟩ s') s' (by omega)
   exact⟨R,g1,bC.trans (y:=⟨t-1,l,b,r⟩) ⟨by show t-1<=t;omega,bg3 _,bg3 _,bg3 _⟩ g2,g3⟩
  ·by_cases h2:C.l<l
   ·have s':bC ⟨t,l-1,b,r⟩ B:=⟨s1,by show B.l<=l-1;omega,s3,s4⟩
    have u:=fC (p.1,l-1) ⟨c1,c2,by show C.l<=l-1;omega,by show l-1<=C.r;omega⟩
    obtain⟨R,g1,g2,g3⟩:=ih t (l-1) b r ⟨a1,a2,by show l-1<=p.2;omega,a4⟩ (xM cl f lr u ⟨a1,a2⟩ s') s' (by omega)
    exact⟨R,g1,bC.trans (y:=⟨t,l-1,b,r⟩) ⟨bg3 _,by show l-1<=l;omega,bg3 _,bg3 _⟩ g2,g3⟩
   ·by_cases h3:b<C.b
    ·have s':bC ⟨t,l,b+1,r⟩ B:=⟨s1,s2,by show b+1<=B.b;omega,s4⟩
     have u:=fC (b+1,p.2) ⟨by show C.t<=b+1;omega,by show b+1<=C.b;omega,c3,c4⟩
     obtain⟨R,g1,g2,g3⟩:=ih t l (b+1) r ⟨a1,by show p.1<=b+1;omega,a3,a4⟩ (tK cl f tb u ⟨a3,a4⟩ s') s' (by omega)
     exact⟨R,g1,bC.trans (y:=⟨t,l,b+1,r⟩) ⟨bg3 _,bg3 _,by show b<=b+1;omega,bg3 _⟩ g2,g3⟩
    ·have h4:r<C.r:=by omega
     have s':bC ⟨t,l,b,r+1⟩ B:=⟨s1,s2,s3,by show r+1<=B.r;omega⟩;have u:=fC (p.1,r+1) ⟨c1,c2,by show C.l<=r+1;omega,by show r+1<=C.r;omega⟩
     obtain⟨R,g1,g2,g3⟩:=ih t l b (r+1) ⟨a1,a2,a3,by show p.2<=r+1;omega⟩ (xL cl f lr u ⟨a1,a2⟩ s') s' (by omega)
     exact⟨R,g1,bC.trans (y:=⟨t,l,b,r+1⟩) ⟨bg3 _,bg3 _,bg3 _,by show r<=r+1;omega⟩ g2,g3⟩
theorem Z6 {a b c d g:Int}(ab:a<=b)(cd:c<=d)(g0:0<=g)(h1:c-b<=g)(h2:a-d<=g):∃p,c<=p/\p<=d/\p-b<=g/\a-p<=g:=by
 by_cases e1:a<=c
 ·exact⟨c,bg3 _,cd,h1,by omega⟩
 ·by_cases e2:a<=d
  ·exact⟨a,by omega,e2,by omega,by omega⟩
  ·exact⟨d,cd,bg3 _,by omega,h2⟩
theorem xO {A C:Bx}(okA:okX A)(okC:okX C)(nr:fV A C=true)(cl:eU (gY A C) U)(fA:bV U A)(fC:bV U C):bV U (gY A C):=by
 obtain⟨g,h,g0,h0,gh,a1,a2,b1,b2⟩:=Z2 nr
 obtain⟨p1,q1,q2,q3,q4⟩:=Z6 okA.1 okC.1 g0 a1 a2
 obtain⟨p2,r1,r2,r3,r4⟩:=Z6 okA.2 okC.2 h0 b1 b2
 have pC:bA C (p1,p2):=⟨q1,q2,r1,r2⟩
 obtain⟨⟨t,l,b,r⟩,k1,k2,k3,k4,k5⟩:=aT9 cl (fC _ pC) (aT5 pC) (t:=A.t) (l:=A.l) (b:=A.b) (r:=A.r) fA okA.1 okA.2 (aT3 A C) g0 h0 gh q3 q4 r3 r4
 obtain⟨R,m1,m2,m3⟩:=aU0 cl fC (Z3 A C) pC _ t l b r k3 k5 k4 rfl
 exact aT6 m1 (aT4 (bC.trans k2 m2) m3)
end
abbrev aG:=Int×Int
inductive eF (B:Bx)(S:aG->Prop):aG->Prop
 |seed {x:aG}:S x->eF B S x
 |kin {x a b:aG}:bA B x->fJ x a->fJ x b->a≠b->eF B S a->eF B S b->eF B S x
theorem eF.clo {B B':Bx}{S:aG->Prop}(s:bC B' B):eU B' (eF B S):=λx a b h1 h2 h3 h4 h5 h6=>.kin (s.in_ h1) h2 h3 h4 h5 h6
abbrev dF (r c:Int):Bx:=⟨0,0,r-1,c-1⟩
theorem kB {r c:Int}{p:aG}:bA (dF r c) p↔b6 r c p=true:=by
 rw[jG];unfold bA;dsimp only;omega
theorem nH {r c:Int}{x a:aG}:a∈aQ r c x↔fJ x a/\b6 r c a=true:=by
 unfold aQ;rw[bk1];refine and_congr_left λ_=>?_
 unfold eS fJ;simp only[bg6,bh7,bo4,Prod.ext_iff];omega
theorem aU1 {r c:Int}{S:List aG}(bd:∀x∈S,b6 r c x=true){p:aG}(h:eD r c S p):b6 r c p=true:=by
 cases h with
 |seed h=>exact bd _ h
 |kin h1 _ _ _ _ _=>exact h1
theorem aU2 {r c:Int}{S:List aG}(bd:∀x∈S,b6 r c x=true){p:aG}:eD r c S p↔eF (dF r c) (·∈S) p:=by
 have bd':∀{q:aG},eF (dF r c) (·∈S) q->b6 r c q=true:=λ{q} h=>by
  cases h with
  |seed h=>exact bd _ h
  |kin h1 _ _ _ _ _=>exact kB.mp h1
 constructor
 ·intro h
  induction h with
  |seed h=>exact .seed h
  |kin h1 h2 h3 h4 _ _ i1 i2=>exact .kin (kB.mpr h1) (nH.mp h2).1 (nH.mp h3).1 h4 i1 i2
 ·intro h
  induction h with
  |seed h=>exact .seed h
  |kin h1 h2 h3 h4 b1 b2 i1 i2=>exact .kin (kB.mp h1) (nH.mpr ⟨h2,bd' b1⟩) (nH.mpr ⟨h3,bd' b2⟩) h4 i1 i2
def nI (x:Bx):Int:=(x.b-x.t+1)+(x.r-x.l+1)
structure Spn (G:List aG)(x:Bx):Prop where
 ok:okX x
 ins:∀s∈G,bA x s
 full:∀p,bA x p->eF x (·∈G) p
 few:nI x<=2*(G.length:Int)
def iN (S:List aG)(T:List Bx):Prop:=∃f:List (Bx×List aG),T=f.map (·.1)/\(∀e∈f,Spn e.2 e.1)/\(f.map (·.2)).flatten.Perm S
def pF (T:List Bx):Prop:=T.Pairwise λx y=>fV x y=false
theorem pF.eq {T:List Bx}(h:pF T){x y:Bx}(hx:x∈T)(hy:y∈T)(nr:fV x y=true):x=y:=by
 obtain⟨i,hi,rfl⟩:=bm0 hx
 obtain⟨j,hj,rfl⟩:=bm0 hy
 have pw:=bk8.mp h;rcases Nat.lt_trichotomy i j with z|z|z
 ·rw[pw i j hi hj z]at nr;cases nr
 ·subst z;rfl
 ·rw[aT1,pw j i hj hi z]at nr;cases nr
theorem aU3 {i:Nat}{x:PV}{g:Bool}{ρ:bE}{Q:bE->Prop}(f:flat x=true)(q:Q (ρ.set i (some (.sh true x)))):cP i x g ρ Q:=by
 unfold cP;rw[f,Bool.or_true];exact q
abbrev bxP (x:Bx):PV:=.tup (intz x.k)
theorem aU4 (i j:Int):(if j<i then j else i)=min i j:=by split<;>omega
theorem aU5 (i j:Int):(if j>i then j else i)=max i j:=by split<;>omega
theorem aU6 (a b:List aG):a9 a++a9 b=a9 (a++b):=by unfold a9;rw[bi0]
section
variable {ns:ae}{a r c z t l:Int}{Q:PV→Prop}(q:∀x:Bx, Q (bxP x))
include q
end
end Core
namespace PP
open PySem L2
abbrev Cau:=Option (Int×ae)
end PP
namespace Core
open PySem L2 PP
def eV (p:aG):List aG:=[(p.1-1,p.2),(p.1+1,p.2),(p.1,p.2-1),(p.1,p.2+1)]
theorem lN {p q:aG}:q∈eV p↔fJ p q:=by
 obtain⟨a,b⟩:=p
 obtain⟨c,d⟩:=q
 unfold eV fJ;simp only[bg6,bh7,bo4,Prod.mk.injEq];omega
theorem xP (p:aG):(eV p).Nodup:=by
 obtain⟨a,b⟩:=p
 unfold eV;simp only[bl4,bg6,bh7,bo4,Prod.mk.injEq,bw8,and_true,not_false_eq_true];refine⟨?_,?_,?_⟩<;>omega
theorem Z7 {p q:aG}(h:fJ p q):fJ q p:=by unfold fJ at h ⊢;omega
theorem Z8 {p q:aG}:q∈eV p↔p∈eV q:=by rw[lN,lN];exact⟨Z7,Z7⟩
theorem aU7 {p:aG}:p∉eV p:=by rw[lN];unfold fJ;omega
def tM (K:List aG)(p:aG):Nat:=((eV p).filter λq=>decide (q∈K)).length
def fW (K:List aG)(p:aG):Nat:=((eV p).filter λq=>!decide (q∈K)).length
theorem Z9 {α:Type}(f:α->Bool):∀l:List α,(l.filter λx=>!f x).length+(l.filter f).length=l.length
 |[]=>rfl
 |x::l=>by
  have ih:=Z9 f l;rw[List.filter_cons,List.filter_cons];cases f x<;>simp<;>omega
theorem aa0 (K:List aG)(p:aG):fW K p+tM K p=4:=Z9 (λq=>decide (q∈K)) (eV p)
def gZ (K:List aG):Nat:=(K.map (fW K)).sum
theorem lO:∀{A B:List aG},A.Nodup->(∀x∈A,x∈B)->A.length<=B.length
 |[],_,_,_=>bk7 _
 |a::A,B,nd,sub=>by
  have ha:=sub a bg1;have n:=bl4.mp nd;have ih:=lO (A:=A) (B:=B.erase a) n.2 λx hx=>(List.mem_erase_of_ne λ(e:x=a)=>n.1 (e▸hx)).mpr (sub x (bf9 _ hx))
  have:=List.length_erase_of_mem ha
  have:=List.length_pos_of_mem ha
  rw[bj5];omega
theorem aU8 {K:List aG}(nd:K.Nodup)(x:aG):(K.filter λp=>decide (x∈eV p)).length=tM K x:=by
 refine Nat.le_antisymm (lO (nd.filter _) λp hp=>?_) (lO ((xP x).filter _) λp hp=>?_)
 ·obtain⟨h1,h2⟩:=bk1.mp hp
  exact bk1.mpr ⟨Z8.mp (bu5 h2),bg4 h1⟩
 ·obtain⟨h1,h2⟩:=bk1.mp hp
  exact bk1.mpr ⟨bu5 h2,bg4 (Z8.mp h1)⟩
theorem xQ {K:List aG}{x:aG}(hx:x∉K):∀{L:List aG},L.Nodup->(L.filter λq=>!decide (q∈K++[x])).length+(if x∈L then 1 else 0)=(L.filter λq=>!decide (q∈K)).length
 |[],_=>rfl
 |a::L,nd=>by
  have n:=bl4.mp nd;have ih:=xQ hx (L:=L) n.2;by_cases e:a=x
  ·subst e
   rw[if_neg n.1]at ih;rw[List.filter_cons_of_neg (by simp),if_pos bg1,List.filter_cons_of_pos (by simpa using hx),bj5];omega
  ·have m:(x∈a::L)↔x∈L:=⟨λz=>(bg6.mp z).resolve_left λw=>e w.symm,bf9 _⟩
   have c:decide (a∈K++[x])=decide (a∈K):=decide_eq_decide.mpr ⟨λz=>(bj1.mp z).resolve_right λw=>e (bg2.mp w),bk0 _⟩;rw[List.filter_cons,List.filter_cons,c];have i:(if x∈a::L then 1 else 0)=(if x∈L then 1 else 0):=by simp only[m]
   rw[i];cases decide (a∈K) with
   |true=>exact ih
   |false=>show _+1+_=_+1;omega
theorem aa1 {f g:aG->Nat}{q:aG->Bool}:∀{L:List aG},(∀p∈L,g p+(if q p=true then 1 else 0)=f p)->(L.map g).sum+(L.filter q).length=(L.map f).sum
 |[],_=>rfl
 |a::L,h=>by
  have ih:=aa1 (L:=L) λp hp=>h p (bf9 _ hp)
  have ha:=h a bg1;rw[bi8,bi8,bo3,bo3,List.filter_cons];cases e:q a with
  |true=>rw[e,if_pos rfl]at ha;rw[if_pos rfl,bj5];omega
  |false=>rw[e,if_neg (by decide)]at ha;rw[if_neg (by decide)];omega
theorem aU9 {K:List aG}{x:aG}(nd:K.Nodup)(hx:x∉K):gZ (K++[x])+2*tM K x=gZ K+4:=by
 have h1:=aa1 (f:=fW K) (g:=fW (K++[x])) (q:=λp=>decide (x∈eV p)) (L:=K) λp _=>by
  have:=xQ hx (xP p)
  unfold fW;simp only[bi5];exact this
 rw[aU8 nd]at h1;have h2:=xQ hx (xP x);rw[if_neg aU7]at h2;have h2:fW (K++[x]) x+0=fW K x:=h2;have h3:=aa0 K x;have e:gZ (K++[x])=(K.map (fW (K++[x]))).sum+fW (K++[x]) x:=by
  unfold gZ;rw[bi0,List.sum_append];simp
 have e2:gZ K=(K.map (fW K)).sum:=rfl;omega
def aa2 (r c:Int)(K:List aG)(x:aG):Prop:=b6 r c x=true/\x∉K/\2<=tM K x
theorem aa3 {r c:Int}{S K:List aG}(sub:∀x∈S,x∈K)(sh:∀x,¬aa2 r c K x){x:aG}(h:eD r c S x):x∈K:=by
 induction h with
 |seed h=>exact sub _ h
 |@kin x a b bx sa sb ne _ _ ha hb=>
  refine Decidable.byContradiction λz=>sh x ⟨bx,z,?_⟩
  have:=lO (A:=[a,b]) (B:=(eV x).filter λq=>decide (q∈K)) (bl4.mpr ⟨λw=>ne (bg2.mp w),bl4.mpr ⟨(λz=>by cases z),bw8⟩⟩) λq hq=>by
   rcases bg6.mp hq with rfl|hq
   ·exact bk1.mpr ⟨lN.mpr (nH.mp sa).1,bg4 ha⟩
   ·rw[bg2.mp hq]
    exact bk1.mpr ⟨lN.mpr (nH.mp sb).1,bg4 hb⟩
  exact this
def eW (a b:Int):ae:=(List.range (b-a+1).toNat).map λ(k:Nat)=>a+(k:Int)
theorem pG {a b x:Int}:x∈eW a b↔a<=x/\x<=b:=by
 unfold eW;rw[bh9];constructor
 ·rintro⟨k,hk,rfl⟩
  have:=bj8.mp hk
  omega
 ·intro h
  exact⟨(x-a).toNat,bj8.mpr (by omega),by omega⟩
theorem nJ (a b:Int):(eW a b).Nodup:=by
 unfold eW;exact bk6.mpr (List.nodup_range.imp λh e=>h (by omega))
def fX (x:Bx):List aG:=(eW x.t x.b).flatMap λi=>(eW x.l x.r).map λj=>(i,j)
theorem kC {x:Bx}{p:aG}:p∈fX x↔bA x p:=by
 unfold fX;simp only[List.mem_flatMap,bh9,pG];constructor
 ·rintro⟨i,hi,j,hj,rfl⟩
  exact⟨hi.1,hi.2,hj.1,hj.2⟩
 ·rintro⟨h1,h2,h3,h4⟩
  exact⟨p.1,⟨h1,h2⟩,p.2,⟨h3,h4⟩,rfl⟩
def dN (a b:Int):Nat:=if a=b then 1 else 0
theorem pH {a:Int}:∀{L:ae},L.Nodup->a∈L->(L.map λi=>dN i a).sum=1
 |[],_,h=>by cases h
 |x::L,nd,h=>by
  have n:=bl4.mp nd;rw[bi8,bo3];by_cases e:x=a
  ·subst e
   have:(L.map λi=>dN i x).sum=0:=by
    have:∀{M:ae},x∉M->(M.map λi=>dN i x).sum=0:=λ{M}=>by
     induction M with
     |nil=>intro _;rfl
     |cons y M ih=>
      intro z;rw[bi8,bo3,ih λw=>z (bf9 _ w)];unfold dN;rw[if_neg λ(w:y=x)=>z (w▸bg1)]
    exact this n.1
   rw[this];unfold dN;rw[if_pos rfl]
  ·rw[pH n.2 ((bg6.mp h).resolve_left λw=>e w.symm)]
   unfold dN;rw[if_neg e]
theorem pI {α:Type}(f g:α->Nat):∀L:List α,(L.map λi=>f i+g i).sum=(L.map f).sum+(L.map g).sum
 |[]=>rfl
 |x::L=>by rw[bi8,bi8,bi8,bo3,bo3,bo3,pI f g L];omega
theorem xR {α:Type}(k:Nat):∀L:List α,(L.map λ_=>k).sum=L.length*k
 |[]=>by rw[List.length_nil,Nat.zero_mul];rfl
 |x::L=>by rw[bi8,bo3,xR k L,bj5,Nat.succ_mul];omega
theorem aa4 {α:Type}(k:Nat)(f:α->Nat):∀L:List α,(L.map λi=>k*f i).sum=k*(L.map f).sum
 |[]=>rfl
 |x::L=>by rw[bi8,bi8,bo3,bo3,aa4 k f L,Nat.mul_add]
theorem xS {α:Type}(f:aG->Nat)(g:α->List aG):∀L:List α,((L.flatMap g).map f).sum=(L.map λi=>((g i).map f).sum).sum
 |[]=>rfl
 |x::L=>by rw[List.flatMap_cons,bi0,List.sum_append,bi8,bo3,xS f g L]
theorem xT {α:Type}{f g:α->Nat}:∀{L:List α},(∀x∈L,f x=g x)->(L.map f).sum=(L.map g).sum
 |[],_=>rfl
 |x::L,h=>by rw[bi8,bi8,bo3,bo3,h x bg1,xT λy hy=>h y (bf9 _ hy)]
def pJ (x:Bx)(p:aG):Nat:=dN p.1 x.t+dN p.1 x.b+(dN p.2 x.l+dN p.2 x.r)
theorem aV0 {x:Bx}(ok:okX x):((fX x).map (pJ x)).sum=2*(nI x).toNat:=by
 obtain⟨h1,h2⟩:=ok
 unfold fX;rw[xS];have lw:(eW x.l x.r).length=(x.r-x.l+1).toNat:=by unfold eW;rw[bf6,bl8]
 have lh:(eW x.t x.b).length=(x.b-x.t+1).toNat:=by unfold eW;rw[bf6,bl8]
 have row:∀i:Int,(((eW x.l x.r).map λj=>(i,j)).map (pJ x)).sum=(x.r-x.l+1).toNat*(dN i x.t+dN i x.b)+2:=λi=>by
  rw[br4];show ((eW x.l x.r).map λj=>dN i x.t+dN i x.b+(dN j x.l+dN j x.r)).sum=_;rw[pI,xR,pI,pH (nJ _ _) (pG.mpr ⟨bg3 _,h2⟩),pH (nJ _ _) (pG.mpr ⟨h2,bg3 _⟩),lw]
 rw[show (λi:Int=>(((eW x.l x.r).map λj=>(i,j)).map (pJ x)).sum)=λi=>(x.r-x.l+1).toNat*(dN i x.t+dN i x.b)+2 from funext row];rw[pI,xR,aa4,pI,pH (nJ _ _) (pG.mpr ⟨bg3 _,h1⟩),pH (nJ _ _) (pG.mpr ⟨h1,bg3 _⟩),lh];unfold nI;omega
theorem aV1 (f:aG->Bool)(a b c d:aG):([a,b,c,d].filter f).length=(if f a=true then 1 else 0)+(if f b=true then 1 else 0)+((if f c=true then 1 else 0)+(if f d=true then 1 else 0)):=by
 simp only[List.filter_cons,List.filter_nil];cases f a<;>cases f b<;>cases f c<;>cases f d<;>rfl
theorem aV2 {x y:Bx}{p q:aG}(hp:bA x p)(hq:bA y q)(a:fJ p q):fV x y=true:=by
 unfold bA at hp hq;unfold fJ at a;rcases a with⟨e,_⟩|⟨e,_⟩
 ·exact lM (g:=0) (h:=1) (by omega) (by omega) (by omega) (by omega) (by omega) (by omega) (by omega)
 ·exact lM (g:=1) (h:=0) (by omega) (by omega) (by omega) (by omega) (by omega) (by omega) (by omega)
theorem aV3 {T:List Bx}(far:pF T){x:Bx}(hx:x∈T){K:List aG}(hK:∀p,p∈K↔∃y∈T,bA y p){p:aG}(hp:bA x p):fW K p=pJ x p:=by
 have key:∀q,fJ p q->(decide (q∈K)=true↔bA x q):=λq a=>by
  rw[bi5,hK];constructor
  ·rintro⟨y,hy,hq⟩
   rw[far.eq hx hy (aV2 hp hq a)];exact hq
  ·exact λh=>⟨x,hx,h⟩
 have one:∀q,q∈eV p->∀a b:Int,(bA x q↔¬a=b)->(if (!decide (q∈K))=true then 1 else 0)=dN a b:=λq hq a b h=>by
  unfold dN;by_cases e:a=b
  ·rw[if_pos e,if_pos]
   rw[Bool.not_eq_true',bq8];exact λz=>h.mp ((key q (lN.mp hq)).mp z) e
  ·rw[if_neg e,if_neg]
   rw[(key q (lN.mp hq)).mpr (h.mpr e)];decide
 unfold fW;have e:eV p = [(p.1-1,p.2),(p.1+1,p.2),(p.1,p.2-1),(p.1,p.2+1)]:=rfl;have m:∀q,q∈[(p.1-1,p.2),(p.1+1,p.2),(p.1,p.2-1),(p.1,p.2+1)]->q∈eV p:=λq h=>h
 rw[e,aV1];unfold bA at hp;unfold pJ;rw[one _ (m _ (by simp)) p.1 x.t (by unfold bA;omega),one _ (m _ (by simp)) p.1 x.b (by unfold bA;omega),one _ (m _ (by simp)) p.2 x.l (by unfold bA;omega),one _ (m _ (by simp)) p.2 x.r (by unfold bA;omega)]
theorem aa5 (x:Bx):(fX x).Nodup:=by
 unfold fX;refine List.pairwise_flatMap.mpr ⟨λi _=>bk6.mpr ((nJ _ _).imp λh e=>h (Prod.mk.inj e).2),(nJ _ _).imp λh p hp q hq e=>?_⟩
 obtain⟨_,_,rfl⟩:=bh9.mp hp
 obtain⟨_,_,rfl⟩:=bh9.mp hq
 exact h (Prod.mk.inj e).1
theorem aV4 {T:List Bx}(far:pF T)(ok:∀x∈T,okX x){K:List aG}(nd:K.Nodup)(hK:∀p,p∈K↔∃y∈T,bA y p):gZ K=(T.map λx=>2*(nI x).toNat).sum:=by
 have nt:(T.flatMap fX).Nodup:=by
  refine List.pairwise_flatMap.mpr ⟨λx _=>aa5 x,far.imp λ{x y} h p hp q hq e=>?_⟩;subst e;rw[aT2 (kC.mp hp) (kC.mp hq)]at h;cases h
 have pm:K.Perm (T.flatMap fX):=(List.perm_ext_iff_of_nodup nd nt).mpr λp=>by
  rw[hK,List.mem_flatMap]
  exact⟨λ⟨y,hy,h⟩=>⟨y,hy,kC.mpr h⟩,λ⟨y,hy,h⟩=>⟨y,hy,kC.mp h⟩⟩
 unfold gZ;rw[(pm.map (fW K)).sum_nat,xS];refine xT λx hx=>?_
 rw[<- aV0 (ok x hx)];exact xT λp hp=>aV3 far hx hK (kC.mp hp)
end Core
namespace Raw
open PySem
abbrev fY:=SetTable.Probe
def aa6 (m:Nat):SetTable:={ mask:=m,place:=#[],dummies:=#[],finger:=0,led:=true,moves:=0,plain:=true }
def gL (m:Nat)(p:fY):fY:=(aa6 m).advance p
def aS (m:Nat):Nat->fY->fY
 |0,p=>p
 |n+1,p=>aS m n (gL m p)
theorem xU (m:Nat):∀(n:Nat) (p:fY),aS m (n+1) p=gL m (aS m n p)
 |0,_=>rfl
 |n+1,p=>xU m n (gL m p)
theorem pM (m:Nat):∀(a b:Nat) (p:fY),aS m (a+b) p=aS m b (aS m a p)
 |0,b,p=>by rw[Nat.zero_add];rfl
 |a+1,b,p=>by
  rw[show a+1+b=(a+b)+1 by omega];exact pM m a b (gL m p)
def bI (m:Nat)(h:Int):fY:=(aa6 m).probeStart h
theorem aa7 (m:Nat)(p:fY):(gL m p).dummy=p.dummy:=by
 unfold gL SetTable.advance;split<;>rfl
theorem aV5 {t:SetTable}{j i:Nat}(e:t.slot j = .live i):t.place.toList[i]? = some j:=by
 unfold SetTable.slot at e;dsimp only at e;split at e
 ·rename_i h
  cases e;rw[bi4];exact eq_of_beq h
 ·split at e<;>cases e
theorem aa8 {t:SetTable}(a:t.place.toList.Pairwise (·<·)){j:Nat}(hj:j∈t.place.toList):∃i,t.slot j = .live i/\t.place.toList[i]? = some j:=by
 obtain⟨k,hk,e⟩:=bm0 hj
 obtain⟨b1,b2,b3⟩:=sV (j:=j) a
 have hb:SetTable.below t.place j=k:=by
  have hk':k<t.place.size:=by rw[<- bh3];exact hk
  rcases Nat.lt_trichotomy k (SetTable.below t.place j) with z|z|z
  ·have:=b2 k z
   rw[bg5,bf4 hk,e]at this;exact absurd this (bl1 _)
  ·exact z.symm
  ·have h3:=b3 _ (bg0 _) (by omega)
   have hl:SetTable.below t.place j<t.place.toList.length:=by omega
   rw[bg5,bf4 hl]at h3
   have:=(bk8.mp a) _ _ hl hk z
   simp only[bt4]at h3;omega
 have g:t.place[SetTable.below t.place j]? = some j:=by
  rw[hb,<- bi4,bf4 hk,e]
 refine⟨_,?_,by rw[bi4];exact g⟩;unfold SetTable.slot;dsimp only;rw[if_pos (by rw[g];exact bm7 _)]
theorem aV6 {t:SetTable}(dm:t.dummies = #[]){j:Nat}(hj:j∉t.place.toList):t.slot j = .empty:=by
 unfold SetTable.slot;dsimp only;rw[if_neg,if_neg]
 ·rw[dm,T9];exact bi1
 ·intro q
  refine hj (br6 (i:=SetTable.below t.place j) ?_);rw[bi4];exact eq_of_beq q
theorem aa9 {t:SetTable}(a:t.place.toList.Pairwise (·<·))(dm:t.dummies = #[]){H:Nat->Int}{h:Int}:∀(E f:Nat) (p:fY),p.dummy=none->E<f->(aS t.mask E p).j∉t.place.toList->(∀k,k<E->(aS t.mask k p).j∈t.place.toList)->
  ((∀k,k<E->∀i,t.slot (aS t.mask k p).j = .live i->H i≠h)/\SetTable.probe.go t H h f p=some (.empty (aS t.mask E p).j none)) ∨
  ∃k,k<E/\∃i,t.slot (aS t.mask k p).j = .live i/\H i=h/\(∀l,l<k->∀i,t.slot (aS t.mask l p).j = .live i->H i≠h)/\SetTable.probe.go t H h f p=some (.candidate (aS t.mask k p).j i (aS t.mask (k+1) p))
 |0,f+1,p,hp,hf,he,_=>by
  refine .inl ⟨λk hk=>absurd hk (bp8 _),?_⟩;unfold SetTable.probe.go;rw[aV6 dm (j:=p.j) he];show some (SetTable.Met.empty p.j p.dummy)=_;rw[hp];rfl
 |E+1,f+1,p,hp,hf,he,hl=>by
  obtain⟨i,si,_⟩:=aa8 a (hl 0 (Nat.succ_pos _))
  have si:t.slot p.j = .live i:=si;by_cases e:H i=h
  ·refine .inr ⟨0,Nat.succ_pos _,i,si,e,λl hl=>absurd hl (bp8 _),?_⟩
   unfold SetTable.probe.go;rw[si];dsimp only;rw[if_pos (by rw[e];exact bm7 _)];rfl
  ·have st:SetTable.probe.go t H h (f+1) p=SetTable.probe.go t H h f (gL t.mask p):=by
    rw[SetTable.probe.go.eq_def];dsimp only;rw[si];dsimp only;rw[if_neg (by simpa using e)];rfl
   rcases aa9 a dm (H:=H) (h:=h) E f (gL t.mask p) (by rw[aa7];exact hp) (by omega) he (λk hk=>hl (k+1) (by omega)) with⟨q,g⟩|⟨k,hk,i',s',e',q,g⟩
   ·refine .inl ⟨λk hk=>?_,by rw[st];exact g⟩
    cases k with
    |zero=>intro i' s';rw[show t.slot (aS t.mask 0 p).j = .live i from si]at s';cases s';exact e
    |succ k=>exact q k (by omega)
   ·refine .inr ⟨k+1,by omega,i',s',e',λl hl2=>?_,by rw[st];exact g⟩
    cases l with
    |zero=>intro i' s';rw[show t.slot (aS t.mask 0 p).j = .live i from si]at s';cases s';exact e
    |succ l=>exact q l (by omega)
def hG (m:Nat)(x:Nat×Nat):fY:={ j:=x.1,more:=SetTable.runEnd m x.1-x.1,i:=x.1,perturb:=x.2,dummy:=none }
def cT (m i:Nat):Nat:=SetTable.runEnd m i-i
theorem aV7 (m i:Nat):cT m i<=9:=by
 unfold cT SetTable.runEnd;split<;>omega
theorem xV {m i:Nat}(h:i<=m):i+cT m i<=m:=by
 unfold cT SetTable.runEnd;split<;>omega
theorem aV8 (m:Nat)(h:Int):bI m h=hG m (SetTable.bits h%(m+1),SetTable.bits h):=rfl
theorem lP (m:Nat)(x:Nat×Nat):∀k,k<=cT m x.1->aS m k (hG m x)={ j:=x.1+k,more:=cT m x.1-k,i:=x.1,perturb:=x.2,dummy:=none }
 |0,_=>rfl
 |k+1,hk=>by
  rw[xU,lP m x k (by omega)];unfold gL SetTable.advance;rw[if_pos (show cT m x.1-k>0 by omega)];show SetTable.Probe.mk _ _ _ _ _=_;congr 1
theorem xW (m:Nat)(x:Nat×Nat):aS m (cT m x.1+1) (hG m x)=hG m (SetTable.leap m x.1 x.2):=by
 rw[xU,lP m x _ (bg0 _)];unfold gL SetTable.advance;rw[if_neg (show ¬cT m x.1-cT m x.1>0 by omega)];rfl
def lp (m:Nat):Nat->Nat×Nat->Nat×Nat
 |0,x=>x
 |n+1,x=>lp m n (SetTable.leap m x.1 x.2)
theorem ab0 (m:Nat):∀(n:Nat) (x:Nat×Nat),∃N,N<=10*n/\aS m N (hG m x)=hG m (lp m n x)
 |0,x=>⟨0,bg0 _,rfl⟩
 |n+1,x=>by
  obtain⟨N,hN,e⟩:=ab0 m n (SetTable.leap m x.1 x.2)
  refine⟨cT m x.1+1+N,by have:=aV7 m x.1;omega,?_⟩;rw[pM,xW];exact e
theorem ab1 (m:Nat):∀(n:Nat) (x:Nat×Nat),(lp m n x).2=x.2/32^n
 |0,x=>by show x.2=_;rw[Nat.pow_zero,Nat.div_one]
 |n+1,x=>by
  show (lp m n (SetTable.leap m x.1 x.2)).2=_;rw[ab1 m n];show x.2/32/32^n=_;rw[Nat.div_div_eq_div_mul,Nat.pow_succ,Nat.mul_comm]
theorem xX (m:Nat):∀(n:Nat) (x:Nat×Nat),x.1<=m->(lp m n x).1<=m
 |0,x,h=>h
 |n+1,x,h=>xX m n _ (by
  show (x.1*5+1+x.2/32)%(m+1)<=m
  have:=Nat.mod_lt (x.1*5+1+x.2/32) (show m+1>0 by omega)
  omega)
theorem ab2 (m:Nat):∀(a b:Nat) (x:Nat×Nat),lp m (a+b) x=lp m b (lp m a x)
 |0,b,x=>by rw[Nat.zero_add];rfl
 |a+1,b,x=>by
  rw[show a+1+b=(a+b)+1 by omega];exact ab2 m a b _
def jI (M:Nat):Nat->Nat->Nat
 |0,i=>i
 |n+1,i=>jI M n ((i*5+1)%M)
theorem tN (M:Nat):∀(a b i:Nat),jI M (a+b) i=jI M b (jI M a i)
 |0,b,i=>by rw[Nat.zero_add];rfl
 |a+1,b,i=>by
  rw[show a+1+b=(a+b)+1 by omega];exact tN M a b _
theorem ab3 (m:Nat):∀(n i:Nat),lp m n (i,0)=(jI (m+1) n i,0)
 |0,i=>rfl
 |n+1,i=>by
  show lp m n (SetTable.leap m i 0)=_;rw[show SetTable.leap m i 0=((i*5+1)%(m+1),0) from rfl];exact ab3 m n _
def i9 (M:Nat):Prop:=∀a,a<M->∀b,b<M->∃n,n<M/\jI M n a=b
def xY (M:Nat):Nat->Nat->List Nat
 |0,_=>[]
 |n+1,i=>i::xY M n ((i*5+1)%M)
theorem ab4 (M:Nat):∀(n i b:Nat),b∈xY M n i->∃k,k<n/\jI M k i=b
 |0,_,_,h=>by cases h
 |n+1,i,b,h=>by
  rcases bg6.mp h with e|h
  ·exact⟨0,Nat.succ_pos _,e.symm⟩
  ·obtain⟨k,hk,e⟩:=ab4 M n _ b h
   exact⟨k+1,by omega,e⟩
theorem xZ {M:Nat}(all:(List.range M).all (λb=>(xY M M 0).contains b)=true)(back:jI M M 0=0):i9 M:=by
 intro a ha b hb;have f:∀b,b<M->∃k,k<M/\jI M k 0=b:=λb hb=>
  ab4 M M 0 b (List.contains_iff_mem.mp (bq1.mp all b (bj8.mpr hb)))
 obtain⟨p,hp,ea⟩:=f a ha
 obtain⟨q,hq,eb⟩:=f b hb
 rcases bj0 q p with z|z
 ·refine⟨M-p+q,by omega,?_⟩
  rw[<- ea,<- tN,show p+(M-p+q)=M+q by omega,tN,back];exact eb
 ·refine⟨q-p,by omega,?_⟩
  rw[<- ea,<- tN,show p+(q-p)=q by omega];exact eb
theorem aV9:i9 8:=xZ (by decide) (by decide)
theorem aW0:i9 32:=xZ (by decide +kernel) (by decide +kernel)
theorem aW1:i9 128:=xZ (by decide +kernel) (by decide +kernel)
theorem aW2 (h:Int):SetTable.bits h<2^64:=by
 unfold SetTable.bits
 have:=bt7 h (show (0:Int)<2^64 by decide)
 have:=br5 h (show (2^64:Int)≠0 by decide)
 omega
theorem ab5 {m:Nat}(c:i9 (m+1)){j:Nat}(hj:j<=m)(h:Int):∃b,b<SetTable.turns m/\(lp m b (SetTable.bits h%(m+1),SetTable.bits h)).1=j:=by
 have hx:SetTable.bits h%(m+1)<=m:=by
  have:=Nat.mod_lt (SetTable.bits h) (show m+1>0 by omega)
  omega
 have e2:(lp m 13 (SetTable.bits h%(m+1),SetTable.bits h)).2=0:=by
  rw[ab1];exact Nat.div_eq_of_lt (Nat.lt_trans (aW2 h) (by decide))
 have e1:=xX m 13 (SetTable.bits h%(m+1),SetTable.bits h) hx
 obtain⟨n,hn,e⟩:=c _ (Nat.lt_succ_of_le e1) j (Nat.lt_succ_of_le hj)
 refine⟨13+n,by unfold SetTable.turns;omega,?_⟩;rw[ab2,show lp m 13 (SetTable.bits h%(m+1),SetTable.bits h)=((lp m 13 (SetTable.bits h%(m+1),SetTable.bits h)).1,0) from bu8 rfl e2,ab3];exact e
theorem ab6 {P:Nat->Prop}:∀{F:Nat},(∃n,n<F/\P n)->∃n,n<F/\P n/\∀k,k<n->¬P k
 |0,⟨n,h,_⟩=>absurd h (bp8 _)
 |F+1,⟨n,h,p⟩=>by
  by_cases q:∃n,n<F/\P n
  ·obtain⟨n,h,p,l⟩:=ab6 q
   exact⟨n,by omega,p,l⟩
  ·exact⟨n,h,p,λk hk pk=>q ⟨k,by omega,pk⟩⟩
theorem ab7 {L:List Nat}{m:Nat}(nd:L.length<=m):∃j,j<=m/\j∉L:=by
 refine bq3 λq=>?_
 have s:∀j∈List.range (m+1),j∈L:=λj hj=>bq3 λz=>q ⟨j,by have:=bj8.mp hj;omega,z⟩
 have:=List.nodup_range.length_le_of_subset s
 rw[bl8]at this;omega
theorem ends {m:Nat}(c:i9 (m+1)){L:List Nat}(hl:L.length<=m)(h:Int):∃E,E<10*SetTable.turns m/\(aS m E (bI m h)).j∉L/\∀k,k<E->(aS m k (bI m h)).j∈L:=by
 obtain⟨j,hj,hn⟩:=ab7 hl
 obtain⟨b,hb,e⟩:=ab5 c hj h
 obtain⟨N,hN,e2⟩:=ab0 m b (SetTable.bits h%(m+1),SetTable.bits h)
 obtain⟨E,hE,p,l⟩:=ab6 (P:=λn=>(aS m n (bI m h)).j∉L) (F:=10*SetTable.turns m) ⟨N,by omega,by
  rw[aV8,e2];show (lp m b _).1∉L
  rw[e];exact hn⟩
 exact⟨E,hE,p,λk hk=>Classical.not_not.mp (l k hk)⟩
def e9 (m:Nat)(L:List Nat)(j:Nat)(h:Int):Prop:=∃n,(aS m n (bI m h)).j=j/\∀k,k<n->(aS m k (bI m h)).j∈L
theorem e9.mono {m:Nat}{L L':List Nat}{j:Nat}{h:Int}(r:e9 m L j h)(s:∀x∈L,x∈L'):e9 m L' j h:=
 let ⟨n,e,a⟩:=r;⟨n,e,λk hk=>s _ (a k hk)⟩
structure TT (t:SetTable)(hs:ae):Prop where
 asc:t.place.toList.Pairwise (·<·)
 dm:t.dummies = #[]
 len:t.place.size=hs.length
 le:∀j∈t.place.toList,j<=t.mask
 cyc:i9 (t.mask+1)
 odd:t.gaveWay=false
 room:hs.length<=t.mask
 rch:∀x∈t.place.toList.zip hs,e9 t.mask t.place.toList x.1 x.2
theorem TT.fresh (f n:Nat)(l:Bool):TT (SetTable.fresh f n l) []:=⟨bs2,rfl,rfl,λ_ h=>(bh7 h).elim,aV9,show (7%2==0)=false from rfl,bk7 _,λ_ h=>(bh7 h).elim⟩
theorem TT.fits {t:SetTable}{hs:ae}(T:TT t hs):t.fits hs.length=true:=by
 have:t.fill=hs.length:=by unfold SetTable.fill;rw[T.dm,T.len];rfl
 unfold SetTable.fits;rw[this,T.len];simpa using T.room
theorem TT.ends {t:SetTable}{hs:ae}(T:TT t hs)(h:Int):∃E,E<10*SetTable.turns t.mask/\(aS t.mask E (bI t.mask h)).j∉t.place.toList/\∀k,k<E->(aS t.mask k (bI t.mask h)).j∈t.place.toList:=
 Raw.ends T.cyc (by rw[bh3,T.len];exact T.room) h
theorem e9.before {m:Nat}{L:List Nat}{j E:Nat}{h:Int}(r:e9 m L j h)(hj:j∈L)(he:(aS m E (bI m h)).j∉L):∃k,k<E/\(aS m k (bI m h)).j=j:=by
 obtain⟨n,e,a⟩:=r
 refine⟨n,bq3 λq=>?_,e⟩;rcases bj0 E n with z|z
 ·exact he (a E z)
 ·exact he (by rw[show E=n by omega,e];exact hj)
theorem aW3 {L:List Nat}{hs:ae}(e:L.length=hs.length)(p j:Nat)(h:Int):(L.take p++j::L.drop p).zip (hs.take p++h::hs.drop p)=(L.zip hs).take p++(j,h)::(L.zip hs).drop p:=by
 rw[List.zip_append (by rw[bp9,bp9,e]),bt2];congr 1
 ·unfold List.zip;rw[List.take_zipWith]
 ·congr 1
  unfold List.zip;rw[List.drop_zipWith]
theorem TT.put {t:SetTable}{hs:ae}(T:TT t hs){h:Int}{E:Nat}(he:(aS t.mask E (bI t.mask h)).j∉t.place.toList)(hl:∀k,k<E->(aS t.mask k (bI t.mask h)).j∈t.place.toList)(rm:hs.length+1<=t.mask)(jm:(aS t.mask E (bI t.mask h)).j<=t.mask) :
  TT (t.put (aS t.mask E (bI t.mask h)).j).1 (hs.take (SetTable.below t.place (aS t.mask E (bI t.mask h)).j)++h::hs.drop (SetTable.below t.place (aS t.mask E (bI t.mask h)).j)):=by
 obtain⟨j,hj⟩:∃j,(aS t.mask E (bI t.mask h)).j=j:=⟨_,rfl⟩
 rw[hj]at he jm ⊢
 obtain⟨p,hp⟩:∃p,SetTable.below t.place j=p:=⟨_,rfl⟩
 have ne:t.place[SetTable.below t.place j]?≠some j:=λq=>he (br6 (i:=SetTable.below t.place j) (by rw[bi4];exact q))
 have pl:((t.put j).1.place).toList=t.place.toList.take p++j::t.place.toList.drop p:=by
  show (SetTable.insertAt t.place (SetTable.below t.place j) j).toList=_;rw[xF,hp]
 have mem:∀x,x∈(t.put j).1.place.toList↔x=j∨x∈t.place.toList:=λx=>by
  rw[pl,bj1,bg6]
  conv=>rhs;rw[<- bk3 p t.place.toList,bj1]
  constructor
  ·rintro (q|q|q)
   ·exact .inr (.inl q)
   ·exact .inl q
   ·exact .inr (.inr q)
  ·rintro (q|q|q)
   ·exact .inr (.inl q)
   ·exact .inl q
   ·exact .inr (.inr q)
 have e1:t.place.toList.length=hs.length:=by rw[bh3,T.len]
 rw[hp];refine⟨aN3 T.asc ne,?_,?_,?_,T.cyc,T.odd,?_,?_⟩
 ·show (if SetTable.has t.dummies j then SetTable.eraseAt t.dummies (SetTable.below t.dummies j) else t.dummies) = #[]
  rw[T.dm,T9];rfl
 ·rw[<- bh3,pl]
  simp only[bh1,bj5,bp9,br7];omega
 ·intro x hx
  rcases (mem x).mp hx with q|q
  ·rw[q];exact jm
  ·exact T.le x q
 ·show _<=t.mask
  simp only[bh1,bj5,bp9,br7];omega
 ·intro x hx
  have sub:∀y∈t.place.toList,y∈(t.put j).1.place.toList:=λy hy=>(mem y).mpr (.inr hy)
  rw[pl,aW3 e1]at hx;rcases bj1.mp hx with q|q
  ·exact (T.rch x (bw2 q)).mono sub
  ·rcases bg6.mp q with q|q
   ·rw[q];exact⟨E,hj,λk hk=>sub _ (hl k hk)⟩
   ·exact (T.rch x (List.mem_of_mem_drop q)).mono sub
def eY (ow:Array (Option Nat)):List Nat:=(List.range ow.size).filter λj=>(ow[j]?.getD none).isSome
theorem kD {ow:Array (Option Nat)}{j:Nat}:j∈eY ow↔∃i,ow[j]? = some (some i):=by
 unfold eY;rw[bk1,bj8];constructor
 ·rintro⟨h,e⟩
  rw[bj2 h]at e ⊢;cases hx:ow[j] with
  |none=>rw[hx]at e;cases e
  |some i=>exact⟨i,rfl⟩
 ·rintro⟨i,e⟩
  refine⟨?_,by rw[e];rfl⟩;rcases bj0 j ow.size with z|z
  ·exact z
  ·rw[bs4 z]at e;cases e
theorem ab8 {m:Nat}{ow:Array (Option Nat)}(sz:ow.size=m+1):∀(fuel:Nat) (x:Nat×Nat),x.1<=m->(∃b,b<fuel/\(lp m b x).1∉eY ow)->
  ∃E,SetTable.layClean.free m ow fuel x.1 x.2=some (aS m E (hG m x)).j/\(aS m E (hG m x)).j∉eY ow/\(aS m E (hG m x)).j<=m/\∀k,k<E->(aS m k (hG m x)).j∈eY ow
 |0,_,_,⟨_,h,_⟩=>absurd h (bp8 _)
 |fuel+1,x,hx,⟨b,hb,hf⟩=>by
  have bl:=xV hx;have non:∀k,k<=cT m x.1->((ow.getD (x.1+k) (some 0)).isNone=true↔x.1+k∉eY ow):=λk hk=>by
   rw[kD,bl7,bj2 (show x.1+k<ow.size by omega)];cases ow[x.1+k] with
   |none=>simp
   |some i=>simp
  have ln:SetTable.runEnd m x.1+1-x.1=cT m x.1+1:=by
   unfold cT SetTable.runEnd;split<;>omega
  unfold SetTable.layClean.free;rw[ln];cases hfi:(List.range (cT m x.1+1)).find? λk=>(ow.getD (x.1+k) (some 0)).isNone with
  |some k=>
   obtain⟨h1,k1,k2,h2,h3⟩:=List.find?_eq_some_iff_getElem.mp hfi
   rw[List.getElem_range]at h2;rw[bl8]at k2;have hk:k<=cT m x.1:=by omega
   refine⟨k,?_,?_,?_,λl hl=>?_⟩
   ·rw[lP m x k hk]
   ·rw[lP m x k hk];exact (non k hk).mp h1
   ·rw[lP m x k hk];show x.1+k<=m;omega
   ·rw[lP m x l (by omega)]
    have:=h3 l (by omega)
    rw[List.getElem_range]at this;exact bq3 λq=>by rw[(non l (by omega)).mpr q]at this;cases this
  |none=>
   have all:∀k,k<=cT m x.1->x.1+k∈eY ow:=λk hk=>bq3 λq=>by
    have:=List.find?_eq_none.mp hfi k (bj8.mpr (by omega))
    exact this ((non k hk).mpr q)
   cases b with
   |zero=>exact absurd (all 0 (bk7 _)) hf
   |succ b=>
    obtain⟨E,e1,e2,e3,e4⟩:=ab8 sz fuel (SetTable.leap m x.1 x.2) (xX m 1 x hx) ⟨b,by omega,hf⟩
    have st:aS m (cT m x.1+1+E) (hG m x)=aS m E (hG m (SetTable.leap m x.1 x.2)):=by rw[pM,xW]
    refine⟨cT m x.1+1+E,by rw[st];exact e1,by rw[st];exact e2,by rw[st];exact e3,λk hk=>?_⟩;rcases bj0 k (cT m x.1+1) with z|z
    ·rw[lP m x k (by omega)];exact all k (by omega)
    ·rw[show k=cT m x.1+1+(k-(cT m x.1+1)) by omega,pM,xW]
     exact e4 _ (by omega)
structure iN (m:Nat)(hs:ae)(ow:Array (Option Nat)):Prop where
 sz:ow.size=m+1
 has:∀(i:Nat) (h:Int),hs[i]? = some h->∃j,ow[j]? = some (some i)/\e9 m (eY ow) j h
 back:∀(j i:Nat),ow[j]? = some (some i)->i<hs.length
 inj:∀(j j' i:Nat),ow[j]? = some (some i)->ow[j']? = some (some i)->j=j'
theorem iN.few {m:Nat}{hs:ae}{ow:Array (Option Nat)}(O:iN m hs ow):(eY ow).length<=hs.length:=by
 have nd:((eY ow).map λj=>((ow[j]?.getD none).getD 0)).Nodup:=by
  have l:(eY ow).Nodup:=List.nodup_range.filter _;unfold List.Nodup at l ⊢;refine bk6.mpr (l.imp_of_mem ?_);intro a b ha hb ne e
  obtain⟨i,ea⟩:=kD.mp ha
  obtain⟨i',eb⟩:=kD.mp hb
  rw[ea,eb]at e;have e:i=i':=e;exact ne (O.inj a b i ea (by rw[e];exact eb))
 have:=nd.length_le_of_subset (l₂:=List.range hs.length) λy hy=>by
  obtain⟨j,hj,e⟩:=bh9.mp hy
  obtain⟨i,ea⟩:=kD.mp hj
  rw[ea]at e;rw[<- e];exact bj8.mpr (O.back j i ea)
 rw[bf6,bl8]at this;exact this
theorem iN.put {m:Nat}{hs:ae}{ow:Array (Option Nat)}(O:iN m hs ow){h:Int}{E:Nat}(hn:(aS m E (bI m h)).j∉eY ow)(hm:(aS m E (bI m h)).j<=m)(hl:∀k,k<E->(aS m k (bI m h)).j∈eY ow):iN m (hs++[h]) (ow.setIfInBounds (aS m E (bI m h)).j (some hs.length)):=by
 obtain⟨p,hp⟩:∃p,(aS m E (bI m h)).j=p:=⟨_,rfl⟩
 rw[hp]at hn hm ⊢;have hz:p<ow.size:=by rw[O.sz];omega
 have at_:∀j,(ow.setIfInBounds p (some hs.length))[j]? = if p=j then some (some hs.length) else ow[j]?:=λj=>by
  rw[Array.getElem?_setIfInBounds];split
  ·rfl
  ·rfl
 have sub:∀y∈eY ow,y∈eY (ow.setIfInBounds p (some hs.length)):=λy hy=>by
  obtain⟨i,e⟩:=kD.mp hy
  refine kD.mpr ⟨i,?_⟩;rw[at_,if_neg (λq=>hn (by rw[q];exact hy))];exact e
 refine⟨by rw[Array.size_setIfInBounds];exact O.sz,λi k hk=>?_,λj i e=>?_,λj j' i e e'=>?_⟩
 ·rcases bj0 i hs.length with z|z
  ·rw[bq2 z]at hk
   obtain⟨j,e,r⟩:=O.has i k hk
   refine⟨j,?_,r.mono sub⟩;rw[at_,if_neg (λq=>hn (by rw[q];exact kD.mpr ⟨i,e⟩))];exact e
  ·rw[bs0 z]at hk
   have hi:i=hs.length:=by
    rcases bj0 hs.length i with q|q
    ·rw[List.getElem?_eq_none (by simp;omega)]at hk;cases hk
    ·omega
   subst hi;rw[Nat.sub_self]at hk;cases hk
   exact⟨p,by rw[at_,if_pos rfl],E,hp,λk hk=>sub _ (hl k hk)⟩
 ·rw[at_]at e
  rw[bh1,bl0];split at e
  ·cases e;omega
  ·have:=O.back j i e;omega
 ·rw[at_]at e e'
  split at e<;>split at e'
  ·omega
  ·cases e;exact absurd (O.back j' _ e') (bl1 _)
  ·cases e';exact absurd (O.back j _ e) (bl1 _)
  ·exact O.inj j j' i e e'
def pN (m:Nat)(acc:Option (Array (Option Nat)×Nat))(h:Int):Option (Array (Option Nat)×Nat):=do
 let (owner,k) <- acc
 let j <- SetTable.layClean.free m owner (SetTable.turns m) (SetTable.bits h%(m+1)) (SetTable.bits h)
 pure (owner.setIfInBounds j (some k),k+1)
theorem ab9 {m:Nat}(c:i9 (m+1)):∀(b8 done:ae) (ow:Array (Option Nat)),iN m done ow->(done++b8).length<=m->
  ∃ow',b8.foldl (pN m) (some (ow,done.length))=some (ow',(done++b8).length)/\iN m (done++b8) ow'
 |[],done,ow,O,_=>by rw[bj9];exact⟨ow,rfl,O⟩
 |h::b8,done,ow,O,hm=>by
  have hm':done.length+(b8.length+1)<=m:=by rw[bh1,bj5]at hm;exact hm
  have fw:=O.few
  obtain⟨j,hj,hn⟩:=ab7 (L:=eY ow) (m:=m) (by omega)
  obtain⟨b,hb,e⟩:=ab5 c hj h
  have hx:SetTable.bits h%(m+1)<=m:=by
   have:=Nat.mod_lt (SetTable.bits h) (show m+1>0 by omega)
   omega
  obtain⟨E,e1,e2,e3,e4⟩:=ab8 O.sz (SetTable.turns m) (SetTable.bits h%(m+1),SetTable.bits h) hx ⟨b,hb,by rw[e];exact hn⟩
  have st:pN m (some (ow,done.length)) h=some (ow.setIfInBounds (aS m E (bI m h)).j (some done.length),(done++[h]).length):=by
   unfold pN;show (SetTable.layClean.free m ow (SetTable.turns m) (SetTable.bits h%(m+1)) (SetTable.bits h) >>= _)=_;rw[e1,bh1];rfl
  obtain⟨ow',f,O'⟩:=ab9 c b8 (done++[h]) _ (O.put e2 e3 e4) (by rw[bh6];exact hm)
  refine⟨ow',?_,by rw[bh6]at O';exact O'⟩;rw[List.foldl_cons,st,f,bh6];rfl
theorem aW4 {m:Nat}(c:i9 (m+1)){hs:ae}(hm:hs.length<=m):∃ow,SetTable.layClean m hs.toArray=some ow/\iN m hs ow:=by
 have O:iN m [] (Array.replicate (m+1) none):=by
  have no:∀j i,¬(Array.replicate (m+1) (none:Option Nat))[j]? = some (some i):=λj i e=>by
   rw[Array.getElem?_replicate]at e;split at e<;>cases e
  exact⟨Array.size_replicate,λi h e=>(by cases e),λj i e=>(no j i e).elim,λj j' i e _=>(no j i e).elim⟩
 obtain⟨ow,f,O'⟩:=ab9 c hs [] _ O hm
 refine⟨ow,?_,O'⟩;show ((Array.foldl (pN m) (some (Array.replicate (m+1) none,0)) hs.toArray).map (·.1))=_;rw[<- Array.foldl_toList];show ((hs.foldl (pN m) (some (Array.replicate (m+1) none,0))).map (·.1))=_;rw[show (0:Nat)=([]:ae).length from rfl,f];rfl
theorem aW5 {m:Nat}(c:i9 (m+1))(od:(m%2==0)=false){hs:ae}(hm:hs.length<=m)(fg mv:Nat)(ld pn:Bool):∃t order,SetTable.laid m fg mv ld pn hs.toArray=some (t,order)/\order.toList.Perm (List.range hs.length)/\TT t (order.toList.map (hs.getD · 0))/\t.led=ld/\t.plain=pn/\t.mask=m/\t.moves=mv:=by
 obtain⟨ow,e,O⟩:=aW4 c hm
 obtain⟨lv,hlv⟩:∃lv,(List.range (m+1)).filterMap (λj=>(ow.getD j none).map (λi=>(j,i)))=lv:=⟨_,rfl⟩
 have mem:∀x:Nat×Nat,x∈lv↔ow[x.1]? = some (some x.2):=λx=>by
  rw[<- hlv,bt1];constructor
  ·rintro⟨j,hj,q⟩
   rw[bl7,bj2 (by rw[O.sz];exact bj8.mp hj)]at q;have hz:j<ow.size:=by rw[O.sz];exact bj8.mp hj
   cases ho:ow[j] with
   |none=>rw[bt4,ho]at q;cases q
   |some i=>
    rw[bt4,ho]at q;cases q;rw[bj2 hz,ho]
  ·intro q
   refine⟨x.1,bj8.mpr ?_,?_⟩
   ·rcases bj0 x.1 ow.size with z|z
    ·rw[<- O.sz];exact z
    ·rw[bs4 z]at q;cases q
   ·rw[bl7,q];rfl
 have asc:(lv.map (·.1)).Pairwise (·<·):=by
  rw[<- hlv];refine bk6.mpr (List.Pairwise.filterMap _ (R:=(·<·)) ?_ List.pairwise_lt_range);intro i i' hlt x hx y hy;cases ho:ow.getD i none with
  |none=>rw[ho]at hx;cases hx
  |some v=>
   rw[ho]at hx;cases ho2:ow.getD i' none with
   |none=>rw[ho2]at hy;cases hy
   |some v2=>
    rw[ho2]at hy;cases hx;cases hy;exact hlt
 have nd:(lv.map (·.2)).Nodup:=by
  unfold List.Nodup;have a2:=bk6.mp asc;refine bk6.mpr (a2.imp_of_mem ?_);intro a b ha hb lt q
  have:=O.inj a.1 b.1 a.2 ((mem a).mp ha) (by rw[q];exact (mem b).mp hb)
  omega
 have pm:(lv.map (·.2)).Perm (List.range hs.length):=by
  refine (List.perm_ext_iff_of_nodup nd List.nodup_range).mpr λi=>?_
  rw[bj8,bh9];constructor
  ·rintro⟨x,hx,q⟩
   rw[<- q];exact O.back x.1 x.2 ((mem x).mp hx)
  ·intro hi
   obtain⟨j,q,_⟩:=O.has i hs[i] (bf4 hi)
   exact⟨(j,i),(mem (j,i)).mpr q,rfl⟩
 have ln:lv.length=hs.length:=by
  have:=pm.length_eq
  rw[bf6,bl8]at this;exact this
 refine⟨{ mask:=m,place:=(lv.map (·.1)).toArray,dummies:=#[],finger:=fg,led:=ld,moves:=mv,plain:=pn },(lv.map (·.2)).toArray,?_,?_,?_,rfl,rfl,rfl,rfl⟩
 ·unfold SetTable.laid
  rw[e];show some (SetTable.mk _ _ _ _ _ _ _,_)=_;rw[hlv]
 ·show (lv.map (·.2)).Perm _
  exact pm
 ·refine⟨asc,rfl,?_,?_,c,od,?_,?_⟩
  ·show (lv.map (·.1)).toArray.size=_
   rw[bf8,bf6,bf6];show _=(lv.map (·.2)).length;rw[bf6]
  ·intro j hj
   obtain⟨x,hx,q⟩:=bh9.mp hj
   rw[<- hlv]at hx
   obtain⟨y,hy,q2⟩:=bt1.mp hx
   cases ho:ow.getD y none with
   |none=>rw[ho]at q2;cases q2
   |some v=>
    rw[ho]at q2;cases q2
    have:=bj8.mp hy
    rw[<- q];show y<=m;omega
  ·rw[bf6]
   show (lv.map (·.2)).length<=m;rw[bf6,ln];exact hm
  ·intro x hx
   have hx:x∈(lv.map (·.1)).zip ((lv.map (·.2)).map (hs.getD · 0)):=hx;rw[br4,List.zip_map']at hx
   obtain⟨y,hy,q⟩:=bh9.mp hx
   have yo:=(mem y).mp hy;have yl:=O.back y.1 y.2 yo
   obtain⟨j,q2,r⟩:=O.has y.2 hs[y.2] (bf4 yl)
   have:=O.inj j y.1 y.2 q2 yo
   rw[this]at r;rw[<- q];show e9 m (lv.map (·.1)) y.1 (hs.getD y.2 0);rw[bg5,bf4 yl];refine r.mono λz hz=>?_
   obtain⟨i,q3⟩:=kD.mp hz
   exact bh9.mpr ⟨(z,i),(mem (z,i)).mpr q3,rfl⟩
end Raw
namespace Raw
open PySem PySem.W PySem.Calls PyProof.Rows
section
variable {prog:az}{w:bc}{A:ba}{E:av→ax→Prop}{s:ax}
abbrev cN (prog:az)(w:bc)(h:Heap)(k:ae)(a:ay):Prop:=IsTupleKey (intKind prog w) h k a
abbrev bS (prog:az)(w:bc)(k:ae):Int:=tupleKeyHash (intKind prog w) k
theorem ac0 {k:ae}{vs:List av}(h:ItemsAre (intKind prog w) k vs):∀v∈vs,∃n t,v = .int n t:=by
 induction h with
 |nil=>intro v hv;cases hv
 |cons h1 _ ih=>
  intro v hv;rcases bg6.mp hv with e|hv
  ·rw[e]
   obtain⟨u,e⟩:=Value.isInt_shape h1
   exact⟨_,u,e⟩
  ·exact ih v hv
theorem aW6 (n:Nat)(k:Int)(t:Tok):ofAClassStatement n (.int k t)=pure false:=by
 cases n<;>rfl
theorem ac1 {k:ae}{a:ay}{Q:Bool->ax->Prop}(hk:cN prog w s.heap k a)(h:Q false s):wpAny (model prog w) A (ofAClassStatement 8 (.ref a)) Q E s:=by
 have hT:=hk.typeIs
 obtain⟨o,items,n,ho,_,hd,hi⟩:=hk
 unfold ofAClassStatement;refine bf1 (wpAny_typeOf hT ?_);dsimp only;rw[if_pos (by rfl)];refine bf1 (bf5 ?_);simp only[Bool.not_true,bh2,bl6];refine bf1 (bs5 ho hd ?_);dsimp only;refine bf1 ?_;rw[<- Array.forIn_toList];refine wpAny_forIn_list _ (λb8 r s'=>r.1=none/\s'=s/\∀v∈b8,∃n t,v = .int n t) _ ?_ ?_ _ _ ⟨rfl,rfl,ac0 hi⟩
 ·rintro v b8 r s' ⟨hr,rfl,hall⟩
  obtain⟨n,t,rfl⟩:=hall v bg1
  rw[aW6];refine bf1 (bf5 ?_);simp only[bh2,bl6];exact bf5 ⟨rfl,rfl,λu hu'=>hall u (bf9 _ hu')⟩
 ·rintro⟨r1,r2⟩ s' ⟨hr,rfl,_⟩
  simp only at hr;subst hr;exact bf5 h
theorem aW7 {k:ae}{x:ay}{Q:Bool->ax->Prop}(hk:cN prog w s.heap k x)(l:List av)(hl:∀v∈l,∃k y,v = .ref y/\cN prog w s.heap k y)(h:Q false s):wpAny (model prog w) A (searchCouldBeSeen (.ref x) l) Q E s:=by
 unfold searchCouldBeSeen;refine bf1 ?_;refine wpAny_forIn_list _ (λb8 r s'=>r.1=none/\s'=s/\∀v∈b8,∃k y,v = .ref y/\cN prog w s.heap k y) _ ?_ ?_ _ _ ⟨rfl,rfl,hl⟩
 ·rintro v b8 r s' ⟨hr,rfl,hall⟩
  obtain⟨k',y,rfl,hy⟩:=hall v bg1
  have tl:=λu hu'=>hall u (bf9 _ hu')
  dsimp only;split
  ·exact bf5 ⟨rfl,rfl,tl⟩
  ·refine bf1 (wpAny_eqIsQuiet_tuple hk ?_)
   simp only[Bool.not_true,bh2,bl6];refine bf1 (wpAny_eqIsQuiet_tuple hy ?_);simp only[Bool.not_true,bh2,bl6];refine bf1 (ac1 hk ?_);simp only[bh2,bl6];refine bf1 (ac1 hy ?_);simp only[bh2,bl6];exact bf5 ⟨rfl,rfl,tl⟩
 ·rintro⟨r1,r2⟩ s' ⟨hr,rfl,_⟩
  simp only at hr;subst hr;exact bf5 h
theorem ac2 (m:Nat):∀(n:Nat) (p:fY),(aS m n p).dummy=p.dummy
 |0,_=>rfl
 |n+1,p=>(ac2 m n _).trans (aa7 m p)
abbrev iA (prog:az)(w:bc)(x:ae×ay):Int×av:=(bS prog w x.1,.ref x.2)
structure iO (prog:az)(w:bc)(h:Heap)(es:Array (Int×av))(t:SetTable)(L:List (ae×ay)):Prop where
 es:es.toList=L.map (iA prog w)
 is:∀x∈L,cN prog w h x.1 x.2
 tt:TT t (L.map λx=>bS prog w x.1)
theorem iO.fits {h:Heap}{es:Array (Int×av)}{t:SetTable}{L:List (ae×ay)}(e:iO prog w h es t L):t.fits es.size=true:=by
 have:=e.tt.fits
 rw[bf6]at this;rw[<- bh3,e.es,bf6];exact this
theorem iO.at_ {h:Heap}{es:Array (Int×av)}{t:SetTable}{L:List (ae×ay)}(e:iO prog w h es t L){i j:Nat}(hi:t.slot j = .live i):∃x,L[i]? = some x/\es[i]? = some (iA prog w x)/\x∈L:=by
 have h1:=aV5 hi;have h2:i<t.place.toList.length:=by
  rcases bj0 i t.place.toList.length with z|z
  ·exact z
  ·rw[List.getElem?_eq_none z]at h1;cases h1
 have h3:i<L.length:=by
  have:=e.tt.len
  rw[bf6]at this;rw[bh3,this]at h2;exact h2
 refine⟨L[i],bf4 h3,?_,bm1 h3⟩;rw[<- bi4,e.es,bh5,bf4 h3];rfl
def pO (es:Array (Int×av))(i:Nat):Int:=(es[i]?.map (·.1)).getD 0
theorem ac3 {a x:ay}{k:ae}{L:List (ae×ay)}{es:Array (Int×av)}{ep:Nat}{t:SetTable}{Q:SetFound->ax->Prop}(ho:s.heap.get? a=some (cC es ep t))(e:iO prog w s.heap es t L)(hx:cN prog w s.heap k x)(hu:A.units<cLine){F:Nat}(hF:(aS t.mask F (bI t.mask (bS prog w k))).j∉t.place.toList)(hl:∀l,l<F->(aS t.mask l (bI t.mask (bS prog w k))).j∈t.place.toList)(f10:F<10*SetTable.turns t.mask)(there:k∈L.map (·.1)->Q (.there none) s)(free:k∉L.map (·.1)->Q (.free (aS t.mask F (bI t.mask (bS prog w k))).j false) s) :
  ∀(fuel n:Nat) (stand:Option fY),n<=F->F-n<fuel->stand.getD (t.probeStart (bS prog w k))=aS t.mask n (bI t.mask (bS prog w k))->
   (∀l,l<n->∀i y,t.slot (aS t.mask l (bI t.mask (bS prog w k))).j = .live i->L[i]? = some y->y.1≠k)->
   wpAny (model prog w) A (setSearchFrom a (.ref x) (bS prog w k) true fuel stand) Q E s
 |0,_,_,_,h,_,_=>absurd h (bp8 _)
 |fuel+1,n,stand,hn,hf,hs,past=>by
  unfold setSearchFrom;refine bf1 (bp3 ho rfl e.fits ?_);dsimp only;rw[if_neg (by rw[e.tt.odd];exact bi1),hs];have sh:∀l,aS t.mask l (aS t.mask n (bI t.mask (bS prog w k)))=aS t.mask (n+l) (bI t.mask (bS prog w k)):=λl=>(pM _ _ _ _).symm
  have hF':(aS t.mask (F-n) (aS t.mask n (bI t.mask (bS prog w k)))).j∉t.place.toList:=by rw[sh,show n+(F-n)=F by omega];exact hF
  have hsh:∀i y,L[i]? = some y->pO es i=bS prog w y.1:=λi y hy=>by
   unfold pO;rw[<- bi4,e.es,bh5,hy];rfl
  rcases aa9 e.tt.asc e.tt.dm (H:=pO es) (h:=bS prog w k) (F-n) (10*SetTable.turns t.mask) (aS t.mask n (bI t.mask (bS prog w k))) (by rw[ac2];rfl) (by omega) hF' (λl hl2=>by rw[sh];exact hl _ (by omega)) with⟨q,g⟩|⟨k',hk',i,s',e',q,g⟩
  ·erw [show t.probe (pO es) (bS prog w k) (aS t.mask n (bI t.mask (bS prog w k)))=_ from g]
   dsimp only;refine bf5 ?_;rw[sh,show n+(F-n)=F by omega];refine free λkm=>?_
   obtain⟨y,hy,ey⟩:=bh9.mp km
   obtain⟨i,hi,eg⟩:=bm0 hy
   have ty:=e.tt.len;rw[bf6]at ty;have hi':i<t.place.toList.length:=by rw[bh3,ty];exact hi
   obtain⟨l,hlF,el⟩:=(e.tt.rch (t.place.toList[i],bS prog w k) (List.mem_iff_getElem?.mpr ⟨i,by
    rw[List.getElem?_zip_eq_some];refine⟨bf4 hi',?_⟩;rw[bh5,bf4 hi,eg,<- ey]
    rfl⟩)).before (bm1 hi') hF
   obtain⟨i',s2,p2⟩:=aa8 e.tt.asc (hl l hlF)
   have ii:i'=i:=by
    rw[el]at p2;have nd:t.place.toList.Nodup:=e.tt.asc.imp λh=>bi7 h
    exact (List.getElem?_inj (by
     rcases bj0 i' t.place.toList.length with z|z
     ·exact z
     ·rw[List.getElem?_eq_none z]at p2;cases p2) nd).mp (p2.trans (bf4 hi').symm)
   rw[ii]at s2;have hyi:L[i]? = some y:=by rw[bf4 hi,eg]
   rcases bj0 l n with z|z
   ·exact past l z i y s2 hyi ey
   ·refine q (l-n) (by omega) i (by rw[sh,show n+(l-n)=l by omega];exact s2) ?_
    rw[hsh i y hyi,ey]
  ·erw [show t.probe (pO es) (bS prog w k) (aS t.mask n (bI t.mask (bS prog w k)))=_ from g]
   dsimp only
   obtain⟨y,hy,ey,ym⟩:=e.at_ s'
   have b8:wpAny (model prog w) A (do
     let some (_,y):=es[i]? | unsupported "internal:set-entry"
     let equal <- holding [y] (eqBool y (.ref x))
     let (es',_,t') <- setState a
     if true&&equal then return SetFound.there none
     let some same:=t'.sameMemory t.moves t.mask|unsupported "set.changed-during-lookup:is-the-new-block-at-the-old-address"
     let still <- match (if same then t'.slot (aS t.mask k' (aS t.mask n (bI t.mask (bS prog w k)))).j else .empty) with
      |.live i'=>match es'[i']? with
       |some (_,y')=>do pure (if <- isSame y' y then some i' else none)
       |none=>pure none
      |_=>pure none
     match still with
     |none=>rule "set.search.anew";setSearchFrom a (.ref x) (bS prog w k) true fuel none
     |some i'=>if equal then return .there (some i') else setSearchFrom a (.ref x) (bS prog w k) true fuel (some (aS t.mask (k'+1) (aS t.mask n (bI t.mask (bS prog w k)))))) Q E s:=by
    rw[ey];dsimp only;refine bf1 (bn5 (wpAny_eqBool_tuple hu (e.is y ym) hx ?_));refine bf1 (bp3 ho rfl e.fits ?_);dsimp only;by_cases eq:y.1=k
    ·rw[bg4 eq]
     exact bf5 (there (bh9.mpr ⟨y,ym,eq⟩))
    ·rw[bf7 eq]
     simp only[bo2,bh2,bl6];rw[show t.sameMemory t.moves t.mask=some true by unfold SetTable.sameMemory;rw[if_pos (bm7 _)]];dsimp only;rw[if_pos rfl,s'];dsimp only;rw[ey];dsimp only;refine bf1 (wpAny_isSame_ref_self ?_);rw[if_pos rfl];refine bf1 (bf5 ?_);dsimp only;refine ac3 ho e hx hu hF hl f10 there free fuel (n+k'+1) _ (by omega) (by omega) ?_ ?_
     ·rw[bt4,sh];rfl
     ·intro l hl2 i2 y2 h1 h2 h3
      rcases bj0 l n with z|z
      ·exact past l z i2 y2 h1 h2 h3
      ·rcases bj0 l (n+k') with z2|z2
       ·refine q (l-n) (by omega) i2 (by rw[sh,show n+(l-n)=l by omega];exact h1) ?_
        rw[hsh i2 y2 h2,h3]
       ·have:l=n+k':=by omega
        subst this;rw[sh,h1]at s';cases s';rw[hy]at h2;cases h2;exact eq h3
   split
   ·refine bf1 (aW7 hx _ ?_ ?_)
    ·intro v hv
     obtain⟨u,hu1,hu2⟩:=bh9.mp hv
     rw[Array.toList_filter]at hu1;have hu3:=(bk1.mp hu1).1;rw[e.es]at hu3
     obtain⟨z,hz,ez⟩:=bh9.mp hu3
     exact⟨z.1,z.2,by rw[<- hu2,<- ez],e.is z hz⟩
    ·simp only[bh2,bl6]
     exact b8
   ·exact b8
theorem aW8 {k:ae}{a:ay}{Q:Bool->ax->Prop}(hk:cN prog w s.heap k a)(h:Q true s):wpAny (model prog w) A (hashByValue 8 (.ref a)) Q E s:=by
 have hT:=hk.typeIs
 obtain⟨o,items,n,ho,_,hd,hi⟩:=hk
 unfold hashByValue;refine bf1 (wpAny_specialOf hT F.slot_tuple_hash.lookup ?_);dsimp only;refine bf1 (bs5 ho hd ?_);refine bf1 ?_;rw[bt4,<- Array.forIn_toList];refine wpAny_forIn_list _ (λb8 r s'=>r.1=none/\s'=s/\∀v∈b8,∃n t,v = .int n t) _ ?_ ?_ _ _ ⟨rfl,rfl,ac0 hi⟩
 ·rintro v b8 r s' ⟨hr,rfl,hall⟩
  obtain⟨n,t,rfl⟩:=hall v bg1
  rw[show hashByValue 7 (.int n t)=pure true by unfold hashByValue;rfl];refine bf1 (bf5 ?_);simp only[Bool.not_true,bh2,bl6];exact bf5 ⟨rfl,rfl,λu hu'=>hall u (bf9 _ hu')⟩
 ·rintro⟨r1,r2⟩ s' ⟨hr,rfl,_⟩
  simp only at hr;subst hr;exact bf5 h
theorem aW9 {m:Nat}{p:fY}(h:p.j+p.more<=m):(gL m p).j+(gL m p).more<=m:=by
 unfold gL SetTable.advance;split
 ·show p.j+1+(p.more-1)<=m
  omega
 ·show (p.i*5+1+p.perturb/32)%(m+1)+cT m ((p.i*5+1+p.perturb/32)%(m+1))<=m
  have:=Nat.mod_lt (p.i*5+1+p.perturb/32) (show m+1>0 by omega)
  exact xV (by omega)
theorem ac4 (m:Nat):∀(n:Nat) (p:fY),p.j+p.more<=m->(aS m n p).j<=m
 |0,p,h=>bl2 (bt6 _ _) h
 |n+1,p,h=>ac4 m n _ (aW9 h)
theorem aX0 (m:Nat)(h:Int):(bI m h).j+(bI m h).more<=m:=by
 show SetTable.bits h%(m+1)+cT m (SetTable.bits h%(m+1))<=m
 have:=Nat.mod_lt (SetTable.bits h) (show m+1>0 by omega)
 exact xV (by omega)
theorem y3 {α β:Type}{f g:α->Option β}:∀{l:List α},(∀x∈l,f x=g x)->l.filterMap f=l.filterMap g
 |[],_=>rfl
 |x::l,h=>by
  rw[List.filterMap_cons,List.filterMap_cons,h x bg1,y3 λy hy=>h y (bf9 _ hy)]
theorem ac5 {α:Type}(L:List α):∀n,(List.range n).filterMap (L[·]?)=L.take n
 |0=>rfl
 |n+1=>by
  rw[List.range_succ,List.filterMap_append,ac5 L n,List.take_succ];congr 1
theorem aX1 {α:Type}{L:List α}{o:List Nat}(p:o.Perm (List.range L.length)):(o.filterMap (L[·]?)).Perm L:=by
 have:=p.filterMap (L[·]?)
 rw[ac5,br9]at this;exact this
theorem aX2 {α:Type}{L:List α}{o:List Nat}(p:o.Perm (List.range L.length))(g:α->Int):o.map ((L.map g).getD · 0)=(o.filterMap (L[·]?)).map g:=by
 rw[List.map_filterMap,<- List.filterMap_eq_map];refine y3 λi hi=>?_
 have hl:i<L.length:=bj8.mp (p.mem_iff.mp hi);simp[bf4 hl]
theorem aX3 {L:List (ae×ay)}{es:Array (Int×av)}(e:es.toList=L.map (iA prog w))(o:Array Nat):(o.filterMap (es[·]?)).toList=(o.toList.filterMap (L[·]?)).map (iA prog w):=by
 rw[Array.toList_filterMap,List.map_filterMap];refine y3 λi hi=>?_
 rw[<- bi4,e,bh5]
def NF (m n:Nat):Prop:=(m=7/\n<=4)∨(m=31/\n<=18)∨(m=127/\n<=76)
structure hJ (prog:az)(w:bc)(h:Heap)(a:ay)(es:Array (Int×av))(ep:Nat)(t:SetTable)(L:List (ae×ay)):Prop where
 ho:h.get? a=some (cC es ep t)
 e:iO prog w h es t L
 led:t.led = !w.params.followText "set-order"
 nf:NF t.mask L.length
theorem cN.same {h h':Heap}{d:ay}{es:Array (Int×av)}{ep:Nat}{t:SetTable}(sb:Heap.SameBut d h h')(ho:h.get? d=some (cC es ep t)){k:ae}{a:ay}(x:cN prog w h k a):cN prog w h' k a:=by
 obtain⟨o',items,n,ho',hc,hd',hi⟩:=x
 have hne:a≠d:=by
  rintro rfl;obtain rfl:=bj4 (ho'.symm.trans ho);exact nomatch hd'
 exact⟨o',items,n,(sb.2 a hne).trans ho',hc,hd',hi⟩
theorem aX4 (L:List (ae×ay))(p:Nat)(x:ae×ay):(L.map (iA prog w)).take p++iA prog w x::(L.map (iA prog w)).drop p=(L.take p++x::L.drop p).map (iA prog w):=by
 rw[bi0,bi8,List.map_take,List.map_drop]
theorem aX5 {a x:ay}{k:ae}{L:List (ae×ay)}{es:Array (Int×av)}{ep:Nat}{t:SetTable}{Q:Bool->ax->Prop}(S:hJ prog w s.heap a es ep t L)(room:L.length+1<=76)(hu:A.units<cLine)(hx:cN prog w s.heap k x)(h:∀b h' es' ep' t' L',Heap.SameBut a s.heap h'->hJ prog w h' a es' ep' t' L'->(k∈L.map (·.1)->L'=L)->(k∉L.map (·.1)->L'.Perm (L++[(k,x)]))->Q b { s with heap:=h' }) :
  wpAny (model prog w) A (setAddHashed a (.ref x) (bS prog w k)) Q E s:=by
 obtain⟨ho,e,led,nf⟩:=S
 have m127:t.mask<=127:=by rcases nf with q|q|q<;>omega
 obtain⟨F,f10,hF,hl⟩:=e.tt.ends (bS prog w k)
 have F5:F<100000:=by unfold SetTable.turns at f10;omega
 unfold setAddHashed setAddHashedIn;refine bn5 (bf1 (bp3 ho rfl e.fits ?_));dsimp only;rw[if_neg (by unfold byScan;rw[show Value.scannable (.ref x)=false from rfl];simp)];unfold setSearch;refine bf1 (ac3 ho e hx hu hF hl f10 (λkm=>?_) (λkn=>?_) 100000 0 none (bk7 _) (by omega) rfl λl hl=>absurd hl (bp8 _))
 ·dsimp only
  have es':s={ s with heap:=s.heap }:=by cases s;rfl
  rw[es'];exact bf5 (h _ s.heap es ep t L (Heap.SameBut.refl a s.heap) ⟨ho,e,led,nf⟩ (λ_=>rfl) λn=>absurd km n)
 ·dsimp only
  refine bf1 (bp3 ho rfl e.fits ?_);dsimp only
  obtain⟨j,hj⟩:∃j,(aS t.mask F (bI t.mask (bS prog w k))).j=j:=⟨_,rfl⟩
  have jm:j<=t.mask:=by rw[<- hj];exact ac4 _ _ _ (aX0 _ _)
  have rm:(L.map λx=>bS prog w x.1).length+1<=t.mask:=by
   rw[bf6];rcases nf with q|q|q<;>omega
  have T1:=e.tt.put hF hl rm (by rw[hj];exact jm);rw[hj]at T1 ⊢
  obtain⟨t1,ht1⟩:∃t1,(t.put j).1=t1:=⟨_,rfl⟩
  obtain⟨p,hp⟩:∃p,SetTable.below t.place j=p:=⟨_,rfl⟩
  obtain⟨L1,hL1⟩:∃L1,L.take p++(k,x)::L.drop p=L1:=⟨_,rfl⟩
  have T1:TT t1 (L1.map λx=>bS prog w x.1):=by
   rw[ht1,hp]at T1;rw[<- hL1,bi0,bi8,List.map_take,List.map_drop];exact T1
  have p1:L1.Perm (L++[(k,x)]):=by
   rw[<- hL1];refine List.perm_middle.trans ?_;rw[bk3];exact (bt0 (l₁:=[(k,x)]) (l₂:=L))
  have n1:L1.length=L.length+1:=by rw[p1.length_eq,bh1,bl0]
  have m1:t1.mask=t.mask:=by rw[<- ht1];rfl
  have l1:t1.led=t.led:=by rw[<- ht1];rfl
  obtain⟨es1,he1⟩:∃es1,SetTable.insertAt es p (iA prog w (k,x))=es1:=⟨_,rfl⟩
  have ee1:es1.toList=L1.map (iA prog w):=by rw[<- he1,xF,e.es,aX4,hL1]
  have sz:es.size=L.length:=by rw[<- bh3,e.es,bf6]
  have sz1:es1.size=L.length+1:=by rw[<- bh3,ee1,bf6,n1]
  have is1:∀{h':Heap}{d:List (ae×ay)},Heap.SameBut a s.heap h'->d.Perm L1->∀y∈d,cN prog w h' y.1 y.2:=λsb pd y hy=>by
   have:=p1.mem_iff.mp (pd.mem_iff.mp hy)
   rcases bj1.mp this with q|q
   ·exact cN.same sb ho (e.is y q)
   ·rw[bg2.mp q];exact cN.same sb ho hx
  have b8:wpAny (model prog w) A (do
    storeSet a es1 t1
    if (!false&&t1.tooFull)=true then do
     setRelay a (SetTable.grown (es.size+1))
     pure true
    else pure true) Q E s:=by
   refine bf1 (wpAny_storeSet_of ho rfl ?_ (fits_of_scanBound (by rw[show scanBound=4096 from rfl];omega)));have ho1:=U0 (es':=es1) (t':=t1) ho;have sb1:=bm4 s.heap a (Obj.putSet es1 t1);have E1:iO prog w (s.heap.update a (Obj.putSet es1 t1)) es1 t1 L1:=⟨ee1,is1 sb1 (br0 _),T1⟩;have full:t1.tooFull=decide ((L.length+1)*5 >= t.mask*3):=by
    unfold SetTable.tooFull SetTable.fill;rw[T1.dm,T1.len,bf6,n1,m1];rfl
   split
   ·rename_i tf
    rw[Bool.not_false,Bool.true_and,full]at tf;have tf:=bu5 tf;refine bf1 ?_;unfold setRelay;refine bf1 (bp3 ho1 rfl E1.fits ?_);dsimp only
    obtain⟨m2,e2,c2,o2,r2,f2⟩:∃m2,SetTable.sizeAbove (SetTable.grown (es.size+1))=m2+1/\i9 (m2+1)/\(m2%2==0)=false/\L1.length<=m2/\NF m2 L1.length:=by
     rw[sz,n1];rcases nf with⟨q,q2⟩|⟨q,q2⟩|⟨q,q2⟩
     ·have:L.length=4:=by omega
      rw[this]
      exact⟨31,by decide,aW0,rfl,by decide,.inr (.inl ⟨rfl,by decide⟩)⟩
     ·have:L.length=18:=by omega
      rw[this]
      exact⟨127,by decide,aW1,rfl,by decide,.inr (.inr ⟨rfl,by decide⟩)⟩
     ·omega
    have m2l:m2<=127:=by rcases f2 with q|q|q<;>omega
    rw[if_neg (by rw[e2,sizeLine_eq];omega)]
    obtain⟨t2,o,q1,q2,q3,q4,q5,q6,q7⟩:=aW5 c2 o2 (hs:=L1.map λx=>bS prog w x.1) (by rw[bf6];exact r2) t1.finger (t1.movedTo m2) t1.led t1.plain
    have ha:es1.map (·.1)=(L1.map λx=>bS prog w x.1).toArray:=by
     apply Array.toList_inj.mp;rw[Array.toList_map,ee1,br4];rfl
    have rl:t1.relaid (es1.map (·.1)) (SetTable.grown (es.size+1))=some (t2,o):=by
     unfold SetTable.relaid;rw[e2,bv5,ha];exact q1
    rw[rl];rw[bf6]at q2;have e3:=aX3 ee1 o;have p3:=aX1 q2;have z3:(o.filterMap (es1[·]?)).size=es1.size:=by rw[<- bh3,e3,bf6,p3.length_eq,sz1,n1]
    rw[aX2 q2]at q3;have ho2:=U0 (es':=o.filterMap (es1[·]?)) (t':=t2) ho1;have sb2:=sb1.trans (bm4 _ a (Obj.putSet (o.filterMap (es1[·]?)) t2));have E2:iO prog w _ (o.filterMap (es1[·]?)) t2 (o.toList.filterMap (L1[·]?)):=⟨e3,is1 sb2 p3,q3⟩
    show wpAny (model prog w) A ((do
     if (o.filterMap (es1[·]?)).size != es1.size then unsupported "internal:set-table-lost-an-element"
     pure (o.filterMap (es1[·]?),t2)) >>= λr=>storeSet a r.1 r.2) _ E _
    rw[if_neg (by rw[z3];simp)];refine bf1 (bf5 ?_);refine wpAny_storeSet_of ho1 rfl ?_ (fits_of_scanBound (by rw[z3,show scanBound=4096 from rfl];omega));refine bf5 (h true _ _ _ t2 _ sb2 ⟨ho2,E2,q4.trans (l1.trans led),?_⟩ (λq=>absurd q kn) λ_=>p3.trans p1);rw[q6,p3.length_eq];exact f2
   ·rename_i tf
    refine bf5 (h true _ es1 _ t1 L1 sb1 ⟨ho1,E1,l1.trans led,?_⟩ (λq=>absurd q kn) λ_=>p1);rw[Bool.not_false,Bool.true_and,full]at tf;have tf:¬_:=λq=>tf (bg4 q)
    rw[m1,n1];unfold NF at nf ⊢;omega
  have pj:(t.put j).2=p:=hp;rw[pj,ht1,he1];split
  ·refine bf1 (aW8 hx ?_)
   simp only[↓reduceIte];exact b8
  ·refine bf1 (bf5 ?_)
   simp only[↓reduceIte];exact b8
end
section
variable {prog:az}{w:bc}{A:ba}{E:av→ax→Prop}{s:ax}
theorem iO.len {h:Heap}{es:Array (Int×av)}{t:SetTable}{L:List (ae×ay)}(e:iO prog w h es t L):es.size=L.length:=by
 rw[<- bh3,e.es,bf6]
theorem hJ.g {h:Heap}{a:ay}{es:Array (Int×av)}{ep:Nat}{t:SetTable}{L:List (ae×ay)}(S:hJ prog w h a es ep t L):pB w es t:=
 ⟨by rw[S.e.len,show scanBound=4096 from rfl];rcases S.nf with q|q|q<;>omega,S.e.fits,S.e.tt.asc,S.e.tt.dm,S.led⟩
theorem cN.keep {h h':Heap}{k:ae}{b:ay}(x:cN prog w h k b)(kp:∀o,h.get? b=some o->h'.get? b=some o):cN prog w h' k b:=by
 obtain⟨o,items,n,ho,r⟩:=x
 exact⟨o,items,n,kp o ho,r⟩
theorem hJ.keep {h h':Heap}{a:ay}{es:Array (Int×av)}{ep:Nat}{t:SetTable}{L:List (ae×ay)}(S:hJ prog w h a es ep t L)(kp:∀o,h.get? a=some o->h'.get? a=some o)(ke:∀x∈L,∀o,h.get? x.2=some o->h'.get? x.2=some o):hJ prog w h' a es ep t L:=
 ⟨kp _ S.ho,⟨S.e.es,λx hx=>(S.e.is x hx).keep (ke x hx),S.e.tt⟩,S.led,S.nf⟩
end
section
variable {prog:az}{w:bc}{A:ba}{R:Result→ax→Prop}{I:ay}{fp wr:List ay}{G:Array GenState→Array GenState→Prop}{n:Nat}{P:Nat→av→Prop}{St:Nat→ax→Prop}
theorem aX6 (W:WalksS prog w A.in1 I fp wr G n P St)(a:ay)(af:a∉fp)(val:Nat->ae×ay)(hval:∀i v,P i v->v = .ref (val i).2)(vw:∀i,i<n->(val i).2∉a::wr)(hb:n<=76)(hu:A.in1.units<cLine) :
  ∀(k i:Nat) (s:ax) (es:Array (Int×av)) (ep:Nat) (t:SetTable) (L:List (ae×ay)),n-i=k->i<=n->St i s->hJ prog w s.heap a es ep t L->(∀j,j<n->cN prog w s.heap (val j).1 (val j).2)->(L.map (·.1)).Nodup->L.length<=i->(∀x∈L,∃j,j<n/\val j=x)->(∀x,x∈L.map (·.1)↔∃j,j<i/\(val j).1=x)->
   (∀s' es' ep' t' L',Moved (a::wr) G s s'->hJ prog w s'.heap a es' ep' t' L'->(L'.map (·.1)).Nodup->(∀x∈L',∃j,j<n/\val j=x)->(∀x,x∈L'.map (·.1)↔∃j,j<n/\(val j).1=x)->R (.ok (.ret .none)) s')->
   codeAny (model prog w) A (.builtin "set.update.loop" ⟨[.ref a,.ref I],[]⟩) R s:=by
 have aw:a∉wr:=λh=>af (W.sub _ h)
 have up:∀b∈wr,b∈a::wr:=λb hb=>bf9 _ hb
 intro k
 induction k with
 |zero=>
  intro i s es ep t L hk hi st hS tk nd _ own mem hR;obtain rfl:i=n:=by omega
  refine bs8 F.entry_set_update_loop ?_;rw[br8 F.plain_set_update_loop _];show wpAny _ A.in1 (pyNext (.ref I) >>= _) _ _ s;refine bf1 (W.done s _ _ st λs' hm=>?_);show wpAny _ A.in1 (ret Value.none) _ _ s';refine bf5 (hR s' es ep t L (hm.mono up) (hS.keep (λo e=>hm.heap a _ aw e) λx hx o e=>?_) nd own mem)
  obtain⟨j,hj,e2⟩:=own x hx
  exact hm.heap _ _ (by rw[<- e2];exact λz=>vw j hj (up _ z)) e
 |succ k ih=>
  intro i s es ep t L hk hi st hS tk nd ln own mem hR;have lt:i<n:=by omega
  refine bs8 F.entry_set_update_loop ?_;rw[br8 F.plain_set_update_loop _];show wpAny _ A.in1 (pyNext (.ref I) >>= _) _ _ s;refine bf1 (W.item i s _ _ lt st λv s' hP st' hm=>?_);obtain rfl:=hval i v hP;have hvw:∀j,j<n->(val j).2∉wr:=λj hj z=>vw j hj (up _ z)
  have hS':hJ prog w s'.heap a es ep t L:=hS.keep (λo e=>hm.heap a _ aw e) λx hx o e=>by
   obtain⟨j,hj,e2⟩:=own x hx
   exact hm.heap _ _ (by rw[<- e2];exact hvw j hj) e
  have tk':∀j,j<n->cN prog w s'.heap (val j).1 (val j).2:=λj hj=>(tk j hj).keep λo e=>hm.heap _ _ (hvw j hj) e
  show wpAny _ A.in1 (holding [Value.ref (val i).2] (setAdd a (.ref (val i).2)) >>= _) _ _ s';refine bf1 (bn5 ?_);unfold setAdd;refine bn5 (bf1 (wpAny_pyHash_tuple hu (tk' i lt) ?_));refine aX5 (s:={ s' with toks:=s'.toks+_ }) hS' (by omega) hu (tk' i lt) λb h' es2 ep2 t2 L2 sb S2 p1 p2=>?_
  have nd':(L2.map (·.1)).Nodup:=by
   by_cases z:(val i).1∈L.map (·.1)
   ·rw[p1 z];exact nd
   ·refine ((p2 z).map (·.1)).nodup_iff.mpr ?_
    rw[bi0];exact bp4.mpr ⟨nd,bn0 _ _,λx hx y hy e=>z (by have e:x=(val i).1:=e.trans (bg2.mp hy);rw[<- e];exact hx)⟩
  have ln':L2.length<=i+1:=by
   by_cases z:(val i).1∈L.map (·.1)
   ·rw[p1 z];omega
   ·rw[(p2 z).length_eq,bh1,bl0];omega
  have own':∀x∈L2,∃j,j<n/\val j=x:=λx hx=>by
   by_cases z:(val i).1∈L.map (·.1)
   ·rw[p1 z]at hx;exact own x hx
   ·rcases bj1.mp ((p2 z).mem_iff.mp hx) with q|q
    ·exact own x q
    ·exact⟨i,lt,(bg2.mp q).symm⟩
  have mem':∀x,x∈L2.map (·.1)↔∃j,j<i+1/\(val j).1=x:=λx=>by
   have:x∈L2.map (·.1)↔x∈L.map (·.1)∨x=(val i).1:=by
    by_cases z:(val i).1∈L.map (·.1)
    ·rw[p1 z]
     exact⟨.inl,λh=>h.elim id λe=>by rw[e];exact z⟩
    ·rw[((p2 z).map (·.1)).mem_iff,bi0,bj1]
     exact⟨λh=>h.imp id λh=>bg2.mp h,λh=>h.imp id λh=>bg2.mpr h⟩
   rw[this,mem x];constructor
   ·rintro (⟨j,hj,e⟩|e)
    ·exact⟨j,by omega,e⟩
    ·exact⟨i,by omega,e.symm⟩
   ·rintro⟨j,hj,e⟩
    by_cases z:j=i
    ·exact .inr (by rw[<- e,z])
    ·exact .inl ⟨j,by omega,e⟩
  have tk2:∀j,j<n->cN prog w h' (val j).1 (val j).2:=λj hj=>cN.same sb hS'.ho (tk' j hj)
  refine bf5 ⟨plainId_quiet F.plain_set_update_loop _,ih (i+1) _ es2 ep2 t2 L2 (by omega) lt (W.frame _ s' _ _ st' (bt6 _ _) λb hb o e=>?_) S2 tk2 nd' ln' own' mem' λs2 es3 ep3 t3 L3 m2 hS2 n2 ow2 me2=>?_⟩
  ·rw[sb.2 b λz:b=a=>af (by rw[<- z];exact hb)];exact e
  ·refine hR s2 es3 ep3 t3 L3 (Moved.trans W.gtrans ((hm.mono up).then_heap (bt6 _ _) λb o hb e=>?_) m2) hS2 n2 ow2 me2
   rw[sb.2 b λz:b=a=>hb (by rw[z];exact bg1)];exact e
end
section
variable {prog:az}{w:bc}{A:ba}{E:av→ax→Prop}{s:ax}{l:ay}{items:Array av}{vs:List (ae×ay)}
def tO (prog:az)(w:bc)(vs:List (ae×ay))(h h':Heap):Prop:=(∃es ep t L,hJ prog w h' h.objs.size es ep t L/\(L.map (·.1)).Nodup/\(∀x∈L,x∈vs)/\∀k,k∈L.map (·.1)↔k∈vs.map (·.1))/\∀b o,b<h.objs.size->h.get? b=some o->h'.get? b=some o
theorem aX7 {Q:av->ax->Prop}(hh:A.handled=none)(hu:A.in1.units<cLine)(hl:s.heap.IsTuple l items)(hi:items.toList=vs.map λx=>.ref x.2)(ht:∀x∈vs,cN prog w s.heap x.1 x.2)(hb:vs.length<=76)(h:∀h' tk,tO prog w vs s.heap h'->Q .none { s with heap:=h',toks:=tk }) :
  wpAny (model prog w) A (Builtin.«set.__init__» ⟨[.ref s.heap.objs.size,.ref l],[]⟩) (λfin s'=>∃r,fin = .done (.ret r)/\Q r s') E { s with heap:=s.heap.push (gX (!w.params.followText "set-order")) }:=by
 generalize hled:(!w.params.followText "set-order")=led;have hS:(s.heap.push (gX led)).get? s.heap.objs.size=some (gX led):=bg8 _ rfl;have hT:Shared.TypeIs { s with heap:=s.heap.push (gX led) } (.ref s.heap.objs.size) "set":=⟨_,hS,rfl⟩
 obtain⟨ol,mW,hcl,nl,hdl⟩:=hl
 have lt:l<s.heap.objs.size:=bg7 mW
 obtain⟨ocls,odict,odata,oslots⟩:=ol
 dsimp only at hcl hdl;subst hcl hdl;have hol1:=bf3 (gX led) mW;have tu:(s.heap.push (gX led)).IsTuple l items:=⟨_,hol1,rfl,nl,rfl⟩;have t1:=aI9;have t2:=aJ0;have t3:(Value.type "tuple"==Value.type "dict")=false:=by decide
 unfold Builtin.«set.__init__» noKeywords Builtin.Frozenset.updateFrom;generalize pi:pyIter=PI
 wp_walk
 subst pi;apply wpAny_pyIter_tuple tu;apply bf1;apply wpAny_runValue;have sz:(s.heap.push (gX led)).objs.size=s.heap.objs.size+1:=bu3 ..;have il:items.size=vs.length:=by rw[<- bh3,hi,bf6]
 have at_:∀j,j<items.size->vs.getD j ([],0)∈vs:=λj hj=>by
  rw[bg5,bf4 (by omega)];exact bm1 _
 have tkk:∀j,j<items.size->cN prog w s.heap (vs.getD j ([],0)).1 (vs.getD j ([],0)).2:=λj hj=>ht _ (at_ j hj)
 have tl:∀j,j<items.size->(vs.getD j ([],0)).2<s.heap.objs.size:=λj hj=>by
  obtain⟨o,_,_,ho,_⟩:=tkk j hj
  exact bg7 ho
 refine aX6 (Walks.tuple (by simp[hh]) (s.heap.push (gX led)).objs.size l (by rw[sz];exact bi7 (bu6 lt)) items).toS s.heap.objs.size (λz=>?_) (λi=>vs.getD i ([],0)) (λi v hv=>?_) (λi hi z=>?_) (by omega) hu items.size 0 _ #[] 0 (.fresh 0 0 led) [] (Nat.sub_zero _) (bk7 _) ⟨⟨_,bg8 _ rfl,rfl,rfl⟩,tu.push _⟩ ⟨bf3 _ hS,⟨rfl,(λ_ h=>(bh7 h).elim),.fresh 0 0 led⟩,hled.symm,.inl ⟨rfl,bk7 _⟩⟩ (λj hj=>(tkk j hj).keep λo e=>bf3 _ (bf3 _ e)) .nil (bg0 _) (λ_ h=>(bh7 h).elim) (λx=>⟨(λz=>(bh7 z).elim),(λ⟨_,z,_⟩=>absurd z (bp8 _))⟩) ?_
 ·simp only[bg6,bh7,bo4]at z
  rcases z with z|z
  ·rw[sz]at z
   exact bi7 (Nat.lt_succ_self _) z
  ·exact bn8 lt z
 ·have hv:items[i]? = some v:=hv
  rw[<- bi4,hi,bh5]at hv;show v = .ref (vs.getD i ([],0)).2;rw[bg5];cases hx:vs[i]? with
  |none=>rw[hx]at hv;cases hv
  |some x=>rw[hx]at hv;cases hv;rfl
 ·have:=tl i hi
  have z:(vs.getD i ([],0)).2∈s.heap.objs.size::[(s.heap.push (gX led)).objs.size]:=z;rw[sz]at z;rcases bg6.mp z with z|z
  ·exact absurd z (bi7 this)
  ·exact absurd (bg2.mp z) (bi7 (bu6 this))
 ·rintro⟨h',g',d',tk',os'⟩ es ep t L hm hS' nd own mem
  obtain rfl:g'=s.gens:=hm.gens;obtain rfl:d'=s.drawn:=hm.drawn;obtain rfl:os'=s.os:=hm.os
  change wpAny _ _ _ _ _ _
  apply bf5
  change wpAny _ _ (ret Value.none) _ _ _
  refine bf5 ⟨_,rfl,h h' tk' ⟨⟨es,ep,t,L,hS',nd,λx hx=>?_,λx=>?_⟩,λb o lb e=>hm.heap b o (λz=>?_) (bf3 _ (bf3 _ e))⟩⟩
  ·obtain⟨j,hj,e⟩:=own x hx
   rw[<- e];exact at_ j hj
  ·rw[mem x]
   constructor
   ·rintro⟨j,hj,e⟩
    exact bh9.mpr ⟨_,at_ j hj,e⟩
   ·intro hx
    obtain⟨y,hy,e⟩:=bh9.mp hx
    obtain⟨j,hj,e2⟩:=bm0 hy
    exact⟨j,by omega,by rw[bg5,bf4 hj,e2];exact e⟩
  simp only[bg6,bh7,bo4]at z;rcases z with z|z
  ·exact bi7 lb z
  ·rw[sz]at z
   exact bi7 (bu6 lb) z
theorem aX8 {Q:av->ax->Prop}(hh:A.handled=none)(hu:A.units+3<cLine)(hl:s.heap.IsTuple l items)(hi:items.toList=vs.map λx=>.ref x.2)(ht:∀x∈vs,cN prog w s.heap x.1 x.2)(hb:vs.length<=76)(h:∀h' tk,tO prog w vs s.heap h'->Q (.ref s.heap.objs.size) { s with heap:=h',toks:=tk }) :
  wpAny (model prog w) A (call (.type "set") [.ref l]) Q E s:=by
 have C:=F.called_set
 obtain⟨c,tl,hmro⟩:=C.mro
 have c1:=C.made;have c2:=C.sub;have c3:=C.notType;have c4:=C.canCreate;have c5:=F.typeCall_set_1 (.ref l);have c6:=C.init.lookup;have c7:=C.init.bind (.ref s.heap.objs.size);apply wpAny_call;apply codeAny_of_tree
 change wpAny _ _ (callAny (.type "set") _) _ _ _
 refine bf5 ⟨Code.quiet_builtin _ (by decide +kernel),bs8 F.entry_type_call ?_⟩;rw[Around.under_plain (weight_type_call_type "set" [.ref l] []) rfl]
 repeat (any_goals first|assumption|wp_step|fail)
 refine codeAny_mono (aN4 (.ref l) (E:=E) (Q₁:=λobj s₁=>obj = .ref s.heap.objs.size/\s₁={ s with heap:=s.heap.push (gX (!w.params.followText "set-order")) }) ⟨rfl,rfl⟩) λr s₁ hr=>?_
 match r,hr with
 |.error _,hr=>exact hr
 |.ok (.ret obj),hr=>
  obtain⟨rfl,rfl⟩:=hr
  have hT:Shared.TypeIs { s with heap:=s.heap.push (gX (!w.params.followText "set-order")) } (.ref s.heap.objs.size) "set":=⟨_,bg8 _ rfl,rfl⟩
  repeat (any_goals first|assumption|wp_step|fail)
  refine codeAny_mono (codeAny_call_builtin (R:=wants (λr s₂=>r = .none/\∃h' tk,s₂={ s with heap:=h',toks:=tk }/\tO prog w vs s.heap h') E) C.init.plain F.entry_set_init (check_set_init_1 hT ?_)) λr₂ s₂ hr₂=>?_
  ·refine bm8 (aX7 (E:=λ_ _=>False) (Q:=λr s₂=>r = .none/\∃h' tk,s₂={ s with heap:=h',toks:=tk }/\tO prog w vs s.heap h') (by simp[hh]) ?_ hl hi ht hb λh' tk f=>⟨rfl,h',tk,rfl,f⟩) ?_ ?_
   ·show A.units+3<cLine;omega
   ·rintro fin s' ⟨r,rfl,q⟩
    exact q
   ·exact λ_ _ h=>h.elim
  match r₂,hr₂ with
  |.error _,hr₂=>exact hr₂
  |.ok (.ret _),hr₂=>
   obtain⟨rfl,h',tk,rfl,f⟩:=hr₂
   repeat (any_goals first|assumption|wp_step|fail)
   exact h _ _ f
end
end Raw
namespace L2
open PySem PySem.Spec PyProof.Rows
section
variable {prog:az}{w:bc}{A:ba}{E:av→ax→Prop}{s:ax}{a:ay}{es:Array (Int×av)}{ep:Nat}{t:SetTable}
theorem aX9 {Q:av->ax->Prop}(hh:A.handled=none)(ha:s.heap.get? a=some (Raw.cC es ep t))(ok:Raw.pB w es t)(few:es.size<64)(q:∀(h1:Heap) (tk:Nat) (d:Drawn) (vs:List av),(∀b o,s.heap.get? b=some o->h1.get? b=some o)->s.heap.objs.size<=h1.objs.size->vs.Perm (es.toList.map (·.2))->(h1.push (seqObj "list" vs.toArray 0)).get? h1.objs.size=some (seqObj "list" vs.toArray 0)->
   wpAny (model prog w) A.in1.in1 (Builtin.«list.sort» ⟨[.ref h1.objs.size],[]⟩) (λfin s'=>∃v,fin = .done (.ret v)/\Q (.ref h1.objs.size) s') E { s with heap:=h1.push (seqObj "list" vs.toArray 0),toks:=tk,drawn:=d }) :
  wpAny (model prog w) A (call (.builtin "sorted") [.ref a]) Q E s:=by
 refine Calls.call_function_entry kind_sorted plain_sorted entry_sorted (args_sorted1 _) ?_;unfold Builtin.«sorted»;refine bf1 (m:=checkCount "sorted" 1 1 _) (bf5 ?_);unfold collect;refine bf1 (bf1 (wpAny_runValue (Raw.aO9 (s:=s) hh ha ok λh' tk d acc c kp at1 pa=>?_)));show wpAny _ _ (load s.heap.objs.size >>= _) _ _ _;refine bf1 (wpAny_load at1 ?_);refine bf5 ?_;have lv:acc.toList.length<64:=by rw[pa.length_eq,bf6,bh3];exact few
 refine bf1 (wpAny_newList ?_ (bl2 (bn7 lv) (by decide)));have hoL:(h'.push (seqObj "list" acc.toList.toArray 0)).get? h'.objs.size=some (seqObj "list" acc.toList.toArray 0):=bg8 _ rfl;show wpAny _ _ _ _ _ { s with heap:=h'.push (seqObj "list" acc.toList.toArray 0),toks:=tk,drawn:=d };have kq:∀b o,s.heap.get? b=some o->h'.get? b=some o:=λb o e=>kp b o (bi7 (bg7 e)) (bf3 _ e)
 refine bf1 (bn5 (bk9 slot_list_sort ⟨_,hoL,rfl⟩ entry_list_sort ?_ (args_list_sort _)));refine bm8 (q h' tk d acc.toList kq (bn7 (bg7 at1)) pa hoL) ?_ λ_ _ z=>z
 rintro fin s' ⟨v,e,z⟩
 exact⟨v,e,bf5 ⟨_,rfl,z⟩⟩
end
theorem aY0 {α β:Type}{f:α->β}{us ws:List β}(p:us.Perm ws):∀{L:List α},ws=L.map f->∃L':List α,L'.Perm L/\us=L'.map f:=by
 induction p with
 |nil=>
  intro L e;cases L with
  |nil=>exact⟨[],.refl _,rfl⟩
  |cons=>cases e
 |cons x _ ih=>
  intro L e;cases L with
  |nil=>cases e
  |cons y L=>
   injection e with e1 e2
   obtain⟨L',p,e3⟩:=ih e2
   exact⟨y::L',p.cons y,by rw[e1,e3];rfl⟩
 |swap x y l=>
  intro L e
  match L,e with
  |a::b::L,e=>
   injection e with e1 e2
   injection e2 with e2 e3
   exact⟨b::a::L,List.Perm.swap _ _ _,by rw[e1,e2,e3];rfl⟩
 |trans _ _ ih1 ih2=>
  intro L e
  obtain⟨L1,p1,e1⟩:=ih2 e
  obtain⟨L2,p2,e2⟩:=ih1 e1
  exact⟨L2,p2.trans p1,e2⟩
section
variable {X:Cx}
abbrev fM:=ae×ay
def tP (X:Cx)(o:Obj)(L:List fM):Prop:=∃es ep t,o=Raw.cC es ep t/\es.toList=L.map (Raw.iA X.prog X.w)/\Raw.TT t (L.map λx=>Raw.bS X.prog X.w x.1)/\t.led=(!X.w.params.followText "set-order")/\Raw.NF t.mask L.length
theorem yA:∀L:List fM,aI (L.map λx=>V.ref x.2) (L.map λx=>Value.ref x.2)
 |[]=>.nil
 |_::L=>.cons rfl (yA L)
theorem aY1 {prog:az}{w:bc}{us:List av}{ns:ae}(h:IntsAre us ns):PySem.ItemsAre (intKind prog w) ns us:=by
 induction h with
 |nil=>exact .nil
 |cons n t _ ih=>exact .cons (intKind_is _ _ _ _) ih
theorem ac6 {σ:St}{H:Hp}{s:ax}{ag:List (ay×Obj)}(I:a6 X ag σ H s){b:ay}{k:ae}(q:aM X.K H b (k.map V.int)):Raw.cN X.prog X.w s.heap k b:=by
 obtain⟨us,ru,⟨ob,e1,c1,n1,d1⟩,_⟩:=I.tuple q
 exact⟨ob,us.toArray,n1,e1,c1,d1,aY1 (iW ru)⟩
theorem aY2 {α:Type}{d:α}{c:Nat->Nat->Bool}{R:α->α->Prop}{ys:List α}{p:Array Nat}{n:Nat}(hp:Srt.PP n p)(ha:Srt.fB c p n)(hR:∀i j,Srt.Le c i j->R (ys.getD i d) (ys.getD j d)) :
  (p.toList.map λi=>ys.getD i d).Pairwise R:=by
 rw[bk6,bk8];intro i j hi hj hij;have hs:=hp.size;have h1:i<n:=by rw[<- hs];simpa using hi
 have h2:j<n:=by rw[<- hs];simpa using hj
 have q:=ha i j (bn7 hij) h2;have e:∀k (hk:k<p.toList.length),Srt.G p k=p.toList[k]:=λk hk=>by
  have hk':k<p.size:=by simpa using hk
  unfold Srt.G;rw[bl7];simp[hk']
 rw[e i hi,e j hj]at q;exact hR _ _ q
theorem aY3 (hc:X.calm=true):cU X (.builtin "sorted") (λxs H Q=>∃(a:ay) (o:Obj) (L:List fM),xs = [.ref a]/\H a=some (.frz o (.own a))/\tP X o L/\(∀x∈L,aM X.K H x.2 (x.1.map V.int)/\x.1≠[])/\L.length<64/\
  ∀l (zs:List fM),H l=none->zs.Perm L->zs.Pairwise (λu v=>HT.b9 v.1 u.1=false)->Q (.ref l) (upd H l (.lst (zs.map λx=>V.ref x.2)))):=by
 intro ag s σ H xs us Q I r h
 obtain⟨a,o,L0,rfl,ha,⟨es,ep,t,rfl,ee,tt,led,nf⟩,hk0,h64,q⟩:=h
 obtain⟨u,rfl,rx⟩:=iC r
 obtain rfl:u=Value.ref a:=rx;have ho:s.heap.get? a=some (Raw.cC es ep t):=(show bM X.prog X.w H s.heap a (.frz (Raw.cC es ep t) (.own a)) from I.hok a _ ha).1;have S:Raw.hJ X.prog X.w s.heap a es ep t L0:=⟨ho,⟨ee,λx hx=>ac6 I (hk0 x hx).1,tt⟩,led,nf⟩;refine aX9 (I.ok.hd hc) ho S.g (by rw[S.e.len];exact h64) λh1 tk d vs kp sz pv hoL=>?_
 rw[ee,br4]at pv
 obtain⟨L,pL,rfl⟩:=aY0 (f:=λx:fM=>Value.ref x.2) pv rfl
 have hk:∀x∈L,aM X.K H x.2 (x.1.map V.int)/\x.1≠[]:=λx hx=>hk0 x (pL.mem_iff.mp hx)
 have rv:=yA L;have hl:L.length<64:=by rw[pL.length_eq];exact h64
 have old:∀b o,s.heap.get? b=some o->(h1.push (seqObj "list" (L.map λx=>Value.ref x.2).toArray 0)).get? b=some o:=λb o e=>bf3 _ (kp b o e)
 have J:=I.drew d;by_cases h2:L.length<2
 ·refine uZ hoL (by rw[bf6];exact h2) ⟨_,rfl,?_⟩
  obtain⟨e,he⟩:=sortedHeap_at (vs:=L.map λx=>Value.ref x.2) (out:=(L.map λx=>Value.ref x.2).toArray) hoL
  refine⟨.ref h1.objs.size,upd H h1.objs.size (.lst (L.map λx=>V.ref x.2)),J.laid (s:={ s with drawn:=d }) (t':=tk) (λb o hb=>?_) sz ⟨by rw[bf6];exact bl2 (show L.length<=64 by omega) (by decide),_,e,rv,he⟩,rfl,q _ L (I.hok.fresh sz) pL ?_⟩
  ·have lt:=bh0 (bg7 hb) sz
   rw[sortedHeap_old (bi7 lt) (by rw[size_push'];exact bu6 lt)];exact old b o hb
  ·match L,h2 with
   |[],_=>exact bs2
   |[_],_=>exact bn0 _ _
   |_::_::_,h2=>simp at h2;omega
 ·obtain⟨m,F⟩:=I.fr
  have lL:X.env.locals<s.heap.objs.size:=F.ns.lt;have N:=yI (g:=X.base) (h:=s.heap) (L:=X.env.locals);have ab:=F.above;have lt:∀p∈lT X.base s.heap X.env.locals,p.1<h1.objs.size:=λp hp=>bh0 (bg7 (N p hp).1) sz
  refine PySem.W.kat_list_sort (s:={ s with heap:=h1.push (seqObj "list" (L.map λx=>Value.ref x.2).toArray 0),toks:=tk,drawn:=d }) (F.kept old) (N.grown old) hoL (bn8 (bh0 lL sz)) (Heap.get?_none_of_le (bl2 ab (bl2 (bn7 lL) sz))) (λp hp=>bi7 (lt p hp)) (by rw[bf6];omega) (by rw[bf6];exact hl) λe1 h' F' N'=>?_
  have hL:∀{b:ay}{k:ae},aM X.K H b (k.map V.int)->b≠X.env.locals:=λ{b k} z e=>by
   obtain⟨its',_,⟨ob,e1,c1,_⟩,_⟩:=I.tuple z
   obtain⟨m',⟨o',es',ep',e2,d2,_⟩,_⟩:=I.loc
   rcases z with (z|⟨_,z⟩)|⟨o3,its3,n3,z3,zc,zd,_⟩
   ·rw[e,I.free]at z;cases z
   ·rw[e,I.free]at z;cases z
   ·have:=I.kIn b o3 z3
    rw[e,e2]at this;cases this;rw[d2]at zd;cases zd
  have keep:=I.newsAll (λp hp=>bf9 _ hp) F' N';have gd:∀i,i<L.length->(L.map λx=>Value.ref x.2).getD i Value.none = .ref (L.getD i ([],0)).2:=λi hi=>by
   rw[bg5,bg5,bh5,bf4 hi];rfl
  have look:∀i,i<L.length->∃(b:ay) (ob:Obj) (us:List av) (n:Nat),(L.map λx=>Value.ref x.2).getD i Value.none = .ref b/\h'.get? b=some ob/\ob.cls = .type "tuple"/\ob.data = .seq us.toArray n/\IntsAre us (L.getD i ([],0)).1/\(L.getD i ([],0)).1≠[]:=λi hi=>by
   have hy:L.getD i ([],0)∈L:=by
    rw[bg5,bf4 hi];exact bm1 hi
   obtain⟨sq,ne⟩:=hk _ hy
   obtain⟨us,ru,⟨ob,e1,c1,n1,d1⟩,_⟩:=I.tuple sq
   exact⟨_,ob,us,n1,gd i hi,keep _ ob (hL sq) e1,c1,d1,iW ru,ne⟩
  have firsts:∀L:List fM,(∀x∈L,aM X.K H x.2 (x.1.map V.int)/\x.1≠[])->∃fs:List av,PySem.W.KatTups h' (L.map λx=>Value.ref x.2) fs/\fs.length=L.length/\∀v∈fs,∃i t,v=Value.int i t:=by
   intro L
   induction L with
   |nil=>intro _;exact⟨[],PySem.W.KatTups.nil,rfl,λ_ z=>nomatch z⟩
   |cons x L ih=>
    intro hh
    obtain⟨fs,t1,t2,t3⟩:=ih λy hy=>hh y (bf9 _ hy)
    obtain⟨sq,ne⟩:=hh x bg1
    obtain⟨us,ru,⟨ob,e1,c1,n1,d1⟩,_⟩:=I.tuple sq
    have ia:=iW ru
    obtain⟨kk,bb⟩:=x
    dsimp only at ia ne;cases ia with
    |nil=>exact absurd rfl ne
    |@cons n t vs0 ns0 ht=>
     exact⟨Value.int n t::fs,PySem.W.KatTups.cons (keep bb ob (hL sq) e1) c1 d1 (by simp) t1,by simp[t2],λv hv=>(bg6.mp hv).elim (λz=>⟨n,t,z⟩) (t3 v)⟩
  obtain⟨fs,t1,t2,t3⟩:=firsts L hk
  refine PySem.W.kat_kind (T:=.type "int") t1 (by omega) (λv hv=>?_) (by decide) ?_
  ·obtain⟨i,t,rfl⟩:=t3 v hv
   exact PySem.W.Looks.now
  let c:Nat->Nat->Bool:=λi j=>HT.b9 (L.getD i ([],0)).1 (L.getD j ([],0)).1
  have O:Srt.qN c:=⟨λh=>v3 h,λh1 h2=>v4 h1 h2⟩;have ok:=Srt.E8 (n:=L.length) O (by omega);rw[bf6];refine Srt.bT.run (I:=λs'=>s'={ s with heap:=h',toks:=tk,drawn:=d }) (λi j C s' hi hj hI hC=>?_) (λpa s' hR hI=>?_) _ _ rfl ok
  ·subst hI
   obtain⟨b1,o1,u1,n1,g1,g2,_,g4,g5,_⟩:=look i (by omega)
   obtain⟨b2,o2,u2,n2,k1,k2,_,k4,k5,_⟩:=look j (by omega)
   show wpAny _ _ (keyLt' (tuples' (Value.type "int" != Value.type "tuple")) ((L.map λx=>Value.ref x.2).getD i Value.none) ((L.map λx=>Value.ref x.2).getD j Value.none)) _ _ _;rw[g1,k1];have eT:(Value.type "int" != Value.type "tuple")=true:=by decide
   rw[eT];refine PySem.W.kat_lt g2 g4 k2 k4 ?_
   have:=qR (prog:=X.prog) (w:=X.w) (A:=X.A.in1.in1) (s:={ s with heap:=h',toks:=tk,drawn:=d }) (Q:=C) 0 g5 k5 (hC _ rfl)
   simpa using this
  ·subst hI
   obtain⟨hp,hasc⟩:=hR
   refine PySem.W.KasFin.intro F' N' (PySem.W.UpdF.head λp hp=>bi7 (lt p hp)) λh2 cc F2 N2=>?_
   have keep2:=I.newsAll (λp hp=>bf9 _ hp) F2 N2;have hDn:s.heap.get? h1.objs.size=none:=Heap.get?_none_of_le sz;have hpl:∀i∈pa.toList,i<L.length:=λi hi=>bj8.mp (hp.mem_iff.mp hi)
   have pm:=E9 (d:=(([],0):fM)) L hp
   obtain⟨hDo,hDL,hDb⟩:=N2 (h1.objs.size,_) bg1
   obtain⟨hHD,I2⟩:=J.laidF (s:={ s with drawn:=d }) (t':=tk) (a:=h1.objs.size) (o:=.lst ((pa.toList.map λi=>L.getD i ([],0)).map λx=>V.ref x.2)) hDn keep2 (λm' hm'=>by
     have e:m'=m:=funext λnm=>Heap.Ns.agree hm' F.ns nm
     rw[e];exact F2.ns) ⟨by rw[bf6,pm.length_eq];exact bl2 (show L.length<=64 by omega) (by decide),_,cc,yA _,by
      rw[br4]
      have:(pa.toList.map λi=>(L.map λx=>Value.ref x.2).getD i Value.none)=pa.toList.map ((λx:fM=>Value.ref x.2) ∘ λi=>L.getD i ([],0)):=List.map_congr_left λi hi=>gd i (hpl i hi)
      rw[<- this];exact hDo⟩
   exact⟨_,rfl,.ref h1.objs.size,_,I2,rfl,q _ _ hHD (pm.trans pL) (aY2 hp hasc λi j hle=>hle)⟩
end
section
variable {X:Cx}
theorem ac7:∀{L:List fM}{us:List av},aI (L.map λx=>V.ref x.2) us->us=L.map λx=>Value.ref x.2
 |[],_,.nil=>rfl
 |_::_,_,.cons r t=>by rw[ac7 t,bi8];cases r;rfl
theorem aY4 (hc:X.calm=true)(hu:X.A.units+3<cLine):cU X (.type "set") (λxs H Q=>∃(p:ay) (ks:List fM),xs = [.ref p]/\aM X.K H p (ks.map λx=>V.ref x.2)/\(∀x∈ks,aM X.K H x.2 (x.1.map V.int))/\ks.length<=76/\
  ∀l o L,H l=none->tP X o L->(L.map (·.1)).Nodup->(∀x∈L,x∈ks)->(∀k,k∈L.map (·.1)↔k∈ks.map (·.1))->Q (.ref l) (upd H l (.frz o (.own l)))):=by
 intro ag s σ H xs us Q I r h
 obtain⟨p,ks,rfl,hq,hk,hl,q⟩:=h
 obtain⟨u,rfl,rx⟩:=iC r
 obtain rfl:u=Value.ref p:=rx
 obtain⟨its,r',pl,hz⟩:=I.tuple hq
 have e1:its=ks.map λx=>Value.ref x.2:=ac7 r'
 refine Raw.aX8 (items:=its.toArray) (vs:=ks) (I.ok.hd hc) hu pl (by rw[e1]) (λx hx=>ac6 I (hk x hx)) hl λh' tk f=>?_
 obtain⟨⟨es,ep,t,L,S,nd,sub,mem⟩,f2⟩:=f
 exact⟨.ref s.heap.objs.size,_,I.laid (t':=tk) (λb o e=>f2 b o (bg7 e) e) (bg0 _) (show bM X.prog X.w _ _ _ (.frz (Raw.cC es ep t) (.own _)) from ⟨S.ho,_,S.ho⟩),rfl,q _ _ L (I.hok.fresh (bg0 _)) ⟨es,ep,t,rfl,S.e.es,S.e.tt,S.led,S.nf⟩ nd sub mem⟩
end
end L2
namespace PP
open PySem L2
section
variable {X:Cx}{e:Expr}{tr:cJ}{pos p2 p3 p4:Pos}
theorem ac8 {K:ac}{M:ay->Prop}{H:Hp}:∀{us:List V}{ys:ad},Reps K M H us (ys.map λr=>PV.tup (intz r))->∃ks:List fM,us=ks.map (λx=>V.ref x.2)/\ks.map (·.1)=ys/\∀x∈ks,H x.2=some (.tup (x.1.map V.int))
 |_,[],.nil=>⟨[],rfl,rfl,λ_ h=>nomatch h⟩
 |_,y::ys,.cons r t=>by
  obtain⟨a,us,rfl,h,r1⟩:=r.sqT
  obtain rfl:=r1.ofInts
  obtain⟨ks,h1,h2,h3⟩:=ac8 t
  refine⟨(y,a)::ks,by rw[h1];rfl,by rw[<- h2];rfl,λx hx=>?_⟩;rcases bg6.mp hx with rfl|hx
  ·exact h
  ·exact h3 x hx
theorem ac9 {K:ac}{M:ay->Prop}{H:Hp}:∀{ks:List fM},(∀x∈ks,H x.2=some (.tup (x.1.map V.int)))->Reps K M H (ks.map λx=>V.ref x.2) ((ks.map (·.1)).map λr=>PV.tup (intz r))
 |[],_=>.nil
 |x::ks,h=>.cons (.tup (h x bg1) (Reps.intz _)) (ac9 λy hy=>h y (bf9 _ hy))
def ad0:List PV->(PV->Prop)->Prop:=λxs Q=>∃ys:ad,xs = [.tup (ys.map λr=>PV.tup (intz r))]/\ys.length<=76/\(∀y∈ys,y≠[])/\(∀ms:ad,ms.Nodup->(∀x,x∈ms↔x∈ys)->ms.length<64)/\
 ∀zs:ad,zs.Nodup->zs.Pairwise (λu v=>HT.b9 v u=false)->(∀x,x∈zs↔x∈ys)->Q (.lst (zs.map λr=>PV.tup (intz r)))
theorem aY5 {H H1:Hp}{M:ay->Prop}{ys:ad}{ks:List fM}{P:PV->Prop}{Q':VK}(s1:aD H H1)(k1:ks.map (·.1)=ys)(k2:∀x∈ks,H1 x.2=some (.tup (x.1.map V.int)))(ne:∀y∈ys,y≠[])(few:∀ms:ad,ms.Nodup->(∀x,x∈ms↔x∈ys)->ms.length<64)(q:∀zs:ad,zs.Nodup->zs.Pairwise (λu v=>HT.b9 v u=false)->(∀x,x∈zs↔x∈ys)->P (.lst (zs.map λr=>PV.tup (intz r))))(mn:∀l,H l=none->M l)(k:∀v H' (y:PV),aD H H'->aA X.K M H' v y->P y->Q' v H') :
  ∀l o L,H1 l=none->tP X o L->(L.map (·.1)).Nodup->(∀x∈L,x∈ks)->(∀k,k∈L.map (·.1)↔k∈ks.map (·.1))->
   ∃(a:ay) (o':Obj) (L':List fM),[V.ref l] = [.ref a]/\upd H1 l (.frz o (.own l)) a=some (.frz o' (.own a))/\tP X o' L'/\(∀x∈L',aM X.K (upd H1 l (.frz o (.own l))) x.2 (x.1.map V.int)/\x.1≠[])/\L'.length<64/\
    ∀l2 (zs:List fM),upd H1 l (.frz o (.own l)) l2=none->zs.Perm L'->zs.Pairwise (λu v=>HT.b9 v.1 u.1=false)->Q' (.ref l2) (upd (upd H1 l (.frz o (.own l))) l2 (.lst (zs.map λx=>V.ref x.2))):=by
 intro l o L hf sv nd sub mem;have hb:∀x∈L,upd H1 l (.frz o (.own l)) x.2=some (.tup (x.1.map V.int)):=λx hx=>bK hf _ _ _ (k2 x (sub x hx))
 refine⟨l,o,L,rfl,c8,sv,λx hx=>⟨aM.of (hb x hx),ne _ ?_⟩,?_,λl2 zs hf2 pz so=>?_⟩
 ·rw[<- k1];exact bh9.mpr ⟨x,sub x hx,rfl⟩
 ·have:=few (L.map (·.1)) nd λx=>by rw[mem x,k1]
  rw[bf6]at this;exact this
 ·have hz:∀x∈zs,upd (upd H1 l (.frz o (.own l))) l2 (.lst (zs.map λx=>V.ref x.2)) x.2=some (.tup (x.1.map V.int)):=λx hx=>bK hf2 _ _ _ (hb x (pz.mem_iff.mp hx))
  refine k _ _ (.lst ((zs.map (·.1)).map λr=>PV.tup (intz r))) ((s1.trans (bK hf _)).trans (bK hf2 _)) ?_ (q _ ((pz.map (·.1)).nodup_iff.mpr nd) ?_ λx=>?_)
  ·have n2:H l2=none:=by
    cases z:H l2 with
    |none=>rfl
    |some u=>
     have:=(s1.trans (bK hf (.frz o (.own l)))) _ _ z
     rw[hf2]at this;cases this
   exact .lst (mn _ n2) c8 (ac9 hz)
  ·rw[bk6];exact so
  ·rw[(pz.map (·.1)).mem_iff,mem x,k1]
theorem aY6 (hu:X.A.units+3<cLine)(B:Bt X.mg)(bs:X.mg "set" = none)(hc:X.calm=true)(ha:QA X [e] tr)(hg:Gl X "sorted":=by rfl)(hg2:Gl X "set":=by rfl)(he:starEach [e] X.env=(false,eval e X.env)::starEach [] X.env:=by rfl)(hpl:∀p:Pos,(backTo p (starEach [] X.env)).any (·.1)=false:=by intro _;rfl)(he2:starEach [.Call (.Name "set" p3) [e] [] p4] X.env=(false,eval (.Call (.Name "set" p3) [e] [] p4) X.env)::starEach [] X.env:=by rfl):QE X (.Call (.Name "sorted" p2) [.Call (.Name "set" p3) [e] [] p4] [] pos) (aN ad0 tr):=
 cA (qE (aY3 hc) hg B.sorted PyProof.Rows.boot_sorted (gA (zT (aY4 hc hu) hg2 bs PyProof.Rows.boot_set ha (by decide) (by decide) he (hpl _)) jL he2) (by decide) (by decide) he2 (hpl _)) λσ H Q' h=>by
  obtain⟨W,ρ,Q,px,q,k⟩:=h
  refine⟨W,ρ,_,px,q,λvs H1 xs s1 r1 q1=>?_⟩
  obtain⟨ys,e1,hl,ne,few,q⟩:=q1
  have r2:=r1.any;rw[e1]at r2
  obtain⟨v,rfl,r3⟩:=r2.one
  obtain⟨p,us,rfl,hp,r4⟩:=r3.sqT
  obtain⟨ks,rfl,k1,k2⟩:=ac8 r4
  exact⟨p,ks,rfl,aM.of hp,λx hx=>aM.of (k2 x hx),by rw[<- k1,bf6]at hl;exact hl,aY5 s1 k1 k2 ne few q (λ_ z=>z) λv H' y s r p=>k v H' y .fr s r p⟩
end
end PP
namespace Core
open PySem L2 PP
theorem ad1 {α:Type}[DecidableEq α]:∀{xs ys:List α},xs.Nodup->(∀x∈xs,x∈ys)->xs.length<=ys.length
 |[],_,_,_=>bk7 _
 |x::xs,ys,nd,h=>by
  have hx:=h x (by simp)
  have:=ad1 (xs:=xs) (ys:=ys.erase x) (bl4.mp nd).2 λy hy=>(List.mem_erase_of_ne (λe:y=x=>(bl4.mp nd).1 (e▸hy))).mpr (h y (by simp[hy]))
  rw[List.length_erase_of_mem hx]at this
  have:=List.length_pos_of_mem hx
  simp only[bj5];omega
theorem aY7 {zs:ad}{A:List aG}(h:∀z,z∈zs->z∈A.map two):∃K:List aG,zs=K.map two:=by
 refine⟨zs.map λr=>(r.getD 0 0,r.getD 1 0),?_⟩;rw[br4];refine (List.map_id zs).symm.trans (List.map_congr_left λz hz=>?_)
 obtain⟨p,_,rfl⟩:=bh9.mp (h z hz)
 rfl
def fK (k:Int)(p:aG):Int:=if k=0 then p.1 else p.2
end Core
namespace L2
open PySem PySem.Spec PyProof.Rows
def tQ (lo c:Int)(n:Nat):It:=⟨λi _=>i<n,λi H x H'=>H'=H/\x = .int (lo+i*c),λi _=>n<=i⟩
theorem aY8 {P:az}{w:bc}{K:ac}{tg:Expr}(r:ay)(lo c:Int)(n:Nat):iT P w K tg (tQ lo c n) [r] r (λi h=>IsRangeIter h r (lo+(i:Nat)*c) ((n:Int)-(i:Nat)) c) where
 mem:=bg2.mpr rfl
 obj:=λi h st b hb=>by
  cases bg2.mp hb
  exact⟨_,st,λv z=>nomatch (show Data.fields _=Data.cell v from z)⟩
 keep:=λi h h' st k=>k r (bg2.mpr rfl) _ st
 item:=by
  intro X e1 e2 e3 calm i ag s σ H E I off st lt;subst e1 e2 e3
  obtain⟨o0,o1,o2,o3,o4,o5⟩:=off r (bg2.mpr rfl)
  refine (Walks.range (prog:=X.prog) (w:=X.w) (I.ok.hd calm) r lo c n).item i s _ _ lt st λv h1 tk hv st1 kk=>?_
  obtain⟨t,rfl⟩:=hv
  have J:a6 X ag σ H { s with heap:=h1,toks:=tk }:=I.turned (λb o hb e=>kk b o (by simpa using hb) e) o0 o1 o3 o4 o5
  exact⟨_,rfl,pV (s:={ s with heap:=h1,toks:=tk }) (n:="range_iterator") st1 rfl rfl (by decide) ⟨.int (lo+i*c),H,J,⟨t,rfl⟩,⟨rfl,rfl⟩,st1,λb hb=>(off b hb).1⟩⟩
 done:=by
  intro X e1 e2 e3 calm i ag s σ H E I off st ge;subst e1 e2 e3
  obtain⟨o0,o1,o2,o3,o4,o5⟩:=off r (bg2.mpr rfl)
  exact wpAny_pyNext_range_end (I.ok.hd calm) st (by have:n<=i:=ge;omega) λh1 eb=>⟨rfl,I.turned (t':=s.toks) (λb o hb e=>eb b o hb e) o0 o1 o3 o4 o5⟩
 self:=λ_ _ _ _ _ st h=>wpAny_pyIter_rangeiter st h
section
variable {X:Cx}{tg:Expr}
def eB (lo hi c:Int):Nat:=(if lo<hi then (hi-lo-1)/c+1 else 0).toNat
theorem ad2 {lo hi c:Int}(h:0<c):Builtin.Range.rangeSize lo hi c=(eB lo hi c:Nat):=by
 unfold Builtin.Range.rangeSize eB;rw[if_pos h];split
 ·rename_i g
  have:0<=(hi-lo-1)/c:=Int.ediv_nonneg (by omega) (by omega)
  omega
 ·rfl
theorem aY9 (lo hi:Int){c:Int}(h:0<c):(eB lo hi c:Int)<=if lo<hi then hi-lo else 0:=by
 unfold eB;split
 ·rename_i g
  have h1:(hi-lo-1)/c<=hi-lo-1:=Int.ediv_le_self _ (by omega);have h2:0<=(hi-lo-1)/c:=Int.ediv_nonneg (by omega) (by omega);omega
 ·decide
theorem aZ0 {ag:List (ay×Obj)}{σ:St}{H:Hp}{s:ax}{R:It->Hp->Prop}{E:av->ax->Prop}{lo hi c:Int}{t u v:Tok}{tk:Nat}(I:a6 X ag σ H s)(h1:-1000000<=lo)(h2:lo<=1000000)(h3:-1000000<=hi)(h4:hi<=1000000)(h5:0<c)(h6:c<=1000)(q:R (tQ lo c (eB lo hi c)) H):wpAny (model X.prog X.w) X.A (pyIter (.ref s.heap.objs.size)) (tX X ag σ tg R) E { s with heap:=s.heap.push { cls:=.type "range",data:=.fields #[.int lo t,.int hi u,.int c v] },toks:=tk }:=by
 refine wpAny_pyIter_range (IsRange.new ..) ?_ ?_
 ·unfold Builtin.Range.small
  rw[ad2 h5];have b:=aY9 lo hi h5;simp only[Builtin.Range.rangeFitsLong,bn3,Bool.or_eq_true,bi5,beq_iff_eq];rw[if_pos (show c>0 from h5)];generalize (eB lo hi c:Nat)=n at *;simp only[bn3,Bool.or_eq_true,bi5,beq_iff_eq];omega
 have I1:a6 X ag σ H { s with heap:=s.heap.push { cls:=.type "range",data:=.fields #[.int lo t,.int hi u,.int c v] },toks:=tk }:=I.kept λb o e=>bf3 _ e
 generalize { s with heap:=s.heap.push { cls:=.type "range",data:=.fields #[.int lo t,.int hi u,.int c v] },toks:=tk }=s1 at I1;refine⟨s1.heap.objs.size,[s1.heap.objs.size],_,_,H,rfl,I1.kept (t':=s1.toks) λb o e=>bf3 _ e,aY8 _ lo c (eB lo hi c),?_,λb hb=>?_,q⟩
 ·show IsRangeIter _ _ (lo+((0:Nat):Int)*c) (((eB lo hi c:Nat):Int)-((0:Nat):Int)) c
  rw[show lo+((0:Nat):Int)*c=lo by simp,show ((eB lo hi c:Nat):Int)-((0:Nat):Int)=eB lo hi c by simp,<- ad2 h5];exact bg8 _ rfl
 ·cases bg2.mp hb
  exact I1.fpOk (bg0 _) (I1.hok.fresh (bg0 _))
def ad3 (ta:TA):TI:=λσ H R=>ta σ H λvs H1=>∃i j c:Int,vs = [.int i,.int j,.int c]/\(-1000000<=i/\i<=1000000/\-1000000<=j/\j<=1000000)/\0<c/\c<=1000/\R (tQ i c (eB i j c)) H1
theorem aZ1 {a b e:Expr}{ta:TA}{p pos:Pos}(hg:Gl X "range")(hm:X.mg "range" = none)(ha:PA X [a,b,e] ta)(hs:starEach [a,b,e] X.env = [(false,eval a X.env),(false,eval b X.env),(false,eval e X.env)]:=by rfl)(hs2:starEach [b,e] X.env = [(false,eval b X.env),(false,eval e X.env)]:=by rfl) :
  PI X tg (.Call (.Name "range" p) [a,b,e] [] pos) (ad3 ta):=by
 intro ag s σ H R I h;refine Call_ (lV I hg hm boot_range (bu9 (aJ (ha pos ag s σ H _ I h) λus s1 ⟨vs,H1,I1,r1,q1⟩=>?_) (by rw[hs,hs2]) (by rw[hs2];rfl)))
 obtain⟨i,j,c,rfl,⟨q1,q2,q3,q4⟩,q5,q6,q⟩:=q1
 obtain⟨u1,ys,rfl,⟨t,rfl⟩,r2⟩:∃u ys,us=u::ys/\aP (.int i) u/\aI [.int j,.int c] ys:=by
  cases r1 with
  |cons r r2=>exact⟨_,_,rfl,r,r2⟩
 obtain⟨u2,u3,rfl,⟨t1,rfl⟩,⟨t2,rfl⟩⟩:=lZ r2
 exact call_range_3 (by omega) (aZ0 I1 q1 q2 q3 q4 q5 q6 q) (.inl (PyProof.noPylong_small (by omega)))
end
end L2
namespace PP
open PySem L2
section
variable {X:Cx}{σ:St}{H:Hp}{te:aC}{R:It→Hp→Prop}{a b e:Expr}{pos p2:Pos}
def kE (lo c:Int)(n:Nat):List PV:=(List.range n).map λ(i:Nat)=>PV.int (lo+(i:Int)*c)
theorem nL (lo c:Int)(n:Nat):(kE lo c n).length=n:=by unfold kE;rw[bf6,bl8]
theorem aZ2 {lo c:Int}{n i:Nat}{v:PV}(h:(kE lo c n)[i]? = some v):v = .int (lo+(i:Int)*c)/\i<n:=by
 have hi:i<n:=by
  have:=(bh8.mp h).1
  rwa [nL]at this
 unfold kE at h;rw[bh5,List.getElem?_range hi]at h
 exact⟨(bj4 h).symm,hi⟩
def yB (ta tb tc:aC):fS:=λρ Q=>ta ρ λx _=>tb ρ λy _=>tc ρ λz _=>∃i j c:Int,x = .int i/\y = .int j/\z = .int c/\(-1000000<=i/\i<=1000000/\-1000000<=j/\j<=1000000)/\0<c/\c<=1000/\Q (kE i c (eB i j c)) true
theorem aZ3 {K:ac}{H0:Hp}{W:ay->Prop}{H1:Hp}(lo c:Int)(n:Nat):kS K H0 W true H1 (tQ lo c n) (kE lo c n):=by
 refine⟨λW' H' i e hi=>by rw[nL]at hi;exact hi,λW' H' i v H2 e y hi=>?_,λW' H' e=>by show n<=(kE lo c n).length;rw[nL];exact bg0 _⟩;rw[nL]at hi
 obtain⟨rfl,rfl⟩:=y
 exact⟨aD.refl _,_,by unfold kE;rw[bh5,List.getElem?_range hi];rfl,.int _⟩
theorem aZ4 {ta tb tc:aC}(h:LI X (yB ta tb tc) σ H R):ad3 (iV (LE X ta) (iV (LE X tb) (iV (LE X tc) m5))) σ H R:=by
 obtain⟨W,ρ,Q,px,q,k⟩:=h
 refine⟨W,ρ,_,px,q,λv H1 x g s r q=>⟨W,ρ,_,px.mono s,q,λw H2 y g' s2 r2 q=>⟨W,ρ,_,(px.mono s).mono s2,q,?_⟩⟩⟩;rintro u H3 z g2 s3 r3 ⟨i,j,c,rfl,rfl,rfl,h,h5,h6,q⟩;cases r;cases r2;cases r3
 exact⟨i,j,c,rfl,h,h5,h6,k _ _ _ _ ((s.trans s2).trans s3) (aZ3 i c (eB i j c)) q⟩
theorem aZ5 {tg:Expr}{ta tb tc:aC}(hg:Gl X "range")(hm:X.mg "range" = none)(ha:QE X a ta)(hb:QE X b tb)(hc:QE X e tc)(hs:starEach [a,b,e] X.env = [(false,eval a X.env),(false,eval b X.env),(false,eval e X.env)]:=by rfl)(hs2:starEach [b,e] X.env = [(false,eval b X.env),(false,eval e X.env)]:=by rfl)(hs3:starEach [e] X.env = [(false,eval e X.env)]:=by rfl) :
  QI X tg (.Call (.Name "range" p2) [a,b,e] [] pos) (yB ta tb tc):=rM (aZ1 hg hm (gA ha (gA hb (gA hc jL hs3) (by rw[hs2,hs3])) (by rw[hs,hs2])) hs hs2) λ_ _ _=>aZ4
end
end PP
namespace Core
open PySem L2 PP
theorem aZ6 (K:List aG):gZ K<=4*K.length:=by
 unfold gZ
 have:∀L:List aG,(L.map (fW K)).sum<=4*L.length:=λL=>by
  induction L with
  |nil=>exact bg0 _
  |cons p L ih=>
   rw[bi8,bo3,bj5]
   have:=aa0 K p
   omega
 exact this K
theorem aZ7 {r c:Int}{S:List aG}(ok:aZ r c)(all:∀p,b6 r c p=true->eD r c S p):∀(n:Nat) (K:List aG),1600-K.length<=n->K.Nodup->(∀x∈K,b6 r c x=true)->(∀x∈S,x∈K)->
  ∃K':List aG,K'.Nodup/\(∀p,p∈K'↔b6 r c p=true)/\gZ K'<=gZ K:=by
 intro n
 induction n with
 |zero=>
  intro K hn nd bd sub;have l1:=lJ ok nd bd;refine⟨K,nd,λp=>⟨bd p,λhp=>?_⟩,bg0 _⟩;refine aa3 sub (λx hx=>?_) (all p hp);have nd2:(K++[x]).Nodup:=bp4.mpr ⟨nd,bl4.mpr ⟨(λz=>by cases z),bw8⟩,λa ha b hb e=>hx.2.1 (by rw[<- bg2.mp hb,<- e];exact ha)⟩
  have:=lJ ok nd2 λy hy=>(bj1.mp hy).elim (bd y) λz=>by rw[bg2.mp z];exact hx.1
  rw[bh1,bl0]at this;omega
 |succ n ih=>
  intro K hn nd bd sub;by_cases h:∃x,aa2 r c K x
  ·obtain⟨x,hx⟩:=h
   have nd2:(K++[x]).Nodup:=bp4.mpr ⟨nd,bl4.mpr ⟨(λz=>by cases z),bw8⟩,λa ha b hb e=>hx.2.1 (by rw[<- bg2.mp hb,<- e];exact ha)⟩;have bd2:∀y∈K++[x],b6 r c y=true:=λy hy=>(bj1.mp hy).elim (bd y) λz=>by rw[bg2.mp z];exact hx.1
   obtain⟨K',h1,h2,h3⟩:=ih (K++[x]) (by rw[bh1,bl0];omega) nd2 bd2 λy hy=>bk0 _ (sub y hy)
   have:=aU9 nd hx.2.1
   have:=hx.2.2
   exact⟨K',h1,h2,by omega⟩
  ·exact⟨K,nd,λp=>⟨bd p,λhp=>aa3 sub (λx hx=>h ⟨x,hx⟩) (all p hp)⟩,bg0 _⟩
theorem aZ8 {r c:Int}(ok:aZ r c){K:List aG}(nd:K.Nodup)(hK:∀p,p∈K↔b6 r c p=true):(gZ K:Int)=2*(r+c):=by
 have far:pF [dF r c]:=bn0 _ _;have okx:okX (dF r c):=by unfold aZ at ok;unfold okX;dsimp only;omega
 rw[aV4 far (λx hx=>by rw[bg2.mp hx];exact okx) nd λp=>by rw[hK,<- kB];simp];unfold aZ at ok;have e:nI (dF r c)=r+c:=by unfold nI;dsimp only;omega
 simp only[bi8,List.map_nil,bo3,List.sum_nil,e];omega
theorem aZ9 {r c:Int}{S:List aG}(ok:aZ r c)(nd:S.Nodup)(bd:∀x∈S,b6 r c x=true)(all:∀p,b6 r c p=true->eD r c S p):r+c<=2*(S.length:Int):=by
 obtain⟨K',h1,h2,h3⟩:=aZ7 ok all 1600 S (by omega) nd bd λx hx=>hx
 have:=aZ8 ok h1 h2
 have:=aZ6 S
 omega
theorem ad4 (a b:Int):(eW a b).length=(b-a+1).toNat:=by unfold eW;rw[bf6,bl8]
theorem ba0 (x:Bx):(fX x).length=(x.b-x.t+1).toNat*(x.r-x.l+1).toNat:=by
 unfold fX
 have:∀L:ae,(L.flatMap λi=>(eW x.l x.r).map λj=>(i,j)).length=L.length*(x.r-x.l+1).toNat:=λL=>by
  induction L with
  |nil=>simp
  |cons a L ih=>rw[List.flatMap_cons,bh1,ih,bf6,ad4,bj5,Nat.succ_mul];omega
 rw[this,ad4]
theorem ad5 {r c:Int}(ok:aZ r c):((fX (dF r c)).length:Int)=r*c:=by
 rw[ba0];unfold aZ at ok;show (((r-1-0+1).toNat*(c-1-0+1).toNat:Nat):Int)=r*c;rw[show (r-1-0+1).toNat=r.toNat by omega,show (c-1-0+1).toNat=c.toNat by omega,Int.natCast_mul,Int.toNat_of_nonneg (by omega),Int.toNat_of_nonneg (by omega)]
theorem ad6 {r c:Int}{S K:List aG}(ok:aZ r c)(bd:∀x∈S,b6 r c x=true)(nd:K.Nodup)(hK:∀p,p∈K↔eD r c S p):(K.length:Int)=r*c↔∀p,b6 r c p=true->eD r c S p:=by
 have sub:∀p∈K,p∈fX (dF r c):=λp hp=>kC.mpr (kB.mpr (aU1 bd ((hK p).mp hp)))
 constructor
 ·intro h p hp
  rw[<- hK];refine Decidable.byContradiction λz=>?_
  have:=lO (A:=p::K) (B:=fX (dF r c)) (bl4.mpr ⟨z,nd⟩) λq hq=>by
   rcases bg6.mp hq with rfl|hq
   ·exact kC.mpr (kB.mpr hp)
   ·exact sub q hq
  have e:=ad5 ok;rw[bj5]at this;omega
 ·intro h
  have l1:=lO nd sub;have l2:=lO (A:=fX (dF r c)) (B:=K) (aa5 _) λq hq=>(hK q).mpr (h q (kB.mp (kC.mp hq)))
  have e:=ad5 ok;omega
def jJ (s:Int):List aG:=(List.range s.toNat).map λ(i:Nat)=>((i:Int),(i:Int))
def gM (s l:Int):ae:=(List.range (eB (s+1) l 2)).map λ(i:Nat)=>s+1+(i:Int)*2
def dO (s l:Int):ae:=if (l-s)%2>0 then gM s l++[l-1] else gM s l
section
variable {r c:Int}{U:aG→Prop}
theorem ad7 (cl:eU (dF r c) U){s:Int}(sr:s<=r)(sc:s<=c)(h:∀i:Int,0<=i->i<s->U (i,i)):∀n:Nat,(n:Int)<s->bV U ⟨0,0,n,n⟩
 |0,h0=>λp hp=>by
  unfold bA at hp;dsimp only at hp
  have:p=((0:Int),(0:Int)):=bu8 (by omega) (by omega)
  rw[this];exact h 0 (bg3 _) (by omega)
 |n+1,h1=>by
  have ih:=ad7 cl sr sc h n (by omega);have nr:fV ⟨0,0,n,n⟩ (cX ((n:Int)+1,(n:Int)+1))=true:=lM (g:=1) (h:=1) (by decide) (by decide) (by decide) (by unfold cX;dsimp only;omega) (by unfold cX;dsimp only;omega) (by unfold cX;dsimp only;omega) (by unfold cX;dsimp only;omega);have e:gY ⟨0,0,n,n⟩ (cX ((n:Int)+1,(n:Int)+1))=⟨0,0,((n+1:Nat):Int),((n+1:Nat):Int)⟩:=by unfold gY cX;dsimp only;congr 1<;>omega
  have f:=xO (U:=U) (A:=⟨0,0,n,n⟩) (C:=cX ((n:Int)+1,(n:Int)+1)) (by unfold okX;dsimp only;omega) (by unfold okX cX;dsimp only;omega) nr ?_ ih ?_
  ·rw[e]at f;exact f
  ·rw[e]
   intro x a b h1 h2 h3 h4 h5 h6;refine cl x a b ?_ h2 h3 h4 h5 h6;unfold bA at h1 ⊢;dsimp only at h1 ⊢;omega
  ·intro p hp
   have:p=((n:Int)+1,(n:Int)+1):=by unfold bA cX at hp;exact bu8 (by dsimp only at hp ⊢;omega) (by dsimp only at hp ⊢;omega)
   rw[this];exact h _ (by omega) (by omega)
theorem ba1 (cl:eU (dF r c) U)(r0:1<=r){m k:Int}(m0:0<=m)(f:bV U ⟨0,0,r-1,m⟩)(u:U (0,k))(k1:m<=k)(k2:k<=m+2)(k3:k<c):bV U ⟨0,0,r-1,k⟩:=by
 have nr:fV ⟨0,0,r-1,m⟩ (cX (0,k))=true:=lM (g:=0) (h:=2) (by decide) (by decide) (by decide) (by unfold cX;dsimp only;omega) (by unfold cX;dsimp only;omega) (by unfold cX;dsimp only;omega) (by unfold cX;dsimp only;omega);have e:gY ⟨0,0,r-1,m⟩ (cX (0,k))=⟨0,0,r-1,k⟩:=by unfold gY cX;dsimp only;congr 1<;>omega
 have g:=xO (U:=U) (A:=⟨0,0,r-1,m⟩) (C:=cX (0,k)) (by unfold okX;dsimp only;omega) (by unfold okX cX;dsimp only;omega) nr ?_ f ?_
 ·rw[e]at g;exact g
 ·rw[e]
  intro x a b h1 h2 h3 h4 h5 h6;refine cl x a b ?_ h2 h3 h4 h5 h6;unfold bA at h1 ⊢;dsimp only at h1 ⊢;omega
 ·intro p hp
  have:p=((0:Int),k):=by unfold bA cX at hp;exact bu8 (by dsimp only at hp ⊢;omega) (by dsimp only at hp ⊢;omega)
  rw[this];exact u
theorem ba2 (cl:eU (dF r c) U)(c0:1<=c){m k:Int}(m0:0<=m)(f:bV U ⟨0,0,m,c-1⟩)(u:U (k,0))(k1:m<=k)(k2:k<=m+2)(k3:k<r):bV U ⟨0,0,k,c-1⟩:=by
 have nr:fV ⟨0,0,m,c-1⟩ (cX (k,0))=true:=lM (g:=2) (h:=0) (by decide) (by decide) (by decide) (by unfold cX;dsimp only;omega) (by unfold cX;dsimp only;omega) (by unfold cX;dsimp only;omega) (by unfold cX;dsimp only;omega);have e:gY ⟨0,0,m,c-1⟩ (cX (k,0))=⟨0,0,k,c-1⟩:=by unfold gY cX;dsimp only;congr 1<;>omega
 have g:=xO (U:=U) (A:=⟨0,0,m,c-1⟩) (C:=cX (k,0)) (by unfold okX;dsimp only;omega) (by unfold okX cX;dsimp only;omega) nr ?_ f ?_
 ·rw[e]at g;exact g
 ·rw[e]
  intro x a b h1 h2 h3 h4 h5 h6;refine cl x a b ?_ h2 h3 h4 h5 h6;unfold bA at h1 ⊢;dsimp only at h1 ⊢;omega
 ·intro p hp
  have:p=(k,(0:Int)):=by unfold bA cX at hp;exact bu8 (by dsimp only at hp ⊢;omega) (by dsimp only at hp ⊢;omega)
  rw[this];exact u
end
theorem pP (s l:Int):eB (s+1) l 2=((l-s)/2).toNat:=by
 unfold eB;split<;>omega
theorem ad8 {s l:Int}(sl:s<=l){F:Int->Prop}(f0:F (s-1))(st:∀m k:Int,s-1<=m->F m->k∈dO s l->m<=k->k<=m+2->F k):F (l-1):=by
 have a:∀n:Nat,n<=eB (s+1) l 2->F (s-1+(n:Int)*2):=λn=>by
  induction n with
  |zero=>intro _;simpa using f0
  |succ n ih=>
   intro hn;have m1:s+1+(n:Int)*2∈gM s l:=by unfold gM;exact bh9.mpr ⟨n,bj8.mpr hn,rfl⟩
   have:=st (s-1+(n:Int)*2) (s+1+(n:Int)*2) (by omega) (ih (by omega)) (by unfold dO;split;exact bk0 _ m1;exact m1) (by omega) (by omega)
   rw[show s-1+((n+1:Nat):Int)*2=s+1+(n:Int)*2 by omega];exact this
 have z:=a _ (bg0 _);rw[pP]at z;by_cases h:(l-s)%2>0
 ·refine st _ (l-1) (by omega) z (by unfold dO;rw[if_pos h];simp) (by omega) (by omega)
 ·rw[show l-1=s-1+((((l-s)/2).toNat:Nat):Int)*2 by omega]
  exact z
theorem nM {s l k:Int}(sl:s<=l)(h:k∈dO s l):s<=k/\k<l:=by
 have b:k∈gM s l->s<=k/\k<l:=λh=>by
  unfold gM at h
  obtain⟨i,hi,rfl⟩:=bh9.mp h
  have:=bj8.mp hi
  rw[pP]at this;omega
 unfold dO at h;split at h
 ·rcases bj1.mp h with h|h
  ·exact b h
  ·rw[bg2.mp h];omega
 ·exact b h
theorem ad9 {s l:Int}:(dO s l).Nodup:=by
 have b:(gM s l).Nodup:=by
  unfold gM;exact bk6.mpr (List.nodup_range.imp λ{i j} h e=>h (by omega))
 unfold dO;split
 ·rename_i h
  refine bp4.mpr ⟨b,bl4.mpr ⟨(λz=>by cases z),bw8⟩,λx hx y hy e=>?_⟩;rw[bg2.mp hy]at e;unfold gM at hx
  obtain⟨i,hi,rfl⟩:=bh9.mp hx
  have:=bj8.mp hi
  rw[pP]at this;omega
 ·exact b
theorem ae0 {s l:Int}(sl:s<=l):((dO s l).length:Int)=(l-s+1)/2:=by
 have b:(gM s l).length=((l-s)/2).toNat:=by unfold gM;rw[bf6,bl8,pP]
 unfold dO;split
 ·rw[bh1,bl0,b];omega
 ·rw[b];omega
def iP (r c:Int):List aG:=jJ (min r c)++if r>c then (dO (min r c) (max r c)).map λk=>(k,0) else (dO (min r c) (max r c)).map λk=>(0,k)
theorem yC {s:Int}{p:aG}(s0:0<=s):p∈jJ s↔p.1=p.2/\0<=p.1/\p.1<s:=by
 unfold jJ;rw[bh9];constructor
 ·rintro⟨i,hi,rfl⟩
  have:=bj8.mp hi
  dsimp only;omega
 ·rintro⟨h1,h2,h3⟩
  exact⟨p.1.toNat,bj8.mpr (by omega),bu8 (by dsimp only;omega) (by dsimp only;omega)⟩
theorem ae1 {r c:Int}(ok:aZ r c){p:aG}(h:p∈iP r c):b6 r c p=true:=by
 unfold aZ at ok;rw[jG];unfold iP at h;rcases bj1.mp h with h|h
 ·have:=(yC (by omega)).mp h;omega
 ·split at h
  ·obtain⟨k,hk,rfl⟩:=bh9.mp h
   have:=nM (by omega) hk
   dsimp only;omega
  ·obtain⟨k,hk,rfl⟩:=bh9.mp h
   have:=nM (by omega) hk
   dsimp only;omega
theorem ba3 {r c:Int}(ok:aZ r c):(iP r c).Nodup:=by
 unfold aZ at ok;unfold iP;refine bp4.mpr ⟨?_,?_,λa ha b hb e=>?_⟩
 ·unfold jJ
  exact bk6.mpr (List.nodup_range.imp λ{i j} h e=>h (by have:=(Prod.mk.inj e).1;omega))
 ·split
  ·exact bk6.mpr (ad9.imp λh e=>h (Prod.mk.inj e).1)
  ·exact bk6.mpr (ad9.imp λh e=>h (Prod.mk.inj e).2)
 ·subst e
  have h1:=(yC (by omega)).mp ha;split at hb
  ·obtain⟨k,hk,rfl⟩:=bh9.mp hb
   have:=nM (by omega) hk
   dsimp only at h1;omega
  ·obtain⟨k,hk,rfl⟩:=bh9.mp hb
   have:=nM (by omega) hk
   dsimp only at h1;omega
theorem ba4 {r c:Int}(ok:aZ r c):((iP r c).length:Int)=(r+c+1)/2:=by
 unfold aZ at ok;have l1:=ae0 (s:=min r c) (l:=max r c) (by omega);have l2:(jJ (min r c)).length=(min r c).toNat:=by unfold jJ;rw[bf6,bl8]
 unfold iP;rw[bh1];split
 ·rw[bf6];omega
 ·rw[bf6];omega
theorem ba5 {r c:Int}(ok:aZ r c){S:List aG}(hS:∀p,p∈S↔p∈iP r c)(p:aG)(hp:b6 r c p=true):eD r c S p:=by
 have bd:∀x∈S,b6 r c x=true:=λx hx=>ae1 ok ((hS x).mp hx)
 rw[aU2 bd];have cl:eU (dF r c) (eF (dF r c) (·∈S)):=eF.clo (bC.refl _);unfold aZ at ok;have sq:∀i:Int,0<=i->i<min r c->eF (dF r c) (·∈S) (i,i):=λi h0 h1=>.seed ((hS _).mpr (bk0 _ ((yC (by omega)).mpr ⟨rfl,h0,h1⟩)))
 have df:=ad7 cl (s:=min r c) (by omega) (by omega) sq (min r c-1).toNat (by omega);rw[show (((min r c-1).toNat:Nat):Int)=min r c-1 by omega]at df;refine (?_:bV (eF (dF r c) (·∈S)) (dF r c)) p (kB.mpr hp);by_cases h:r>c
 ·rw[show min r c=c by omega]at df
  have mem:∀k∈dO c r,eF (dF r c) (·∈S) (k,0):=λk hk=>.seed ((hS _).mpr (bj7 _ (by rw[if_pos h,show min r c=c by omega,show max r c=r by omega];exact bh9.mpr ⟨k,hk,rfl⟩)))
  exact ad8 (F:=λm=>bV (eF (dF r c) (·∈S)) ⟨0,0,m,c-1⟩) (by omega) df λm k hm f hk k1 k2=>ba2 cl (by omega) (by omega) f (mem k hk) k1 k2 (nM (by omega) hk).2
 ·rw[show min r c=r by omega]at df
  have mem:∀k∈dO r c,eF (dF r c) (·∈S) (0,k):=λk hk=>.seed ((hS _).mpr (bj7 _ (by rw[if_neg h,show min r c=r by omega,show max r c=c by omega];exact bh9.mpr ⟨k,hk,rfl⟩)))
  exact ad8 (F:=λm=>bV (eF (dF r c) (·∈S)) ⟨0,0,r-1,m⟩) (by omega) df λm k hm f hk k1 k2=>ba1 cl (by omega) (by omega) f (mem k hk) k1 k2 (nM (by omega) hk).2
def nN:eR:=λEp xs Q=>∃r c:Int,xs = [.int r,.int c]/\(aZ r c->Q (.int ((r+c+1)/2)))/\(¬aZ r c->Ep "BadBoard")
def ae2 (Ep:Str->Prop):aR:=(aL (oE (nA Ep kA (a7 (a5 0) (a7 (a5 1) aE))))
 (bR (dW (cW (cW (a5 0) (a5 1)) (qC (.int 1))) (qC (.int 2)))))
theorem ba6:pA ae2 ["rows","columns"] nN:=by
 rintro Ep xs Q ⟨r,c,rfl,q,ex⟩;refine⟨_,rfl,_,rfl,r,c,rfl,λok=>?_,ex⟩
 exact⟨_,rfl,_,rfl,_,_,rfl,rfl,_,_,rfl,rfl,_,_,rfl,rfl,⟨by decide,by decide⟩,trivial,q ok⟩
def nO:eR:=λEp xs Q=>∃r c:Int,xs = [.int r,.int c]/\(aZ r c->∀Z:List aG,Z.Pairwise dB->Z.Perm (iP r c)->Q (.tup (a9 Z)))/\(¬aZ r c->Ep "BadBoard")
def ae3 (Ep:Str->Prop):aR:=(aL (oE (nA Ep kA (a7 (a5 0) (a7 (a5 1) aE))))
 (aL (bB 2 (aN rE (a7 (a5 0) (a7 (a5 1) aE))))
 (aL (bB 3 (aN oF (a7 (a5 0) (a7 (a5 1) aE))))
 (aL (bB 4 (fG (kT (a5 2)) [none] (cP 0) dU (cO (a7 (a5 0) (a7 (a5 0) aE)))))
 (aL (gV 5 (fG (yB (cW (a5 2) (qC (.int 1))) (a5 3) (qC (.int 2))) [none] (cP 0) dU (cO (a7 (qC (.int 0)) (a7 (a5 0) aE)))))
 (aL (cG (aX (kW (cH (jW (a5 3) (a5 2)) (qC (.int 2))) (qC (.int 0)))) (kR 5 (cO (a7 (qC (.int 0)) (a7 (jW (a5 3) (qC (.int 1))) aE)))) cK)
 (aL (cG (aX (kW (a5 0) (a5 1))) (r9 5 (bB 5 (fG (gH (a5 5)) [none,none] (jT 0 1) dU (cO (a7 (a5 1) (a7 (a5 0) aE)))))) cK)
 (bR (aN iE (a7 (aN lD (a7 (sP (a5 4) (a5 5)) aE)) aE))))))))))
theorem ae4 {r c a b:Int}{Q:PV->Prop}{A B:List aG}{s:Option Slot}(hs:s=some (.own (.lst (a9 B)))∨s=some (.sh true (.lst (a9 B))))(al:A.length<=40)(bl:B.length<=22)(nd:(A++B).Nodup)(q:∀Z:List aG,Z.Pairwise dB->Z.Perm (A++B)->Q (.tup (a9 Z))) :
  (bR (aN iE (a7 (aN lD (a7 (sP (a5 4) (a5 5)) aE)) aE))) { nx:=λ_=>Q .non,rt:=Q } [si r,si c,si a,si b,some (.sh true (.lst (a9 A))),s]:=by
 have key:∀g:Tg,wV (.lst (a9 A)) (Slot.sh true (.lst (a9 A))).tag (.lst (a9 B)) g λx _=>lD [x] λz=>iE [z] λz=>True/\Q z:=λg=>by
  refine⟨a9 A,a9 B,rfl,rfl,eQ _,eQ _,by rw[dE,dE];omega,(A++B).map two,by rw[aU6,iK],by rw[bf6,bh1];omega,λr hr=>by obtain⟨l,_,rfl⟩:=bh9.mp hr;exact List.cons_ne_nil _ _,λZ pz so=>?_⟩
  obtain⟨l2,rfl,pp⟩:=wT pz
  rw[show ((l2.map two).map λr=>PV.tup (intz r))=a9 l2 from (iK _).symm]
  exact⟨⟨_,_,rfl,rfl,eQ _,trivial,q l2 (sN so (pp.nodup_iff.mpr nd)) pp⟩,λns z=>by cases z⟩
 rcases hs with rfl|rfl
 ·exact⟨_,rfl,_,rfl,key _⟩
 ·exact⟨_,rfl,_,rfl,key _⟩
theorem ba7 {s l:Int}(h1:1<=s)(h2:s<=l)(h3:l<=40):(dO s l).length<=22:=by
 have:=ae0 h2
 omega
theorem ba8:pA ae3 ["rows","columns","shorter","longer","square","behind"] nO:=by
 rintro Ep xs Q ⟨r,c,rfl,q,ex⟩;refine⟨_,rfl,_,rfl,r,c,rfl,λok=>?_,ex⟩;have q:=q ok;have okk:=id ok;unfold aZ at okk;refine⟨_,rfl,_,rfl,_,_,rfl,trivial,?_⟩;refine⟨_,rfl,_,rfl,_,_,rfl,trivial,?_⟩;rw[aU4,aU5];have nd:=ba3 ok;have fw:=ba7 (s:=min r c) (l:=max r c) (by omega) (by omega) (by omega);unfold iP at q nd;generalize hs:min r c=s at *;generalize hl:max r c=l at *;have sq:(jJ s).length=s.toNat:=by unfold jJ;rw[bf6,bl8]
 refine⟨_,rfl,s,rfl,by omega,by omega,by rw[jS];omega,λi acc=>acc=a9 ((List.range i).map λ(k:Nat)=>((k:Int),(k:Int))),rfl,?_,?_⟩
 ·rintro i v acc hv rfl
  obtain⟨rfl,hi⟩:=oY hv
  rw[show (0:Int)+(i:Int)=(i:Int) by omega];refine sQ ?_;refine⟨_,rfl,_,rfl,by show 2<=1000;decide,rfl,trivial,?_⟩;dsimp only;rw[List.range_succ,bi0];unfold a9;rw[bi0];rfl
 rintro acc rfl;rw[jS];refine⟨trivial,?_⟩;refine⟨_,rfl,_,_,rfl,rfl,_,rfl,s+1,l,2,rfl,rfl,rfl,⟨by omega,by omega,by omega,by omega⟩,by decide,by decide,by rw[nL,pP];omega,λi acc=>acc=a9 ((List.range i).map λ(k:Nat)=>((0:Int),s+1+(k:Int)*2)),rfl,?_,?_⟩
 ·rintro i v acc hv rfl
  obtain⟨rfl,hi⟩:=aZ2 hv
  refine sQ ?_;refine⟨_,rfl,by show 2<=1000;decide,rfl,trivial,?_⟩;dsimp only;rw[List.range_succ,bi0];unfold a9;rw[bi0];rfl
 rintro acc rfl;rw[nL];refine⟨rfl,eQ _,?_⟩;have e1:((List.range (eB (s+1) l 2)).map λ(k:Nat)=>((0:Int),s+1+(k:Int)*2))=(gM s l).map λk=>(0,k):=by unfold gM;rw[br4];rfl
 rw[e1]
 have tail:(aL (cG (aX (kW (a5 0) (a5 1))) (r9 5 (bB 5 (fG (gH (a5 5)) [none,none] (jT 0 1) dU (cO (a7 (a5 1) (a7 (a5 0) aE)))))) cK)
   (bR (aN iE (a7 (aN lD (a7 (sP (a5 4) (a5 5)) aE)) aE)))) { nx:=λ_=>Q .non,rt:=Q } [si r,si c,si s,si l,some (.sh true (.lst (a9 (jJ s)))),some (.own (.lst (a9 ((dO s l).map λk=>((0:Int),k)))))]:=by
  refine⟨_,rfl,_,rfl,_,_,rfl,rfl,_,rfl,?_⟩;show if decide (r>c)=true then _ else _
  by_cases h:r>c
  ·rw[if_pos h]at q nd
   rw[bg4 h];refine bD ⟨_,rfl,_,rfl,a9 ((dO s l).map λk=>((0:Int),k)),rfl,(λz=>by cases z),by rw[dE,bf6];omega,λi acc=>acc=a9 (((dO s l).take i).map λk=>(k,(0:Int))),rfl,?_,?_⟩
   ·rintro i v acc hv rfl
    obtain⟨p,rfl,hp⟩:=jD hv
    rw[bh5]at hp;cases hk:(dO s l)[i]? with
    |none=>rw[hk]at hp;cases hp
    |some k=>
     rw[hk]at hp;cases hp;refine⟨_,_,rfl,?_⟩;refine⟨_,rfl,_,rfl,by show 2<=1000;decide,rfl,trivial,?_⟩;dsimp only;rw[bq9,hk,bi0];unfold a9;rw[bi0];rfl
   ·rintro acc rfl
    rw[dE,bf6,br9]
    exact⟨trivial,ae4 (.inr rfl) (by omega) (by rw[bf6];exact fw) nd q⟩
  ·rw[if_neg h]at q nd
   rw[bf7 h];exact aU (ae4 (.inl rfl) (by omega) (by rw[bf6];exact fw) nd q)
 refine⟨_,rfl,_,rfl,_,_,rfl,rfl,_,_,rfl,rfl,(by show (0:Int)<2;decide),_,_,rfl,rfl,_,rfl,?_⟩;show if decide ((l-s)%2>0)=true then _ else _
 unfold dO at tail;by_cases h:(l-s)%2>0
 ·rw[bg4 h]
  rw[if_pos h]at tail;refine bD ⟨_,rfl,_,rfl,_,_,rfl,rfl,by show 2<=1000;decide,rfl,trivial,?_,?_⟩
  ·rw[dE,bf6]
   unfold dO at fw;rw[if_pos h,bh1]at fw;omega
  ·rw[bi0]at tail
   unfold a9 at tail;rw[bi0]at tail;exact tail
 ·rw[bf7 h]
  rw[if_neg h]at tail;exact aU tail
def pQ:cV:=λxs Q=>∃k r c:Int,xs = [.int k,.int r,.int c]/\¬aZ r c/\Q (.bl true)
def ae5:aR:=(aL (cG (gT (i6 (aX (nC "BadBoard" (a5 3)))) (i6 (aX (nC "ValueError" (a5 3))))) (bR (qC (.bl false))) cK)
 (bR (qZ (nC "BadSet" (a5 3)))))
def ae6:aR:=(aL (bB 3 (qC .non))
 (aL (x4 "HearthError" 4 (S4 (aX (mK (a5 0) (qC (.int 0)))) (x3 nN (a7 (a5 1) (a7 (a5 2) aE))) (x3 nO (a7 (a5 1) (a7 (a5 2) aE)))) (bB 3 (a5 4)))
 ae5))
theorem ba9:gJ ae6 ["which","rows","columns","caught","e"] pQ:=by
 rintro xs Q ⟨k,r,c,rfl,no,q⟩;have tail:∀y:Option Slot,ae5 { nx:=λ_=>Q .non,rt:=Q } [si k,si r,si c,some (.sh true (.exc "BadBoard")),y]:=λy=>
  ⟨_,rfl,true,(by decide),_,rfl,aU ⟨_,rfl,true,(by decide),_,rfl,aU ⟨_,rfl,false,(by decide),_,rfl,trivial,q⟩⟩⟩
 refine⟨trivial,_,rfl,.inl ⟨_,_,rfl,rfl,_,rfl,?_⟩⟩;show if decide (k=0)=true then _ else _
 cases decide (k=0) with
 |true=>exact bD ⟨_,rfl,_,rfl,r,c,rfl,(λok=>absurd ok no),λ_=>⟨by decide,_,rfl,trivial,tail _⟩⟩
 |false=>exact aU ⟨_,rfl,_,rfl,r,c,rfl,(λok=>absurd ok no),λ_=>⟨by decide,_,rfl,trivial,tail _⟩⟩
def tR:cV:=λxs Q=>∃(ns:ae) (a r c m:Int),xs = [.scr ns,.int a,.int r,.int c,.int m]/\ns.length<=63/\0<=a/\a<=800/\aZ r c/\0<=m/\m<=60/\∀ls,jH r c ls->(ls.length:Int)<=m->Q (.tup (a9 ls))
def yD:aR:=(bR (aN iE (a7 (aN lD (a7 (a5 5) aE)) aE)))
def yE:aR:=(cG (aX (q2 sY (cO (a7 (a5 6) (a7 (a5 7) aE))) (a5 5))) (kR 5 (cO (a7 (a5 6) (a7 (a5 7) aE)))) cK)
def ae7:aR:=(aL (gI (kT (a5 4)) (cP 9)
  (aL (bB 11 (aN pE (a7 (a5 0) (a7 (cW (a5 1) (a5 9)) aE))))
  (aL (cG (mC (aX (kW (a5 9) (qC (.int 0)))) (aX (kW (cH (a5 11) (qC (.int 5))) (qC (.int 0))))) (aL (bB 6 (cH (cW (a5 6) (cH (dW (a5 11) (qC (.int 5))) (qC (.int 3)))) (a5 2)))
   (bB 7 (cH (cW (a5 7) (cH (dW (a5 11) (qC (.int 15))) (qC (.int 3)))) (a5 3)))) (aL (bB 6 (cH (dW (a5 11) (qC (.int 5))) (a5 2)))
   (bB 7 (cH (dW (a5 11) (qC (.int 211))) (a5 3)))))
  yE)))
 yD)
def ae8:aR:=(aL (gV 5 (mD aE))
 (aL (bB 6 (qC (.int 0)))
 (aL (bB 7 (qC (.int 0)))
 (aL (bB 8 (aN pE (a7 (a5 0) (a7 (a5 1) aE))))
 (aL (cG (aX (mK (cH (a5 8) (qC (.int 2))) (qC (.int 1)))) (aL (gI (kT (a5 4)) (cP 9)
   (aL (bB 10 (cH (dW (a5 8) (qC (.int 2))) (j7 (a5 2) (a5 3))))
   (aL (bB 8 (dW (a5 8) (j7 (a5 2) (a5 3))))
   (cG (aX (q2 sY (cO (a7 (dW (a5 10) (a5 3)) (a7 (cH (a5 10) (a5 3)) aE))) (a5 5))) (kR 5 (cO (a7 (dW (a5 10) (a5 3)) (a7 (cH (a5 10) (a5 3)) aE)))) cK))))
  yD) cK)
 ae7)))))
section
variable {ns:ae}{a r c m:Int}{y4 y6 y7 y8 y9 y10 y11:Option Slot}{Q:PV→Prop}{K:List aG}
def lQ (r c:Int)(i:Nat)(K:List aG):Prop:=K.Nodup/\(∀l∈K,b6 r c l=true)/\K.length<=i
theorem ae9 {i:Nat}{x y:Int}(f:lQ r c i K)(h:(x,y)∉K)(b:b6 r c (x,y)=true):lQ r c (i+1) (K++[(x,y)]):=
 ⟨bp4.mpr ⟨f.1,bn0 _ _,λu hu v hv e=>h (by rw[bg2.mp hv]at e;rw[<- e];exact hu)⟩,λl hl=>(bj1.mp hl).elim (f.2.1 l) λz=>by rw[bg2.mp z];exact b,by rw[bh1,bl0];have:=f.2.2;omega⟩
theorem af0 {n:Nat}(f:lQ r c n K)(hn:(n:Int)=m)(m2:m<=60)(q:∀ls,jH r c ls->(ls.length:Int)<=m->Q (.tup (a9 ls))) :
  yD { nx:=λ_=>Q .non,rt:=Q } [some (.sh true (.scr ns)),si a,si r,si c,si m,some (.own (.lst (a9 K))),y6,y7,y8,y9,y10,y11]:=by
 obtain⟨nd,bd,len⟩:=f
 refine⟨_,rfl,K.map two,by rw[iK];rfl,by rw[bf6];omega,λr hr=>by obtain⟨l,_,rfl⟩:=bh9.mp hr;exact List.cons_ne_nil _ _,λZ pz so=>?_⟩
 obtain⟨l2,rfl,pp⟩:=wT pz
 rw[show ((l2.map two).map λr=>PV.tup (intz r))=a9 l2 from (iK _).symm]
 exact⟨⟨_,_,rfl,rfl,eQ _,trivial,q l2 ⟨sN so (pp.nodup_iff.mpr nd),λl hl=>bd l (pp.mem_iff.mp hl)⟩ (by rw[pp.length_eq];omega)⟩,λns z=>by cases z⟩
theorem bb0 (hl:ns.length<=63)(a0:0<=a)(a1:a<=800)(ok:aZ r c)(m1:0<=m)(m2:m<=60)(q:∀ls,jH r c ls->(ls.length:Int)<=m->Q (.tup (a9 ls))) :
  ae7 { nx:=λ_=>Q .non,rt:=Q } [some (.sh true (.scr ns)),si a,si r,si c,si m,some (.own (.lst (a9 []))),si 0,si 0,y8,none,none,none]:=by
 obtain⟨r1,r2,c1,c2⟩:=id ok
 refine⟨_,rfl,m,rfl,by omega,by omega,λi ρ=>∃(x y:Int) (y9 y11:Option Slot) (K:List aG),ρ = [some (.sh true (.scr ns)),si a,si r,si c,si m,some (.own (.lst (a9 K))),si x,si y,y8,y9,none,y11]/\lQ r c i K,
  ⟨0,0,none,none,[],rfl,.nil,(λ_ h=>nomatch h),bg0 _⟩,?_,?_⟩
 ·rintro i v ρ hv ⟨x,y,y9,y11,K,rfl,f⟩
  obtain⟨rfl,hi⟩:=oY hv
  have len:=f.2.2;rw[show (0:Int)+(i:Int)=(i:Int) by omega];refine⟨_,rfl,_,rfl,_,rfl,_,_,rfl,rfl,ns,a+(i:Int),rfl,hl,by omega,by omega,λz=>⟨trivial,?_⟩⟩;have tail:∀x y:Int,0<=x->x<r->0<=y->y<c->yE { nx:=λρ=>∃(x y:Int) (y9 y11:Option Slot) (K:List aG),ρ = [some (.sh true (.scr ns)),si a,si r,si c,si m,some (.own (.lst (a9 K))),si x,si y,y8,y9,none,y11]/\lQ r c (i+1) K,rt:=Q } [some (.sh true (.scr ns)),si a,si r,si c,si m,some (.own (.lst (a9 K))),si x,si y,y8,si (i:Nat),none,si z]:=by
   intro x y x0 x1 y0 y1;refine⟨_,rfl,_,rfl,by show 2<=1000;decide,rfl,_,rfl,[x,y],K.map two,rfl,by rw[iK];rfl,_,rfl,?_⟩;rw[show decide ([x,y]∈K.map two)=decide ((x,y)∈K) from Y9 (x:=(x,y))];by_cases h1:(x,y)∈K
   ·rw[bg4 h1]
    exact aU ⟨x,y,si (i:Nat),si z,K,rfl,f.1,f.2.1,by omega⟩
   ·rw[bf7 h1]
    refine bD ⟨_,rfl,_,rfl,_,rfl,by show 2<=1000;decide,rfl,trivial,by rw[dE];omega,x,y,si (i:Nat),si z,K++[(x,y)],?_,ae9 f h1 (jG.mpr ⟨x0,x1,y0,y1⟩)⟩;unfold a9;rw[bi0];rfl
  have em:=λu:Int=>br5 u (show r≠0 by omega)
  have el:=λu:Int=>bt7 u (show 0<r by omega)
  have fm:=λu:Int=>br5 u (show c≠0 by omega)
  have fl:=λu:Int=>bt7 u (show 0<c by omega)
  have jump:(aL (aL (bB 6 (cH (dW (a5 11) (qC (.int 5))) (a5 2))) (bB 7 (cH (dW (a5 11) (qC (.int 211))) (a5 3)))) yE) { nx:=λρ=>∃(x y:Int) (y9 y11:Option Slot) (K:List aG),ρ = [some (.sh true (.scr ns)),si a,si r,si c,si m,some (.own (.lst (a9 K))),si x,si y,y8,y9,none,y11]/\lQ r c (i+1) K,rt:=Q } [some (.sh true (.scr ns)),si a,si r,si c,si m,some (.own (.lst (a9 K))),si x,si y,y8,si (i:Nat),none,si z]:=by
   refine⟨_,rfl,_,_,rfl,rfl,⟨by decide,by decide⟩,_,rfl,_,_,rfl,rfl,by omega,trivial,_,rfl,_,_,rfl,rfl,⟨by decide,by decide⟩,_,rfl,_,_,rfl,rfl,by omega,trivial,?_⟩;exact tail _ _ (em _) (el _) (fm _) (fl _)
  refine⟨_,rfl,_,_,rfl,rfl,_,rfl,?_⟩;show if decide ((i:Int)>0)=true then _ else _
  cases decide ((i:Int)>0) with
  |false=>exact aU jump
  |true=>
   refine bD ⟨_,rfl,_,_,rfl,rfl,(by show (0:Int)<5;decide),_,_,rfl,rfl,_,rfl,?_⟩;show if decide (z%5>0)=true then _ else _
   cases decide (z%5>0) with
   |false=>exact aU jump
   |true=>
    refine bD ⟨_,rfl,_,rfl,_,_,rfl,rfl,⟨by decide,by decide⟩,_,_,rfl,rfl,(by show (0:Int)<3;decide),_,_,rfl,rfl,_,rfl,_,_,rfl,rfl,by omega,trivial,_,rfl,_,rfl,_,_,rfl,rfl,⟨by decide,by decide⟩,_,_,rfl,rfl,(by show (0:Int)<3;decide),_,_,rfl,rfl,_,rfl,_,_,rfl,rfl,by omega,trivial,?_⟩;exact tail _ _ (em _) (el _) (fm _) (fl _)
 ·rintro ρ ⟨x,y,y9,y11,K,rfl,f⟩
  rw[jS]at f;exact af0 f (by omega) m2 q
end
theorem bb1:gJ ae8 ["script","at","rows","columns","many","cells","row","column","digits","k","place","cell"] tR:=by
 rintro xs Q ⟨ns,a,r,c,m,rfl,hl,a0,a1,ok,m1,m2,q⟩
 obtain⟨r1,r2,c1,c2⟩:=id ok
 refine⟨by decide,rfl,rfl,rfl,trivial,trivial,?_⟩;refine⟨_,rfl,_,rfl,ns,a,rfl,hl,by omega,by omega,λd=>⟨trivial,?_⟩⟩;refine⟨_,rfl,_,_,rfl,rfl,(by show (0:Int)<2;decide),.inl ⟨_,_,rfl,rfl,_,rfl,?_⟩⟩;show if decide (d%2=1)=true then _ else _
 cases decide (d%2=1) with
 |false=>exact aU (bb0 hl a0 a1 ok m1 m2 q)
 |true=>
  have p1:1<=r*c:=Int.mul_pos (by omega) (by omega);have p2:r*c<=40*40:=Int.mul_le_mul r2 c2 (by omega) (by decide)
  refine bD ⟨_,rfl,m,rfl,by omega,by omega,λi ρ=>∃(d:Int) (y9 y10:Option Slot) (K:List aG),ρ = [some (.sh true (.scr ns)),si a,si r,si c,si m,some (.own (.lst (a9 K))),si 0,si 0,si d,y9,y10,none]/\lQ r c i K,
   ⟨d,none,none,[],rfl,.nil,(λ_ h=>nomatch h),bg0 _⟩,?_,?_⟩
  ·rintro i v ρ hv ⟨d,y9,y10,K,rfl,f⟩
   obtain⟨rfl,hi⟩:=oY hv
   have len:=f.2.2;rw[show (0:Int)+(i:Int)=(i:Int) by omega];refine⟨_,rfl,_,_,rfl,rfl,⟨by decide,by decide⟩,_,rfl,_,rfl,_,_,rfl,rfl,.inl ⟨by omega,by omega⟩,d/2,r*c,rfl,rfl,by omega,trivial,?_⟩;have q0:0<=d/2%(r*c):=br5 _ (by omega);have q1:d/2%(r*c)<r*c:=bt7 _ (by omega);refine⟨_,rfl,_,rfl,_,rfl,_,_,rfl,rfl,.inl ⟨by omega,by omega⟩,d,r*c,rfl,rfl,⟨by omega,by omega⟩,trivial,?_⟩;dsimp only;generalize d/2%(r*c)=p at q0 q1;have b:b6 r c (p/c,p%c)=true:=jG.mpr ⟨Int.ediv_nonneg q0 (by omega),Int.ediv_lt_of_lt_mul (by omega) q1,br5 _ (by omega),bt7 _ (by omega)⟩;refine⟨_,rfl,_,rfl,p,c,rfl,rfl,⟨by omega,by omega⟩,_,rfl,_,rfl,p,c,rfl,rfl,by omega,by show 2<=1000;decide,rfl,_,rfl,[p/c,p%c],K.map two,rfl,by rw[iK];rfl,_,rfl,?_⟩;rw[show decide ([p/c,p%c]∈K.map two)=decide ((p/c,p%c)∈K) from Y9 (x:=(p/c,p%c))];by_cases h1:(p/c,p%c)∈K
   ·rw[bg4 h1]
    exact aU ⟨d/(r*c),si (i:Nat),si p,K,rfl,f.1,f.2.1,by omega⟩
   ·rw[bf7 h1]
    refine bD ⟨_,rfl,_,rfl,_,rfl,p,c,rfl,rfl,⟨by omega,by omega⟩,_,rfl,_,rfl,p,c,rfl,rfl,by omega,by show 2<=1000;decide,rfl,trivial,by rw[dE];omega,d/(r*c),si (i:Nat),si p,K++[(p/c,p%c)],?_,ae9 f h1 b⟩;unfold a9;rw[bi0];rfl
  ·rintro ρ ⟨d,y9,y10,K,rfl,f⟩
   rw[jS]at f;exact af0 f (by omega) m2 q
def yF:cV:=R4
def af1:aR:=(aL (bB 10 (mD (a7 (cO (a7 (qC (.int 0)) (a7 (a5 2) aE))) (a7 (cO (a7 (a5 3) (a7 (qC (.int 0)) aE))) (a7 (cO (a7 (qC (.int 41)) (a7 (a5 3) aE))) (a7 (cO (a7 (a5 2) (a7 (cW (qC (.int 41)) (cH (dW (a5 1) (qC (.int 7))) (K6 (qC (.int 10)) (qC (.int 30))))) aE))) (a7 (cO (a7 (jW (K1 (qC (.int 1))) (cH (a5 1) (K6 (qC (.int 10)) (qC (.int 30))))) (a7 (qC (.int 1)) aE))) aE)))))))
 (aL (bB 11 (cQ (a5 10) (cH (aN lE (a7 (a5 0) (a7 (qC (.int 1)) aE))) (qC (.int 5)))))
 (bR (kQ (aN pQ (a7 (qC (.int 0)) (a7 (cQ (a5 11) (qC (.int 0))) (a7 (cQ (a5 11) (qC (.int 1))) aE)))) (aN pQ (a7 (qC (.int 1)) (a7 (cQ (a5 11) (qC (.int 0))) (a7 (cQ (a5 11) (qC (.int 1))) aE))))))))
def af2:aR:=(aL (gI (kT (qC (.int 3))) (cP 8)
  (aL (bB 9 (aN tR (a7 (a5 0) (a7 (cW (qC (.int 1)) (j7 (qC (.int 20)) (a5 8))) (a7 (a5 2) (a7 (a5 3) (a7 (jW (a5 4) (qC (.int 1))) aE)))))))
  (aL (cG (aX (mK (aN gG (a7 (aN (tI λ_=>False) (a7 (a5 2) (a7 (a5 3) (a7 (a5 9) aE)))) aE)) (j7 (a5 2) (a5 3)))) (bR (qC (.bl false))) cK)
  (cG (aX (mK (aN gG (a7 (aN pD (a7 (a5 2) (a7 (a5 3) (a7 (a5 9) aE)))) aE)) (j7 (a5 2) (a5 3)))) (bR (qC (.bl false))) cK))))
 af1)
def af3:aR:=(aL (gI (gH (a5 6)) (cP 7)
  (cG (gT (aX (jX (cQ (a5 7) (qC (.int 0))) (qC (.int 0)))) (gT (aX (rK (cQ (a5 7) (qC (.int 0))) (a5 2))) (gT (aX (jX (cQ (a5 7) (qC (.int 1))) (qC (.int 0)))) (aX (rK (cQ (a5 7) (qC (.int 1))) (a5 3)))))) (bR (qC (.bl false))) cK))
 (aL (cG (aX (rL (aN gG (a7 (aN pD (a7 (a5 2) (a7 (a5 3) (a7 (a5 6) aE)))) aE)) (j7 (a5 2) (a5 3)))) (bR (qC (.bl false))) cK)
 af2))
def af4:aR:=(aL (bB 4 (dW (cW (cW (a5 2) (a5 3)) (qC (.int 1))) (qC (.int 2))))
 (aL (bB 5 (aN (nN λ_=>False) (a7 (a5 2) (a7 (a5 3) aE))))
 (aL (cG (gT (i6 (aX (aN mY (a7 (a5 5) aE)))) (aX (rL (a5 5) (a5 4)))) (bR (qC (.bl false))) cK)
 (aL (bB 6 (aN (nO λ_=>False) (a7 (a5 2) (a7 (a5 3) aE))))
 (aL (cG (gT (i6 (aX (aN t8 (a7 (a5 6) (a7 (aN iE (a7 (aN ad0 (a7 (a5 6) aE)) aE)) aE))))) (aX (rL (aN gG (a7 (a5 6) aE)) (a5 4)))) (bR (qC (.bl false))) cK)
 af3)))))
def af5:aR:=(aL (bB 1 (aN lE (a7 (a5 0) (a7 (qC (.int 0)) aE))))
 (aL (bB 2 (cW (qC (.int 1)) (cH (a5 1) (qC (.int 12)))))
 (aL (bB 3 (cW (qC (.int 1)) (cH (dW (a5 1) (qC (.int 12))) (qC (.int 12)))))
 (aL (cG (aX (mK (cH (dW (a5 1) (qC (.int 144))) (qC (.int 8))) (qC (.int 1)))) (aL (bB 2 (cW (qC (.int 1)) (cH (dW (a5 1) (qC (.int 1152))) (qC (.int 40)))))
  (bB 3 (cW (qC (.int 1)) (cH (dW (a5 1) (qC (.int 46080))) (qC (.int 40)))))) cK)
 af4))))
section
variable {ns:ae}{v r c:Int}{Q:PV→Prop}{Z:List aG}{y5 y7 y8 y9:Option Slot}
theorem bb2 (ok:aZ r c)(q:Q (.bl true))(y4 y5 y6 y7 y8 y9:Option Slot) :
  af1 { nx:=λ_=>Q .non,rt:=Q } [some (.sh true (.scr ns)),si v,si r,si c,y4,y5,y6,y7,y8,y9,none,none]:=by
 unfold aZ at ok;refine⟨_,rfl,by show 2<=1000;decide,rfl,_,rfl,by show 2<=1000;decide,rfl,_,rfl,by show 2<=1000;decide,rfl,_,rfl,_,rfl,_,_,rfl,rfl,⟨by decide,by decide⟩,_,_,rfl,rfl,⟨by decide,by decide,by decide⟩,_,_,rfl,rfl,(by show (0:Int)<10^(30:Int).toNat;decide),_,_,rfl,rfl,by show 2<=1000;decide,rfl,1,rfl,_,rfl,_,_,rfl,rfl,⟨by decide,by decide,by decide⟩,_,_,rfl,rfl,(by show (0:Int)<10^(30:Int).toNat;decide),_,_,rfl,rfl,by show 2<=1000;decide,rfl,by show 5<=1000;decide,rfl,trivial,?_⟩;dsimp only;have f0:0<=v/7%10^(30:Int).toNat:=br5 _ (by decide);have g0:0<=v%10^(30:Int).toNat:=br5 _ (by decide);generalize v/7%10^(30:Int).toNat=f at f0;generalize v%10^(30:Int).toNat=g at g0;refine⟨_,rfl,_,rfl,_,ns,1,rfl,.inl rfl,by decide,_,_,rfl,rfl,(by show (0:Int)<5;decide),?_⟩;generalize ns.getD (1:Int).toNat 0=j;have j0:0<=j%5:=br5 _ (by decide);have j1:j%5<5:=bt7 _ (by decide);have at5:∃a b:Int,¬aZ a b/\L2.atI [PV.tup [.int 0,.int r],.tup [.int c,.int 0],.tup [.int 41,.int c],.tup [.int r,.int (41+f)],.tup [.int (-1-g),.int 1]] (j%5)=some (.tup [.int a,.int b]):=by
  generalize j%5=j at j0 j1;rcases (show j=0∨j=1∨j=2∨j=3∨j=4 by omega) with rfl|rfl|rfl|rfl|rfl
  ·exact⟨0,r,by unfold aZ;omega,rfl⟩
  ·exact⟨c,0,by unfold aZ;omega,rfl⟩
  ·exact⟨41,c,by unfold aZ;omega,rfl⟩
  ·exact⟨r,41+f,by unfold aZ;omega,rfl⟩
  ·exact⟨-1-g,1,by unfold aZ;omega,rfl⟩
 obtain⟨a,b,nb,hat⟩:=at5
 refine⟨_,_,_,rfl,rfl,hat,trivial,?_⟩;refine⟨_,rfl,_,_,_,rfl,rfl,rfl,_,rfl,_,_,_,rfl,rfl,rfl,0,a,b,rfl,nb,_,rfl,?_⟩;refine bD ⟨_,rfl,_,_,_,rfl,rfl,rfl,_,rfl,_,_,_,rfl,rfl,rfl,1,a,b,rfl,nb,trivial,q⟩
theorem bb3 (hn:ns.length<=63)(ok:aZ r c)(q:Q (.bl true))(y5 y6 y7:Option Slot) :
  af2 { nx:=λ_=>Q .non,rt:=Q } [some (.sh true (.scr ns)),si v,si r,si c,si ((r+c+1)/2),y5,y6,y7,none,none,none,none]:=by
 have okk:=id ok;unfold aZ at okk;refine⟨3,rfl,by decide,by decide,λi ρ=>∃y8 y9:Option Slot,ρ = [some (.sh true (.scr ns)),si v,si r,si c,si ((r+c+1)/2),y5,y6,y7,y8,y9,none,none],⟨none,none,rfl⟩,?_,?_⟩
 ·rintro i w ρ hw ⟨y8,y9,rfl⟩
  obtain⟨rfl,hi⟩:=oY hw
  have hi:i<3:=hi;rw[show (0:Int)+(i:Int)=(i:Int) by omega];refine sQ ?_;refine⟨_,rfl,_,rfl,20,(i:Int),rfl,rfl,.inl ⟨by omega,by omega⟩,1,20*(i:Int),rfl,rfl,_,rfl,_,rfl,_,rfl,(r+c+1)/2,1,rfl,rfl,ns,1+20*(i:Int),r,c,(r+c+1)/2-1,rfl,hn,by omega,by omega,ok,by omega,by omega,λls st sl=>⟨trivial,?_⟩⟩;have dark:∀K:List aG,K.Pairwise dB->(∀y,y∈K↔eD r c ls y)->¬(K.length:Int)=r*c:=λK o m e=>by
   have:=aZ9 ok (nD st.1) st.2 ((ad6 ok st.2 (nD o) m).mp e)
   omega
  refine⟨_,rfl,_,rfl,_,rfl,r,c,_,ls,rfl,.inl rfl,by omega,(λz=>absurd ok z),(λ_ z=>absurd st z),λ_ _ K o m lK=>⟨_,_,rfl,rfl,_,rfl,_,rfl,r,c,rfl,rfl,.inl ⟨by omega,by omega⟩,.inl ⟨_,_,rfl,rfl,_,rfl,?_⟩⟩⟩;show if decide (((a9 K).length:Int)=r*c)=true then _ else _
  rw[dE,bf7 (dark K o m)];refine aU ⟨_,rfl,_,rfl,_,rfl,r,c,ls,rfl,ok,st,λK o m lK=>⟨_,_,rfl,rfl,_,rfl,_,rfl,r,c,rfl,rfl,.inl ⟨by omega,by omega⟩,.inl ⟨_,_,rfl,rfl,_,rfl,?_⟩⟩⟩;show if decide (((a9 K).length:Int)=r*c)=true then _ else _
  rw[dE,bf7 (dark K o m)];exact aU ⟨_,_,rfl⟩
 ·rintro ρ ⟨y8,y9,rfl⟩
  exact bb2 ok q _ _ _ _ _ _
theorem bb4 (hn:ns.length<=63)(ok:aZ r c)(oZ:Z.Pairwise dB)(pZ:Z.Perm (iP r c))(q:Q (.bl true))(y5:Option Slot) :
  af3 { nx:=λ_=>Q .non,rt:=Q } [some (.sh true (.scr ns)),si v,si r,si c,si ((r+c+1)/2),y5,some (.sh true (.tup (a9 Z))),none,none,none,none,none]:=by
 have okk:=id ok;unfold aZ at okk;have bd:∀x∈Z,b6 r c x=true:=λx hx=>ae1 ok (pZ.mem_iff.mp hx)
 refine⟨_,rfl,a9 Z,rfl,(λz=>by cases z),λi ρ=>∃y7:Option Slot,ρ = [some (.sh true (.scr ns)),si v,si r,si c,si ((r+c+1)/2),y5,some (.sh true (.tup (a9 Z))),y7,none,none,none,none],⟨none,rfl⟩,?_,?_⟩
 ·rintro i w ρ hw ⟨y7,rfl⟩
  obtain⟨p,rfl,hp⟩:=jD hw
  have ib:=jG.mp (bd p (br6 hp));refine aU3 rfl ?_;refine⟨_,rfl,_,_,_,rfl,rfl,rfl,p.1,0,rfl,rfl,_,rfl,?_⟩;show if decide (p.1<0)=true then _ else _
  rw[bf7 (by omega)];refine aU ⟨_,rfl,_,_,_,rfl,rfl,rfl,_,rfl,p.1,r,rfl,rfl,_,rfl,?_⟩;show if decide (p.1 >= r)=true then _ else _
  rw[bf7 (by omega)];refine aU ⟨_,rfl,_,_,_,rfl,rfl,rfl,p.2,0,rfl,rfl,_,rfl,?_⟩;show if decide (p.2<0)=true then _ else _
  rw[bf7 (by omega)];refine aU ⟨_,rfl,_,_,_,rfl,rfl,rfl,_,rfl,p.2,c,rfl,rfl,_,rfl,?_⟩;show if decide (p.2 >= c)=true then _ else _
  rw[bf7 (by omega)];exact aU ⟨_,rfl⟩
 ·rintro ρ ⟨y7,rfl⟩
  refine⟨_,rfl,_,rfl,_,rfl,r,c,Z,rfl,ok,⟨oZ,bd⟩,λK o m lK=>⟨_,_,rfl,rfl,_,rfl,_,rfl,r,c,rfl,rfl,.inl ⟨by omega,by omega⟩,.inl ⟨_,_,rfl,rfl,_,rfl,?_⟩⟩⟩;show if (!decide (((a9 K).length:Int)=r*c))=true then _ else _
  rw[dE,bg4 ((ad6 ok bd (nD o) m).mpr (ba5 ok λp=>pZ.mem_iff))];exact aU (bb3 hn ok q _ _ _)
theorem af6 (hn:ns.length<=63)(ok:aZ r c)(q:Q (.bl true)) :
  af4 { nx:=λ_=>Q .non,rt:=Q } [some (.sh true (.scr ns)),si v,si r,si c,none,none,none,none,none,none,none,none]:=by
 have okk:=id ok;unfold aZ at okk;refine⟨_,rfl,_,rfl,r,c,rfl,rfl,r+c,1,rfl,rfl,r+c+1,2,rfl,rfl,⟨by decide,by decide⟩,trivial,?_⟩;refine⟨_,rfl,_,rfl,r,c,rfl,λ_=>⟨trivial,?_⟩,λz=>z ok⟩;refine⟨_,rfl,_,rfl,_,rfl,aU ⟨_,rfl,_,rfl,.inl ⟨_,_,rfl,rfl,_,rfl,?_⟩⟩⟩;show if (!decide ((r+c+1)/2=(r+c+1)/2))=true then _ else _
 rw[bg4 rfl];refine aU ⟨_,rfl,_,rfl,r,c,rfl,λ_ Z oZ pZ=>⟨trivial,?_⟩,λz=>z ok⟩;have lz:=ba4 ok;rw[<- pZ.length_eq]at lz;refine⟨_,rfl,_,rfl,Z.map two,by rw[iK];rfl,by rw[bf6];omega,λr hr=>by obtain⟨l,_,rfl⟩:=bh9.mp hr;exact List.cons_ne_nil _ _,λms nd hm=>?_,λzs nd so hz=>?_⟩
 ·have:=ad1 nd λz hz=>(hm z).mp hz
  rw[bf6]at this;omega
 ·obtain⟨K,rfl⟩:=aY7 λz w=>(hz z).mp w
  have ndK:K.Nodup:=List.Pairwise.of_map two (λa b h e=>h (congrArg two e)) nd;have oK:K.Pairwise dB:=sN so ndK
  have e:K=Z:=aQ4 ((List.perm_ext_iff_of_nodup ndK (nD oZ)).mpr λp=>by
   have i:∀L:List aG,two p∈L.map two↔p∈L:=λL=>⟨λh=>by obtain⟨r,hr,e⟩:=bh9.mp h;rw[<- aN0 e];exact hr,λh=>bh9.mpr ⟨p,h,rfl⟩⟩
   rw[<- i K,hz,i]) oK oZ
  subst e;rw[show ((K.map two).map λr=>PV.tup (intz r))=a9 K from (iK K).symm];refine⟨⟨_,_,rfl,rfl,eQ _,K,_,rfl,.inl rfl,by omega,_,rfl,aU ⟨_,rfl,_,_,rfl,rfl,_,rfl,.inl ⟨_,_,rfl,rfl,_,rfl,?_⟩⟩⟩,λns z=>by cases z⟩;show if (!decide (((a9 K).length:Int)=(r+c+1)/2))=true then _ else _
  rw[dE,bg4 lz];exact aU (bb4 hn ok oK pZ q _)
end
theorem bb5:gJ af5 ["script","cell","rows","columns","many_due","found","seeds","spot","turn","some","wrong","odd"] yF:=by
 rintro xs Q ⟨ns,rfl,hn,q⟩;refine⟨_,rfl,_,ns,0,rfl,.inl rfl,by decide,trivial,?_⟩;generalize ns.getD (0:Int).toNat 0=v;refine⟨_,rfl,v,12,rfl,rfl,(by show (0:Int)<12;decide),1,v%12,rfl,rfl,trivial,?_⟩;refine⟨_,rfl,_,_,rfl,rfl,⟨by decide,by decide⟩,v/12,12,rfl,rfl,(by show (0:Int)<12;decide),1,v/12%12,rfl,rfl,trivial,?_⟩;refine⟨_,rfl,_,_,rfl,rfl,⟨by decide,by decide⟩,v/144,8,rfl,rfl,(by show (0:Int)<8;decide),.inl ⟨_,_,rfl,rfl,_,rfl,?_⟩⟩;show if decide (v/144%8=1)=true then _ else _
 cases decide (v/144%8=1) with
 |false=>exact aU (af6 hn (by unfold aZ;omega) q)
 |true=>
  refine bD ⟨_,rfl,_,_,rfl,rfl,⟨by decide,by decide⟩,v/1152,40,rfl,rfl,(by show (0:Int)<40;decide),1,v/1152%40,rfl,rfl,trivial,?_⟩;refine⟨_,rfl,_,_,rfl,rfl,⟨by decide,by decide⟩,v/46080,40,rfl,rfl,(by show (0:Int)<40;decide),1,v/46080%40,rfl,rfl,trivial,?_⟩;exact af6 hn (by unfold aZ;omega) q
end Core
namespace K_k65
open PySem PySem.W L2 PP Core
theorem _root_.L2.FnScope.au {N P:List Str}{s:Scope}(a:s.kind=.function:=by rfl)(b:s.isCoroutine=false:=by rfl)(c:s.isGenerator=false:=by rfl)(d:N.Nodup:=by decide +kernel)(e:N.take P.length=P:=by rfl)(f:∀x∈P,s.names.lookup x=some .local∨s.names.lookup x=some .cell:=by decide +kernel)(g:∀y∈s.names,y.2≠.free:=by decide +kernel):FnScope N P s:=⟨a,b,c,d,e,f,g⟩
def bH (i:Nat):Stmt:=PySem.Challenge.pw_kindleweb_k65_whole_fewest_on_boards.main.body.getD i (.Pass ⟨0,0,0,0⟩)
structure FK (K:Frag)(n:Str)(i:Nat)(f:ay)(d:FuncData):Prop where
 a:nsIn K mainGlobals n=some (some (.ref f))
 F:gB K n n (bH i) f d
structure FM (K:Frag)(mg:Str->Option av)(n:Str)(i:Nat)(f:ay)(d:FuncData):Prop where
 F:gB K n n (bH i) f d
 m:mg n=some (.ref f)
theorem FK.M {K:Frag}{mg:Str->Option av}{n:Str}{i:Nat}{f:ay}{d:FuncData}{h:Heap}(z:FK K n i f d)(X:K.In h)(G:h.Ns mainGlobals mg):FM K mg n i f d:=⟨z.F,mg_of X G z.a⟩
abbrev Hb (x:Str)(ps:List Str)(i:Nat):Prop:=∀(kV doc pm:av) (an:Option ay) (cdv ct:av) (us:List av),us.length=ps.length->bindArgs (fnOf x x (iY (bH i)) (eJ (bH i)) (b7 (bH i)) .none kV doc pm an cdv ct) ⟨us,[]⟩=pure (ps.zip us)
theorem yG {A:ba}{k:Nat}(hr:bX k A):A.units+3<cLine:=by have:=hr.units;omega
section
variable {P:az}{w:bc}{K:Frag}{mg:Str→Option av}{base:Heap}{f:ay}{fd:FuncData}{k i:Nat}{x:Str}{ps N:List Str}
theorem Df.au {p:cV}(F:FM K mg x i f fd)(S:FnScope N ps (b7 (bH i)))(body:∀(cdv:av) (A:ba) (outer:List Env) (s:ax) (H:Hp) (E:XK),bX k (A.deeper (PyProof.Rows.envOfC x (b7 (bH i)) s.heap.objs.size f cdv))->∃t,fH (dG fQ P w K mg base N x (b7 (bH i)) f cdv A outer s H E).nox (eJ (bH i)) t/\∀xs Q,p xs Q->t { nx:=λ_=>Q .non,rt:=Q } (eN N xs))(hb:Hb x ps i:=by intro _ _ _ _ _ _ us hl;first|(obtain⟨_,rfl⟩:=us1 hl;rfl)|(obtain⟨_,_,rfl⟩:=us2 hl;rfl)|(obtain⟨_,_,_,rfl⟩:=x9 hl;rfl)|(obtain⟨_,_,_,_,rfl⟩:=xA hl;rfl)|(obtain⟨_,_,_,_,_,rfl⟩:=T5 hl;rfl))(len:∀xs Q,p xs Q->xs.length=ps.length:=by intro xs Q h;repeat (first|(obtain⟨rfl,_⟩:=h;rfl)|(obtain⟨_,h⟩:=h))):Df P w K mg base (k+1) x ps p:=
 Df.of F.F F.m S hb len body
theorem cF.au {p:eR}(F:FM K mg x i f fd)(S:FnScope N ps (b7 (bH i)))(t:(Str->Prop)->aR)(rd:∀Ep xs Q,p Ep xs Q->t Ep { nx:=λ_=>Q .non,rt:=Q } (eN N xs))(body:∀(cdv:av) (A:ba) (outer:List Env) (s:ax) (H:Hp) (E:XK) (Ep:Str->Prop),bX k (A.deeper (PyProof.Rows.envOfC x (b7 (bH i)) s.heap.objs.size f cdv))->mX (dG (dZ P w) P w K mg base N x (b7 (bH i)) f cdv A outer s H E) (EX K H Ep)->fH (dG (dZ P w) P w K mg base N x (b7 (bH i)) f cdv A outer s H E) (eJ (bH i)) (t Ep))(hb:Hb x ps i:=by intro _ _ _ _ _ _ us hl;first|(obtain⟨_,rfl⟩:=us1 hl;rfl)|(obtain⟨_,_,rfl⟩:=us2 hl;rfl)|(obtain⟨_,_,_,rfl⟩:=x9 hl;rfl)|(obtain⟨_,_,_,_,rfl⟩:=xA hl;rfl)|(obtain⟨_,_,_,_,_,rfl⟩:=T5 hl;rfl))(len:∀Ep xs Q,p Ep xs Q->xs.length=ps.length:=by intro Ep xs Q h;repeat (first|(obtain⟨rfl,_⟩:=h;rfl)|(obtain⟨_,h⟩:=h))):cF P w K mg base (k+1) x ps p:=
 cF.of F.F F.m S hb t len rd body
end
section
variable {P:az}{w:bc}{K:Frag}{mg:Str→Option av}{base:Heap}{f:ay}{fd:FuncData}
theorem bb6:FnScope ["things"] ["things"] (b7 (bH 5)):=.au
theorem bb7 (B:Bt mg)(F:FM K mg "rises" 5 f fd) :Df P w K mg base 1 "rises" ["things"] t5:=
 Df.au F bb6 (λcdv A outer s H E hr=>by
  have hu:=qH hr
  exact⟨(W5),(aW (cB (M6 B rfl (a8 (aK7 (N:=["ahead","behind"]) (fr:=[none,none]) (aQ1 B (qv 0) (aE3 (qv 0) (aE2 aB) aE1)) (λ_ _ _ _=>(aP7 hu (qv 0) (qv 1)))) aF)))),aQ5⟩)
theorem af7:FnScope ["hearths","inside","hearth"] ["hearths"] (b7 (bH 6)):=.au
theorem bb8 (B:Bt mg)(F:FM K mg "marked" 6 f fd) :Df P w K mg base 1 "marked" ["hearths"] tH:=
 Df.au F af7 (λcdv A outer s H E hr=>by
  have nd:=af7.nd;have hu:=qH hr
  exact⟨(Y2),(aO (k6 (i:=1) nd rR)
   (aO (iI 2 nd (iH (qv 0))
    (aW (mQ hu (i:=1) (qv 2) fI)))
   (aW (aD0 1)))),aS4⟩)
theorem bb9:FnScope ["rows","columns"] ["rows","columns"] (b7 (bH 10)):=.au
theorem bc0 (B:Bt mg)(F:FM K mg "looked_through" 10 f fd)(x_BadBoard:Xc K mg base "BadBoard"){u_MOST_ROWS:Nat}(m_MOST_ROWS:mg "MOST_ROWS" = some (.int 40 u_MOST_ROWS)):cF P w K mg base 1 "looked_through" ["rows","columns"] kA:=
 cF.au F bb9 W6 aQ6 (λcdv A outer s H E Ep hr hX=>by
  exact (aW (cZ (gW (iG (mM (M7 B rfl (a8 (qv 0) (a8 (qv 1) aF))) aB) (jZ (mO (w4 B rfl (a8 (qv 0) (a8 (qv 1) aF))) (R6 rfl m_MOST_ROWS))))) (aW (S0 hX x_BadBoard (a8 K9 aF))) dD)))
theorem bc1:FnScope ["rows","columns","cell"] ["rows","columns","cell"] (b7 (bH 11)):=.au
theorem bc2 (B:Bt mg)(F:FM K mg "is_cell" 11 f fd) :Df P w K mg base 1 "is_cell" ["rows","columns","cell"] nE:=
 Df.au F bc1 (λcdv A outer s H E hr=>by
  exact⟨(W7),(aW (cB (oJ (L6 (cS (qv 2) aB) aB) (oJ (L5 (cS (qv 2) aB) (qv 0)) (oJ (L6 (cS (qv 2) aB) aB) (vY (L5 (cS (qv 2) aB) (qv 1)))))))),aQ7⟩)
theorem bc3:FnScope ["script","k"] ["script","k"] (b7 (bH 18)):=.au
theorem bc4 (B:Bt mg)(F:FM K mg "_law_cell" 18 f fd) :Df P w K mg base 1 "_law_cell" ["script","k"] lE:=
 Df.au F bc3 (λcdv A outer s H E hr=>by
  exact⟨(R0),(aO (cZ (mM (qv 1) (i7 B (a8 (qv 0) aF))) (aW (cB (cS (qv 0) (qv 1)))) dD)
   (aW (cB aB))),aJ7⟩)
theorem bc5:FnScope ["found"] ["found"] (b7 (bH 20)):=.au
theorem bc6 (B:Bt mg)(F:FM K mg "_law_whole" 20 f fd) :Df P w K mg base 1 "_law_whole" ["found"] mY:=
 Df.au F bc5 (λcdv A outer s H E hr=>by
  exact⟨(R3 K),(aW (cB (oJ (aD6 B (qv 0)) (vY (L9 (aD7 B (qv 0))))))),aJ8 (wU K).ii (wU K).ib⟩)
theorem af8:FnScope ["rows","columns","cell","row","column","around"] ["rows","columns","cell"] (b7 (bH 22)):=.au
theorem bc7 (B:Bt mg)(F:FM K mg "_law_beside" 22 f fd) :Df P w K mg base 1 "_law_beside" ["rows","columns","cell"] tJ:=
 Df.au F af8 (λcdv A outer s H E hr=>by
  have nd:=af8.nd
  exact⟨(Y5),(aO (aL7 3 4 nd (qv 2))
   (aO (bQ (i:=5) nd (rQ (a8 (dI (a8 (jY (qv 3) aB) (a8 (qv 4) aF))) (a8 (dI (a8 (qv 3) (a8 (jY (qv 4) aB) aF))) (a8 (dI (a8 (qv 3) (a8 (cY (qv 4) aB) aF))) (a8 (dI (a8 (cY (qv 3) aB) (a8 (qv 4) aF))) aF))))))
   (aW (cB (N0 (N:=["one","rows","columns"]) (fr:=[none,some 0,some 1]) (iH (qv 5)) (λ_ _ _ _=>(gW (rP (X9 aB (cS (qv 0) aB) (qv 1)) (rO (X9 aB (cS (qv 0) aB) (qv 2)))))) (λ_ _ _ _=>(qv 0))))))),aS8⟩)
theorem bc8:FnScope ["rows","columns","cells"] ["rows","columns","cells"] (b7 (bH 12)):=.au
theorem bc9 (B:Bt mg)(F:FM K mg "made_cells" 12 f fd)(d_looked_through:cF P w K mg base 1 "looked_through" ["rows","columns"] kA)(d_rises:Df P w K mg base 1 "rises" ["things"] t5)(d_is_cell:Df P w K mg base 1 "is_cell" ["rows","columns","cell"] nE)(x_BadSet:Xc K mg base "BadSet"):cF P w K mg base 2 "made_cells" ["rows","columns","cells"] t6:=
 cF.au F bc8 W8 aQ8 (λcdv A outer s H E Ep hr hX=>by
  exact (aO (vZ (sR hX d_looked_through hr (a8 (qv 0) (a8 (qv 1) aF))))
   (aO (cZ (gW (iG (j9 (iF (dS d_rises hr (a8 (qv 2) aF)))) (jZ (j9 (iF (M6 B rfl (a8 (aE4 (N:=["cell","rows","columns"]) (fr:=[none,some 0,some 1]) (iH (qv 2)) (λ_ _ _ _=>(dS d_is_cell hr (a8 (qv 1) (a8 (qv 2) (a8 (qv 0) aF)))))) aF))))))) (aW (S0 hX x_BadSet (a8 K9 aF))) dD)
   (aW (cB (l0 B (a8 (qv 2) aF)))))))
theorem af9:FnScope ["rows","columns","cell","row","column","sides"] ["rows","columns","cell"] (b7 (bH 13)):=.au
theorem bd0 (B:Bt mg)(F:FM K mg "sides_of" 13 f fd)(d_is_cell:Df P w K mg base 1 "is_cell" ["rows","columns","cell"] nE):Df P w K mg base 2 "sides_of" ["rows","columns","cell"] t7:=
 Df.au F af9 (λcdv A outer s H E hr=>by
  have nd:=af9.nd
  exact⟨(W9),(aO (bQ (i:=3) nd (cS (qv 2) aB))
   (aO (bQ (i:=4) nd (cS (qv 2) aB))
   (aO (bQ (i:=5) nd (rQ (a8 (dI (a8 (jY (qv 3) aB) (a8 (qv 4) aF))) (a8 (dI (a8 (qv 3) (a8 (jY (qv 4) aB) aF))) (a8 (dI (a8 (qv 3) (a8 (cY (qv 4) aB) aF))) (a8 (dI (a8 (cY (qv 3) aB) (a8 (qv 4) aF))) aF))))))
   (aW (cB (N0 (N:=["side","rows","columns"]) (fr:=[none,some 0,some 1]) (iH (qv 5)) (λ_ _ _ _=>(iF (dS d_is_cell hr (a8 (qv 1) (a8 (qv 2) (a8 (qv 0) aF)))))) (λ_ _ _ _=>(qv 0)))))))),aQ9⟩)
theorem bd1:FnScope ["rows","columns"] ["rows","columns"] (b7 (bH 15)):=.au
theorem bd3 (B:Bt mg)(F:FM K mg "fewest_on_board" 15 f fd)(d_looked_through:cF P w K mg base 1 "looked_through" ["rows","columns"] kA):cF P w K mg base 2 "fewest_on_board" ["rows","columns"] nN:=
 cF.au F bd1 ae2 ba6 (λcdv A outer s H E Ep hr hX=>by
  exact (aO (vZ (sR hX d_looked_through hr (a8 (qv 0) (a8 (qv 1) aF))))
   (aW (cB (eO (cY (cY (qv 0) (qv 1)) aB) aB)))))
theorem ag0:FnScope ["rows","columns","shorter","longer","square","behind"] ["rows","columns"] (b7 (bH 16)):=.au
theorem bd4 (B:Bt mg)(F:FM K mg "board_seeds" 16 f fd)(d_looked_through:cF P w K mg base 1 "looked_through" ["rows","columns"] kA):cF P w K mg base 2 "board_seeds" ["rows","columns"] nO:=
 cF.au F ag0 ae3 ba8 (λcdv A outer s H E Ep hr hX=>by
  have nd:=ag0.nd
  exact (aO (vZ (sR hX d_looked_through hr (a8 (qv 0) (a8 (qv 1) aF))))
   (aO (bQ (i:=2) nd (M7 B rfl (a8 (qv 0) (a8 (qv 1) aF))))
   (aO (bQ (i:=3) nd (w4 B rfl (a8 (qv 0) (a8 (qv 1) aF))))
   (aO (aE5 (i:=4) nd (N:=["line"]) (fr:=[none]) (oN rfl B.range (qv 2)) (λ_ _ _ _=>(dI (a8 (qv 0) (a8 (qv 0) aF)))))
   (aO (aE6 (i:=5) nd (N:=["line"]) (fr:=[none]) (aZ5 rfl B.range (cY (qv 2) aB) (qv 3) aB) (λ_ _ _ _=>(dI (a8 aB (a8 (qv 0) aF)))))
   (aO (cZ (mO (cR (jY (qv 3) (qv 2)) aB) aB) (aW (oM 5 (dI (a8 aB (a8 (jY (qv 3) aB) aF))))) dD)
   (aO (cZ (mO (qv 0) (qv 1)) (aW (aC9 5 (aK8 (i:=5) nd (N:=["start","line"]) (fr:=[none,none]) (iH (qv 5)) (λ_ _ _ _=>(dI (a8 (qv 1) (a8 (qv 0) aF))))))) dD)
   (aW (cB (l0 B (a8 (wS B (a8 (aK6 (qv 4) (qv 5)) aF)) aF))))))))))))
theorem ag1:FnScope ["script","k","stir"] ["script","k"] (b7 (bH 19)):=.au
theorem bd5 (B:Bt mg)(F:FM K mg "_law_number" 19 f fd)(d__law_cell:Df P w K mg base 1 "_law_cell" ["script","k"] lE):Df P w K mg base 2 "_law_number" ["script","k"] pE:=
 Df.au F ag1 (λcdv A outer s H E hr=>by
  have nd:=ag1.nd
  exact⟨(Y8),(aO (cZ (mM (qv 1) (i7 B (a8 (qv 0) aF))) (aW (cB (cS (qv 0) (qv 1)))) dD)
   (aO (bQ (i:=2) nd (cR (j8 (cY (cY (cR (dS d__law_cell hr (a8 (qv 0) (a8 (cR (qv 1) (w4 B rfl (a8 aB (a8 (i7 B (a8 (qv 0) aF)) aF)))) aF))) aB) (j8 aB (qv 1))) aB) aB) aB))
   (aW (cB (eO (cR (j8 (qv 2) (qv 2)) aB) aB))))),aT0⟩)
theorem ag2:FnScope ["found","due","k","number"] ["found","due"] (b7 (bH 21)):=.au
theorem bd6 (B:Bt mg)(F:FM K mg "_law_cells_are" 21 f fd)(d__law_whole:Df P w K mg base 1 "_law_whole" ["found"] mY):Df P w K mg base 2 "_law_cells_are" ["found","due"] t8:=
 Df.au F ag2 (λcdv A outer s H E hr=>by
  have nd:=ag2.nd;have hu3:=yG hr
  exact⟨(X0 K),(aO (cZ (gW (iG (j9 (iF (M9 B (qv 0)))) (jZ (rN (i7 B (a8 (qv 0) aF)) (i7 B (a8 (qv 1) aF)))))) (aW (cB fI)) dD)
   (aO (iI 2 nd (oN rfl B.range (i7 B (a8 (qv 1) aF)))
    (aO (cZ (gW (iG (j9 (iF (M9 B (cS (qv 0) (qv 2))))) (jZ (aE0 hu3 (cS (qv 0) (qv 2)) (cS (qv 1) (qv 2)))))) (aW (cB fI)) dD)
    (aW (iI 3 nd (iH (cS (qv 0) (qv 2)))
     (aW (cZ (j9 (iF (dS d__law_whole hr (a8 (qv 3) aF)))) (aW (cB fI)) dD))))))
   (aW (cB fI)))),aR0 (wU K).tt⟩)
theorem ag3:FnScope ["rows","columns","seeds","met","burning","line","seed","at","other"] ["rows","columns","seeds"] (b7 (bH 23)):=.au
theorem bd7 (B:Bt mg)(F:FM K mg "_law_burnt" 23 f fd)(d__law_beside:Df P w K mg base 1 "_law_beside" ["rows","columns","cell"] tJ):Df P w K mg base 2 "_law_burnt" ["rows","columns","seeds"] pD:=
 Df.au F ag3 (λcdv A outer s H E hr=>by
  have nd:=ag3.nd;have hu:=qH hr
  exact⟨(Y6),(aO (k6 (i:=3) nd rR)
   (aO (k6 (i:=4) nd rR)
   (aO (k6 (i:=5) nd (M5 B (a8 (qv 2) aF)))
   (aO (iI 6 nd (iH (qv 2))
    (aW (mQ hu (i:=4) (qv 6) fI)))
   (aO (bQ (i:=7) nd aB)
   (aO (M3 PassesOwn.never (mM (qv 7) (i7 B (a8 (qv 5) aF)))
    (aO (iI 8 nd (iH (dS d__law_beside hr (a8 (qv 0) (a8 (qv 1) (a8 (cS (qv 5) (qv 7)) aF)))))
     (aO (mQ hu (i:=3) (qv 8) (cY (X8 hu (qv 3) (qv 8) aB) aB))
     (aW (cZ (gW (rP (mO (M0 hu (qv 3) (qv 8)) aB) (rO (L8 hu (qv 8) (qv 4))))) (aO (mQ hu (i:=4) (qv 8) fI)
      (aW (oM 5 (qv 8)))) dD))))
    (aW (bQ (i:=7) nd (cY (qv 7) aB)))))
   (aW (cB (l0 B (a8 (aM8 B (a8 (qv 5) aF)) aF)))))))))),aS9⟩)
theorem ag4:FnScope ["rows","columns","seeds","chosen","burning","lit","met","cell","side"] ["rows","columns","seeds"] (b7 (bH 14)):=.au
theorem bd8 (B:Bt mg)(F:FM K mg "board_burnt" 14 f fd)(d_made_cells:cF P w K mg base 2 "made_cells" ["rows","columns","cells"] t6)(d_marked:Df P w K mg base 1 "marked" ["hearths"] tH)(d_sides_of:Df P w K mg base 2 "sides_of" ["rows","columns","cell"] t7){u_ENOUGH:Nat}(m_ENOUGH:mg "ENOUGH" = some (.int 2 u_ENOUGH)):cF P w K mg base 3 "board_burnt" ["rows","columns","seeds"] tI:=
 cF.au F ag4 Y3 aS7 (λcdv A outer s H E Ep hr hX=>by
  have nd:=ag4.nd;have hu:=qH hr
  exact (aO (bQ (i:=3) nd (sR hX d_made_cells hr (a8 (qv 0) (a8 (qv 1) (a8 (qv 2) aF)))))
   (aO (k6 (i:=4) nd (dS d_marked hr (a8 (qv 3) aF)))
   (aO (k6 (i:=5) nd (M5 B (a8 (qv 3) aF)))
   (aO (k6 (i:=6) nd rR)
   (aO (M3 hX.own (aC8 (qv 5))
    (aO (aM9 nd 5 7)
    (aW (iI 8 (hp:=hX.own) nd (iH (dS d_sides_of hr (a8 (qv 0) (a8 (qv 1) (a8 (qv 7) aF)))))
     (aO (mQ hu (i:=6) (qv 8) (cY (X8 hu (qv 6) (qv 8) aB) aB))
     (aW (cZ (gW (rP (mP (M0 hu (qv 6) (qv 8)) (R6 rfl m_ENOUGH)) (rO (L8 hu (qv 8) (qv 4))))) (aO (mQ hu (i:=4) (qv 8) fI)
      (aW (oM 5 (qv 8)))) dD)))))))
   (aW (cB (l0 B (a8 (aR7 B rfl (a8 (qv 4) aF)) aF))))))))))
theorem ag5:FnScope ["which","rows","columns","caught","e"] ["which","rows","columns"] (b7 (bH 24)):=.au
theorem bd9 (B:Bt mg)(F:FM K mg "_law_refused" 24 f fd)(d_fewest_on_board:cF P w K mg base 2 "fewest_on_board" ["rows","columns"] nN)(d_board_seeds:cF P w K mg base 2 "board_seeds" ["rows","columns"] nO)(cat_HearthError:x5 K mg "HearthError")(is_BadSet:p9 K mg "BadSet")(is_BadBoard:p9 K mg "BadBoard")(is_ValueError:x8 K mg):Df P w K mg base 3 "_law_refused" ["which","rows","columns"] pQ:=
 Df.au F ag5 (λcdv A outer s H E hr=>by
  have nd:=ag5.nd
  exact⟨(ae6),(aO (bQ (i:=3) nd aC7)
   (aO (aM1 4 cat_HearthError nd (aL9 (λ_=>(mP (qv 0) aB)) (S5 d_fewest_on_board hr (λ_=>(a8 (qv 1) (a8 (qv 2) aF)))) (S5 d_board_seeds hr (λ_=>(a8 (qv 1) (a8 (qv 2) aF))))) (λ_=>(aW (bQ (i:=3) nd (qv 4)))))
   (aO (cZ (gW (iG (j9 (iF (S8 B is_BadBoard (qv 3)))) (jZ (j9 (iF (aM5 B is_ValueError (qv 3))))))) (aW (cB fI)) dD)
   (aW (cB (L9 (S8 B is_BadSet (qv 3)))))))),ba9⟩)
theorem ag6:FnScope ["script","at","rows","columns","many","cells","row","column","digits","k","place","cell"] ["script","at","rows","columns","many"] (b7 (bH 25)):=.au
theorem be0 (B:Bt mg)(F:FM K mg "_law_few" 25 f fd)(d__law_number:Df P w K mg base 2 "_law_number" ["script","k"] pE):Df P w K mg base 3 "_law_few" ["script","at","rows","columns","many"] tR:=
 Df.au F ag6 (λcdv A outer s H E hr=>by
  have nd:=ag6.nd;have hu3:=yG hr
  exact⟨(ae8),(aO (k6 (i:=5) nd (rQ aF))
   (aO (bQ (i:=6) nd aB)
   (aO (bQ (i:=7) nd aB)
   (aO (bQ (i:=8) nd (dS d__law_number hr (a8 (qv 0) (a8 (qv 1) aF))))
   (aO (cZ (mP (cR (qv 8) aB) aB) (aO (iI 9 nd (oN rfl B.range (qv 4))
     (aO (bQ (i:=10) nd (cR (eO (qv 8) aB) (j8 (qv 2) (qv 3))))
     (aO (bQ (i:=8) nd (eO (qv 8) (j8 (qv 2) (qv 3))))
     (aW (cZ (V3 hu3 (dI (a8 (eO (qv 10) (qv 3)) (a8 (cR (qv 10) (qv 3)) aF))) (qv 5)) (aW (oM 5 (dI (a8 (eO (qv 10) (qv 3)) (a8 (cR (qv 10) (qv 3)) aF))))) dD)))))
    (aW (cB (l0 B (a8 (wS B (a8 (qv 5) aF)) aF))))) dD)
   (aO (iI 9 nd (oN rfl B.range (qv 4))
    (aO (bQ (i:=11) nd (dS d__law_number hr (a8 (qv 0) (a8 (cY (qv 1) (qv 9)) aF))))
    (aO (cZ (gW (rP (mO (qv 9) aB) (rO (mO (cR (qv 11) aB) aB)))) (aO (bQ (i:=6) nd (cR (cY (qv 6) (cR (eO (qv 11) aB) aB)) (qv 2)))
     (aW (bQ (i:=7) nd (cR (cY (qv 7) (cR (eO (qv 11) aB) aB)) (qv 3))))) (aO (bQ (i:=6) nd (cR (eO (qv 11) aB) (qv 2)))
     (aW (bQ (i:=7) nd (cR (eO (qv 11) aB) (qv 3))))))
    (aW (cZ (V3 hu3 (dI (a8 (qv 6) (a8 (qv 7) aF))) (qv 5)) (aW (oM 5 (dI (a8 (qv 6) (a8 (qv 7) aF))))) dD)))))
   (aW (cB (l0 B (a8 (wS B (a8 (qv 5) aF)) aF)))))))))),bb1⟩)
theorem ag7:FnScope ["script","cell","rows","columns","many_due","found","seeds","spot","turn","some","wrong","odd"] ["script"] (b7 (bH 26)):=.au
theorem be1 (B:Bt mg)(F:gB K "law" "law" (bH 26) f fd)(d__law_cell:Df P w K mg base 1 "_law_cell" ["script","k"] lE)(d_fewest_on_board:cF P w K mg base 2 "fewest_on_board" ["rows","columns"] nN)(d__law_whole:Df P w K mg base 1 "_law_whole" ["found"] mY)(d_board_seeds:cF P w K mg base 2 "board_seeds" ["rows","columns"] nO)(d__law_cells_are:Df P w K mg base 2 "_law_cells_are" ["found","due"] t8)(d__law_burnt:Df P w K mg base 2 "_law_burnt" ["rows","columns","seeds"] pD)(d__law_few:Df P w K mg base 3 "_law_few" ["script","at","rows","columns","many"] tR)(d_board_burnt:cF P w K mg base 3 "board_burnt" ["rows","columns","seeds"] tI)(d__law_refused:Df P w K mg base 3 "_law_refused" ["which","rows","columns"] pQ)(bs:mg "set" = none):dR P w K mg base fQ 4 f fd ["script"] (oG K yF):=
 aK2 F ag7 (λxs Q h=>by unfold yF at h;repeat (first|(obtain⟨rfl,_⟩:=h;rfl)|(obtain⟨_,h⟩:=h))) (λcdv A outer s H E hr=>by
  have nd:=ag7.nd;have hu3:=yG hr
  exact⟨(af5),(aO (bQ (i:=1) nd (dS d__law_cell hr (a8 (qv 0) (a8 aB aF))))
   (aO (bQ (i:=2) nd (cY aB (cR (qv 1) aB)))
   (aO (bQ (i:=3) nd (cY aB (cR (eO (qv 1) aB) aB)))
   (aO (cZ (mP (cR (eO (qv 1) aB) aB) aB) (aO (bQ (i:=2) nd (cY aB (cR (eO (qv 1) aB) aB)))
    (aW (bQ (i:=3) nd (cY aB (cR (eO (qv 1) aB) aB))))) dD)
   (aO (bQ (i:=4) nd (eO (cY (cY (qv 2) (qv 3)) aB) aB))
   (aO (bQ (i:=5) nd (wZ d_fewest_on_board hr (a8 (qv 2) (a8 (qv 3) aF))))
   (aO (cZ (gW (iG (j9 (iF (dS d__law_whole hr (a8 (qv 5) aF)))) (jZ (rN (qv 5) (qv 4))))) (aW (cB fI)) dD)
   (aO (bQ (i:=6) nd (wZ d_board_seeds hr (a8 (qv 2) (a8 (qv 3) aF))))
   (aO (cZ (gW (iG (j9 (iF (dS d__law_cells_are hr (a8 (qv 6) (a8 (l0 B (a8 (aY6 hu3 B bs rfl (a8 (qv 6) aF)) aF)) aF))))) (jZ (rN (i7 B (a8 (qv 6) aF)) (qv 4))))) (aW (cB fI)) dD)
   (aO (iI 7 nd (iH (qv 6))
    (aW (cZ (gW (iG (mM (cS (qv 7) aB) aB) (iG (L7 (cS (qv 7) aB) (qv 2)) (iG (mM (cS (qv 7) aB) aB) (jZ (L7 (cS (qv 7) aB) (qv 3))))))) (aW (cB fI)) dD)))
   (aO (cZ (rN (i7 B (a8 (dS d__law_burnt hr (a8 (qv 2) (a8 (qv 3) (a8 (qv 6) aF)))) aF)) (j8 (qv 2) (qv 3))) (aW (cB fI)) dD)
   (aO (iI 8 nd (oN rfl B.range aB)
    (aO (bQ (i:=9) nd (dS d__law_few hr (a8 (qv 0) (a8 (cY aB (j8 aB (qv 8))) (a8 (qv 2) (a8 (qv 3) (a8 (jY (qv 4) aB) aF)))))))
    (aO (cZ (mP (i7 B (a8 (wZ d_board_burnt hr (a8 (qv 2) (a8 (qv 3) (a8 (qv 9) aF)))) aF)) (j8 (qv 2) (qv 3))) (aW (cB fI)) dD)
    (aW (cZ (mP (i7 B (a8 (dS d__law_burnt hr (a8 (qv 2) (a8 (qv 3) (a8 (qv 9) aF)))) aF)) (j8 (qv 2) (qv 3))) (aW (cB fI)) dD)))))
   (aO (bQ (i:=10) nd (rQ (a8 (dI (a8 aB (a8 (qv 2) aF))) (a8 (dI (a8 (qv 3) (a8 aB aF))) (a8 (dI (a8 aB (a8 (qv 3) aF))) (a8 (dI (a8 (qv 2) (a8 (cY aB (cR (eO (qv 1) aB) (L4 aB aB))) aF))) (a8 (dI (a8 (jY (aD3 aB) (cR (qv 1) (L4 aB aB))) (a8 aB aF))) aF)))))))
   (aO (bQ (i:=11) nd (cS (qv 10) (cR (dS d__law_cell hr (a8 (qv 0) (a8 aB aF))) aB)))
   (aW (cB (oJ (dS d__law_refused hr (a8 aB (a8 (cS (qv 11) aB) (a8 (cS (qv 11) aB) aF)))) (vY (dS d__law_refused hr (a8 aB (a8 (cS (qv 11) aB) (a8 (cS (qv 11) aB) aF)))))))))))))))))))))),bb5⟩)
end
set_option autoImplicit true in
theorem be2 {l:OpenLaw}{w:bc}{K:Frag}{h:Heap}{mg:Str->Option av}(X:K.In h)(G:h.Ns mainGlobals mg)(hfa:mg "law" = some (.ref fa))(h0:FK K "rises" 5 f0 d0)(h1:FK K "marked" 6 f1 d1)(h2:FK K "looked_through" 10 f2 d2)(h3:FK K "is_cell" 11 f3 d3)(h4:FK K "_law_cell" 18 f4 d4)(h5:FK K "_law_whole" 20 f5 d5)(h6:FK K "_law_beside" 22 f6 d6)(h7:FK K "made_cells" 12 f7 d7)(h8:FK K "sides_of" 13 f8 d8)(h9:FK K "fewest_on_board" 15 f9 d9)(h10:FK K "board_seeds" 16 f10 d10)(h11:FK K "_law_number" 19 f11 d11)(h12:FK K "_law_cells_are" 21 f12 d12)(h13:FK K "_law_burnt" 23 f13 d13)(h14:FK K "board_burnt" 14 f14 d14)(h15:FK K "_law_refused" 24 f15 d15)(h16:FK K "_law_few" 25 f16 d16)(a17:nsIn K mainGlobals "law" = some (some (.ref f17)))(l17:K.lookup f17=some ⟨oc17,od17,.func (fnOf "law" "law" (iY (bH 26)) (eJ (bH 26)) (b7 (bH 26)) .none kV17 dc17 pm17 an17 cd17 ct17),sl17⟩)(c17:codeIn K cd17 "law" = true)(k17:keepIn K (.ref f17)=true)(z_len:nsIn K mainGlobals "len" = some none)(z_range:nsIn K mainGlobals "range" = some none)(z_tuple:nsIn K mainGlobals "tuple" = some none)(z_list:nsIn K mainGlobals "list" = some none)(z_sorted:nsIn K mainGlobals "sorted" = some none)(z_all:nsIn K mainGlobals "all" = some none)(z_any:nsIn K mainGlobals "any" = some none)(z_zip:nsIn K mainGlobals "zip" = some none)(z_min:nsIn K mainGlobals "min" = some none)(z_max:nsIn K mainGlobals "max" = some none)(z_sum:nsIn K mainGlobals "sum" = some none)(z_isinstance:nsIn K mainGlobals "isinstance" = some none)(z_int:nsIn K mainGlobals "int" = some none)(z_bool:nsIn K mainGlobals "bool" = some none)(z_enumerate:nsIn K mainGlobals "enumerate" = some none)(z_set:nsIn K mainGlobals "set" = some none){u_ENOUGH:Nat}(z_ENOUGHx:nsIn K mainGlobals "ENOUGH" = some (some (.int 2 u_ENOUGH))){u_MOST_ROWS:Nat}(z_MOST_ROWSx:nsIn K mainGlobals "MOST_ROWS" = some (some (.int 40 u_MOST_ROWS))){C_HearthError C_BadSet C_BadBoard:ay}(aX_HE:nsIn K mainGlobals "HearthError" = some (some (.ref C_HearthError)))(aX_BS:nsIn K mainGlobals "BadSet" = some (some (.ref C_BadSet)))(aX_BB:nsIn K mainGlobals "BadBoard" = some (some (.ref C_BadBoard)))(zX_BW:nsIn K mainGlobals "BadWeb" = some none)(zX_BO:nsIn K mainGlobals "BadOrder" = some none)(zX_BP:nsIn K mainGlobals "BadPrices" = some none)(zX_BD:nsIn K mainGlobals "BadDeed" = some none)(zX_NW:nsIn K mainGlobals "NotWood" = some none)(zX_NP:nsIn K mainGlobals "NoPaper" = some none)(zX_NS:nsIn K mainGlobals "NoSuch" = some none)(zX_TM:nsIn K mainGlobals "TooMany" = some none)(zX_NT:nsIn K mainGlobals "NoText" = some none)(zX_OR:nsIn K mainGlobals "OddRound" = some none)(y_fg:specialIn K (.builtin "object.__class__") "__get__" = some (some (.builtin "getset_descriptor.__get__")))(y_ft:takesIn K (.builtin "object.__class__")=some true)(z_VE:nsIn K mainGlobals "ValueError" = some none)(y1_HE:isClsIn K C_HearthError=true)(y2_HE:typeIn K (.ref C_HearthError)=some (.type "type"))(y3_HE:findIn K (.ref C_HearthError) "__getattribute__" = some (some (.builtin "BaseException.__getattribute__")))(y4_HE:findIn K (.ref C_HearthError) "__getattr__" = some none)(y5_HE:findIn K (.ref C_HearthError) "__class__" = some (some (.builtin "object.__class__")))(y6_HE:mroIn K C_HearthError (.type "object")=some true)(y7_HE:mroIn K C_HearthError (.type "BaseException")=some true)(y1_BS:isClsIn K C_BadSet=true)(y2_BS:typeIn K (.ref C_BadSet)=some (.type "type"))(y3_BS:findIn K (.ref C_BadSet) "__getattribute__" = some (some (.builtin "BaseException.__getattribute__")))(y4_BS:findIn K (.ref C_BadSet) "__getattr__" = some none)(y5_BS:findIn K (.ref C_BadSet) "__class__" = some (some (.builtin "object.__class__")))(y6_BS:mroIn K C_BadSet (.type "object")=some true)(y7_BS:mroIn K C_BadSet (.type "BaseException")=some true)(y1_BB:isClsIn K C_BadBoard=true)(y2_BB:typeIn K (.ref C_BadBoard)=some (.type "type"))(y3_BB:findIn K (.ref C_BadBoard) "__getattribute__" = some (some (.builtin "BaseException.__getattribute__")))(y4_BB:findIn K (.ref C_BadBoard) "__getattr__" = some none)(y5_BB:findIn K (.ref C_BadBoard) "__class__" = some (some (.builtin "object.__class__")))(y6_BB:mroIn K C_BadBoard (.type "object")=some true)(y7_BB:mroIn K C_BadBoard (.type "BaseException")=some true)(sB_HE:subIn K (.ref C_HearthError) (.type "BaseException")=some true)(s_BS_HE:subIn K (.ref C_BadSet) (.ref C_HearthError)=some true)(s_BB_HE:subIn K (.ref C_BadBoard) (.ref C_HearthError)=some true)(sN_BB:subIn K (.type "NoneType") (.ref C_BadBoard)=some false)(s_BS_BB:subIn K (.ref C_BadSet) (.ref C_BadBoard)=some false)(n_BS_BB:(C_BadSet==C_BadBoard)=false)(sN_BS:subIn K (.type "NoneType") (.ref C_BadSet)=some false)(s_BB_BS:subIn K (.ref C_BadBoard) (.ref C_BadSet)=some false)(n_BB_BS:(C_BadBoard==C_BadSet)=false)(sV_BS:subIn K (.ref C_BadSet) (.type "ValueError")=some true)(sV_BB:subIn K (.ref C_BadBoard) (.type "ValueError")=some true)(q_BB:excIn K C_BadBoard [.type "ValueError",.type "Exception",.type "BaseException",.type "object"] "ValueError.__new__" = true)(q_BS:excIn K C_BadSet [.type "ValueError",.type "Exception",.type "BaseException",.type "object"] "ValueError.__new__" = true)
 :∃fd:FuncData,(∀(s:ax) (v:av),BindsTo s fd ⟨[v],[]⟩ [("script",v)])/\∀base:Heap,K.In base->base.Ns mainGlobals mg->dR l.prog w K mg base fQ 4 fa fd ["script"] (sO K):=by
 have e:=hfa.symm.trans (mg_of X G a17);cases e;have F17:=au3 (st:=bH 26) l17 c17 k17;have m17:=mg_of X G a17;have B:Bt mg:=⟨mg_none_of X G z_len,mg_none_of X G z_range,mg_none_of X G z_tuple,mg_none_of X G z_list,mg_none_of X G z_sorted,mg_none_of X G z_all,mg_none_of X G z_any,mg_none_of X G z_zip,mg_none_of X G z_min,mg_none_of X G z_max,mg_none_of X G z_sum,mg_none_of X G z_isinstance,mg_none_of X G z_int,mg_none_of X G z_bool,mg_none_of X G z_enumerate⟩;have bs:=mg_none_of X G z_set;have m_ENOUGH:=mg_of X G z_ENOUGHx;have m_MOST_ROWS:=mg_of X G z_MOST_ROWSx;refine⟨fnOf "law" "law" (iY (bH 26)) (eJ (bH 26)) (b7 (bH 26)) .none kV17 dc17 pm17 an17 cd17 ct17,λs v=>.of_eq rfl,λbase KB _=>?_⟩;have XK_HearthError:lH K C_HearthError:=⟨y1_HE,y2_HE,y3_HE,y4_HE,y5_HE,y_fg,y_ft,y6_HE,y7_HE⟩;have XK_BadSet:lH K C_BadSet:=⟨y1_BS,y2_BS,y3_BS,y4_BS,y5_BS,y_fg,y_ft,y6_BS,y7_BS⟩;have XK_BadBoard:lH K C_BadBoard:=⟨y1_BB,y2_BB,y3_BB,y4_BB,y5_BB,y_fg,y_ft,y6_BB,y7_BB⟩
 have cat_HearthError:x5 K mg "HearthError":=⟨C_HearthError,mg_of X G aX_HE,⟨y1_HE,y2_HE,sB_HE⟩,λn C h2 h1=>by
  obtain⟨hm,hb⟩:=sU h2
  simp only[nB,bg6,bh7,bo4]at hm;rcases hm with rfl|rfl|rfl|rfl|rfl|rfl|rfl|rfl|rfl|rfl|rfl|rfl
  ·rw[zX_BW]at h1;cases h1
  ·rw[aX_BS]at h1;cases h1;exact s_BS_HE
  ·rw[zX_BO]at h1;cases h1
  ·rw[zX_BP]at h1;cases h1
  ·rw[aX_BB]at h1;cases h1;exact s_BB_HE
  ·rw[zX_BD]at h1;cases h1
  ·rw[zX_NW]at h1;cases h1
  ·rw[zX_NP]at h1;cases h1
  ·rw[zX_NS]at h1;cases h1
  ·rw[zX_TM]at h1;cases h1
  ·rw[zX_NT]at h1;cases h1
  ·rw[zX_OR]at h1;cases h1⟩
 have is_BadBoard:p9 K mg "BadBoard":=⟨C_BadBoard,mg_of X G aX_BB,λz=>(by cases z),(λn C b h1 h2=>by
  obtain⟨hm,hb⟩:=sU h2
  simp only[nB,bg6,bh7,bo4]at hm;rcases hm with rfl|rfl|rfl|rfl|rfl|rfl|rfl|rfl|rfl|rfl|rfl|rfl
  ·rw[zX_BW]at h1;cases h1
  ·rw[aX_BS]at h1;cases h1;rw[hb,show (("BadSet":Str)=="BadBoard"||("BadBoard":Str)=="HearthError"||("BadBoard":Str)=="ValueError")=false by decide];exact⟨XK_BadSet.exc,T0 XK_BadBoard n_BS_BB s_BS_BB⟩
  ·rw[zX_BO]at h1;cases h1
  ·rw[zX_BP]at h1;cases h1
  ·rw[aX_BB]at h1;cases h1;rw[hb,show (("BadBoard":Str)=="BadBoard"||("BadBoard":Str)=="HearthError"||("BadBoard":Str)=="ValueError")=true by decide];exact⟨XK_BadBoard.exc,T2⟩
  ·rw[zX_BD]at h1;cases h1
  ·rw[zX_NW]at h1;cases h1
  ·rw[zX_NP]at h1;cases h1
  ·rw[zX_NS]at h1;cases h1
  ·rw[zX_TM]at h1;cases h1
  ·rw[zX_NT]at h1;cases h1
  ·rw[zX_OR]at h1;cases h1),T4 XK_BadBoard sN_BB⟩
 have is_BadSet:p9 K mg "BadSet":=⟨C_BadSet,mg_of X G aX_BS,λz=>(by cases z),(λn C b h1 h2=>by
  obtain⟨hm,hb⟩:=sU h2
  simp only[nB,bg6,bh7,bo4]at hm;rcases hm with rfl|rfl|rfl|rfl|rfl|rfl|rfl|rfl|rfl|rfl|rfl|rfl
  ·rw[zX_BW]at h1;cases h1
  ·rw[aX_BS]at h1;cases h1;rw[hb,show (("BadSet":Str)=="BadSet"||("BadSet":Str)=="HearthError"||("BadSet":Str)=="ValueError")=true by decide];exact⟨XK_BadSet.exc,T2⟩
  ·rw[zX_BO]at h1;cases h1
  ·rw[zX_BP]at h1;cases h1
  ·rw[aX_BB]at h1;cases h1;rw[hb,show (("BadBoard":Str)=="BadSet"||("BadSet":Str)=="HearthError"||("BadSet":Str)=="ValueError")=false by decide];exact⟨XK_BadBoard.exc,T0 XK_BadSet n_BB_BS s_BB_BS⟩
  ·rw[zX_BD]at h1;cases h1
  ·rw[zX_NW]at h1;cases h1
  ·rw[zX_NP]at h1;cases h1
  ·rw[zX_NS]at h1;cases h1
  ·rw[zX_TM]at h1;cases h1
  ·rw[zX_NT]at h1;cases h1
  ·rw[zX_OR]at h1;cases h1),T4 XK_BadSet sN_BS⟩
 have is_ValueError:x8 K mg:=⟨mg_none_of X G z_VE,λz=>(by cases z),(λn C b h1 h2=>by
  obtain⟨hm,hb⟩:=sU h2
  simp only[nB,bg6,bh7,bo4]at hm;rcases hm with rfl|rfl|rfl|rfl|rfl|rfl|rfl|rfl|rfl|rfl|rfl|rfl
  ·rw[zX_BW]at h1;cases h1
  ·rw[aX_BS]at h1;cases h1;rw[hb,show (("BadSet":Str)=="ValueError"||("ValueError":Str)=="HearthError"||("ValueError":Str)=="ValueError")=true by decide];exact⟨XK_BadSet.exc,T3 sV_BS⟩
  ·rw[zX_BO]at h1;cases h1
  ·rw[zX_BP]at h1;cases h1
  ·rw[aX_BB]at h1;cases h1;rw[hb,show (("BadBoard":Str)=="ValueError"||("ValueError":Str)=="HearthError"||("ValueError":Str)=="ValueError")=true by decide];exact⟨XK_BadBoard.exc,T3 sV_BB⟩
  ·rw[zX_BD]at h1;cases h1
  ·rw[zX_NW]at h1;cases h1
  ·rw[zX_NP]at h1;cases h1
  ·rw[zX_NS]at h1;cases h1
  ·rw[zX_TM]at h1;cases h1
  ·rw[zX_NT]at h1;cases h1
  ·rw[zX_OR]at h1;cases h1),aM6⟩
 have x_BadBoard:Xc K mg base "BadBoard":=⟨C_BadBoard,_,_,_,_,S9 KB (mg_of X G aX_BB) q_BB,PySem.F.excBase_ValueError,aX_BB⟩;have x_BadSet:Xc K mg base "BadSet":=⟨C_BadSet,_,_,_,_,S9 KB (mg_of X G aX_BS) q_BS,PySem.F.excBase_ValueError,aX_BS⟩;have D0:=bb7 (P:=l.prog) (w:=w) (base:=base) B (h0.M X G);have D1:=bb8 (P:=l.prog) (w:=w) (base:=base) B (h1.M X G);have D2:=bc0 (P:=l.prog) (w:=w) (base:=base) B (h2.M X G)  x_BadBoard m_MOST_ROWS;have D3:=bc2 (P:=l.prog) (w:=w) (base:=base) B (h3.M X G);have D4:=bc4 (P:=l.prog) (w:=w) (base:=base) B (h4.M X G);have D5:=bc6 (P:=l.prog) (w:=w) (base:=base) B (h5.M X G);have D6:=bc7 (P:=l.prog) (w:=w) (base:=base) B (h6.M X G);have D7:=bc9 (P:=l.prog) (w:=w) (base:=base) B (h7.M X G) D2 D0 D3 x_BadSet;have D8:=bd0 (P:=l.prog) (w:=w) (base:=base) B (h8.M X G) D3;have D9:=bd3 (P:=l.prog) (w:=w) (base:=base) B (h9.M X G) D2;have D10:=bd4 (P:=l.prog) (w:=w) (base:=base) B (h10.M X G) D2;have D11:=bd5 (P:=l.prog) (w:=w) (base:=base) B (h11.M X G) D4;have D12:=bd6 (P:=l.prog) (w:=w) (base:=base) B (h12.M X G) D5;have D13:=bd7 (P:=l.prog) (w:=w) (base:=base) B (h13.M X G) D6;have D14:=bd8 (P:=l.prog) (w:=w) (base:=base) B (h14.M X G) D7 D1 D8 m_ENOUGH;have D15:=bd9 (P:=l.prog) (w:=w) (base:=base) B (h15.M X G) D9 D10 cat_HearthError is_BadSet is_BadBoard is_ValueError;have D16:=be0 (P:=l.prog) (w:=w) (base:=base) B (h16.M X G) D11;exact aK3 (be1 B F17 D4 D9 D5 D10 D12 D13 D16 D14 D15 bs)
theorem be3 {l:OpenLaw}{q:az}{loose:List Str}{XP:(Str->Option av)->Heap->Prop}{YP:bc->Heap->Prop}{d:DefRec}{K:Params->Frag}(hn:l.most=some 63)(hdf:d.params.defaults = [])(hY:∀(w:bc) (h:Heap),YP w h->(K w.params).In h)(F:∀(w:bc) (mg:Str->Option av) (fa:ay) (h:Heap),(K w.params).In h->h.Ns mainGlobals mg->mg d.name=some (.ref fa)->
   ∃fd:FuncData,(∀(s:ax) (u:av),BindsTo s fd ⟨[u],[]⟩ [("script",u)])/\∀base:Heap,(K w.params).In base->base.Ns mainGlobals mg->dR l.prog w (K w.params) mg base fQ 4 fa fd ["script"] (sO (K w.params))) :
  WalkO q loose XP YP l.row.toRowW d [] (λf vs=>PySem.call f vs):=
 L2.au1 (n:=63) (k:=4) (x:="script") (CX:=λ_=>fQ) (sp:=λw=>sO (K w.params)) hn (by decide) hdf ⟨rfl,by decide,by decide⟩ hY F (λ_ _ a ns hl hO hS=>⟨a,ns,rfl,aK4 hO hS,hl,λ_=>rfl⟩) λ_ _ _ _ _ z=>z
end K_k65
open PySem PySem.W PyProof.Rows
theorem PySem.W.Fast.te13052408679150730464 : True := trivial
theorem PySem.W.Fast.te16555476440528808052 : True := trivial
theorem PySem.W.Fast.te5369427470323729400 : True := trivial
set_option maxRecDepth 100000 in
set_option maxHeartbeats 0 in
theorem PySem.Challenge.cw_kindleweb_k65_whole_fewest_on_boards_holds : PySem.Challenge.rw_kindleweb_k65_whole_fewest_on_boards.Holds := by
 w_on;o_law;k_head;(case hw => w_witness2)
 k_fill
 refine K_k65.be3 (l := PySem.Challenge.rw_kindleweb_k65_whole_fewest_on_boards) rfl rfl (λw h Y => PySem.W.kIn_of Y) ?F
 case F =>
  intro w mg fa h KX G hmg
  refine' K_k65.be2 KX G hmg ?h0 ?h1 ?h2 ?h3 ?h4 ?h5 ?h6 ?h7 ?h8 ?h9 ?h10 ?h11 ?h12 ?h13 ?h14 ?h15 ?h16 ?a17 ?l17 ?c17 ?k17 ?z_len ?z_range ?z_tuple ?z_list ?z_sorted ?z_all ?z_any ?z_zip ?z_min ?z_max ?z_sum ?z_isinstance ?z_int ?z_bool ?z_enumerate ?z_set ?z_ENOUGHx ?z_MOST_ROWSx ?aX_HE ?aX_BS ?aX_BB ?zX_BW ?zX_BO ?zX_BP ?zX_BD ?zX_NW ?zX_NP ?zX_NS ?zX_TM ?zX_NT ?zX_OR ?y_fg ?y_ft ?z_VE ?y1_HE ?y2_HE ?y3_HE ?y4_HE ?y5_HE ?y6_HE ?y7_HE ?y1_BS ?y2_BS ?y3_BS ?y4_BS ?y5_BS ?y6_BS ?y7_BS ?y1_BB ?y2_BB ?y3_BB ?y4_BB ?y5_BB ?y6_BB ?y7_BB ?sB_HE ?s_BS_HE ?s_BB_HE ?sN_BB ?s_BS_BB ?n_BS_BB ?sN_BS ?s_BB_BS ?n_BB_BS ?sV_BS ?sV_BB ?q_BB ?q_BS
  (case h0|h1|h2|h3|h4|h5|h6|h7|h8|h9|h10|h11|h12|h13|h14|h15|h16 => exact⟨by k_is, ⟨⟨_, _, _, _, _, _, _, _, _, rfl, by k_is, by k_is⟩, by k_is⟩⟩)
  (case a17|l17|c17|k17|z_len|z_range|z_tuple|z_list|z_sorted|z_all|z_any|z_zip|z_min|z_max|z_sum|z_isinstance|z_int|z_bool|z_enumerate|z_set|z_ENOUGHx|z_MOST_ROWSx|aX_HE|aX_BS|aX_BB|zX_BW|zX_BO|zX_BP|zX_BD|zX_NW|zX_NP|zX_NS|zX_TM|zX_NT|zX_OR|y_fg|y_ft|z_VE|y1_HE|y2_HE|y3_HE|y4_HE|y5_HE|y6_HE|y7_HE|y1_BS|y2_BS|y3_BS|y4_BS|y5_BS|y6_BS|y7_BS|y1_BB|y2_BB|y3_BB|y4_BB|y5_BB|y6_BB|y7_BB|sB_HE|s_BS_HE|s_BB_HE|sN_BB|s_BS_BB => k_is)
  (case n_BS_BB => decide)
  (case sN_BS|s_BB_BS => k_is)
  (case n_BB_BS => decide)
  (case sV_BS|sV_BB => k_is)
  (case q_BB|q_BS => k_exc)


