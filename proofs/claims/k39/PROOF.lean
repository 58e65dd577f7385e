import PyProof.Rows.All
import Wide.All
import OpenK.AllK
import Wide.FinOn
import Lean
import PyProof.EqAt
import PyProof.EqKinds
import PyProof.TupleCall
import PyProof.NeKinds
import PyProof.Draws
import PyProof.ZipIter
import PyProof.DictUpdate
import PyProof.AutoSeq1
import PyProof.ListRange
import PyProof.ListMulRoad
import PyProof.FactsAll.tuple_2
import PyProof.Rows.SortShell
import PyProof.EnumFor
import PyProof.EnumMake
import PyProof.EnumStmt
import PyProof.Rows.SortWalk
import KE.KDictList
import PyProof.SumAny
import PyProof.ConsumeWalk
import PyProof.WalksMore
import PyProof.Rows.TupAssign
import PyProof.ExcArgsOwn
import PySem.Challenge.RW_kindleweb_k39_whole_no_fewer_no_cheaper
set_option Elab.async false
set_option linter.all false
set_option maxRecDepth 100000
set_option maxHeartbeats 4000000
section
open PySem PySem.Spec PyProof.Rows
def bk3:=@wpAny_bind
def bk5:=@List.getElem?_eq_getElem
def bk6:=@Heap.get?_push_of_some
def bk7:=@Nat.le_refl
def bk8:=@wpAny_pure
def bk9:=@List.size_toArray
def bl0:=@List.mem_singleton
def bl1:=@decide_eq_false
def bl3:=@List.getD_eq_getElem?_getD
def bl4:=@List.getElem?_map
def bl5:=@List.length_map
def bl6:=@decide_eq_true
def bl7:=@List.mem_cons_self
def bl8:=@List.mem_cons
def bl9:=@List.getElem?_eq_some_iff
def bm0:=@List.mem_filter
def bm1:=@List.mem_cons_of_mem
def bm2:=@wpS_bind
def bm3:=@Heap.lt_size
def bm4:=@Heap.get?_push_size
def bm5:=@Nat.lt_of_lt_of_le
def bm6:=@Bool.false_ne_true
def bm7:=@List.length_append
def bm8:=@decide_eq_true_eq
def bm9:=@wpS_pure
def bn0:=@Bool.false_eq_true
def bn1:=@List.not_mem_nil
def bn2:=@List.mem_of_getElem?
def bn4:=@List.mem_append
def bn6:=@List.map_append
def bn7:=@List.mem_map
def bn8:=@Option.some.inj
def bn9:=@List.take_length
def bo0:=@List.append_assoc
def bo1:=@List.pairwise_singleton
def bo2:=@Nat.ne_of_lt
def bo3:=@List.length_cons
def bo4:=@Nat.zero_le
def bo5:=@List.getElem?_set_ne
def bo6:=@List.mem_append_right
def bo9:=@List.append_nil
def bp0:=@Nat.lt_or_ge
def bp1:=@Int.toNat_natCast
def bp2:=@List.getElem?_append_left
def bp3:=@List.pairwise_iff_getElem
def bp4:=@Bool.and_eq_true
def bp5:=@Nat.le_trans
def bp6:=@List.take_add_one
def bp7:=@List.filter_cons
def bp8:=@List.pairwise_append
def bp9:=@List.take_of_length_le
def bq0:=@List.getElem?_append_right
def bq1:=@if_false
def bq2:=@of_decide_eq_true
def bq3:=@Array.getElem_mem
def bq4:=@decide_eq_false_iff_not
def bq5:=@List.map_cons
def bq6:=@List.length_singleton
def bq7:=@List.take_append_drop
def bq8:=@Bool.eq_iff_iff
def bq9:=@Array.length_toList
def br0:=@PySem.mem_of_lookup
def br2:=@Nat.lt_irrefl
def br4:=@or_false
def br7:=@wpAny_newObj_type
def br8:=@List.length_set
def br9:=@wpAny_field
def bs0:=@wpAny_callSpecial?_slot
def bs1:=@List.getElem?_cons_succ
def bs2:=@wpAny_mono
def bs4:=@wpAny_call_entry
def bs5:=@List.lookup_cons
def bs6:=@List.getElem_mem
def bs7:=@Nat.le_add_right
def bs8:=@List.pairwise_map
def bt1:=@wpAny_holding
def bt2:=@wpAny_setField_rec
def bt3:=@PyProof.Rows.callWith_type1
def bt4:=@Array.toList_append
def bt6:=@List.length_take
def bt7:=@List.mem_append_left
def bt8:=@List.eq_nil_of_length_eq_zero
def bt9:=@List.getElem?_set_self
def bu0:=@wpS_forRange
def bu1:=@List.nodup_cons
def bu2:=@beq_self_eq_true
def bu3:=@List.all_eq_true
def bu4:=@List.replicate_succ
def bu5:=@Array.getElem?_toList
def bu6:=@Nat.le_of_lt
def bu7:=@wpAny_truthy_bool
def bv0:=@List.find?_cons
def bv1:=@Int.emod_nonneg
def bv2:=@Nat.ne_of_gt
def bv3:=@List.length_drop
def bv4:=@PySem.F.plain_min_loop
def bv5:=@Classical.byContradiction
def bv6:=@List.getElem_of_mem
def bv7:=@List.filter_eq_self
def bv8:=@List.Pairwise.nil
def bv9:=@Int.le_refl
def bw1:=@Heap.size_push
def bw2:=@wpAny_seqItems
def bw4:=@of_decide_eq_false
def bw5:=@Array.getD_eq_getD_getElem?
def bw7:=@Heap.get?_update_other
def bw9:=@List.map_eq_nil_iff
def bx0:=@PyProof.Rows.slot_tuple_getitem
def bx1:=@Heap.get?_update_self
def bx2:=@wpAny_pyIter_tuple
def bx4:=@PySem.F.slot_list_append
def bx5:=@PySem.F.type_list_append
def bx6:=@List.map_map
def bx7:=@Int.zero_add
def by1:=@Nat.pow_le_pow_right
def by5:=@List.flatten_cons
def by6:=@Bool.eq_false_iff
def by7:=@List.length_range
def by8:=@PySem.F.plainAttrs_list
def by9:=@List.nodup_append
def bz2:=@wpAny_rule
def bz3:=@List.countP_eq_length_filter
def bz4:=@Heap.SameBut.update
def bz5:=@List.filter_sublist
def bz6:=@List.pairwise_lt_range
def bz7:=@List.filter_eq_nil_iff
def bz9:=@List.all_cons
def bA0:=@List.any_cons
def bA1:=@Bool.and_true
def bA2:=@List.mem_range
def bA3:=@List.zip_cons_cons
def bA4:=@Nat.lt_of_le_of_lt
def bA5:=@Nat.eq_or_lt_of_le
def bA6:=@List.filter_append
def bA7:=@List.length_filter_le
def bA8:=@List.getElem?_eq_none
def bA9:=@wpAny_passesOwn
def bB0:=@wpAny_loadPart'
def bB4:=@wpS_mono
def bB5:=@Around.under_plainId
def bB9:=@List.drop_take
end
abbrev aa:=List (Int×Int)
abbrev ad:=PySem.W.Frag
abbrev ae:=List (List Int)
abbrev af:=List Int
namespace L2
open PySem PySem.Spec PyProof.Rows
abbrev aG:=Sum Int Str
def lR:aG->Value->Bool
 |.inl k,v=>Value.isInt k v
 |.inr x,v=>Value.isStrOf x v
def al4 (w:World):aG->Int
 |.inl k=>hashInt k
 |.inr x=>hashStr w x
theorem iA:∀{k:aG}{v:Value},lR k v=true->(∃i t,k=Sum.inl i/\v=Value.int i t)∨(∃x t,k=Sum.inr x/\v=Value.str x t)
 |.inl i,v,h=>by
  obtain⟨t,e⟩:=Value.isInt_shape (k:=i) (v:=v) h
  exact .inl ⟨i,t,rfl,e⟩
 |.inr x,v,h=>by
  obtain⟨t,e⟩:=Value.isStrOf_shape (x:=x) (v:=v) h
  exact .inr ⟨x,t,rfl,e⟩
theorem al5 (i:Int)(t:Tok):lR (.inl i) (.int i t)=true:=by simp[lR,Value.isInt]
theorem al6 (x:Str)(t:Tok):lR (.inr x) (.str x t)=true:=by simp[lR,Value.isStrOf]
theorem al7 (a b:Int):decide ((Sum.inl a:aG)=Sum.inl b)=(a==b):=by
 by_cases e:a=b
 ·subst e;simp
 ·have h:¬(Sum.inl a:aG)=Sum.inl b:=λq=>e (Sum.inl.inj q)
  rw[bl1 h]
  exact (beq_eq_false_iff_ne.mpr e).symm
theorem al8 (a b:Str):decide ((Sum.inr a:aG)=Sum.inr b)=decide (a=b):=by
 by_cases e:a=b
 ·subst e;simp
 ·have h:¬(Sum.inr a:aG)=Sum.inr b:=λq=>e (Sum.inr.inj q)
  rw[bl1 h,bl1 e]
theorem al9 (a:Int)(b:Str):decide ((Sum.inl a:aG)=Sum.inr b)=false:=bl1 (λq=>nomatch q)
theorem am0 (a:Str)(b:Int):decide ((Sum.inr a:aG)=Sum.inl b)=false:=bl1 (λq=>nomatch q)
def fE (prog:Program)(w:World):PySem.KeyKind prog w aG where
 is:=lR
 hash:=al4 w
 inj:=λv a b ha hb=>by
  rcases iA ha with⟨i,t,rfl,rfl⟩|⟨x,t,rfl,rfl⟩
  ·rcases iA hb with⟨j,u,rfl,e⟩|⟨y,u,rfl,e⟩
   ·injection e with e1 _;rw[e1]
   ·exact nomatch e
  ·rcases iA hb with⟨j,u,rfl,e⟩|⟨y,u,rfl,e⟩
   ·exact nomatch e
   ·injection e with e1 _;rw[e1]
 byValue:=λk v h=>by
  rcases iA h with⟨i,t,rfl,rfl⟩|⟨x,t,rfl,rfl⟩<;>rfl
 pyHash:=λhv h=>by
  rcases iA hv with⟨i,t,rfl,rfl⟩|⟨x,t,rfl,rfl⟩
  ·exact wpAny_pyHash_int h
  ·exact wpAny_pyHash_str h
 eqBool:=λhu hv h=>by
  rcases iA hu with⟨i,t,rfl,rfl⟩|⟨x,t,rfl,rfl⟩
  ·rcases iA hv with⟨j,u,rfl,rfl⟩|⟨y,u,rfl,rfl⟩
   ·rw[al7]at h;exact wpAny_eqBool_int h
   ·rw[al9]at h;exact SeqAt.EqAt.int_str i t y u _ _ _ _ h
  ·rcases iA hv with⟨j,u,rfl,rfl⟩|⟨y,u,rfl,rfl⟩
   ·rw[am0]at h;exact SeqAt.EqAt.str_int x t j u _ _ _ _ h
   ·rw[al8]at h;exact wpAny_eqBool_str h
 «strs»:=λk x t v h=>by
  rcases iA h with⟨i,u,rfl,e⟩|⟨y,u,rfl,e⟩
  ·exact nomatch e
  ·injection e with e1 _
   subst e1
   cases v<;>rfl
theorem am1 (prog:Program)(w:World)(i:Int)(t:Tok):(fE prog w).is (.inl i) (.int i t)=true:=al5 i t
theorem am2 (prog:Program)(w:World)(x:Str)(t:Tok):(fE prog w).is (.inr x) (.str x t)=true:=al6 x t
inductive V where
 |non|bl (b:Bool)|int (i:Int)|str (x:Str)|byt (b:Array UInt8)|flt (b:UInt64)|ref (a:Addr)|ty (n:String)
 deriving DecidableEq
def aP:V->Value->Prop
 |.non,u=>u=Value.none
 |.bl b,u=>u=Value.bool b
 |.int i,u=>∃t,u=Value.int i t
 |.str x,u=>∃t,u=Value.str x t
 |.byt b,u=>∃t,u=Value.bytes b t
 |.flt b,u=>∃t,u=Value.float b t
 |.ref a,u=>u=Value.ref a
 |.ty n,u=>u=Value.type n
abbrev aI:List V->List Value->Prop:=Paired aP
theorem aI.length {xs:List V}{us:List Value}(r:aI xs us):xs.length=us.length:=Paired.length r
theorem aI.get:∀{xs:List V}{us:List Value}{i:Nat}{x:V},aI xs us->xs[i]? = some x->∃u,us[i]? = some u/\aP x u
 |_,_,_,_,.nil,e=>by simp at e
 |_,_,0,_,.cons r _,e=>by simp at e;subst e;exact⟨_,rfl,r⟩
 |_,_,i+1,x,.cons _ t,e=>by
  obtain⟨u,h1,h2⟩:=aI.get (i:=i) (x:=x) t (by simpa using e)
  exact⟨u,by simpa using h1,h2⟩
theorem aI.set {x:V}{u:Value}(r:aP x u):∀{xs:List V}{us:List Value} (i:Nat),aI xs us->aI (xs.set i x) (us.set i u)
 |_,_,_,.nil=>.nil
 |_,_,0,.cons _ t=>.cons r t
 |_,_,i+1,.cons q t=>.cons q (aI.set r i t)
theorem aI.append:∀{xs ys:List V}{us ws:List Value},aI xs us->aI ys ws->aI (xs++ys) (us++ws)
 |_,_,_,_,.nil,s=>s
 |_,_,_,_,.cons r t,s=>.cons r (aI.append t s)
theorem aI.take:∀{xs:List V}{us:List Value} (n:Nat),aI xs us->aI (xs.take n) (us.take n)
 |_,_,0,_=>.nil
 |_,_,_+1,.nil=>.nil
 |_,_,n+1,.cons r t=>.cons r (aI.take n t)
theorem aI.drop:∀{xs:List V}{us:List Value} (n:Nat),aI xs us->aI (xs.drop n) (us.drop n)
 |_,_,0,r=>r
 |_,_,_+1,.nil=>.nil
 |_,_,n+1,.cons _ t=>aI.drop n t
def iB:Option V->Option Value->Prop
 |some v,some u=>aP v u
 |none,none=>True
 |_,_=>False
def KV {κ:Type}:List (κ×V)->List (κ×Value)->Prop:=Paired λ(p:κ×V) (q:κ×Value)=>p.1=q.1/\aP p.2 q.2
def kV:aG->V
 |.inl i=>.int i
 |.inr x=>.str x
inductive HO where
 |lst (xs:List V)
 |tup (xs:List V)
 |dK (kvs:List (aG×V))|dT (kvs:List (List aG×V))
 |set (S:Int->Bool) (n:Nat)
 |ins (C dx:Addr) (fs:List (Str×V))
 |own (x:Addr)
 |xd (fs:List (Str×V))
 |met (f x:Addr)
 |rng (lo hi:Int)
 |frz (o:Obj) (u:HO)
 |tbl (ps:Array Value)
 |ext (φ:Heap->Prop)
abbrev Hp:=Addr->Option HO
def upd (H:Hp)(a:Addr)(o:HO):Hp:=λb=>if b=a then some o else H b
theorem aT {H:Hp}{a:Addr}{o:HO}:upd H a o a=some o:=by unfold upd;rw[if_pos rfl]
theorem aC {H:Hp}{a b:Addr}{o:HO}(h:b≠a):upd H a o b=H b:=by unfold upd;rw[if_neg h]
theorem zM {H:Hp}{a b:Addr}{o u:HO}(h:H a=some o)(h':H b=some u)(d:o≠u):a≠b:=by
 intro e;subst e;rw[h]at h';exact d (bn8 h')
theorem bX {H:Hp}{a b:Addr}{o:HO}(h:H a=some o)(h':H b=none):a≠b:=by
 intro e;subst e;rw[h]at h';cases h'
def gO (h:Heap)(a:Addr):Prop:=∀o,h.get? a=some o->o.dict=none
theorem gO.new (h:Heap)(o:Obj)(d:o.dict=none)(s:o.isFreed=false:=by rfl):gO (h.push o) h.objs.size:=λu e=>by
 rw[bm4 h (o:=o) s]at e
 cases e;exact d
theorem gO.stay {h h':Heap}{a:Addr}{o:Obj}(n:gO h a)(e:h.get? a=some o)(e':h'.get? a=some o):gO h' a:=λu hu=>by
 rw[e']at hu;cases hu;exact n _ e
section
variable (P:Program)(w:World)
def bM (H:Hp)(h:Heap)(a:Addr):HO->Prop
 |.lst xs=>xs.length<=sizeLine/\∃(its:List Value) (n:Nat),aI xs its/\h.get? a=some { cls:=.type "list",data:=.seq its.toArray n }
 |.tup xs=>xs.length<=sizeLine/\∃its:List Value,aI xs its/\IsTup h a its.toArray/\gO h a
 |.dK kvs=>kvs.length<=sizeLine/\(a==sysModules)=false/\∃vs,KV kvs vs/\h.DictOf (fE P w) a vs
 |.dT kvs=>kvs.length<=sizeLine/\(a==sysModules)=false/\∃xs:List (List aG×Addr×Value),
   Paired (λ(p:List aG×V) (q:List aG×Addr×Value)=>p.1=q.1/\H q.2.1=some (.tup (p.1.map kV))/\aP p.2 q.2.2) kvs xs/\
   ∃o es ep,h.get? a=some o/\o.ExactDict/\o.data = .dict es ep/\es.toList=xs.map (entryOfKey (tupleKind (fE P w)))/\(xs.map (·.1)).Nodup
 |.set S n=>h.SetOf (intKind P w) a S n
 |.ins C dx fs=>H dx=some (.own a)/\fs.length<=1000/\dx≠a/\h.get? a=some (PySem.W.instObj C dx)/\
   ∃mA,h.Ns1 dx mA/\(∀f,iB (fs.lookup f) (mA f))/\PySem.Within mA (fs.map (·.1))
 |.own _=>∃o,h.get? a=some o
 |.xd fs=>∃mA,h.Ns1 a mA/\∀f,iB (fs.lookup f) (mA f)
 |.rng lo hi=>∃t u v,h.get? a=some { cls:=.type "range",data:=.fields #[.int lo t,.int hi u,.int 1 v] }
 |.frz o u=>h.get? a=some o/\bM H h a u
 |.tbl ps=>h.get? a=some { cls:=.none,data:=.fields ps }
 |.met f x=>h.get? a=some (PySem.W.methodObj (.ref f) (.ref x))
 |.ext φ=>φ h/\(∃o,h.get? a=some o)/\∀h1 h2:Heap,φ h1->(∀o,h1.get? a=some o->h2.get? a=some o)->φ h2
def bO (H:Hp)(h:Heap):Prop:=∀a o,H a=some o->bM P w H h a o
end
section
variable {P:Program}{w:World}{H H':Hp}{h h':Heap}{a:Addr}{o:HO}
theorem bM.lt (x:bM P w H h a o):a<h.objs.size:=by
 cases o with
 |lst xs=>obtain⟨_,_,_,_,e⟩:=x;exact bm3 e
 |tup xs=>obtain⟨_,_,_,p,_⟩:=x;exact p.lt
 |dK kvs=>obtain⟨_,_,_,_,o,_,_,e,_⟩:=x;exact bm3 e
 |dT kvs=>obtain⟨_,_,_,_,o,_,_,e,_⟩:=x;exact bm3 e
 |set S n=>obtain⟨o,_,_,_,e,_⟩:=x;exact bm3 e
 |ins C dx fs=>obtain⟨_,_,_,e,_⟩:=x;exact bm3 e
 |own y=>obtain⟨_,e⟩:=x;exact bm3 e
 |xd fs=>obtain⟨_,⟨_,_,_,e,_⟩,_⟩:=x;exact bm3 e
 |rng lo hi=>obtain⟨_,_,_,e⟩:=x;exact bm3 e
 |frz ob u=>obtain⟨e,_⟩:=x;exact bm3 e
 |tbl ps=>exact bm3 (show h.get? a=some _ from x)
 |met f y=>exact bm3 (show h.get? a=some _ from x)
 |ext φ=>obtain⟨_,⟨_,e⟩,_⟩:=x;exact bm3 e
theorem Paired.mapP {α β:Type}{F G:α->β->Prop}:∀{l₁:List α}{l₂:List β},Paired F l₁ l₂->(∀a b,F a b->G a b)->Paired G l₁ l₂
 |_,_,.nil,_=>.nil
 |_,_,.cons r t,f=>.cons (f _ _ r) (Paired.mapP t f)
theorem bM.stay (x:bM P w H h a o)(k:∀b u,(b=a∨H b=some (.own a))->h.get? b=some u->h'.get? b=some u)(ho:∀b,H b=some (.own a)->H' b=some (.own a))(ht:∀b xs,H b=some (.tup xs)->H' b=some (.tup xs)):bM P w H' h' a o:=by
 induction o with
 |lst xs=>obtain⟨z,its,n,r,e⟩:=x;exact⟨z,its,n,r,k _ _ (.inl rfl) e⟩
 |tup xs=>obtain⟨z,its,r,⟨ob,e,c⟩,nd⟩:=x;exact⟨z,its,r,⟨ob,k _ _ (.inl rfl) e,c⟩,nd.stay e (k _ _ (.inl rfl) e)⟩
 |dK kvs=>obtain⟨z,y,vs,r,ob,es,ep,e,c⟩:=x;exact⟨z,y,vs,r,ob,es,ep,k _ _ (.inl rfl) e,c⟩
 |dT kvs=>
  obtain⟨z,y,xs,r,ob,es,ep,e,c⟩:=x
  exact⟨z,y,xs,Paired.mapP r λp q z=>⟨z.1,ht _ _ z.2.1,z.2.2⟩,ob,es,ep,k _ _ (.inl rfl) e,c⟩
 |set S n=>obtain⟨ob,es,ep,t,e,c⟩:=x;exact⟨ob,es,ep,t,k _ _ (.inl rfl) e,c⟩
 |ins C dx fs=>
  obtain⟨d,z,ne,e,mA,⟨od,es,ep,e2,c⟩,r⟩:=x
  exact⟨ho _ d,z,ne,k _ _ (.inl rfl) e,mA,⟨od,es,ep,k _ _ (.inr d) e2,c⟩,r⟩
 |own y=>obtain⟨ob,e⟩:=x;exact⟨ob,k _ _ (.inl rfl) e⟩
 |xd fs=>obtain⟨mA,⟨od,es,ep,e,c⟩,r⟩:=x;exact⟨mA,⟨od,es,ep,k _ _ (.inl rfl) e,c⟩,r⟩
 |rng lo hi=>obtain⟨t,u,v,e⟩:=x;exact⟨t,u,v,k _ _ (.inl rfl) e⟩
 |frz ob u ih=>obtain⟨e,q⟩:=x;exact⟨k _ _ (.inl rfl) e,ih q⟩
 |tbl ps=>
  have e:h.get? a=some { cls:=.none,data:=.fields ps }:=x
  show h'.get? a=some { cls:=.none,data:=.fields ps }
  exact k a _ (.inl rfl) e
 |met f y=>
  have e:h.get? a=some (PySem.W.methodObj (.ref f) (.ref y)):=x
  show h'.get? a=some (PySem.W.methodObj (.ref f) (.ref y))
  exact k a _ (.inl rfl) e
 |ext φ=>obtain⟨p,⟨o,e⟩,st⟩:=x;exact⟨st _ _ p λo q=>k _ _ (.inl rfl) q,⟨o,k _ _ (.inl rfl) e⟩,st⟩
theorem bO.lt (x:bO P w H h)(e:H a=some o):a<h.objs.size:=(x a o e).lt
theorem bO.fresh (x:bO P w H h)(e:h.objs.size<=a):H a=none:=by
 cases q:H a with
 |none=>rfl
 |some u=>exact absurd (bm5 (x.lt q) e) (br2 _)
theorem bO.kept (x:bO P w H h)(k:∀b u,h.get? b=some u->h'.get? b=some u):bO P w H h':=λa o e=>
 (x a o e).stay (λb u _ q=>k b u q) (λ_ q=>q) λ_ _ q=>q
theorem bO.laid (x:bO P w H h)(k:∀b u,h.get? b=some u->h'.get? b=some u)(hp:h.objs.size<=a)(new:bM P w (upd H a o) h' a o):bO P w (upd H a o) h':=λb u e=>by
 have hn:=x.fresh hp
 by_cases hb:b=a
 ·subst hb;rw[aT]at e;cases e;exact new
 ·rw[aC hb]at e
  exact (x b u e).stay (λc v _ q=>k c v q) (λc q=>by rw[aC (bX q hn)];exact q) λc xs q=>by rw[aC (bX q hn)];exact q
end
def Rd (H:Hp)(a:Addr)(u:HO):Prop:=H a=some u∨∃o,H a=some (.frz o u)
theorem Rd.ok {P:Program}{w:World}{H:Hp}{h:Heap}{a:Addr}{u:HO}(r:Rd H a u)(x:bO P w H h):bM P w H h a u:=by
 rcases r with r|⟨o,r⟩
 ·exact x a u r
 ·obtain⟨_,q⟩:=x a _ r
  exact q
def nP:Option HO->Prop
 |some (.lst _)=>True
 |some (.dK _)=>True
 |some (.dT _)=>True
 |some (.set _ _)=>True
 |some (.ins _ _ _)=>True
 |some (.ext _)=>True
 |_=>False
section
variable {P:Program}{w:World}{H:Hp}{h h':Heap}{x e:Addr}{o':HO}
theorem bO.write (ok:bO P w H h)(mu:nP (H x))(he:e=x∨H e=some (.own x))(k:∀b u,b≠e->h.get? b=some u->h'.get? b=some u)(heo:∃u,h'.get? e=some u)(new:bM P w (upd H x o') h' x o'):bO P w (upd H x o') h':=λb u q=>by
 have nown:∀c y,H c=some (.own y)->c≠x:=λc y r z=>by subst z;rw[r]at mu;exact mu
 have ntup:∀c xs,H c=some (.tup xs)->c≠x:=λc xs r z=>by subst z;rw[r]at mu;exact mu
 by_cases hb:b=x
 ·subst hb;rw[aT]at q;cases q;exact new
 ·rw[aC hb]at q
  by_cases hbe:b=e
  ·have q':H b=some (.own x):=by
    rcases he with z|z
    ·exact absurd (hbe.trans z) hb
    ·rw[hbe];exact z
   rw[q]at q';cases q'
   obtain⟨v,hv⟩:=heo
   exact⟨v,by rw[hbe];exact hv⟩
  ·refine (ok b u q).stay (λc v hc r=>k c v ?_ r) (λc r=>by rw[aC (nown c b r)];exact r) λc xs r=>by rw[aC (ntup c xs r)];exact r
   rcases hc with rfl|hc
   ·exact hbe
   ·rintro rfl
    rcases he with z|z
    ·exact nown c b hc z
    ·rw[hc]at z;cases z;exact hb rfl
end
structure Un (fs ex:List Addr)(H H':Hp)(h h':Heap):Prop where
 keep:∀b o,h.get? b=some o->H b=none->b∉fs->b∉ex->h'.get? b=some o
 slot:∀b o,h.get? b=some o->H b=none->b∈fs->b∉ex->∃sl,h'.get? b=some { o with slots:=sl }
 free:∀b o,h.get? b=some o->H b=none->b∉ex->H' b=none
 there:∀b o,h.get? b=some o->b∉ex->∃o',h'.get? b=some o'
 tups:∀b xs,H b=some (.tup xs)->H' b=some (.tup xs)
 frzs:∀b o u,H b=some (.frz o u)->H' b=some (.frz o u)
 tbls:∀b ps,H b=some (.tbl ps)->∃more,H' b=some (.tbl (ps++more))
section
variable {fs fs' ex ex':List Addr}{H H1 H2:Hp}{h h1 h2 h':Heap}{a x e:Addr}{o:HO}
theorem Un.any (u:Un fs ex H H1 h h1){b:Addr}{ob:Obj}(q:h.get? b=some ob)(n:H b=none)(hx:b∉ex):∃sl,h1.get? b=some { ob with slots:=sl }:=by
 by_cases hb:b∈fs
 ·exact u.slot b ob q n hb hx
 ·exact⟨ob.slots,u.keep b ob q n hb hx⟩
theorem Un.kept (k:∀b u,h.get? b=some u->h'.get? b=some u):Un fs ex H H h h':=
 ⟨λb ob q _ _ _=>k b ob q,λb ob q _ _ _=>⟨ob.slots,k b ob q⟩,λ_ _ _ n _=>n,λb ob q _=>⟨ob,k b ob q⟩,λ_ _ q=>q,λ_ _ _ q=>q,λ_ ps q=>⟨#[],by rw[q];simp⟩⟩
theorem Un.refl:Un fs ex H H h h:=Un.kept λ_ _ q=>q
theorem Un.laid (k:∀b u,h.get? b=some u->h'.get? b=some u)(hp:h.objs.size<=a)(hn:H a=none):Un fs ex H (upd H a o) h h' where
 keep:=λb u q _ _ _=>k b u q
 slot:=λb u q _ _ _=>⟨u.slots,k b u q⟩
 free:=λb u q n _=>by rw[aC (bo2 (bm5 (bm3 q) hp))];exact n
 there:=λb u q _=>⟨u,k b u q⟩
 tups:=λb xs q=>by rw[aC (bX q hn)];exact q
 frzs:=λb u xs q=>by rw[aC (bX q hn)];exact q
 tbls:=λb ps q=>⟨#[],by rw[aC (bX q hn),q];simp⟩
theorem Un.write (mu:nP (H x))(he:e=x∨H e=some (.own x))(k:∀b u,b≠e->h.get? b=some u->h'.get? b=some u)(heo:∃u,h'.get? e=some u):Un fs ex H (upd H x o) h h':=by
 have hx:∀b,H b=none->b≠x:=λb n z=>by subst z;rw[n]at mu;exact mu
 have hb:∀b,H b=none->b≠e:=λb n z=>by
  subst z
  rcases he with r|r
  ·exact hx b n r
  ·rw[n]at r;cases r
 have hm:∀b u,H b=some u->¬nP (some u)->b≠x:=λb u q nm z=>by subst z;rw[q]at mu;exact nm mu
 refine⟨λb u q n _ _=>k b u (hb b n) q,λb u q n _ _=>⟨u.slots,k b u (hb b n) q⟩,λb u q n _=>by rw[aC (hx b n)];exact n,λb u q _=>?_,
  λb xs q=>by rw[aC (hm b _ q λz=>z)];exact q,λb u xs q=>by rw[aC (hm b _ q λz=>z)];exact q,λb ps q=>⟨#[],by rw[aC (hm b _ q λz=>z),q];simp⟩⟩
 by_cases hbe:b=e
 ·subst hbe;exact heo
 ·exact⟨u,k b u hbe q⟩
end
def pR (h:Heap)(H:Hp):List Addr:=(List.range h.objs.size).filter λa=>(H a).isSome
def iQ (h:Heap)(H:Hp):Heap:=PySem.W.hideAll h (pR h H)
theorem am3 (h:Heap)(H:Hp):(iQ h H).objs.size=h.objs.size:=PySem.W.hideAll_size _ _
theorem am4 {h:Heap}{H:Hp}{b:Addr}{o:Obj}(e:h.get? b=some o)(n:H b=none):(iQ h H).get? b=some o:=
 PySem.W.hideAll_get _ e λhm=>by
  have q:(H b).isSome=true:=(bm0.mp hm).2
  rw[n]at q;simp at q
theorem am5 {h:Heap}{H:Hp}{b:Addr}{o:Obj}(e:(iQ h H).get? b=some o):h.get? b=some o/\H b=none:=by
 have e':h.get? b=some o:=PySem.W.of_hideAll (pR h H) e
 refine⟨e',?_⟩
 cases q:H b with
 |none=>rfl
 |some x=>
  have hm:b∈pR h H:=bm0.mpr ⟨bA2.mpr (bm3 e'),by simp[q]⟩
  have z:(iQ h H).get? b=none:=PySem.W.hideAll_none (pR h H) hm
  rw[z]at e;cases e
def nQ (g h:Heap)(L:Addr):List (Addr×Obj):=(List.range h.objs.size).filterMap λa=>if a=L∨(g.get? a).isSome=true then none else (h.get? a).map λo=>(a,o)
theorem zN {g h:Heap}{L a:Addr}{o:Obj}(h1:a≠L)(h2:g.get? a=none)(h3:h.get? a=some o):(a,o)∈nQ g h L:=
 List.mem_filterMap.mpr ⟨a,bA2.mpr (bm3 h3),by simp[h1,h2,h3]⟩
theorem am6 {g h:Heap}{L:Addr}{p:Addr×Obj}(hp:p∈nQ g h L):p.1≠L/\g.get? p.1=none/\h.get? p.1=some p.2:=by
 obtain⟨b,_,e⟩:=List.mem_filterMap.mp hp
 split at e
 ·cases e
 ·rename_i hn
  cases q:h.get? b with
  |none=>rw[q]at e;simp at e
  |some u=>
   rw[q]at e
   simp only[Option.map_some,Option.some.injEq]at e
   subst e
   refine⟨λz=>hn (.inl z),?_,q⟩
   show g.get? b=none
   cases r:g.get? b with
   |none=>rfl
   |some v=>exact (hn (.inr (by simp[r]))).elim
def bR (g h:Heap)(L d:Addr):List (Addr×Obj):=(nQ g h L).filter λp=>decide (p.1≠d)
theorem am7 {g h:Heap}{L:Addr}:News g L h (nQ g h L):=λp hp=>let ⟨a,b,c⟩:=am6 hp;⟨c,a,b⟩
structure Mod (K:ad)(mg:Str->Option Value)(base:Heap):Prop where
 kin:K.In base
 glob:base.Ns mainGlobals mg
 blt:∃mb,base.Ns builtinsNs mb/\∀x:Str,x≠"__name__"->mb x=bootBuiltins x
 nolimit:base.NoLimit
structure Cx where
 prog:Program
 w:World
 K:ad
 mg:Str->Option Value
 base:Heap
 A:Around
 N:List Str
 s₀:Shared
 H₀:Hp
 env:Env
 outer:List Env
 stack:List Env
 ex:List Addr
 fn:Str->Bool
 calm:Bool
 pn:List (Addr×Obj)
 xe:Value->Shared->Prop
def bY (l:List Env):List Addr:=l.filterMap (·.frame)
abbrev Cx.fs (X:Cx):List Addr:=bY X.outer
def iC (sc:Scope)(x:Str):Prop:=sc.names.lookup x=some .local∨sc.names.lookup x=some .cell∨sc.names.lookup x=some .free
def jL (sc:Scope)(x:Str):Prop:=sc.names.lookup x=some .local∨sc.names.lookup x=some .cell
def am8 (env:Env)(h:Heap)(m:Str->Option Value)(x:Str)(u:Value):Prop:=
 (env.kindOf x=some .local/\m x=some u)∨((env.kindOf x=some .cell∨env.kindOf x=some .free)/\∃c,env.cells.lookup x=some c/\h.IsCell c (some u))
structure Cx.Ok (X:Cx):Prop where
 mod:Mod X.K X.mg X.base
 kind:X.env.scope.kind = .function
 glob:X.env.globals=mainGlobals
 blt:X.env.builtins=builtinsNs
 above:X.s₀.heap.objs.size<=X.env.locals
 inj:∀x y c,X.env.cells.lookup x=some c->X.env.cells.lookup y=some c->x=y
 has:∀x,(X.env.kindOf x=some .cell∨X.env.kindOf x=some .free)->∃c,X.env.cells.lookup x=some c
 cab:∀x c,X.fn x=true->X.env.cells.lookup x=some c->X.s₀.heap.objs.size<=c
 hd:X.calm=true->X.A.handled=none
 frames:X.A.frames=some X.stack
 stk:X.stack=X.outer∨(X.stack=X.env::X.outer/\X.env.frame=some X.env.locals)
 exf:∀b∈X.ex,b≠X.env.locals/\∀x c,X.env.cells.lookup x=some c->c≠b
 bs:∀b o,X.base.get? b=some o->X.s₀.heap.get? b=some o/\X.H₀ b=none
 bsz:X.base.objs.size<=X.s₀.heap.objs.size
 noex:∀b o,X.base.get? b=some o->b∉X.ex
 exfs:∀b∈X.ex,b∉X.fs
 funs:X.s₀.heap.FunFrames X.base X.outer
 frf:∀b∈X.fs,X.H₀ b=none
structure a6 (X:Cx)(pins:List (Addr×Obj))(σ:List (Option V))(H:Hp)(s:Shared):Prop where
 ok:X.Ok
 os:s.os=X.s₀.os
 bare:AllBare s.gens
 base:Un X.fs X.ex X.H₀ H X.s₀.heap s.heap
 loc:∃m,s.heap.Ns X.env.locals m/\∀(i:Nat) (x:Str) (v:V),X.N[i]? = some x->σ[i]? = some (some v)->iC X.env.scope x->∃u,aP v u/\am8 X.env s.heap m x u
 cell:∀x c,X.env.cells.lookup x=some c->∃v,s.heap.IsCell c v
 free:H X.env.locals=none
 freeC:∀x c,X.env.cells.lookup x=some c->H c=none
 pin:∀p∈X.pn++pins,s.heap.get? p.1=some p.2/\H p.1=none/\p.1≠X.env.locals/\p.1∉X.fs/\∀v,p.2.data≠.cell v
 hok:bO X.prog X.w H s.heap
 len:σ.length=X.N.length
section
variable {X:Cx}{pins:List (Addr×Obj)}{σ:List (Option V)}{H H':Hp}{s:Shared}{h':Heap}
theorem Cx.Ok.nofr (ok:X.Ok){b:Addr}{o:Obj}(e:X.base.get? b=some o):b∉X.fs:=λhb=>by
 have:=(ok.funs.mem hb).1
 rw[e]at this;cases this
theorem a6.bs (I:a6 X pins σ H s):∀b o,X.base.get? b=some o->s.heap.get? b=some o/\H b=none:=λb o e=>
 ⟨I.base.keep b o (I.ok.bs b o e).1 (I.ok.bs b o e).2 (I.ok.nofr e) (I.ok.noex b o e),I.base.free b o (I.ok.bs b o e).1 (I.ok.bs b o e).2 (I.ok.noex b o e)⟩
theorem a6.bk (I:a6 X pins σ H s):∀b o,X.base.get? b=some o->s.heap.get? b=some o:=λb o e=>(I.bs b o e).1
theorem a6.mod (I:a6 X pins σ H s):Mod X.K X.mg X.base:=I.ok.mod
theorem a6.kIn (I:a6 X pins σ H s):X.K.In s.heap:=I.ok.mod.kin.keeps I.bk
theorem a6.fr (I:a6 X pins σ H s):∃m,Fr X.base X.env.locals s.heap m:=
 let ⟨m,hn,_⟩:=I.loc
 ⟨m,hn,I.bk,bp5 I.ok.bsz I.ok.above⟩
theorem a6.lt (I:a6 X pins σ H s):X.env.locals<s.heap.objs.size:=let ⟨_,hn,_⟩:=I.loc;hn.lt
theorem a6.sz (I:a6 X pins σ H s):X.s₀.heap.objs.size<=s.heap.objs.size:=bp5 I.ok.above (bu6 I.lt)
theorem a6.nofs (I:a6 X pins σ H s){a:Addr}(h:s.heap.objs.size<=a):a∉X.fs:=λhb=>by
 obtain⟨_,o,ho,_⟩:=I.ok.funs.mem hb
 exact absurd (bm5 (bm3 ho) (bp5 I.sz h)) (br2 _)
theorem a6.cne (I:a6 X pins σ H s):∀x c,X.env.cells.lookup x=some c->c≠X.env.locals:=λx c e z=>by
 obtain⟨v,o,ho,hd⟩:=I.cell x c e
 obtain⟨m,⟨o',es,ep,ho',hd',_⟩,_⟩:=I.loc
 rw[z,ho']at ho;cases ho;rw[hd']at hd;cases hd
theorem a6.funs (I:a6 X pins σ H s):s.heap.FunFrames X.base X.outer:=by
 have all:∀(l:List Env),(∀b∈bY l,b∈X.fs)->X.s₀.heap.FunFrames X.base l->s.heap.FunFrames X.base l:=by
  intro l
  induction l with
  |nil=>intro _ _;trivial
  |cons env r ih=>
   intro hs hl
   obtain⟨hk,⟨L,o,hf,hn,ho,hd⟩,hr⟩:=hl
   have hL:L∈X.fs:=hs L (by unfold bY;rw[List.filterMap_cons,hf];exact bl7)
   obtain⟨sl,e⟩:=I.base.slot L o ho (I.ok.frf L hL) hL λz=>I.ok.exfs L z hL
   exact⟨hk,⟨L,_,hf,hn,e,hd⟩,ih (λb hb=>hs b (by unfold bY;rw[List.filterMap_cons,hf];exact bm1 _ hb)) hr⟩
 exact all X.outer (λ_ hb=>hb) I.ok.funs
theorem a6.stack (I:a6 X pins σ H s):s.heap.FunFrames X.base X.stack:=by
 rcases I.ok.stk with e|⟨e,hf⟩
 ·rw[e];exact I.funs
 ·rw[e]
  obtain⟨m,hn,_⟩:=I.loc
  refine .cons (by rw[I.ok.kind];decide) hf hn ?_ I.funs
  exact Heap.get?_none_of_le (bp5 I.ok.bsz I.ok.above)
theorem a6.stkSub (I:a6 X pins σ H s):∀b∈bY X.stack,b∈X.env.locals::X.fs:=λb hb=>by
 rcases I.ok.stk with e|⟨e,hf⟩
 ·rw[e]at hb;exact bm1 _ hb
 ·rw[e]at hb
  unfold bY at hb
  rw[List.filterMap_cons,hf]at hb
  exact hb
theorem a6.stkFree (I:a6 X pins σ H s):∀b∈bY X.stack,H b=none:=λb hb=>by
 rcases bl8.mp (I.stkSub b hb) with e|hb
 ·rw[e];exact I.free
 ·obtain⟨_,o,ho,_⟩:=I.ok.funs.mem hb
  exact I.base.free b o ho (I.ok.frf b hb) λz=>I.ok.exfs b z hb
theorem a6.step {g':Array GenState}{t':Nat}{d':Drawn}{ch:List Addr}(I:a6 X pins σ H s)(hch:∀b∈ch,(b∈X.ex∨X.s₀.heap.objs.size<=b)/\b≠X.env.locals/\(∀x c,X.env.cells.lookup x=some c->c≠b)/\∀p∈X.pn++pins,p.1≠b)(keep:∀b o,b≠X.env.locals->b∉X.fs->b∉ch->s.heap.get? b=some o->H b=none->h'.get? b=some o)(slot:∀b o,b≠X.env.locals->b∈X.fs->b∉ch->s.heap.get? b=some o->H b=none->∃sl,h'.get? b=some { o with slots:=sl })(free:∀b o,b∉ch->s.heap.get? b=some o->H b=none->H' b=none)(there:∀b o,b∉ch->s.heap.get? b=some o->∃o',h'.get? b=some o')(tups:∀b xs,H b=some (.tup xs)->H' b=some (.tup xs))(frzs:∀b o u,H b=some (.frz o u)->H' b=some (.frz o u))(tbls:∀b ps,H b=some (.tbl ps)->∃more,H' b=some (.tbl (ps++more)))(ns:∀m,s.heap.Ns X.env.locals m->h'.Ns X.env.locals m)(hok:bO X.prog X.w H' h')(hg:AllBare g') :
  a6 X pins σ H' { s with heap:=h',gens:=g',drawn:=d',toks:=t' }:=by
 have neL:∀b o,X.s₀.heap.get? b=some o->b≠X.env.locals:=λb o e=>bo2 (bm5 (bm3 e) I.ok.above)
 have neC:∀b o,X.s₀.heap.get? b=some o->b∉X.ex->b∉ch:=λb o e hx hb=>by
  rcases (hch b hb).1 with z|z
  ·exact hx z
  ·exact absurd (bm5 (bm3 e) z) (br2 _)
 have cellK:∀x c,X.env.cells.lookup x=some c->∀v,s.heap.IsCell c v->h'.IsCell c v:=λx c e v ⟨o,ho,hd⟩=>by
  have nch:c∉ch:=λz=>(hch c z).2.2.1 x c e rfl
  by_cases hc:c∈X.fs
  ·obtain⟨sl,q⟩:=slot c o (I.cne x c e) hc nch ho (I.freeC x c e)
   exact⟨_,q,hd⟩
  ·exact⟨o,keep c o (I.cne x c e) hc nch ho (I.freeC x c e),hd⟩
 refine⟨I.ok,I.os,hg,⟨λb o e n hb hx=>?_,λb o e n hb hx=>?_,λb o e n hx=>?_,λb o e hx=>?_,λb xs e=>tups b xs (I.base.tups b xs e),λb o xs e=>frzs b o xs (I.base.frzs b o xs e),λb ps e=>?_⟩,?_,λx c e=>?_,?_,λx c e=>?_,λp hp=>?_,hok,I.len⟩
 ·exact keep b o (neL b o e) hb (neC b o e hx) (I.base.keep b o e n hb hx) (I.base.free b o e n hx)
 ·obtain⟨sl,e1⟩:=I.base.slot b o e n hb hx
  obtain⟨sl',e2⟩:=slot b _ (neL b o e) hb (neC b o e hx) e1 (I.base.free b o e n hx)
  exact⟨sl',e2⟩
 ·obtain⟨o',e1⟩:=I.base.there b o e hx
  exact free b o' (neC b o e hx) e1 (I.base.free b o e n hx)
 ·obtain⟨o',e1⟩:=I.base.there b o e hx
  exact there b o' (neC b o e hx) e1
 ·obtain⟨m1,e1⟩:=I.base.tbls b ps e
  obtain⟨m2,e2⟩:=tbls b _ e1
  exact⟨m1++m2,by rw[e2,Array.append_assoc]⟩
 ·obtain⟨m,hn,hl⟩:=I.loc
  refine⟨m,ns m hn,λi x v e1 e2 e3=>?_⟩
  obtain⟨u,r,l⟩:=hl i x v e1 e2 e3
  refine⟨u,r,?_⟩
  rcases l with l|⟨k,c,e,z⟩
  ·exact .inl l
  ·exact .inr ⟨k,c,e,cellK x c e _ z⟩
 ·obtain⟨v,z⟩:=I.cell x c e
  exact⟨v,cellK x c e v z⟩
 ·obtain⟨m,⟨o,_,_,ho,_⟩,_⟩:=I.loc
  exact free _ o (λz=>(hch _ z).2.1 rfl) ho I.free
 ·obtain⟨v,o,ho,hd⟩:=I.cell x c e
  exact free c o (λz=>(hch c z).2.2.1 x c e rfl) ho (I.freeC x c e)
 ·obtain⟨e,n,ne,nf,d⟩:=I.pin p hp
  have nch:p.1∉ch:=λz=>(hch p.1 z).2.2.2 p hp rfl
  exact⟨keep p.1 p.2 ne nf nch e n,free p.1 p.2 nch e n,ne,nf,d⟩
theorem a6.un {t':Nat}(I:a6 X pins σ H s)(u:Un X.fs [] H H' s.heap h')(hok:bO X.prog X.w H' h'):a6 X pins σ H' { s with heap:=h',toks:=t' }:=by
 obtain⟨m,⟨o,es,ep,ho,r⟩,_⟩:=id I.loc
 obtain⟨sl,hL⟩:=u.any ho I.free (by simp)
 exact I.step (g':=s.gens) (d':=s.drawn) (ch:=[]) (λ_ z=>nomatch z) (λb o _ hb _ e n=>u.keep b o e n hb (by simp)) (λb o _ hb _ e n=>u.slot b o e n hb (by simp)) (λb o _ e n=>u.free b o e n (by simp)) (λb o _ e=>u.there b o e (by simp)) u.tups u.frzs u.tbls (λm' hm=>by
  obtain⟨o',es',ep',ho',r'⟩:=hm
  rw[ho]at ho';cases ho'
  exact⟨_,es',ep',hL,r'⟩) hok I.bare
theorem a6.call {g':Array GenState}{t':Nat}{d':Drawn}{ch:List Addr}(I:a6 X pins σ H s)(u:Un (bY X.stack) ch H H' s.heap h')(hok:bO X.prog X.w H' h')(hg:AllBare g')(hch:∀b∈ch,(b∈X.ex∨X.s₀.heap.objs.size<=b)/\b≠X.env.locals/\(∀x c,X.env.cells.lookup x=some c->c≠b)/\∀p∈X.pn++pins,p.1≠b) :
  a6 X pins σ H' { s with heap:=h',gens:=g',drawn:=d',toks:=t' }:=by
 obtain⟨m,⟨o,es,ep,ho,r⟩,_⟩:=id I.loc
 obtain⟨sl,hL⟩:=u.any ho I.free λz=>(hch _ z).2.1 rfl
 exact I.step (ch:=ch) hch (λb o hL hb hc e n=>u.keep b o e n (λz=>(bl8.mp (I.stkSub b z)).elim hL hb) hc) (λb o _ _ hc e n=>u.any e n hc) (λb o hc e n=>u.free b o e n hc) (λb o hc e=>u.there b o e hc) u.tups u.frzs u.tbls (λm' hm=>by
  obtain⟨o',es',ep',ho',r'⟩:=hm
  rw[ho]at ho';cases ho'
  exact⟨_,es',ep',hL,r'⟩) hok hg
theorem a6.turned {t':Nat}{it:Addr}(I:a6 X pins σ H s)(k:∀b o,b≠it->s.heap.get? b=some o->h'.get? b=some o)(hn:H it=none)(hL:it≠X.env.locals)(h1:it∈X.ex∨X.s₀.heap.objs.size<=it)(h2:∀x c,X.env.cells.lookup x=some c->c≠it)(h3:∀p∈X.pn++pins,p.1≠it):a6 X pins σ H { s with heap:=h',toks:=t' }:=by
 have nit:∀b u,H b=some u->b≠it:=λb u e z=>by rw[z,hn]at e;cases e
 refine I.step (g':=s.gens) (d':=s.drawn) (ch:=[it]) (λb hb=>?_) (λb o _ _ hc e _=>k b o (λz=>hc (by simp[z])) e) (λb o _ _ hc e _=>⟨o.slots,k b o (λz=>hc (by simp[z])) e⟩) (λ_ _ _ _ n=>n)
  (λb o hc e=>⟨o,k b o (λz=>hc (by simp[z])) e⟩) (λ_ _ e=>e) (λ_ _ _ e=>e) (λb ps e=>⟨#[],by rw[e];simp⟩) (λm hm=>?_) (λb u e=>?_) I.bare
 ·have e:b=it:=by simpa using hb
  subst e
  exact⟨h1,hL,h2,h3⟩
 ·obtain⟨o,es,ep,ho,r⟩:=hm
  exact⟨o,es,ep,k _ o (Ne.symm hL) ho,r⟩
 ·refine (I.hok b u e).stay (λc v hc q=>k c v ?_ q) (λ_ q=>q) λ_ _ q=>q
  rcases hc with z|z
  ·rw[z];exact nit b u e
  ·exact nit c _ z
theorem a6.tok (I:a6 X pins σ H s)(t:Nat):a6 X pins σ H { s with toks:=t }:=I.un (h':=s.heap) (t':=t) Un.refl I.hok
theorem a6.kept {t':Nat}(I:a6 X pins σ H s)(k:∀b u,s.heap.get? b=some u->h'.get? b=some u):a6 X pins σ H { s with heap:=h',toks:=t' }:=I.un (Un.kept k) (I.hok.kept k)
theorem a6.laid {a:Addr}{o:HO}{t':Nat}(I:a6 X pins σ H s)(k:∀b u,s.heap.get? b=some u->h'.get? b=some u)(hp:s.heap.objs.size<=a)(new:bM X.prog X.w (upd H a o) h' a o) :
  a6 X pins σ (upd H a o) { s with heap:=h',toks:=t' }:=I.un (Un.laid k hp (I.hok.fresh hp)) (I.hok.laid k hp new)
theorem a6.write {x e:Addr}{o:HO}{t':Nat}(I:a6 X pins σ H s)(mu:nP (H x))(he:e=x∨H e=some (.own x))(k:∀b u,b≠e->s.heap.get? b=some u->h'.get? b=some u)(heo:∃u,h'.get? e=some u)(new:bM X.prog X.w (upd H x o) h' x o):a6 X pins σ (upd H x o) { s with heap:=h',toks:=t' }:=I.un (Un.write mu he k heo) (I.hok.write mu he k heo new)
theorem a6.weak {σ':List (Option V)}(I:a6 X pins σ H s)(hl:σ'.length=σ.length)(w:∀(i:Nat) v,σ'[i]? = some (some v)->σ[i]? = some (some v)):a6 X pins σ' H s:=
 ⟨I.ok,I.os,I.bare,I.base,let ⟨m,hn,hl'⟩:=I.loc;⟨m,hn,λi x v e1 e2 e3=>hl' i x v e1 (w i v e2) e3⟩,I.cell,I.free,I.freeC,I.pin,I.hok,hl.trans I.len⟩
theorem a6.pins_of {pins':List (Addr×Obj)}(I:a6 X pins σ H s)(h:∀p∈pins',s.heap.get? p.1=some p.2/\H p.1=none/\p.1≠X.env.locals/\p.1∉X.fs/\∀v,p.2.data≠.cell v):a6 X pins' σ H s:=
 ⟨I.ok,I.os,I.bare,I.base,I.loc,I.cell,I.free,I.freeC,λp hp=>(bn4.mp hp).elim (λz=>I.pin p (bt7 _ z)) (h p),I.hok,I.len⟩
theorem zO {N:List Str}(hN:N.Nodup){i j:Nat}{x:Str}(a:N[i]? = some x)(b:N[j]? = some x):i=j:=by
 obtain⟨h1,e1⟩:=bl9.mp a
 obtain⟨h2,e2⟩:=bl9.mp b
 exact (List.getElem_inj hN).mp (e1.trans e2.symm)
theorem uD {M:Model}{A:Around}{E:Value->Shared->Prop}{i:Nat}{x:Str}{v:V}{u:Value}{Q:Unit->Shared->Prop}(I:a6 X pins σ H s)(hN:X.N.Nodup)(hi:X.N[i]? = some x)(hx:jL X.env.scope x)(r:aP v u)(h:∀s',a6 X pins (σ.set i (some v)) H s'->(∃a,Heap.SameBut a s.heap s'.heap/\(a=X.env.locals∨X.env.cells.lookup x=some a))->Q () s')(hf:X.fn x=true∨X.env.scope.names.lookup x=some .local:=by first|exact .inl rfl|exact .inr rfl|assumption):wpAny M A (storeName X.env x u) Q E s:=by
 obtain⟨m,hn,hl⟩:=id I.loc
 have hcls:(X.env.scope.kind==.class||(X.env.scope.kind==.module&&X.env.locals != X.env.globals))=false:=by rw[I.ok.kind];rfl
 have hiσ:i<σ.length:=by rw[I.len];exact (bl9.mp hi).1
 have cne:=I.cne
 have tracked:∀{a:Addr}{h':Heap},(∃o,s.heap.get? a=some o/\H a=none)->Heap.SameBut a s.heap h'->bO X.prog X.w H h':=λ{a h'} ha hs b ob e=>by
  obtain⟨_,_,hfree⟩:=ha
  refine (I.hok b ob e).stay (λc w' hc q=>(hs.2 c ?_).trans q) (λ_ q=>q) λ_ _ q=>q
  rintro rfl
  rcases hc with rfl|hc
  ·rw[hfree]at e;cases e
  ·rw[hfree]at hc;cases hc
 rcases hx with hk|hk
 ·refine wpAny_storeName_local hk hn (λh' hn' hs=>?_) hcls
  obtain⟨oL,_,_,hoL,_⟩:=id hn
  refine h _ ⟨I.ok,I.os,I.bare,⟨λb o e n hb hx=>?_,λb o e n hb hx=>?_,I.base.free,λb o e hx=>?_,I.base.tups,I.base.frzs,I.base.tbls⟩,⟨_,hn',λj y v' e1 e2 e3=>?_⟩,λy c e=>?_,I.free,I.freeC,λp hp=>?_,tracked ⟨oL,hoL,I.free⟩ hs,by simpa using I.len⟩ ⟨_,hs,.inl rfl⟩
  ·exact (hs.2 b (bo2 (bm5 (bm3 e) I.ok.above))).trans (I.base.keep b o e n hb hx)
  ·obtain⟨sl,e1⟩:=I.base.slot b o e n hb hx
   exact⟨sl,(hs.2 b (bo2 (bm5 (bm3 e) I.ok.above))).trans e1⟩
  ·obtain⟨o',e1⟩:=I.base.there b o e hx
   exact⟨o',(hs.2 b (bo2 (bm5 (bm3 e) I.ok.above))).trans e1⟩
  ·by_cases hj:j=i
   ·subst hj
    rw[hi]at e1;cases e1
    rw[bt9 hiσ]at e2
    cases e2
    exact⟨u,r,.inl ⟨hk,by simp⟩⟩
   ·rw[bo5 (Ne.symm hj)]at e2
    obtain⟨u',r',q⟩:=hl j y v' e1 e2 e3
    refine⟨u',r',?_⟩
    rcases q with⟨k,e⟩|⟨k,c,e,z⟩
    ·refine .inl ⟨k,?_⟩
     have:y≠x:=λe=>hj (zO hN e1 (e▸hi))
     simp[this,e]
    ·exact .inr ⟨k,c,e,z.sameBut hs (cne y c e)⟩
  ·obtain⟨w',z⟩:=I.cell y c e
   exact⟨w',z.sameBut hs (cne y c e)⟩
  ·obtain⟨e,n,ne,nf,d⟩:=I.pin p hp
   exact⟨(hs.2 p.1 ne).trans e,n,ne,nf,d⟩
 ·have hfn:X.fn x=true:=by
   rcases hf with z|z
   ·exact z
   ·rw[z]at hk;cases hk
  obtain⟨c,hc⟩:=I.ok.has x (.inl hk)
  obtain⟨w',z⟩:=I.cell x c hc
  refine wpAny_storeName_cell I.ok.kind hk hc z (λh' hc' hs=>?_)
  obtain⟨oc,hoc,hocd⟩:=id z
  refine h { s with heap:=h' } ⟨I.ok,I.os,I.bare,⟨λb o e n hb hx=>?_,λb o e n hb hx=>?_,I.base.free,λb o e hx=>?_,I.base.tups,I.base.frzs,I.base.tbls⟩,⟨m,hn.sameBut hs (Ne.symm (cne x c hc)),λj y v' e1 e2 e3=>?_⟩,λy c' e=>?_,I.free,I.freeC,λp hp=>?_,tracked ⟨oc,hoc,I.freeC x c hc⟩ hs,by simpa using I.len⟩ ⟨c,hs,.inr hc⟩
  ·exact (hs.2 b (bo2 (bm5 (bm3 e) (I.ok.cab x c hfn hc)))).trans (I.base.keep b o e n hb hx)
  ·obtain⟨sl,e1⟩:=I.base.slot b o e n hb hx
   exact⟨sl,(hs.2 b (bo2 (bm5 (bm3 e) (I.ok.cab x c hfn hc)))).trans e1⟩
  ·obtain⟨o',e1⟩:=I.base.there b o e hx
   exact⟨o',(hs.2 b (bo2 (bm5 (bm3 e) (I.ok.cab x c hfn hc)))).trans e1⟩
  ·by_cases hj:j=i
   ·subst hj
    rw[hi]at e1;cases e1
    rw[bt9 hiσ]at e2
    cases e2
    exact⟨u,r,.inr ⟨.inl hk,c,hc,hc'⟩⟩
   ·rw[bo5 (Ne.symm hj)]at e2
    obtain⟨u',r',q⟩:=hl j y v' e1 e2 e3
    refine⟨u',r',?_⟩
    rcases q with q|⟨k,c',e,z'⟩
    ·exact .inl q
    ·refine .inr ⟨k,c',e,z'.sameBut hs ?_⟩
     rintro rfl
     exact hj (zO hN e1 (I.ok.inj _ _ _ e hc▸hi))
  ·by_cases hcc:c'=c
   ·subst hcc;exact⟨_,hc'⟩
   ·obtain⟨w2,z2⟩:=I.cell y c' e
    exact⟨w2,z2.sameBut hs hcc⟩
  ·obtain⟨e,n,ne,nf,d⟩:=I.pin p hp
   refine⟨(hs.2 p.1 ?_).trans e,n,ne,nf,d⟩
   intro q
   rw[q,hoc]at e
   have q':oc=p.2:=bn8 e
   exact d w' (by rw[<- q'];exact hocd)
theorem zP {M:Model}{A:Around}{E:Value->Shared->Prop}{i:Nat}{x:Str}{v:V}{u:Value}{Q:Unit->Shared->Prop}(I:a6 X pins σ H s)(hN:X.N.Nodup)(hi:X.N[i]? = some x)(hx:jL X.env.scope x)(r:aP v u)(h:∀s',a6 X pins (σ.set i (some v)) H s'->Q () s')(hf:X.fn x=true∨X.env.scope.names.lookup x=some .local:=by first|exact .inl rfl|exact .inr rfl|assumption):wpAny M A (storeName X.env x u) Q E s:=
 uD I hN hi hx r (λs' I' _=>h s' I') hf
theorem a6.call' {s':Shared}{ch:List Addr}(I:a6 X pins σ H s)(ho:s'.os=s.os)(u:Un (bY X.stack) ch H H' s.heap s'.heap)(hok:bO X.prog X.w H' s'.heap)(hg:AllBare s'.gens)(hch:∀b∈ch,(b∈X.ex∨X.s₀.heap.objs.size<=b)/\b≠X.env.locals/\(∀x c,X.env.cells.lookup x=some c->c≠b)/\∀p∈X.pn++pins,p.1≠b):a6 X pins σ H' s':=by
 obtain⟨h',g',d',t',o'⟩:=s'
 have e:o'=s.os:=ho
 subst e
 exact I.call (g':=g') (t':=t') (d':=d') u hok hg hch
end
abbrev XK:=Value->Option Addr->Hp->Prop
abbrev St:=List (Option V)
abbrev VK:=V->Hp->Prop
abbrev TE:=St->Hp->VK->Prop
abbrev TT:=St->Hp->(Bool->Hp->Prop)->Prop
abbrev TA:=St->Hp->(List V->Hp->Prop)->Prop
structure cG where
 nx:St->Hp->Prop
 rt:VK
 bk:St->Hp->Prop:=λ_ _=>False
 ct:St->Hp->Prop:=λ_ _=>False
abbrev TS:=cG->St->Hp->Prop
def EP (X:Cx)(pins:List (Addr×Obj))(σ:St)(Q:VK)(u:Value)(s':Shared):Prop:=∃v H',a6 X pins σ H' s'/\aP v u/\Q v H'
def TP (X:Cx)(pins:List (Addr×Obj))(σ:St)(Q:Bool->Hp->Prop)(b:Bool)(s':Shared):Prop:=∃H',a6 X pins σ H' s'/\Q b H'
def AP (X:Cx)(pins:List (Addr×Obj))(σ:St)(Q:List V->Hp->Prop)(us:List Value)(s':Shared):Prop:=∃vs H',a6 X pins σ H' s'/\aI vs us/\Q vs H'
def SP (X:Cx)(pins:List (Addr×Obj))(D:cG)(f:Flow)(s':Shared):Prop:=
 match f with
 |.next=>∃σ' H',a6 X pins σ' H' s'/\D.nx σ' H'
 |.brk=>∃σ' H',a6 X pins σ' H' s'/\D.bk σ' H'
 |.cont=>∃σ' H',a6 X pins σ' H' s'/\D.ct σ' H'
 |.ret u=>∃v σ' H',a6 X pins σ' H' s'/\aP v u/\D.rt v H'
def PE (X:Cx)(e:Expr)(t:TE):Prop:=
 ∀(pins:List (Addr×Obj)) (s:Shared) (σ:St) (H:Hp) (Q:VK),a6 X pins σ H s->t σ H Q->wpAny (model X.prog X.w) X.A (eval e X.env) (EP X pins σ Q) X.xe s
def PT (X:Cx)(e:Expr)(t:TT):Prop:=
 ∀(pins:List (Addr×Obj)) (s:Shared) (σ:St) (H:Hp) (Q:Bool->Hp->Prop),a6 X pins σ H s->t σ H Q->wpAny (model X.prog X.w) X.A (isTrue e X.env (eval e X.env)) (TP X pins σ Q) X.xe s
def PW (X:Cx)(e:Expr)(t:TT):Prop:=
 ∀(whole:Sem Value) (pins:List (Addr×Obj)) (s:Shared) (σ:St) (H:Hp) (Q:Bool->Hp->Prop),a6 X pins σ H s->t σ H Q->wpAny (model X.prog X.w) X.A (isTrue e X.env whole) (TP X pins σ Q) X.xe s
theorem PW.pt {X:Cx}{e:Expr}{t:TT}(h:PW X e t):PT X e t:=h _
def PA (X:Cx)(es:List Expr)(t:TA):Prop:=
 ∀(pos:Pos) (pins:List (Addr×Obj)) (s:Shared) (σ:St) (H:Hp) (Q:List V->Hp->Prop),a6 X pins σ H s->t σ H Q->wpAny (model X.prog X.w) X.A (spliced (backTo pos (starEach es X.env))) (AP X pins σ Q) X.xe s
def PS (X:Cx)(st:Stmt)(t:TS):Prop:=
 ∀(pins:List (Addr×Obj)) (s:Shared) (σ:St) (H:Hp) (D:cG),a6 X pins σ H s->t D σ H->wpAny (model X.prog X.w) X.A (exec st X.env) (SP X pins D) X.xe s
def dG (X:Cx)(st:List Stmt)(t:TS):Prop:=
 ∀(pins:List (Addr×Obj)) (s:Shared) (σ:St) (H:Hp) (D:cG),a6 X pins σ H s->t D σ H->wpAny (model X.prog X.w) X.A (execs st X.env) (SP X pins D) X.xe s
theorem aK {α:Type}{t:Sem α}{Q Q':α->Shared->Prop}{M:Model}{A:Around}{E:Value->Shared->Prop}{s:Shared}(h:wpAny M A t Q E s)(hQ:∀a s,Q a s->Q' a s):wpAny M A t Q' E s:=bs2 h hQ λ_ _ x=>x
section
variable {X:Cx}
theorem bin {a b:Expr}{ta tb:TE}(ha:PE X a ta)(hb:PE X b tb){pins:List (Addr×Obj)}{s:Shared}{σ:St}{H:Hp}{R:V->V->Hp->Prop}(I:a6 X pins σ H s)(h:ta σ H λx H1=>tb σ H1 λy H2=>R x y H2){α:Type}{Q:α->Shared->Prop}{f:Value->Value->Sem α}(hf:∀v u s2 x y H2,a6 X pins σ H2 s2->aP x v->aP y u->R x y H2->wpAny (model X.prog X.w) X.A (f v u) Q X.xe s2) :
  wpAny (model X.prog X.w) X.A (eval a X.env) (λv s₁=>wpAny (model X.prog X.w) X.A (eval b X.env) (λu s₂=>wpAny (model X.prog X.w) X.A (f v u) Q X.xe s₂) X.xe s₁) X.xe s:=by
 refine aK (ha pins s σ H _ I h) λv s1 ⟨x,H1,I1,r1,q1⟩=>?_
 refine aK (hb pins s1 σ H1 _ I1 q1) λu s2 ⟨y,H2,I2,r2,q2⟩=>?_
 exact hf v u s2 x y H2 I2 r1 r2 q2
def eS (i:Nat):TE:=λσ H Q=>∃v,σ[i]? = some (some v)/\Q v H
def tC (v:V):TE:=λ_ H Q=>Q v H
theorem kJ {i:Nat}{x:Str}{pos:Pos}(hN:X.N[i]? = some x)(hv:iC X.env.scope x)(hd:(x==("__debug__":Str))=false:=by decide)(hcd:(x==("__classdict__":Str))=false:=by decide):PE X (.Name x pos) (eS i):=by
 intro pins s σ H Q I h
 obtain⟨v,e,h⟩:=h
 obtain⟨m,hn,hl⟩:=I.loc
 obtain⟨u,r,l⟩:=hl i x v hN e hv
 have fin:EP X pins σ Q u s:=⟨v,H,I,r,h⟩
 rcases l with⟨hk,hm⟩|⟨hk,c,hc,hcell⟩
 ·exact wpAny_Name (wpAny_loadName_local I.ok.kind hk hn hm fin) hd
 ·rcases hk with hk|hk
  ·exact wpAny_Name (wpAny_loadName_cell I.ok.kind hk hc hcell fin) hd
  ·exact wpAny_Name (wpAny_loadName_free I.ok.kind hk hc hcell fin hcd) hd
theorem kK {i j pos}:PE X (.Constant (.int i) j pos) (tC (.int i)):=λ_ _ _ H _ I h=>wpAny_Constant_int ⟨.int i,H,I.tok _,⟨_,rfl⟩,h⟩
theorem am9 {b j pos}:PE X (.Constant (.bool b) j pos) (tC (.bl b)):=λ_ _ _ H _ I h=>Constant_bool ⟨.bl b,H,I,rfl,h⟩
theorem an0 {x j pos}:PE X (.Constant (.str x) j pos) (tC (.str x)):=λ_ _ _ H _ I h=>Calls.Constant_str ⟨.str x,H,I.tok _,⟨_,rfl⟩,h⟩
def Gl (X:Cx)(x:Str):Prop:=X.env.kindOf x=some .globalImplicit
theorem uE {E:Value->Shared->Prop}{pins:List (Addr×Obj)}{s:Shared}{σ:St}{H:Hp}{x:Str}{u:Value}{pos:Pos}{Q:Value->Shared->Prop}(I:a6 X pins σ H s)(hg:Gl X x)(hm:X.mg x=some u)(h:Q u s)(hd:(x==("__debug__":Str))=false:=by decide):wpAny (model X.prog X.w) X.A (eval (.Name x pos) X.env) Q E s:=
 Calls.Name_function_global I.ok.kind hg (Calls.loadGlobal_global (by rw[I.ok.glob];exact I.mod.glob.keeps I.bk) hm h) hd
theorem jM {E:Value->Shared->Prop}{pins:List (Addr×Obj)}{s:Shared}{σ:St}{H:Hp}{x:Str}{u:Value}{pos:Pos}{Q:Value->Shared->Prop}(I:a6 X pins σ H s)(hg:Gl X x)(hm:X.mg x=none)(hv:bootBuiltins x=some u)(h:Q u s)(hn:x≠"__name__":=by decide)(hd:(x==("__debug__":Str))=false:=by decide):wpAny (model X.prog X.w) X.A (eval (.Name x pos) X.env) Q E s:=by
 obtain⟨mb,h1,h2⟩:=I.mod.blt
 exact Calls.Name_function_global I.ok.kind hg (Calls.loadGlobal_builtin (by rw[I.ok.glob];exact I.mod.glob.keeps I.bk) hm (by rw[I.ok.blt];exact h1.keeps I.bk) ((h2 x hn).trans hv) h) hd
theorem an1 {x:Str}{v:V}{u:Value}{pos:Pos}(hg:Gl X x)(hm:X.mg x=some u)(r:aP v u)(hd:(x==("__debug__":Str))=false:=by decide):PE X (.Name x pos) (tC v):=
 λ_ _ _ H _ I h=>uE I hg hm ⟨v,H,I,r,h⟩ hd
variable {a b:Expr}{ta tb:TE}{pos:Pos}
def PC (X:Cx)(op:CmpOp)(a b:Expr)(t:TE):Prop:=
 ∀(pins:List (Addr×Obj)) (s:Shared) (σ:St) (H:Hp) (Q:VK),a6 X pins σ H s->t σ H Q->
  wpAny (model X.prog X.w) X.A (eval a X.env) (λv s₁=>wpAny (model X.prog X.w) X.A (eval b X.env) (λu s₂=>wpAny (model X.prog X.w) X.A (compareOp op v u) (EP X pins σ Q) X.xe s₂) X.xe s₁) X.xe s
def tB (t:TE):TT:=λσ H Q=>t σ H λx H1=>∃c,x = .bl c/\Q c H1
theorem zQ {op:CmpOp}{t:TE}(h:PC X op a b t)(h1:behindInMarks op b=false:=by first|exact nobehind _ (by decide) (by decide)|rfl):PT X (.Compare a [op] [b] pos) (tB t):=by
 intro pins s σ H Q I hw
 refine wpAny_isTrue_Compare1 (aK (h pins s σ H _ I hw) λv s1 h1=>aK h1 λu s2 h2=>aK h2 λc s3 ⟨x,H1,I1,r1,q1⟩=>?_) h1
 obtain⟨d,rfl,q⟩:=q1
 cases r1
 exact bu7 ⟨H1,I1,q⟩
theorem an2 {e:Expr}{t:TE}(h:PE X e t)(he:∀whole,isTrue e X.env whole=(do let v <- whole;standAt e.pos;holding [v] (truthy v)):=by intro _;rfl):PT X e (tB t):=by
 intro pins s σ H Q I hw
 refine isTrue_plain (aK (h pins s σ H _ I hw) λv s1 ⟨x,H1,I1,r1,q1⟩=>?_) (he _)
 obtain⟨d,rfl,q⟩:=q1
 cases r1
 exact bu7 ⟨H1,I1,q⟩
variable {tA tB':TT}{bR:List Expr}
def zR (t u:TT):TT:=λσ H Q=>t σ H λc H1=>if c=true then u σ H1 Q else Q false H1
def zS (t u:TT):TT:=λσ H Q=>t σ H λc H1=>if c=true then Q true H1 else u σ H1 Q
def zT (t:TT):TT:=λσ H Q=>t σ H λc H1=>Q (!c) H1
theorem an3 (ha:PT X a tA):PW X (.BoolOp .And [a] pos) tA:=by
 intro wh pins s σ H Q I h
 refine isTrue_and (aK (ha pins s σ H Q I h) λc s1 e=>?_)
 cases c with
 |true=>exact isTrue_and_nil e
 |false=>exact e
theorem an4 (ha:PT X a tA):PW X (.BoolOp .Or [a] pos) tA:=by
 intro wh pins s σ H Q I h
 refine isTrue_or (aK (ha pins s σ H Q I h) λc s1 e=>?_)
 cases c with
 |false=>exact isTrue_or_nil e
 |true=>exact e
theorem an5 (ha:PT X a tA)(hb:PW X (.BoolOp .And (b::bR) pos) tB'):PW X (.BoolOp .And (a::b::bR) pos) (zR tA tB'):=by
 intro wh pins s σ H Q I h
 refine isTrue_and (aK (ha pins s σ H _ I h) λc s1 ⟨H1,I1,q1⟩=>?_)
 cases c with
 |true=>exact hb wh pins s1 σ H1 Q I1 q1
 |false=>exact⟨H1,I1,q1⟩
theorem an6 (ha:PT X a tA)(hb:PW X (.BoolOp .Or (b::bR) pos) tB'):PW X (.BoolOp .Or (a::b::bR) pos) (zS tA tB'):=by
 intro wh pins s σ H Q I h
 refine isTrue_or (aK (ha pins s σ H _ I h) λc s1 ⟨H1,I1,q1⟩=>?_)
 cases c with
 |true=>exact⟨H1,I1,q1⟩
 |false=>exact hb wh pins s1 σ H1 Q I1 q1
theorem an7 (ha:PT X a tA):PT X (.UnaryOp .Not a pos) (zT tA):=by
 intro pins s σ H Q I h
 exact isTrue_not (ha pins s σ H (λc H1=>Q (!c) H1) I h)
def zU (ta tb:TE):TE:=λσ H Q=>ta σ H λx H1=>∃c,x = .bl c/\if c=true then tb σ H1 Q else Q (.bl false) H1
def zV (ta tb:TE):TE:=λσ H Q=>ta σ H λx H1=>∃c,x = .bl c/\if c=true then Q (.bl true) H1 else tb σ H1 Q
theorem an8 {op}{t:TE}(h:PE X a t):PE X (.BoolOp op [a] pos) t:=λpins s σ H Q I hw=>BoolOp_one (h pins s σ H Q I hw)
theorem an9 (ha:PE X a ta)(hb:PE X (.BoolOp .And (b::bR) pos) tb):PE X (.BoolOp .And (a::b::bR) pos) (zU ta tb):=by
 intro pins s σ H Q I h
 refine BoolOp_and (aK (ha pins s σ H _ I h) λv s1 ⟨x,H1,I1,r1,q1⟩=>?_)
 obtain⟨c,rfl,q1⟩:=q1
 cases r1
 refine bu7 ?_
 cases c with
 |true=>exact hb pins s1 σ H1 Q I1 q1
 |false=>exact⟨.bl false,H1,I1,rfl,q1⟩
theorem ao0 (ha:PE X a ta)(hb:PE X (.BoolOp .Or (b::bR) pos) tb):PE X (.BoolOp .Or (a::b::bR) pos) (zV ta tb):=by
 intro pins s σ H Q I h
 refine BoolOp_or (aK (ha pins s σ H _ I h) λv s1 ⟨x,H1,I1,r1,q1⟩=>?_)
 obtain⟨c,rfl,q1⟩:=q1
 cases r1
 refine bu7 ?_
 cases c with
 |false=>exact hb pins s1 σ H1 Q I1 q1
 |true=>exact⟨.bl true,H1,I1,rfl,q1⟩
end
def aJ (K:ad)(H:Hp)(a:Addr)(xs:List V):Prop:=
 Rd H a (.lst xs) ∨
  ∃(o:Obj) (its:Array Value) (n:Nat),K.lookup a=some o/\o.cls = .type "list"/\o.dict=none/\o.data = .seq its n/\its.size<=sizeLine/\aI xs its.toList
def aH (K:ad)(H:Hp)(a:Addr)(xs:List V):Prop:=
 Rd H a (.tup xs) ∨
  ∃(o:Obj) (its:Array Value) (n:Nat),K.lookup a=some o/\o.cls = .type "tuple"/\o.data = .seq its n/\its.size<=sizeLine/\aI xs its.toList
def ao1:Value->Option V
 |.none=>some .non
 |.bool b=>some (.bl b)
 |.int i _=>some (.int i)
 |.str x _=>some (.str x)
 |.bytes b _=>some (.byt b)
 |.float b _=>some (.flt b)
 |.ref a=>some (.ref a)
 |.type n=>some (.ty n)
 |_=>none
theorem aP.abs {x:V}{u:Value}(r:aP x u):ao1 u=some x:=by
 cases x with
 |non=>cases r;rfl
 |bl _=>cases r;rfl
 |int _=>obtain⟨t,rfl⟩:=r;rfl
 |str _=>obtain⟨t,rfl⟩:=r;rfl
 |byt _=>obtain⟨t,rfl⟩:=r;rfl
 |flt _=>obtain⟨t,rfl⟩:=r;rfl
 |ref _=>cases r;rfl
 |ty _=>cases r;rfl
theorem aP.inj {x y:V}{u:Value}(r:aP x u)(q:aP y u):x=y:=bn8 (r.abs.symm.trans q.abs)
theorem aI.inj:∀{xs ys:List V}{us:List Value},aI xs us->aI ys us->xs=ys
 |_,_,_,.nil,.nil=>rfl
 |_,_,_,.cons r t,.cons r' t'=>by rw[r.inj r',aI.inj t t']
section
variable {X:Cx}{pins:List (Addr×Obj)}{σ:St}{H:Hp}{s:Shared}{a:Addr}{xs ys:List V}
theorem aJ.of {K:ad}(h:H a=some (.lst xs)):aJ K H a xs:=.inl (.inl h)
theorem aH.of {K:ad}(h:H a=some (.tup xs)):aH K H a xs:=.inl (.inl h)
theorem a6.list (I:a6 X pins σ H s)(h:aJ X.K H a xs):∃its:List Value,aI xs its/\PlainL s.heap a its.toArray/\xs.length<=sizeLine:=by
 rcases h with h|⟨o,its,n,hk,hc,hd,hs,hz,r⟩
 ·obtain⟨z,its,n,r,e⟩:=h.ok I.hok
  exact⟨its,r,⟨_,n,e,rfl,rfl,rfl⟩,z⟩
 ·refine⟨its.toList,r,⟨o,n,I.kIn a o hk,hc,hd,by simpa using hs⟩,?_⟩
  have e:=r.length
  simp only[bq9]at e
  omega
theorem a6.tuple (I:a6 X pins σ H s)(h:aH X.K H a xs):∃its:List Value,aI xs its/\IsTup s.heap a its.toArray/\xs.length<=sizeLine:=by
 rcases h with h|⟨o,its,n,hk,hc,hs,hz,r⟩
 ·obtain⟨z,its,r,p,_⟩:=h.ok I.hok
  exact⟨its,r,p,z⟩
 ·refine⟨its.toList,r,⟨o,I.kIn a o hk,hc,n,by simpa using hs⟩,?_⟩
  have e:=r.length
  simp only[bq9]at e
  omega
theorem a6.list_inj (I:a6 X pins σ H s)(h:aJ X.K H a xs)(h':aJ X.K H a ys):xs=ys:=by
 obtain⟨its,r,⟨o,n,e,_,_,d⟩,_⟩:=I.list h
 obtain⟨its',r',⟨o',n',e',_,_,d'⟩,_⟩:=I.list h'
 rw[e]at e';cases e'
 rw[d]at d'
 injection d' with d1 _
 have:its=its':=by simpa using congrArg Array.toList d1
 subst this
 exact r.inj r'
theorem a6.tuple_inj (I:a6 X pins σ H s)(h:aH X.K H a xs)(h':aH X.K H a ys):xs=ys:=by
 obtain⟨its,r,⟨o,e,_,n,d⟩,_⟩:=I.tuple h
 obtain⟨its',r',⟨o',e',_,n',d'⟩,_⟩:=I.tuple h'
 rw[e]at e';cases e'
 rw[d]at d'
 injection d' with d1 _
 have:its=its':=by simpa using congrArg Array.toList d1
 subst this
 exact r.inj r'
end
abbrev Cx.wish (X:Cx)(E:Value->Shared->Prop):Cx:={ X with xe:=E }
abbrev Cx.nox (X:Cx):Cx:=X.wish λ_ _=>False
theorem Cx.Ok.wish {X:Cx}(ok:X.Ok)(E:Value->Shared->Prop):(X.wish E).Ok:=
 ⟨ok.mod,ok.kind,ok.glob,ok.blt,ok.above,ok.inj,ok.has,ok.cab,ok.hd,ok.frames,ok.stk,ok.exf,ok.bs,ok.bsz,ok.noex,ok.exfs,ok.funs,ok.frf⟩
theorem Cx.Ok.unwish {X:Cx}{E:Value->Shared->Prop}(ok:(X.wish E).Ok):X.Ok:=
 ⟨ok.mod,ok.kind,ok.glob,ok.blt,ok.above,ok.inj,ok.has,ok.cab,ok.hd,ok.frames,ok.stk,ok.exf,ok.bs,ok.bsz,ok.noex,ok.exfs,ok.funs,ok.frf⟩
section
variable {X:Cx}{pins:List (Addr×Obj)}{σ:St}{H:Hp}{s:Shared}{E:Value→Shared→Prop}
theorem a6.wish (I:a6 X pins σ H s)(E:Value->Shared->Prop):a6 (X.wish E) pins σ H s:=⟨I.ok.wish E,I.os,I.bare,I.base,I.loc,I.cell,I.free,I.freeC,I.pin,I.hok,I.len⟩
theorem a6.unwish (I:a6 (X.wish E) pins σ H s):a6 X pins σ H s:=⟨I.ok.unwish,I.os,I.bare,I.base,I.loc,I.cell,I.free,I.freeC,I.pin,I.hok,I.len⟩
theorem SP.unwish {D:cG}{f:Flow}{s':Shared}(h:SP (X.wish E) pins D f s'):SP X pins D f s':=by
 cases f with
 |next=>obtain⟨σ',H',I,q⟩:=h;exact⟨σ',H',I.unwish,q⟩
 |brk=>obtain⟨σ',H',I,q⟩:=h;exact⟨σ',H',I.unwish,q⟩
 |cont=>obtain⟨σ',H',I,q⟩:=h;exact⟨σ',H',I.unwish,q⟩
 |ret u=>obtain⟨v,σ',H',I,r,q⟩:=h;exact⟨v,σ',H',I.unwish,r,q⟩
theorem dG.nox {st:List Stmt}{t:TS}(h:dG X.nox st t):dG X st t:=λpins s σ H D I hw=>
 bs2 (h pins s σ H D (I.wish _) hw) (λ_ _ q=>q.unwish) λ_ _ z=>False.elim z
end
section
variable {X:Cx}{st:Stmt}{bR:List Stmt}{t u:TS}{e:Expr}{te:TE}{pos:Pos}
def uF:TS:=λD σ H=>D.nx σ H
def zW (t u:TS):TS:=λD σ H=>t { D with nx:=u D } σ H
theorem zX:dG X [] uF:=λ_ _ σ H _ I h=>wpAny_execs_nil ⟨σ,H,I,h⟩
theorem kL (h1:PS X st t)(h2:dG X bR u):dG X (st::bR) (zW t u):=by
 intro pins s σ H D I h
 refine wpAny_execs_cons (aK (h1 pins s σ H { D with nx:=u D } I h) λf s1 q=>?_)
 cases f with
 |next=>
  obtain⟨σ',H',I',q⟩:=q
  exact h2 pins s1 σ' H' D I' q
 |ret v=>exact q
 |brk=>exact q
 |cont=>exact q
theorem iR (h1:PS X st t):dG X [st] t:=by
 intro pins s σ H D I h
 refine wpAny_execs_cons (aK (h1 pins s σ H D I h) λf s1 q=>?_)
 cases f with
 |next=>exact wpAny_execs_nil q
 |ret v=>exact q
 |brk=>exact q
 |cont=>exact q
theorem a6.quiet {pins:List (Addr×Obj)}{σ:St}{H:Hp}{s:Shared}(I:a6 X pins σ H s):interactive X.env=false:=by simp[interactive,I.ok.kind]
def uG (te:TE):TS:=λD σ H=>te σ H λ_ H1=>D.nx σ H1
theorem lS (he:PE X e te)(hs:swapsWith e none pos.line X.env=pure false:=by rfl):PS X (.Expr e pos) (uG te):=by
 intro pins s σ H D I h
 exact wpAny_Expr_any (aK (he pins s σ H _ I h) λv s1 ⟨x,H1,I1,r1,q1⟩=>⟨σ,H1,I1,q1⟩) I.quiet hs
def uH (te:TE):TS:=λD σ H=>te σ H D.rt
theorem lT (he:PE X e te):PS X (.Return (some e) pos) (uH te):=by
 intro pins s σ H D I h
 exact wpAny_Return_some (aK (he pins s σ H _ I h) λv s1 ⟨x,H1,I1,r1,q1⟩=>⟨x,σ,H1,I1,r1,q1⟩)
def uI (c:TT)(t u:TS):TS:=λD σ H=>c σ H λb H1=>if b=true then t D σ H1 else u D σ H1
theorem zY {c:Expr}{a b:List Stmt}{tc:TT}(hc:PT X c tc)(ha:dG X a t)(hb:dG X b u):PS X (.If c a b pos) (uI tc t u):=by
 intro pins s σ H D I h
 refine wpAny_If (aK (hc pins s σ H _ I h) λd s1 ⟨H1,I1,q1⟩=>?_)
 cases d with
 |true=>exact ha pins s1 σ H1 D I1 q1
 |false=>exact hb pins s1 σ H1 D I1 q1
end
abbrev TG:=V->St->Hp->(St->Hp->Prop)->Prop
abbrev kM:=List V->St->Hp->(St->Hp->Prop)->Prop
def PG (X:Cx)(target:Expr)(t:TG):Prop:=
 ∀(pins:List (Addr×Obj)) (s:Shared) (σ:St) (H:Hp) (v:V) (u:Value) (Q:St->Hp->Prop),a6 X pins σ H s->aP v u->t v σ H Q->
  wpAny (model X.prog X.w) X.A (assign target X.env u) (λ_ s'=>∃σ' H',a6 X pins σ' H' s'/\Q σ' H') X.xe s
def pS (X:Cx)(ts:List Expr)(t:kM):Prop:=
 ∀(pins:List (Addr×Obj)) (s:Shared) (σ:St) (H:Hp) (vs:List V) (us:List Value) (Q:St->Hp->Prop),a6 X pins σ H s->aI vs us->t vs σ H Q->
  wpAny (model X.prog X.w) X.A (assignInOrder ((assignEach ts X.env).map (·.2)) us) (λ_ s'=>∃σ' H',a6 X pins σ' H' s'/\Q σ' H') X.xe s
abbrev uJ:=V->V->V->Hp->(Hp->Prop)->Prop
def zZ (X:Cx)(t:uJ):Prop:=
 ∀(pins:List (Addr×Obj)) (s:Shared) (σ:St) (H:Hp) (o i v:V) (ov iv u:Value) (Q:Hp->Prop),a6 X pins σ H s->aP o ov->aP i iv->aP v u->t o i v H Q->
  wpAny (model X.prog X.w) X.A (setItem ov iv u) (λ_ s'=>∃H',a6 X pins σ H' s'/\Q H') X.xe s
section
variable {X:Cx}{pos:Pos}
def cV (i:Nat):TG:=λv σ H Q=>Q (σ.set i (some v)) H
theorem eU {i:Nat}{x:Str}(hN:X.N.Nodup)(hi:X.N[i]? = some x)(hx:jL X.env.scope x)(hf:X.fn x=true∨X.env.scope.names.lookup x=some .local:=by first|exact .inl rfl|exact .inr rfl|assumption):PG X (.Name x pos) (cV i):=by
 intro pins s σ H v u Q I r h
 exact wpAny_assign_Name (zP I hN hi hx r (λs' I'=>⟨_,H,I',h⟩) hf)
def kN:kM:=λvs σ H Q=>vs = []/\Q σ H
def fR (t:TG)(u:kM):kM:=λvs σ H Q=>∃v r,vs=v::r/\t v σ H λσ' H'=>u r σ' H' Q
theorem nR:pS X [] kN:=by
 intro pins s σ H vs us Q I r h
 obtain⟨e,h⟩:=h
 subst e
 cases r
 exact assignInOrder_nil ⟨σ,H,I,h⟩
theorem iD {e:Expr}{es:List Expr}{t:TG}{u:kM}(h1:PG X e t)(h2:pS X es u)(hs:(assignEach (e::es) X.env).map (·.2)=assign e X.env::(assignEach es X.env).map (·.2):=by rfl):pS X (e::es) (fR t u):=by
 intro pins s σ H vs us Q I r h
 obtain⟨v,vr,e1,h⟩:=h
 subst e1
 cases r with
 |cons r rr=>
  rw[hs]
  refine assignInOrder_cons (aK (h1 pins s σ H _ _ _ I r h) λ_ s1 ⟨σ1,H1,I1,q1⟩=>?_)
  exact h2 pins s1 σ1 H1 _ _ Q I1 rr q1
def kO (K:ad)(n:Nat)(t:kM):TG:=λv σ H Q=>∃a xs,v = .ref a/\aH K H a xs/\xs.length=n/\t xs σ H Q
theorem nV {es:List Expr}{k:Nat}{t:kM}{n:Nat}(hc:X.calm=true)(h:pS X es t)(hn:(assignEach es X.env).length=n:=by rfl)(hst:(assignEach es X.env).findIdx? (·.1)=none:=by rfl):PG X (.Tuple es k pos) (kO X.K n t):=by
 intro pins s σ H v u Q I r hw
 obtain⟨a,xs,e1,hq,hl,hw⟩:=hw
 subst e1
 cases r
 obtain⟨its,rv,ht,hz⟩:=I.tuple hq
 refine assign_Tuple_tuple (I.ok.hd hc) ht (by simp[hn,<- hl,rv.length]) hst λh' hx=>?_
 have I1:a6 X pins σ H { s with heap:=h' }:=I.kept (t':=s.toks) λb o e=>hx b o (bo2 (bm3 e)) e
 exact h pins _ σ H xs _ Q I1 (by simpa using rv) hw
def uK (to ti:TE)(t:uJ):TG:=λv σ H Q=>to σ H λo H1=>ti σ H1 λi H2=>t o i v H2 λH3=>Q σ H3
theorem ao2 {o i:Expr}{to ti:TE}{t:uJ}(ho:PE X o to)(hi:PE X i ti)(hs:zZ X t)(ha:∀v,assign (.Subscript o i pos) X.env v=(do
   let ov <- holding [v] (eval o X.env)
   let iv <- holding [v,ov] (eval i X.env)
   standAt pos
   holding [v,ov,iv] (setItem ov iv v)
   release [v,ov,iv] []):=by intro _;rfl):PG X (.Subscript o i pos) (uK to ti t):=by
 intro pins s σ H v u Q I r h
 rw[ha]
 refine bk3 (bt1 (aK (ho pins s σ H _ I h) λov s1 ⟨x,H1,I1,r1,q1⟩=>?_))
 refine bk3 (bt1 (aK (hi pins s1 σ H1 _ I1 q1) λiv s2 ⟨y,H2,I2,r2,q2⟩=>?_))
 refine bk3 (wpAny_standAt (bk3 (bt1 (aK (hs pins s2 σ H2 x y v ov iv u _ I2 r1 r2 r q2) λ_ s3 ⟨H3,I3,q3⟩=>?_))))
 exact wpAny_release ⟨σ,H3,I3,q3⟩
def kQ (te:TE)(g:TG):TS:=λD σ H=>te σ H λx H1=>g x σ H1 D.nx
theorem ao3 {tg e:Expr}{te:TE}{g:TG}(he:PE X e te)(hg:PG X tg g)(hs:swapsWithSole [tg] e pos.line X.env=pure false:=by rfl)(hw:swappedStores [tg] e X.env=pure none:=by rfl)(h1:(assignEach [tg] X.env).map (·.2) = [assign tg X.env]:=by rfl):PS X (.Assign [tg] e pos) (kQ te g):=by
 intro pins s σ H D I h
 refine wpAny_Assign_stores (aK (he pins s σ H _ I h) λv s1 ⟨x,H1,I1,r1,q1⟩=>?_) hs hw
 rw[h1]
 exact aK (hg pins s1 σ H1 x v _ I1 r1 q1) λ_ s2 q=>q
theorem A0 {i:Nat}{x:Str}{e:Expr}{te:TE}{pos':Pos}(hN:X.N.Nodup)(hi:X.N[i]? = some x)(hx:jL X.env.scope x)(he:PE X e te)(hs:swapsWith e (some (.Name x pos')) pos.line X.env=pure false:=by rfl)(hf:X.fn x=true∨X.env.scope.names.lookup x=some .local:=by first|exact .inl rfl|exact .inr rfl|assumption) :
  PS X (.Assign [.Name x pos'] e pos) (kQ te (cV i)):=by
 intro pins s σ H D I h
 refine wpAny_Assign_Name (aK (he pins s σ H _ I h) λv s1 ⟨y,H1,I1,r1,q1⟩=>?_) hs
 exact zP I1 hN hi hx r1 (λs2 I2=>⟨_,H1,I2,q1⟩) hf
end
section
variable {X:Cx}{pos:Pos}
def A1 (c:TT)(tb:TS):TS:=λD σ H=>∃W:Nat->St->Hp->Prop,(∃m,W m σ H)/\∀m σ H,W m σ H->
 c σ H λb H1=>if b=true then ∃N:St->Hp->Prop,(∀σ' H',N σ' H'->∃m',m'<m/\W m' σ' H')/\tb { D with nx:=N,ct:=N,bk:=D.nx } σ H1 else D.nx σ H1
theorem ao4 {c:Expr}{body:List Stmt}{tc:TT}{tb:TS}(hp:PassesOwn (model X.prog X.w) X.A X.env X.xe)(hc:PT X c tc)(hb:dG X body tb):PS X (.While c body [] pos) (A1 tc tb):=by
 intro pins s σ H D I h
 obtain⟨W,⟨m0,w0⟩,turn⟩:=h
 refine wpAny_While (codeAny_whileLoop (λn s'=>∃σ' H',a6 X pins σ' H' s'/\W n σ' H') ?_ m0 ⟨σ,H,I,w0⟩)
 rintro n s1 ⟨σ1,H1,I1,w1⟩
 refine bA9 hp (aK (hc pins s1 σ1 H1 _ I1 (turn n σ1 H1 w1)) λb s2 ⟨H2,I2,q2⟩=>?_)
 cases b with
 |true=>
  obtain⟨N,hN,q2⟩:=q2
  rw[if_pos rfl]
  refine bA9 hp (aK (hb pins s2 σ1 H2 _ I2 q2) λf s3 q3=>?_)
  cases f with
  |next=>
   obtain⟨σ3,H3,I3,n3⟩:=q3
   obtain⟨m',hm,w3⟩:=hN σ3 H3 n3
   exact⟨m',hm,σ3,H3,I3,w3⟩
  |cont=>
   obtain⟨σ3,H3,I3,n3⟩:=q3
   obtain⟨m',hm,w3⟩:=hN σ3 H3 n3
   exact⟨m',hm,σ3,H3,I3,w3⟩
  |brk=>exact q3
  |ret v=>exact q3
 |false=>
  rw[if_neg bm6]
  exact wpAny_execs_nil ⟨σ1,H2,I2,q2⟩
end
structure It where
 go:Nat->Hp->Prop
 yld:Nat->Hp->V->Hp->Prop
 stop:Nat->Hp->Prop
def gB (X:Cx)(pins:List (Addr×Obj))(H:Hp)(b:Addr):Prop:=
 H b=none/\b≠X.env.locals/\b∉X.fs/\(b∈X.ex∨X.s₀.heap.objs.size<=b)/\(∀x c,X.env.cells.lookup x=some c->c≠b)/\∀p∈X.pn++pins,p.1≠b
theorem a6.fpOk {X:Cx}{pins:List (Addr×Obj)}{σ:St}{H H':Hp}{s:Shared}{b:Addr}(I:a6 X pins σ H s)(hb:s.heap.objs.size<=b)(hn:H' b=none):gB X pins H' b:=by
 refine⟨hn,bv2 (bm5 I.lt hb),I.nofs hb,.inr (bp5 I.sz hb),λx c e z=>?_,λp hp z=>?_⟩
 ·obtain⟨v,q⟩:=I.cell x c e
  exact absurd (bm5 q.lt (by rw[z];exact hb)) (br2 _)
 ·exact absurd (bm5 (bm3 (I.pin p hp).1) (by rw[z];exact hb)) (br2 _)
structure gP (P:Program)(w:World)(K:ad)(tg:Expr)(J:It)(fp:List Addr)(it:Addr)(tn:Nat->Heap->Prop):Prop where
 mem:it∈fp
 obj:∀i h,tn i h->∀b∈fp,∃o,h.get? b=some o/\∀v,o.data≠.cell v
 keep:∀i h h',tn i h->(∀b∈fp,∀o,h.get? b=some o->h'.get? b=some o)->tn i h'
 item:∀(X:Cx),X.prog=P->X.w=w->X.K=K->X.calm=true->∀(i:Nat) (pins:List (Addr×Obj)) (s:Shared) (σ:St) (H:Hp) (E:Value->Shared->Prop),a6 X pins σ H s->(∀b∈fp,gB X pins H b)->tn i s.heap->J.go i H->
  wpAny (model P w) X.A (pyNext (.ref it)) (λr s1=>∃u,r=some u/\
   wpAny (model P w) X.A (letOwnedTupleGo tg (.ref it) u) (λ_ s2=>∃x H',a6 X pins σ H' s2/\aP x u/\J.yld i H x H'/\tn (i+1) s2.heap/\∀b∈fp,H' b=none) E s1) E s
 done:∀(X:Cx),X.prog=P->X.w=w->X.K=K->X.calm=true->∀(i:Nat) (pins:List (Addr×Obj)) (s:Shared) (σ:St) (H:Hp) (E:Value->Shared->Prop),a6 X pins σ H s->(∀b∈fp,gB X pins H b)->tn i s.heap->J.stop i H->
  wpAny (model P w) X.A (pyNext (.ref it)) (λr s1=>r=none/\a6 X pins σ H s1) E s
 self:∀(A:Around) (i:Nat) (s:Shared) (Q:Value->Shared->Prop) (E:Value->Shared->Prop),tn i s.heap->Q (.ref it) s->wpAny (model P w) A (pyIter (.ref it)) Q E s
abbrev TI:=St->Hp->(It->Hp->Prop)->Prop
def A3 (X:Cx)(pins:List (Addr×Obj))(σ:St)(tg:Expr)(R:It->Hp->Prop)(itv:Value)(s2:Shared):Prop:=
 ∃(it:Addr) (fp:List Addr) (tn:Nat->Heap->Prop) (J:It) (H':Hp),itv = .ref it/\a6 X pins σ H' s2/\gP X.prog X.w X.K tg J fp it tn/\tn 0 s2.heap/\(∀b∈fp,gB X pins H' b)/\R J H'
def PI (X:Cx)(tg iter:Expr)(wi:TI):Prop:=
 ∀(pins:List (Addr×Obj)) (s:Shared) (σ:St) (H:Hp) (R:It->Hp->Prop),a6 X pins σ H s->wi σ H R->
  wpAny (model X.prog X.w) X.A (eval iter X.env) (λv s1=>wpAny (model X.prog X.w) X.A (pyIter v) (A3 X pins σ tg R) X.xe s1) X.xe s
theorem pT {M:Model}{A:Around}{E:Value->Shared->Prop}{s:Shared}{tg:Expr}{it:Addr}{u:Value}{o:Obj}{n:String}{vs:Array Value}{Q:Unit->Shared->Prop}(ho:s.heap.get? it=some o)(hc:o.cls = .type n)(hd:o.data = .fields vs)(hn:["enumerate","zip","dict_itemiterator","dict_reverseitemiterator","odict_iterator","itertools.zip_longest","itertools.pairwise"].contains n=false)(hQ:Q () s):wpAny M A (letOwnedTupleGo tg (.ref it) u) Q E s:=by
  unfold letOwnedTupleGo
  cases tg<;>first
    |exact bk8 hQ
    |(cases u<;>first
        |exact bk8 hQ
        | (refine bk3 (wpAny_load ho ?_)
           rw[hc,hd]
           show wpAny M A (if (["enumerate","zip","dict_itemiterator","dict_reverseitemiterator","odict_iterator","itertools.zip_longest","itertools.pairwise"].contains n&&vs[0]?==some (rawInt _))=true then _ else _) Q E s
           rw[if_neg (by intro h;rw[hn,Bool.false_and]at h;cases h)]
           exact bk8 hQ))
def lU (K:ad)(a:Addr):It:=
 ⟨λi H=>∃xs x,aJ K H a xs/\xs[i]? = some x,λi H x H'=>H'=H/\∀xs,aJ K H a xs->xs[i]? = some x,λi H=>∃xs,aJ K H a xs/\xs.length<=i⟩
def jN (K:ad)(a:Addr):It:=
 ⟨λi H=>∃xs x,aH K H a xs/\xs[i]? = some x,λi H x H'=>H'=H/\∀xs,aH K H a xs->xs[i]? = some x,λi H=>∃xs,aH K H a xs/\xs.length<=i⟩
def nW (lo:Int)(n:Nat):It:=⟨λi _=>i<n,λi H x H'=>H'=H/\x = .int (lo+i),λi _=>n<=i⟩
theorem ao5 {P:Program}{w:World}{K:ad}{tg:Expr}(a it:Addr):gP P w K tg (lU K a) [it] it (λi h=>h.IsListIter it a i) where
 mem:=by simp
 obj:=λi h st b hb=>by
  have e:b=it:=by simpa using hb
  subst e
  obtain⟨o,e,c,d⟩:=st
  exact⟨o,e,λv z=>by rw[d]at z;cases z⟩
 keep:=λi h h' st k=>st.at λo e=>k it (by simp) o e
 item:=by
  intro X hP hw hK hc i pins s σ H E I hf st hg
  subst hP hw hK
  obtain⟨xs,x,hq,hx⟩:=hg
  obtain⟨its,rv,p,hz⟩:=I.list hq
  obtain⟨u,hu,ru⟩:=rv.get hx
  obtain⟨f0,f1,f2,f3,f4,f5⟩:=hf it (by simp)
  refine wpAny_pyNext_list_item st p.isList (x:=u) (by simpa using hu) λh' st' sb=>?_
  have I1:a6 X pins σ H { s with heap:=h' }:=I.turned (t':=s.toks) (λb o hb e=>(sb.2 b hb).trans e) f0 f1 f3 f4 f5
  obtain⟨o,e,c,d⟩:=id st'
  exact⟨u,rfl,pT (s:={ s with heap:=h' }) e c d (by decide) ⟨x,H,I1,ru,⟨rfl,λys hy=>by rw[I.list_inj hy hq];exact hx⟩,st',λb hb=>(hf b hb).1⟩⟩
 done:=by
  intro X hP hw hK hc i pins s σ H E I hf st hg
  subst hP hw hK
  obtain⟨xs,hq,hx⟩:=hg
  obtain⟨its,rv,p,hz⟩:=I.list hq
  obtain⟨f0,f1,f2,f3,f4,f5⟩:=hf it (by simp)
  have hl:=rv.length
  exact wpAny_pyNext_list_end (I.ok.hd hc) st p.isList (by simp;omega) λh' eb=>⟨rfl,I.turned (t':=s.toks) (λb o hb e=>eb b o hb e) f0 f1 f3 f4 f5⟩
 self:=λ_ _ _ _ _ st h=>wpAny_pyIter_listiter st h
theorem A4 {P:Program}{w:World}{K:ad}{tg:Expr}(a it:Addr):gP P w K tg (jN K a) [it] it (λi h=>h.IsTupleIter it a i) where
 mem:=by simp
 obj:=λi h st b hb=>by
  have e:b=it:=by simpa using hb
  subst e
  obtain⟨o,e,c,d⟩:=st
  exact⟨o,e,λv z=>by rw[d]at z;cases z⟩
 keep:=λi h h' st k=>st.at λo e=>k it (by simp) o e
 item:=by
  intro X hP hw hK hc i pins s σ H E I hf st hg
  subst hP hw hK
  obtain⟨xs,x,hq,hx⟩:=hg
  obtain⟨its,rv,p,hz⟩:=I.tuple hq
  obtain⟨u,hu,ru⟩:=rv.get hx
  obtain⟨f0,f1,f2,f3,f4,f5⟩:=hf it (by simp)
  refine wpAny_pyNext_tuple_item st (show s.heap.IsTuple a its.toArray from p) (x:=u) (by simpa using hu) λh' st' sb=>?_
  have I1:a6 X pins σ H { s with heap:=h' }:=I.turned (t':=s.toks) (λb o hb e=>(sb.2 b hb).trans e) f0 f1 f3 f4 f5
  obtain⟨o,e,c,d⟩:=id st'
  exact⟨u,rfl,pT (s:={ s with heap:=h' }) e c d (by decide) ⟨x,H,I1,ru,⟨rfl,λys hy=>by rw[I.tuple_inj hy hq];exact hx⟩,st',λb hb=>(hf b hb).1⟩⟩
 done:=by
  intro X hP hw hK hc i pins s σ H E I hf st hg
  subst hP hw hK
  obtain⟨xs,hq,hx⟩:=hg
  obtain⟨its,rv,p,hz⟩:=I.tuple hq
  obtain⟨f0,f1,f2,f3,f4,f5⟩:=hf it (by simp)
  have hl:=rv.length
  exact wpAny_pyNext_tuple_end (I.ok.hd hc) st (show s.heap.IsTuple a its.toArray from p) (by simp;omega) λh' eb=>⟨rfl,I.turned (t':=s.toks) (λb o hb e=>eb b o hb e) f0 f1 f3 f4 f5⟩
 self:=λ_ _ _ _ _ st h=>wpAny_pyIter_tupleiter st h
theorem ao6 {P:Program}{w:World}{K:ad}{tg:Expr}(it:Addr)(lo:Int)(n:Nat):gP P w K tg (nW lo n) [it] it (λi h=>IsRangeIter h it (lo+(i:Nat)*1) ((n:Int)-(i:Nat)) 1) where
 mem:=by simp
 obj:=λi h st b hb=>by
  have e:b=it:=by simpa using hb
  subst e
  exact⟨_,st,λv z=>by
   have z':Data.fields _=Data.cell v:=z
   cases z'⟩
 keep:=λi h h' st k=>k it (by simp) _ st
 item:=by
  intro X hP hw hK hc i pins s σ H E I hf st hg
  subst hP hw hK
  obtain⟨f0,f1,f2,f3,f4,f5⟩:=hf it (by simp)
  have W:=Walks.range (prog:=X.prog) (w:=X.w) (I.ok.hd hc) it lo 1 n
  refine W.item i s _ _ hg st λv h' tk hv st' kk=>?_
  obtain⟨t,rfl⟩:=hv
  have I1:a6 X pins σ H { s with heap:=h',toks:=tk }:=I.turned (λb o hb e=>kk b o (by simpa using hb) e) f0 f1 f3 f4 f5
  refine⟨_,rfl,pT (s:={ s with heap:=h',toks:=tk }) (n:="range_iterator") st' rfl rfl (by decide) ⟨.int (lo+i),H,I1,⟨t,?_⟩,⟨rfl,rfl⟩,st',λb hb=>(hf b hb).1⟩⟩
  rw[Int.mul_one]
 done:=by
  intro X hP hw hK hc i pins s σ H E I hf st hg
  subst hP hw hK
  obtain⟨f0,f1,f2,f3,f4,f5⟩:=hf it (by simp)
  exact wpAny_pyNext_range_end (I.ok.hd hc) st (by have:n<=i:=hg;omega) λh' eb=>⟨rfl,I.turned (t':=s.toks) (λb o hb e=>eb b o hb e) f0 f1 f3 f4 f5⟩
 self:=λ_ _ _ _ _ st h=>wpAny_pyIter_rangeiter st h
section
variable {X:Cx}{tg:Expr}
def ao7 (K:ad)(tl:TE):TI:=λσ H R=>tl σ H λx H1=>∃a,x = .ref a/\(∃xs,aH K H1 a xs)/\R (jN K a) H1
theorem pU {l:Expr}{tl:TE}(hl:PE X l tl):PI X tg l (ao7 X.K tl):=by
 intro pins s σ H R I h
 refine aK (hl pins s σ H _ I h) λv s1 ⟨x,H1,I1,r1,q1⟩=>?_
 obtain⟨a,e,⟨xs,hq⟩,q⟩:=q1
 subst e
 cases r1
 obtain⟨its,rv,p,hz⟩:=I1.tuple hq
 refine bx2 (show s1.heap.IsTuple a its.toArray from p) ?_
 refine⟨s1.heap.objs.size,[s1.heap.objs.size],_,_,H1,rfl,I1.kept (t':=s1.toks) λb o e=>bk6 _ e,A4 a _,⟨_,bm4 _ rfl,rfl,rfl⟩,λb hb=>?_,q⟩
 have e:b=s1.heap.objs.size:=by simpa using hb
 subst e
 exact I1.fpOk (bk7 _) (I1.hok.fresh (bk7 _))
theorem A5 {pins:List (Addr×Obj)}{σ:St}{H:Hp}{s:Shared}{R:It->Hp->Prop}{E:Value->Shared->Prop}{lo hi:Int}{t u v:Tok}{tk:Nat}(I:a6 X pins σ H s)(h1:-(2^62)<=lo)(h2:lo<2^62)(h3:-(2^62)<=hi)(h4:hi<2^62)(q:R (nW lo (hi-lo).toNat) H):wpAny (model X.prog X.w) X.A (pyIter (.ref s.heap.objs.size)) (A3 X pins σ tg R) E { s with heap:=s.heap.push { cls:=.type "range",data:=.fields #[.int lo t,.int hi u,.int 1 v] },toks:=tk }:=by
 refine wpAny_pyIter_range (IsRange.new ..) (small_one h1 h2 h3 h4) ?_
 have I1:a6 X pins σ H { s with heap:=s.heap.push { cls:=.type "range",data:=.fields #[.int lo t,.int hi u,.int 1 v] },toks:=tk }:=I.kept λb o e=>bk6 _ e
 refine⟨(s.heap.push { cls:=.type "range",data:=.fields #[.int lo t,.int hi u,.int 1 v] }).objs.size,[(s.heap.push { cls:=.type "range",data:=.fields #[.int lo t,.int hi u,.int 1 v] }).objs.size],_,_,H,rfl,
  I1.kept (t':=tk) λb o e=>bk6 _ e,ao6 _ lo (hi-lo).toNat,?_,λb hb=>?_,q⟩
 ·have e1:lo+((0:Nat):Int)*1=lo:=by simp
  have e2:(((hi-lo).toNat:Nat):Int)-((0:Nat):Int)=Builtin.Range.rangeSize lo hi 1:=by rw[rangeSize_one];split<;>omega
  show IsRangeIter _ _ (lo+((0:Nat):Int)*1) ((((hi-lo).toNat:Nat):Int)-((0:Nat):Int)) 1
  rw[e1,e2]
  exact bm4 _ rfl
 ·have e:b=(s.heap.push { cls:=.type "range",data:=.fields #[.int lo t,.int hi u,.int 1 v] }).objs.size:=by simpa using hb
  subst e
  exact I1.fpOk (bk7 _) (I1.hok.fresh (bk7 _))
def A6 (ta:TA):TI:=λσ H R=>ta σ H λvs H1=>∃j:Int,vs = [.int j]/\-(2^62)<=j/\j<2^62/\R (nW 0 j.toNat) H1
def A7 (ta:TA):TI:=λσ H R=>ta σ H λvs H1=>∃i j:Int,vs = [.int i,.int j]/\(-(2^62)<=i/\i<2^62/\-(2^62)<=j/\j<2^62)/\R (nW i (j-i).toNat) H1
theorem ao8 {a:Expr}{ta:TA}{p pos:Pos}(hg:Gl X "range")(hm:X.mg "range" = none)(ha:PA X [a] ta)(hs:starEach [a] X.env = [(false,eval a X.env)]:=by rfl):PI X tg (.Call (.Name "range" p) [a] [] pos) (A6 ta):=by
 intro pins s σ H R I h
 refine Call_ (jM I hg hm boot_range (bt3 (aK (ha pos pins s σ H _ I h) λus s1 ⟨vs,H1,I1,r1,q1⟩=>?_) hs rfl))
 obtain⟨j,e,q1,q2,q⟩:=q1
 subst e
 cases r1 with
 |cons r rr=>
  cases rr
  obtain⟨t,rfl⟩:=r
  exact call_range_1 (A5 I1 (by omega) (by omega) q1 q2 (by simpa using q))
theorem ao9 {a b:Expr}{ta:TA}{p pos:Pos}(hg:Gl X "range")(hm:X.mg "range" = none)(ha:PA X [a,b] ta)(hs:starEach [a,b] X.env = [(false,eval a X.env),(false,eval b X.env)]:=by rfl)(hs2:starEach [b] X.env = [(false,eval b X.env)]:=by rfl) :
  PI X tg (.Call (.Name "range" p) [a,b] [] pos) (A7 ta):=by
 intro pins s σ H R I h
 refine Call_ (jM I hg hm boot_range (bt3 (aK (ha pos pins s σ H _ I h) λus s1 ⟨vs,H1,I1,r1,q1⟩=>?_) (by rw[hs,hs2]) (by rw[hs2];rfl)))
 obtain⟨i,j,e,⟨q1,q2,q3,q4⟩,q⟩:=q1
 subst e
 cases r1 with
 |cons r rr=>
  cases rr with
  |cons r' rr=>
   cases rr
   obtain⟨t,rfl⟩:=r
   obtain⟨t',rfl⟩:=r'
   exact call_range_2 (A5 I1 q1 q2 q3 q4 q)
def pV (wi:TI)(g:TG)(tb:TS):TS:=λD σ H=>wi σ H λJ H1=>∃W:Nat->Nat->St->Hp->Prop,(∃m,W 0 m σ H1)/\∀i m σ H,W i m σ H->
 (J.stop i H/\D.nx σ H)∨(J.go i H/\∃N:St->Hp->Prop,(∀σ' H',N σ' H'->∃m',m'<m/\W (i+1) m' σ' H')/\∀x H',J.yld i H x H'->g x σ H' λσ2 H2=>tb { D with nx:=N,ct:=N,bk:=D.nx } σ2 H2)
def nX (fp:List Addr)(h:Heap):List (Addr×Obj):=fp.filterMap λb=>(h.get? b).map λo=>(b,o)
theorem pW {fp:List Addr}{h:Heap}{b:Addr}{o:Obj}(hb:b∈fp)(e:h.get? b=some o):(b,o)∈nX fp h:=List.mem_filterMap.mpr ⟨b,hb,by rw[e];rfl⟩
theorem ap0 {fp:List Addr}{h:Heap}{p:Addr×Obj}(hp:p∈nX fp h):p.1∈fp/\h.get? p.1=some p.2:=by
 obtain⟨b,hb,e⟩:=List.mem_filterMap.mp hp
 cases q:h.get? b with
 |none=>rw[q]at e;cases e
 |some o=>
  rw[q]at e
  have e':(b,o)=p:=bn8 e
  subst e'
  exact⟨hb,q⟩
theorem a6.pinned {pins:List (Addr×Obj)}{σ:St}{H:Hp}{s:Shared}{fp:List Addr}(I:a6 X pins σ H s)(hf:∀b∈fp,gB X pins H b)(ho:∀b∈fp,∃o,s.heap.get? b=some o/\∀v,o.data≠.cell v):a6 X (pins++nX fp s.heap) σ H s:=
 I.pins_of λp hp=>(bn4.mp hp).elim (λz=>I.pin p (bo6 _ z)) λz=>by
  obtain⟨hb,e⟩:=ap0 z
  obtain⟨f0,f1,f2,_⟩:=hf p.1 hb
  obtain⟨o,e',d⟩:=ho p.1 hb
  rw[e]at e';cases e'
  exact⟨e,f0,f1,f2,d⟩
theorem a6.unpinned {pins pl:List (Addr×Obj)}{σ:St}{H:Hp}{s:Shared}(I:a6 X (pins++pl) σ H s):a6 X pins σ H s:=I.pins_of λp hp=>I.pin p (bo6 _ (bt7 _ hp))
theorem pX {iter:Expr}{body:List Stmt}{wi:TI}{g:TG}{tb:TS}{pos:Pos}(hp:PassesOwn (model X.prog X.w) X.A X.env X.xe)(hc:X.calm=true)(hi:PI X tg iter wi)(hg:PG X tg g)(hb:dG X body tb)(hs:∀x,foldedSetIterable iter X.env x=pure x:=by intro _;rfl):PS X (.For tg iter body [] pos) (pV wi g tb):=by
 intro pins s σ H D I h
 refine wpAny_For (aK (hi pins s σ H _ I h) λv s1 h1=>aK h1 λitv s2 h2=>?_) hs
 obtain⟨it,fp,tn,J,H2,e,I2,T,st2,f2,W,⟨m0,w0⟩,turn⟩:=h2
 subst e
 have stat:∀{H':Hp},(∀b∈fp,H' b=none)->∀b∈fp,gB X pins H' b:=λhn b hb=>⟨hn b hb,(f2 b hb).2⟩
 refine codeAny_forLoop_any (λn s'=>∃i σ' H',a6 X pins σ' H' s'/\tn i s'.heap/\(∀b∈fp,H' b=none)/\W i n σ' H') ?_ m0 ⟨0,σ,H2,I2,st2,λb hb=>(f2 b hb).1,w0⟩
 rintro n s3 ⟨i,σ3,H3,I3,st3,fr3,w3⟩
 rcases turn i n σ3 H3 w3 with⟨stop,qn⟩|⟨go,N,hN,step⟩
 ·refine bA9 hp (aK (T.done X rfl rfl rfl hc i pins s3 σ3 H3 X.xe I3 (stat fr3) st3 stop) λr s4 ⟨hr,I4⟩=>?_)
  subst hr
  exact wpAny_execs_nil ⟨σ3,H3,I4,qn⟩
 ·refine bA9 hp (aK (T.item X rfl rfl rfl hc i pins s3 σ3 H3 X.xe I3 (stat fr3) st3 go) λr s4 ⟨u,hr,h4⟩=>?_)
  subst hr
  refine bA9 hp (aK h4 λ_ s5 ⟨x,H5,I5,r5,y5,st5,fr5⟩=>?_)
  have I5':=I5.pinned (stat fr5) (T.obj _ _ st5)
  refine bA9 hp (aK (hg _ s5 σ3 H5 x u _ I5' r5 (step x H5 y5)) λ_ s6 ⟨σ6,H6,I6,q6⟩=>?_)
  refine bA9 hp (aK (hb _ s6 σ6 H6 _ I6 q6) λf s7 q7=>?_)
  have again:∀{σ7:St}{H7:Hp},a6 X (pins++nX fp s5.heap) σ7 H7 s7->N σ7 H7->∃m,m<n/\∃i σ' H',a6 X pins σ' H' s7/\tn i s7.heap/\(∀b∈fp,H' b=none)/\W i m σ' H':=λ{σ7 H7} I7 n7=>by
   obtain⟨m',hm,w7⟩:=hN σ7 H7 n7
   refine⟨m',hm,i+1,σ7,H7,I7.unpinned,T.keep _ _ _ st5 λb hb o e=>(I7.pin (b,o) (bo6 _ (bo6 _ (pW hb e)))).1,λb hb=>?_,w7⟩
   obtain⟨o,e,d⟩:=T.obj _ _ st5 b hb
   exact (I7.pin (b,o) (bo6 _ (bo6 _ (pW hb e)))).2.1
  cases f with
  |next=>obtain⟨σ7,H7,I7,n7⟩:=q7;exact again I7 n7
  |cont=>obtain⟨σ7,H7,I7,n7⟩:=q7;exact again I7 n7
  |brk=>obtain⟨σ7,H7,I7,q7⟩:=q7;exact⟨σ7,H7,I7.unpinned,q7⟩
  |ret v=>obtain⟨x7,σ7,H7,I7,r7,q7⟩:=q7;exact⟨x7,σ7,H7,I7.unpinned,r7,q7⟩
end
theorem bk0 {K:ad}{a:Addr}{xs:List V}{g:TG}{tb:TS}{D:cG}{σ:St}{H:Hp}(Pv:Nat->St->Hp->Prop)(h0:Pv 0 σ H)(hl:∀i σ H,i<=xs.length->Pv i σ H->aJ K H a xs)(hs:∀i x σ H,xs[i]? = some x->Pv i σ H->g x σ H λσ2 H2=>tb { D with nx:=Pv (i+1),ct:=Pv (i+1),bk:=D.nx } σ2 H2)(hd:∀σ H,Pv xs.length σ H->D.nx σ H) :
  ∃W:Nat->Nat->St->Hp->Prop,(∃m,W 0 m σ H)/\∀i m σ H,W i m σ H->
   ((lU K a).stop i H/\D.nx σ H)∨((lU K a).go i H/\∃N:St->Hp->Prop,(∀σ' H',N σ' H'->∃m',m'<m/\W (i+1) m' σ' H')/\∀x H',(lU K a).yld i H x H'->g x σ H' λσ2 H2=>tb { D with nx:=N,ct:=N,bk:=D.nx } σ2 H2):=by
 refine⟨λi m σ H=>m=xs.length-i/\i<=xs.length/\Pv i σ H,⟨xs.length,by simp,bo4 _,h0⟩,?_⟩
 rintro i m σ H ⟨rfl,hi,p⟩
 have q:=hl i σ H hi p
 by_cases hlt:i<xs.length
 ·refine .inr ⟨⟨xs,xs[i],q,by simp[hlt]⟩,Pv (i+1),λσ' H' p'=>⟨xs.length-(i+1),by omega,rfl,hlt,p'⟩,λx H' y=>?_⟩
  obtain⟨e,y⟩:=y
  subst e
  exact hs i x σ _ (y xs q) p
 ·have e:i=xs.length:=by omega
  subst e
  exact .inl ⟨⟨xs,q,bk7 _⟩,hd σ H p⟩
theorem A8 {K:ad}{a:Addr}{xs:List V}{g:TG}{tb:TS}{D:cG}{σ:St}{H:Hp}(Pv:Nat->St->Hp->Prop)(h0:Pv 0 σ H)(hl:∀i σ H,i<=xs.length->Pv i σ H->aH K H a xs)(hs:∀i x σ H,xs[i]? = some x->Pv i σ H->g x σ H λσ2 H2=>tb { D with nx:=Pv (i+1),ct:=Pv (i+1),bk:=D.nx } σ2 H2)(hd:∀σ H,Pv xs.length σ H->D.nx σ H) :
  ∃W:Nat->Nat->St->Hp->Prop,(∃m,W 0 m σ H)/\∀i m σ H,W i m σ H->
   ((jN K a).stop i H/\D.nx σ H)∨((jN K a).go i H/\∃N:St->Hp->Prop,(∀σ' H',N σ' H'->∃m',m'<m/\W (i+1) m' σ' H')/\∀x H',(jN K a).yld i H x H'->g x σ H' λσ2 H2=>tb { D with nx:=N,ct:=N,bk:=D.nx } σ2 H2):=by
 refine⟨λi m σ H=>m=xs.length-i/\i<=xs.length/\Pv i σ H,⟨xs.length,by simp,bo4 _,h0⟩,?_⟩
 rintro i m σ H ⟨rfl,hi,p⟩
 have q:=hl i σ H hi p
 by_cases hlt:i<xs.length
 ·refine .inr ⟨⟨xs,xs[i],q,by simp[hlt]⟩,Pv (i+1),λσ' H' p'=>⟨xs.length-(i+1),by omega,rfl,hlt,p'⟩,λx H' y=>?_⟩
  obtain⟨e,y⟩:=y
  subst e
  exact hs i x σ _ (y xs q) p
 ·have e:i=xs.length:=by omega
  subst e
  exact .inl ⟨⟨xs,q,bk7 _⟩,hd σ H p⟩
abbrev R2:=V->V->Hp->VK->Prop
def bS (X:Cx)(f:Value->Value->Sem Value)(r:R2):Prop:=
 ∀(pins:List (Addr×Obj)) (s:Shared) (σ:St) (H:Hp) (x y:V) (v u:Value) (Q:VK),a6 X pins σ H s->aP x v->aP y u->r x y H Q->
  wpAny (model X.prog X.w) X.A (f v u) (EP X pins σ Q) X.xe s
def uL (X:Cx)(f:Value->Sem Value)(r:V->Hp->VK->Prop):Prop:=
 ∀(pins:List (Addr×Obj)) (s:Shared) (σ:St) (H:Hp) (x:V) (v:Value) (Q:VK),a6 X pins σ H s->aP x v->r x H Q->
  wpAny (model X.prog X.w) X.A (f v) (EP X pins σ Q) X.xe s
def cP (X:Cx)(f:Value)(r:List V->Hp->VK->Prop):Prop:=
 ∀(pins:List (Addr×Obj)) (s:Shared) (σ:St) (H:Hp) (xs:List V) (us:List Value) (Q:VK),a6 X pins σ H s->aI xs us->r xs H Q->
  wpAny (model X.prog X.w) X.A (call f us) (EP X pins σ Q) X.xe s
def ap1 (X:Cx)(r:V->Hp->(Bool->Hp->Prop)->Prop):Prop:=
 ∀(pins:List (Addr×Obj)) (s:Shared) (σ:St) (H:Hp) (x:V) (v:Value) (Q:Bool->Hp->Prop),a6 X pins σ H s->aP x v->r x H Q->
  wpAny (model X.prog X.w) X.A (truthy v) (TP X pins σ Q) X.xe s
def nY (r:R2)(ta tb:TE):TE:=λσ H Q=>ta σ H λx H1=>tb σ H1 λy H2=>r x y H2 Q
def tUn (r:V->Hp->VK->Prop)(ta:TE):TE:=λσ H Q=>ta σ H λx H1=>r x H1 Q
def rI (C:Int->Int->Prop)(g:Int->Int->V):R2:=λx y H Q=>∃i j,x = .int i/\y = .int j/\C i j/\Q (g i j) H
def iE (g:Int->Int->V):R2:=λx y H Q=>∃i j,x = .int i/\y = .int j/\Q (g i j) H
def rU (g:Int->V):V->Hp->VK->Prop:=λx H Q=>∃i,x = .int i/\Q (g i) H
section
variable {X:Cx}{a b c:Expr}{ta tb tc:TE}{pos:Pos}
theorem uM (ha:PE X a ta)(hb:PE X b tb){pins:List (Addr×Obj)}{s:Shared}{σ:St}{H:Hp}{R:V->V->Hp->Prop}(I:a6 X pins σ H s)(h:ta σ H λx H1=>tb σ H1 λy H2=>R x y H2){Q:Value->Shared->Prop}{f:Value->Value->Sem Value}(hf:∀v u s2 x y H2,a6 X pins σ H2 s2->aP x v->aP y u->R x y H2->wpAny (model X.prog X.w) X.A (f v u) Q X.xe s2) :
  wpAny (model X.prog X.w) X.A (eval a X.env) (λv s₁=>wpAny (model X.prog X.w) X.A (eval b X.env) (λu s₂=>wpAny (model X.prog X.w) X.A (f v u) Q X.xe s₂) X.xe s₁) X.xe s:=by
 refine aK (ha pins s σ H _ I h) λv s1 ⟨x,H1,I1,r1,q1⟩=>?_
 refine aK (hb pins s1 σ H1 _ I1 q1) λu s2 ⟨y,H2,I2,r2,q2⟩=>?_
 exact hf v u s2 x y H2 I2 r1 r2 q2
theorem ap2 {op:Operator}{r:R2}(ho:bS X (binaryOp op) r)(ha:PE X a ta)(hb:PE X b tb):PE X (.BinOp a op b pos) (nY r ta tb):=by
 intro pins s σ H Q I h
 exact wpAny_BinOp (uM ha hb I h λv u s2 x y H2 I2 rx ry q=>ho pins s2 σ H2 x y v u Q I2 rx ry q)
theorem ap3 {op:UnaryOp}{r:V->Hp->VK->Prop}(ho:uL X (unaryOp op) r)(ha:PE X a ta):PE X (.UnaryOp op a pos) (tUn r ta):=by
 intro pins s σ H Q I h
 exact UnaryOp_ (aK (ha pins s σ H _ I h) λv s1 ⟨x,H1,I1,r1,q1⟩=>ho pins s1 σ H1 x v Q I1 r1 q1)
theorem lV {f:Value->Value->Sem Value}{C:Int->Int->Prop}{g:Int->Int->Int}(rule:∀(i j:Int) (t u:Tok) (s:Shared) (Q:Value->Shared->Prop) (E:Value->Shared->Prop),C i j->Q (.int (g i j) s.toks) { s with toks:=s.toks+1 }->wpAny (model X.prog X.w) X.A (f (.int i t) (.int j u)) Q E s) :
  bS X f (rI C λi j=>.int (g i j)):=by
 intro pins s σ H x y v u Q I rx ry h
 obtain⟨i,j,rfl,rfl,hc,q⟩:=h
 obtain⟨t,rfl⟩:=rx
 obtain⟨t',rfl⟩:=ry
 exact rule i j t t' s _ _ hc ⟨.int (g i j),H,I.tok _,⟨_,rfl⟩,q⟩
theorem uN {f:Value->Value->Sem Value}{g:Int->Int->Int}(rule:∀(i j:Int) (t u:Tok) (s:Shared) (Q:Value->Shared->Prop) (E:Value->Shared->Prop),Q (.int (g i j) s.toks) { s with toks:=s.toks+1 }->wpAny (model X.prog X.w) X.A (f (.int i t) (.int j u)) Q E s) :
  bS X f (iE λi j=>.int (g i j)):=by
 intro pins s σ H x y v u Q I rx ry h
 obtain⟨i,j,rfl,rfl,q⟩:=h
 obtain⟨t,rfl⟩:=rx
 obtain⟨t',rfl⟩:=ry
 exact rule i j t t' s _ _ ⟨.int (g i j),H,I.tok _,⟨_,rfl⟩,q⟩
theorem uO {f:Value->Value->Sem Value}{g:Int->Int->Bool}(rule:∀(i j:Int) (t u:Tok) (s:Shared) (Q:Value->Shared->Prop) (E:Value->Shared->Prop),Q (.bool (g i j)) s->wpAny (model X.prog X.w) X.A (f (.int i t) (.int j u)) Q E s) :
  bS X f (iE λi j=>.bl (g i j)):=by
 intro pins s σ H x y v u Q I rx ry h
 obtain⟨i,j,rfl,rfl,q⟩:=h
 obtain⟨t,rfl⟩:=rx
 obtain⟨t',rfl⟩:=ry
 exact rule i j t t' s _ _ ⟨.bl (g i j),H,I,rfl,q⟩
def uP (i j:Int):Prop:=0<j/\j<1073741824
def lW (i j:Int):Prop:=0<=j/\j<=1000000/\i.natAbs<2^64
def nZ (i j:Int):Prop:=(-(2^64)<i/\i<2^64)∨(-(2^64)<j/\j<2^64)
theorem nZ.ok {i j:Int}(h:nZ i j):IntMulOk i j:=by
 rcases h with⟨h1,h2⟩|⟨h1,h2⟩
 ·exact .of_left (intBits_le_64 h1 h2)
 ·exact .of_right (intBits_le_64 h1 h2)
theorem ap4 (k:Nat):(0:Int)<=2^k:=by
 rw[two_pow_cast]
 exact Int.natCast_nonneg _
theorem ap5:bS X (binaryOp .Add) (iE λi j=>.int (i+j)):=uN λ_ _ _ _ _ _ _ q=>add_int q
theorem ap6:bS X (binaryOp .Sub) (iE λi j=>.int (i-j)):=uN λ_ _ _ _ _ _ _ q=>sub_int q
theorem ap7:bS X (binaryOp .Mult) (rI nZ λi j=>.int (i*j)):=lV λ_ _ _ _ _ _ _ hc q=>mul_int q hc.ok
theorem ap8:bS X (binaryOp .FloorDiv) (rI uP λi j=>.int (i/j)):=lV λi j _ _ _ _ _ hc q=>by
 have h1:(0:Int)<j:=hc.1
 have h2:j<1073741824:=hc.2
 exact floordiv_int (by omega) (by rw[Int.fdiv_eq_ediv_of_nonneg i (by omega)];exact q) (.inl (PyProof.noPylong_small (by omega)))
theorem ap9:bS X (binaryOp .Mod) (rI (λ_ j=>0<j) λi j=>.int (i%j)):=lV λi j _ _ _ _ _ hc q=>by
 have h1:(0:Int)<j:=hc
 exact mod_int' (by omega) (by rw[Int.fmod_eq_emod_of_nonneg i (by omega)];exact q)
theorem aq0:bS X (binaryOp .Pow) (rI lW λi j=>.int (i^j.toNat)):=lV λ_ _ _ _ _ _ _ hc q=>pow_int_small hc.1 hc.2.1 hc.2.2 q
theorem aq1:bS X (binaryOp .LShift) (rI lW λi j=>.int (i*2^j.toNat)):=lV λ_ _ _ _ _ _ _ hc q=>lshift_int_small hc.1 hc.2.1 hc.2.2 q
theorem aq2:bS X (binaryOp .RShift) (rI (λ_ j=>0<=j) λi j=>.int (i/2^j.toNat)):=lV λi j _ _ _ _ _ hc q=>
 rshift_int hc (by rw[Int.fdiv_eq_ediv_of_nonneg i (ap4 _)];exact q)
theorem aq3:bS X (binaryOp .BitAnd) (iE λi j=>.int (Builtin.bitAnd i j)):=uN λ_ _ _ _ _ _ _ q=>and_int q
theorem unI {f:Value->Sem Value}{g:Int->Int}(rule:∀(i:Int) (t:Tok) (s:Shared) (Q:Value->Shared->Prop) (E:Value->Shared->Prop),Q (.int (g i) s.toks) { s with toks:=s.toks+1 }->wpAny (model X.prog X.w) X.A (f (.int i t)) Q E s) :
  uL X f (rU λi=>.int (g i)):=by
 intro pins s σ H x v Q I rx h
 obtain⟨i,rfl,q⟩:=h
 obtain⟨t,rfl⟩:=rx
 exact rule i t s _ _ ⟨.int (g i),H,I.tok _,⟨_,rfl⟩,q⟩
theorem aq4:uL X (unaryOp .USub) (rU λi=>.int (-i)):=unI λ_ _ _ _ _ q=>neg_int q
end
def A9:V->V->Bool
 |.non,.non=>true|.non,.int _=>true|.int _,.non=>true|.non,.bl _=>true|.bl _,.non=>true|.non,.str _=>true|.str _,.non=>true
 |.int _,.int _=>true|.bl _,.bl _=>true|.str _,.str _=>true|.byt _,.byt _=>true
 |.int _,.str _=>true|.str _,.int _=>true|.bl _,.str _=>true|.str _,.bl _=>true
 |_,_=>false
def B0:R2:=λx y H Q=>A9 x y=true/\Q (.bl (decide (x=y))) H
def B1:R2:=λx y H Q=>A9 x y=true/\Q (.bl (!decide (x=y))) H
theorem B2 {i j:Int}:decide (V.int i=V.int j)=(i==j):=by
 rw[bq8]
 simp
theorem B3 {i j:Bool}:decide (V.bl i=V.bl j)=(i==j):=by
 rw[bq8]
 simp
theorem B4 {i j:Str}:decide (V.str i=V.str j)=(i==j):=by
 rw[bq8]
 simp
theorem B5 {i j:Array UInt8}:decide (V.byt i=V.byt j)=(i.toList==j.toList):=by
 rw[bq8]
 cases i
 cases j
 simp
section
variable {X:Cx}{a b c:Expr}{ta tb tc:TE}{pos:Pos}
theorem bZ {pins:List (Addr×Obj)}{σ:St}{H:Hp}{s:Shared}{Q:VK}{k k':Bool}(I:a6 X pins σ H s)(q:Q (.bl k) H)(e:k=k'):EP X pins σ Q (.bool k') s:=by
 subst e
 exact⟨.bl k,H,I,rfl,q⟩
theorem B6:bS X (compareOp .Eq) B0:=by
 intro pins s σ H x y v u Q I rx ry h
 obtain⟨hs,q⟩:=h
 cases x with
 |non=>
  cases rx
  cases y with
  |non=>cases ry;exact PySem.EqNone.eq_none_none (bZ I q (by simp))
  |bl j=>cases ry;exact PySem.EqNone.eq_none_bool (bZ I q (by simp))
  |int j=>obtain⟨t',rfl⟩:=ry;exact PySem.EqNone.eq_none_int (bZ I q (by simp))
  |str j=>obtain⟨t',rfl⟩:=ry;exact PySem.EqNone.eq_none_str (bZ I q (by simp))
  |_=>exact absurd (show false=true from hs) bm6
 |bl i=>
  cases rx
  cases y with
  |non=>cases ry;exact PySem.EqNone.eq_bool_none (bZ I q (by simp))
  |bl j=>cases ry;exact eq_bool (bZ I q B3)
  |str j=>obtain⟨t',rfl⟩:=ry;exact PySem.EqMixed.eq_bool_str (bZ I q (by simp))
  |_=>exact absurd (show false=true from hs) bm6
 |int i=>
  obtain⟨t,rfl⟩:=rx
  cases y with
  |non=>cases ry;exact PySem.EqNone.eq_int_none (bZ I q (by simp))
  |int j=>obtain⟨t',rfl⟩:=ry;exact eq_int (bZ I q B2)
  |str j=>obtain⟨t',rfl⟩:=ry;exact PySem.EqMixed.eq_int_str (bZ I q (by simp))
  |_=>exact absurd (show false=true from hs) bm6
 |str i=>
  obtain⟨t,rfl⟩:=rx
  cases y with
  |non=>cases ry;exact PySem.EqNone.eq_str_none (bZ I q (by simp))
  |bl j=>cases ry;exact PySem.EqMixed.eq_str_bool (bZ I q (by simp))
  |int j=>obtain⟨t',rfl⟩:=ry;exact PySem.EqMixed.eq_str_int (bZ I q (by simp))
  |str j=>obtain⟨t',rfl⟩:=ry;exact eq_str (bZ I q B4)
  |_=>exact absurd (show false=true from hs) bm6
 |byt i=>
  obtain⟨t,rfl⟩:=rx
  cases y with
  |byt j=>obtain⟨t',rfl⟩:=ry;exact PySem.W.eq_bytes (bZ I q B5)
  |_=>exact absurd (show false=true from hs) bm6
 |_=>cases y<;>exact absurd (show false=true from hs) bm6
theorem aq5:bS X (compareOp .NotEq) B1:=by
 intro pins s σ H x y v u Q I rx ry h
 obtain⟨hs,q⟩:=h
 cases x with
 |non=>
  cases rx
  cases y with
  |non=>cases ry;exact PySem.EqNone.ne_none_none (bZ I q (by simp))
  |bl j=>cases ry;exact PySem.EqNone.ne_none_bool (bZ I q (by simp))
  |int j=>obtain⟨t',rfl⟩:=ry;exact PySem.EqNone.ne_none_int (bZ I q (by simp))
  |str j=>obtain⟨t',rfl⟩:=ry;exact PySem.EqNone.ne_none_str (bZ I q (by simp))
  |_=>exact absurd (show false=true from hs) bm6
 |bl i=>
  cases rx
  cases y with
  |non=>cases ry;exact PySem.EqNone.ne_bool_none (bZ I q (by simp))
  |bl j=>cases ry;exact ne_bool (bZ I q (congrArg not B3))
  |str j=>obtain⟨t',rfl⟩:=ry;exact PySem.EqMixed.ne_bool_str (bZ I q (by simp))
  |_=>exact absurd (show false=true from hs) bm6
 |int i=>
  obtain⟨t,rfl⟩:=rx
  cases y with
  |non=>cases ry;exact PySem.EqNone.ne_int_none (bZ I q (by simp))
  |int j=>obtain⟨t',rfl⟩:=ry;exact ne_int (bZ I q (congrArg not B2))
  |str j=>obtain⟨t',rfl⟩:=ry;exact PySem.EqMixed.ne_int_str (bZ I q (by simp))
  |_=>exact absurd (show false=true from hs) bm6
 |str i=>
  obtain⟨t,rfl⟩:=rx
  cases y with
  |non=>cases ry;exact PySem.EqNone.ne_str_none (bZ I q (by simp))
  |bl j=>cases ry;exact PySem.EqMixed.ne_str_bool (bZ I q (by simp))
  |int j=>obtain⟨t',rfl⟩:=ry;exact PySem.EqMixed.ne_str_int (bZ I q (by simp))
  |str j=>obtain⟨t',rfl⟩:=ry;exact ne_str (bZ I q (congrArg not B4))
  |_=>exact absurd (show false=true from hs) bm6
 |byt i=>
  obtain⟨t,rfl⟩:=rx
  cases y with
  |byt j=>obtain⟨t',rfl⟩:=ry;exact PySem.W.ne_bytes (bZ I q (congrArg not B5))
  |_=>exact absurd (show false=true from hs) bm6
 |_=>cases y<;>exact absurd (show false=true from hs) bm6
theorem pY:bS X (compareOp .Lt) (iE λi j=>.bl (decide (i<j))):=uO λ_ _ _ _ _ _ _ q=>lt_int q
theorem aq6:bS X (compareOp .Gt) (iE λi j=>.bl (decide (j<i))):=uO λ_ _ _ _ _ _ _ q=>gt_int q
theorem B7:bS X (compareOp .GtE) (iE λi j=>.bl (decide (j<=i))):=uO λ_ _ _ _ _ _ _ q=>ge_int q
theorem gQ (b:Expr){op:CmpOp}(h:op≠.In:=by decide)(h2:op≠.NotIn:=by decide):behindInMarks op b=false:=by
 have e1:(op==CmpOp.In)=false:=by cases op<;>first|rfl|exact absurd rfl h
 have e2:(op==CmpOp.NotIn)=false:=by cases op<;>first|rfl|exact absurd rfl h2
 cases b<;>simp[behindInMarks,e1,e2]
theorem uQ {op:CmpOp}{r:R2}(ho:bS X (compareOp op) r)(ha:PE X a ta)(hb:PE X b tb)(hm:behindInMarks op b=false):PE X (.Compare a [op] [b] pos) (nY r ta tb):=by
 intro pins s σ H Q I h
 exact wpAny_Compare1 (uM ha hb I h λv u s2 x y H2 I2 rx ry q=>ho pins s2 σ H2 x y v u Q I2 rx ry q) hm
def aq7 (t:TE):TT:=λσ H Q=>t σ H λx H'=>∃k,x = .bl k/\Q k H'
theorem aq8 {op:CmpOp}{r:R2}(ho:bS X (compareOp op) r)(ha:PE X a ta)(hb:PE X b tb)(hm:behindInMarks op b=false):PT X (.Compare a [op] [b] pos) (aq7 (nY r ta tb)):=by
 intro pins s σ H Q I h
 refine wpAny_isTrue_Compare1 (aK (ha pins s σ H _ I h) λv s1 ⟨x,H1,I1,r1,q1⟩=>aK (hb pins s1 σ H1 _ I1 q1) λu s2 ⟨y,H2,I2,r2,q2⟩=>
  aK (ho pins s2 σ H2 x y v u _ I2 r1 r2 q2) λc s3 ⟨z,H3,I3,r3,k,e,q3⟩=>?_) hm
 subst e
 cases r3
 exact bu7 ⟨H3,I3,q3⟩
def uR (K:ad)(x:V)(H:Hp)(k:Bool):Prop:=
 match x with
 |.non=>k=false
 |.bl b=>k=b
 |.int i=>k=(i != 0)
 |.str y=>y.length<=sizeLine/\k=((y.length:Int) != 0)
 |.byt y=>y.size<=sizeLine/\k=((y.size:Int) != 0)
 |.ref p=>(∃xs,aJ K H p xs/\k = !xs.isEmpty)∨(∃xs,aH K H p xs/\k = !xs.isEmpty)∨∃kvs,H p=some (.dK kvs)/\k = !kvs.isEmpty
 |_=>False
theorem aq9 {κ:Type}{kvs:List (κ×V)}{vs:List (κ×Value)}(r:KV kvs vs):(!vs.isEmpty) = !kvs.isEmpty:=by
 cases r<;>rfl
theorem B8 {xs:List V}{its:List Value}(r:aI xs its):(!its.toArray.isEmpty) = !xs.isEmpty:=by
 cases r<;>simp
theorem lX:(sizeLine:Nat)<2^63:=by rw[sizeLine_eq];decide
theorem ar0:ap1 X (λx H Q=>∃k,uR X.K x H k/\Q k H):=by
 intro pins s σ H x v Q I rx h
 obtain⟨k,e,q⟩:=h
 have hl:=lX
 have hs:sizeLine=16777216:=sizeLine_eq
 cases x with
 |non=>
  cases rx
  have e':k=false:=e
  subst e'
  exact truthy_none ⟨H,I,q⟩
 |bl b=>
  cases rx
  have e':k=b:=e
  subst e'
  exact bu7 ⟨H,I,q⟩
 |int i=>
  obtain⟨t,rfl⟩:=rx
  have e':k=(i != 0):=e
  subst e'
  exact PySem.P.truthy_int ⟨H,I,q⟩
 |str y=>
  obtain⟨t,rfl⟩:=rx
  obtain⟨hy,e'⟩:y.length<=sizeLine/\k=((y.length:Int) != 0):=e
  subst e'
  exact PySem.P.truthy_str (by omega) ⟨H,I.tok _,q⟩
 |byt y=>
  obtain⟨t,rfl⟩:=rx
  obtain⟨hy,e'⟩:y.size<=sizeLine/\k=((y.size:Int) != 0):=e
  subst e'
  exact PySem.W.truthy_bytes (by omega) ⟨H,I.tok _,q⟩
 |ref p=>
  cases rx
  have e':(∃xs,aJ X.K H p xs/\k = !xs.isEmpty)∨(∃xs,aH X.K H p xs/\k = !xs.isEmpty)∨∃kvs,H p=some (.dK kvs)/\k = !kvs.isEmpty:=e
  rcases e' with⟨xs,hx,e'⟩|⟨xs,hx,e'⟩|⟨kvs,hx,e'⟩
  ·subst e'
   obtain⟨its,r,pl,hz⟩:=I.list hx
   have hlen:=r.length
   exact wpAny_truthy_list pl.isList (by simp only[bk9];omega) ⟨H,I.tok _,by rw[B8 r];exact q⟩
  ·subst e'
   obtain⟨its,r,pl,hz⟩:=I.tuple hx
   have hlen:=r.length
   exact truthy_tuple pl (by simp only[bk9];omega) ⟨H,I.tok _,by rw[B8 r];exact q⟩
  ·subst e'
   obtain⟨hz,hS,vs,r,m⟩:kvs.length<=sizeLine/\(p==sysModules)=false/\∃vs,KV kvs vs/\s.heap.DictOf (fE X.prog X.w) p vs:=I.hok p _ hx
   have hlen:kvs.length=vs.length:=Paired.length r
   exact wpAny_truthy_dict hS m (by omega) ⟨H,I.tok _,by rw[aq9 r];exact q⟩
 |_=>exact (show False from e).elim
theorem ar1 (ha:PE X a ta)(he:∀whole,isTrue a X.env whole=(do let v <- whole;standAt a.pos;holding [v] (truthy v))) :
  PT X a (λσ H Q=>ta σ H λx H'=>∃k,uR X.K x H' k/\Q k H'):=by
 intro pins s σ H Q I h
 exact isTrue_plain (aK (ha pins s σ H _ I h) λv s1 ⟨x,H1,I1,r1,q1⟩=>ar0 pins s1 σ H1 x v Q I1 r1 q1) (he _)
theorem fU {x:V}{us:List Value}(r:aI [x] us):∃u,us = [u]/\aP x u:=by
 cases r with
 |cons r1 r2=>cases r2;exact⟨_,rfl,r1⟩
theorem B9 {x y:V}{us:List Value}(r:aI [x,y] us):∃u w',us = [u,w']/\aP x u/\aP y w':=by
 cases r with
 |cons r1 r2=>
  cases r2 with
  |cons r3 r4=>cases r4;exact⟨_,_,rfl,r1,r3⟩
theorem ar2 (hc:X.calm=true):cP X (.builtin "max") (λxs H Q=>∃i j,xs = [.int i,.int j]/\Q (.int (if j>i then j else i)) H):=by
 intro pins s σ H xs us Q I r h
 obtain⟨i,j,rfl,q⟩:=h
 obtain⟨u,w',rfl,⟨t,rfl⟩,⟨t',rfl⟩⟩:=B9 r
 refine max_two_ints (I.ok.hd hc) λh' tk k=>⟨_,H,I.kept k,?_,q⟩
 by_cases hj:j>i
 ·rw[if_pos hj,if_pos hj];exact⟨_,rfl⟩
 ·rw[if_neg hj,if_neg hj];exact⟨_,rfl⟩
theorem ar3 (hc:X.calm=true):cP X (.builtin "min") (λxs H Q=>∃i j,xs = [.int i,.int j]/\Q (.int (if j<i then j else i)) H):=by
 intro pins s σ H xs us Q I r h
 obtain⟨i,j,rfl,q⟩:=h
 obtain⟨u,w',rfl,⟨t,rfl⟩,⟨t',rfl⟩⟩:=B9 r
 refine min_two_ints (I.ok.hd hc) λh' tk k=>⟨_,H,I.kept k,?_,q⟩
 by_cases hj:j<i
 ·rw[if_pos hj,if_pos hj];exact⟨_,rfl⟩
 ·rw[if_neg hj,if_neg hj];exact⟨_,rfl⟩
end
theorem iB.some_of {v:V}{o:Option Value}(r:iB (some v) o):∃u,o=some u/\aP v u:=by
 cases o with
 |none=>exact (show False from r).elim
 |some u=>exact⟨u,rfl,r⟩
structure bT (k:Nat)(A:Around):Prop where
 hd:A.handled=none
 dp:A.depth+3*k+5<recursionLimit
 un:A.units+16*k+200<cLine
theorem bT.mono {j k:Nat}{A:Around}(r:bT k A)(h:j<=k):bT j A:=⟨r.hd,by have:=r.dp;omega,by have:=r.un;omega⟩
theorem bT.deeper {k:Nat}{A:Around}(r:bT (k+1) A)(env:Env):bT k (A.deeper env):=
 ⟨r.hd,by have:=r.dp;show A.depth+1+3*k+5<_;omega,by have:=r.un;show A.units+3+16*k+200<_;omega⟩
theorem bT.depth {k:Nat}{A:Around}(r:bT k A):A.depth<recursionLimit:=by have:=r.dp;omega
theorem bT.units {k:Nat}{A:Around}(r:bT k A):A.units+64<cLine:=by have:=r.un;omega
def kR:TA:=λ_ H Q=>Q [] H
def iF (ta:TE)(tr:TA):TA:=λσ H Q=>ta σ H λx H1=>tr σ H1 λxs H2=>Q (x::xs) H2
section
variable {X:Cx}{e:Expr}{es:List Expr}{te:TE}{t:TA}{pos:Pos}
theorem dH:PA X [] kR:=λ_ _ _ _ H Q I h=>Calls.spliced_nil ⟨[],H,I,.nil,h⟩
theorem cW (ha:PE X e te)(hr:PA X es t)(hs:starEach (e::es) X.env=(false,eval e X.env)::starEach es X.env:=by rfl):PA X (e::es) (iF te t):=by
 intro pos pins s σ H Q I h
 rw[hs]
 show wpAny _ _ (spliced ((false,eval e X.env)::backTo pos (starEach es X.env))) _ _ s
 refine Calls.spliced_cons (aK (ha pins s σ H _ I h) λu s1 ⟨x,H1,I1,r1,q1⟩=>?_)
 exact aK (hr pos pins s1 σ H1 _ I1 q1) λus s2 ⟨xs,H2,I2,r2,q2⟩=>⟨x::xs,H2,I2,.cons r1 r2,q2⟩
def C0 (t:TA):TE:=λσ H Q=>t σ H λxs H1=>xs.length<=sizeLine/\∀p,H1 p=none->Q (.ref p) (upd H1 p (.tup xs))
def C1 (t:TA):TE:=λσ H Q=>t σ H λxs H1=>xs.length<=sizeLine/\∀p,H1 p=none->Q (.ref p) (upd H1 p (.lst xs))
theorem ar4 {x1}(h:PA X es t):PE X (.Tuple es x1 pos) (C0 t):=by
 intro pins s σ H Q I hq
 refine wpAny_Tuple_spliced (aK (h pos pins s σ H _ I hq) λus s1 ⟨xs,H1,I1,r,z,q⟩=>⟨by rw[<- r.length];exact z,?_⟩)
 have hf:H1 s1.heap.objs.size=none:=I1.hok.fresh (bk7 _)
 refine⟨.ref s1.heap.objs.size,upd H1 s1.heap.objs.size (.tup xs),I1.laid (t':=s1.toks) (λb u e=>bk6 _ e) (bk7 _) ?_,rfl,q _ hf⟩
 exact⟨z,us,r,⟨_,bm4 _ rfl,rfl,_,rfl⟩,gO.new _ _ rfl⟩
theorem uS (h:PA X es t):PE X (.List es pos) (C1 t):=by
 intro pins s σ H Q I hq
 refine wpAny_List_spliced (aK (h pos pins s σ H _ I hq) λus s1 ⟨xs,H1,I1,r,z,q⟩=>⟨by rw[<- r.length];exact z,?_⟩)
 have hf:H1 s1.heap.objs.size=none:=I1.hok.fresh (bk7 _)
 refine⟨.ref s1.heap.objs.size,upd H1 s1.heap.objs.size (.lst xs),I1.laid (t':=s1.toks) (λb u e=>bk6 _ e) (bk7 _) ?_,rfl,q _ hf⟩
 exact⟨z,us,0,r,bm4 _ rfl⟩
end
abbrev Sp:=List V->Hp->VK->XK->Prop
abbrev gC:=List Env->Hp->Shared->XK->Value->Shared->Prop
structure pZ (P:Program)(w:World)(K:ad)(mg:Str->Option Value)(base:Heap)(A:Around)(outer:List Env)(s:Shared)(H:Hp):Prop where
 frames:A.frames=some outer
 mod:Mod K mg base
 bs:∀b o,base.get? b=some o->s.heap.get? b=some o/\H b=none
 bsz:base.objs.size<=s.heap.objs.size
 funs:s.heap.FunFrames base outer
 frf:∀b∈bY outer,H b=none
 hok:bO P w H s.heap
 bare:AllBare s.gens
def CE (outer:List Env)(P:Program)(w:World)(H:Hp)(s:Shared)(Q:VK)(u:Value)(s':Shared):Prop:=
 ∃v H',s'.os=s.os/\AllBare s'.gens/\Un (bY outer) [] H H' s.heap s'.heap/\bO P w H' s'.heap/\aP v u/\Q v H'
def CR (CX:gC)(outer:List Env)(P:Program)(w:World)(H:Hp)(s:Shared)(Q:VK)(E:XK)(r:Result)(s':Shared):Prop:=
 match r with
 |.ok (.ret u)=>CE outer P w H s Q u s'
 |.ok _=>False
 |.error e=>CX outer H s E e s'
structure cL (P:Program)(w:World)(K:ad)(mg:Str->Option Value)(base:Heap)(CX:gC)(k:Nat)(f:Addr)(fd:FuncData)(ps:List Str)(sp:Sp):Prop where
 len:∀vs H Q E,sp vs H Q E->vs.length=ps.length
 run:∀(A:Around) (outer:List Env) (s:Shared) (H:Hp) (args:Args) (us:List Value) (vs:List V) (Q:VK) (E:XK),bT k A->pZ P w K mg base A outer s H->BindsTo s fd args (ps.zip us)->aI vs us->sp vs H Q E->
  codeAny (model P w) A (.call (.ref f) args) (CR CX outer P w H s Q E) s
theorem cL.imp {P:Program}{w:World}{K:ad}{mg:Str->Option Value}{base:Heap}{CX:gC}{k:Nat}{f:Addr}{fd:FuncData}{ps:List Str}{sp sp':Sp}(F:cL P w K mg base CX k f fd ps sp)(h:∀vs H Q E,sp' vs H Q E->sp vs H Q E):cL P w K mg base CX k f fd ps sp':=
 ⟨λvs H Q E q=>F.len vs H Q E (h _ _ _ _ q),λA outer s H args us vs Q E hr he hb hv hs=>F.run A outer s H args us vs Q E hr he hb hv (h _ _ _ _ hs)⟩
section
variable {X:Cx}{pins:List (Addr×Obj)}{σ:St}{H:Hp}{s s':Shared}
theorem a6.env0 (I:a6 X pins σ H s):pZ X.prog X.w X.K X.mg X.base X.A X.stack s H:=
 ⟨I.ok.frames,I.ok.mod,I.bs,bp5 I.ok.bsz I.sz,I.stack,I.stkFree,I.hok,I.bare⟩
theorem a6.after {Q:VK}{u:Value}(I:a6 X pins σ H s)(h:CE X.stack X.prog X.w H s Q u s'):EP X pins σ Q u s':=by
 obtain⟨v,H',os,bare,un,hok,r,q⟩:=h
 obtain⟨hh,g,d,t,os'⟩:=s'
 obtain rfl:os'=s.os:=os
 exact⟨v,H',I.call (h':=hh) (g':=g) (d':=d) (t':=t) (ch:=[]) un hok bare (λb z=>absurd z (by simp)),r,q⟩
end
def qA (sp:Sp)(dvs:List V)(E:XK)(t:TA):TE:=λσ H Q=>t σ H λvs H1=>sp (vs++dvs) H1 Q E
def gR (K:ad)(fd:FuncData)(ps:List Str)(ds:List Value):Prop:=
 ∀(s:Shared) (us:List Value),K.In s.heap->(us++ds).length=ps.length->BindsTo s fd ⟨us,[]⟩ (ps.zip (us++ds))
theorem gR.all {K:ad}{fd:FuncData}{ps:List Str}(h:∀us:List Value,us.length=ps.length->bindArgs fd ⟨us,[]⟩=pure (ps.zip us)):gR K fd ps []:=λs us _ hl=>by
 rw[bo9]at hl ⊢
 exact .of_eq (h us hl)
def o0 (CX:gC)(X:Cx)(E:XK):Prop:=∀(pins:List (Addr×Obj)) (σ:St) (H:Hp) (s:Shared) (e:Value) (s':Shared),a6 X pins σ H s->CX X.stack H s E e s'->X.xe e s'
section
variable {X:Cx}{CX:gC}{k:Nat}{f C:Addr}{fd:FuncData}{ps:List Str}{sp:Sp}{dvs:List V}{ds:List Value}{E:XK}{x m:Str}{p pos apos:Pos}{e o:Expr}{es:List Expr}{ta:TE}{t:TA}
theorem ar5 {pins:List (Addr×Obj)}{σ:St}{H:Hp}{s:Shared}{Q:VK}{us:List Value}{vs:List V}(F:cL X.prog X.w X.K X.mg X.base CX k f fd ps sp)(hr:bT k X.A)(hb:gR X.K fd ps ds)(hd:aI dvs ds)(hx:o0 CX X E)(I:a6 X pins σ H s)(r:aI vs us)(h:sp (vs++dvs) H Q E):wpAny (model X.prog X.w) X.A (call (.ref f) us) (EP X pins σ Q) X.xe s:=by
 have r2:aI (vs++dvs) (us++ds):=r.append hd
 have hl:(us++ds).length=ps.length:=by rw[<- r2.length];exact F.len _ _ _ _ h
 refine wpAny_call (codeAny_mono (F.run X.A X.stack s H ⟨us,[]⟩ (us++ds) (vs++dvs) Q E hr I.env0 (hb s us I.kIn hl) r2 h) λr s' hq=>?_)
 cases r with
 |error e=>exact hx pins σ H s e s' I hq
 |ok fl=>
  cases fl with
  |ret u=>exact I.after hq
  |next=>exact False.elim hq
  |brk=>exact False.elim hq
  |cont=>exact False.elim hq
theorem qB (F:cL X.prog X.w X.K X.mg X.base CX k f fd ps sp)(hr:bT k X.A)(hg:Gl X x)(hm:X.mg x=some (.ref f))(hk:PySem.W.keepIn X.K (.ref f)=true)(hb:gR X.K fd ps ds)(hd:aI dvs ds)(hx:o0 CX X E)(ha:PA X (e::es) t)(hdb:(x==("__debug__":Str))=false:=by decide)(he:starEach (e::es) X.env=(false,eval e X.env)::starEach es X.env:=by rfl)(hpl:(backTo pos (starEach es X.env)).any (·.1)=false:=by rfl) :
  PE X (.Call (.Name x p) (e::es) [] pos) (qA sp dvs E t):=by
 intro pins s σ H Q I h
 refine wpAny_Call_Name_kw (uE I hg hm ?_ hdb)
 refine PySem.W.callWith_K (h₀:=X.base) I.ok.mod.kin hk (aK (ha pos pins s σ H _ I h) λus s1 ⟨vs,H1,I1,r,q⟩=>⟨I1.kIn,?_⟩) he hpl
 exact ar5 F hr hb hd hx I1 r q
end
def PK (X:Cx)(kws:List Keyword)(t:TA):Prop:=
 ∀(pos:Pos) (pins:List (Addr×Obj)) (s:Shared) (σ:St) (H:Hp) (Q:List V->Hp->Prop),a6 X pins σ H s->t σ H Q->wpAny (model X.prog X.w) X.A (evalAll ((backToKw pos (keywordEach kws X.env)).map (·.2))) (AP X pins σ Q) X.xe s
structure FnScope (N P:List Str)(sc:Scope):Prop where
 kind:sc.kind = .function
 co:sc.isCoroutine=false
 gen:sc.isGenerator=false
 nd:N.Nodup
 pre:N.take P.length=P
 par:∀x∈P,sc.names.lookup x=some .local∨sc.names.lookup x=some .cell
 nofree:∀y∈sc.names,y.2≠.free
theorem C2 {kindOf:Str->Option NameKind}{x:Str}:∀{binds:List (Str×Value)}{m:Str->Option Value},(∀v,(x,v)∉binds)->bindL kindOf binds m x=m x
 |[],_,_=>rfl
 |(n,v)::r,m,h=>by
  unfold bindL
  rw[C2 λw hw=>h w (bm1 _ hw)]
  split
  ·have:x≠n:=by rintro rfl;exact h v bl7
   simp[this]
  ·rfl
theorem C3 {kindOf:Str->Option NameKind}{x:Str}:∀{binds:List (Str×Value)}{m:Str->Option Value},(∀v,(x,v)∉binds)->bindC kindOf binds m x=m x
 |[],_,_=>rfl
 |(n,v)::r,m,h=>by
  unfold bindC
  rw[C3 λw hw=>h w (bm1 _ hw)]
  split
  ·rfl
  ·have:x≠n:=by rintro rfl;exact h v bl7
   simp[this]
theorem C4 {kindOf:Str->Option NameKind}{x:Str}{v:Value}:∀{P:List Str}{vs:List Value}{i:Nat}{m:Str->Option Value},P.Nodup->P[i]? = some x->vs[i]? = some v->kindOf x=some .local->
  bindL kindOf (P.zip vs) m x=some v
 |[],_,_,_,_,h,_,_=>by simp at h
 |_::_,[],_,_,_,_,h,_=>by simp at h
 |p::P,w::vs,0,m,nd,h1,h2,hk=>by
  simp at h1 h2;subst h1;subst h2
  show bindL kindOf ((p,w)::P.zip vs) m p=_
  unfold bindL
  rw[C2 λv hv=>(bu1.mp nd).1 (List.of_mem_zip hv).1,if_pos hk]
  simp
 |p::P,w::vs,i+1,m,nd,h1,h2,hk=>by
  show bindL kindOf ((p,w)::P.zip vs) m x=_
  unfold bindL
  exact C4 (i:=i) (bu1.mp nd).2 (by simpa using h1) (by simpa using h2) hk
theorem C5 {kindOf:Str->Option NameKind}{x:Str}{v:Value}:∀{P:List Str}{vs:List Value}{i:Nat}{m:Str->Option Value},P.Nodup->P[i]? = some x->vs[i]? = some v->kindOf x≠some .local->
  bindC kindOf (P.zip vs) m x=some v
 |[],_,_,_,_,h,_,_=>by simp at h
 |_::_,[],_,_,_,_,h,_=>by simp at h
 |p::P,w::vs,0,m,nd,h1,h2,hk=>by
  simp at h1 h2;subst h1;subst h2
  show bindC kindOf ((p,w)::P.zip vs) m p=_
  unfold bindC
  rw[C3 λv hv=>(bu1.mp nd).1 (List.of_mem_zip hv).1,if_neg hk]
  simp
 |p::P,w::vs,i+1,m,nd,h1,h2,hk=>by
  show bindC kindOf ((p,w)::P.zip vs) m x=_
  unfold bindC
  exact C5 (i:=i) (bu1.mp nd).2 (by simpa using h1) (by simpa using h2) hk
def gD (N:List Str)(vs:List V):St:=vs.map some++List.replicate (N.length-vs.length) none
def cX (CX:gC)(P:Program)(w:World)(K:ad)(mg:Str->Option Value)(base:Heap)(N:List Str)(qual:Str)(scope:Scope)(f:Addr)(cd:Value)(A:Around)(outer:List Env)(s:Shared)(H:Hp)(E:XK):Cx where
 prog:=P
 w:=w
 K:=K
 mg:=mg
 base:=base
 A:=A.deeper (envOfC qual scope s.heap.objs.size f cd)
 N:=N
 s₀:=s
 H₀:=H
 env:=envOfC qual scope s.heap.objs.size f cd
 outer:=outer
 stack:=envOfC qual scope s.heap.objs.size f cd::outer
 ex:=[]
 calm:=true
 fn:=λ_=>true
 pn:=[]
 xe:=λe s'=>wpAny (model P w) (A.deeper (envOfC qual scope s.heap.objs.size f cd)) (leaving (envOfC qual scope s.heap.objs.size f cd) e) (λ_ s''=>CX outer H s E e s'') (λe' s''=>CX outer H s E e' s'') s'
theorem C6 {sc:Scope}{n:Nat}{x:Str}(h:sc.names.lookup x=some .cell):∃c,(cellsFrom n sc.names []).lookup x=some c:=by
 have q:=PySem.W.cellsFrom_some sc.names n [] (.inl h)
 exact Option.isSome_iff_exists.mp q
theorem ar6 {CX:gC}{P:Program}{w:World}{K:ad}{mg:Str->Option Value}{base:Heap}{N ps:List Str}{qual:Str}{scope:Scope}{f:Addr}{cd:Value}{A:Around}{outer:List Env}{s s1:Shared}{H:Hp}{E:XK}{us:List Value}{vs:List V}(S:FnScope N ps scope)(hd:A.handled=none)(e0:pZ P w K mg base A outer s H)(hl:vs.length=ps.length)(r:aI vs us)(x:InCallC s s.heap.objs.size (bindL (envOfC qual scope s.heap.objs.size f cd).kindOf (ps.zip us) λ_=>none) (cellsFrom (s.heap.objs.size+1) scope.names []) (bindC (envOfC qual scope s.heap.objs.size f cd).kindOf (ps.zip us) λ_=>none) s1) :
  a6 (cX CX P w K mg base N qual scope f cd A outer s H E) [] (gD N vs) H s1:=by
 have hpl:ps.length<=N.length:=by have:=congrArg List.length S.pre;rw[bt6]at this;omega
 obtain⟨h1,tk,rfl,hk⟩:=x.done
 have noA:∀b:Addr,b∉(cX CX P w K mg base N qual scope f cd A outer s H E).ex:=λb z=>absurd (show b∈([]:List Addr) from z) (by simp)
 refine⟨⟨e0.mod,S.kind,rfl,rfl,bk7 _,λy z c h1 h2=>?_,λy hy=>?_,λy c _ h=>?_,λ_=>hd,Around.frames_deeper e0.frames,.inr ⟨rfl,rfl⟩,λb z=>absurd z (noA b),e0.bs,e0.bsz,λb _ _=>noA b,λb z=>absurd z (noA b),e0.funs,e0.frf⟩,
  rfl,e0.bare,Un.kept hk,⟨_,x.toInCall.ns,λi y v h1 h2 h3=>?_⟩,λy c h=>⟨_,x.cell y c h⟩,e0.hok.fresh (bk7 _),λy c h=>?_,λp hp=>absurd (show p∈([]:List (Addr×Obj)) from hp) (by simp),e0.hok.kept hk,?_⟩
 ·exact name_of_addr x.apart (br0 h1) (br0 h2)
 ·have hy:scope.names.lookup y=some .cell∨scope.names.lookup y=some .free:=hy
  rcases hy with hy|hy
  ·exact C6 hy
  ·exact absurd rfl (S.nofree _ (br0 hy))
 ·exact bu6 (x.above y c (br0 h))
 ·have hi:i<vs.length:=by
   unfold gD at h2
   by_cases hi:i<vs.length
   ·exact hi
   ·rw[bq0 (by simpa using hi)]at h2
    rw[List.getElem?_replicate]at h2
    split at h2<;>cases h2
  have ha:vs[i]? = some v:=by
   unfold gD at h2
   rw[bp2 (by simpa using hi),bl4]at h2
   cases e:vs[i]? with
   |none=>rw[e]at h2;cases h2
   |some a=>rw[e]at h2;cases h2;rfl
  obtain⟨u,hu,rv⟩:=r.get ha
  have hp:ps[i]? = some y:=by
   rw[<- S.pre,List.getElem?_take_of_lt (by omega)];exact h1
  have ndP:ps.Nodup:=by rw[<- S.pre];exact S.nd.sublist (List.take_sublist _ _)
  refine⟨u,rv,?_⟩
  rcases S.par y (bn2 hp) with k|k
  ·exact .inl ⟨k,C4 ndP hp hu k⟩
  ·obtain⟨c,e⟩:=C6 (n:=s.heap.objs.size+1) k
   refine .inr ⟨.inl k,c,e,?_⟩
   have q:=x.cell y c e
   rw[C5 ndP hp hu (by show scope.names.lookup y≠_;rw[k];decide)]at q
   exact q
 ·exact e0.hok.fresh (bu6 (x.above y c (br0 h)))
 ·unfold gD
  show _=N.length
  rw[bm7,bl5,List.length_replicate]
  omega
theorem C7 {CX:gC}{P:Program}{w:World}{K:ad}{mg:Str->Option Value}{base:Heap}{k:Nat}{f:Addr}{name qual:Str}{params:Arguments}{body:List Stmt}{scope:Scope}{dV kV doc pm cdv ct oc:Value}{an od:Option Addr}{osl:Array (Option Value)}{N ps:List Str}{sp:Sp}(lk:K.lookup f=some ⟨oc,od,.func (PySem.W.fnOf name qual params body scope dV kV doc pm an cdv ct),osl⟩)(hcd:PySem.W.codeIn K cdv qual=true)(S:FnScope N ps scope)(len:∀vs H Q E,sp vs H Q E->vs.length=ps.length)(hbody:∀(A:Around) (outer:List Env) (s:Shared) (H:Hp) (vs:List V) (Q:VK) (E:XK),bT k (A.deeper (envOfC qual scope s.heap.objs.size f cdv))->sp vs H Q E->
   ∃t,dG (cX CX P w K mg base N qual scope f cdv A outer s H E) body t/\t { nx:=λ_ H'=>Q .non H',rt:=Q } (gD N vs) H) :
  cL P w K mg base CX (k+1) f (PySem.W.fnOf name qual params body scope dV kV doc pm an cdv ct) ps sp:=by
 refine⟨len,λA outer s H args us vs Q E hr e0 hb r hsp=>?_⟩
 have hl:=len _ _ _ _ hsp
 have KX:K.In s.heap:=e0.mod.kin.keeps λb o e=>(e0.bs b o e).1
 have lim:s.heap.NoLimit:=e0.mod.nolimit.keeps λb o e=>(e0.bs b o e).1
 have hkind:∀y∈ps.zip us,scope.names.lookup y.1=some .local∨(scope.names.lookup y.1=some .cell/\((cellsFrom (s.heap.objs.size+1) scope.names []).lookup y.1).isSome=true):=λ⟨n,v⟩ hy=>by
  rcases S.par n (List.of_mem_zip hy).1 with q|q
  ·exact .inl q
  ·exact .inr ⟨q,PySem.W.cellsFrom_some _ _ _ (.inl q)⟩
 refine codeAny_call_function hr.depth (KX _ _ lk) rfl S.co S.gen rfl (PySem.W.codeRec_of KX hcd) (hb _ _ _ _ ?_)
 refine wpAny_newFunctionEnv_cells S.kind hkind λenv he s1 x=>?_
 subst he
 refine⟨lim.keeps x.toInCall.keep,codeAny_func ?_⟩
 obtain⟨t,ht,hq⟩:=hbody A outer s H vs Q E (hr.deeper _) hsp
 have I:a6 (cX CX P w K mg base N qual scope f cdv A outer s H E) [] (gD N vs) H s1:=ar6 S hr.hd e0 hl r x
 refine bs2 (ht [] s1 (gD N vs) H _ I hq) (λfl s' hs=>?_) λe s' hs=>hs
 have fin:∀{σ':St}{H':Hp}{v:V}{u:Value},a6 (cX CX P w K mg base N qual scope f cdv A outer s H E) [] σ' H' s'->aP v u->Q v H'->CE outer P w H s Q u s':=
  λ{σ' H' v u} J rv q=>⟨v,H',J.os,J.bare,J.base,J.hok,rv,q⟩
 cases fl with
 |ret u=>
  obtain⟨v,σ',H',J,rv,q⟩:=hs
  exact fin J rv q
 |next=>
  obtain⟨σ',H',J,q⟩:=hs
  exact fin (v:=V.non) (u:=Value.none) J rfl q
 |brk=>
  obtain⟨_,_,_,q⟩:=hs
  exact False.elim q
 |cont=>
  obtain⟨_,_,_,q⟩:=hs
  exact False.elim q
section
variable {X:Cx}{x:Str}{p pos:Pos}{e:Expr}{es:List Expr}{t:TA}{id T:String}{r:List V→Hp→VK→Prop}
def uT (r:List V->Hp->VK->Prop)(t:TA):TE:=λσ H Q=>t σ H λvs H1=>r vs H1 Q
theorem uU (hc:cP X (.builtin id) r)(hg:Gl X x)(hm:X.mg x=none)(hv:bootBuiltins x=some (.builtin id))(ha:PA X (e::es) t)(hn:x≠"__name__":=by decide)(hdb:(x==("__debug__":Str))=false:=by decide)(he:starEach (e::es) X.env=(false,eval e X.env)::starEach es X.env:=by rfl)(hpl:(backTo pos (starEach es X.env)).any (·.1)=false:=by rfl):PE X (.Call (.Name x p) (e::es) [] pos) (uT r t):=by
 intro pins s σ H Q I h
 refine wpAny_Call_Name_kw (jM I hg hm hv ?_ hn hdb)
 exact PyProof.Rows.callWith_builtin1 (aK (ha pos pins s σ H _ I h) λus s1 ⟨vs,H1,I1,r1,q1⟩=>hc pins s1 σ H1 vs us Q I1 r1 q1) he hpl
theorem uV (hc:cP X (.type T) r)(hg:Gl X x)(hm:X.mg x=none)(hv:bootBuiltins x=some (.type T))(ha:PA X (e::es) t)(hn:x≠"__name__":=by decide)(hdb:(x==("__debug__":Str))=false:=by decide)(he:starEach (e::es) X.env=(false,eval e X.env)::starEach es X.env:=by rfl)(hpl:(backTo pos (starEach es X.env)).any (·.1)=false:=by rfl):PE X (.Call (.Name x p) (e::es) [] pos) (uT r t):=by
 intro pins s σ H Q I h
 refine wpAny_Call_Name_kw (jM I hg hm hv ?_ hn hdb)
 exact bt3 (aK (ha pos pins s σ H _ I h) λus s1 ⟨vs,H1,I1,r1,q1⟩=>hc pins s1 σ H1 vs us Q I1 r1 q1) he hpl
end
end L2
namespace HT
open PySem PyProof.Rows
def aU:af->af->Bool
 |[],[]=>false
 |[],_::_=>true
 |_::_,[]=>false
 |x::xs,y::ys=>if x=y then aU xs ys else decide (x<y)
theorem gE (x y:Int)(xs ys:af):aU (x::xs) (y::ys)=if x=y then aU xs ys else decide (x<y):=rfl
theorem C8:aU [] []=false:=rfl
theorem ar7 (y:Int)(ys:af):aU [] (y::ys)=true:=rfl
theorem ar8 (x:Int)(xs:af):aU (x::xs) []=false:=rfl
theorem C9 (A:Around)(s:Shared)(a:Int)(t:Tok)(c:Int)(u:Tok):∃e,SeqAt.EqAt A s (.int a t) (.int c u) e/\(e=true↔a=c):=
 ⟨(a==c),SeqAt.EqAt.int_int a t c u,by simp⟩
theorem E1 (A:Around)(s:Shared)(a:Int)(t:Tok)(c:Int)(u:Tok)(prog:Program)(w:World)(E:Value->Shared->Prop)(Q:Value->Shared->Prop)(h:Q (.bool (decide (a<c))) s) :
  wpAny (model prog w) A (richCompare .Lt (.int a t) (.int c u)) Q E s:=
 (PyProof.Rows.lt_int h:wpAny (model prog w) A (compareOp .Lt (.int a t) (.int c u)) Q E s)
section
open PySem.SeqAt
open PySem.MeetsSeq PySem.MeetsSeq2 PySem.MeetsSeq3
theorem E2 (l b:Addr)(items items2:Array Value)(n n2:Nat)(dd dd2:Option Addr)(sl sl2:Array (Option Value))(ns ms:af)(hi:IntsAre items.toList ns)(hj:IntsAre items2.toList ms) :
  Meets (Builtin.«tuple.__lt__» ⟨[.ref l,.ref b],[]⟩)
   (λ_ R s=>s.heap.get? l=some { cls:=.type "tuple",dict:=dd,data:=.seq items n,slots:=sl }/\s.heap.get? b=some { cls:=.type "tuple",dict:=dd2,data:=.seq items2 n2,slots:=sl2 }/\
    R (.ok (.ret (.bool (aU ns ms)))) s):=
 .of_wp λprog w A R s h=>by
  obtain⟨hp,g,d,tk,os⟩:=s;obtain⟨hl,hb,h⟩:=h
  have f2:=AutoSeq1.sub_tuple_tuple
  have z1:items.size=ns.length:=by rw[<- hi.length];simp
  have z2:items2.size=ms.length:=by rw[<- hj.length];simp
  wp_walk using bB0 hl,bB0 hb,wpAny_forIn_list _ (λbR b s'=>b.1=none/\s'=⟨hp,g,d,tk,os⟩/\∃(vs ws:List Value) (ns' ms':af),bR=vs.zip ws/\
   IntsAre vs ns'/\IntsAre ws ms'/\ns'.length+items2.size=ms'.length+items.size/\R (.ok (.ret (.bool (aU ns' ms')))) ⟨hp,g,d,tk,os⟩) _
  case turn=>
   rintro⟨y,x⟩ bR b s' ⟨hb',rfl,vs,ws,ns',ms',hz,hvi,hwi,hlen,hR⟩
   cases hvi with
   |nil=>rw[List.zip_nil_left]at hz;cases hz
   |cons a t hvi'=>
    cases hwi with
    |nil=>rw[List.zip_nil_right]at hz;cases hz
    |cons c u hwi'=>
     rw[bA3]at hz
     injection hz with hyx hrest
     injection hyx with hy hx
     subst hy hx
     rw[gE]at hR
     simp only[bo3]at hlen
     obtain⟨e,he,hiff⟩:=C9 A.in1 ⟨hp,g,d,tk,os⟩ a t c u
     refine bk3 (he prog w _ _ ?_)
     cases e with
     |true=>
      rw[if_pos (hiff.mp rfl)]at hR
      wp_walk
      exact⟨rfl,rfl,_,_,_,_,hrest,hvi',hwi',by omega,hR⟩
     |false=>
      rw[if_neg (λq=>absurd (hiff.mpr q) bm6)]at hR
      have hri:=E1 A.in1 ⟨hp,g,d,tk,os⟩ a t c u prog w
      wp_walk using hri
      exact⟨_,rfl,by simpa using hR⟩
  case fin=>
   rintro⟨b1,b2⟩ s' ⟨hb',rfl,vs,ws,ns',ms',hz,hvi,hwi,hlen,hR⟩
   simp only at hb'
   subst hb'
   have hv:aU ns' ms'=decide (items.size<items2.size):=by
    cases hvi with
    |nil=>
     cases hwi with
     |nil=>
      simp only[List.length_nil]at hlen
      rw[C8]
      exact (bl1 (by omega)).symm
     |cons c u hw=>
      simp only[List.length_nil,bo3]at hlen
      rw[ar7]
      exact (bl6 (by omega)).symm
    |cons a t hv=>
     cases hwi with
     |nil=>
      simp only[List.length_nil,bo3]at hlen
      rw[ar8]
      exact (bl1 (by omega)).symm
     |cons c u hw=>
      rw[bA3]at hz
      cases hz
   rw[hv]at hR
   wp_walk
   exact⟨_,rfl,by simpa[Builtin.Tuple.tupleCompareSizes] using hR⟩
  case h=>
   exact⟨rfl,rfl,items.toList,items2.toList,ns,ms,rfl,hi,hj,by omega,h⟩
end
section
variable {prog:Program}{w:World}{A:Around}{E:Value→Shared→Prop}{s:Shared}
theorem ar9 {l b:Addr}{items items2:Array Value}{ns ms:af}{Q:Value->Shared->Prop}(hl:IsTup s.heap l items)(hb:IsTup s.heap b items2)(hi:IntsAre items.toList ns)(hj:IntsAre items2.toList ms)(hu:A.units<cLine)(h:Q (.bool (aU ns ms)) s):wpAny (model prog w) A (compareOp .Lt (.ref l) (.ref b)) Q E s:=by
 obtain⟨⟨cls,dd,data,sl⟩,ho,hc,n,hd⟩:=id hl
 obtain⟨⟨cls2,dd2,data2,sl2⟩,ho2,hc2,n2,hd2⟩:=id hb
 simp only at hc hd hc2 hd2
 subst hc hd hc2 hd2
 exact richCompare_meets_room (op:=.Lt) ⟨_,ho,rfl⟩ ⟨_,ho2,rfl⟩ PySem.F.slot_tuple_lt PySem.F.entry_tuple_lt (PySem.F.args_tuple_lt_2 _ _) (E2 l b items items2 n n2 dd dd2 sl sl2 ns ms hi hj)
  ⟨ho,ho2,show Value.bool (aU ns ms)≠Value.notImplemented/\Q (.bool (aU ns ms)) s from ⟨(λx=>nomatch x),h⟩⟩ hu
theorem as0 {t b:Addr}{vs ws:List Value}{Q:Value->Shared->Prop}(ht:IsTup s.heap t vs.toArray)(hb:IsTup s.heap b ws.toArray)(hv:vs≠[])(h1:ws = []->Q (.ref t) s)(h2:ws≠[]->Q (.ref s.heap.objs.size) { s with heap:=s.heap.push { cls:=.type "tuple",data:=.seq (vs++ws).toArray } })(hsz:vs.length+ws.length<=sizeLine):wpAny (model prog w) A (binaryOp .Add (.ref t) (.ref b)) Q E s:=by
 obtain⟨⟨cls,dd,data,sl⟩,ho,hc,n,hd⟩:=id ht
 obtain⟨⟨cls2,dd2,data2,sl2⟩,ho2,hc2,n2,hd2⟩:=id hb
 simp only at hc hd hc2 hd2
 subst hc hd hc2 hd2
 have e:vs.toArray++ws.toArray=(vs++ws).toArray:=by simp
 by_cases hw:ws = []
 ·exact concat_meets ⟨_,ho,rfl⟩ ⟨_,ho2,rfl⟩ noFill_tuple_add seq_tuple_add PySem.F.slot_tuple_add PySem.F.entry_tuple_add (PySem.F.args_tuple_add_2 _ _)
   (tuple_addW1 t b vs.toArray ws.toArray n n2 dd dd2 sl sl2 (by simpa using hv) (by simp[hw])) ⟨ho,ho2,h1 hw⟩
 ·refine concat_meets ⟨_,ho,rfl⟩ ⟨_,ho2,rfl⟩ noFill_tuple_add seq_tuple_add PySem.F.slot_tuple_add PySem.F.entry_tuple_add (PySem.F.args_tuple_add_2 _ _)
   (tuple_addW2 t b vs.toArray ws.toArray n n2 dd dd2 sl sl2 (by simpa using hv) (by simpa using hw) (by rw[bk9,bk9];exact hsz)) ⟨ho,ho2,?_⟩
  rw[e]
  exact h2 hw
def aS (n d:Nat):Option Int->Nat
 |none=>d
 |some v=>if v<0 then (v+(n:Int)).toNat else min v.toNat n
theorem as1 (n d k:Nat):aS n d (some (k:Int))=min k n:=by
 show (if (k:Int)<0 then ((k:Int)+(n:Int)).toNat else min (k:Int).toNat n)=min k n
 rw[if_neg (by omega),bp1]
theorem as2 (n d:Nat)(hd:d<=n)(o:Option Int):aS n d o<=n:=by
 cases o with
 |none=>exact hd
 |some v=>
  show (if v<0 then (v+(n:Int)).toNat else min v.toNat n)<=n
  by_cases hv:v<0
  ·rw[if_pos hv];omega
  ·rw[if_neg hv];exact Nat.min_le_right _ _
theorem E3 (v:Int)(n d:Nat):(if v<0 then max (v+(n:Int)) 0 else min v (n:Int))=((aS n d (some v):Nat):Int):=by
 show (if v<0 then max (v+(n:Int)) 0 else min v (n:Int))=(((if v<0 then (v+(n:Int)).toNat else min v.toNat n):Nat):Int)
 by_cases hv:v<0
 ·simp only[if_pos hv];omega
 ·simp only[if_neg hv];omega
theorem as3 (lo hi:Option Int)(n:Nat):Builtin.Slice.sliceAdjust lo hi 1 (n:Int)=(((aS n 0 lo:Nat):Int),((aS n n hi:Nat):Int)):=by
 have h1:¬((1:Int)<0):=by omega
 unfold Builtin.Slice.sliceAdjust
 simp only[h1,bq1]
 refine Prod.ext ?_ ?_
 ·cases lo with
  |none=>rfl
  |some v=>exact E3 v n 0
 ·cases hi with
  |none=>rfl
  |some v=>exact E3 v n n
theorem as4 (i j:Nat):Builtin.Slice.slicePlaces (i:Int) (j:Int) 1=j-i:=by
 unfold Builtin.Slice.slicePlaces
 have h1:(1:Int)>0:=by omega
 simp only[h1,if_true,Int.ediv_one]
 split<;>omega
theorem E4 {v:Value}{o:Option Int}{Q:Option Int->Shared->Prop}(p:IsPart v o)(h:Q o s):wpAny (model prog w) A (Builtin.Slice.slicePartIndex v) Q E s:=by
 cases p with
 |none=>exact slicePart_none h
 |int i t=>exact slicePart_int h
theorem E5 {sl:Addr}{vl vu:Value}{lo hi:Option Int}{n:Nat}{Q:Int×Int×Nat->Shared->Prop}(hs:s.heap.IsSliceOf sl vl vu .none)(pl:IsPart vl lo)(pu:IsPart vu hi)(h:Q (((aS n 0 lo:Nat):Int),1,aS n n hi-aS n 0 lo) s):wpAny (model prog w) A (Builtin.Slice.sliceApplied (.ref sl) (pure (n:Int))) Q E s:=by
 obtain⟨os,hos,hcs,hds⟩:=id hs
 unfold Builtin.Slice.sliceApplied Builtin.Slice.sliceFields
 refine bk3 (bk3 (br9 hos hds (x:=vl) rfl (bk3 (br9 hos hds (x:=vu) rfl (bk3 (br9 hos hds (x:=.none) rfl (bk8 ?_)))))))
 refine bk3 (slicePart_none ?_)
 show wpAny _ _ (if ((1:Int)==0)=true then _ else _) _ _ s
 rw[if_neg (by decide)]
 refine bk3 (E4 pl (bk3 (E4 pu (bk3 (bk8 ?_)))))
 show wpAny _ _ (match Builtin.Slice.sliceAdjust lo hi 1 (n:Int) with|(lo,hi)=>pure (lo,(1:Int),Builtin.Slice.slicePlaces lo hi 1)) _ _ s
 rw[as3 lo hi n]
 show wpAny _ _ (pure (((aS n 0 lo:Nat):Int),(1:Int),Builtin.Slice.slicePlaces ((aS n 0 lo:Nat):Int) ((aS n n hi:Nat):Int) 1)) _ _ s
 rw[as4]
 exact bk8 h
theorem as5 (xs:Array Value)(i k:Nat):((List.range k).filterMap λ(m:Nat)=>xs[((i:Int)+(m:Int)*1).toNat]?).toArray=((xs.toList.drop i).take k).toArray:=by
 have e:(λ(m:Nat)=>xs[((i:Int)+(m:Int)*1).toNat]?)=λm=>xs[i+m]?:=by
  funext m
  have:((i:Int)+(m:Int)*1).toNat=i+m:=by omega
  rw[this]
 rw[e]
 have:=pick_run xs i k
 rw[List.filterMap_map]at this
 have e2:((λx=>xs[x]?) ∘ λx=>i+x)=λm=>xs[i+m]?:=rfl
 rw[e2]at this
 rw[this]
theorem as6 {t sl:Addr}{items:Array Value}{vl vu:Value}{lo hi:Option Int}{Q:Value->Shared->Prop}(ht:IsTup s.heap t items)(hs:s.heap.IsSliceOf sl vl vu .none)(pl:IsPart vl lo)(pu:IsPart vu hi)(hw:¬(aS items.size 0 lo=0/\aS items.size items.size hi=items.size))(h:Q (.ref s.heap.objs.size) { s with heap:=s.heap.push { cls:=.type "tuple",data:=.seq ((items.toList.drop (aS items.size 0 lo)).take (aS items.size items.size hi-aS items.size 0 lo)).toArray } })(hsz:items.size<=sizeLine):wpAny (model prog w) A (getItem (.ref t) (.ref sl)) Q E s:=by
 have htake:sizeOk (.seq ((items.toList.drop (aS items.size 0 lo)).take (aS items.size items.size hi-aS items.size 0 lo)).toArray):=by
  show ((items.toList.drop (aS items.size 0 lo)).take (aS items.size items.size hi-aS items.size 0 lo)).toArray.size<=sizeLine
  rw[bk9,bt6,bv3,bq9]
  omega
 have hj:aS items.size items.size hi<=items.size:=as2 _ _ (bk7 _) hi
 obtain⟨os,hos,hcs,hds⟩:=id hs
 have hTs:s.TypeIs (.ref sl) "slice":=⟨os,hos,hcs⟩
 unfold getItem
 try with_reducible refine bt1 ?_
 first|refine bk3 (bk8 ?_)|skip
 refine bk3 (wpAny_sequenceKey ht.typeIs (by decide) ?_)
 refine bk3 (bs0 (name:=Str.ofString "__getitem__") ht.typeIs bx0
  (bs4 bx0 ht.typeIs entry_tuple_getitem ?_ (args_tuple_getitem _ _)))
 show wpAny _ _ (Builtin.Tuple.tupleItemsOf (.ref t) >>= _) _ _ s
 refine bk3 (tupleItemsOf_ ht ?_)
 refine bk3 (wpAny_typeOf hTs ?_)
 rw[if_pos (by decide)]
 refine bk3 (E5 hs pl pu ?_)
 have hno:¬((((aS items.size 0 lo:Nat):Int)==0&&(1:Int)==1&&(aS items.size items.size hi-aS items.size 0 lo)==items.size)=true):=by
  intro q
  rw[bp4,bp4]at q
  have q1:((aS items.size 0 lo:Nat):Int)=0:=eq_of_beq q.1.1
  have q2:aS items.size items.size hi-aS items.size 0 lo=items.size:=eq_of_beq q.2
  exact hw ⟨by omega,by omega⟩
 show wpAny _ _ (if (((aS items.size 0 lo:Nat):Int)==0&&(1:Int)==1&&(aS items.size items.size hi-aS items.size 0 lo)==items.size)=true then _ else _) _ _ s
 rw[if_neg hno,as5]
 first
  |exact bk3 (m:=Builtin.Tuple.tupleExact _) (br7 (bk8 ⟨_,rfl,bk8 h⟩) htake)
  |exact bk3 (m:=Builtin.Tuple.tupleExact _) (br7 (bk3 (bk8 (bk8 ⟨_,rfl,bk8 h⟩))) htake)
  |exact bk3 (bk3 (m:=Builtin.Tuple.tupleExact _) (br7 (bk8 (bk8 ⟨_,rfl,bk8 h⟩)) htake))
  |exact bk3 (bk3 (m:=Builtin.Tuple.tupleExact _) (br7 (bk8 ⟨_,rfl,bk8 h⟩) htake))
end
end HT
namespace L2
open PySem PySem.Spec PyProof.Rows
abbrev TO:=St->Hp->(Option Int->Hp->Prop)->Prop
def PO (X:Cx)(e:Option Expr)(t:TO):Prop:=
 ∀(pins:List (Addr×Obj)) (s:Shared) (σ:St) (H:Hp) (Q:Option Int->Hp->Prop),a6 X pins σ H s->t σ H Q->
  wpAny (model X.prog X.w) X.A (evalPart e X.env) (λu s'=>∃o H',a6 X pins σ H' s'/\IsPart u o/\Q o H') X.xe s
def as7:TO:=λ_ H Q=>Q none H
def as8 (t:TE):TO:=λσ H Q=>t σ H λx H1=>∃i,x = .int i/\Q (some i) H1
theorem kS {ns:af}:∀{us:List Value},aI (ns.map V.int) us->IntsAre us ns:=by
 induction ns with
 |nil=>intro us r;rw[List.map_nil]at r;cases r;exact .nil
 |cons n ns ih=>
  intro us r
  rw[bq5]at r
  cases r with
  |cons r1 r2=>
   obtain⟨t,e⟩:=r1
   subst e
   exact .cons n t (ih r2)
section
variable {X:Cx}{e:Expr}{te:TE}{lo hi:Option Expr}{tl th:TO}{pos p2:Pos}
theorem E6:PO X none as7:=by
 intro pins s σ H Q I h
 rw[evalPart_none]
 exact bk8 ⟨none,H,I,.none,h⟩
theorem uW (h:PE X e te):PO X (some e) (as8 te):=by
 intro pins s σ H Q I hw
 rw[evalPart_some]
 refine aK (h pins s σ H _ I hw) λu s1 ⟨x,H1,I1,r1,q1⟩=>?_
 obtain⟨i,rfl,q⟩:=q1
 obtain⟨t,rfl⟩:=r1
 exact⟨some i,H1,I1,.int i t,q⟩
def jO (X:Cx)(r:V->Option Int->Option Int->Hp->VK->Prop):Prop:=
 ∀(pins:List (Addr×Obj)) (s:Shared) (σ:St) (H:Hp) (x:V) (v vl vu:Value) (lo hi:Option Int) (sl:Addr) (Q:VK),a6 X pins σ H s->aP x v->s.heap.IsSliceOf sl vl vu .none->IsPart vl lo->IsPart vu hi->r x lo hi H Q->
  ∃T id,typeLookup (.type T) "__getitem__" = pure (some (.builtin id))/\s.TypeIs v T/\wpAny (model X.prog X.w) X.A (getItem v (.ref sl)) (EP X pins σ Q) X.xe s
theorem jO.or {r r':V->Option Int->Option Int->Hp->VK->Prop}(h:jO X r)(h':jO X r'):jO X (λx lo hi H Q=>r x lo hi H Q∨r' x lo hi H Q):=by
 intro pins s σ H x v vl vu lo hi sl Q I rx hs pl pu q
 rcases q with q|q
 ·exact h pins s σ H x v vl vu lo hi sl Q I rx hs pl pu q
 ·exact h' pins s σ H x v vl vu lo hi sl Q I rx hs pl pu q
def tSl (r:V->Option Int->Option Int->Hp->VK->Prop)(te:TE)(tl th:TO):TE:=λσ H Q=>te σ H λx H1=>tl σ H1 λl H2=>th σ H2 λu H3=>r x l u H3 Q
theorem uX {r:V->Option Int->Option Int->Hp->VK->Prop}(hr:jO X r)(he:PE X e te)(hl:PO X lo tl)(hu:PO X hi th):PE X (.Subscript e (.Slice lo hi none p2) pos) (tSl r te tl th):=by
 intro pins s σ H Q I h
 refine Subscript_ (aK (he pins s σ H _ I h) λv s1 ⟨x,H1,I1,r1,q1⟩=>?_)
 refine wpAny_Slice (aK (hl pins s1 σ H1 _ I1 q1) λvl s2 ⟨l,H2,I2,pl,q2⟩=>aK (hu pins s2 σ H2 _ I2 q2) λvu s3 ⟨u,H3,I3,pu,q3⟩=>?_)
 rw[evalPart_none]
 refine bk8 ?_
 have I4:a6 X pins σ H3 { s3 with heap:=s3.heap.push { cls:=.type "slice",data:=.fields #[vl,vu,.none] } }:=I3.kept (t':=s3.toks) λb ob q=>bk6 _ q
 obtain⟨T,id,hT,ht,hg⟩:=hr pins { s3 with heap:=s3.heap.push { cls:=.type "slice",data:=.fields #[vl,vu,.none] } } σ H3 x v vl vu l u s3.heap.objs.size Q I4 r1 (Heap.IsSliceOf.new ..) pl pu q3
 show wpAny (model X.prog X.w) X.A (subscriptTail e (.Slice lo hi none p2) v (.ref s3.heap.objs.size)) (EP X pins σ Q) X.xe { s3 with heap:=s3.heap.push { cls:=.type "slice",data:=.fields #[vl,vu,.none] } }
 exact tail_any (ops:=[.ref s3.heap.objs.size,v]) ht hT hg (by with_unfolding_all rfl)
def dN (xs:List V)(lo hi:Option Int):List V:=(xs.drop (HT.aS xs.length 0 lo)).take (HT.aS xs.length xs.length hi-HT.aS xs.length 0 lo)
theorem E7 (xs:List V)(lo hi:Option Int):(dN xs lo hi).length<=xs.length:=by
 unfold dN
 rw[bt6,bv3]
 omega
def as9 (K:ad):V->Option Int->Option Int->Hp->VK->Prop:=λx lo hi H Q=>∃a xs,x = .ref a/\aH K H a xs/\
 ¬(HT.aS xs.length 0 lo=0/\HT.aS xs.length xs.length hi=xs.length)/\∀p,H p=none->Q (.ref p) (upd H p (.tup (dN xs lo hi)))
theorem at0:jO X (as9 X.K):=by
 intro pins s σ H x v vl vu lo hi sl Q I rx hs pl pu h
 obtain⟨a,xs,rfl,hx,hw,q⟩:=h
 cases rx
 obtain⟨its,r,ht,hz⟩:=I.tuple hx
 have hlen:its.toArray.size=xs.length:=by rw[bk9];exact r.length.symm
 refine⟨"tuple",_,PyProof.Rows.slot_tuple_getitem.lookup,ht.typeIs,?_⟩
 refine HT.as6 ht hs pl pu (by rw[hlen];exact hw) ?_ (by rw[hlen];exact hz)
 rw[hlen]
 refine⟨.ref s.heap.objs.size,_,I.laid (t':=s.toks) (o:=.tup (dN xs lo hi)) (λb ob q=>bk6 _ q) (bk7 _) ?_,rfl,q _ (I.hok.fresh (bk7 _))⟩
 exact⟨bp5 (E7 xs lo hi) hz,_,(r.drop (HT.aS xs.length 0 lo)).take (HT.aS xs.length xs.length hi-HT.aS xs.length 0 lo),IsTup.new _ _,gO.new _ _ rfl⟩
def at2 (K:ad):R2:=λx y H Q=>∃a b xs ys,x = .ref a/\y = .ref b/\aH K H a xs/\aH K H b ys/\xs≠[]/\xs.length+ys.length<=sizeLine/\
 (ys = []->Q (.ref a) H)/\(ys≠[]->∀p,H p=none->Q (.ref p) (upd H p (.tup (xs++ys))))
theorem aI.nil_iff {xs:List V}{us:List Value}(r:aI xs us):us = []↔xs = []:=by
 cases r with
 |nil=>simp
 |cons _ _=>simp
theorem at3:bS X (binaryOp .Add) (at2 X.K):=by
 intro pins s σ H x y v u Q I rx ry h
 obtain⟨a,b,xs,ys,rfl,rfl,ha,hb,hx,hz,q1,q2⟩:=h
 cases rx
 cases ry
 obtain⟨its,r1,p1,_⟩:=I.tuple ha
 obtain⟨its2,r2,p2,_⟩:=I.tuple hb
 refine HT.as0 p1 p2 (λz=>hx (r1.nil_iff.mp z)) (λz=>⟨.ref a,H,I,rfl,q1 (r2.nil_iff.mp z)⟩) (λz=>?_) (by rw[<- r1.length,<- r2.length];exact hz)
 refine⟨.ref s.heap.objs.size,_,I.laid (t':=s.toks) (o:=.tup (xs++ys)) (λb ob q=>bk6 _ q) (bk7 _) ?_,rfl,q2 (λw=>z (r2.nil_iff.mpr w)) _ (I.hok.fresh (bk7 _))⟩
 exact⟨by rw[bm7];exact hz,_,r1.append r2,IsTup.new _ _,gO.new _ _ rfl⟩
end
def gF (n:Nat)(i:Int):Option Nat:=if 0<=i then (if i<n then some i.toNat else none) else if -(n:Int)<=i then some (i+n).toNat else none
def atI {α:Type}(xs:List α)(i:Int):Option α:=(gF xs.length i).bind λj=>xs[j]?
theorem E8 {n:Nat}{i:Int}{j:Nat}(h:gF n i=some j):seqIndex? i n=some j/\j<n/\-(n:Int)<=i/\i<n:=by
 unfold gF at h
 by_cases h0:0<=i
 ·rw[if_pos h0]at h
  by_cases h1:i<n
  ·rw[if_pos h1]at h
   have e:i.toNat=j:=bn8 h
   exact⟨by rw[seqIndex_of h0 h1,e],by omega,by omega,h1⟩
  ·rw[if_neg h1]at h;cases h
 ·rw[if_neg h0]at h
  by_cases h1:-(n:Int)<=i
  ·rw[if_pos h1]at h
   have e:(i+n).toNat=j:=bn8 h
   exact⟨by rw[seqIndex_neg (by omega) h1,e],by omega,h1,by omega⟩
  ·rw[if_neg h1]at h;cases h
theorem uY {α:Type}{xs:List α}{i:Int}{v:α}(h:atI xs i=some v):∃j,seqIndex? i xs.length=some j/\xs[j]? = some v/\j<xs.length/\-(xs.length:Int)<=i/\i<xs.length:=by
 unfold atI at h
 cases e:gF xs.length i with
 |none=>rw[e]at h;cases h
 |some j=>
  rw[e]at h
  obtain⟨h1,h2,h3,h4⟩:=E8 e
  exact⟨j,h1,h,h2,h3,h4⟩
theorem iS {α:Type}{xs:List α}{j:Nat}{v:α}(h:xs[j]? = some v):atI xs (j:Int)=some v:=by
 have hj:j<xs.length:=(bl9.mp h).1
 have e:gF xs.length (j:Int)=some j:=by
  unfold gF
  rw[if_pos (by omega),if_pos (by omega)];simp
 unfold atI;rw[e];exact h
def E9 (b:Expr):Prop:=∀o i,subscripted b false o i=operate [o,i] (getItem o i)
def iT (X:Cx)(r:R2):Prop:=
 ∀(value slice:Expr) (pins:List (Addr×Obj)) (s:Shared) (σ:St) (H:Hp) (x y:V) (v u:Value) (Q:VK),a6 X pins σ H s->aP x v->aP y u->r x y H Q->
  subscripted slice false v u=operate [v,u] (getItem v u)->wpAny (model X.prog X.w) X.A (subscriptTail value slice v u) (EP X pins σ Q) X.xe s
def MtR (X:Cx)(id:String)(r:V->List V->Hp->VK->Prop):Prop:=
 ∀(pins:List (Addr×Obj)) (s:Shared) (σ:St) (H:Hp) (x:V) (xs:List V) (v:Value) (us:List Value) (Q:VK),a6 X pins σ H s->aP x v->aI xs us->r x xs H Q->
  wpAny (model X.prog X.w) X.A (call (.builtin id) (v::us)) (EP X pins σ Q) X.xe s
section
variable {X:Cx}{a b:Expr}{ta tb:TE}{pos:Pos}
theorem iT.or {r r':R2}(h:iT X r)(h':iT X r'):iT X (λx y H Q=>r x y H Q∨r' x y H Q):=by
 intro value slice pins s σ H x y v u Q I rx ry q hs
 rcases q with q|q
 ·exact h value slice pins s σ H x y v u Q I rx ry q hs
 ·exact h' value slice pins s σ H x y v u Q I rx ry q hs
theorem iU {r:R2}(hr:iT X r)(ha:PE X a ta)(hb:PE X b tb)(hs:E9 b):PE X (.Subscript a b pos) (nY r ta tb):=by
 intro pins s σ H Q I h
 exact Subscript_ (uM ha hb I h λv u s2 x y H2 I2 rx ry q=>hr a b pins s2 σ H2 x y v u Q I2 rx ry q (hs _ _))
def F0 (K:ad):R2:=λx y H Q=>∃p xs i v,x = .ref p/\y = .int i/\aJ K H p xs/\atI xs i=some v/\Q v H
def F1 (K:ad):R2:=λx y H Q=>∃p xs i v,x = .ref p/\y = .int i/\aH K H p xs/\atI xs i=some v/\Q v H
def F3:R2:=λx y H Q=>∃z i c,x = .str z/\y = .int i/\z.length<=sizeLine/\atI z.cps.toList i=some c/\Q (.str ⟨#[c]⟩) H
theorem o4:iT X (F0 X.K):=by
 intro value slice pins s σ H x y v u Q I rx ry h hs
 obtain⟨p,xs,i,z,rfl,rfl,hq,he,q⟩:=h
 cases rx
 obtain⟨t,rfl⟩:=ry
 obtain⟨its,r,pl,hz⟩:=I.list hq
 obtain⟨j,h1,h2,h3,h4,h5⟩:=uY he
 obtain⟨w,ew,rw'⟩:=r.get h2
 have hl:=r.length
 have hn:=lX
 have fin:EP X pins σ Q w s:=⟨z,H,I,rw',q⟩
 by_cases h0:0<=i
 ·have hj:i.toNat=j:=by
   rw[seqIndex_of h0 h5]at h1
   exact bn8 h1
  exact item_listR pl.isList h0 (by omega) (by rw[hj];simpa using ew) fin hs
 ·have hj:(i+(its.toArray.size:Int)).toNat=j:=by
   rw[seqIndex_neg (by omega) h4]at h1
   rw[bk9,<- hl]
   exact bn8 h1
  exact subscriptTail_builtinR (x:=w) pl.isList.typeIs slot_list_getitem.lookup
   (wpAny_getItem_list_neg (Q:=λr s'=>r=w/\EP X pins σ Q r s') pl.isList (by omega) (by rw[bk9]<;>omega) (by omega) (by rw[hj];simpa using ew) ⟨rfl,fin⟩) hs
theorem o5:iT X (F1 X.K):=by
 intro value slice pins s σ H x y v u Q I rx ry h hs
 obtain⟨p,xs,i,z,rfl,rfl,hq,he,q⟩:=h
 cases rx
 obtain⟨t,rfl⟩:=ry
 obtain⟨its,r,pl,hz⟩:=I.tuple hq
 obtain⟨j,h1,h2,h3,h4,h5⟩:=uY he
 obtain⟨w,ew,rw'⟩:=r.get h2
 have hl:=r.length
 have hn:=lX
 have fin:EP X pins σ Q w s:=⟨z,H,I,rw',q⟩
 exact subscriptTail_builtinR (x:=w) pl.typeIs slot_tuple_getitem.lookup
  (getItem_tuple (j:=j) (Q:=λr s'=>r=w/\EP X pins σ Q r s') pl (by omega) (by omega) (by rw[bk9,<- hl];exact h1) (by simpa using ew) ⟨rfl,fin⟩) hs
theorem at5:iT X F3:=by
 intro value slice pins s σ H x y v u Q I rx ry h hs
 obtain⟨z,i,c,rfl,rfl,hz,he,q⟩:=h
 obtain⟨t,rfl⟩:=rx
 obtain⟨t',rfl⟩:=ry
 obtain⟨j,h1,h2,h3,h4,h5⟩:=uY he
 have hl:z.cps.toList.length=z.length:=by simp[Str.length]
 rw[hl]at h1 h4 h5
 have hn:=lX
 exact tail_any (typeIs_str s z t) slot_str_getitem.lookup (getItem_str (c:=c) (by
  have e1:decide (i < -(2^63:Int))=false:=bl1 (by omega)
  have e2:decide (i >= 2^63)=false:=bl1 (by omega)
  rw[e1,e2,Bool.or_false]) (by rw[h1];simpa using h2) ⟨.str ⟨#[c]⟩,H,I.tok _,⟨_,rfl⟩,q⟩) hs
def F4 (K:ad):R2:=λx y H Q=>F0 K x y H Q∨F1 K x y H Q∨F3 x y H Q
theorem at6:iT X (F4 X.K):=o4.or (o5.or at5)
theorem at7 (its:List Value)(n j:Nat)(u:Value):Obj.mapSeq (·.setIfInBounds j u) { cls:=.type "list",data:=.seq its.toArray n }={ cls:=.type "list",data:=.seq (its.set j u).toArray n }:=by
 simp[Obj.mapSeq]
theorem a6.lst {pins:List (Addr×Obj)}{σ:St}{H:Hp}{s:Shared}{p:Addr}{xs:List V}(I:a6 X pins σ H s)(h:H p=some (.lst xs)) :
  ∃(its:List Value) (n:Nat),aI xs its/\s.heap.get? p=some { cls:=.type "list",data:=.seq its.toArray n }/\xs.length<=sizeLine:=by
 obtain⟨z,its,n,r,e⟩:=I.hok p _ h
 exact⟨its,n,r,e,z⟩
theorem a6.lstUpd {pins:List (Addr×Obj)}{σ:St}{H:Hp}{s:Shared}{p:Addr}{xs ys:List V}{its its':List Value}{n n':Nat}{f:Obj->Obj}(I:a6 X pins σ H s)(h:H p=some (.lst xs))(ho:s.heap.get? p=some { cls:=.type "list",data:=.seq its.toArray n })(hf:f { cls:=.type "list",data:=.seq its.toArray n }={ cls:=.type "list",data:=.seq its'.toArray n' })(r:aI ys its')(hz:ys.length<=sizeLine)(t:Nat) :
  a6 X pins σ (upd H p (.lst ys)) { s with heap:=s.heap.update p f,toks:=t }:=by
 have e:(s.heap.update p f).get? p=some { cls:=.type "list",data:=.seq its'.toArray n' }:=by
  rw[bx1 f ho (by rw[hf]<;>rfl),hf]
 refine I.write (x:=p) (e:=p) (by rw[h];trivial) (.inl rfl) (λb u hb q=>(bw7 _ _ (Ne.symm hb)).trans q) ⟨_,e⟩ ?_
 exact⟨hz,its',n',r,e⟩
def uZ:V->V->V->Hp->(Hp->Prop)->Prop:=λo i v H Q=>∃p xs k j,o = .ref p/\i = .int k/\H p=some (.lst xs)/\gF xs.length k=some j/\Q (upd H p (.lst (xs.set j v)))
theorem at8:zZ X uZ:=by
 intro pins s σ H o i v ov iv u Q I ro ri rv h
 obtain⟨p,xs,k,j,rfl,rfl,hp,hj,q⟩:=h
 cases ro
 obtain⟨t,rfl⟩:=ri
 obtain⟨its,n,r,ho,hz⟩:=I.lst hp
 obtain⟨h1,h2,h3,h4⟩:=E8 hj
 have hl:=r.length
 have hn:=lX
 have I':a6 X pins σ (upd H p (.lst (xs.set j v))) { s with heap:=s.heap.update p (Obj.mapSeq (·.setIfInBounds j u)) }:=
  I.lstUpd hp ho (at7 its n j u) (r.set rv j) (by rw[br8];exact hz) s.toks
 by_cases h0:0<=k
 ·have hk:k.toNat=j:=by
   rw[seqIndex_of h0 h4]at h1
   exact bn8 h1
  exact PySem.W.ki_setAt ho h0 (by omega) (by rw[bk9,<- hl];exact h4) (by rw[hk];exact⟨_,I',q⟩)
 ·have hk:(k+(its.toArray.size:Int)).toNat=j:=by
   rw[seqIndex_neg (by omega) h3]at h1
   rw[bk9,<- hl]
   exact bn8 h1
  exact PySem.W.ki_setBack ho (by omega) (by rw[bk9,<- hl];exact h3) (by omega) (by rw[hk];exact⟨_,I',q⟩)
theorem at9 (lo hi:Option Int)(n:Nat):(sliceBounds lo hi none n).1=((HT.aS n 0 lo:Nat):Int)/\(sliceBounds lo hi none n).2.1=((HT.aS n n hi:Nat):Int)/\(sliceBounds lo hi none n).2.2=1:=by
 refine⟨?_,?_,rfl⟩
 ·cases lo with
  |none=>simp[sliceBounds,HT.aS]
  |some i=>
   simp only[sliceBounds,HT.aS,Option.getD_none,show (1:Int)>0 by decide,if_true]
   by_cases h:i<0
   ·simp only[h,if_true]<;>omega
   ·simp only[h,bq1]<;>omega
 ·cases hi with
  |none=>simp[sliceBounds,HT.aS]
  |some i=>
   simp only[sliceBounds,HT.aS,Option.getD_none,show (1:Int)>0 by decide,if_true]
   by_cases h:i<0
   ·simp only[h,if_true]<;>omega
   ·simp only[h,bq1]<;>omega
theorem au0 (its:List Value)(lo hi:Option Int):slicePick its.toArray lo hi none=((its.drop (HT.aS its.length 0 lo)).take (HT.aS its.length its.length hi-HT.aS its.length 0 lo)).toArray:=by
 obtain⟨h1,h2,h3⟩:=at9 lo hi its.toArray.size
 unfold slicePick
 rw[h1,h2,h3]
 simp only[sliceRange_one,pick_run,bk9]<;>rfl
def au1 (K:ad):V->Option Int->Option Int->Hp->VK->Prop:=λx lo hi H Q=>∃a xs,x = .ref a/\aJ K H a xs/\∀p,H p=none->Q (.ref p) (upd H p (.lst (dN xs lo hi)))
theorem F5:jO X (au1 X.K):=by
 intro pins s σ H x v vl vu lo hi sl Q I rx hs pl pu h
 obtain⟨a,xs,rfl,hx,q⟩:=h
 cases rx
 obtain⟨its,r,ht,hz⟩:=I.list hx
 have hlen:=r.length
 refine⟨"list",_,slot_list_getitem.lookup,ht.isList.typeIs,?_⟩
 refine wpAny_getItem_list_slice ht.isList hs pl pu .none (by simp) ?_ (by rw[bk9]<;>omega)
 rw[au0,<- hlen]
 refine⟨.ref s.heap.objs.size,_,I.laid (t':=s.toks) (o:=.lst (dN xs lo hi)) (λb ob q=>bk6 _ q) (bk7 _) ?_,rfl,q _ (I.hok.fresh (bk7 _))⟩
 exact⟨bp5 (E7 xs lo hi) hz,_,0,(r.drop (HT.aS xs.length 0 lo)).take (HT.aS xs.length xs.length hi-HT.aS xs.length 0 lo),bm4 _ rfl⟩
def iV:V->Bool
 |.non=>true
 |.bl _=>true
 |.int _=>true
 |.str _=>true
 |_=>false
def gS:V->V->Bool
 |.non,.non=>true
 |.bl a,.bl b=>a==b
 |.bl a,.int b=>(if a then 1 else 0)==b
 |.int a,.bl b=>a==(if b then 1 else 0)
 |.int a,.int b=>a==b
 |.str a,.str b=>a==b
 |_,_=>false
theorem au2 {A:Around}{s:Shared}{y x:V}{u v:Value}(ry:aP y u)(rx:aP x v)(fy:iV y=true)(fx:iV x=true):SeqAt.EqAt A s u v (gS y x):=by
 cases y with
 |non=>
  cases ry
  cases x with
  |non=>cases rx;exact SeqAt.EqAt.same _
  |bl b=>cases rx;exact SeqAt.EqAt.none_bool b
  |int b=>obtain⟨t,rfl⟩:=rx;exact SeqAt.EqAt.none_int b t
  |str b=>obtain⟨t,rfl⟩:=rx;exact SeqAt.EqAt.none_str b t
  |_=>exact absurd (show false=true from fx) bm6
 |bl a=>
  cases ry
  cases x with
  |non=>cases rx;exact SeqAt.EqAt.bool_none a
  |bl b=>cases rx;exact SeqAt.EqAt.bool_bool a b
  |int b=>obtain⟨t,rfl⟩:=rx;exact SeqAt.EqAt.bool_int a b t
  |str b=>obtain⟨t,rfl⟩:=rx;exact SeqAt.EqAt.bool_str a b t
  |_=>exact absurd (show false=true from fx) bm6
 |int a=>
  obtain⟨t',rfl⟩:=ry
  cases x with
  |non=>cases rx;exact SeqAt.EqAt.int_none a t'
  |bl b=>cases rx;exact SeqAt.EqAt.int_bool a t' b
  |int b=>obtain⟨t,rfl⟩:=rx;exact SeqAt.EqAt.int_int a t' b t
  |str b=>obtain⟨t,rfl⟩:=rx;exact SeqAt.EqAt.int_str a t' b t
  |_=>exact absurd (show false=true from fx) bm6
 |str a=>
  obtain⟨t',rfl⟩:=ry
  cases x with
  |non=>cases rx;exact SeqAt.EqAt.str_none a t'
  |bl b=>cases rx;exact SeqAt.EqAt.str_bool a t' b
  |int b=>obtain⟨t,rfl⟩:=rx;exact SeqAt.EqAt.str_int a t' b t
  |str b=>obtain⟨t,rfl⟩:=rx;exact SeqAt.EqAt.str_str a t' b t
  |_=>exact absurd (show false=true from fx) bm6
 |_=>exact absurd (show false=true from fy) bm6
def iW (x:V)(u:Value):Bool:=match u with
 |.none=>gS .non x
 |.bool b=>gS (.bl b) x
 |.int i _=>gS (.int i) x
 |.str z _=>gS (.str z) x
 |_=>false
theorem F6 {x y:V}{u:Value}(r:aP y u)(f:iV y=true):iW x u=gS y x:=by
 cases y with
 |non=>cases r;rfl
 |bl b=>cases r;rfl
 |int i=>obtain⟨t,rfl⟩:=r;rfl
 |str z=>obtain⟨t,rfl⟩:=r;rfl
 |_=>exact absurd (show false=true from f) bm6
theorem v5 {x:V}:∀{xs:List V}{us:List Value},aI xs us->xs.all iV=true->us.any (iW x)=xs.any λy=>gS y x
 |_,_,.nil,_=>rfl
 |y::xs,u::us,.cons r t,f=>by
  rw[bz9,bp4]at f
  rw[bA0,bA0,F6 r f.1,v5 t f.2]
theorem v6 {A:Around}{s:Shared}{x:V}{v:Value}(rx:aP x v)(fx:iV x=true):∀{xs:List V}{us:List Value},aI xs us->xs.all iV=true->∀u∈us,SeqAt.EqAt A s u v (iW x u)
 |_,_,.nil,_=>λu hu=>by cases hu
 |y::xs,u::us,.cons r t,f=>λu' hu=>by
  rw[bz9,bp4]at f
  rcases bl8.mp hu with rfl|hu
  ·rw[F6 r f.1];exact au2 r rx f.1 fx
  ·exact v6 rx fx t f.2 u' hu
def o6 (x:V)(xs:List V):Bool:=xs.any λy=>gS y x
def F7 (K:ad)(neg:Bool):R2:=λx y H Q=>∃p xs,y = .ref p/\(aJ K H p xs∨aH K H p xs)/\iV x=true/\xs.all iV=true/\Q (.bl (if neg then !o6 x xs else o6 x xs)) H
theorem F8:bS X (compareOp .In) (F7 X.K false):=by
 intro pins s σ H x y v u Q I rx ry h
 obtain⟨p,xs,rfl,hq,fx,fs,q⟩:=h
 cases ry
 rcases hq with hq|hq
 ·obtain⟨its,r,pl,hz⟩:=I.list hq
  refine SeqAt.in_listAt (iW x) pl.isList (λw hw=>v6 rx fx r fs w (by simpa using hw)) ⟨.bl _,H,I,rfl,?_⟩
  rw[show its.toArray.any (iW x)=its.any (iW x) by simp,v5 r fs]
  exact q
 ·obtain⟨its,r,pl,hz⟩:=I.tuple hq
  refine SeqAt.in_tupleAt (iW x) pl (λw hw=>v6 rx fx r fs w (by simpa using hw)) ⟨.bl _,H,I,rfl,?_⟩
  rw[show its.toArray.any (iW x)=its.any (iW x) by simp,v5 r fs]
  exact q
theorem au3:cP X (.builtin "len") (λxs H Q=>∃p ys,xs = [.ref p]/\(aJ X.K H p ys∨aH X.K H p ys)/\Q (.int ys.length) H):=by
 intro pins s σ H xs us Q I r h
 obtain⟨p,ys,rfl,hq,q⟩:=h
 obtain⟨u,rfl,rx⟩:=fU r
 cases rx
 have hn:=lX
 rcases hq with hq|hq
 ·obtain⟨its,r',pl,hz⟩:=I.list hq
  have hlen:=r'.length
  exact Calls.call_len_list pl.isList (by simp only[bk9]<;>omega) ⟨.int ys.length,H,I.tok _,⟨s.toks+1,by rw[bk9,hlen]⟩,q⟩
 ·obtain⟨its,r',pl,hz⟩:=I.tuple hq
  have hlen:=r'.length
  exact len_tuple pl (by simp only[bk9]<;>omega) ⟨.int ys.length,H,I.tok _,⟨s.toks+1,by rw[bk9,hlen]⟩,q⟩
theorem cP.or {f:Value}{r r':List V->Hp->VK->Prop}(h:cP X f r)(h':cP X f r'):cP X f (λxs H Q=>r xs H Q∨r' xs H Q):=by
 intro pins s σ H xs us Q I rs q
 rcases q with q|q
 ·exact h pins s σ H xs us Q I rs q
 ·exact h' pins s σ H xs us Q I rs q
theorem au4:cP X (.type "tuple") (λxs H Q=>∃p ys,xs = [.ref p]/\((aJ X.K H p ys/\∀l,H l=none->Q (.ref l) (upd H l (.tup ys)))∨(aH X.K H p ys/\Q (.ref p) H))):=by
 intro pins s σ H xs us Q I r h
 obtain⟨p,ys,rfl,h⟩:=h
 obtain⟨u,rfl,rx⟩:=fU r
 cases rx
 rcases h with⟨hq,q⟩|⟨hq,q⟩
 ·obtain⟨its,r',pl,hz⟩:=I.list hq
  have hlen:=r'.length
  refine call_tuple_list pl.isList (λh' kp=>?_) (by simp only[bk9]<;>omega)
  have I1:a6 X pins σ H { s with heap:=h' }:=I.kept (t':=s.toks) kp
  have I2:a6 X pins σ (upd H h'.objs.size (.tup ys)) { s with heap:=h'.push { cls:=.type "tuple",data:=.seq its.toArray } }:=
   I1.laid (t':=s.toks) (λb o e=>bk6 _ e) (bk7 _) (show bM X.prog X.w _ _ _ (.tup ys) from ⟨hz,its,r',IsTup.new _ _,gO.new _ _ rfl⟩)
  exact⟨.ref h'.objs.size,_,I2,rfl,q _ (I1.hok.fresh (bk7 _))⟩
 ·obtain⟨its,r',pl,hz⟩:=I.tuple hq
  exact call_tuple_same pl ⟨.ref p,H,I,rfl,q⟩
def qD (K:ad)(T:String)(x:V)(H:Hp):Prop:=match x with
 |.str _=>T="str"
 |.int _=>T="int"
 |.ref p=>(T="list"/\∃xs,aJ K H p xs)∨(T="tuple"/\∃o,K.lookup p=some o/\o.cls = .type "tuple"/\o.dict=none) ∨
   (T="dict"/\((∃kvs,H p=some (.dK kvs))∨∃kvs,H p=some (.dT kvs)))∨(T="set"/\∃S n,H p=some (.set S n))
 |_=>False
theorem au5 {pins:List (Addr×Obj)}{σ:St}{H:Hp}{s:Shared}{T:String}{x:V}{v:Value}(I:a6 X pins σ H s)(r:aP x v)(ty:qD X.K T x H) :
  s.TypeIs v T/\∀a,v = .ref a->∃ob,s.heap.get? a=some ob/\ob.dict=none:=by
 cases x with
 |str z=>
  obtain⟨t,rfl⟩:=r
  cases (show T="str" from ty)
  exact⟨typeIs_str s z t,λ_ e=>nomatch e⟩
 |int i=>
  obtain⟨t,rfl⟩:=r
  cases (show T="int" from ty)
  exact⟨typeIs_int s i t,λ_ e=>nomatch e⟩
 |ref p=>
  cases r
  rcases ty with⟨rfl,xs,hq⟩|⟨rfl,o,hk,hc,hd⟩|⟨rfl,hk⟩|⟨rfl,S,n,hk⟩
  ·obtain⟨its,_,pl,_⟩:=I.list hq
   refine⟨pl.isList.typeIs,λa e=>?_⟩
   cases e
   obtain⟨o,n,e,c,hd,_⟩:=pl
   exact⟨o,e,hd⟩
  ·refine⟨⟨o,I.kIn p o hk,hc⟩,λa e=>?_⟩
   cases e
   exact⟨o,I.kIn _ o hk,hd⟩
  ·have z:∃o,s.heap.get? p=some o/\o.ExactDict:=by
    rcases hk with⟨kvs,hk⟩|⟨kvs,hk⟩
    ·obtain⟨_,_,_,_,o,_,_,e,ex,_⟩:=I.hok p _ hk
     exact⟨o,e,ex⟩
    ·obtain⟨_,_,_,_,o,_,_,e,ex,_⟩:=I.hok p _ hk
     exact⟨o,e,ex⟩
   obtain⟨o,e,ex⟩:=z
   refine⟨⟨o,e,ex.1⟩,λa e2=>?_⟩
   cases e2
   exact⟨o,e,ex.2.1⟩
  ·obtain⟨o,_,_,_,e,ex,_⟩:=I.hok p _ hk
   refine⟨⟨o,e,ex.1⟩,λa e2=>?_⟩
   cases e2
   exact⟨o,e,ex.2.1⟩
 |_=>exact False.elim ty
def F9 (K:ad)(T:String)(r:V->List V->Hp->VK->Prop)(to:TE)(t:TA):TE:=λσ H Q=>to σ H λx H1=>qD K T x H1/\t σ H1 λxs H2=>r x xs H2 Q
variable {o e:Expr}{es:List Expr}{to:TE}{t:TA}{name:Str}{apos cpos:Pos}{T id:String}{r:V→List V→Hp→VK→Prop}
theorem o7 (pa:PlainAttrs T)(slot:Slot T name id)(hty:typeOf (.builtin id)=pure (.type "method_descriptor"))(hm:MtR X id r)(ho:PE X o to)(ha:PA X (e::es) t)(hbase:attributeBase o name X.env (eval o X.env)=eval o X.env:=by rfl)(hfew:((backTo cpos (starEach (e::es) X.env)).all (λx=>!x.1)&&(backToKw cpos (keywordEach [] X.env)).all (λx=>x.1.isSome)
  &&decide ((e::es).length+([]:List Keyword).length+(if ([]:List Keyword).isEmpty then 0 else 1)<30))=true:=by rfl)(hline:(apos.endLine==cpos.line)=true:=by rfl)(hs:starEach (e::es) X.env=(false,eval e X.env)::starEach es X.env:=by rfl)(hplain:(backTo cpos (starEach es X.env)).any (·.1)=false:=by rfl) :
  PE X (.Call (.Attribute o name apos) (e::es) [] cpos) (F9 X.K T r to t):=by
 intro pins s σ H Q I h
 refine wpAny_Call_method_late hbase hfew hline rfl (aK (ho pins s σ H _ I h) λv s1 ⟨x,H1,I1,r1,ty,q1⟩=>?_)
 obtain⟨h1,h2⟩:=au5 I1 r1 ty
 refine⟨T,id,pa,slot,hty,h1,h2,?_⟩
 have hA:=ha cpos pins s1 σ H1 _ I1 q1
 rw[hs]at hA ⊢
 refine Calls.callWith_builtin (by show (false||(backTo cpos (starEach es X.env)).any (·.1))=false;rw[hplain]<;>rfl) (Calls.evalArgs_plain ?_)
 exact aK hA λus s2 ⟨vs,H2,I2,r2,q2⟩=>hm pins s2 σ H2 x vs v us Q I2 r1 r2 q2
end
def G0 (X:Cx)(id:String)(r:V->List V->Hp->VK->Prop):Prop:=
 ∀(pins:List (Addr×Obj)) (s:Shared) (σ:St) (H:Hp) (x:V) (xs:List V) (v:Value) (us:List Value) (Q:VK),a6 X pins σ H s->aP x v->aI xs us->r x xs H Q->
  wpAny (model X.prog X.w) X.A (call (.builtin id) (v::us)) (EP X pins σ Q) X.xe s
theorem aI.one {x:V}{us:List Value}(h:aI [x] us):∃u,us = [u]/\aP x u:=by
 cases h with
 |cons r t=>
  cases t
  exact⟨_,rfl,r⟩
theorem aI.two {x y:V}{us:List Value}(h:aI [x,y] us):∃u v,us = [u,v]/\aP x u/\aP y v:=by
 cases h with
 |cons r t=>
  cases t with
  |cons q t=>
   cases t
   exact⟨_,_,rfl,r,q⟩
theorem aI.eraseIdx:∀{xs:List V}{us:List Value} (i:Nat),aI xs us->aI (xs.eraseIdx i) (us.eraseIdx i)
 |_,_,_,.nil=>.nil
 |_,_,0,.cons _ t=>t
 |_,_,i+1,.cons r t=>.cons r (aI.eraseIdx i t)
theorem aI.rep {xs:List V}{us:List Value}(h:aI xs us):∀k:Nat,aI (List.replicate k xs).flatten (List.replicate k us).flatten
 |0=>.nil
 |k+1=>by
  rw[bu4,bu4,by5,by5]
  exact aI.append h (aI.rep h k)
theorem G1 (its:List Value):∀(k:Nat) (acc:List Value),
  List.foldl (λx1 x2=>x1++x2) acc.toArray (List.replicate k its.toArray)=(acc++(List.replicate k its).flatten).toArray
 |0,acc=>by simp
 |k+1,acc=>by
  have e:acc.toArray++its.toArray=(acc++its).toArray:=by simp
  have e2:(acc++its)++(List.replicate k its).flatten=acc++(List.replicate (k+1) its).flatten:=by
   rw[bu4,by5,bo0]
  rw[<- e2,<- G1 its k (acc++its),<- e,bu4,List.foldl_cons]
section
variable {X:Cx}{pins:List (Addr×Obj)}{σ:St}{H:Hp}{s:Shared}{l b:Addr}{xs ys zs:List V}
theorem a6.lset {its its':List Value}{n:Nat}{f:Array Value->Array Value}{t':Nat}(I:a6 X pins σ H s)(hH:H l=some (.lst xs))(e:s.heap.get? l=some { cls:=.type "list",data:=.seq its.toArray n })(hf:f its.toArray=its'.toArray)(hv:aI ys its')(hz:ys.length<=sizeLine) :
  a6 X pins σ (upd H l (.lst ys)) { s with heap:=s.heap.update l (Obj.mapSeq f),toks:=t' }:=by
 have q:=PySem.IsL.update e f
 rw[hf]at q
 refine I.write (x:=l) (e:=l) (by rw[hH];exact trivial) (.inl rfl) (λb' u hb hu=>(bw7 s.heap (Obj.mapSeq f) (Ne.symm hb)).trans hu) ⟨_,q⟩ ?_
 exact⟨hz,its',_,hv,q⟩
theorem a6.lnew {its:List Value}{t':Nat}(I:a6 X pins σ H s)(hv:aI ys its)(hz:ys.length<=sizeLine) :
  a6 X pins σ (upd H s.heap.objs.size (.lst ys)) { s with heap:=s.heap.push { cls:=.type "list",data:=.seq its.toArray },toks:=t' }:=
 I.laid (λ_ _ q=>bk6 _ q) (bk7 _) ⟨hz,its,0,hv,bm4 _ rfl⟩
theorem a6.fresh (I:a6 X pins σ H s):H s.heap.objs.size=none:=I.hok.fresh (bk7 _)
theorem a6.lstM (I:a6 X pins σ H s)(hH:H l=some (.lst xs)):xs.length<=sizeLine/\∃(its:List Value) (n:Nat),aI xs its/\xs.length=its.length/\s.heap.get? l=some { cls:=.type "list",data:=.seq its.toArray n }:=by
 obtain⟨z,its,n,r,e⟩:=I.hok l _ hH
 exact⟨z,its,n,r,r.length,e⟩
theorem G2 {n:Nat}(h:n<=sizeLine):Builtin.List.listTooLong n=false:=by
 unfold Builtin.List.listTooLong
 exact bl1 (by omega)
end
section
variable {X:Cx}
def G3:V->List V->Hp->VK->Prop:=λx vs H Q=>∃l xs y,x = .ref l/\vs = [y]/\H l=some (.lst xs)/\xs.length<sizeLine/\Q .non (upd H l (.lst (xs++[y])))
theorem lY:G0 X "list.append" G3:=by
 intro pins s σ H x vs v us Q I rx rv h
 obtain⟨l,xs,y,rfl,rfl,hH,hz,q⟩:=h
 cases rx
 obtain⟨u,rfl,ru⟩:=rv.one
 obtain⟨z,its,n,r,hl,e⟩:=I.lstM hH
 refine call_meets F.slot_list_append ⟨_,e,rfl⟩ F.entry_list_append (F.args_list_append_2 _ _) (PySem.list_append l its.toArray n u (by rw[bk9];omega)) ⟨e,?_⟩
 refine⟨.non,_,I.lset (its':=its++[u]) hH e (by simp) (r.append (.cons ru .nil)) ?_,rfl,q⟩
 rw[bm7,bq6]
 omega
def au6:V->List V->Hp->VK->Prop:=λx vs H Q=>∃l b xs zs,x = .ref l/\vs = [.ref b]/\H l=some (.lst xs)/\H b=some (.lst zs)/\xs.length+zs.length<=sizeLine/\Q .non (upd H l (.lst (xs++zs)))
theorem bk1:G0 X "list.extend" au6:=by
 intro pins s σ H x vs v us Q I rx rv h
 obtain⟨l,b,xs,zs,rfl,rfl,hH,hB,hz,q⟩:=h
 cases rx
 obtain⟨u,rfl,ru⟩:=rv.one
 cases ru
 obtain⟨z,its,n,r,hl,e⟩:=I.lstM hH
 obtain⟨z2,its2,n2,r2,hl2,e2⟩:=I.lstM hB
 have hsz:its.toArray.size+its2.toArray.size<=sizeLine:=by rw[bk9,bk9];omega
 have hlong:¬(!its.toArray.isEmpty&&Builtin.List.listTooLong (its.toArray.size+its2.toArray.size))=true:=by
  rw[G2 hsz,Bool.and_false]
  exact bm6
 refine call_meets F.slot_list_extend ⟨_,e,rfl⟩ F.entry_list_extend (F.args_list_extend_2 _ _)
  (AutoSeq1.list_extend_list_list_0 l its.toArray n b its2.toArray n2 hlong (by rw[bk9];omega) (by omega)) ⟨e,e2,?_⟩
 refine⟨.non,_,I.lset (its':=its++its2) hH e (by simp) (r.append r2) ?_,rfl,q⟩
 rw[bm7]
 omega
def G4:R2:=λx y H Q=>∃l b xs zs,x = .ref l/\y = .ref b/\H l=some (.lst xs)/\H b=some (.lst zs)/\xs.length+zs.length<=sizeLine/\∀p,H p=none->Q (.ref p) (upd H p (.lst (xs++zs)))
theorem au7:bS X (binaryOp .Add) G4:=by
 intro pins s σ H x y v u Q I rx ry h
 obtain⟨l,b,xs,zs,rfl,rfl,hH,hB,hz,q⟩:=h
 cases rx
 cases ry
 obtain⟨z,its,n,r,hl,e⟩:=I.lstM hH
 obtain⟨z2,its2,n2,r2,hl2,e2⟩:=I.lstM hB
 refine PySem.P.add_list e e2 ?_ (by rw[bk9,bk9];omega)
 have ea:its.toArray++its2.toArray=(its++its2).toArray:=by simp
 rw[ea]
 exact⟨.ref _,_,I.lnew (t':=s.toks) (r.append r2) (by rw[bm7];omega),rfl,q _ I.fresh⟩
def G5:R2:=λx y H Q=>∃l k xs,x = .ref l/\y = .int k/\H l=some (.lst xs)/\-(2^63)<=k/\k<2^63/\xs.length*k.toNat<=sizeLine/\
 ∀p,H p=none->Q (.ref p) (upd H p (.lst (List.replicate k.toNat xs).flatten))
theorem au8 {α:Type}(xs:List α)(k:Nat):(List.replicate k xs).flatten.length=k*xs.length:=by
 induction k with
 |zero=>simp
 |succ k ih=>rw[bu4,by5,bm7,ih,Nat.succ_mul,Nat.add_comm]
theorem au9:bS X (binaryOp .Mult) G5:=by
 intro pins s σ H x y v u Q I rx ry h
 obtain⟨l,k,xs,rfl,rfl,hH,h1,h2,hz,q⟩:=h
 cases rx
 obtain⟨t,rfl⟩:=ry
 obtain⟨z,its,n,r,hl,e⟩:=I.lstM hH
 have hlen:its.toArray.size*k.toNat<=sizeLine:=by rw[bk9,<- hl];exact hz
 have hcap:¬its.toArray.size*k.toNat>(2^63-1)/8:=by
  have:(sizeLine:Nat)<=(2^63-1)/8:=by decide
  omega
 have hfit:¬(!Builtin.List.listFitsIndex k)=true:=by
  rw[fitsIndex_both h1 h2]
  exact bm6
 have hlong:¬Builtin.List.listTooLong (its.toArray.size*k.toNat)=true:=by
  rw[G2 hlen]
  exact bm6
 have hnew:List.foldl (λx1 x2=>x1++x2) #[] (List.replicate (if its.toArray.isEmpty=true then 0 else k.toNat) its.toArray)=(List.replicate k.toNat its).flatten.toArray:=by
  have f0:∀m:Nat,List.foldl (λx1 x2=>x1++x2) #[] (List.replicate m its.toArray)=(List.replicate m its).flatten.toArray:=λm=>by
   have:=G1 its m []
   rw[List.nil_append]at this
   exact this
  rw[f0]
  cases its with
  |nil=>simp
  |cons a r'=>rw[if_neg (by simp)]
 refine wpAny_binaryOp_repeat_ref (T:="list") (U:="int") (by decide) ⟨_,e,rfl⟩ (λs'=>typeIs_int s' k t) noFill_list_mul F.fills_int_mul F.slot_int_rmul repeat_list F.slot_int_index.lookup
  (call_meets F.slot_int_rmul (typeIs_int s k t) F.entry_int_rmul (F.args_int_rmul_2 _ _) (int___rmul___int_list k t l its.toArray n)
   ⟨e,rfl,⟨_,e,rfl⟩,call_meets F.slot_list_mul ⟨_,e,rfl⟩ F.entry_list_mul (F.args_list_mul_2 _ _) (AutoListH.list___mul___list_int_3 l its.toArray n k t hfit hcap hlong) ⟨e,?_⟩⟩)
 rw[hnew]
 exact⟨.ref _,_,I.lnew (t':=s.toks) (r.rep k.toNat) (by rw[au8,Nat.mul_comm];exact hz),rfl,q _ I.fresh⟩
end
section
variable {κ:Type}[DecidableEq κ]
def eV (kvs:List (κ×V))(k:κ):Option V:=(kvs.find? λkv=>decide (kv.1=k)).map (·.2)
def eJ (kvs:List (κ×V))(k:κ)(v:V):List (κ×V):=
 if (kvs.any λkv=>decide (kv.1=k))=true then kvs.map (λkv=>if kv.1=k then (kv.1,v) else kv) else kvs++[(k,v)]
theorem v7 {p:κ×V}{r:List (κ×V)}{k:κ}(e:p.1=k):eV (p::r) k=some p.2:=by simp[eV,bv0,e]
theorem v8 {p:κ×V}{r:List (κ×V)}{k:κ}(e:¬p.1=k):eV (p::r) k=eV r k:=by simp[eV,bv0,e]
theorem G6 (k:κ):∀kvs:List (κ×V),(kvs.any λkv=>decide (kv.1=k))=(eV kvs k).isSome
 |[]=>rfl
 |p::r=>by
  rw[bA0]
  by_cases e:p.1=k
  ·simp only[v7 e,bl6 e,Bool.true_or,Option.isSome_some]
  ·rw[v8 e,bl1 e,Bool.false_or];exact G6 k r
theorem G7 (kvs:List (κ×V))(k:κ)(v:V):(eJ kvs k v).length<=kvs.length+1:=by
 unfold eJ
 split
 ·rw[bl5];omega
 ·rw[bm7,bo3,List.length_nil];omega
theorem iB.isSome_eq {o:Option V}{u:Option Value}(r:iB o u):o.isSome=u.isSome:=by
 cases o with
 |none=>cases u with
  |none=>rfl
  |some _=>exact (show False from r).elim
 |some _=>cases u with
  |none=>exact (show False from r).elim
  |some _=>rfl
theorem KV.val {kvs:List (κ×V)}{vs:List (κ×Value)}(r:KV kvs vs)(k:κ):iB (eV kvs k) (valueAt vs k):=by
 unfold KV at r
 induction r with
 |nil=>exact True.intro
 |@cons p q ps qs h t ih=>
  obtain⟨h1,h2⟩:=h
  by_cases e:p.1=k
  ·have e':q.1=k:=h1.symm.trans e
   have b:valueAt (q::qs) k=some q.2:=by simp[valueAt,bv0,e']
   rw[v7 e,b];exact h2
  ·have e':¬q.1=k:=λz=>e (h1.trans z)
   have b:valueAt (q::qs) k=valueAt qs k:=by simp[valueAt,bv0,e']
   rw[v8 e,b];exact ih
theorem KV.any {kvs:List (κ×V)}{vs:List (κ×Value)}(r:KV kvs vs)(k:κ):(kvs.any λkv=>decide (kv.1=k))=vs.any λkv=>decide (kv.1=k):=by
 unfold KV at r
 induction r with
 |nil=>rfl
 |cons h t ih=>rw[bA0,bA0,ih,h.1]
theorem KV.repl {kvs:List (κ×V)}{vs:List (κ×Value)}(r:KV kvs vs)(k:κ){y:V}{u:Value}(ry:aP y u) :
  KV (kvs.map λkv=>if kv.1=k then (kv.1,y) else kv) (vs.map λkv=>if kv.1=k then (kv.1,u) else kv):=by
 unfold KV at r ⊢
 induction r with
 |nil=>exact .nil
 |@cons p q ps qs h t ih=>
  rw[bq5,bq5]
  refine .cons ?_ ih
  obtain⟨h1,h2⟩:=h
  by_cases e:p.1=k
  ·rw[if_pos e,if_pos (h1.symm.trans e)];exact⟨h1,ry⟩
  ·rw[if_neg e,if_neg (λz=>e (h1.trans z))];exact⟨h1,h2⟩
theorem KV.put {kvs:List (κ×V)}{vs:List (κ×Value)}(r:KV kvs vs)(k:κ){y:V}{u:Value}(ry:aP y u):KV (eJ kvs k y) (stored vs k u):=by
 unfold eJ stored
 rw[r.any k]
 by_cases e:(vs.any λkv=>decide (kv.1=k))=true
 ·rw[if_pos e,if_pos e];exact r.repl k ry
 ·rw[if_neg e,if_neg e];exact Paired.snoc r ⟨rfl,ry⟩
theorem KV.length {kvs:List (κ×V)}{vs:List (κ×Value)}(r:KV kvs vs):kvs.length=vs.length:=Paired.length r
end
theorem o8 {P:Program}{w:World}{k:aG}{u:Value}(r:aP (kV k) u):(fE P w).is k u=true:=by
 cases k with
 |inl i=>obtain⟨t,e⟩:=(show ∃t,u=Value.int i t from r);subst e;exact am1 P w i t
 |inr x=>obtain⟨t,e⟩:=(show ∃t,u=Value.str x t from r);subst e;exact am2 P w x t
theorem G8 {P:Program}{w:World}:∀{ks:List aG}{us:List Value},aI (ks.map kV) us->ItemsAre (fE P w) ks us
 |[],_,r=>by rw[List.map_nil]at r;cases r;exact .nil
 |k::ks,_,r=>by
  rw[bq5]at r
  cases r with
  |cons h t=>exact .cons (o8 h) (G8 t)
abbrev KT (H:Hp):List (List aG×V)->List (List aG×Addr×Value)->Prop:=Paired λp q=>p.1=q.1/\H q.2.1=some (.tup (p.1.map kV))/\aP p.2 q.2.2
theorem KT.val {H:Hp}{kvs:List (List aG×V)}{xs:List (List aG×Addr×Value)}(r:KT H kvs xs)(k:List aG):iB (eV kvs k) ((atKey xs k).map (·.2)):=by
 induction r with
 |nil=>exact True.intro
 |@cons p q ps qs h t ih=>
  obtain⟨h1,_,h2⟩:=h
  by_cases e:p.1=k
  ·have e':q.1=k:=h1.symm.trans e
   have b:atKey (q::qs) k=some q.2:=by simp[atKey,bv0,e']
   rw[v7 e,b];exact h2
  ·have e':¬q.1=k:=λz=>e (h1.trans z)
   have b:atKey (q::qs) k=atKey qs k:=by simp[atKey,bv0,e']
   rw[v8 e,b];exact ih
theorem KT.repl {H:Hp}{kvs:List (List aG×V)}{xs:List (List aG×Addr×Value)}(r:KT H kvs xs)(k:List aG){y:V}{u:Value}(ry:aP y u) :
  KT H (kvs.map λkv=>if kv.1=k then (kv.1,y) else kv) (xs.map (putAt k u)):=by
 induction r with
 |nil=>exact .nil
 |@cons p q ps qs h t ih=>
  rw[bq5,bq5]
  refine .cons ?_ ih
  obtain⟨h1,h2,h3⟩:=h
  unfold putAt
  by_cases e:p.1=k
  ·rw[if_pos e,if_pos (h1.symm.trans e)];exact⟨h1,h2,ry⟩
  ·rw[if_neg e,if_neg (λz=>e (h1.trans z))];exact⟨h1,h2,h3⟩
theorem KT.put {H:Hp}{kvs:List (List aG×V)}{xs:List (List aG×Addr×Value)}(r:KT H kvs xs)(k:List aG){b:Addr}{y:V}{u:Value}(hb:H b=some (.tup (k.map kV)))(ry:aP y u) :
  KT H (eJ kvs k y) (storedH xs k b u):=by
 have e:(kvs.any λkv=>decide (kv.1=k))=(atKey xs k).isSome:=by
  rw[G6,(r.val k).isSome_eq,Option.isSome_map]
 unfold eJ storedH
 rw[e]
 by_cases q:(atKey xs k).isSome=true
 ·rw[if_pos q,if_pos q];exact r.repl k ry
 ·rw[if_neg q,if_neg q];exact Paired.snoc r ⟨rfl,hb,ry⟩
theorem KT.keeps {H H':Hp}{kvs:List (List aG×V)}{xs:List (List aG×Addr×Value)}(r:KT H kvs xs)(ht:∀b ys,H b=some (.tup ys)->H' b=some (.tup ys)):KT H' kvs xs:=
 Paired.mapP r λ_ _ z=>⟨z.1,ht _ _ z.2.1,z.2.2⟩
section
variable {P:Program}{w:World}{H:Hp}{h:Heap}{a:Addr}
theorem v9 {u:HO}(ok:bO P w H h)(e:Rd H a u):bM P w H h a u:=e.ok ok
theorem lZ {kvs:List (aG×V)}(ok:bO P w H h)(e:Rd H a (.dK kvs)):kvs.length<=sizeLine/\(a==sysModules)=false/\∃vs,KV kvs vs/\h.DictOf (fE P w) a vs:=
 show bM P w H h a (.dK kvs) from v9 ok e
theorem av0 {kvs:List (aG×V)}(ok:bO P w H h)(e:H a=some (.dK kvs)):kvs.length<=sizeLine/\(a==sysModules)=false/\∃vs,KV kvs vs/\h.DictOf (fE P w) a vs:=lZ ok (.inl e)
theorem m3 {ks:List aG}(ok:bO P w H h)(e:H a=some (.tup (ks.map kV))):(tupleKind (fE P w)).is h ks a:=by
 obtain⟨_,its,r,⟨o,h1,h2,n,h3⟩,_⟩:=(show bM P w H h a (.tup (ks.map kV)) from ok a _ e)
 exact⟨o,its.toArray,n,h1,h2,h3,by simpa using G8 r⟩
theorem o9 {kvs:List (List aG×V)}(ok:bO P w H h)(e:Rd H a (.dT kvs)):kvs.length<=sizeLine/\(a==sysModules)=false/\
  ∃xs,KT H kvs xs/\h.DictOfH (tupleKind (fE P w)) a xs:=by
 obtain⟨z,y,xs,r,o,es,ep,h1,h2,h3,h4,h5⟩:=(show bM P w H h a (.dT kvs) from v9 ok e)
 refine⟨z,y,xs,r,o,es,ep,h1,h2,h3,h4,λx hx=>?_,h5⟩
 have all:∀{l:List (List aG×V)}{m:List (List aG×Addr×Value)},KT H l m->∀x∈m,(tupleKind (fE P w)).is h x.1 x.2.1:=by
  intro l m q
  induction q with
  |nil=>intro x hx;exact nomatch hx
  |@cons p q ps qs hq t ih=>
   intro x hx
   rcases bl8.mp hx with e|hx
   ·subst e
    exact m3 ok (by rw[<- hq.1];exact hq.2.1)
   ·exact ih x hx
 exact all r x hx
theorem G9 {kvs:List (List aG×V)}(ok:bO P w H h)(e:H a=some (.dT kvs)):kvs.length<=sizeLine/\(a==sysModules)=false/\
  ∃xs,KT H kvs xs/\h.DictOfH (tupleKind (fE P w)) a xs:=o9 ok (.inl e)
end
def fG (H:Hp)(a:Addr)(y:V)(r:Option V):Prop:=
 (∃kvs k,Rd H a (.dK kvs)/\y=kV k/\r=eV kvs k)∨∃kvs k b,Rd H a (.dT kvs)/\y = .ref b/\H b=some (.tup (k.map kV))/\r=eV kvs k
def jP (H:Hp)(a:Addr)(y v:V)(H':Hp):Prop:=
 (∃kvs k,H a=some (.dK kvs)/\y=kV k/\kvs.length<sizeLine/\H'=upd H a (.dK (eJ kvs k v))) ∨
 ∃kvs k b,H a=some (.dT kvs)/\y = .ref b/\H b=some (.tup (k.map kV))/\kvs.length<sizeLine/\H'=upd H a (.dT (eJ kvs k v))
theorem fG.k {H:Hp}{a:Addr}{kvs:List (aG×V)}{k:aG}(e:H a=some (.dK kvs)):fG H a (kV k) (eV kvs k):=.inl ⟨kvs,k,.inl e,rfl,rfl⟩
theorem fG.t {H:Hp}{a b:Addr}{kvs:List (List aG×V)}{k:List aG}(e:H a=some (.dT kvs))(eb:H b=some (.tup (k.map kV))):fG H a (.ref b) (eV kvs k):=.inr ⟨kvs,k,b,.inl e,rfl,eb,rfl⟩
theorem jP.k {H:Hp}{a:Addr}{kvs:List (aG×V)}{k:aG}{v:V}(e:H a=some (.dK kvs))(hl:kvs.length<sizeLine):jP H a (kV k) v (upd H a (.dK (eJ kvs k v))):=.inl ⟨kvs,k,e,rfl,hl,rfl⟩
theorem jP.t {H:Hp}{a b:Addr}{kvs:List (List aG×V)}{k:List aG}{v:V}(e:H a=some (.dT kvs))(eb:H b=some (.tup (k.map kV)))(hl:kvs.length<sizeLine) :
  jP H a (.ref b) v (upd H a (.dT (eJ kvs k v))):=.inr ⟨kvs,k,b,e,rfl,eb,hl,rfl⟩
section
variable {X:Cx}{pins:List (Addr×Obj)}{σ:St}{H:Hp}{s:Shared}{a:Addr}{y v:V}{u r:Value}{o:Option V}{A:Around}{E:Value→Shared→Prop}
theorem a6.big (I:a6 X pins σ H s):sysModules<s.heap.objs.size:=by
 have h:mainGlobals<s.heap.objs.size:=(I.mod.glob.keeps I.bk).lt
 exact Nat.lt_trans (by decide) h
theorem av1 {Q:Value->Shared->Prop}(hu:A.units+1<cLine)(I:a6 X pins σ H s)(g:fG H a y (some v))(ry:aP y u)(h:∀w' s',a6 X pins σ H s'->aP v w'->Q w' s') :
  wpAny (model X.prog X.w) A (getItem (.ref a) u) Q E s:=by
 rcases g with⟨kvs,k,e,ey,l⟩|⟨kvs,k,b,e,ey,eb,l⟩
 ·subst ey
  obtain⟨z,hd,vs,rel,dd⟩:=lZ I.hok e
  obtain⟨w',hw,rw'⟩:=iB.some_of (v:=v) (o:=valueAt vs k) (by rw[l];exact rel.val k)
  exact wpAny_getItem_of (o8 ry) dd.mapOf hw (h w' _ (I.tok _) rw')
 ·subst ey
  cases (show u=Value.ref b from ry)
  obtain⟨z,hd,xs,rel,dd⟩:=o9 I.hok e
  obtain⟨w',hw,rw'⟩:=iB.some_of (v:=v) (o:=(atKey xs k).map (·.2)) (by rw[l];exact rel.val k)
  obtain⟨p,hp,hp2⟩:=Option.map_eq_some_iff.mp hw
  refine wpAny_getItem_heap (tupleKind_room_in1 hu) (m3 I.hok eb) dd hp ?_
  rw[hp2]
  exact h w' _ (I.tok _) rw'
theorem av2 {Q:Value->Shared->Prop}(hu:A.units+1<cLine)(I:a6 X pins σ H s)(g:fG H a y o)(ry:aP y u)(h:∀s',a6 X pins σ H s'->Q (.bool o.isSome) s') :
  wpAny (model X.prog X.w) A (compareOp .In u (.ref a)) Q E s:=by
 rcases g with⟨kvs,k,e,ey,l⟩|⟨kvs,k,b,e,ey,eb,l⟩
 ·subst ey
  obtain⟨z,hd,vs,rel,dd⟩:=lZ I.hok e
  refine wpAny_in_of (o8 ry) hd dd.mapOf ?_
  rw[<- (rel.val k).isSome_eq,<- l]
  exact h _ (I.tok _)
 ·subst ey
  cases (show u=Value.ref b from ry)
  obtain⟨z,hd,xs,rel,dd⟩:=o9 I.hok e
  refine wpAny_in_heap (tupleKind_room_in1 hu) (m3 I.hok eb) hd dd ?_
  have q:=(rel.val k).isSome_eq
  rw[Option.isSome_map]at q
  rw[<- q,<- l]
  exact h _ (I.tok _)
theorem av3 {Q:Value->Shared->Prop}(hu:A.units+1<cLine)(I:a6 X pins σ H s)(g:fG H a y o)(ry:aP y u)(h:∀s',a6 X pins σ H s'->Q (.bool (!o.isSome)) s') :
  wpAny (model X.prog X.w) A (compareOp .NotIn u (.ref a)) Q E s:=by
 rcases g with⟨kvs,k,e,ey,l⟩|⟨kvs,k,b,e,ey,eb,l⟩
 ·subst ey
  obtain⟨z,hd,vs,rel,dd⟩:=lZ I.hok e
  refine wpAny_notIn_of (o8 ry) hd dd.mapOf ?_
  rw[<- (rel.val k).isSome_eq,<- l]
  exact h _ (I.tok _)
 ·subst ey
  cases (show u=Value.ref b from ry)
  obtain⟨z,hd,xs,rel,dd⟩:=o9 I.hok e
  refine wpAny_notIn_heap (tupleKind_room_in1 hu) (m3 I.hok eb) hd dd ?_
  have q:=(rel.val k).isSome_eq
  rw[Option.isSome_map]at q
  rw[<- q,<- l]
  exact h _ (I.tok _)
theorem vA {h':Heap}{t':Nat}{ob:HO}(I:a6 X pins σ H s)(mu:nP (H a))(hs:Heap.SameBut a s.heap h')(he:∃q,h'.get? a=some q)(new:bM X.prog X.w (upd H a ob) h' a ob) :
  a6 X pins σ (upd H a ob) { s with heap:=h',toks:=t' }:=
 I.write (x:=a) (e:=a) mu (.inl rfl) (λb q hb z=>(hs.2 b hb).trans z) he new
theorem av4 {P:Program}{w:World}{H':Hp}{h':Heap}{kvs:List (aG×V)}{vs:List (aG×Value)}(z:kvs.length<=sizeLine)(hd:(a==sysModules)=false)(rel:KV kvs vs)(dd:h'.DictOf (fE P w) a vs) :
  bM P w H' h' a (.dK kvs):=⟨z,hd,vs,rel,dd⟩
theorem av5 {H':Hp}{Q:Unit->Shared->Prop}(hu:A.units+1<cLine)(I:a6 X pins σ H s)(g:jP H a y v H')(ry:aP y u)(rv:aP v r)(h:∀s',a6 X pins σ H' s'->Q () s') :
  wpAny (model X.prog X.w) A (setItem (.ref a) u r) Q E s:=by
 rcases g with⟨kvs,k,e,ey,l,eH⟩|⟨kvs,k,b,e,ey,eb,l,eH⟩
 ·subst ey eH
  obtain⟨z,hd,vs,rel,dd⟩:=av0 I.hok e
  have hz:vs.length<=sizeLine:=by rw[<- rel.length];exact z
  have hl:(eJ kvs k v).length<=sizeLine:=by have:=G7 kvs k v;omega
  refine wpAny_setItem_pairs (hsz:=hz) (o8 ry) dd λh' dd' hs=>h _ ?_
  have he:∃q,h'.get? a=some q:=let ⟨q,_,_,hq,_⟩:=dd';⟨q,hq⟩
  exact vA I (by rw[e];exact True.intro) hs he (av4 hl hd (rel.put k rv) dd')
 ·subst ey eH
  cases (show u=Value.ref b from ry)
  obtain⟨z,hd,xs,rel,dd⟩:=G9 I.hok e
  have hz:xs.length<=sizeLine:=by rw[<- Paired.length rel];exact z
  have hl:(eJ kvs k v).length<=sizeLine:=by have:=G7 kvs k v;omega
  refine wpAny_setItem_heap (hsz:=hz) (tupleKind_room_in1 hu) (m3 I.hok eb) dd λh' dd' hs=>h _ ?_
  obtain⟨q,es,ep,hq,h2,h3,h4,_,h5⟩:=dd'
  refine vA I (by rw[e];exact True.intro) hs ⟨q,hq⟩ ⟨hl,hd,_,(rel.put k eb rv).keeps λc ys ec=>?_,q,es,ep,hq,h2,h3,h4,h5⟩
  rw[aC (zM ec e (λz=>nomatch z))]
  exact ec
end
section
variable {X:Cx}{pins:List (Addr×Obj)}{σ:St}{H:Hp}{s:Shared}{a:Addr}{kvs:List (aG×V)}{k:aG}{u:Value}{A:Around}{E:Value→Shared→Prop}
theorem av6 {Q:Value->Shared->Prop}(I:a6 X pins σ H s)(e:Rd H a (.dK kvs))(h:∀t s',a6 X pins σ H s'->Q (.int kvs.length t) s'):wpAny (model X.prog X.w) A (call (.builtin "len") [.ref a]) Q E s:=by
 obtain⟨z,hd,vs,rel,dd⟩:=lZ I.hok e
 refine call_len_dict hd dd (by rw[<- rel.length];rw[sizeLine_eq]at z;omega) ?_
 rw[<- rel.length]
 exact h _ _ (I.tok _)
end
def vB (i:Expr):Prop:=∀ov iv,subscripted i false ov iv=operate [ov,iv] (getItem ov iv)
theorem av7 {prog:Program}{w:World}{A:Around}{E:Value->Shared->Prop}{s:Shared}{env:Env}{value slice:Expr}{pos:Pos}{T id:String}{Q:Value->Shared->Prop}(hl:typeLookup (.type T) "__getitem__" = pure (some (.builtin id)))(hs:vB slice)(h:wpAny (model prog w) A (eval value env) (λo s₁=>wpAny (model prog w) A (eval slice env) (λi s₂=>s₂.TypeIs o T/\wpAny (model prog w) A (getItem o i) Q E s₂) E s₁) E s) :
  wpAny (model prog w) A (eval (.Subscript value slice pos) env) Q E s:=by
 refine Subscript_ (bs2 h (λo s₁ h₁=>bs2 h₁ (λi s₂ h₂=>?_) λ_ _ x=>x) λ_ _ x=>x)
 obtain⟨hT,h₂⟩:=h₂
 unfold subscriptTail
 refine bk3 ?_
 rw[getitemInPython_of_ne hT.not_modules]
 refine bk3 (wpAny_specialOf hT hl ?_)
 have fin:wpAny (model prog w) A (subscripted slice false o i) (λr s₃=>wpAny (model prog w) A (letTemporaryGo value o r >>= λ_=>pure r) Q E s₃) E s₂:=by
  rw[hs o i]
  exact wpAny_operating (bs2 h₂ (λr s₃ h₃=>bk3 (wpAny_letTemporaryGo (bk8 h₃))) λ_ _ x=>x)
 first
  |exact bk8 (bk3 fin)
  |exact bk3 (bk8 (bk3 fin))
  |exact bk3 fin
theorem av8 {X:Cx}{pins:List (Addr×Obj)}{σ:St}{H:Hp}{s:Shared}{a:Addr}{y:V}{o:Option V}(I:a6 X pins σ H s)(g:fG H a y o):s.TypeIs (.ref a) "dict":=by
 rcases g with⟨kvs,k,e,_,_⟩|⟨kvs,k,b,e,_,_,_⟩
 ·obtain⟨_,_,vs,_,dd⟩:=lZ I.hok e
  exact dd.typeIs
 ·obtain⟨_,_,xs,_,dd⟩:=o9 I.hok e
  exact dd.typeIs
def J0 (td ty:TE):TE:=λσ H Q=>td σ H λx H1=>ty σ H1 λy H2=>∃a v,x = .ref a/\fG H2 a y (some v)/\Q v H2
def J1 (ty td:TE):TE:=λσ H Q=>ty σ H λy H1=>td σ H1 λx H2=>∃a o,x = .ref a/\fG H2 a y o/\Q (.bl o.isSome) H2
def J2 (ty td:TE):TE:=λσ H Q=>ty σ H λy H1=>td σ H1 λx H2=>∃a o,x = .ref a/\fG H2 a y o/\Q (.bl (!o.isSome)) H2
def vC (td ty tv:TE):TS:=λD σ H=>tv σ H λv H1=>td σ H1 λx H2=>ty σ H2 λy H3=>∃a H4,x = .ref a/\jP H3 a y v H4/\D.nx σ H4
section
variable {X:Cx}{o i e value:Expr}{pos pos' tpos:Pos}{td ty tv:TE}
theorem av9 (hu:X.A.units+1<cLine)(ho:PE X o td)(hi:PE X i ty)(hs:vB i):PE X (.Subscript o i pos) (J0 td ty):=by
 intro pins s σ H Q I h
 refine av7 PySem.F.slot_dict_getitem.lookup hs (aK (ho pins s σ H _ I h) λu s1 ⟨x,H1,I1,rx,q1⟩=>aK (hi pins s1 σ H1 _ I1 q1) λiv s2 ⟨y,H2,I2,ry,a,v,ex,g,q2⟩=>?_)
 subst ex
 obtain rfl:u=Value.ref a:=rx
 exact⟨av8 I2 g,av1 hu I2 g ry λw' s3 I3 rw'=>⟨v,H2,I3,rw',q2⟩⟩
theorem aw0 (hu:X.A.units+1<cLine)(hi:PE X i ty)(ho:PE X o td):PC X .In i o (J1 ty td):=by
 intro pins s σ H Q I h
 refine aK (hi pins s σ H _ I h) λiv s1 ⟨y,H1,I1,ry,q1⟩=>aK (ho pins s1 σ H1 _ I1 q1) λu s2 ⟨x,H2,I2,rx,a,ov,ex,g,q2⟩=>?_
 subst ex
 obtain rfl:u=Value.ref a:=rx
 exact av2 hu I2 g ry λs3 I3=>⟨.bl ov.isSome,H2,I3,rfl,q2⟩
theorem aw1 (hu:X.A.units+1<cLine)(hi:PE X i ty)(ho:PE X o td):PC X .NotIn i o (J2 ty td):=by
 intro pins s σ H Q I h
 refine aK (hi pins s σ H _ I h) λiv s1 ⟨y,H1,I1,ry,q1⟩=>aK (ho pins s1 σ H1 _ I1 q1) λu s2 ⟨x,H2,I2,rx,a,ov,ex,g,q2⟩=>?_
 subst ex
 obtain rfl:u=Value.ref a:=rx
 exact av3 hu I2 g ry λs3 I3=>⟨.bl (!ov.isSome),H2,I3,rfl,q2⟩
theorem J3 (hu:X.A.units+1<cLine)(ho:PE X o td)(hi:PE X i ty)(hv:PE X value tv)(hs:swapsWith value (some (.Subscript o i pos')) pos.line X.env=pure false) :
  PS X (.Assign [.Subscript o i pos'] value pos) (vC td ty tv):=by
 intro pins s σ H D I h
 refine wpAny_Assign_Subscript (aK (hv pins s σ H _ I h) λr s1 ⟨v,H1,I1,rv,q1⟩=>aK (ho pins s1 σ H1 _ I1 q1) λu s2 ⟨x,H2,I2,rx,q2⟩=>aK (hi pins s2 σ H2 _ I2 q2) λiv s3 ⟨y,H3,I3,ry,a,H4,ex,g,q3⟩=>?_) hs
 subst ex
 obtain rfl:u=Value.ref a:=rx
 exact av5 hu I3 g ry rv λs4 I4=>⟨σ,H4,I4,q3⟩
end
theorem aw2 {P:Program}{w:World}{H:Hp}(h:Heap)(hb:sysModules<h.objs.size):bM P w H (h.push { cls:=.type "dict",data:=.dict #[] }) h.objs.size (.dK []):=
 ⟨bo4 _,beq_eq_false_iff_ne.mpr (Ne.symm (bo2 hb)),[],.nil,Heap.DictOf.new h⟩
theorem J4 {P:Program}{w:World}{H:Hp}(h:Heap)(hb:sysModules<h.objs.size):bM P w H (h.push { cls:=.type "dict",data:=.dict #[] }) h.objs.size (.dT []):=
 ⟨bo4 _,beq_eq_false_iff_ne.mpr (Ne.symm (bo2 hb)),[],.nil,_,#[],0,bm4 _ rfl,⟨rfl,rfl,rfl⟩,rfl,rfl,List.nodup_nil⟩
def J5:TE:=λ_ H Q=>∀p,H p=none->Q (.ref p) (upd H p (.dK []))
def J6:TE:=λ_ H Q=>∀p,H p=none->Q (.ref p) (upd H p (.dT []))
section
variable {X:Cx}{pos:Pos}
theorem aw3:PE X (.Dict [] [] pos) J5:=λpins s σ H Q I h=>
 wpAny_Dict_empty ⟨.ref s.heap.objs.size,_,I.laid (a:=s.heap.objs.size) (o:=.dK []) (t':=s.toks) (λ_ _ q=>bk6 _ q) (bk7 _) (aw2 s.heap I.big),rfl,h _ (I.hok.fresh (bk7 _))⟩
theorem aw4:PE X (.Dict [] [] pos) J6:=λpins s σ H Q I h=>
 wpAny_Dict_empty ⟨.ref s.heap.objs.size,_,I.laid (a:=s.heap.objs.size) (o:=.dT []) (t':=s.toks) (λ_ _ q=>bk6 _ q) (bk7 _) (J4 s.heap I.big),rfl,h _ (I.hok.fresh (bk7 _))⟩
end
def vD:List (TE×TE)->St->Hp->(List (V×V)->Hp->Prop)->Prop
 |[],_,H,Q=>Q [] H
 |(tk,tv)::r,σ,H,Q=>tk σ H λx H1=>tv σ H1 λy H2=>vD r σ H2 λps H3=>Q ((x,y)::ps) H3
abbrev VV:List (V×V)->List (Value×Value)->Prop:=Paired λp q=>aP p.1 q.1/\aP p.2 q.2
def vE (X:Cx)(pos:Pos)(keys:List (Option Expr))(values:List Expr)(trs:List (TE×TE)):Prop:=
 ∀(pins:List (Addr×Obj)) (s:Shared) (σ:St) (H:Hp) (Q:List (V×V)->Hp->Prop),a6 X pins σ H s->vD trs σ H Q->
  wpAny (model X.prog X.w) X.A (evalPairs (pairTrees keys values X.env pos)) (λvs s'=>∃ps H',a6 X pins σ H' s'/\VV ps vs/\Q ps H') X.xe s
theorem aw5 {X:Cx}{pos:Pos}:vE X pos [] [] []:=λpins s σ H Q I h=>pairTrees_nil_walk ⟨[],H,I,.nil,h⟩
theorem aw6 {X:Cx}{pos:Pos}{k v:Expr}{ks:List (Option Expr)}{vs:List Expr}{tk tv:TE}{trs:List (TE×TE)}(hk:PE X k tk)(hv:PE X v tv)(hr:vE X pos ks vs trs) :
  vE X pos (some k::ks) (v::vs) ((tk,tv)::trs):=λpins s σ H Q I h=>
 pairTrees_cons_walk (aK (hk pins s σ H _ I h) λu s1 ⟨x,H1,I1,rx,q1⟩=>aK (hv pins s1 σ H1 _ I1 q1) λw2 s2 ⟨y,H2,I2,ry,q2⟩=>
  aK (hr pins s2 σ H2 _ I2 q2) λws s3 ⟨ps,H3,I3,rel,q3⟩=>⟨(x,y)::ps,H3,I3,.cons ⟨rx,ry⟩ rel,q3⟩)
structure M2 (X:Cx)(o:Expr)(m:Str)(apos:Pos)(e f:Expr)(cpos:Pos):Prop where
 base:attributeBase o m X.env (eval o X.env)=eval o X.env
 few:((backTo cpos (starEach [e,f] X.env)).all (λx=>!x.1)&&(backToKw cpos (keywordEach [] X.env)).all (λx=>x.1.isSome)
 &&decide (([e,f]:List Expr).length+([]:List Keyword).length+(if ([]:List Keyword).isEmpty then 0 else 1)<30))=true
 line:(apos.endLine==cpos.line)=true
 trees:backTo cpos (starEach [e,f] X.env) = [(false,eval e X.env),(false,eval f X.env)]
end L2
namespace Att
open PySem PySem.W PySem.Calls PyProof.Rows
theorem aw7 {P:Params}{h:Heap}:∀(ns:af) (vs:List Value),WellAll P h vs (ns.map WData.int)->IntsAre vs ns:=by
 intro ns
 induction ns with
 |nil=>
  intro vs w
  rw[List.map_nil]at w
  cases w
  exact .nil
 |cons n ns ih=>
  intro vs w
  rw[bq5]at w
  cases w with
  |cons a b=>
   cases a
   exact .cons _ _ (ih _ b)
theorem J7 {l:OpenLaw}{n:Nat}(hn:l.most=some n){P:Params}{h:Heap}{args:List WData}{vals:List Value}(hpre:l.row.toRowW.claim.pre args=true)(hwl:WellAll P h vals args) :
  ∃a vs ns,vals = [Value.ref a]/\args = [WData.list (ns.map WData.int)]/\h.get? a=some { cls:=.type "list",data:=.seq vs.toArray }/\IntsAre vs ns/\ns.length<=n:=by
 have hsh:WShape.hasAll [] args [.list .int]=true:=(pre_splitW hpre).1
 have hc:l.pre.holds [] { args:=args }=true:=(pre_splitW hpre).2
 obtain⟨d,r,rfl,h1,h2⟩:=hasAllW_cons hsh
 obtain rfl:=hasAllW_nil h2
 obtain⟨xs,rfl,h3⟩:=hasW_list h1
 obtain⟨ns,rfl⟩:=items_int h3
 have hlen:ns.length<=n:=by
  unfold OpenLaw.pre at hc
  have h4:(WTm.not (.lt (.lit (.int (n:Int))) (.len (.arg 0)))).holds [] { args:=[.list (ns.map .int)] }=true:=by
   have h4:=(holds_andW hc).1
   rw[hn]at h4
   exact h4
  have h5:=condW_of h4 (w_not (w_lt w_lit (w_len_list (w_arg rfl))))
  rw[bl5]at h5
  refine Nat.le_of_not_lt λq=>?_
  have q':(n:Int)<((ns.length:Nat):Int):=by omega
  first
   |(rw[bl6 q']at h5;exact absurd h5 (by decide))
   |(simp at h5;omega)
 cases hwl with
 |cons w1 w2=>
  cases w2
  cases w1 with
  |list ho hall=>exact⟨_,_,ns,rfl,rfl,ho,aw7 ns _ hall,hlen⟩
theorem J8 (l:OpenLaw)(args:List WData):l.row.toRowW.claim.post args (.bool true) args=true:=
 postW_of (r:=l.row.toRowW) (X:=(true==true))
  (show WShape.has [] (.bool true) .bool=true by first|rfl|decide|simp[WShape.has,WShape.arms,WShape.armsAll])
  (show (WTm.eq .res (.lit (.bool true))).value [] { args:=args,res:=some (.bool true),after:=args }=some (.bool (true==true)) from w_eq_bool (w_res rfl) w_lit) rfl
theorem bk2 {l:OpenLaw}{n:Nat}{q:Program}{loose:List Str}{XP:(Str->Option Value)->Heap->Prop}{YP:World->Heap->Prop}{d:DefRec}{x:Str}(hn:l.most=some n)(hdf:d.params.defaults = [])(hbind:∀pm cd doc v:Value,bindArgs (docDef d.name d.params d.body d.scope pm cd doc) ⟨[v],[]⟩=pure [(x,v)])(hx:d.scope.names.lookup x=some .local∨d.scope.names.lookup x=some .cell)(hk:d.scope.kind = .function)(hco:d.scope.isCoroutine=false)(hgen:d.scope.isGenerator=false)(body:∀(w:World) (s₀ s₁ s:Shared) (mg mb:Str->Option Value) (fa:Addr) (o:Obj) (pm cd doc:Value) (a:Addr) (vs:List Value) (ns:af),
   Ground q loose [] XP w s₀ mg mb s₁.heap->YP w s₁.heap->
   s₁.heap.get? fa=some o->o.data = .func (docDef d.name d.params d.body d.scope pm cd doc)->s₁.heap.CodeRec cd d.name->mg d.name=some (.ref fa)->
   s₁.heap.get? a=some { cls:=.type "list",data:=.seq vs.toArray }->IntsAre vs ns->ns.length<=n->
   s.gens = #[]->s.os=s₁.os->
   Fr s₁.heap s₁.heap.objs.size s.heap (bindL (envOfC d.name d.scope s₁.heap.objs.size fa cd).kindOf [(x,.ref a)] λ_=>none)->
   Cl s₁.heap.objs.size (cellsFrom (s₁.heap.objs.size+1) d.scope.names []) s.heap (bindC (envOfC d.name d.scope s₁.heap.objs.size fa cd).kindOf [(x,.ref a)] λ_=>none)->
   wpAny (model l.prog w) (callerA.deeper (envOfC d.name d.scope s₁.heap.objs.size fa cd)) (execs d.body (envOfC d.name d.scope s₁.heap.objs.size fa cd))
    (λf s'=>f = .ret (.bool true)/\OldK s₁.heap s'.heap/\s'.os=s₁.os/\AllBare s'.gens) (λ_ _=>False) s) :
  WalkO q loose XP YP l.row.toRowW d [] (λf vs=>PySem.call f vs):=by
 intro w s₀ s₁ mg mb G Y fa o pm cd doc dV kV ho hd hcd hD hmg hg args vals as hpre hlay hrd hwl hlo
 obtain rfl:dV = .none:=Dflts.none hD hdf
 obtain rfl:kV = .none:=Dflts.noKw hD
 obtain⟨a,vs,ns,rfl,rfl,hobj,hints,hlen⟩:=J7 hn hpre hwl
 refine enter_call ?_
 refine call_cells_ret (o:=o) (by rw[depth_caller];decide) ho (fd_plain hd) G.T.nolimit hcd (hbind pm cd doc (.ref a)) (λy hy=>?_) (λh₁ tk F X=>?_) hco hgen hk
 ·obtain rfl:y=(x,Value.ref a):=bl0.mp hy
  rcases hx with e|e
  ·exact .inl e
  ·exact .inr ⟨e,cellsFrom_some _ _ _ (.inl e)⟩
 ·refine bs2 (body w s₀ s₁ { s₁ with heap:=h₁,toks:=tk } mg mb fa o pm cd doc a vs ns G Y ho (fd_plain hd) hcd hmg hobj hints hlen hg rfl F X) (λf s' hq=>?_) (λ_ _ hq=>hq)
  obtain⟨rfl,h2,h3,h4⟩:=hq
  exact⟨.inl ⟨.bool true,.bool true,[],rfl,λ_=>rfl,.bool true,J8 l _,λ_=>⟨bv8,λ_ hm=>(nomatch hm)⟩⟩,h2,h3,h4⟩
theorem aw8 {l:OpenLaw}{n:Nat}{q:Program}{loose:List Str}{XP:(Str->Option Value)->Heap->Prop}{YP:World->Heap->Prop}{d:DefRec}(hn:l.most=some n)(hdf:d.params.defaults = [])(call:∀(w:World) (s₀ s₁:Shared) (mg mb:Str->Option Value) (fa:Addr) (o:Obj) (pm cd doc:Value) (a:Addr) (vs:List Value) (ns:af),
   Ground q loose [] XP w s₀ mg mb s₁.heap->YP w s₁.heap->
   s₁.heap.get? fa=some o->o.data = .func (docDef d.name d.params d.body d.scope pm cd doc)->s₁.heap.CodeRec cd d.name->mg d.name=some (.ref fa)->
   s₁.heap.get? a=some { cls:=.type "list",data:=.seq vs.toArray }->IntsAre vs ns->ns.length<=n->s₁.gens = #[]->
   codeAny (model l.prog w) callerA (.call (.ref fa) ⟨[.ref a],[]⟩) (λr s'=>r = .ok (.ret (.bool true))/\OldK s₁.heap s'.heap/\s'.os=s₁.os/\AllBare s'.gens) s₁) :
  WalkO q loose XP YP l.row.toRowW d [] (λf vs=>PySem.call f vs):=by
 intro w s₀ s₁ mg mb G Y fa o pm cd doc dV kV ho hd hcd hD hmg hg args vals as hpre hlay hrd hwl hlo
 obtain rfl:dV = .none:=Dflts.none hD hdf
 obtain rfl:kV = .none:=Dflts.noKw hD
 obtain⟨a,vs,ns,rfl,rfl,hobj,hints,hlen⟩:=J7 hn hpre hwl
 refine enter_call (codeAny_mono (call w s₀ s₁ mg mb fa o pm cd doc a vs ns G Y ho (fd_plain hd) hcd hmg hobj hints hlen hg) λr s' hq=>?_)
 obtain⟨rfl,h2,h3,h4⟩:=hq
 exact⟨.inl ⟨.bool true,.bool true,[],rfl,λ_=>rfl,.bool true,J8 l _,λ_=>⟨bv8,λ_ hm=>(nomatch hm)⟩⟩,h2,h3,h4⟩
end Att
namespace L2
open PySem PySem.Spec PyProof.Rows
theorem J9:∀{vs:List Value}{ns:af},IntsAre vs ns->aI (ns.map V.int) vs
 |_,_,.nil=>.nil
 |_,_,.cons n t h=>.cons ⟨t,rfl⟩ (J9 h)
def qE (H:Hp):Prop:=∀b,H b=none∨∃o xs,H b=some (.frz o (.lst xs))
theorem aw9 {P:Program}{w:World}{K:ad}{mg mb:Str->Option Value}{CX:gC}{k:Nat}{fa a:Addr}{fd:FuncData}{x:Str}{sp:Sp}{s₁:Shared}{vs:List Value}{ns:af}(KX:K.In s₁.heap)(hns:s₁.heap.Ns mainGlobals mg)(hb:s₁.heap.Ns builtinsNs mb)(hbb:∀x:Str,x≠"__name__"->mb x=bootBuiltins x)(hlim:s₁.heap.NoLimit)(hg:s₁.gens = #[])(ha:s₁.heap.get? a=some { cls:=.type "list",data:=.seq vs.toArray })(hi:IntsAre vs ns)(hl:ns.length<=sizeLine)(hr:bT k callerA)(F:∀base:Heap,K.In base->base.Ns mainGlobals mg->cL P w K mg base CX k fa fd [x] sp)(hbind:∀(s:Shared) (u:Value),BindsTo s fd ⟨[u],[]⟩ [(x,u)])(hsp:∀H:Hp,qE H->aJ K H a (ns.map V.int)->sp [.ref a] H (λv _=>v = .bl true) λ_ _ _=>False)(hCX:∀H e s',CX [] H s₁ (λ_ _ _=>False) e s'->False) :
  codeAny (model P w) callerA (.call (.ref fa) ⟨[.ref a],[]⟩) (λr s'=>r = .ok (.ret (.bool true))/\OldK s₁.heap s'.heap/\s'.os=s₁.os/\AllBare s'.gens) s₁:=by
 have rv:=J9 hi
 have lenV:=hi.length
 have core:∀H:Hp,qE H->aJ K H a (ns.map V.int)->bO P w H s₁.heap->(∀b,H b≠none->b=a)->(H a≠none->K.lookup a=none)->
   codeAny (model P w) callerA (.call (.ref fa) ⟨[.ref a],[]⟩) (λr s'=>r = .ok (.ret (.bool true))/\OldK s₁.heap s'.heap/\s'.os=s₁.os/\AllBare s'.gens) s₁:=by
  intro H hO hS hok hA hK
  have base_of:∀{b:Addr}{o:Obj},s₁.heap.get? b=some o->H b=none->(iQ s₁.heap H).get? b=some o:=λe n=>am4 e n
  have noA:∀{b:Addr}{o:Obj}{es:Array DictEntry}{ep:Nat},s₁.heap.get? b=some o->o.data = .dict es ep->H b=none:=λ{b o es ep} e d=>by
   cases q:H b with
   |none=>rfl
   |some u=>
    have e':b=a:=hA b (by rw[q];simp)
    subst e'
    rw[ha]at e;cases e
    have d':Data.seq vs.toArray _=Data.dict es ep:=d
    cases d'
  have nsK:∀{b:Addr}{m:Str->Option Value},s₁.heap.Ns b m->(iQ s₁.heap H).Ns b m:=λ{b m} ⟨o,es,ep,e,d,r⟩=>⟨o,es,ep,base_of e (noA e d),d,r⟩
  have hKb:K.In (iQ s₁.heap H):=λb o e=>base_of (KX b o e) (by
   cases q:H b with
   |none=>rfl
   |some u=>
    have e':b=a:=hA b (by rw[q];simp)
    subst e'
    rw[hK (by rw[q];simp)]at e;cases e)
  have hM:Mod K mg (iQ s₁.heap H):=⟨hKb,nsK hns,⟨mb,nsK hb,hbb⟩,let ⟨mc,h1,h2⟩:=hlim;⟨mc,nsK h1,h2⟩⟩
  have e0:pZ P w K mg (iQ s₁.heap H) callerA [] s₁ H:=⟨rfl,hM,λb o e=>am5 e,Nat.le_of_eq (am3 _ _),trivial,λb hb=>absurd (show b∈([]:List Addr) from hb) (by simp),hok,.of_eq hg⟩
  refine codeAny_mono ((F _ hKb (nsK hns)).run callerA [] s₁ H ⟨[.ref a],[]⟩ [.ref a] [.ref a] _ _ hr e0 (hbind s₁ (.ref a)) (.cons rfl .nil) (hsp H hO hS)) λr s' h=>?_
  cases r with
  |error e=>exact (hCX H e s' h).elim
  |ok fl=>
   cases fl with
   |next=>exact False.elim h
   |brk=>exact False.elim h
   |cont=>exact False.elim h
   |ret u=>
    obtain⟨v,H',os,bare,un,hok',r',q⟩:=h
    have q':v = .bl true:=q
    subst q'
    obtain rfl:u=Value.bool true:=r'
    refine⟨rfl,OldK.of_keep λb o e=>?_,os,bare⟩
    cases q:H b with
    |none=>exact un.keep b o e q (by intro z;exact absurd (show b∈([]:List Addr) from z) (by simp)) (by simp)
    |some u=>
     rcases hO b with z|⟨ob,xs,z⟩
     ·rw[q]at z;cases z
     ·have z2:=un.frzs b ob _ z
      obtain⟨e1,_⟩:=hok b _ z
      obtain⟨e2,_⟩:=hok' b _ z2
      rw[e]at e1;cases e1
      exact e2
 cases hk:K.lookup a with
 |some o=>
  have e:=KX a o hk
  rw[ha]at e
  cases e
  refine core (λ_=>none) (λ_=>.inl rfl) (.inr ⟨_,vs.toArray,_,hk,rfl,rfl,rfl,by rw[bk9,lenV];exact hl,by simpa using rv⟩) (λb u z=>by have z':(none:Option HO)=some u:=z;cases z') (λb z=>absurd rfl z) λz=>absurd rfl z
 |none=>
  refine core (λb=>if b=a then some (.frz { cls:=.type "list",data:=.seq vs.toArray } (.lst (ns.map V.int))) else none) (λb=>?_) (.inl (.inr ⟨{ cls:=.type "list",data:=.seq vs.toArray },if_pos rfl⟩)) (λb u z=>?_) (λb z=>?_) λ_=>hk
  ·by_cases hb:b=a
   ·exact .inr ⟨_,_,if_pos hb⟩
   ·exact .inl (if_neg hb)
  ·by_cases hb:b=a
   ·have z':=(if_pos hb).symm.trans z
    cases z'
    subst hb
    exact⟨ha,by rw[bl5];exact hl,vs,_,rv,ha⟩
   ·have z':=(if_neg hb).symm.trans z
    cases z'
  ·by_cases hb:b=a
   ·exact hb
   ·exact absurd (if_neg hb) z
theorem ax0 {l:PySem.W.OpenLaw}{n k:Nat}{q:Program}{loose:List Str}{XP:(Str->Option Value)->Heap->Prop}{YP:World->Heap->Prop}{d:DefRec}{K:Params->ad}{CX:World->gC}{sp:World->Sp}{x:Str}(hn:l.most=some n)(hn2:n<=sizeLine)(hdf:d.params.defaults = [])(hr:bT k callerA)(hY:∀(w:World) (h:Heap),YP w h->(K w.params).In h)(F:∀(w:World) (mg:Str->Option Value) (fa:Addr) (h:Heap),(K w.params).In h->h.Ns mainGlobals mg->mg d.name=some (.ref fa)->
   ∃fd:FuncData,(∀(s:Shared) (u:Value),BindsTo s fd ⟨[u],[]⟩ [(x,u)])/\
    ∀base:Heap,(K w.params).In base->base.Ns mainGlobals mg->cL l.prog w (K w.params) mg base (CX w) k fa fd [x] (sp w))(hsp:∀(w:World) (H:Hp) (a:Addr) (ns:af),ns.length<=n->qE H->aJ (K w.params) H a (ns.map V.int)->sp w [.ref a] H (λv _=>v = .bl true) λ_ _ _=>False)(hCX:∀(w:World) (H:Hp) (s:Shared) (e:Value) (s':Shared),CX w [] H s (λ_ _ _=>False) e s'->False) :
  PySem.W.WalkO q loose XP YP l.row.toRowW d [] (λf vs=>PySem.call f vs):=by
 refine Att.aw8 hn hdf λw s₀ s₁ mg mb fa o pm cd doc a vs ns G Y ho hd hcd hmg hobj hints hlen hg=>?_
 have KX:=hY w _ Y
 obtain⟨fd,hb,hF⟩:=F w mg fa _ KX G.T.g hmg
 exact aw9 KX G.T.g G.T.b G.T.builtins G.T.nolimit hg hobj hints (bp5 hlen hn2) hr hF hb (λH hO hS=>hsp w H a ns hlen hO hS) λH e s'=>hCX w H s₁ e s'
def iG (s:Stmt):Arguments:=match s with
 |.FunctionDef _ a _ _ _ _ _ _ _ _=>a
 |_=>{ posonlyargs:=[],args:=[],vararg:=none,kwonlyargs:=[],kw_defaults:=[],kwarg:=none,defaults:=[] }
def dW (s:Stmt):List Stmt:=match s with
 |.FunctionDef _ _ b _ _ _ _ _ _ _=>b
 |_=>[]
def aQ (s:Stmt):Scope:=match s with
 |.FunctionDef _ _ _ _ _ _ sc _ _ _=>sc
 |_=>{ kind:=.function,names:=[],isGenerator:=false,isCoroutine:=false }
abbrev cY:gC:=λ_ _ _ _ _ _=>False
abbrev E0:XK:=λ_ _ _=>False
theorem K0 {X:Cx}:o0 cY X E0:=λ_ _ _ _ _ _ _ h=>h.elim
structure eB (K:ad)(x qual:Str)(st:Stmt)(f:Addr)(fd:FuncData):Prop where
 ex:∃(oc:Value) (od:Option Addr) (kV doc pm:Value) (an:Option Addr) (cdv ct:Value) (osl:Array (Option Value)),
  fd=PySem.W.fnOf x qual (iG st) (dW st) (aQ st) .none kV doc pm an cdv ct/\K.lookup f=some ⟨oc,od,.func fd,osl⟩/\PySem.W.codeIn K cdv qual=true
 kp:PySem.W.keepIn K (.ref f)=true
section
variable {P:Program}{w:World}{K:ad}{mg:Str→Option Value}{base:Heap}
theorem eB.ok {x qual:Str}{st:Stmt}{f:Addr}{fd:FuncData}{N ps:List Str}{k:Nat}{sp:Sp}(F:eB K x qual st f fd)(S:FnScope N ps (aQ st))(len:∀vs H Q E,sp vs H Q E->vs.length=ps.length)(hbody:∀(cdv:Value) (A:Around) (outer:List Env) (s:Shared) (H:Hp) (vs:List V) (Q:VK) (E:XK),bT k (A.deeper (envOfC qual (aQ st) s.heap.objs.size f cdv))->sp vs H Q E->
   ∃t,dG (cX cY P w K mg base N qual (aQ st) f cdv A outer s H E).nox (dW st) t/\t { nx:=λ_ H'=>Q .non H',rt:=Q } (gD N vs) H):cL P w K mg base cY (k+1) f fd ps sp:=by
 obtain⟨oc,od,kV,doc,pm,an,cdv,ct,osl,rfl,lk,hcd⟩:=F.ex
 refine C7 lk hcd S len λA outer s H vs Q E hr hsp=>?_
 obtain⟨t,h,q⟩:=hbody cdv A outer s H vs Q E hr hsp
 exact⟨t,h.nox,q⟩
theorem eB.binds {x qual:Str}{st:Stmt}{f:Addr}{fd:FuncData}{ps:List Str}(F:eB K x qual st f fd)(h:∀(kV doc pm:Value) (an:Option Addr) (cdv ct:Value) (us:List Value),us.length=ps.length->bindArgs (PySem.W.fnOf x qual (iG st) (dW st) (aQ st) .none kV doc pm an cdv ct) ⟨us,[]⟩=pure (ps.zip us)):gR K fd ps []:=by
 obtain⟨oc,od,kV,doc,pm,an,cdv,ct,osl,rfl,lk,hcd⟩:=F.ex
 exact .all (h kV doc pm an cdv ct)
theorem ax1 {x qual:Str}{st:Stmt}{f:Addr}{oc:Value}{od an:Option Addr}{osl:Array (Option Value)}{kV doc pm cdv ct:Value}(l:K.lookup f=some ⟨oc,od,.func (PySem.W.fnOf x qual (iG st) (dW st) (aQ st) .none kV doc pm an cdv ct),osl⟩)(c:PySem.W.codeIn K cdv qual=true)(k:PySem.W.keepIn K (.ref f)=true):eB K x qual st f (PySem.W.fnOf x qual (iG st) (dW st) (aQ st) .none kV doc pm an cdv ct):=⟨⟨oc,od,kV,doc,pm,an,cdv,ct,osl,rfl,l,c⟩,k⟩
end
theorem m5 {A:Around}{k:Nat}(hr:bT k A):A.units+1<cLine:=bA4 (Nat.add_le_add_left (by decide:1<=64) _) hr.units
theorem vG {n:Nat}(h:n<=1000):n<sizeLine:=bA4 h (by decide)
section
variable {X:Cx}
theorem pv (i:Nat){x:Str}{pos:Pos}(hN:X.N[i]? = some x:=by rfl)(hv:iC X.env.scope x:=by first|exact Or.inl rfl|exact Or.inr (Or.inl rfl)|exact Or.inr (Or.inr rfl))(hd:(x==("__debug__":Str))=false:=by decide)(hcd:(x==("__classdict__":Str))=false:=by decide):PE X (.Name x pos) (eS i):=kJ hN hv hd hcd
theorem ax2:cP X (.builtin "len") (λxs H Q=>∃a kvs,xs = [V.ref a]/\H a=some (.dK kvs)/\Q (.int kvs.length) H):=by
 intro pins s σ H xs us Q I r h
 obtain⟨a,kvs,rfl,ha,q⟩:=h
 obtain⟨u,rfl,ru⟩:=fU r
 cases ru
 exact av6 I (.inl ha) λt s' I'=>⟨.int kvs.length,H,I',⟨t,rfl⟩,q⟩
end
theorem bG {A B:Prop}(h:B):if false=true then A else B:=by
 rw[if_neg bm6]
 exact h
theorem bP {A B:Prop}(h:A):if true=true then A else B:=by
 rw[if_pos rfl]
 exact h
def aA (H H':Hp):Prop:=∀b o,H b=some o->H' b=some o
theorem aA.refl (H:Hp):aA H H:=λ_ _ h=>h
theorem aA.trans {H H1 H2:Hp}(a:aA H H1)(b:aA H1 H2):aA H H2:=λc o h=>b c o (a c o h)
theorem aA.free {H H':Hp}(e:aA H H'){l:Addr}(h:H' l=Option.none):H l=Option.none:=by
 cases q:H l with
 |none=>rfl
 |some o=>
  rw[e l o q]at h
  cases h
theorem aA.seq {K:ad}{H H':Hp}{a:Addr}{xs:List V}(e:aA H H')(h:aJ K H a xs):aJ K H' a xs:=by
 rcases h with (h|⟨o,h⟩)|h
 ·exact .inl (.inl (e _ _ h))
 ·exact .inl (.inr ⟨o,e _ _ h⟩)
 ·exact .inr h
def eC (cells:List (Str×Addr)):List (Str×NameKind)->List (Str×Addr)->List (Str×Addr)
 |[],cs=>cs
 |(n,k)::r,cs=>eC cells r (if k==.free then (n,(cells.lookup n).getD 0)::cs else cs)
theorem vH {env:Env}:∀(ns:List (Str×NameKind)) (cs:List (Str×Addr)),(∀x∈ns,x.2 = .free->∃c,env.cells.lookup x.1=some c)->
  (forIn ns cs (λ(x:Str×NameKind) r=>(match x with
   |(name,kind)=>if (kind==.free)=true then (do let y <- cellOf env name;pure (ForInStep.yield ((name,y)::r))) else pure (ForInStep.yield r)):_->_->Sem _))=(pure (eC env.cells ns cs):Sem (List (Str×Addr)))
 |[],cs,_=>by rw[List.forIn_nil];rfl
 |(n,k)::r,cs,h=>by
  rw[List.forIn_cons]
  have hr:∀x∈r,x.2 = .free->∃c,env.cells.lookup x.1=some c:=λx hx=>h x (bm1 _ hx)
  cases hk:(k==NameKind.free) with
  |true=>
   have e:k = .free:=by simpa using hk
   obtain⟨c,hc⟩:=h (n,k) bl7 e
   simp only[hk,if_true]
   have e1:cellOf env n=pure c:=by unfold cellOf;rw[hc]
   rw[e1]
   show ((pure c >>= λy=>pure (ForInStep.yield ((n,y)::cs))) >>= _:Sem _)=_
   rw[pure_bind,pure_bind]
   have:=vH (env:=env) r ((n,c)::cs) hr
   refine this.trans ?_
   unfold eC
   simp only[hk,if_true,hc,Option.getD_some]
   cases r<;>rfl
  |false=>
   simp only[hk,bn0,bq1]
   rw[pure_bind]
   have:=vH (env:=env) r cs hr
   refine this.trans ?_
   conv=>rhs;unfold eC
   simp only[hk,bn0,bq1]
theorem qF {scope:Scope}{env:Env}(h:∀x∈scope.names,x.2 = .free->∃c,env.cells.lookup x.1=some c):closureFor scope env=pure (eC env.cells scope.names []):=by
 have e:=vH (env:=env) scope.names [] h
 unfold closureFor
 rw[show (pure (eC env.cells scope.names []):Sem (List (Str×Addr)))=(pure (eC env.cells scope.names []) >>= pure) by rw[pure_bind]]
 rw[<- e]
theorem qG {cells:List (Str×Addr)}:∀(ns:List (Str×NameKind)) (cs:List (Str×Addr)) {x:Str}{c:Addr},(∀y∈ns,y.2 = .free->∃c,cells.lookup y.1=some c)->
  (∀x c,cs.lookup x=some c->cells.lookup x=some c)->(eC cells ns cs).lookup x=some c->cells.lookup x=some c
 |[],cs,x,c,_,hc,h=>hc x c h
 |(n,k)::r,cs,x,c,hn,hc,h=>by
  unfold eC at h
  have hr:∀y∈r,y.2 = .free->∃c,cells.lookup y.1=some c:=λy hy=>hn y (bm1 _ hy)
  cases hk:(k==NameKind.free) with
  |false=>
   simp only[hk,bn0,bq1]at h
   exact qG r cs hr hc h
  |true=>
   simp only[hk,if_true]at h
   refine qG r _ hr (λy d e=>?_) h
   obtain⟨c0,h0⟩:=hn (n,k) bl7 (by simpa using hk)
   have h0:cells.lookup n=some c0:=h0
   rw[h0]at e
   rw[bs5]at e
   by_cases hyn:y=n
   ·subst hyn
    simp only[bu2,Option.getD_some]at e
    rw[h0];exact e
   ·have:(y==n)=false:=beq_eq_false_iff_ne.mpr hyn
    simp only[this]at e
    exact hc y d e
theorem vI {cells:List (Str×Addr)}:∀(ns:List (Str×NameKind)) (cs:List (Str×Addr)) {x:Str},((x,NameKind.free)∈ns∨∃c,cs.lookup x=some c)->∃c,(eC cells ns cs).lookup x=some c
 |[],cs,x,h=>by
  rcases h with h|h
  ·simp at h
  ·exact h
 |(n,k)::r,cs,x,h=>by
  unfold eC
  refine vI r _ ?_
  rcases h with h|⟨c,h⟩
  ·rcases bl8.mp h with e|e
   ·cases e
    exact .inr ⟨_,by simp[bs5];rfl⟩
   ·exact .inl e
  ·right
   cases hk:(k==NameKind.free) with
   |false=>exact⟨c,by simpa[hk] using h⟩
   |true=>
    simp only[if_true]
    rw[bs5]
    by_cases hxn:(x==n)=true
    ·simp only[hxn];exact⟨_,rfl⟩
    ·simp only[by6.mpr hxn];exact⟨c,h⟩
theorem qH {env:Env}:∀{names:List (Str×NameKind)}{x:Str}{k:NameKind},(names.map λ(n,k)=>if (k==NameKind.free&&env.scope.kind==.function&&env.kindOf n==some .cell) then (n,NameKind.cell) else (n,k)).lookup x=some k->
  names.lookup x=some k∨(names.lookup x=some .free/\k = .cell)
 |[],_,_,h=>by simp at h
 |(n,q)::r,x,k,h=>by
  have ih:=@qH env r x k
  rw[bq5]at h
  by_cases hx:(x==n)=true
  ·have e:x=n:=by simpa using hx
   subst e
   by_cases hc:(q==NameKind.free&&env.scope.kind==.function&&env.kindOf x==some .cell)=true
   ·simp only[hc,if_true,bs5,bu2]at h
    have hq:q = .free:=by simp at hc;exact hc.1.1
    exact .inr ⟨by simp[bs5,hq],(bn8 h).symm⟩
   ·simp only[hc,bn0,bq1,bs5,bu2]at h
    exact .inl (by simp[bs5];exact bn8 h)
  ·have hx':(x==n)=false:=by6.mpr hx
   have h':(r.map λ(n,k)=>if (k==NameKind.free&&env.scope.kind==.function&&env.kindOf n==some .cell) then (n,NameKind.cell) else (n,k)).lookup x=some k:=by
    by_cases hc:(q==NameKind.free&&env.scope.kind==.function&&env.kindOf n==some .cell)=true
    ·simp only[hc,if_true,bs5,hx']at h;exact h
    ·simp only[hc,bn0,bq1,bs5,hx']at h;exact h
   simp only[bs5,hx']
   exact ih h'
def fH (fr:List (Option Nat))(σ:St):St:=fr.map λo=>o.bind λj=>(σ[j]?).join
def Wk (σ₁ σ₂:St):Prop:=σ₁.length=σ₂.length/\∀(i:Nat) v,σ₁[i]? = some (some v)->σ₂[i]? = some (some v)
theorem Wk.refl (σ:St):Wk σ σ:=⟨rfl,λ_ _ h=>h⟩
theorem Wk.set {σ τ:St}{i:Nat}{v:V}(h:Wk σ τ)(hi:σ[i]? = some none):Wk σ (τ.set i (some v)):=by
 refine⟨by rw[br8];exact h.1,λj w e=>?_⟩
 by_cases hj:j=i
 ·subst hj;rw[hi]at e;cases e
 ·rw[bo5 (Ne.symm hj)];exact h.2 j w e
theorem iX:∀(ns:List (Str×NameKind)) (n:Nat) (cs:List (Str×Addr)),cellsFrom n ns cs=cellsFrom n ns []++cs
 |[],_,_=>rfl
 |(x,k)::r,n,cs=>by
  unfold cellsFrom
  split
  ·rw[iX r (n+1) ((x,n)::cs),iX r (n+1) [(x,n)]];simp
  ·exact iX r n cs
theorem vJ:∀(ns:List (Str×NameKind)) (n:Nat) {x:Str}{c:Addr},(x,c)∈cellsFrom n ns []->(x,NameKind.cell)∈ns
 |[],_,_,_,h=>by simp[cellsFrom]at h
 |(y,k)::r,n,x,c,h=>by
  unfold cellsFrom at h
  split at h
  ·rename_i hk
   rw[iX]at h
   rcases bn4.mp h with z|z
   ·exact bm1 _ (vJ r _ z)
   ·rw[bl0]at z
    cases z
    have:k = .cell:=by simpa using hk
    rw[this];exact bl7
  ·exact bm1 _ (vJ r _ h)
theorem qI:∀(ns:List (Str×NameKind)) (n:Nat) {x:Str},(x,NameKind.cell)∈ns->∃c,(x,c)∈cellsFrom n ns []
 |(y,k)::r,n,x,h=>by
  unfold cellsFrom
  rcases bl8.mp h with z|z
  ·cases z
   rw[if_pos (by rfl),iX]
   exact⟨n,bo6 _ (by simp)⟩
  ·split
   ·obtain⟨c,hc⟩:=qI r (n+1) z
    rw[iX]
    exact⟨c,bt7 _ hc⟩
   ·exact qI r n z
theorem vK {α:Type}:∀{l:List (Str×α)}{x:Str}{c:α},(x,c)∈l->∃d,l.lookup x=some d
 |(y,v)::r,x,c,h=>by
  rw[bs5]
  cases hb:x==y with
  |true=>exact⟨v,rfl⟩
  |false=>
   rcases bl8.mp h with z|z
   ·cases z;simp at hb
   ·exact vK z
theorem qJ {α:Type}{x:Str}:∀(l r:List (Str×α)),(l++r).lookup x=(match l.lookup x with|some v=>some v|none=>r.lookup x)
 |[],_=>rfl
 |(y,v)::l,r=>by
  rw[List.cons_append,bs5,bs5]
  cases hb:x==y with
  |true=>rfl
  |false=>exact qJ l r
def gG (X:Cx)(scope:Scope)(C:Addr):List (Str×Addr):=cellsFrom (C+1) scope.names (eC X.env.cells scope.names [])
theorem kT {X:Cx}{scope:Scope}{C:Addr}{x:Str}{c:Addr}(h:(gG X scope C).lookup x=some c) :
  (x,c)∈cellsFrom (C+1) scope.names []∨((∀d,(x,d)∉cellsFrom (C+1) scope.names [])/\(eC X.env.cells scope.names []).lookup x=some c):=by
 unfold gG at h
 rw[iX,qJ]at h
 cases e:(cellsFrom (C+1) scope.names []).lookup x with
 |some v=>rw[e]at h;cases h;exact .inl (br0 e)
 |none=>
  rw[e]at h
  refine .inr ⟨λd hd=>?_,h⟩
  obtain⟨d',z⟩:=vK hd
  rw[e]at z;cases z
theorem ax3 {X:Cx}{scope:Scope}{C:Addr}{x:Str}{c:Addr}(hn:(x,NameKind.cell)∉scope.names)(h:(eC X.env.cells scope.names []).lookup x=some c):(gG X scope C).lookup x=some c:=by
 unfold gG
 rw[iX,qJ]
 cases e:(cellsFrom (C+1) scope.names []).lookup x with
 |some v=>exact absurd (vJ _ _ (br0 e)) hn
 |none=>exact h
theorem K1 {X:Cx}{scope:Scope}{C:Addr}{x:Str}(h:(x,NameKind.cell)∈scope.names∨∃c,(eC X.env.cells scope.names []).lookup x=some c):∃c,(gG X scope C).lookup x=some c:=by
 unfold gG
 rw[iX,qJ]
 cases e:(cellsFrom (C+1) scope.names []).lookup x with
 |some v=>exact⟨v,rfl⟩
 |none=>
  rcases h with h|h
  ·obtain⟨c,hc⟩:=qI scope.names (C+1) h
   obtain⟨d,hd⟩:=vK hc
   rw[e]at hd;cases hd
  ·exact h
def bI (X:Cx)(scope:Scope)(N:List Str)(s:Shared)(H:Hp)(C:Addr)(fp:List Addr)(E:Value->Shared->Prop):Cx:=
 { X with N:=N,s₀:=s,H₀:=H,env:=compEnvC scope (gG X scope C) C X.env,outer:=X.stack,ex:=fp,fn:=λx=>scope.names.lookup x==some .cell,pn:=[],xe:=E }
structure cQ (X:Cx)(scope:Scope)(N:List Str)(fr:List (Option Nat)):Prop where
 kind:scope.kind = .function
 own:∀y∈scope.names,y.2 = .cell->scope.names.lookup y.1=some .cell
 names:∀y∈scope.names,y.2 = .local->scope.names.lookup y.1=some .local
 free:∀y∈scope.names,y.2 = .free->X.env.scope.names.lookup y.1=some .cell∨X.env.scope.names.lookup y.1=some .free
 len:fr.length=N.length
 from_:∀(i j:Nat),fr[i]? = some (some j)->∃x,N[i]? = some x/\X.N[j]? = some x/\scope.names.lookup x=some .free
section
variable {X:Cx}{pins:List (Addr×Obj)}{σ:St}{H:Hp}{s:Shared}{scope:Scope}{N:List Str}{fr:List (Option Nat)}
theorem cQ.cells (S:cQ X scope N fr)(I:a6 X pins σ H s):∀y∈scope.names,y.2 = .free->∃c,X.env.cells.lookup y.1=some c:=λy hy hk=>I.ok.has y.1 (S.free y hy hk)
theorem ax4 {C D:Addr}{fp:List Addr}{E:Value->Shared->Prop}{h1:Heap}{tk:Nat}{m:Str->Option Value}(S:cQ X scope N fr)(I:a6 X pins σ H s)(hf:∀b∈fp,gB X pins H b)(hfl:∀b∈fp,b<s.heap.objs.size)(hD:s.heap.objs.size<=D)(hC:s.heap.objs.size<=C)(hDC:D<C)(old:∀b o,s.heap.get? b=some o->h1.get? b=some o)(hns:h1.Ns C m)(hacc:h1.get? D=some { cls:=.type "list",data:=.seq #[] 0 })(hco:CellsOk h1 (C+1) (cellsFrom (C+1) scope.names [])) :
  a6 (bI X scope N s H C fp E) [] (fH fr σ) (upd H D (.lst [])) { s with heap:=h1,toks:=tk }:=by
 have hHD:H D=none:=I.hok.fresh hD
 have cl:=S.cells I
 have cs:∀{x:Str}{c:Addr},(eC X.env.cells scope.names []).lookup x=some c->X.env.cells.lookup x=some c:=λ{x c} h=>qG scope.names [] cl (λ_ _ z=>by simp at z) h
 have clt:∀{x:Str}{c:Addr},X.env.cells.lookup x=some c->c<s.heap.objs.size:=λ{x c} h=>by obtain⟨v,z⟩:=I.cell x c h;exact z.lt
 have nge:∀{x:Str}{c:Addr},(x,c)∈cellsFrom (C+1) scope.names []->C<c:=λ{x c} h=>(hco.empty x c h).2
 refine⟨⟨I.ok.mod,?_,I.ok.glob,I.ok.blt,hC,?_,?_,?_,I.ok.hd,I.ok.frames,.inl rfl,?_,I.bs,bp5 I.ok.bsz I.sz,?_,?_,I.stack,I.stkFree⟩,rfl,I.bare,Un.laid old hD hHD,⟨m,hns,?_⟩,?_,?_,?_,λp hp=>absurd (show p∈([]:List (Addr×Obj)) from hp) (by simp),?_,?_⟩
 ·exact S.kind
 ·intro x y c h1 h2
  rcases kT h1 with a|⟨_,a⟩<;>rcases kT h2 with b|⟨_,b⟩
  ·exact name_of_addr hco.apart a b
  ·exact absurd (bm5 (Nat.lt_trans (nge a) (clt (cs b))) hC) (br2 _)
  ·exact absurd (bm5 (Nat.lt_trans (nge b) (clt (cs a))) hC) (br2 _)
  ·exact I.ok.inj x y c (cs a) (cs b)
 ·intro x hx
  have hx:(relabel scope X.env).names.lookup x=some .cell∨(relabel scope X.env).names.lookup x=some .free:=hx
  have fin:(x,NameKind.free)∈scope.names->∃c,(gG X scope C).lookup x=some c:=λz=>K1 (.inr (vI scope.names [] (.inl z)))
  rcases hx with hx|hx
  ·rcases qH hx with z|z
   ·exact K1 (.inl (br0 z))
   ·exact fin (br0 z.1)
  ·rcases qH hx with z|z
   ·exact fin (br0 z)
   ·exact absurd z.2 (by decide)
 ·intro x c hx h
  have hx:(scope.names.lookup x==some NameKind.cell)=true:=hx
  have hx:scope.names.lookup x=some .cell:=by simpa using hx
  rcases kT h with a|⟨a,_⟩
  ·exact bp5 hC (bu6 (nge a))
  ·obtain⟨d,hd⟩:=qI scope.names (C+1) (br0 hx)
   exact absurd hd (a d)
 ·intro b hb
  refine⟨bo2 (bm5 (hfl b hb) hC),λx c e=>?_⟩
  rcases kT e with a|⟨_,a⟩
  ·exact bv2 (Nat.lt_trans (bm5 (hfl b hb) hC) (nge a))
  ·exact (hf b hb).2.2.2.2.1 x c (cs a)
 ·intro b o e hb
  rcases (hf b hb).2.2.2.1 with z|z
  ·exact I.ok.noex b o e z
  ·exact absurd (bm5 (bm3 e) (bp5 I.ok.bsz z)) (br2 _)
 ·intro b hb z
  rcases bl8.mp (I.stkSub b z) with e|e
  ·exact (hf b hb).2.1 e
  ·exact (hf b hb).2.2.1 e
 ·intro i x v e1 e2 e3
  have e2:(fr.map λo=>o.bind λj=>(σ[j]?).join)[i]? = some (some v):=e2
  rw[bl4]at e2
  cases ef:fr[i]? with
  |none=>rw[ef]at e2;cases e2
  |some o=>
   rw[ef]at e2
   cases o with
   |none=>cases e2
   |some j=>
    have e2:some ((σ[j]?).join)=some (some v):=e2
    have ej:σ[j]? = some (some v):=by
     cases q:σ[j]? with
     |none=>rw[q]at e2;cases e2
     |some w=>rw[q]at e2;cases w with
      |none=>cases e2
      |some w=>cases e2;rfl
    obtain⟨y,a1,a2,a4⟩:=S.from_ i j ef
    have e1:N[i]? = some x:=e1
    rw[e1]at a1
    cases a1
    have a3:(x,NameKind.free)∈scope.names:=br0 a4
    have vis:iC X.env.scope x:=(S.free _ a3 rfl).elim (λz=>.inr (.inl z)) λz=>.inr (.inr z)
    obtain⟨m0,hn0,hl0⟩:=I.loc
    obtain⟨u,r,l⟩:=hl0 j x v a2 ej vis
    refine⟨u,r,.inr ⟨?_,?_⟩⟩
    ·have e3:(relabel scope X.env).names.lookup x=some .local∨(relabel scope X.env).names.lookup x=some .cell∨(relabel scope X.env).names.lookup x=some .free:=e3
     rcases e3 with z|z|z
     ·rcases qH z with y|y
      ·rw[a4]at y;cases y
      ·exact absurd y.2 (by decide)
     ·exact .inl z
     ·exact .inr z
    ·obtain⟨c,hc⟩:=vI (cells:=X.env.cells) scope.names [] (x:=x) (.inl a3)
     refine⟨c,ax3 (λz=>by have:=S.own _ z rfl;rw[a4]at this;cases this) hc,?_⟩
     have hc':=cs hc
     have S1:=S.free (x,.free) a3 rfl
     rcases l with⟨k,_⟩|⟨_,c2,hc2,z⟩
     ·have k:X.env.scope.names.lookup x=some .local:=k
      rcases S1 with q|q<;>(have q:X.env.scope.names.lookup x=_:=q;rw[k]at q;cases q)
     ·rw[hc']at hc2;cases hc2
      obtain⟨oc,ho,hd⟩:=z
      exact⟨oc,old c oc ho,hd⟩
 ·intro x c e
  rcases kT e with a|⟨_,a⟩
  ·exact⟨_,(hco.empty x c a).1⟩
  ·obtain⟨v,oc,ho,hd⟩:=I.cell x c (cs a)
   exact⟨v,oc,old c oc ho,hd⟩
 ·show upd H D (.lst []) C=none
  rw[aC (bv2 hDC)];exact I.hok.fresh hC
 ·intro x c e
  show upd H D (.lst []) c=none
  rcases kT e with a|⟨_,a⟩
  ·rw[aC (bv2 (Nat.lt_trans hDC (nge a)))];exact I.hok.fresh (bp5 hC (bu6 (nge a)))
  ·have q:=cs a
   rw[aC (bo2 (bm5 (clt q) hD))]
   exact I.freeC x c q
 ·exact I.hok.laid old hD ⟨bo4 _,[],0,.nil,hacc⟩
 ·show (fH fr σ).length=N.length
  unfold fH;rw[bl5];exact S.len
end
def jQ (X:Cx)(ifs:List Expr)(t:TT):Prop:=
 ∀(pins:List (Addr×Obj)) (s:Shared) (σ:St) (H:Hp) (Q:Bool->Hp->Prop),a6 X pins σ H s->t σ H Q->
  wpAny (model X.prog X.w) X.A (forIn ifs true λc r=>if r=true then do let ok <- isTrue c X.env (eval c X.env);pure (ForInStep.yield ok) else pure (ForInStep.yield r)) (TP X pins σ Q) X.xe s
def vL:TT:=λ_ H Q=>Q true H
theorem oA {X:Cx}:jQ X [] vL:=λ_ _ _ H _ I h=>wpAny_tests_nil ⟨H,I,h⟩
theorem vM {X:Cx}{c:Expr}{t:TT}(h:PT X c t):jQ X [c] t:=λpins s σ H Q I hq=>wpAny_tests_one (h pins s σ H Q I hq)
section
variable {prog:Program}{w:World}{A:Around}
def vN (prog:Program)(w:World)(A:Around)(elt tg:Expr)(ifs:List Expr)(it acc:Value)(env:Env)(lost:Value->Shared->Prop)(stop next:Shared->Prop)(s:Shared):Prop:=
 let M:=model prog w
 let tests:Sem Bool:=forIn ifs true λc r=>if r=true then do let ok <- isTrue c env (eval c env);pure (ForInStep.yield ok) else pure (ForInStep.yield r)
 let put:Shared->Prop:=wpAny M A (eval elt env) (λx=>wpAny M A (call (.builtin "list.append") [acc,x]) (λ_=>next) lost) lost
 let taken:Value->Shared->Prop:=λv=>wpAny M A (letOwnedTupleGo tg it v) (λ_=>wpAny M A (assign tg env v) (λ_=>wpAny M A tests (λok s'=>if ok=true then put s' else next s') lost) lost) lost
 wpAny M A (pyNext it) (λr s'=>match r with
  |none=>stop s'
  |some v=>taken v s') lost s
theorem ax5 {R:Result->Shared->Prop}{s:Shared}{elt tg iter:Expr}{ifs:List Expr}{scope:Scope}{pos:Pos}{it acc:Value}{env:Env}(I:Nat->Shared->Prop)(turn:∀n s,I n s->vN prog w A elt tg ifs it acc env (notedBy (model prog w) A env λe=>R (.error e)) (R (.ok .next)) (λs'=>∃m,m<n/\I m s') s)(n:Nat)(h:I n s) :
  codeAny (model prog w) A (.compLoop (.ListComp elt [⟨tg,iter,ifs,0⟩] scope pos) 0 it acc env) R s:=by
 apply codeAny_loop rfl I _ n h
 intro k s1 h1
 change wpAny _ A ((compTurn _ 0 it acc env).onRaise (λx=>do noteFrame x env;theTreesLotGoes x)) _ _ s1
 apply wpAny_noted
 rw[compTurn_list]
 have t:=turn k s1 h1
 unfold vN at t
 apply bk3
 apply wpAny_standAt
 apply bk3
 refine bs2 t (λr s2 h2=>?_) λ_ _ z=>z
 cases r with
 |none=>exact bk8 h2
 |some v=>
  apply bk3
  refine bs2 h2 (λ_ s3 h3=>?_) λ_ _ z=>z
  apply bk3
  refine bs2 h3 (λ_ s4 h4=>?_) λ_ _ z=>z
  apply bk3
  refine bs2 h4 (λok s5 h5=>?_) λ_ _ z=>z
  cases ok with
  |false=>exact bk8 ⟨rfl,h5⟩
  |true=>
   apply bk3
   apply bk3
   refine bs2 h5 (λx s6 h6=>?_) λ_ _ z=>z
   apply bk3
   exact bs2 h6 (λ_ s7 h7=>bk8 (bk8 ⟨rfl,h7⟩)) λ_ _ z=>z
end
def oB (g:TG)(tc:TT)(te:TE)(σ0:St)(J:It)(D:Addr)(Q:VK)(W:Nat->Nat->List V->Hp->Prop):Prop:=
 ∀i m acc H',W i m acc H'->H' D=some (.lst acc)/\((J.stop i H'/\Q (.ref D) H')∨(J.go i H'/\∀x H2,J.yld i H' x H2->g x σ0 H2 λσ2 H3=>Wk σ0 σ2/\tc σ2 H3 λb H4=>
  if b=true then te σ2 H4 λv H5=>H5 D=some (.lst acc)/\acc.length<sizeLine/\∃m',m'<m/\W (i+1) m' (acc++[v]) (upd H5 D (.lst (acc++[v]))) else ∃m',m'<m/\W (i+1) m' acc H4))
def K2 (wi:TI)(fr:List (Option Nat))(g:TG)(tc:TT)(te:TE):TE:=λσ H Q=>wi σ H λJ H1=>∀D,H1 D=none->
 ∃W:Nat->Nat->List V->Hp->Prop,(∃m,W 0 m [] (upd H1 D (.lst [])))/\oB g tc te (fH fr σ) J D Q W
section
variable {M:Model}{A:Around}{E:Value→Shared→Prop}{s:Shared}
theorem ax6 {scope:Scope}{globals:Addr}{cl:List (Str×Addr)}{qual:Str}{func:Option Addr}{code:Value}{builtins:Addr}{outer:Env}{Q:Env->Shared->Prop}(hQ:∀h',h'.Ns s.heap.objs.size (λ_=>none)->(∀b o,s.heap.get? b=some o->h'.get? b=some o)->CellsOk h' (s.heap.objs.size+1) (cellsFrom (s.heap.objs.size+1) scope.names [])->
   Q (newEnv scope s.heap.objs.size globals (cellsFrom (s.heap.objs.size+1) scope.names cl) qual func code (some outer) builtins) { s with heap:=h' }) :
  wpAny M A (newFunctionEnv scope globals cl [] qual func code (some outer) builtins) Q E s:=by
 simp only[newFunctionEnv,Option.isSome_some,if_true]
 refine bk3 (wpAny_alloc ?_)
 refine bk3 (wpAny_layCells _ (λname kind cells=>by cases hkc:kind==NameKind.cell<;>simp[hkc]) _ _ _ _ ?_)
 have ok:=cellsFrom_ok scope.names (s.heap.push { cls:=.type "dict",data:=.dict #[] }) (s.heap.objs.size+1) [] ⟨λ_ _ hm=>(nomatch hm),bv8⟩ (by rw[bw1];exact bk7 _)
 rw[bw1]at ok
 rw[show ({ s with heap:=s.heap.push { cls:=.type "dict",data:=.dict #[] } }:Shared).heap.objs.size=s.heap.objs.size+1 from bw1 ..]
 rw[List.forIn_nil]
 refine bk3 (bk8 (bk8 (hQ _ ((Heap.Ns.new s.heap (.type "dict")).keeps (pushCells_keeps _ _)) (λb o e=>pushCells_keeps _ _ b o (bk6 _ e)) ok)))
end
section
variable {X:Cx}{pins:List (Addr×Obj)}{σ:St}{H:Hp}{s:Shared}{scope:Scope}{N:List Str}{fr:List (Option Nat)}{tg iter elt:Expr}{ifs:List Expr}{pos:Pos}{wi:TI}{g:TG}{tc:TT}{te:TE}
structure m6 (X:Cx)(scope:Scope)(N:List Str)(tg:Expr)(ifs:List Expr)(elt:Expr)(s:Shared)(H:Hp)(g:TG)(tc:TT)(te:TE):Prop where
 tg:∀(C:Addr) (fp:List Addr),PG (bI X scope N s H C fp λ_ _=>False) tg g
 ifs:∀(C:Addr) (fp:List Addr),jQ (bI X scope N s H C fp λ_ _=>False) ifs tc
 elt:∀(C:Addr) (fp:List Addr),PE (bI X scope N s H C fp λ_ _=>False) elt te
structure oC (X:Cx)(scope:Scope)(N:List Str)(tg:Expr)(ifs:List Expr)(elt:Expr)(g:TG)(tc:TT)(te:TE):Prop where
 tg:∀(s:Shared) (H:Hp) (C:Addr) (fp:List Addr),PG (bI X scope N s H C fp λ_ _=>False) tg g
 ifs:∀(s:Shared) (H:Hp) (C:Addr) (fp:List Addr),jQ (bI X scope N s H C fp λ_ _=>False) ifs tc
 elt:∀(s:Shared) (H:Hp) (C:Addr) (fp:List Addr),PE (bI X scope N s H C fp λ_ _=>False) elt te
theorem oC.at (B:oC X scope N tg ifs elt g tc te)(s:Shared)(H:Hp):m6 X scope N tg ifs elt s H g tc te:=⟨B.tg s H,B.ifs s H,B.elt s H⟩
theorem ax7 {C:Addr}{fp:List Addr}{E:Value->Shared->Prop}{pins':List (Addr×Obj)}{σ':St}{H':Hp}{s':Shared}(I:a6 X pins σ H s)(hf:∀b∈fp,gB X pins H b)(I':a6 (bI X scope N s H C fp E) pins' σ' H' s'):a6 X pins σ H' s':=
 I.call' (ch:=fp) I'.os I'.base I'.hok I'.bare λb hb=>⟨(hf b hb).2.2.2.1,(hf b hb).2.1,(hf b hb).2.2.2.2.1,(hf b hb).2.2.2.2.2⟩
theorem qK {Rr:Value->Addr->Result->Shared->Prop}{J:It}{fp:List Addr}{it:Addr}{tn:Nat->Heap->Prop}{Q:VK}(hc:X.calm=true)(S:cQ X scope N fr)(B:m6 X scope N tg ifs elt s H g tc te)(I:a6 X pins σ H s)(T:gP X.prog X.w X.K tg J fp it tn)(hst:tn 0 s.heap)(hf:∀b∈fp,gB X pins H b)(h:∀D,H D=none->∃W:Nat->Nat->List V->Hp->Prop,(∃m,W 0 m [] (upd H D (.lst [])))/\oB g tc te (fH fr σ) J D Q W)(hend:∀(D C:Addr) (s':Shared) (H':Hp) (m:Str->Option Value),s.heap.objs.size<=C->s.heap.objs.size<=D->a6 X pins σ H' s'->s'.heap.Ns C m->H' C=none->Q (.ref D) H'->Rr (.ref D) C (.ok .next) s') :
  wpAny (model X.prog X.w) X.A (newList []) (λacc s₃=>wpAny (model X.prog X.w) X.A (newFunctionEnv scope X.env.globals (eC X.env.cells scope.names []) [] X.env.qual none .none (some X.env)) (λcenv s₄=>
   codeAny (model X.prog X.w) X.A (.compStart (.ListComp elt [⟨tg,iter,ifs,0⟩] scope pos) 0 (.ref it) acc { cenv with scope:=relabel scope X.env }) (Rr acc cenv.locals) s₄) X.xe s₃) X.xe s:=by
 refine br7 (ax6 (λh₁ hns₁ keep₁ hco₁=>?_))
 dsimp only at hns₁ keep₁ hco₁ ⊢
 generalize hH2:s.heap.push { cls:=.type "list",dict:=none,data:=.seq ([]:List Value).toArray }=H2 at hns₁ keep₁ hco₁ ⊢
 have hC:H2.objs.size=s.heap.objs.size+1:=by rw[<- hH2,bw1]
 have hDC:s.heap.objs.size<H2.objs.size:=by rw[hC];exact Nat.lt_succ_self _
 have hCle:s.heap.objs.size<=H2.objs.size:=by rw[hC];exact Nat.le_succ _
 have old:∀b o,s.heap.get? b=some o->h₁.get? b=some o:=λb o e=>keep₁ b o (hH2▸bk6 _ e)
 have hacc:h₁.get? s.heap.objs.size=some { cls:=.type "list",data:=.seq #[] 0 }:=keep₁ _ _ (hH2▸bm4 _ rfl)
 have hfl:∀b∈fp,b<s.heap.objs.size:=λb hb=>by obtain⟨o,e,_⟩:=T.obj _ _ hst b hb;exact bm3 e
 obtain⟨W,⟨m0,w0⟩,turn⟩:=h s.heap.objs.size (I.hok.fresh (bk7 _))
 have st1:tn 0 h₁:=T.keep _ _ _ hst λb _ o e=>old b o e
 have fr0:∀b∈fp,upd H s.heap.objs.size (.lst []) b=none:=λb hb=>by rw[aC (bo2 (hfl b hb))];exact (hf b hb).1
 have stat:∀{H':Hp},(∀b∈fp,H' b=none)->∀b∈fp,gB (bI X scope N s H H2.objs.size fp λ_ _=>False) [] H' b:=λ{H'} hn b hb=>by
  have f:=hf b hb
  refine⟨hn b hb,bo2 (bm5 (hfl b hb) hCle),λz=>?_,.inl hb,λx c e=>(kT e).elim (λz=>bv2 (Nat.lt_trans (bm5 (hfl b hb) hCle) (hco₁.empty x c z).2)) λz=>f.2.2.2.2.1 x c (qG scope.names [] (S.cells I) (λ_ _ z=>by simp at z) z.2),λp hp=>absurd (show p∈([]:List (Addr×Obj)) from hp) (by simp)⟩
  rcases bl8.mp (I.stkSub b z) with e|e
  ·exact f.2.1 e
  ·exact f.2.2.1 e
 generalize hX:bI X scope N s H H2.objs.size fp (λ_ _=>False)=Y at stat
 have I0:a6 Y [] (fH fr σ) (upd H s.heap.objs.size (.lst [])) { s with heap:=h₁ }:=hX▸ax4 S I hf hfl (bk7 _) hCle hDC old hns₁ hacc hco₁
 have bt:PG Y tg g:=hX▸B.tg H2.objs.size fp
 have bi:jQ Y ifs tc:=hX▸B.ifs H2.objs.size fp
 have be:PE Y elt te:=hX▸B.elt H2.objs.size fp
 have eP:Y.prog=X.prog:=by rw[<- hX];rfl
 have ew:Y.w=X.w:=by rw[<- hX];rfl
 have eK:Y.K=X.K:=by rw[<- hX];rfl
 have eA:Y.A=X.A:=by rw[<- hX];rfl
 have eE:Y.env=compEnvC scope (gG X scope H2.objs.size) H2.objs.size X.env:=by rw[<- hX];rfl
 have eX:Y.xe=λ_ _=>False:=by rw[<- hX];rfl
 have ec:Y.calm=true:=by rw[<- hX];exact hc
 have never:∀{E:Value->Shared->Prop} (e:Value) (s':Shared),Y.xe e s'->E e s':=λ{E} e s' z=>by rw[eX]at z;exact z.elim
 have out:∀{pins' σ' H' s'},a6 Y pins' σ' H' s'->a6 X pins σ H' s':=λ{_ _ _ _} I'=>ax7 (C:=H2.objs.size) (E:=λ_ _=>False) (scope:=scope) (N:=N) I hf (hX▸I')
 have loop:codeAny (model X.prog X.w) X.A (.compLoop (.ListComp elt [⟨tg,iter,ifs,0⟩] scope pos) 0 (.ref it) (.ref s.heap.objs.size) (compEnvC scope (gG X scope H2.objs.size) H2.objs.size X.env))
   (Rr (.ref s.heap.objs.size) H2.objs.size) { s with heap:=h₁ }:=by
  refine ax5 (λn s'=>∃i acc H',a6 Y [] (fH fr σ) H' s'/\tn i s'.heap/\(∀b∈fp,H' b=none)/\W i n acc H') ?_ m0 ⟨0,[],_,I0,st1,fr0,w0⟩
  rintro n s3 ⟨i,acc,H3,I3,st3,fr3,w3⟩
  unfold vN
  dsimp only
  obtain⟨hD3,step⟩:=turn i n acc H3 w3
  rcases step with⟨stop,qn⟩|⟨go,step⟩
  ·have z:=T.done Y eP ew eK ec i [] s3 _ H3 (notedBy (model X.prog X.w) X.A (compEnvC scope (gG X scope H2.objs.size) H2.objs.size X.env) λe s'=>Rr (.ref s.heap.objs.size) H2.objs.size (.error e) s') I3 (stat fr3) st3 stop
   rw[eA]at z
   refine aK z λr s4 ⟨hr,I4⟩=>?_
   subst hr
   obtain⟨m4,hn4,_⟩:=I4.loc
   rw[eE]at hn4
   have f4:=I4.free
   rw[eE]at f4
   exact hend _ _ s4 H3 m4 hCle (bk7 _) (out I4) hn4 f4 qn
  ·have z:=T.item Y eP ew eK ec i [] s3 _ H3 (notedBy (model X.prog X.w) X.A (compEnvC scope (gG X scope H2.objs.size) H2.objs.size X.env) λe s'=>Rr (.ref s.heap.objs.size) H2.objs.size (.error e) s') I3 (stat fr3) st3 go
   rw[eA]at z
   refine aK z λr s4 ⟨u,hr,h4⟩=>?_
   subst hr
   refine aK h4 λ_ s5 ⟨x,H5,I5,r5,y5,st5,fr5⟩=>?_
   have I5':=I5.pinned (stat fr5) (T.obj _ _ st5)
   have q1:=bt _ s5 _ H5 x u _ I5' r5 (step x H5 y5)
   rw[eP,ew,eA,eE]at q1
   refine bs2 q1 (λ_ s6 ⟨σ6,H6,I6,wk,q6⟩=>?_) never
   have q2:=bi _ s6 σ6 H6 _ I6 q6
   rw[eP,ew,eA,eE]at q2
   refine bs2 q2 (λb s7 ⟨H7,I7,q7⟩=>?_) never
   have again:∀{H8:Hp}{s8:Shared}{acc':List V},a6 Y ([]++nX fp s5.heap) σ6 H8 s8->(∃m',m'<n/\W (i+1) m' acc' H8)->∃m,m<n/\∃i acc H',a6 Y [] (fH fr σ) H' s8/\tn i s8.heap/\(∀b∈fp,H' b=none)/\W i m acc H':=λ{H8 s8 acc'} I8 n8=>by
    obtain⟨m',hm,w8⟩:=n8
    refine⟨m',hm,i+1,acc',H8,(I8.unpinned).weak wk.1 wk.2,T.keep _ _ _ st5 λb hb o e=>(I8.pin (b,o) (bo6 _ (bo6 _ (pW hb e)))).1,λb hb=>?_,w8⟩
    obtain⟨o,e,d⟩:=T.obj _ _ st5 b hb
    exact (I8.pin (b,o) (bo6 _ (bo6 _ (pW hb e)))).2.1
   cases b with
   |false=>
    rw[if_neg bm6]at q7 ⊢
    exact again I7 q7
   |true=>
    rw[if_pos rfl]at q7 ⊢
    have q3:=be _ s7 σ6 H7 _ I7 q7
    rw[eP,ew,eA,eE]at q3
    refine bs2 q3 (λv s8 ⟨y,H8,I8,r8,hD8,hz8,q8⟩=>?_) never
    have q4:=lY _ s8 σ6 H8 (.ref s.heap.objs.size) [y] (.ref s.heap.objs.size) [v] (λ_ H9=>∃m',m'<n/\W (i+1) m' (acc++[y]) H9) I8 rfl (.cons r8 .nil) ⟨_,_,_,rfl,rfl,hD8,hz8,q8⟩
    rw[eP,ew,eA]at q4
    exact bs2 q4 (λ_ s9 ⟨_,H9,I9,_,q9⟩=>again I9 q9) never
 exact codeAny_compStart_list loop (T.self _ 0 _ _ _ st1 loop)
end
section
variable {X:Cx}{scope:Scope}{N:List Str}{fr:List (Option Nat)}{tg iter elt:Expr}{ifs:List Expr}{pos:Pos}{wi:TI}{g:TG}{tc:TT}{te:TE}
theorem a6.drop {pins:List (Addr×Obj)}{σ:St}{H H':Hp}{s s':Shared}{C:Addr}{h':Heap}(I0:a6 X pins σ H s)(hC:s.heap.objs.size<=C){σ':St}(I:a6 X pins σ' H' s')(hn:H' C=none)(sb:Heap.SameBut C s'.heap h'):a6 X pins σ' H' { s' with heap:=h' }:=by
 refine I.turned (t':=s'.toks) (it:=C) (λb o hb e=>(sb.2 b hb).trans e) hn (bv2 (bm5 I0.lt hC)) (.inr (bp5 I0.sz hC)) (λx c e z=>?_) λp hp z=>?_
 ·obtain⟨v,q⟩:=I0.cell x c e
  exact absurd (bm5 q.lt (by rw[z];exact hC)) (br2 _)
 ·exact absurd (bm5 (bm3 (I0.pin p hp).1) (by rw[z];exact hC)) (br2 _)
theorem K3 (hc:X.calm=true)(S:cQ X scope N fr)(hi:PI X tg iter wi)(B:oC X scope N tg ifs elt g tc te)(hs:∀x,foldedSetIterable iter X.env x=pure x:=by intro _;rfl):PE X (.ListComp elt [⟨tg,iter,ifs,0⟩] scope pos) (K2 wi fr g tc te):=by
 intro pins s σ H Q I h
 rw[eval_ListComp]
 refine wpAny_comprehension_free (use:=none) rfl hs (qF (S.cells I)) S.kind S.names (aK (hi pins s σ H _ I h) λv s1 h1=>aK h1 λitv s2 h2=>?_)
 obtain⟨it,fp,tn,J,H2,e,I2,T,st2,f2,hW⟩:=h2
 subst e
 refine qK (Rr:=λacc C=>compPost (model X.prog X.w) X.A X.xe none (EP X pins σ Q) acc C) hc S (B.at _ _) I2 T st2 f2 hW ?_
 intro D C s' H' m hC hD I' hns hHC q
 exact⟨m,hns,λh' sb=>⟨.ref D,H',I2.drop hC I' hHC sb,rfl,q⟩⟩
theorem K4 {i:Nat}{x:Str}{px spos:Pos}(hc:X.calm=true)(S:cQ X scope N fr)(hi:PI X tg iter wi)(B:oC X scope N tg ifs elt g tc te)(hN:X.N.Nodup)(hix:X.N[i]? = some x)(hx:X.env.scope.names.lookup x=some .local)(hsw:swapsWith (.ListComp elt [⟨tg,iter,ifs,0⟩] scope pos) (some (.Name x px)) spos.line X.env=pure true)(hs:∀x,foldedSetIterable iter X.env x=pure x:=by intro _;rfl) :
  PS X (.Assign [.Name x px] (.ListComp elt [⟨tg,iter,ifs,0⟩] scope pos) spos) (kQ (K2 wi fr g tc te) (cV i)):=by
 intro pins s σ H D I h
 rw[exec_Assign_Name_used _ _ _ _ hsw]
 refine bk3 (wpAny_standAt (bk3 ?_))
 show wpAny _ _ (do let _ <- comprehension (.ListComp elt [⟨tg,iter,ifs,0⟩] scope pos) scope X.env _ (newList []) false (eval iter X.env) (some (assign (.Name x px) X.env))) _ _ s
 refine bk3 (bs2 (wpAny_comprehension_free (Q:=λ_ s'=>SP X pins D .next s') (use:=some (assign (.Name x px) X.env)) rfl hs (qF (S.cells I)) S.kind S.names (aK (hi pins s σ H _ I h) λv s1 h1=>aK h1 λitv s2 h2=>?_))
  (λ_ s' hq=>bk8 (bk8 hq)) λ_ _ e=>e)
 obtain⟨it,fp,tn,J,H2,e,I2,T,st2,f2,hW⟩:=h2
 subst e
 refine qK (Rr:=λacc C=>compPost (model X.prog X.w) X.A X.xe (some (assign (.Name x px) X.env)) (λ_ s'=>SP X pins D .next s') acc C) hc S (B.at _ _) I2 T st2 f2 hW ?_
 intro D' C s' H' m hC hD I' hns hHC q
 refine wpAny_assign_Name (uD I' hN hix (.inl hx) (v:=.ref D') rfl (λs'' I'' sb=>?_) (.inr hx))
 obtain⟨a,sb,ha⟩:=sb
 have hCa:C≠a:=by
  rcases ha with z|z
  ·rw[z];exact bv2 (bm5 I2.lt hC)
  ·intro e;subst e
   obtain⟨v,q⟩:=I2.cell x _ z
   exact absurd (bm5 q.lt hC) (br2 _)
 exact⟨m,hns.sameBut sb hCa,λh' sb'=>⟨_,H',I2.drop hC I'' hHC sb',q⟩⟩
variable {gh:Hp→TG}{tch:Hp→TT}{teh:Hp→TE}
def vO (wi:TI)(fr:List (Option Nat))(gh:Hp->TG)(tch:Hp->TT)(teh:Hp->TE):TE:=λσ H Q=>wi σ H λJ H1=>∀D,H1 D=none->
 ∃W:Nat->Nat->List V->Hp->Prop,(∃m,W 0 m [] (upd H1 D (.lst [])))/\oB (gh H1) (tch H1) (teh H1) (fH fr σ) J D Q W
theorem vP (hc:X.calm=true)(S:cQ X scope N fr)(hi:PI X tg iter wi)(B:∀(s:Shared) (H:Hp),m6 X scope N tg ifs elt s H (gh H) (tch H) (teh H))(hs:∀x,foldedSetIterable iter X.env x=pure x:=by intro _;rfl):PE X (.ListComp elt [⟨tg,iter,ifs,0⟩] scope pos) (vO wi fr gh tch teh):=by
 intro pins s σ H Q I h
 rw[eval_ListComp]
 refine wpAny_comprehension_free (use:=none) rfl hs (qF (S.cells I)) S.kind S.names (aK (hi pins s σ H _ I h) λv s1 h1=>aK h1 λitv s2 h2=>?_)
 obtain⟨it,fp,tn,J,H2,e,I2,T,st2,f2,hW⟩:=h2
 subst e
 refine qK (Rr:=λacc C=>compPost (model X.prog X.w) X.A X.xe none (EP X pins σ Q) acc C) hc S (B _ _) I2 T st2 f2 hW ?_
 intro D C s' H' m hC hD I' hns hHC q
 exact⟨m,hns,λh' sb=>⟨.ref D,H',I2.drop hC I' hHC sb,rfl,q⟩⟩
theorem K5 {i:Nat}{x:Str}{px spos:Pos}(hc:X.calm=true)(S:cQ X scope N fr)(hi:PI X tg iter wi)(B:∀(s:Shared) (H:Hp),m6 X scope N tg ifs elt s H (gh H) (tch H) (teh H))(hN:X.N.Nodup)(hix:X.N[i]? = some x)(hx:X.env.scope.names.lookup x=some .local)(hsw:swapsWith (.ListComp elt [⟨tg,iter,ifs,0⟩] scope pos) (some (.Name x px)) spos.line X.env=pure true)(hs:∀x,foldedSetIterable iter X.env x=pure x:=by intro _;rfl) :
  PS X (.Assign [.Name x px] (.ListComp elt [⟨tg,iter,ifs,0⟩] scope pos) spos) (kQ (vO wi fr gh tch teh) (cV i)):=by
 intro pins s σ H D I h
 rw[exec_Assign_Name_used _ _ _ _ hsw]
 refine bk3 (wpAny_standAt (bk3 ?_))
 show wpAny _ _ (do let _ <- comprehension (.ListComp elt [⟨tg,iter,ifs,0⟩] scope pos) scope X.env _ (newList []) false (eval iter X.env) (some (assign (.Name x px) X.env))) _ _ s
 refine bk3 (bs2 (wpAny_comprehension_free (Q:=λ_ s'=>SP X pins D .next s') (use:=some (assign (.Name x px) X.env)) rfl hs (qF (S.cells I)) S.kind S.names (aK (hi pins s σ H _ I h) λv s1 h1=>aK h1 λitv s2 h2=>?_))
  (λ_ s' hq=>bk8 (bk8 hq)) λ_ _ e=>e)
 obtain⟨it,fp,tn,J,H2,e,I2,T,st2,f2,hW⟩:=h2
 subst e
 refine qK (Rr:=λacc C=>compPost (model X.prog X.w) X.A X.xe (some (assign (.Name x px) X.env)) (λ_ s'=>SP X pins D .next s') acc C) hc S (B _ _) I2 T st2 f2 hW ?_
 intro D' C s' H' m hC hD I' hns hHC q
 refine wpAny_assign_Name (uD I' hN hix (.inl hx) (v:=.ref D') rfl (λs'' I'' sb=>?_) (.inr hx))
 obtain⟨a,sb,ha⟩:=sb
 have hCa:C≠a:=by
  rcases ha with z|z
  ·rw[z];exact bv2 (bm5 I2.lt hC)
  ·intro e;subst e
   obtain⟨v,q⟩:=I2.cell x _ z
   exact absurd (bm5 q.lt hC) (br2 _)
 exact⟨m,hns.sameBut sb hCa,λh' sb'=>⟨_,H',I2.drop hC I'' hHC sb',q⟩⟩
end
theorem aZ {H:Hp}{p:Addr}(h:H p=none)(o:HO):aA H (upd H p o):=λb u q=>by rw[aC (bX q h)];exact q
theorem aA.tup {K:ad}{H H':Hp}{a:Addr}{xs:List V}(e:aA H H')(h:aH K H a xs):aH K H' a xs:=by
 rcases h with (h|⟨o,h⟩)|h
 ·exact .inl (.inl (e _ _ h))
 ·exact .inl (.inr ⟨o,e _ _ h⟩)
 ·exact .inr h
structure K6 (H:Hp)(J:It)(xs:List V):Prop where
 go:∀i H',aA H H'->i<xs.length->J.go i H'
 yld:∀i H' x H2,aA H H'->J.yld i H' x H2->i<xs.length->xs[i]? = some x/\H2=H'
 stop:∀H',aA H H'->J.stop xs.length H'
theorem K7 {K:ad}{H:Hp}{a:Addr}{xs:List V}(h:aH K H a xs):K6 H (jN K a) xs:=
 ⟨λi H' e hi=>⟨xs,xs[i],e.tup h,by simp[hi]⟩,λi H' x H2 e y hi=>⟨y.2 xs (e.tup h),y.1⟩,λH' e=>⟨xs,e.tup h,bk7 _⟩⟩
def gH (lo:Int)(n:Nat):List V:=(List.range n).map λ(i:Nat)=>V.int (lo+(i:Int))
theorem qL (lo:Int)(n:Nat):(gH lo n).length=n:=by unfold gH;rw[bl5,by7]
def CW (H1:Hp)(D:Addr)(n:Nat)(Pv:Nat->List V->Hp->Prop):Nat->Nat->List V->Hp->Prop:=λi m acc H'=>m=n-i/\i<=n/\acc.length<=i/\aA H1 H'/\H' D=some (.lst acc)/\Pv i acc H'
def vQ (H1:Hp)(D:Addr)(n:Nat)(Pv:Nat->List V->Hp->Prop)(i:Nat)(acc:List V)(v:V)(H5:Hp):Prop:=H5 D=some (.lst acc)/\acc.length<sizeLine/\∃m',m'<n-i/\CW H1 D n Pv (i+1) m' (acc++[v]) (upd H5 D (.lst (acc++[v])))
def K8 (H1:Hp)(D:Addr)(n:Nat)(Pv:Nat->List V->Hp->Prop)(i:Nat)(acc:List V)(H4:Hp):Prop:=∃m',m'<n-i/\CW H1 D n Pv (i+1) m' acc H4
structure qM (H1:Hp)(D:Addr)(n i:Nat)(acc:List V)(H':Hp):Prop where
 lt:i<n
 few:acc.length<=i
 sz:n<=sizeLine
 same:aA H1 H'
 new:H1 D=none
 acc:H' D=some (.lst acc)
theorem qM.yes {H1:Hp}{D:Addr}{n i:Nat}{acc:List V}{H' H5:Hp}{Pv:Nat->List V->Hp->Prop}{v:V}(c:qM H1 D n i acc H')(s:aA H' H5)(p:Pv (i+1) (acc++[v]) (upd H5 D (.lst (acc++[v])))):vQ H1 D n Pv i acc v H5:=by
 refine⟨s _ _ c.acc,bA4 c.few (bm5 c.lt c.sz),_,?_,rfl,c.lt,?_,λb o e=>?_,aT,p⟩
 ·have:=c.lt;omega
 ·rw[bm7,bq6];exact Nat.succ_le_succ c.few
 ·rw[aC (bX e c.new)];exact s _ _ (c.same _ _ e)
theorem K9 {H1:Hp}{J:It}{xs:List V}{g:TG}{tc:TT}{te:TE}{σ0:St}{Q:VK}(O:K6 H1 J xs)(Pv:Nat->List V->Hp->Prop)(hn:xs.length<=sizeLine)(h0:∀D,H1 D=none->Pv 0 [] (upd H1 D (.lst [])))(hs:∀i x acc D H',xs[i]? = some x->qM H1 D xs.length i acc H'->Pv i acc H'->g x σ0 H' λσ2 H3=>Wk σ0 σ2/\tc σ2 H3 λb H4=>
   if b=true then te σ2 H4 λv H5=>vQ H1 D xs.length Pv i acc v H5 else K8 H1 D xs.length Pv i acc H4)(hd:∀D acc H',H1 D=none->aA H1 H'->H' D=some (.lst acc)->acc.length<=xs.length->Pv xs.length acc H'->Q (.ref D) H') :
  ∀D,H1 D=none->∃W:Nat->Nat->List V->Hp->Prop,(∃m,W 0 m [] (upd H1 D (.lst [])))/\oB g tc te σ0 J D Q W:=by
 intro D hD
 refine⟨CW H1 D xs.length Pv,⟨xs.length,rfl,bo4 _,bk7 _,aZ hD _,aT,h0 D hD⟩,?_⟩
 rintro i m acc H' ⟨rfl,hi,ha,sm,hDa,p⟩
 refine⟨hDa,?_⟩
 by_cases hlt:i<xs.length
 ·refine .inr ⟨O.go i H' sm hlt,λx H2 y=>?_⟩
  obtain⟨hx,e⟩:=O.yld i H' x H2 sm y hlt
  subst e
  exact hs i x acc D H2 hx ⟨hlt,ha,hn,sm,hD,hDa⟩ p
 ·have e:i=xs.length:=by omega
  subst e
  exact .inl ⟨O.stop H' sm,hd D acc H' hD sm hDa ha p⟩
end L2
namespace Srt
open PySem PySem.W PyProof.Rows
abbrev G (p:Array Nat)(i:Nat):Nat:=p.getD i 0
theorem oD {p q:Array Nat}{i j:Nat}(h:p[i]? = q[j]?):G p i=G q j:=by
 unfold G;rw[bw5,bw5,h]
theorem vR {p:Array Nat}{i j:Nat}(hj:j<=p.size)(k:Nat):G (kas_rev p i j) k=if i<=k/\k<j then G p (i+j-1-k) else G p k:=by
 have e:=getElem?_mirror_all (i:=i) hj k
 unfold kas_rev
 by_cases h1:i<=k/\k<j
 ·rw[if_pos h1]at e ⊢;exact oD e
 ·rw[if_neg h1]at e ⊢;exact oD e
theorem ax8 {p:Array Nat}{src d:Nat}(hs:src<p.size)(hd:d<=src)(k:Nat):G (bubble p src d) k=if k=src-d then G p src else if src-d<k/\k<=src then G p (k-1) else G p k:=by
 have e:=getElem?_bubble hs d hd k
 by_cases h1:k=src-d
 ·rw[if_pos h1]at e ⊢;exact oD e
 ·rw[if_neg h1]at e ⊢
  by_cases h2:src-d<k/\k<=src
  ·rw[if_pos h2]at e ⊢;exact oD e
  ·rw[if_neg h2]at e ⊢;exact oD e
def PP (n:Nat)(p:Array Nat):Prop:=p.toList.Perm (List.range n)
theorem PP.size {n:Nat}{p:Array Nat}(h:PP n p):p.size=n:=by
 have:=h.length_eq
 rw[by7]at this
 simpa using this
theorem PP.lt {n:Nat}{p:Array Nat}(h:PP n p){k:Nat}(hk:k<n):G p k<n:=by
 have hs:=h.size
 have hk':k<p.toList.length:=by simpa[hs] using hk
 have e:G p k=p.toList[k]:=by
  unfold G;rw[bw5];simp[hs,hk]
 have m:p.toList[k]∈p.toList:=bs6 hk'
 rw[e]
 exact bA2.mp (h.mem_iff.mp m)
theorem PP.of {n:Nat}{p q:Array Nat}(h:PP n p)(e:q.Perm p):PP n q:=(Array.perm_iff_toList_perm.mp e).trans h
theorem PP.rev {n:Nat}{p:Array Nat}(h:PP n p)(i j:Nat):PP n (kas_rev p i j):=h.of (mirror_perm _ _ _ _)
theorem PP.bub {n:Nat}{p:Array Nat}(h:PP n p)(i j:Nat):PP n (bubble p i j):=h.of (bubble_perm _ _ _)
structure vS (c:Nat->Nat->Bool):Prop where
 asym:∀{i j},c i j=true->c j i=false
 ntr:∀{i j k},c i j=false->c j k=false->c i k=false
section
variable {c:Nat→Nat→Bool}(O:vS c)
def Le (c:Nat->Nat->Bool)(i j:Nat):Prop:=c j i=false
include O
theorem le_refl (i:Nat):Le c i i:=by
 unfold Le
 cases h:c i i with
 |false=>rfl
 |true=>have:=O.asym h;rw[h]at this;exact this
theorem le_trans {i j k:Nat}(h1:Le c i j)(h2:Le c j k):Le c i k:=O.ntr h2 h1
theorem qN {i j:Nat}(h:c i j=true):Le c i j:=O.asym h
omit O
def fJ (c:Nat->Nat->Bool)(p:Array Nat)(n:Nat):Prop:=∀a b,a<=b->b<n->Le c (G p a) (G p b)
def jR (c:Nat->Nat->Bool)(p:Array Nat)(n:Nat):Prop:=∀a b,a<=b->b<n->Le c (G p b) (G p a)
include O
theorem ax9 {p:Array Nat}{n:Nat}(h:fJ c p n)(h1:1<=n)(hl:Le c (G p (n-1)) (G p n)):fJ c p (n+1):=λa b hab hb=>by
 by_cases hbn:b<n
 ·exact h a b hab hbn
 ·have e:b=n:=by omega
  subst e
  by_cases han:a=b
  ·subst han;exact le_refl O _
  ·exact le_trans O (h a (b-1) (by omega) (by omega)) hl
theorem qO {p:Array Nat}{n:Nat}(h:jR c p n)(h1:1<=n)(hl:Le c (G p n) (G p (n-1))):jR c p (n+1):=λa b hab hb=>by
 by_cases hbn:b<n
 ·exact h a b hab hbn
 ·have e:b=n:=by omega
  subst e
  by_cases han:a=b
  ·subst han;exact le_refl O _
  ·exact le_trans O hl (h a (b-1) (by omega) (by omega))
omit O
def c6 {α:Type}(n:Nat)(c:Nat->Nat->Bool)(R:α->Prop):KasT α->Prop
 |.ret a=>R a
 |.ask i j k=>i<n/\j<n/\c6 n c R (k (c i j))
theorem c6.mono {α:Type}{n:Nat}{R R':α->Prop}(h:∀a,R a->R' a):∀(t:KasT α),c6 n c R t->c6 n c R' t
 |.ret a,q=>h a q
 |.ask i j k,q=>⟨q.1,q.2.1,c6.mono h (k (c i j)) q.2.2⟩
theorem c6.bind {α β:Type}{n:Nat}{R:α->Prop}{R':β->Prop}{f:α->KasT β}(h:∀a,R a->c6 n c R' (f a)):∀(t:KasT α),c6 n c R t->c6 n c R' (t.bind f)
 |.ret a,q=>h a q
 |.ask i j k,q=>⟨q.1,q.2.1,c6.bind h (k (c i j)) q.2.2⟩
theorem c6.run {α:Type}{n:Nat}{R:α->Prop}{I:Shared->Prop}{cmp:Nat->Nat->(Bool->Shared->Prop)->Shared->Prop}{Q:α->Shared->Prop}(hc:∀i j C s,i<n->j<n->I s->(∀s',I s'->C (c i j) s')->cmp i j C s)(hQ:∀a s,R a->I s->Q a s):∀(t:KasT α) (s:Shared),I s->c6 n c R t->t.kasWp cmp Q s
 |.ret a,s,hI,q=>hQ a s q hI
 |.ask i j k,s,hI,q=>hc i j _ s q.1 q.2.1 hI λs' hI'=>c6.run hc hQ (k (c i j)) s' hI' q.2.2
include O
theorem vT {n:Nat}{p:Array Nat}(hp:PP n p):∀(f m:Nat),1<=m->m+f<=n->fJ c p m->c6 n c (λr=>m<=r/\r<=m+f/\fJ c p r/\(r<m+f->c (G p r) (G p (r-1))=true)) (kas_asc p f m)
 |0,m,_,_,h=>⟨bk7 _,bk7 _,h,λz=>absurd z (br2 _)⟩
 |f+1,m,h1,h2,h=>by
  refine⟨hp.lt (by omega),hp.lt (by omega),?_⟩
  by_cases hc:c (p.getD m 0) (p.getD (m-1) 0)=true
  ·simp only[hc,if_true]
   exact⟨bk7 _,by omega,h,λ_=>hc⟩
  ·have hc':c (p.getD m 0) (p.getD (m-1) 0)=false:=by6.mpr hc
   simp only[hc',bn0,bq1]
   refine c6.mono (λr q=>⟨by omega,by omega,q.2.2.1,λz=>q.2.2.2 (by omega)⟩) _ (vT hp f (m+1) (by omega) (by omega) (ax9 O h h1 hc'))
omit O
def kU (c:Nat->Nat->Bool)(i j:Nat):Prop:=Le c i j/\Le c j i
include O
theorem vU {p q:Array Nat}{n:Nat}(h:jR c p n)(e:∀k,k<n->kU c (G q k) (G p k)):jR c q n:=λa b hab hb=>
 le_trans O (e b hb).1 (le_trans O (h a b hab hb) (e a (by omega)).2)
theorem L0 {n m i:Nat}{p:Array Nat}(hp:PP n p)(hm:m<=n)(h:∀a,i<=a->a<m->kU c (G p a) (G p (m-1))):∀k,kU c (G (kas_rev p i m) k) (G p k):=λk=>by
 rw[vR (by rw[hp.size];exact hm)]
 by_cases hk:i<=k/\k<m
 ·rw[if_pos hk]
  have h1:=h (i+m-1-k) (by omega) (by omega)
  have h2:=h k hk.1 hk.2
  exact⟨le_trans O h1.1 h2.2,le_trans O h2.1 h1.2⟩
 ·rw[if_neg hk];exact⟨le_refl O _,le_refl O _⟩
omit O
def DI (c:Nat->Nat->Bool)(n:Nat)(p:Array Nat)(m q:Nat):Prop:=PP n p/\1<=m/\m<=n/\jR c p m/\q+1<=m/\∀a,m-(q+1)<=a->a<m->kU c (G p a) (G p (m-1))
include O
theorem L1 {n m q:Nat}{p:Array Nat}(h:DI c n p m q):PP n (kas_rev p (m-(q+1)) m)/\∀k,kU c (G (kas_rev p (m-(q+1)) m) k) (G p k):=
 ⟨h.1.rev _ _,L0 O h.1 h.2.2.1 h.2.2.2.2.2⟩
theorem qP {n:Nat}:∀(f:Nat) (p:Array Nat) (m q:Nat),m+f<=n->DI c n p m q->c6 n c (λr=>DI c n r.1 r.2.1 r.2.2) (kas_desc f p m q)
 |0,p,m,q,_,h=>h
 |f+1,p,m,q,hf,h=>by
  have hp:=h.1
  have h1:=h.2.1
  refine⟨hp.lt (by omega),hp.lt (by omega),?_⟩
  by_cases hc:c (p.getD m 0) (p.getD (m-1) 0)=true
  ·simp only[hc,if_true]
   have dn:jR c p (m+1):=qO O h.2.2.2.1 h1 (qN O hc)
   by_cases hq:q>0
   ·simp only[hq,if_true]
    obtain⟨pr,er⟩:=L1 O h
    refine qP f _ (m+1) 0 (by omega) ⟨pr,by omega,by omega,vU O dn λk _=>er k,by omega,λa h1 h2=>?_⟩
    have e:a=m+1-1:=by omega
    rw[e];exact⟨le_refl O _,le_refl O _⟩
   ·simp only[hq,bq1]
    refine qP f p (m+1) 0 (by omega) ⟨hp,by omega,by omega,dn,by omega,λa h1 h2=>?_⟩
    have e:a=m+1-1:=by omega
    rw[e];exact⟨le_refl O _,le_refl O _⟩
  ·have hc':c (p.getD m 0) (p.getD (m-1) 0)=false:=by6.mpr hc
   simp only[hc',bn0,bq1]
   refine⟨hp.lt (by omega),hp.lt (by omega),?_⟩
   by_cases hd:c (p.getD (m-1) 0) (p.getD m 0)=true
   ·simp only[hd,if_true]
    exact h
   ·have hd':c (p.getD (m-1) 0) (p.getD m 0)=false:=by6.mpr hd
    simp only[hd',bn0,bq1]
    have ee:kU c (G p (m-1)) (G p m):=⟨hc',hd'⟩
    refine qP f p (m+1) (q+1) (by omega) ⟨hp,by omega,by omega,qO O h.2.2.2.1 h1 ee.2,by have:=h.2.2.2.2.1;omega,λa h1 h2=>?_⟩
    rw[Nat.add_sub_cancel]
    by_cases ha:a=m
    ·rw[ha];exact⟨le_refl O _,le_refl O _⟩
    ·have z:=h.2.2.2.2.2 a (by omega) (by omega)
     exact⟨le_trans O z.1 ee.1,le_trans O ee.2 z.2⟩
omit O
def CI (c:Nat->Nat->Bool)(n:Nat)(r:Nat×Array Nat):Prop:=PP n r.2/\1<=r.1/\r.1<=n/\fJ c r.2 r.1
include O
theorem L3 {n m:Nat}{p:Array Nat}(hp:PP n p)(h1:1<=m)(hm:m<=n)(h:jR c p m):c6 n c (CI c n) (kas_tail3 m n p):=by
 have ha:fJ c (kas_rev p 0 m) m:=λa b hab hb=>by
  rw[vR (by rw[hp.size];exact hm),vR (by rw[hp.size];exact hm),if_pos ⟨bo4 _,by omega⟩,if_pos ⟨bo4 _,hb⟩]
  exact h _ _ (by omega) (by omega)
 refine c6.bind (R:=λr=>m<=r/\r<=m+(n-m)/\fJ c (kas_rev p 0 m) r/\_) (λr q=>?_) _ (vT O (hp.rev 0 m) (n-m) m h1 (by omega) ha)
 exact⟨hp.rev _ _,by have:=q.1;omega,by have:=q.2.1;omega,q.2.2.1⟩
theorem L4 {n m:Nat}{p:Array Nat}(hp:PP n p)(h1:1<=m)(hm:m+1<=n)(h:jR c p (m+1)):c6 n c (CI c n) (kas_descPart m n p):=by
 refine c6.bind (R:=λr=>DI c n r.1 r.2.1 r.2.2) (λr q=>?_) _ (qP O (n-(m+1)) p (m+1) 0 (by omega) ⟨hp,by omega,hm,h,by omega,λa h1 h2=>?_⟩)
 ·by_cases hq:r.2.2>0
  ·rw[if_pos hq]
   obtain⟨pr,er⟩:=L1 O q
   exact L3 O pr q.2.1 q.2.2.1 (vU O q.2.2.2.1 λk _=>er k)
  ·rw[if_neg hq]
   exact L3 O q.1 q.2.1 q.2.2.1 q.2.2.2.1
 ·have e:a=m+1-1:=by omega
  rw[e];exact⟨le_refl O _,le_refl O _⟩
theorem ay0 {n:Nat}{p:Array Nat}(hp:PP n p)(hn:1<=n):c6 n c (CI c n) (kas_count n p):=by
 have a1:fJ c p 1:=λa b hab hb=>by
  have e1:a=0:=by omega
  have e2:b=0:=by omega
  rw[e1,e2];exact le_refl O _
 refine c6.bind (R:=λr=>1<=r/\r<=1+(n-1)/\fJ c p r/\(r<1+(n-1)->c (G p r) (G p (r-1))=true)) (λm q=>?_) _ (vT O hp (n-1) 1 (bk7 _) (by omega) a1)
 obtain⟨q1,q2,q3,q4⟩:=q
 by_cases hm:(m==n)=true
 ·rw[if_pos hm]
  exact⟨hp,q1,by omega,q3⟩
 ·rw[if_neg hm]
  have hne:m≠n:=by simpa using hm
  have hc:=q4 (by omega)
  by_cases h1:m>1
  ·rw[if_pos h1]
   refine⟨hp.lt (by omega),hp.lt (by omega),?_⟩
   by_cases hd:c (p.getD 0 0) (p.getD (m-1) 0)=true
   ·simp only[hd,if_true]
    exact⟨hp,q1,by omega,q3⟩
   ·have hd':c (p.getD 0 0) (p.getD (m-1) 0)=false:=by6.mpr hd
    simp only[hd',bn0,bq1]
    have eq:∀a,0<=a->a<m->kU c (G p a) (G p (m-1)):=λa _ ha=>⟨q3 a (m-1) (by omega) (by omega),le_trans O hd' (q3 0 a (bo4 _) ha)⟩
    have er:=L0 O hp (by omega:m<=n) eq
    refine L4 O (hp.rev 0 m) q1 (by omega) (vU O (p:=p) ?_ λk _=>er k)
    refine qO O (λa b hab hb=>?_) q1 (qN O hc)
    exact le_trans O (eq b (bo4 _) hb).1 (eq a (bo4 _) (by omega)).2
  ·rw[if_neg h1]
   have e:m=1:=by omega
   subst e
   refine L4 O hp (bk7 _) (by omega) (qO O (λa b hab hb=>?_) (bk7 _) (qN O hc))
   have e1:a=0:=by omega
   have e2:b=0:=by omega
   rw[e1,e2];exact le_refl O _
theorem vV {n k:Nat}{p:Array Nat}(hp:PP n p)(hk:k<n)(ha:fJ c p k):∀(f l r:Nat),l<=r->r<=k->r-l<=f->(∀a,a<l->Le c (G p a) (G p k))->(∀a,r<=a->a<k->Le c (G p k) (G p a))->
  c6 n c (λl=>l<=k/\(∀a,a<l->Le c (G p a) (G p k))/\∀a,l<=a->a<k->Le c (G p k) (G p a)) (kas_place p k f l r)
 |0,l,r,h1,h2,h3,hl,hr=>⟨by omega,hl,λa h4 h5=>hr a (by omega) h5⟩
 |f+1,l,r,h1,h2,h3,hl,hr=>by
  unfold kas_place
  by_cases hlr:l >= r
  ·rw[if_pos hlr]
   exact⟨by omega,hl,λa h4 h5=>hr a (by omega) h5⟩
  ·rw[if_neg hlr]
   refine⟨hp.lt hk,hp.lt (by omega),?_⟩
   by_cases hc:c (p.getD k 0) (p.getD ((l+r)/2) 0)=true
   ·simp only[hc,if_true]
    exact vV hp hk ha f l ((l+r)/2) (by omega) (by omega) (by omega) hl λa h4 h5=>le_trans O (qN O hc) (ha _ _ h4 h5)
   ·have hc':c (p.getD k 0) (p.getD ((l+r)/2) 0)=false:=by6.mpr hc
    simp only[hc',bn0,bq1]
    exact vV hp hk ha f ((l+r)/2+1) r (by omega) h2 (by omega) (λa h4=>le_trans O (ha a ((l+r)/2) (by omega) (by omega)) hc') hr
theorem L5 {n:Nat}:∀(f:Nat) (p:Array Nat) (k:Nat),PP n p->k+f<=n->fJ c p k->c6 n c (λq=>PP n q/\fJ c q (k+f)) (kas_bin f p k)
 |0,p,k,hp,_,h=>⟨hp,h⟩
 |f+1,p,k,hp,hk,h=>by
  refine c6.bind (R:=λl=>l<=k/\(∀a,a<l->Le c (G p a) (G p k))/\∀a,l<=a->a<k->Le c (G p k) (G p a)) (λl q=>?_) _ (vV O hp (by omega) h k 0 k (bo4 _) (bk7 _) (by omega) (λa z=>absurd z (Nat.not_lt_zero _)) λa h1 h2=>absurd h2 (by omega))
  obtain⟨q1,q2,q3⟩:=q
  have e:∀a,G (bubble p k (k-l)) a=if a=l then G p k else if l<a/\a<=k then G p (a-1) else G p a:=λa=>by
   rw[ax8 (by rw[hp.size];omega) (by omega),show k-(k-l)=l by omega]
  refine c6.mono (λr z=>⟨z.1,by rw[show k+(f+1)=k+1+f by omega];exact z.2⟩) _ (L5 f _ (k+1) (hp.bub _ _) (by omega) λa b hab hb=>?_)
  rw[e,e]
  by_cases ha:a=l
  ·rw[if_pos ha]
   by_cases hb':b=l
   ·rw[if_pos hb'];exact le_refl O _
   ·rw[if_neg hb',if_pos (by omega)];exact q3 _ (by omega) (by omega)
  ·rw[if_neg ha]
   by_cases ha2:l<a/\a<=k
   ·rw[if_pos ha2,if_neg (by omega),if_pos (by omega)]
    exact h _ _ (by omega) (by omega)
   ·rw[if_neg ha2]
    by_cases hb':b=l
    ·rw[if_pos hb'];exact q2 a (by omega)
    ·rw[if_neg hb']
     by_cases hb2:l<b/\b<=k
     ·rw[if_pos hb2];exact h _ _ (by omega) (by omega)
     ·rw[if_neg hb2];exact h _ _ hab (by omega)
theorem ay1 {n:Nat}(hn:1<=n):c6 n c (λq=>PP n q/\fJ c q n) (kas_sort n):=by
 have hp:PP n (List.toArray (List.range n)):=by unfold PP;simp
 refine c6.bind (R:=CI c n) (λr q=>?_) _ (ay0 O hp hn)
 obtain⟨q1,q2,q3,q4⟩:=q
 by_cases h:r.1<n
 ·rw[if_pos h]
  have e:max r.1 1=r.1:=by omega
  rw[e]
  exact c6.mono (λp z=>⟨z.1,by rw[show r.1+(n-r.1)=n by omega]at z;exact z.2⟩) _ (L5 O (n-r.1) r.2 r.1 q1 (by omega) q4)
 ·rw[if_neg h]
  have e:r.1=n:=by omega
  exact⟨q1,by rw[e]at q4;exact q4⟩
end
end Srt
namespace L2
open PySem PySem.Spec PyProof.Rows
theorem bM.there {P:Program}{w:World}{H:Hp}{h:Heap}{a:Addr}{o:HO}(x:bM P w H h a o):∃u,h.get? a=some u:=by
 cases o with
 |lst xs=>obtain⟨_,_,_,_,e⟩:=x;exact⟨_,e⟩
 |tup xs=>obtain⟨_,_,_,⟨o,e,_⟩,_⟩:=x;exact⟨_,e⟩
 |dK kvs=>obtain⟨_,_,_,_,o,_,_,e,_⟩:=x;exact⟨_,e⟩
 |dT kvs=>obtain⟨_,_,_,_,o,_,_,e,_⟩:=x;exact⟨_,e⟩
 |set S n=>obtain⟨o,_,_,_,e,_⟩:=x;exact⟨_,e⟩
 |ins C dx fs=>obtain⟨_,_,_,e,_⟩:=x;exact⟨_,e⟩
 |own y=>exact x
 |xd fs=>obtain⟨_,⟨_,_,_,e,_⟩,_⟩:=x;exact⟨_,e⟩
 |rng lo hi=>obtain⟨_,_,_,e⟩:=x;exact⟨_,e⟩
 |frz ob u=>obtain⟨e,_⟩:=x;exact⟨_,e⟩
 |tbl ps=>exact⟨_,(show h.get? a=some _ from x)⟩
 |met f y=>exact⟨_,(show h.get? a=some _ from x)⟩
 |ext φ=>obtain⟨_,z,_⟩:=x;exact z
section
variable {X:Cx}{pins:List (Addr×Obj)}{σ:St}{H:Hp}{s:Shared}{h':Heap}{a:Addr}{o:HO}{t':Nat}
theorem a6.laidF (I:a6 X pins σ H s)(hn:s.heap.get? a=none)(k:∀b u,b≠X.env.locals->s.heap.get? b=some u->h'.get? b=some u)(ns:∀m,s.heap.Ns X.env.locals m->h'.Ns X.env.locals m)(new:bM X.prog X.w (upd H a o) h' a o):H a=none/\a6 X pins σ (upd H a o) { s with heap:=h',toks:=t' }:=by
 have hHn:H a=none:=by
  cases q:H a with
  |none=>rfl
  |some u=>obtain⟨z,e⟩:=(I.hok a u q).there;rw[hn]at e;cases e
 have ne:∀b u,s.heap.get? b=some u->b≠a:=λb u e z=>by rw[z,hn]at e;cases e
 have hL:=I.free
 refine⟨hHn,I.step (g':=s.gens) (d':=s.drawn) (ch:=[]) (λ_ z=>nomatch z) (λb o' h1 _ _ e _=>k b o' h1 e) (λb o' h1 _ _ e _=>⟨o'.slots,k b o' h1 e⟩) (λb o' _ e n=>by rw[aC (ne b o' e)];exact n) (λb o' _ e=>?_)
  (λb xs q=>by rw[aC (bX q hHn)];exact q) (λb u xs q=>by rw[aC (bX q hHn)];exact q) (λb ps q=>⟨#[],by rw[aC (bX q hHn),q];simp⟩) ns (λb u q=>?_) I.bare⟩
 ·by_cases hb:b=X.env.locals
  ·obtain⟨m,hm,_⟩:=I.loc
   obtain⟨o2,_,_,e2,_⟩:=ns m hm
   exact⟨o2,by rw[hb];exact e2⟩
  ·exact⟨o',k b o' hb e⟩
 ·by_cases hb:b=a
  ·subst hb;rw[aT]at q;cases q;exact new
  ·rw[aC hb]at q
   refine (I.hok b u q).stay (λc v hc e=>k c v ?_ e) (λc e=>by rw[aC (bX e hHn)];exact e) λc xs e=>by rw[aC (bX e hHn)];exact e
   rcases hc with z|z
   ·rw[z];intro y;rw[y,hL]at q;cases q
   ·intro y;rw[y,hL]at z;cases z
theorem a6.newsAll (I:a6 X pins σ H s){news:List (Addr×Obj)}{m:Str->Option Value}(hs:∀p∈nQ X.base s.heap X.env.locals,p∈news)(F:Fr X.base X.env.locals h' m)(N:News X.base X.env.locals h' news) :
  ∀b o,b≠X.env.locals->s.heap.get? b=some o->h'.get? b=some o:=λb o h1 e=>by
 cases q:X.base.get? b with
 |some u=>
  have:=I.bk b u q
  rw[e]at this;cases this
  exact F.keep b _ q
 |none=>exact (N (b,o) (hs _ (zN h1 q e))).1
end
theorem ay2 {α:Type}{d:α}(l:List α){p:List Nat}(h:p.Perm (List.range l.length)):(p.map λi=>l.getD i d).Perm l:=by
 have e:(List.range l.length).map (λi=>l.getD i d)=l:=by
  apply List.ext_getElem
  ·simp
  ·intro i h1 h2
   simp at h1
   simp[h1]
 have:=h.map λi=>l.getD i d
 rw[e]at this
 exact this
theorem kW:∀{xs:List V}{us:List Value} (i:Nat),i<xs.length->aI xs us->aP (xs.getD i .non) (us.getD i Value.none)
 |_,_,_,h,.nil=>by simp at h
 |_,_,0,_,.cons r _=>by simpa using r
 |_,_,i+1,h,.cons _ t=>by
  have:=kW i (by simpa using h) t
  simpa using this
theorem L6 {xs:List V}{us:List Value}(r:aI xs us):∀{p:List Nat},(∀i∈p,i<xs.length)->aI (p.map λi=>xs.getD i .non) (p.map λi=>us.getD i Value.none)
 |[],_=>.nil
 |i::p,h=>.cons (kW i (h i bl7) r) (L6 r λj hj=>h j (bm1 _ hj))
theorem qQ {α:Type}:∀l:List α,(l.zip l).map (·.2)=l
 |[]=>rfl
 |a::l=>by
  show a::((l.zip l).map (·.2))=a::l
  rw[qQ l]
theorem ay3 {prog:Program}{w:World}{A:Around}{E:Value->Shared->Prop}{s:Shared}{a:Addr}{vs:List Value}{n:Nat}{P:PySem.Fin->Shared->Prop}(e:s.heap.get? a=some (seqObj "list" vs.toArray n))(few:vs.length<2)(q:P (.done (.ret .none)) { s with heap:=sortedHeap s.heap a vs vs.toArray }):wpAny (model prog w) A (Builtin.«list.sort» ⟨[.ref a],[]⟩) P E s:=by
 have big:vs.length<=sizeLine:=bp5 (bu6 few) (by decide)
 have la:=bm3 e
 have c:vs.toArray.size<2:=by simpa using few
 have same:(arrOf (SortSt.mk' general' (vs.toArray.zip vs.toArray) #[] 7 none)).map (·.2)=vs.toArray:=by
  change (vs.toArray.zip vs.toArray).map (·.2)=vs.toArray
  apply Array.ext'
  simpa using qQ vs
 obtain⟨k,ek⟩:∃k,(s.heap.update a (Obj.mapSeq λ_=>#[])).get? a=some (seqObj "list" #[] k):=⟨_,get?_update_seq e λ_=>#[]⟩
 have there:(((s.heap.update a (Obj.mapSeq λ_=>#[])).push (seqObj "tuple" vs.toArray 0)).push (seqObj "list" #[] 0)).get? a=some (seqObj "list" #[] k):=
  bk6 _ (bk6 _ ek)
 rw[list_sort_plain]
 apply bk3
 apply listItems_at e rfl
 apply bk3
 refine listUpdate_at e rfl ?_ (by simpa using big) (bo4 _)
 apply bk3
 apply seqEpoch_at ek rfl
 apply bk3
 refine wpAny_newTuple ?_ big
 apply bk3
 refine wpAny_newList ?_ (bo4 _)
 apply bt1
 simp only[c,if_true,StateT.run_pure]
 apply bk3
 apply bk8
 apply bk3
 apply bk8
 apply bk3
 apply seqEpoch_at there rfl
 apply bk3
 refine listUpdate_at there rfl ?_ (bo4 _) (by rw[same,bk9];exact Nat.le_succ_of_le big)
 rw[same]
 simp only[bne_self_eq_false,bn0,bq1]
 exact bk8 q
theorem vW {prog:Program}{w:World}{A:Around}{E:Value->Shared->Prop}{s:Shared}{l:Addr}{vs:List Value}{Q:Value->Shared->Prop}(hl:s.heap.IsList l vs.toArray)(few:vs.length<2)(q:Q (.ref (s.heap.objs.size+1)) { s with heap:=sortedAll s.heap vs vs.toArray }):wpAny (model prog w) A (call (.builtin "sorted") [.ref l]) Q E s:=by
 have big:vs.length<=sizeLine:=bp5 (bu6 few) (by decide)
 apply Calls.call_function_entry kind_sorted plain_sorted entry_sorted (args_sorted1 _)
 simp only[Builtin.«sorted»]
 apply bk3 (m:=checkCount "sorted" 1 1 _)
 apply bk8
 apply bk3
 refine collect_list hl ?_ big
 apply bk3
 refine wpAny_newList ?_ big
 have one:((s.heap.push (seqObj "list" #[] 0)).update s.heap.objs.size (Obj.mapSeq (·++vs.toArray))).objs.size=s.heap.objs.size+1:=(Heap.size_update _ _ _).trans (size_push' _ _)
 have at1:(((s.heap.push (seqObj "list" #[] 0)).update s.heap.objs.size (Obj.mapSeq (·++vs.toArray))).push (seqObj "list" vs.toArray 0)).get? (s.heap.objs.size+1)=some (seqObj "list" vs.toArray 0):=one▸bm4 _ rfl
 change wpAny _ _ _ _ _ { s with heap:=((s.heap.push (seqObj "list" #[] 0)).update s.heap.objs.size (Obj.mapSeq (·++vs.toArray))).push (seqObj "list" vs.toArray 0) }
 rw[one]
 apply bk3
 apply bt1
 refine bs4 slot_list_sort ⟨_,at1,rfl⟩ entry_list_sort ?_ (args_list_sort _)
 refine ay3 at1 few ⟨_,rfl,?_⟩
 exact bk8 ⟨_,rfl,q⟩
theorem kX:∀{a b:af},HT.aU a b=true->HT.aU b a=false
 |[],[],h=>by cases h
 |[],_::_,_=>rfl
 |_::_,[],h=>by cases h
 |x::xs,y::ys,h=>by
  rw[HT.gE]at h ⊢
  by_cases e:x=y
  ·rw[if_pos e]at h;rw[if_pos e.symm];exact kX h
  ·rw[if_neg e]at h;rw[if_neg (Ne.symm e)]
   have:=bq2 h
   exact bl1 (by omega)
theorem oE:∀{a b c:af},HT.aU a b=false->HT.aU b c=false->HT.aU a c=false
 |[],[],c,_,h=>h
 |[],_::_,_,h,_=>by cases h
 |_::_,[],[],_,_=>rfl
 |_::_,[],_::_,_,h=>by cases h
 |_::_,_::_,[],_,_=>rfl
 |x::xs,y::ys,z::zs,h1,h2=>by
  rw[HT.gE]at h1 h2 ⊢
  by_cases e1:x=y
  ·rw[if_pos e1]at h1
   by_cases e2:y=z
   ·rw[if_pos e2]at h2;rw[if_pos (e1.trans e2)];exact oE h1 h2
   ·rw[if_neg e2]at h2;rw[if_neg (by rw[e1];exact e2)];rw[e1];exact h2
  ·rw[if_neg e1]at h1
   have k1:=bw4 h1
   by_cases e2:y=z
   ·rw[<- e2,if_neg e1];exact h1
   ·rw[if_neg e2]at h2
    have k2:=bw4 h2
    rw[if_neg (by omega)]
    exact bl1 (by omega)
theorem L7:∀{a b:af},HT.aU a b=false->HT.aU b a=false->a=b
 |[],[],_,_=>rfl
 |[],_::_,h,_=>by cases h
 |_::_,[],_,h=>by cases h
 |x::xs,y::ys,h1,h2=>by
  rw[HT.gE]at h1 h2
  by_cases e:x=y
  ·rw[if_pos e]at h1;rw[if_pos e.symm]at h2;rw[e,L7 h1 h2]
  ·rw[if_neg e]at h1;rw[if_neg (Ne.symm e)]at h2
   have:=bw4 h1
   have:=bw4 h2
   omega
def L8 (H:Hp):V->af
 |.ref b=>match H b with
  |some (.tup xs)=>xs.map λx=>match x with
   |.int i=>i
   |_=>0
  |_=>[]
 |_=>[]
section
variable {prog:Program}{w:World}{A:Around}{s:Shared}{Q:Bool→Shared→Prop}
theorem vX:∀{us ws:List Value}{xs ys:af} (i:Nat),IntsAre us xs->IntsAre ws ys->Q (HT.aU xs ys) s->PySem.W.KatLex prog w A true (decide (us.length<ws.length)) Q (us.zip ws) i s
 |_,_,_,_,_,.nil,.nil,h=>h
 |_,_,_,_,_,.nil,.cons _ _ _,h=>h
 |_,_,_,_,_,.cons _ _ _,.nil,h=>h
 |_,_,_,_,i,.cons (vs:=us) x t hx,.cons (vs:=ws) y u hy,h=>by
  refine PySem.W.kat_cons (wpAny_eqBool_int ?_)
  rw[HT.gE]at h
  by_cases e:x=y
  ·rw[if_pos e]at h
   have eb:(x==y)=true:=by simpa using e
   rw[eb]
   refine PySem.W.kat_yes ?_
   have e2:decide ((Value.int x t::us).length<(Value.int y u::ws).length)=decide (us.length<ws.length):=by simp
   rw[e2]
   exact vX (i+1) hx hy h
  ·rw[if_neg e]at h
   have eb:(x==y)=false:=by simpa using e
   rw[eb]
   refine PySem.W.kat_no ?_
   cases hi:(true&&i==0) with
   |true=>exact PySem.W.kat_lt_int h
   |false=>exact PySem.W.kat_one _ _ (lt_int h)
end
def qR (K:ad):List V->Hp->VK->Prop:=λxs H Q=>∃(a:Addr) (ys:List V) (key:V->af),xs = [.ref a]/\aJ K H a ys/\ys.length<64/\(∀y∈ys,∃b,y = .ref b/\aH K H b ((key y).map V.int)/\key y≠[])/\
 ∀l (zs:List V),H l=none->zs.Perm ys->zs.Pairwise (λu v=>HT.aU (key v) (key u)=false)->Q (.ref l) (upd H l (.lst zs))
theorem ay4 {c:Nat->Nat->Bool}{R:V->V->Prop}{ys:List V}{p:Array Nat}{n:Nat}(hp:Srt.PP n p)(ha:Srt.fJ c p n)(hR:∀i j,Srt.Le c i j->R (ys.getD i .non) (ys.getD j .non)) :
  (p.toList.map λi=>ys.getD i .non).Pairwise R:=by
 rw[bs8,bp3]
 intro i j hi hj hij
 have hs:=hp.size
 have h1:i<n:=by rw[<- hs];simpa using hi
 have h2:j<n:=by rw[<- hs];simpa using hj
 have q:=ha i j (bu6 hij) h2
 have e:∀k (hk:k<p.toList.length),Srt.G p k=p.toList[k]:=λk hk=>by
  have hk':k<p.size:=by simpa using hk
  unfold Srt.G;rw[bw5];simp[hk']
 rw[e i hi,e j hj]at q
 exact hR _ _ q
theorem L9 {X:Cx}:cP X (.builtin "sorted") (qR X.K):=by
 intro pins s σ H xs us Q I r h
 obtain⟨a,ys,key,rfl,hs,h64,hk,q⟩:=h
 obtain⟨u,rfl,ru⟩:=fU r
 cases ru
 obtain⟨its,rv,p,hz⟩:=I.list hs
 have hl:=rv.length
 by_cases h2:its.length<2
 ·
  refine vW p.isList h2 ?_
  obtain⟨e,he⟩:=sortedAll_at s.heap its its.toArray
  have hn:s.heap.objs.size<=s.heap.objs.size+1:=Nat.le_succ _
  refine⟨.ref (s.heap.objs.size+1),upd H (s.heap.objs.size+1) (.lst ys),I.laid (t':=s.toks) (λ_ _=>sortedAll_old) hn ⟨hz,its,e,rv,he⟩,rfl,q _ ys (I.hok.fresh hn) (List.Perm.refl _) ?_⟩
  match ys,hl with
  |[],_=>exact bv8
  |[_],_=>exact bo1 _ _
  |_::_::_,hl=>simp at hl;omega
 ·obtain⟨m,F⟩:=I.fr
  have hL:∀{b:Addr}{k:af},aH X.K H b (k.map V.int)->b≠X.env.locals:=λ{b k} z e=>by
   obtain⟨its',_,⟨ob,e1,c1,_⟩,_⟩:=I.tuple z
   obtain⟨m',⟨o',es',ep',e2,d2,_⟩,_⟩:=I.loc
   rcases z with (z|⟨_,z⟩)|⟨o3,its3,n3,z3,zc,zd,_⟩
   ·rw[e,I.free]at z;cases z
   ·rw[e,I.free]at z;cases z
   ·have:=I.kIn b o3 z3
    rw[e,e2]at this
    cases this
    rw[d2]at zd;cases zd
  refine PySem.W.kat_sorted F (am7 (g:=X.base) (h:=s.heap) (L:=X.env.locals)) p.isList (by omega) (by omega) λD e1 h' F' N' hD=>?_
  have keep:=I.newsAll (λp hp=>bm1 _ hp) F' N'
  have look:∀i,i<ys.length->∃(b:Addr) (ob:Obj) (us:List Value) (n:Nat),its.getD i Value.none = .ref b/\h'.get? b=some ob/\ob.cls = .type "tuple"/\ob.data = .seq us.toArray n/\IntsAre us (key (ys.getD i .non))/\key (ys.getD i .non)≠[]:=λi hi=>by
   have hy:ys.getD i .non∈ys:=by
    rw[bl3,bk5 hi];exact bs6 hi
   obtain⟨b,eb,sq,ne⟩:=hk _ hy
   have rr:=kW i hi rv
   rw[eb]at rr
   have rr:its.getD i Value.none = .ref b:=rr
   obtain⟨us,ru,⟨ob,e1,c1,n1,d1⟩,_⟩:=I.tuple sq
   exact⟨b,ob,us,n1,rr,keep b ob (hL sq) e1,c1,d1,kS ru,ne⟩
  have firsts:∀{xs:List V}{vs:List Value},aI xs vs->(∀y∈xs,∃b,y = .ref b/\aH X.K H b ((key y).map V.int)/\key y≠[])->∃fs:List Value,PySem.W.KatTups h' vs fs/\fs.length=vs.length/\∀v∈fs,∃i t,v=Value.int i t:=by
   intro xs vs r
   induction r with
   |nil=>intro _;exact⟨[],PySem.W.KatTups.nil,rfl,λ_ z=>nomatch z⟩
   |@cons x v xs vs rx rt ih=>
    intro hh
    obtain⟨fs,t1,t2,t3⟩:=ih λy hy=>hh y (bm1 _ hy)
    obtain⟨b,eb,sq,ne⟩:=hh x bl7
    subst eb
    cases rx
    obtain⟨us,ru,⟨ob,e1,c1,n1,d1⟩,_⟩:=I.tuple sq
    have ia:=kS ru
    generalize key (V.ref b)=kk at ia ne
    cases ia with
    |nil=>exact absurd rfl ne
    |@cons n t vs0 ns0 ht=>
     exact⟨Value.int n t::fs,PySem.W.KatTups.cons (keep b ob (hL sq) e1) c1 d1 (by simp) t1,by simp[t2],λv hv=>(bl8.mp hv).elim (λz=>⟨n,t,z⟩) (t3 v)⟩
  obtain⟨fs,t1,t2,t3⟩:=firsts rv hk
  refine PySem.W.kat_kind (T:=.type "int") t1 (by omega) (λv hv=>?_) (by decide) ?_
  ·obtain⟨i,t,rfl⟩:=t3 v hv
   exact PySem.W.Looks.now
  let c:Nat->Nat->Bool:=λi j=>HT.aU (key (ys.getD i .non)) (key (ys.getD j .non))
  have O:Srt.vS c:=⟨λh=>kX h,λh1 h2=>oE h1 h2⟩
  have ok:=Srt.ay1 (n:=its.length) O (by omega)
  refine Srt.c6.run (I:=λs'=>s'={ s with heap:=h' }) (λi j C s' hi hj hI hC=>?_) (λpa s' hR hI=>?_) _ _ rfl ok
  ·subst hI
   obtain⟨b1,o1,u1,n1,g1,g2,_,g4,g5,_⟩:=look i (by omega)
   obtain⟨b2,o2,u2,n2,k1,k2,_,k4,k5,_⟩:=look j (by omega)
   show wpAny _ _ (keyLt' (tuples' (Value.type "int" != Value.type "tuple")) (its.getD i Value.none) (its.getD j Value.none)) _ _ _
   rw[g1,k1]
   have eT:(Value.type "int" != Value.type "tuple")=true:=by decide
   rw[eT]
   refine PySem.W.kat_lt g2 g4 k2 k4 ?_
   have:=vX (prog:=X.prog) (w:=X.w) (A:=X.A.in1.in1) (s:={ s with heap:=h' }) (Q:=C) 0 g5 k5 (hC _ rfl)
   simpa using this
  ·subst hI
   obtain⟨hp,hasc⟩:=hR
   refine PySem.W.KasFin.intro F' N' (PySem.W.UpdF.head λp hp=>bo2 (hD p hp)) λh2 cc F2 N2=>?_
   have keep2:=I.newsAll (λp hp=>bm1 _ hp) F2 N2
   have hDn:s.heap.get? D=none:=by
    cases z:s.heap.get? D with
    |none=>rfl
    |some o=>
     obtain⟨_,n1,n2⟩:=N2 (D,_) bl7
     exact absurd (hD _ (zN n1 n2 z)) (br2 _)
   have hpl:∀i∈pa.toList,i<ys.length:=λi hi=>by
    have:=bA2.mp (hp.mem_iff.mp hi);omega
   have hp':pa.toList.Perm (List.range ys.length):=by rw[hl];exact hp
   have pm:=ay2 (d:=V.non) ys hp'
   obtain⟨hDo,hDL,hDb⟩:=N2 (D,_) bl7
   obtain⟨hHD,I2⟩:=I.laidF (t':=s.toks) (a:=D) (o:=.lst (pa.toList.map λi=>ys.getD i .non)) hDn keep2 (λm' hm'=>by
     have e:m'=m:=funext λnm=>Heap.Ns.agree hm' F.ns nm
     rw[e];exact F2.ns) ⟨by rw[pm.length_eq];exact hz,_,cc,L6 rv hpl,hDo⟩
   exact⟨.ref D,_,I2,rfl,q D _ hHD pm (ay4 hp hasc λi j hle=>hle)⟩
end L2
namespace Raw
open PySem PySem.W PySem.Calls PyProof.Rows
def kY (h:Heap)(d:Addr)(es:Array DictEntry)(ep:Nat):Prop:=∃o,h.get? d=some o/\o.ExactDict/\o.data = .dict es ep
theorem kY.ty {s:Shared}{d:Addr}{es:Array DictEntry}{ep:Nat}(x:kY s.heap d es ep):s.TypeIs (.ref d) "dict":=x.elim λo y=>⟨o,y.1,y.2.1.1⟩
section
variable {prog:Program}{w:World}{A:Around}{E:Value→Shared→Prop}{s:Shared}{d it:Addr}{es:Array DictEntry}{ep i:Nat}
theorem made (far:(d==sysModules)=false)(x:kY s.heap d es ep){Q:Value->Shared->Prop}(q:Q (.ref s.heap.objs.size) { s with heap:=s.heap.push { cls:=.type "dict_keyiterator",data:=.fields #[.ref d,.int 0 0,.int es.size 0,.int ep 0] } }):wpAny (model prog w) A (pyIter (.ref d)) Q E s:=by
 have T:=x.ty
 obtain⟨o,e1,e2,e3⟩:=x
 apply wpAny_pyIter_slot T PySem.F.slot_dict_iter
 apply bs4 PySem.F.slot_dict_iter T PySem.F.entry_dict_iter _ (PySem.F.args_dict_iter_1 _)
 simp only[Builtin.«dict.__iter__»,Builtin.Dict.dictSlotNone]
 apply bk3
 apply bk3
 apply wpAny_notOrdered_dict T
 apply bk8
 change wpAny _ _ (Builtin.Dict.showsAll d >>= _) _ _ s
 have far':Builtin.Dict.showsAll d=pure ():=by
  unfold Builtin.Dict.showsAll
  simp only[far,bn0,bq1]
 rw[far',pure_bind]
 apply bk3
 apply wpAny_dictEntries e1 e3
 apply bk3
 apply wpAny_dictEpoch e1 e3
 apply bk3
 refine br7 (bk8 ?_)
 refine⟨.ref s.heap.objs.size,rfl,"dict_keyiterator",_,⟨_,bm4 _ rfl,rfl⟩,PySem.F.slot_dict_keyiterator_next.lookup,?_⟩
 simpa only[rawInt] using q
theorem turn (hh:A.handled=none)(hi:s.heap.IsKeyIter it d i es.size ep)(x:kY s.heap d es ep){Q:Option Value->Shared->Prop}(yes:∀(lt:i<es.size) h',h'.IsKeyIter it d (i+1) es.size ep->Heap.SameBut it s.heap h'->Q (some es[i].key) { s with heap:=h' })(no:es.size<=i->∀h',Heap.ExtBut it s.heap h'->Q none { s with heap:=h' }):wpAny (model prog w) A (pyNext (.ref it)) Q E s:=by
 have T:=hi.typeIs
 obtain⟨oi,f1,f2,f3⟩:=hi
 obtain⟨o,e1,e2,e3⟩:=x
 have slot:=PySem.F.slot_dict_keyiterator_next
 have plain:Builtin.Dict_items.ownsTuple "dict_keyiterator" = false:=by decide
 have isref:(Value.ref d==Value.none)=false:=rfl
 have nn:¬(i:Int)<0:=by omega
 unfold pyNext
 apply bk3
 apply wpAny_attempt
 apply bs0 (name:=Str.ofString "__next__") T slot
 apply bs4 slot T PySem.F.entry_dict_keyiterator_next _ (PySem.F.args_dict_keyiterator_next_1 _)
 apply bk3
 apply bk8
 apply bk3
 apply bk3
 apply bk3
 first
  |apply wpAny_typeNameOfWhole_keyiter T
  |apply wpAny_typeNameOf_keyiter T
 apply bk8
 apply bk3
 apply wpAny_fieldsOf f1 f3
 simp only[plain,bn0,bq1]
 change wpAny _ _ (if (Value.ref d==Value.none)=true then _ else _) _ _ s
 have adr:Builtin.Dict_items.addrOf (Value.ref d)=pure d:=rfl
 simp only[isref,bn0,bq1,adr,pure_bind]
 apply bk3
 apply wpAny_dictEntries e1 e3
 simp only[bne_self_eq_false,bn0,bq1]
 apply bk3
 apply wpAny_dictEpoch e1 e3
 simp only[bne_self_eq_false,bn0,bq1]
 apply bk8
 simp only[nn,bq1,bp1]
 by_cases lt:i<es.size
 ·simp only[Array.getElem?_eq_getElem lt]
  apply bk3
  apply bk3
  first
   |apply wpAny_typeNameOfWhole_keyiter T
   |apply wpAny_typeNameOf_keyiter T
  apply bk8
  apply bk3
  apply wpAny_isOneOf_keyiter T
  change wpAny _ _ (setField (.ref it) 1 (rawInt ((i:Int)+1)) >>= _) _ _ s
  apply bk3
  refine wpAny_setField f1 f3 (by simp) ?_
  have again:(s.heap.update it (Obj.mapFields (·.setIfInBounds 1 (rawInt ((i:Int)+1))))).IsKeyIter it d (i+1) es.size ep:=by
   refine⟨_,bx1 _ f1 (Obj.isFreed_of_fields (Obj.data_mapFields f3 _)),?_,?_⟩
   ·rw[Obj.cls_mapFields];exact f2
   ·rw[Obj.data_mapFields f3];simp[rawInt]
  apply bk3
  apply bt1
  apply bk3
  refine wpAny_isOneOf_keyiter (s:={ s with heap:=s.heap.update it (Obj.mapFields (·.setIfInBounds 1 (rawInt ((i:Int)+1)))) }) again.typeIs ?_
  change wpAny _ _ (pure es[i].key) _ _ _
  apply bk8
  apply bk8
  exact⟨es[i].key,rfl,bk8 (yes lt _ again (bz4 ..))⟩
 ·have ge:es.size<=i:=Nat.le_of_not_lt lt
  simp only[Array.getElem?_eq_none ge]
  apply bk3
  apply bk3
  first
   |apply wpAny_typeNameOfWhole_keyiter T
   |apply wpAny_typeNameOf_keyiter T
  apply bk8
  change wpAny _ _ (setField (.ref it) 0 .none >>= _) _ _ s
  apply bk3
  refine wpAny_setField f1 f3 (by simp) ?_
  apply bk3
  simp only[newExc,newTuple]
  apply bk3
  refine br7 ?_ (by size_fits)
  apply bk3
  refine wpAny_of_eq (a:=Value.none) (by first|rfl|(simp only[firstArgMember];rfl)) ?_
  refine br7 ?_ (by size_fits)
  unfold raiseNew
  apply bk3
  apply wpAny_handled
  have quiet:A.in1.handled=none:=hh
  rw[quiet]
  refine wpAny_throw ?_
  apply bk3
  refine wpAny_isInstance (T:="StopIteration") (b:=true) ⟨_,bm4 _ rfl,rfl⟩ isSubtype_stop ?_
  exact bk8 (no ge _ (((bz4 ..).extBut.push _).push _))
end
end Raw
namespace L2
open PySem PySem.Spec PyProof.Rows
section
variable {X:Cx}{pins:List (Addr×Obj)}{σ:St}{H:Hp}{s:Shared}{a:Addr}
def vY (H:Hp)(y:V)(k:List aG):Prop:=∃q,y = .ref q/\H q=some (.tup (k.map kV))
theorem ay5 {kvs:List (aG×V)}(I:a6 X pins σ H s)(h:H a=some (.dK kvs)):∃es ep,Raw.kY s.heap a es ep/\(a==sysModules)=false/\aI (kvs.map λp=>kV p.1) (es.toList.map (·.key))/\kvs.length<=sizeLine:=by
 obtain⟨z,far,vs,rel,o,es,ep,e1,e2,e3,kk,pr,nd⟩:=(show bM X.prog X.w H s.heap a (.dK kvs) from I.hok a _ h)
 refine⟨es,ep,⟨o,e1,e2,e3⟩,far,?_,z⟩
 clear z far e1 e2 e3 kk nd h
 generalize es.toList=l at pr
 induction pr generalizing kvs with
 |nil=>cases rel;exact .nil
 |@cons e k es' kvs' h1 h2 _ ih=>
  cases rel with
  |@cons p q ps qs r rs=>
   refine .cons ?_ (ih rs)
   obtain⟨r1,_⟩:=r
   show aP (kV p.1) e.key
   rw[r1]
   rcases iA h1 with⟨n,t,e4,e5⟩|⟨x,t,e4,e5⟩
   ·rw[e4,e5];exact⟨t,rfl⟩
   ·rw[e4,e5];exact⟨t,rfl⟩
theorem ay6 {kvs:List (List aG×V)}(I:a6 X pins σ H s)(h:H a=some (.dT kvs)):∃es ep ys,Raw.kY s.heap a es ep/\(a==sysModules)=false/\Paired (vY H) ys (kvs.map (·.1))/\aI ys (es.toList.map (·.key))/\kvs.length<=sizeLine:=by
 obtain⟨z,far,xs,rel,o,es,ep,e1,e2,e3,e4,nd⟩:=(show bM X.prog X.w H s.heap a (.dT kvs) from I.hok a _ h)
 refine⟨es,ep,xs.map λq=>V.ref q.2.1,⟨o,e1,e2,e3⟩,far,?_,?_,z⟩
 ·clear e4 nd h z
  induction rel with
  |nil=>exact .nil
  |cons r rs ih=>exact .cons ⟨_,rfl,r.2.1⟩ ih
 ·rw[e4]
  clear rel e4 nd
  induction xs with
  |nil=>exact .nil
  |cons q qs ih=>exact .cons rfl ih
end
def M0 (outer:List (Str×NameKind))(XN:List Str)(names:List (Str×NameKind))(N:List Str)(fr:List (Option Nat)):Bool:=
 names.all (λy=>!(y.2==.cell)||names.lookup y.1==some .cell)&&names.all (λy=>!(y.2==.local)||names.lookup y.1==some .local) &&
 names.all (λy=>!(y.2==.free)||(outer.lookup y.1==some .cell||outer.lookup y.1==some .free))&&fr.length==N.length &&
 (fr.zip N).all (λp=>match p.1 with
  |none=>true
  |some j=>XN[j]?==some p.2&&names.lookup p.2==some .free)
theorem cQ.of {X:Cx}{scope:Scope}{N:List Str}{fr:List (Option Nat)}(hk:scope.kind = .function)(h:M0 X.env.scope.names X.N scope.names N fr=true):cQ X scope N fr:=by
 unfold M0 at h
 simp only[bp4]at h
 obtain⟨⟨⟨⟨h1,h2⟩,h3⟩,h4⟩,h5⟩:=h
 refine⟨hk,λy hy e=>?_,λy hy e=>?_,λy hy e=>?_,by simpa using h4,λi j e=>?_⟩
 ·have:=bu3.mp h1 y hy
  rw[e]at this;simpa using this
 ·have:=bu3.mp h2 y hy
  rw[e]at this;simpa using this
 ·have:=bu3.mp h3 y hy
  rw[e]at this;simpa using this
 ·have hl:fr.length=N.length:=by simpa using h4
  have hi:i<fr.length:=(bl9.mp e).1
  have m:(some j,N[i]'(by omega))∈fr.zip N:=by
   have:(fr.zip N)[i]? = some (some j,N[i]'(by omega)):=by
    rw[List.getElem?_zip_eq_some]
    exact⟨e,by simp⟩
   exact bn2 this
  have:=bu3.mp h5 _ m
  simp only[bp4,beq_iff_eq]at this
  exact⟨N[i]'(by omega),by simp,this.1,this.2⟩
theorem M1 {n:Option V}{r:St}{v:V}:Wk (none::r) (some v::r):=(Wk.refl (none::r)).set (i:=0) rfl
def m7 (H:Hp)(ys:List V)(ls:aa):Prop:=Paired (λy l=>∃b,y = .ref b/\H b=some (.tup [.int l.1,.int l.2])) ys ls
structure M3 (H:Hp)(v:V)(ws:af)(ls:aa):Prop where
 at_:∃a p q ys,v = .ref a/\H a=some (.tup [.ref p,.ref q])/\H p=some (.tup (ws.map V.int))/\H q=some (.tup ys)/\m7 H ys ls
theorem m7.get {H:Hp}:∀{ys:List V}{ls:aa}{i:Nat}{y:V},m7 H ys ls->ys[i]? = some y->∃l b,ls[i]? = some l/\y = .ref b/\H b=some (.tup [.int l.1,.int l.2])
 |_,_,_,_,.nil,e=>by simp at e
 |_,_,0,_,.cons (b:=l) ⟨b,h1,h2⟩ _,e=>by simp at e;subst e;exact⟨l,b,rfl,h1,h2⟩
 |_,_,i+1,_,.cons _ t,e=>by
  obtain⟨l,b,h1,h2⟩:=m7.get (i:=i) t (by simpa using e)
  exact⟨l,b,by simpa using h1,h2⟩
def bB (ls:aa)(k:Int):af:=ls.flatMap λl=>(if l.1=k then [l.2] else [])++(if l.2=k then [l.1] else [])
theorem ay7 (ls:aa)(l:Int×Int)(k:Int):bB (ls++[l]) k=bB ls k++((if l.1=k then [l.2] else [])++(if l.2=k then [l.1] else [])):=by
 unfold bB;rw[List.flatMap_append];simp
theorem M4 {ls:aa}{i:Nat}{l:Int×Int}(h:ls[i]? = some l)(k:Int):bB (ls.take (i+1)) k=bB (ls.take i) k++((if l.1=k then [l.2] else [])++(if l.2=k then [l.1] else [])):=by
 rw[bp6,h];exact ay7 _ _ _
structure gT (H H':Hp)(r:Addr)(bs:List Addr)(f:Nat->af):Prop where
 new:H r=none
 news:∀b∈bs,H b=none/\b≠r
 nd:bs.Nodup
 row:H' r=some (.lst (bs.map V.ref))
 rows:∀(k:Nat) (b:Addr),bs[k]? = some b->H' b=some (.lst ((f k).map V.int))
 same:aA H H'
theorem gT.congr {H H':Hp}{r:Addr}{bs:List Addr}{f g:Nat->af}(h:gT H H' r bs f)(e:∀k,k<bs.length->f k=g k):gT H H' r bs g:=
 ⟨h.new,h.news,h.nd,h.row,λk b hb=>by rw[<- e k (bl9.mp hb).1];exact h.rows k b hb,h.same⟩
theorem gT.app {H H':Hp}{r:Addr}{bs:List Addr}{f:Nat->af}(h:gT H H' r bs f){k:Nat}{b:Addr}(hb:bs[k]? = some b)(x:Int) :
  gT H (upd H' b (.lst ((f k).map V.int++[V.int x]))) r bs (λj=>if j=k then f j++[x] else f j):=by
 have hm:b∈bs:=bn2 hb
 refine⟨h.new,h.news,h.nd,by rw[aC (Ne.symm (h.news b hm).2)];exact h.row,λj c hc=>?_,λc o e=>by rw[aC (bX e (h.news b hm).1)];exact h.same c o e⟩
 by_cases hj:j=k
 ·subst hj
  rw[hb]at hc;cases hc
  rw[aT,if_pos rfl];simp
 ·rw[if_neg hj]
  have ne:c≠b:=λz=>by
   subst z
   obtain⟨i1,e1⟩:=bl9.mp hb
   obtain⟨i2,e2⟩:=bl9.mp hc
   refine hj (Nat.le_antisymm (Nat.le_of_not_lt λz=>?_) (Nat.le_of_not_lt λz=>?_))
   ·exact bp3.mp h.nd _ _ i1 i2 z (e1.trans e2.symm)
   ·exact bp3.mp h.nd _ _ i2 i1 z (e2.trans e1.symm)
  rw[aC ne];exact h.rows j c hc
theorem m8 (ls:aa)(k:Int):(bB ls k).length<=2*ls.length:=by
 induction ls with
 |nil=>exact bk7 _
 |cons l r ih=>
  have e:bB (l::r) k=((if l.1=k then [l.2] else [])++(if l.2=k then [l.1] else []))++bB r k:=rfl
  rw[e,bm7,bm7,bo3]
  have h1:(if l.1=k then [l.2] else []).length<=1:=by split<;>simp
  have h2:(if l.2=k then [l.1] else []).length<=1:=by split<;>simp
  omega
theorem jS {α:Type}{xs:List α}{i:Int}{v:α}(h0:0<=i)(h:xs[i.toNat]? = some v):atI xs i=some v:=by
 have:=iS h
 rwa [show ((i.toNat:Nat):Int)=i by omega]at this
theorem gI {n:Nat}(h:n<=16000000):n<sizeLine:=by rw[sizeLine_eq];omega
theorem oF {σ:St}{H:Hp}{A B:Hp->Prop}(h:A H):vL σ H λb H4=>if b=true then A H4 else B H4:=by
 show if true=true then A H else B H
 rw[if_pos rfl];exact h
theorem oG {K:ad}{H:Hp}{p:Addr}{xs:List V}(h:aJ K H p xs):qD K "list" (.ref p) H:=.inl ⟨rfl,xs,h⟩
def oH (H:Hp)(y:V):Int×Int:=match L8 H y with
 |[a,b]=>(a,b)
 |_=>(0,0)
theorem qS {H:Hp}:∀{zs:List V},(∀y∈zs,∃b,y = .ref b/\H b=some (.tup [.int (oH H y).1,.int (oH H y).2])/\L8 H y = [(oH H y).1,(oH H y).2])->m7 H zs (zs.map (oH H))
 |[],_=>.nil
 |y::zs,h=>by
  obtain⟨b,e,hb,_⟩:=h y bl7
  exact .cons ⟨b,e,hb⟩ (qS λz hz=>h z (bm1 _ hz))
theorem vZ (ns:af)(lo hi:Option Int):∃ms:af,dN (ns.map V.int) lo hi=ms.map V.int/\ms.length<=ns.length:=by
 unfold dN
 refine⟨_,by rw[<- List.map_drop,<- List.map_take],?_⟩
 rw[bt6,bv3];omega
end L2
namespace Zp
open PySem PyProof.Rows
section
variable {prog:Program}{w:World}{A:Around}{E:Value→Shared→Prop}{s:Shared}
theorem M5 {it t:Addr}{i:Nat}{items:Array Value}{x:Value}{Q:Value->Shared->Prop}(hi:s.heap.IsTupleIter it t i)(ht:s.heap.IsTuple t items)(hx:items[i]? = some x)(q:∀h',h'.IsTupleIter it t (i+1)->Heap.SameBut it s.heap h'->Q x { s with heap:=h' }):wpAny (model prog w) A (Builtin.SmallTypes.nextOf (.ref it)) Q E s:=by
 have T:=hi.typeIs
 obtain⟨o,e1,e2,e3⟩:=hi
 obtain⟨u,f1,_,k,f3⟩:=ht
 have slot:=PySem.F.slot_tuple_iterator_next
 have isref:(Value.ref t==Value.none)=false:=rfl
 unfold Builtin.SmallTypes.nextOf
 apply bk3
 apply bs0 (name:=Str.ofString "__next__") T slot
 apply bs4 slot T PySem.F.entry_tuple_iterator_next _ (PySem.F.args_tuple_iterator_next_1 _)
 change wpAny _ _ (field (.ref it) 0 >>= _) _ _ s
 apply bk3
 refine br9 e1 e3 (x:=.ref t) rfl ?_
 change wpAny _ _ (if (Value.ref t==Value.none)=true then _ else _) _ _ s
 simp only[isref,bn0,bq1]
 change wpAny _ _ (field (.ref it) 1 >>= _) _ _ s
 apply bk3
 refine br9 e1 e3 (x:=.int i 0) rfl ?_
 change wpAny _ _ (seqItems? (.ref t) >>= _) _ _ s
 apply bk3
 apply bw2 f1 f3
 simp only[bp1,hx]
 apply bk3
 refine wpAny_setField e1 e3 (by simp) ?_
 apply bk8
 refine⟨x,rfl,bk8 (q _ ⟨_,bx1 _ e1 (Obj.isFreed_of_fields (Obj.data_mapFields e3 _)),?_,?_⟩ (bz4 ..))⟩
 ·rw[Obj.cls_mapFields];exact e2
 ·rw[Obj.data_mapFields e3];simp[rawInt]
theorem M6 {it t:Addr}{i:Nat}{items:Array Value}{Q:Value->Shared->Prop}(hh:A.handled=none)(hi:s.heap.IsTupleIter it t i)(ht:s.heap.IsTuple t items)(hx:items[i]? = none)(q:∀h' e,Heap.ExtBut it s.heap h'->(∃o,h'.get? e=some o/\o.cls = .type "StopIteration")->E (.ref e) { s with heap:=h' }):wpAny (model prog w) A (Builtin.SmallTypes.nextOf (.ref it)) Q E s:=by
 have T:=hi.typeIs
 obtain⟨o,e1,e2,e3⟩:=hi
 obtain⟨u,f1,_,k,f3⟩:=ht
 have slot:=PySem.F.slot_tuple_iterator_next
 have isref:(Value.ref t==Value.none)=false:=rfl
 unfold Builtin.SmallTypes.nextOf
 apply bk3
 apply bs0 (name:=Str.ofString "__next__") T slot
 apply bs4 slot T PySem.F.entry_tuple_iterator_next _ (PySem.F.args_tuple_iterator_next_1 _)
 change wpAny _ _ (field (.ref it) 0 >>= _) _ _ s
 apply bk3
 refine br9 e1 e3 (x:=.ref t) rfl ?_
 change wpAny _ _ (if (Value.ref t==Value.none)=true then _ else _) _ _ s
 simp only[isref,bn0,bq1]
 change wpAny _ _ (field (.ref it) 1 >>= _) _ _ s
 apply bk3
 refine br9 e1 e3 (x:=.int i 0) rfl ?_
 change wpAny _ _ (seqItems? (.ref t) >>= _) _ _ s
 apply bk3
 apply bw2 f1 f3
 simp only[bp1,hx]
 apply bk3
 apply bz2
 apply bk3
 refine wpAny_setField e1 e3 (by simp) ?_
 apply bk3
 simp only[newExc,newTuple]
 apply bk3
 refine br7 ?_ (by size_fits)
 apply bk3
 refine wpAny_of_eq (a:=Value.none) (by first|rfl|(simp only[firstArgMember];rfl)) ?_
 refine br7 ?_ (by size_fits)
 unfold raiseNew
 apply bk3
 apply wpAny_handled
 have quiet:A.in1.handled=none:=hh
 rw[quiet]
 refine wpAny_throw ?_
 exact q _ _ (((bz4 ..).extBut.push _).push _) ⟨_,bm4 _ rfl,rfl⟩
theorem ay8 (hh:A.handled=none)(it t:Addr)(ne:t≠it)(items:Array Value):Draws prog w A it [it,t] items.size (λi v=>items[i]? = some v) (λi h=>h.IsTupleIter it t i/\h.IsTuple t items) where
 live:=λ_ _ st=>st.1.elim λo y=>⟨o,y.1⟩
 frame:=λ_ _ _ st k=>⟨st.1.at λo e=>k it bl7 o e,st.2.elim λo y=>⟨o,k t (bm1 _ bl7) o y.1,y.2⟩⟩
 item:=λi s Q E lt st q=>M5 st.1 st.2 (Array.getElem?_eq_getElem lt) λh' again sb=>q _ h' s.toks (Array.getElem?_eq_getElem lt) ⟨again,st.2.elim λo y=>⟨o,sb.extBut t o ne y.1,y.2⟩⟩ sb
 done:=λs Q E st q=>M6 hh st.1 st.2 (Array.getElem?_eq_none (bk7 _)) q
end
structure Ap (z TI TO i1 i2:Addr)(fp1 fp2:List Addr):Prop where
 TIz:TI≠z
 TOz:TO≠z
 TITO:TI≠TO
 z1:z∉fp1
 z2:z∉fp2
 o1:TO∉fp1
 o2:TO∉fp2
 t1:TI∉fp1
 t2:TI∉fp2
 m1:i1∈fp1
 m2:i2∈fp2
 n1:i1∉fp2
 n2:i2∉fp1
structure w4 (z TI TO i1 i2:Addr)(St1 St2:Nat->Heap->Prop)(f0:Value)(i j:Nat)(h:Heap):Prop where
 zz:IsZip h z TI TO f0
 ti:IsPair h TI (.ref i1) (.ref i2)
 to_:∃a b,IsPair h TO a b
 s1:St1 i h
 s2:St2 j h
section
variable {prog:Program}{w:World}{A:Around}{E:Value→Shared→Prop}{s:Shared}{z TI TO i1 i2:Addr}{fp1 fp2:List Addr}{n1 n2:Nat}{P1 P2:Nat→Value→Prop}{St1 St2:Nat→Heap→Prop}
theorem jT (ap:Ap z TI TO i1 i2 fp1 fp2){b:Addr}(h:b∉fp1):b≠i1:=λe=>h (e▸ap.m1)
theorem m9 (ap:Ap z TI TO i1 i2 fp1 fp2){b:Addr}(h:b∉fp2):b≠i2:=λe=>h (e▸ap.m2)
theorem item (D1:Draws prog w A.in1 i1 fp1 n1 P1 St1)(D2:Draws prog w A.in1 i2 fp2 n2 P2 St2)(ap:Ap z TI TO i1 i2 fp1 fp2){i:Nat}(l1:i<n1)(l2:i<n2)(st:w4 z TI TO i1 i2 St1 St2 .none i i s.heap){Q:Option Value->Shared->Prop}(q:∀x y h' tk,P1 i x->P2 i y->w4 z TI TO i1 i2 St1 St2 (rawInt s.heap.objs.size) (i+1) (i+1) h'->IsPair h' s.heap.objs.size x y->(∀c o,c≠z->c≠TO->c≠i1->c≠i2->s.heap.get? c=some o->h'.get? c=some o)->
   h'.objs.size=s.heap.objs.size+1->Q (some (.ref s.heap.objs.size)) { s with heap:=h',toks:=tk }):wpAny (model prog w) A (pyNext (.ref z)) Q E s:=by
 obtain⟨hz,hti,⟨a,b,hto⟩,h1,h2⟩:=st
 have T:s.TypeIs (.ref z) "zip":=⟨_,hz,rfl⟩
 have slot:=PySem.F.slot_zip_next
 unfold pyNext
 apply bk3
 apply wpAny_attempt
 apply bs0 (name:=Str.ofString "__next__") T slot
 apply bs4 slot T PySem.F.entry_zip_next _ (PySem.F.args_zip_next_1 _)
 change wpAny _ _ (field (.ref z) 2 >>= _) _ _ _
 apply bk3
 refine br9 hz rfl (x:=.bool false) rfl ?_
 change wpAny _ _ (field (.ref z) 3 >>= _) _ _ _
 apply bk3
 refine br9 hz rfl (x:=.ref TI) rfl ?_
 apply bk3
 apply bw2 hti rfl
 change wpAny _ _ (Builtin.SmallTypes.ownedTupleIsFree (.ref z) >>= _) _ _ _
 apply bk3
 unfold Builtin.SmallTypes.ownedTupleIsFree
 apply bk3
 refine br9 hz rfl (x:=.none) rfl (bk8 ?_)
 simp only[if_true]
 apply bk3
 apply bz2
 apply bk3
 refine br9 hz rfl (x:=.ref TO) rfl ?_
 apply bk3
 refine bt2 hz (by simp) λg1 hz1 sb1=>?_
 have k1:∀c o,c≠z->s.heap.get? c=some o->g1.get? c=some o:=λc o c1 e=>sb1.extBut c o c1 e
 apply bk3
 simp only[List.zipIdx_cons,List.zipIdx_nil,List.forIn_cons,List.forIn_nil]
 apply bk3
 apply bk3
 apply wpAny_onRaise
 change wpAny _ _ (Builtin.SmallTypes.nextOf (.ref i1) >>= _) _ _ _
 apply bk3
 refine D1.item i { s with heap:=g1 } _ _ l1 (D1.frame _ _ _ h1 λc hc o e=>k1 c o (λy=>ap.z1 (y▸hc)) e) λx g2 tk2 px st1 sb2=>bk8 ?_
 have k2:∀c o,c≠z->c≠i1->s.heap.get? c=some o->g2.get? c=some o:=λc o c1 c2 e=>sb2.extBut c o c2 (k1 c o c1 e)
 have to2:IsPair g2 TO a b:=k2 _ _ ap.TOz (jT ap ap.o1) hto
 apply bk3
 apply bw2 to2 rfl
 apply bk3
 refine wpAny_updateSeq_pair to2 λg3 to3 sb3=>?_
 have to3:IsPair g3 TO x b:=to3
 apply bk3
 apply wpAny_letGo
 apply bk8
 apply bk3
 apply bk3
 apply wpAny_onRaise
 change wpAny _ _ (Builtin.SmallTypes.nextOf (.ref i2) >>= _) _ _ _
 apply bk3
 have k3:∀c o,c≠z->c≠i1->c≠TO->s.heap.get? c=some o->g3.get? c=some o:=λc o c1 c2 c3 e=>sb3.extBut c o c3 (k2 c o c1 c2 e)
 refine D2.item i { s with heap:=g3,toks:=tk2 } _ _ l2 (D2.frame _ _ _ h2 λc hc o e=>k3 c o (λy=>ap.z2 (y▸hc)) (λy=>ap.n1 (y▸hc)) (λy=>ap.o2 (y▸hc)) e) λy g4 tk4 py st2 sb4=>bk8 ?_
 have to4:IsPair g4 TO x b:=sb4.extBut _ _ (m9 ap ap.o2) to3
 apply bk3
 apply bw2 to4 rfl
 apply bk3
 refine wpAny_updateSeq_pair to4 λg5 to5 sb5=>?_
 have to5:IsPair g5 TO x y:=to5
 apply bk3
 apply wpAny_letGo
 apply bk8
 apply bk8
 apply bk3
 apply bw2 to5 rfl
 apply bk3
 refine wpAny_newTuple ?_ (by show 2<=sizeLine;decide)
 have size:g5.objs.size=s.heap.objs.size:=by rw[sb5.1,sb4.1,sb3.1,sb2.1,sb1.1]
 have k5:∀c o,c≠z->c≠TO->c≠i1->c≠i2->s.heap.get? c=some o->g5.get? c=some o:=λc o c1 c2 c3 c4 e=>sb5.extBut c o c2 (sb4.extBut c o c4 (k3 c o c1 c3 c2 e))
 have z5:IsZip g5 z TI TO .ellipsis:=sb5.extBut _ _ (Ne.symm ap.TOz) (sb4.extBut _ _ (m9 ap ap.z2) (sb3.extBut _ _ (Ne.symm ap.TOz) (sb2.extBut _ _ (jT ap ap.z1) hz1)))
 change wpAny _ _ (Builtin.SmallTypes.ownedTupleHandOut (.ref z) (.ref g5.objs.size) >>= _) _ _ _
 apply bk3
 unfold Builtin.SmallTypes.ownedTupleHandOut
 apply bk3
 have z6:IsZip (g5.push { cls:=.type "tuple",data:=.seq #[x,y] }) z TI TO .ellipsis:=bk6 _ z5
 refine bt2 z6 (by simp) λg7 z7 sb7=>?_
 have z7:IsZip g7 z TI TO (rawInt g5.objs.size):=z7
 refine bt2 z7 (by simp) λg8 z8 sb8=>?_
 have z8:IsZip g8 z TI TO (rawInt g5.objs.size):=z8
 have zlt:z<g5.objs.size:=bm3 z5
 have up:∀c o,c≠z->g5.get? c=some o->g8.get? c=some o:=λc o c1 e=>sb8.extBut c o c1 (sb7.extBut c o c1 (bk6 _ e))
 have p8:IsPair g8 g5.objs.size x y:=sb8.extBut _ _ (bv2 zlt) (sb7.extBut _ _ (bv2 zlt) (bm4 _ rfl))
 have s8:g8.objs.size=g5.objs.size+1:=by rw[sb8.1,sb7.1,bw1]
 have f1:St1 (i+1) g8:=D1.frame _ _ _ st1 λc hc o e=>up c o (λy=>ap.z1 (y▸hc)) (sb5.extBut c o (λy=>ap.o1 (y▸hc)) (sb4.extBut c o (λy=>ap.n2 (y▸hc)) (sb3.extBut c o (λy=>ap.o1 (y▸hc)) e)))
 have f2:St2 (i+1) g8:=D2.frame _ _ _ st2 λc hc o e=>up c o (λy=>ap.z2 (y▸hc)) (sb5.extBut c o (λy=>ap.o2 (y▸hc)) e)
 have ti8:IsPair g8 TI (.ref i1) (.ref i2):=up _ _ ap.TIz (k5 _ _ ap.TIz ap.TITO (jT ap ap.t1) (m9 ap ap.t2) hti)
 rw[size]at z8 p8 s8
 apply bk8
 refine⟨_,rfl,bk8 ?_⟩
 change Q (some (.ref g5.objs.size)) _
 rw[size]
 exact q x y g8 tk4 px py ⟨z8,ti8,⟨x,y,up _ _ ap.TOz to5⟩,f1,f2⟩ p8 (λc o c1 c2 c3 c4 e=>up c o c1 (k5 c o c1 c2 c3 c4 e)) s8
theorem fin (D1:Draws prog w A.in1 i1 fp1 n1 P1 St1)(D2:Draws prog w A.in1 i2 fp2 n2 P2 St2)(ap:Ap z TI TO i1 i2 fp1 fp2){i:Nat}(le:i=n1∨(i<n1/\i=n2))(st:w4 z TI TO i1 i2 St1 St2 .none i i s.heap){Q:Option Value->Shared->Prop}(q:∀h' tk,(∀c o,c≠z->c≠TO->c≠i1->c≠i2->s.heap.get? c=some o->h'.get? c=some o)->Q none { s with heap:=h',toks:=tk }):wpAny (model prog w) A (pyNext (.ref z)) Q E s:=by
 obtain⟨hz,hti,⟨a,b,hto⟩,h1,h2⟩:=st
 have T:s.TypeIs (.ref z) "zip":=⟨_,hz,rfl⟩
 have slot:=PySem.F.slot_zip_next
 unfold pyNext
 apply bk3
 apply wpAny_attempt
 apply bs0 (name:=Str.ofString "__next__") T slot
 apply bs4 slot T PySem.F.entry_zip_next _ (PySem.F.args_zip_next_1 _)
 change wpAny _ _ (field (.ref z) 2 >>= _) _ _ _
 apply bk3
 refine br9 hz rfl (x:=.bool false) rfl ?_
 change wpAny _ _ (field (.ref z) 3 >>= _) _ _ _
 apply bk3
 refine br9 hz rfl (x:=.ref TI) rfl ?_
 apply bk3
 apply bw2 hti rfl
 change wpAny _ _ (Builtin.SmallTypes.ownedTupleIsFree (.ref z) >>= _) _ _ _
 apply bk3
 unfold Builtin.SmallTypes.ownedTupleIsFree
 apply bk3
 refine br9 hz rfl (x:=.none) rfl (bk8 ?_)
 simp only[if_true]
 apply bk3
 apply bz2
 apply bk3
 refine br9 hz rfl (x:=.ref TO) rfl ?_
 apply bk3
 refine bt2 hz (by simp) λg1 hz1 sb1=>?_
 have k1:∀c o,c≠z->s.heap.get? c=some o->g1.get? c=some o:=λc o c1 e=>sb1.extBut c o c1 e
 apply bk3
 simp only[List.zipIdx_cons,List.zipIdx_nil,List.forIn_cons,List.forIn_nil]
 apply bk3
 apply bk3
 apply wpAny_onRaise
 change wpAny _ _ (Builtin.SmallTypes.nextOf (.ref i1) >>= _) _ _ _
 apply bk3
 have z1:IsZip g1 z TI TO .ellipsis:=hz1
 rcases le with rfl|⟨lt,rfl⟩
 ·refine D1.done { s with heap:=g1 } _ _ (D1.frame _ _ _ h1 λc hc o e=>k1 c o (λy=>ap.z1 (y▸hc)) e) λg2 e eb ex=>?_
  have z2:IsZip g2 z TI TO .ellipsis:=eb _ _ (jT ap ap.z1) z1
  refine bt2 z2 (by simp) λg3 z3 sb3=>?_
  obtain⟨oe,eo,co⟩:=ex
  have ne:e≠z:=λy=>by
   rw[y,z2]at eo
   have:=bn8 eo
   rw[<- this]at co;exact absurd (show Value.type "zip" = Value.type "StopIteration" from co) (by decide)
  apply bk3
  refine wpAny_isInstance (T:="StopIteration") (b:=true) ⟨oe,sb3.extBut _ _ ne eo,co⟩ isSubtype_stop ?_
  exact bk8 (q g3 s.toks λc o c1 _ c3 _ e=>sb3.extBut c o c1 (eb c o c3 (k1 c o c1 e)))
 ·refine D1.item i { s with heap:=g1 } _ _ lt (D1.frame _ _ _ h1 λc hc o e=>k1 c o (λy=>ap.z1 (y▸hc)) e) λx g2 tk2 px st1 sb2=>bk8 ?_
  have k2:∀c o,c≠z->c≠i1->s.heap.get? c=some o->g2.get? c=some o:=λc o c1 c2 e=>sb2.extBut c o c2 (k1 c o c1 e)
  have to2:IsPair g2 TO a b:=k2 _ _ ap.TOz (jT ap ap.o1) hto
  apply bk3
  apply bw2 to2 rfl
  apply bk3
  refine wpAny_updateSeq_pair to2 λg3 to3 sb3=>?_
  apply bk3
  apply wpAny_letGo
  apply bk8
  apply bk3
  apply bk3
  apply wpAny_onRaise
  change wpAny _ _ (Builtin.SmallTypes.nextOf (.ref i2) >>= _) _ _ _
  apply bk3
  have k3:∀c o,c≠z->c≠i1->c≠TO->s.heap.get? c=some o->g3.get? c=some o:=λc o c1 c2 c3 e=>sb3.extBut c o c3 (k2 c o c1 c2 e)
  refine D2.done { s with heap:=g3,toks:=tk2 } _ _ (D2.frame _ _ _ h2 λc hc o e=>k3 c o (λy=>ap.z2 (y▸hc)) (λy=>ap.n1 (y▸hc)) (λy=>ap.o2 (y▸hc)) e) λg4 e eb ex=>?_
  have z4:IsZip g4 z TI TO .ellipsis:=eb _ _ (m9 ap ap.z2) (sb3.extBut _ _ (Ne.symm ap.TOz) (sb2.extBut _ _ (jT ap ap.z1) z1))
  refine bt2 z4 (by simp) λg5 z5 sb5=>?_
  obtain⟨oe,eo,co⟩:=ex
  have ne:e≠z:=λy=>by
   rw[y,z4]at eo
   have:=bn8 eo
   rw[<- this]at co;exact absurd (show Value.type "zip" = Value.type "StopIteration" from co) (by decide)
  apply bk3
  refine wpAny_isInstance (T:="StopIteration") (b:=true) ⟨oe,sb5.extBut _ _ ne eo,co⟩ isSubtype_stop ?_
  exact bk8 (q g5 tk2 λc o c1 c2 c3 c4 e=>sb5.extBut c o c1 (eb c o c4 (k3 c o c1 c3 c2 e)))
end
def fV (h:Heap)(t u:Addr):Heap:=
 ((((h.push { cls:=.type "tuple_iterator",data:=.fields #[.ref t,.int 0 0] }).push { cls:=.type "tuple_iterator",data:=.fields #[.ref u,.int 0 0] }).push { cls:=.type "tuple",data:=.seq #[.ref h.objs.size,.ref (h.objs.size+1)] }).push
  { cls:=.type "tuple",data:=.seq #[.none,.none] }).push { cls:=.type "zip",data:=.fields #[.none,.bool false,.bool false,.ref (h.objs.size+2),.ref (h.objs.size+3)] }
theorem ay9 (t u:Addr)(xs ys:Array Value):Meets (Builtin.«zip.__new__» ⟨[.type "zip",.ref t,.ref u],[]⟩) (λ_ R s=>s.heap.IsTuple t xs/\s.heap.IsTuple u ys/\R (.ok (.ret (.ref (s.heap.objs.size+4)))) { s with heap:=fV s.heap t u }):=
 .of_wp λprog w A R s h=>by
  obtain⟨hp,g,d,tk,os⟩:=s
  obtain⟨ht,hu,h⟩:=h
  have sub:=sub_zip
  have a1:Heap.IsTuple (Shared.heap ⟨hp,g,d,tk,os⟩) t xs:=ht
  have a2:Heap.IsTuple (Shared.heap ⟨hp.push { cls:=.type "tuple_iterator",data:=.fields #[.ref t,.int 0 0] },g,d,tk,os⟩) u ys:=hu.elim λo y=>⟨o,bk6 _ y.1,y.2⟩
  wp_walk using bx2 a1,bx2 a2
  have e:∀(o:Obj) (k:Heap),(k.push o).objs.size=k.objs.size+1:=λo k=>bw1 ..
  refine⟨_,rfl,?_⟩
  simp only[fV,e]at h ⊢
  exact h
section
variable {prog:Program}{w:World}{A:Around}{E:Value→Shared→Prop}{s:Shared}
theorem az0 {t u:Addr}{xs ys:Array Value}{Q:Value->Shared->Prop}(ht:s.heap.IsTuple t xs)(hu:s.heap.IsTuple u ys)(q:∀h',IsZip h' (s.heap.objs.size+4) (s.heap.objs.size+2) (s.heap.objs.size+3) .none->IsPair h' (s.heap.objs.size+2) (.ref s.heap.objs.size) (.ref (s.heap.objs.size+1))->
   IsPair h' (s.heap.objs.size+3) .none .none->h'.IsTupleIter s.heap.objs.size t 0->h'.IsTupleIter (s.heap.objs.size+1) u 0->(∀c o,s.heap.get? c=some o->h'.get? c=some o)->Q (.ref (s.heap.objs.size+4)) { s with heap:=h' }) :
  wpAny (model prog w) A (call (.type "zip") [.ref t,.ref u]) Q E s:=by
 refine callType_new PySem.F.called_zip (by decide) (PySem.F.typeCall_zip_2 _ _) (PySem.F.newCall_zip_2 _ _) (λobj=>PySem.F.args_object_init_3 obj _ _) PySem.F.entry_zip_new (ay9 t u xs ys) ⟨ht,hu,?_⟩
 have e:∀(o:Obj) (k:Heap),(k.push o).objs.size=k.objs.size+1:=λo k=>bw1 ..
 have p0:∀(k:Heap) (o:Obj) (m:Nat),o.isFreed=false->m=k.objs.size->(k.push o).get? m=some o:=λk o m f z=>by rw[z];exact bm4 _ f
 have g0:(fV s.heap t u).get? s.heap.objs.size=some { cls:=.type "tuple_iterator",data:=.fields #[.ref t,.int 0 0] }:=by
  unfold fV
  exact bk6 _ (bk6 _ (bk6 _ (bk6 _ (p0 _ _ _ rfl rfl))))
 have g1:(fV s.heap t u).get? (s.heap.objs.size+1)=some { cls:=.type "tuple_iterator",data:=.fields #[.ref u,.int 0 0] }:=by
  unfold fV
  exact bk6 _ (bk6 _ (bk6 _ (p0 _ _ _ rfl (by simp only[e]))))
 have g2:(fV s.heap t u).get? (s.heap.objs.size+2)=some { cls:=.type "tuple",data:=.seq #[.ref s.heap.objs.size,.ref (s.heap.objs.size+1)] }:=by
  unfold fV
  exact bk6 _ (bk6 _ (p0 _ _ _ rfl (by simp only[e])))
 have g3:(fV s.heap t u).get? (s.heap.objs.size+3)=some { cls:=.type "tuple",data:=.seq #[.none,.none] }:=by
  unfold fV
  exact bk6 _ (p0 _ _ _ rfl (by simp only[e]))
 have g4:(fV s.heap t u).get? (s.heap.objs.size+4)=some { cls:=.type "zip",data:=.fields #[.none,.bool false,.bool false,.ref (s.heap.objs.size+2),.ref (s.heap.objs.size+3)] }:=by
  unfold fV
  exact p0 _ _ _ rfl (by simp only[e])
 refine⟨⟨_,g4,rfl⟩,q _ g4 g2 g3 ⟨_,g0,rfl,rfl⟩ ⟨_,g1,rfl,rfl⟩ λc o z=>?_⟩
 unfold fV
 exact bk6 _ (bk6 _ (bk6 _ (bk6 _ (bk6 _ z))))
end
end Zp
namespace L2
open PySem PySem.Spec PyProof.Rows
def w5 (K:ad)(a b:Addr):It:=
  ⟨λi H=>∃xs ys x y,aH K H a xs/\aH K H b ys/\xs[i]? = some x/\ys[i]? = some y,
   λi H v H'=>∃T x y,H T=none/\v = .ref T/\H'=upd H T (.tup [x,y])/\∀xs ys,aH K H a xs->aH K H b ys->xs[i]? = some x/\ys[i]? = some y,
   λi H=>∃xs ys,aH K H a xs/\aH K H b ys/\(i=xs.length∨(i<xs.length/\i=ys.length))⟩
def Sq (t:Bool)(K:ad)(H:Hp)(a:Addr)(xs:List V):Prop:=match t with
 |true=>aH K H a xs
 |false=>aJ K H a xs
def fW (t:Bool)(h:Heap)(i a:Addr)(n:Nat):Prop:=match t with
 |true=>h.IsTupleIter i a n
 |false=>h.IsListIter i a n
def M7 (t:Bool)(h:Heap)(a:Addr)(xs:Array Value):Prop:=match t with
 |true=>h.IsTuple a xs
 |false=>h.IsList a xs
theorem fW.at {h h':Heap}{i a:Addr}{n:Nat}:∀{t:Bool},fW t h i a n->(∀o,h.get? i=some o->h'.get? i=some o)->fW t h' i a n
 |true,x,k=>Heap.IsTupleIter.at x k
 |false,x,k=>Heap.IsListIter.at x k
theorem fW.ob {h:Heap}{i a:Addr}{n:Nat}:∀{t:Bool},fW t h i a n->∃o,h.get? i=some o/\∀v,o.data≠.cell v
 |true,⟨o,f,_,d⟩=>⟨o,f,λv q=>by rw[d]at q;cases q⟩
 |false,⟨o,f,_,d⟩=>⟨o,f,λv q=>by rw[d]at q;cases q⟩
theorem fW.draws {prog:Program}{w:World}{A:Around}:∀(t:Bool) (hh:A.handled=none) (it a:Addr) (ne:a≠it) (items:Array Value),Draws prog w A it [it,a] items.size (λi v=>items[i]? = some v) (λi h=>fW t h it a i/\M7 t h a items)
 |true,hh,it,a,ne,items=>Zp.ay8 hh it a ne items
 |false,hh,it,a,ne,items=>Draws.list hh it a ne items
section
variable {X:Cx}{pins:List (Addr×Obj)}{σ:St}{H:Hp}{s:Shared}{a:Addr}{xs ys:List V}
theorem Sq.get (I:a6 X pins σ H s):∀{t:Bool},Sq t X.K H a xs->∃us,aI xs us/\M7 t s.heap a us.toArray
 |true,h=>by obtain⟨us,r,p,_⟩:=I.tuple h;exact⟨us,r,p⟩
 |false,h=>by obtain⟨us,r,p,_⟩:=I.list h;exact⟨us,r,p.isList⟩
theorem Sq.inj (I:a6 X pins σ H s):∀{t:Bool},Sq t X.K H a xs->Sq t X.K H a ys->xs=ys
 |true,h,g=>I.tuple_inj h g
 |false,h,g=>I.list_inj h g
theorem Sq.off (I:a6 X pins σ H s)(he:H a=none)(hb:X.base.get? a=none):∀{t:Bool},Sq t X.K H a xs->False
 |true,h=>by
  rcases h with (h|⟨_,h⟩)|⟨o,_,_,h,_⟩
  ·rw[he]at h;cases h
  ·rw[he]at h;cases h
  ·have:=I.ok.mod.kin a o h
   rw[hb]at this;cases this
 |false,h=>by
  rcases h with (h|⟨_,h⟩)|⟨o,_,_,h,_⟩
  ·rw[he]at h;cases h
  ·rw[he]at h;cases h
  ·have:=I.ok.mod.kin a o h
   rw[hb]at this;cases this
end
def az1 (t1 t2:Bool)(K:ad)(a b:Addr):It:=
  ⟨λi H=>∃xs ys x y,Sq t1 K H a xs/\Sq t2 K H b ys/\xs[i]? = some x/\ys[i]? = some y,
   λi H v H'=>∃T x y,H T=none/\v = .ref T/\H'=upd H T (.tup [x,y])/\∀xs ys,Sq t1 K H a xs->Sq t2 K H b ys->xs[i]? = some x/\ys[i]? = some y,
   λi H=>∃xs ys,Sq t1 K H a xs/\Sq t2 K H b ys/\(i=xs.length∨(i<xs.length/\i=ys.length))⟩
structure w6 (t1 t2:Bool)(z TI TO i1 i2 a b:Addr)(i:Nat)(h:Heap):Prop where
 zz:IsZip h z TI TO .none
 ti:IsPair h TI (.ref i1) (.ref i2)
 to_:∃x y,IsPair h TO x y
 s1:fW t1 h i1 a i
 s2:fW t2 h i2 b i
theorem M8 (t1 t2:Bool){P:Program}{w:World}{K:ad}{elts:List Expr}{k:Nat}{pos:Pos}(a b z TI TO i1 i2:Addr)(d:[z,TI,TO,i1,i2].Nodup) :
  gP P w K (.Tuple elts k pos) (az1 t1 t2 K a b) [z,TI,TO,i1,i2] z (w6 t1 t2 z TI TO i1 i2 a b):=by
 have nd:z≠TI/\z≠TO/\z≠i1/\z≠i2/\TI≠TO/\TI≠i1/\TI≠i2/\TO≠i1/\TO≠i2/\i1≠i2:=by
  simp only[bu1,bl8,bn1,br4,not_or]at d
  obtain⟨⟨a1,a2,a3,a4⟩,⟨b1,b2,b3⟩,⟨c1,c2⟩,e1,_⟩:=d
  exact⟨a1,a2,a3,a4,b1,b2,b3,c1,c2,e1⟩
 obtain⟨n1,n2,n3,n4,n5,n6,n7,n8,n9,n10⟩:=nd
 have offBase:∀{X:Cx}{pins:List (Addr×Obj)}{σ:St}{H:Hp}{s:Shared},a6 X pins σ H s->(∀c∈[z,TI,TO,i1,i2],gB X pins H c)->∀c∈[z,TI,TO,i1,i2],X.base.get? c=none:=by
  intro X pins σ H s I hf c hc
  cases q:X.base.get? c with
  |none=>rfl
  |some o=>
   rcases (hf c hc).2.2.2.1 with h|h
   ·exact absurd h (I.ok.noex c o q)
   ·exact absurd (bm5 (bm3 q) (bp5 I.ok.bsz h)) (br2 _)
 have off:∀{t:Bool}{X:Cx}{pins:List (Addr×Obj)}{σ:St}{H:Hp}{s:Shared}{c:Addr}{zs:List V},a6 X pins σ H s->(∀c∈[z,TI,TO,i1,i2],gB X pins H c)->Sq t X.K H c zs->c∉[z,TI,TO,i1,i2]:=by
  intro t X pins σ H s c zs I hf hc hm
  exact Sq.off I (hf c hm).1 (offBase I hf c hm) hc
 have ap:∀{c e:Addr},c∉[z,TI,TO,i1,i2]->e∉[z,TI,TO,i1,i2]->Zp.Ap z TI TO i1 i2 [i1,c] [i2,e]:=λ{c e} hc he=>by
  simp only[bl8,bn1,br4,not_or]at hc he
  obtain⟨c1,c2,c3,c4,c5⟩:=hc
  obtain⟨e1,e2,e3,e4,e5⟩:=he
  have two:∀{q u v:Addr},q≠u->q≠v->q∉[u,v]:=λ{q u v} h1 h2 hm=>by
   simp only[bl8,bn1,br4]at hm
   exact hm.elim h1 h2
  exact⟨n1.symm,n2.symm,n5,two n3 (Ne.symm c1),two n4 (Ne.symm e1),two n8 (Ne.symm c3),two n9 (Ne.symm e3),two n6 (Ne.symm c2),two n7 (Ne.symm e2),bl7,bl7,two n10 (Ne.symm e4),two n10.symm (Ne.symm c5)⟩
 refine⟨by simp,λi h st c hc=>?_,λi h h' st kp=>?_,?_,?_,λA i s Q E st q=>wpAny_pyIter_zip st.zz q⟩
 ·simp only[bl8,bn1,br4]at hc
  obtain⟨x,y,to⟩:=st.to_
  rcases hc with rfl|rfl|rfl|rfl|rfl
  ·exact⟨_,st.zz,λv q=>by cases q⟩
  ·exact⟨_,st.ti,λv q=>by cases q⟩
  ·exact⟨_,to,λv q=>by cases q⟩
  ·exact st.s1.ob
  ·exact st.s2.ob
 ·obtain⟨x,y,to⟩:=st.to_
  exact⟨kp z (by simp) _ st.zz,kp TI (by simp) _ st.ti,⟨x,y,kp TO (by simp) _ to⟩,st.s1.at λo e=>kp i1 (by simp) o e,st.s2.at λo e=>kp i2 (by simp) o e⟩
 ·
  intro X hP hw hK hc i pins s σ H E I hf st hg
  subst hP hw hK
  obtain⟨xs,ys,x,y,ha,hb,hx,hy⟩:=hg
  obtain⟨us,ru,pu⟩:=Sq.get I ha
  obtain⟨vs,rv,pv'⟩:=Sq.get I hb
  obtain⟨ux,eux,rux⟩:=ru.get hx
  obtain⟨vy,evy,rvy⟩:=rv.get hy
  have fa:=off I hf ha
  have fb:=off I hf hb
  have hh:X.A.in1.handled=none:=I.ok.hd hc
  have l1:i<us.toArray.size:=by simpa using (bl9.mp eux).1
  have l2:i<vs.toArray.size:=by simpa using (bl9.mp evy).1
  have fa':a≠i1:=λq=>fa (by rw[q];simp)
  have fb':b≠i2:=λq=>fb (by rw[q];simp)
  have D1:=fW.draws t1 (prog:=X.prog) (w:=X.w) hh i1 a fa' us.toArray
  have D2:=fW.draws t2 (prog:=X.prog) (w:=X.w) hh i2 b fb' vs.toArray
  refine Zp.item D1 D2 (ap fa fb) l1 l2 ⟨st.zz,st.ti,st.to_,⟨st.s1,pu⟩,⟨st.s2,pv'⟩⟩ λp q h' tk hp hq st' pr kp sz=>⟨_,rfl,?_⟩
  obtain rfl:p=ux:=by
   have:us.toArray[i]? = some ux:=by simpa using eux
   rw[this]at hp;exact (bn8 hp).symm
  obtain rfl:q=vy:=by
   have:vs.toArray[i]? = some vy:=by simpa using evy
   rw[this]at hq;exact (bn8 hq).symm
  refine wpAny_letOwnedTupleGo_zip (s:={ s with heap:=h',toks:=tk }) st'.zz λg zz sb=>?_
  have hzl:z<s.heap.objs.size:=bm3 st.zz
  have up:∀c o,c≠z->c≠TO->c≠i1->c≠i2->s.heap.get? c=some o->g.get? c=some o:=λc o c1 c2 c3 c4 e=>sb.extBut c o c1 (kp c o c1 c2 c3 c4 e)
  have hT:H s.heap.objs.size=none:=I.hok.fresh (bk7 _)
  have prG:IsPair g s.heap.objs.size p q:=sb.extBut _ _ (bv2 hzl) pr
  have fpn:∀c u,H c=some u->c∉[z,TI,TO,i1,i2]:=λc u e hm=>by rw[(hf c hm).1]at e;cases e
  have upH:∀c o u,H c=some u->s.heap.get? c=some o->g.get? c=some o:=λc o u e z=>by
   have:=fpn c u e
   simp only[bl8,bn1,br4,not_or]at this
   exact up c o this.1 this.2.2.1 this.2.2.2.1 this.2.2.2.2 z
  have ns:∀m,s.heap.Ns X.env.locals m->g.Ns X.env.locals m:=λm hm=>by
   obtain⟨o,es,ep,e1,e2⟩:=hm
   exact⟨o,es,ep,up _ o (Ne.symm (hf z (by simp)).2.1) (Ne.symm (hf TO (by simp)).2.1) (Ne.symm (hf i1 (by simp)).2.1) (Ne.symm (hf i2 (by simp)).2.1) e1,e2⟩
  have I2:a6 X pins σ (upd H s.heap.objs.size (.tup [x,y])) { s with heap:=g,toks:=tk }:=by
   refine I.step (g':=s.gens) (d':=s.drawn) (ch:=[z,TO,i1,i2]) (λc hc'=>?_) (λc o _ _ hc' e _=>?_) (λc o _ _ hc' e _=>⟨o.slots,?_⟩) (λc o _ e n=>?_) (λc o hc' e=>⟨o,?_⟩)
    (λc zs e=>by rw[aC (bX e hT)];exact e) (λc u zs e=>by rw[aC (bX e hT)];exact e) (λc ps e=>⟨#[],by rw[aC (bX e hT),e];simp⟩) ns (λc u e=>?_) I.bare
   ·have hm:c∈[z,TI,TO,i1,i2]:=by
     simp only[bl8,bn1,br4]at hc' ⊢
     rcases hc' with h|h|h|h<;>simp[h]
    exact⟨(hf c hm).2.2.2.1,(hf c hm).2.1,(hf c hm).2.2.2.2.1,(hf c hm).2.2.2.2.2⟩
   ·simp only[bl8,bn1,br4,not_or]at hc'
    exact up c o hc'.1 hc'.2.1 hc'.2.2.1 hc'.2.2.2 e
   ·simp only[bl8,bn1,br4,not_or]at hc'
    exact up c o hc'.1 hc'.2.1 hc'.2.2.1 hc'.2.2.2 e
   ·rw[aC (bo2 (bm3 e))];exact n
   ·simp only[bl8,bn1,br4,not_or]at hc'
    exact up c o hc'.1 hc'.2.1 hc'.2.2.1 hc'.2.2.2 e
   ·by_cases hcT:c=s.heap.objs.size
    ·subst hcT
     rw[aT]at e;cases e
     exact⟨by show 2<=sizeLine;decide,[p,q],.cons rux (.cons rvy .nil),⟨_,prG,rfl,_,rfl⟩,λu e=>by rw[prG]at e;cases e;rfl⟩
    ·rw[aC hcT]at e
     refine (I.hok c u e).stay (λc' o' hc2 q'=>?_) (λc' q'=>by rw[aC (bX q' hT)];exact q') λc' zs q'=>by rw[aC (bX q' hT)];exact q'
     rcases hc2 with rfl|hc2
     ·exact upH _ _ _ e q'
     ·exact upH _ _ _ hc2 q'
  obtain⟨x',y',to'⟩:=st'.to_
  refine⟨.ref s.heap.objs.size,_,I2,rfl,⟨_,x,y,hT,rfl,rfl,λxs' ys' ha' hb'=>?_⟩,⟨zz,sb.extBut _ _ n1.symm st'.ti,⟨x',y',sb.extBut _ _ n2.symm to'⟩,st'.s1.1.at λo e=>sb.extBut _ o n3.symm e,st'.s2.1.at λo e=>sb.extBut _ o n4.symm e⟩,λc hc'=>?_⟩
  ·rw[Sq.inj I ha' ha,Sq.inj I hb' hb];exact⟨hx,hy⟩
  ·obtain⟨o,e,_⟩:∃o,s.heap.get? c=some o/\True:=by
    simp only[bl8,bn1,br4]at hc'
    obtain⟨x2,y2,to2⟩:=st.to_
    obtain⟨o1,f1,_⟩:=st.s1.ob
    obtain⟨o2,f2,_⟩:=st.s2.ob
    rcases hc' with rfl|rfl|rfl|rfl|rfl
    ·exact⟨_,st.zz,trivial⟩
    ·exact⟨_,st.ti,trivial⟩
    ·exact⟨_,to2,trivial⟩
    ·exact⟨_,f1,trivial⟩
    ·exact⟨_,f2,trivial⟩
   rw[aC (bo2 (bm3 e))];exact (hf c hc').1
 ·
  intro X hP hw hK hc i pins s σ H E I hf st hg
  subst hP hw hK
  obtain⟨xs,ys,ha,hb,hi⟩:=hg
  obtain⟨us,ru,pu⟩:=Sq.get I ha
  obtain⟨vs,rv,pv'⟩:=Sq.get I hb
  have fa:=off I hf ha
  have fb:=off I hf hb
  have hh:X.A.in1.handled=none:=I.ok.hd hc
  have fa':a≠i1:=λq=>fa (by rw[q];simp)
  have fb':b≠i2:=λq=>fb (by rw[q];simp)
  have D1:=fW.draws t1 (prog:=X.prog) (w:=X.w) hh i1 a fa' us.toArray
  have D2:=fW.draws t2 (prog:=X.prog) (w:=X.w) hh i2 b fb' vs.toArray
  have e1:=ru.length
  have e2:=rv.length
  refine Zp.fin D1 D2 (ap fa fb) (by simp only[bk9];omega) ⟨st.zz,st.ti,st.to_,⟨st.s1,pu⟩,⟨st.s2,pv'⟩⟩ λg tk kp=>⟨rfl,?_⟩
  have fpn:∀c u,H c=some u->c∉[z,TI,TO,i1,i2]:=λc u e hm=>by rw[(hf c hm).1]at e;cases e
  have upH:∀c o u,H c=some u->s.heap.get? c=some o->g.get? c=some o:=λc o u e z=>by
   have:=fpn c u e
   simp only[bl8,bn1,br4,not_or]at this
   exact kp c o this.1 this.2.2.1 this.2.2.2.1 this.2.2.2.2 z
  have ns:∀m,s.heap.Ns X.env.locals m->g.Ns X.env.locals m:=λm hm=>by
   obtain⟨o,es,ep,e1,e2⟩:=hm
   exact⟨o,es,ep,kp _ o (Ne.symm (hf z (by simp)).2.1) (Ne.symm (hf TO (by simp)).2.1) (Ne.symm (hf i1 (by simp)).2.1) (Ne.symm (hf i2 (by simp)).2.1) e1,e2⟩
  refine I.step (g':=s.gens) (d':=s.drawn) (ch:=[z,TO,i1,i2]) (λc hc'=>?_) (λc o _ _ hc' e _=>?_) (λc o _ _ hc' e _=>⟨o.slots,?_⟩) (λc o _ e n=>n) (λc o hc' e=>⟨o,?_⟩)
   (λc zs e=>e) (λc u zs e=>e) (λc ps e=>⟨#[],by rw[e];simp⟩) ns (λc u e=>?_) I.bare
  ·have hm:c∈[z,TI,TO,i1,i2]:=by
    simp only[bl8,bn1,br4]at hc' ⊢
    rcases hc' with h|h|h|h<;>simp[h]
   exact⟨(hf c hm).2.2.2.1,(hf c hm).2.1,(hf c hm).2.2.2.2.1,(hf c hm).2.2.2.2.2⟩
  ·simp only[bl8,bn1,br4,not_or]at hc'
   exact kp c o hc'.1 hc'.2.1 hc'.2.2.1 hc'.2.2.2 e
  ·simp only[bl8,bn1,br4,not_or]at hc'
   exact kp c o hc'.1 hc'.2.1 hc'.2.2.1 hc'.2.2.2 e
  ·simp only[bl8,bn1,br4,not_or]at hc'
   exact kp c o hc'.1 hc'.2.1 hc'.2.2.1 hc'.2.2.2 e
  ·refine (I.hok c u e).stay (λc' o' hc2 q'=>?_) (λ_ q'=>q') λ_ _ q'=>q'
   rcases hc2 with rfl|hc2
   ·exact upH _ _ _ e q'
   ·exact upH _ _ _ hc2 q'
abbrev az2:=w6 true true
theorem az3 {P:Program}{w:World}{K:ad}{elts:List Expr}{k:Nat}{pos:Pos}(a b z TI TO i1 i2:Addr)(d:[z,TI,TO,i1,i2].Nodup) :
  gP P w K (.Tuple elts k pos) (w5 K a b) [z,TI,TO,i1,i2] z (az2 z TI TO i1 i2 a b):=M8 true true a b z TI TO i1 i2 d
section
variable {X:Cx}
def az4 (K:ad)(ta:TA):TI:=λσ H R=>ta σ H λvs H1=>∃a b xs ys,vs = [.ref a,.ref b]/\aH K H1 a xs/\aH K H1 b ys/\R (w5 K a b) H1
theorem az5 {elts:List Expr}{kt:Nat}{pt:Pos}{a b:Expr}{ta:TA}{p pos:Pos}(hg:Gl X "zip")(hm:X.mg "zip" = none)(ha:PA X [a,b] ta)(hs:starEach [a,b] X.env = [(false,eval a X.env),(false,eval b X.env)]:=by rfl)(hs2:starEach [b] X.env = [(false,eval b X.env)]:=by rfl) :
  PI X (.Tuple elts kt pt) (.Call (.Name "zip" p) [a,b] [] pos) (az4 X.K ta):=by
 intro pins s σ H R I h
 refine Call_ (jM I hg hm PyProof.Rows.boot_zip (bt3 (aK (ha pos pins s σ H _ I h) λus s1 ⟨vs,H1,I1,r1,q1⟩=>?_) (by rw[hs,hs2]) (by rw[hs2];rfl)))
 obtain⟨a',b',xs,ys,e,h1,h2,q⟩:=q1
 subst e
 cases r1 with
 |cons r rr=>
  cases rr with
  |cons r' rr=>
   cases rr
   cases r
   cases r'
   obtain⟨us,_,p1,_⟩:=I1.tuple h1
   obtain⟨ws,_,p2,_⟩:=I1.tuple h2
   refine Zp.az0 p1 p2 λh' z ti to s1' s2' kp=>wpAny_pyIter_zip z ?_
   have fresh:∀k,H1 (s1.heap.objs.size+k)=none:=λk=>I1.hok.fresh (bs7 _ _)
   refine⟨s1.heap.objs.size+4,[s1.heap.objs.size+4,s1.heap.objs.size+2,s1.heap.objs.size+3,s1.heap.objs.size,s1.heap.objs.size+1],_,_,H1,rfl,I1.kept (t':=s1.toks) kp,
    az3 a' b' _ _ _ _ _ (by simp),⟨z,ti,⟨_,_,to⟩,s1',s2'⟩,λc hc=>?_,q⟩
   simp only[bl8,bn1,br4]at hc
   rcases hc with rfl|rfl|rfl|rfl|rfl
   ·exact I1.fpOk (bs7 _ _) (fresh 4)
   ·exact I1.fpOk (bs7 _ _) (fresh 2)
   ·exact I1.fpOk (bs7 _ _) (fresh 3)
   ·exact I1.fpOk (bk7 _) (fresh 0)
   ·exact I1.fpOk (bs7 _ _) (fresh 1)
theorem w9 (hc:X.calm=true):cP X (.builtin "all") (λxs H Q=>∃(a:Addr) (bs:List Bool),xs = [.ref a]/\aJ X.K H a (bs.map V.bl)/\Q (.bl (bs.all id)) H):=by
 intro pins s σ H xs us Q I r h
 obtain⟨a,bs,rfl,hq,q⟩:=h
 obtain⟨u,rfl,ru⟩:=fU r
 cases ru
 obtain⟨its,rv,p,hz⟩:=I.list hq
 have hl:=rv.length
 rw[bl5]at hl
 have hlt:a<s.heap.objs.size:=by obtain⟨o,e,_⟩:=p.isList;exact bm3 e
 refine call_all_walk (wpAny_pyIter_list p.isList ?_)
 have hh:X.A.in1.handled=none:=I.ok.hd hc
 refine⟨s.heap.objs.size,_,_,_,_,_,λi=>bs.getD i false,rfl,Walks.list hh s.heap.objs.size a (bo2 hlt) its.toArray,⟨⟨_,bm4 _ rfl,rfl,rfl⟩,p.isList.push _⟩,?_,λh' tk kp=>?_⟩
 ·intro i v s' Q' E' hP hQ'
  have hi:its[i]? = some v:=by simpa using hP
  have hil:i<bs.length:=by rw[hl];exact (bl9.mp hi).1
  obtain⟨u,e1,e2⟩:=rv.get (i:=i) (x:=.bl bs[i]) (by simp[hil])
  rw[hi]at e1;cases e1
  cases e2
  have:bs.getD i false=bs[i]:=by rw[bl3,bk5 hil];rfl
  have hQ2:Q' (bs.getD i false) s':=hQ'
  rw[this]at hQ2
  exact bu7 hQ2
 ·have all_eq:(List.range its.toArray.size).all (λi=>bs.getD i false)=bs.all id:=by
   rw[bk9,<- hl]
   clear q rv hz hl hq hlt p hh kp
   induction bs with
   |nil=>rfl
   |cons b r ih=>
    rw[bo3,List.range_succ_eq_map,bz9,List.all_map,bz9,<- ih]
    rfl
  rw[all_eq]
  refine⟨.bl (bs.all id),H,I.kept (t':=tk) (h':=h') λb o e=>kp b o (λz=>?_) (bk6 _ e),rfl,q⟩
  rw[bl0.mp z]at e
  exact absurd (bm3 e) (br2 _)
end
structure wA (H:Hp)(J:It)(n:Nat)(R:Nat->V->Hp->Prop):Prop where
 go:∀i H',aA H H'->i<n->J.go i H'
 yld:∀i H' x H2,aA H H'->J.yld i H' x H2->i<n->aA H' H2/\R i x H2
 stop:∀H',aA H H'->J.stop n H'
theorem wB {H1:Hp}{J:It}{n:Nat}{R:Nat->V->Hp->Prop}{g:TG}{tc:TT}{te:TE}{σ0:St}{Q:VK}(O:wA H1 J n R)(Pv:Nat->List V->Hp->Prop)(hn:n<=sizeLine)(h0:∀D,H1 D=none->Pv 0 [] (upd H1 D (.lst [])))(mono:∀i acc H' H2,aA H' H2->Pv i acc H'->Pv i acc H2)(hs:∀i x acc D H',i<n->R i x H'->qM H1 D n i acc H'->Pv i acc H'->g x σ0 H' λσ2 H3=>Wk σ0 σ2/\tc σ2 H3 λb H4=>
   if b=true then te σ2 H4 λv H5=>vQ H1 D n Pv i acc v H5 else K8 H1 D n Pv i acc H4)(hd:∀D acc H',H1 D=none->aA H1 H'->H' D=some (.lst acc)->acc.length<=n->Pv n acc H'->Q (.ref D) H') :
  ∀D,H1 D=none->∃W:Nat->Nat->List V->Hp->Prop,(∃m,W 0 m [] (upd H1 D (.lst [])))/\oB g tc te σ0 J D Q W:=by
 intro D hD
 refine⟨CW H1 D n Pv,⟨n,rfl,bo4 _,bk7 _,aZ hD _,aT,h0 D hD⟩,?_⟩
 rintro i m acc H' ⟨rfl,hi,ha,sm,hDa,p⟩
 refine⟨hDa,?_⟩
 by_cases hlt:i<n
 ·refine .inr ⟨O.go i H' sm hlt,λx H2 y=>?_⟩
  obtain⟨s2,r2⟩:=O.yld i H' x H2 sm y hlt
  exact hs i x acc D H2 hlt r2 ⟨hlt,ha,hn,sm.trans s2,hD,s2 _ _ hDa⟩ (mono i acc H' H2 s2 p)
 ·have e:i=n:=by omega
  subst e
  exact .inl ⟨O.stop H' sm,hd D acc H' hD sm hDa ha p⟩
theorem M9 {K:ad}{H:Hp}{a b:Addr}{xs ys:List V}(ha:aH K H a xs)(hb:aH K H b ys)(hl:ys.length<=xs.length) :
  wA H (w5 K a b) ys.length (λi v H2=>∃T x y,v = .ref T/\H2 T=some (.tup [x,y])/\xs[i]? = some x/\ys[i]? = some y):=by
 refine⟨λi H' sm hi=>⟨xs,ys,xs[i]'(by omega),ys[i],sm.tup ha,sm.tup hb,by simp,by simp⟩,λi H' v H2 sm y hi=>?_,λH' sm=>⟨xs,ys,sm.tup ha,sm.tup hb,by omega⟩⟩
 obtain⟨T,x,y',hT,hv,e,hxy⟩:=y
 subst e
 obtain⟨h1,h2⟩:=hxy xs ys (sm.tup ha) (sm.tup hb)
 exact⟨aZ hT _,T,x,y',hv,aT,h1,h2⟩
end L2
namespace HT
open PySem PyProof.Rows
section
variable {prog:Program}{w:World}{A:Around}{E:Value→Shared→Prop}{s:Shared}
theorem az6 {t sl:Addr}{items:Array Value}{vl vu:Value}{lo hi:Option Int}{Q:Value->Shared->Prop}(ht:IsTup s.heap t items)(hs:s.heap.IsSliceOf sl vl vu .none)(pl:IsPart vl lo)(pu:IsPart vu hi)(h1:aS items.size 0 lo=0)(h2:aS items.size items.size hi=items.size)(h:Q (.ref t) s):wpAny (model prog w) A (getItem (.ref t) (.ref sl)) Q E s:=by
 obtain⟨o,e1,e2,e3⟩:=id hs
 have T:s.TypeIs (.ref sl) "slice":=⟨o,e1,e2⟩
 unfold getItem
 try with_reducible refine bt1 ?_
 first|refine bk3 (bk8 ?_)|skip
 apply bk3
 apply wpAny_sequenceKey ht.typeIs (by decide)
 apply bk3
 apply bs0 (name:=Str.ofString "__getitem__") ht.typeIs bx0
 apply bs4 bx0 ht.typeIs entry_tuple_getitem _ (args_tuple_getitem _ _)
 change wpAny _ _ (Builtin.Tuple.tupleItemsOf (.ref t) >>= _) _ _ s
 apply bk3
 apply tupleItemsOf_ ht
 apply bk3
 apply wpAny_typeOf T
 rw[if_pos (by decide)]
 apply bk3
 apply E5 hs pl pu
 rw[h1,h2]
 have yes:((((0:Nat):Int)==0&&(1:Int)==1&&(items.size-0)==items.size)=true):=by simp
 change wpAny _ _ (if ((((0:Nat):Int)==0&&(1:Int)==1&&(items.size-0)==items.size)=true) then _ else _) _ _ s
 rw[if_pos yes]
 apply bk3
 unfold Builtin.Tuple.tupleIsExact
 apply bk3
 apply wpAny_typeOf ht.typeIs
 apply bk8
 change wpAny _ _ (rule "tuple.getitem.whole" >>= λ_=>ret (Value.ref t)) _ _ s
 apply bk3
 apply bz2
 exact bk8 ⟨_,rfl,bk8 h⟩
end
end HT
namespace L2
open PySem PySem.Spec PyProof.Rows
section
variable {X:Cx}
def az7 (K:ad):V->Option Int->Option Int->Hp->VK->Prop:=λx lo hi H Q=>∃a xs,x = .ref a/\aH K H a xs/\(∀p,H p=none->Q (.ref p) (upd H p (.tup (dN xs lo hi))))/\(dN xs lo hi=xs->Q (.ref a) H)
theorem N0:jO X (az7 X.K):=by
 intro pins s σ H x v vl vu lo hi sl Q I rx hs pl pu h
 obtain⟨a,xs,ex,hx,q1,q2⟩:=h
 by_cases hw:HT.aS xs.length 0 lo=0/\HT.aS xs.length xs.length hi=xs.length
 ·subst ex
  cases rx
  obtain⟨its,r,ht,hz⟩:=I.tuple hx
  have hlen:its.toArray.size=xs.length:=by rw[bk9];exact r.length.symm
  refine⟨"tuple",_,PyProof.Rows.slot_tuple_getitem.lookup,ht.typeIs,?_⟩
  refine HT.az6 ht hs pl pu (by rw[hlen];exact hw.1) (by rw[hlen];exact hw.2) ⟨.ref a,H,I,rfl,q2 ?_⟩
  unfold dN
  rw[hw.1,hw.2]
  simp
 ·exact at0 pins s σ H x v vl vu lo hi sl Q I rx hs pl pu ⟨a,xs,ex,hx,hw,q1⟩
end
theorem wC (xs:List V):dN xs (some 1) none=xs.drop 1:=by
 unfold dN
 have e1:HT.aS xs.length 0 (some 1)=min 1 xs.length:=HT.as1 xs.length 0 1
 have e2:HT.aS xs.length xs.length none=xs.length:=rfl
 rw[e1,e2]
 cases xs with
 |nil=>rfl
 |cons x r=>
  have:min 1 (x::r).length=1:=by simp
  rw[this]
  simp
def wD (K:ad)(a b:Addr):It:=
  ⟨λi H=>∃xs ys x y,aJ K H a xs/\aJ K H b ys/\xs[i]? = some x/\ys[i]? = some y,
   λi H v H'=>∃T x y,H T=none/\v = .ref T/\H'=upd H T (.tup [x,y])/\∀xs ys,aJ K H a xs->aJ K H b ys->xs[i]? = some x/\ys[i]? = some y,
   λi H=>∃xs ys,aJ K H a xs/\aJ K H b ys/\(i=xs.length∨(i<xs.length/\i=ys.length))⟩
abbrev az8:=w6 false false
theorem az9 {P:Program}{w:World}{K:ad}{elts:List Expr}{k:Nat}{pos:Pos}(a b z TI TO i1 i2:Addr)(d:[z,TI,TO,i1,i2].Nodup) :
  gP P w K (.Tuple elts k pos) (wD K a b) [z,TI,TO,i1,i2] z (az8 z TI TO i1 i2 a b):=M8 false false a b z TI TO i1 i2 d
section
variable {X:Cx}
def aA0 (K:ad)(ta:TA):TI:=λσ H R=>ta σ H λvs H1=>∃a b xs ys,vs = [.ref a,.ref b]/\aJ K H1 a xs/\aJ K H1 b ys/\R (wD K a b) H1
theorem aA1 {elts:List Expr}{kt:Nat}{pt:Pos}{a b:Expr}{ta:TA}{p pos:Pos}(hg:Gl X "zip")(hm:X.mg "zip" = none)(ha:PA X [a,b] ta)(hs:starEach [a,b] X.env = [(false,eval a X.env),(false,eval b X.env)]:=by rfl)(hs2:starEach [b] X.env = [(false,eval b X.env)]:=by rfl) :
  PI X (.Tuple elts kt pt) (.Call (.Name "zip" p) [a,b] [] pos) (aA0 X.K ta):=by
 intro pins s σ H R I h
 refine Call_ (jM I hg hm PyProof.Rows.boot_zip (bt3 (aK (ha pos pins s σ H _ I h) λus s1 ⟨vs,H1,I1,r1,q1⟩=>?_) (by rw[hs,hs2]) (by rw[hs2];rfl)))
 obtain⟨a',b',xs,ys,e,h1,h2,q⟩:=q1
 subst e
 cases r1 with
 |cons r rr=>
  cases rr with
  |cons r' rr=>
   cases rr
   cases r
   cases r'
   obtain⟨us,_,p1,_⟩:=I1.list h1
   obtain⟨ws,_,p2,_⟩:=I1.list h2
   refine call_zip_2 p1.isList p2.isList λh' z ti to s1' s2' _ kp=>wpAny_pyIter_zip z ?_
   have fresh:∀k,H1 (s1.heap.objs.size+k)=none:=λk=>I1.hok.fresh (bs7 _ _)
   refine⟨s1.heap.objs.size+4,[s1.heap.objs.size+4,s1.heap.objs.size+2,s1.heap.objs.size+3,s1.heap.objs.size,s1.heap.objs.size+1],_,_,H1,rfl,I1.kept (t':=s1.toks) kp,
    az9 a' b' _ _ _ _ _ (by simp),⟨z,ti,⟨_,_,to⟩,s1',s2'⟩,λc hc=>?_,q⟩
   simp only[bl8,bn1,br4]at hc
   rcases hc with rfl|rfl|rfl|rfl|rfl
   ·exact I1.fpOk (bs7 _ _) (fresh 4)
   ·exact I1.fpOk (bs7 _ _) (fresh 2)
   ·exact I1.fpOk (bs7 _ _) (fresh 3)
   ·exact I1.fpOk (bk7 _) (fresh 0)
   ·exact I1.fpOk (bs7 _ _) (fresh 1)
end
theorem aA2 {K:ad}{H:Hp}{a b:Addr}{xs ys:List V}(ha:aJ K H a xs)(hb:aJ K H b ys)(hl:ys.length<=xs.length) :
  wA H (wD K a b) ys.length (λi v H2=>∃T x y,v = .ref T/\H2 T=some (.tup [x,y])/\xs[i]? = some x/\ys[i]? = some y):=by
 refine⟨λi H' sm hi=>⟨xs,ys,xs[i]'(by omega),ys[i],sm.seq ha,sm.seq hb,by simp,by simp⟩,λi H' v H2 sm y hi=>?_,λH' sm=>⟨xs,ys,sm.seq ha,sm.seq hb,by omega⟩⟩
 obtain⟨T,x,y',hT,hv,e,hxy⟩:=y
 subst e
 obtain⟨h1,h2⟩:=hxy xs ys (sm.seq ha) (sm.seq hb)
 exact⟨aZ hT _,T,x,y',hv,aT,h1,h2⟩
end L2
namespace PP
open PySem L2
inductive PV where
 |non|bl (b:Bool)|int (i:Int)|str (x:Str)|tup (xs:List PV)|lst (xs:List PV)
 |dK (kvs:List (aG×PV))|dT (kvs:List (List aG×PV))|scr (ns:af)|kt (xs:List PV)|exc (c:Str)|fK (kvs:List (aG×PV))|fT (kvs:List (List aG×PV))|fL (xs:List PV)
mutual
def flat:PV->Bool
 |.tup xs=>flats xs
 |.lst _=>false
 |.dK _=>false
 |.dT _=>false
 |.non=>true
 |.bl _=>true
 |.int _=>true
 |.str _=>true
 |.scr _=>true
 |.kt xs=>flats xs
 |.exc _=>true
 |.fK _=>false
 |.fT _=>false
 |.fL xs=>flats xs
def flats:List PV->Bool
 |[]=>true
 |x::r=>flat x&&flats r
end
def iY (K:ad)(H:Hp)(a:Addr)(ns:af):Prop:=(∃o,H a=some (.frz o (.lst (ns.map V.int)))) ∨
  ∃(o:Obj) (its:Array Value) (n:Nat),K.lookup a=some o/\o.cls = .type "list"/\o.dict=none/\o.data = .seq its n/\its.size<=sizeLine/\aI (ns.map V.int) its.toList
def mB (K:ad)(a:Addr)(us:List V):Prop:=∃(o:Obj) (its:Array Value) (n:Nat),K.lookup a=some o/\o.cls = .type "tuple"/\o.data = .seq its n/\its.size<=sizeLine/\aI us its.toList
mutual
inductive aF (K:ad)(M:Addr->Prop)(H:Hp):V->PV->Prop
 |non:aF K M H .non .non
 |bl (b:Bool):aF K M H (.bl b) (.bl b)
 |int (i:Int):aF K M H (.int i) (.int i)
 |str (x:Str):aF K M H (.str x) (.str x)
 |tup {a:Addr}{us:List V}{xs:List PV}:H a=some (.tup us)->Reps K M H us xs->aF K M H (.ref a) (.tup xs)
 |lst {a:Addr}{us:List V}{xs:List PV}:M a->H a=some (.lst us)->Reps K M H us xs->aF K M H (.ref a) (.lst xs)
 |dK {a:Addr}{kvs:List (aG×V)}{ps:List (aG×PV)}:M a->H a=some (.dK kvs)->kvs.map (·.1)=ps.map (·.1)->Reps K M H (kvs.map (·.2)) (ps.map (·.2))->aF K M H (.ref a) (.dK ps)
 |dT {a:Addr}{kvs:List (List aG×V)}{ps:List (List aG×PV)}:M a->H a=some (.dT kvs)->kvs.map (·.1)=ps.map (·.1)->Reps K M H (kvs.map (·.2)) (ps.map (·.2))->aF K M H (.ref a) (.dT ps)
 |scr {a:Addr}{ns:af}:iY K H a ns->aF K M H (.ref a) (.scr ns)
 |kt {a:Addr}{us:List V}{xs:List PV}:mB K a us->Reps K M H us xs->aF K M H (.ref a) (.kt xs)
 |exc {a C:Addr}{o:Obj}{c:Str}:H a=some (.frz o (.own a))->PySem.W.nsIn K mainGlobals c=some (some (.ref C))->o.cls = .ref C->aF K M H (.ref a) (.exc c)
 |fK {a:Addr}{o:Obj}{kvs:List (aG×V)}{ps:List (aG×PV)}:H a=some (.frz o (.dK kvs))->kvs.map (·.1)=ps.map (·.1)->Reps K M H (kvs.map (·.2)) (ps.map (·.2))->aF K M H (.ref a) (.fK ps)
 |fT {a:Addr}{o:Obj}{kvs:List (List aG×V)}{ps:List (List aG×PV)}:H a=some (.frz o (.dT kvs))->kvs.map (·.1)=ps.map (·.1)->Reps K M H (kvs.map (·.2)) (ps.map (·.2))->aF K M H (.ref a) (.fT ps)
 |fL {a:Addr}{o:Obj}{us:List V}{xs:List PV}:H a=some (.frz o (.lst us))->Reps K M H us xs->aF K M H (.ref a) (.fL xs)
inductive Reps (K:ad)(M:Addr->Prop)(H:Hp):List V->List PV->Prop
 |nil:Reps K M H [] []
 |cons {v:V}{x:PV}{vs:List V}{xs:List PV}:aF K M H v x->Reps K M H vs xs->Reps K M H (v::vs) (x::xs)
end
structure iH (M M':Addr->Prop)(H H':Hp):Prop where
 lst:∀a us,M a->H a=some (.lst us)->M' a/\H' a=some (.lst us)
 dK:∀a kvs,M a->H a=some (.dK kvs)->M' a/\H' a=some (.dK kvs)
 dT:∀a kvs,M a->H a=some (.dT kvs)->M' a/\H' a=some (.dT kvs)
 tup:∀a us,H a=some (.tup us)->H' a=some (.tup us)
 frz:∀a o u,H a=some (.frz o u)->H' a=some (.frz o u)
theorem iY.keep {K:ad}{H H':Hp}{a:Addr}{ns:af}(k:∀a o u,H a=some (.frz o u)->H' a=some (.frz o u))(h:iY K H a ns):iY K H' a ns:=
 h.elim (λ⟨o,e⟩=>.inl ⟨o,k _ _ _ e⟩) .inr
mutual
theorem aF.keep {K:ad}{M M':Addr->Prop}{H H':Hp}(k:iH M M' H H'):∀{v:V}{x:PV},aF K M H v x->aF K M' H' v x
 |_,_,.non=>.non
 |_,_,.bl b=>.bl b
 |_,_,.int i=>.int i
 |_,_,.str x=>.str x
 |_,_,.tup h r=>.tup (k.tup _ _ h) (Reps.keep k r)
 |_,_,.lst m h r=>.lst (k.lst _ _ m h).1 (k.lst _ _ m h).2 (Reps.keep k r)
 |_,_,.dK m h e r=>.dK (k.dK _ _ m h).1 (k.dK _ _ m h).2 e (Reps.keep k r)
 |_,_,.dT m h e r=>.dT (k.dT _ _ m h).1 (k.dT _ _ m h).2 e (Reps.keep k r)
 |_,_,.scr h=>.scr (h.keep k.frz)
 |_,_,.kt h r=>.kt h (Reps.keep k r)
 |_,_,.exc h e c=>.exc (k.frz _ _ _ h) e c
 |_,_,.fK h e r=>.fK (k.frz _ _ _ h) e (Reps.keep k r)
 |_,_,.fT h e r=>.fT (k.frz _ _ _ h) e (Reps.keep k r)
 |_,_,.fL h r=>.fL (k.frz _ _ _ h) (Reps.keep k r)
theorem Reps.keep {K:ad}{M M':Addr->Prop}{H H':Hp}(k:iH M M' H H'):∀{vs:List V}{xs:List PV},Reps K M H vs xs->Reps K M' H' vs xs
 |_,_,.nil=>.nil
 |_,_,.cons r t=>.cons (aF.keep k r) (Reps.keep k t)
end
mutual
theorem aF.flat {K:ad}{M M':Addr->Prop}{H:Hp}{v:V}{x:PV}(f:flat x=true)(r:aF K M H v x):aF K M' H v x:=by
 cases r with
 |non=>exact .non
 |bl b=>exact .bl b
 |int i=>exact .int i
 |str x=>exact .str x
 |tup h r=>exact .tup h (Reps.flat (by unfold PP.flat at f;exact f) r)
 |lst m h r=>unfold PP.flat at f;cases f
 |dK m h e r=>unfold PP.flat at f;cases f
 |dT m h e r=>unfold PP.flat at f;cases f
 |scr h=>exact .scr h
 |kt h r=>exact .kt h (Reps.flat (by unfold PP.flat at f;exact f) r)
 |exc h e c=>exact .exc h e c
 |fK h e r=>unfold PP.flat at f;cases f
 |fT h e r=>unfold PP.flat at f;cases f
 |fL h r=>exact .fL h (Reps.flat (by unfold PP.flat at f;exact f) r)
theorem Reps.flat {K:ad}{M M':Addr->Prop}{H:Hp}{vs:List V}{xs:List PV}(f:flats xs=true)(r:Reps K M H vs xs):Reps K M' H vs xs:=by
 cases r with
 |nil=>exact .nil
 |cons r t=>
  unfold PP.flats at f
  rw[bp4]at f
  exact .cons (aF.flat f.1 r) (Reps.flat f.2 t)
end
theorem iH.same {M M':Addr->Prop}{H H':Hp}(s:aA H H')(m:∀a,M a->M' a):iH M M' H H':=
 ⟨λa _ h e=>⟨m a h,s _ _ e⟩,λa _ h e=>⟨m a h,s _ _ e⟩,λa _ h e=>⟨m a h,s _ _ e⟩,λ_ _ e=>s _ _ e,λ_ _ _ e=>s _ _ e⟩
theorem aF.same {K:ad}{M M':Addr->Prop}{H H':Hp}{v:V}{x:PV}(r:aF K M H v x)(s:aA H H')(m:∀a,M a->M' a):aF K M' H' v x:=r.keep (.same s m)
theorem Reps.same {K:ad}{M M':Addr->Prop}{H H':Hp}{v:List V}{x:List PV}(r:Reps K M H v x)(s:aA H H')(m:∀a,M a->M' a):Reps K M' H' v x:=r.keep (.same s m)
def gU:HO->Bool
 |.lst _=>true
 |.dK _=>true
 |.dT _=>true
 |_=>false
theorem iH.upd {M M':Addr->Prop}{H:Hp}{a:Addr}{o o':HO}(h:H a=some o')(mu:gU o'=true)(m:∀b,M b->b≠a/\M' b):iH M M' H (upd H a o):=
 ⟨λb _ hb e=>⟨(m b hb).2,by rw[aC (m b hb).1];exact e⟩,λb _ hb e=>⟨(m b hb).2,by rw[aC (m b hb).1];exact e⟩,λb _ hb e=>⟨(m b hb).2,by rw[aC (m b hb).1];exact e⟩,
  λb _ e=>by rw[aC (λz=>by rw[z,h]at e;cases e;cases mu)];exact e,
  λb _ _ e=>by rw[aC (λz=>by rw[z,h]at e;cases e;cases mu)];exact e⟩
theorem Reps.length {K:ad}{M:Addr->Prop}{H:Hp}:∀{vs:List V}{xs:List PV},Reps K M H vs xs->vs.length=xs.length
 |_,_,.nil=>rfl
 |_,_,.cons _ t=>congrArg (·+1) t.length
theorem Reps.get {K:ad}{M:Addr->Prop}{H:Hp}:∀{vs:List V}{xs:List PV}{i:Nat}{v:V},Reps K M H vs xs->vs[i]? = some v->∃x,xs[i]? = some x/\aF K M H v x
 |_,_,_,_,.nil,e=>by simp at e
 |_,_,0,_,.cons r _,e=>by simp at e;subst e;exact⟨_,rfl,r⟩
 |_,_,i+1,v,.cons _ t,e=>by
  rw[bs1]at e
  obtain⟨x,h1,h2⟩:=t.get e
  exact⟨x,by rw[bs1];exact h1,h2⟩
theorem Reps.at {K:ad}{M:Addr->Prop}{H:Hp}:∀{vs:List V}{xs:List PV}{i:Nat}{x:PV},Reps K M H vs xs->xs[i]? = some x->∃v,vs[i]? = some v/\aF K M H v x
 |_,_,_,_,.nil,e=>by simp at e
 |_,_,0,_,.cons r _,e=>by simp at e;subst e;exact⟨_,rfl,r⟩
 |_,_,i+1,v,.cons _ t,e=>by
  rw[bs1]at e
  obtain⟨x,h1,h2⟩:=t.at e
  exact⟨x,by rw[bs1];exact h1,h2⟩
theorem Reps.append {K:ad}{M:Addr->Prop}{H:Hp}:∀{vs:List V}{xs:List PV}{us:List V}{ys:List PV},Reps K M H vs xs->Reps K M H us ys->Reps K M H (vs++us) (xs++ys)
 |_,_,_,_,.nil,s=>s
 |_,_,_,_,.cons r t,s=>.cons r (t.append s)
theorem Reps.set {K:ad}{M:Addr->Prop}{H:Hp}{v:V}{x:PV}(q:aF K M H v x):∀(i:Nat) {vs:List V}{xs:List PV},Reps K M H vs xs->Reps K M H (vs.set i v) (xs.set i x)
 |_,_,_,.nil=>.nil
 |0,_,_,.cons r t=>.cons q t
 |i+1,_,_,.cons r t=>.cons r (Reps.set q i t)
theorem Reps.take {K:ad}{M:Addr->Prop}{H:Hp}:∀(n:Nat) {vs:List V}{xs:List PV},Reps K M H vs xs->Reps K M H (vs.take n) (xs.take n)
 |0,_,_,_=>by simp;exact .nil
 |_+1,_,_,.nil=>.nil
 |n+1,_,_,.cons r t=>.cons r (Reps.take n t)
theorem Reps.drop {K:ad}{M:Addr->Prop}{H:Hp}:∀(n:Nat) {vs:List V}{xs:List PV},Reps K M H vs xs->Reps K M H (vs.drop n) (xs.drop n)
 |0,_,_,r=>r
 |_+1,_,_,.nil=>.nil
 |n+1,_,_,.cons _ t=>Reps.drop n t
theorem Reps.eraseIdx {K:ad}{M:Addr->Prop}{H:Hp}:∀(n:Nat) {vs:List V}{xs:List PV},Reps K M H vs xs->Reps K M H (vs.eraseIdx n) (xs.eraseIdx n)
 |_,_,_,.nil=>.nil
 |0,_,_,.cons _ t=>t
 |n+1,_,_,.cons r t=>.cons r (Reps.eraseIdx n t)
abbrev intz (ns:af):List PV:=ns.map PV.int
theorem Reps.intz {K:ad}{M:Addr->Prop}{H:Hp}:∀(ns:af),Reps K M H (ns.map V.int) (intz ns)
 |[]=>.nil
 |n::r=>.cons (.int n) (Reps.intz r)
theorem Reps.ofInts {K:ad}{M:Addr->Prop}{H:Hp}:∀{ns:af}{us:List V},Reps K M H us (PP.intz ns)->us=ns.map V.int
 |[],_,.nil=>rfl
 |n::r,_,.cons q t=>by
  cases q
  rw[Reps.ofInts t];rfl
theorem cR:∀(ns:af),flats (intz ns)=true
 |[]=>rfl
 |n::r=>by show (flat (.int n)&&flats (intz r))=true;rw[cR r];rfl
inductive Tg|rd|sh|nw|fr
inductive Slot|sh (g:Bool) (x:PV)|own (x:PV)
def Slot.val:Slot->PV
 |.sh _ x=>x
 |.own x=>x
def Slot.tag:Slot->Tg
 |.sh true _=>.nw
 |.sh false _=>.sh
 |.own _=>.rd
abbrev b7:=List (Option Slot)
def Ms (H0:Hp)(W:Addr->Prop):Bool->Addr->Prop
 |false,a=>¬W a
 |true,a=>¬W a/\H0 a=none
def Mg (H0:Hp)(W:Addr->Prop)(Hs:Hp):Tg->Addr->Prop
 |.rd,_=>True
 |.sh,a=>¬W a
 |.nw,a=>¬W a/\H0 a=none
 |.fr,a=>Hs a=none
def gV (K:ad)(M:Addr->Prop)(H:Hp)(a:Addr):PV->Prop
 |.lst xs=>∃us,H a=some (.lst us)/\Reps K M H us xs
 |.dK ps=>∃kvs,H a=some (.dK kvs)/\kvs.map (·.1)=ps.map (·.1)/\Reps K M H (kvs.map (·.2)) (ps.map (·.2))
 |.dT ps=>∃kvs,H a=some (.dT kvs)/\kvs.map (·.1)=ps.map (·.1)/\Reps K M H (kvs.map (·.2)) (ps.map (·.2))
 |_=>False
def qT (K:ad)(H0:Hp)(W:Addr->Prop)(H:Hp)(v:V):Slot->Prop
 |.sh g x=>aF K (Ms H0 W g) H v x
 |.own x=>∃a,v = .ref a/\W a/\gV K (Ms H0 W true) H a x
structure PX (K:ad)(H0:Hp)(W:Addr->Prop)(σ:St)(ρ:b7)(H:Hp):Prop where
 len:ρ.length=σ.length
 same:aA H0 H
 wm:∀a,W a->H0 a=none/\∃o,H a=some o/\gU o=true
 sl:∀(i:Nat) (m:Slot),ρ[i]? = some (some m)->∃v,σ[i]? = some (some v)/\qT K H0 W H v m
 dis:∀(i j:Nat) (x y:PV) (a:Addr),ρ[i]? = some (some (.own x))->ρ[j]? = some (some (.own y))->σ[i]? = some (some (.ref a))->σ[j]? = some (some (.ref a))->i=j
theorem gV.keep {K:ad}{M M':Addr->Prop}{H H':Hp}{a:Addr}(k:iH M M' H H')(ha:∀o,H a=some o->H' a=some o):∀{x:PV},gV K M H a x->gV K M' H' a x
 |.lst _,⟨us,e,r⟩=>⟨us,ha _ e,r.keep k⟩
 |.dK _,⟨us,e,q,r⟩=>⟨us,ha _ e,q,r.keep k⟩
 |.dT _,⟨us,e,q,r⟩=>⟨us,ha _ e,q,r.keep k⟩
theorem gV.at {K:ad}{M:Addr->Prop}{H:Hp}{a:Addr}:∀{x:PV},gV K M H a x->∃o,H a=some o/\gU o=true
 |.lst _,⟨us,e,r⟩=>⟨_,e,rfl⟩
 |.dK _,⟨us,e,q,r⟩=>⟨_,e,rfl⟩
 |.dT _,⟨us,e,q,r⟩=>⟨_,e,rfl⟩
theorem gV.rep {K:ad}{M M':Addr->Prop}{H:Hp}{a:Addr}(m:∀b,M b->M' b)(ha:M' a):∀{x:PV},gV K M H a x->aF K M' H (.ref a) x
 |.lst _,⟨us,e,r⟩=>.lst ha e (r.same (aA.refl _) m)
 |.dK _,⟨us,e,q,r⟩=>.dK ha e q (r.same (aA.refl _) m)
 |.dT _,⟨us,e,q,r⟩=>.dT ha e q (r.same (aA.refl _) m)
section
variable {K:ad}{H0:Hp}{W W':Addr→Prop}{σ:St}{ρ:b7}{H H':Hp}
theorem PX.mono (p:PX K H0 W σ ρ H)(s:aA H H'):PX K H0 W σ ρ H':=by
 refine⟨p.len,p.same.trans s,λa h=>⟨(p.wm a h).1,let ⟨o,e,m⟩:=(p.wm a h).2;⟨o,s _ _ e,m⟩⟩,λi m h=>?_,p.dis⟩
 obtain⟨v,e,r⟩:=p.sl i m h
 refine⟨v,e,?_⟩
 cases m with
 |sh g x=>exact aF.same r s λ_ z=>z
 |own x=>
  obtain⟨a,e1,e2,r⟩:=r
  exact⟨a,e1,e2,r.keep (.same s λ_ z=>z) λ_ z=>s _ _ z⟩
theorem PX.new (p:PX K H0 W σ ρ H){a:Addr}(h:H a=none):¬W a/\H0 a=none:=
 ⟨λz=>(by obtain⟨_,o,e,_⟩:=p.wm a z;rw[h]at e;cases e),p.same.free h⟩
theorem Mg.back {g:Tg}{H1:Hp}(s:aA H H1){a:Addr}(h:Mg H0 W H1 g a):Mg H0 W H g a:=by
 cases g with
 |fr=>exact s.free h
 |rd=>exact h
 |sh=>exact h
 |nw=>exact h
end
abbrev PK:=PV->Tg->Prop
abbrev aD:=b7->PK->Prop
abbrev cC:=b7->(Bool->Prop)->Prop
abbrev cM:=b7->(List (PV×Tg)->Prop)->Prop
inductive gW (K:ad)(H0:Hp)(W:Addr->Prop)(Hs H:Hp):List V->List (PV×Tg)->Prop
 |nil:gW K H0 W Hs H [] []
 |cons {v:V}{x:PV}{g:Tg}{vs:List V}{xs:List (PV×Tg)}:aF K (Mg H0 W Hs g) H v x->gW K H0 W Hs H vs xs->gW K H0 W Hs H (v::vs) ((x,g)::xs)
def qU (K:ad)(H0:Hp)(W:Addr->Prop)(H:Hp)(Q:PK)(Q':VK):Prop:=∀v H' x g,aA H H'->aF K (Mg H0 W H g) H' v x->Q x g->Q' v H'
def LE (X:Cx)(t:aD):TE:=λσ H Q'=>∃(W:Addr->Prop) (ρ:b7) (Q:PK),PX X.K X.H₀ W σ ρ H/\t ρ Q/\qU X.K X.H₀ W H Q Q'
def LT (X:Cx)(t:cC):TT:=λσ H Q'=>∃(W:Addr->Prop) (ρ:b7) (Q:Bool->Prop),PX X.K X.H₀ W σ ρ H/\t ρ Q/\∀b H',aA H H'->Q b->Q' b H'
def LA (X:Cx)(t:cM):TA:=λσ H Q'=>∃(W:Addr->Prop) (ρ:b7) (Q:List (PV×Tg)->Prop),PX X.K X.H₀ W σ ρ H/\t ρ Q/\∀vs H' xs,aA H H'->gW X.K X.H₀ W H H' vs xs->Q xs->Q' vs H'
theorem gW.same {K:ad}{H0:Hp}{W:Addr->Prop}{Hs Hs' H H':Hp}(s:aA H H')(b:aA Hs' Hs):∀{vs:List V}{xs:List (PV×Tg)},gW K H0 W Hs H vs xs->gW K H0 W Hs' H' vs xs
 |_,_,.nil=>.nil
 |_,_,.cons r t=>.cons (r.same s λ_ z=>Mg.back b z) (t.same s b)
theorem gW.any {K:ad}{H0:Hp}{W:Addr->Prop}{Hs H:Hp}:∀{vs:List V}{xs:List (PV×Tg)},gW K H0 W Hs H vs xs->Reps K (λ_=>True) H vs (xs.map (·.1))
 |_,_,.nil=>.nil
 |_,_,.cons r t=>.cons (r.same (aA.refl _) λ_ _=>trivial) t.any
def Nw:Tg->PV->Prop
 |.fr,_=>True
 |.nw,_=>True
 |_,x=>flat x=true
section
variable {K:ad}{H0 Hs H:Hp}{W:Addr→Prop}{σ:St}{ρ:b7}
theorem Nw.rep {g:Tg}{x:PV}{v:V}(px:PX K H0 W σ ρ Hs)(n:Nw g x)(r:aF K (Mg H0 W Hs g) H v x):aF K (Ms H0 W true) H v x:=by
 cases g with
 |fr=>exact r.same (aA.refl _) λa z=>px.new z
 |nw=>exact r.same (aA.refl _) λa z=>z
 |sh=>exact r.flat n
 |rd=>exact r.flat n
theorem N1 {v:V}{m:Slot}(r:qT K H0 W H v m):aF K (Mg H0 W Hs m.tag) H v m.val:=by
 cases m with
 |sh g x=>
  cases g with
  |true=>exact aF.same r (aA.refl _) λ_ z=>z
  |false=>exact aF.same r (aA.refl _) λ_ z=>z
 |own x=>
  obtain⟨a,rfl,_,r⟩:=r
  exact r.rep (λ_ _=>trivial) trivial
end
section
variable {X:Cx}{σ:St}{H:Hp}{Q':VK}{ta tb:aD}
def a5 (i:Nat):aD:=λρ Q=>∃m,ρ[i]? = some (some m)/\Q m.val m.tag
def qC (x:PV):aD:=λ_ Q=>Q x .fr
theorem aA3 {i:Nat}(h:LE X (a5 i) σ H Q'):eS i σ H Q':=by
 obtain⟨W,ρ,Q,px,⟨m,e,q⟩,k⟩:=h
 obtain⟨v,ev,r⟩:=px.sl i m e
 exact⟨v,ev,k v H _ _ (aA.refl _) (N1 r) q⟩
theorem qV {x:PV}{v:V}(hr:∀M,aF X.K M H v x)(h:LE X (qC x) σ H Q'):tC v σ H Q':=by
 obtain⟨W,ρ,Q,px,q,k⟩:=h
 exact k v H _ _ (aA.refl _) (hr _) q
def eD (X:Cx)(R:PV->Tg->PV->Tg->PK->Prop)(r:R2):Prop:=∀(W:Addr->Prop) (Hs H:Hp) (u v:V) (x y:PV) (g g':Tg) (Q:PK) (Q':VK),aA Hs H->
 (∀a,Hs a=none->¬W a/\X.H₀ a=none)->aF X.K (Mg X.H₀ W Hs g) H u x->aF X.K (Mg X.H₀ W Hs g') H v y->R x g y g' Q->(∀w H' z gz,aA H H'->aF X.K (Mg X.H₀ W Hs gz) H' w z->Q z gz->Q' w H')->r u v H Q'
def q2 (R:PV->Tg->PV->Tg->PK->Prop)(ta tb:aD):aD:=λρ Q=>ta ρ λx g=>tb ρ λy g'=>R x g y g' Q
theorem qW {R:PV->Tg->PV->Tg->PK->Prop}{r:R2}(c:eD X R r)(h:LE X (q2 R ta tb) σ H Q'):nY r (LE X ta) (LE X tb) σ H Q':=by
 obtain⟨W,ρ,Q,px,q,k⟩:=h
 refine⟨W,ρ,_,px,q,λu H1 x g s1 r1 q1=>⟨W,ρ,_,px.mono s1,q1,λv H2 y g' s2 r2 q2=>?_⟩⟩
 exact c W H H2 u v x y g g' Q Q' (s1.trans s2) (λa z=>px.new z) (r1.same s2 λ_ z=>z) (r2.same (aA.refl _) λ_ z=>Mg.back s1 z) q2 λw H' z gz s3 r3 q3=>k w H' z gz ((s1.trans s2).trans s3) r3 q3
def RI (C:Int->Int->Prop)(f:Int->Int->PV):PV->Tg->PV->Tg->PK->Prop:=λx _ y _ Q=>∃i j,x = .int i/\y = .int j/\C i j/\Q (f i j) .fr
def eF (f:Int->Int->PV):PV->Tg->PV->Tg->PK->Prop:=λx _ y _ Q=>∃i j,x = .int i/\y = .int j/\Q (f i j) .fr
theorem mC {C:Int->Int->Prop}{f:Int->Int->Int}:eD X (RI C λi j=>.int (f i j)) (rI C λi j=>.int (f i j)):=by
 rintro W Hs H u v x y g g' Q Q' s n r1 r2 ⟨i,j,rfl,rfl,c,q⟩ k
 cases r1;cases r2
 exact⟨i,j,rfl,rfl,c,k _ _ _ _ (aA.refl _) (.int _) q⟩
theorem wE {f:Int->Int->Int}:eD X (eF λi j=>.int (f i j)) (iE λi j=>.int (f i j)):=by
 rintro W Hs H u v x y g g' Q Q' s n r1 r2 ⟨i,j,rfl,rfl,q⟩ k
 cases r1;cases r2
 exact⟨i,j,rfl,rfl,k _ _ _ _ (aA.refl _) (.int _) q⟩
theorem oI {f:Int->Int->Bool}:eD X (eF λi j=>.bl (f i j)) (iE λi j=>.bl (f i j)):=by
 rintro W Hs H u v x y g g' Q Q' s n r1 r2 ⟨i,j,rfl,rfl,q⟩ k
 cases r1;cases r2
 exact⟨i,j,rfl,rfl,k _ _ _ _ (aA.refl _) (.bl _) q⟩
def kZ (neg:Bool):PV->Tg->PV->Tg->PK->Prop:=λx _ y _ Q=>(∃i j,x = .int i/\y = .int j/\Q (.bl (if neg=true then !decide (i=j) else decide (i=j))) .fr)∨(∃i j,x = .bl i/\y = .bl j/\Q (.bl (if neg=true then !decide (i=j) else decide (i=j))) .fr)
theorem N3 (i j:Int):decide (V.int i=V.int j)=decide (i=j):=by
 rw[bq8,bm8,bm8];exact⟨λz=>V.int.inj z,λz=>congrArg V.int z⟩
theorem N4 (i j:Bool):decide (V.bl i=V.bl j)=decide (i=j):=by
 rw[bq8,bm8,bm8];exact⟨λz=>V.bl.inj z,λz=>congrArg V.bl z⟩
theorem N5:eD X (kZ false) B0:=by
 rintro W Hs H u v x y g g' Q Q' s n r1 r2 (⟨i,j,rfl,rfl,q⟩|⟨i,j,rfl,rfl,q⟩) k
 ·cases r1;cases r2
  exact⟨rfl,by rw[N3];exact k _ _ _ _ (aA.refl _) (.bl _) q⟩
 ·cases r1;cases r2
  exact⟨rfl,by rw[N4];exact k _ _ _ _ (aA.refl _) (.bl _) q⟩
theorem aA4:eD X (kZ true) B1:=by
 rintro W Hs H u v x y g g' Q Q' s n r1 r2 (⟨i,j,rfl,rfl,q⟩|⟨i,j,rfl,rfl,q⟩) k
 ·cases r1;cases r2
  exact⟨rfl,by rw[N3];exact k _ _ _ _ (aA.refl _) (.bl _) q⟩
 ·cases r1;cases r2
  exact⟨rfl,by rw[N4];exact k _ _ _ _ (aA.refl _) (.bl _) q⟩
def aX (t:aD):cC:=λρ Q=>t ρ λx _=>∃b,x = .bl b/\Q b
theorem qX {t:aD}{Q':Bool->Hp->Prop}(h:LT X (aX t) σ H Q'):LE X t σ H λx H'=>∃k,x = .bl k/\Q' k H':=by
 obtain⟨W,ρ,Q,px,q,k⟩:=h
 refine⟨W,ρ,_,px,q,?_⟩
 rintro v H1 x g s r ⟨b,rfl,q⟩
 cases r
 exact⟨b,rfl,k _ _ s q⟩
def jU (t u:cC):cC:=λρ Q=>t ρ λc=>if c=true then u ρ Q else Q false
def qY (t u:cC):cC:=λρ Q=>t ρ λc=>if c=true then Q true else u ρ Q
def jV (t:cC):cC:=λρ Q=>t ρ λc=>Q (!c)
variable {t u:cC}{Qb:Bool→Hp→Prop}
theorem aA5 (h:LT X (jU t u) σ H Qb):zR (LT X t) (LT X u) σ H Qb:=by
 obtain⟨W,ρ,Q,px,q,k⟩:=h
 refine⟨W,ρ,_,px,q,λb H1 s1 q1=>?_⟩
 cases b with
 |true=>exact bP ⟨W,ρ,Q,px.mono s1,by simpa using q1,λb H2 s2 q2=>k _ _ (s1.trans s2) q2⟩
 |false=>exact bG (k _ _ s1 (by simpa using q1))
theorem aA6 (h:LT X (qY t u) σ H Qb):zS (LT X t) (LT X u) σ H Qb:=by
 obtain⟨W,ρ,Q,px,q,k⟩:=h
 refine⟨W,ρ,_,px,q,λb H1 s1 q1=>?_⟩
 cases b with
 |false=>exact bG ⟨W,ρ,Q,px.mono s1,by simpa using q1,λb H2 s2 q2=>k _ _ (s1.trans s2) q2⟩
 |true=>exact bP (k _ _ s1 (by simpa using q1))
theorem aA7 (h:LT X (jV t) σ H Qb):zT (LT X t) σ H Qb:=by
 obtain⟨W,ρ,Q,px,q,k⟩:=h
 exact⟨W,ρ,_,px,q,λb H1 s1 q1=>k _ _ s1 q1⟩
def qZ (ta tb:aD):aD:=λρ Q=>ta ρ λx _=>∃c,x = .bl c/\if c=true then tb ρ Q else Q (.bl false) .fr
def wF (ta tb:aD):aD:=λρ Q=>ta ρ λx _=>∃c,x = .bl c/\if c=true then Q (.bl true) .fr else tb ρ Q
theorem qU.back {K:ad}{H0:Hp}{W:Addr->Prop}{H H1:Hp}{Q:PK}(k:qU K H0 W H Q Q')(s:aA H H1):qU K H0 W H1 Q Q':=λv H' x g s' r q=>k v H' x g (s.trans s') (r.same (aA.refl _) λ_ z=>Mg.back s z) q
theorem aA8 (h:LE X (qZ ta tb) σ H Q'):zU (LE X ta) (LE X tb) σ H Q':=by
 obtain⟨W,ρ,Q,px,q,k⟩:=h
 refine⟨W,ρ,_,px,q,?_⟩
 rintro v H1 x g s1 r ⟨c,rfl,q⟩
 cases r
 refine⟨c,rfl,?_⟩
 cases c with
 |true=>exact bP ⟨W,ρ,Q,px.mono s1,by simpa using q,k.back s1⟩
 |false=>exact bG (k _ _ _ _ s1 (.bl _) (by simpa using q))
theorem aA9 (h:LE X (wF ta tb) σ H Q'):zV (LE X ta) (LE X tb) σ H Q':=by
 obtain⟨W,ρ,Q,px,q,k⟩:=h
 refine⟨W,ρ,_,px,q,?_⟩
 rintro v H1 x g s1 r ⟨c,rfl,q⟩
 cases r
 refine⟨c,rfl,?_⟩
 cases c with
 |false=>exact bG ⟨W,ρ,Q,px.mono s1,by simpa using q,k.back s1⟩
 |true=>exact bP (k _ _ _ _ s1 (.bl _) (by simpa using q))
def a9:cM:=λ_ Q=>Q []
def a7 (te:aD)(tr:cM):cM:=λρ Q=>te ρ λx g=>tr ρ λxs=>Q ((x,g)::xs)
variable {Qa:List V→Hp→Prop}{tr:cM}
theorem aB0 (h:LA X a9 σ H Qa):kR σ H Qa:=by
 obtain⟨W,ρ,Q,px,q,k⟩:=h
 exact k _ _ _ (aA.refl _) .nil q
theorem aB1 (h:LA X (a7 ta tr) σ H Qa):iF (LE X ta) (LA X tr) σ H Qa:=by
 obtain⟨W,ρ,Q,px,q,k⟩:=h
 refine⟨W,ρ,_,px,q,λv H1 x g s1 r1 q1=>⟨W,ρ,_,px.mono s1,q1,λvs H2 xs s2 r2 q2=>?_⟩⟩
 exact k _ _ _ (s1.trans s2) (.cons (r1.same s2 λ_ z=>z) (r2.same (aA.refl _) s1)) q2
def iZ (t:cM):aD:=λρ Q=>t ρ λxs=>xs.length<=1000/\flats (xs.map (·.1))=true/\Q (.tup (xs.map (·.1))) .fr
def fM (t:cM):aD:=λρ Q=>t ρ λxs=>xs.length<=1000/\flats (xs.map (·.1))=true/\Q (.lst (xs.map (·.1))) .fr
theorem gW.length {K:ad}{H0:Hp}{W:Addr->Prop}{Hs H:Hp}:∀{vs:List V}{xs:List (PV×Tg)},gW K H0 W Hs H vs xs->vs.length=xs.length
 |_,_,.nil=>rfl
 |_,_,.cons _ t=>congrArg (·+1) t.length
theorem wG {n:Nat}(h:n<=1000):n<=sizeLine:=bu6 (vG h)
theorem aB2 (h:LE X (iZ tr) σ H Q'):C0 (LA X tr) σ H Q':=by
 obtain⟨W,ρ,Q,px,q,k⟩:=h
 refine⟨W,ρ,_,px,q,?_⟩
 rintro vs H1 xs s1 r ⟨hl,n,q⟩
 refine⟨by rw[r.length];exact wG hl,λp hp=>k _ _ _ .fr (s1.trans (aZ hp _)) (.tup aT ?_) q⟩
 exact (r.any.flat n).same (aZ hp _) λ_ z=>z
theorem aB3 (h:LE X (fM tr) σ H Q'):C1 (LA X tr) σ H Q':=by
 obtain⟨W,ρ,Q,px,q,k⟩:=h
 refine⟨W,ρ,_,px,q,?_⟩
 rintro vs H1 xs s1 r ⟨hl,n,q⟩
 refine⟨by rw[r.length];exact wG hl,λp hp=>k _ _ _ .fr (s1.trans (aZ hp _)) (.lst (s1.free hp) aT ?_) q⟩
 exact (r.any.flat n).same (aZ hp _) λ_ z=>z
def eL (X:Cx)(R:List PV->(PV->Prop)->Prop)(r:List V->Hp->VK->Prop):Prop:=∀(H:Hp) (vs:List V) (xs:List PV) (Q:PV->Prop) (Q':VK),Reps X.K (λ_=>True) H vs xs->R xs Q->
 (∀w H' z,aA H H'->aF X.K (λa=>H a=none) H' w z->Q z->Q' w H')->r vs H Q'
def aE (R:List PV->(PV->Prop)->Prop)(t:cM):aD:=λρ Q=>t ρ λxs=>R (xs.map (·.1)) λz=>Q z .fr
theorem N6 {R:List PV->(PV->Prop)->Prop}{r:List V->Hp->VK->Prop}(c:eL X R r)(h:LE X (aE R tr) σ H Q'):uT r (LA X tr) σ H Q':=by
 obtain⟨W,ρ,Q,px,q,k⟩:=h
 refine⟨W,ρ,_,px,q,λvs H1 xs s1 r1 q1=>c H1 vs _ _ Q' r1.any q1 λw H' z s2 r2 q2=>k w H' z .fr (s1.trans s2) (r2.same (aA.refl _) λ_ z=>s1.free z) q2⟩
end
structure oJ where
 nx:b7->Prop
 rt:PV->Prop
 bk:b7->Prop:=λ_=>False
 ct:b7->Prop:=λ_=>False
abbrev aM:=oJ->b7->Prop
def Ev (W:Addr->Prop)(H:Hp)(W':Addr->Prop)(H':Hp):Prop:=∀b o,H b=some o->¬W b->H' b=some o/\¬W' b
theorem Ev.trans {W W1 W2:Addr->Prop}{H H1 H2:Hp}(a:Ev W H W1 H1)(b:Ev W1 H1 W2 H2):Ev W H W2 H2:=λc o h n=>let ⟨h1,n1⟩:=a c o h n;b c o h1 n1
theorem Ev.same {W:Addr->Prop}{H H':Hp}(s:aA H H'):Ev W H W H':=λc o h n=>⟨s _ _ h,n⟩
theorem Ev.refl (W:Addr->Prop)(H:Hp):Ev W H W H:=Ev.same (aA.refl _)
structure r6 (X:Cx)(W:Addr->Prop)(H:Hp)(D':oJ)(D:cG):Prop where
 nx:∀W' σ' H' ρ',Ev W H W' H'->PX X.K X.H₀ W' σ' ρ' H'->D'.nx ρ'->D.nx σ' H'
 rt:∀v H' x,aA X.H₀ H'->aF X.K (λa=>X.H₀ a=none) H' v x->D'.rt x->D.rt v H'
 bk:∀W' σ' H' ρ',Ev W H W' H'->PX X.K X.H₀ W' σ' ρ' H'->D'.bk ρ'->D.bk σ' H'
 ct:∀W' σ' H' ρ',Ev W H W' H'->PX X.K X.H₀ W' σ' ρ' H'->D'.ct ρ'->D.ct σ' H'
theorem r6.step {X:Cx}{W W1:Addr->Prop}{H H1:Hp}{D':oJ}{D:cG}(k:r6 X W H D' D)(e:Ev W H W1 H1):r6 X W1 H1 D' D:=
 ⟨λW' σ' H' ρ' e'=>k.nx W' σ' H' ρ' (e.trans e'),k.rt,λW' σ' H' ρ' e'=>k.bk W' σ' H' ρ' (e.trans e'),λW' σ' H' ρ' e'=>k.ct W' σ' H' ρ' (e.trans e')⟩
def LS (X:Cx)(t:aM):TS:=λD σ H=>∃(W:Addr->Prop) (ρ:b7) (D':oJ),PX X.K X.H₀ W σ ρ H/\t D' ρ/\r6 X W H D' D
theorem fX {α:Type}{l:List α}{i j:Nat}{a b:α}(h:(l.set i a)[j]? = some b):(j=i/\i<l.length/\b=a)∨(j≠i/\l[j]? = some b):=by
 by_cases e:j=i
 ·subst e
  have hl:j<(l.set j a).length:=(bl9.mp h).1
  rw[br8]at hl
  rw[bt9 hl]at h
  exact .inl ⟨rfl,hl,(bn8 h).symm⟩
 ·rw[bo5 (Ne.symm e)]at h
  exact .inr ⟨e,h⟩
section
variable {K:ad}{H0:Hp}{W W':Addr→Prop}{σ:St}{ρ:b7}{H H' Hs:Hp}
theorem PX.setSh {i:Nat}{v:V}{g:Bool}{x:PV}(p:PX K H0 W σ ρ H)(r:aF K (Ms H0 W g) H v x):PX K H0 W (σ.set i (some v)) (ρ.set i (some (.sh g x))) H:=by
 refine⟨by rw[br8,br8];exact p.len,p.same,p.wm,λj m h=>?_,λj k y z a h1 h2 h3 h4=>?_⟩
 ·rcases fX h with⟨rfl,hl,e⟩|⟨hne,h⟩
  ·cases e
   rw[p.len]at hl
   exact⟨v,bt9 hl,r⟩
  ·obtain⟨u,e,q⟩:=p.sl j m h
   exact⟨u,by rw[bo5 (Ne.symm hne)];exact e,q⟩
 ·rcases fX h1 with⟨_,_,e⟩|⟨n1,h1⟩
  ·cases e
  ·rcases fX h2 with⟨_,_,e⟩|⟨n2,h2⟩
   ·cases e
   ·rw[bo5 (Ne.symm n1)]at h3
    rw[bo5 (Ne.symm n2)]at h4
    exact p.dis j k y z a h1 h2 h3 h4
def mD (W:Addr->Prop)(a:Addr):Addr->Prop:=λb=>W b∨b=a
theorem wH {g:Bool}{a b:Addr}(n:b≠a)(h:Ms H0 W g b):Ms H0 (mD W a) g b:=by
 cases g with
 |true=>exact⟨λz=>z.elim h.1 n,h.2⟩
 |false=>exact λz=>z.elim h n
theorem PX.setOwn {i:Nat}{a:Addr}{x:PV}(p:PX K H0 W σ ρ Hs)(s:aA Hs H)(ha:Hs a=none)(r:gV K (Ms H0 (mD W a) true) H a x):PX K H0 (mD W a) (σ.set i (some (.ref a))) (ρ.set i (some (.own x))) H:=by
 have old:∀b o,Hs b=some o->b≠a:=λb o e z=>by rw[z,ha]at e;cases e
 have kp:∀g,iH (Ms H0 W g) (Ms H0 (mD W a) g) Hs H:=λg=>⟨λb _ m e=>⟨wH (old _ _ e) m,s _ _ e⟩,λb _ m e=>⟨wH (old _ _ e) m,s _ _ e⟩,λb _ m e=>⟨wH (old _ _ e) m,s _ _ e⟩,λ_ _ e=>s _ _ e,λ_ _ _ e=>s _ _ e⟩
 have wa:¬W a:=(p.new ha).1
 refine⟨by rw[br8,br8];exact p.len,p.same.trans s,λb z=>?_,λj m h=>?_,λj k y z b h1 h2 h3 h4=>?_⟩
 ·rcases z with z|rfl
  ·obtain⟨h1,o,h2,h3⟩:=p.wm b z
   exact⟨h1,o,s _ _ h2,h3⟩
  ·exact⟨(p.new ha).2,r.at⟩
 ·rcases fX h with⟨rfl,hl,e⟩|⟨hne,h⟩
  ·cases e
   rw[p.len]at hl
   exact⟨_,bt9 hl,a,rfl,.inr rfl,r⟩
  ·obtain⟨u,e,q⟩:=p.sl j m h
   refine⟨u,by rw[bo5 (Ne.symm hne)];exact e,?_⟩
   cases m with
   |sh g y=>exact aF.keep (kp g) q
   |own y=>
    obtain⟨b,e1,e2,q⟩:=q
    exact⟨b,e1,.inl e2,q.keep (kp true) λo z=>s _ _ z⟩
 ·have ne:∀{j:Nat}{y:PV},ρ[j]? = some (some (.own y))->σ[j]?≠some (some (.ref a)):=λ{j y} h1 h2=>by
   obtain⟨u,e,c,e1,e2,_⟩:=p.sl j _ h1
   rw[h2]at e
   cases e
   cases e1
   exact wa e2
  rcases fX h1 with⟨e1,l1,_⟩|⟨n1,h1⟩
  ·rcases fX h2 with⟨e2,_,_⟩|⟨n2,h2⟩
   ·rw[e1,e2]
   ·rw[e1,bt9 (by rw[<- p.len];exact l1)]at h3
    rw[bo5 (Ne.symm n2)]at h4
    cases h3
    exact absurd h4 (ne h2)
  ·rw[bo5 (Ne.symm n1)]at h3
   rcases fX h2 with⟨e2,l2,_⟩|⟨n2,h2⟩
   ·rw[e2,bt9 (by rw[<- p.len];exact l2)]at h4
    cases h4
    exact absurd h3 (ne h1)
   ·rw[bo5 (Ne.symm n2)]at h4
    exact p.dis j k y z b h1 h2 h3 h4
theorem Ev.own {a:Addr}(s:aA Hs H)(ha:Hs a=none):Ev W Hs (mD W a) H:=λb o e n=>⟨s _ _ e,λz=>z.elim n λz=>by rw[z,ha]at e;cases e⟩
theorem oK {g:Bool}{a b:Addr}(wa:W a)(h:Ms H0 W g b):b≠a:=by
 cases g with
 |true=>exact λz=>h.1 (by rw[z];exact wa)
 |false=>exact λz=>h (by rw[z];exact wa)
theorem PX.updOwn {i:Nat}{a:Addr}{x y:PV}{o:HO}(p:PX K H0 W σ ρ H)(hi:ρ[i]? = some (some (.own x)))(ha:σ[i]? = some (some (.ref a)))(wa:W a)(mu:gU o=true)(r:gV K (Ms H0 W true) (upd H a o) a y) :
  PX K H0 W σ (ρ.set i (some (.own y))) (upd H a o):=by
 obtain⟨w0,o',e',mu'⟩:=p.wm a wa
 have kp:∀g,iH (Ms H0 W g) (Ms H0 W g) H (upd H a o):=λg=>.upd e' mu' λb m=>⟨oK wa m,m⟩
 refine⟨by rw[br8];exact p.len,λb u e=>by rw[aC (λz=>by rw[z,w0]at e;cases e)];exact p.same _ _ e,λb z=>?_,λj m h=>?_,λj k y' z b h1 h2 h3 h4=>?_⟩
 ·by_cases e:b=a
  ·subst e;exact⟨w0,o,aT,mu⟩
  ·obtain⟨h1,o2,h2,h3⟩:=p.wm b z
   exact⟨h1,o2,by rw[aC e];exact h2,h3⟩
 ·rcases fX h with⟨rfl,hl,e⟩|⟨hne,h⟩
  ·cases e
   exact⟨_,ha,a,rfl,wa,r⟩
  ·obtain⟨u,e,q⟩:=p.sl j m h
   refine⟨u,e,?_⟩
   cases m with
   |sh g y=>exact aF.keep (kp g) q
   |own y=>
    obtain⟨b,e1,e2,q⟩:=q
    have hb:b≠a:=λz=>by
     subst e1
     rw[z]at e
     exact hne (p.dis j i _ _ a h hi e ha)
    exact⟨b,e1,e2,q.keep (kp true) λo z=>by rw[aC hb];exact z⟩
 ·have g1:∃y,ρ[j]? = some (some (.own y)):=by
   rcases fX h1 with⟨e,_,_⟩|⟨_,h⟩
   ·exact⟨x,by rw[e];exact hi⟩
   ·exact⟨_,h⟩
  have g2:∃y,ρ[k]? = some (some (.own y)):=by
   rcases fX h2 with⟨e,_,_⟩|⟨_,h⟩
   ·exact⟨x,by rw[e];exact hi⟩
   ·exact⟨_,h⟩
  obtain⟨y1,g1⟩:=g1
  obtain⟨y2,g2⟩:=g2
  exact p.dis j k y1 y2 b g1 g2 h3 h4
theorem Ev.upd {a:Addr}{o:HO}(wa:W a):Ev W H W (upd H a o):=λb u e n=>⟨by rw[aC (λz=>n (by rw[z];exact wa))];exact e,n⟩
end
section
variable {X:Cx}{σ:St}{H:Hp}{D:cG}{te:aD}{t u:aM}
def cZ:aM:=λD ρ=>D.nx ρ
def aN (t u:aM):aM:=λD ρ=>t { D with nx:=u D } ρ
theorem aB4 (h:LS X cZ D σ H):uF D σ H:=by
 obtain⟨W,ρ,D',px,q,k⟩:=h
 exact k.nx W σ H ρ (Ev.refl _ _) px q
theorem aB5 (h:LS X (aN t u) D σ H):zW (LS X t) (LS X u) D σ H:=by
 obtain⟨W,ρ,D',px,q,k⟩:=h
 exact⟨W,ρ,_,px,q,λW' σ' H' ρ' e px' q'=>⟨W',ρ',D',px',q',k.step e⟩,k.rt,k.bk,k.ct⟩
def N7:Tg->PV->Bool
 |.fr,_=>true
 |.nw,_=>true
 |_,x=>flat x
def N8:Tg->PV->Prop
 |.rd,x=>flat x=true
 |_,_=>True
theorem aB6 {K:ad}{H0 Hs H:Hp}{W:Addr->Prop}{σ:St}{ρ:b7}{g:Tg}{x:PV}{v:V}(px:PX K H0 W σ ρ Hs)(n:N8 g x)(r:aF K (Mg H0 W Hs g) H v x):aF K (Ms H0 W (N7 g x)) H v x:=by
 cases g with
 |fr=>exact Nw.rep (g:=.fr) px trivial r
 |nw=>exact Nw.rep (g:=.nw) px trivial r
 |sh=>
  show aF K (Ms H0 W (flat x)) H v x
  cases e:flat x with
  |true=>exact r.flat e
  |false=>exact r.same (aA.refl _) λ_ z=>z
 |rd=>exact r.flat n
def aY (i:Nat)(te:aD):aM:=λD ρ=>te ρ λx g=>N8 g x/\D.nx (ρ.set i (some (.sh (N7 g x) x)))
theorem wI {i:Nat}(h:LS X (aY i te) D σ H):kQ (LE X te) (cV i) D σ H:=by
 obtain⟨W,ρ,D',px,q,k⟩:=h
 refine⟨W,ρ,_,px,q,?_⟩
 rintro v H1 x g s r ⟨n,q⟩
 exact k.nx W _ H1 _ (Ev.same s) ((px.mono s).setSh (aB6 px n r)) q
def N9:PV->Bool
 |.lst xs=>flats xs
 |.dK ps=>flats (ps.map (·.2))
 |.dT ps=>flats (ps.map (·.2))
 |_=>false
theorem aB7 {K:ad}{M:Addr->Prop}{H:Hp}{v:V}{x:PV}(r:aF K M H v x)(o:N9 x=true):∃a,v = .ref a/\M a/\∀M',gV K M' H a x:=by
 cases r with
 |lst m e r=>exact⟨_,rfl,m,λ_=>⟨_,e,r.flat o⟩⟩
 |dK m e q r=>exact⟨_,rfl,m,λ_=>⟨_,e,q,r.flat o⟩⟩
 |dT m e q r=>exact⟨_,rfl,m,λ_=>⟨_,e,q,r.flat o⟩⟩
 |_=>cases o
def iI (i:Nat)(te:aD):aM:=λD ρ=>te ρ λx g=>g = .fr/\N9 x=true/\D.nx (ρ.set i (some (.own x)))
theorem aB8 {i:Nat}(h:LS X (iI i te) D σ H):kQ (LE X te) (cV i) D σ H:=by
 obtain⟨W,ρ,D',px,q,k⟩:=h
 refine⟨W,ρ,_,px,q,?_⟩
 rintro v H1 x g s r ⟨rfl,o,q⟩
 obtain⟨a,rfl,m,w⟩:=aB7 r o
 exact k.nx _ _ H1 _ (Ev.own s m) (px.setOwn s m (w _)) q
def bJ (te:aD):aM:=λD ρ=>te ρ λx g=>Nw g x/\D.rt x
theorem aB9 (h:LS X (bJ te) D σ H):uH (LE X te) D σ H:=by
 obtain⟨W,ρ,D',px,q,k⟩:=h
 refine⟨W,ρ,_,px,q,?_⟩
 rintro v H1 x g s r ⟨n,q⟩
 exact k.rt v H1 x (px.same.trans s) ((Nw.rep px n r).same (aA.refl _) λ_ z=>z.2) q
def Slot.nw:Slot->Prop
 |.own _=>True
 |.sh true _=>True
 |.sh false x=>flat x=true
def j4 (i:Nat):aM:=λD ρ=>∃m,ρ[i]? = some (some m)/\m.nw/\D.rt m.val
theorem aC0 {i:Nat}(h:LS X (j4 i) D σ H):uH (eS i) D σ H:=by
 obtain⟨W,ρ,D',px,⟨m,hi,n,q⟩,k⟩:=h
 obtain⟨v,ev,r⟩:=px.sl i _ hi
 refine⟨v,ev,k.rt v H _ px.same ?_ q⟩
 cases m with
 |own x=>
  obtain⟨a,rfl,wa,r⟩:=r
  exact r.rep (λ_ z=>z.2) (px.wm a wa).1
 |sh g x=>
  cases g with
  |true=>exact aF.same r (aA.refl _) λ_ z=>z.2
  |false=>exact aF.flat n r
def cF (c:cC)(t u:aM):aM:=λD ρ=>c ρ λb=>if b=true then t D ρ else u D ρ
theorem aC1 {c:cC}(h:LS X (cF c t u) D σ H):uI (LT X c) (LS X t) (LS X u) D σ H:=by
 obtain⟨W,ρ,D',px,q,k⟩:=h
 refine⟨W,ρ,_,px,q,λb H1 s q1=>?_⟩
 cases b with
 |true=>exact bP ⟨W,ρ,D',px.mono s,by simpa using q1,k.step (Ev.same s)⟩
 |false=>exact bG ⟨W,ρ,D',px.mono s,by simpa using q1,k.step (Ev.same s)⟩
def wJ (c:cC)(tb:aM):aM:=λD ρ=>∃I:Nat->b7->Prop,(∃m,I m ρ)/\∀m ρ',I m ρ'->c ρ' λb=>if b=true then tb { D with nx:=λρ2=>∃m',m'<m/\I m' ρ2,ct:=λρ2=>∃m',m'<m/\I m' ρ2,bk:=D.nx } ρ' else D.nx ρ'
theorem aC2 {c:cC}{tb:aM}(h:LS X (wJ c tb) D σ H):A1 (LT X c) (LS X tb) D σ H:=by
 obtain⟨W,ρ,D',px,⟨I,⟨m0,i0⟩,turn⟩,k⟩:=h
 refine⟨λm σ2 H2=>∃W2 ρ2,PX X.K X.H₀ W2 σ2 ρ2 H2/\Ev W H W2 H2/\I m ρ2,⟨m0,W,ρ,px,Ev.refl _ _,i0⟩,?_⟩
 rintro m σ2 H2 ⟨W2,ρ2,px2,e2,i2⟩
 refine⟨W2,ρ2,_,px2,turn m ρ2 i2,λb H3 s3 q3=>?_⟩
 cases b with
 |true=>
  refine bP ⟨λσ4 H4=>∃W4 ρ4,PX X.K X.H₀ W4 σ4 ρ4 H4/\Ev W H W4 H4/\∃m',m'<m/\I m' ρ4,λσ4 H4 ⟨W4,ρ4,a,b,m',c,d⟩=>⟨m',c,W4,ρ4,a,b,d⟩,W2,ρ2,_,px2.mono s3,by simpa using q3,?_⟩
  have e3:Ev W H W2 H3:=e2.trans (Ev.same s3)
  exact⟨λW' σ' H' ρ' e p q=>⟨W',ρ',p,e3.trans e,q⟩,k.rt,λW' σ' H' ρ' e p q=>k.nx W' σ' H' ρ' (e3.trans e) p q,λW' σ' H' ρ' e p q=>⟨W',ρ',p,e3.trans e,q⟩⟩
 |false=>exact bG (k.nx W2 σ2 H3 ρ2 (e2.trans (Ev.same s3)) (px2.mono s3) (by simpa using q3))
end
theorem lim {n:Nat}(h:n<=16000000):n<=sizeLine:=bu6 (gI h)
theorem aF.sqT {K:ad}{M:Addr->Prop}{H:Hp}{v:V}{xs:List PV}(r:aF K M H v (.tup xs)):∃a us,v = .ref a/\H a=some (.tup us)/\Reps K M H us xs:=by
 cases r with
 |tup e r=>exact⟨_,_,rfl,e,r⟩
theorem aF.sqL {K:ad}{M:Addr->Prop}{H:Hp}{v:V}{xs:List PV}(r:aF K M H v (.lst xs)):∃a us,v = .ref a/\M a/\H a=some (.lst us)/\Reps K M H us xs:=by
 cases r with
 |lst m e r=>exact⟨_,_,rfl,m,e,r⟩
theorem iY.sqL {K:ad}{H:Hp}{a:Addr}{ns:af}(h:iY K H a ns):aJ K H a (ns.map V.int):=h.elim (λz=>.inl (.inr z)) .inr
def jW:PV->Option (List PV)
 |.tup xs=>some xs
 |.lst xs=>some xs
 |.scr ns=>some (intz ns)
 |.kt xs=>some xs
 |.fL xs=>some xs
 |_=>none
theorem aF.seq {K:ad}{M:Addr->Prop}{H:Hp}{v:V}{x:PV}{xs:List PV}(r:aF K M H v x)(e:jW x=some xs):∃a us,v = .ref a/\(aJ K H a us∨aH K H a us)/\Reps K M H us xs:=by
 cases r with
 |tup h r=>cases e;exact⟨_,_,rfl,.inr (aH.of h),r⟩
 |lst m h r=>cases e;exact⟨_,_,rfl,.inl (aJ.of h),r⟩
 |scr h=>cases e;exact⟨_,_,rfl,.inl h.sqL,Reps.intz _⟩
 |kt h r=>cases e;exact⟨_,_,rfl,.inr (.inr h),r⟩
 |fL h r=>cases e;exact⟨_,_,rfl,.inl (.inl (.inr ⟨_,h⟩)),r⟩
 |_=>cases e
section
variable {X:Cx}{σ:St}{H:Hp}{D:cG}{te ti to:aD}{t u:aM}{Q':VK}
theorem _root_.PP.PX.updL {K:ad}{H0:Hp}{W:Addr->Prop}{σ:St}{ρ:b7}{H:Hp}{i:Nat}{a:Addr}{x:PV}{us:List V}{ys:List PV}(p:PX K H0 W σ ρ H)(hi:ρ[i]? = some (some (.own x)))(ha:σ[i]? = some (some (.ref a)))(wa:W a)(r:Reps K (Ms H0 W true) (upd H a (.lst us)) us ys) :
  PX K H0 W σ (ρ.set i (some (.own (.lst ys)))) (upd H a (.lst us)):=p.updOwn hi ha wa rfl (y:=.lst ys) ⟨us,aT,r⟩
def jX (i:Nat)(te:aD):aM:=λD ρ=>∃xs,ρ[i]? = some (some (.own (.lst xs)))/\te ρ λx g=>Nw g x/\xs.length<16000000/\D.nx (ρ.set i (some (.own (.lst (xs++[x])))))
theorem aC3 {i:Nat}(h:LS X (jX i te) D σ H):uG (F9 X.K "list" G3 (eS i) (iF (LE X te) kR)) D σ H:=by
 obtain⟨W,ρ,D',px,⟨xs,hi,q⟩,k⟩:=h
 obtain⟨v,ev,a,rfl,wa,us,ea,r⟩:=px.sl i _ hi
 refine⟨_,ev,oG (aJ.of ea),W,ρ,_,px,q,?_⟩
 rintro w H1 x g s rx ⟨n,hl,q⟩
 have ea1:=s _ _ ea
 refine⟨a,us,w,rfl,rfl,ea1,gI (by rw[r.length];omega),?_⟩
 refine k.nx W σ _ _ ((Ev.same s).trans (Ev.upd wa)) ((px.mono s).updL hi ev wa ?_) q
 exact ((r.same s λ_ z=>z).append (.cons (Nw.rep px n rx) .nil)).keep (.upd ea1 rfl λb m=>⟨oK wa m,m⟩)
def l4 (i:Nat)(tk te:aD):aM:=λD ρ=>te ρ λx g=>∃xs,ρ[i]? = some (some (.own (.lst xs)))/\tk ρ λy _=>∃n j,y = .int n/\gF xs.length n=some j/\Nw g x/\D.nx (ρ.set i (some (.own (.lst (xs.set j x)))))
theorem aC4 {i:Nat}{tk:aD}(h:LS X (l4 i tk te) D σ H):kQ (LE X te) (uK (eS i) (LE X tk) uZ) D σ H:=by
 obtain⟨W,ρ,D',px,q,k⟩:=h
 refine⟨W,ρ,_,px,q,?_⟩
 rintro w H1 x g s rx ⟨xs,hi,q1⟩
 obtain⟨v,ev,a,rfl,wa,us,ea,r⟩:=(px.mono s).sl i _ hi
 refine⟨_,ev,W,ρ,_,px.mono s,q1,?_⟩
 rintro kv H2 y gy s2 ry ⟨n,j,rfl,hj,nw,q2⟩
 cases ry
 have ea2:=s2 _ _ ea
 refine⟨a,us,n,j,rfl,rfl,ea2,by rw[r.length];exact hj,?_⟩
 refine k.nx W σ _ _ ((Ev.same (s.trans s2)).trans (Ev.upd wa)) ((px.mono (s.trans s2)).updL hi ev wa ?_) q2
 exact (Reps.set ((Nw.rep px nw rx).same s2 λ_ z=>z) j (r.same s2 λ_ z=>z)).keep (.upd ea2 rfl λb m=>⟨oK wa m,m⟩)
end
theorem Reps.atI {K:ad}{M:Addr->Prop}{H:Hp}{us:List V}{xs:List PV}{i:Int}{z:PV}(r:Reps K M H us xs)(h:L2.atI xs i=some z):∃v,L2.atI us i=some v/\aF K M H v z:=by
 unfold L2.atI at h ⊢
 rw[r.length]
 cases e:gF xs.length i with
 |none=>rw[e]at h;cases h
 |some j=>rw[e]at h;exact r.at h
section
variable {X:Cx}{σ:St}{H:Hp}{Q':VK}{ta tb te:aD}{tr:cM}
def wK:PV->Tg->PV->Tg->PK->Prop:=λx g y _ Q=>∃xs i z,jW x=some xs/\y = .int i/\L2.atI xs i=some z/\Q z g
theorem aC5:eD X wK (F4 X.K):=by
 rintro W Hs H u v x y g g' Q Q' s n r1 r2 ⟨xs,i,z,e,rfl,hz,q⟩ k
 cases r2
 obtain⟨a,us,rfl,hs,r⟩:=r1.seq e
 obtain⟨v,hv,rv⟩:=r.atI hz
 rcases hs with hs|hs
 ·exact .inl ⟨a,us,i,v,rfl,rfl,hs,hv,k v H z g (aA.refl _) rv q⟩
 ·exact .inr (.inl ⟨a,us,i,v,rfl,rfl,hs,hv,k v H z g (aA.refl _) rv q⟩)
def wL:PV->Option Nat
 |.tup xs=>some xs.length
 |.lst xs=>some xs.length
 |.scr ns=>some ns.length
 |.dK ps=>some ps.length
 |.kt xs=>some xs.length
 |.fL xs=>some xs.length
 |_=>none
def bQ:List PV->(PV->Prop)->Prop:=λxs Q=>∃x n,xs = [x]/\wL x=some n/\Q (.int n)
theorem Reps.one {K:ad}{M:Addr->Prop}{H:Hp}{vs:List V}{x:PV}(r:Reps K M H vs [x]):∃v,vs = [v]/\aF K M H v x:=by
 cases r with
 |cons r t=>cases t;exact⟨_,rfl,r⟩
theorem Reps.two {K:ad}{M:Addr->Prop}{H:Hp}{vs:List V}{x y:PV}(r:Reps K M H vs [x,y]):∃v w,vs = [v,w]/\aF K M H v x/\aF K M H w y:=by
 cases r with
 |cons r t=>
  obtain⟨w,rfl,q⟩:=t.one
  exact⟨_,_,rfl,r,q⟩
theorem aC6:eL X bQ (λxs H Q=>(∃p ys,xs = [.ref p]/\(aJ X.K H p ys∨aH X.K H p ys)/\Q (.int ys.length) H)∨∃a kvs,xs = [V.ref a]/\H a=some (.dK kvs)/\Q (.int kvs.length) H):=by
 rintro H vs xs Q Q' r ⟨x,n,rfl,e,q⟩ k
 obtain⟨v,rfl,r1⟩:=r.one
 have fin:∀{m:Nat},m=n->Q' (.int m) H:=λ{m} z=>by rw[z];exact k _ _ _ (aA.refl _) (.int _) q
 cases r1 with
 |tup h r2=>cases e;exact .inl ⟨_,_,rfl,.inr (aH.of h),fin r2.length⟩
 |lst m h r2=>cases e;exact .inl ⟨_,_,rfl,.inl (aJ.of h),fin r2.length⟩
 |scr h=>cases e;exact .inl ⟨_,_,rfl,.inl h.sqL,fin (by rw[bl5])⟩
 |kt h r2=>cases e;exact .inl ⟨_,_,rfl,.inr (.inr h),fin r2.length⟩
 |fL h r2=>cases e;exact .inl ⟨_,_,rfl,.inl (.inl (.inr ⟨_,h⟩)),fin r2.length⟩
 |dK m h e' r=>
  cases e
  refine .inr ⟨_,_,rfl,h,fin ?_⟩
  have:=congrArg List.length e'
  rw[bl5,bl5]at this
  exact this
 |_=>cases e
def seqT:PV->Option (List PV)
 |.kt _=>none
 |x=>jW x
def O0:List PV->(PV->Prop)->Prop:=λxs Q=>∃x ys,xs = [x]/\seqT x=some ys/\flats ys=true/\Q (.tup ys)
theorem aC7:eL X (λxs Q=>O0 xs Q/\∀ns,xs≠[.scr ns]) (λxs H Q=>∃p ys,xs = [.ref p]/\((aJ X.K H p ys/\∀l,H l=none->Q (.ref l) (upd H l (.tup ys)))∨(aH X.K H p ys/\Q (.ref p) H))):=by
 rintro H vs xs Q Q' r ⟨⟨x,ys,rfl,e,f,q⟩,nsc⟩ k
 obtain⟨v,rfl,r1⟩:=r.one
 cases r1 with
 |tup h r2=>cases e;exact⟨_,_,rfl,.inr ⟨aH.of h,k _ _ _ (aA.refl _) (.tup h (r2.flat f)) q⟩⟩
 |lst m h r2=>cases e;exact⟨_,_,rfl,.inl ⟨aJ.of h,λl hl=>k _ _ _ (aZ hl _) (.tup aT ((r2.flat f).same (aZ hl _) λ_ z=>z)) q⟩⟩
 |scr h=>exact absurd rfl (nsc _)
 |fL h r2=>cases e;exact⟨_,_,rfl,.inl ⟨.inl (.inr ⟨_,h⟩),λl hl=>k _ _ _ (aZ hl _) (.tup aT ((r2.flat f).same (aZ hl _) λ_ z=>z)) q⟩⟩
 |_=>cases e
def wM:List PV->(PV->Prop)->Prop:=λxs Q=>∃bs:List Bool,xs = [.lst (bs.map PV.bl)]/\Q (.bl (bs.all id))
theorem Reps.ofBls {K:ad}{M:Addr->Prop}{H:Hp}:∀{ns:List Bool}{us:List V},Reps K M H us (ns.map PV.bl)->us=ns.map V.bl
 |[],_,.nil=>rfl
 |n::r,_,.cons q t=>by
  cases q
  rw[Reps.ofBls t];rfl
theorem aC8:eL X wM (λxs H Q=>∃(a:Addr) (bs:List Bool),xs = [.ref a]/\aJ X.K H a (bs.map V.bl)/\Q (.bl (bs.all id)) H):=by
 rintro H vs xs Q Q' r ⟨bs,rfl,q⟩ k
 obtain⟨v,rfl,r1⟩:=r.one
 obtain⟨a,us,rfl,_,h,r2⟩:=r1.sqL
 obtain rfl:=r2.ofBls
 exact⟨a,bs,rfl,aJ.of h,k _ _ _ (aA.refl _) (.bl _) q⟩
def r9:List PV->(PV->Prop)->Prop:=λxs Q=>∃i j,xs = [.int i,.int j]/\Q (.int (if j<i then j else i))
def wN:List PV->(PV->Prop)->Prop:=λxs Q=>∃i j,xs = [.int i,.int j]/\Q (.int (if j>i then j else i))
theorem aC9:eL X r9 (λxs H Q=>∃i j,xs = [.int i,.int j]/\Q (.int (if j<i then j else i)) H):=by
 rintro H vs xs Q Q' r ⟨i,j,rfl,q⟩ k
 obtain⟨v,w,rfl,r1,r2⟩:=r.two
 cases r1;cases r2
 exact⟨i,j,rfl,k _ _ _ (aA.refl _) (.int _) q⟩
theorem aD0:eL X wN (λxs H Q=>∃i j,xs = [.int i,.int j]/\Q (.int (if j>i then j else i)) H):=by
 rintro H vs xs Q Q' r ⟨i,j,rfl,q⟩ k
 obtain⟨v,w,rfl,r1,r2⟩:=r.two
 cases r1;cases r2
 exact⟨i,j,rfl,k _ _ _ (aA.refl _) (.int _) q⟩
abbrev bK:=List PV->(PV->Prop)->Prop
def oM (K:ad)(p:bK):Sp:=λvs H Q _=>∃xs Qp,Reps K (λ_=>True) H vs xs/\p xs Qp/\∀v H' x,aA H H'->aF K (λa=>H a=none) H' v x->Qp x->Q v H'
theorem aD1 {p:bK}{E:XK}(h:LE X (aE p tr) σ H Q'):qA (oM X.K p) [] E (LA X tr) σ H Q':=by
 obtain⟨W,ρ,Q,px,q,k⟩:=h
 refine⟨W,ρ,_,px,q,λvs H1 xs s1 r1 q1=>⟨_,_,by rw[bo9];exact r1.any,q1,λv H' x s2 r2 q2=>k v H' x .fr (s1.trans s2) (r2.same (aA.refl _) λ_ z=>s1.free z) q2⟩⟩
def aD2:PV->Option Bool
 |.non=>some false
 |.bl b=>some b
 |.int i=>some (i != 0)
 |.tup xs=>some (!xs.isEmpty)
 |.lst xs=>some (!xs.isEmpty)
 |.dK ps=>some (!ps.isEmpty)
 |_=>none
def l5 (t:aD):cC:=λρ Q=>t ρ λx _=>∃b,aD2 x=some b/\Q b
theorem wO {α β:Type}:∀{l:List α}{m:List β},l.length=m.length->l.isEmpty=m.isEmpty
 |[],[],_=>rfl
 |_::_,_::_,_=>rfl
theorem aD3 {t:aD}{Qb:Bool->Hp->Prop}(h:LT X (l5 t) σ H Qb):LE X t σ H λx H'=>∃k,uR X.K x H' k/\Qb k H':=by
 obtain⟨W,ρ,Q,px,q,k⟩:=h
 refine⟨W,ρ,_,px,q,?_⟩
 rintro v H1 x g s r ⟨b,e,q⟩
 refine⟨b,?_,k _ _ s q⟩
 cases r with
 |non=>cases e;rfl
 |bl b=>cases e;rfl
 |int i=>cases e;rfl
 |str x=>cases e
 |tup h r=>cases e;exact .inr (.inl ⟨_,aH.of h,by rw[wO r.length]⟩)
 |lst m h r=>cases e;exact .inl ⟨_,aJ.of h,by rw[wO r.length]⟩
 |dK m h e' r=>
  cases e
  refine .inr (.inr ⟨_,h,?_⟩)
  have:=congrArg List.length e'
  rw[bl5,bl5]at this
  rw[wO this]
 |dT m h e' r=>cases e
 |scr h=>cases e
 |kt h r=>cases e
 |exc h e' c=>cases e
 |fK h e' r=>cases e
 |fT h e' r=>cases e
 |fL h r=>cases e
end
structure mE (K:ad)(H0:Hp)(W:Addr->Prop)(g:Bool)(H1:Hp)(J:It)(xs:List PV):Prop where
 go:∀W' H' i,Ev W H1 W' H'->i<xs.length->J.go i H'
 yld:∀W' H' i v H2,Ev W H1 W' H'->J.yld i H' v H2->i<xs.length->aA H' H2/\∃x,xs[i]? = some x/\aF K (Ms H0 W' g) H2 v x
 stop:∀W' H',Ev W H1 W' H'->J.stop xs.length H'
abbrev fN:=b7->(List PV->Bool->Prop)->Prop
def LI (X:Cx)(t:fN):TI:=λσ H R=>∃(W:Addr->Prop) (ρ:b7) (Q:List PV->Bool->Prop),PX X.K X.H₀ W σ ρ H/\t ρ Q/\∀J H1 xs g,aA H H1->mE X.K X.H₀ W g H1 J xs->Q xs g->R J H1
theorem Ev.keep {H0:Hp}{W W':Addr->Prop}{H H':Hp}{g:Bool}(e:Ev W H W' H')(tw:∀a,W a->∃o,H a=some o/\gU o=true):iH (Ms H0 W g) (Ms H0 W' g) H H':=by
 have m:∀{a:Addr}{o:HO},Ms H0 W g a->H a=some o->Ms H0 W' g a/\H' a=some o:=λ{a o} z h=>by
  cases g with
  |true=>
   obtain⟨h1,h2⟩:=e a _ h z.1
   exact⟨⟨h2,z.2⟩,h1⟩
  |false=>
   obtain⟨h1,h2⟩:=e a _ h z
   exact⟨h2,h1⟩
 refine⟨λa _ z h=>m z h,λa _ z h=>m z h,λa _ z h=>m z h,λa _ h=>(e a _ h λz=>?_).1,λa _ _ h=>(e a _ h λz=>?_).1⟩
 ·obtain⟨o,h',mu⟩:=tw a z;rw[h]at h';cases h';cases mu
 ·obtain⟨o,h',mu⟩:=tw a z;rw[h]at h';cases h';cases mu
section
variable {X:Cx}{σ:St}{H:Hp}{te:aD}{tr:cM}{R:It→Hp→Prop}
def O1 (K:ad)(tl:TE):TI:=λσ H R=>tl σ H λx H1=>∃a,x = .ref a/\((∃xs,aJ K H1 a xs/\R (lU K a) H1)∨(∃xs,aH K H1 a xs/\R (jN K a) H1))
def wP:Tg->List PV->Bool
 |.fr,_=>true
 |.nw,_=>true
 |_,xs=>flats xs
def cN (te:aD):fN:=λρ Q=>te ρ λx g=>∃xs,jW x=some xs/\(g = .rd->flat x=true)/\Q xs (wP g xs)
theorem wQ {K:ad}{H0:Hp}{W:Addr->Prop}{g:Bool}{H1:Hp}{a:Addr}{us:List V}{xs:List PV}(tw:∀a,W a->∃o,H1 a=some o/\gU o=true)(ha:∀W' H',Ev W H1 W' H'->aJ K H' a us)(r:Reps K (Ms H0 W g) H1 us xs):mE K H0 W g H1 (lU K a) xs:=by
 have lr:=r.length
 refine⟨λW' H' i e hi=>⟨us,us[i]'(by omega),ha W' H' e,by simp⟩,λW' H' i v H2 e y hi=>?_,λW' H' e=>⟨us,ha W' H' e,by omega⟩⟩
 obtain⟨rfl,y⟩:=y
 obtain⟨x,hx,rx⟩:=r.get (y us (ha W' _ e))
 exact⟨aA.refl _,x,hx,rx.keep (e.keep tw)⟩
theorem O2 {K:ad}{H0:Hp}{W:Addr->Prop}{g:Bool}{H1:Hp}{a:Addr}{us:List V}{xs:List PV}(tw:∀a,W a->∃o,H1 a=some o/\gU o=true)(ha:∀W' H',Ev W H1 W' H'->aH K H' a us)(r:Reps K (Ms H0 W g) H1 us xs):mE K H0 W g H1 (jN K a) xs:=by
 have lr:=r.length
 refine⟨λW' H' i e hi=>⟨us,us[i]'(by omega),ha W' H' e,by simp⟩,λW' H' i v H2 e y hi=>?_,λW' H' e=>⟨us,ha W' H' e,by omega⟩⟩
 obtain⟨rfl,y⟩:=y
 obtain⟨x,hx,rx⟩:=r.get (y us (ha W' _ e))
 exact⟨aA.refl _,x,hx,rx.keep (e.keep tw)⟩
theorem l6 {K:ad}{H0 Hs H:Hp}{W:Addr->Prop}{σ:St}{ρ:b7}{g:Tg}{us:List V}{xs:List PV}(px:PX K H0 W σ ρ Hs)(hg:g = .rd->flats xs=true)(r:Reps K (Mg H0 W Hs g) H us xs):Reps K (Ms H0 W (wP g xs)) H us xs:=by
 cases g with
 |fr=>exact r.same (aA.refl _) λ_ z=>px.new z
 |nw=>exact r.same (aA.refl _) λ_ z=>z
 |sh=>
  show Reps K (Ms H0 W (flats xs)) H us xs
  cases e:flats xs with
  |true=>exact r.flat e
  |false=>exact r.same (aA.refl _) λ_ z=>z
 |rd=>exact r.flat (hg rfl)
theorem aD4 (h:LI X (cN te) σ H R):O1 X.K (LE X te) σ H R:=by
 obtain⟨W,ρ,Q,px,q,k⟩:=h
 refine⟨W,ρ,_,px,q,?_⟩
 rintro v H1 x g s r ⟨xs,e,hg,q⟩
 have px1:=px.mono s
 have tw:∀a,W a->∃o,H1 a=some o/\gU o=true:=λa z=>(px1.wm a z).2
 cases r with
 |tup h r=>
  cases e
  refine⟨_,rfl,.inr ⟨_,aH.of h,k _ _ _ _ s (O2 tw (λW' H' e=>aH.of (e _ _ h λz=>?_).1) (l6 px (λz=>by have:=hg z;unfold flat at this;exact this) r)) q⟩⟩
  obtain⟨o,h',mu⟩:=tw _ z;rw[h]at h';cases h';cases mu
 |@lst a us xs' m h r=>
  cases e
  have wa:¬W a:=by
   cases g with
   |fr=>exact (px.new m).1
   |nw=>exact m.1
   |sh=>exact m
   |rd=>have:=hg rfl;unfold flat at this;cases this
  exact⟨_,rfl,.inl ⟨_,aJ.of h,k _ _ _ _ s (wQ tw (λW' H' e=>aJ.of (e _ _ h wa).1) (l6 px (λz=>by have:=hg z;unfold flat at this;cases this) r)) q⟩⟩
 |scr h=>
  cases e
  refine⟨_,rfl,.inl ⟨_,h.sqL,k _ _ _ _ s (wQ tw (λW' H' e=>(iY.keep (λa o u hz=>(e _ _ hz λz=>?_).1) h).sqL) (l6 (g:=g) px (λz=>cR _) (Reps.intz _))) q⟩⟩
  obtain⟨o,h',mu⟩:=tw _ z;rw[hz]at h';cases h';cases mu
 |kt h r=>
  cases e
  exact⟨_,rfl,.inr ⟨_,.inr h,k _ _ _ _ s (O2 tw (λW' H' e=>.inr h) (l6 px (λz=>by have:=hg z;unfold flat at this;exact this) r)) q⟩⟩
 |fL h r=>
  cases e
  refine⟨_,rfl,.inl ⟨_,.inl (.inr ⟨_,h⟩),k _ _ _ _ s (wQ tw (λW' H' e=>.inl (.inr ⟨_,(e _ _ h λz=>?_).1⟩)) (l6 px (λz=>by have:=hg z;unfold flat at this;exact this) r)) q⟩⟩
  obtain⟨o,h',mu⟩:=tw _ z;rw[h]at h';cases h';cases mu
 |_=>cases e
def dD (lo:Int)(n:Nat):List PV:=(List.range n).map λ(i:Nat)=>PV.int (lo+(i:Int))
theorem dO (lo:Int)(n:Nat):(dD lo n).length=n:=by unfold dD;rw[bl5,by7]
theorem wR {lo:Int}{n i:Nat}(h:i<n):(dD lo n)[i]? = some (.int (lo+i)):=by unfold dD;rw[bl4,List.getElem?_range h];rfl
def gX (te:aD):fN:=λρ Q=>te ρ λx _=>∃j:Int,x = .int j/\-1000000<=j/\j<=1000000/\Q (dD 0 j.toNat) true
def rA (ta tb:aD):fN:=λρ Q=>ta ρ λx _=>tb ρ λy _=>∃i j:Int,x = .int i/\y = .int j/\(-1000000<=i/\i<=1000000/\-1000000<=j/\j<=1000000)/\Q (dD i (j-i).toNat) true
theorem O3 {K:ad}{H0:Hp}{W:Addr->Prop}{H1:Hp}(lo:Int)(n:Nat):mE K H0 W true H1 (nW lo n) (dD lo n):=by
 refine⟨λW' H' i e hi=>by rw[dO]at hi;exact hi,λW' H' i v H2 e y hi=>?_,λW' H' e=>by show n<=(dD lo n).length;rw[dO];exact bk7 _⟩
 rw[dO]at hi
 obtain⟨rfl,rfl⟩:=y
 exact⟨aA.refl _,_,wR hi,.int _⟩
theorem aD5 (h:LI X (gX te) σ H R):A6 (iF (LE X te) kR) σ H R:=by
 obtain⟨W,ρ,Q,px,q,k⟩:=h
 refine⟨W,ρ,_,px,q,?_⟩
 rintro v H1 x g s r ⟨j,rfl,h1,h2,q⟩
 cases r
 exact⟨j,rfl,by omega,by omega,k _ _ _ _ s (O3 0 j.toNat) q⟩
theorem aD6 {ta tb:aD}(h:LI X (rA ta tb) σ H R):A7 (iF (LE X ta) (iF (LE X tb) kR)) σ H R:=by
 obtain⟨W,ρ,Q,px,q,k⟩:=h
 refine⟨W,ρ,_,px,q,λv H1 x g s r q=>⟨W,ρ,_,px.mono s,q,?_⟩⟩
 rintro w H2 y g' s2 r2 ⟨i,j,rfl,rfl,h,q⟩
 cases r;cases r2
 exact⟨i,j,rfl,by omega,k _ _ _ _ (s.trans s2) (O3 i (j-i).toNat) q⟩
end
abbrev gY:=PV->Bool->b7->(b7->Prop)->Prop
def l7 (K:ad)(own:Nat->Prop)(p:gY)(t:TG):Prop:=∀(H0:Hp) (W:Addr->Prop) (σ:St) (ρ:b7) (H:Hp) (v:V) (x:PV) (g:Bool) (Q:b7->Prop) (Q':St->Hp->Prop),
 PX K H0 W σ ρ H->aF K (Ms H0 W g) H v x->p x g ρ Q->(∀σ' ρ',PX K H0 W σ' ρ' H->(∀i,¬own i->σ'[i]? = σ[i]?)->σ'.length=σ.length->Q ρ'->Q' σ' H)->t v σ H Q'
def b8 (i:Nat):gY:=λx g ρ Q=>Q (ρ.set i (some (.sh (g||flat x) x)))
theorem rB {K:ad}{H0 H:Hp}{W:Addr->Prop}{v:V}{x:PV}{g:Bool}(r:aF K (Ms H0 W g) H v x):aF K (Ms H0 W (g||flat x)) H v x:=by
 cases g with
 |true=>exact r
 |false=>
  show aF K (Ms H0 W (flat x)) H v x
  cases e:flat x with
  |true=>exact r.flat e
  |false=>exact r
theorem oN (K:ad)(i:Nat):l7 K (· = i) (b8 i) (cV i):=by
 intro H0 W σ ρ H v x g Q Q' px r q k
 exact k _ _ (px.setSh (rB r)) (λj hj=>by rw[bo5 (Ne.symm hj)]) (br8 ..) q
def oO (i j:Nat):gY:=λx g ρ Q=>∃y z,x = .tup [y,z]/\Q ((ρ.set i (some (.sh (g||flat y) y))).set j (some (.sh (g||flat z) z)))
theorem O4 (K:ad)(i j:Nat):l7 K (λk=>k=i∨k=j) (oO i j) (kO K 2 (fR (cV i) (fR (cV j) kN))):=by
 intro H0 W σ ρ H v x g Q Q' px r q k
 obtain⟨y,z,rfl,q⟩:=q
 obtain⟨a,us,rfl,h,r⟩:=r.sqT
 obtain⟨u1,u2,rfl,r1,r2⟩:=r.two
 refine⟨a,_,rfl,aH.of h,rfl,u1,_,rfl,u2,_,rfl,rfl,k _ _ ((px.setSh (rB r1)).setSh (rB r2)) (λk hk=>?_) (by rw[br8,br8]) q⟩
 rw[bo5 (λe=>hk (.inr e.symm)),bo5 (λe=>hk (.inl e.symm))]
section
variable {X:Cx}{σ:St}{H:Hp}{D:cG}
def eW (ti:fN)(p:gY)(tb:aM):aM:=λD ρ=>ti ρ λxs g=>∃I:Nat->b7->Prop,I 0 ρ/\(∀i x ρ',xs[i]? = some x->I i ρ'->p x g ρ' λρ2=>tb { D with nx:=I (i+1),ct:=I (i+1),bk:=D.nx } ρ2)/\∀ρ',I xs.length ρ'->D.nx ρ'
theorem aD7 {ti:fN}{p:gY}{g:TG}{tb:aM}{own:Nat->Prop}(hg:l7 X.K own p g)(h:LS X (eW ti p tb) D σ H):pV (LI X ti) g (LS X tb) D σ H:=by
 obtain⟨W,ρ,D',px,q,k⟩:=h
 refine⟨W,ρ,_,px,q,?_⟩
 rintro J H1 xs gb s it ⟨I,i0,turn,fin⟩
 refine⟨λi m σ2 H2=>m=xs.length-i/\i<=xs.length/\∃W2 ρ2,PX X.K X.H₀ W2 σ2 ρ2 H2/\Ev W H1 W2 H2/\I i ρ2,⟨xs.length,by omega,bo4 _,W,ρ,px.mono s,Ev.refl _ _,i0⟩,?_⟩
 rintro i m σ2 H2 ⟨rfl,hi,W2,ρ2,px2,e2,i2⟩
 have e0:Ev W H W2 H2:=(Ev.same s).trans e2
 by_cases hlt:i<xs.length
 ·refine .inr ⟨it.go W2 H2 i e2 hlt,λσ3 H3=>∃W3 ρ3,PX X.K X.H₀ W3 σ3 ρ3 H3/\Ev W H1 W3 H3/\I (i+1) ρ3,λσ3 H3 ⟨W3,ρ3,a,b,c⟩=>⟨xs.length-(i+1),by omega,rfl,hlt,W3,ρ3,a,b,c⟩,λv H3 y=>?_⟩
  obtain⟨s3,x,hx,rx⟩:=it.yld W2 H2 i v H3 e2 y hlt
  refine hg X.H₀ W2 σ2 ρ2 H3 v x gb _ _ (px2.mono s3) rx (turn i x ρ2 hx i2) λσ4 ρ4 px4 _ _ q4=>?_
  have e3:Ev W H1 W2 H3:=e2.trans (Ev.same s3)
  have e3':Ev W H W2 H3:=e0.trans (Ev.same s3)
  exact⟨W2,ρ4,_,px4,q4,λW' σ' H' ρ' e p q=>⟨W',ρ',p,e3.trans e,q⟩,k.rt,λW' σ' H' ρ' e p q=>k.nx W' σ' H' ρ' (e3'.trans e) p q,λW' σ' H' ρ' e p q=>⟨W',ρ',p,e3.trans e,q⟩⟩
 ·have e:i=xs.length:=by omega
  subst e
  exact .inl ⟨it.stop W2 H2 e2,k.nx W2 σ2 H2 ρ2 e0 px2 (fin ρ2 i2)⟩
end
def mF (fr:List (Option Nat))(ρ:b7):b7:=fr.map λo=>o.bind λj=>(ρ[j]?).join.map λm=>Slot.sh false m.val
def l8 (D:Addr):Addr->Prop:=λa=>a=D
theorem aD8 {K:ad}{H0:Hp}{W:Addr->Prop}{σ:St}{ρ:b7}{H1 H':Hp}{D:Addr}{acc:List V}{fr:List (Option Nat)}(px:PX K H0 W σ ρ H1)(hD:H1 D=none)(s:aA H1 H')(ha:H' D=some (.lst acc)) :
  PX K H1 (l8 D) (fH fr σ) (mF fr ρ) H':=by
 have old:∀{a:Addr}{o:HO},H1 a=some o->a≠D:=λ{a o} e z=>by rw[z,hD]at e;cases e
 refine⟨by unfold fH mF;rw[bl5,bl5],s,λa z=>by cases z;exact⟨hD,_,ha,rfl⟩,λi m h=>?_,λi j x y a h1=>?_⟩
 ·unfold mF at h
  rw[bl4]at h
  cases ef:fr[i]? with
  |none=>rw[ef]at h;cases h
  |some o=>
   rw[ef]at h
   cases o with
   |none=>cases h
   |some j=>
    have h:some ((ρ[j]?).join.map λm=>Slot.sh false m.val)=some (some m):=h
    cases er:ρ[j]? with
    |none=>rw[er]at h;cases h
    |some o=>
     rw[er]at h
     cases o with
     |none=>cases h
     |some m0=>
      cases h
      obtain⟨v,ev,r⟩:=px.sl j m0 er
      refine⟨v,?_,?_⟩
      ·unfold fH
       rw[bl4,ef]
       show some ((σ[j]?).join)=_
       rw[ev];rfl
      ·have r':aF K (λ_=>True) H1 v m0.val:=(N1 (Hs:=H1) r).same (aA.refl _) λ_ _=>trivial
       exact r'.keep ⟨λa _ _ e=>⟨old e,s _ _ e⟩,λa _ _ e=>⟨old e,s _ _ e⟩,λa _ _ e=>⟨old e,s _ _ e⟩,λ_ _ e=>s _ _ e,λ_ _ _ e=>s _ _ e⟩
 ·unfold mF at h1
  rw[bl4]at h1
  cases ef:fr[i]? with
  |none=>rw[ef]at h1;cases h1
  |some o=>
   rw[ef]at h1
   cases o with
   |none=>cases h1
   |some j=>
    have h1:some ((ρ[j]?).join.map λm=>Slot.sh false m.val)=some (some (Slot.own x)):=h1
    cases er:ρ[j]? with
    |none=>rw[er]at h1;cases h1
    |some o=>
     rw[er]at h1
     cases o with
     |none=>cases h1
     |some m0=>cases h1
section
variable {X:Cx}{σ:St}{H:Hp}{Q':VK}
abbrev _root_.L2.Cx.frm (X:Cx)(H1:Hp):Cx:={ X with H₀:=H1 }
def c7 (ti:fN)(fr:List (Option Nat))(p:gY)(tc:cC)(te:aD):aD:=λρ Q=>ti ρ λxs g=>xs.length<=16000000/\∃I:Nat->List PV->Prop,I 0 []/\
 (∀i x acc,xs[i]? = some x->I i acc->p x false (mF fr ρ) λρ2=>tc ρ2 λb=>if b=true then te ρ2 λy gy=>Nw gy y/\I (i+1) (acc++[y]) else I (i+1) acc)/\∀acc,I xs.length acc->Q (.lst acc) .fr
theorem oP {ti:fN}{fr:List (Option Nat)}{p:gY}{g:TG}{tc:cC}{te:aD}{own:Nat->Prop}(hg:l7 X.K own p g)(ho:∀i,own i->fr[i]? = some none)(h:LE X (c7 ti fr p tc te) σ H Q') :
  vO (LI X ti) fr (λ_=>g) (λH1=>LT (X.frm H1) tc) (λH1=>LE (X.frm H1) te) σ H Q':=by
 obtain⟨W,ρ,Q,px,q,k⟩:=h
 refine⟨W,ρ,_,px,q,?_⟩
 rintro J H1 xs gb s it ⟨hl,I,i0,turn,fin⟩ D hD
 have px1:=px.mono s
 refine⟨λi m acc H'=>m=xs.length-i/\i<=xs.length/\aA H1 H'/\H' D=some (.lst acc)/\∃ys,Reps X.K (Ms H1 (l8 D) true) H' acc ys/\ys.length<=i/\I i ys,⟨xs.length,by omega,bo4 _,aZ hD _,aT,[],.nil,bk7 _,i0⟩,?_⟩
 rintro i m acc H' ⟨rfl,hi,sm,ha,ys,ry,hy,iy⟩
 refine⟨ha,?_⟩
 have ev:Ev W H1 (mD W D) H':=Ev.own sm hD
 by_cases hlt:i<xs.length
 ·refine .inr ⟨it.go _ H' i ev hlt,λv H2 y=>?_⟩
  obtain⟨s2,x,hx,rx⟩:=it.yld _ H' i v H2 ev y hlt
  have ha2:=s2 _ _ ha
  have pxb:PX X.K H1 (l8 D) (fH fr σ) (mF fr ρ) H2:=aD8 px1 hD (sm.trans s2) ha2
  have rx':aF X.K (Ms H1 (l8 D) false) H2 v x:=rx.same (aA.refl _) λa z=>by
   cases gb with
   |true=>exact λe=>z.1 (.inr e)
   |false=>exact λe=>z (.inr e)
  refine hg H1 (l8 D) _ _ H2 v x false _ _ pxb rx' (turn i x ys hx iy) λσ2 ρ2 px2 hown hlen q2=>⟨⟨hlen.symm,λj w e=>?_⟩,?_⟩
  ·by_cases oj:own j
   ·have:=ho j oj
    unfold fH at e
    rw[bl4,this]at e
    cases e
   ·rw[hown j oj];exact e
  ·refine⟨l8 D,ρ2,_,px2,q2,λb H4 s4 q4=>?_⟩
   have ha4:=s4 _ _ ha2
   have sm4:=(sm.trans s2).trans s4
   cases b with
   |false=>
    refine bG ⟨xs.length-(i+1),by omega,rfl,hlt,sm4,ha4,ys,ry.same (s2.trans s4) λ_ z=>z,by omega,by simpa using q4⟩
   |true=>
    refine bP ⟨l8 D,ρ2,_,px2.mono s4,by simpa using q4,?_⟩
    rintro w H5 y gy s5 ryy ⟨nw,q5⟩
    have ha5:=s5 _ _ ha4
    have lr:=ry.length
    refine⟨ha5,gI (by omega),xs.length-(i+1),by omega,rfl,hlt,λb o e=>?_,aT,ys++[y],?_,by rw[bm7,bq6];omega,q5⟩
    ·rw[aC (λz=>by rw[z,hD]at e;cases e)]
     exact s5 _ _ (sm4 _ _ e)
    ·exact ((ry.same ((s2.trans s4).trans s5) λ_ z=>z).append (.cons (Nw.rep (px2.mono s4) nw ryy) .nil)).keep (.upd ha5 rfl λb m=>⟨m.1,m⟩)
 ·have e:i=xs.length:=by omega
  subst e
  refine .inl ⟨it.stop _ H' ev,k _ H' _ .fr (s.trans sm) (.lst (s.free hD) ha (ry.same (aA.refl _) λ_ z=>s.free z.2)) (fin ys iy)⟩
def dX:cC:=λ_ Q=>Q true
theorem aD9 {Qb:Bool->Hp->Prop}(h:LT X dX σ H Qb):vL σ H Qb:=by
 obtain⟨W,ρ,Q,px,q,k⟩:=h
 exact k _ _ (aA.refl _) q
end
section
variable {κ:Type}[DecidableEq κ]
def c8 (ps:List (κ×PV))(k:κ):Option PV:=(ps.find? λp=>decide (p.1=k)).map (·.2)
def dP (ps:List (κ×PV))(k:κ)(x:PV):List (κ×PV):=if (ps.any λp=>decide (p.1=k))=true then ps.map (λp=>if p.1=k then (p.1,x) else p) else ps++[(k,x)]
variable {K:ad}{M:Addr→Prop}{H:Hp}
theorem j5 (k:κ):∀{kvs:List (κ×V)}{ps:List (κ×PV)},kvs.map (·.1)=ps.map (·.1)->Reps K M H (kvs.map (·.2)) (ps.map (·.2))->(c8 ps k=none->eV kvs k=none)/\∀x,c8 ps k=some x->∃v,eV kvs k=some v/\aF K M H v x
 |[],[],_,_=>⟨λ_=>rfl,λx h=>by cases h⟩
 |[],_::_,e,_=>by cases e
 |_::_,[],e,_=>by cases e
 |(k1,v)::kvs,(k2,x)::ps,e,r=>by
  injection e with e1 e2
  have e1:k1=k2:=e1
  subst e1
  cases r with
  |cons r t=>
   obtain⟨h1,h2⟩:=j5 k e2 t
   unfold c8 eV at h1 h2 ⊢
   by_cases e:k1=k
   ·simp only[bv0,e,decide_true,Option.map_some]
    exact⟨λz=>(by cases z),λy z=>(by cases z;exact⟨v,rfl,r⟩)⟩
   ·simp only[bv0,e,decide_false]
    exact⟨h1,h2⟩
theorem aE0 (k:κ){kvs:List (κ×V)}{ps:List (κ×PV)}(e:kvs.map (·.1)=ps.map (·.1)):(kvs.any λp=>decide (p.1=k))=ps.any λp=>decide (p.1=k):=by
 have h1:(kvs.any λp=>decide (p.1=k))=(kvs.map (·.1)).any λz=>decide (z=k):=by rw[List.any_map];rfl
 have h2:(ps.any λp=>decide (p.1=k))=(ps.map (·.1)).any λz=>decide (z=k):=by rw[List.any_map];rfl
 rw[h1,h2,e]
theorem O5 (k:κ){w:V}{y:PV}(q:aF K M H w y):∀{kvs:List (κ×V)}{ps:List (κ×PV)},kvs.map (·.1)=ps.map (·.1)->Reps K M H (kvs.map (·.2)) (ps.map (·.2))->
  (kvs.map λkv=>if kv.1=k then (kv.1,w) else kv).map (·.1)=(ps.map λkv=>if kv.1=k then (kv.1,y) else kv).map (·.1)/\Reps K M H ((kvs.map λkv=>if kv.1=k then (kv.1,w) else kv).map (·.2)) ((ps.map λkv=>if kv.1=k then (kv.1,y) else kv).map (·.2))
 |[],[],_,_=>⟨rfl,.nil⟩
 |[],_::_,e,_=>by cases e
 |_::_,[],e,_=>by cases e
 |(k1,v)::kvs,(k2,x)::ps,e,r=>by
  injection e with e1 e2
  have e1:k1=k2:=e1
  subst e1
  cases r with
  |cons r t=>
   obtain⟨h1,h2⟩:=O5 k q e2 t
   by_cases e:k1=k
   ·simp only[bq5,e,if_true]
    exact⟨by rw[h1],.cons q h2⟩
   ·simp only[bq5,e,bq1]
    exact⟨by rw[h1],.cons r h2⟩
theorem O6 (k:κ){w:V}{y:PV}(q:aF K M H w y){kvs:List (κ×V)}{ps:List (κ×PV)}(e:kvs.map (·.1)=ps.map (·.1))(r:Reps K M H (kvs.map (·.2)) (ps.map (·.2))) :
  (eJ kvs k w).map (·.1)=(dP ps k y).map (·.1)/\Reps K M H ((eJ kvs k w).map (·.2)) ((dP ps k y).map (·.2)):=by
 unfold eJ dP
 rw[aE0 k e]
 split
 ·exact O5 k q e r
 ·rw[bn6,bn6,bn6,bn6,e]
  exact⟨rfl,r.append (.cons q .nil)⟩
end
def kP:aG->PV
 |.inl i=>.int i
 |.inr x=>.str x
theorem wS {K:ad}{M:Addr->Prop}{H:Hp}{v:V}{k:aG}(r:aF K M H v (kP k)):v=kV k:=by
 cases k with
 |inl i=>cases r;rfl
 |inr x=>cases r;rfl
theorem rC {K:ad}{M:Addr->Prop}{H:Hp}:∀{ks:List aG}{us:List V},Reps K M H us (ks.map kP)->us=ks.map kV
 |[],_,.nil=>rfl
 |k::r,_,.cons q t=>by rw[wS q,rC t];rfl
def O7:PV->PV
 |.fK ps=>.dK ps
 |.fT ps=>.dT ps
 |x=>x
def rD (x y:PV)(o:Option PV):Prop:=(∃ps k,O7 x = .dK ps/\y=kP k/\o=c8 ps k)∨(∃ps k,O7 x = .dT ps/\y = .tup (k.map kP)/\o=c8 ps k)
theorem wT {K:ad}{M M2:Addr->Prop}{H:Hp}{v w:V}{x y:PV}{o:Option PV}(h:rD x y o)(rx:aF K M H v x)(ry:aF K M2 H w y):∃a o',v = .ref a/\fG H a w o'/\(o=none->o'=none)/\∀z,o=some z->∃u,o'=some u/\aF K M H u z:=by
 rcases h with⟨ps,k,ex,rfl,rfl⟩|⟨ps,k,ex,rfl,rfl⟩
 ·obtain rfl:=wS ry
  cases rx with
  |dK m h e r=>cases ex;exact⟨_,_,rfl,fG.k h,(j5 k e r).1,(j5 k e r).2⟩
  |fK h e r=>cases ex;exact⟨_,_,rfl,.inl ⟨_,k,.inr ⟨_,h⟩,rfl,rfl⟩,(j5 k e r).1,(j5 k e r).2⟩
  |_=>cases ex
 ·obtain⟨b,us,rfl,hb,rb⟩:=ry.sqT
  obtain rfl:=rC rb
  cases rx with
  |dT m h e r=>cases ex;exact⟨_,_,rfl,fG.t h hb,(j5 k e r).1,(j5 k e r).2⟩
  |fT h e r=>cases ex;exact⟨_,_,rfl,.inr ⟨_,k,b,.inr ⟨_,h⟩,rfl,hb,rfl⟩,(j5 k e r).1,(j5 k e r).2⟩
  |_=>cases ex
section
variable {X:Cx}{σ:St}{H:Hp}{D:cG}{tk td te:aD}{Q':VK}
def l9 (neg:Bool)(tk td:aD):aD:=λρ Q=>tk ρ λy _=>td ρ λx _=>∃o,rD x y o/\Q (.bl (if neg=true then !o.isSome else o.isSome)) .fr
theorem O8 {α β:Type}{o:Option α}{o':Option β}{P:β->α->Prop}(h1:o=none->o'=none)(h2:∀z,o=some z->∃u,o'=some u/\P u z):o'.isSome=o.isSome:=by
 cases o with
 |none=>rw[h1 rfl];rfl
 |some z=>obtain⟨u,e,_⟩:=h2 z rfl;rw[e];rfl
theorem aE1 (h:LE X (l9 false tk td) σ H Q'):J1 (LE X tk) (LE X td) σ H Q':=by
 obtain⟨W,ρ,Q,px,q,k⟩:=h
 refine⟨W,ρ,_,px,q,λw H1 y g s r q=>⟨W,ρ,_,px.mono s,q,?_⟩⟩
 rintro v H2 x g' s2 r2 ⟨o,ak,q⟩
 obtain⟨a,o',rfl,dg,h1,h2⟩:=wT ak r2 (r.same s2 λ_ z=>z)
 refine⟨a,o',rfl,dg,?_⟩
 rw[O8 h1 h2]
 exact k _ _ _ .fr (s.trans s2) (.bl _) q
theorem aE2 (h:LE X (l9 true tk td) σ H Q'):J2 (LE X tk) (LE X td) σ H Q':=by
 obtain⟨W,ρ,Q,px,q,k⟩:=h
 refine⟨W,ρ,_,px,q,λw H1 y g s r q=>⟨W,ρ,_,px.mono s,q,?_⟩⟩
 rintro v H2 x g' s2 r2 ⟨o,ak,q⟩
 obtain⟨a,o',rfl,dg,h1,h2⟩:=wT ak r2 (r.same s2 λ_ z=>z)
 refine⟨a,o',rfl,dg,?_⟩
 rw[O8 h1 h2]
 exact k _ _ _ .fr (s.trans s2) (.bl _) q
def mG (td tk:aD):aD:=λρ Q=>td ρ λx g=>tk ρ λy _=>∃z,rD x y (some z)/\Q z g
theorem aE3 (h:LE X (mG td tk) σ H Q'):J0 (LE X td) (LE X tk) σ H Q':=by
 obtain⟨W,ρ,Q,px,q,k⟩:=h
 refine⟨W,ρ,_,px,q,λv H1 x g s r q=>⟨W,ρ,_,px.mono s,q,?_⟩⟩
 rintro w H2 y g' s2 r2 ⟨z,ak,q⟩
 obtain⟨a,o',rfl,dg,h1,h2⟩:=wT ak (r.same s2 λ_ z=>z) r2
 obtain⟨u,rfl,ru⟩:=h2 z rfl
 exact⟨a,u,rfl,dg,k _ _ _ g (s.trans s2) ru q⟩
theorem PX.updD {K:ad}{H0:Hp}{W:Addr->Prop}{σ:St}{ρ:b7}{H:Hp}{i:Nat}{a:Addr}{x:PV}{kvs:List (aG×V)}{ps:List (aG×PV)}(p:PX K H0 W σ ρ H)(hi:ρ[i]? = some (some (.own x)))(ha:σ[i]? = some (some (.ref a)))(wa:W a)(r:kvs.map (·.1)=ps.map (·.1)/\Reps K (Ms H0 W true) (upd H a (.dK kvs)) (kvs.map (·.2)) (ps.map (·.2))):PX K H0 W σ (ρ.set i (some (.own (.dK ps)))) (upd H a (.dK kvs)):=p.updOwn hi ha wa rfl (y:=.dK ps) ⟨kvs,aT,r⟩
theorem PX.updT {K:ad}{H0:Hp}{W:Addr->Prop}{σ:St}{ρ:b7}{H:Hp}{i:Nat}{a:Addr}{x:PV}{kvs:List (List aG×V)}{ps:List (List aG×PV)}(p:PX K H0 W σ ρ H)(hi:ρ[i]? = some (some (.own x)))(ha:σ[i]? = some (some (.ref a)))(wa:W a)(r:kvs.map (·.1)=ps.map (·.1)/\Reps K (Ms H0 W true) (upd H a (.dT kvs)) (kvs.map (·.2)) (ps.map (·.2))):PX K H0 W σ (ρ.set i (some (.own (.dT ps)))) (upd H a (.dT kvs)):=p.updOwn hi ha wa rfl (y:=.dT ps) ⟨kvs,aT,r⟩
theorem rE {κ α β:Type}{l:List (κ×α)}{m:List (κ×β)}(e:l.map (·.1)=m.map (·.1)):l.length=m.length:=by
 have:=congrArg List.length e
 rw[bl5,bl5]at this
 exact this
def wU (i:Nat)(tk te:aD):aM:=λD ρ=>te ρ λz g=>∃ps,ρ[i]? = some (some (.own (.dK ps)))/\tk ρ λy _=>∃k,y=kP k/\Nw g z/\ps.length<16000000/\D.nx (ρ.set i (some (.own (.dK (dP ps k z)))))
theorem aE4 {i:Nat}(h:LS X (wU i tk te) D σ H):vC (eS i) (LE X tk) (LE X te) D σ H:=by
 obtain⟨W,ρ,D',px,q,k⟩:=h
 refine⟨W,ρ,_,px,q,?_⟩
 rintro w H1 z g s rz ⟨ps,hi,q⟩
 obtain⟨v,ev,a,rfl,wa,kvs,ea,e1,r⟩:=(px.mono s).sl i _ hi
 refine⟨_,ev,W,ρ,_,px.mono s,q,?_⟩
 rintro kv H2 y g' s2 ry ⟨kk,rfl,nw,hl,q⟩
 obtain rfl:=wS ry
 have ea2:=s2 _ _ ea
 refine⟨a,_,rfl,jP.k ea2 (gI (by rw[rE e1];omega)),?_⟩
 refine k.nx W σ _ _ ((Ev.same (s.trans s2)).trans (Ev.upd wa)) ((px.mono (s.trans s2)).updD hi ev wa ?_) q
 obtain⟨h1,h2⟩:=O6 kk ((Nw.rep px nw rz).same s2 λ_ z=>z) e1 (r.same s2 λ_ z=>z)
 exact⟨h1,h2.keep (.upd ea2 rfl λb m=>⟨oK wa m,m⟩)⟩
theorem aE5 (h:LE X (qC (.dK [])) σ H Q'):J5 σ H Q':=by
 obtain⟨W,ρ,Q,px,q,k⟩:=h
 exact λp hp=>k _ _ _ .fr (aZ hp _) (.dK hp aT rfl .nil) q
theorem aE6 (h:LE X (qC (.dT [])) σ H Q'):J6 σ H Q':=by
 obtain⟨W,ρ,Q,px,q,k⟩:=h
 exact λp hp=>k _ _ _ .fr (aZ hp _) (.dT hp aT rfl .nil) q
end
def cS:Nat->PV->PV->Bool
 |_,.non,.non=>true
 |_,.bl a,.bl b=>a==b
 |_,.int a,.int b=>a==b
 |_,.str a,.str b=>a==b
 |n+1,.tup xs,.tup ys=>(xs.zip ys).all (λp=>cS n p.1 p.2)&&xs.length==ys.length
 |n+1,.lst xs,.lst ys=>(xs.zip ys).all (λp=>cS n p.1 p.2)&&xs.length==ys.length
 |n+1,.kt xs,.kt ys=>(xs.zip ys).all (λp=>cS n p.1 p.2)&&xs.length==ys.length
 |_,_,_=>false
def eM:Nat->PV->PV->Bool
 |_,.non,.non=>true
 |_,.bl _,.bl _=>true
 |_,.int _,.int _=>true
 |_,.str _,.str _=>true
 |_,.non,.int _=>true
 |_,.int _,.non=>true
 |n+1,.tup xs,.tup ys=>(xs.zip ys).all (λp=>eM n p.1 p.2)
 |n+1,.lst xs,.lst ys=>(xs.zip ys).all (λp=>eM n p.1 p.2)
 |n+1,.kt xs,.kt ys=>(xs.zip ys).all (λp=>eM n p.1 p.2)
 |_+1,.non,.tup _=>true
 |_+1,.tup _,.non=>true
 |_,_,_=>false
theorem aE7 (n:Nat)(a b:Int):cS n (.int a) (.int b)=(a==b):=by cases n<;>rfl
theorem O9 (n:Nat):∀(a b:af),((((intz a).zip (intz b)).all λp=>cS n p.1 p.2)&&(intz a).length==(intz b).length)=decide (a=b)
 |[],[]=>rfl
 |[],_::_=>by simp
 |_::_,[]=>by simp
 |x::a,y::b=>by
  have ih:=O9 n a b
  simp only[bq5,bA3,bz9,bo3,aE7]at ih ⊢
  by_cases e:x=y
  ·subst e
   have:((intz a).length+1==(intz b).length+1)=((intz a).length==(intz b).length):=by simp
   rw[this,bu2,Bool.true_and,ih]
   simp
  ·have:(x==y)=false:=beq_eq_false_iff_ne.mpr e
   rw[this,Bool.false_and,Bool.false_and]
   simp[e]
theorem wV (n:Nat)(a b:af):cS (n+1) (.tup (intz a)) (.tup (intz b))=decide (a=b):=O9 n a b
theorem P3 (n:Nat):∀(a b:af),(((intz a).zip (intz b)).all λp=>eM n p.1 p.2)=true
 |[],_=>by simp
 |_::_,[]=>by simp
 |x::a,y::b=>by
  simp only[bq5,bA3,bz9,P3 n a b,bA1]
  cases n<;>rfl
theorem wW (n:Nat)(a b:af):eM (n+1) (.tup (intz a)) (.tup (intz b))=true:=P3 n a b
def oQ (ta:aD):aD:=λρ Q=>ta ρ λx _=>∃i,x = .int i/\Q (.int (-i)) .fr
def oR (neg:Bool):PV->Tg->PV->Tg->PK->Prop:=λx _ y _ Q=>∃i ns,x = .int i/\jW y=some (intz ns)/\Q (.bl (if neg=true then !decide (i∈ns) else decide (i∈ns))) .fr
def wX (n:Nat)(neg:Bool):PV->Tg->PV->Tg->PK->Prop:=λx _ y _ Q=>((∃xs ys,x = .tup xs/\y = .tup ys)∨(∃xs ys,x = .lst xs/\y = .lst ys))/\eM (n+1) x y=true/\Q (.bl (if neg=true then !cS (n+1) x y else cS (n+1) x y)) .fr
abbrev oS:=b7->(Option Int->Prop)->Prop
def j6 (xs:List PV)(lo hi:Option Int):List PV:=(xs.drop (HT.aS xs.length 0 lo)).take (HT.aS xs.length xs.length hi-HT.aS xs.length 0 lo)
def aE8:PV->List PV->PV
 |.tup _,ys=>.tup ys
 |.kt _,ys=>.tup ys
 |_,ys=>.lst ys
def oT (te:aD):oS:=λρ Q=>te ρ λx _=>∃i,x = .int i/\Q (some i)
def wY (te:aD)(tl th:oS):aD:=λρ Q=>te ρ λx _=>tl ρ λlo=>th ρ λhi=>∃xs,seqT x=some xs/\flats xs=true/\Q (aE8 x (j6 xs lo hi)) .fr
def fO (N:List Str)(xs:List PV):b7:=xs.map (λx=>some (.sh (flat x) x))++List.replicate (N.length-xs.length) none
abbrev cH (ta tb:aD):aD:=q2 (eF λi j=>.int (i+j)) ta tb
abbrev mH (ta tb:aD):aD:=q2 (eF λi j=>.int (i-j)) ta tb
abbrev oU (ta tb:aD):aD:=q2 (RI nZ λi j=>.int (i*j)) ta tb
abbrev gJ (ta tb:aD):aD:=q2 (RI uP λi j=>.int (i/j)) ta tb
abbrev c9 (ta tb:aD):aD:=q2 (RI (λ_ j=>0<j) λi j=>.int (i%j)) ta tb
abbrev rF (ta tb:aD):aD:=q2 (RI lW λi j=>.int (i^j.toNat)) ta tb
abbrev aE9 (ta tb:aD):aD:=q2 (RI lW λi j=>.int (i*2^j.toNat)) ta tb
abbrev aF0 (ta tb:aD):aD:=q2 (RI (λ_ j=>0<=j) λi j=>.int (i/2^j.toNat)) ta tb
abbrev lD (ta tb:aD):aD:=q2 (eF λi j=>.bl (decide (i<j))) ta tb
abbrev jY (ta tb:aD):aD:=q2 (eF λi j=>.bl (decide (j<i))) ta tb
abbrev P4 (ta tb:aD):aD:=q2 (eF λi j=>.bl (decide (j<=i))) ta tb
abbrev dY (ta tb:aD):aD:=q2 (kZ false) ta tb
abbrev P5 (ta tb:aD):aD:=q2 (kZ true) ta tb
abbrev bH (ta tb:aD):aD:=q2 wK ta tb
def j7:List PV->(PV->Prop)->Prop:=λxs Q=>O0 xs Q/\∀ns,xs≠[.scr ns]
def QE (X:Cx)(e:Expr)(t:aD):Prop:=PE X e (LE X t)
def QT (X:Cx)(e:Expr)(t:cC):Prop:=PT X e (LT X t)
def QW (X:Cx)(e:Expr)(t:cC):Prop:=PW X e (LT X t)
def QA (X:Cx)(es:List Expr)(t:cM):Prop:=PA X es (LA X t)
def QS (X:Cx)(st:Stmt)(t:aM):Prop:=PS X st (LS X t)
def eN (X:Cx)(st:List Stmt)(t:aM):Prop:=dG X st (LS X t)
def QI (X:Cx)(tg iter:Expr)(t:fN):Prop:=PI X tg iter (LI X t)
section
variable {X:Cx}
theorem cD {e:Expr}{t t':TE}(h:PE X e t)(m:∀σ H Q,t' σ H Q->t σ H Q):PE X e t':=λpins s σ H Q I q=>h pins s σ H Q I (m σ H Q q)
theorem mI {e:Expr}{t t':TT}(h:PT X e t)(m:∀σ H Q,t' σ H Q->t σ H Q):PT X e t':=λpins s σ H Q I q=>h pins s σ H Q I (m σ H Q q)
theorem P6 {e:Expr}{t t':TT}(h:PW X e t)(m:∀σ H Q,t' σ H Q->t σ H Q):PW X e t':=λwh pins s σ H Q I q=>h wh pins s σ H Q I (m σ H Q q)
theorem P7 {e:List Expr}{t t':TA}(h:PA X e t)(m:∀σ H Q,t' σ H Q->t σ H Q):PA X e t':=λpos pins s σ H Q I q=>h pos pins s σ H Q I (m σ H Q q)
theorem eY {e:Stmt}{t t':TS}(h:PS X e t)(m:∀D σ H,t' D σ H->t D σ H):PS X e t':=λpins s σ H D I q=>h pins s σ H D I (m D σ H q)
theorem P8 {e:List Stmt}{t t':TS}(h:dG X e t)(m:∀D σ H,t' D σ H->t D σ H):dG X e t':=λpins s σ H D I q=>h pins s σ H D I (m D σ H q)
theorem rG {tg e:Expr}{t t':TI}(h:PI X tg e t)(m:∀σ H R,t' σ H R->t σ H R):PI X tg e t':=λpins s σ H R I q=>h pins s σ H R I (m σ H R q)
variable {a b c e o:Expr}{es bR:List Expr}{ta tb te to tk:aD}{tr:cM}{tA tB' tc:cC}{pos p2 px:Pos}{st:Stmt}{sts:List Stmt}{t u:aM}
theorem qv (i:Nat){x:Str}{pos:Pos}(hN:X.N[i]? = some x:=by rfl)(hv:iC X.env.scope x:=by first|exact Or.inl rfl|exact Or.inr (Or.inl rfl)|exact Or.inr (Or.inr rfl))(hd:(x==("__debug__":Str))=false:=by decide)(hcd:(x==("__classdict__":Str))=false:=by decide):QE X (.Name x pos) (a5 i):=cD (kJ hN hv hd hcd) λ_ _ _=>aA3
theorem aL {i j}:QE X (.Constant (.int i) j pos) (qC (.int i)):=cD kK λ_ _ _=>qV λ_=>.int i
theorem gZ {i j}:QE X (.Constant (.bool i) j pos) (qC (.bl i)):=cD am9 λ_ _ _=>qV λ_=>.bl i
theorem rH {i j}:QE X (.Constant (.str i) j pos) (qC (.str i)):=cD an0 λ_ _ _=>qV λ_=>.str i
theorem fY {op:Operator}{R:PV->Tg->PV->Tg->PK->Prop}{r:R2}(ho:bS X (binaryOp op) r)(cv:eD X R r)(ha:QE X a ta)(hb:QE X b tb):QE X (.BinOp a op b pos) (q2 R ta tb):=cD (ap2 ho ha hb) λ_ _ _=>qW cv
theorem dE (ha:QE X a ta)(hb:QE X b tb):QE X (.BinOp a .Add b pos) (q2 (eF λi j=>.int (i+j)) ta tb):=fY ap5 wE ha hb
theorem oV (ha:QE X a ta)(hb:QE X b tb):QE X (.BinOp a .Sub b pos) (q2 (eF λi j=>.int (i-j)) ta tb):=fY ap6 wE ha hb
theorem oW (ha:QE X a ta)(hb:QE X b tb):QE X (.BinOp a .Mult b pos) (q2 (RI nZ λi j=>.int (i*j)) ta tb):=fY ap7 mC ha hb
theorem lE (ha:QE X a ta)(hb:QE X b tb):QE X (.BinOp a .FloorDiv b pos) (q2 (RI uP λi j=>.int (i/j)) ta tb):=fY ap8 mC ha hb
theorem dQ (ha:QE X a ta)(hb:QE X b tb):QE X (.BinOp a .Mod b pos) (q2 (RI (λ_ j=>0<j) λi j=>.int (i%j)) ta tb):=fY ap9 mC ha hb
theorem P9 (ha:QE X a ta)(hb:QE X b tb):QE X (.BinOp a .Pow b pos) (q2 (RI lW λi j=>.int (i^j.toNat)) ta tb):=fY aq0 mC ha hb
theorem aF1 (ha:QE X a ta)(hb:QE X b tb):QE X (.BinOp a .LShift b pos) (q2 (RI lW λi j=>.int (i*2^j.toNat)) ta tb):=fY aq1 mC ha hb
theorem aF2 (ha:QE X a ta)(hb:QE X b tb):QE X (.BinOp a .RShift b pos) (q2 (RI (λ_ j=>0<=j) λi j=>.int (i/2^j.toNat)) ta tb):=fY aq2 mC ha hb
theorem mJ {op:CmpOp}{R:PV->Tg->PV->Tg->PK->Prop}{r:R2}(ho:bS X (compareOp op) r)(cv:eD X R r)(ha:QE X a ta)(hb:QE X b tb)(hm:behindInMarks op b=false):QE X (.Compare a [op] [b] pos) (q2 R ta tb):=cD (uQ ho ha hb hm) λ_ _ _=>qW cv
theorem mK {op:CmpOp}{R:PV->Tg->PV->Tg->PK->Prop}{r:R2}(ho:bS X (compareOp op) r)(cv:eD X R r)(ha:QE X a ta)(hb:QE X b tb)(hm:behindInMarks op b=false):QT X (.Compare a [op] [b] pos) (aX (q2 R ta tb)):=mI (aq8 ho ha hb hm) λ_ _ _ h=>qW cv (qX h)
theorem Q0 (ha:QE X a ta)(hb:QE X b tb):QE X (.Compare a [.Lt] [b] pos) (q2 (eF λi j=>.bl (decide (i<j))) ta tb):=mJ pY oI ha hb (gQ _)
theorem aF3 (ha:QE X a ta)(hb:QE X b tb):QE X (.Compare a [.GtE] [b] pos) (q2 (eF λi j=>.bl (decide (j<=i))) ta tb):=mJ B7 oI ha hb (gQ _)
theorem wZ (ha:QE X a ta)(hb:QE X b tb):QE X (.Compare a [.Eq] [b] pos) (q2 (kZ false) ta tb):=mJ B6 N5 ha hb (gQ _)
theorem oX (ha:QE X a ta)(hb:QE X b tb):QT X (.Compare a [.Lt] [b] pos) (aX (q2 (eF λi j=>.bl (decide (i<j))) ta tb)):=mK pY oI ha hb (gQ _)
theorem rJ (ha:QE X a ta)(hb:QE X b tb):QT X (.Compare a [.Gt] [b] pos) (aX (q2 (eF λi j=>.bl (decide (j<i))) ta tb)):=mK aq6 oI ha hb (gQ _)
theorem aF4 (ha:QE X a ta)(hb:QE X b tb):QT X (.Compare a [.GtE] [b] pos) (aX (q2 (eF λi j=>.bl (decide (j<=i))) ta tb)):=mK B7 oI ha hb (gQ _)
theorem iJ (ha:QE X a ta)(hb:QE X b tb):QT X (.Compare a [.Eq] [b] pos) (aX (q2 (kZ false) ta tb)):=mK B6 N5 ha hb (gQ _)
theorem Q2 (ha:QE X a ta)(hb:QE X b tb):QT X (.Compare a [.NotEq] [b] pos) (aX (q2 (kZ true) ta tb)):=mK aq5 aA4 ha hb (gQ _)
theorem aF5 (hu:X.A.units+1<cLine)(hk:QE X a tk)(hd:QE X b te)(hm:behindInMarks .In b=false:=by rfl):QT X (.Compare a [.In] [b] pos) (aX (l9 false tk te)):=mI (zQ (aw0 hu hk hd) hm) λ_ _ _ h=>aE1 (qX h)
theorem Q3 (hu:X.A.units+1<cLine)(hk:QE X a tk)(hd:QE X b te)(hm:behindInMarks .NotIn b=false:=by rfl):QT X (.Compare a [.NotIn] [b] pos) (aX (l9 true tk te)):=mI (zQ (aw1 hu hk hd) hm) λ_ _ _ h=>aE2 (qX h)
theorem mL (h:QE X e te)(he:∀whole,isTrue e X.env whole=(do let v <- whole;standAt e.pos;holding [v] (truthy v)):=by intro _;rfl):QT X e (aX te):=mI (an2 h he) λ_ _ _ h=>qX h
theorem oY (h:QE X e te)(he:∀whole,isTrue e X.env whole=(do let v <- whole;standAt e.pos;holding [v] (truthy v)):=by intro _;rfl):QT X e (l5 te):=mI (ar1 h he) λ_ _ _ h=>aD3 h
theorem Q4 (ha:QT X a tA):QW X (.BoolOp .And [a] pos) tA:=an3 ha
theorem Q5 (ha:QT X a tA):QW X (.BoolOp .Or [a] pos) tA:=an4 ha
theorem Q6 (ha:QT X a tA)(hb:QW X (.BoolOp .And (b::bR) pos) tB'):QW X (.BoolOp .And (a::b::bR) pos) (jU tA tB'):=P6 (an5 ha hb) λ_ _ _=>aA5
theorem Q7 (ha:QT X a tA)(hb:QW X (.BoolOp .Or (b::bR) pos) tB'):QW X (.BoolOp .Or (a::b::bR) pos) (qY tA tB'):=P6 (an6 ha hb) λ_ _ _=>aA6
theorem rK (h:QW X e tA):QT X e tA:=PW.pt h
theorem mM (ha:QT X a tA):QT X (.UnaryOp .Not a pos) (jV tA):=mI (an7 ha) λ_ _ _=>aA7
theorem x3 {op}(h:QE X a ta):QE X (.BoolOp op [a] pos) ta:=an8 h
theorem Q8 (ha:QE X a ta)(hb:QE X (.BoolOp .And (b::bR) pos) tb):QE X (.BoolOp .And (a::b::bR) pos) (qZ ta tb):=cD (an9 ha hb) λ_ _ _=>aA8
theorem aF6 (ha:QE X a ta)(hb:QE X (.BoolOp .Or (b::bR) pos) tb):QE X (.BoolOp .Or (a::b::bR) pos) (wF ta tb):=cD (ao0 ha hb) λ_ _ _=>aA9
theorem aB:QA X [] a9:=P7 dH λ_ _ _=>aB0
theorem a8 (ha:QE X e te)(hr:QA X es tr)(hs:starEach (e::es) X.env=(false,eval e X.env)::starEach es X.env:=by rfl):QA X (e::es) (a7 te tr):=P7 (cW ha hr hs) λ_ _ _=>aB1
theorem mO {x1}(h:QA X es tr):QE X (.Tuple es x1 pos) (iZ tr):=cD (ar4 h) λ_ _ _=>aB2
theorem iK (h:QA X es tr):QE X (.List es pos) (fM tr):=cD (uS h) λ_ _ _=>aB3
theorem bU (ha:QE X a ta)(hb:QE X b tb)(hs:E9 b:=by exact λ_ _=>rfl):QE X (.Subscript a b pos) (q2 wK ta tb):=cD (iU at6 ha hb hs) λ_ _ _=>qW aC5
theorem rL (hu:X.A.units+1<cLine)(ha:QE X a ta)(hb:QE X b tb)(hs:vB b:=by exact λ_ _=>rfl):QE X (.Subscript a b pos) (mG ta tb):=cD (av9 hu ha hb hs) λ_ _ _=>aE3
theorem aF7:QE X (.Dict [] [] pos) (qC (.dK [])):=cD aw3 λ_ _ _=>aE5
theorem aF8:QE X (.Dict [] [] pos) (qC (.dT [])):=cD aw4 λ_ _ _=>aE6
theorem hG {x:Str}{id:String}{R:List PV->(PV->Prop)->Prop}{r:List V->Hp->VK->Prop}(hc:cP X (.builtin id) r)(cv:eL X R r)(hg:Gl X x)(hm:X.mg x=none)(hv:bootBuiltins x=some (.builtin id))(ha:QA X (e::es) tr)(hn:x≠"__name__":=by decide)(hdb:(x==("__debug__":Str))=false:=by decide)(he:starEach (e::es) X.env=(false,eval e X.env)::starEach es X.env:=by rfl)(hpl:(backTo pos (starEach es X.env)).any (·.1)=false:=by rfl):QE X (.Call (.Name x p2) (e::es) [] pos) (aE R tr):=cD (uU hc hg hm hv ha hn hdb he hpl) λ_ _ _=>N6 cv
theorem aF9 {x:Str}{T:String}{R:List PV->(PV->Prop)->Prop}{r:List V->Hp->VK->Prop}(hc:cP X (.type T) r)(cv:eL X R r)(hg:Gl X x)(hm:X.mg x=none)(hv:bootBuiltins x=some (.type T))(ha:QA X (e::es) tr)(hn:x≠"__name__":=by decide)(hdb:(x==("__debug__":Str))=false:=by decide)(he:starEach (e::es) X.env=(false,eval e X.env)::starEach es X.env:=by rfl)(hpl:(backTo pos (starEach es X.env)).any (·.1)=false:=by rfl):QE X (.Call (.Name x p2) (e::es) [] pos) (aE R tr):=cD (uV hc hg hm hv ha hn hdb he hpl) λ_ _ _=>N6 cv
theorem dR:eN X [] cZ:=P8 zX λ_ _ _=>aB4
theorem aO (h1:QS X st t)(h2:eN X sts u):eN X (st::sts) (aN t u):=P8 (kL h1 h2) λ_ _ _=>aB5
theorem aR (h1:QS X st t):eN X [st] t:=iR h1
theorem b9 {i:Nat}{x:Str}(hN:X.N.Nodup)(he:QE X e te)(hi:X.N[i]? = some x:=by rfl)(hx:jL X.env.scope x:=by first|exact Or.inl rfl|exact Or.inr rfl)(hs:swapsWith e (some (.Name x p2)) pos.line X.env=pure false:=by rfl)(hf:X.fn x=true∨X.env.scope.names.lookup x=some .local:=by first|exact .inl rfl|exact .inr rfl) :
  QS X (.Assign [.Name x p2] e pos) (aY i te):=eY (A0 hN hi hx he hs hf) λ_ _ _=>wI
theorem jZ {i:Nat}{x:Str}(hN:X.N.Nodup)(he:QE X e te)(hi:X.N[i]? = some x:=by rfl)(hx:jL X.env.scope x:=by first|exact Or.inl rfl|exact Or.inr rfl)(hs:swapsWith e (some (.Name x p2)) pos.line X.env=pure false:=by rfl)(hf:X.fn x=true∨X.env.scope.names.lookup x=some .local:=by first|exact .inl rfl|exact .inr rfl) :
  QS X (.Assign [.Name x p2] e pos) (iI i te):=eY (A0 hN hi hx he hs hf) λ_ _ _=>aB8
theorem bN (he:QE X e te):QS X (.Return (some e) pos) (bJ te):=eY (lT he) λ_ _ _=>aB9
theorem mP (i:Nat){x:Str}(hN:X.N[i]? = some x:=by rfl)(hv:iC X.env.scope x:=by first|exact Or.inl rfl|exact Or.inr (Or.inl rfl)|exact Or.inr (Or.inr rfl))(hd:(x==("__debug__":Str))=false:=by decide)(hcd:(x==("__classdict__":Str))=false:=by decide) :
  QS X (.Return (some (.Name x p2)) pos) (j4 i):=eY (lT (kJ hN hv hd hcd)) λ_ _ _=>aC0
theorem dS {sa sb:List Stmt}(hc:QT X c tc)(ha:eN X sa t)(hb:eN X sb u):QS X (.If c sa sb pos) (cF tc t u):=eY (zY hc ha hb) λ_ _ _=>aC1
theorem aG0 {body:List Stmt}(hp:PassesOwn (model X.prog X.w) X.A X.env X.xe)(hc:QT X c tc)(hb:eN X body t):QS X (.While c body [] pos) (wJ tc t):=eY (ao4 hp hc hb) λ_ _ _=>aC2
theorem rM (i:Nat){x:Str}{apos cpos xpos:Pos}(he:QE X e te)(hN:X.N[i]? = some x:=by rfl)(hv:iC X.env.scope x:=by first|exact Or.inl rfl|exact Or.inr (Or.inl rfl)|exact Or.inr (Or.inr rfl))(hd:(x==("__debug__":Str))=false:=by decide)(hcd:(x==("__classdict__":Str))=false:=by decide)(hbase:attributeBase (.Name x xpos) "append" X.env (eval (.Name x xpos) X.env)=eval (.Name x xpos) X.env:=by rfl)(hfew:((backTo cpos (starEach [e] X.env)).all (λx=>!x.1)&&(backToKw cpos (keywordEach [] X.env)).all (λx=>x.1.isSome)&&decide (([e]:List Expr).length+([]:List Keyword).length+(if ([]:List Keyword).isEmpty then 0 else 1)<30))=true:=by rfl)(hline:(apos.endLine==cpos.line)=true:=by rfl)(hs:starEach [e] X.env=(false,eval e X.env)::starEach [] X.env:=by rfl)(hplain:(backTo cpos (starEach [] X.env)).any (·.1)=false:=by rfl)(hsw:swapsWith (.Call (.Attribute (.Name x xpos) "append" apos) [e] [] cpos) none pos.line X.env=pure false:=by rfl) :
  QS X (.Expr (.Call (.Attribute (.Name x xpos) "append" apos) [e] [] cpos) pos) (jX i te):=
 eY (lS (o7 by8 bx4 bx5 lY (kJ hN hv hd hcd) (cW he dH hs) hbase hfew hline hs hplain) hsw) λ_ _ _=>aC3
theorem aG1 {i:Nat}{x:Str}{xpos tpos:Pos}(hu:X.A.units+1<cLine)(hk:QE X a tk)(he:QE X e te)(hN:X.N[i]? = some x:=by rfl)(hv:iC X.env.scope x:=by first|exact Or.inl rfl|exact Or.inr (Or.inl rfl)|exact Or.inr (Or.inr rfl))(hd:(x==("__debug__":Str))=false:=by decide)(hcd:(x==("__classdict__":Str))=false:=by decide)(hs:swapsWith e (some (.Subscript (.Name x xpos) a tpos)) pos.line X.env=pure false:=by rfl):QS X (.Assign [.Subscript (.Name x xpos) a tpos] e pos) (wU i tk te):=eY (J3 hu (kJ hN hv hd hcd) hk he hs) λ_ _ _=>aE4
theorem aG2 {tg l:Expr}{tl:TE}(hl:PE X l tl):PI X tg l (O1 X.K tl):=by
 intro pins s σ H R I h
 refine aK (hl pins s σ H _ I h) λv s1 ⟨x,H1,I1,r1,q1⟩=>?_
 obtain⟨a,e,q⟩:=q1
 subst e
 cases r1
 rcases q with⟨xs,hq,q⟩|⟨xs,hq,q⟩
 ·obtain⟨its,rv,p,hz⟩:=I1.list hq
  refine wpAny_pyIter_list p.isList ?_
  refine⟨s1.heap.objs.size,[s1.heap.objs.size],_,_,H1,rfl,I1.kept (t':=s1.toks) λb o e=>bk6 _ e,ao5 a _,⟨_,bm4 _ rfl,rfl,rfl⟩,λb hb=>?_,q⟩
  have e:b=s1.heap.objs.size:=by simpa using hb
  subst e
  exact I1.fpOk (bk7 _) (I1.hok.fresh (bk7 _))
 ·obtain⟨its,rv,p,hz⟩:=I1.tuple hq
  refine bx2 (show s1.heap.IsTuple a its.toArray from p) ?_
  refine⟨s1.heap.objs.size,[s1.heap.objs.size],_,_,H1,rfl,I1.kept (t':=s1.toks) λb o e=>bk6 _ e,A4 a _,⟨_,bm4 _ rfl,rfl,rfl⟩,λb hb=>?_,q⟩
  have e:b=s1.heap.objs.size:=by simpa using hb
  subst e
  exact I1.fpOk (bk7 _) (I1.hok.fresh (bk7 _))
theorem dA {tg l:Expr}(hl:QE X l te):QI X tg l (cN te):=rG (aG2 hl) λ_ _ _=>aD4
theorem j8 {tg:Expr}(hg:Gl X "range")(hm:X.mg "range" = none)(ha:QE X a ta)(hs:starEach [a] X.env = [(false,eval a X.env)]:=by rfl):QI X tg (.Call (.Name "range" p2) [a] [] pos) (gX ta):=rG (ao8 hg hm (cW ha dH hs) hs) λ_ _ _=>aD5
theorem Q9 {tg:Expr}(hg:Gl X "range")(hm:X.mg "range" = none)(ha:QE X a ta)(hb:QE X b tb)(hs:starEach [a,b] X.env = [(false,eval a X.env),(false,eval b X.env)]:=by rfl)(hs2:starEach [b] X.env = [(false,eval b X.env)]:=by rfl) :
  QI X tg (.Call (.Name "range" p2) [a,b] [] pos) (rA ta tb):=rG (ao9 hg hm (cW ha (cW hb dH hs2) (by rw[hs,hs2])) hs hs2) λ_ _ _=>aD6
theorem aG3 {tg:Expr}{body:List Stmt}{ti:fN}{p:gY}{g:TG}{own:Nat->Prop}(hp:PassesOwn (model X.prog X.w) X.A X.env X.xe)(hc:X.calm=true)(hi:QI X tg e ti)(hg:PG X tg g)(ht:l7 X.K own p g)(hb:eN X body t)(hs:∀x,foldedSetIterable e X.env x=pure x:=by intro _;rfl):QS X (.For tg e body [] pos) (eW ti p t):=eY (pX hp hc hi hg hb hs) λ_ _ _=>aD7 ht
end
section
variable {X:Cx}{pins:List (Addr×Obj)}{σ:St}{H:Hp}{s:Shared}{K:ad}{M M':Addr→Prop}
theorem mB.inj {a:Addr}{us ws:List V}(h:mB K a us)(h':mB K a ws):us=ws:=by
 obtain⟨o,its,n,e1,_,e2,_,v⟩:=h
 obtain⟨o',its',n',e1',_,e2',_,v'⟩:=h'
 rw[e1]at e1';cases e1'
 rw[e2]at e2';cases e2'
 exact v.inj v'
theorem Reps.self_of {n:Nat}(ih:∀{v:V}{x y:PV},aF K M H v x->aF K M' H v y->eM n x y=true->cS n x y=true):∀{vs:List V}{xs ys:List PV},Reps K M H vs xs->Reps K M' H vs ys->((xs.zip ys).all λp=>eM n p.1 p.2)=true->(((xs.zip ys).all λp=>cS n p.1 p.2)&&xs.length==ys.length)=true
 |_,_,_,.nil,.nil,_=>rfl
 |_,_,_,.cons r t,.cons r' t',o=>by
  simp only[bA3,bz9,bp4]at o
  have h1:=ih r r' o.1
  have h2:=Reps.self_of ih t t' o.2
  simp only[bA3,bz9,h1,Bool.true_and,bo3]at h2 ⊢
  rw[<- h2]
  congr 1
  simp
theorem aF.self:∀(n:Nat) {v:V}{x y:PV},aF K M H v x->aF K M' H v y->eM n x y=true->cS n x y=true:=by
 intro n
 induction n with
 |zero=>
  intro v x y r r' o
  cases r with
  |non=>cases r';rfl
  |bl b=>cases r';exact bu2 b
  |int i=>cases r';exact bu2 i
  |str z=>cases r';exact bu2 z
  |_=>cases o
 |succ n ih=>
  intro v x y r r' o
  cases r with
  |non=>cases r';rfl
  |bl b=>cases r';exact bu2 b
  |int i=>cases r';exact bu2 i
  |str z=>cases r';exact bu2 z
  |tup h rr=>
   cases r' with
   |tup h' rr'=>rw[h]at h';cases h';exact Reps.self_of ih rr rr' o
   |_=>cases o
  |lst _ h rr=>
   cases r' with
   |lst _ h' rr'=>rw[h]at h';cases h';exact Reps.self_of ih rr rr' o
   |_=>cases o
  |kt h rr=>
   cases r' with
   |kt h' rr'=>cases mB.inj h h';exact Reps.self_of ih rr rr' o
   |_=>cases o
  |_=>cases o
theorem Reps.self (n:Nat){vs:List V}{xs ys:List PV}(r:Reps K M H vs xs)(r':Reps K M' H vs ys)(o:((xs.zip ys).all λp=>eM n p.1 p.2)=true):(((xs.zip ys).all λp=>cS n p.1 p.2)&&xs.length==ys.length)=true:=Reps.self_of (aF.self n) r r' o
theorem mQ (n:Nat)(xs ys:List PV):(List.range (min xs.length ys.length)).all (λj=>cS n (xs.getD j .non) (ys.getD j .non))=(xs.zip ys).all λp=>cS n p.1 p.2:=by
 rw[bq8]
 simp only[bu3,bA2]
 constructor
 ·intro h p hp
  obtain⟨j,hj,e⟩:=bv6 hp
  have hj':j<min xs.length ys.length:=by simpa using hj
  have:=h j hj'
  rw[List.getElem_zip]at e
  subst e
  have h1:j<xs.length:=by omega
  have h2:j<ys.length:=by omega
  simpa[bl3,h1,h2] using this
 ·intro h j hj
  have h1:j<xs.length:=by omega
  have h2:j<ys.length:=by omega
  have hz:j<(xs.zip ys).length:=by simp;omega
  have:=h _ (bs6 hz)
  rw[List.getElem_zip]at this
  simpa[bl3,h1,h2] using this
theorem x4 (I:a6 X pins σ H s):∀(n:Nat) {A:Around}{v w:V}{x y:PV}{a b:Value},A.units+n<cLine->aF X.K M H v x->aF X.K M' H w y->aP v a->aP w b->eM n x y=true->SeqAt.EqAt A s a b (cS n x y):=by
 intro n
 induction n with
 |zero=>
  intro A v w x y a b hu rx ry ra rb o
  cases rx with
  |non=>
   cases ra
   cases ry with
   |non=>cases rb;exact SeqAt.EqAt.same _
   |int i=>obtain⟨t',rfl⟩:=rb;exact SeqAt.EqAt.none_int _ _
   |_=>cases o
  |bl i=>
   cases ra
   cases ry with
   |bl j=>cases rb;exact SeqAt.EqAt.bool_bool _ _
   |_=>cases o
  |int i=>
   obtain⟨t,rfl⟩:=ra
   cases ry with
   |int j=>obtain⟨t',rfl⟩:=rb;exact SeqAt.EqAt.int_int _ _ _ _
   |non=>cases rb;exact SeqAt.EqAt.int_none _ _
   |_=>cases o
  |str i=>
   obtain⟨t,rfl⟩:=ra
   cases ry with
   |str j=>obtain⟨t',rfl⟩:=rb;exact SeqAt.EqAt.str_str _ _ _ _
   |_=>cases o
  |_=>cases o
 |succ n ih=>
  intro A v w x y a b hu rx ry ra rb o
  have items:∀{us ws:List V}{xs ys:List PV}{its its2:List Value},Reps X.K M H us xs->Reps X.K M' H ws ys->aI us its->aI ws its2->((xs.zip ys).all λp=>eM n p.1 p.2)=true->
    ∀j (h1:j<its.toArray.size) (h2:j<its2.toArray.size),SeqAt.EqAt A.in1 s its.toArray[j] its2.toArray[j] (cS n (xs.getD j .non) (ys.getD j .non)):=λ{us ws xs ys its its2} r1 r2 v1 v2 ok j h1 h2=>by
   have l1:=v1.length
   have l2:=v2.length
   have m1:=r1.length
   have m2:=r2.length
   have k1:j<its.length:=by simpa using h1
   have k2:j<its2.length:=by simpa using h2
   have j1:j<us.length:=by omega
   have j2:j<ws.length:=by omega
   have i1:j<xs.length:=by omega
   have i2:j<ys.length:=by omega
   obtain⟨u,hu',ru⟩:=v1.get (bk5 j1)
   obtain⟨u2,hu2',ru2⟩:=v2.get (bk5 j2)
   obtain⟨x,hx,rx⟩:=r1.get (bk5 j1)
   obtain⟨y,hy,ry⟩:=r2.get (bk5 j2)
   have e1:its.toArray[j]=u:=by
    rw[bk5 k1]at hu'
    simpa using hu'
   have e2:its2.toArray[j]=u2:=by
    rw[bk5 k2]at hu2'
    simpa using hu2'
   have ok':eM n x y=true:=by
    rw[bu3]at ok
    have hz:j<(xs.zip ys).length:=by simp;omega
    have:=ok _ (bs6 hz)
    rw[List.getElem_zip]at this
    rw[bk5 i1]at hx
    rw[bk5 i2]at hy
    cases hx;cases hy
    exact this
   rw[e1,e2]
   have g1:xs.getD j .non=x:=by rw[bl3,hx];rfl
   have g2:ys.getD j .non=y:=by rw[bl3,hy];rfl
   rw[g1,g2]
   exact ih (by show A.units+1+n<cLine;omega) rx ry ru ru2 ok'
  have huA:A.units<cLine:=by omega
  cases rx with
  |@kt p us xs h1 r1=>
   obtain⟨its,v1,p1,_⟩:=I.tuple (.inr h1)
   cases (show a=Value.ref p from ra)
   cases ry with
   |@kt p2 ws ys h2 r2=>
    obtain⟨its2,v2,p2',_⟩:=I.tuple (.inr h2)
    cases (show b=Value.ref p2 from rb)
    by_cases e:p=p2
    ·subst e
     have:=aF.self (K:=X.K) (M:=M) (M':=M') (n+1) (.kt h1 r1) (.kt h2 r2) o
     rw[this]
     exact SeqAt.EqAt.same _
    ·have:=SeqAt.RcAt.tuples p1 p2' huA (items r1 r2 v1 v2 o)
     refine .of_refs e ?_
     have l1:=v1.length
     have l2:=v2.length
     have m1:=r1.length
     have m2:=r2.length
     rw[bk9,bk9,<- l1,<- l2,m1,m2,mQ]at this
     exact this
   |_=>cases o
  |@tup p us xs h1 r1=>
   obtain⟨its,v1,p1,_⟩:=I.tuple (aH.of (K:=X.K) h1)
   cases (show a=Value.ref p from ra)
   cases ry with
   |@tup p2 ws ys h2 r2=>
    obtain⟨its2,v2,p2',_⟩:=I.tuple (aH.of (K:=X.K) h2)
    cases (show b=Value.ref p2 from rb)
    by_cases e:p=p2
    ·subst e
     have:=aF.self (K:=X.K) (M:=M) (M':=M') (n+1) (.tup h1 r1) (.tup h2 r2) o
     rw[this]
     exact SeqAt.EqAt.same _
    ·have:=SeqAt.RcAt.tuples p1 p2' huA (items r1 r2 v1 v2 o)
     refine .of_refs e ?_
     have l1:=v1.length
     have l2:=v2.length
     have m1:=r1.length
     have m2:=r2.length
     rw[bk9,bk9,<- l1,<- l2,m1,m2,mQ]at this
     exact this
   |non=>cases rb;exact SeqAt.EqAt.tuple_none p1 huA
   |_=>cases o
  |@lst p us xs _ h1 r1=>
   obtain⟨its,v1,p1,_⟩:=I.list (aJ.of (K:=X.K) h1)
   cases (show a=Value.ref p from ra)
   cases ry with
   |@lst p2 ws ys _ h2 r2=>
    obtain⟨its2,v2,p2',_⟩:=I.list (aJ.of (K:=X.K) h2)
    cases (show b=Value.ref p2 from rb)
    have l1:=v1.length
    have l2:=v2.length
    have m1:=r1.length
    have m2:=r2.length
    by_cases e:p=p2
    ·subst e
     rw[h1]at h2;cases h2
     have:=Reps.self n r1 r2 o
     show SeqAt.EqAt A s _ _ ((xs.zip ys).all (λp=>cS n p.1 p.2)&&xs.length==ys.length)
     rw[this]
     exact SeqAt.EqAt.same _
    ·refine .of_refs e ?_
     by_cases hl:xs.length=ys.length
     ·have:=SeqAt.RcAt.lists p1.isList p2'.isList (by rw[bk9,bk9];omega) huA (items r1 r2 v1 v2 o)
      have hm:min xs.length ys.length=its.length:=by omega
      rw[bk9,<- hm,mQ]at this
      show SeqAt.RcAt A s _ _ ((xs.zip ys).all (λp=>cS n p.1 p.2)&&xs.length==ys.length)
      rw[show (xs.length==ys.length)=true by simpa using hl,bA1]
      exact this
     ·have:=SeqAt.RcAt.lists_lengths (A:=A) p1.isList p2'.isList (by rw[bk9,bk9];simp;omega) huA
      show SeqAt.RcAt A s _ _ ((xs.zip ys).all (λp=>cS n p.1 p.2)&&xs.length==ys.length)
      rw[show (xs.length==ys.length)=false by simpa using hl,Bool.and_false]
      exact this
   |_=>cases o
  |non=>
   cases ra
   cases ry with
   |non=>cases rb;exact SeqAt.EqAt.same _
   |int i=>obtain⟨t',rfl⟩:=rb;exact SeqAt.EqAt.none_int _ _
   |@tup p2 ws ys h2 r2=>
    obtain⟨its2,v2,p2',_⟩:=I.tuple (aH.of (K:=X.K) h2)
    cases (show b=Value.ref p2 from rb)
    exact SeqAt.EqAt.none_tuple p2' huA
   |_=>cases o
  |bl i=>
   cases ra
   cases ry with
   |bl j=>cases rb;exact SeqAt.EqAt.bool_bool _ _
   |_=>cases o
  |int i=>
   obtain⟨t,rfl⟩:=ra
   cases ry with
   |int j=>obtain⟨t',rfl⟩:=rb;exact SeqAt.EqAt.int_int _ _ _ _
   |non=>cases rb;exact SeqAt.EqAt.int_none _ _
   |_=>cases o
  |str i=>
   obtain⟨t,rfl⟩:=ra
   cases ry with
   |str j=>obtain⟨t',rfl⟩:=rb;exact SeqAt.EqAt.str_str _ _ _ _
   |_=>cases o
  |_=>cases o
end
structure Bt (mg:Str->Option Value):Prop where
 len:mg "len" = none
 range:mg "range" = none
 tuple:mg "tuple" = none
 list:mg "list" = none
 sorted:mg "sorted" = none
 all:mg "all" = none
 any:mg "any" = none
 zip:mg "zip" = none
 min:mg "min" = none
 max:mg "max" = none
 sum:mg "sum" = none
 isinst:mg "isinstance" = none
 int:mg "int" = none
 bool:mg "bool" = none
 enum:mg "enumerate" = none
section
variable {X:Cx}{a b c e o:Expr}{es bR:List Expr}{ta tb te to tk:aD}{tr:cM}{tA tB' tc:cC}{pos p2 px:Pos}{st:Stmt}{sts:List Stmt}{t u:aM}
theorem cT (B:Bt X.mg)(ha:QA X [e] tr)(hg:Gl X "len":=by rfl)(he:starEach [e] X.env=(false,eval e X.env)::starEach [] X.env:=by rfl)(hpl:(backTo pos (starEach [] X.env)).any (·.1)=false:=by rfl):QE X (.Call (.Name "len" p2) [e] [] pos) (aE bQ tr):=
 hG (au3.or ax2) aC6 hg B.len PySem.boot_len ha (he:=he) (hpl:=hpl)
theorem k6 (B:Bt X.mg)(ha:QA X [e] tr)(hg:Gl X "tuple":=by rfl)(he:starEach [e] X.env=(false,eval e X.env)::starEach [] X.env:=by rfl)(hpl:(backTo pos (starEach [] X.env)).any (·.1)=false:=by rfl):QE X (.Call (.Name "tuple" p2) [e] [] pos) (aE j7 tr):=
 aF9 au4 aC7 hg B.tuple PyProof.Rows.boot_tuple ha (he:=he) (hpl:=hpl)
theorem aG4 (B:Bt X.mg)(hc:X.calm=true)(ha:QA X [e] tr)(hg:Gl X "all":=by rfl)(he:starEach [e] X.env=(false,eval e X.env)::starEach [] X.env:=by rfl)(hpl:(backTo pos (starEach [] X.env)).any (·.1)=false:=by rfl):QE X (.Call (.Name "all" p2) [e] [] pos) (aE wM tr):=
 hG (w9 hc) aC8 hg B.all PyProof.Rows.boot_all ha (he:=he) (hpl:=hpl)
theorem R3 (B:Bt X.mg)(hc:X.calm=true)(ha:QA X [a,b] tr)(hg:Gl X "min":=by rfl)(he:starEach [a,b] X.env=(false,eval a X.env)::starEach [b] X.env:=by rfl)(hpl:(backTo pos (starEach [b] X.env)).any (·.1)=false:=by rfl):QE X (.Call (.Name "min" p2) [a,b] [] pos) (aE r9 tr):=
 hG (ar3 hc) aC9 hg B.min PyProof.Rows.boot_min ha (he:=he) (hpl:=hpl)
theorem aG5 (B:Bt X.mg)(hc:X.calm=true)(ha:QA X [a,b] tr)(hg:Gl X "max":=by rfl)(he:starEach [a,b] X.env=(false,eval a X.env)::starEach [b] X.env:=by rfl)(hpl:(backTo pos (starEach [b] X.env)).any (·.1)=false:=by rfl):QE X (.Call (.Name "max" p2) [a,b] [] pos) (aE wN tr):=
 hG (ar2 hc) aD0 hg B.max PyProof.Rows.boot_max ha (he:=he) (hpl:=hpl)
theorem R4 (ha:QE X a ta):QE X (.UnaryOp .USub a pos) (oQ ta):=cD (ap3 aq4 ha) λσ H Q' h=>by
 obtain⟨W,ρ,Q,px,q,k⟩:=h
 refine⟨W,ρ,_,px,q,?_⟩
 rintro v H1 x g s r ⟨i,rfl,q⟩
 cases r
 exact⟨i,rfl,k _ _ _ .fr s (.int _) q⟩
theorem R5 (x:Int):∀(xs:af),o6 (.int x) (xs.map V.int)=decide (x∈xs)
 |[]=>by simp[o6]
 |y::r=>by
  have ih:=R5 x r
  unfold o6 at ih ⊢
  rw[bq5,bA0,ih]
  by_cases e:y=x
  ·subst e;simp[gS]
  ·have:gS (.int y) (.int x)=false:=by simpa[gS] using e
   rw[this,Bool.false_or,bq8]
   simp[Ne.symm e]
theorem R6:∀(xs:af),(xs.map V.int).all iV=true
 |[]=>rfl
 |_::r=>by rw[bq5,bz9,R6 r];rfl
theorem R7 (neg:Bool):eD X (oR neg) (F7 X.K neg):=by
 rintro W Hs H u v x y g g' Q Q' s n r1 r2 ⟨i,ns,rfl,e,q⟩ k
 cases r1
 obtain⟨a,us,rfl,hs,r⟩:=r2.seq e
 obtain rfl:=r.ofInts
 refine⟨a,_,rfl,hs,rfl,R6 ns,?_⟩
 have:=k _ _ _ .fr (aA.refl _) (.bl _) q
 rw[R5]
 cases neg<;>exact this
theorem aG6 (ha:QE X a ta)(hb:QE X b tb)(hm:behindInMarks .In b=false:=by rfl):QE X (.Compare a [.In] [b] pos) (q2 (oR false) ta tb):=mJ F8 (R7 false) ha hb hm
theorem aG7 (ha:QE X a ta)(hb:QE X b tb)(hm:behindInMarks .In b=false:=by rfl):QT X (.Compare a [.In] [b] pos) (aX (q2 (oR false) ta tb)):=mK F8 (R7 false) ha hb hm
theorem aF.kt_ {K:ad}{M:Addr->Prop}{H:Hp}{v:V}{xs:List PV}(r:aF K M H v (.kt xs)):∃a us,v = .ref a/\mB K a us/\Reps K M H us xs:=by
 cases r with
 |kt h r=>exact⟨_,_,rfl,h,r⟩
def R8 (K:ad)(n:Nat)(neg:Bool):R2:=λv w H Q=>∃x y,aF K (λ_=>True) H v x/\aF K (λ_=>True) H w y/\((∃xs ys,x = .tup xs/\y = .tup ys)∨(∃xs ys,x = .lst xs/\y = .lst ys)∨(∃xs ys,x = .kt xs/\y = .kt ys))/\eM (n+1) x y=true/\Q (.bl (if neg=true then !cS (n+1) x y else cS (n+1) x y)) H
theorem x5 {pins:List (Addr×Obj)}{σ:St}{H:Hp}{s:Shared}{M M':Addr->Prop}(I:a6 X pins σ H s){n:Nat}{A:Around}(hu:A.units+(n+1)<cLine){us ws:List V}{xs ys:List PV}{its its2:List Value}(r1:Reps X.K M H us xs)(r2:Reps X.K M' H ws ys)(v1:aI us its)(v2:aI ws its2)(ok:((xs.zip ys).all λp=>eM n p.1 p.2)=true):∀j (h1:j<its.toArray.size) (h2:j<its2.toArray.size),SeqAt.EqAt A.in1 s its.toArray[j] its2.toArray[j] (cS n (xs.getD j .non) (ys.getD j .non)):=by
 intro j h1 h2
 have l1:=v1.length
 have l2:=v2.length
 have m1:=r1.length
 have m2:=r2.length
 have k1:j<its.length:=by simpa using h1
 have k2:j<its2.length:=by simpa using h2
 have j1:j<us.length:=by omega
 have j2:j<ws.length:=by omega
 have i1:j<xs.length:=by omega
 have i2:j<ys.length:=by omega
 obtain⟨u,hu',ru⟩:=v1.get (bk5 j1)
 obtain⟨u2,hu2',ru2⟩:=v2.get (bk5 j2)
 obtain⟨x,hx,rx⟩:=r1.get (bk5 j1)
 obtain⟨y,hy,ry⟩:=r2.get (bk5 j2)
 have e1:its.toArray[j]=u:=by
  rw[bk5 k1]at hu'
  simpa using hu'
 have e2:its2.toArray[j]=u2:=by
  rw[bk5 k2]at hu2'
  simpa using hu2'
 have ok':eM n x y=true:=by
  rw[bu3]at ok
  have hz:j<(xs.zip ys).length:=by simp;omega
  have:=ok _ (bs6 hz)
  rw[List.getElem_zip]at this
  rw[bk5 i1]at hx
  rw[bk5 i2]at hy
  cases hx;cases hy
  exact this
 rw[e1,e2]
 have g1:xs.getD j .non=x:=by rw[bl3,hx];rfl
 have g2:ys.getD j .non=y:=by rw[bl3,hy];rfl
 rw[g1,g2]
 exact x4 I n (by show A.units+1+n<cLine;omega) rx ry ru ru2 ok'
theorem aG8 (n:Nat)(hu:X.A.units+(n+1)<cLine):bS X (compareOp .Eq) (R8 X.K n false):=by
 intro pins s σ H v w a b Q I ra rb h
 obtain⟨x,y,rx,ry,kd,o,q⟩:=h
 have hu0:X.A.units<cLine:=by omega
 rcases kd with⟨xs,ys,rfl,rfl⟩|⟨xs,ys,rfl,rfl⟩|⟨xs,ys,rfl,rfl⟩
 ·obtain⟨p,us,rfl,h1,r1⟩:=rx.sqT
  obtain⟨p2,ws,rfl,h2,r2⟩:=ry.sqT
  cases ra;cases rb
  obtain⟨its,v1,p1,_⟩:=I.tuple (aH.of (K:=X.K) h1)
  obtain⟨its2,v2,p2',_⟩:=I.tuple (aH.of (K:=X.K) h2)
  have l1:=v1.length
  have l2:=v2.length
  have m1:=r1.length
  have m2:=r2.length
  have:=SeqAt.RcAt.tuples p1 p2' hu0 (x5 I hu r1 r2 v1 v2 o)
  rw[bk9,bk9,<- l1,<- l2,m1,m2,mQ]at this
  exact this _ _ _ _ ⟨.bl _,H,I,rfl,q⟩
 ·obtain⟨p,us,rfl,_,h1,r1⟩:=rx.sqL
  obtain⟨p2,ws,rfl,_,h2,r2⟩:=ry.sqL
  cases ra;cases rb
  obtain⟨its,v1,p1,_⟩:=I.list (aJ.of (K:=X.K) h1)
  obtain⟨its2,v2,p2',_⟩:=I.list (aJ.of (K:=X.K) h2)
  have l1:=v1.length
  have l2:=v2.length
  have m1:=r1.length
  have m2:=r2.length
  have q:Q (.bl ((xs.zip ys).all (λp=>cS n p.1 p.2)&&xs.length==ys.length)) H:=q
  by_cases hl:xs.length=ys.length
  ·have:=SeqAt.RcAt.lists p1.isList p2'.isList (by rw[bk9,bk9];omega) hu0 (x5 I hu r1 r2 v1 v2 o)
   have hm:min xs.length ys.length=its.length:=by omega
   rw[bk9,<- hm,mQ]at this
   rw[show (xs.length==ys.length)=true by simpa using hl,bA1]at q
   exact this _ _ _ _ ⟨.bl _,H,I,rfl,q⟩
  ·have:=SeqAt.RcAt.lists_lengths (A:=X.A) p1.isList p2'.isList (by rw[bk9,bk9];simp;omega) hu0
   rw[show (xs.length==ys.length)=false by simpa using hl,Bool.and_false]at q
   exact this _ _ _ _ ⟨.bl _,H,I,rfl,q⟩
 ·obtain⟨p,us,rfl,h1,r1⟩:=rx.kt_
  obtain⟨p2,ws,rfl,h2,r2⟩:=ry.kt_
  cases ra;cases rb
  obtain⟨its,v1,p1,_⟩:=I.tuple (.inr h1)
  obtain⟨its2,v2,p2',_⟩:=I.tuple (.inr h2)
  have l1:=v1.length
  have l2:=v2.length
  have m1:=r1.length
  have m2:=r2.length
  have:=SeqAt.RcAt.tuples p1 p2' hu0 (x5 I hu r1 r2 v1 v2 o)
  rw[bk9,bk9,<- l1,<- l2,m1,m2,mQ]at this
  exact this _ _ _ _ ⟨.bl _,H,I,rfl,q⟩
theorem aG9 {n:Nat}{neg:Bool}:eD X (wX n neg) (R8 X.K n neg):=by
 rintro W Hs H u v x y g g' Q Q' s n r1 r2 ⟨kd,o,q⟩ k
 exact⟨x,y,r1.same (aA.refl _) λ_ _=>trivial,r2.same (aA.refl _) λ_ _=>trivial,kd.elim .inl λz=>.inr (.inl z),o,k _ _ _ .fr (aA.refl _) (.bl _) q⟩
theorem aH0 (hu:X.A.units+3<cLine)(ha:QE X a ta)(hb:QE X b tb):QE X (.Compare a [.Eq] [b] pos) (q2 (wX 2 false) ta tb):=mJ (aG8 2 hu) aG9 ha hb (gQ _)
end
end PP
namespace PP
open PySem L2 PyProof.Rows
def LO (X:Cx)(t:oS):TO:=λσ H Q'=>∃(W:Addr->Prop) (ρ:b7) (Q:Option Int->Prop),PX X.K X.H₀ W σ ρ H/\t ρ Q/\∀o H',aA H H'->Q o->Q' o H'
def QO (X:Cx)(e:Option Expr)(t:oS):Prop:=PO X e (LO X t)
theorem Reps.cut {K:ad}{M:Addr->Prop}{H:Hp}{us:List V}{xs:List PV}(r:Reps K M H us xs)(lo hi:Option Int):Reps K M H (dN us lo hi) (j6 xs lo hi):=by
 unfold dN j6
 rw[r.length]
 exact (r.drop _).take _
section
variable {X:Cx}{a b c e o:Expr}{es bR:List Expr}{ta tb te to tk:aD}{tr:cM}{tA tB' tc:cC}{pos p2 px:Pos}{st:Stmt}{sts:List Stmt}{t u:aM}
theorem rN (h:QE X e te):QO X (some e) (oT te):=λpins s σ H Q I hq=>uW h pins s σ H Q I (by
 obtain⟨W,ρ,Q1,px,q,k⟩:=hq
 refine⟨W,ρ,_,px,q,?_⟩
 rintro v H1 x g s r ⟨i,rfl,q⟩
 cases r
 exact⟨i,rfl,k _ _ s q⟩)
theorem R9 {lo hi:Option Expr}{tl th:oS}{sp:Pos}(he:QE X e te)(hl:QO X lo tl)(hh:QO X hi th):QE X (.Subscript e (.Slice lo hi none sp) pos) (wY te tl th):=cD (uX (F5.or N0) he hl hh) λσ H Q' h=>by
 obtain⟨W,ρ,Q,px,q,k⟩:=h
 refine⟨W,ρ,_,px,q,λv H1 x g s1 r1 q1=>⟨W,ρ,_,px.mono s1,q1,λlo H2 s2 q2=>⟨W,ρ,_,px.mono (s1.trans s2),q2,?_⟩⟩⟩
 rintro hi H3 s3 ⟨xs,e,f,q3⟩
 have S:=(s1.trans s2).trans s3
 have r3:=r1.same (M':=Mg X.H₀ W H g) (s2.trans s3) λ_ z=>z
 cases r3 with
 |tup h r=>
  cases e
  refine .inr ⟨_,_,rfl,aH.of h,λp hp=>k _ _ _ .fr (S.trans (aZ hp _)) (.tup aT (((r.flat f).cut lo hi).same (aZ hp _) λ_ z=>z)) q3,λec=>k _ _ _ .fr S (.tup h ?_) q3⟩
  have:=(r.flat (M':=Mg X.H₀ W H .fr) f).cut lo hi
  rw[ec]at this
  exact this
 |lst m h r=>
  cases e
  exact .inl ⟨_,_,rfl,aJ.of h,λp hp=>k _ _ _ .fr (S.trans (aZ hp _)) (.lst (S.free hp) aT (((r.flat f).cut lo hi).same (aZ hp _) λ_ z=>z)) q3⟩
 |scr h=>
  cases e
  exact .inl ⟨_,_,rfl,h.sqL,λp hp=>k _ _ _ .fr (S.trans (aZ hp _)) (.lst (S.free hp) aT (((Reps.intz _).cut lo hi).same (aZ hp _) λ_ z=>z)) q3⟩
 |fL h r=>
  cases e
  exact .inl ⟨_,_,rfl,.inl (.inr ⟨_,h⟩),λp hp=>k _ _ _ .fr (S.trans (aZ hp _)) (.lst (S.free hp) aT (((r.flat f).cut lo hi).same (aZ hp _) λ_ z=>z)) q3⟩
 |_=>cases e
structure Df (P:Program)(w:World)(K:ad)(mg:Str->Option Value)(base:Heap)(k:Nat)(x:Str)(ps:List Str)(p:bK):Prop where
 ex:∃f fd,cL P w K mg base cY k f fd ps (oM K p)/\gR K fd ps []/\PySem.W.keepIn K (.ref f)=true/\mg x=some (.ref f)
theorem bE {k j:Nat}{x:Str}{ps:List Str}{p:bK}(d:Df X.prog X.w X.K X.mg X.base k x ps p)(hr:bT j X.A)(ha:QA X (e::es) tr)(hkj:k<=j:=by decide)(hg:Gl X x:=by rfl)(hdb:(x==("__debug__":Str))=false:=by decide)(he:starEach (e::es) X.env=(false,eval e X.env)::starEach es X.env:=by rfl)(hpl:(backTo pos (starEach es X.env)).any (·.1)=false:=by rfl):QE X (.Call (.Name x p2) (e::es) [] pos) (aE p tr):=by
 obtain⟨f,fd,F,b,kp,m⟩:=d.ex
 exact cD (qB F (hr.mono hkj) hg m kp b .nil K0 ha hdb he hpl) λ_ _ _=>aD1
theorem rO {K:ad}{H:Hp}{N:List Str}{vs:List V}{xs:List PV}(r:Reps K (λ_=>True) H vs xs):PX K H (λ_=>False) (L2.gD N vs) (fO N xs) H:=by
 have lr:=r.length
 have own:∀{i:Nat}{m:Slot},(fO N xs)[i]? = some (some m)->∃x,xs[i]? = some x/\m = .sh (flat x) x:=λ{i m} h=>by
  unfold fO at h
  by_cases hi:i<xs.length
  ·rw[bp2 (by simpa using hi),bl4]at h
   rw[bk5 hi]at h ⊢
   cases h
   exact⟨_,rfl,rfl⟩
  ·rw[bq0 (by simpa using hi),List.getElem?_replicate]at h
   split at h<;>cases h
 refine⟨by unfold L2.gD fO;simp[lr],aA.refl _,λa z=>z.elim,λi m h=>?_,λi j x y a h1=>?_⟩
 ·obtain⟨x,hx,rfl⟩:=own h
  obtain⟨v,hv,rx⟩:=r.at hx
  refine⟨v,?_,rB (g:=false) (rx.same (aA.refl _) λ_ _ z=>z)⟩
  have hi:i<vs.length:=(bl9.mp hv).1
  unfold L2.gD
  rw[bp2 (by simpa using hi),bl4,hv];rfl
 ·obtain⟨x,_,e⟩:=own h1
  cases e
theorem Df.of {P:Program}{w:World}{K:ad}{mg:Str->Option Value}{base:Heap}{k:Nat}{x:Str}{ps N:List Str}{p:bK}{st:Stmt}{f:Addr}{fd:FuncData}(F:eB K x x st f fd)(m:mg x=some (.ref f))(S:FnScope N ps (aQ st))(hb:∀(kV doc pm:Value) (an:Option Addr) (cdv ct:Value) (us:List Value),us.length=ps.length->bindArgs (PySem.W.fnOf x x (iG st) (dW st) (aQ st) .none kV doc pm an cdv ct) ⟨us,[]⟩=pure (ps.zip us))(len:∀xs Q,p xs Q->xs.length=ps.length)(body:∀(cdv:Value) (A:Around) (outer:List Env) (s:Shared) (H:Hp) (E:XK),bT k (A.deeper (envOfC x (aQ st) s.heap.objs.size f cdv))->
   ∃t,eN (cX cY P w K mg base N x (aQ st) f cdv A outer s H E).nox (dW st) t/\∀xs Q,p xs Q->t { nx:=λ_=>Q .non,rt:=Q } (fO N xs)):Df P w K mg base (k+1) x ps p:=by
 refine⟨f,fd,F.ok S (λvs H Q E h=>?_) (λcdv A outer s H vs Q E hr h=>?_),F.binds hb,F.kp,m⟩
 ·obtain⟨xs,Qp,r,q,_⟩:=h
  rw[r.length];exact len xs Qp q
 ·obtain⟨xs,Qp,r,q,k⟩:=h
  obtain⟨t,ht,hq⟩:=body cdv A outer s H E hr
  refine⟨_,ht,λ_=>False,fO N xs,_,rO r,hq xs Qp q,?_,?_,?_,?_⟩
  ·exact λW' σ' H' ρ' e px q=>k _ _ _ px.same .non q
  ·exact λv H' x s r q=>k _ _ _ s r q
  ·exact λW' σ' H' ρ' e px q=>q
  ·exact λW' σ' H' ρ' e px q=>q
theorem gK (i:Nat){x:Str}{tp:Pos}{body:List Stmt}{ti:fN}(hN:X.N.Nodup)(hi:QI X (.Name x tp) e ti)(hb:eN X body t)(hx:X.N[i]? = some x:=by rfl)(hl:jL X.env.scope x:=by first|exact Or.inl rfl|exact Or.inr rfl)(hf:X.fn x=true∨X.env.scope.names.lookup x=some .local:=by first|exact .inl rfl|exact .inr rfl)(hp:PassesOwn (model X.prog X.w) X.A X.env X.xe:=by exact PassesOwn.never)(hc:X.calm=true:=by rfl)(hs:∀x,foldedSetIterable e X.env x=pure x:=by intro _;rfl):QS X (.For (.Name x tp) e body [] pos) (eW ti (b8 i) t):=
 aG3 hp hc hi (eU hN hx hl hf) (oN _ i) hb hs
abbrev cI:Value->Shared->Prop:=λ_ _=>False
section
variable {scope:Scope}{N:List Str}{fr:List (Option Nat)}{x y:Str}{tp xp yp:Pos}{kt:Nat}{iter elt:Expr}{ti:fN}
theorem x6 {ifs:List Expr}{tcs:cC}(he:∀(s:Shared) (H:Hp) (C:Addr) (fp:List Addr),QE (bI X scope N s H C fp cI) elt te)(hi:∀(s:Shared) (H:Hp) (C:Addr) (fp:List Addr),jQ (bI X scope N s H C fp cI) ifs (LT (bI X scope N s H C fp cI) tcs))(hN:N.Nodup)(h0:N[0]? = some x)(hl:∀(s:Shared) (H:Hp) (C:Addr) (fp:List Addr),(bI X scope N s H C fp cI).env.scope.names.lookup x=some .local)(s:Shared)(H:Hp) :
  m6 X scope N (.Name x tp) ifs elt s H (cV 0) (LT (X.frm H) tcs) (LE (X.frm H) te):=
 ⟨λC fp=>eU (X:=bI X scope N s H C fp cI) hN h0 (.inl (hl s H C fp)) (.inr (hl s H C fp)),λC fp=>hi s H C fp,λC fp=>he s H C fp⟩
theorem S2 {Y:Cx}:jQ Y [] (LT Y dX):=λpins s σ H Q I h=>oA pins s σ H Q I (aD9 h)
theorem hJ (hi:QI X (.Name x tp) iter ti)(he:∀(s:Shared) (H:Hp) (C:Addr) (fp:List Addr),QE (bI X scope N s H C fp cI) elt te)(hc:X.calm=true:=by rfl)(S:cQ X scope N fr:=by exact cQ.of rfl rfl)(hN:N.Nodup:=by decide +kernel)(h0:N[0]? = some x:=by rfl)(hl:∀(s:Shared) (H:Hp) (C:Addr) (fp:List Addr),(bI X scope N s H C fp cI).env.scope.names.lookup x=some .local:=by intro _ _ _ _;rfl)(hf:fr[0]? = some none:=by rfl)(hs:∀x,foldedSetIterable iter X.env x=pure x:=by intro _;rfl):QE X (.ListComp elt [⟨.Name x tp,iter,[],0⟩] scope pos) (c7 ti fr (b8 0) dX te):=
 cD (vP (gh:=λ_=>cV 0) (tch:=λH=>LT (X.frm H) dX) (teh:=λH=>LE (X.frm H) te) hc S hi (x6 he (λ_ _ _ _=>S2) hN h0 hl) hs) λ_ _ _=>oP (oN _ 0) (λi e=>by subst e;exact hf)
theorem iL {c:Expr}{tcs:cC}(hi:QI X (.Name x tp) iter ti)(ht:∀(s:Shared) (H:Hp) (C:Addr) (fp:List Addr),QT (bI X scope N s H C fp cI) c tcs)(he:∀(s:Shared) (H:Hp) (C:Addr) (fp:List Addr),QE (bI X scope N s H C fp cI) elt te)(hc:X.calm=true:=by rfl)(S:cQ X scope N fr:=by exact cQ.of rfl rfl)(hN:N.Nodup:=by decide +kernel)(h0:N[0]? = some x:=by rfl)(hl:∀(s:Shared) (H:Hp) (C:Addr) (fp:List Addr),(bI X scope N s H C fp cI).env.scope.names.lookup x=some .local:=by intro _ _ _ _;rfl)(hf:fr[0]? = some none:=by rfl)(hs:∀x,foldedSetIterable iter X.env x=pure x:=by intro _;rfl):QE X (.ListComp elt [⟨.Name x tp,iter,[c],0⟩] scope pos) (c7 ti fr (b8 0) tcs te):=
 cD (vP (gh:=λ_=>cV 0) (tch:=λH=>LT (X.frm H) tcs) (teh:=λH=>LE (X.frm H) te) hc S hi (x6 he (λs H C fp=>vM (ht s H C fp)) hN h0 hl) hs) λ_ _ _=>oP (oN _ 0) (λi e=>by subst e;exact hf)
theorem aH1 {i:Nat}{z:Str}{zp:Pos}(nd:X.N.Nodup)(hi:QI X (.Name x tp) iter ti)(he:∀(s:Shared) (H:Hp) (C:Addr) (fp:List Addr),QE (bI X scope N s H C fp cI) elt te)(hz:X.N[i]? = some z:=by rfl)(hzl:X.env.scope.names.lookup z=some .local:=by rfl)(hsw:swapsWith (.ListComp elt [⟨.Name x tp,iter,[],0⟩] scope p2) (some (.Name z zp)) pos.line X.env=pure true:=by rfl)(hc:X.calm=true:=by rfl)(S:cQ X scope N fr:=by exact cQ.of rfl rfl)(hN:N.Nodup:=by decide +kernel)(h0:N[0]? = some x:=by rfl)(hl:∀(s:Shared) (H:Hp) (C:Addr) (fp:List Addr),(bI X scope N s H C fp cI).env.scope.names.lookup x=some .local:=by intro _ _ _ _;rfl)(hf:fr[0]? = some none:=by rfl)(hs:∀x,foldedSetIterable iter X.env x=pure x:=by intro _;rfl):QS X (.Assign [.Name z zp] (.ListComp elt [⟨.Name x tp,iter,[],0⟩] scope p2) pos) (aY i (c7 ti fr (b8 0) dX te)):=
 eY (K5 (gh:=λ_=>cV 0) (tch:=λH=>LT (X.frm H) dX) (teh:=λH=>LE (X.frm H) te) hc S hi (x6 he (λ_ _ _ _=>S2) hN h0 hl) nd hz hzl hsw hs) λD σ H h=>oP (oN _ 0) (λi e=>by subst e;exact hf) (wI h)
end
theorem x8 {i:Nat}{x:Str}{xpos tpos:Pos}(hk:QE X a tk)(he:QE X e te)(hN:X.N[i]? = some x:=by rfl)(hv:iC X.env.scope x:=by first|exact Or.inl rfl|exact Or.inr (Or.inl rfl)|exact Or.inr (Or.inr rfl))(hd:(x==("__debug__":Str))=false:=by decide)(hcd:(x==("__classdict__":Str))=false:=by decide)(hp:∀(tx:TE) (tg:TE),PE X (.Name x xpos) tx->PE X a tg->PG X (.Subscript (.Name x xpos) a tpos) (uK tx tg uZ):=by intro _ _ h1 h2;exact ao2 h1 h2 at8)(hs:swapsWithSole [.Subscript (.Name x xpos) a tpos] e pos.line X.env=pure false:=by rfl)(hw:swappedStores [.Subscript (.Name x xpos) a tpos] e X.env=pure none:=by rfl) :
  QS X (.Assign [.Subscript (.Name x xpos) a tpos] e pos) (l4 i tk te):=eY (ao3 he (hp _ _ (kJ hN hv hd hcd) hk) hs hw) λ_ _ _=>aC4
end
end PP
namespace SO
open PySem PyProof.Rows
section
variable (rk:Keyed→Int)
def Kr (xs:Array Keyed)(i:Nat):Int:=((xs[i]?).map rk).getD 0
def Up (xs:Array Keyed)(lo hi:Nat):Prop:=∀i j,lo<=i->i<=j->j<hi->Kr rk xs i<=Kr rk xs j
def Dn (xs:Array Keyed)(lo hi:Nat):Prop:=∀i j,lo<=i->i<=j->j<hi->Kr rk xs j<=Kr rk xs i
end
variable {rk:Keyed→Int}
theorem lG {xs ys:Array Keyed}{i j:Nat}(h:xs[i]? = ys[j]?):Kr rk xs i=Kr rk ys j:=by unfold Kr;rw[h]
theorem rP {xs:Array Keyed}{i j:Nat}(hj:j<=xs.size)(k:Nat):Kr rk (mirror xs i j ((j-i)/2)) k=Kr rk xs (if i<=k/\k<j then i+j-1-k else k):=by
 refine lG ?_
 rw[getElem?_mirror_all hj]
 split<;>rfl
theorem x9 {xs:Array Keyed}{i j:Nat}(hj:j<=xs.size)(e:∀k,i<=k->k<j->Kr rk xs k=Kr rk xs (j-1))(k:Nat):Kr rk (mirror xs i j ((j-i)/2)) k=Kr rk xs k:=by
 rw[rP hj]
 split
 ·rename_i h;rw[e k h.1 h.2,e _ (by omega) (by omega)]
 ·rfl
theorem aH2 {xs:Array Keyed}{src d:Nat}(hs:src<xs.size)(hd:d<=src)(k:Nat):Kr rk (bubble xs src d) k=Kr rk xs (if k=src-d then src else if src-d<k/\k<=src then k-1 else k):=by
 refine lG ?_
 rw[getElem?_bubble hs d hd]
 repeat' split
 all_goals rfl
structure SB (κ:SortKind)(a0:Array Keyed)(pd:Array (Nat×Nat×Nat))(st:SortSt):Prop where
 pm:(arrOf st).Perm a0
 kd:kindOf st=κ
 ok:failedOf st=none
 pd:pendingOf st=pd
section
variable {κ:SortKind}{a0:Array Keyed}{pd:Array (Nat×Nat×Nat)}{st:SortSt}{prog:Program}{w:World}{A:Around}{E:Value→Shared→Prop}{s:Shared}{Ok:Keyed→Prop}
theorem SB.sz (h:SB κ a0 pd st):(arrOf st).size=a0.size:=h.pm.size_eq
theorem SB.put (h:SB κ a0 pd st){xs:Array Keyed}(hp:xs.Perm (arrOf st)):SB κ a0 pd (setArr st xs):=⟨hp.trans h.pm,h.kd,h.ok,h.pd⟩
def bV (prog:Program)(w:World)(A:Around)(E:Value->Shared->Prop)(s:Shared)(κ:SortKind)(Ok:Keyed->Prop)(rk:Keyed->Int):Prop:=
 ∀(x y:Keyed),Ok x->Ok y->∀(st:SortSt) (Q:Option Bool->SortSt->Prop),kindOf st=κ->Q (some (decide (rk x<rk y))) st->wpS (model prog w) A E s (lt' x y) Q st
def bL (Ok:Keyed->Prop)(xs:Array Keyed):Prop:=∀x∈xs,Ok x
theorem SB.all (h:SB κ a0 pd st)(o:bL Ok a0):bL Ok (arrOf st):=λx hx=>o x (h.pm.mem_iff.mp hx)
theorem dB {xs:Array Keyed}{i:Nat}{Q:Keyed->SortSt->Prop}(hi:i<xs.size)(h:Q xs[i] st):wpS (model prog w) A E s (elem' xs i) Q st:=by
 rw[elem'_eq,getElem?_pos xs i hi];exact bm9 h
theorem cA {xs:Array Keyed}{i:Nat}(hi:i<xs.size):Kr rk xs i=rk xs[i]:=by unfold Kr;rw[getElem?_pos xs i hi];rfl
theorem oZ (c:bV prog w A E s κ Ok rk)(o:bL Ok a0)(b:SB κ a0 pd st){i j:Nat}{Q:Option Bool->SortSt->Prop}(hi:i<a0.size)(hj:j<a0.size)(h:Q (some (decide (Kr rk (arrOf st) i<Kr rk (arrOf st) j))) st):wpS (model prog w) A E s (ltAt' i j) Q st:=by
 have hi':i<(arrOf st).size:=by rw[b.sz];exact hi
 have hj':j<(arrOf st).size:=by rw[b.sz];exact hj
 rw[ltAt'_eq]
 refine bm2 (wpS_get (bm2 (dB hi' (bm2 (dB hj' ?_)))))
 refine c _ _ (b.all o _ (bq3 hi')) (b.all o _ (bq3 hj')) st Q b.kd ?_
 rw[<- cA (rk:=rk) hi',<- cA (rk:=rk) hj'];exact h
theorem rQ {i j:Nat}{Q:Unit->SortSt->Prop}(h:Q () (setArr st (mirror (arrOf st) i j ((j-i)/2)))):wpS (model prog w) A E s (reverseSlice' i j) Q st:=by
 rw[reverseSlice'_eq];exact wpS_modify h
abbrev CS:=Option (Option Nat)×Nat
abbrev DS:=Option (Option Nat)×Nat×Nat
def p5 (lo b nrem:Nat):StateT SortSt Sem CS:=forIn [b:nrem] ((none,b):CS) λ_ r=>do
 match <- ltAt' (lo+r.2) (lo+r.2-1) with
 |some q=>if q=true then pure (ForInStep.done (none,r.2)) else pure (ForInStep.yield (none,r.2+1))
 |_=>pure (ForInStep.done (some none,r.2))
def xA (lo b nrem:Nat):StateT SortSt Sem DS:=forIn [b:nrem] ((none,b,0):DS) λ_ r=>do
 match <- ltAt' (lo+r.2.1) (lo+r.2.1-1) with
 |some q=>
  if q=true then (if r.2.2>0 then do reverseSlice' (lo+r.2.1-(r.2.2+1)) (lo+r.2.1);pure (ForInStep.yield (none,r.2.1+1,0)) else pure (ForInStep.yield (none,r.2.1+1,0)))
  else do
   match <- ltAt' (lo+r.2.1-1) (lo+r.2.1) with
   |some q=>if q=true then pure (ForInStep.done (none,r.2.1,r.2.2)) else pure (ForInStep.yield (none,r.2.1+1,r.2.2+1))
   |_=>pure (ForInStep.done (some none,r.2.1,r.2.2))
 |_=>pure (ForInStep.done (some none,r.2.1,r.2.2))
theorem S3 (c:bV prog w A E s κ Ok rk)(o:bL Ok a0)(b:SB κ a0 pd st){lo n nrem:Nat}{Q:CS->SortSt->Prop}(hz:lo+nrem<=a0.size)(h1:1<=n)(hn:n<=nrem)(u:Up rk (arrOf st) lo (lo+n))(h:∀m,n<=m->m<=nrem->Up rk (arrOf st) lo (lo+m)->(m=nrem∨Kr rk (arrOf st) (lo+m)<Kr rk (arrOf st) (lo+m-1))->Q (none,m) st):wpS (model prog w) A E s (p5 lo n nrem) Q st:=by
 unfold p5
 refine bu0 (I:=λx r st'=>st'=st/\r=(none,x)/\Up rk (arrOf st) lo (lo+x)) ?_ ?_ ⟨rfl,rfl,u⟩
 ·rintro x r st' hx hx' ⟨rfl,rfl,u'⟩
  refine bm2 (oZ c o b (by omega) (by omega) ?_)
  by_cases hq:Kr rk (arrOf st') (lo+x)<Kr rk (arrOf st') (lo+x-1)
  ·rw[bl6 hq]
   exact bm9 (h x hx (by omega) u' (.inr hq))
  ·rw[bl1 hq]
   refine bm9 ⟨rfl,rfl,λi j hi hij hj=>?_⟩
   rcases bp0 j (lo+x) with z|z
   ·exact u' i j hi hij z
   ·have ej:j=lo+x:=by omega
    subst ej
    rcases bA5 hij with z|z
    ·rw[z];exact bv9 _
    ·have:=u' i (lo+x-1) hi (by omega) (by omega)
     omega
 ·rintro r st' ⟨rfl,rfl,u'⟩
  have em:max n nrem=nrem:=by omega
  rw[em]at u' ⊢
  exact h nrem hn (bk7 _) u' (.inl rfl)
structure p6 (rk:Keyed->Int)(xs ys:Array Keyed)(lo m q:Nat):Prop where
 dn:Dn rk ys lo (lo+m)
 le:q+1<=m
 eq:∀i,lo+m-(q+1)<=i->i<lo+m->Kr rk ys i=Kr rk ys (lo+m-1)
 low:∀i,i<lo->Kr rk ys i=Kr rk xs i
theorem aH3 (c:bV prog w A E s κ Ok rk)(o:bL Ok a0)(b:SB κ a0 pd st){lo n nrem:Nat}{xs:Array Keyed}{Q:DS->SortSt->Prop}(hz:lo+nrem<=a0.size)(h1:1<=n)(hn:n<=nrem)(u:p6 rk xs (arrOf st) lo n 0)(h:∀m q st',SB κ a0 pd st'->n<=m->m<=nrem->p6 rk xs (arrOf st') lo m q->Q (none,m,q) st'):wpS (model prog w) A E s (xA lo n nrem) Q st:=by
 unfold xA
 refine bu0 (I:=λx r st'=>∃q,r=(none,x,q)/\SB κ a0 pd st'/\p6 rk xs (arrOf st') lo x q) ?_ ?_ ⟨0,rfl,b,u⟩
 ·rintro x r st' hx hx' ⟨q,rfl,b',f⟩
  have sz:=b'.sz
  dsimp only
  refine bm2 (oZ c o b' (by omega) (by omega) ?_)
  by_cases hq:Kr rk (arrOf st') (lo+x)<Kr rk (arrOf st') (lo+x-1)
  ·rw[bl6 hq]
   have nx:∀ys:Array Keyed,(∀k,Kr rk ys k=Kr rk (arrOf st') k)->p6 rk xs ys lo (x+1) 0:=λys e=>by
    refine⟨λi j hi hij hj=>?_,by omega,λi h1 h2=>by rw[show i=lo+(x+1)-1 by omega],λi hi=>(e i).trans (f.low i hi)⟩
    rw[e,e]
    rcases bp0 j (lo+x) with z|z
    ·exact f.dn i j hi hij z
    ·have ej:j=lo+x:=by omega
     subst ej
     rcases bA5 hij with z|z
     ·rw[z];exact bv9 _
     ·have:=f.dn i (lo+x-1) hi (by omega) (by omega)
      omega
   dsimp only
   rw[if_pos rfl]
   by_cases hp:q>0
   ·rw[if_pos hp]
    exact bm2 (rQ (bm9 ⟨0,rfl,b'.put (mirror_perm _ _ _ _),nx _ (x9 (by omega) f.eq)⟩))
   ·rw[if_neg hp]
    exact bm9 ⟨0,rfl,b',nx _ λ_=>rfl⟩
  ·rw[bl1 hq]
   dsimp only
   rw[if_neg bm6]
   refine bm2 (oZ c o b' (by omega) (by omega) ?_)
   by_cases hl:Kr rk (arrOf st') (lo+x-1)<Kr rk (arrOf st') (lo+x)
   ·rw[bl6 hl]
    exact bm9 (h x q st' b' hx (by omega) f)
   ·rw[bl1 hl]
    have ex:Kr rk (arrOf st') (lo+x)=Kr rk (arrOf st') (lo+x-1):=by omega
    refine bm9 ⟨q+1,rfl,b',λi j hi hij hj=>?_,by have:=f.le;omega,λi h1 h2=>?_,f.low⟩
    ·rcases bp0 j (lo+x) with z|z
     ·exact f.dn i j hi hij z
     ·have ej:j=lo+x:=by omega
      subst ej
      rcases bA5 hij with z|z
      ·rw[z];exact bv9 _
      ·rw[ex];exact f.dn i (lo+x-1) hi (by omega) (by omega)
    ·rw[show lo+(x+1)-1=lo+x by omega]
     rcases bp0 i (lo+x) with z|z
     ·rw[ex];exact f.eq i (by omega) z
     ·rw[show i=lo+x by omega]
 ·rintro r st' ⟨q,rfl,b',f⟩
  have em:max n nrem=nrem:=by omega
  rw[em]at f ⊢
  exact h nrem q st' b' hn (bk7 _) f
theorem S4 (c:bV prog w A E s κ Ok rk)(o:bL Ok a0)(b:SB κ a0 pd st){lo nrem:Nat}(n:Nat){xs:Array Keyed}{Q:Option Nat->SortSt->Prop}{K:DS->StateT SortSt Sem (Option Nat)}{k:CS->StateT SortSt Sem (Option Nat)}(hz:lo+nrem<=a0.size)(hn:n+1<=nrem)(hK:∀m q,K (none,m,q)=if q>0 then reverseSlice' (lo+m-(q+1)) (lo+m) >>= λ_=>reverseSlice' lo (lo+m) >>= λ_=>p5 lo m nrem >>= k else reverseSlice' lo (lo+m) >>= λ_=>p5 lo m nrem >>= k)(hk:∀m,k (none,m)=pure (some m))(u:p6 rk xs (arrOf st) lo (n+1) 0)(h:∀m st',SB κ a0 pd st'->1<=m->m<=nrem->Up rk (arrOf st') lo (lo+m)->(∀i,i<lo->Kr rk (arrOf st') i=Kr rk xs i)->Q (some m) st'):wpS (model prog w) A E s (liftM (rule "list.sort.descending-run") >>= λ_=>xA lo (n+1) nrem >>= K) Q st:=by
 refine bm2 (wpS_lift (bz2 ⟨rfl,?_⟩))
 refine bm2 (aH3 c o b hz (by omega) hn u λm q st1 b1 m1 m2 f=>?_)
 have fin:∀st2:SortSt,SB κ a0 pd st2->(∀k,Kr rk (arrOf st2) k=Kr rk (arrOf st1) k)->
   wpS (model prog w) A E s (reverseSlice' lo (lo+m) >>= λ_=>p5 lo m nrem >>= k) Q st2:=λst2 b2 e=>by
  have sz:=b2.sz
  have low:∀i,i<lo->Kr rk (mirror (arrOf st2) lo (lo+m) ((lo+m-lo)/2)) i=Kr rk xs i:=λi hi=>by
   rw[rP (by omega),if_neg (by omega),e]
   exact f.low i hi
  refine bm2 (rQ (bm2 (S3 (κ:=κ) c o (b2.put (mirror_perm _ _ _ _)) hz (by omega) m2 ?_ λm' h1 h2 up _=>by rw[hk];exact bm9 (h m' _ (b2.put (mirror_perm _ _ _ _)) (by omega) h2 up low))))
  ·intro i j hi hij hj
   show Kr rk (mirror (arrOf st2) lo (lo+m) _) i<=Kr rk (mirror (arrOf st2) lo (lo+m) _) j
   rw[rP (by omega),rP (by omega),if_pos (by omega),if_pos (by omega),e,e]
   exact f.dn _ _ (by omega) (by omega) (by omega)
 rw[hK]
 by_cases hp:q>0
 ·rw[if_pos hp]
  have sz:=b1.sz
  exact bm2 (rQ (fin _ (b1.put (mirror_perm _ _ _ _)) (x9 (by omega) f.eq)))
 ·rw[if_neg hp]
  exact fin st1 b1 λ_=>rfl
theorem aH4 (c:bV prog w A E s κ Ok rk)(o:bL Ok a0)(b:SB κ a0 pd st){lo nrem:Nat}{Q:Option Nat->SortSt->Prop}(hz:lo+nrem<=a0.size)(h1:1<=nrem)(h:∀m st',SB κ a0 pd st'->1<=m->m<=nrem->Up rk (arrOf st') lo (lo+m)->(∀i,i<lo->Kr rk (arrOf st') i=Kr rk (arrOf st) i)->Q (some m) st'):wpS (model prog w) A E s (countRun' lo nrem) Q st:=by
 rw[countRun'_eq]
 refine bm2 (S3 (n:=1) c o b hz (bk7 _) h1 (λi j hi hij hj=>by rw[show i=j by omega];exact bv9 _) λn n1 n2 un on=>?_)
 dsimp only
 by_cases en:(n==nrem)=true
 ·rw[if_pos en]
  exact bm9 (h n st b n1 n2 un λ_ _=>rfl)
 ·rw[if_neg en]
  have en':n≠nrem:=by simpa using en
  have lt:=on.resolve_left en'
  have sz:=b.sz
  by_cases g:n>1
  ·rw[if_pos g]
   refine bm2 (oZ c o b (by omega) (by omega) ?_)
   by_cases hq:Kr rk (arrOf st) lo<Kr rk (arrOf st) (lo+n-1)
   ·rw[bl6 hq]
    exact bm9 (h n st b n1 n2 un λ_ _=>rfl)
   ·rw[bl1 hq]
    dsimp only
    rw[if_neg bm6]
    have all:∀k,lo<=k->k<lo+n->Kr rk (arrOf st) k=Kr rk (arrOf st) (lo+n-1):=λk k1 k2=>by
     have a1:=un lo k (bk7 _) k1 k2
     have a2:=un k (lo+n-1) k1 (by omega) (by omega)
     omega
    have sm:=x9 (rk:=rk) (xs:=arrOf st) (i:=lo) (j:=lo+n) (by omega) all
    refine bm2 (rQ (S4 (xs:=arrOf st) (κ:=κ) c o (b.put (mirror_perm _ _ _ _)) n hz (by omega) (λ_ _=>rfl) (λ_=>rfl) ⟨λi j hi hij hj=>?_,by omega,λi h1 h2=>by rw[show i=lo+(n+1)-1 by omega],λi _=>sm i⟩ h))
    show Kr rk (mirror (arrOf st) lo (lo+n) _) j<=Kr rk (mirror (arrOf st) lo (lo+n) _) i
    rw[sm,sm]
    rcases bp0 j (lo+n) with z|z
    ·rw[all i hi (by omega),all j (by omega) z];exact bv9 _
    ·have ej:j=lo+n:=by omega
     subst ej
     rcases bA5 hij with z|z
     ·rw[z];exact bv9 _
     ·rw[all i hi (by omega)];exact Int.le_of_lt lt
  ·rw[if_neg g]
   have e1:n=1:=by omega
   subst e1
   refine S4 (xs:=arrOf st) c o b 1 hz (by omega) (λ_ _=>rfl) (λ_=>rfl) ⟨λi j hi hij hj=>?_,by omega,λi h1 h2=>by rw[show i=lo+(1+1)-1 by omega],λi _=>rfl⟩ h
   rcases bA5 hij with z|z
   ·rw[z];exact bv9 _
   ·have ei:i=lo+1-1:=by omega
    have ej:j=lo+1:=by omega
    rw[ei,ej];exact Int.le_of_lt lt
theorem aH5 (c:bV prog w A E s κ Ok rk)(o:bL Ok a0)(b:SB κ a0 pd st){lo n q:Nat}{Q:Bool->SortSt->Prop}(hz:lo+n<=a0.size)(hq:q<=n)(u:Up rk (arrOf st) lo (lo+q))(h:∀st',SB κ a0 pd st'->Up rk (arrOf st') lo (lo+n)->(∀i,i<lo->Kr rk (arrOf st') i=Kr rk (arrOf st) i)->Q true st'):wpS (model prog w) A E s (binarySort' lo n q) Q st:=by
 rw[binarySort'_eq]
 refine bm2 (bB4 (bu0 (I:=λk r st'=>r=(none,())/\SB κ a0 pd st'/\Up rk (arrOf st') lo (lo+min k n)/\∀i,i<lo->Kr rk (arrOf st') i=Kr rk (arrOf st) i)
  (Q:=λr st'=>r=(none,())/\SB κ a0 pd st'/\Up rk (arrOf st') lo (lo+n)/\∀i,i<lo->Kr rk (arrOf st') i=Kr rk (arrOf st) i) ?_ ?_ ?_) ?_)
 ·rintro k r st1 hk hkn ⟨rfl,b1,u1,l1⟩
  rw[show min k n=k by omega]at u1
  have hk0:lo+k<a0.size:=by omega
  have sz:=b1.sz
  refine bm2 (bB4 (bu0 (I:=λx r st'=>st'=st1/\∃l g,r=(none,l,g)/\l<=g/\g<=k/\g-l<=k-x/\(∀i,i<l->Kr rk (arrOf st1) (lo+i)<=Kr rk (arrOf st1) (lo+k))/\∀i,g<=i->i<k->Kr rk (arrOf st1) (lo+k)<Kr rk (arrOf st1) (lo+i))
   (Q:=λr st'=>st'=st1/\∃l g,r=(none,l,g)/\l<=k/\(∀i,i<l->Kr rk (arrOf st1) (lo+i)<=Kr rk (arrOf st1) (lo+k))/\∀i,l<=i->i<k->Kr rk (arrOf st1) (lo+k)<Kr rk (arrOf st1) (lo+i)) ?_ ?_ ?_) ?_)
  ·rintro x r st2 _ hx ⟨rfl,l,g,rfl,d1,d2,d3,f1,f2⟩
   dsimp only
   by_cases hlg:l >= g
   ·rw[if_pos hlg]
    have e:g=l:=by omega
    subst e
    exact bm9 ⟨rfl,g,g,rfl,d2,f1,f2⟩
   ·rw[if_neg hlg]
    refine bm2 (oZ c o b1 hk0 (by omega) ?_)
    by_cases hc:Kr rk (arrOf st2) (lo+k)<Kr rk (arrOf st2) (lo+(l+g)/2)
    ·rw[bl6 hc]
     refine bm9 ⟨rfl,l,(l+g)/2,rfl,by omega,by omega,by omega,f1,λi i1 i2=>?_⟩
     have:=u1 (lo+(l+g)/2) (lo+i) (by omega) (by omega) (by omega)
     omega
    ·rw[bl1 hc]
     refine bm9 ⟨rfl,(l+g)/2+1,g,rfl,by omega,d2,by omega,λi i1=>?_,f2⟩
     have:=u1 (lo+i) (lo+(l+g)/2) (by omega) (by omega) (by omega)
     omega
  ·rintro r st2 ⟨rfl,l,g,rfl,d1,d2,d3,f1,f2⟩
   have e:g=l:=by omega
   subst e
   exact⟨rfl,g,g,rfl,d2,f1,f2⟩
  ·exact⟨rfl,0,k,rfl,by omega,by omega,by omega,λi hi=>absurd hi (by omega),λi i1 i2=>absurd i1 (by omega)⟩
  ·rintro r st2 ⟨rfl,l,g,rfl,d,f1,f2⟩
   dsimp only
   rw[moveDown'_eq]
   have kb:∀i,Kr rk (bubble (arrOf st2) (lo+k) (lo+k-(lo+l))) i=Kr rk (arrOf st2) (if i=lo+l then lo+k else if lo+l<i/\i<=lo+k then i-1 else i):=λi=>by
    rw[aH2 (by omega) (by omega),show lo+k-(lo+k-(lo+l))=lo+l by omega]
   refine bm2 (wpS_modify (bm9 ⟨rfl,b1.put (bubble_perm _ _ _),λi j hi hij hj=>?_,λi hi=>?_⟩))
   ·show Kr rk (bubble (arrOf st2) (lo+k) (lo+k-(lo+l))) i<=Kr rk (bubble (arrOf st2) (lo+k) (lo+k-(lo+l))) j
    rw[kb,kb]
    rw[show min (k+1) n=k+1 by omega]at hj
    have v1:∀p,lo<=p->p<lo+l->Kr rk (arrOf st2) p<=Kr rk (arrOf st2) (lo+k):=λp p1 p2=>by have:=f1 (p-lo) (by omega);rwa [show lo+(p-lo)=p by omega]at this
    have v2:∀p,lo+l<=p->p<lo+k->Kr rk (arrOf st2) (lo+k)<Kr rk (arrOf st2) p:=λp p1 p2=>by have:=f2 (p-lo) (by omega) (by omega);rwa [show lo+(p-lo)=p by omega]at this
    repeat' split
    all_goals first
     |(exfalso;omega)
     |exact bv9 _
     |exact v1 _ (by omega) (by omega)
     |exact Int.le_of_lt (v2 _ (by omega) (by omega))
     |exact u1 _ _ (by omega) (by omega) (by omega)
   ·show Kr rk (bubble (arrOf st2) (lo+k) (lo+k-(lo+l))) i=_
    rw[kb,if_neg (by omega),if_neg (by omega)]
    exact l1 i hi
 ·rintro r st1 ⟨rfl,b1,u1,l1⟩
  rw[show min (max (max q 1) n) n=n by omega]at u1
  exact⟨rfl,b1,u1,l1⟩
 ·refine⟨rfl,b,λi j hi hij hj=>?_,λ_ _=>rfl⟩
  rcases bp0 j (lo+q) with z|z
  ·exact u i j hi hij z
  ·rw[show i=j by omega];exact bv9 _
 ·rintro r st1 ⟨rfl,b1,u1,l1⟩
  exact bm9 (h st1 b1 u1 l1)
end
def k7:Bool->Keyed->Array Keyed->Nat->Nat->Nat->StateT SortSt Sem (Option Nat):=sortPriv% PySem.Builtin.gallop
def lH (lf:Bool)(key:Keyed)(xs:Array Keyed)(bs i:Nat):StateT SortSt Sem (Option Bool):=do
 let z <- elem' xs (bs+i)
 if lf then lt' z key else return (<- lt' key z).map (!·)
theorem aH6 (lf:Bool)(key:Keyed)(xs:Array Keyed)(bs n h:Nat):k7 lf key xs bs n h=(do
 let mut la:=0
 let mut of:=1
 let mut l:=0
 let mut g:=0
 let some rt <- lH lf key xs bs h|return none
 if rt then
  let mx:=n-h
  for _ in [0:n] do
   if of >= mx then break
   let some mr <- lH lf key xs bs (h+of)|return none
   if !mr then break
   la:=of
   of:=2*of+1
  l:=h+la+1
  g:=h+min of mx
 else
  let mx:=h+1
  for _ in [0:n] do
   if of >= mx then break
   let some fd <- lH lf key xs bs (h-of)|return none
   if fd then break
   la:=of
   of:=2*of+1
  l:=h+1-min of mx
  g:=h-la
 for _ in [0:n] do
  if l >= g then break
  let m:=l+(g-l)/2
  let some mr <- lH lf key xs bs m|return none
  if mr then l:=m+1 else g:=m
 return some g):=rfl
section
variable {rk:Keyed→Int}{κ:SortKind}{st:SortSt}{prog:Program}{w:World}{A:Around}{E:Value→Shared→Prop}{s:Shared}{Ok:Keyed→Prop}
def bW (rk:Keyed->Int)(lf:Bool)(key:Keyed)(xs:Array Keyed)(bs i:Nat):Bool:=if lf then decide (Kr rk xs (bs+i)<rk key) else decide (Kr rk xs (bs+i)<=rk key)
theorem rR (c:bV prog w A E s κ Ok rk)(hk:kindOf st=κ){lf:Bool}{key:Keyed}{xs:Array Keyed}{bs i:Nat}{Q:Option Bool->SortSt->Prop}(ok:Ok key)(o:bL Ok xs)(hi:bs+i<xs.size)(h:Q (some (bW rk lf key xs bs i)) st):wpS (model prog w) A E s (lH lf key xs bs i) Q st:=by
 unfold lH
 refine bm2 (dB hi ?_)
 unfold bW at h
 rw[cA hi]at h
 cases lf with
 |true=>
  simp only[if_true]at h ⊢
  exact c _ _ (o _ (bq3 hi)) ok st Q hk h
 |false=>
  simp only[bn0,bq1]at h ⊢
  refine bm2 (c _ _ ok (o _ (bq3 hi)) st _ hk (bm9 ?_))
  have e:(!decide (rk key<rk xs[bs+i]))=decide (rk xs[bs+i]<=rk key):=by
   by_cases z:rk xs[bs+i]<=rk key
   ·rw[bl6 z,bl1 (by omega)];rfl
   ·rw[bl1 z,bl6 (by omega)];rfl
  show Q (some (!decide (rk key<rk xs[bs+i]))) st
  rw[e];exact h
abbrev GS:=Option (Option Nat)×Nat×Nat
def S5 (lf:Bool)(key:Keyed)(xs:Array Keyed)(bs n l g:Nat):StateT SortSt Sem GS:=forIn [0:n] ((none,l,g):GS) λ_ r=>
 if r.2.1 >= r.2.2 then pure (ForInStep.done (none,r.2.1,r.2.2)) else do
  match <- lH lf key xs bs (r.2.1+(r.2.2-r.2.1)/2) with
  |some q=>if q=true then pure (ForInStep.yield (none,r.2.1+(r.2.2-r.2.1)/2+1,r.2.2)) else pure (ForInStep.yield (none,r.2.1,r.2.1+(r.2.2-r.2.1)/2))
  |_=>pure (ForInStep.done (some none,r.2.1,r.2.2))
theorem S6 (c:bV prog w A E s κ Ok rk)(hk:kindOf st=κ){lf:Bool}{key:Keyed}{xs:Array Keyed}{bs n l g:Nat}{Q:GS->SortSt->Prop}(ok:Ok key)(o:bL Ok xs)(hz:bs+n<=xs.size)(mono:∀i j,i<=j->j<n->bW rk lf key xs bs j=true->bW rk lf key xs bs i=true)(hlg:l<=g)(hg:g<=n)(h1:∀i,i<l->bW rk lf key xs bs i=true)(h2:∀i,g<=i->i<n->bW rk lf key xs bs i=false)(hq:∀k,k<=n->(∀i,i<k->bW rk lf key xs bs i=true)->(∀i,k<=i->i<n->bW rk lf key xs bs i=false)->Q (none,k,k) st):wpS (model prog w) A E s (S5 lf key xs bs n l g) Q st:=by
 unfold S5
 refine bu0 (I:=λx r st'=>st'=st/\∃l g,r=(none,l,g)/\l<=g/\g<=n/\g-l<=n-x/\(∀i,i<l->bW rk lf key xs bs i=true)/\∀i,g<=i->i<n->bW rk lf key xs bs i=false) ?_ ?_ ⟨rfl,l,g,rfl,hlg,hg,by omega,h1,h2⟩
 ·rintro x r st' _ hx ⟨rfl,l,g,rfl,d1,d2,d3,f1,f2⟩
  dsimp only
  by_cases hc:l >= g
  ·rw[if_pos hc]
   have e:g=l:=by omega
   subst e
   exact bm9 (hq g d2 f1 f2)
  ·rw[if_neg hc]
   refine bm2 (rR c hk ok o (by omega) ?_)
   cases z:bW rk lf key xs bs (l+(g-l)/2) with
   |true=>exact bm9 ⟨rfl,_,_,rfl,by omega,d2,by omega,λi hi=>mono i (l+(g-l)/2) (by omega) (by omega) z,f2⟩
   |false=>
    refine bm9 ⟨rfl,_,_,rfl,by omega,by omega,by omega,f1,λi i1 i2=>?_⟩
    cases y:bW rk lf key xs bs i with
    |false=>rfl
    |true=>rw[mono _ i i1 i2 y]at z;cases z
 ·rintro r st' ⟨rfl,l,g,rfl,d1,d2,d3,f1,f2⟩
  have e:g=l:=by omega
  subst e
  exact hq g d2 f1 f2
theorem mR (c:bV prog w A E s κ Ok rk)(hk:kindOf st=κ){lf:Bool}{key:Keyed}{xs:Array Keyed}{bs n h:Nat}{Q:Option Nat->SortSt->Prop}(ok:Ok key)(o:bL Ok xs)(hh:h<n)(hz:bs+n<=xs.size)(u:Up rk xs bs (bs+n))(hq:∀k,k<=n->(∀i,i<k->bW rk lf key xs bs i=true)->(∀i,k<=i->i<n->bW rk lf key xs bs i=false)->Q (some k) st):wpS (model prog w) A E s (k7 lf key xs bs n h) Q st:=by
 have mono:∀i j,i<=j->j<n->bW rk lf key xs bs j=true->bW rk lf key xs bs i=true:=λi j hij hj e=>by
  have:=u (bs+i) (bs+j) (by omega) (by omega) (by omega)
  unfold bW at e ⊢
  cases lf with
  |true=>simp only[if_true,bm8]at e ⊢;omega
  |false=>simp only[bn0,bq1,bm8]at e ⊢;omega
 have monf:∀i j,i<=j->j<n->bW rk lf key xs bs i=false->bW rk lf key xs bs j=false:=λi j hij hj e=>by
  cases z:bW rk lf key xs bs j with
  |false=>rfl
  |true=>rw[mono i j hij hj z]at e;cases e
 rw[aH6]
 refine bm2 (rR c hk ok o (by omega) ?_)
 dsimp only
 cases z:bW rk lf key xs bs h with
 |true=>
  rw[if_pos rfl]
  refine bm2 (bB4 (bu0 (I:=λx r st'=>st'=st/\∃la of,r=(none,la,of)/\la<of/\x<of/\h+la<n/\bW rk lf key xs bs (h+la)=true)
   (Q:=λr st'=>st'=st/\∃la of,r=(none,la,of)/\la<of/\h+la<n/\bW rk lf key xs bs (h+la)=true/\(of<n-h->bW rk lf key xs bs (h+of)=false)) ?_ ?_ ⟨rfl,0,1,rfl,by omega,by omega,by omega,z⟩) ?_)
  ·rintro x r st' _ hx ⟨rfl,la,of,rfl,d1,d2,d3,f⟩
   dsimp only
   by_cases hc:of >= n-h
   ·rw[if_pos hc]
    exact bm9 ⟨rfl,la,of,rfl,d1,d3,f,λy=>absurd y (by omega)⟩
   ·rw[if_neg hc]
    refine bm2 (rR c hk ok o (by omega) ?_)
    cases y:bW rk lf key xs bs (h+of) with
    |true=>exact bm9 ⟨rfl,of,2*of+1,rfl,by omega,by omega,by omega,y⟩
    |false=>exact bm9 ⟨rfl,la,of,rfl,d1,d3,f,λ_=>y⟩
  ·rintro r st' ⟨rfl,la,of,rfl,d1,d2,d3,f⟩
   exact⟨rfl,la,of,rfl,d1,d3,f,λy=>absurd y (by omega)⟩
  ·rintro r st' ⟨rfl,la,of,rfl,d1,d3,f,ft⟩
   dsimp only
   refine bm2 (S6 (l:=h+la+1) (g:=h+min of (n-h)) c hk ok o hz mono (by omega) (by omega) (λi hi=>mono i (h+la) (by omega) d3 f) (λi i1 i2=>?_) λk k1 k2 k3=>bm9 (hq k k1 k2 k3))
   rcases bp0 of (n-h) with y|y
   ·exact monf (h+of) i (by omega) i2 (ft y)
   ·exact absurd i1 (by omega)
 |false=>
  rw[if_neg bm6]
  refine bm2 (bB4 (bu0 (I:=λx r st'=>st'=st/\∃la of,r=(none,la,of)/\la<of/\x<of/\la<=h/\bW rk lf key xs bs (h-la)=false)
   (Q:=λr st'=>st'=st/\∃la of,r=(none,la,of)/\la<of/\la<=h/\bW rk lf key xs bs (h-la)=false/\(of<h+1->bW rk lf key xs bs (h-of)=true)) ?_ ?_ ⟨rfl,0,1,rfl,by omega,by omega,by omega,z⟩) ?_)
  ·rintro x r st' _ hx ⟨rfl,la,of,rfl,d1,d2,d3,f⟩
   dsimp only
   by_cases hc:of >= h+1
   ·rw[if_pos hc]
    exact bm9 ⟨rfl,la,of,rfl,d1,d3,f,λy=>absurd y (by omega)⟩
   ·rw[if_neg hc]
    refine bm2 (rR c hk ok o (by omega) ?_)
    cases y:bW rk lf key xs bs (h-of) with
    |false=>exact bm9 ⟨rfl,of,2*of+1,rfl,by omega,by omega,by omega,y⟩
    |true=>exact bm9 ⟨rfl,la,of,rfl,d1,d3,f,λ_=>y⟩
  ·rintro r st' ⟨rfl,la,of,rfl,d1,d2,d3,f⟩
   exact⟨rfl,la,of,rfl,d1,d3,f,λy=>absurd y (by omega)⟩
  ·rintro r st' ⟨rfl,la,of,rfl,d1,d3,f,ft⟩
   dsimp only
   refine bm2 (S6 (l:=h+1-min of (h+1)) (g:=h-la) c hk ok o hz mono (by omega) (by omega) (λi hi=>?_) (λi i1 i2=>monf (h-la) i i1 i2 f) λk k1 k2 k3=>bm9 (hq k k1 k2 k3))
   rcases bp0 of (h+1) with y|y
   ·exact mono i (h-of) (by omega) (by omega) (ft y)
   ·exact absurd hi (by omega)
end
def mS:Nat->StateT SortSt Sem Unit:=sortPriv% PySem.Builtin.setMinGallop
def xB:Array Keyed->Array Keyed->StateT SortSt Sem (Array Keyed):=sortPriv% PySem.Builtin.mergeLo
theorem aH7 (g:Nat):mS g=modify (λst=>SortSt.mk' (kindOf st) (arrOf st) (pendingOf st) g (failedOf st)):=rfl
abbrev LS:=Option (Array Keyed)×Array Keyed×Nat×Nat×Nat×Nat×Nat
abbrev xC:=Option (Array Keyed)×Array Keyed×Nat×Nat×Nat×Nat
abbrev LO:=Option (Array Keyed)×Array Keyed×Nat×Nat×Nat
def rS (x y o:Array Keyed)(i j mg p q:Nat):StateT SortSt Sem (ForInStep LS):=do
 let v <- elem' x i
 if (i+1+1==x.size)=true then pure (.done (some (o.push v++y.extract j y.size++x.extract (i+1) x.size),o.push v,i+1,j,mg,p,q))
 else if (decide (p<7)&&decide (q<7))=true then pure (.done (none,o.push v,i+1,j,mg,p,q)) else pure (.yield (none,o.push v,i+1,j,mg,p,q))
def rT (x y o:Array Keyed)(i j mg p q:Nat):StateT SortSt Sem (ForInStep LS):=do
 let v <- elem' y j
 if (j+1==y.size)=true then pure (.done (some (o.push v++x.extract i x.size++y.extract (j+1) y.size),o.push v,i,j+1,mg,p,q)) else do
  let u <- elem' x i
  match <- k7 true u y (j+1) (y.size-(j+1)) 0 with
  |some k=>
   if k>0 then
    if (j+1+k==y.size)=true then pure (.done (some (o.push v++y.extract (j+1) (j+1+k)++x.extract i x.size++y.extract (j+1+k) y.size),o.push v++y.extract (j+1) (j+1+k),i,j+1+k,mg,p,k))
    else rS x y (o.push v++y.extract (j+1) (j+1+k)) i (j+1+k) mg p k
   else rS x y (o.push v) i (j+1) mg p k
  |_=>pure (.done (some (o.push v++x.extract i x.size++y.extract (j+1) y.size),o.push v,i,j+1,mg,p,q))
def rV (x y o:Array Keyed)(i j mg p q:Nat):StateT SortSt Sem (ForInStep LS):=do
 mS mg
 let v <- elem' y j
 match <- k7 false v x i (x.size-i) 0 with
 |some k=>
  if k>0 then
   if (i+k+1==x.size)=true then pure (.done (some (o++x.extract i (i+k)++y.extract j y.size++x.extract (i+k) x.size),o++x.extract i (i+k),i+k,j,mg,k,q))
   else if (i+k==x.size)=true then pure (.done (some (o++x.extract i (i+k)++x.extract (i+k) x.size++y.extract j y.size),o++x.extract i (i+k),i+k,j,mg,k,q))
   else rT x y (o++x.extract i (i+k)) (i+k) j mg k q
  else rT x y o i j mg k q
 |_=>pure (.done (some (o++x.extract i x.size++y.extract j y.size),o,i,j,mg,p,q))
def xD (x y o:Array Keyed)(i j mg p q:Nat):StateT SortSt Sem LS:=forIn [0:x.size+y.size] ((none,o,i,j,mg,p,q):LS) λ_ r=>
 if r.2.2.2.2.1>1 then rV x y r.2.1 r.2.2.1 r.2.2.2.1 (r.2.2.2.2.1-1) r.2.2.2.2.2.1 r.2.2.2.2.2.2 else rV x y r.2.1 r.2.2.1 r.2.2.2.1 r.2.2.2.2.1 r.2.2.2.2.2.1 r.2.2.2.2.2.2
def xE (x y o:Array Keyed)(i j mg:Nat):StateT SortSt Sem xC:=forIn [0:x.size+y.size] ((none,o,i,j,0,0):xC) λ_ r=>do
 let v <- elem' y r.2.2.2.1
 let u <- elem' x r.2.2.1
 match <- lt' v u with
 |some q=>
  if q=true then do
   let v <- elem' y r.2.2.2.1
   if (r.2.2.2.1+1==y.size)=true then pure (.done (some (r.2.1.push v++x.extract r.2.2.1 x.size++y.extract (r.2.2.2.1+1) y.size),r.2.1.push v,r.2.2.1,r.2.2.2.1+1,0,r.2.2.2.2.2+1))
   else if r.2.2.2.2.2+1 >= mg then pure (.done (none,r.2.1.push v,r.2.2.1,r.2.2.2.1+1,0,r.2.2.2.2.2+1)) else pure (.yield (none,r.2.1.push v,r.2.2.1,r.2.2.2.1+1,0,r.2.2.2.2.2+1))
  else do
   let u <- elem' x r.2.2.1
   if (r.2.2.1+1+1==x.size)=true then pure (.done (some (r.2.1.push u++y.extract r.2.2.2.1 y.size++x.extract (r.2.2.1+1) x.size),r.2.1.push u,r.2.2.1+1,r.2.2.2.1,r.2.2.2.2.1+1,0))
   else if r.2.2.2.2.1+1 >= mg then pure (.done (none,r.2.1.push u,r.2.2.1+1,r.2.2.2.1,r.2.2.2.2.1+1,0)) else pure (.yield (none,r.2.1.push u,r.2.2.1+1,r.2.2.2.1,r.2.2.2.2.1+1,0))
 |_=>pure (.done (some (r.2.1++x.extract r.2.2.1 x.size++y.extract r.2.2.2.1 y.size),r.2.1,r.2.2.1,r.2.2.2.1,r.2.2.2.2.1,r.2.2.2.2.2))
def S7 (x y o:Array Keyed)(i j mg:Nat):StateT SortSt Sem LO:=forIn [0:x.size+y.size] ((none,o,i,j,mg):LO) λ_ r=>do
 let u <- xE x y r.2.1 r.2.2.1 r.2.2.2.1 r.2.2.2.2
 match u.1 with
 |some z=>pure (.done (some z,u.2.1,u.2.2.1,u.2.2.2.1,r.2.2.2.2))
 |none=>do
  liftM (rule "list.sort.gallop")
  let v <- xD x y u.2.1 u.2.2.1 u.2.2.2.1 (r.2.2.2.2+1) u.2.2.2.2.1 u.2.2.2.2.2
  match v.1 with
  |some z=>pure (.done (some z,v.2.1,v.2.2.1,v.2.2.2.1,v.2.2.2.2.1))
  |none=>do
   mS (v.2.2.2.2.1+1)
   pure (.yield (none,v.2.1,v.2.2.1,v.2.2.2.1,v.2.2.2.2.1+1))
theorem aH8 (x y:Array Keyed):xB x y=(do
 liftM (rule "list.sort.merge-lo")
 let v <- elem' y 0
 if (1==y.size)=true then pure (#[v]++x.extract 0 x.size++y.extract 1 y.size)
 else if (0+1==x.size)=true then pure (#[v]++y.extract 1 y.size++x.extract 0 x.size)
 else do
  let z <- get
  let r <- S7 x y #[v] 0 1 (gallopOf z)
  match r.1 with
  |some z=>pure z
  |none=>unsupported "internal:list.sort.merge-bound"):=by kernel_rfl
section
variable (rk:Keyed→Int)
def Sd (l:List Keyed):Prop:=l.Pairwise λa b=>rk a<=rk b
structure MI (xs ys o:List Keyed)(i j:Nat):Prop where
 pm:o.Perm (xs.take i++ys.take j)
 sx:Sd rk (o++xs.drop i)
 sy:Sd rk (o++ys.drop j)
end
variable {rk:Keyed→Int}{xs ys o:List Keyed}{i j:Nat}
theorem Sd.ins {o a b d:List Keyed}(h1:Sd rk (o++a))(h2:Sd rk (o++(b++d)))(h:∀u∈b,∀t∈a,rk u<=rk t):Sd rk ((o++b)++a):=by
 unfold Sd at *
 rw[bo0]
 obtain⟨p1,p2,p3⟩:=bp8.mp h1
 obtain⟨q1,q2,q3⟩:=bp8.mp h2
 obtain⟨r1,r2,r3⟩:=bp8.mp q2
 refine bp8.mpr ⟨p1,bp8.mpr ⟨r1,p2,h⟩,λu hu t ht=>?_⟩
 rcases bn4.mp ht with z|z
 ·exact q3 u hu t (bt7 _ z)
 ·exact p3 u hu t z
theorem MI.ofy (m:MI rk xs ys o i j)(k:Nat)(h:∀u∈(ys.drop j).take k,∀t∈xs.drop i,rk u<=rk t):MI rk xs ys (o++(ys.drop j).take k) i (j+k):=by
 have e:(ys.drop j).take k++ys.drop (j+k)=ys.drop j:=by rw[<- List.drop_drop];exact bq7 k _
 refine⟨?_,Sd.ins m.sx (d:=ys.drop (j+k)) (by rw[e];exact m.sy) h,by rw[bo0,e];exact m.sy⟩
 rw[List.take_add,<- bo0]
 exact m.pm.append_right _
theorem MI.ofx (m:MI rk xs ys o i j)(k:Nat)(h:∀u∈(xs.drop i).take k,∀t∈ys.drop j,rk u<=rk t):MI rk xs ys (o++(xs.drop i).take k) (i+k) j:=by
 have e:(xs.drop i).take k++xs.drop (i+k)=xs.drop i:=by rw[<- List.drop_drop];exact bq7 k _
 refine⟨?_,by rw[bo0,e];exact m.sx,Sd.ins m.sy (d:=xs.drop (i+k)) (by rw[e];exact m.sx) h⟩
 rw[List.take_add]
 refine (m.pm.append_right _).trans ?_
 rw[bo0,bo0]
 exact (List.perm_append_comm).append_left _
theorem MI.fin (m:MI rk xs ys o i j)(h:xs.length<=i∨ys.length<=j):(o++xs.drop i++ys.drop j).Perm (xs++ys)/\Sd rk (o++xs.drop i++ys.drop j):=by
 refine⟨?_,?_⟩
 ·rw[bo0]
  refine (m.pm.append_right _).trans ?_
  have e1:xs=xs.take i++xs.drop i:=(bq7 i xs).symm
  have e2:ys=ys.take j++ys.drop j:=(bq7 j ys).symm
  conv=>rhs;rw[e1,e2]
  rw[bo0,bo0]
  refine List.Perm.append_left _ ?_
  rw[<- bo0,<- bo0]
  exact (List.perm_append_comm).append_right _
 ·rcases h with h|h
  ·rw[List.drop_eq_nil_of_le h,bo9];exact m.sy
  ·rw[List.drop_eq_nil_of_le h,bo9];exact m.sx
theorem MI.lst (m:MI rk xs ys o i j)(h:∀u∈ys,∀t∈xs.drop i,rk u<=rk t):(o++ys.drop j++xs.drop i).Perm (xs++ys)/\Sd rk (o++ys.drop j++xs.drop i):=by
 have m2:=m.ofy ys.length λu hu t ht=>h u (List.mem_of_mem_drop (List.mem_of_mem_take hu)) t ht
 have e:(ys.drop j).take ys.length=ys.drop j:=bp9 (by simp)
 rw[e]at m2
 have f:=m2.fin (.inr (by omega))
 rw[List.drop_eq_nil_of_le (as:=ys) (i:=j+ys.length) (by omega),bo9]at f
 exact f
theorem S8 {x:Array Keyed}{i k:Nat}{u:Keyed}(h:u∈(x.toList.drop i).take k):∃t,t<k/\i+t<x.size/\rk u=Kr rk x (i+t):=by
 obtain⟨t,ht,e⟩:=bv6 h
 have h1:t<k/\i+t<x.size:=by simp at ht;omega
 refine⟨t,h1.1,h1.2,?_⟩
 rw[cA h1.2,<- e]
 simp
theorem p9 {x:Array Keyed}{i:Nat}{u:Keyed}(h:u∈x.toList.drop i):∃t,i+t<x.size/\rk u=Kr rk x (i+t):=by
 obtain⟨t,ht,e⟩:=bv6 h
 have h1:i+t<x.size:=by simp at ht;omega
 refine⟨t,h1,?_⟩
 rw[cA h1,<- e]
 simp
theorem Sd.up {x:Array Keyed}(h:Sd rk x.toList)(lo hi:Nat)(hh:hi<=x.size):Up rk x lo hi:=λi j _ hij hj=>by
 rw[cA (by omega:i<x.size),cA (by omega:j<x.size)]
 rcases bA5 hij with z|z
 ·subst z;exact bv9 _
 ·have:=bp3.mp h i j (by simp;omega) (by simp;omega) z
  simpa using this
theorem S9 (x:Array Keyed)(i k:Nat):(x.extract i (i+k)).toList=(x.toList.drop i).take k:=by
 simp[List.extract]
theorem rW (x:Array Keyed)(i:Nat):(x.extract i x.size).toList=x.toList.drop i:=by
 simp[List.extract]
 exact bp9 (by simp)
theorem lI {x:Array Keyed}{i:Nat}(h:i<x.size):[x[i]]=(x.toList.drop i).take 1:=by
 rw[List.drop_eq_getElem_cons (by simpa using h)];simp
structure Gq (st st':SortSt):Prop where
 kd:kindOf st'=kindOf st
 ar:arrOf st'=arrOf st
 pd:pendingOf st'=pendingOf st
 ok:failedOf st'=failedOf st
theorem Gq.refl (st:SortSt):Gq st st:=⟨rfl,rfl,rfl,rfl⟩
section
variable {κ:SortKind}{st:SortSt}{prog:Program}{w:World}{A:Around}{E:Value→Shared→Prop}{s:Shared}{Ok:Keyed→Prop}
theorem rX {st0:SortSt}{g:Nat}{Q:Unit->SortSt->Prop}(q:Gq st0 st)(h:∀st',Gq st0 st'->Q () st'):wpS (model prog w) A E s (mS g) Q st:=by
 rw[aH7];exact wpS_modify (h _ ⟨q.kd,q.ar,q.pd,q.ok⟩)
def dZ (rk:Keyed->Int)(x y r:Array Keyed):Prop:=r.toList.Perm (x.toList++y.toList)/\Sd rk r.toList
theorem MI.y1 {x y o:Array Keyed}(m:MI rk x.toList y.toList o.toList i j)(hj:j<y.size)(h:∀t,i+t<x.size->rk y[j]<=Kr rk x (i+t)):MI rk x.toList y.toList (o.push y[j]).toList i (j+1):=by
 have:=m.ofy 1 λu hu t ht=>?_
 ·rw[<- lI hj]at this;simpa using this
 ·rw[<- lI hj,bl0]at hu
  subst hu
  obtain⟨q,q1,q2⟩:=p9 (rk:=rk) ht
  rw[q2];exact h q q1
theorem MI.x1 {x y o:Array Keyed}(m:MI rk x.toList y.toList o.toList i j)(hi:i<x.size)(h:∀t,j+t<y.size->rk x[i]<=Kr rk y (j+t)):MI rk x.toList y.toList (o.push x[i]).toList (i+1) j:=by
 have:=m.ofx 1 λu hu t ht=>?_
 ·rw[<- lI hi]at this;simpa using this
 ·rw[<- lI hi,bl0]at hu
  subst hu
  obtain⟨q,q1,q2⟩:=p9 (rk:=rk) ht
  rw[q2];exact h q q1
theorem MI.yk {x y o:Array Keyed}(m:MI rk x.toList y.toList o.toList i j)(k:Nat)(h:∀p t,p<k->j+p<y.size->i+t<x.size->Kr rk y (j+p)<=Kr rk x (i+t)):MI rk x.toList y.toList (o++y.extract j (j+k)).toList i (j+k):=by
 have:=m.ofy k λu hu t ht=>?_
 ·rw[<- S9]at this;rw[bt4];exact this
 ·obtain⟨p,p1,p2,p3⟩:=S8 (rk:=rk) hu
  obtain⟨q,q1,q2⟩:=p9 (rk:=rk) ht
  rw[q2,p3];exact h p q p1 p2 q1
theorem MI.xk {x y o:Array Keyed}(m:MI rk x.toList y.toList o.toList i j)(k:Nat)(h:∀p t,p<k->i+p<x.size->j+t<y.size->Kr rk x (i+p)<=Kr rk y (j+t)):MI rk x.toList y.toList (o++x.extract i (i+k)).toList (i+k) j:=by
 have:=m.ofx k λu hu t ht=>?_
 ·rw[<- S9]at this;rw[bt4];exact this
 ·obtain⟨p,p1,p2,p3⟩:=S8 (rk:=rk) hu
  obtain⟨q,q1,q2⟩:=p9 (rk:=rk) ht
  rw[q2,p3];exact h p q p1 p2 q1
theorem mT {key:Keyed}{xs:Array Keyed}{bs i:Nat}:bW rk false key xs bs i=decide (Kr rk xs (bs+i)<=rk key):=rfl
theorem mU {key:Keyed}{xs:Array Keyed}{bs i:Nat}:bW rk true key xs bs i=decide (Kr rk xs (bs+i)<rk key):=rfl
def GI (rk:Keyed->Int)(x y:Array Keyed)(lb:Nat)(st:SortSt)(c:LS)(st':SortSt):Prop:=Gq st st'/\∃o i j mg p q,c=(none,o,i,j,mg,p,q)/\MI rk x.toList y.toList o.toList i j/\i+1<x.size/\j<y.size/\lb<=i+j
def GQ (rk:Keyed->Int)(x y:Array Keyed)(lb:Nat)(st:SortSt)(c:LS)(st':SortSt):Prop:=Gq st st'/\((∃r o i j mg p q,c=(some r,o,i,j,mg,p,q)/\dZ rk x y r)∨∃o i j mg p q,c=(none,o,i,j,mg,p,q)/\MI rk x.toList y.toList o.toList i j/\i+1<x.size/\j<y.size/\lb<=i+j)
def GR (rk:Keyed->Int)(x y:Array Keyed)(lb:Nat)(st:SortSt)(r:ForInStep LS)(st':SortSt):Prop:=match r with|.done c=>GQ rk x y lb st c st'|.yield c=>GI rk x y lb st c st'
theorem MI.done {x y o:Array Keyed}(m:MI rk x.toList y.toList o.toList i j)(hh:x.size<=i∨y.size<=j):dZ rk x y (o++x.extract i x.size++y.extract j y.size):=by
 unfold dZ
 rw[bt4,bt4,rW,rW]
 exact m.fin (by simpa using hh)
theorem MI.last {x y o:Array Keyed}(m:MI rk x.toList y.toList o.toList i j)(x0:0<x.size)(hl:∀u∈y.toList,rk u<=rk x[x.size-1])(hh:i+1=x.size):dZ rk x y (o++y.extract j y.size++x.extract i x.size):=by
 unfold dZ
 rw[bt4,bt4,rW,rW]
 refine m.lst λu hu t ht=>?_
 obtain⟨q,q1,q2⟩:=p9 (rk:=rk) ht
 have e:i+q=x.size-1:=by omega
 rw[q2,e,cA (by omega)]
 exact hl u hu
theorem T0 {st0:SortSt}{x y o:Array Keyed}{mg p q lb:Nat}(x0:0<x.size)(hl:∀u∈y.toList,rk u<=rk x[x.size-1])(g:Gq st0 st)(m:MI rk x.toList y.toList o.toList i j)(hi:i+1<x.size)(hj:j<y.size)(hb:lb<=i+j)(hm:∀t,j+t<y.size->rk x[i]<=Kr rk y (j+t)):wpS (model prog w) A E s (rS x y o i j mg p q) (GR rk x y lb st0) st:=by
 unfold rS
 have hi':i<x.size:=by omega
 have m':=m.x1 hi' hm
 refine bm2 (dB hi' ?_)
 by_cases he:(i+1+1==x.size)=true
 ·rw[if_pos he]
  have he:i+1+1=x.size:=by simpa using he
  exact bm9 ⟨g,.inl ⟨_,_,_,_,_,_,_,rfl,m'.last x0 hl he⟩⟩
 ·rw[if_neg he]
  have he:i+1+1≠x.size:=by simpa using he
  split
  ·exact bm9 ⟨g,.inr ⟨_,_,_,_,_,_,rfl,m',by omega,hj,by omega⟩⟩
  ·exact bm9 ⟨g,_,_,_,_,_,_,rfl,m',by omega,hj,by omega⟩
theorem T1 (c:bV prog w A E s κ Ok rk){st0:SortSt}(hk:kindOf st0=κ){x y o:Array Keyed}{mg p q lb:Nat}(ox:bL Ok x)(oy:bL Ok y)(sx:Sd rk x.toList)(sy:Sd rk y.toList)(x0:0<x.size)(hl:∀u∈y.toList,rk u<=rk x[x.size-1])(g:Gq st0 st)(m:MI rk x.toList y.toList o.toList i j)(hi:i+1<x.size)(hj:j<y.size)(hb:lb<=i+j)(hm:∀t,i+t<x.size->rk y[j]<=Kr rk x (i+t)):wpS (model prog w) A E s (rT x y o i j mg p q) (GR rk x y lb st0) st:=by
 unfold rT
 have hi':i<x.size:=by omega
 have m':=m.y1 hj hm
 refine bm2 (dB hj ?_)
 by_cases he:(j+1==y.size)=true
 ·rw[if_pos he]
  have he:j+1=y.size:=by simpa using he
  exact bm9 ⟨g,.inl ⟨_,_,_,_,_,_,_,rfl,m'.done (.inr (by omega))⟩⟩
 ·rw[if_neg he]
  have he:j+1≠y.size:=by simpa using he
  refine bm2 (dB hi' (bm2 (mR c (g.kd.trans hk) (ox _ (bq3 hi')) oy (by omega) (by omega) (sy.up _ _ (by omega)) λk k1 k2 k3=>?_)))
  dsimp only
  have ux:=sx.up 0 _ (bk7 x.size)
  have mk:=m'.yk k λp t hp _ ht=>by
   have a1:=k2 p hp
   rw[mU,bm8]at a1
   have a2:=ux i (i+t) (by omega) (by omega) ht
   rw[cA hi']at a2
   omega
  have km:∀t,j+1+k+t<y.size->rk x[i]<=Kr rk y (j+1+k+t):=λt ht=>by
   have a1:=k3 (k+t) (by omega) (by omega)
   rw[mU,bq4,<- Nat.add_assoc]at a1
   omega
  by_cases hk0:k>0
  ·rw[if_pos hk0]
   by_cases hf:(j+1+k==y.size)=true
   ·rw[if_pos hf]
    have hf:j+1+k=y.size:=by simpa using hf
    exact bm9 ⟨g,.inl ⟨_,_,_,_,_,_,_,rfl,mk.done (.inr (by omega))⟩⟩
   ·rw[if_neg hf]
    have hf:j+1+k≠y.size:=by simpa using hf
    exact T0 x0 hl g mk hi (by omega) (by omega) km
  ·rw[if_neg hk0]
   have e0:k=0:=by omega
   subst e0
   exact T0 x0 hl g m' hi (by omega) (by omega) km
theorem T4 (c:bV prog w A E s κ Ok rk){st0:SortSt}(hk:kindOf st0=κ){x y o:Array Keyed}{mg p q lb:Nat}(ox:bL Ok x)(oy:bL Ok y)(sx:Sd rk x.toList)(sy:Sd rk y.toList)(x0:0<x.size)(hl:∀u∈y.toList,rk u<=rk x[x.size-1])(g:Gq st0 st)(m:MI rk x.toList y.toList o.toList i j)(hi:i+1<x.size)(hj:j<y.size)(hb:lb<=i+j) :
  wpS (model prog w) A E s (rV x y o i j mg p q) (GR rk x y lb st0) st:=by
 unfold rV
 refine bm2 (rX g λst4 q4=>bm2 (dB hj (bm2 (mR c (q4.kd.trans hk) (oy _ (bq3 hj)) ox (by omega) (by omega) (sx.up _ _ (by omega)) λk k1 k2 k3=>?_))))
 dsimp only
 have uy:=sy.up 0 _ (bk7 y.size)
 have mk:=m.xk k λp t hp _ ht=>by
  have a1:=k2 p hp
  rw[mT,bm8]at a1
  have a2:=uy j (j+t) (by omega) (by omega) ht
  rw[cA hj]at a2
  omega
 have km:∀t,i+k+t<x.size->rk y[j]<=Kr rk x (i+k+t):=λt ht=>by
  have a1:=k3 (k+t) (by omega) (by omega)
  rw[mT,bq4,<- Nat.add_assoc]at a1
  omega
 by_cases hk0:k>0
 ·rw[if_pos hk0]
  by_cases he:(i+k+1==x.size)=true
  ·rw[if_pos he]
   exact bm9 ⟨q4,.inl ⟨_,_,_,_,_,_,_,rfl,mk.last x0 hl (by simpa using he)⟩⟩
  ·rw[if_neg he]
   have he:i+k+1≠x.size:=by simpa using he
   by_cases hf:(i+k==x.size)=true
   ·rw[if_pos hf]
    have hf:i+k=x.size:=by simpa using hf
    exact bm9 ⟨q4,.inl ⟨_,_,_,_,_,_,_,rfl,mk.done (.inl (by omega))⟩⟩
   ·rw[if_neg hf]
    have hf:i+k≠x.size:=by simpa using hf
    exact T1 c hk ox oy sx sy x0 hl q4 mk (by omega) hj (by omega) km
 ·rw[if_neg hk0]
  have e0:k=0:=by omega
  subst e0
  exact T1 c hk ox oy sx sy x0 hl q4 m hi hj hb km
theorem aH9 (c:bV prog w A E s κ Ok rk){st0:SortSt}(hk:kindOf st0=κ){x y o:Array Keyed}{mg p q lb:Nat}(ox:bL Ok x)(oy:bL Ok y)(sx:Sd rk x.toList)(sy:Sd rk y.toList)(x0:0<x.size)(hl:∀u∈y.toList,rk u<=rk x[x.size-1])(g:Gq st0 st)(m:MI rk x.toList y.toList o.toList i j)(hi:i+1<x.size)(hj:j<y.size)(hb:lb<=i+j) :
  wpS (model prog w) A E s (xD x y o i j mg p q) (GQ rk x y lb st0) st:=by
 unfold xD
 refine bu0 (I:=λ_=>GI rk x y lb st0) ?_ ?_ ⟨g,o,i,j,_,p,q,rfl,m,hi,hj,hb⟩
 ·rintro t c3 st3 _ _ ⟨q3,o,i,j,mg,p,q,rfl,m,hi,hj,pr3⟩
  dsimp only
  split
  ·exact bB4 (T4 c hk ox oy sx sy x0 hl q3 m hi hj pr3) λr _ hr=>by cases r<;>exact hr
  ·exact bB4 (T4 c hk ox oy sx sy x0 hl q3 m hi hj pr3) λr _ hr=>by cases r<;>exact hr
 ·rintro c3 st3 ⟨q3,o,i,j,mg,p,q,rfl,m,hi,hj,pr3⟩
  exact⟨q3,.inr ⟨_,_,_,_,_,_,rfl,m,hi,hj,pr3⟩⟩
theorem aI0 (c:bV prog w A E s κ Ok rk){st0:SortSt}(hk:kindOf st0=κ){x y o:Array Keyed}{mg:Nat}{Q:xC->SortSt->Prop}(ox:bL Ok x)(oy:bL Ok y)(sx:Sd rk x.toList)(sy:Sd rk y.toList)(x0:0<x.size)(hl:∀u∈y.toList,rk u<=rk x[x.size-1])(g:Gq st0 st)(m:MI rk x.toList y.toList o.toList i j)(hi:i+1<x.size)(hj:j<y.size)(h1:∀r o' i' j' p q st',Gq st0 st'->dZ rk x y r->Q (some r,o',i',j',p,q) st')(h2:∀o' i' j' p q st',Gq st0 st'->MI rk x.toList y.toList o'.toList i' j'->i'+1<x.size->j'<y.size->i+j+1<=i'+j'->Q (none,o',i',j',p,q) st') :
  wpS (model prog w) A E s (xE x y o i j mg) Q st:=by
 have ux:Up rk x 0 x.size:=sx.up 0 _ (bk7 _)
 have uy:Up rk y 0 y.size:=sy.up 0 _ (bk7 _)
 unfold xE
 refine bu0 (I:=λt c st'=>Gq st0 st'/\∃o i' j' p q,c=(none,o,i',j',p,q)/\MI rk x.toList y.toList o.toList i' j'/\i'+1<x.size/\j'<y.size/\i+j+t<=i'+j') ?_ ?_ ⟨g,o,i,j,0,0,rfl,m,hi,hj,by omega⟩
 ·rintro t c2 st2 _ ht ⟨q2,o,i',j',p,q,rfl,m,hi,hj,pr2⟩
  dsimp only
  have hi':i'<x.size:=by omega
  refine bm2 (dB hj (bm2 (dB hi' (bm2 (c _ _ (oy _ (bq3 hj)) (ox _ (bq3 hi')) st2 _ (q2.kd.trans hk) ?_)))))
  by_cases hc:rk y[j']<rk x[i']
  ·rw[bl6 hc]
   dsimp only
   rw[if_pos rfl]
   have m':=m.y1 hj λt ht=>by
    have:=ux i' (i'+t) (by omega) (by omega) ht
    rw[cA hi']at this
    omega
   refine bm2 (dB hj ?_)
   by_cases he:(j'+1==y.size)=true
   ·rw[if_pos he]
    have he:j'+1=y.size:=by simpa using he
    exact bm9 (h1 _ _ _ _ _ _ _ q2 (m'.done (.inr (by omega))))
   ·rw[if_neg he]
    have he:j'+1≠y.size:=by simpa using he
    split
    ·exact bm9 (h2 _ _ _ _ _ _ q2 m' hi (by omega) (by omega))
    ·exact bm9 ⟨q2,_,_,_,_,_,rfl,m',hi,by omega,by omega⟩
  ·rw[bl1 hc]
   dsimp only
   rw[if_neg bm6]
   have m':=m.x1 hi' λt ht=>by
    have:=uy j' (j'+t) (by omega) (by omega) ht
    rw[cA hj]at this
    omega
   refine bm2 (dB hi' ?_)
   by_cases he:(i'+1+1==x.size)=true
   ·rw[if_pos he]
    exact bm9 (h1 _ _ _ _ _ _ _ q2 (m'.last x0 hl (by simpa using he)))
   ·rw[if_neg he]
    have he:i'+1+1≠x.size:=by simpa using he
    split
    ·exact bm9 (h2 _ _ _ _ _ _ q2 m' (by omega) hj (by omega))
    ·exact bm9 ⟨q2,_,_,_,_,_,rfl,m',by omega,hj,by omega⟩
 ·rintro c2 st2 ⟨q2,o,i',j',p,q,rfl,m,hi,hj,pr2⟩
  exact h2 _ _ _ _ _ _ q2 m hi hj (by omega)
theorem aI1 (c:bV prog w A E s κ Ok rk)(hk:kindOf st=κ){x y:Array Keyed}{Q:Array Keyed->SortSt->Prop}(ox:bL Ok x)(oy:bL Ok y)(sx:Sd rk x.toList)(sy:Sd rk y.toList)(x0:0<x.size)(y0:0<y.size)(hf:∀t∈x.toList,rk y[0]<=rk t)(hl:∀u∈y.toList,rk u<=rk x[x.size-1])(h:∀r st',Gq st st'->dZ rk x y r->Q r st'):wpS (model prog w) A E s (xB x y) Q st:=by
 rw[aH8]
 refine bm2 (wpS_lift (bz2 ⟨rfl,bm2 (dB y0 ?_)⟩))
 have m0:MI rk x.toList y.toList (#[y[0]]:Array Keyed).toList 0 1:=by
  have mm:MI rk x.toList y.toList [] 0 0:=⟨by simp,sx,sy⟩
  have:=mm.ofy 1 λu hu t ht=>?_
  ·rw[<- lI y0]at this;exact this
  ·rw[<- lI y0,bl0]at hu
   subst hu
   exact hf t ht
 by_cases e1:(1==y.size)=true
 ·rw[if_pos e1]
  have e1:1=y.size:=by simpa using e1
  exact bm9 (h _ st (Gq.refl st) (m0.done (.inr (by omega))))
 ·rw[if_neg e1]
  have e1:1≠y.size:=by simpa using e1
  by_cases e2:(0+1==x.size)=true
  ·rw[if_pos e2]
   exact bm9 (h _ st (Gq.refl st) (m0.last x0 hl (by simpa using e2)))
  ·rw[if_neg e2]
   have e2:0+1≠x.size:=by simpa using e2
   refine bm2 (wpS_get ?_)
   unfold S7
   refine bm2 (bB4 (bu0
    (I:=λn c st'=>Gq st st'/\∃o i j mg,c=(none,o,i,j,mg)/\MI rk x.toList y.toList o.toList i j/\i+1<x.size/\j<y.size/\n+1<=i+j)
    (Q:=λc st'=>Gq st st'/\∃r o i j mg,c=(some r,o,i,j,mg)/\dZ rk x y r) ?_ ?_ ⟨Gq.refl st,_,0,1,_,rfl,m0,by omega,by omega,by omega⟩) ?_)
   ·rintro n c1 st1 _ hn ⟨q1,o,i,j,mg,rfl,m,hi,hj,pr⟩
    dsimp only
    refine bm2 (aI0 c hk ox oy sx sy x0 hl q1 m hi hj (λr o' i' j' p q st' g md=>bm9 ⟨g,r,_,_,_,_,rfl,md⟩) λo' i' j' p q st' g m' hi' hj' pr'=>?_)
    refine bm2 (wpS_lift (bz2 ⟨rfl,?_⟩))
    refine bm2 (bB4 (aH9 c hk ox oy sx sy x0 hl g m' hi' hj' pr') ?_)
    rintro c3 st3 ⟨q3,⟨r,o,i3,j3,mg,p,q,rfl,md⟩|⟨o,i3,j3,mg,p,q,rfl,m,hi,hj,pr3⟩⟩
    ·exact bm9 ⟨q3,r,_,_,_,_,rfl,md⟩
    ·exact bm2 (rX q3 λst4 q4=>bm9 ⟨q4,o,i3,j3,_,rfl,m,hi,hj,by omega⟩)
   ·rintro c1 st1 ⟨q1,o,i,j,mg,rfl,m,hi,hj,pr⟩
    exact absurd pr (by omega)
   ·rintro c1 st1 ⟨q1,r,o,i,j,mg,rfl,md⟩
    exact bm9 (h r _ q1 md)
end
def xF:Array Keyed->Array Keyed->StateT SortSt Sem (Array Keyed):=sortPriv% PySem.Builtin.mergeHi
abbrev LH:=Option (Array Keyed)×Nat×Nat×Array Keyed×Nat×Nat×Nat
abbrev xG:=Option (Array Keyed)×Nat×Nat×Array Keyed×Nat×Nat
abbrev LP:=Option (Array Keyed)×Nat×Nat×Array Keyed×Nat
def rY (x y o:Array Keyed)(i j mg p q:Nat):StateT SortSt Sem (ForInStep LH):=do
 let v <- elem' x (i-1)
 if (i-1==0)=true then pure (.done (some (x.extract 0 (i-1)++y.extract 0 j++(o.push v).reverse),i-1,j,o.push v,mg,p,q))
 else if (decide (p<7)&&decide (q<7))=true then pure (.done (none,i-1,j,o.push v,mg,p,q)) else pure (.yield (none,i-1,j,o.push v,mg,p,q))
def rZ (x y o:Array Keyed)(i j mg p q:Nat):StateT SortSt Sem (ForInStep LH):=do
 let v <- elem' y (j-1)
 if (j-1==1)=true then pure (.done (some (y.extract 0 (j-1)++x.extract 0 i++(o.push v).reverse),i,j-1,o.push v,mg,p,q)) else do
  let u <- elem' x (i-1)
  match <- k7 true u y 0 (j-1) (j-1-1) with
  |some z=>
   if j-1-z>0 then
    if (z==1)=true then pure (.done (some (y.extract 0 z++x.extract 0 i++(o.push v++(y.extract z (j-1)).reverse).reverse),i,z,o.push v++(y.extract z (j-1)).reverse,mg,p,j-1-z))
    else if (z==0)=true then pure (.done (some (x.extract 0 i++y.extract 0 z++(o.push v++(y.extract z (j-1)).reverse).reverse),i,z,o.push v++(y.extract z (j-1)).reverse,mg,p,j-1-z))
    else rY x y (o.push v++(y.extract z (j-1)).reverse) i z mg p (j-1-z)
   else rY x y (o.push v) i (j-1) mg p (j-1-z)
  |_=>pure (.done (some (x.extract 0 i++y.extract 0 (j-1)++(o.push v).reverse),i,j-1,o.push v,mg,p,q))
def sA (x y o:Array Keyed)(i j mg p q:Nat):StateT SortSt Sem (ForInStep LH):=do
 mS mg
 let v <- elem' y (j-1)
 match <- k7 false v x 0 i (i-1) with
 |some z=>
  if i-z>0 then
   if (z==0)=true then pure (.done (some (x.extract 0 z++y.extract 0 j++(o++(x.extract z i).reverse).reverse),z,j,o++(x.extract z i).reverse,mg,i-z,q))
   else rZ x y (o++(x.extract z i).reverse) z j mg (i-z) q
  else rZ x y o i j mg (i-z) q
 |_=>pure (.done (some (x.extract 0 i++y.extract 0 j++o.reverse),i,j,o,mg,p,q))
def xH (x y o:Array Keyed)(i j mg p q:Nat):StateT SortSt Sem LH:=forIn [0:x.size+y.size] ((none,i,j,o,mg,p,q):LH) λ_ r=>
 if r.2.2.2.2.1>1 then sA x y r.2.2.2.1 r.2.1 r.2.2.1 (r.2.2.2.2.1-1) r.2.2.2.2.2.1 r.2.2.2.2.2.2 else sA x y r.2.2.2.1 r.2.1 r.2.2.1 r.2.2.2.2.1 r.2.2.2.2.2.1 r.2.2.2.2.2.2
def xI (x y o:Array Keyed)(i j mg:Nat):StateT SortSt Sem xG:=forIn [0:x.size+y.size] ((none,i,j,o,0,0):xG) λ_ r=>do
 let v <- elem' y (r.2.2.1-1)
 let u <- elem' x (r.2.1-1)
 match <- lt' v u with
 |some q=>
  if q=true then do
   let u <- elem' x (r.2.1-1)
   if (r.2.1-1==0)=true then pure (.done (some (x.extract 0 (r.2.1-1)++y.extract 0 r.2.2.1++(r.2.2.2.1.push u).reverse),r.2.1-1,r.2.2.1,r.2.2.2.1.push u,r.2.2.2.2.1+1,0))
   else if r.2.2.2.2.1+1 >= mg then pure (.done (none,r.2.1-1,r.2.2.1,r.2.2.2.1.push u,r.2.2.2.2.1+1,0)) else pure (.yield (none,r.2.1-1,r.2.2.1,r.2.2.2.1.push u,r.2.2.2.2.1+1,0))
  else do
   let v <- elem' y (r.2.2.1-1)
   if (r.2.2.1-1==1)=true then pure (.done (some (y.extract 0 (r.2.2.1-1)++x.extract 0 r.2.1++(r.2.2.2.1.push v).reverse),r.2.1,r.2.2.1-1,r.2.2.2.1.push v,0,r.2.2.2.2.2+1))
   else if r.2.2.2.2.2+1 >= mg then pure (.done (none,r.2.1,r.2.2.1-1,r.2.2.2.1.push v,0,r.2.2.2.2.2+1)) else pure (.yield (none,r.2.1,r.2.2.1-1,r.2.2.2.1.push v,0,r.2.2.2.2.2+1))
 |_=>pure (.done (some (x.extract 0 r.2.1++y.extract 0 r.2.2.1++r.2.2.2.1.reverse),r.2.1,r.2.2.1,r.2.2.2.1,r.2.2.2.2.1,r.2.2.2.2.2))
def T5 (x y o:Array Keyed)(i j mg:Nat):StateT SortSt Sem LP:=forIn [0:x.size+y.size] ((none,i,j,o,mg):LP) λ_ r=>do
 let u <- xI x y r.2.2.2.1 r.2.1 r.2.2.1 r.2.2.2.2
 match u.1 with
 |some z=>pure (.done (some z,u.2.1,u.2.2.1,u.2.2.2.1,r.2.2.2.2))
 |none=>do
  liftM (rule "list.sort.gallop")
  let v <- xH x y u.2.2.2.1 u.2.1 u.2.2.1 (r.2.2.2.2+1) u.2.2.2.2.1 u.2.2.2.2.2
  match v.1 with
  |some z=>pure (.done (some z,v.2.1,v.2.2.1,v.2.2.2.1,v.2.2.2.2.1))
  |none=>do
   mS (v.2.2.2.2.1+1)
   pure (.yield (none,v.2.1,v.2.2.1,v.2.2.2.1,v.2.2.2.2.1+1))
theorem aI2 (x y:Array Keyed):xF x y=(do
 liftM (rule "list.sort.merge-hi")
 let v <- elem' x (x.size-1)
 if (x.size-1==0)=true then pure (x.extract 0 (x.size-1)++y.extract 0 y.size++(#[v]:Array Keyed).reverse)
 else if (y.size==1)=true then pure (y.extract 0 y.size++x.extract 0 (x.size-1)++(#[v]:Array Keyed).reverse)
 else do
  let z <- get
  let r <- T5 x y #[v] (x.size-1) y.size (gallopOf z)
  match r.1 with
  |some z=>pure z
  |none=>unsupported "internal:list.sort.merge-bound"):=by kernel_rfl
structure MH (rk:Keyed->Int)(xs ys o:List Keyed)(i j:Nat):Prop where
 pm:o.Perm (xs.drop i++ys.drop j)
 sx:Sd rk (xs.take i++o)
 sy:Sd rk (ys.take j++o)
variable {rk:Keyed→Int}{xs ys o:List Keyed}{i j:Nat}
theorem Sd.insR {o a b d:List Keyed}(h1:Sd rk (a++o))(h2:Sd rk ((d++b)++o))(h:∀t∈a,∀u∈b,rk t<=rk u):Sd rk (a++(b++o)):=by
 unfold Sd at *
 obtain⟨p1,p2,p3⟩:=bp8.mp h1
 obtain⟨q1,q2,q3⟩:=bp8.mp h2
 obtain⟨r1,r2,r3⟩:=bp8.mp q1
 refine bp8.mpr ⟨p1,bp8.mpr ⟨r2,p2,λu hu t ht=>q3 u (bo6 _ hu) t ht⟩,λu hu t ht=>?_⟩
 rcases bn4.mp ht with z|z
 ·exact h u hu t z
 ·exact p3 u hu t z
theorem sB (l:List Keyed){z j:Nat}(h:z<=j):l.take z++(l.take j).drop z=l.take j:=by
 have e:l.take z=(l.take j).take z:=by rw[List.take_take,Nat.min_eq_left h]
 rw[e];exact bq7 z _
theorem xJ (l:List Keyed){z j:Nat}(h:z<=j):(l.take j).drop z++l.drop j=l.drop z:=by
 rw[bB9,show l.drop j=(l.drop z).drop (j-z) by rw[List.drop_drop,Nat.add_sub_cancel' h]]
 exact bq7 _ _
theorem MH.ofy (m:MH rk xs ys o i j){z:Nat}(hz:z<=j)(h:∀t∈xs.take i,∀u∈(ys.take j).drop z,rk t<=rk u):MH rk xs ys ((ys.take j).drop z++o) i z:=by
 refine⟨?_,Sd.insR m.sx (d:=ys.take z) (by rw[sB _ hz];exact m.sy) h,by rw[<- bo0,sB _ hz];exact m.sy⟩
 rw[<- xJ ys hz]
 refine (m.pm.append_left _).trans ?_
 rw[<- bo0,<- bo0]
 exact (List.perm_append_comm).append_right _
theorem MH.ofx (m:MH rk xs ys o i j){z:Nat}(hz:z<=i)(h:∀t∈ys.take j,∀u∈(xs.take i).drop z,rk t<=rk u):MH rk xs ys ((xs.take i).drop z++o) z j:=by
 refine⟨?_,by rw[<- bo0,sB _ hz];exact m.sx,Sd.insR m.sy (d:=xs.take z) (by rw[sB _ hz];exact m.sx) h⟩
 rw[<- xJ xs hz,bo0]
 exact m.pm.append_left _
theorem MH.fin (m:MH rk xs ys o i j)(h:i=0∨j=0):(xs.take i++ys.take j++o).Perm (xs++ys)/\Sd rk (xs.take i++ys.take j++o):=by
 refine⟨?_,?_⟩
 ·have e1:xs=xs.take i++xs.drop i:=(bq7 i xs).symm
  have e2:ys=ys.take j++ys.drop j:=(bq7 j ys).symm
  conv=>rhs;rw[e1,e2]
  rw[bo0,bo0]
  refine List.Perm.append_left _ ((m.pm.append_left _).trans ?_)
  rw[<- bo0,<- bo0]
  exact (List.perm_append_comm).append_right _
 ·rcases h with h|h
  ·subst h;simpa using m.sy
  ·subst h;simpa using m.sx
theorem MH.fst (m:MH rk xs ys o i j)(h:∀t∈ys.take j,∀u∈xs,rk t<=rk u):(ys.take j++xs.take i++o).Perm (xs++ys)/\Sd rk (ys.take j++xs.take i++o):=by
 have m2:=m.ofx (bo4 i) λt ht u hu=>h t ht u (List.mem_of_mem_take (List.mem_of_mem_drop hu))
 have f:=m2.fin (.inl rfl)
 simpa using f
theorem pA {x:Array Keyed}{i:Nat}{u:Keyed}(h:u∈x.toList.take i):∃t,t<i/\t<x.size/\rk u=Kr rk x t:=by
 obtain⟨t,ht,e⟩:=bv6 h
 have h1:t<i/\t<x.size:=by simp at ht;omega
 refine⟨t,h1.1,h1.2,?_⟩
 rw[cA h1.2,<- e]
 simp
theorem pB {x:Array Keyed}{z i:Nat}{u:Keyed}(h:u∈(x.toList.take i).drop z):∃t,z<=t/\t<i/\t<x.size/\rk u=Kr rk x t:=by
 obtain⟨t,ht,e⟩:=bv6 h
 have h1:z+t<i/\z+t<x.size:=by simp at ht;omega
 refine⟨z+t,by omega,h1.1,h1.2,?_⟩
 rw[cA h1.2,<- e]
 simp
theorem lJ (x:Array Keyed)(z i:Nat):(x.extract z i).toList=(x.toList.take i).drop z:=by
 rw[bB9];simp[List.extract]
theorem sD (x:Array Keyed)(i:Nat):(x.extract 0 i).toList=x.toList.take i:=by
 simp[List.extract]
theorem pC {x:Array Keyed}{i:Nat}(h:i<x.size):[x[i]]=(x.toList.take (i+1)).drop i:=by
 rw[bB9,lI h,show i+1-i=1 by omega]
section
variable {κ:SortKind}{st:SortSt}{prog:Program}{w:World}{A:Around}{E:Value→Shared→Prop}{s:Shared}{Ok:Keyed→Prop}
theorem MH.y1 {x y o:Array Keyed}(m:MH rk x.toList y.toList o.toList.reverse i (j+1))(hj:j<y.size)(h:∀t,t<i->t<x.size->Kr rk x t<=rk y[j]):MH rk x.toList y.toList (o.push y[j]).toList.reverse i j:=by
 have:=m.ofy (Nat.le_succ j) λt ht u hu=>?_
 ·rw[<- pC hj]at this;simpa using this
 ·rw[<- pC hj,bl0]at hu
  subst hu
  obtain⟨q,q1,q2,q3⟩:=pA (rk:=rk) ht
  rw[q3];exact h q q1 q2
theorem MH.x1 {x y o:Array Keyed}(m:MH rk x.toList y.toList o.toList.reverse (i+1) j)(hi:i<x.size)(h:∀t,t<j->t<y.size->Kr rk y t<=rk x[i]):MH rk x.toList y.toList (o.push x[i]).toList.reverse i j:=by
 have:=m.ofx (Nat.le_succ i) λt ht u hu=>?_
 ·rw[<- pC hi]at this;simpa using this
 ·rw[<- pC hi,bl0]at hu
  subst hu
  obtain⟨q,q1,q2,q3⟩:=pA (rk:=rk) ht
  rw[q3];exact h q q1 q2
theorem MH.yk {x y o:Array Keyed}(m:MH rk x.toList y.toList o.toList.reverse i j){z:Nat}(hz:z<=j)(h:∀t p,t<i->t<x.size->z<=p->p<j->p<y.size->Kr rk x t<=Kr rk y p):MH rk x.toList y.toList (o++(y.extract z j).reverse).toList.reverse i z:=by
 have:=m.ofy hz λt ht u hu=>?_
 ·rw[<- lJ]at this;simpa using this
 ·obtain⟨q,q1,q2,q3⟩:=pA (rk:=rk) ht
  obtain⟨p,p1,p2,p3,p4⟩:=pB (rk:=rk) hu
  rw[q3,p4];exact h q p q1 q2 p1 p2 p3
theorem MH.xk {x y o:Array Keyed}(m:MH rk x.toList y.toList o.toList.reverse i j){z:Nat}(hz:z<=i)(h:∀t p,t<j->t<y.size->z<=p->p<i->p<x.size->Kr rk y t<=Kr rk x p):MH rk x.toList y.toList (o++(x.extract z i).reverse).toList.reverse z j:=by
 have:=m.ofx hz λt ht u hu=>?_
 ·rw[<- lJ]at this;simpa using this
 ·obtain⟨q,q1,q2,q3⟩:=pA (rk:=rk) ht
  obtain⟨p,p1,p2,p3,p4⟩:=pB (rk:=rk) hu
  rw[q3,p4];exact h q p q1 q2 p1 p2 p3
theorem MH.done {x y o:Array Keyed}(m:MH rk x.toList y.toList o.toList.reverse i j)(hh:i=0∨j=0):dZ rk x y (x.extract 0 i++y.extract 0 j++o.reverse):=by
 unfold dZ
 rw[bt4,bt4,sD,sD,Array.toList_reverse]
 exact m.fin hh
theorem MH.frst {x y o:Array Keyed}(m:MH rk x.toList y.toList o.toList.reverse i j)(y0:0<y.size)(hf:∀t∈x.toList,rk y[0]<=rk t)(hh:j=1):dZ rk x y (y.extract 0 j++x.extract 0 i++o.reverse):=by
 unfold dZ
 rw[bt4,bt4,sD,sD,Array.toList_reverse]
 refine m.fst λt ht u hu=>?_
 subst hh
 obtain⟨q,q1,q2,q3⟩:=pA (rk:=rk) ht
 have e:q=0:=by omega
 subst e
 rw[q3,cA y0]
 exact hf u hu
structure HB (rk:Keyed->Int)(x y:Array Keyed)(lb i j:Nat)(o:Array Keyed):Prop where
 m:MH rk x.toList y.toList o.toList.reverse i j
 i0:0<i
 i1:i<x.size
 j0:1<j
 j1:j<=y.size
 pr:i+j+lb<=x.size+y.size
def HI (rk:Keyed->Int)(x y:Array Keyed)(lb:Nat)(st:SortSt)(c:LH)(st':SortSt):Prop:=Gq st st'/\∃i j o mg p q,c=(none,i,j,o,mg,p,q)/\HB rk x y lb i j o
def HQ (rk:Keyed->Int)(x y:Array Keyed)(lb:Nat)(st:SortSt)(c:LH)(st':SortSt):Prop:=Gq st st'/\((∃r i j o mg p q,c=(some r,i,j,o,mg,p,q)/\dZ rk x y r)∨∃i j o mg p q,c=(none,i,j,o,mg,p,q)/\HB rk x y lb i j o)
def HR (rk:Keyed->Int)(x y:Array Keyed)(lb:Nat)(st:SortSt)(r:ForInStep LH)(st':SortSt):Prop:=match r with|.done c=>HQ rk x y lb st c st'|.yield c=>HI rk x y lb st c st'
theorem T6 {st0:SortSt}{x y o:Array Keyed}{i j mg p q lb:Nat}(g:Gq st0 st)(b:HB rk x y lb (i+1) j o)(hm:∀(hi:i<x.size) t,t<j->t<y.size->Kr rk y t<=rk x[i]):wpS (model prog w) A E s (rY x y o (i+1) j mg p q) (HR rk x y lb st0) st:=by
 unfold rY
 obtain⟨m,i0,i1,j0,j1,pr⟩:=b
 have hi':i<x.size:=by omega
 have m':=m.x1 hi' (hm hi')
 simp only[Nat.add_sub_cancel]
 refine bm2 (dB hi' ?_)
 by_cases he:(i==0)=true
 ·rw[if_pos he]
  have he:i=0:=by simpa using he
  exact bm9 ⟨g,.inl ⟨_,_,_,_,_,_,_,rfl,m'.done (.inl he)⟩⟩
 ·rw[if_neg he]
  have he:i≠0:=by simpa using he
  split
  ·exact bm9 ⟨g,.inr ⟨_,_,_,_,_,_,rfl,m',by omega,by omega,j0,j1,by omega⟩⟩
  ·exact bm9 ⟨g,_,_,_,_,_,_,rfl,m',by omega,by omega,j0,j1,by omega⟩
theorem T7 (c:bV prog w A E s κ Ok rk){st0:SortSt}(hk:kindOf st0=κ){x y o:Array Keyed}{i j mg p q lb:Nat}(ox:bL Ok x)(oy:bL Ok y)(sx:Sd rk x.toList)(sy:Sd rk y.toList)(y0:0<y.size)(hf:∀t∈x.toList,rk y[0]<=rk t)(g:Gq st0 st)(b:HB rk x y lb (i+1) (j+1) o)(hm:∀(hj:j<y.size) t,t<i+1->t<x.size->Kr rk x t<=rk y[j]):wpS (model prog w) A E s (rZ x y o (i+1) (j+1) mg p q) (HR rk x y lb st0) st:=by
 unfold rZ
 obtain⟨m,i0,i1,j0,j1,pr⟩:=b
 have hi':i<x.size:=by omega
 have hj:j<y.size:=by omega
 have m':=m.y1 hj (hm hj)
 simp only[Nat.add_sub_cancel]
 refine bm2 (dB hj ?_)
 by_cases he:(j==1)=true
 ·rw[if_pos he]
  have he:j=1:=by simpa using he
  exact bm9 ⟨g,.inl ⟨_,_,_,_,_,_,_,rfl,m'.frst y0 hf he⟩⟩
 ·rw[if_neg he]
  have he:j≠1:=by simpa using he
  refine bm2 (dB hi' (bm2 (mR c (g.kd.trans hk) (ox _ (bq3 hi')) oy (by omega) (by omega) (sy.up _ _ (by omega)) λz k1 k2 k3=>?_)))
  dsimp only
  have ux:=sx.up 0 _ (bk7 x.size)
  have mk:=m'.yk k1 λt p ht ht' hp hp' _=>by
   have a1:=k3 p hp hp'
   rw[mU,bq4,Nat.zero_add]at a1
   have a2:=ux t i (by omega) (by omega) hi'
   rw[cA (i:=i) hi']at a2
   omega
  have km:∀(hi:i<x.size) t,t<z->t<y.size->Kr rk y t<=rk x[i]:=λ_ t ht _=>by
   have a1:=k2 t ht
   rw[mU,bm8,Nat.zero_add]at a1
   omega
  by_cases hk0:j-z>0
  ·rw[if_pos hk0]
   by_cases h1:(z==1)=true
   ·rw[if_pos h1]
    have h1:z=1:=by simpa using h1
    exact bm9 ⟨g,.inl ⟨_,_,_,_,_,_,_,rfl,mk.frst y0 hf h1⟩⟩
   ·rw[if_neg h1]
    have h1:z≠1:=by simpa using h1
    by_cases h0:(z==0)=true
    ·rw[if_pos h0]
     have h0:z=0:=by simpa using h0
     exact bm9 ⟨g,.inl ⟨_,_,_,_,_,_,_,rfl,mk.done (.inr h0)⟩⟩
    ·rw[if_neg h0]
     have h0:z≠0:=by simpa using h0
     exact T6 g ⟨mk,by omega,i1,by omega,by omega,by omega⟩ km
  ·rw[if_neg hk0]
   have e0:z=j:=by omega
   subst e0
   exact T6 g ⟨m',by omega,i1,by omega,by omega,by omega⟩ km
theorem T8 (c:bV prog w A E s κ Ok rk){st0:SortSt}(hk:kindOf st0=κ){x y o:Array Keyed}{i j mg p q lb:Nat}(ox:bL Ok x)(oy:bL Ok y)(sx:Sd rk x.toList)(sy:Sd rk y.toList)(y0:0<y.size)(hf:∀t∈x.toList,rk y[0]<=rk t)(g:Gq st0 st)(b:HB rk x y lb i (j+1) o) :
  wpS (model prog w) A E s (sA x y o i (j+1) mg p q) (HR rk x y lb st0) st:=by
 unfold sA
 obtain⟨m,i0,i1,j0,j1,pr⟩:=b
 have hj:j<y.size:=by omega
 simp only[Nat.add_sub_cancel]
 refine bm2 (rX g λst4 q4=>bm2 (dB hj (bm2 (mR c (q4.kd.trans hk) (oy _ (bq3 hj)) ox (by omega) (by omega) (sx.up _ _ (by omega)) λz k1 k2 k3=>?_))))
 dsimp only
 have uy:=sy.up 0 _ (bk7 y.size)
 have mk:=m.xk k1 λt p ht ht' hp hp' _=>by
  have a1:=k3 p hp hp'
  rw[mT,bq4,Nat.zero_add]at a1
  have a2:=uy t j (by omega) (by omega) hj
  rw[cA (i:=j) hj]at a2
  omega
 have km:∀(hj:j<y.size) t,t<z->t<x.size->Kr rk x t<=rk y[j]:=λ_ t ht _=>by
  have a1:=k2 t ht
  rw[mT,bm8,Nat.zero_add]at a1
  exact a1
 by_cases hk0:i-z>0
 ·rw[if_pos hk0]
  by_cases he:(z==0)=true
  ·rw[if_pos he]
   exact bm9 ⟨q4,.inl ⟨_,_,_,_,_,_,_,rfl,mk.done (.inl (by simpa using he))⟩⟩
  ·rw[if_neg he]
   have he:z≠0:=by simpa using he
   obtain⟨z2,rfl⟩:∃z2,z=z2+1:=⟨z-1,by omega⟩
   exact T7 c hk ox oy sx sy y0 hf q4 ⟨mk,by omega,by omega,j0,j1,by omega⟩ km
 ·rw[if_neg hk0]
  have e0:z=i:=by omega
  subst e0
  obtain⟨z2,rfl⟩:∃z2,z=z2+1:=⟨z-1,by omega⟩
  exact T7 c hk ox oy sx sy y0 hf q4 ⟨m,i0,i1,j0,j1,pr⟩ km
theorem aI3 (c:bV prog w A E s κ Ok rk){st0:SortSt}(hk:kindOf st0=κ){x y o:Array Keyed}{i j mg p q lb:Nat}(ox:bL Ok x)(oy:bL Ok y)(sx:Sd rk x.toList)(sy:Sd rk y.toList)(y0:0<y.size)(hf:∀t∈x.toList,rk y[0]<=rk t)(g:Gq st0 st)(b:HB rk x y lb i j o) :
  wpS (model prog w) A E s (xH x y o i j mg p q) (HQ rk x y lb st0) st:=by
 unfold xH
 refine bu0 (I:=λ_=>HI rk x y lb st0) ?_ ?_ ⟨g,i,j,o,_,p,q,rfl,b⟩
 ·rintro t c3 st3 _ _ ⟨q3,i,j,o,mg,p,q,rfl,b3⟩
  obtain⟨j3,rfl⟩:∃j3,j=j3+1:=⟨j-1,by have:=b3.j0;omega⟩
  dsimp only
  split
  ·exact bB4 (T8 c hk ox oy sx sy y0 hf q3 b3) λr _ hr=>by cases r<;>exact hr
  ·exact bB4 (T8 c hk ox oy sx sy y0 hf q3 b3) λr _ hr=>by cases r<;>exact hr
 ·rintro c3 st3 ⟨q3,i,j,o,mg,p,q,rfl,b3⟩
  exact⟨q3,.inr ⟨_,_,_,_,_,_,rfl,b3⟩⟩
theorem aI4 (c:bV prog w A E s κ Ok rk){st0:SortSt}(hk:kindOf st0=κ){x y o:Array Keyed}{i j mg n:Nat}{Q:xG->SortSt->Prop}(ox:bL Ok x)(oy:bL Ok y)(sx:Sd rk x.toList)(sy:Sd rk y.toList)(y0:0<y.size)(hf:∀t∈x.toList,rk y[0]<=rk t)(g:Gq st0 st)(b:HB rk x y n i j o)(h1:∀r i' j' o' p q st',Gq st0 st'->dZ rk x y r->Q (some r,i',j',o',p,q) st')(h2:∀i' j' o' p q st',Gq st0 st'->HB rk x y (n+1) i' j' o'->Q (none,i',j',o',p,q) st') :
  wpS (model prog w) A E s (xI x y o i j mg) Q st:=by
 have ux:Up rk x 0 x.size:=sx.up 0 _ (bk7 _)
 have uy:Up rk y 0 y.size:=sy.up 0 _ (bk7 _)
 unfold xI
 refine bu0 (I:=λt c st'=>Gq st0 st'/\∃i j o p q,c=(none,i,j,o,p,q)/\HB rk x y (n+t) i j o) ?_ ?_ ⟨g,i,j,o,0,0,rfl,b⟩
 ·rintro t c2 st2 _ ht ⟨q2,i',j',o,p,q,rfl,m,i0,i1,j0,j1,pr⟩
  obtain⟨i2,rfl⟩:∃i2,i'=i2+1:=⟨i'-1,by omega⟩
  obtain⟨j2,rfl⟩:∃j2,j'=j2+1:=⟨j'-1,by omega⟩
  simp only[Nat.add_sub_cancel]
  have hi:i2<x.size:=by omega
  have hj:j2<y.size:=by omega
  refine bm2 (dB hj (bm2 (dB hi (bm2 (c _ _ (oy _ (bq3 hj)) (ox _ (bq3 hi)) st2 _ (q2.kd.trans hk) ?_)))))
  by_cases hc:rk y[j2]<rk x[i2]
  ·rw[bl6 hc]
   dsimp only
   rw[if_pos rfl]
   have m':=m.x1 hi λt ht _=>by
    have:=uy t j2 (by omega) (by omega) hj
    rw[cA hj]at this
    omega
   refine bm2 (dB hi ?_)
   by_cases he:(i2==0)=true
   ·rw[if_pos he]
    exact bm9 (h1 _ _ _ _ _ _ _ q2 (m'.done (.inl (by simpa using he))))
   ·rw[if_neg he]
    have he:i2≠0:=by simpa using he
    split
    ·exact bm9 (h2 _ _ _ _ _ _ q2 ⟨m',by omega,by omega,j0,j1,by omega⟩)
    ·exact bm9 ⟨q2,_,_,_,_,_,rfl,m',by omega,by omega,j0,j1,by omega⟩
  ·rw[bl1 hc]
   dsimp only
   rw[if_neg bm6]
   have m':=m.y1 hj λt ht _=>by
    have:=ux t i2 (by omega) (by omega) hi
    rw[cA hi]at this
    omega
   refine bm2 (dB hj ?_)
   by_cases he:(j2==1)=true
   ·rw[if_pos he]
    exact bm9 (h1 _ _ _ _ _ _ _ q2 (m'.frst y0 hf (by simpa using he)))
   ·rw[if_neg he]
    have he:j2≠1:=by simpa using he
    split
    ·exact bm9 (h2 _ _ _ _ _ _ q2 ⟨m',i0,i1,by omega,by omega,by omega⟩)
    ·exact bm9 ⟨q2,_,_,_,_,_,rfl,m',i0,i1,by omega,by omega,by omega⟩
 ·rintro c2 st2 ⟨q2,i',j',o,p,q,rfl,m,i0,i1,j0,j1,pr⟩
  exact h2 _ _ _ _ _ _ q2 ⟨m,i0,i1,j0,j1,by omega⟩
theorem aI5 (c:bV prog w A E s κ Ok rk)(hk:kindOf st=κ){x y:Array Keyed}{Q:Array Keyed->SortSt->Prop}(ox:bL Ok x)(oy:bL Ok y)(sx:Sd rk x.toList)(sy:Sd rk y.toList)(x0:0<x.size)(y0:0<y.size)(hf:∀t∈x.toList,rk y[0]<=rk t)(hl:∀u∈y.toList,rk u<=rk x[x.size-1])(h:∀r st',Gq st st'->dZ rk x y r->Q r st'):wpS (model prog w) A E s (xF x y) Q st:=by
 rw[aI2]
 refine bm2 (wpS_lift (bz2 ⟨rfl,bm2 (dB (by omega:x.size-1<x.size) ?_)⟩))
 have m0:MH rk x.toList y.toList (#[x[x.size-1]]:Array Keyed).toList.reverse (x.size-1) y.size:=by
  have mm:MH rk x.toList y.toList [] x.size y.size:=⟨by simp,by rw[bp9 (by simp),bo9];exact sx,by rw[bp9 (by simp),bo9];exact sy⟩
  have e:=pC (x:=x) (i:=x.size-1) (by omega)
  rw[show x.size-1+1=x.size by omega]at e
  have:=mm.ofx (Nat.sub_le x.size 1) λt ht u hu=>?_
  ·rw[<- e]at this;simpa using this
  ·rw[<- e,bl0]at hu
   subst hu
   exact hl t (List.mem_of_mem_take ht)
 by_cases e1:(x.size-1==0)=true
 ·rw[if_pos e1]
  exact bm9 (h _ st (Gq.refl st) (m0.done (.inl (by simpa using e1))))
 ·rw[if_neg e1]
  have e1:x.size-1≠0:=by simpa using e1
  by_cases e2:(y.size==1)=true
  ·rw[if_pos e2]
   exact bm9 (h _ st (Gq.refl st) (m0.frst y0 hf (by simpa using e2)))
  ·rw[if_neg e2]
   have e2:y.size≠1:=by simpa using e2
   refine bm2 (wpS_get ?_)
   unfold T5
   refine bm2 (bB4 (bu0
    (I:=λn c st'=>Gq st st'/\∃i j o mg,c=(none,i,j,o,mg)/\HB rk x y (n+1) i j o)
    (Q:=λc st'=>Gq st st'/\∃r i j o mg,c=(some r,i,j,o,mg)/\dZ rk x y r) ?_ ?_ ⟨Gq.refl st,_,_,_,_,rfl,m0,by omega,by omega,by omega,by omega,by omega⟩) ?_)
   ·rintro n c1 st1 _ hn ⟨q1,i,j,o,mg,rfl,b⟩
    dsimp only
    refine bm2 (aI4 c hk ox oy sx sy y0 hf q1 b (λr o' i' j' p q st' g md=>bm9 ⟨g,r,_,_,_,_,rfl,md⟩) λi' j' o' p q st' g b'=>?_)
    refine bm2 (wpS_lift (bz2 ⟨rfl,?_⟩))
    refine bm2 (bB4 (aI3 c hk ox oy sx sy y0 hf g b') ?_)
    rintro c3 st3 ⟨q3,⟨r,i3,j3,o,mg,p,q,rfl,md⟩|⟨i3,j3,o,mg,p,q,rfl,b3⟩⟩
    ·exact bm9 ⟨q3,r,_,_,_,_,rfl,md⟩
    ·exact bm2 (rX q3 λst4 q4=>bm9 ⟨q4,i3,j3,o,_,rfl,b3⟩)
   ·rintro c1 st1 ⟨q1,i,j,o,mg,rfl,b⟩
    have:=b.pr
    exact absurd this (by omega)
   ·rintro c1 st1 ⟨q1,r,i,j,o,mg,rfl,md⟩
    exact bm9 (h r _ q1 md)
end
theorem aI6 (i:Nat):mergeAt' i=(do
 let z <- get
 let (some (sa,na,pw),some (sb,nb,_)):=((pendingOf z)[i]?,(pendingOf z)[i+1]?)|unsupported "internal:list.sort.pending"
 set (SortSt.mk' (kindOf z) (arrOf z) (((pendingOf z).setIfInBounds i (sa,na+nb,pw)).eraseIdxIfInBounds (i+1)) (gallopOf z) (failedOf z))
 let some k <- k7 false (<- elem' (arrOf z) sb) (arrOf z) sa na 0|return false
 let (sa,na):=(sa+k,na-k)
 if na==0 then return true
 let some nb <- k7 true (<- elem' (arrOf z) (sa+na-1)) (arrOf z) sb nb (nb-1)|return false
 if nb==0 then return true
 let x:=(arrOf z).extract sa sb
 let y:=(arrOf z).extract sb (sb+nb)
 let m <- if na<=nb then xB x y else xF x y
 modify λz=>setArr z (m.toList.zipIdx.foldl (λa (p,j)=>a.setIfInBounds (sa+j) p) (arrOf z))
 return (failedOf (<- get)).isNone):=rfl
variable {rk:Keyed→Int}
theorem aI7 {σ:Type}{M:Model}{A:Around}{E:Value->Shared->Prop}{s:Shared}{a b:σ}{Q:PUnit->σ->Prop}(h:Q ⟨⟩ a):wpS M A E s (set a:StateT σ Sem PUnit) Q b:=by
 unfold wpS;rw[StateT.run_set];exact bk8 ⟨rfl,h⟩
theorem T9 (o:Nat):∀(m:List Keyed) (n:Nat) (a:Array Keyed) (t:Nat),o+n+m.length<=a.size->
  ((m.zipIdx n).foldl (λa (p,j)=>a.setIfInBounds (o+j) p) a)[t]? = if o+n<=t/\t<o+n+m.length then m[t-(o+n)]? else a[t]?
 |[],n,a,t,_=>by
  show a[t]? = _
  rw[if_neg (λz=>Nat.not_lt_of_ge z.1 z.2)]
 |p::m,n,a,t,h=>by
  rw[List.zipIdx_cons,List.foldl_cons]
  have h':o+(n+1)+m.length<=(a.setIfInBounds (o+n) p).size:=by rw[Array.size_setIfInBounds];simp at h;omega
  have ih:=T9 o m (n+1) (a.setIfInBounds (o+n) p) t h'
  refine ih.trans ?_
  have hs:o+n<a.size:=by simp at h;omega
  rw[Array.getElem?_setIfInBounds]
  by_cases e:o+n=t
  ·subst e
   rw[if_neg (by omega),if_pos rfl,if_pos hs,if_pos (by simp),Nat.sub_self];rfl
  ·rw[if_neg e]
   by_cases c:o+n<=t/\t<o+n+(p::m).length
   ·rw[if_pos c,if_pos (by simp at c;omega)]
    rw[show t-(o+n)=(t-(o+(n+1)))+1 by omega];rfl
   ·rw[if_neg c,if_neg (by simp at c ⊢;omega)]
theorem U0 {a:Array Keyed}{lo hi:Nat}(u:Up rk a lo hi)(hh:hi<=a.size):Sd rk (a.extract lo hi).toList:=by
 unfold Sd
 rw[bp3]
 intro i j hi' hj hij
 have h2:lo+j<hi:=by simp at hj;omega
 have:=u (lo+i) (lo+j) (by omega) (by omega) h2
 rw[cA (by omega:lo+i<a.size),cA (by omega:lo+j<a.size)]at this
 simpa using this
theorem U1 {a:Array Keyed}{lo mid hi:Nat}(u:Up rk a lo mid)(v:Up rk a mid hi)(h0:lo<mid)(h1:mid<hi)(h:Kr rk a (mid-1)<=Kr rk a mid):Up rk a lo hi:=λi j hi' hij hj=>by
 rcases bp0 j mid with z|z
 ·exact u i j hi' hij z
 ·rcases bp0 i mid with y|y
  ·have a1:=u i (mid-1) hi' (by omega) (by omega)
   have a2:=v mid j (bk7 _) z hj
   omega
  ·exact v i j y hij hj
theorem U2 {a:Array Keyed}{lo hi t:Nat}(h:t<hi-lo)(hh:hi<=a.size):Kr rk (a.extract lo hi) t=Kr rk a (lo+t):=by
 refine lG ?_
 rw[Array.getElem?_extract_of_lt (by omega)]
 exact (getElem?_pos a (lo+t) (by omega)).symm
section
variable {κ:SortKind}{a0:Array Keyed}{pd:Array (Nat×Nat×Nat)}{st:SortSt}{prog:Program}{w:World}{A:Around}{E:Value→Shared→Prop}{s:Shared}{Ok:Keyed→Prop}
theorem aI8 {a m:Array Keyed}{p x e:Nat}(hpx:p<=x)(hxe:x<=e)(he:e<=a.size)(md:dZ rk (a.extract p x) (a.extract x e) m) :
  let r:=m.toList.zipIdx.foldl (λa (q,j)=>a.setIfInBounds (p+j) q) a
  r.Perm a/\(∀t,(t<p∨e<=t)->Kr rk r t=Kr rk a t)/\(∀t t',p<=t->t<=t'->t'<e->Kr rk r t<=Kr rk r t')/\∀t,p<=t->t<e->∃t',p<=t'/\t'<e/\Kr rk r t=Kr rk a t':=by
 intro r
 have ml:m.toList.length=e-p:=by
  rw[md.1.length_eq];simp;omega
 have g:∀t,r[t]? = if p<=t/\t<e then m[t-p]? else a[t]?:=λt=>by
  have:=T9 p m.toList 0 a t (by omega)
  rw[show r=(m.toList.zipIdx 0).foldl (λa (q,j)=>a.setIfInBounds (p+j) q) a from rfl,this]
  simp only[Nat.add_zero,ml,show p+(e-p)=e by omega,bu5]
 have ex:(a.extract p x).toList++(a.extract x e).toList=(a.toList.take e).drop p:=by
  rw[lJ,lJ,bB9,bB9,bB9]
  rw[show x=p+(x-p) by omega,<- List.drop_drop,show p+(x-p)-p=x-p by omega,show e-(p+(x-p))=(e-p)-(x-p) by omega]
  have:=bq7 (x-p) ((a.toList.drop p).take (e-p))
  rw[List.take_take,bB9,Nat.min_eq_left (by omega)]at this
  exact this
 have rl:r.toList=a.toList.take p++(m.toList++a.toList.drop e):=by
  apply List.ext_getElem?
  intro t
  rw[bu5,g]
  rcases bp0 t p with z|z
  ·rw[if_neg (by omega),bp2 (by simp;omega),List.getElem?_take_of_lt z,bu5]
  ·rw[bq0 (by simp;omega)]
   have lp:(a.toList.take p).length=p:=by simp;omega
   rw[lp]
   rcases bp0 t e with y|y
   ·rw[if_pos ⟨z,y⟩,bp2 (by omega),bu5]
   ·rw[if_neg (by omega),bq0 (by omega),ml,List.getElem?_drop,bu5]
    congr 1;omega
 have mp:m.toList.Perm ((a.toList.take e).drop p):=ex▸md.1
 refine⟨?_,λt ht=>lG (by rw[g,if_neg (by omega)]),λt t' h1 h2 h3=>?_,λt h1 h2=>?_⟩
 ·refine Array.perm_iff_toList_perm.mpr ?_
  rw[rl]
  have:a.toList=a.toList.take p++((a.toList.take e).drop p++a.toList.drop e):=by
   rw[xJ _ (by omega:p<=e)];exact (bq7 p _).symm
  conv=>rhs;rw[this]
  exact (mp.append_right _).append_left _
 ·have e1:Kr rk r t=Kr rk m (t-p):=lG (by rw[g,if_pos (by omega)])
  have e2:Kr rk r t'=Kr rk m (t'-p):=lG (by rw[g,if_pos (by omega)])
  rw[e1,e2]
  have ms:m.size=e-p:=by rw[<- ml];simp
  exact md.2.up 0 m.size (bk7 _) (t-p) (t'-p) (by omega) (by omega) (by omega)
 ·have e1:Kr rk r t=Kr rk m (t-p):=lG (by rw[g,if_pos (by omega)])
  have ms:m.size=e-p:=by rw[<- ml];simp
  have hm:t-p<m.size:=by omega
  have mm:m[t-p]∈(a.toList.take e).drop p:=mp.mem_iff.mp (by simp)
  obtain⟨t',q1,q2,q3,q4⟩:=pB (rk:=rk) mm
  exact⟨t',q1,q2,by rw[e1,cA hm];exact q4⟩
theorem aI9 (c:bV prog w A E s κ Ok rk)(o:bL Ok a0)(b:SB κ a0 pd st){i sa na pw sb nb pw':Nat}{Q:Bool->SortSt->Prop}(e1:pd[i]? = some (sa,na,pw))(e2:pd[i+1]? = some (sb,nb,pw'))(hs:sb=sa+na)(n0:0<na)(m0:0<nb)(hz:sb+nb<=a0.size)(u:Up rk (arrOf st) sa sb)(v:Up rk (arrOf st) sb (sb+nb))(h:∀st',SB κ a0 ((pd.setIfInBounds i (sa,na+nb,pw)).eraseIdxIfInBounds (i+1)) st'->Up rk (arrOf st') sa (sb+nb)->(∀t,(t<sa∨sb+nb<=t)->Kr rk (arrOf st') t=Kr rk (arrOf st) t)->Q true st'):wpS (model prog w) A E s (mergeAt' i) Q st:=by
 have sz:=b.sz
 rw[aI6]
 refine bm2 (wpS_get ?_)
 rw[b.pd,e1,e2]
 dsimp only
 refine bm2 (aI7 ?_)
 generalize hst:SortSt.mk' (kindOf st) (arrOf st) ((pd.setIfInBounds i (sa,na+nb,pw)).eraseIdxIfInBounds (i+1)) (gallopOf st) (failedOf st)=st1
 have b1:SB κ a0 ((pd.setIfInBounds i (sa,na+nb,pw)).eraseIdxIfInBounds (i+1)) st1:=by rw[<- hst];exact⟨b.pm,b.kd,b.ok,rfl⟩
 have ar:arrOf st1=arrOf st:=by rw[<- hst]
 have oa:=b.all o
 have hsb:sb<(arrOf st).size:=by omega
 refine bm2 (dB hsb (bm2 (mR c b1.kd (oa _ (bq3 hsb)) oa n0 (by omega) (hs▸u) λk k1 k2 k3=>?_)))
 dsimp only
 have k2':∀t,sa<=t->t<sa+k->Kr rk (arrOf st) t<=Kr rk (arrOf st) sb:=λt t1 t2=>by
  have:=k2 (t-sa) (by omega)
  rw[mT,bm8,show sa+(t-sa)=t by omega]at this
  rw[cA hsb];exact this
 have k3':∀t,sa+k<=t->t<sb->Kr rk (arrOf st) sb<Kr rk (arrOf st) t:=λt t1 t2=>by
  have:=k3 (t-sa) (by omega) (by omega)
  rw[mT,bq4,show sa+(t-sa)=t by omega]at this
  rw[cA hsb];omega
 by_cases ek:(na-k==0)=true
 ·rw[if_pos ek]
  have ek:na-k=0:=by simpa using ek
  refine bm9 (h st1 b1 ?_ λt _=>by rw[ar])
  rw[ar]
  exact U1 u v (by omega) (by omega) (k2' (sb-1) (by omega) (by omega))
 ·rw[if_neg ek]
  have ek:na-k≠0:=by simpa using ek
  have el:sa+k+(na-k)-1=sb-1:=by omega
  rw[el]
  have hsl:sb-1<(arrOf st).size:=by omega
  refine bm2 (dB hsl (bm2 (mR c b1.kd (oa _ (bq3 hsl)) oa (by omega) (by omega) v λl l1 l2 l3=>?_)))
  dsimp only
  have l2':∀t,sb<=t->t<sb+l->Kr rk (arrOf st) t<Kr rk (arrOf st) (sb-1):=λt t1 t2=>by
   have:=l2 (t-sb) (by omega)
   rw[mU,bm8,show sb+(t-sb)=t by omega]at this
   rw[cA hsl];exact this
  have l3':∀t,sb+l<=t->t<sb+nb->Kr rk (arrOf st) (sb-1)<=Kr rk (arrOf st) t:=λt t1 t2=>by
   have:=l3 (t-sb) (by omega) (by omega)
   rw[mU,bq4,show sb+(t-sb)=t by omega]at this
   rw[cA hsl];omega
  by_cases en:(l==0)=true
  ·rw[if_pos en]
   have en:l=0:=by simpa using en
   subst en
   refine bm9 (h st1 b1 ?_ λt _=>by rw[ar])
   rw[ar]
   exact U1 u v (by omega) (by omega) (l3' sb (by omega) (by omega))
  ·rw[if_neg en]
   have en:l≠0:=by simpa using en
   have sub:∀p e,bL Ok ((arrOf st).extract p e):=λp e z hz=>oa z (by
    have:z∈((arrOf st).extract p e).toList:=Array.mem_toList_iff.mpr hz
    rw[lJ]at this
    exact Array.mem_toList_iff.mp (List.mem_of_mem_take (List.mem_of_mem_drop this)))
   have sx:Sd rk ((arrOf st).extract (sa+k) sb).toList:=U0 (λi j h1 h2 h3=>u i j (by omega) h2 h3) (by omega)
   have sy:Sd rk ((arrOf st).extract sb (sb+l)).toList:=U0 (λi j h1 h2 h3=>v i j h1 h2 (by omega)) (by omega)
   have x0:0<((arrOf st).extract (sa+k) sb).size:=by simp;omega
   have y0:0<((arrOf st).extract sb (sb+l)).size:=by simp;omega
   have hf:∀t∈((arrOf st).extract (sa+k) sb).toList,rk ((arrOf st).extract sb (sb+l))[0]<=rk t:=λt ht=>by
    rw[lJ]at ht
    obtain⟨t',q1,q2,q3,q4⟩:=pB (rk:=rk) ht
    rw[q4,<- cA (rk:=rk) y0,U2 (by omega) (by omega)]
    exact Int.le_of_lt (k3' t' q1 q2)
   have hl:∀t∈((arrOf st).extract sb (sb+l)).toList,rk t<=rk ((arrOf st).extract (sa+k) sb)[((arrOf st).extract (sa+k) sb).size-1]:=λt ht=>by
    rw[lJ]at ht
    obtain⟨t',q1,q2,q3,q4⟩:=pB (rk:=rk) ht
    have e:((arrOf st).extract (sa+k) sb).size=sb-(sa+k):=by simp;omega
    rw[q4,<- cA (rk:=rk) (by omega),U2 (by omega) (by omega),e,show sa+k+(sb-(sa+k)-1)=sb-1 by omega]
    exact Int.le_of_lt (l2' t' q1 q2)
   have fin:∀(m:Array Keyed) (st2:SortSt),Gq st1 st2->dZ rk ((arrOf st).extract (sa+k) sb) ((arrOf st).extract sb (sb+l)) m->
     wpS (model prog w) A E s (do modify (λz=>setArr z (m.toList.zipIdx.foldl (λa (p,j)=>a.setIfInBounds (sa+k+j) p) (arrOf z)));return (failedOf (<- get)).isNone) Q st2:=λm st2 g md=>by
    have b2:SB κ a0 ((pd.setIfInBounds i (sa,na+nb,pw)).eraseIdxIfInBounds (i+1)) st2:=⟨by rw[g.ar];exact b1.pm,g.kd.trans b1.kd,g.ok.trans b1.ok,g.pd.trans b1.pd⟩
    have a2:arrOf st2=arrOf st:=g.ar.trans ar
    obtain⟨r1,r2,r3,r4⟩:=aI8 (by omega) (by omega) (by omega) md
    generalize hr:m.toList.zipIdx.foldl (λa (q,j)=>a.setIfInBounds (sa+k+j) q) (arrOf st)=r at r1 r2 r3 r4
    refine bm2 (wpS_modify (bm2 (wpS_get (bm9 ?_))))
    have b3:=b2.put (xs:=m.toList.zipIdx.foldl (λa (q,j)=>a.setIfInBounds (sa+k+j) q) (arrOf st2)) (by rw[a2,hr];exact r1)
    have er:arrOf (setArr st2 (m.toList.zipIdx.foldl (λa (q,j)=>a.setIfInBounds (sa+k+j) q) (arrOf st2)))=r:=by rw[<- hr,a2]
    have tr:(failedOf (setArr st2 (m.toList.zipIdx.foldl (λa (q,j)=>a.setIfInBounds (sa+k+j) q) (arrOf st2)))).isNone=true:=by rw[b3.ok];rfl
    rw[tr]
    refine h _ b3 (λi j hi hij hj=>?_) λt ht=>?_
    ·rw[er]
     have bl:∀t,sa<=t->t<sa+k->∀t',sa+k<=t'->t'<sb+l->Kr rk (arrOf st) t<=Kr rk (arrOf st) t':=λt t1 t2 t' t3 t4=>by
      rcases bp0 t' sb with z|z
      ·exact u t t' t1 (by omega) z
      ·have a1:=k2' t t1 t2
       have a2:=v sb t' (bk7 _) z (by omega)
       omega
     have br:∀t,sb+l<=t->t<sb+nb->∀t',sa+k<=t'->t'<sb+l->Kr rk (arrOf st) t'<=Kr rk (arrOf st) t:=λt t1 t2 t' t3 t4=>by
      rcases bp0 t' sb with z|z
      ·have a1:=u t' (sb-1) (by omega) (by omega) (by omega)
       have a2:=l3' t t1 t2
       omega
      ·exact v t' t z (by omega) t2
     have blr:∀t,sa<=t->t<sa+k->∀t',sb+l<=t'->t'<sb+nb->Kr rk (arrOf st) t<=Kr rk (arrOf st) t':=λt t1 t2 t' t3 t4=>by
      have a1:=bl t t1 t2 (sb-1) (by omega) (by omega)
      have a2:=l3' t' t3 t4
      omega
     rcases bp0 i (sa+k) with z|z
     ·rw[r2 i (.inl z)]
      rcases bp0 j (sa+k) with y|y
      ·rw[r2 j (.inl y)];exact u i j hi hij (by omega)
      ·rcases bp0 j (sb+l) with x|x
       ·obtain⟨t',q1,q2,q3⟩:=r4 j y x
        rw[q3];exact bl i hi z t' q1 q2
       ·rw[r2 j (.inr x)];exact blr i hi z j x hj
     ·rcases bp0 j (sb+l) with x|x
      ·exact r3 i j z hij x
      ·rw[r2 j (.inr x)]
       rcases bp0 i (sb+l) with y|y
       ·obtain⟨t',q1,q2,q3⟩:=r4 i z y
        rw[q3];exact br j x hj t' q1 q2
       ·rw[r2 i (.inr y)];exact v i j (by omega) hij hj
    ·rw[er];exact r2 t (by omega)
   by_cases hle:na-k<=l
   ·rw[if_pos hle]
    exact bm2 (aI1 c b1.kd (sub _ _) (sub _ _) sx sy x0 y0 hf hl λm st2 g md=>fin m st2 g md)
   ·rw[if_neg hle]
    exact bm2 (aI5 c b1.kd (sub _ _) (sub _ _) sx sy x0 y0 hf hl λm st2 g md=>fin m st2 g md)
end
def Ch:Nat->List (Nat×Nat)->Nat->Prop
 |a,[],b=>a=b
 |a,(p,n)::r,b=>p=a/\0<n/\Ch (a+n) r b
theorem Ch.split:∀{l l':List (Nat×Nat)}{a b:Nat},Ch a (l++l') b->∃m,Ch a l m/\Ch m l' b
 |[],_,a,_,h=>⟨a,rfl,h⟩
 |(p,n)::l,l',a,b,h=>by
  obtain⟨h1,h2,h3⟩:=h
  obtain⟨m,q1,q2⟩:=Ch.split h3
  exact⟨m,⟨h1,h2,q1⟩,q2⟩
theorem Ch.join:∀{l l':List (Nat×Nat)}{a m b:Nat},Ch a l m->Ch m l' b->Ch a (l++l') b
 |[],_,a,m,_,h,h'=>by cases (show a=m from h);exact h'
 |(p,n)::l,l',a,m,b,h,h'=>⟨h.1,h.2.1,Ch.join h.2.2 h'⟩
theorem Ch.len:∀{l:List (Nat×Nat)}{a b:Nat},Ch a l b->a+l.length<=b
 |[],a,b,h=>by cases (show a=b from h);simp
 |(p,n)::l,a,b,h=>by
  have:=Ch.len h.2.2
  have:=h.2.1
  simp;omega
theorem Ch.mem:∀{l:List (Nat×Nat)}{a b:Nat}{r:Nat×Nat},Ch a l b->r∈l->a<=r.1/\r.1+r.2<=b/\0<r.2
 |(p,n)::l,a,b,r,h,hr=>by
  obtain⟨h1,h2,h3⟩:=h
  have hb:=Ch.len h3
  rcases bl8.mp hr with e|e
  ·subst e
   have h1:p=a:=h1
   refine⟨?_,?_,h2⟩
   ·show a<=p;omega
   ·show p+n<=b;omega
  ·have:=Ch.mem h3 e
   exact⟨by omega,this.2.1,this.2.2⟩
def sk (pd:Array (Nat×Nat×Nat)):List (Nat×Nat):=pd.toList.map λr=>(r.1,r.2.1)
theorem sE (pd:Array (Nat×Nat×Nat)):(sk pd).length=pd.size:=by simp[sk]
structure Rn (rk:Keyed->Int)(a:Array Keyed)(l:List (Nat×Nat))(lo:Nat):Prop where
 ch:Ch 0 l lo
 up:∀r∈l,Up rk a r.1 (r.1+r.2)
variable {rk:Keyed→Int}{κ:SortKind}{a0:Array Keyed}{pd:Array (Nat×Nat×Nat)}{st:SortSt}{prog:Program}{w:World}{A:Around}{E:Value→Shared→Prop}{s:Shared}{Ok:Keyed→Prop}
theorem Rn.same {a b:Array Keyed}{l:List (Nat×Nat)}{lo:Nat}(h:Rn rk a l lo)(e:∀t,t<lo->Kr rk b t=Kr rk a t):Rn rk b l lo:=⟨h.ch,λr hr i j hi hij hj=>by
 have:=(h.ch.mem hr).2.1
 rw[e i (by omega),e j (by omega)]
 exact h.up r hr i j hi hij hj⟩
theorem U3 (c:bV prog w A E s κ Ok rk)(o:bL Ok a0)(b:SB κ a0 pd st){i lo:Nat}{Q:Bool->SortSt->Prop}(hi:i+1<pd.size)(hz:lo<=a0.size)(rn:Rn rk (arrOf st) (sk pd) lo)(h:∀pd' st',SB κ a0 pd' st'->pd'.size+1=pd.size->Rn rk (arrOf st') (sk pd') lo->(∀t,lo<=t->Kr rk (arrOf st') t=Kr rk (arrOf st) t)->Q true st'):wpS (model prog w) A E s (mergeAt' i) Q st:=by
 obtain⟨⟨sa,na,pw⟩,e1⟩:∃r,pd[i]? = some r:=⟨pd[i],getElem?_pos pd i (by omega)⟩
 obtain⟨⟨sb,nb,pw'⟩,e2⟩:∃r,pd[i+1]? = some r:=⟨pd[i+1],getElem?_pos pd (i+1) hi⟩
 have d1:pd.toList=pd.toList.take i++(sa,na,pw)::(sb,nb,pw')::pd.toList.drop (i+2):=by
  have hl:i<pd.toList.length:=by simp;omega
  have hl2:i+1<pd.toList.length:=by simpa using hi
  have g1:pd.toList[i]=(sa,na,pw):=by rw[getElem?_pos pd i (by omega)]at e1;simpa using e1
  have g2:pd.toList[i+1]=(sb,nb,pw'):=by rw[getElem?_pos pd (i+1) hi]at e2;simpa using e2
  have:=bq7 i pd.toList
  rw[List.drop_eq_getElem_cons hl,List.drop_eq_getElem_cons hl2,g1,g2]at this
  exact this.symm
 have li:(pd.toList.take i).length=i:=by simp;omega
 have d2:((pd.setIfInBounds i (sa,na+nb,pw)).eraseIdxIfInBounds (i+1)).toList=pd.toList.take i++(sa,na+nb,pw)::pd.toList.drop (i+2):=by
  have e:((pd.setIfInBounds i (sa,na+nb,pw)).eraseIdxIfInBounds (i+1)).toList=(pd.toList.set i (sa,na+nb,pw)).eraseIdx (i+1):=by
   unfold Array.eraseIdxIfInBounds
   rw[dif_pos (by rw[Array.size_setIfInBounds];exact hi),Array.toList_eraseIdx,Array.toList_setIfInBounds]
  rw[e]
  conv=>lhs;rw[d1]
  rw[List.set_append_right _ _ (by omega),li,Nat.sub_self,List.set_cons_zero,List.eraseIdx_append_of_length_le (by omega),li,show i+1-i=1 by omega]
  rfl
 have k1:sk pd=(pd.toList.take i).map (λr=>(r.1,r.2.1))++(sa,na)::(sb,nb)::(pd.toList.drop (i+2)).map (λr=>(r.1,r.2.1)):=by
  unfold sk;conv=>lhs;rw[d1]
  simp
 have k2:sk ((pd.setIfInBounds i (sa,na+nb,pw)).eraseIdxIfInBounds (i+1))=(pd.toList.take i).map (λr=>(r.1,r.2.1))++(sa,na+nb)::(pd.toList.drop (i+2)).map (λr=>(r.1,r.2.1)):=by
  unfold sk;rw[d2]
  simp
 have ch:=rn.ch
 rw[k1]at ch
 obtain⟨m,c1,c2⟩:=ch.split
 obtain⟨f1,f2,f3,f4,f5⟩:=c2
 have f1:sa=m:=f1
 have f3:sb=m+na:=f3
 have up:=rn.up
 rw[k1]at up
 have lo2:=f5.len
 refine aI9 c o b e1 e2 (by omega) f2 f4 (by omega) (by have:=up (sa,na) (by simp);rw[f3,<- f1];exact this) (up (sb,nb) (by simp)) λst' b' u' fr=>h _ st' b' ?_ ⟨?_,?_⟩ λt ht=>fr t (by omega)
 ·rw[<- sE,<- sE,k1,k2];simp;omega
 ·rw[k2]
  refine c1.join ⟨f1,by omega,?_⟩
  rw[<- Nat.add_assoc];exact f5
 ·intro r hr
  rw[k2]at hr
  rcases bn4.mp hr with z|z
  ·intro p q h1 h2 h3
   have:=(c1.mem z).2.1
   rw[fr p (by omega),fr q (by omega)]
   exact up r (bt7 _ z) p q h1 h2 h3
  ·rcases bl8.mp z with z|z
   ·subst z
    show Up rk (arrOf st') sa (sa+(na+nb))
    rw[show sa+(na+nb)=sb+nb by omega];exact u'
   ·intro p q h1 h2 h3
    have:=(f5.mem z).1
    rw[fr p (by omega),fr q (by omega)]
    exact up r (bo6 _ (bm1 _ (bm1 _ z))) p q h1 h2 h3
abbrev RS:=Option Unit×Nat
def U4 (sz pw:Nat):StateT SortSt Sem (Option Unit×Unit):=forIn [0:sz] ((none,()):Option Unit×Unit) λ_ _=>do
 let z <- get
 match (if (pendingOf z).size>1 then (pendingOf z)[(pendingOf z).size-2]? else none) with
 |some (_,_,o)=>if o<=pw then pure (.done (none,())) else do
   let q <- mergeAt' ((pendingOf z).size-2)
   if (!q)=true then pure (.done (some (),())) else pure (.yield (none,()))
 |_=>pure (.done (none,()))
def jn (sz lo n:Nat):StateT SortSt Sem (ForInStep RS):=do
 let z <- get
 match (pendingOf z).back? with
 |some (s1,n1,_)=>do
  let r <- U4 sz (power' sz (2*s1+n1) (2*s1+n1+n1+n) sz)
  match r.1 with
  |some u=>pure (.done (some u,lo))
  |none=>do
   modify λs=>setPending s ((pendingOf s).modify ((pendingOf s).size-1) λx=>(x.1,x.2.1,power' sz (2*s1+n1) (2*s1+n1+n1+n) sz))
   modify λs=>setPending s ((pendingOf s).push (lo,n,0))
   pure (.yield (none,lo+n))
 |_=>do
  modify λs=>setPending s ((pendingOf s).push (lo,n,0))
  pure (.yield (none,lo+n))
def U5 (sz mr lo:Nat):StateT SortSt Sem (ForInStep RS):=if lo >= sz then pure (.done (none,lo)) else do
 match <- countRun' lo (sz-lo) with
 |some n=>
  if n<mr then
   liftM (rule "list.sort.binary-insertion")
   let q <- binarySort' lo (min (sz-lo) mr) n
   if (!q)=true then pure (.done (some (),lo)) else jn sz lo (min (sz-lo) mr)
  else jn sz lo n
 |_=>pure (.done (some (),lo))
def U6 (sz:Nat):StateT SortSt Sem (Option Unit×Unit):=forIn [0:sz] ((none,()):Option Unit×Unit) λ_ _=>do
 let z <- get
 if (pendingOf z).size<=1 then pure (.done (none,())) else do
  let q <- mergeAt' (if ((if (pendingOf z).size-2>0 then (pendingOf z)[(pendingOf z).size-2-1]?.map (·.2.1) else none).any (·<((pendingOf z)[(pendingOf z).size-2+1]?.elim 0 (·.2.1))))=true then (pendingOf z).size-2-1 else (pendingOf z).size-2)
  if (!q)=true then pure (.done (some (),())) else pure (.yield (none,()))
theorem aJ0:sortRuns'=(do
 let z <- get
 let r <- (forIn [0:(arrOf z).size] ((none,0):RS) λ_ r=>U5 (arrOf z).size (minRun' (arrOf z).size (arrOf z).size 0) r.2)
 match r.1 with
 |some u=>pure u
 |none=>do
  let q <- U6 (arrOf z).size
  match q.1 with
  |some u=>pure u
  |none=>pure ()):=by kernel_rfl
theorem U7 {lo nn:Nat}(n1:0<nn){pd:Array (Nat×Nat×Nat)}{a:Array Keyed}(r:Rn rk a (sk pd) lo)(u:Up rk a lo (lo+nn)):Rn rk a (sk (pd.push (lo,nn,0))) (lo+nn):=by
 have e:sk (pd.push (lo,nn,0))=sk pd++[(lo,nn)]:=by simp[sk]
 refine⟨by rw[e];exact r.ch.join ⟨rfl,n1,rfl⟩,λq hq=>?_⟩
 rw[e]at hq
 rcases bn4.mp hq with z|z
 ·exact r.up q z
 ·rw[bl0]at z
  subst z
  exact u
theorem U8 (c:bV prog w A E s κ Ok rk)(o:bL Ok a0)(b:SB κ a0 pd st){lo n:Nat}{Q:ForInStep RS->SortSt->Prop}(n1:1<=n)(n2:lo+n<=a0.size)(rn:Rn rk (arrOf st) (sk pd) lo)(u:Up rk (arrOf st) lo (lo+n))(h:∀pd' st',SB κ a0 pd' st'->Rn rk (arrOf st') (sk pd') (lo+n)->Q (.yield (none,lo+n)) st'):wpS (model prog w) A E s (jn a0.size lo n) Q st:=by
 unfold jn
 refine bm2 (wpS_get ?_)
 rw[b.pd]
 cases hb:pd.back? with
 |none=>exact bm2 (wpS_modify (bm9 (h (pd.push (lo,n,0)) _ ⟨b.pm,b.kd,b.ok,by show (pendingOf st).push _=_;rw[b.pd]⟩ (U7 n1 rn u))))
 |some q=>
  obtain⟨s1,m1,q3⟩:=q
  dsimp only
  generalize power' a0.size (2*s1+m1) (2*s1+m1+m1+n) a0.size=pw
  unfold U4
  refine bm2 (bB4 (bu0
   (I:=λ_ r st'=>r=(none,())/\∃pd,SB κ a0 pd st'/\Rn rk (arrOf st') (sk pd) lo/\Up rk (arrOf st') lo (lo+n))
   (Q:=λr st'=>r=(none,())/\∃pd,SB κ a0 pd st'/\Rn rk (arrOf st') (sk pd) lo/\Up rk (arrOf st') lo (lo+n)) ?_ (λ_ _ z=>z) ⟨rfl,pd,b,rn,u⟩) ?_)
  ·rintro t r st4 _ ht ⟨rfl,pd4,b4,r4,u4⟩
   refine bm2 (wpS_get ?_)
   rw[b4.pd]
   cases ho:(if pd4.size>1 then pd4[pd4.size-2]? else none) with
   |none=>exact bm9 ⟨rfl,pd4,b4,r4,u4⟩
   |some z=>
    obtain⟨z1,z2,z3⟩:=z
    have h1:pd4.size>1:=by
     by_cases y:pd4.size>1
     ·exact y
     ·rw[if_neg y]at ho;cases ho
    dsimp only
    by_cases hp:z3<=pw
    ·rw[if_pos hp]
     exact bm9 ⟨rfl,pd4,b4,r4,u4⟩
    ·rw[if_neg hp]
     refine bm2 (U3 c o b4 (by omega) (by omega) r4 λpd5 st5 b5 _ r5 f5=>?_)
     exact bm9 ⟨rfl,pd5,b5,r5,λi j hi hij hj=>by rw[f5 i hi,f5 j (by omega)];exact u4 i j hi hij hj⟩
  ·rintro r st4 ⟨rfl,pd4,b4,r4,u4⟩
   refine bm2 (wpS_modify (bm2 (wpS_modify (bm9 ?_))))
   have e:sk (pd4.modify (pd4.size-1) λx=>(x.1,x.2.1,pw))=sk pd4:=by
    unfold sk
    rw[Array.toList_modify]
    apply List.ext_getElem?
    intro t
    rw[bl4,bl4,List.getElem?_modify]
    cases pd4.toList[t]? with
    |none=>simp
    |some v=>by_cases y:pd4.size-1=t<;>simp[y]
   refine h ((pd4.modify (pd4.size-1) λx=>(x.1,x.2.1,pw)).push (lo,n,0)) _ ⟨b4.pm,b4.kd,b4.ok,?_⟩ (U7 n1 (by rw[e];exact r4) u4)
   show ((pendingOf st4).modify ((pendingOf st4).size-1) λx=>(x.1,x.2.1,pw)).push _=_
   rw[b4.pd]
theorem aJ1 (c:bV prog w A E s κ Ok rk)(o:bL Ok a0)(b:SB κ a0 #[] st){Q:Unit->SortSt->Prop}(h2:1<=a0.size)(h:∀st',(arrOf st').Perm a0->failedOf st'=none->Up rk (arrOf st') 0 a0.size->Q () st'):wpS (model prog w) A E s sortRuns' Q st:=by
 rw[aJ0]
 refine bm2 (wpS_get ?_)
 rw[b.sz]
 generalize minRun' a0.size a0.size 0=mr
 refine bm2 (bB4 (bu0
  (I:=λx r st'=>∃lo pd,r=(none,lo)/\x<=lo/\lo<=a0.size/\SB κ a0 pd st'/\Rn rk (arrOf st') (sk pd) lo)
  (Q:=λr st'=>∃pd,r=(none,a0.size)/\SB κ a0 pd st'/\Rn rk (arrOf st') (sk pd) a0.size) ?_ ?_ ⟨0,#[],rfl,bk7 _,bo4 _,b,⟨rfl,λr hr=>absurd hr (by simp[sk])⟩⟩) ?_)
 ·rintro x r st1 _ hx ⟨lo,pd,rfl,xl,lz,b1,rn⟩
  unfold U5
  dsimp only
  by_cases hd:lo >= a0.size
  ·rw[if_pos hd]
   have e:lo=a0.size:=by omega
   subst e
   exact bm9 ⟨pd,rfl,b1,rn⟩
  ·rw[if_neg hd]
   refine bm2 (aH4 c o b1 (by omega) (by omega) λn st2 b2 n1 n2 u2 l2=>?_)
   have rn2:=rn.same l2
   dsimp only
   by_cases hmr:n<mr
   ·rw[if_pos hmr]
    refine bm2 (wpS_lift (bz2 ⟨rfl,?_⟩))
    refine bm2 (aH5 c o b2 (by omega) (by omega) u2 λst3 b3 u3 l3=>?_)
    rw[if_neg (by decide)]
    exact U8 c o b3 (by omega) (by omega) (rn2.same l3) u3 λpd' st' b' r'=>⟨_,pd',rfl,by omega,by omega,b',r'⟩
   ·rw[if_neg hmr]
    exact U8 c o b2 n1 (by omega) rn2 u2 λpd' st' b' r'=>⟨lo+n,pd',rfl,by omega,by omega,b',r'⟩
 ·rintro r st1 ⟨lo,pd,rfl,xl,lz,b1,rn⟩
  have e:lo=a0.size:=by omega
  subst e
  exact⟨pd,rfl,b1,rn⟩
 ·rintro r st1 ⟨pd,rfl,b1,rn⟩
  dsimp only
  unfold U6
  refine bm2 (bB4 (bu0
   (I:=λt r st'=>r=(none,())/\∃pd,SB κ a0 pd st'/\Rn rk (arrOf st') (sk pd) a0.size/\(pd.size+t<=a0.size∨pd.size<=1))
   (Q:=λr st'=>r=(none,())/\∃pd,SB κ a0 pd st'/\Rn rk (arrOf st') (sk pd) a0.size/\pd.size<=1) ?_ ?_ ⟨rfl,pd,b1,rn,.inl (by have:=rn.ch.len;rw[sE]at this;omega)⟩) ?_)
  ·rintro t r st2 _ ht ⟨rfl,pd,b2,rn2,pr⟩
   refine bm2 (wpS_get ?_)
   rw[b2.pd]
   by_cases h1:pd.size<=1
   ·rw[if_pos h1]
    exact bm9 ⟨rfl,pd,b2,rn2,h1⟩
   ·rw[if_neg h1]
    refine bm2 (U3 c o b2 ?_ (bk7 _) rn2 λpd' st3 b3 sz3 rn3 _=>?_)
    ·split<;>split<;>omega
    ·exact bm9 ⟨rfl,pd',b3,rn3,by omega⟩
  ·rintro r st2 ⟨rfl,pd,b2,rn2,pr⟩
   exact⟨rfl,pd,b2,rn2,by omega⟩
  ·rintro r st2 ⟨rfl,pd,b2,rn2,pr⟩
   refine bm9 (h st2 b2.pm b2.ok ?_)
   have ch:=rn2.ch
   have up:=rn2.up
   rw[<- sE]at pr
   cases e:sk pd with
   |nil=>rw[e]at ch;exact absurd (show 0=a0.size from ch) (by omega)
   |cons r l=>
    rw[e]at ch up pr
    have el:l = []:=bt8 (by have:=pr;rw[bo3]at this;omega)
    subst el
    obtain⟨p,n⟩:=r
    obtain⟨q1,q2,q3⟩:=ch
    have q1:p=0:=q1
    have q3:0+n=a0.size:=q3
    subst q1
    have:=up (0,n) (by simp)
    rw[<- q3];exact this
end SO
namespace L2
open PySem PySem.Spec PyProof.Rows SO
abbrev cJ (h:Heap)(a:Addr)(vs:List Value):Heap:=((h.update a (Obj.mapSeq λ_=>#[])).push (seqObj "tuple" vs.toArray 0)).push (seqObj "list" #[] 0)
abbrev cE (h:Heap)(vs:List Value):Heap:=((h.push (seqObj "list" #[] 0)).update h.objs.size (Obj.mapSeq (·++vs.toArray))).push (seqObj "list" vs.toArray 0)
theorem U9 {h:Heap}{vs:List Value}{b:Addr}{o:Obj}(e:h.get? b=some o):(cE h vs).get? b=some o:=by
 have l:=bm3 e
 refine bk6 _ ?_
 rw[Heap.get?_update_ne _ _ _ _ (bo2 l)]
 exact bk6 _ e
theorem V0 {h:Heap}{vs:List Value}{a b:Addr}{o:Obj}(hb:b≠a)(e:h.get? b=some o):(cJ h a vs).get? b=some o:=by
 refine bk6 _ (bk6 _ ?_)
 rw[Heap.get?_update_ne _ _ _ _ hb];exact e
theorem V1 {prog:Program}{w:World}{A:Around}{E:Value->Shared->Prop}{s:Shared}{a:Addr}{vs:List Value}{n:Nat}{P:PySem.Fin->Shared->Prop}{κ:SortKind}{Ok:Keyed->Prop}{rk:Keyed->Int}(e:s.heap.get? a=some (seqObj "list" vs.toArray n))(h2:2<=vs.length)(big:vs.length<=sizeLine)(hk:∀Q:SortKind->Shared->Prop,Q κ { s with heap:=cJ s.heap a vs }->wpAny (model prog w) A (keyKind' vs.toArray) Q E { s with heap:=cJ s.heap a vs })(c:bV prog w A E { s with heap:=cJ s.heap a vs } κ Ok rk)(o:∀v∈vs,Ok (v,v))(q:∀out:List Value,out.Perm vs->out.Pairwise (λu v=>rk (u,u)<=rk (v,v))->P (.done (.ret .none)) { s with heap:=sortedHeap s.heap a vs out.toArray }):wpAny (model prog w) A (Builtin.«list.sort» ⟨[.ref a],[]⟩) P E s:=by
 have la:=bm3 e
 have cc:¬vs.toArray.size<2:=by simpa using h2
 obtain⟨k,ek⟩:∃k,(s.heap.update a (Obj.mapSeq λ_=>#[])).get? a=some (seqObj "list" #[] k):=⟨_,get?_update_seq e λ_=>#[]⟩
 have there:(cJ s.heap a vs).get? a=some (seqObj "list" #[] k):=bk6 _ (bk6 _ ek)
 rw[list_sort_plain]
 apply bk3
 apply listItems_at e rfl
 apply bk3
 refine listUpdate_at e rfl ?_ (by simpa using big) (bo4 _)
 apply bk3
 apply seqEpoch_at ek rfl
 apply bk3
 refine wpAny_newTuple ?_ big
 apply bk3
 refine wpAny_newList ?_ (bo4 _)
 apply bt1
 simp only[cc,bq1]
 apply bk3
 refine hk _ ?_
 have zl:(vs.toArray.zip vs.toArray).toList=vs.zip vs:=by simp
 apply bk3
 refine bs2 (aJ1 (a0:=vs.toArray.zip vs.toArray) (Q:=λ_ st'=>(arrOf st').Perm (vs.toArray.zip vs.toArray)/\failedOf st'=none/\Up rk (arrOf st') 0 (vs.toArray.zip vs.toArray).size) c (λx hx=>?_) ⟨Array.Perm.refl _,rfl,rfl,rfl⟩ (by simp;omega) λst' a1 a2 a3=>⟨a1,a2,a3⟩) ?_ λ_ _ z=>z
 ·have hx':x∈vs.zip vs:=by rw[<- zl];exact Array.mem_toList_iff.mpr hx
  obtain⟨y1,y2⟩:=mem_zip_self hx'
  have:=o x.1 y2
  have ex:x=(x.1,x.1):=Prod.ext rfl y1.symm
  rw[ex];exact this
 ·rintro⟨⟨⟩,st'⟩ s' ⟨rfl,pm,ok,up⟩
  have lp:(arrOf st').toList.Perm (vs.zip vs):=by rw[<- zl];exact Array.perm_iff_toList_perm.mp pm
  have out:(arrOf st').map (·.2)=((arrOf st').toList.map (·.2)).toArray:=by apply Array.toList_inj.mp;rw[Array.toList_map]
  have op:((arrOf st').toList.map (·.2)).Perm vs:=by
   have:=lp.map (·.2)
   rw[qQ]at this;exact this
  have sz:(arrOf st').size=vs.length:=by rw[pm.size_eq];simp
  dsimp only
  apply bk3
  apply seqEpoch_at there rfl
  apply bk3
  refine listUpdate_at there rfl ?_ (bo4 _) (by rw[Array.size_map,sz];exact Nat.le_succ_of_le big)
  rw[ok]
  simp only[bne_self_eq_false,bn0,bq1]
  refine bk8 ?_
  have hq:=q _ op ?_
  ·rw[<- out]at hq;exact hq
  ·rw[bs8,bp3]
   intro i j hi hj hij
   have hi':i<(arrOf st').size:=by simpa using hi
   have hj':j<(arrOf st').size:=by simpa using hj
   have h1:=up i j (bo4 _) (bu6 hij) (by simp;omega)
   rw[cA hi',cA hj']at h1
   have dg:∀x∈(arrOf st').toList,(x.2,x.2)=x:=λx hx=>Prod.ext (mem_zip_self (lp.mem_iff.mp hx)).1.symm rfl
   rw[dg _ (bs6 hi),dg _ (bs6 hj)]
   simpa using h1
theorem aJ2 {prog:Program}{w:World}{A:Around}{E:Value->Shared->Prop}{s:Shared}{l:Addr}{vs:List Value}{Q:Value->Shared->Prop}{κ:SortKind}{Ok:Keyed->Prop}{rk:Keyed->Int}(hl:s.heap.IsList l vs.toArray)(h2:2<=vs.length)(big:vs.length<=sizeLine)(hk:∀(A:Around) (E:Value->Shared->Prop) (Q:SortKind->Shared->Prop),Q κ { s with heap:=cJ (cE s.heap vs) (s.heap.objs.size+1) vs }->wpAny (model prog w) A (keyKind' vs.toArray) Q E { s with heap:=cJ (cE s.heap vs) (s.heap.objs.size+1) vs })(c:∀(A:Around) (E:Value->Shared->Prop),bV prog w A E { s with heap:=cJ (cE s.heap vs) (s.heap.objs.size+1) vs } κ Ok rk)(o:∀v∈vs,Ok (v,v))(q:∀out:List Value,out.Perm vs->out.Pairwise (λu v=>rk (u,u)<=rk (v,v))->Q (.ref (s.heap.objs.size+1)) { s with heap:=sortedAll s.heap vs out.toArray }):wpAny (model prog w) A (call (.builtin "sorted") [.ref l]) Q E s:=by
 apply Calls.call_function_entry kind_sorted plain_sorted entry_sorted (args_sorted1 _)
 simp only[Builtin.«sorted»]
 apply bk3 (m:=checkCount "sorted" 1 1 _)
 apply bk8
 apply bk3
 refine collect_list hl ?_ big
 apply bk3
 refine wpAny_newList ?_ big
 have one:((s.heap.push (seqObj "list" #[] 0)).update s.heap.objs.size (Obj.mapSeq (·++vs.toArray))).objs.size=s.heap.objs.size+1:=(Heap.size_update _ _ _).trans (size_push' _ _)
 have at1:(cE s.heap vs).get? (s.heap.objs.size+1)=some (seqObj "list" vs.toArray 0):=one▸bm4 _ rfl
 change wpAny _ _ _ _ _ { s with heap:=cE s.heap vs }
 rw[one]
 apply bk3
 apply bt1
 refine bs4 slot_list_sort ⟨_,at1,rfl⟩ entry_list_sort ?_ (args_list_sort _)
 exact V1 (s:={ s with heap:=cE s.heap vs }) at1 h2 big (hk _ _) (c _ _) o λout a1 a2=>⟨_,rfl,bk8 ⟨_,rfl,q out a1 a2⟩⟩
def sF (h:Heap)(B:Int)(x:Keyed):Int:=match x.1 with
 |.ref b=>match h.get? b with
  |some ob=>match ob.data with
   |.seq us _=>numOf (us.getD 0 .none)*B+numOf (us.getD 1 .none)
   |_=>0
  |none=>0
 |_=>0
structure j9 (h:Heap)(M:Int)(v:Value)(p q:Int):Prop where
 at_:∃b ob us n,v = .ref b/\h.get? b=some ob/\ob.cls = .type "tuple"/\ob.data = .seq (List.toArray us) n/\IntsAre us [p,q]
 lo:-M<=q
 hi:q<=M
theorem j9.rk {h:Heap}{M B:Int}{x:Keyed}{p q:Int}(z:j9 h M x.1 p q):sF h B x=p*B+q:=by
 obtain⟨b,ob,us,n,e1,e2,_,e4,e5⟩:=z.at_
 cases e5 with
 |cons _ t e6=>cases e6 with
  |cons _ u e7=>cases e7;unfold sF;rw[e1];dsimp only;rw[e2];dsimp only;rw[e4];rfl
theorem V2 {p q p' q' M:Int}(h1:-M<=q)(h2:q<=M)(h3:-M<=q')(h4:q'<=M):HT.aU [p,q] [p',q']=decide (p*(2*M+1)+q<p'*(2*M+1)+q'):=by
 rw[HT.gE]
 have mm:∀{a b:Int},a<b->a*(2*M+1)+(2*M+1)<=b*(2*M+1):=λ{a b} z=>by
  have:=Int.mul_le_mul_of_nonneg_right (show a+1<=b by omega) (show 0<=2*M+1 by omega)
  rw[Int.add_mul,Int.one_mul]at this
  exact this
 by_cases e:p=p'
 ·subst e
  rw[if_pos rfl,HT.gE]
  by_cases e2:q=q'
  ·subst e2
   rw[if_pos rfl,HT.C8,bl1 (by omega)]
  ·rw[if_neg e2]
   by_cases l:q<q'
   ·rw[bl6 l,bl6 (by omega)]
   ·rw[bl1 l,bl1 (by omega)]
 ·rw[if_neg e]
  by_cases l:p<p'
  ·have:=mm l
   rw[bl6 l,bl6 (by omega)]
  ·have:=mm (show p'<p by omega)
   rw[bl1 l,bl1 (by omega)]
theorem aJ3 {prog:Program}{w:World}{A:Around}{E:Value->Shared->Prop}{s:Shared}{M:Int}:bV prog w A E s (tuples' true) (λx=>∃p q,j9 s.heap M x.1 p q) (sF s.heap (2*M+1)):=by
 rintro x y ⟨p,q,z⟩ ⟨p',q',z'⟩ st Q hk hq
 rw[z.rk,z'.rk]at hq
 rw[<- V2 z.lo z.hi z'.lo z'.hi]at hq
 obtain⟨b,ob,us,n,e1,e2,e3,e4,e5⟩:=z.at_
 obtain⟨b',ob',us',n',e1',e2',e3',e4',e5'⟩:=z'.at_
 rw[lt'_eq]
 refine bm2 (wpS_get ?_)
 rw[hk,e1,e1']
 refine bm2 (wpS_lift (wpAny_attempt (PySem.W.kat_lt e2 e4 e2' e4' ?_)))
 have:=vX (prog:=prog) (w:=w) (A:=A) (s:=s) (Q:=λa s'=>s'=s/\wpS (model prog w) A E s (pure (some a)) Q st) 0 e5 e5' ⟨rfl,bm9 hq⟩
 simpa using this
theorem V3 {vs vs':List Value}(h:vs.Perm vs'):∀{xs:List V},aI xs vs->∃xs',xs'.Perm xs/\aI xs' vs':=by
 induction h with
 |nil=>intro xs r;exact⟨xs,List.Perm.refl _,r⟩
 |cons v _ ih=>
  intro xs r
  cases r with
  |cons r t=>
   obtain⟨xs',p,r'⟩:=ih t
   exact⟨_::xs',p.cons _,.cons r r'⟩
 |swap u v l=>
  intro xs r
  cases r with
  |cons r t=>cases t with
   |cons r2 t2=>exact⟨_,List.Perm.swap _ _ _,.cons r2 (.cons r t2)⟩
 |trans _ _ ih1 ih2=>
  intro xs r
  obtain⟨x1,p1,r1⟩:=ih1 r
  obtain⟨x2,p2,r2⟩:=ih2 r1
  exact⟨x2,p2.trans p1,r2⟩
theorem V4 {α:Type}(f:α->Int):∀l:List α,∃M:Int,∀y∈l,-M<=f y/\f y<=M
 |[]=>⟨0,λ_ h=>nomatch h⟩
 |x::l=>by
  obtain⟨M,h⟩:=V4 f l
  refine⟨max M (max (f x) (- f x)),λy hy=>?_⟩
  rcases bl8.mp hy with e|e
  ·subst e;omega
  ·have:=h y e;omega
def V5 (K:ad):List V->Hp->VK->Prop:=λxs H Q=>∃(a:Addr) (ys:List V) (key:V->af),xs = [.ref a]/\aJ K H a ys/\ys.length<=4096/\(∀y∈ys,∃b,y = .ref b/\aH K H b ((key y).map V.int)/\(key y).length=2)/\
 ∀l (zs:List V),H l=none->zs.Perm ys->zs.Pairwise (λu v=>HT.aU (key v) (key u)=false)->Q (.ref l) (upd H l (.lst zs))
theorem aJ4 {X:Cx}:cP X (.builtin "sorted") (V5 X.K):=by
 intro pins s σ H xs us Q I r h
 obtain⟨a,ys,key,rfl,hs,hz4,hk,q⟩:=h
 obtain⟨u,rfl,ru⟩:=fU r
 cases ru
 obtain⟨its,rv,p,hz⟩:=I.list hs
 have hl:=rv.length
 have hn:s.heap.objs.size<=s.heap.objs.size+1:=Nat.le_succ _
 by_cases h2:its.length<2
 ·refine vW p.isList h2 ?_
  obtain⟨e,he⟩:=sortedAll_at s.heap its its.toArray
  refine⟨.ref (s.heap.objs.size+1),upd H (s.heap.objs.size+1) (.lst ys),I.laid (t':=s.toks) (λ_ _=>sortedAll_old) hn ⟨hz,its,e,rv,he⟩,rfl,q _ ys (I.hok.fresh hn) (List.Perm.refl _) ?_⟩
  match ys,hl with
  |[],_=>exact bv8
  |[_],_=>exact bo1 _ _
  |_::_::_,hl=>simp at hl;omega
 ·obtain⟨M,hM⟩:=V4 (λy=>(key y).getD 1 0) ys
  have pv:∀{y:V}{v:Value},aP y v->y∈ys->∃pp qq,key y = [pp,qq]/\j9 (cJ (cE s.heap its) (s.heap.objs.size+1) its) M v pp qq:=λ{y v} ry hy=>by
   obtain⟨b,rfl,sq,l2⟩:=hk y hy
   cases ry
   obtain⟨us,ru,⟨ob,e1,c1,n1,d1⟩,_⟩:=I.tuple sq
   have ia:=kS ru
   have mm:=hM _ hy
   match hkk:key (V.ref b),l2 with
   |[pp,qq],_=>
    rw[hkk]at ia mm
    exact⟨pp,qq,rfl,⟨b,ob,us,n1,rfl,V0 (bo2 (Nat.lt_succ_of_lt (bm3 e1))) (U9 e1),c1,d1,ia⟩,mm.1,mm.2⟩
  have pvs:∀{xs:List V}{vs:List Value},aI xs vs->(∀y∈xs,y∈ys)->∀v∈vs,∃pp qq,j9 (cJ (cE s.heap its) (s.heap.objs.size+1) its) M v pp qq:=by
   intro xs vs r
   induction r with
   |nil=>intro _ v hv;cases hv
   |cons rx rt ih=>
    intro hh v hv
    rcases bl8.mp hv with z|z
    ·subst z
     obtain⟨pp,qq,_,z⟩:=pv rx (hh _ bl7)
     exact⟨pp,qq,z⟩
    ·exact ih (λy hy=>hh y (bm1 _ hy)) v z
  have firsts:∀{vs:List Value},(∀v∈vs,∃pp qq,j9 (cJ (cE s.heap its) (s.heap.objs.size+1) its) M v pp qq)->∃fs:List Value,PySem.W.KatTups (cJ (cE s.heap its) (s.heap.objs.size+1) its) vs fs/\fs.length=vs.length/\∀v∈fs,∃i t,v=Value.int i t:=by
   intro vs
   induction vs with
   |nil=>intro _;exact⟨[],PySem.W.KatTups.nil,rfl,λ_ z=>nomatch z⟩
   |cons v vs ih=>
    intro hh
    obtain⟨fs,t1,t2,t3⟩:=ih λy hy=>hh y (bm1 _ hy)
    obtain⟨pp,qq,z⟩:=hh v bl7
    obtain⟨b,ob,us,n,rfl,e2,e3,e4,e5⟩:=z.at_
    cases e5 with
    |cons _ t e6=>exact⟨Value.int pp t::fs,PySem.W.KatTups.cons e2 e3 e4 (by simp) t1,by simp[t2],λv hv=>(bl8.mp hv).elim (λz=>⟨pp,t,z⟩) (t3 v)⟩
  have allp:=pvs rv λ_ h=>h
  obtain⟨fs,t1,t2,t3⟩:=firsts allp
  refine aJ2 (κ:=tuples' true) (Ok:=λx=>∃pp qq,j9 (cJ (cE s.heap its) (s.heap.objs.size+1) its) M x.1 pp qq) (rk:=sF (cJ (cE s.heap its) (s.heap.objs.size+1) its) (2*M+1)) p.isList (by omega) (by rw[<- hl];exact hz)
   (λA E Q hQ=>?_) (λA E=>aJ3 (s:={ s with heap:=cJ (cE s.heap its) (s.heap.objs.size+1) its })) (λv hv=>allp v hv) λout pm so=>?_
  ·refine PySem.W.kat_kind (T:=.type "int") t1 (by omega) (λv hv=>?_) (by decide) ?_
   ·obtain⟨i,t,rfl⟩:=t3 v hv
    exact PySem.W.Looks.now
   ·have eT:(Value.type "int" != Value.type "tuple")=true:=by decide
    rw[eT];exact hQ
  ·obtain⟨zs,pz,rz⟩:=V3 pm.symm rv
   obtain⟨e,he⟩:=sortedAll_at s.heap its out.toArray
   refine⟨.ref (s.heap.objs.size+1),upd H (s.heap.objs.size+1) (.lst zs),I.laid (t':=s.toks) (λ_ _=>sortedAll_old) hn ⟨by rw[pz.length_eq];exact hz,out,e,rz,he⟩,rfl,q _ zs (I.hok.fresh hn) pz ?_⟩
   have lz:=rz.length
   rw[bp3]
   intro i j hi hj hij
   have s1:=bp3.mp so i j (by omega) (by omega) hij
   have gi:=kW i hi rz
   have gj:=kW j hj rz
   simp only[bl3,bk5 hi,bk5 hj,bk5 (show i<out.length by omega),bk5 (show j<out.length by omega),Option.getD_some]at gi gj
   obtain⟨pi,qi,ki,vi⟩:=pv gi (pz.mem_iff.mp (bs6 hi))
   obtain⟨pj,qj,kj,vj⟩:=pv gj (pz.mem_iff.mp (bs6 hj))
   rw[j9.rk (x:=(out[i],out[i])) vi,j9.rk (x:=(out[j],out[j])) vj]at s1
   rw[ki,kj,V2 vj.lo vj.hi vi.lo vi.hi]
   exact bl1 (by omega)
end L2
namespace L2
open PySem PySem.Spec PyProof.Rows
theorem bM.at {P:Program}{w:World}{H:Hp}{h:Heap}{a:Addr}{o:HO}(x:bM P w H h a o):∃ob,h.get? a=some ob:=by
 cases o with
 |lst xs=>obtain⟨_,_,_,_,e⟩:=x;exact⟨_,e⟩
 |tup xs=>obtain⟨_,_,_,⟨_,e,_⟩,_⟩:=x;exact⟨_,e⟩
 |dK kvs=>obtain⟨_,_,_,_,_,_,_,e,_⟩:=x;exact⟨_,e⟩
 |dT kvs=>obtain⟨_,_,_,_,_,_,_,e,_⟩:=x;exact⟨_,e⟩
 |set S n=>obtain⟨_,_,_,_,e,_⟩:=x;exact⟨_,e⟩
 |ins C dx fs=>obtain⟨_,_,_,e,_⟩:=x;exact⟨_,e⟩
 |own y=>exact x
 |xd fs=>obtain⟨_,⟨_,_,_,e,_⟩,_⟩:=x;exact⟨_,e⟩
 |rng lo hi=>obtain⟨_,_,_,e⟩:=x;exact⟨_,e⟩
 |frz ob u=>obtain⟨e,_⟩:=x;exact⟨_,e⟩
 |tbl ps=>exact⟨_,x⟩
 |met f y=>exact⟨_,x⟩
 |ext φ=>exact x.2.1
structure xK (P:Program)(w:World)(outer:List Env)(H:Hp)(s:Shared)(H':Hp)(B:Heap)(a C:Addr)(s':Shared):Prop where
 os:s'.os=s.os
 bare:AllBare s'.gens
 un:Un (bY outer) [] H H' s.heap s'.heap
 hok:bO P w H' s'.heap
 fly:∃a0,Heap.FlyingW B outer a (.ref C) a0 s'.heap
 b0:∀b o,s.heap.get? b=some o->b∉bY outer->∃o',B.get? b=some o'
 b1:∀b o,s.heap.get? b=some o->H b=none->b∉bY outer->B.get? b=some o
 b2:∀b u o,H' b=some u->s'.heap.get? b=some o->B.get? b=some o
def eO (P:Program)(w:World):gC:=λouter H s E e s'=>∃(H':Hp) (B:Heap) (a C:Addr),e = .ref a/\xK P w outer H s H' B a C s'/\E (.ref C) none H'
section
variable {P:Program}{w:World}{outer:List Env}{H H':Hp}{s s':Shared}{B h2:Heap}{a C:Addr}
theorem xK.hok2 (f:xK P w outer H s H' B a C s')(k:B.StaysIn h2):bO P w H' h2:=λb u e=>
 (f.hok b u e).stay (λc v hc q=>by
  rcases hc with z|z
  ·subst z;exact k _ _ (f.b2 _ _ _ e q)
  ·exact k _ _ (f.b2 _ _ _ z q)) (λ_ q=>q) λ_ _ q=>q
end
section
variable {P:Program}{w:World}{K:ad}{mg:Str→Option Value}{base:Heap}{N:List Str}{qual:Str}{scope:Scope}{f:Addr}{cd:Value}{A:Around}{outer:List Env}{s₀:Shared}{H₀:Hp}{E₀ E₁:XK}
theorem sG {pins:List (Addr×Obj)}{σ:St}{H:Hp}{s:Shared}(I:a6 (cX (eO P w) P w K mg base N qual scope f cd A outer s₀ H₀ E₀) pins σ H s){b:Addr}{o:Obj}(e:s₀.heap.get? b=some o)(n:b∉bY outer) :
  b∉bY (envOfC qual scope s₀.heap.objs.size f cd::outer):=λz=>by
 rcases bl8.mp (I.stkSub b z) with y|y
 ·have l:=bm3 e
  have y:b=s₀.heap.objs.size:=y
  exact absurd l (by rw[y];exact br2 _)
 ·exact n y
theorem aJ5 (hE:∀c d H',E₁ c d H'->E₀ c d H'):o0 (eO P w) (cX (eO P w) P w K mg base N qual scope f cd A outer s₀ H₀ E₀) E₁:=by
 intro pins σ H s e s' I hx
 obtain⟨H',B,a,C,e1,fl,q⟩:=hx
 subst e1
 have I':=I.call' fl.os fl.un fl.hok fl.bare (ch:=[]) (λb z=>absurd z (by simp))
 obtain⟨a0,fly⟩:=fl.fly
 refine wpAny_leaves_onW I.ok.frames rfl fly λh' fly' up=>?_
 have slot:∀b o,s₀.heap.get? b=some o->b∈bY outer->∃sl,h'.get? b=some { o with slots:=sl }:=λb o e hb=>by
  obtain⟨sl,e1⟩:=I'.base.slot b o e (I.ok.frf b hb) hb (λz=>nomatch z)
  obtain⟨_,o2,e2,nf⟩:=I.ok.funs.mem hb
  rw[show (cX (eO P w) P w K mg base N qual scope f cd A outer s₀ H₀ E₀).s₀=s₀ from rfl,e]at e2
  cases e2
  obtain⟨sl',e3⟩:=up b _ e1 nf
  exact⟨sl',e3⟩
 have old:∀b o,s₀.heap.get? b=some o->H₀ b=none->b∉bY outer->B.get? b=some o:=λb o e n hb=>
  fl.b1 b o (I.base.keep b o e n hb (λz=>nomatch z)) (I.base.free b o e n (λz=>nomatch z)) (sG I e hb)
 have old0:∀b o,s₀.heap.get? b=some o->b∉bY outer->∃o',B.get? b=some o':=λb o e hb=>by
  obtain⟨o1,e1⟩:=I.base.there b o e (λz=>nomatch z)
  exact fl.b0 b o1 e1 (sG I e hb)
 refine⟨H',B,a,C,rfl,⟨I'.os,I'.bare,⟨λb o e n hb _=>fly'.1 _ _ (old b o e n hb),λb o e n hb _=>slot b o e hb,λb o e n hx=>I'.base.free b o e n hx,λb o e _=>?_,I'.base.tups,I'.base.frzs,I'.base.tbls⟩,fl.hok2 fly'.1,⟨a0,fly'⟩,old0,old,λb u o e h=>?_⟩,hE _ _ _ q⟩
 ·by_cases hb:b∈bY outer
  ·obtain⟨sl,e1⟩:=slot b o e hb
   exact⟨_,e1⟩
  ·obtain⟨o',e1⟩:=old0 b o e hb
   exact⟨o',fly'.1 _ _ e1⟩
 ·obtain⟨ob,e1⟩:=(fl.hok b u e).at
  have e2:=fl.b2 b u ob e e1
  have e3:=fly'.1 _ _ e2
  have h:h'.get? b=some o:=h
  rw[h]at e3;cases e3;exact e2
theorem aJ6 {pins:List (Addr×Obj)}{σ:St}{H:Hp}{s:Shared}{h':Heap}{e C:Addr}{args:List Value}(I:a6 (cX (eO P w) P w K mg base N qual scope f cd A outer s₀ H₀ E₀) pins σ H s)(mx:Heap.MadeExcOf s.heap h' e (.ref C) args)(q:E₀ (.ref C) none H) :
  (cX (eO P w) P w K mg base N qual scope f cd A outer s₀ H₀ E₀).xe (.ref e) { s with heap:=h' }:=by
 have tr:∀b u,H b=some u->b∉bY (envOfC qual scope s₀.heap.objs.size f cd::outer):=λb u z n=>by
  rw[I.stkFree b n]at z;cases z
 have inB:∀b o,s.heap.get? b=some o->b∉bY (envOfC qual scope s₀.heap.objs.size f cd::outer)->(PySem.W.hideAll s.heap (bY (envOfC qual scope s₀.heap.objs.size f cd::outer))).get? b=some o:=λb o z n=>PySem.W.hideAll_get _ z n
 refine wpAny_leaves_madeW (base:=PySem.W.hideAll s.heap (bY (envOfC qual scope s₀.heap.objs.size f cd::outer))) I.ok.frames rfl (λb o z=>PySem.W.of_hideAll _ z) (PySem.W.funFrames_hide I.stack λenv he b hb=>List.mem_filterMap.mpr ⟨env,he,hb⟩) mx λh'' t fly _ _ up=>?_
 have slot:∀b o,s₀.heap.get? b=some o->b∈bY outer->∃sl,h''.get? b=some { o with slots:=sl }:=λb o e hb=>by
  obtain⟨sl,e1⟩:=I.base.slot b o e (I.ok.frf b hb) hb (λz=>nomatch z)
  obtain⟨_,o2,e2,nf⟩:=I.ok.funs.mem hb
  rw[show (cX (eO P w) P w K mg base N qual scope f cd A outer s₀ H₀ E₀).s₀=s₀ from rfl,e]at e2
  cases e2
  obtain⟨sl',e3⟩:=up b _ (mx.keeps _ _ e1) nf
  exact⟨sl',e3⟩
 have old:∀b o,s₀.heap.get? b=some o->H₀ b=none->b∉bY outer->(PySem.W.hideAll s.heap (bY (envOfC qual scope s₀.heap.objs.size f cd::outer))).get? b=some o:=λb o e n hb=>
  inB b o (I.base.keep b o e n hb (λz=>nomatch z)) (sG I e hb)
 have old0:∀b o,s₀.heap.get? b=some o->b∉bY outer->∃o',(PySem.W.hideAll s.heap (bY (envOfC qual scope s₀.heap.objs.size f cd::outer))).get? b=some o':=λb o e hb=>by
  obtain⟨o1,e1⟩:=I.base.there b o e (λz=>nomatch z)
  exact⟨o1,inB b o1 e1 (sG I e hb)⟩
 refine⟨H,_,e,C,rfl,⟨I.os,I.bare,⟨λb o e n hb _=>fly.1 _ _ (old b o e n hb),λb o e n hb _=>slot b o e hb,λb o e n hx=>I.base.free b o e n hx,λb o e _=>?_,I.base.tups,I.base.frzs,I.base.tbls⟩,λb u z=>?_,⟨_,fly⟩,old0,old,λb u o z h=>?_⟩,q⟩
 ·by_cases hb:b∈bY outer
  ·obtain⟨sl,e1⟩:=slot b o e hb
   exact⟨_,e1⟩
  ·obtain⟨o',e1⟩:=old0 b o e hb
   exact⟨o',fly.1 _ _ e1⟩
 ·refine (I.hok b u z).stay (λc v hc y=>?_) (λ_ y=>y) λ_ _ y=>y
  rcases hc with z'|z'
  ·subst z';exact fly.1 _ _ (inB _ _ y (tr _ _ z))
  ·exact fly.1 _ _ (inB _ _ y (tr _ _ z'))
 ·obtain⟨ob,e1⟩:=(I.hok b u z).at
  have e2:=inB b ob e1 (tr b u z)
  have e3:=fly.1 _ _ e2
  have h:h''.get? b=some o:=h
  rw[h]at e3;cases e3;exact e2
end
structure mV (X:Cx)(E:XK):Prop where
 pass:o0 (eO X.prog X.w) X E
 made:∀(pins:List (Addr×Obj)) (σ:St) (H:Hp) (s:Shared) (h':Heap) (e C:Addr) (args:List Value),a6 X pins σ H s->Heap.MadeExcOf s.heap h' e (.ref C) args->E (.ref C) none H->X.xe (.ref e) { s with heap:=h' }
 own:PassesOwn (model X.prog X.w) X.A X.env X.xe
theorem aJ7 {P:Program}{w:World}{K:ad}{mg:Str->Option Value}{base:Heap}{N:List Str}{qual:Str}{scope:Scope}{f:Addr}{cd:Value}{A:Around}{outer:List Env}{s₀:Shared}{H₀:Hp}{E₀ E₁:XK}(hE:∀c d H',E₁ c d H'->E₀ c d H') :
  mV (cX (eO P w) P w K mg base N qual scope f cd A outer s₀ H₀ E₀) E₁:=
 ⟨aJ5 hE,λ_ _ _ _ _ _ _ _ I mx q=>aJ6 I mx (hE _ _ _ q),PassesOwn.leaving⟩
def V6 (E:XK)(C:Addr)(t:TA):TS:=λ_ σ H=>t σ H λvs H1=>vs.length<=sizeLine/\E (.ref C) none H1
theorem aJ8 {X:Cx}{E:XK}{x:Str}{C:Addr}{bm:List Value}{B newId initId:String}{np cpos pos:Pos}{e:Expr}{es:List Expr}{t:TA}(hX:mV X E)(hc:X.calm=true)(O:OwnCls x C bm newId X.mg X.base)(FB:ExcBaseFacts B newId initId bm)(ha:PA X (e::es) t)(hg:Gl X x)(hd:(x==("__debug__":Str))=false:=by decide)(he:starEach (e::es) X.env=(false,eval e X.env)::starEach es X.env:=by rfl)(hpl:(backTo cpos (starEach es X.env)).any (·.1)=false:=by rfl) :
  PS X (.Raise (some (.Call (.Name x np) (e::es) [] cpos)) none pos) (V6 E C t):=by
 intro pins s σ H D I h
 obtain⟨tl,Na,nm,qn,bs,hx,sn,sub,ab,col,dd,k0,k1,k2,k3,k5,mN,hC,hN,hni,T⟩:=O.obj
 refine wpAny_Raise_call_subT (nm:=nm) (q:=qn) (N:=Na) (bs:=bs) (bm:=tl) (hdct:=hx) (sn:=sn) (sub:=sub) (ab:=ab) (col:=col) (dd:=dd) (k0:=k0) (k1:=k1) (k2:=k2) (k3:=k3) (k5:=k5) FB (C:=C) (mN:=mN) (T.hasType FB.hasBase) (I.ok.hd hc) (by rw[he];show (false||(backTo cpos (starEach es X.env)).any (·.1))=false;rw[hpl];rfl) hni (uE I hg O.bound ⟨rfl,?_⟩ hd)
 have h1:=ha cpos pins s σ H _ I h
 rw[he]at h1 ⊢
 refine Calls.evalArgs_plain (bs2 h1 (λus s2 h2=>?_) λ_ _ y=>y)
 obtain⟨vs,H2,I2,r,hl,q⟩:=h2
 have r:aI vs us:=r
 exact⟨rfl,by show us.length<=sizeLine;rw[<- r.length];exact hl,I2.bk _ _ hC,hN.keeps I2.bk,T.keeps I2.bk,λh' e' mx=>hX.made pins σ H2 s2 h' e' C _ I2 mx q⟩
theorem eB.okX {P:Program}{w:World}{K:ad}{mg:Str->Option Value}{base:Heap}{x qual:Str}{st:Stmt}{f:Addr}{fd:FuncData}{N ps:List Str}{k:Nat}{sp:Sp}(F:eB K x qual st f fd)(S:FnScope N ps (aQ st))(len:∀vs H Q E,sp vs H Q E->vs.length=ps.length)(hbody:∀(cdv:Value) (A:Around) (outer:List Env) (s:Shared) (H:Hp) (vs:List V) (Q:VK) (E:XK),bT k (A.deeper (envOfC qual (aQ st) s.heap.objs.size f cdv))->sp vs H Q E->
   ∃t,dG (cX (eO P w) P w K mg base N qual (aQ st) f cdv A outer s H E) (dW st) t/\t { nx:=λ_ H'=>Q .non H',rt:=Q } (gD N vs) H):cL P w K mg base (eO P w) (k+1) f fd ps sp:=by
 obtain⟨oc,od,kV,doc,pm,an,cdv,ct,osl,rfl,lk,hcd⟩:=F.ex
 exact C7 lk hcd S len λA outer s H vs Q E hr hsp=>hbody cdv A outer s H vs Q E hr hsp
section
variable {X:Cx}{pins:List (Addr×Obj)}{σ:St}{H H1 H':Hp}{s s1 s':Shared}{B h2:Heap}{a C:Addr}
abbrev Cx.suite (X:Cx)(a:Addr):Cx:={ X with A:=X.A.mark (some (.ref a)),calm:=false,xe:=λ_ _=>False }
end
abbrev TB:=cG->XK->St->Hp->Prop
section
variable {X:Cx}{pins:List (Addr×Obj)}{σ:St}{H H':Hp}{s:Shared}{a:Addr}
theorem a6.reH (I:a6 X pins σ H s)(d:∀b,b≠a->H' b=H b)(ha:∃x,H a=some x)(tup:∀xs,H a≠some (.tup xs))(frz:∀o v,X.H₀ a≠some (.frz o v))(tbl:∀ps,H a≠some (.tbl ps))(hok:bO X.prog X.w H' s.heap):a6 X pins σ H' s:=by
 have none:∀b,H b=none->H' b=none:=λb e=>by
  rw[d b λz=>?_];exact e
  obtain⟨x,hx⟩:=ha
  rw[z,hx]at e;cases e
 refine⟨I.ok,I.os,I.bare,⟨I.base.keep,I.base.slot,λb o e n hx=>none b (I.base.free b o e n hx),I.base.there,λb xs q=>?_,λb o u q=>?_,λb ps q=>?_⟩,I.loc,I.cell,none _ I.free,λx c e=>none c (I.freeC x c e),λp hp=>?_,hok,I.len⟩
 ·have e:=I.base.tups b xs q
  rw[d b λz=>tup xs (by rw[<- z];exact e)];exact e
 ·rw[d b λz=>frz o u (by rw[<- z];exact q)];exact I.base.frzs b o u q
 ·obtain⟨more,e⟩:=I.base.tbls b ps q
  exact⟨more,by rw[d b λz=>tbl _ (by rw[<- z];exact e)];exact e⟩
 ·obtain⟨e,n,r⟩:=I.pin p hp
  exact⟨e,none _ n,r⟩
theorem a6.thaw {o:Obj}{u:HO}(I:a6 X pins σ H s)(h:H a=some (.frz o u))(n:∀o v,X.H₀ a≠some (.frz o v)):a6 X pins σ (upd H a u) s:=by
 have own:∀{c:Addr}{y:Addr},H c=some (.own y)->c≠a:=λ{c y} q z=>by rw[z,h]at q;cases q
 have tp:∀{c:Addr}{xs:List V},H c=some (.tup xs)->c≠a:=λ{c xs} q z=>by rw[z,h]at q;cases q
 refine I.reH (a:=a) (λb n=>aC n) ⟨_,h⟩ (λxs q=>by rw[h]at q;cases q) n (λps q=>by rw[h]at q;cases q) λb v q=>?_
 by_cases hb:b=a
 ·subst hb
  rw[aT]at q;cases q
  exact bM.stay (I.hok b _ h).2 (λ_ _ _ q=>q) (λc q=>by rw[aC (own q)];exact q) λc xs q=>by rw[aC (tp q)];exact q
 ·rw[aC hb]at q
  exact (I.hok b v q).stay (λ_ _ _ q=>q) (λc q=>by rw[aC (own q)];exact q) λc xs q=>by rw[aC (tp q)];exact q
end
def V7 (a:Addr)(o:Obj)(ys:List V):It:=
 ⟨λi H=>(∃u,H a=some (.frz o u))/\i<ys.length,λi H v H'=>H'=H/\ys[i]? = some v,λi H=>(∃u,H a=some (.frz o u))/\i=ys.length⟩
theorem aJ9 {P:Program}{w:World}{K:ad}{tg:Expr}{o:Obj}{es:Array DictEntry}{ep:Nat}{ys:List V}(a it:Addr)(od:o.ExactDict/\o.data = .dict es ep)(vl:aI ys (es.toList.map (·.key))) :
  gP P w K tg (V7 a o ys) [it] it (λi h=>h.IsKeyIter it a i es.size ep):=by
 have hs:es.size=ys.length:=by
  have:=vl.length
  rw[bl5,bq9]at this
  exact this.symm
 refine⟨by simp,λi h st b hb=>?_,λi h h' st k=>st.at λo e=>k it (by simp) o e,?_,?_,λ_ _ _ _ _ st q=>wpAny_pyIter_keyiter st q⟩
 ·obtain rfl:b=it:=by simpa using hb
  obtain⟨o,e,c,d⟩:=st
  exact⟨o,e,λv z=>by rw[d]at z;cases z⟩
 ·intro X hP hw hK hc i pins s σ H E I hf st hg
  subst hP hw hK
  obtain⟨⟨u,hu⟩,hi⟩:=hg
  obtain⟨f0,f1,f2,f3,f4,f5⟩:=hf it (by simp)
  refine Raw.turn (I.ok.hd hc) st ⟨o,(I.hok a _ hu).1,od.1,od.2⟩ (λlt h' again sb=>?_) (λge=>absurd ge (by omega))
  have I1:a6 X pins σ H { s with heap:=h' }:=I.turned (t':=s.toks) (λb o hb e=>(sb.2 b hb).trans e) f0 f1 f3 f4 f5
  have hv:=bk5 hi
  obtain⟨key,hk,rv⟩:=vl.get hv
  obtain rfl:key=es[i].key:=by
   rw[bl4]at hk
   simp[lt]at hk
   exact hk.symm
  obtain⟨o',e,c,d⟩:=id again
  exact⟨es[i].key,rfl,pT (s:={ s with heap:=h' }) e c d (by decide) ⟨_,H,I1,rv,⟨rfl,hv⟩,again,λb hb=>(hf b hb).1⟩⟩
 ·intro X hP hw hK hc i pins s σ H E I hf st hg
  subst hP hw hK
  obtain⟨⟨u,hu⟩,hi⟩:=hg
  obtain⟨f0,f1,f2,f3,f4,f5⟩:=hf it (by simp)
  exact Raw.turn (I.ok.hd hc) st ⟨o,(I.hok a _ hu).1,od.1,od.2⟩ (λlt=>absurd lt (by omega)) λ_ h' eb=>⟨rfl,I.turned (t':=s.toks) (λb o hb e=>eb b o hb e) f0 f1 f3 f4 f5⟩
end L2
namespace Core
open PySem L2 PP
def hV (ns:af):Bool:=((ns.zip (ns.drop 1)).map λp=>decide (p.1<p.2)).all id
theorem pD {α β:Type}{l:List α}{f:α->β}{i:Nat}{x:α}(h:l[i]? = some x):(l.take (i+1)).map f=(l.take i).map f++[f x]:=by
 rw[bp6,h];simp
theorem k8:∀{ns:af},hV ns=true->ns.Pairwise (·<·)
 |[],_=>.nil
 |[x],_=>bo1 _ _
 |x::y::r,h=>by
  have e:hV (x::y::r)=(decide (x<y)&&hV (y::r)):=rfl
  rw[e,bp4]at h
  have ih:=k8 h.2
  refine List.pairwise_cons.mpr ⟨λz hz=>?_,ih⟩
  rcases bl8.mp hz with rfl|hz
  ·exact bq2 h.1
  ·exact Int.lt_trans (bq2 h.1) (List.rel_of_pairwise_cons ih hz)
theorem xL:∀{ns:af},ns.Pairwise (·<·)->hV ns=true
 |[],_=>rfl
 |[x],_=>rfl
 |x::y::r,h=>by
  have e:hV (x::y::r)=(decide (x<y)&&hV (y::r)):=rfl
  have h':=List.pairwise_cons.mp h
  rw[e,xL h'.2,bA1]
  exact bl6 (h'.1 y bl7)
def kin (ws:af)(ls:aa)(S:af)(h:Int):Bool:=!decide (h∈S)&&decide (ws.getD h.toNat 0<=(((bB ls h).filter λx=>decide (x∈S)).length:Int))
def nextOf (ws:af)(ls:aa)(S:af):af:=((List.range ws.length).map λ(i:Nat)=>(i:Int)).filter (kin ws ls S)
def bA (ws:af)(ls:aa)(S:af):Nat->af
 |0=>S
 |k+1=>bA ws ls S k++nextOf ws ls (bA ws ls S k)
def cold (ws:af)(S:af):Nat:=(((List.range ws.length).map λ(i:Nat)=>(i:Int)).filter λx=>!decide (x∈S)).length
theorem xM {α:Type}(p q:α->Bool)(h:∀x,q x=true->p x=false):∀L:List α,(L.filter λx=>!p x&&!q x).length+(L.filter q).length=(L.filter λx=>!p x).length
 |[]=>rfl
 |x::r=>by
  have ih:=xM p q h r
  cases e1:p x with
  |true=>
   have e2:q x=false:=by
    cases e:q x with
    |false=>rfl
    |true=>have:=h x e;rw[e1]at this;cases this
   simp only[bp7,e1,e2,Bool.not_true,Bool.false_and,bn0,bq1]
   exact ih
  |false=>
   cases e2:q x with
   |true=>
    simp only[bp7,e1,e2,Bool.not_true,Bool.not_false,Bool.and_false,bn0,bq1,if_true,bo3]
    omega
   |false=>
    simp only[bp7,e1,e2,Bool.not_false,bA1,bn0,bq1,if_true,bo3]
    omega
theorem xN {ws:af}{ls:aa}{S:af}{x:Int}(h:kin ws ls S x=true):decide (x∈S)=false:=by
 unfold kin at h
 cases e:decide (x∈S) with
 |false=>rfl
 |true=>rw[e]at h;cases h
theorem aK0 (ws:af)(ls:aa)(S:af):cold ws (S++nextOf ws ls S)+(nextOf ws ls S).length=cold ws S:=by
 have e:=xM (λx=>decide (x∈S)) (kin ws ls S) (λx h=>xN h) ((List.range ws.length).map λ(i:Nat)=>(i:Int))
 unfold cold
 rw[<- e]
 congr 2
 refine List.filter_congr λx hx=>?_
 have:decide (x∈S++nextOf ws ls S)=(decide (x∈S)||kin ws ls S x):=by
  rw[bq8]
  unfold nextOf
  simp only[bm8,bn4,bm0,Bool.or_eq_true]
  exact⟨λz=>z.elim .inl λz=>.inr z.2,λz=>z.elim .inl λz=>.inr ⟨hx,z⟩⟩
 rw[this]
 cases decide (x∈S)<;>cases kin ws ls S x<;>rfl
def after (ws:af)(ls:aa)(S:af)(m:Nat):ae:=(List.range m).map λk=>nextOf ws ls (bA ws ls S k)
theorem xO (ws:af)(ls:aa)(ns:af):∀k,(bA ws ls ns k).length+cold ws (bA ws ls ns k)=ns.length+cold ws ns
 |0=>rfl
 |k+1=>by
  have ih:=xO ws ls ns k
  have cs:=aK0 ws ls (bA ws ls ns k)
  show (bA ws ls ns k++nextOf ws ls (bA ws ls ns k)).length+cold ws (bA ws ls ns k++nextOf ws ls (bA ws ls ns k))=_
  rw[bm7];omega
theorem V8 {ws ns:af}(hu:ns.Pairwise (·<·))(hin:∀x∈ns,0<=x/\x<(ws.length:Int)):ns.length+cold ws ns<=ws.length:=by
 have nd:ns.Nodup:=hu.imp λh=>Int.ne_of_lt h
 have sub:ns ⊆ ((List.range ws.length).map λ(i:Nat)=>(i:Int)).filter λx=>decide (x∈ns):=λx hx=>by
  refine bm0.mpr ⟨bn7.mpr ⟨x.toNat,bA2.mpr ?_,?_⟩,bl6 hx⟩
  ·have:=hin x hx;omega
  ·have:=hin x hx;omega
 have h1:=nd.length_le_of_subset sub
 have h2:=xM (λ_=>false) (λx=>decide (x∈ns)) (λ_ _=>rfl) ((List.range ws.length).map λ(i:Nat)=>(i:Int))
 have h3:(((List.range ws.length).map λ(i:Nat)=>(i:Int)).filter λx=>!false&&!decide (x∈ns)).length=cold ws ns:=rfl
 have h4:(((List.range ws.length).map λ(i:Nat)=>(i:Int)).filter λx=>!false).length<=ws.length:=by
  refine bp5 (bA7 _ _) ?_
  rw[bl5,by7];exact bk7 _
 rw[h3]at h2
 omega
def cG (ws:af)(ls:aa)(ns:af)(m:Nat):Prop:=(∀k<m,nextOf ws ls (bA ws ls ns k)≠[])/\nextOf ws ls (bA ws ls ns m) = []
theorem fZ {ns:af}{i:Nat}{x:PV}(h:(intz ns)[i]? = some x):∃n,x = .int n/\ns[i]? = some n:=by
 rw[bl4]at h
 cases e:ns[i]? with
 |none=>rw[e]at h;cases h
 |some n=>rw[e]at h;exact⟨n,(bn8 h).symm,rfl⟩
theorem i5 {lo:Int}{n i:Nat}{x:PV}(h:(dD lo n)[i]? = some x):x = .int (lo+i)/\i<n:=by
 have hi:i<n:=by
  have:=(bl9.mp h).1
  rwa [dO]at this
 rw[wR hi]at h
 exact⟨(bn8 h).symm,hi⟩
def rng (n:Nat):af:=(List.range n).map λ(i:Nat)=>(i:Int)
theorem eZ (n:Nat):(rng n).length=n:=by unfold rng;rw[bl5,by7]
theorem pE {n i:Nat}(h:i<n):(rng n)[i]? = some (i:Int):=by unfold rng;rw[bl4,List.getElem?_range h];rfl
theorem e8 {n:Nat}{x:Int}:x∈rng n↔0<=x/\x<(n:Int):=by
 unfold rng
 rw[bn7]
 constructor
 ·rintro⟨i,hi,rfl⟩
  have:=bA2.mp hi
  omega
 ·intro h
  exact⟨x.toNat,bA2.mpr (by omega),by omega⟩
theorem k9 {α:Type}{l:List α}{p:α->Bool}{i:Nat}{x:α}(h:l[i]? = some x):(l.take (i+1)).filter p=(l.take i).filter p++(if p x=true then [x] else []):=by
 rw[bp6,h,bA6]
 congr 1
 cases e:p x<;>simp[e]
theorem fA (a b:af):intz (a++b)=intz a++intz b:=bn6
theorem aW (a:af):(intz a).length=a.length:=bl5 _
def bC (ws:af)(ls:aa):PV:=.tup [.tup (intz ws),.tup (ls.map λl=>.tup [.int l.1,.int l.2])]
structure Wb (ws:af)(ls:aa):Prop where
 few:ws.length<=40
 most:ls.length<=1700
 links:∀l∈ls,(0<=l.1/\l.1<ws.length)/\0<=l.2/\l.2<ws.length
def cK (x:PV)(ns:af):Prop:=x = .tup (intz ns)∨x = .lst (intz ns)
theorem cK.seq {x:PV}{ns:af}(h:cK x ns):jW x=some (intz ns):=by rcases h with rfl|rfl<;>rfl
theorem cK.seqT {x:PV}{ns:af}(h:cK x ns):seqT x=some (intz ns):=by rcases h with rfl|rfl<;>rfl
theorem V9:∀(ls:aa),flats (ls.map λl=>PV.tup [.int l.1,.int l.2])=true
 |[]=>rfl
 |l::r=>by
  show (flat (.tup [.int l.1,.int l.2])&&flats (r.map λl=>PV.tup [.int l.1,.int l.2]))=true
  rw[V9 r];rfl
theorem pF (ns:af):flat (.tup (intz ns))=true:=cR ns
def gL:bK:=λxs Q=>∃ws ls,xs = [bC ws ls]/\Q (.int ws.length)
def W0:aM:=(bJ (aE bQ (a7 (bH (a5 0) (qC (.int 0))) a9)))
abbrev dC (t:aM)(N:List Str)(p:bK):Prop:=∀xs Q,p xs Q->t { nx:=λ_=>Q .non,rt:=Q } (fO N xs)
theorem aK1:dC W0 ["web"] gL:=by
 rintro xs Q ⟨ws,ls,rfl,q⟩
 refine⟨_,rfl,_,_,_,rfl,rfl,rfl,_,_,rfl,rfl,trivial,?_⟩
 rw[aW];exact q
def xP:bK:=λxs Q=>∃x ns,xs = [x]/\cK x ns/\ns.length<=1000/\Q (.bl (hV ns))
def inB (n:Nat)(x:Int):Bool:=decide (0<=x)&&decide (x<(n:Int))
def sH:bK:=λxs Q=>∃ws ls n,xs = [bC ws ls,.int n]/\Q (.bl (inB ws.length n))
def W5:aM:=(bJ (qZ (P4 (a5 1) (qC (.int 0))) (lD (a5 1) (aE gL (a7 (a5 0) a9)))))
theorem aK2:dC W5 ["web","number"] sH:=by
 rintro xs Q ⟨ws,ls,n,rfl,q⟩
 refine⟨_,rfl,_,_,rfl,rfl,_,rfl,?_⟩
 unfold inB at q
 by_cases h:(0:Int)<=n
 ·rw[bl6 h]at q ⊢
  refine bP ⟨_,rfl,_,rfl,ws,ls,rfl,_,_,rfl,rfl,trivial,?_⟩
  simpa using q
 ·rw[bl1 h]at q ⊢
  exact bG ⟨trivial,by simpa using q⟩
def bD (n:Nat)(ns:af):Bool:=hV ns&&(ns.map (inB n)).all id
def sJ:bK:=λxs Q=>∃ws ls x ns,xs = [bC ws ls,x]/\cK x ns/\ns.length<=1000/\Q (.bl (bD ws.length ns))
def W6:aM:=(bJ (qZ (aE xP (a7 (a5 1) a9)) (aE wM (a7 (c7 (cN (a5 1)) [none,some 0] (b8 0) dX (aE sH (a7 (a5 1) (a7 (a5 0) a9)))) a9))))
theorem kA {x:PV}{ns:af}(h:cK x ns):(Slot.sh (flat x) x).tag = .rd->flat x=true:=by
 cases flat x<;>intro z<;>cases z
theorem aK3:dC W6 ["web","numbers"] sJ:=by
 rintro xs Q ⟨ws,ls,x,ns,rfl,hx,hl,q⟩
 refine⟨_,rfl,x,ns,rfl,hx,hl,_,rfl,?_⟩
 unfold bD at q
 cases h:hV ns with
 |false=>rw[h]at q;exact bG ⟨trivial,q⟩
 |true=>
  rw[h]at q
  refine bP ⟨_,rfl,_,hx.seq,kA hx,by rw[aW];omega,λi acc=>acc=(((ns.take i).map (inB ws.length)).map PV.bl),rfl,?_,?_⟩
  ·rintro i y acc hy rfl
   obtain⟨n,rfl,hn⟩:=fZ hy
   have tk:((ns.take (i+1)).map (inB ws.length)).map PV.bl=((ns.take i).map (inB ws.length)).map PV.bl++[PV.bl (inB ws.length n)]:=by rw[pD hn,bn6];rfl
   exact⟨_,rfl,_,rfl,ws,ls,n,rfl,trivial,tk.symm⟩
  ·rintro acc rfl
   rw[aW,bn9]
   exact⟨_,rfl,trivial,by simpa using q⟩
theorem cK.noscr {x:PV}{ns:af}(h:cK x ns):∀ms,([x]:List PV)≠[.scr ms]:=by
 rcases h with rfl|rfl<;>intro ms z<;>cases z
structure DS (ps:List (aG×PV))(S:af):Prop where
 has:∀i:Int,(c8 ps (Sum.inl i:aG)).isSome=decide (i∈S)
 len:ps.length<=S.length
 fl:flats (ps.map (·.2))=true
theorem DS.nil:DS [] []:=⟨λi=>rfl,bk7 _,rfl⟩
section
variable {κ:Type}[DecidableEq κ]
theorem jA {p:κ×PV}{r:List (κ×PV)}{k:κ}(e:p.1=k):c8 (p::r) k=some p.2:=by simp[c8,bv0,e]
theorem jB {p:κ×PV}{r:List (κ×PV)}{k:κ}(e:¬p.1=k):c8 (p::r) k=c8 r k:=by simp[c8,bv0,e]
theorem xQ (k:κ):∀kvs:List (κ×PV),(kvs.any λkv=>decide (kv.1=k))=(c8 kvs k).isSome
 |[]=>rfl
 |p::r=>by
  rw[bA0]
  by_cases e:p.1=k
  ·simp only[jA e,bl6 e,Bool.true_or,Option.isSome_some]
  ·rw[jB e,bl1 e,Bool.false_or];exact xQ k r
theorem W7 (k j:κ)(y:PV):∀kvs:List (κ×PV),c8 (kvs.map λkv=>if kv.1=k then (kv.1,y) else kv) j=(c8 kvs j).map λx=>if j=k then y else x
 |[]=>rfl
 |p::r=>by
  have ih:=W7 k j y r
  rw[bq5]
  by_cases h:p.1=k
  ·rw[if_pos h]
   by_cases e:p.1=j
   ·rw[jA (p:=(p.1,y)) e,jA e,Option.map_some,if_pos (e.symm.trans h)]
   ·rw[jB (p:=(p.1,y)) e,jB e,ih]
  ·rw[if_neg h]
   by_cases e:p.1=j
   ·rw[jA (p:=p) e,jA e,Option.map_some,if_neg (λz=>h (e.trans z))]
   ·rw[jB (p:=p) e,jB e,ih]
theorem W8 (k j:κ)(y:PV):∀kvs:List (κ×PV),c8 kvs k=none->c8 (kvs++[(k,y)]) j=if j=k then some y else c8 kvs j
 |[],_=>by
  by_cases e:k=j
  ·rw[if_pos e.symm];exact jA (p:=(k,y)) e
  ·rw[if_neg (λz=>e z.symm)];exact jB (p:=(k,y)) e
 |p::r,hn=>by
  rw[List.cons_append]
  have hk:¬p.1=k:=λz=>by rw[jA z]at hn;cases hn
  rw[jB hk]at hn
  have ih:=W8 k j y r hn
  by_cases e:p.1=j
  ·rw[jA e,jA e,if_neg (λz=>hk (e.trans z))]
  ·rw[jB e,jB e,ih]
theorem aK4 (kvs:List (κ×PV))(k j:κ)(y:PV):c8 (dP kvs k y) j=if j=k then some y else c8 kvs j:=by
 unfold dP
 by_cases a:(kvs.any λkv=>decide (kv.1=k))=true
 ·rw[if_pos a,W7]
  rw[xQ]at a
  by_cases e:j=k
  ·obtain⟨x,hx⟩:=Option.isSome_iff_exists.mp a
   rw[if_pos e,e,hx,Option.map_some,if_pos rfl]
  ·rw[if_neg e]
   cases c8 kvs j with
   |none=>rfl
   |some x=>rw[Option.map_some,if_neg e]
 ·rw[if_neg a]
  refine W8 k j y kvs ?_
  rw[xQ]at a
  cases q:c8 kvs k with
  |none=>rfl
  |some x=>rw[q]at a;exact (a rfl).elim
theorem aK5 (kvs:List (κ×PV))(k:κ)(v:PV):(dP kvs k v).length<=kvs.length+1:=by
 unfold dP
 split
 ·rw[bl5];omega
 ·rw[bm7,bo3,List.length_nil];omega
end
theorem xR:∀(xs:List PV),flats xs=true↔∀x∈xs,flat x=true
 |[]=>by simp[flats]
 |x::r=>by
  unfold flats
  rw[bp4,xR r];simp
theorem aK6 {κ:Type}[DecidableEq κ]{ps:List (κ×PV)}{k:κ}{v:PV}{p:κ×PV}(h:p∈dP ps k v):p.2=v∨p∈ps:=by
 unfold dP at h
 split at h
 ·obtain⟨q,hq,e⟩:=bn7.mp h
  split at e
  ·subst e;exact .inl rfl
  ·subst e;exact .inr hq
 ·rcases bn4.mp h with h|h
  ·exact .inr h
  ·rw[bl0.mp h];exact .inl rfl
theorem aK7 {κ:Type}[DecidableEq κ]{ps:List (κ×PV)}{k:κ}{v:PV}(h:flats (ps.map (·.2))=true)(hv:flat v=true):flats ((dP ps k v).map (·.2))=true:=by
 rw[xR]at h ⊢
 intro x hx
 obtain⟨p,hp,rfl⟩:=bn7.mp hx
 rcases aK6 hp with e|e
 ·rw[e];exact hv
 ·exact h _ (bn7.mpr ⟨p,e,rfl⟩)
theorem DS.put {ps:List (aG×PV)}{S:af}(h:DS ps S)(x:Int)(v:PV)(hv:flat v=true):DS (dP ps (Sum.inl x:aG) v) (S++[x]):=by
 refine⟨λi=>?_,?_,aK7 h.fl hv⟩
 ·rw[aK4]
  by_cases e:i=x
  ·subst e;rw[if_pos rfl];simp
  ·rw[if_neg (λz=>e (Sum.inl.inj z)),h.has]
   simp[e]
 ·have:=aK5 ps (Sum.inl x:aG) v
  have:=h.len
  rw[bm7,bq6];omega
def kB:bK:=λxs Q=>∃x ns,xs = [x]/\cK x ns/\ns.length<=1000/\∀ps,DS ps ns->Q (.dK ps)
def W9:aM:=(aN (iI 1 (qC (.dK [])))
 (aN (eW (cN (a5 0)) (b8 2)
  (wU 1 (a5 2) (qC (.bl true))))
 (j4 1)))
theorem aK8:dC W9 ["hearths","inside","hearth"] kB:=by
 rintro xs Q ⟨x,ns,rfl,hx,hl,q⟩
 refine⟨rfl,rfl,_,rfl,_,hx.seq,kA hx,λi ρ=>∃y ps,ρ = [some (.sh (flat x) x),some (.own (.dK ps)),y]/\DS ps (ns.take i),⟨none,[],rfl,DS.nil⟩,?_,?_⟩
 ·rintro i y ρ hy ⟨y0,ps,rfl,d⟩
  obtain⟨n,rfl,hn⟩:=fZ hy
  have hlen:=d.len
  rw[bt6]at hlen
  refine⟨_,rfl,_,rfl,Sum.inl n,rfl,trivial,by omega,_,_,rfl,?_⟩
  rw[bp6,hn]
  exact d.put n _ rfl
 ·rintro ρ ⟨y,ps,rfl,d⟩
  rw[aW,bn9]at d
  exact⟨_,rfl,trivial,q ps d⟩
def sK:bK:=λxs Q=>∃x ns ps S,xs = [x,.dK ps]/\cK x ns/\DS ps S/\ns.length<=10000/\Q (.int ((ns.filter λx=>decide (x∈S)).length:Nat))
def X0:aM:=(bJ (aE bQ (a7 (c7 (cN (a5 0)) [none,some 1] (b8 0) (aX (l9 false (a5 0) (a5 1))) (a5 0)) a9)))
theorem aK9:dC X0 ["hearths","inside"] sK:=by
 rintro xs Q ⟨x,ns,ps,S,rfl,hx,d,hl,q⟩
 refine⟨_,rfl,_,hx.seq,kA hx,by rw[aW];omega,λi acc=>acc=intz ((ns.take i).filter λx=>decide (x∈S)),rfl,?_,?_⟩
 ·rintro i y acc hy rfl
  obtain⟨n,rfl,hn⟩:=fZ hy
  have tk:=k9 (p:=λx=>decide (x∈S)) hn
  refine⟨_,rfl,_,rfl,_,.inl ⟨ps,Sum.inl n,rfl,rfl,rfl⟩,_,rfl,?_⟩
  show if (c8 ps (Sum.inl n:aG)).isSome=true then _ else _
  rw[d.has n]
  by_cases h:n∈S
  ·rw[bl6 h]at tk ⊢
   refine bP ⟨_,rfl,trivial,?_⟩
   rw[if_pos rfl]at tk
   show _=intz (List.filter _ (List.take (i+1) ns))
   rw[tk,fA];rfl
  ·rw[bl1 h]at tk ⊢
   refine bG ?_
   rw[if_neg (by decide),bo9]at tk
   show _=intz (List.filter _ (List.take (i+1) ns))
   rw[tk]
 ·rintro acc rfl
  rw[aW,bn9]
  refine⟨_,_,rfl,rfl,trivial,?_⟩
  rw[aW];exact q
def kC (n:Nat)(ls:aa):List PV:=(List.range n).map λ(k:Nat)=>PV.lst (intz (bB ls k))
def pG:bK:=λxs Q=>∃ws ls,xs = [bC ws ls]/\Wb ws ls/\Q (.lst (kC ws.length ls))
theorem X1 {n:Nat}{ls:aa}{h:Int}(h0:0<=h)(h1:h<(n:Int)):atI (kC n ls) h=some (.lst (intz (bB ls h))):=by
 refine jS h0 ?_
 unfold kC
 rw[bl4,List.getElem?_range (by omega)]
 show some (PV.lst (intz (bB ls ((h.toNat:Nat):Int))))=_
 rw[show ((h.toNat:Nat):Int)=h by omega]
theorem xS {ws:af}{h:Int}(h0:0<=h)(h1:h<(ws.length:Int)):atI (intz ws) h=some (.int (ws.getD h.toNat 0)):=by
 refine jS h0 ?_
 have:h.toNat<ws.length:=by omega
 rw[bl4,bl3,bk5 this];rfl
def tups (rs:ae):List PV:=rs.map λr=>PV.tup (intz r)
theorem jC {rs:ae}{i:Nat}{x:PV}(h:(tups rs)[i]? = some x):∃r,x = .tup (intz r)/\rs[i]? = some r:=by
 unfold tups at h
 rw[bl4]at h
 cases e:rs[i]? with
 |none=>rw[e]at h;cases h
 |some n=>rw[e]at h;exact⟨n,(bn8 h).symm,rfl⟩
theorem dI (rs:ae):(tups rs).length=rs.length:=bl5 _
theorem jD:∀(rs:ae),flats (tups rs)=true
 |[]=>rfl
 |r::t=>by
  show (flat (.tup (intz r))&&flats (tups t))=true
  rw[pF,jD t];rfl
theorem eG {n:Nat}{ns:af}(h:bD n ns=true):hV ns=true/\∀x∈ns,0<=x/\x<(n:Int):=by
 unfold bD at h
 rw[bp4,bu3]at h
 refine⟨h.1,λx hx=>?_⟩
 have:=h.2 _ (bn7.mpr ⟨x,hx,rfl⟩)
 unfold inB at this
 simpa using this
theorem mW {n:Nat}{ns:af}(h:bD n ns=true):ns.length<=n:=by
 obtain⟨h1,h2⟩:=eG h
 have:=V8 (ws:=List.replicate n (0:Int)) (k8 h1) (by rw[List.length_replicate];exact h2)
 rw[List.length_replicate]at this
 omega
end Core
namespace PP
open PySem L2
def X2 (te:aD):aD:=λρ Q=>te ρ λx _=>∃n:Int,x = .int n/\0<=n/\n<=1000000/\Q (.lst (dD 0 n.toNat)) .fr
def sL:List PV->(PV->Prop)->Prop:=λxs Q=>∃ys:ae,xs = [.lst (ys.map λr=>PV.tup (intz r))]/\ys.length<64/\(∀y∈ys,y≠[])/\∀zs:ae,zs.Perm ys->zs.Pairwise (λu v=>HT.aU v u=false)->Q (.lst (zs.map λr=>PV.tup (intz r)))
end PP
namespace Core
open PySem L2 PP
theorem aL0 (g:Tg)(n:Int):Nw g (.int n):=by cases g<;>first|exact trivial|rfl
def pH (x:PV)(ns:af):Prop:=x = .scr ns∨x = .lst (intz ns)
theorem pH.seq {x:PV}{ns:af}(h:pH x ns):jW x=some (intz ns):=by rcases h with rfl|rfl<;>rfl
theorem pH.len {x:PV}{ns:af}(h:pH x ns):wL x=some ns.length:=by
 rcases h with rfl|rfl
 ·rfl
 ·show some (intz ns).length=_
  rw[aW]
def i6:bK:=λxs Q=>∃x ns k,xs = [x,.int k]/\pH x ns/\0<=k/\Q (.int (ns.getD k.toNat 0))
def X3:aM:=(aN (cF (aX (lD (a5 1) (aE bQ (a7 (a5 0) a9)))) (bJ (bH (a5 0) (a5 1))) cZ)
 (bJ (qC (.int 0))))
theorem aL1:dC X3 ["script","k"] i6:=by
 rintro xs Q ⟨x,ns,k,rfl,hx,h0,q⟩
 refine⟨_,rfl,_,rfl,_,_,rfl,hx.len,_,_,rfl,rfl,_,rfl,?_⟩
 by_cases h:k<(ns.length:Int)
 ·rw[bl6 h]
  exact bP ⟨_,rfl,_,rfl,_,_,_,hx.seq,rfl,xS h0 h,aL0 _ _,q⟩
 ·rw[bl1 h]
  rw[bl3,bA8 (by omega)]at q
  exact bG ⟨trivial,q⟩
def fP (ls:aa):List PV:=ls.map λl=>PV.tup [.int l.1,.int l.2]
def xT (l m:Int×Int):Prop:=l.1<m.1∨(l.1=m.1/\l.2<m.2)
abbrev si (n:Int):Option Slot:=some (.sh true (.int n))
theorem cK.len {x:PV}{ns:af}(h:cK x ns):wL x=some ns.length:=by
 rcases h with rfl|rfl<;>(show some (intz ns).length=_;rw[aW])
end Core
namespace PP
open PySem L2 PyProof.Rows
theorem Reps.rep {K:ad}{M:Addr->Prop}{H:Hp}{us:List V}{xs:List PV}(r:Reps K M H us xs):∀k:Nat,Reps K M H (List.replicate k us).flatten (List.replicate k xs).flatten
 |0=>.nil
 |k+1=>by rw[bu4,bu4,by5,by5];exact r.append (Reps.rep r k)
section
variable {X:Cx}{a b e:Expr}{ta tb te:aD}{tr:cM}{pos p2 p3 pos2:Pos}
theorem X4 {tA:TA}(hg:Gl X "range")(hm:X.mg "range" = none)(ha:PA X [a] tA)(hs:starEach [a] X.env = [(false,eval a X.env)]:=by rfl) :
  PE X (.Call (.Name "range" p2) [a] [] pos) (λσ H Q=>tA σ H λvs H1=>∃j:Int,vs = [.int j]/\∀r,H1 r=none->Q (.ref r) (upd H1 r (.rng 0 j))):=by
 intro pins s σ H Q I h
 refine Call_ (jM I hg hm boot_range (bt3 (aK (ha pos pins s σ H _ I h) λus s1 ⟨vs,H1,I1,r1,q1⟩=>?_) hs rfl))
 obtain⟨j,e,q⟩:=q1
 subst e
 cases r1 with
 |cons r rr=>
  cases rr
  obtain⟨t,rfl⟩:=r
  refine call_range_1 ?_
  exact⟨.ref s1.heap.objs.size,_,I1.laid (o:=.rng 0 j) (λb ob q=>bk6 _ q) (bk7 _) ⟨_,_,_,bm4 _ rfl⟩,rfl,q _ (I1.hok.fresh (bk7 _))⟩
theorem X5:∀{xs:List V}{us:List Value},xs.length=us.length->(∀(i:Nat) x u,xs[i]? = some x->us[i]? = some u->aP x u)->aI xs us
 |[],[],_,_=>.nil
 |x::xs,u::us,hl,h=>.cons (h 0 x u rfl rfl) (X5 (by simpa using hl) λi y w h1 h2=>h (i+1) y w (by rw[bs1];exact h1) (by rw[bs1];exact h2))
theorem X6 {n:Nat}{acc:Array Value}(h:ItemsOf (λi v=>∃t,v = .int (0+(i:Int)*1) t) acc n):aI (gH 0 n) acc.toList:=by
 obtain⟨h1,h2⟩:=h
 refine X5 (by rw[qL];simp[h1]) λi x u hx hu=>?_
 have hi:i<n:=by
  have:=(bl9.mp hx).1
  rwa [qL]at this
 unfold gH at hx
 rw[bl4,List.getElem?_range hi]at hx
 cases hx
 obtain⟨t,rfl⟩:=h2 i u (by rw[<- bu5];exact hu)
 exact⟨t,by congr 1;omega⟩
theorem aL2 (hc:X.calm=true):cP X (.type "list") (λxs H Q=>∃r j,xs = [.ref r]/\H r=some (.rng 0 j)/\0<=j/\j<=1000000/\∀l,H l=none->Q (.ref l) (upd H l (.lst (gH 0 j.toNat)))):=by
 intro pins s σ H xs us Q I r h
 obtain⟨p,j,rfl,hq,h0,h1,q⟩:=h
 obtain⟨u,rfl,rx⟩:=fU r
 cases rx
 obtain⟨t,u,v,ho⟩:=(show bM X.prog X.w H s.heap p (.rng 0 j) from I.hok p _ hq)
 refine PySem.call_list_range (a:=0) (b:=j) (c:=1) (n:=j.toNat) (I.ok.hd hc) ho (small_one (by decide) (by decide) (by omega) (by omega)) (by rw[rangeSize_one];split<;>omega) (by omega) λh' tk acc' c' kp e it=>?_
 have vv:=X6 it
 have eq:acc'.toList.toArray=acc':=by simp
 exact⟨.ref s.heap.objs.size,_,I.laid (t':=tk) (o:=.lst (gH 0 j.toNat)) kp (bk7 _) ⟨by rw[qL];exact lim (by omega),acc'.toList,c',vv,by rw[eq];exact e⟩,rfl,q _ (I.hok.fresh (bk7 _))⟩
theorem X7 {K:ad}{M:Addr->Prop}{H:Hp}(lo:Int)(n:Nat):Reps K M H (gH lo n) (dD lo n):=by
 unfold gH dD
 generalize List.range n=l
 induction l with
 |nil=>exact .nil
 |cons a r ih=>exact .cons (.int _) ih
theorem aL3 (B:Bt X.mg)(ha:QE X a ta)(hc:X.calm=true:=by rfl)(hg:Gl X "list":=by rfl)(hgr:Gl X "range":=by rfl)(hs:starEach [a] X.env = [(false,eval a X.env)]:=by rfl)(he:starEach [.Call (.Name "range" p3) [a] [] pos2] X.env=(false,eval (.Call (.Name "range" p3) [a] [] pos2) X.env)::starEach [] X.env:=by rfl)(hpl:(backTo pos (starEach [] X.env)).any (·.1)=false:=by rfl) :
  QE X (.Call (.Name "list" p2) [.Call (.Name "range" p3) [a] [] pos2] [] pos) (X2 ta):=
 cD (uV (aL2 hc) hg B.list PyProof.Rows.boot_list (cW (X4 hgr B.range (cW ha dH hs) hs) dH he) (he:=he) (hpl:=hpl)) λσ H Q' h=>by
  obtain⟨W,ρ,Q,px,q,k⟩:=h
  refine⟨W,ρ,_,px,q,?_⟩
  rintro v H1 x g s r ⟨n,rfl,h0,h1,q⟩
  cases r
  refine⟨n,rfl,λr hr=>⟨r,n,rfl,aT,h0,h1,λl hl=>?_⟩⟩
  have S:aA H (upd (upd H1 r (.rng 0 n)) l (.lst (gH 0 n.toNat))):=(s.trans (aZ hr _)).trans (aZ hl _)
  exact k _ _ _ .fr S (.lst (((s.trans (aZ hr _))).free hl) aT (X7 0 n.toNat)) q
def xU:V->Int
 |.int i=>i
 |_=>0
def i7 (H:Hp):V->af
 |.ref a=>match H a with
  |some (.tup us)=>us.map xU
  |_=>[]
 |_=>[]
theorem aL4 {H:Hp}{a:Addr}{ns:af}(h:H a=some (.tup (ns.map V.int))):i7 H (.ref a)=ns:=by
 show (match H a with|some (.tup us)=>us.map xU|_=>[])=ns
 rw[h]
 show (ns.map V.int).map xU=ns
 rw[bx6]
 exact List.map_id _
theorem sM {K:ad}{M:Addr->Prop}{H:Hp}:∀{us:List V}{ys:ae},Reps K M H us (ys.map λr=>PV.tup (intz r))->us.map (i7 H)=ys/\∀u∈us,∃b,u = .ref b/\H b=some (.tup ((i7 H u).map V.int))
 |_,[],.nil=>⟨rfl,λu h=>nomatch h⟩
 |_,y::ys,.cons r t=>by
  obtain⟨a,us,rfl,h,r1⟩:=r.sqT
  obtain rfl:=r1.ofInts
  obtain⟨h1,h2⟩:=sM t
  have hk:=aL4 h
  refine⟨by rw[bq5,h1,hk],λu hu=>?_⟩
  rcases bl8.mp hu with rfl|hu
  ·exact⟨a,rfl,by rw[hk];exact h⟩
  ·exact h2 u hu
theorem sN {K:ad}{M:Addr->Prop}{H:Hp}:∀{us:List V},(∀u∈us,∃b,u = .ref b/\H b=some (.tup ((i7 H u).map V.int)))->Reps K M H us ((us.map (i7 H)).map λr=>PV.tup (intz r))
 |[],_=>.nil
 |u::us,h=>by
  obtain⟨b,rfl,hb⟩:=h u bl7
  exact .cons (.tup hb (Reps.intz _)) (sN λv hv=>h v (bm1 _ hv))
theorem X8:eL X sL (qR X.K):=by
 rintro H vs xs Q Q' r ⟨ys,rfl,hl,hne,q⟩ k
 obtain⟨v,rfl,r1⟩:=r.one
 obtain⟨a,us,rfl,_,h,r2⟩:=r1.sqL
 obtain⟨h1,h2⟩:=sM r2
 have lr:=r2.length
 rw[bl5]at lr
 refine⟨a,us,i7 H,rfl,aJ.of h,by omega,λy hy=>?_,λl zs hl' pm so=>?_⟩
 ·obtain⟨b,rfl,hb⟩:=h2 y hy
  refine⟨b,rfl,aH.of hb,hne _ ?_⟩
  rw[<- h1];exact bn7.mpr ⟨_,hy,rfl⟩
 ·have hz:∀u∈zs,∃b,u = .ref b/\H b=some (.tup ((i7 H u).map V.int)):=λu hu=>h2 u (pm.mem_iff.mp hu)
  refine k _ _ _ (aZ hl' _) (.lst hl' aT ((sN hz).same (aZ hl' _) λ_ z=>z)) (q _ ?_ ?_)
  ·rw[<- h1];exact pm.map _
  ·rw[bs8];exact so
theorem aL5 (B:Bt X.mg)(ha:QA X [e] tr)(hg:Gl X "sorted":=by rfl)(he:starEach [e] X.env=(false,eval e X.env)::starEach [] X.env:=by rfl)(hpl:(backTo pos (starEach [] X.env)).any (·.1)=false:=by rfl):QE X (.Call (.Name "sorted" p2) [e] [] pos) (aE sL tr):=
 hG L9 X8 hg B.sorted PyProof.Rows.boot_sorted ha (he:=he) (hpl:=hpl)
end
def X9 (K:ad):Sp:=λvs H Q _=>∃(a:Addr) (ns:af),vs = [.ref a]/\(aH K H a (ns.map V.int)∨aJ K H a (ns.map V.int))/\ns.length<=1000/\∀H',aA H H'->Q (.bl (Core.hV ns)) H'
def sO:Sp:=λvs H Q _=>∃v ws ls,vs = [v]/\M3 H v ws ls/\ws.length<=1000/\ls.length<=2000/\(∀l∈ls,(0<=l.1/\l.1<ws.length)/\0<=l.2/\l.2<ws.length)/\
 ∀(r:Addr) (bs:List Addr) (H':Hp),bs.length=ws.length->gT H H' r bs (λk=>bB ls k)->Q (.ref r) H'
section
variable {P:Program}{w:World}{K:ad}{mg:Str→Option Value}{base:Heap}{f:Addr}{fd:FuncData}{k:Nat}
theorem aL6 (F:cL P w K mg base cY k f fd ["things"] (X9 K))(b:gR K fd ["things"] [])(kp:PySem.W.keepIn K (.ref f)=true)(m:mg "rises" = some (.ref f)):Df P w K mg base k "rises" ["things"] Core.xP:=by
 refine⟨f,fd,F.imp λvs H Q E h=>?_,b,kp,m⟩
 obtain⟨xs,Qp,r,⟨x,ns,rfl,hx,hl,q⟩,k⟩:=h
 obtain⟨v,rfl,r1⟩:=r.one
 rcases hx with rfl|rfl
 ·obtain⟨a,us,rfl,h,r2⟩:=r1.sqT
  obtain rfl:=r2.ofInts
  exact⟨a,ns,rfl,.inl (aH.of h),hl,λH' s=>k _ H' _ s (.bl _) q⟩
 ·obtain⟨a,us,rfl,_,h,r2⟩:=r1.sqL
  obtain rfl:=r2.ofInts
  exact⟨a,ns,rfl,.inr (aJ.of h),hl,λH' s=>k _ H' _ s (.bl _) q⟩
theorem qS {M:Addr->Prop}{H:Hp}:∀{us:List V}{ls:aa},Reps K M H us (ls.map λl=>PV.tup [.int l.1,.int l.2])->m7 H us ls
 |_,[],.nil=>.nil
 |_,l::ls,.cons r t=>by
  obtain⟨a,us,rfl,h,r1⟩:=r.sqT
  obtain⟨u1,u2,rfl,q1,q2⟩:=r1.two
  cases q1;cases q2
  exact .cons ⟨a,rfl,h⟩ (qS t)
theorem Y0 {M:Addr->Prop}{H:Hp}{v:V}{ws:af}{ls:aa}(r:aF K M H v (Core.bC ws ls)):M3 H v ws ls:=by
 obtain⟨a,us,rfl,h,r1⟩:=aF.sqT r
 obtain⟨u1,u2,rfl,q1,q2⟩:=r1.two
 obtain⟨p,up,rfl,hp,rp⟩:=q1.sqT
 obtain⟨q,uq,rfl,hq,rq⟩:=q2.sqT
 obtain rfl:=rp.ofInts
 exact⟨a,p,q,uq,rfl,h,hp,hq,qS rq⟩
theorem xV {M:Addr->Prop}{H:Hp}:∀{bs:List Addr}{ls:aa} (off:Nat),(∀b∈bs,M b)->(∀(k:Nat) b,bs[k]? = some b->H b=some (.lst ((bB ls ((off+k:Nat):Int)).map V.int)))->Reps K M H (bs.map V.ref) ((List.range' off bs.length).map λ(k:Nat)=>PV.lst (intz (bB ls k)))
 |[],_,_,_,_=>.nil
 |b::bs,ls,off,hm,h=>by
  refine .cons (.lst (hm b bl7) (h 0 b rfl) (Reps.intz _)) (xV (off+1) (λc hc=>hm c (bm1 _ hc)) λk c hk=>?_)
  have:=h (k+1) c (by rw[bs1];exact hk)
  rw[show off+1+k=off+(k+1) by omega];exact this
theorem aL7 (F:cL P w K mg base cY k f fd ["web"] sO)(b:gR K fd ["web"] [])(kp:PySem.W.keepIn K (.ref f)=true)(m:mg "near_lists" = some (.ref f)):Df P w K mg base k "near_lists" ["web"] Core.pG:=by
 refine⟨f,fd,F.imp λvs H Q E h=>?_,b,kp,m⟩
 obtain⟨xs,Qp,r,⟨ws,ls,rfl,wb,q⟩,k⟩:=h
 obtain⟨v,rfl,r1⟩:=r.one
 have:=wb.few
 have:=wb.most
 refine⟨v,ws,ls,rfl,Y0 r1,by omega,by omega,wb.links,λt bs H' hb R=>k _ H' _ R.same (.lst R.new R.row ?_) q⟩
 have:=xV (K:=K) (M:=λa=>H a=none) (H:=H') (bs:=bs) (ls:=ls) 0 (λb hb=>(R.news b hb).1) λk b hk=>by rw[Nat.zero_add];exact R.rows k b hk
 rw[hb,<- List.range_eq_range']at this
 exact this
end
end PP
namespace Core
open PySem L2 PP
theorem Y1 (n:Nat):dD 0 n=intz (rng n):=by
 unfold dD rng
 show _=List.map PV.int (List.map (λ(i:Nat)=>(i:Int)) (List.range n))
 rw[bx6]
 refine List.map_congr_left λi _=>?_
 show PV.int (0+(i:Int))=PV.int (i:Int)
 rw[bx7]
theorem xW (n:Nat):(rng n).Nodup:=by
 unfold rng
 rw[List.nodup_iff_pairwise_ne,bs8]
 exact (List.nodup_range (n:=n)).imp λh e=>h (by omega)
def two (l:Int×Int):af:=[l.1,l.2]
def pI (r:af):Int×Int:=(r.getD 0 0,r.getD 1 0)
theorem Y2 (ls:aa):fP ls=(ls.map two).map λr=>PV.tup (intz r):=by
 unfold fP
 rw[bx6];rfl
theorem aL8 {zs:ae}{ls:aa}(h:zs.Perm (ls.map two)):∃ls':aa,zs=ls'.map two/\ls'.Perm ls:=by
 refine⟨zs.map pI,?_,?_⟩
 ·rw[bx6]
  have:∀z∈zs,(two ∘ pI) z=z:=λz hz=>by
   obtain⟨l,_,rfl⟩:=bn7.mp (h.mem_iff.mp hz)
   rfl
  rw[List.map_congr_left this,List.map_id']
 ·have:=h.map pI
  rw[bx6]at this
  have e:ls.map (pI ∘ two)=ls:=by
   have:∀l∈ls,(pI ∘ two) l=id l:=λl _=>rfl
   rw[List.map_congr_left this,List.map_id]
  rw[e]at this
  exact this
theorem aL9 {ls:aa}(so:(ls.map two).Pairwise λu v=>HT.aU v u=false)(nd:ls.Nodup):ls.Pairwise xT:=by
 rw[bs8]at so
 refine (List.pairwise_and_iff.mpr ⟨so,nd⟩).imp λ{a b} h=>?_
 obtain⟨h1,h2⟩:=h
 unfold two at h1
 rw[HT.gE]at h1
 unfold xT
 by_cases e:b.1=a.1
 ·rw[if_pos e,HT.gE]at h1
  by_cases e2:b.2=a.2
  ·exact absurd (Prod.ext e.symm e2.symm) h2
  ·rw[if_neg e2]at h1
   have:=bw4 h1
   omega
 ·rw[if_neg e]at h1
  have:=bw4 h1
  omega
structure dU (i:Int)(ms:af):Prop where
 up:ms.Pairwise (·<·)
 inn:∀x∈ms,0<=x/\x<i
 len:(ms.length:Int)<=i
theorem dU.nil:dU 0 []:=⟨.nil,(λ_ h=>nomatch h),bv9 _⟩
theorem dU.skip {i:Nat}{ms:af}(h:dU (i:Int) ms):dU ((i+1:Nat):Int) ms:=⟨h.up,λx hx=>by have:=h.inn x hx;omega,by have:=h.len;omega⟩
theorem dU.set {n:Nat}{ms:af}(h:dU (n:Int) ms):bD n ms=true:=by
 unfold bD
 rw[xL h.up,Bool.true_and,bu3]
 intro b hb
 obtain⟨x,hx,rfl⟩:=bn7.mp hb
 have:=h.inn x hx
 unfold inB
 simp[this]
def eI (n:Nat)(S:af):List PV:=(rng n).map λi=>PV.bl (decide (i∈S))
theorem mX (n:Nat)(S:af):(eI n S).length=n:=by unfold eI;rw[bl5,eZ]
theorem Y3 {n:Nat}{S:af}{x:Int}(h0:0<=x)(h1:x<(n:Int)):atI (eI n S) x=some (.bl (decide (x∈S))):=by
 refine jS h0 ?_
 unfold eI
 rw[bl4,pE (by omega)]
 show some (PV.bl (decide (((x.toNat:Nat):Int)∈S)))=_
 rw[show ((x.toNat:Nat):Int)=x by omega]
theorem aM0 {n:Nat}{S:af}{x:Int}(h0:0<=x)(h1:x<(n:Int)):(eI n S).set x.toNat (.bl true)=eI n (S++[x]):=by
 refine List.ext_getElem? λi=>?_
 by_cases hi:i<n
 ·have e1:(eI n (S++[x]))[i]? = some (.bl (decide ((i:Int)∈S++[x]))):=by unfold eI;rw[bl4,pE hi];rfl
  rw[e1]
  by_cases e:i=x.toNat
  ·subst e
   rw[bt9 (by rw[mX];exact hi)]
   have:(((x.toNat:Nat):Int)∈S++[x]):=by rw[show ((x.toNat:Nat):Int)=x by omega];simp
   rw[bl6 this]
  ·rw[bo5 (Ne.symm e)]
   unfold eI
   rw[bl4,pE hi]
   have:decide ((i:Int)∈S++[x])=decide ((i:Int)∈S):=by
    rw[bq8];simp;omega
   rw[this];rfl
 ·rw[bA8 (by rw[br8,mX];omega),bA8 (by rw[mX];omega)]
theorem aM1:∀{a b:af},a.Perm b->a.Pairwise (· <= ·)->b.Pairwise (· <= ·)->a=b:=by
 intro a b h ha hb
 exact h.eq_of_pairwise (λx y _ _ h1 h2=>Int.le_antisymm h1 h2) ha hb
def Y4:bK:=λxs Q=>∃ns:af,xs = [.scr ns]/\ns.length<=63/\Q (.bl true)
end Core
namespace PP
open PySem L2 PyProof.Rows
theorem aM2 {P:Program}{w:World}{K:ad}{mg:Str->Option Value}{base:Heap}{k:Nat}{x:Str}{ps N:List Str}{p:bK}{st:Stmt}{f:Addr}{fd:FuncData}(F:eB K x x st f fd)(S:FnScope N ps (aQ st))(len:∀xs Q,p xs Q->xs.length=ps.length)(body:∀(cdv:Value) (A:Around) (outer:List Env) (s:Shared) (H:Hp) (E:XK),bT k (A.deeper (envOfC x (aQ st) s.heap.objs.size f cdv))->
   ∃t,eN (cX cY P w K mg base N x (aQ st) f cdv A outer s H E).nox (dW st) t/\∀xs Q,p xs Q->t { nx:=λ_=>Q .non,rt:=Q } (fO N xs)):cL P w K mg base cY (k+1) f fd ps (oM K p):=by
 refine F.ok S (λvs H Q E h=>?_) (λcdv A outer s H vs Q E hr h=>?_)
 ·obtain⟨xs,Qp,r,q,_⟩:=h
  rw[r.length];exact len xs Qp q
 ·obtain⟨xs,Qp,r,q,k⟩:=h
  obtain⟨t,ht,hq⟩:=body cdv A outer s H E hr
  refine⟨_,ht,λ_=>False,fO N xs,_,rO r,hq xs Qp q,?_,?_,?_,?_⟩
  ·exact λW' σ' H' ρ' e px q=>k _ _ _ px.same .non q
  ·exact λv H' x s r q=>k _ _ _ s r q
  ·exact λW' σ' H' ρ' e px q=>q
  ·exact λW' σ' H' ρ' e px q=>q
def sP (K:ad):Sp:=λvs H Q _=>∃(a:Addr) (ns:af),vs = [.ref a]/\iY K H a ns/\ns.length<=63/\∀H',Q (.bl true) H'
theorem aM3 {P:Program}{w:World}{K:ad}{mg:Str->Option Value}{base:Heap}{k:Nat}{f:Addr}{fd:FuncData}(F:cL P w K mg base cY k f fd ["script"] (oM K Core.Y4)):cL P w K mg base cY k f fd ["script"] (sP K):=
 F.imp λvs H Q E h=>by
  obtain⟨a,ns,rfl,hs,hl,q⟩:=h
  refine⟨[.scr ns],λz=>z = .bl true,.cons (.scr hs) .nil,⟨ns,rfl,hl,rfl⟩,?_⟩
  rintro v H' x _ r rfl
  cases r
  exact q H'
theorem aM4 {K:ad}{H:Hp}{a:Addr}{ns:af}(hO:qE H)(h:aJ K H a (ns.map V.int)):iY K H a ns:=by
 rcases h with (h|⟨o,h⟩)|h
 ·rcases hO a with e|⟨o,xs,e⟩<;>(rw[h]at e;cases e)
 ·exact .inl ⟨o,h⟩
 ·exact .inr h
end PP
namespace PyProof.Rows
open PySem
end PyProof.Rows
namespace PP
open PySem L2 PyProof.Rows
section
variable {X:Cx}{a b e:Expr}{ta tb te:aD}{tr:cM}{pos p2:Pos}
def Y5:PV->Tg->PV->Tg->PK->Prop:=λx _ y _ Q=>∃xs ys,x = .lst xs/\y = .lst ys/\flats xs=true/\flats ys=true/\xs.length+ys.length<=16000000/\Q (.lst (xs++ys)) .fr
abbrev xX (ta tb:aD):aD:=q2 Y5 ta tb
theorem aM5:eD X Y5 G4:=by
 rintro W Hs H u v x y g g' Q Q' s n r1 r2 ⟨xs,ys,rfl,rfl,f1,f2,hl,q⟩ k
 obtain⟨a,us,rfl,_,h1,q1⟩:=r1.sqL
 obtain⟨b,ws,rfl,_,h2,q2⟩:=r2.sqL
 have l1:=q1.length
 have l2:=q2.length
 refine⟨a,b,us,ws,rfl,rfl,h1,h2,lim (by omega),λp hp=>k _ _ _ .fr (aZ hp _) (.lst (s.free hp) aT (((q1.flat f1).append (q2.flat f2)).same (aZ hp _) λ_ z=>z)) q⟩
theorem Y6 (ha:QE X a ta)(hb:QE X b tb):QE X (.BinOp a .Add b pos) (xX ta tb):=fY au7 aM5 ha hb
end
end PP
namespace L2
open PySem PySem.Spec PyProof.Rows
def xY (K:ad)(a:Addr):It:=
  ⟨λi H=>∃xs x,aJ K H a xs/\xs[i]? = some x,
   λi H v H'=>∃T x,H T=none/\v = .ref T/\H'=upd H T (.tup [.int i,x])/\∀xs,aJ K H a xs->xs[i]? = some x,
   λi H=>∃xs,aJ K H a xs/\xs.length<=i⟩
structure aM6 (e it a:Addr)(i:Nat)(h:Heap):Prop where
 ee:∃old,IsEnum h e it i old
 s1:h.IsListIter it a i
theorem aM7 {P:Program}{w:World}{K:ad}{elts:List Expr}{k:Nat}{pos:Pos}(a e it:Addr)(d:e≠it) :
  gP P w K (.Tuple elts k pos) (xY K a) [e,it] e (aM6 e it a):=by
 refine⟨by simp,λi h st c hc=>?_,λi h h' st kp=>?_,?_,?_,λA i s Q E st q=>?_⟩
 ·simp only[bl8,bn1,br4]at hc
  obtain⟨old,ee⟩:=st.ee
  obtain⟨o1,f1,g1,d1⟩:=st.s1
  rcases hc with rfl|rfl
  ·exact⟨_,ee,λv q=>by cases q⟩
  ·exact⟨_,f1,λv q=>by rw[d1]at q;cases q⟩
 ·obtain⟨old,ee⟩:=st.ee
  exact⟨⟨old,kp e (by simp) _ ee⟩,st.s1.at λo z=>kp it (by simp) o z⟩
 ·intro X hP hw hK hc i pins s σ H E I hf st hg
  subst hP hw hK
  obtain⟨xs,x,ha,hx⟩:=hg
  obtain⟨us,ru,pu,lu⟩:=I.list ha
  obtain⟨ux,eux,rux⟩:=ru.get hx
  obtain⟨old,ee⟩:=st.ee
  refine wpAny_pyNext_enum_item ee st.s1 pu.isList (by simpa using eux) d λh' eo it' pr sz kp=>⟨_,rfl,?_⟩
  refine wpAny_letOwnedTupleGo_enum (s:={ s with heap:=h',toks:=s.toks+1 }) eo λg zz sb=>?_
  have hzl:e<s.heap.objs.size:=bm3 ee
  have up:∀c o,c≠e->c≠it->s.heap.get? c=some o->g.get? c=some o:=λc o c1 c2 z=>sb.extBut c o c1 (kp c o c1 c2 z)
  have hT:H s.heap.objs.size=none:=I.hok.fresh (bk7 _)
  have prG:g.get? s.heap.objs.size=some { cls:=.type "tuple",data:=.seq #[.int i s.toks,ux] }:=sb.extBut _ _ (bv2 hzl) pr
  have fpn:∀c u,H c=some u->c∉[e,it]:=λc u z hm=>by rw[(hf c hm).1]at z;cases z
  have upH:∀c o u,H c=some u->s.heap.get? c=some o->g.get? c=some o:=λc o u q z=>by
   have:=fpn c u q
   simp only[bl8,bn1,br4,not_or]at this
   exact up c o this.1 this.2 z
  have ns:∀m,s.heap.Ns X.env.locals m->g.Ns X.env.locals m:=λm hm=>by
   obtain⟨o,es,ep,e1,e2⟩:=hm
   exact⟨o,es,ep,up _ o (Ne.symm (hf e (by simp)).2.1) (Ne.symm (hf it (by simp)).2.1) e1,e2⟩
  have I2:a6 X pins σ (upd H s.heap.objs.size (.tup [.int i,x])) { s with heap:=g,toks:=s.toks+1 }:=by
   refine I.step (g':=s.gens) (d':=s.drawn) (ch:=[e,it]) (λc hc'=>?_) (λc o _ _ hc' z _=>?_) (λc o _ _ hc' z _=>⟨o.slots,?_⟩) (λc o _ z n=>?_) (λc o hc' z=>⟨o,?_⟩)
    (λc zs z=>by rw[aC (bX z hT)];exact z) (λc u zs z=>by rw[aC (bX z hT)];exact z) (λc ps z=>⟨#[],by rw[aC (bX z hT),z];simp⟩) ns (λc u z=>?_) I.bare
   ·exact⟨(hf c hc').2.2.2.1,(hf c hc').2.1,(hf c hc').2.2.2.2.1,(hf c hc').2.2.2.2.2⟩
   ·simp only[bl8,bn1,br4,not_or]at hc'
    exact up c o hc'.1 hc'.2 z
   ·simp only[bl8,bn1,br4,not_or]at hc'
    exact up c o hc'.1 hc'.2 z
   ·rw[aC (bo2 (bm3 z))];exact n
   ·simp only[bl8,bn1,br4,not_or]at hc'
    exact up c o hc'.1 hc'.2 z
   ·by_cases hcT:c=s.heap.objs.size
    ·subst hcT
     rw[aT]at z;cases z
     exact⟨by show 2<=sizeLine;decide,[.int i s.toks,ux],.cons ⟨_,rfl⟩ (.cons rux .nil),⟨_,prG,rfl,_,rfl⟩,λu e=>by rw[prG]at e;cases e;rfl⟩
    ·rw[aC hcT]at z
     refine (I.hok c u z).stay (λc' o' hc2 q'=>?_) (λc' q'=>by rw[aC (bX q' hT)];exact q') λc' zs q'=>by rw[aC (bX q' hT)];exact q'
     rcases hc2 with rfl|hc2
     ·exact upH _ _ _ z q'
     ·exact upH _ _ _ hc2 q'
  refine⟨.ref s.heap.objs.size,_,I2,rfl,⟨_,x,hT,rfl,rfl,λxs' ha'=>?_⟩,⟨⟨ux,by push_cast;exact zz⟩,it'.at λo z=>sb.extBut _ o (Ne.symm d) z⟩,λc hc'=>?_⟩
  ·rw[I.list_inj ha' ha];exact hx
  ·obtain⟨o,z⟩:∃o,s.heap.get? c=some o:=by
    simp only[bl8,bn1,br4]at hc'
    obtain⟨o1,f1,_⟩:=st.s1
    rcases hc' with rfl|rfl
    ·exact⟨_,ee⟩
    ·exact⟨_,f1⟩
   rw[aC (bo2 (bm3 z))];exact (hf c hc').1
 ·intro X hP hw hK hc i pins s σ H E I hf st hg
  subst hP hw hK
  obtain⟨xs,ha,hi⟩:=hg
  obtain⟨us,ru,pu,lu⟩:=I.list ha
  obtain⟨old,ee⟩:=st.ee
  have hh:X.A.handled=none:=I.ok.hd hc
  have e1:=ru.length
  refine wpAny_pyNext_enum_end hh ee st.s1 pu.isList (by rw[Array.getElem?_eq_none];simp only[bk9];omega) λg kp=>⟨rfl,?_⟩
  have fpn:∀c u,H c=some u->c∉[e,it]:=λc u z hm=>by rw[(hf c hm).1]at z;cases z
  have upH:∀c o u,H c=some u->s.heap.get? c=some o->g.get? c=some o:=λc o u q z=>by
   have:=fpn c u q
   simp only[bl8,bn1,br4,not_or]at this
   exact kp c o this.2 z
  have ns:∀m,s.heap.Ns X.env.locals m->g.Ns X.env.locals m:=λm hm=>by
   obtain⟨o,es,ep,e1,e2⟩:=hm
   exact⟨o,es,ep,kp _ o (Ne.symm (hf it (by simp)).2.1) e1,e2⟩
  refine I.step (g':=s.gens) (d':=s.drawn) (ch:=[it]) (λc hc'=>?_) (λc o _ _ hc' z _=>?_) (λc o _ _ hc' z _=>⟨o.slots,?_⟩) (λc o _ z n=>n) (λc o hc' z=>⟨o,?_⟩)
   (λc zs z=>z) (λc u zs z=>z) (λc ps z=>⟨#[],by rw[z];simp⟩) ns (λc u z=>?_) I.bare
  ·have hm:c∈[e,it]:=bm1 _ hc'
   exact⟨(hf c hm).2.2.2.1,(hf c hm).2.1,(hf c hm).2.2.2.2.1,(hf c hm).2.2.2.2.2⟩
  ·exact kp c o (λy=>hc' (by rw[y];simp)) z
  ·exact kp c o (λy=>hc' (by rw[y];simp)) z
  ·exact kp c o (λy=>hc' (by rw[y];simp)) z
  ·refine (I.hok c u z).stay (λc' o' hc2 q'=>?_) (λ_ q'=>q') λ_ _ q'=>q'
   rcases hc2 with rfl|hc2
   ·exact upH _ _ _ z q'
   ·exact upH _ _ _ hc2 q'
 ·obtain⟨old,ee⟩:=st.ee
  exact wpAny_pyIter_enum ee q
end L2
namespace Zp
open PySem PyProof.Rows
section
variable {prog:Program}{w:World}{A:Around}{E:Value→Shared→Prop}{s:Shared}
theorem aM8 {e it t:Addr}{i:Nat}{items:Array Value}{x old:Value}{Q:Option Value->Shared->Prop}(he:IsEnum s.heap e it i old)(hi:s.heap.IsTupleIter it t i)(ht:s.heap.IsTuple t items)(hx:items[i]? = some x)(ne:e≠it)(q:∀h',IsEnumOut h' e it ((i:Int)+1) x s.heap.objs.size->h'.IsTupleIter it t (i+1)->h'.get? s.heap.objs.size=some { cls:=.type "tuple",data:=.seq #[.int i s.toks,x] }->h'.objs.size=s.heap.objs.size+1->
   (∀b o,b≠e->b≠it->s.heap.get? b=some o->h'.get? b=some o)->Q (some (.ref s.heap.objs.size)) { s with heap:=h',toks:=s.toks+1 }):wpAny (model prog w) A (pyNext (.ref e)) Q E s:=by
 have T:s.TypeIs (.ref e) "enumerate":=⟨_,he,rfl⟩
 have slot:=PySem.F.slot_enumerate_next
 unfold pyNext
 apply bk3
 apply wpAny_attempt
 apply bs0 (name:=Str.ofString "__next__") T slot
 apply bs4 slot T PySem.F.entry_enumerate_next _ (PySem.F.args_enumerate_next_1 _)
 change wpAny _ _ (field (.ref e) 2 >>= _) _ _ _
 apply bk3
 refine br9 he rfl (x:=.ref it) rfl ?_
 apply bk3
 refine M5 hi ht hx λg1 it1 sb1=>?_
 have e1:IsEnum g1 e it i old:=sb1.extBut _ _ ne he
 change wpAny _ _ (field (.ref e) 3 >>= _) _ _ _
 apply bk3
 refine br9 e1 rfl (x:=rawInt i) rfl ?_
 change wpAny _ _ (field (.ref e) 4 >>= _) _ _ _
 apply bk3
 refine br9 e1 rfl (x:=.none) rfl ?_
 change wpAny _ _ (mkInt i >>= _) _ _ _
 apply bk3
 refine wpAny_mkInt ?_
 change wpAny _ _ (setField (.ref e) 3 (rawInt ((i:Int)+1)) >>= _) _ _ _
 apply bk3
 refine bt2 e1 (by simp) λg2 e2 sb2=>?_
 apply bk3
 refine bt2 e2 (by simp) λg3 e3 sb3=>?_
 have e3:IsEnum g3 e it ((i:Int)+1) old:=e3
 apply bk3
 refine wpAny_newTuple ?_ (by show 2<=sizeLine;decide)
 have e4:IsEnum (g3.push { cls:=.type "tuple",data:=.seq #[.int i s.toks,x] }) e it ((i:Int)+1) old:=bk6 _ e3
 have size:g3.objs.size=s.heap.objs.size:=by rw[sb3.1,sb2.1,sb1.1]
 change wpAny _ _ (Builtin.SmallTypes.ownedTupleIsFree (.ref e) >>= _) _ _ _
 apply bk3
 unfold Builtin.SmallTypes.ownedTupleIsFree
 apply bk3
 refine br9 e4 rfl (x:=.none) rfl (bk8 ?_)
 simp only[if_true]
 apply bk3
 apply bz2
 apply bk3
 refine br9 e4 rfl (x:=old) rfl ?_
 apply bk3
 refine bt2 e4 (by simp) λg5 e5 sb5=>?_
 apply bk3
 unfold Builtin.SmallTypes.ownedTupleHandOut
 apply bk3
 refine bt2 e5 (by simp) λg6 e6 sb6=>?_
 refine bt2 e6 (by simp) λg7 e7 sb7=>?_
 have e7:IsEnumOut g7 e it ((i:Int)+1) x g3.objs.size:=e7
 have elt:e<g3.objs.size:=bm3 e3
 have up:∀c o,c≠e->(g3.push { cls:=.type "tuple",data:=.seq #[.int i s.toks,x] }).get? c=some o->g7.get? c=some o:=λc o c1 z=>sb7.extBut c o c1 (sb6.extBut c o c1 (sb5.extBut c o c1 z))
 have up3:∀c o,c≠e->g1.get? c=some o->g7.get? c=some o:=λc o c1 z=>up c o c1 (bk6 _ (sb3.extBut c o c1 (sb2.extBut c o c1 z)))
 have p7:g7.get? g3.objs.size=some { cls:=.type "tuple",data:=.seq #[.int i s.toks,x] }:=up _ _ (bv2 elt) (bm4 _ rfl)
 have s7:g7.objs.size=g3.objs.size+1:=by rw[sb7.1,sb6.1,sb5.1,bw1]
 apply bk3
 apply wpAny_letGo
 apply bk8
 rw[size]at e7 p7 s7
 refine⟨_,rfl,bk8 ?_⟩
 change Q (some (.ref g3.objs.size)) _
 rw[size]
 exact q g7 e7 (it1.at λo z=>up3 it o (Ne.symm ne) z) p7 s7 λb o b1 b2 z=>up3 b o b1 (sb1.extBut b o b2 z)
theorem aM9 {e it t:Addr}{i:Nat}{items:Array Value}{old:Value}{Q:Option Value->Shared->Prop}(hh:A.handled=none)(he:IsEnum s.heap e it i old)(hi:s.heap.IsTupleIter it t i)(ht:s.heap.IsTuple t items)(hx:items[i]? = none)(q:∀h',Heap.ExtBut it s.heap h'->Q none { s with heap:=h' }):wpAny (model prog w) A (pyNext (.ref e)) Q E s:=by
 have T:s.TypeIs (.ref e) "enumerate":=⟨_,he,rfl⟩
 have slot:=PySem.F.slot_enumerate_next
 unfold pyNext
 apply bk3
 apply wpAny_attempt
 apply bs0 (name:=Str.ofString "__next__") T slot
 apply bs4 slot T PySem.F.entry_enumerate_next _ (PySem.F.args_enumerate_next_1 _)
 change wpAny _ _ (field (.ref e) 2 >>= _) _ _ _
 apply bk3
 refine br9 he rfl (x:=.ref it) rfl ?_
 apply bk3
 refine M6 hh hi ht hx λg2 ex eb exo=>?_
 obtain⟨oe,eo,co⟩:=exo
 apply bk3
 refine wpAny_isInstance (T:="StopIteration") (b:=true) ⟨oe,eo,co⟩ isSubtype_stop ?_
 exact bk8 (q g2 eb)
theorem aN0 {M:Model}{A:Around}{E:Value->Shared->Prop}{s:Shared}{α:Type}{c:Prop}[Decidable c]{m n:Sem α}{Q:α->Shared->Prop}(h1:wpAny M A m Q E s)(h2:wpAny M A n Q E s):wpAny M A (if c then m else n) Q E s:=by
 split
 ·exact h1
 ·exact h2
theorem aN1 (t:Addr)(xs:Array Value):Meets (Builtin.«enumerate.__new__» ⟨[.type "enumerate",.ref t],[]⟩) (λ_ R s=>s.heap.IsTuple t xs/\R (.ok (.ret (.ref (s.heap.objs.size+1)))) { s with heap:=(s.heap.push { cls:=.type "tuple_iterator",data:=.fields #[.ref t,.int 0 0] }).push { cls:=.type "enumerate",data:=.fields #[.none,.bool false,.ref s.heap.objs.size,rawInt 0,.none,.none] } }):=
 .of_wp λprog w A R s h=>by
  obtain⟨hp,g,d,tk,os⟩:=s
  obtain⟨ht,h⟩:=h
  have sub:=sub_enumerate
  have a1:Heap.IsTuple (Shared.heap ⟨hp,g,d,tk,os⟩) t xs:=ht
  wp_walk using bx2 a1
  refine wpAny_stack_any λst=>bk8 ?_
  refine aN0 ?_ ?_
  all_goals
   apply bk3
   refine wpAny_of_eq (a:=(Value.ref t,none)) rfl ?_
   wp_walk using bx2 a1
   have e:∀(o:Obj) (k:Heap),(k.push o).objs.size=k.objs.size+1:=λo k=>bw1 ..
   refine⟨_,rfl,?_⟩
   simp only[e]at h ⊢
   exact h
theorem aN2 {t:Addr}{xs:Array Value}{Q:Value->Shared->Prop}(ht:s.heap.IsTuple t xs)(q:∀h',IsEnum h' (s.heap.objs.size+1) s.heap.objs.size 0 .none->h'.IsTupleIter s.heap.objs.size t 0->h'.objs.size=s.heap.objs.size+2->(∀c o,s.heap.get? c=some o->h'.get? c=some o)->Q (.ref (s.heap.objs.size+1)) { s with heap:=h' }) :
  wpAny (model prog w) A (call (.type "enumerate") [.ref t]) Q E s:=by
 refine callType_new PySem.F.called_enumerate (by decide) (PySem.F.typeCall_enumerate_1 _) (PySem.F.newCall_enumerate_1 _) (λobj=>PySem.F.args_object_init_2 obj _) PySem.F.entry_enumerate_new (aN1 t xs) ⟨ht,?_⟩
 have e:∀(o:Obj) (k:Heap),(k.push o).objs.size=k.objs.size+1:=λo k=>bw1 ..
 have g0:((s.heap.push { cls:=.type "tuple_iterator",data:=.fields #[.ref t,.int 0 0] }).push { cls:=.type "enumerate",data:=.fields #[.none,.bool false,.ref s.heap.objs.size,rawInt 0,.none,.none] }).get? s.heap.objs.size=some { cls:=.type "tuple_iterator",data:=.fields #[.ref t,.int 0 0] }:=bk6 _ (bm4 _ rfl)
 have g1:((s.heap.push { cls:=.type "tuple_iterator",data:=.fields #[.ref t,.int 0 0] }).push { cls:=.type "enumerate",data:=.fields #[.none,.bool false,.ref s.heap.objs.size,rawInt 0,.none,.none] }).get? (s.heap.objs.size+1)=some { cls:=.type "enumerate",data:=.fields #[.none,.bool false,.ref s.heap.objs.size,rawInt 0,.none,.none] }:=by
  have:=bm4 (h:=s.heap.push { cls:=.type "tuple_iterator",data:=.fields #[.ref t,.int 0 0] }) (o:={ cls:=.type "enumerate",data:=.fields #[.none,.bool false,.ref s.heap.objs.size,rawInt 0,.none,.none] }) rfl
  rw[e]at this;exact this
 exact⟨⟨_,g1,rfl⟩,q _ g1 ⟨_,g0,rfl,rfl⟩ (by rw[e,e]) λc o z=>bk6 _ (bk6 _ z)⟩
end
end Zp
namespace L2
open PySem PySem.Spec PyProof.Rows
def xZ (K:ad)(a:Addr):It:=
  ⟨λi H=>∃xs x,aH K H a xs/\xs[i]? = some x,
   λi H v H'=>∃T x,H T=none/\v = .ref T/\H'=upd H T (.tup [.int i,x])/\∀xs,aH K H a xs->xs[i]? = some x,
   λi H=>∃xs,aH K H a xs/\xs.length<=i⟩
structure aN3 (e it a:Addr)(i:Nat)(h:Heap):Prop where
 ee:∃old,IsEnum h e it i old
 s1:h.IsTupleIter it a i
theorem aN4 {P:Program}{w:World}{K:ad}{elts:List Expr}{k:Nat}{pos:Pos}(a e it:Addr)(d:e≠it) :
  gP P w K (.Tuple elts k pos) (xZ K a) [e,it] e (aN3 e it a):=by
 refine⟨by simp,λi h st c hc=>?_,λi h h' st kp=>?_,?_,?_,λA i s Q E st q=>?_⟩
 ·simp only[bl8,bn1,br4]at hc
  obtain⟨old,ee⟩:=st.ee
  obtain⟨o1,f1,g1,d1⟩:=st.s1
  rcases hc with rfl|rfl
  ·exact⟨_,ee,λv q=>by cases q⟩
  ·exact⟨_,f1,λv q=>by rw[d1]at q;cases q⟩
 ·obtain⟨old,ee⟩:=st.ee
  exact⟨⟨old,kp e (by simp) _ ee⟩,st.s1.at λo z=>kp it (by simp) o z⟩
 ·intro X hP hw hK hc i pins s σ H E I hf st hg
  subst hP hw hK
  obtain⟨xs,x,ha,hx⟩:=hg
  obtain⟨us,ru,pu,lu⟩:=I.tuple ha
  obtain⟨ux,eux,rux⟩:=ru.get hx
  obtain⟨old,ee⟩:=st.ee
  refine Zp.aM8 ee st.s1 pu (by simpa using eux) d λh' eo it' pr sz kp=>⟨_,rfl,?_⟩
  refine wpAny_letOwnedTupleGo_enum (s:={ s with heap:=h',toks:=s.toks+1 }) eo λg zz sb=>?_
  have hzl:e<s.heap.objs.size:=bm3 ee
  have up:∀c o,c≠e->c≠it->s.heap.get? c=some o->g.get? c=some o:=λc o c1 c2 z=>sb.extBut c o c1 (kp c o c1 c2 z)
  have hT:H s.heap.objs.size=none:=I.hok.fresh (bk7 _)
  have prG:g.get? s.heap.objs.size=some { cls:=.type "tuple",data:=.seq #[.int i s.toks,ux] }:=sb.extBut _ _ (bv2 hzl) pr
  have fpn:∀c u,H c=some u->c∉[e,it]:=λc u z hm=>by rw[(hf c hm).1]at z;cases z
  have upH:∀c o u,H c=some u->s.heap.get? c=some o->g.get? c=some o:=λc o u q z=>by
   have:=fpn c u q
   simp only[bl8,bn1,br4,not_or]at this
   exact up c o this.1 this.2 z
  have ns:∀m,s.heap.Ns X.env.locals m->g.Ns X.env.locals m:=λm hm=>by
   obtain⟨o,es,ep,e1,e2⟩:=hm
   exact⟨o,es,ep,up _ o (Ne.symm (hf e (by simp)).2.1) (Ne.symm (hf it (by simp)).2.1) e1,e2⟩
  have I2:a6 X pins σ (upd H s.heap.objs.size (.tup [.int i,x])) { s with heap:=g,toks:=s.toks+1 }:=by
   refine I.step (g':=s.gens) (d':=s.drawn) (ch:=[e,it]) (λc hc'=>?_) (λc o _ _ hc' z _=>?_) (λc o _ _ hc' z _=>⟨o.slots,?_⟩) (λc o _ z n=>?_) (λc o hc' z=>⟨o,?_⟩)
    (λc zs z=>by rw[aC (bX z hT)];exact z) (λc u zs z=>by rw[aC (bX z hT)];exact z) (λc ps z=>⟨#[],by rw[aC (bX z hT),z];simp⟩) ns (λc u z=>?_) I.bare
   ·exact⟨(hf c hc').2.2.2.1,(hf c hc').2.1,(hf c hc').2.2.2.2.1,(hf c hc').2.2.2.2.2⟩
   ·simp only[bl8,bn1,br4,not_or]at hc'
    exact up c o hc'.1 hc'.2 z
   ·simp only[bl8,bn1,br4,not_or]at hc'
    exact up c o hc'.1 hc'.2 z
   ·rw[aC (bo2 (bm3 z))];exact n
   ·simp only[bl8,bn1,br4,not_or]at hc'
    exact up c o hc'.1 hc'.2 z
   ·by_cases hcT:c=s.heap.objs.size
    ·subst hcT
     rw[aT]at z;cases z
     exact⟨by show 2<=sizeLine;decide,[.int i s.toks,ux],.cons ⟨_,rfl⟩ (.cons rux .nil),⟨_,prG,rfl,_,rfl⟩,λu e=>by rw[prG]at e;cases e;rfl⟩
    ·rw[aC hcT]at z
     refine (I.hok c u z).stay (λc' o' hc2 q'=>?_) (λc' q'=>by rw[aC (bX q' hT)];exact q') λc' zs q'=>by rw[aC (bX q' hT)];exact q'
     rcases hc2 with rfl|hc2
     ·exact upH _ _ _ z q'
     ·exact upH _ _ _ hc2 q'
  refine⟨.ref s.heap.objs.size,_,I2,rfl,⟨_,x,hT,rfl,rfl,λxs' ha'=>?_⟩,⟨⟨ux,by push_cast;exact zz⟩,it'.at λo z=>sb.extBut _ o (Ne.symm d) z⟩,λc hc'=>?_⟩
  ·rw[I.tuple_inj ha' ha];exact hx
  ·obtain⟨o,z⟩:∃o,s.heap.get? c=some o:=by
    simp only[bl8,bn1,br4]at hc'
    obtain⟨o1,f1,_⟩:=st.s1
    rcases hc' with rfl|rfl
    ·exact⟨_,ee⟩
    ·exact⟨_,f1⟩
   rw[aC (bo2 (bm3 z))];exact (hf c hc').1
 ·intro X hP hw hK hc i pins s σ H E I hf st hg
  subst hP hw hK
  obtain⟨xs,ha,hi⟩:=hg
  obtain⟨us,ru,pu,lu⟩:=I.tuple ha
  obtain⟨old,ee⟩:=st.ee
  have hh:X.A.handled=none:=I.ok.hd hc
  have e1:=ru.length
  refine Zp.aM9 hh ee st.s1 pu (by rw[Array.getElem?_eq_none];simp only[bk9];omega) λg kp=>⟨rfl,?_⟩
  have fpn:∀c u,H c=some u->c∉[e,it]:=λc u z hm=>by rw[(hf c hm).1]at z;cases z
  have upH:∀c o u,H c=some u->s.heap.get? c=some o->g.get? c=some o:=λc o u q z=>by
   have:=fpn c u q
   simp only[bl8,bn1,br4,not_or]at this
   exact kp c o this.2 z
  have ns:∀m,s.heap.Ns X.env.locals m->g.Ns X.env.locals m:=λm hm=>by
   obtain⟨o,es,ep,e1,e2⟩:=hm
   exact⟨o,es,ep,kp _ o (Ne.symm (hf it (by simp)).2.1) e1,e2⟩
  refine I.step (g':=s.gens) (d':=s.drawn) (ch:=[it]) (λc hc'=>?_) (λc o _ _ hc' z _=>?_) (λc o _ _ hc' z _=>⟨o.slots,?_⟩) (λc o _ z n=>n) (λc o hc' z=>⟨o,?_⟩)
   (λc zs z=>z) (λc u zs z=>z) (λc ps z=>⟨#[],by rw[z];simp⟩) ns (λc u z=>?_) I.bare
  ·have hm:c∈[e,it]:=bm1 _ hc'
   exact⟨(hf c hm).2.2.2.1,(hf c hm).2.1,(hf c hm).2.2.2.2.1,(hf c hm).2.2.2.2.2⟩
  ·exact kp c o (λy=>hc' (by rw[y];simp)) z
  ·exact kp c o (λy=>hc' (by rw[y];simp)) z
  ·exact kp c o (λy=>hc' (by rw[y];simp)) z
  ·refine (I.hok c u z).stay (λc' o' hc2 q'=>?_) (λ_ q'=>q') λ_ _ q'=>q'
   rcases hc2 with rfl|hc2
   ·exact upH _ _ _ z q'
   ·exact upH _ _ _ hc2 q'
 ·obtain⟨old,ee⟩:=st.ee
  exact wpAny_pyIter_enum ee q
section
variable {X:Cx}
def Y7 (K:ad)(ta:TA):TI:=λσ H R=>ta σ H λvs H1=>∃a,vs = [.ref a]/\((∃xs,aJ K H1 a xs/\R (xY K a) H1)∨(∃xs,aH K H1 a xs/\R (xZ K a) H1))
theorem aN5 {elts:List Expr}{kt:Nat}{pt:Pos}{a:Expr}{ta:TA}{p pos:Pos}(hg:Gl X "enumerate")(hm:X.mg "enumerate" = none)(ha:PA X [a] ta)(hs:starEach [a] X.env = [(false,eval a X.env)]:=by rfl) :
  PI X (.Tuple elts kt pt) (.Call (.Name "enumerate" p) [a] [] pos) (Y7 X.K ta):=by
 intro pins s σ H R I h
 refine Call_ (jM I hg hm PyProof.Rows.boot_enumerate (bt3 (aK (ha pos pins s σ H _ I h) λus s1 ⟨vs,H1,I1,r1,q1⟩=>?_) (by rw[hs];rfl) (by rfl)))
 obtain⟨a',e,q⟩:=q1
 subst e
 have fresh:∀k,H1 (s1.heap.objs.size+k)=none:=λk=>I1.hok.fresh (bs7 _ _)
 cases r1 with
 |cons r rr=>
  cases rr
  cases r
  rcases q with⟨xs,h1,q⟩|⟨xs,h1,q⟩
  ·obtain⟨us,_,p1,_⟩:=I1.list h1
   refine call_enumerate_list p1.isList λh' z s1' sz kp=>wpAny_pyIter_enum z ?_
   refine⟨s1.heap.objs.size+1,[s1.heap.objs.size+1,s1.heap.objs.size],_,_,H1,rfl,I1.kept (t':=s1.toks) kp,
    aM7 a' _ _ (Nat.succ_ne_self _),⟨⟨_,z⟩,s1'⟩,λc hc=>?_,q⟩
   simp only[bl8,bn1,br4]at hc
   rcases hc with rfl|rfl
   ·exact I1.fpOk (bs7 _ _) (fresh 1)
   ·exact I1.fpOk (bk7 _) (fresh 0)
  ·obtain⟨us,_,p1,_⟩:=I1.tuple h1
   refine Zp.aN2 p1 λh' z s1' sz kp=>wpAny_pyIter_enum z ?_
   refine⟨s1.heap.objs.size+1,[s1.heap.objs.size+1,s1.heap.objs.size],_,_,H1,rfl,I1.kept (t':=s1.toks) kp,
    aN4 a' _ _ (Nat.succ_ne_self _),⟨⟨_,z⟩,s1'⟩,λc hc=>?_,q⟩
   simp only[bl8,bn1,br4]at hc
   rcases hc with rfl|rfl
   ·exact I1.fpOk (bs7 _ _) (fresh 1)
   ·exact I1.fpOk (bk7 _) (fresh 0)
end
end L2
namespace Zp
open PySem PyProof.Rows
theorem aN6 (t b:Addr)(xs ys:Array Value)(n n2:Nat)(dd dd2:Option Addr)(sl sl2:Array (Option Value))(hx:xs.isEmpty=true):Meets (Builtin.«tuple.__add__» ⟨[.ref t,.ref b],[]⟩)
  (λ_ R s=>s.heap.get? t=some { cls:=.type "tuple",dict:=dd,data:=.seq xs n,slots:=sl }/\s.heap.get? b=some { cls:=.type "tuple",dict:=dd2,data:=.seq ys n2,slots:=sl2 }/\R (.ok (.ret (.ref b))) s):=
 .of_wp λprog w A R s h=>by
  obtain⟨h1,h2,h⟩:=h
  have sub:isSubtype (Value.type "tuple") (Value.type "tuple")=pure true:=rfl
  wp_walk
  exact⟨_,rfl,h⟩
end Zp
namespace L2
open PySem PySem.Spec PyProof.Rows
section
variable {X:Cx}
def Y8 (K:ad):R2:=λx y H Q=>∃a b xs ys,x = .ref a/\y = .ref b/\aH K H a xs/\aH K H b ys/\xs.length+ys.length<=sizeLine/\
 (xs = []->Q (.ref b) H)/\(xs≠[]->ys = []->Q (.ref a) H)/\(xs≠[]->ys≠[]->∀p,H p=none->Q (.ref p) (upd H p (.tup (xs++ys))))
theorem aN7:bS X (binaryOp .Add) (Y8 X.K):=by
 intro pins s σ H x y v u Q I rx ry h
 obtain⟨a,b,xs,ys,ex,ey,ha,hb,hz,q0,q1,q2⟩:=h
 by_cases hx:xs = []
 ·subst ex ey
  cases rx
  cases ry
  obtain⟨its,r1,p1,_⟩:=I.tuple ha
  obtain⟨its2,r2,p2,_⟩:=I.tuple hb
  have hi:its = []:=r1.nil_iff.mpr hx
  obtain⟨⟨cls,dd,data,sl⟩,ho,hc,n,hd⟩:=id p1
  obtain⟨⟨cls2,dd2,data2,sl2⟩,ho2,hc2,n2,hd2⟩:=id p2
  simp only at hc hd hc2 hd2
  subst hc hd hc2 hd2
  exact concat_meets ⟨_,ho,rfl⟩ ⟨_,ho2,rfl⟩ noFill_tuple_add seq_tuple_add PySem.F.slot_tuple_add PySem.F.entry_tuple_add (PySem.F.args_tuple_add_2 _ _)
   (Zp.aN6 a b its.toArray its2.toArray n n2 dd dd2 sl sl2 (by simp[hi])) ⟨ho,ho2,⟨.ref b,H,I,rfl,q0 hx⟩⟩
 ·exact at3 pins s σ H x y v u Q I rx ry ⟨a,b,xs,ys,ex,ey,ha,hb,hx,hz,q1 hx,q2 hx⟩
end
end L2
namespace PP
open PySem L2 PyProof.Rows
def jE (xs:List PV):List PV:=xs.mapIdx λi x=>PV.tup [.int (i:Int),x]
theorem mY (xs:List PV):(jE xs).length=xs.length:=by unfold jE;rw[List.length_mapIdx]
theorem Y9 {xs:List PV}{i:Nat}{x:PV}(h:xs[i]? = some x):(jE xs)[i]? = some (.tup [.int (i:Int),x]):=by
 unfold jE;rw[List.getElem?_mapIdx,h];rfl
theorem Z0 {xs:List PV}{i:Nat}{z:PV}(h:(jE xs)[i]? = some z):∃x,xs[i]? = some x/\z = .tup [.int (i:Int),x]:=by
 unfold jE at h
 rw[List.getElem?_mapIdx]at h
 cases e:xs[i]? with
 |none=>rw[e]at h;cases h
 |some x=>rw[e]at h;exact⟨x,rfl,(bn8 h).symm⟩
def sQ (te:aD):fN:=λρ Q=>te ρ λx g=>∃xs,(x = .lst xs∨x = .tup xs)/\(g = .rd->flat x=true)/\Q (jE xs) (wP g xs)
theorem aN8 {K:ad}{H0:Hp}{W:Addr->Prop}{g:Bool}{H1:Hp}{a:Addr}{us:List V}{xs:List PV}(tw:∀a,W a->∃o,H1 a=some o/\gU o=true)(ha:∀W' H',Ev W H1 W' H'->aJ K H' a us)(r:Reps K (Ms H0 W g) H1 us xs):mE K H0 W g H1 (xY K a) (jE xs):=by
 have lr:=r.length
 have ll:=mY xs
 refine⟨λW' H' i e hi=>⟨us,us[i]'(by omega),ha W' H' e,by simp⟩,λW' H' i v H2 e y hi=>?_,λW' H' e=>⟨us,ha W' H' e,by omega⟩⟩
 obtain⟨T,x,hT,rfl,rfl,y⟩:=y
 obtain⟨z,hz,rz⟩:=r.get (y us (ha W' _ e))
 have sm:=aZ hT (HO.tup [.int (i:Int),x])
 exact⟨sm,_,Y9 hz,.tup aT (.cons (.int _) (.cons ((rz.keep (e.keep tw)).same sm λ_ q=>q) .nil))⟩
theorem aN9 {K:ad}{H0:Hp}{W:Addr->Prop}{g:Bool}{H1:Hp}{a:Addr}{us:List V}{xs:List PV}(tw:∀a,W a->∃o,H1 a=some o/\gU o=true)(ha:∀W' H',Ev W H1 W' H'->aH K H' a us)(r:Reps K (Ms H0 W g) H1 us xs):mE K H0 W g H1 (xZ K a) (jE xs):=by
 have lr:=r.length
 have ll:=mY xs
 refine⟨λW' H' i e hi=>⟨us,us[i]'(by omega),ha W' H' e,by simp⟩,λW' H' i v H2 e y hi=>?_,λW' H' e=>⟨us,ha W' H' e,by omega⟩⟩
 obtain⟨T,x,hT,rfl,rfl,y⟩:=y
 obtain⟨z,hz,rz⟩:=r.get (y us (ha W' _ e))
 have sm:=aZ hT (HO.tup [.int (i:Int),x])
 exact⟨sm,_,Y9 hz,.tup aT (.cons (.int _) (.cons ((rz.keep (e.keep tw)).same sm λ_ q=>q) .nil))⟩
section
variable {X:Cx}{σ:L2.St}{H:Hp}{te:aD}{R:It→Hp→Prop}
theorem aO0 (h:LI X (sQ te) σ H R):Y7 X.K (iF (LE X te) kR) σ H R:=by
 obtain⟨W,ρ,Q,px,q,k⟩:=h
 refine⟨W,ρ,_,px,q,?_⟩
 rintro v H1 x g s r ⟨xs,hx,hg,q⟩
 have px1:=px.mono s
 have tw:∀a,W a->∃o,H1 a=some o/\gU o=true:=λa z=>(px1.wm a z).2
 rcases hx with rfl|rfl
 ·obtain⟨a,us,rfl,m,h,r⟩:=r.sqL
  have wa:¬W a:=by
   cases g with
   |fr=>exact (px.new m).1
   |nw=>exact m.1
   |sh=>exact m
   |rd=>have:=hg rfl;unfold flat at this;cases this
  exact⟨a,rfl,.inl ⟨us,aJ.of h,k _ _ _ _ s (aN8 tw (λW' H' e=>aJ.of (e _ _ h wa).1) (l6 px (λz=>by have:=hg z;unfold flat at this;cases this) r)) q⟩⟩
 ·obtain⟨a,us,rfl,h,r⟩:=r.sqT
  refine⟨a,rfl,.inr ⟨us,aH.of h,k _ _ _ _ s (aN9 tw (λW' H' e=>aH.of (e _ _ h λz=>?_).1) (l6 px (λz=>by have:=hg z;unfold flat at this;exact this) r)) q⟩⟩
  obtain⟨o,h',mu⟩:=tw _ z;rw[h]at h';cases h';cases mu
theorem Z1 {elts:List Expr}{kt:Nat}{pt p2 pos:Pos}{a:Expr}{ta:aD}(hg:Gl X "enumerate")(hm:X.mg "enumerate" = none)(ha:QE X a ta)(hs:starEach [a] X.env = [(false,eval a X.env)]:=by rfl):QI X (.Tuple elts kt pt) (.Call (.Name "enumerate" p2) [a] [] pos) (sQ ta):=
 rG (aN5 hg hm (cW ha dH hs) hs) λ_ _ _=>aO0
end
section
variable {X:Cx}{e:Expr}{te:aD}{pos p2:Pos}{scope:Scope}{N:List Str}{fr:List (Option Nat)}{x y:Str}{tp xp yp:Pos}{kt:Nat}{iter elt:Expr}{ti:fN}
abbrev mZ (x y:Str)(xp yp:Pos)(kt:Nat)(tp:Pos):Expr:=.Tuple [.Name x xp,.Name y yp] kt tp
theorem Z2 {ifs:List Expr}{tcs:cC}(hc:X.calm=true)(he:∀(s:Shared) (H:Hp) (C:Addr) (fp:List Addr),QE (bI X scope N s H C fp cI) elt te)(hi:∀(s:Shared) (H:Hp) (C:Addr) (fp:List Addr),jQ (bI X scope N s H C fp cI) ifs (LT (bI X scope N s H C fp cI) tcs))(hN:N.Nodup)(h0:N[0]? = some x)(h1:N[1]? = some y)(hl:∀(s:Shared) (H:Hp) (C:Addr) (fp:List Addr),(bI X scope N s H C fp cI).env.scope.names.lookup x=some .local)(hl2:∀(s:Shared) (H:Hp) (C:Addr) (fp:List Addr),(bI X scope N s H C fp cI).env.scope.names.lookup y=some .local)(s:Shared)(H:Hp) :
  m6 X scope N (mZ x y xp yp kt tp) ifs elt s H (kO X.K 2 (fR (cV 0) (fR (cV 1) kN))) (LT (X.frm H) tcs) (LE (X.frm H) te):=
 ⟨λC fp=>nV (X:=bI X scope N s H C fp cI) hc (iD (eU hN h0 (.inl (hl s H C fp)) (.inr (hl s H C fp))) (iD (eU hN h1 (.inl (hl2 s H C fp)) (.inr (hl2 s H C fp))) nR)),λC fp=>hi s H C fp,λC fp=>he s H C fp⟩
theorem aO1 {c:Expr}{tcs:cC}(hi:QI X (mZ x y xp yp kt tp) iter ti)(ht:∀(s:Shared) (H:Hp) (C:Addr) (fp:List Addr),QT (bI X scope N s H C fp cI) c tcs)(he:∀(s:Shared) (H:Hp) (C:Addr) (fp:List Addr),QE (bI X scope N s H C fp cI) elt te)(hc:X.calm=true:=by rfl)(S:cQ X scope N fr:=by exact cQ.of rfl rfl)(hN:N.Nodup:=by decide +kernel)(h0:N[0]? = some x:=by rfl)(h1:N[1]? = some y:=by rfl)(hl:∀(s:Shared) (H:Hp) (C:Addr) (fp:List Addr),(bI X scope N s H C fp cI).env.scope.names.lookup x=some .local:=by intro _ _ _ _;rfl)(hl2:∀(s:Shared) (H:Hp) (C:Addr) (fp:List Addr),(bI X scope N s H C fp cI).env.scope.names.lookup y=some .local:=by intro _ _ _ _;rfl)(hf:fr[0]? = some none:=by rfl)(hf2:fr[1]? = some none:=by rfl)(hs:∀x,foldedSetIterable iter X.env x=pure x:=by intro _;rfl):QE X (.ListComp elt [⟨mZ x y xp yp kt tp,iter,[c],0⟩] scope pos) (c7 ti fr (oO 0 1) tcs te):=
 cD (vP (gh:=λ_=>kO X.K 2 (fR (cV 0) (fR (cV 1) kN))) (tch:=λH=>LT (X.frm H) tcs) (teh:=λH=>LE (X.frm H) te) hc S hi (Z2 hc he (λs H C fp=>vM (ht s H C fp)) hN h0 h1 hl hl2) hs) λ_ _ _=>oP (O4 _ 0 1) (λi e=>by rcases e with e|e<;>(subst e;assumption))
theorem aO2 {c:Expr}{tcs:cC}{i:Nat}{z:Str}{zp:Pos}(nd:X.N.Nodup)(hi:QI X (mZ x y xp yp kt tp) iter ti)(ht:∀(s:Shared) (H:Hp) (C:Addr) (fp:List Addr),QT (bI X scope N s H C fp cI) c tcs)(he:∀(s:Shared) (H:Hp) (C:Addr) (fp:List Addr),QE (bI X scope N s H C fp cI) elt te)(hz:X.N[i]? = some z:=by rfl)(hzl:X.env.scope.names.lookup z=some .local:=by rfl)(hsw:swapsWith (.ListComp elt [⟨mZ x y xp yp kt tp,iter,[c],0⟩] scope p2) (some (.Name z zp)) pos.line X.env=pure true:=by rfl)(hc:X.calm=true:=by rfl)(S:cQ X scope N fr:=by exact cQ.of rfl rfl)(hN:N.Nodup:=by decide +kernel)(h0:N[0]? = some x:=by rfl)(h1:N[1]? = some y:=by rfl)(hl:∀(s:Shared) (H:Hp) (C:Addr) (fp:List Addr),(bI X scope N s H C fp cI).env.scope.names.lookup x=some .local:=by intro _ _ _ _;rfl)(hl2:∀(s:Shared) (H:Hp) (C:Addr) (fp:List Addr),(bI X scope N s H C fp cI).env.scope.names.lookup y=some .local:=by intro _ _ _ _;rfl)(hf:fr[0]? = some none:=by rfl)(hf2:fr[1]? = some none:=by rfl)(hs:∀x,foldedSetIterable iter X.env x=pure x:=by intro _;rfl):QS X (.Assign [.Name z zp] (.ListComp elt [⟨mZ x y xp yp kt tp,iter,[c],0⟩] scope p2) pos) (aY i (c7 ti fr (oO 0 1) tcs te)):=
 eY (K5 (gh:=λ_=>kO X.K 2 (fR (cV 0) (fR (cV 1) kN))) (tch:=λH=>LT (X.frm H) tcs) (teh:=λH=>LE (X.frm H) te) hc S hi (Z2 hc he (λs H C fp=>vM (ht s H C fp)) hN h0 h1 hl hl2) nd hz hzl hsw hs) λD σ H h=>oP (O4 _ 0 1) (λi e=>by rcases e with e|e<;>(subst e;assumption)) (wI h)
end
section
variable {X:Cx}{a b e o f:Expr}{ta tb te td tk tx:aD}{pos p2 apos cpos:Pos}{σ:L2.St}{H:Hp}{Q':VK}
def Z3:PV->Tg->PV->Tg->PK->Prop:=λx _ y _ Q=>∃xs n,x = .lst xs/\y = .int n/\flats xs=true/\-1000000<=n/\n<=1000000/\xs.length<=10/\Q (.lst (List.replicate n.toNat xs).flatten) .fr
abbrev Z4 (ta tb:aD):aD:=q2 Z3 ta tb
theorem aO3:eD X Z3 G5:=by
 rintro W Hs H u v x y g g' Q Q' s n r1 r2 ⟨xs,m,rfl,rfl,f,h1,h2,hl,q⟩ k
 cases r2
 obtain⟨a,us,rfl,mm,h,r⟩:=r1.sqL
 have lr:=r.length
 refine⟨a,m,us,rfl,rfl,h,by omega,by omega,lim ?_,λp hp=>k _ _ _ .fr (aZ hp _) (.lst (s.free hp) aT (((r.flat f).rep m.toNat).same (aZ hp _) λ_ z=>z)) q⟩
 have h3:us.length<=10:=by omega
 have h4:m.toNat<=1000000:=by omega
 calc us.length*m.toNat<=10*1000000:=Nat.mul_le_mul h3 h4
  _<=16000000:=by decide
theorem aO4 (ha:QE X a ta)(hb:QE X b tb):QE X (.BinOp a .Mult b pos) (Z4 ta tb):=fY au9 aO3 ha hb
theorem aO5 {x:Str}{n:Int}{t:Nat}(hg:Gl X x)(hm:X.mg x=some (.int n t))(hd:(x==("__debug__":Str))=false:=by decide):QE X (.Name x pos) (qC (.int n)):=
 cD (an1 (v:=.int n) hg hm ⟨t,rfl⟩ hd) λ_ _ _=>qV λ_=>.int n
end
section
variable {X:Cx}{a b:Expr}{ta tb:aD}{pos:Pos}
def Z5:PV->Tg->PV->Tg->PK->Prop:=λx _ y _ Q=>∃xs ys,x = .tup xs/\y = .tup ys/\flats xs=true/\flats ys=true/\xs.length+ys.length<=16000000/\Q (.tup (xs++ys)) .fr
abbrev Z6 (ta tb:aD):aD:=q2 Z5 ta tb
theorem aO6:eD X Z5 (Y8 X.K):=by
 rintro W Hs H u v x y g g' Q Q' s n r1 r2 ⟨xs,ys,rfl,rfl,f1,f2,hl,q⟩ k
 obtain⟨a,us,rfl,h1,q1⟩:=r1.sqT
 obtain⟨b,ws,rfl,h2,q2⟩:=r2.sqT
 have l1:=q1.length
 have l2:=q2.length
 refine⟨a,b,us,ws,rfl,rfl,aH.of h1,aH.of h2,lim (by omega),λz=>?_,λ_ z=>?_,λ_ _ p hp=>k _ _ _ .fr (aZ hp _) (.tup aT (((q1.flat f1).append (q2.flat f2)).same (aZ hp _) λ_ z=>z)) q⟩
 ·obtain rfl:xs = []:=by cases xs with
   |nil=>rfl
   |cons _ _=>rw[z]at l1;cases l1
  exact k _ _ _ .fr (aA.refl _) (.tup h2 (q2.flat f2)) q
 ·obtain rfl:ys = []:=by cases ys with
   |nil=>rfl
   |cons _ _=>rw[z]at l2;cases l2
  rw[bo9]at q
  exact k _ _ _ .fr (aA.refl _) (.tup h1 (q1.flat f1)) q
theorem aO7 (ha:QE X a ta)(hb:QE X b tb):QE X (.BinOp a .Add b pos) (Z6 ta tb):=fY aN7 aO6 ha hb
end
end PP
namespace Core
open PySem L2 PP
section
variable (ws:af)(ls:aa)(os ns:af)
def g9:Nat->af
 |0=>[]
 |k+1=>g9 k++(os.find? (kin ws ls (ns++g9 k))).toList
def pJ (k:Nat):Option Int:=os.find? (kin ws ls (ns++g9 ws ls os ns k))
end
section
variable {ws:af}{ls:aa}{os ns:af}
theorem aO8 {k:Nat}{h:Int}(e:pJ ws ls os ns k=some h):g9 ws ls os ns (k+1)=g9 ws ls os ns k++[h]:=by
 show g9 ws ls os ns k++(pJ ws ls os ns k).toList=_
 rw[e];rfl
theorem Z7 {S T:af}{h:Int}(hk:kin ws ls S h=true)(st:∀x∈S,x∈T)(hn:h∉T):kin ws ls T h=true:=by
 unfold kin at hk ⊢
 rw[bp4]at hk ⊢
 refine⟨by rw[bl1 hn];rfl,bl6 ?_⟩
 have h1:=bq2 hk.2
 have h2:((bB ls h).filter λx=>decide (x∈S)).length<=((bB ls h).filter λx=>decide (x∈T)).length:=by
  rw[<- bz3,<- bz3]
  exact List.countP_mono_left λx _ hx=>bl6 (st x (bq2 hx))
 omega
def fQ (ws:af)(ls:aa)(T:af):Prop:=∀h∈rng ws.length,kin ws ls T h=false
theorem Z8 {T:af}(sh:fQ ws ls T)(st:∀x∈ns,x∈T):∀k,∀x∈bA ws ls ns k,x∈T
 |0,x,hx=>st x hx
 |k+1,x,hx=>by
  have ih:=Z8 sh st k
  rcases bn4.mp (show x∈bA ws ls ns k++nextOf ws ls (bA ws ls ns k) from hx) with hx|hx
  ·exact ih x hx
  ·have hx:=bm0.mp hx
   by_cases e:x∈T
   ·exact e
   ·have:=Z7 hx.2 ih e
    rw[sh x hx.1]at this;cases this
theorem Z9 (n:Nat):(rng n).Nodup:=xW n
theorem aO9 {k:Nat}{h:Int}(e:pJ ws ls os ns k=some h):h∈os/\h∉ns++g9 ws ls os ns k:=
 ⟨List.mem_of_find?_eq_some e,bw4 (xN (List.find?_some e))⟩
theorem aP0 (po:os.Perm (rng ws.length))(hs:bD ws.length ns=true):∀k,(ns++g9 ws ls os ns k).Nodup/\∀x∈ns++g9 ws ls os ns k,x∈rng ws.length
 |0=>by
  rw[show g9 ws ls os ns 0 = [] from rfl,bo9]
  exact⟨(k8 (eG hs).1).imp λh=>Int.ne_of_lt h,λx hx=>e8.mpr ((eG hs).2 x hx)⟩
 |k+1=>by
  obtain⟨i1,i2⟩:=aP0 po hs k
  cases e:pJ ws ls os ns k with
  |none=>
   have:g9 ws ls os ns (k+1)=g9 ws ls os ns k:=by
    show g9 ws ls os ns k++(pJ ws ls os ns k).toList=_
    rw[e];exact bo9 _
   rw[this];exact⟨i1,i2⟩
  |some h=>
   obtain⟨n1,n2⟩:=aO9 e
   rw[aO8 e,<- bo0]
   refine⟨by9.mpr ⟨i1,bo1 _ _,λx hx y hy=>?_⟩,λx hx=>?_⟩
   ·rw[bl0.mp hy];intro z;subst z;exact n2 hx
   ·rcases bn4.mp hx with hx|hx
    ·exact i2 x hx
    ·rw[bl0.mp hx];exact po.mem_iff.mp n1
theorem aa0 (hs:bD ws.length ns=true):∀k,(bA ws ls ns k).Nodup
 |0=>(k8 (eG hs).1).imp λh=>Int.ne_of_lt h
 |k+1=>by
  show (bA ws ls ns k++nextOf ws ls (bA ws ls ns k)).Nodup
  refine by9.mpr ⟨aa0 hs k,(xW ws.length).filter _,λx hx y hy=>?_⟩
  intro z;subst z
  exact bw4 (xN (bm0.mp hy).2) hx
end
theorem jF {i:Nat}{h:Int}{g:Bool}{ρ:b7}{Q:b7->Prop}(q:Q (ρ.set i (some (.sh true (.int h))))):b8 i (.int h) g ρ Q:=by
 show Q (ρ.set i (some (.sh (g||true) (.int h))))
 rw[Bool.or_true];exact q
def eQ (ns S:af):Int:=(ns.length:Int)-(((ns.filter λx=>decide (x∈S)).length:Nat):Int)
def nA:bK:=λxs Q=>∃x ns ps S,xs = [x,.dK ps]/\cK x ns/\DS ps S/\ns.length<=10000/\Q (.int (eQ ns S))
def aa1:aM:=(bJ (mH (aE bQ (a7 (a5 0) a9)) (aE sK (a7 (a5 0) (a7 (a5 1) a9)))))
theorem aP1:dC aa1 ["hearths","inside"] nA:=by
 rintro xs Q ⟨x,ns,ps,S,rfl,hx,d,hl,q⟩
 exact⟨_,rfl,_,_,rfl,hx.len,_,rfl,_,rfl,x,ns,ps,S,rfl,hx,d,hl,_,_,rfl,rfl,trivial,q⟩
def pK:bK:=λxs Q=>∃x ns y ms,xs = [x,y]/\cK x ns/\cK y ms/\ns.length<=10000/\ms.length<=1000/\Q (.tup (intz (ns.filter λz=>!decide (z∈ms))))
def aa2:aM:=(aN (aY 2 (aE kB (a7 (a5 1) a9)))
 (bJ (aE j7 (a7 (c7 (cN (a5 0)) [none,some 2] (b8 0) (aX (l9 true (a5 0) (a5 1))) (a5 0)) a9))))
theorem aP2:dC aa2 ["hearths","some","gone"] pK:=by
 rintro xs Q ⟨x,ns,y,ms,rfl,hx,hy,hl,hm,q⟩
 refine⟨_,rfl,y,ms,rfl,hy,hm,λps d=>⟨trivial,?_⟩⟩
 refine⟨_,rfl,_,hx.seq,kA hx,by rw[aW];omega,λi acc=>acc=intz ((ns.take i).filter λz=>!decide (z∈ms)),rfl,?_,?_⟩
 ·rintro i z acc hz rfl
  obtain⟨n,rfl,hn⟩:=fZ hz
  have tk:=k9 (p:=λz=>!decide (z∈ms)) hn
  refine⟨_,rfl,_,rfl,_,.inl ⟨ps,Sum.inl n,rfl,rfl,rfl⟩,_,rfl,?_⟩
  show if (!(c8 ps (Sum.inl n:aG)).isSome)=true then _ else _
  rw[d.has n]
  by_cases h:n∈ms
  ·rw[bl6 h]at tk ⊢
   refine bG ?_
   show _=intz (List.filter _ (List.take (i+1) ns))
   rw[tk];exact congrArg intz (bo9 _).symm
  ·rw[bl1 h]at tk ⊢
   refine bP ⟨_,rfl,trivial,?_⟩
   show _=intz (List.filter _ (List.take (i+1) ns))
   rw[tk,fA];rfl
 ·rintro acc rfl
  rw[aW,bn9]
  exact⟨⟨_,_,rfl,rfl,cR _,trivial,q⟩,λns z=>by cases z⟩
def fB (ws:af)(ls:aa)(S:af)(h:Int):Bool:=decide (eQ (bB ls h) S<ws.getD h.toNat 0)
def stay (ws:af)(ls:aa)(S:af):af:=S.filter (fB ws ls S)
theorem aa3 {n:Nat}{S:af}(h:bD n S=true)(p:Int->Bool):bD n (S.filter p)=true:=by
 obtain⟨h1,h2⟩:=eG h
 have u:dU (n:Int) (S.filter p):=⟨(k8 h1).filter p,λx hx=>h2 x (bm0.mp hx).1,by
  have:=mW h
  have:=bA7 p S
  omega⟩
 exact u.set
def sR:bK:=λxs Q=>∃ws ls x S,xs = [bC ws ls,.lst (kC ws.length ls),x]/\Wb ws ls/\cK x S/\bD ws.length S=true/\Q (.tup (intz (stay ws ls S)))
def aa4:aM:=(aN (aY 3 (aE kB (a7 (a5 2) a9)))
 (bJ (aE j7 (a7 (c7 (cN (a5 2)) [none,some 3,some 1,some 0] (b8 0) (aX (lD (aE nA (a7 (bH (a5 2) (a5 0)) (a7 (a5 1) a9))) (bH (bH (a5 3) (qC (.int 0))) (a5 0)))) (a5 0)) a9))))
theorem aP3:dC aa4 ["web","around","block","inside"] sR:=by
 rintro xs Q ⟨ws,ls,x,S,rfl,wb,hx,hs,q⟩
 have few:=wb.few
 have ln:=mW hs
 have most:=wb.most
 refine⟨_,rfl,x,S,rfl,hx,by omega,λps d=>⟨trivial,?_⟩⟩
 refine⟨_,rfl,_,hx.seq,kA hx,by rw[aW];omega,λi acc=>acc=intz ((S.take i).filter (fB ws ls S)),rfl,?_,?_⟩
 ·rintro i z acc hz rfl
  obtain⟨h,rfl,hh⟩:=fZ hz
  have hm:=(eG hs).2 h (bn2 hh)
  have nl:=m8 ls h
  have tk:=k9 (p:=fB ws ls S) hh
  refine⟨_,rfl,_,rfl,_,_,_,rfl,rfl,X1 hm.1 hm.2,_,rfl,_,bB ls h,ps,S,rfl,.inr rfl,d,by omega,_,rfl,_,_,_,rfl,rfl,rfl,_,rfl,_,_,_,rfl,rfl,xS hm.1 hm.2,_,_,rfl,rfl,_,rfl,?_⟩
  show if fB ws ls S h=true then _ else _
  cases hk:fB ws ls S h with
  |true=>
   rw[hk,if_pos rfl]at tk
   refine bP ⟨_,rfl,trivial,?_⟩
   show _=intz (List.filter _ (List.take (i+1) S))
   rw[tk,fA];rfl
  |false=>
   rw[hk,if_neg (by decide),bo9]at tk
   refine bG ?_
   show _=intz (List.filter _ (List.take (i+1) S))
   rw[tk]
 ·rintro acc rfl
  rw[aW,bn9]
  exact⟨⟨_,_,rfl,rfl,cR _,trivial,q⟩,λns z=>by cases z⟩
def dJ (ws:af)(ls:aa)(S:af):Nat->af
 |0=>S
 |k+1=>stay ws ls (dJ ws ls S k)
theorem aa5 {ws:af}{ls:aa}{S:af}(hs:bD ws.length S=true):∀k,bD ws.length (dJ ws ls S k)=true
 |0=>hs
 |k+1=>aa3 (aa5 hs k) _
theorem aP4 {S:af}{p:Int->Bool}(h:S.filter p≠S):(S.filter p).length<S.length:=by
 rcases bp0 (S.filter p).length S.length with z|z
 ·exact z
 ·exact absurd (List.filter_sublist.eq_of_length_le z) h
section
variable {ws:af}{ls:aa}{S T:af}
theorem aP5 {ns:af}(st:∀x∈T,x∈S):eQ ns S<=eQ ns T:=by
 have h2:(ns.filter λx=>decide (x∈T)).length<=(ns.filter λx=>decide (x∈S)).length:=by
  rw[<- bz3,<- bz3]
  exact List.countP_mono_left λx _ hx=>bl6 (st x (bq2 hx))
 unfold eQ;omega
theorem aa6 {h:Int}(st:∀x∈T,x∈S)(hs:fB ws ls T h=true):fB ws ls S h=true:=by
 unfold fB at hs ⊢
 have h1:=bq2 hs
 have h2:=aP5 (ns:=bB ls h) st
 exact bl6 (by omega)
theorem aP6 (hT:stay ws ls T=T)(st:∀x∈T,x∈S):∀x∈T,x∈stay ws ls S:=λx hx=>
 bm0.mpr ⟨st x hx,aa6 st (bm0.mp (show x∈stay ws ls T by rw[hT];exact hx)).2⟩
theorem aa7 (hT:stay ws ls T=T)(st:∀x∈T,x∈S):∀k,∀x∈T,x∈dJ ws ls S k
 |0=>st
 |k+1=>aP6 hT (aa7 hT st k)
theorem aa8:∀k,∀x∈dJ ws ls S k,x∈S
 |0,x,hx=>hx
 |k+1,x,hx=>aa8 k x (bm0.mp (show x∈stay ws ls (dJ ws ls S k) from hx)).1
structure nB (ws:af)(ls:aa)(S G:af):Prop where
 cold:stay ws ls G=G
 sub:∀x∈G,x∈S
 most:∀U,stay ws ls U=U->(∀x∈U,x∈S)->∀x∈U,x∈G
theorem aP7 {k:Nat}(h:stay ws ls (dJ ws ls S k)=dJ ws ls S k):nB ws ls S (dJ ws ls S k):=⟨h,aa8 k,λU hU st=>aa7 hU st k⟩
theorem y7 {n:Nat}{A B:af}(ha:bD n A=true)(hb:bD n B=true)(h:∀x,x∈A↔x∈B):A=B:=by
 have ua:=k8 (eG ha).1
 have ub:=k8 (eG hb).1
 have p:A.Perm B:=(List.perm_ext_iff_of_nodup (ua.imp λz=>Int.ne_of_lt z) (ub.imp λz=>Int.ne_of_lt z)).mpr h
 exact aM1 p (ua.imp λz=>Int.le_of_lt z) (ub.imp λz=>Int.le_of_lt z)
theorem aP8 {n:Nat}{A B:af}(ha:nB ws ls S A)(hb:nB ws ls S B)(na:bD n A=true)(nb:bD n B=true):A=B:=
 y7 na nb λx=>⟨λh=>hb.most A ha.cold ha.sub x h,λh=>ha.most B hb.cold hb.sub x h⟩
theorem aP9 {S T:af}{h:Int}(hin:h∉S)(ht:∀x,x∈bB ls h->(x∈T↔x∉S)):kin ws ls S h = !fB ws ls T h:=by
 have e:(((bB ls h).filter λx=>decide (x∈S)).length:Int)=eQ (bB ls h) T:=by
  unfold eQ
  have:∀L:af,(∀x,x∈L->(x∈T↔x∉S))->(L.filter λx=>decide (x∈S)).length+(L.filter λx=>decide (x∈T)).length=L.length:=λL hL=>by
   induction L with
   |nil=>rfl
   |cons a r ih=>
    have i:=ih λx hx=>hL x (bm1 _ hx)
    have ha:=hL a bl7
    by_cases h1:a∈S
    ·have h2:a∉T:=λz=>ha.mp z h1
     simp only[bp7,bl6 h1,bl1 h2,if_true,bn0,bq1,bo3];omega
    ·have h2:a∈T:=ha.mpr h1
     simp only[bp7,bl6 h2,bl1 h1,if_true,bn0,bq1,bo3];omega
  have:=this _ ht
  omega
 unfold kin fB
 rw[e,bl1 hin]
 simp only[Bool.not_false,Bool.true_and]
 by_cases hc:ws.getD h.toNat 0<=eQ (bB ls h) T
 ·rw[bl6 hc,bl1 (by omega)];rfl
 ·rw[bl1 hc,bl6 (by omega)];rfl
end
section
variable {ws:af}{ls:aa}{ns:af}
theorem aa9 (wb:Wb ws ls){h x:Int}(hx:x∈bB ls h):x∈rng ws.length:=by
 unfold bB at hx
 obtain⟨l,hl,hx⟩:=List.mem_flatMap.mp hx
 have:=wb.links l hl
 rcases bn4.mp hx with hx|hx
 ·split at hx
  ·rw[bl0.mp hx];exact e8.mpr this.2
  ·cases hx
 ·split at hx
  ·rw[bl0.mp hx];exact e8.mpr this.1
  ·cases hx
def cB (n:Nat)(S:af):af:=(rng n).filter λx=>!decide (x∈S)
theorem gM {n:Nat}{S:af}{x:Int}:x∈cB n S↔x∈rng n/\x∉S:=by
 unfold cB;rw[bm0];simp
theorem yA (n:Nat)(S:af):bD n (cB n S)=true:=by
 have u:dU (n:Int) (cB n S):=⟨by
   refine List.Pairwise.filter _ ?_
   unfold rng
   rw[bs8]
   exact bz6.imp λh=>by omega,λx hx=>e8.mp (gM.mp hx).1,by
   have:=bA7 (λx=>!decide (x∈S)) (rng n)
   rw[eZ]at this
   show ((List.filter (λx=>!decide (x∈S)) (rng n)).length:Int)<=_
   omega⟩
 exact u.set
theorem ab0 (wb:Wb ws ls){S:af}{h:Int}(hin:h∉S):kin ws ls S h = !fB ws ls (cB ws.length S) h:=
 aP9 hin λx hx=>⟨λz=>(gM.mp z).2,λz=>gM.mpr ⟨aa9 wb hx,z⟩⟩
theorem aQ0 (wb:Wb ws ls){m:Nat}(en:cG ws ls ns m):nB ws ls (cB ws.length ns) (cB ws.length (bA ws ls ns m)):=by
 have grow:∀k,∀x∈ns,x∈bA ws ls ns k:=λk x hx=>by
  induction k with
  |zero=>exact hx
  |succ k ih=>exact bt7 _ ih
 refine⟨bv7.mpr λh hh=>?_,λx hx=>?_,λU hU us x hx=>?_⟩
 ·have hm:=gM.mp hh
  have h1:=bz7.mp (show (rng ws.length).filter (kin ws ls (bA ws ls ns m)) = [] from en.2) h hm.1
  rw[ab0 wb hm.2]at h1
  simpa using h1
 ·have hm:=gM.mp hx
  exact gM.mpr ⟨hm.1,λz=>hm.2 (grow m x z)⟩
 ·have key:∀k,∀y∈U,y∉bA ws ls ns k:=λk=>by
   induction k with
   |zero=>exact λy hy=>(gM.mp (us y hy)).2
   |succ k ih=>
    intro y hy z
    rcases bn4.mp (show y∈bA ws ls ns k++nextOf ws ls (bA ws ls ns k) from z) with z|z
    ·exact ih y hy z
    ·have hk:=(bm0.mp z).2
     rw[ab0 wb (ih y hy)]at hk
     have sy:fB ws ls U y=true:=(bm0.mp (show y∈stay ws ls U by rw[hU];exact hy)).2
     have:=aa6 (S:=cB ws.length (bA ws ls ns k)) (λv hv=>gM.mpr ⟨(gM.mp (us v hv)).1,ih v hv⟩) sy
     rw[this]at hk;cases hk
  exact gM.mpr ⟨(gM.mp (us x hx)).1,key m x hx⟩
end
end Core
namespace L2
open PySem PySem.Spec PyProof.Rows
theorem ab1:∀(n:Nat) (ns:af),n<=ns.length->preSum (λi=>ns.getD i 0) n=(ns.take n).sum
 |0,_,_=>by simp[preSum]
 |n+1,ns,h=>by
  show preSum (λi=>ns.getD i 0) n+ns.getD n 0=_
  have h1:ns[n]? = some (ns[n]'(by omega)):=bk5 (by omega)
  have h2:ns.take (n+1)=ns.take n++[ns[n]'(by omega)]:=by rw[bp6,h1];rfl
  have h3:ns.getD n 0=ns[n]'(by omega):=by rw[bl3,h1];rfl
  rw[ab1 n ns (by omega),h2,h3,List.sum_append,List.sum_cons,List.sum_nil]
  omega
section
variable {X:Cx}
theorem aQ1 (hc:X.calm=true):cP X (.builtin "sum") (λxs H Q=>∃(a:Addr) (ns:af),xs = [.ref a]/\(aJ X.K H a (ns.map V.int)∨aH X.K H a (ns.map V.int))/\Q (.int ns.sum) H):=by
 intro pins s σ H xs us Q I r h
 obtain⟨a,ns,rfl,hq,q⟩:=h
 obtain⟨u,rfl,ru⟩:=fU r
 cases ru
 have hh:X.A.in1.handled=none:=I.ok.hd hc
 have fin:∀(its:List Value) (o:Obj) (wr:List Addr) (hw:∀b∈wr,s.heap.objs.size<=b),aI (ns.map V.int) its->∀s' t',Moved wr (λa b=>b=a) { s with heap:=s.heap.push o } s'->
   ∃x H',a6 X pins σ H' s'/\aP x (.int (preSum (λi=>ns.getD i 0) its.toArray.size) t')/\Q x H':=λits o wr hw rv s' t' hm=>by
  have hl:=rv.length
  rw[bl5]at hl
  have e:=Moved.eq_with hm
  have e2:preSum (λi=>ns.getD i 0) its.toArray.size=ns.sum:=by rw[bk9,<- hl,ab1 _ _ (bk7 _),bn9]
  rw[e2,e]
  refine⟨.int ns.sum,H,I.kept (t':=s'.toks) (h':=s'.heap) λb o' eb=>hm.heap b o' (λz=>?_) (bk6 _ eb),⟨t',rfl⟩,q⟩
  exact absurd (bm3 eb) (Nat.not_lt.mpr (hw b z))
 have val:∀(its:List Value),aI (ns.map V.int) its->∀(i:Nat) (v:Value),its.toArray[i]? = some v->∃t,v = .int (ns.getD i 0) t:=λits rv i v hv=>by
  have hi:its[i]? = some v:=by simpa using hv
  have hl:=rv.length
  rw[bl5]at hl
  have hil:i<ns.length:=by rw[hl];exact (bl9.mp hi).1
  obtain⟨u,e1,e2⟩:=rv.get (i:=i) (x:=.int ns[i]) (by simp[hil])
  rw[hi]at e1;cases e1
  obtain⟨t,rfl⟩:=e2
  exact⟨t,by rw[bl3,bk5 hil];rfl⟩
 rcases hq with hq|hq
 ·obtain⟨its,rv,p,hz⟩:=I.list hq
  have hlt:a<s.heap.objs.size:=by obtain⟨o,e,_⟩:=p.isList;exact bm3 e
  refine call_sum_walkAnyS (wpAny_pyIter_list p.isList ?_)
  refine⟨s.heap.objs.size,_,_,_,_,_,_,λi=>ns.getD i 0,rfl,(Walks.list hh s.heap.objs.size a (bo2 hlt) its.toArray).toS,⟨⟨_,bm4 _ rfl,rfl,rfl⟩,p.isList.push _⟩,?_,val its rv,λs' t' hm=>fin its _ _ ?_ rv s' t' hm⟩
  ·intro b hb
   have hs:(s.heap.push { cls:=.type "list_iterator",data:=.fields #[.ref a,.int 0 0] }).objs.size=s.heap.objs.size+1:=size_push' _ _
   show b<(s.heap.push _).objs.size
   rw[size_push']
   rcases bl8.mp hb with rfl|hb
   ·exact Nat.lt_succ_self _
   ·rw[bl0.mp hb];exact Nat.lt_succ_of_lt hlt
  ·intro b hb
   rw[bl0.mp hb];exact bk7 _
 ·obtain⟨its,rv,p,hz⟩:=I.tuple hq
  have hlt:a<s.heap.objs.size:=by obtain⟨o,e,_⟩:=p;exact bm3 e
  refine call_sum_walkAnyS (bx2 p ?_)
  refine⟨s.heap.objs.size,_,_,_,_,_,_,λi=>ns.getD i 0,rfl,(Walks.tuple hh s.heap.objs.size a (bo2 hlt) its.toArray).toS,⟨⟨_,bm4 _ rfl,rfl,rfl⟩,?_⟩,?_,val its rv,λs' t' hm=>fin its _ _ ?_ rv s' t' hm⟩
  ·obtain⟨o,e,h⟩:=p
   exact⟨o,bk6 _ e,h⟩
  ·intro b hb
   show b<(s.heap.push _).objs.size
   rw[size_push']
   rcases bl8.mp hb with rfl|hb
   ·exact Nat.lt_succ_self _
   ·rw[bl0.mp hb];exact Nat.lt_succ_of_lt hlt
  ·intro b hb
   rw[bl0.mp hb];exact bk7 _
theorem aQ2 (hc:X.calm=true):cP X (.builtin "any") (λxs H Q=>∃(a:Addr) (bs:List Bool),xs = [.ref a]/\aJ X.K H a (bs.map V.bl)/\Q (.bl (bs.any id)) H):=by
 intro pins s σ H xs us Q I r h
 obtain⟨a,bs,rfl,hq,q⟩:=h
 obtain⟨u,rfl,ru⟩:=fU r
 cases ru
 obtain⟨its,rv,p,hz⟩:=I.list hq
 have hl:=rv.length
 rw[bl5]at hl
 have hlt:a<s.heap.objs.size:=by obtain⟨o,e,_⟩:=p.isList;exact bm3 e
 refine call_any_walk (wpAny_pyIter_list p.isList ?_)
 have hh:X.A.in1.handled=none:=I.ok.hd hc
 refine⟨s.heap.objs.size,_,_,_,_,_,λi=>bs.getD i false,rfl,Walks.list hh s.heap.objs.size a (bo2 hlt) its.toArray,⟨⟨_,bm4 _ rfl,rfl,rfl⟩,p.isList.push _⟩,?_,λh' tk kp=>?_⟩
 ·intro i v s' Q' E' hP hQ'
  have hi:its[i]? = some v:=by simpa using hP
  have hil:i<bs.length:=by rw[hl];exact (bl9.mp hi).1
  obtain⟨u,e1,e2⟩:=rv.get (i:=i) (x:=.bl bs[i]) (by simp[hil])
  rw[hi]at e1;cases e1
  cases e2
  have:bs.getD i false=bs[i]:=by rw[bl3,bk5 hil];rfl
  have hQ2:Q' (bs.getD i false) s':=hQ'
  rw[this]at hQ2
  exact bu7 hQ2
 ·have any_eq:(List.range its.toArray.size).any (λi=>bs.getD i false)=bs.any id:=by
   rw[bk9,<- hl]
   clear q rv hz hl hq hlt p hh kp
   induction bs with
   |nil=>rfl
   |cons b r ih=>
    rw[bo3,List.range_succ_eq_map,bA0,List.any_map,bA0,<- ih]
    rfl
  rw[any_eq]
  refine⟨.bl (bs.any id),H,I.kept (t':=tk) (h':=h') λb o e=>kp b o (λz=>?_) (bk6 _ e),rfl,q⟩
  rw[bl0.mp z]at e
  exact absurd (bm3 e) (br2 _)
end
end L2
namespace PP
open PySem L2 PyProof.Rows
section
variable {X:Cx}{a b e:Expr}{ta tb te:aD}{tr:cM}{pos p2:Pos}
def pL:List PV->(PV->Prop)->Prop:=λxs Q=>∃x ns,xs = [x]/\jW x=some (intz ns)/\Q (.int ns.sum)
theorem aQ3:eL X pL (λxs H Q=>∃(a:Addr) (ns:af),xs = [.ref a]/\(aJ X.K H a (ns.map V.int)∨aH X.K H a (ns.map V.int))/\Q (.int ns.sum) H):=by
 rintro H vs xs Q Q' r ⟨x,ns,rfl,e,q⟩ k
 obtain⟨v,rfl,r1⟩:=r.one
 obtain⟨a,us,rfl,hs,r2⟩:=r1.seq e
 obtain rfl:=r2.ofInts
 exact⟨a,ns,rfl,hs,k _ _ _ (aA.refl _) (.int _) q⟩
theorem yB (B:Bt X.mg)(hc:X.calm=true)(ha:QA X [e] tr)(hg:Gl X "sum":=by rfl)(he:starEach [e] X.env=(false,eval e X.env)::starEach [] X.env:=by rfl)(hpl:(backTo pos (starEach [] X.env)).any (·.1)=false:=by rfl):QE X (.Call (.Name "sum" p2) [e] [] pos) (aE pL tr):=
 hG (aQ1 hc) aQ3 hg B.sum PyProof.Rows.boot_sum ha (he:=he) (hpl:=hpl)
def sT:List PV->(PV->Prop)->Prop:=λxs Q=>∃bs:List Bool,xs = [.lst (bs.map PV.bl)]/\Q (.bl (bs.any id))
theorem aQ4:eL X sT (λxs H Q=>∃(a:Addr) (bs:List Bool),xs = [.ref a]/\aJ X.K H a (bs.map V.bl)/\Q (.bl (bs.any id)) H):=by
 rintro H vs xs Q Q' r ⟨bs,rfl,q⟩ k
 obtain⟨v,rfl,r1⟩:=r.one
 obtain⟨a,us,rfl,_,h,r2⟩:=r1.sqL
 obtain rfl:=r2.ofBls
 exact⟨a,bs,rfl,aJ.of h,k _ _ _ (aA.refl _) (.bl _) q⟩
theorem ab2 (B:Bt X.mg)(hc:X.calm=true)(ha:QA X [e] tr)(hg:Gl X "any":=by rfl)(he:starEach [e] X.env=(false,eval e X.env)::starEach [] X.env:=by rfl)(hpl:(backTo pos (starEach [] X.env)).any (·.1)=false:=by rfl):QE X (.Call (.Name "any" p2) [e] [] pos) (aE sT tr):=
 hG (aQ2 hc) aQ4 hg B.any PyProof.Rows.boot_any ha (he:=he) (hpl:=hpl)
end
end PP
namespace Core
open PySem L2 PP
theorem qQ {ls:aa}{wts:af}(e:wts.length=ls.length):(ls.zip wts).map (·.2)=wts:=by
 rw[List.map_snd_zip];omega
theorem ab3 (n:Nat):(rng n).Pairwise (·<·):=by
 unfold rng
 rw[bs8]
 exact (bz6 (n:=n)).imp λh=>by omega
theorem aQ5 (n:Nat)(p:Int->Bool):bD n ((rng n).filter p)=true:=by
 refine dU.set ⟨(ab3 n).sublist bz5,λx hx=>?_,?_⟩
 ·have:=e8.mp (bm0.mp hx).1
  exact this
 ·have:=bA7 p (rng n)
  rw[eZ]at this
  omega
section
variable {ws:af}{ls:aa}{ns wts:af}{m:Nat}
def loose (ls:aa)(wts ns:af):List ((Int×Int)×Int):=(ls.zip wts).filter λz=>!(decide (z.1.1∈ns)&&decide (z.1.2∈ns))
end
end Core
namespace PP
open PySem L2 PyProof.Rows
abbrev dL:=(Str->Prop)->bK
def EX (K:ad)(H0:Hp)(Ep:Str->Prop):XK:=λc d H'=>d=none/\aA H0 H'/\∃n C,c = .ref C/\PySem.W.nsIn K mainGlobals n=some (some (.ref C))/\Ep n
def spX (K:ad)(p:dL):Sp:=λvs H Q E=>∃xs Qp Ep,Reps K (λ_=>True) H vs xs/\p Ep xs Qp/\(∀v H' x,aA H H'->aF K (λa=>H a=none) H' v x->Qp x->Q v H')/\
 ∀n C H',aA H H'->PySem.W.nsIn K mainGlobals n=some (some (.ref C))->Ep n->E (.ref C) none H'
structure bF (P:Program)(w:World)(K:ad)(mg:Str->Option Value)(base:Heap)(k:Nat)(x:Str)(ps:List Str)(p:dL):Prop where
 ex:∃f fd,cL P w K mg base (eO P w) k f fd ps (spX K p)/\gR K fd ps []/\PySem.W.keepIn K (.ref f)=true/\mg x=some (.ref f)
section
variable {X:Cx}{σ:L2.St}{H:Hp}{D:cG}{tr:cM}{Q':VK}{a b c e:Expr}{es:List Expr}{pos p2 cp np hp:Pos}{t:aM}{te:aD}{tc:cC}
def gN (Ep:Str->Prop)(p:dL)(t:cM):aD:=aE (p Ep) t
theorem ab4 {p:dL}{Ep:Str->Prop}(h:LE X (gN Ep p tr) σ H Q'):qA (spX X.K p) [] (EX X.K X.H₀ Ep) (LA X tr) σ H Q':=by
 obtain⟨W,ρ,Q,px,q,k⟩:=h
 refine⟨W,ρ,_,px,q,λvs H1 xs s1 r1 q1=>⟨_,_,Ep,by rw[bo9];exact r1.any,q1,λv H' x s2 r2 q2=>k v H' x .fr (s1.trans s2) (r2.same (aA.refl _) λ_ z=>s1.free z) q2,λn C H' s2 z1 z2=>⟨rfl,(px.same.trans s1).trans s2,n,C,rfl,z1,z2⟩⟩⟩
theorem iM {Ep:Str->Prop}{k j:Nat}{x:Str}{ps:List Str}{p:dL}(hX:mV X (EX X.K X.H₀ Ep))(d:bF X.prog X.w X.K X.mg X.base k x ps p)(hr:bT j X.A)(ha:QA X (e::es) tr)(hkj:k<=j:=by decide)(hg:Gl X x:=by rfl)(hdb:(x==("__debug__":Str))=false:=by decide)(he:starEach (e::es) X.env=(false,eval e X.env)::starEach es X.env:=by rfl)(hpl:(backTo pos (starEach es X.env)).any (·.1)=false:=by rfl):QE X (.Call (.Name x p2) (e::es) [] pos) (gN Ep p tr):=by
 obtain⟨f,fd,F,b,kp,m⟩:=d.ex
 exact cD (qB F (hr.mono hkj) hg m kp b .nil hX.pass ha hdb he hpl) λ_ _ _=>ab4
theorem sV {k j:Nat}{x:Str}{ps:List Str}{p:dL}(d:bF X.prog X.w X.K X.mg X.base k x ps p)(hr:bT j X.A)(ha:QA X (e::es) tr)(hkj:k<=j:=by decide)(hg:Gl X x:=by rfl)(hdb:(x==("__debug__":Str))=false:=by decide)(he:starEach (e::es) X.env=(false,eval e X.env)::starEach es X.env:=by rfl)(hpl:(backTo pos (starEach es X.env)).any (·.1)=false:=by rfl):QE X (.Call (.Name x p2) (e::es) [] pos) (aE (p λ_=>False) tr):=by
 obtain⟨f,fd,F,b,kp,m⟩:=d.ex
 refine cD (qB F (E:=EX X.K X.H₀ λ_=>False) (hr.mono hkj) hg m kp b .nil (λ_ _ _ _ _ _ _ h=>?_) ha hdb he hpl) λ_ _ _ h=>ab4 (Ep:=λ_=>False) h
 obtain⟨_,_,_,_,_,_,_,_,_,_,_,_,z⟩:=h
 exact z.elim
def nC (Ep:Str->Prop)(n:Str)(t:cM):aM:=λ_ ρ=>t ρ λxs=>xs.length<=1000/\Ep n
theorem aQ6 {Ep:Str->Prop}{n:Str}{C:Addr}(hn:PySem.W.nsIn X.K mainGlobals n=some (some (.ref C)))(h:LS X (nC Ep n tr) D σ H):V6 (EX X.K X.H₀ Ep) C (LA X tr) D σ H:=by
 obtain⟨W,ρ,D',px,q,k⟩:=h
 exact⟨W,ρ,_,px,q,λvs H1 xs s1 r z=>⟨by rw[r.length];exact wG z.1,rfl,px.same.trans s1,n,C,rfl,hn,z.2⟩⟩
structure Xc (K:ad)(mg:Str->Option Value)(base:Heap)(n:Str):Prop where
 ex:∃C B newId initId bm,OwnCls n C bm newId mg base/\ExcBaseFacts B newId initId bm/\PySem.W.nsIn K mainGlobals n=some (some (.ref C))
theorem sW {Ep:Str->Prop}{n:Str}(hX:mV X (EX X.K X.H₀ Ep))(x:Xc X.K X.mg X.base n)(ha:QA X (e::es) tr)(hc:X.calm=true:=by rfl)(hg:Gl X n:=by rfl)(hd:(n==("__debug__":Str))=false:=by decide)(he:starEach (e::es) X.env=(false,eval e X.env)::starEach es X.env:=by rfl)(hpl:(backTo cp (starEach es X.env)).any (·.1)=false:=by rfl):QS X (.Raise (some (.Call (.Name n np) (e::es) [] cp)) none pos) (nC Ep n tr):=by
 obtain⟨C,B,newId,initId,bm,O,FB,hn⟩:=x.ex
 exact eY (aJ8 hX hc O FB ha hg hd he hpl) λ_ _ _=>aQ6 hn
def qD:V->Value
 |.ref a=>.ref a
 |.ty n=>.type n
 |_=>.none
end
structure sX (K:ad)(C:Addr):Prop where
 cls:PySem.W.isClsIn K C=true
 ty:PySem.W.typeIn K (.ref C)=some (.type "type")
 ga:PySem.W.findIn K (.ref C) "__getattribute__" = some (some (.builtin "BaseException.__getattribute__"))
 gt:PySem.W.findIn K (.ref C) "__getattr__" = some none
 fc:PySem.W.findIn K (.ref C) "__class__" = some (some (.builtin "object.__class__"))
 fg:PySem.W.specialIn K (.builtin "object.__class__") "__get__" = some (some (.builtin "getset_descriptor.__get__"))
 ft:PySem.W.takesIn K (.builtin "object.__class__")=some true
 ob:PySem.W.mroIn K C (.type "object")=some true
 be:PySem.W.mroIn K C (.type "BaseException")=some true
theorem yC {K:ad}{h₀:Heap}{mg:Str->Option Value}{x:Str}{C:Addr}{bmB:List Value}{newId:String}(X:K.In h₀)(m:mg x=some (.ref C))(q:PySem.W.excIn K C bmB newId=true):OwnCls x C bmB newId mg h₀:=by
 refine⟨m,?_⟩
 unfold PySem.W.excIn at q
 split at q
 case h_2=>cases q
 rename_i dd cd sl ho
 split at q
 case h_2=>cases q
 rename_i C' bm k0 k1 k2 k3 n k5 hm hs
 simp only[bp4,beq_iff_eq,Bool.not_eq_true']at q
 obtain⟨⟨⟨⟨⟨rfl,rfl⟩,dl⟩,ht⟩,hok⟩,hni⟩:=q
 obtain⟨nm,bs,mro,ns,qn,hd,sn,sub,ab,col,del⟩:=cd
 dsimp only at hm dl hok hni
 subst hm dl
 obtain rfl:sl = #[k0,k1,k2,k3,some (.builtin n),k5]:=by
  obtain⟨l⟩:=sl
  exact congrArg Array.mk hs
 exact⟨bm,ns,nm,qn,bs,hd,sn,sub,ab,col,dd,k0,k1,k2,k3,k5,_,X _ _ ho,.of_isNs (PySem.W.isNs_of_in X hok),PySem.W.nsMap_none_of_in X hok hni,PySem.W.tail_of_in X ht⟩
theorem bF.of {P:Program}{w:World}{K:ad}{mg:Str->Option Value}{base:Heap}{k:Nat}{x:Str}{ps N:List Str}{p:dL}{st:Stmt}{f:Addr}{fd:FuncData}(F:eB K x x st f fd)(m:mg x=some (.ref f))(S:FnScope N ps (aQ st))(hb:∀(kV doc pm:Value) (an:Option Addr) (cdv ct:Value) (us:List Value),us.length=ps.length->bindArgs (PySem.W.fnOf x x (iG st) (dW st) (aQ st) .none kV doc pm an cdv ct) ⟨us,[]⟩=pure (ps.zip us))(t:(Str->Prop)->aM)(len:∀Ep xs Q,p Ep xs Q->xs.length=ps.length)(rd:∀Ep xs Q,p Ep xs Q->t Ep { nx:=λ_=>Q .non,rt:=Q } (fO N xs))(body:∀(cdv:Value) (A:Around) (outer:List Env) (s:Shared) (H:Hp) (E:XK) (Ep:Str->Prop),bT k (A.deeper (envOfC x (aQ st) s.heap.objs.size f cdv))->mV (cX (eO P w) P w K mg base N x (aQ st) f cdv A outer s H E) (EX K H Ep)->
   eN (cX (eO P w) P w K mg base N x (aQ st) f cdv A outer s H E) (dW st) (t Ep)):bF P w K mg base (k+1) x ps p:=by
 refine⟨f,fd,F.okX S (λvs H Q E h=>?_) (λcdv A outer s H vs Q E hr h=>?_),F.binds hb,F.kp,m⟩
 ·obtain⟨xs,Qp,Ep,r,q,_⟩:=h
  rw[r.length];exact len Ep xs Qp q
 ·obtain⟨xs,Qp,Ep,r,q,k,ke⟩:=h
  have ht:=body cdv A outer s H E Ep hr (aJ7 λc d H' z=>?_)
  ·refine⟨_,ht,λ_=>False,fO N xs,_,rO r,rd Ep xs Qp q,?_,?_,?_,?_⟩
   ·exact λW' σ' H' ρ' e px q=>k _ _ _ px.same .non q
   ·exact λv H' x s r q=>k _ _ _ s r q
   ·exact λW' σ' H' ρ' e px q=>q
   ·exact λW' σ' H' ρ' e px q=>q
  ·obtain⟨rfl,s1,n,C,rfl,z1,z2⟩:=z
   exact ke n C H' s1 z1 z2
end PP
namespace Core
open PySem L2 PP
abbrev iN (t:(Str->Prop)->aM)(N:List Str)(p:dL):Prop:=∀Ep xs Q,p Ep xs Q->t Ep { nx:=λ_=>Q .non,rt:=Q } (fO N xs)
def sY:dL:=λEp xs Q=>∃ws ls x ns,xs = [bC ws ls,x]/\cK x ns/\ns.length<=1000/\(bD ws.length ns=true->Q (.tup (intz ns)))/\(bD ws.length ns=false->Ep "BadSet")
def ab5 (Ep:Str->Prop):aM:=(aN (cF (jV (aX (aE sJ (a7 (a5 0) (a7 (a5 1) a9))))) (nC Ep "BadSet" (a7 (qC (.str "a set is of rising hearths of the web")) a9)) cZ)
 (bJ (aE j7 (a7 (a5 1) a9))))
theorem aQ7:iN ab5 ["web","hearths"] sY:=by
 rintro Ep xs Q ⟨ws,ls,x,ns,rfl,hx,hl,q1,q2⟩
 refine⟨_,rfl,_,rfl,ws,ls,x,ns,rfl,hx,hl,_,rfl,?_⟩
 cases h:bD ws.length ns with
 |true=>exact bG ⟨_,rfl,⟨_,_,rfl,hx.seqT,cR _,trivial,q1 h⟩,hx.noscr⟩
 |false=>exact bP ⟨by decide,q2 h⟩
end Core
namespace PP
open PySem L2
theorem Reps.keys {K:ad}{M:Addr->Prop}{H:Hp}:∀(k:List aG),Reps K M H (k.map kV) (k.map kP)
 |[]=>.nil
 |.inl i::r=>.cons (.int i) (Reps.keys r)
 |.inr x::r=>.cons (.str x) (Reps.keys r)
theorem ab6 {α β:Type}{F:α->β->Prop}:∀{l:List α}{m:List β}{i:Nat}{x:α},Paired F l m->l[i]? = some x->∃y,m[i]? = some y/\F x y
 |_,_,_,_,.nil,e=>by simp at e
 |_,_,0,_,.cons r _,e=>by simp at e;subst e;exact⟨_,rfl,r⟩
 |_,_,i+1,x,.cons _ t,e=>by
  rw[bs1]at e
  obtain⟨y,h1,h2⟩:=ab6 t e
  exact⟨y,by rw[bs1];exact h1,h2⟩
theorem nD {us:List Value}(h:us.length=1):∃a,us = [a]:=List.length_eq_one_iff.mp h
theorem yD {us:List Value}(h:us.length=2):∃a b,us = [a,b]:=by
 cases us with
 |nil=>cases h
 |cons a r=>
  obtain⟨b,rfl⟩:=nD (us:=r) (by simpa using h)
  exact⟨a,b,rfl⟩
theorem yE {us:List Value}(h:us.length=3):∃a b c,us = [a,b,c]:=by
 cases us with
 |nil=>cases h
 |cons a r=>
  obtain⟨b,c,rfl⟩:=yD (us:=r) (by simpa using h)
  exact⟨a,b,c,rfl⟩
end PP
namespace Core
open PySem L2 PP
def NN (zs:af):Prop:=∀z∈zs,(0:Int)<=z
theorem NN.app {zs:af}{z:Int}(h:NN zs)(hz:0<=z):NN (zs++[z]):=λy hy=>by
 rcases bn4.mp hy with hy|hy
 ·exact h y hy
 ·rw[bl0.mp hy];exact hz
theorem NN.set {zs:af}{z:Int}(h:NN zs)(hz:0<=z)(j:Nat):NN (zs.set j z):=λy hy=>by
 rcases List.mem_or_eq_of_mem_set hy with hy|rfl
 ·exact h y hy
 ·exact hz
def yF (i:Nat)(S:af):Prop:=S.Pairwise (·<·)/\∀x∈S,0<=x/\x<(i:Int)
theorem yF.set {i:Nat}{S:af}(h:yF i S):bD i S=true:=by
 unfold bD
 rw[xL h.1,Bool.true_and,bu3]
 intro b hb
 obtain⟨x,hx,rfl⟩:=bn7.mp hb
 have:=h.2 x hx
 unfold inB
 simp only[id,bp4,bm8]
 exact this
end Core
namespace PP
open PySem L2
section
variable {X:Cx}{a b e:Expr}{ta tb:aD}{tr:cM}{D:cG}{σ:St}{H:Hp}{pos p2 p3 p4:Pos}
def sZ (i:Nat)(ta tb:aD):aM:=λD ρ=>∃xs,ρ[i]? = some (some (.own (.lst xs)))/\ta ρ λx _=>∃k:Nat,x = .int k/\k<=xs.length/\xs.length<16000000/\tb ρ λy g=>Nw g y/\D.nx (ρ.set i (some (.own (.lst (xs.take k++y::xs.drop k)))))
end
section
variable {X:Cx}{e:Expr}{tr:cM}{pos p2:Pos}
def t5:List PV->(PV->Prop)->Prop:=λxs Q=>∃ys:ae,xs = [.lst (ys.map λr=>PV.tup (intz r))]/\ys.length<=4096/\(∀y∈ys,y.length=2)/\∀zs:ae,zs.Perm ys->zs.Pairwise (λu v=>HT.aU v u=false)->Q (.lst (zs.map λr=>PV.tup (intz r)))
theorem aQ8:eL X t5 (V5 X.K):=by
 rintro H vs xs Q Q' r ⟨ys,rfl,hl,hne,q⟩ k
 obtain⟨v,rfl,r1⟩:=r.one
 obtain⟨a,us,rfl,_,h,r2⟩:=r1.sqL
 obtain⟨h1,h2⟩:=sM r2
 have lr:=r2.length
 rw[bl5]at lr
 refine⟨a,us,i7 H,rfl,aJ.of h,by omega,λy hy=>?_,λl zs hl' pm so=>?_⟩
 ·obtain⟨b,rfl,hb⟩:=h2 y hy
  refine⟨b,rfl,aH.of hb,hne _ ?_⟩
  rw[<- h1];exact bn7.mpr ⟨_,hy,rfl⟩
 ·have hz:∀u∈zs,∃b,u = .ref b/\H b=some (.tup ((i7 H u).map V.int)):=λu hu=>h2 u (pm.mem_iff.mp hu)
  refine k _ _ _ (aZ hl' _) (.lst hl' aT ((sN hz).same (aZ hl' _) λ_ z=>z)) (q _ ?_ ?_)
  ·rw[<- h1];exact pm.map _
  ·rw[bs8];exact so
theorem aQ9 (B:Bt X.mg)(ha:QA X [e] tr)(hg:Gl X "sorted":=by rfl)(he:starEach [e] X.env=(false,eval e X.env)::starEach [] X.env:=by rfl)(hpl:(backTo pos (starEach [] X.env)).any (·.1)=false:=by rfl):QE X (.Call (.Name "sorted" p2) [e] [] pos) (aE t5 tr):=
 hG aJ4 aQ8 hg B.sorted PyProof.Rows.boot_sorted ha (he:=he) (hpl:=hpl)
end
end PP
namespace Core
open PySem L2 PP
structure WL (n:Int)(ws:af)(ls:aa):Prop where
 many:(ws.length:Int)=n
 inn:∀l∈ls,0<=l.1/\l.1<l.2/\l.2<n
 most:ls.length<=1700
 ord:ls.Pairwise xT
 pos:∀w∈ws,0<=w
theorem WL.perm {n:Int}{ws:af}{ls ls':aa}(h1:(ws.length:Int)=n)(h2:∀l∈ls,0<=l.1/\l.1<l.2/\l.2<n)(h3:ls.length<=1700)(nd:ls.Nodup)(h4:∀w∈ws,0<=w)(p:ls'.Perm ls)(so:(ls'.map two).Pairwise λu v=>HT.aU v u=false):WL n ws ls':=
 ⟨h1,λl hl=>h2 l (p.mem_iff.mp hl),by rw[p.length_eq];exact h3,aL9 so (p.nodup_iff.mpr nd),h4⟩
theorem WL.wb {n:Int}{ws:af}{ls:aa}(h:WL n ws ls)(hn:n<=40):Wb ws ls:=
 ⟨by have:=h.many;omega,h.most,λl hl=>by have:=h.inn l hl;have:=h.many;omega⟩
def t6:dL:=λEp xs Q=>∃ws ls x S,xs = [bC ws ls,x]/\Wb ws ls/\cK x S/\S.length<=1000/\(bD ws.length S=true->Q (.bl (decide (stay ws ls S=S))))/\(bD ws.length S=false->Ep "BadSet")
def ab7 (Ep:Str->Prop):aM:=(aN (aY 2 (gN Ep sY (a7 (a5 0) (a7 (a5 1) a9))))
 (bJ (q2 (wX 2 false) (aE sR (a7 (a5 0) (a7 (aE pG (a7 (a5 0) a9)) (a7 (a5 2) a9)))) (a5 2))))
theorem aR0:iN ab7 ["web","block","chosen"] t6:=by
 rintro Ep xs Q ⟨ws,ls,x,S,rfl,wb,hx,hl,q,qe⟩
 refine⟨_,rfl,_,rfl,ws,ls,x,S,rfl,hx,hl,λhs=>⟨trivial,?_⟩,qe⟩
 have q:=q hs
 refine⟨_,rfl,_,rfl,ws,ls,rfl,wb,_,rfl,ws,ls,_,S,rfl,wb,.inl rfl,hs,_,rfl,.inl ⟨_,_,rfl,rfl⟩,wW 2 _ _,trivial,?_⟩
 show Q (.bl (cS 3 (.tup (intz (stay ws ls S))) (.tup (intz S))))
 rw[wV];exact q
theorem aR1 (ws:af)(S:af):(cB ws.length S).length=cold ws S:=rfl
section
variable {ws:af}{ls:aa}{S:af}
def nE (ws:af)(ls:aa)(S:af):af:=dJ ws ls S S.length
theorem ab8 (ws:af)(ls:aa)(S:af):∀k,stay ws ls (dJ ws ls S k)=dJ ws ls S k∨(dJ ws ls S k).length+k<=S.length
 |0=>.inr (bk7 _)
 |k+1=>by
  rcases ab8 ws ls S k with h|h
  ·left
   show stay ws ls (stay ws ls (dJ ws ls S k))=stay ws ls (dJ ws ls S k)
   rw[h,h]
  ·by_cases e:stay ws ls (dJ ws ls S k)=dJ ws ls S k
   ·left
    show stay ws ls (stay ws ls (dJ ws ls S k))=stay ws ls (dJ ws ls S k)
    rw[e,e]
   ·right
    have:=aP4 e
    show (stay ws ls (dJ ws ls S k)).length+(k+1)<=S.length
    unfold stay at this ⊢
    omega
theorem aR2 (ws:af)(ls:aa)(S:af):stay ws ls (nE ws ls S)=nE ws ls S:=by
 rcases ab8 ws ls S S.length with h|h
 ·exact h
 ·have e:dJ ws ls S S.length = []:=bt8 (by omega)
  unfold nE;rw[e];rfl
theorem ab9 (ws:af)(ls:aa)(S:af):nB ws ls S (nE ws ls S):=aP7 (aR2 ws ls S)
theorem aR3 (hs:bD ws.length S=true):bD ws.length (nE ws ls S)=true:=aa5 hs _
end
def yG (ws:af)(ls:aa)(S:af):Prop:=S≠[]/\stay ws ls S=S/\∀U,stay ws ls U=U->U≠[]->(∀x∈U,x∈S)->∀x∈S,x∈U
theorem aR4 {A B:af}:∀ns:af,(∀y∈ns,y∈A↔y∈B)->eQ ns A=eQ ns B:=λns h=>by
 unfold eQ
 rw[List.filter_congr λx hx=>show decide (x∈A)=decide (x∈B) by rw[decide_eq_decide];exact h x hx]
theorem yH:∀(g:Bool) {x:PV},flat x=true->Nw (Slot.sh g x).tag x
 |true,_,_=>trivial
 |false,_,h=>h
def b6 (hs:af):ae:=hs.foldl (λacc h=>acc++acc.map λp=>p++[h]) [[]]
theorem iO (hs:af)(h:Int):b6 (hs++[h])=b6 hs++(b6 hs).map λp=>p++[h]:=by
 unfold b6;rw[List.foldl_append];rfl
theorem jG (n:Nat):rng (n+1)=rng n++[(n:Int)]:=by
 unfold rng;rw[List.range_succ,bn6];rfl
theorem ac0:∀hs:af,∀k,(b6 (hs.take k)).length=2^min k hs.length:=by
 intro hs k
 induction k with
 |zero=>simp[b6]
 |succ k ih=>
  by_cases h:k<hs.length
  ·have tk:hs.take (k+1)=hs.take k++[hs[k]]:=by rw[bp6,bk5 h];rfl
   rw[tk,iO,bm7,bl5,ih,show min (k+1) hs.length=min k hs.length+1 by omega,Nat.pow_succ]
   omega
  ·rw[bp9 (by omega),show min (k+1) hs.length=min k hs.length by omega,<- ih,bp9 (by omega)]
theorem lK (n:Nat):(b6 (rng n)).length=2^n:=by
 have:=ac0 (rng n) n
 rw[bp9 (by rw[eZ];exact bk7 _),eZ,Nat.min_self]at this
 exact this
theorem nF (n:Nat):∀(p:Nat) (S:af),(b6 (rng n))[p]? = some S->(∀x∈S,0<=x/\x<(n:Int))/\(p=0↔S = [])/\∀h∈S,2^h.toNat<=p/\(b6 (rng n))[p-2^h.toNat]? = some (S.filter λz=>!decide (z=h)):=by
 induction n with
 |zero=>
  intro p S e
  have e0:b6 (rng 0) = [[]]:=rfl
  rw[e0]at e
  cases p with
  |zero=>cases e;exact⟨(λ_ h=>by cases h),⟨λ_=>rfl,λ_=>rfl⟩,(λ_ h=>by cases h)⟩
  |succ p=>cases e
 |succ n ih=>
  intro p S e
  rw[jG,iO]at e
  have ln:=lK n
  rcases bp0 p (2^n) with hp|hp
  ·rw[bp2 (by omega)]at e
   obtain⟨h1,h2,h3⟩:=ih p S e
   refine⟨λx hx=>by have:=h1 x hx;omega,h2,λh hh=>⟨(h3 h hh).1,?_⟩⟩
   rw[jG,iO,bp2 (by rw[ln];exact bA4 (Nat.sub_le _ _) hp)]
   exact (h3 h hh).2
  ·rw[bq0 (by omega),ln,bl4]at e
   cases e2:(b6 (rng n))[p-2^n]? with
   |none=>rw[e2]at e;cases e
   |some T=>
    rw[e2]at e
    have e:T++[(n:Int)]=S:=bn8 e
    subst e
    obtain⟨h1,h2,h3⟩:=ih _ T e2
    have nT:(n:Int)∉T:=λz=>by have:=h1 _ z;omega
    have p0:0<2^n:=Nat.pow_pos (by decide)
    refine⟨λx hx=>?_,⟨λz=>absurd z (by omega),λz=>by simp at z⟩,λh hh=>?_⟩
    ·rcases bn4.mp hx with z|z
     ·have:=h1 x z;omega
     ·rw[bl0.mp z];omega
    ·rcases bn4.mp hh with z|z
     ·have hb:=h1 h z
      obtain⟨a1,a2⟩:=h3 h z
      refine⟨by omega,?_⟩
      rw[jG,iO,bq0 (by omega),ln,bl4,show p-2^h.toNat-2^n=p-2^n-2^h.toNat by omega,a2,bA6]
      have:([(n:Int)]:af).filter (λz=>!decide (z=h)) = [(n:Int)]:=by
       rw[bp7,bl1 (by omega:¬(n:Int)=h)];rfl
      rw[this];rfl
     ·have hn:h=(n:Int):=bl0.mp z
      subst hn
      rw[show ((n:Int)).toNat=n from rfl]
      refine⟨hp,?_⟩
      have lt:p-2^n<2^n:=by
       have:=(bl9.mp e2).1
       omega
      rw[jG,iO,bp2 (by omega),e2,bA6]
      have a1:T.filter (λz=>!decide (z=(n:Int)))=T:=bv7.mpr λx hx=>by
       rw[bl1 (λz:x=(n:Int)=>nT (by rw[<- z];exact hx))];rfl
      have a2:([(n:Int)]:af).filter (λz=>!decide (z=(n:Int))) = []:=by
       rw[bp7,bl6 rfl];rfl
      rw[a1,a2,bo9]
theorem i8 (n:Nat):∀S:af,S∈b6 (rng n)↔S.Sublist (rng n):=by
 induction n with
 |zero=>
  intro S
  show S∈[[]]↔S.Sublist []
  rw[bl0,List.sublist_nil]
 |succ n ih=>
  intro S
  rw[jG,iO,bn4]
  refine⟨λh=>?_,λh=>?_⟩
  ·rcases h with h|h
   ·exact ((ih S).mp h).trans (List.sublist_append_left _ _)
   ·obtain⟨T,hT,rfl⟩:=bn7.mp h
    exact ((ih T).mp hT).append (List.Sublist.refl _)
  ·obtain⟨p1,p2,rfl,s1,s2⟩:=List.sublist_append_iff.mp h
   cases s2 with
   |cons _ s3=>rw[List.sublist_nil.mp s3,bo9];exact .inl ((ih p1).mpr s1)
   |cons_cons _ s3=>rw[List.sublist_nil.mp s3];exact .inr (bn7.mpr ⟨p1,(ih p1).mpr s1,rfl⟩)
theorem aR5 (n:Nat):(b6 (rng n)).Nodup:=by
 induction n with
 |zero=>exact bo1 _ _
 |succ n ih=>
  rw[jG,iO]
  refine by9.mpr ⟨ih,bs8.mpr (ih.imp λz e=>z (List.append_cancel_right e)),λa ha b hb e=>?_⟩
  obtain⟨p1,h1,rfl⟩:=bn7.mp hb
  have:=((i8 n a).mp ha).subset (show (n:Int)∈a by rw[e];simp)
  have:=e8.mp this
  omega
theorem pM {n:Nat}{S:af}:S.Sublist (rng n)↔bD n S=true:=by
 refine⟨λh=>?_,λh=>?_⟩
 ·have up:(rng n).Pairwise (·<·):=by
   unfold rng
   rw[bs8]
   exact bz6.imp λh=>by omega
  have u:dU (n:Int) S:=⟨up.sublist h,λx hx=>e8.mp (h.subset hx),by have:=h.length_le;rw[eZ]at this;omega⟩
  exact u.set
 ·have e:S=(rng n).filter λx=>decide (x∈S):=by
   refine y7 h ?_ λx=>?_
   ·exact aa3 (show bD n (rng n)=true by have:=yA n [];unfold cB at this;rwa [bv7.mpr λx _=>by simp]at this) _
   ·rw[bm0,bm8]
    exact⟨λz=>⟨e8.mpr ((eG h).2 x z),z⟩,λz=>z.2⟩
  rw[e];exact bz5
section
variable {ws:af}{ls:aa}
def HC (ws:af)(ls:aa)(S:af):Prop:=∃U,stay ws ls U=U/\U≠[]/\∀x∈U,x∈S
theorem aR6 {U S:af}(hU:stay ws ls U=U)(h:∀x,x∈S↔x∈U):stay ws ls S=S:=by
 refine bv7.mpr λy hy=>?_
 have:=bv7.mp hU y ((h y).mp hy)
 unfold fB at this ⊢
 rw[aR4 (bB ls y) λz _=>h z]
 exact this
theorem ac1 (S:af):HC ws ls S↔(S≠[]/\stay ws ls S=S)∨∃h∈S,HC ws ls (S.filter λz=>!decide (z=h)):=by
 refine⟨λ⟨U,hU,nU,sub⟩=>?_,λh=>?_⟩
 ·by_cases all:∀x∈S,x∈U
  ·refine .inl ⟨λz=>?_,aR6 hU λx=>⟨all x,sub x⟩⟩
   cases hu:U with
   |nil=>exact nU hu
   |cons u r=>
    have:=sub u (by rw[hu];exact bl7)
    rw[z]at this;cases this
  ·obtain⟨h,hh⟩:=Classical.not_forall.mp all
   have hS:h∈S:=bv5 λz=>hh λy=>absurd y z
   have hU2:h∉U:=λz=>hh λ_=>z
   refine .inr ⟨h,hS,U,hU,nU,λx hx=>bm0.mpr ⟨sub x hx,?_⟩⟩
   rw[bl1 (λz:x=h=>hU2 (by rw[<- z];exact hx))];rfl
 ·rcases h with h|⟨h,hh,U,hU,nU,sub⟩
  ·exact⟨S,h.2,h.1,λ_ z=>z⟩
  ·exact⟨U,hU,nU,λx hx=>(bm0.mp (sub x hx)).1⟩
theorem aR7 (S:af):(HC ws ls S/\¬ ∃h∈S,HC ws ls (S.filter λz=>!decide (z=h)))↔yG ws ls S:=by
 refine⟨λ⟨h1,h2⟩=>?_,λlb=>⟨⟨S,lb.2.1,lb.1,λ_ z=>z⟩,λ⟨h,hh,U,hU,nU,sub⟩=>?_⟩⟩
 ·rcases (ac1 S).mp h1 with z|z
  ·refine⟨z.1,z.2,λU hU nU sub x hx=>bv5 λy=>h2 ⟨x,hx,U,hU,nU,λu hu=>bm0.mpr ⟨sub u hu,?_⟩⟩⟩
   rw[bl1 (λz:u=x=>y (by rw[<- z];exact hu))];rfl
  ·exact absurd z h2
 ·have:=sub h (lb.2.2 U hU nU (λx hx=>(bm0.mp (sub x hx)).1) h hh)
  have:=(bm0.mp this).2
  rw[bl6 rfl]at this;cases this
end
def t7:bK:=λxs Q=>∃x hs,xs = [x]/\cK x hs/\hs.length<=12/\Q (.lst (tups (b6 hs)))
def ac2:aM:=(aN (aY 1 (fM (a7 (iZ a9) a9)))
 (aN (eW (cN (a5 0)) (b8 2)
  (aY 1 (xX (a5 1) (c7 (cN (a5 1)) [none,some 2] (b8 0) dX (Z6 (a5 0) (iZ (a7 (a5 1) a9)))))))
 (j4 1)))
theorem aR8:dC ac2 ["hearths","chosen","hearth"] t7:=by
 rintro xs Q ⟨x,S,rfl,hx,hl,q⟩
 refine⟨by decide,rfl,by show 1<=1000;decide,rfl,trivial,?_⟩
 refine⟨_,rfl,_,hx.seq,kA hx,λi ρ=>∃(y:Option Slot),ρ = [some (.sh (flat x) x),some (.sh true (.lst (tups (b6 (S.take i))))),y],⟨none,rfl⟩,?_,?_⟩
 ·rintro i y ρ hy ⟨y0,rfl⟩
  obtain⟨h,rfl,hi⟩:=fZ hy
  have il:i<S.length:=(bl9.mp hi).1
  have sl:=ac0 S i
  have p8:(b6 (S.take i)).length<=4096:=by
   rw[sl]
   exact bp5 (by1 (by decide) (show min i S.length<=12 by omega)) (by decide)
  have shr:∀p∈b6 (S.take i),p.length<=12:=by
   have gen:∀hs:af,∀p∈b6 hs,p.length<=hs.length:=by
    intro hs
    have:∀(n:Nat) (hs:af),hs.length=n->∀p∈b6 hs,p.length<=hs.length:=by
     intro n
     induction n with
     |zero=>intro hs e p hp;rw[bt8 e]at hp ⊢;rw[bl0.mp (show p∈[[]] from hp)];exact bk7 _
     |succ n ih=>
      intro hs e p hp
      rcases List.eq_nil_or_concat hs with z|⟨l,a,z⟩
      ·rw[z]at e;cases e
      ·have z:hs=l++[a]:=by rw[z];simp
       subst z
       have le:l.length=n:=by simpa using e
       rw[iO]at hp
       rw[bm7,bq6]
       rcases bn4.mp hp with z|z
       ·have:=ih l le p z;omega
       ·obtain⟨r,hr,rfl⟩:=bn7.mp z
        have:=ih l le r hr
        rw[bm7,bq6];omega
    exact this hs.length hs rfl
   intro p hp
   have:=gen _ p hp
   rw[bt6]at this
   omega
  have tk:S.take (i+1)=S.take i++[h]:=by rw[bp6,hi];rfl
  refine jF ?_
  refine⟨_,rfl,_,rfl,_,rfl,(λz=>by cases z),by rw[dI];omega,λj acc=>acc=tups (((b6 (S.take i)).take j).map λp=>p++[h]),rfl,?_,?_⟩
  ·rintro j z acc hz rfl
   obtain⟨p,rfl,hj⟩:=jC hz
   refine⟨_,rfl,_,rfl,by show 1<=1000;decide,rfl,_,_,rfl,rfl,cR _,rfl,?_,trivial,?_⟩
   ·have:=shr p (bn2 hj)
    rw[aW]
    show p.length+1<=16000000
    omega
   ·show tups _++[PV.tup (intz p++intz [h])]=tups (((b6 (S.take i)).take (j+1)).map λp=>p++[h])
    rw[bp6,hj,<- fA]
    unfold tups
    rw[bn6,bn6]
    rfl
  ·rintro acc rfl
   rw[dI,bn9]
   refine⟨_,_,rfl,rfl,jD _,jD _,?_,trivial,some (.sh true (.int h)),?_⟩
   ·rw[dI,dI,bl5];omega
   ·rw[tk,iO]
    unfold tups
    rw[bn6];rfl
 ·rintro ρ ⟨y,rfl⟩
  rw[aW,bn9]
  exact⟨_,rfl,trivial,q⟩
abbrev fC (bs:List Bool):List PV:=bs.map PV.bl
def lM (bs:List Bool)(p:Nat)(S:af):Bool:=S.any λh=>bs.getD (p-2^h.toNat) false
def nG:bK:=λxs Q=>∃(bs:List Bool) (p:Nat) (S:af),xs = [.lst (fC bs),.int p,.tup (intz S)]/\S.length<=1000/\(∀h∈S,0<=h/\h<=12/\2^h.toNat<=p/\p-2^h.toNat<bs.length)/\Q (.bl (lM bs p S))
def ac3:aM:=(bJ (aE sT (a7 (c7 (cN (a5 2)) [none,some 0,some 1] (b8 0) dX (bH (a5 1) (mH (a5 2) (aE9 (qC (.int 1)) (a5 0))))) a9)))
theorem aR9:dC ac3 ["holds","place","some"] nG:=by
 rintro xs Q ⟨bs,p,S,rfl,hl,hb,q⟩
 refine⟨_,rfl,_,rfl,(λ_=>pF S),by rw[aW];omega,λi acc=>acc=fC ((S.take i).map λh=>bs.getD (p-2^h.toNat) false),rfl,?_,?_⟩
 ·rintro i z acc hz rfl
  obtain⟨h,rfl,hh⟩:=fZ hz
  obtain⟨b1,b2,b3,b4⟩:=hb h (bn2 hh)
  have ix:L2.atI (fC bs) ((p:Int)-1*2^h.toNat)=some (.bl (bs.getD (p-2^h.toNat) false)):=by
   have e:((p:Int)-1*2^h.toNat)=((p-2^h.toNat:Nat):Int):=by
    rw[Int.ofNat_sub b3];simp
   rw[e]
   exact iS (by rw[bl4,bl3,bk5 b4];rfl)
  refine⟨_,rfl,_,rfl,_,rfl,_,_,rfl,rfl,⟨b1,by omega,by decide⟩,_,_,rfl,rfl,_,_,_,rfl,rfl,ix,rfl,?_⟩
  dsimp only
  rw[bp6,hh,bn6]
  show _=List.map PV.bl (_++_)
  rw[bn6];rfl
 ·rintro acc rfl
  rw[aW,bn9]
  refine⟨_,rfl,trivial,?_⟩
  have e:(S.map λh=>bs.getD (p-2^h.toNat) false).any id=lM bs p S:=by
   unfold lM;rw[List.any_map];rfl
  rw[e];exact q
def nH:dL:=λEp xs Q=>∃ws ls,xs = [bC ws ls]/\ws.length<=40/\(ws.length<=12->Q (.lst (tups (b6 (rng ws.length)))))/\(12<ws.length->Ep "TooMany")
def ac4 (Ep:Str->Prop):aM:=(aN (cF (aX (jY (aE gL (a7 (a5 0) a9)) (qC (.int 12)))) (nC Ep "TooMany" (a7 (qC (.str "webs of at most 12 hearths are searched through")) a9)) cZ)
 (bJ (aE t7 (a7 (X2 (aE gL (a7 (a5 0) a9))) a9))))
theorem aS0:iN ac4 ["web"] nH:=by
 rintro Ep xs Q ⟨ws,ls,rfl,few,q,qe⟩
 refine⟨_,rfl,ws,ls,rfl,_,_,rfl,rfl,_,rfl,?_⟩
 by_cases h:(12:Int)<(ws.length:Int)
 ·dsimp only
  rw[bl6 h]
  exact bP ⟨by decide,qe (by omega)⟩
 ·dsimp only
  rw[bl1 h]
  refine bG ⟨_,rfl,ws,ls,rfl,_,rfl,by omega,by omega,?_⟩
  rw[Y1]
  exact⟨_,rng ws.length,rfl,.inr rfl,by rw[eZ];omega,trivial,q (by omega)⟩
def nJ:dL:=λEp xs Q=>∃ws ls,xs = [bC ws ls,.lst (tups (b6 (rng ws.length)))]/\Wb ws ls/\ws.length<=12/\∀bs:List Bool,bs.length=2^ws.length->(∀p S,(b6 (rng ws.length))[p]? = some S->(bs.getD p false=true↔HC ws ls S))->Q (.lst (fC bs))
def ac5 (Ep:Str->Prop):aM:=(aN (iI 2 (fM (a7 (qC (.bl false)) a9)))
 (aN (eW (rA (qC (.int 1)) (aE bQ (a7 (a5 1) a9))) (b8 3)
  (jX 2 (wF (aE nG (a7 (a5 2) (a7 (a5 3) (a7 (bH (a5 1) (a5 3)) a9)))) (gN Ep t6 (a7 (a5 0) (a7 (bH (a5 1) (a5 3)) a9))))))
 (j4 2)))
theorem ac6 {ws:af}{ls:aa}{bs:List Bool}{p:Nat}{S:af}(at_:(b6 (rng ws.length))[p]? = some S)(hb:∀q S,q<p->(b6 (rng ws.length))[q]? = some S->(bs.getD q false=true↔HC ws ls S)) :
  lM bs p S=true↔∃h∈S,HC ws ls (S.filter λz=>!decide (z=h)):=by
 obtain⟨h1,h2,h3⟩:=nF _ p S at_
 unfold lM
 rw[List.any_eq_true]
 refine⟨λ⟨h,hh,e⟩=>⟨h,hh,?_⟩,λ⟨h,hh,e⟩=>⟨h,hh,?_⟩⟩
 ·have:=Nat.pow_pos (n:=h.toNat) (show 0<2 by decide)
  exact (hb _ _ (by have:=(h3 h hh).1;omega) (h3 h hh).2).mp e
 ·have:=Nat.pow_pos (n:=h.toNat) (show 0<2 by decide)
  exact (hb _ _ (by have:=(h3 h hh).1;omega) (h3 h hh).2).mpr e
theorem ac7 {n:Nat}{bs:List Bool}{p:Nat}{S:af}(hn:n<=12)(at_:(b6 (rng n))[p]? = some S)(hb:p<=bs.length):S.length<=1000/\∀h∈S,0<=h/\h<=12/\2^h.toNat<=p/\p-2^h.toNat<bs.length:=by
 obtain⟨h1,h2,h3⟩:=nF _ p S at_
 have sl:=((i8 n S).mp (bn2 at_)).length_le
 rw[eZ]at sl
 refine⟨by omega,λh hh=>?_⟩
 have:=Nat.pow_pos (n:=h.toNat) (show 0<2 by decide)
 have a:=(h3 h hh).1
 have b:=h1 h hh
 exact⟨b.1,by omega,a,by omega⟩
theorem aS1:iN ac5 ["web","chosen","holds","place"] nJ:=by
 rintro Ep xs Q ⟨ws,ls,rfl,wb,few,q⟩
 have ln:=lK ws.length
 have l0:0<2^ws.length:=Nat.pow_pos (by decide)
 have l12:2^ws.length<=4096:=bp5 (by1 (by decide) few) (by decide)
 generalize hC:b6 (rng ws.length)=C at ln q
 have cat:∀{p:Nat}{S:af},C[p]? = some S->(b6 (rng ws.length))[p]? = some S:=λ{p S} e=>by rw[hC];exact e
 have tac:∀{p:Nat}{S:af},(b6 (rng ws.length))[p]? = some S->C[p]? = some S:=λ{p S} e=>by rw[<- hC];exact e
 refine⟨by decide,rfl,rfl,rfl,?_⟩
 refine⟨_,rfl,_,_,rfl,rfl,1,(C.length:Int),rfl,by rw[dI],⟨by omega,by omega,by omega,by omega⟩,λi ρ=>∃(bs:List Bool) (y:Option Slot),ρ = [some (.sh (flat (bC ws ls)) (bC ws ls)),some (.sh (flat (.lst (tups C))) (.lst (tups C))),some (.own (.lst (fC bs))),y]/\bs.length=i+1/\∀p S,p<i+1->C[p]? = some S->(bs.getD p false=true↔HC ws ls S),⟨[false],none,rfl,rfl,λp S hp hS=>?_⟩,?_,?_⟩
 ·have e:p=0:=by omega
  subst e
  obtain⟨_,h2,_⟩:=nF _ 0 S (cat hS)
  rw[h2.mp rfl]
  refine⟨λz=>(by cases z),λ⟨U,_,nU,sub⟩=>?_⟩
  cases hu:U with
  |nil=>exact absurd hu nU
  |cons u r=>
   have:=sub u (by rw[hu];exact bl7)
   cases this
 ·rintro i y ρ hy ⟨bs,y0,rfl,bl,hb⟩
  obtain⟨rfl,hi⟩:=i5 hy
  have hp:i+1<C.length:=by omega
  obtain⟨S,hS⟩:∃S,C[i+1]? = some S:=⟨C[i+1],bk5 hp⟩
  have ix:L2.atI (tups C) (1+(i:Int))=some (.tup (intz S)):=by
   have:=iS (xs:=tups C) (j:=i+1) (by unfold tups;rw[bl4,hS];rfl)
   rwa [show (((i+1:Nat)):Int)=1+(i:Int) by omega]at this
  obtain⟨k1,k2⟩:=ac7 (bs:=bs) few (cat hS) (by omega)
  have sub:=(i8 _ S).mp (bn2 (cat hS))
  have sS:=pM.mp sub
  have ne:S≠[]:=λz=>by have:=(nF _ _ S (cat hS)).2.1.mpr z;omega
  have hi2:=ac6 (bs:=bs) (cat hS) λp S hp e=>hb p S hp (tac e)
  have st:=ac1 (ws:=ws) (ls:=ls) S
  refine jF ?_
  have fin:∀v:Bool,(v=true↔HC ws ls S)->∃(bs':List Bool) (y:Option Slot),[some (.sh (flat (bC ws ls)) (bC ws ls)),some (.sh (flat (.lst (tups C))) (.lst (tups C))),some (.own (.lst (fC bs++[.bl v]))),si (1+(i:Int))] = [some (.sh (flat (bC ws ls)) (bC ws ls)),some (.sh (flat (.lst (tups C))) (.lst (tups C))),some (.own (.lst (fC bs'))),y]/\bs'.length=i+1+1/\∀p S,p<i+1+1->C[p]? = some S->(bs'.getD p false=true↔HC ws ls S):=λv hv=>by
   refine⟨bs++[v],si (1+(i:Int)),by rw[show fC (bs++[v])=fC bs++[.bl v] from bn6],by rw[bm7,bl];rfl,λp T hp hT=>?_⟩
   rcases bp0 p (i+1) with z|z
   ·rw[bl3,bp2 (by omega),<- bl3]
    exact hb p T z hT
   ·have e:p=i+1:=by omega
    subst e
    rw[hS]at hT
    cases hT
    rw[bl3,bq0 (by omega),bl,Nat.sub_self]
    exact hv
  refine⟨_,rfl,_,rfl,_,rfl,_,rfl,_,rfl,_,_,_,rfl,rfl,ix,bs,i+1,S,?_,k1,k2,_,rfl,?_⟩
  ·show [PV.lst (fC bs),PV.int (1+(i:Int)),PV.tup (intz S)] = [PV.lst (fC bs),PV.int (((i+1:Nat)):Int),PV.tup (intz S)]
   rw[show (((i+1:Nat)):Int)=1+(i:Int) by omega]
  have bl2:(fC bs).length<16000000:=by show (List.map PV.bl bs).length<_;rw[bl5];omega
  cases hw:lM bs (i+1) S with
  |true=>exact bP ⟨trivial,bl2,fin true ⟨λ_=>st.mpr (.inr (hi2.mp hw)),λ_=>rfl⟩⟩
  |false=>
   refine bG ⟨_,rfl,_,rfl,_,rfl,_,_,_,rfl,rfl,ix,ws,ls,_,S,rfl,wb,.inl rfl,k1,λ_=>⟨trivial,bl2,fin _ ?_⟩,λz=>by rw[sS]at z;cases z⟩
   rw[bm8]
   refine⟨λz=>st.mpr (.inl ⟨ne,z⟩),λz=>?_⟩
   rcases st.mp z with z|z
   ·exact z.2
   ·rw[hi2.mpr z]at hw;cases hw
 ·rintro ρ ⟨bs,y,rfl,bl,hb⟩
  rw[dO]at bl hb
  refine⟨_,rfl,trivial,q bs (by omega) λp S hS=>hb p S ?_ hS⟩
  have:=(bl9.mp hS).1
  omega
open Classical in
noncomputable def gA (ws:af)(ls:aa)(S:af):Bool:=decide (yG ws ls S)
theorem kD {ws:af}{ls:aa}{S:af}:gA ws ls S=true↔yG ws ls S:=by unfold gA;exact @decide_eq_true_iff _ (Classical.propDecidable _)
noncomputable def eR (ws:af)(ls:aa):ae:=(b6 (rng ws.length)).filter (gA ws ls)
def ac8:dL:=λEp xs Q=>∃ws ls,xs = [bC ws ls]/\Wb ws ls/\(ws.length<=12->(eR ws ls).length<64/\∀Z:ae,Z.Perm (eR ws ls)->Z.Pairwise (λu v=>HT.aU v u=false)->Q (.lst (tups Z)))/\(12<ws.length->Ep "TooMany")
theorem ac9 (n:Nat)(a:Int):(List.replicate n [PV.int a]).flatten=intz (List.replicate n a):=by
 induction n with
 |zero=>rfl
 |succ n ih=>rw[bu4,bu4,by5,ih];rfl
section
variable {ws:af}{ls:aa}
def cne (ws:af)(ls:aa)(S:af):Bool:=!decide (S = [])&&decide (stay ws ls S=S)
end
theorem yI {b:Bool}{A B:Prop}(a:A)(c:B):if b=true then A else B:=by
 cases b with
 |true=>exact bP a
 |false=>exact bG c
end Core
namespace PP
open PySem L2
section
variable {X:Cx}{a b:Expr}{ta tb:aD}{pos:Pos}
def ad0 (K:ad):R2:=λx y H Q=>∃p us ns,∃rs:ae,y = .ref p/\H p=some (.lst us)/\aF K (λ_=>True) H x (.tup (intz ns))/\Reps K (λ_=>True) H us (rs.map λr=>PV.tup (intz r))/\Q (.bl (decide (ns∈rs))) H
theorem aS2 {K:ad}{M M':Addr->Prop}{H:Hp}{v:V}{m n:af}(r1:aF K M H v (.tup (intz m)))(r2:aF K M' H v (.tup (intz n))):m=n:=by
 obtain⟨p,us,rfl,h1,q1⟩:=r1.sqT
 obtain⟨p2,ws,e,h2,q2⟩:=r2.sqT
 cases e
 rw[h1]at h2
 cases h2
 have:=(q1.ofInts).symm.trans q2.ofInts
 exact (List.map_inj_right λ_ _ e=>by cases e;rfl).mp this
open Classical in
theorem aS3 (hu:X.A.units+3<cLine):bS X (compareOp .In) (ad0 X.K):=by
 intro pins s σ H x y v u Q I rx ry h
 obtain⟨p,us,ns,rs,rfl,hp,rn,rr,q⟩:=h
 cases ry
 obtain⟨its,r,pl,hz⟩:=I.list (aJ.of (K:=X.K) hp)
 obtain⟨px,ws,rfl,hx,qx⟩:=rn.sqT
 have lr:=r.length
 have lp:=rr.length
 rw[bl5]at lp
 let f:Value->Bool:=λw=>decide (∃v',aP v' w/\aF X.K (λ_=>True) H v' (.tup (intz ns)))
 have key:∀j (w:Value),its[j]? = some w->∃m,rs[j]? = some m/\SeqAt.EqAt X.A.in1 s w v (decide (m=ns))/\(f w=decide (m=ns)):=λj w hw=>by
  have hj:=(bl9.mp hw).1
  have h1:j<us.length:=by omega
  obtain⟨w',hw',rw'⟩:=r.get (bk5 h1)
  rw[hw]at hw'
  cases hw'
  obtain⟨m',hm',rm⟩:=rr.get (bk5 h1)
  rw[bl4]at hm'
  cases hm:rs[j]? with
  |none=>rw[hm]at hm';cases hm'
  |some m=>
   rw[hm]at hm'
   cases hm'
   refine⟨m,hm,?_,?_⟩
   ·have:=x4 I 2 (A:=X.A.in1) (by show X.A.units+1+2<cLine;omega) rm rn rw' rx (by exact wW 1 m ns)
    rw[wV 1]at this
    exact this
   ·have:(∃v',aP v' w/\aF X.K (λ_=>True) H v' (.tup (intz ns)))↔m=ns:=by
     refine⟨λ⟨v',h1',h2'⟩=>?_,λe=>⟨_,rw',by rw[<- e];exact rm⟩⟩
     obtain⟨p1,w1,e1,_,_⟩:=rm.sqT
     obtain⟨p2,w2,e2,_,_⟩:=h2'.sqT
     rw[e1]at rw' rm
     rw[e2]at h1' h2'
     cases rw'
     cases h1'
     exact aS2 rm h2'
    show decide _=decide _
    exact decide_eq_decide.mpr this
 refine SeqAt.in_listAt f pl.isList (λw hw=>?_) ⟨.bl _,H,I,rfl,?_⟩
 ·have hw:w∈its:=by simpa using hw
  obtain⟨j,hj⟩:=List.getElem?_of_mem hw
  obtain⟨m,_,h1,h2⟩:=key j w hj
  rw[h2];exact h1
 ·have:its.toArray.any f=decide (ns∈rs):=by
   rw[show its.toArray.any f=its.any f by simp,bq8,List.any_eq_true,bm8]
   refine⟨λ⟨w,hw,e⟩=>?_,λh=>?_⟩
   ·obtain⟨j,hj⟩:=List.getElem?_of_mem hw
    obtain⟨m,hm,_,h2⟩:=key j w hj
    rw[h2,bm8]at e
    rw[<- e];exact bn2 hm
   ·obtain⟨j,hj⟩:=List.getElem?_of_mem h
    have hl:=(bl9.mp hj).1
    obtain⟨m,hm,_,h2⟩:=key j its[j] (bk5 (by omega))
    rw[hj]at hm
    cases hm
    exact⟨its[j]'(by omega),bs6 _,by rw[h2];exact bl6 rfl⟩
  rw[this]
  exact q
def yJ:PV->Tg->PV->Tg->PK->Prop:=λx _ y _ Q=>∃ns,∃rs:ae,x = .tup (intz ns)/\y = .lst (rs.map λr=>PV.tup (intz r))/\Q (.bl (decide (ns∈rs))) .fr
theorem aS4:eD X yJ (ad0 X.K):=by
 rintro W Hs H u v x y g g' Q Q' s n r1 r2 ⟨ns,rs,rfl,rfl,q⟩ k
 obtain⟨p,us,rfl,_,h,r⟩:=r2.sqL
 exact⟨p,us,ns,rs,rfl,h,r1.same (aA.refl _) (λ_ _=>trivial),r.same (aA.refl _) (λ_ _=>trivial),k _ _ _ .fr (aA.refl _) (.bl _) q⟩
theorem aS5 (hu:X.A.units+3<cLine)(ha:QE X a ta)(hb:QE X b tb)(hm:behindInMarks .In b=false:=by rfl):QE X (.Compare a [.In] [b] pos) (q2 yJ ta tb):=mJ (aS3 hu) aS4 ha hb hm
end
end PP
namespace Core
open PySem L2 PP
def far (ns S:af):Bool:=decide (((S.filter λx=>decide (x∈ns)).length:Int)=0)
theorem aS6 {ws:af}{ls:aa}{S:af}{k:Nat}(hS:bD ws.length S=true):decide (((bA ws ls S k).length:Int)=(ws.length:Int))=decide (cB ws.length (bA ws ls S k) = []):=by
 have len:(bA ws ls S k).length+(cB ws.length (bA ws ls S k)).length<=ws.length:=by
  have h1:=xO ws ls S k
  have h2:=V8 (k8 (eG hS).1) (eG hS).2
  rw[aR1];omega
 rw[bq8,bm8,bm8]
 refine⟨λz=>bt8 (by omega),λz=>?_⟩
 have all:∀x∈rng ws.length,x∈bA ws ls S k:=λx hx=>Decidable.byContradiction λy=>by
  have:=gM.mpr ⟨hx,y⟩
  rw[z]at this;cases this
 have:=(xW ws.length).length_le_of_subset all
 rw[eZ]at this
 omega
def aS7 (ls:aa)(S U:af):Prop:=∀x∈U,∀y∈bB ls x,y∈S->y∈U
noncomputable def aS8 (ls:aa)(S:af)(h:Int):af:=S.filter λx=>@decide (∀U:af,aS7 ls S U->h∈U->x∈U) (Classical.propDecidable _)
section
variable {ws:af}{ls:aa}{S:af}{n:Nat}{h x:Int}
noncomputable def aS9 (ls:aa)(S:af)(h:Int):Bool:=decide ((aS8 ls S h).head? = some h)
noncomputable def aT0 (ls:aa)(S:af):af:=S.filter (aS9 ls S)
end
end Core
namespace PP
open PySem L2
section
variable {X:Cx}{σ:St}{H:Hp}{D:cG}{te:aD}{e:Expr}{pos:Pos}
def aT1 (i:Nat)(tk:aD):aM:=λD ρ=>∃xs,ρ[i]? = some (some (.own (.lst xs)))/\tk ρ λn _=>∃m:Nat,n = .int m/\xs.length<=16000000/\m<xs.length/\D.nx (ρ.set i (some (.own (.lst (xs.eraseIdx m)))))
end
end PP
namespace Core
open PySem L2 PP
def ad1 (ws:af)(ls:aa):af->af->Bool
 |_,[]=>true
 |B,h::R=>inB ws.length h&&(kin ws ls B h&&ad1 ws ls (B++[h]) R)
def sp6:aM:=(cF (aX (jY (a5 7) (qC (.int 5)))) (sZ 4 (a5 6) (bH (fM (a7 (oQ (qC (.int 1))) (a7 (a5 2) (a7 (mH (oQ (qC (.int 1))) (a5 5)) (a7 (cH (a5 2) (a5 5)) a9))))) (c9 (gJ (a5 3) (qC (.int 97))) (qC (.int 4))))) cZ)
def sp5:aM:=(cF (jU (aX (dY (a5 7) (qC (.int 5)))) (aX (jY (a5 2) (qC (.int 0))))) (sZ 4 (a5 6) (c9 (gJ (a5 3) (qC (.int 97))) (a5 2))) sp6)
def sp4:aM:=(cF (jU (aX (dY (a5 7) (qC (.int 4)))) (aX (jY (aE bQ (a7 (a5 1) a9)) (qC (.int 0))))) (sZ 4 (a5 6) (bH (a5 1) (c9 (gJ (a5 3) (qC (.int 97))) (aE bQ (a7 (a5 1) a9))))) sp5)
def sp3:aM:=(cF (jU (aX (dY (a5 7) (qC (.int 3)))) (aX (jY (aE bQ (a7 (a5 4) a9)) (qC (.int 0))))) (sZ 4 (a5 6) (bH (a5 4) (c9 (gJ (a5 3) (qC (.int 97))) (aE bQ (a7 (a5 4) a9))))) sp4)
def yK:aM:=(cF (jU (aX (dY (a5 7) (qC (.int 2)))) (aX (jY (aE bQ (a7 (a5 4) a9)) (qC (.int 0))))) (aT1 4 (c9 (a5 6) (aE bQ (a7 (a5 4) a9)))) sp3)
end Core
namespace Raw
open PySem PySem.W PySem.Calls PyProof.Rows
theorem yL {xs:List Nat}(a:xs.Pairwise (·<·)){i k:Nat}(hk:k<xs.length)(h:i<=k):xs.getD i 0<=xs.getD k 0:=by
 rcases bp0 i k with z|z
 ·have:=bp3.mp a i k (by omega) hk z
  rw[bl3,bl3,bk5 (by omega),bk5 hk]
  exact bu6 this
 ·rw[Nat.le_antisymm h z];exact bk7 _
theorem aT2 {xs:Array Nat}{i j:Nat}(h:i<xs.size):xs.getD i j=xs.toList.getD i 0:=by
 rw[bl3,bu5,bw5,Array.getElem?_eq_getElem h];rfl
theorem yM {xs:Array Nat}{j:Nat}(a:xs.toList.Pairwise (·<·)):∀(fuel lo hi:Nat),lo<=hi->hi<=xs.size->hi-lo<=fuel->(∀i,i<lo->xs.toList.getD i 0<j)->(∀i,hi<=i->i<xs.size->j<=xs.toList.getD i 0)->
  SetTable.below.go xs j fuel lo hi<=xs.size/\(∀i,i<SetTable.below.go xs j fuel lo hi->xs.toList.getD i 0<j)/\∀i,SetTable.below.go xs j fuel lo hi<=i->i<xs.size->j<=xs.toList.getD i 0
 |0,lo,hi,h1,h2,h3,h4,h5=>by
  have e:lo=hi:=by omega
  subst e
  exact⟨h2,h4,h5⟩
 |fuel+1,lo,hi,h1,h2,h3,h4,h5=>by
  have sz:xs.toList.length=xs.size:=bq9
  unfold SetTable.below.go
  by_cases lt:lo<hi
  ·rw[if_pos lt]
   dsimp only
   have m1:lo<=(lo+hi)/2:=by omega
   have m2:(lo+hi)/2<hi:=by omega
   rw[aT2 (by omega)]
   by_cases c:xs.toList.getD ((lo+hi)/2) 0<j
   ·rw[if_pos c]
    exact yM a fuel _ _ (by omega) h2 (by omega) (λi hi'=>bA4 (yL a (by omega) (by omega)) c) h5
   ·rw[if_neg c]
    exact yM a fuel _ _ (by omega) (by omega) (by omega) h4 λi h6 h7=>bp5 (Nat.le_of_not_lt c) (yL a (by omega) h6)
  ·rw[if_neg lt]
   have e:lo=hi:=by omega
   subst e
   exact⟨h2,h4,h5⟩
theorem aT3 {xs:Array Nat}{j:Nat}(a:xs.toList.Pairwise (·<·)):SetTable.below xs j<=xs.size/\(∀i,i<SetTable.below xs j->xs.toList.getD i 0<j)/\∀i,SetTable.below xs j<=i->i<xs.size->j<=xs.toList.getD i 0:=
 yM a xs.size 0 xs.size (bo4 _) (bk7 _) (by omega) (λi h=>absurd h (Nat.not_lt_zero _)) λi h1 h2=>absurd h2 (by omega)
theorem aT4 {α:Type}(xs:Array α)(p:Nat)(x:α):(SetTable.insertAt xs p x).toList=xs.toList.take p++x::xs.toList.drop p:=by
 unfold SetTable.insertAt
 simp
 exact bp9 (by simp)
theorem aT5 {xs:Array Nat}{j:Nat}(a:xs.toList.Pairwise (·<·))(ne:xs[SetTable.below xs j]?≠some j):(SetTable.insertAt xs (SetTable.below xs j) j).toList.Pairwise (·<·):=by
 obtain⟨b1,b2,b3⟩:=aT3 (j:=j) a
 have sz:xs.toList.length=xs.size:=bq9
 rw[aT4]
 refine bp8.mpr ⟨a.sublist (List.take_sublist _ _),List.pairwise_cons.mpr ⟨λx hx=>?_,a.sublist (List.drop_sublist _ _)⟩,λx hx y hy=>?_⟩
 ·obtain⟨i,hi,e⟩:=bv6 hx
  rw[bv3]at hi
  rw[List.getElem_drop]at e
  have h1:=b3 (SetTable.below xs j) (bk7 _) (by omega)
  have h2:=yL a (i:=SetTable.below xs j) (k:=SetTable.below xs j+i) (by omega) (by omega)
  have h3:xs.toList.getD (SetTable.below xs j+i) 0=x:=by rw[bl3,bk5 (by omega),e];rfl
  rcases bp0 j x with z|z
  ·exact z
  ·exfalso
   have h4:xs.toList.getD (SetTable.below xs j) 0=j:=by omega
   rw[bl3,bk5 (by omega)]at h4
   refine ne ?_
   rw[<- bu5,bk5 (by omega)]
   exact congrArg some h4
 ·have hx':x<j:=by
   obtain⟨i,hi,e⟩:=bv6 hx
   rw[bt6]at hi
   rw[List.getElem_take]at e
   have:=b2 i (by omega)
   rw[bl3,bk5 (by omega),e]at this
   exact this
  rcases bl8.mp hy with e|hy
  ·rw[e];exact hx'
  ·obtain⟨i,hi,e⟩:=bv6 hy
   rw[bv3]at hi
   rw[List.getElem_drop]at e
   have:=b3 (SetTable.below xs j+i) (by omega) (by omega)
   rw[bl3,bk5 (by omega),e]at this
   exact bm5 hx' this
structure i9 (b:Bool)(t:SetTable):Prop where
 asc:t.place.toList.Pairwise (·<·)
 dm:t.dummies = #[]
 led:t.led=b
theorem ad2 (j:Nat):SetTable.has #[] j=false:=by
 unfold SetTable.has
 simp
theorem ad3 {t:SetTable}(dm:t.dummies = #[]){h:Int}{j:Nat}{d:Option Nat}:∀(fuel:Nat) (p:SetTable.Probe),p.dummy=none->SetTable.probe.go t (λ_=>h+1) h fuel p=some (.empty j d)->d=none/\t.slot j = .empty
 |0,p,_,e=>by cases e
 |fuel+1,p,hp,e=>by
  unfold SetTable.probe.go at e
  have adv:∀p:SetTable.Probe,p.dummy=none->(t.advance p).dummy=none:=λp hp=>by
   unfold SetTable.advance
   split<;>exact hp
  cases hs:t.slot p.j with
  |empty=>
   rw[hs]at e
   cases e
   exact⟨hp,hs⟩
  |dummy=>
   exfalso
   unfold SetTable.slot at hs
   dsimp only at hs
   rw[dm,ad2]at hs
   split at hs<;>cases hs
  |live i=>
   rw[hs]at e
   dsimp only at e
   rw[if_neg (by simp;omega)]at e
   exact ad3 dm fuel _ (adv p hp) e
theorem aT6 {t:SetTable}(dm:t.dummies = #[]){h:Int}{sl:Nat}{d:Bool}(e:t.freeSlot h=some (sl,d)):t.slot sl = .empty:=by
 unfold SetTable.freeSlot at e
 split at e
 ·rename_i j dummy hm
  obtain⟨e1,e2⟩:=ad3 dm _ _ rfl hm
  subst e1
  cases e
  exact e2
 ·cases e
theorem t8 {b:Bool}{t:SetTable}(h:i9 b t)(n:Nat):i9 b (t.standIn n):=⟨by
 show (Array.range n).toList.Pairwise (·<·)
 rw[Array.toList_range];exact bz6,rfl,h.led⟩
theorem aT7 {b:Bool}{t:SetTable}(h:i9 b t){j:Nat}(hs:t.slot j = .empty):i9 b (t.put j).1:=by
 refine⟨?_,?_,h.led⟩
 ·refine aT5 h.asc λe=>?_
  unfold SetTable.slot at hs
  dsimp only at hs
  rw[if_pos (by rw[e];exact bu2 _)]at hs
  cases hs
 ·show (if SetTable.has t.dummies j then SetTable.eraseAt t.dummies (SetTable.below t.dummies j) else t.dummies) = #[]
  rw[h.dm,ad2];rfl
theorem aT8 {b:Bool}{t:SetTable}(h:i9 b t)(es:Array (Int×Value))(k:Int)(x:Value):i9 b (layNew t es k x).2.1:=by
 unfold layNew
 split
 ·rename_i sl wd e
  have p:=aT7 h (aT6 h.dm e)
  show i9 b (SetTable.orStandIn _ _)
  unfold SetTable.orStandIn
  split
  ·exact p
  ·exact t8 p _
 ·exact t8 h _
theorem aT9 {b:Bool}{t:SetTable}(h:i9 b t)(es:Array (Int×Value))(n:Nat):i9 b (relayAll t es n).2.1:=by
 unfold relayAll
 split
 ·rename_i t' order e
  dsimp only
  split
  ·show i9 b t'
   unfold SetTable.relaid SetTable.laid at e
   cases hc:SetTable.layClean (SetTable.sizeAbove n-1) (es.map (·.1)) with
   |none=>rw[hc]at e;cases e
   |some owner=>
    rw[hc]at e
    cases e
    refine⟨?_,rfl,h.led⟩
    show (List.map _ _).Pairwise (·<·)
    refine bs8.mpr (List.Pairwise.filterMap _ (R:=(·<·)) ?_ bz6)
    intro i i' hlt x hx y hy
    cases ho:owner.getD i none with
    |none=>rw[ho]at hx;cases hx
    |some v=>
     rw[ho]at hx
     cases ho2:owner.getD i' none with
     |none=>rw[ho2]at hy;cases hy
     |some v2=>
      rw[ho2]at hy
      cases hx;cases hy
      exact hlt
  ·exact t8 h _
 ·exact t8 h _
theorem ad4 {us vs:List Value}(p:us.Perm vs):∀{ns:af},IntsAre vs ns->∃ms,IntsAre us ms/\ms.Perm ns:=by
 induction p with
 |nil=>intro ns h;exact⟨ns,h,List.Perm.refl _⟩
 |cons x _ ih=>
  intro ns h
  cases h with
  |cons n t r=>
   obtain⟨ms,h1,h2⟩:=ih r
   exact⟨n::ms,.cons n t h1,h2.cons n⟩
 |swap x y l=>
  intro ns h
  cases h with
  |cons n t r=>
   cases r with
   |cons n' t' r=>
    exact⟨n'::n::_,.cons n' t' (.cons n t r),List.Perm.swap _ _ _⟩
 |trans _ _ ih1 ih2=>
  intro ns h
  obtain⟨ms,h1,h2⟩:=ih2 h
  obtain⟨ms',h3,h4⟩:=ih1 h1
  exact⟨ms',h3,h4.trans h2⟩
theorem ad5:∀{us:List Value}{ns:af},IntsAre us ns->∀(k:Int) (t:Nat),IntsAre (us++[.int k t]) (ns++[k])
 |_,_,.nil,k,t=>.cons k t .nil
 |_,_,.cons n u r,k,t=>.cons n u (ad5 r k t)
theorem t9:∀{us:List Value}{ns:af},IntsAre us ns->∀k:Int,k∈ns↔∃t,Value.int k t∈us
 |_,_,.nil,k=>⟨(λh=>nomatch h),(λ⟨_,h⟩=>nomatch h)⟩
 |_,_,.cons n u r,k=>by
  constructor
  ·intro h
   rcases bl8.mp h with e|h
   ·exact⟨u,by rw[e];exact bl7⟩
   ·obtain⟨t,ht⟩:=(t9 r k).mp h
    exact⟨t,bm1 _ ht⟩
  ·rintro⟨t,h⟩
   rcases bl8.mp h with e|h
   ·cases e;exact bl7
   ·exact bm1 _ ((t9 r k).mpr ⟨t,h⟩)
abbrev pN (es:Array (Int×Value))(ep:Nat)(t:SetTable):Obj:={ cls:=.type "set",dict:=none,data:=.set es ep t,slots:=#[] }
section
variable {prog:Program}{w:World}{A:Around}{E:Value→Shared→Prop}{s:Shared}
def aU0 (prog:Program)(w:World)(es:Array (Int×Value))(t:SetTable)(ms:af):Prop:=ElemsOf (intKind prog w) es.toList/\IntsAre (es.toList.map (·.2)) ms/\es.size<scanBound/\t.fits es.size=true/\i9 (!w.params.followText "set-order") t
def ad6 (prog:Program)(w:World)(h:Heap)(a:Addr)(ms:af):Prop:=∃es ep t,h.get? a=some (pN es ep t)/\aU0 prog w es t ms
theorem ad7 {h:Heap}{a:Addr}{es es':Array (Int×Value)}{ep:Nat}{t t':SetTable}(ho:h.get? a=some (pN es ep t)):(h.update a (Obj.putSet es' t')).get? a=some (pN es' (ep+1) t'):=by
 have:=bx1 (Obj.putSet es' t') ho (by rw[putSet_of es' t' (rfl:(pN es ep t).data=_)];rfl)
 rw[putSet_of es' t' (rfl:(pN es ep t).data=_)]at this
 exact this
theorem add_int {a:Addr}{ms:af}{k:Int}{u:Nat}{Q:Bool->Shared->Prop}(hS:ad6 prog w s.heap a ms)(room:ms.length+1<scanBound)(h:∀b h' ms',Heap.SameBut a s.heap h'->ad6 prog w h' a ms'->(k∈ms->ms'.Perm ms)->(k∉ms->ms'.Perm (ms++[k]))->Q b { s with heap:=h' }) :
  wpAny (model prog w) A (setAddHashed a (.int k u) ((intKind prog w).hash k)) Q E s:=by
 obtain⟨es,ep,t,ho,hel,hi,hb,hf,tk⟩:=hS
 have key:(intKind prog w).is k (.int k u)=true:=intKind_is _ _ _ _
 have ln:ms.length=es.size:=by
  have:=IntsAre.length hi
  rw[bl5,bq9]at this
  exact this.symm
 have isk:∀v,(intKind prog w).is k v=true->∃u,v = .int k u:=λv hv=>Value.isInt_shape hv
 unfold setAddHashed setAddHashedIn
 refine bt1 (bk3 (wpAny_setState_of ho rfl hf ?_))
 dsimp only
 rw[byScan_of (knd:=intKind prog w) (x:=.int k u) rfl hb hel,if_pos rfl]
 unfold setAddByScan
 refine bk3 (bk3 (bz2 ?_))
 refine bk3 (wpAny_setScan_of key ho rfl hf hel ?_)
 cases hr:List.findIdx? (λe=>(intKind prog w).is k e.2) es.toList with
 |some j=>
  dsimp only
  obtain⟨hj,hp,_⟩:=List.findIdx?_eq_some_iff_getElem.mp hr
  have km:k∈ms:=by
   obtain⟨u',e⟩:=isk _ hp
   exact (t9 hi k).mpr ⟨u',by rw[<- e];exact bn7.mpr ⟨_,bs6 hj,rfl⟩⟩
  have e:s={ s with heap:=s.heap }:=by cases s;rfl
  rw[e]
  exact bk8 (bk8 (h _ s.heap ms (Heap.SameBut.refl a s.heap) ⟨es,ep,t,ho,hel,hi,hb,hf,tk⟩ (λ_=>List.Perm.refl _) λn=>absurd km n))
 |none=>
  dsimp only
  have km:k∉ms:=λz=>by
   obtain⟨u',hm⟩:=(t9 hi k).mp z
   obtain⟨e,he,e2⟩:=bn7.mp hm
   have:=List.findIdx?_eq_none_iff.mp hr e he
   rw[e2,intKind_is _ _ _ _]at this;cases this
  have lp:=layNew_perm t es ((intKind prog w).hash k) (.int k u)
  have lf:=layNew_fits t es ((intKind prog w).hash k) (.int k u)
  have lk:=aT8 tk es ((intKind prog w).hash k) (.int k u)
  generalize hL:layNew t es ((intKind prog w).hash k) (.int k u)=L at lp lf lk ⊢
  obtain⟨es1,t1,wd,gave⟩:=L
  dsimp only at lp lf lk ⊢
  rw[Array.toList_push]at lp
  have el1:ElemsOf (intKind prog w) es1.toList:=(hel.push key rfl).perm lp
  have sz1:es1.size=es.size+1:=by rw[<- bq9,lp.length_eq,bm7,bq9];rfl
  obtain⟨ms1,i1,p1⟩:∃ms1,IntsAre (es1.toList.map (·.2)) ms1/\ms1.Perm (ms++[k]):=ad4 (lp.map (·.2)) (by rw[bn6];exact ad5 hi k u)
  have hb1:es1.size<scanBound:=by omega
  have gw:∀(b:Bool) (s₁:Shared) (Q':Unit->Shared->Prop),Q' () s₁->wpAny (model prog w) A (match b with|true=>rule "set.scan.the-table-gave-way" |false=>pure ()) Q' E s₁:=λb s₁ Q' hq=>by
   cases b
   ·exact bk8 hq
   ·exact bz2 hq
  refine bk3 (gw _ _ _ ?_)
  split<;>(
   show wpAny _ _ (storeSet a es1 t1 >>= _) _ _ _
   simp only[↓reduceIte]
   refine bk3 (wpAny_storeSet_of ho rfl ?_ (fits_of_scanBound hb1))
   have ho1:=ad7 (es':=es1) (t':=t1) ho
   have sb1:=bz4 s.heap a (Obj.putSet es1 t1)
   split
   ·have rp:=relayAll_perm t1 es1 (SetTable.grown es1.size)
    have rf:=relayAll_fits t1 es1 (SetTable.grown es1.size)
    have rk:=aT9 lk es1 (SetTable.grown es1.size)
    generalize relayAll t1 es1 (SetTable.grown es1.size)=L at rp rf rk ⊢
    obtain⟨es2,t2,gave2⟩:=L
    dsimp only at rp rf rk ⊢
    have sz2:es2.size=es1.size:=by rw[<- bq9,rp.length_eq,bq9]
    obtain⟨ms2,i2,p2⟩:=ad4 (rp.map (·.2)) i1
    refine bk3 (gw _ _ _ ?_)
    refine bk3 (wpAny_storeSet_of ho1 rfl ?_ (fits_of_scanBound (by omega)))
    exact bk8 (bk8 (h _ _ ms2 (sb1.trans (bz4 _ a _)) ⟨es2,_,t2,ad7 ho1,el1.perm rp,i2,by omega,rf,rk⟩ (λz=>absurd z km) λ_=>p2.trans p1))
   ·exact bk8 (bk8 (h _ _ ms1 sb1 ⟨es1,_,t1,ho1,el1,i1,hb1,lf,lk⟩ (λz=>absurd z km) λ_=>p1)))
end
section
variable {prog:Program}{w:World}{A:Around}{E:Value→Shared→Prop}{s:Shared}{r:Addr}{b:Int}{t u v:Tok}{n:Nat}
theorem aU1 {R:Result->Shared->Prop}(hh:A.handled=none)(hr:IsRange s.heap r 0 b 1 t u v)(sm:Builtin.Range.small 0 b 1=true)(hn:Builtin.Range.rangeSize 0 b 1=n)(hl:n<=2^24)(hR:∀h' tk acc c,(∀b o,b≠s.heap.objs.size->(s.heap.push { cls:=.type "list",data:=.seq ([]:List Value).toArray }).get? b=some o->h'.get? b=some o)->h'.get? s.heap.objs.size=some { cls:=.type "list",dict:=none,data:=.seq acc c,slots:=#[] }->ItemsOf (λi v=>∃t,v = .int (0+i*1) t) acc n->R (.ok (.ret (.ref s.heap.objs.size))) { s with heap:=h',toks:=tk }) :
  codeAny (model prog w) A (.builtin "proto.collect" ⟨[.ref r],[]⟩) R s:=by
 refine codeAny_builtin PySem.F.entry_proto_collect ?_
 rw[bB5 PySem.F.plain_proto_collect _]
 show wpAny _ A.in1 (newList [] >>= λl=>again (.builtin "list.__iadd__" ⟨[l,.ref r],[]⟩)) _ _ s
 refine bk3 (br7 ?_)
 refine bk8 ⟨plainId_quiet PySem.F.plain_list_iadd _,codeAny_builtin PySem.F.entry_list_iadd ?_⟩
 rw[bB5 PySem.F.plain_list_iadd _]
 show wpAny _ A.in1 (Builtin.List.listExtendWith (.ref s.heap.objs.size) (.ref r) (.ref s.heap.objs.size)) _ _ _
 exact wpAny_extend_range (s:={ s with heap:=s.heap.push { cls:=.type "list",data:=.seq ([]:List Value).toArray } }) (R:=R) hh (bk6 _ hr) sm hn hl s.heap.objs.size _ 0 (bm4 _ rfl) hR
theorem aU2 {Q:List Value->Shared->Prop}(hh:A.handled=none)(hr:IsRange s.heap r 0 b 1 t u v)(sm:Builtin.Range.small 0 b 1=true)(hn:Builtin.Range.rangeSize 0 b 1=n)(hl:n<=2^24)(hQ:∀h' tk acc,(∀b o,s.heap.get? b=some o->h'.get? b=some o)->ItemsOf (λi v=>∃t,v = .int (0+i*1) t) acc n->Q acc.toList { s with heap:=h',toks:=tk }):wpAny (model prog w) A (collect (.ref r)) Q E s:=by
 unfold collect
 refine bk3 (wpAny_runValue (aU1 (s:=s) hh hr sm hn hl λh' tk acc c kp at1 it=>?_))
 show wpAny _ A (load s.heap.objs.size >>= _) _ _ _
 refine bk3 (wpAny_load at1 ?_)
 exact bk8 (hQ h' tk acc (λb o e=>kp b o (bo2 (bm3 e)) (bk6 _ e)) it)
theorem aU3 (r:Addr)(b:Int)(t u v:Tok)(n:Nat)(sm:Builtin.Range.small 0 b 1=true)(hn:Builtin.Range.rangeSize 0 b 1=n)(hl:n<=2^24) :
  Meets (Builtin.«tuple.__new__» ⟨[.type "tuple",.ref r],[]⟩) (λA R s=>A.handled=none/\IsRange s.heap r 0 b 1 t u v/\∀(h':Heap) tk (acc:Array Value),(∀b o',s.heap.get? b=some o'->h'.get? b=some o')->ItemsOf (λi v=>∃t,v = .int (0+i*1) t) acc n->R (.ok (.ret (.ref h'.objs.size))) { s with heap:=h'.push { cls:=.type "tuple",data:=.seq acc },toks:=tk }):=
 .of_wp λprog w A R s h=>by
  obtain⟨hp,g,d,tk,os⟩:=s
  obtain⟨hh,ht,h⟩:=h
  have hsub:=sub_tuple_self
  have hinit:=init_tuple_lookup
  have hmh:=madeHere_tuple
  have hT:Shared.TypeIs ⟨hp,g,d,tk,os⟩ (.ref r) "range":=⟨_,ht,rfl⟩
  unfold Builtin.«tuple.__new__»
  generalize pi:collect=CC
  wp_walk using bB0 ht,wpAny_typeOf hT
  subst pi
  refine aU2 (s:=⟨hp,g,d,tk,os⟩) hh ht sm hn hl λh' tk' acc kp it=>?_
  refine bk3 (bk8 ?_)
  show wpAny _ _ (Builtin.Tuple.tupleExact acc.toList.toArray >>= λv=>ret v) _ _ _
  unfold Builtin.Tuple.tupleExact
  refine bk3 (br7 ?_ (by show acc.toList.toArray.size<=sizeLine;rw[bk9,bq9,it.1,sizeLine_eq];omega))
  refine bk8 ⟨_,rfl,?_⟩
  have e:acc.toList.toArray=acc:=by simp
  rw[e]
  exact h h' tk' acc kp it
theorem aU4 {Q:Value->Shared->Prop}(hh:A.handled=none)(hr:IsRange s.heap r 0 b 1 t u v)(sm:Builtin.Range.small 0 b 1=true)(hn:Builtin.Range.rangeSize 0 b 1=n)(hl:n<=2^24)(h:∀(h':Heap) tk (acc:Array Value),(∀b o',s.heap.get? b=some o'->h'.get? b=some o')->ItemsOf (λi v=>∃t,v = .int (0+i*1) t) acc n->Q (.ref h'.objs.size) { s with heap:=h'.push { cls:=.type "tuple",data:=.seq acc },toks:=tk }) :
  wpAny (model prog w) A (call (.type "tuple") [.ref r]) Q E s:=
 callType_new F.called_tuple (by decide) (F.typeCall_tuple_1 _) (F.newCall_tuple_1 _) (λobj=>F.args_object_init_2 obj _) F.entry_tuple_new (aU3 r b t u v n sm hn hl) ⟨by simp[hh],hr,λh' tk acc hk it=>⟨⟨_,bm4 _ rfl,rfl⟩,h h' tk acc hk it⟩⟩
end
end Raw
namespace PP
open PySem L2
section
variable {X:Cx}{a b:Expr}{ta tb:aD}{pos pos2 p2 p3:Pos}
abbrev aU5 (ta tb:aD):aD:=q2 (eF λi j=>.int (Builtin.bitAnd i j)) ta tb
theorem aU6 (ha:QE X a ta)(hb:QE X b tb):QE X (.BinOp a .BitAnd b pos) (q2 (eF λi j=>.int (Builtin.bitAnd i j)) ta tb):=fY aq3 wE ha hb
theorem aU7 (hc:X.calm=true):cP X (.type "tuple") (λxs H Q=>∃r j,xs = [.ref r]/\H r=some (.rng 0 j)/\0<=j/\j<=1000000/\∀l,H l=none->Q (.ref l) (upd H l (.tup (gH 0 j.toNat)))):=by
 intro pins s σ H xs us Q I r h
 obtain⟨p,j,rfl,hq,h0,h1,q⟩:=h
 obtain⟨u,rfl,rx⟩:=fU r
 cases rx
 obtain⟨t,u,v,ho⟩:=(show bM X.prog X.w H s.heap p (.rng 0 j) from I.hok p _ hq)
 refine Raw.aU4 (b:=j) (n:=j.toNat) (I.ok.hd hc) ho (small_one (by decide) (by decide) (by omega) (by omega)) (by rw[rangeSize_one];split<;>omega) (by omega) λh' tk acc kp it=>?_
 have vv:=X6 it
 have eq:acc.toList.toArray=acc:=by simp
 have I1:a6 X pins σ H { s with heap:=h',toks:=tk }:=I.kept (t':=tk) kp
 have I2:a6 X pins σ (upd H h'.objs.size (.tup (gH 0 j.toNat))) { s with heap:=h'.push { cls:=.type "tuple",data:=.seq acc.toList.toArray },toks:=tk }:=
  I1.laid (t':=tk) (λb o e=>bk6 _ e) (bk7 _) (show bM X.prog X.w _ _ _ (.tup _) from ⟨by rw[qL];exact lim (by omega),acc.toList,vv,PyProof.Rows.IsTup.new _ _,gO.new _ _ rfl⟩)
 rw[eq]at I2
 exact⟨.ref h'.objs.size,_,I2,rfl,q _ (I1.hok.fresh (bk7 _))⟩
def yN (te:aD):aD:=λρ Q=>te ρ λx _=>∃n:Int,x = .int n/\0<=n/\n<=1000000/\Q (.tup (dD 0 n.toNat)) .fr
theorem ad8 (B:Bt X.mg)(ha:QE X a ta)(hc:X.calm=true:=by rfl)(hg:Gl X "tuple":=by rfl)(hgr:Gl X "range":=by rfl)(hs:starEach [a] X.env = [(false,eval a X.env)]:=by rfl)(he:starEach [.Call (.Name "range" p3) [a] [] pos2] X.env=(false,eval (.Call (.Name "range" p3) [a] [] pos2) X.env)::starEach [] X.env:=by rfl)(hpl:(backTo pos (starEach [] X.env)).any (·.1)=false:=by rfl) :
  QE X (.Call (.Name "tuple" p2) [.Call (.Name "range" p3) [a] [] pos2] [] pos) (yN ta):=
 cD (uV (aU7 hc) hg B.tuple PyProof.Rows.boot_tuple (cW (X4 hgr B.range (cW ha dH hs) hs) dH he) (he:=he) (hpl:=hpl)) λσ H Q' h=>by
  obtain⟨W,ρ,Q,px,q,k⟩:=h
  refine⟨W,ρ,_,px,q,?_⟩
  rintro v H1 x g s r ⟨n,rfl,h0,h1,q⟩
  cases r
  refine⟨n,rfl,λr hr=>⟨r,n,rfl,aT,h0,h1,λl hl=>?_⟩⟩
  have S:aA H (upd (upd H1 r (.rng 0 n)) l (.tup (gH 0 n.toNat))):=(s.trans (aZ hr _)).trans (aZ hl _)
  exact k _ _ _ .fr S (.tup aT (X7 0 n.toNat)) q
end
end PP
namespace Core
open PySem L2 PP
section
variable {ws:af}{ls:aa}{A T:af}{m:Nat}
theorem aU8:∀m,∀y∈A,y∈bA ws ls A m:=λm y hy=>by
 induction m with
 |zero=>exact hy
 |succ m ih=>exact bt7 _ ih
theorem aU9 (en:cG ws ls A m):fQ ws ls (bA ws ls A m):=λh hh=>by
 have:=bz7.mp (show (rng ws.length).filter (kin ws ls (bA ws ls A m)) = [] from en.2) h hh
 simpa using this
end
def jH:bK:=λxs Q=>∃a k:Int,xs = [.int a,.int k]/\0<=k/\k<=1000/\∀z,0<=z->Q (.int z)
def ad9:aM:=(aN (aY 2 (c9 (cH (cH (cH (c9 (a5 0) (qC (.int 2147483647))) (oU (oU (qC (.int 69621)) (a5 1)) (a5 1))) (oU (qC (.int 40692)) (a5 1))) (qC (.int 1))) (qC (.int 2147483647))))
 (aN (aY 2 (c9 (oU (a5 2) (qC (.int 48271))) (qC (.int 2147483647))))
 (bJ (c9 (oU (a5 2) (a5 2)) (qC (.int 2147483647))))))
theorem aV0:dC ad9 ["number","k","turn"] jH:=by
 rintro xs Q ⟨a,k,rfl,k0,k1,q⟩
 have big:(0:Int)<2147483647:=by decide
 refine⟨_,rfl,_,_,rfl,rfl,big,_,rfl,_,_,rfl,rfl,.inl ⟨by decide,by decide⟩,_,rfl,_,_,rfl,rfl,.inr ⟨by show -(2^64)<k;omega,by show k<2^64;omega⟩,_,_,rfl,rfl,_,rfl,_,_,rfl,rfl,.inl ⟨by decide,by decide⟩,_,_,rfl,rfl,_,_,rfl,rfl,_,_,rfl,rfl,big,trivial,?_⟩
 refine⟨_,rfl,_,_,rfl,rfl,.inr ⟨by decide,by decide⟩,_,_,rfl,rfl,big,trivial,?_⟩
 dsimp only
 have t0:0<=(a%2147483647+69621*k*k+40692*k+1)%2147483647*48271%2147483647:=bv1 _ (by decide)
 have t1:(a%2147483647+69621*k*k+40692*k+1)%2147483647*48271%2147483647<2147483647:=Int.emod_lt_of_pos _ (by decide)
 generalize (a%2147483647+69621*k*k+40692*k+1)%2147483647*48271%2147483647=t at t0 t1
 exact⟨_,rfl,_,rfl,_,_,rfl,rfl,.inl ⟨by show -(2^64)<t;omega,by show t<2^64;omega⟩,_,_,rfl,rfl,big,trivial,q _ (bv1 _ (by decide))⟩
def tD:bK:=λxs Q=>∃(ns:af) (most:Int),xs = [.scr ns,.int most]/\0<=most/\∀z,0<=z->z<=most->Q (.int z)
def ae0:aM:=(aN (aY 2 (aE i6 (a7 (a5 0) (a7 (qC (.int 0)) a9))))
 (aN (cF (aX (dY (c9 (a5 2) (qC (.int 3))) (qC (.int 0)))) (bJ (aE r9 (a7 (a5 1) (a7 (aE wN (a7 (qC (.int 0)) (a7 (mH (aE bQ (a7 (a5 0) a9)) (qC (.int 4))) a9))) a9)))) cZ)
 (aN (cF (aX (dY (c9 (a5 2) (qC (.int 8))) (qC (.int 1)))) (bJ (c9 (cH (gJ (a5 2) (qC (.int 24))) (qC (.int 5))) (cH (a5 1) (qC (.int 1))))) cZ)
 (bJ (c9 (cH (gJ (a5 2) (qC (.int 3))) (qC (.int 2))) (cH (aE r9 (a7 (qC (.int 6)) (a7 (a5 1) a9))) (qC (.int 1))))))))
theorem aV1:dC ae0 ["script","most","number"] tD:=by
 rintro xs Q ⟨ns,most,rfl,hm,q⟩
 refine⟨_,rfl,_,ns,0,rfl,.inl rfl,by decide,trivial,?_⟩
 generalize ns.getD (0:Int).toNat 0=c
 refine⟨_,rfl,_,_,rfl,rfl,(by show (0:Int)<3;decide),.inl ⟨_,_,rfl,rfl,_,rfl,yI ?_ ?_⟩⟩
 ·refine⟨_,rfl,_,rfl,_,_,rfl,rfl,_,_,rfl,rfl,_,_,rfl,_,_,rfl,trivial,q _ ?_ ?_⟩<;>split<;>split<;>omega
 refine⟨_,rfl,_,_,rfl,rfl,(by show (0:Int)<8;decide),.inl ⟨_,_,rfl,rfl,_,rfl,yI ?_ ?_⟩⟩
 ·have hp:0<most+1:=by omega
  refine⟨_,rfl,_,_,rfl,rfl,⟨by decide,by decide⟩,_,_,rfl,rfl,_,rfl,_,_,rfl,rfl,_,_,rfl,rfl,hp,trivial,q _ (bv1 _ (by omega)) ?_⟩
  have:=Int.emod_lt_of_pos (c/24+5) hp
  omega
 ·have hp:0<(if most<6 then most else 6)+1:=by split<;>omega
  refine⟨_,rfl,_,_,rfl,rfl,⟨by decide,by decide⟩,_,_,rfl,rfl,_,rfl,_,_,rfl,_,_,rfl,rfl,_,_,rfl,rfl,hp,trivial,q _ (bv1 _ (by omega)) ?_⟩
  have:=Int.emod_lt_of_pos (c/3+2) hp
  have hm:(if most<6 then most else 6)<=most:=by split<;>omega
  omega
def ae1 (mx:Int):bK:=λxs Q=>∃(ns:af) (most:Int),xs = [.scr ns,.int most]/\ns.length<=63/\0<=most/\most<=mx/\∀n ws ls,0<=n->n<=most->WL n ws ls->Q (bC ws ls)
def ae2 (R:List PV->(PV->Prop)->Prop):aM:=(aN (aY 13 (c7 (gX (a5 2)) [none,some 5,some 8] (b8 0) dX (c9 (bH (a5 1) (a5 0)) (cH (bH (a5 2) (a5 0)) (qC (.int 2))))))
 (bJ (iZ (a7 (aE j7 (a7 (a5 13) a9)) (a7 (aE j7 (a7 (aE R (a7 (a5 7) a9)) a9)) a9)))))
def ae3:aM:=(aN (aY 12 (a5 10))
   (aN (aY 10 (gJ (a5 10) (a5 3)))
   (aN (cF (jV (aX (a5 4))) (aY 12 (aE jH (a7 (bH (a5 5) (a5 9)) (a7 (cH (a5 11) (qC (.int 60))) a9)))) cZ)
   (cF (aX (dY (c9 (a5 12) (a5 3)) (qC (.int 1)))) (aN (jX 7 (iZ (a7 (a5 11) (a7 (a5 9) a9))))
    (aN (l4 8 (a5 11) (cH (bH (a5 8) (a5 11)) (qC (.int 1))))
    (l4 8 (a5 9) (cH (bH (a5 8) (a5 9)) (qC (.int 1)))))) cZ))))
def yO (R:List PV->(PV->Prop)->Prop):aM:=(aN (eW (gX (a5 2)) (b8 9)
  (aN (aY 10 (gJ (bH (a5 5) (a5 9)) (qC (.int 64))))
  (eW (gX (a5 9)) (b8 11) ae3)))
 (ae2 R))
def ae4 (R:List PV->(PV->Prop)->Prop):aM:=(aN (aY 2 (aE tD (a7 (a5 0) (a7 (a5 1) a9))))
 (aN (aY 3 (cH (qC (.int 2)) (c9 (aE i6 (a7 (a5 0) (a7 (qC (.int 1)) a9))) (qC (.int 4)))))
 (aN (aY 4 (dY (c9 (gJ (aE i6 (a7 (a5 0) (a7 (qC (.int 1)) a9))) (qC (.int 8))) (qC (.int 2))) (qC (.int 1))))
 (aN (iI 5 (wY (a5 0) (oT (qC (.int 4))) (oT (cH (qC (.int 4)) (a5 2)))))
 (aN (eW (rA (aE bQ (a7 (a5 5) a9)) (a5 2)) (b8 6)
  (jX 5 (aE jH (a7 (aE i6 (a7 (a5 0) (a7 (qC (.int 1)) a9))) (a7 (a5 6) a9)))))
 (aN (iI 7 (fM a9))
 (aN (iI 8 (Z4 (fM (a7 (qC (.int 0)) a9)) (a5 2)))
 (yO R))))))))
structure LK (i j:Nat)(ls:aa):Prop where
 inn:∀l∈ls,0<=l.1/\l.1<l.2/\(l.2<(i:Int)∨(l.2=(i:Int)/\l.1<(j:Int)))
 nd:ls.Nodup
 few:ls.length<=40*i+j
theorem LK.same {i j:Nat}{ls:aa}(h:LK i j ls):LK i (j+1) ls:=
 ⟨λl hl=>by have:=h.inn l hl;omega,h.nd,by have:=h.few;omega⟩
theorem LK.app {i j:Nat}{ls:aa}(h:LK i j ls)(hj:j<i):LK i (j+1) (ls++[((j:Int),(i:Int))]):=by
 refine⟨λl hl=>?_,by9.mpr ⟨h.nd,bo1 _ _,λa ha b hb e=>?_⟩,by rw[bm7,bq6];have:=h.few;omega⟩
 ·rcases bn4.mp hl with z|z
  ·have:=h.inn l z;omega
  ·rw[bl0.mp z];dsimp only;omega
 ·rw[bl0.mp hb]at e
  subst e
  have:=h.inn _ ha
  dsimp only at this
  omega
theorem LK.next {i:Nat}{ls:aa}(h:LK i i ls)(hi:i<=40):LK (i+1) 0 ls:=
 ⟨λl hl=>by have:=h.inn l hl;omega,h.nd,by have:=h.few;omega⟩
theorem nK {ws:af}{j:Nat}(h:j<ws.length):L2.atI (intz ws) (j:Int)=some (.int (ws.getD j 0)):=by
 have gw:ws[j]? = some (ws.getD j 0):=by rw[bl3,bk5 h];rfl
 exact iS (by rw[bl4,gw];rfl)
theorem yP {ws:af}(h:NN ws)(j:Nat):0<=ws.getD j 0:=by
 rw[bl3]
 cases hj:ws[j]? with
 |none=>exact bv9 0
 |some w=>exact h w (bn2 hj)
theorem vZ (ns:af)(lo hi:Option Int):∃zs:af,j6 (intz ns) lo hi=intz zs/\zs.length<=ns.length:=by
 refine⟨(ns.drop (HT.aS (intz ns).length 0 lo)).take (HT.aS (intz ns).length (intz ns).length hi-HT.aS (intz ns).length 0 lo),?_,?_⟩
 ·unfold j6 intz;rw[List.map_take,List.map_drop]
 ·rw[bt6,bv3];omega
def tE (R:List PV->(PV->Prop)->Prop)(m:Nat):Prop:=∀(ls:aa) (Q:PV->Prop),ls.length<=40*m->(∀ls':aa,ls'.Perm ls->(ls'.map two).Pairwise (λu v=>HT.aU v u=false)->Q (.lst (fP ls')))->(∀l∈ls,0<=l.1/\l.1<l.2/\l.2<(m:Int))->ls.Nodup->R [.lst (fP ls)] Q
theorem aV2 {m:Nat}{sp:Int}{dg:Bool}{cs cts:af}{lks:aa}{i j:Nat}{nb:Int}{s0 s1 y6 y12 y13:Option Slot}{D:b7->Prop}{Q:PV->Prop}{ct bk:b7->Prop}(yK:2<=sp/\sp<=5)(hc:m<=cs.length)(hi:i<m)(hj:j<i)(m40:m<=40)(lk:LK i j lks)(cl:cts.length=m)(nn:NN cts)(k:∀(nb dr:Int) (lks':aa) (cts':af),LK i (j+1) lks'->cts'.length=m->NN cts'->D [s0,s1,si m,si sp,some (.sh true (.bl dg)),some (.own (.lst (intz cs))),y6,some (.own (.lst (fP lks'))),some (.own (.lst (intz cts'))),si i,si nb,si j,si dr,y13]) :
  ae3 { nx:=D,rt:=Q,ct:=ct,bk:=bk } [s0,s1,si m,si sp,some (.sh true (.bl dg)),some (.own (.lst (intz cs))),y6,some (.own (.lst (fP lks))),some (.own (.lst (intz cts))),si i,si nb,si j,y12,y13]:=by
 refine⟨_,rfl,trivial,?_⟩
 refine⟨_,rfl,_,rfl,_,_,rfl,rfl,⟨by omega,by omega⟩,trivial,?_⟩
 dsimp only
 generalize nb/sp=nb2
 have fin:∀dr:Int,(cF (aX (dY (c9 (a5 12) (a5 3)) (qC (.int 1)))) (aN (jX 7 (iZ (a7 (a5 11) (a7 (a5 9) a9))))
    (aN (l4 8 (a5 11) (cH (bH (a5 8) (a5 11)) (qC (.int 1))))
    (l4 8 (a5 9) (cH (bH (a5 8) (a5 9)) (qC (.int 1)))))) cZ) { nx:=D,rt:=Q,ct:=ct,bk:=bk } [s0,s1,si m,si sp,some (.sh true (.bl dg)),some (.own (.lst (intz cs))),y6,some (.own (.lst (fP lks))),some (.own (.lst (intz cts))),si i,si nb2,si j,si dr,y13]:=λdr=>by
  refine⟨_,rfl,_,rfl,_,_,rfl,rfl,by show 0<sp;omega,.inl ⟨_,_,rfl,rfl,_,rfl,yI ?_ (k nb2 dr lks cts lk.same cl nn)⟩⟩
  have pl:(fP lks).length=lks.length:=bl5 _
  have fw:=lk.few
  refine⟨_,rfl,_,rfl,_,rfl,by show 2<=1000;decide,rfl,trivial,by rw[pl];omega,?_⟩
  have a1:=nK (ws:=cts) (j:=j) (by omega)
  refine⟨_,rfl,_,rfl,_,_,_,rfl,rfl,a1,_,_,rfl,rfl,_,rfl,_,rfl,j,j,rfl,?_,trivial,?_⟩
  ·rw[aW];unfold gF;rw[if_pos (by omega),if_pos (by omega)];rfl
  have e1:(intz cts).set j (.int (cts.getD j 0+1))=intz (cts.set j (cts.getD j 0+1)):=(List.map_set ..).symm
  have n1:NN (cts.set j (cts.getD j 0+1)):=nn.set (by have:=yP nn j;omega) _
  dsimp only
  rw[e1]
  have l1:(cts.set j (cts.getD j 0+1)).length=m:=by rw[br8];exact cl
  generalize cts.set j (cts.getD j 0+1)=ct2 at n1 l1
  have a2:=nK (ws:=ct2) (j:=i) (by omega)
  refine⟨_,rfl,_,rfl,_,_,_,rfl,rfl,a2,_,_,rfl,rfl,_,rfl,_,rfl,i,i,rfl,?_,trivial,?_⟩
  ·rw[aW];unfold gF;rw[if_pos (by omega),if_pos (by omega)];rfl
  have e2:(intz ct2).set i (.int (ct2.getD i 0+1))=intz (ct2.set i (ct2.getD i 0+1)):=(List.map_set ..).symm
  have n2:NN (ct2.set i (ct2.getD i 0+1)):=n1.set (by have:=yP n1 i;omega) _
  dsimp only
  rw[e2]
  have:=k nb2 dr (lks++[((j:Int),(i:Int))]) (ct2.set i (ct2.getD i 0+1)) (lk.app hj) (by rw[br8];exact l1) n2
  unfold fP at this ⊢
  rw[bn6]at this
  exact this
 refine⟨_,rfl,_,rfl,?_⟩
 cases dg with
 |true=>exact bG (fin nb)
 |false=>
  have a0:=nK (ws:=cs) (j:=i) (by omega)
  exact bP ⟨_,rfl,_,rfl,_,_,_,rfl,rfl,a0,_,rfl,_,_,rfl,rfl,_,_,rfl,by omega,by omega,λz _=>⟨trivial,fin z⟩⟩
theorem aV3 {R:List PV->(PV->Prop)->Prop}{m:Nat}{cs cts:af}{lks:aa}{s0 s1 y3 y4 y6 y9 y10 y11 y12:Option Slot}{Q:PV->Prop}(hR:tE R m)(hc:m<=cs.length)(m40:m<=40)(lk:LK m 0 lks)(cl:cts.length=m)(nn:NN cts)(q:∀ws ls,WL m ws ls->Q (bC ws ls)) :
  ae2 R { nx:=λ_=>Q .non,rt:=Q } [s0,s1,si m,y3,y4,some (.own (.lst (intz cs))),y6,some (.own (.lst (fP lks))),some (.own (.lst (intz cts))),y9,y10,y11,y12,none]:=by
 refine⟨_,rfl,m,rfl,by omega,by omega,by rw[dO];omega,λi acc=>∃zs:af,acc=intz zs/\zs.length=i/\NN zs,⟨[],rfl,rfl,λz hz=>by cases hz⟩,?_,?_⟩
 ·rintro i y acc hy ⟨zs,rfl,zl,zn⟩
  obtain⟨rfl,hi⟩:=i5 hy
  have hi:i<m:=by omega
  refine jF ?_
  rw[bx7]
  have a1:=nK (ws:=cs) (j:=i) (by omega)
  have a2:=nK (ws:=cts) (j:=i) (by omega)
  have p1:=yP nn i
  refine⟨_,rfl,_,rfl,_,_,_,rfl,rfl,a1,_,rfl,_,rfl,_,_,_,rfl,rfl,a2,_,_,rfl,rfl,_,_,rfl,rfl,by show 0<cts.getD i 0+2;omega,trivial,zs++[cs.getD i 0%(cts.getD i 0+2)],by rw[fA];rfl,by rw[bm7,zl];rfl,zn.app (bv1 _ (by omega))⟩
 rintro acc ⟨ws,rfl,wl,wn⟩
 rw[dO,bp1]at wl
 refine⟨trivial,?_⟩
 have fp:∀ls:aa,flats (fP ls)=true:=V9
 have inn:∀l∈lks,0<=l.1/\l.1<l.2/\l.2<(m:Int):=λl hl=>by have:=lk.inn l hl;omega
 refine⟨_,rfl,⟨_,_,rfl,rfl,cR _,?_⟩,(λns e=>by cases e)⟩
 refine⟨_,rfl,hR lks _ (by have:=lk.few;omega) (λls' pl so=>?_) inn lk.nd⟩
 refine⟨⟨_,_,rfl,rfl,fp _,by show 2<=1000;decide,?_,trivial,?_⟩,(λns e=>by cases e)⟩
 ·show (flats (intz ws)&&(flats (fP ls')&&true))=true
  rw[cR,fp];rfl
 ·exact q ws ls' (WL.perm (by omega) inn (by have:=lk.few;omega) lk.nd wn pl so)
theorem aV4 {R:List PV->(PV->Prop)->Prop}{m:Nat}{sp:Int}{dg:Bool}{cs cts:af}{s0 s1 y6:Option Slot}{Q:PV->Prop}(hR:tE R m)(yK:2<=sp/\sp<=5)(hc:m<=cs.length)(m40:m<=40)(cl:cts.length=m)(nn:NN cts)(q:∀ws ls,WL m ws ls->Q (bC ws ls)) :
  yO R { nx:=λ_=>Q .non,rt:=Q } [s0,s1,si m,si sp,some (.sh true (.bl dg)),some (.own (.lst (intz cs))),y6,some (.own (.lst [])),some (.own (.lst (intz cts))),none,none,none,none,none]:=by
 refine⟨_,rfl,m,rfl,by omega,by omega,λi ρ=>∃(lks:aa) (cts:af) (y9 y10 y11 y12:Option Slot),ρ = [s0,s1,si m,si sp,some (.sh true (.bl dg)),some (.own (.lst (intz cs))),y6,some (.own (.lst (fP lks))),some (.own (.lst (intz cts))),y9,y10,y11,y12,none]/\LK i 0 lks/\cts.length=m/\NN cts,⟨[],cts,none,none,none,none,rfl,⟨(λl hl=>by cases hl),bv8,bo4 _⟩,cl,nn⟩,?_,?_⟩
 ·rintro i y ρ hy ⟨lks,cts,y9,y10,y11,y12,rfl,lk,cl,nn⟩
  obtain⟨rfl,hi⟩:=i5 hy
  have hi:i<m:=by omega
  refine jF ?_
  rw[bx7]
  have a1:=nK (ws:=cs) (j:=i) (by omega)
  refine⟨_,rfl,_,rfl,_,_,_,rfl,rfl,a1,_,_,rfl,rfl,⟨by decide,by decide⟩,trivial,?_⟩
  dsimp only
  generalize cs.getD i 0/64=nb
  refine⟨_,rfl,i,rfl,by omega,by omega,λj ρ=>∃(nb:Int) (lks:aa) (cts:af) (y11 y12:Option Slot),ρ = [s0,s1,si m,si sp,some (.sh true (.bl dg)),some (.own (.lst (intz cs))),y6,some (.own (.lst (fP lks))),some (.own (.lst (intz cts))),si i,si nb,y11,y12,none]/\LK i j lks/\cts.length=m/\NN cts,⟨nb,lks,cts,y11,y12,rfl,lk,cl,nn⟩,?_,?_⟩
  ·rintro j y ρ hy ⟨nb,lks,cts,y11,y12,rfl,lk,cl,nn⟩
   obtain⟨rfl,hj⟩:=i5 hy
   have hj:j<i:=by omega
   refine jF ?_
   rw[bx7]
   exact aV2 yK hc hi hj m40 lk cl nn λnb dr lks' cts' h1 h2 h3=>⟨nb,lks',cts',si j,si dr,rfl,h1,h2,h3⟩
  ·rintro ρ ⟨nb,lks,cts,y11,y12,rfl,lk,cl,nn⟩
   rw[dO,bp1]at lk
   exact⟨lks,cts,si i,si nb,y11,y12,rfl,lk.next (by omega),cl,nn⟩
 ·rintro ρ ⟨lks,cts,y9,y10,y11,y12,rfl,lk,cl,nn⟩
  rw[dO,bp1]at lk
  exact aV3 hR hc m40 lk cl nn q
theorem aV5 {R:List PV->(PV->Prop)->Prop}{mx:Int}(mx40:mx<=40)(hR:∀m:Nat,(m:Int)<=mx->tE R m):dC (ae4 R) ["script","most","many","sparse","digits","cells","k","links","counts","other","number","one","draw","wants"] (ae1 mx):=by
 rintro xs Q ⟨ns,most,rfl,hl,h0,h1,q⟩
 refine⟨_,rfl,_,rfl,ns,most,rfl,h0,λz z0 z1=>⟨trivial,?_⟩⟩
 obtain⟨m,rfl⟩:∃m:Nat,z=m:=⟨z.toNat,by omega⟩
 refine⟨_,rfl,_,ns,1,rfl,.inl rfl,by decide,_,_,rfl,rfl,(by show (0:Int)<4;decide),_,_,rfl,rfl,trivial,?_⟩
 dsimp only
 have s2:2<=2+ns.getD (1:Int).toNat 0%4/\2+ns.getD (1:Int).toNat 0%4<=5:=by
  have:=bv1 (ns.getD (1:Int).toNat 0) (show (4:Int)≠0 by decide)
  have:=Int.emod_lt_of_pos (ns.getD (1:Int).toNat 0) (show (0:Int)<4 by decide)
  omega
 generalize 2+ns.getD (1:Int).toNat 0%4=sp at s2
 refine⟨_,rfl,_,ns,1,rfl,.inl rfl,by decide,_,_,rfl,rfl,⟨by decide,by decide⟩,_,_,rfl,rfl,(by show (0:Int)<2;decide),.inl ⟨_,_,rfl,rfl,trivial,?_⟩⟩
 generalize (if false=true then !decide (ns.getD (1:Int).toNat 0/8%2=1) else decide (ns.getD (1:Int).toNat 0/8%2=1))=dg
 obtain⟨zs,ez,zl⟩:=vZ ns (some 4) (some (4+(m:Int)))
 refine⟨_,rfl,_,rfl,_,rfl,_,_,rfl,rfl,_,rfl,_,rfl,cR _,rfl,?_,?_⟩
 ·show flats (j6 (intz ns) (some 4) (some (4+(m:Int))))=true
  rw[ez];exact cR _
 show (aN _ _) _ [_,_,_,_,_,some (Slot.own (.lst (j6 (intz ns) (some 4) (some (4+(m:Int)))))),_,_,_,_,_,_,_,_]
 rw[ez]
 refine⟨_,rfl,_,_,rfl,rfl,_,rfl,(zs.length:Int),(m:Int),by rw[aW],rfl,⟨by omega,by omega,by omega,by omega⟩,λi ρ=>∃(cs:af) (y6:Option Slot),ρ = [some (.sh (flat (.scr ns)) (.scr ns)),si most,si m,si sp,some (.sh true (.bl dg)),some (.own (.lst (intz cs))),y6,none,none,none,none,none,none,none]/\cs.length=zs.length+i,⟨zs,none,rfl,rfl⟩,?_,?_⟩
 ·rintro i y ρ hy ⟨cs,y6,rfl,cl⟩
  obtain⟨rfl,hi⟩:=i5 hy
  refine jF ?_
  refine⟨_,rfl,_,rfl,_,ns,1,rfl,.inl rfl,by decide,_,rfl,_,_,rfl,by omega,by omega,λz _=>⟨trivial,by rw[aW];omega,cs++[z],_,by rw[fA];rfl,by rw[bm7,cl];rfl⟩⟩
 rintro ρ ⟨cs,y6,rfl,cl⟩
 rw[dO]at cl
 have hc:m<=cs.length:=by omega
 refine⟨by decide,rfl,rfl,rfl,?_⟩
 refine⟨by show 1<=1000;decide,rfl,_,rfl,_,_,rfl,rfl,rfl,by omega,by omega,by show 1<=10;decide,rfl,?_,?_⟩
 ·show flats (List.replicate (m:Int).toNat [PV.int 0]).flatten=true
  rw[ac9];exact cR _
 show yO R _ [_,_,_,_,_,_,_,_,some (Slot.own (.lst (List.replicate (m:Int).toNat [PV.int 0]).flatten)),_,_,_,_,_]
 rw[ac9,bp1]
 exact aV4 (hR m (by omega)) s2 hc (by omega) List.length_replicate (λz hz=>by rw[List.eq_of_mem_replicate hz];exact bv9 0) λws ls w=>q m ws ls z0 z1 w
theorem aV6 {m:Nat}(h:m<=40):tE t5 m:=λls Q hl q inn nd=>by
 refine⟨ls.map two,by rw[Y2],by rw[bl5];omega,λy hy=>by obtain⟨l,_,rfl⟩:=bn7.mp hy;rfl,λZ pz so=>?_⟩
 obtain⟨ls',rfl,pl⟩:=aL8 pz
 have:=q ls' pl so
 rw[Y2]at this
 exact this
end Core
namespace PP
open PySem L2
section
variable {P:Program}{w:World}{K:ad}{mg:Str→Option Value}{base:Heap}{k:Nat}{f:Addr}{fd:FuncData}
theorem aV7 (F:cL P w K mg base cY k f fd ["web"] sO)(b:gR K fd ["web"] [])(kp:PySem.W.keepIn K (.ref f)=true)(m:mg "_law_beside" = some (.ref f)):Df P w K mg base k "_law_beside" ["web"] Core.pG:=by
 refine⟨f,fd,F.imp λvs H Q E h=>?_,b,kp,m⟩
 obtain⟨xs,Qp,r,⟨ws,ls,rfl,wb,q⟩,k⟩:=h
 obtain⟨v,rfl,r1⟩:=r.one
 have:=wb.few
 have:=wb.most
 refine⟨v,ws,ls,rfl,Y0 r1,by omega,by omega,wb.links,λt bs H' hb R=>k _ H' _ R.same (.lst R.new R.row ?_) q⟩
 have:=xV (K:=K) (M:=λa=>H a=none) (H:=H') (bs:=bs) (ls:=ls) 0 (λb hb=>(R.news b hb).1) λk b hk=>by rw[Nat.zero_add];exact R.rows k b hk
 rw[hb,<- List.range_eq_range']at this
 exact this
end
end PP
namespace Core
open PySem L2 PP
noncomputable def dM (ws:af)(ls:aa)(C:af):Bool:=@decide (∀U:af,fQ ws ls U->(∀x∈C,x∈U)->∀h∈rng ws.length,h∈U) (Classical.propDecidable _)
section
variable {ws:af}{ls:aa}{C D:af}
theorem tF:dM ws ls C=true↔∀U:af,fQ ws ls U->(∀x∈C,x∈U)->∀h∈rng ws.length,h∈U:=
 ⟨λz=>@bq2 _ (Classical.propDecidable _) z,λz=>@bl6 _ (Classical.propDecidable _) z⟩
theorem ae5 {T:af}(sh:fQ ws ls T)(sub:∀x∈C,x∈T)(le:∀U,fQ ws ls U->(∀x∈C,x∈U)->∀x∈T,x∈U):dM ws ls C=true↔∀h∈rng ws.length,h∈T:=
 ⟨λf=>tF.mp f T sh sub,λa=>tF.mpr λU sU hU h hh=>le U sU hU h (a h hh)⟩
theorem aV8 {m:Nat}(hs:bD ws.length C=true)(en:cG ws ls C m):dM ws ls C=decide (((bA ws ls C m).length:Int)=(ws.length:Int)):=by
 have st:∀m,∀x∈bA ws ls C m,x∈rng ws.length:=λm=>by
  induction m with
  |zero=>exact λx hx=>e8.mpr ((eG hs).2 x hx)
  |succ m ih=>
   intro x hx
   rcases bn4.mp (show x∈bA ws ls C m++nextOf ws ls (bA ws ls C m) from hx) with hx|hx
   ·exact ih x hx
   ·exact (bm0.mp hx).1
 have nd:=aa0 (ls:=ls) hs m
 have le:=nd.length_le_of_subset (st m)
 rw[eZ]at le
 rw[bq8,bm8,ae5 (aU9 en) (aU8 m) λU sU hU x hx=>Z8 sU hU m x hx]
 constructor
 ·intro a
  have:=(Z9 ws.length).length_le_of_subset a
  rw[eZ]at this
  omega
 ·intro e
  refine λh hh=>bv5 λhn=>?_
  have:=(bu1.mpr ⟨hn,nd⟩).length_le_of_subset λx hx=>(bl8.mp hx).elim (λe=>by rw[e];exact hh) (st m x)
  rw[eZ,bo3]at this
  omega
end
abbrev ae6:bK:=pG
def tG:bK:=λxs Q=>∃ws ls x ns,xs = [bC ws ls,x]/\Wb ws ls/\cK x ns/\(∀x∈ns,x∈rng ws.length)/\∀T,fQ ws ls T->(∀x∈ns,x∈T)->(∀U,fQ ws ls U->(∀x∈ns,x∈U)->∀x∈T,x∈U)->Q (.lst (eI ws.length T))
def ae7:aM:=(aN (aY 2 (aE ae6 (a7 (a5 0) a9)))
 (aN (iI 3 (c7 (gX (aE bQ (a7 (bH (a5 0) (qC (.int 0))) a9))) [none,some 1] (b8 0) dX (q2 (oR false) (a5 0) (a5 1))))
 (aN (aY 4 (qC (.bl true)))
 (aN (wJ (aX (a5 4))
  (aN (aY 4 (qC (.bl false)))
  (eW (gX (aE bQ (a7 (bH (a5 0) (qC (.int 0))) a9))) (b8 5)
   (aN (aY 6 (aE bQ (a7 (c7 (cN (bH (a5 2) (a5 5))) [none,some 3] (b8 0) (l5 (bH (a5 1) (a5 0))) (a5 0)) a9)))
   (cF (jU (jV (l5 (bH (a5 3) (a5 5)))) (aX (P4 (a5 6) (bH (bH (a5 0) (qC (.int 0))) (a5 5))))) (aN (l4 3 (a5 5) (qC (.bl true)))
    (aY 4 (qC (.bl true)))) cZ)))))
 (j4 3)))))
theorem aV9:dC ae7 ["web","seeds","beside","burning","left","hearth","count"] tG:=by
 rintro xs Q ⟨ws,ls,x,ns,rfl,wb,hx,inn,q⟩
 have few:=wb.few
 refine⟨_,rfl,ws,ls,rfl,wb,trivial,?_⟩
 refine⟨_,rfl,_,_,_,rfl,rfl,rfl,_,_,rfl,rfl,_,rfl,by rw[aW];omega,by rw[aW];omega,by rw[dO,aW];omega,λi acc=>acc=((rng ws.length).take i).map λi=>PV.bl (decide (i∈ns)),rfl,?_,?_⟩
 ·rintro i y acc hy rfl
  obtain⟨rfl,hi⟩:=i5 hy
  rw[aW]at hi
  have hi:i<ws.length:=by omega
  refine⟨_,rfl,_,rfl,_,ns,rfl,hx.seq,trivial,?_⟩
  have tk:=pD (f:=λ(i:Int)=>PV.bl (decide (i∈ns))) (pE hi)
  show _=List.map _ (List.take (i+1) _)
  rw[tk,bx7];rfl
 rintro bu rfl
 rw[dO,aW,bp9 (by rw[eZ];omega)]
 have flb:∀S,flats (eI ws.length S)=true:=λS=>by
  rw[xR]
  intro x hx
  unfold eI at hx
  obtain⟨i,_,rfl⟩:=bn7.mp hx
  rfl
 refine⟨rfl,flb ns,?_⟩
 refine⟨trivial,?_⟩
 refine⟨λn ρ=>∃(T:af) (g:Bool) (y5 y6:Option Slot),ρ = [some (.sh (flat (bC ws ls)) (bC ws ls)),some (.sh (flat x) x),some (.sh true (.lst (kC ws.length ls))),some (.own (.lst (eI ws.length T))),some (.sh true (.bl g)),y5,y6]/\
   (∀x∈ns,x∈T)/\(∀U,fQ ws ls U->(∀x∈ns,x∈U)->∀x∈T,x∈U)/\(g=false->fQ ws ls T)/\n=2*((rng ws.length).filter λz=>!decide (z∈T)).length+(if g=true then 1 else 0),⟨_,ns,true,none,none,rfl,λ_ h=>h,λ_ _ h=>h,(λz=>by cases z),rfl⟩,?_⟩
 rintro n ρ ⟨T,g,y5,y6,rfl,sub,le,sh,rfl⟩
 refine⟨_,rfl,_,rfl,?_⟩
 cases g with
 |false=>exact bG ⟨_,rfl,trivial,q T (sh rfl) sub le⟩
 |true=>
  refine bP ⟨trivial,?_⟩
  refine⟨_,rfl,_,_,_,rfl,rfl,rfl,_,_,rfl,rfl,_,rfl,by rw[aW];omega,by rw[aW];omega,λi ρ=>∃(T2:af) (g2:Bool) (y5 y6:Option Slot),ρ = [some (.sh (flat (bC ws ls)) (bC ws ls)),some (.sh (flat x) x),some (.sh true (.lst (kC ws.length ls))),some (.own (.lst (eI ws.length T2))),some (.sh true (.bl g2)),y5,y6]/\
   (∀x∈ns,x∈T2)/\(∀U,fQ ws ls U->(∀x∈ns,x∈U)->∀x∈T2,x∈U)/\(g2=false->T2=T/\∀j:Nat,j<i->kin ws ls T j=false)/\(g2=true->((rng ws.length).filter λz=>!decide (z∈T2)).length<((rng ws.length).filter λz=>!decide (z∈T)).length),⟨T,false,y5,y6,rfl,sub,le,(λ_=>⟨rfl,λj hj=>absurd hj (Nat.not_lt_zero _)⟩),λz=>by cases z⟩,?_,?_⟩
  ·rintro i y ρ hy ⟨T2,g2,y5,y6,rfl,sub2,le2,h0,h1⟩
   obtain⟨rfl,hi⟩:=i5 hy
   have hi:i<ws.length:=by rw[aW,bp1]at hi;exact hi
   refine jF ?_
   rw[bx7]
   have hr:(i:Int)∈rng ws.length:=e8.mpr ⟨by omega,by omega⟩
   refine⟨_,rfl,_,rfl,_,_,_,rfl,rfl,X1 (by omega) (by omega),_,rfl,(λz=>by cases z),?_,λj acc=>acc=intz (((bB ls (i:Int)).take j).filter λz=>decide (z∈T2)),rfl,?_,?_⟩
   ·rw[aW];have:=m8 ls (i:Int);have:=wb.most;omega
   ·rintro j z acc hz rfl
    obtain⟨o,rfl,ho⟩:=fZ hz
    have tk:=k9 (p:=λz=>decide (z∈T2)) ho
    have om:=e8.mp (aa9 wb (bn2 ho))
    refine⟨_,rfl,_,rfl,_,_,_,rfl,rfl,Y3 om.1 om.2,_,rfl,?_⟩
    show if decide (o∈T2)=true then _ else _
    cases hm:decide (o∈T2) with
    |true=>
     rw[hm]at tk
     refine bP ⟨_,rfl,trivial,?_⟩
     dsimp only
     rw[tk,fA];rfl
    |false=>
     rw[hm]at tk
     refine bG ?_
     dsimp only
     rw[tk];exact congrArg intz (bo9 _).symm
   rintro acc rfl
   rw[aW,bn9]
   have ix:L2.atI (intz ws) (i:Int)=some (.int (ws.getD (i:Int).toNat 0)):=xS (by omega) (by omega)
   refine⟨_,_,rfl,rfl,trivial,?_⟩
   refine⟨_,rfl,_,rfl,_,_,_,rfl,rfl,Y3 (by omega) (by omega),_,rfl,?_⟩
   show if (!decide ((i:Int)∈T2))=true then _ else _
   have stay:kin ws ls T2 (i:Int)=false->∃(T3:af) (g3:Bool) (y5 y6':Option Slot),[some (Slot.sh (flat (bC ws ls)) (bC ws ls)),some (.sh (flat x) x),some (.sh true (.lst (kC ws.length ls))),some (.own (.lst (eI ws.length T2))),some (.sh true (.bl g2)),si (i:Int),some (.sh true (.int (((bB ls (i:Int)).filter λz=>decide (z∈T2)).length:Nat)))] = [some (.sh (flat (bC ws ls)) (bC ws ls)),some (.sh (flat x) x),some (.sh true (.lst (kC ws.length ls))),some (.own (.lst (eI ws.length T3))),some (.sh true (.bl g3)),y5,y6']/\
     (∀x∈ns,x∈T3)/\(∀U,fQ ws ls U->(∀x∈ns,x∈U)->∀x∈T3,x∈U)/\(g3=false->T3=T/\∀j:Nat,j<i+1->kin ws ls T j=false)/\(g3=true->((rng ws.length).filter λz=>!decide (z∈T3)).length<((rng ws.length).filter λz=>!decide (z∈T)).length):=λhk=>by
    refine⟨T2,g2,_,_,rfl,sub2,le2,λz=>?_,h1⟩
    obtain⟨e,a⟩:=h0 z
    refine⟨e,λj hj=>?_⟩
    by_cases je:j=i
    ·rw[je,<- e];exact hk
    ·exact a j (by omega)
   by_cases hm:(i:Int)∈T2
   ·have hk:kin ws ls T2 (i:Int)=false:=by unfold kin;rw[bl6 hm];rfl
    rw[bl6 hm]
    have:=stay hk
    refine bG (bG ?_)
    dsimp only
    rw[aW]
    exact this
   ·rw[bl1 hm]
    refine bP ⟨_,rfl,_,rfl,_,_,_,rfl,rfl,rfl,_,rfl,_,_,_,rfl,rfl,ix,_,_,rfl,rfl,_,rfl,?_⟩
    have ek:kin ws ls T2 (i:Int)=decide ((((bB ls (i:Int)).filter λz=>decide (z∈T2)).length:Int) >= ws.getD (i:Int).toNat 0):=by unfold kin;rw[bl1 hm];rfl
    dsimp only
    rw[aW]
    rw[<- ek]
    cases hk:kin ws ls T2 (i:Int) with
    |false=>exact bG (stay hk)
    |true=>
     refine bP ⟨_,rfl,_,rfl,_,i,rfl,?_,trivial,?_⟩
     ·unfold gF
      rw[mX,if_pos (by omega),if_pos (by omega),bp1]
     have bs:=aM0 (n:=ws.length) (S:=T2) (x:=(i:Int)) (by omega) (by omega)
     rw[bp1]at bs
     rw[bs]
     refine⟨trivial,T2++[(i:Int)],true,_,_,rfl,λx hx=>bt7 _ (sub2 x hx),λU sU hU x hx=>?_,(λz=>by cases z),λ_=>?_⟩
     ·rcases bn4.mp hx with hx|hx
      ·exact le2 U sU hU x hx
      ·rw[bl0.mp hx]
       refine bv5 λhn=>?_
       have:=Z7 hk (le2 U sU hU) hn
       rw[sU (i:Int) hr]at this;cases this
     ·have lt:((rng ws.length).filter λz=>!decide (z∈T2++[(i:Int)])).length<((rng ws.length).filter λz=>!decide (z∈T2)).length:=by
       have n1:((rng ws.length).filter λz=>!decide (z∈T2++[(i:Int)])).Nodup:=(Z9 _).filter _
       have n2:(i:Int)∉(rng ws.length).filter λz=>!decide (z∈T2++[(i:Int)]):=λz=>by
        have:=(bm0.mp z).2
        rw[bl6 (bo6 _ (List.mem_singleton_self _))]at this;cases this
       have:=(bu1.mpr ⟨n2,n1⟩).length_le_of_subset (l₂:=(rng ws.length).filter λz=>!decide (z∈T2)) λz hz=>by
        rcases bl8.mp hz with e|hz
        ·rw[e];exact bm0.mpr ⟨hr,by rw[bl1 hm];rfl⟩
        ·have h2:=bm0.mp hz
         refine bm0.mpr ⟨h2.1,?_⟩
         rw[bl1 λw=>?_];rfl
         rw[bl6 (bt7 _ w)]at h2;exact absurd h2.2 (by decide)
       rw[bo3]at this
       omega
      cases g2 with
      |true=>have:=h1 rfl;omega
      |false=>have e:=(h0 rfl).1;rw[e]at lt ⊢;exact lt
  ·rintro ρ ⟨T2,g2,y5,y6,rfl,sub2,le2,h0,h1⟩
   rw[dO,aW,bp1]at h0
   cases g2 with
   |true=>exact⟨_,by have:=h1 rfl;rw[if_pos rfl];omega,T2,true,y5,y6,rfl,sub2,le2,(λz=>by cases z),rfl⟩
   |false=>
    obtain⟨e,sh2⟩:=h0 rfl
    subst e
    refine⟨_,by rw[if_pos rfl,if_neg (by decide)];omega,T2,false,y5,y6,rfl,sub2,le2,(λ_ h hh=>?_),rfl⟩
    have hm:=e8.mp hh
    have:=sh2 h.toNat (by omega)
    rwa [show ((h.toNat:Nat):Int)=h by omega]at this
def tH:bK:=λxs Q=>∃ws ls x ns,xs = [bC ws ls,x]/\Wb ws ls/\cK x ns/\(∀x∈ns,x∈rng ws.length)/\Q (.bl (dM ws ls ns))
def ae8:aM:=(bJ (dY (aE bQ (a7 (c7 (cN (aE tG (a7 (a5 0) (a7 (a5 1) a9)))) [none] (b8 0) (jV (l5 (a5 0))) (a5 0)) a9)) (qC (.int 0))))
theorem aW0:dC ae8 ["web","seeds"] tH:=by
 rintro xs Q ⟨ws,ls,x,ns,rfl,wb,hx,inn,q⟩
 have few:=wb.few
 refine⟨_,rfl,_,rfl,ws,ls,x,ns,rfl,wb,hx,inn,λT sh sub le=>?_⟩
 refine⟨_,rfl,(λz=>by cases z),by rw[mX];omega,λi acc=>acc.length=(((rng ws.length).take i).filter λz=>!decide (z∈T)).length,rfl,?_,?_⟩
 ·rintro i y acc hy e
  unfold eI at hy
  rw[bl4]at hy
  cases hz:(rng ws.length)[i]? with
  |none=>rw[hz]at hy;cases hy
  |some z=>
   rw[hz]at hy
   cases hy
   have tk:=k9 (p:=λz=>!decide (z∈T)) hz
   refine⟨_,rfl,_,rfl,?_⟩
   show if (!decide (z∈T))=true then _ else _
   cases hm:decide (z∈T) with
   |true=>
    rw[hm]at tk
    refine bG ?_
    dsimp only
    rw[tk,e];exact congrArg List.length (bo9 _).symm
   |false=>
    rw[hm]at tk
    refine bP ⟨_,rfl,trivial,?_⟩
    dsimp only
    rw[tk,bm7,bm7,e];rfl
 ·intro acc e
  rw[mX,bp9 (by rw[eZ];exact bk7 _)]at e
  refine⟨_,_,rfl,rfl,.inl ⟨_,_,rfl,rfl,trivial,?_⟩⟩
  have ef:dM ws ls ns=decide ((acc.length:Int)=0):=by
   rw[bq8,bm8,ae5 sh sub le,e]
   constructor
   ·intro a
    rw[bz7.mpr λz hz=>by rw[bl6 (a z hz)];decide];rfl
   ·intro z h hh
    have nl:(rng ws.length).filter (λz=>!decide (z∈T)) = []:=bt8 (by omega)
    have:=bz7.mp nl h hh
    simpa using this
  rw[ef]at q
  exact q
def tI:bK:=λxs Q=>∃(c:Int) (n:Nat),xs = [.int c,.int n]/\n<=40/\∀S,bD n S=true->Q (.tup (intz S))
def ae9:aM:=(aN (cF (aX (dY (c9 (a5 0) (qC (.int 2))) (qC (.int 1)))) (bJ (aE j7 (a7 (c7 (gX (a5 1)) [none,some 0] (b8 0) (aX (dY (aU5 (aF0 (a5 1) (cH (a5 0) (qC (.int 1)))) (qC (.int 1))) (qC (.int 1)))) (a5 0)) a9))) cZ)
 (bJ (aE j7 (a7 (c7 (gX (a5 1)) [none,some 0] (b8 0) (aX (jY (c9 (aE jH (a7 (a5 1) (a7 (cH (a5 0) (qC (.int 90))) a9))) (qC (.int 3))) (qC (.int 0)))) (a5 0)) a9))))
theorem yQ {b:Bool}{A B:Prop}(a:A)(c:B):if b=true then A else B:=by
 cases b
 ·exact c
 ·exact a
theorem aW1:dC ae9 ["number","many"] tI:=by
 rintro xs Q ⟨c,n,rfl,hn,q⟩
 have st:∀(i:Nat) (acc:List PV) (A:af),acc=intz A->dU (i:Int) A->∃A2,acc++[PV.int (0+(i:Int))]=intz A2/\dU ((i+1:Nat):Int) A2:=λi acc A e u=>by
  refine⟨A++[(i:Int)],by rw[e,fA,bx7];rfl,bp8.mpr ⟨u.up,bo1 _ _,λx hx y hy=>?_⟩,λx hx=>?_,?_⟩
  ·rw[bl0.mp hy];exact (u.inn x hx).2
  ·rcases bn4.mp hx with hx|hx
   ·have:=u.inn x hx;omega
   ·rw[bl0.mp hx];omega
  ·rw[bm7,bq6];have:=u.len;omega
 refine⟨_,rfl,_,_,rfl,rfl,(by show (0:Int)<2;decide),.inl ⟨_,_,rfl,rfl,_,rfl,yQ ?_ ?_⟩⟩
 ·refine⟨_,rfl,_,rfl,by omega,by omega,by rw[dO];omega,λi acc=>∃A,acc=intz A/\dU (i:Int) A,⟨[],rfl,dU.nil⟩,?_,?_⟩
  ·rintro i y acc hy ⟨A,e,u⟩
   obtain⟨rfl,hi⟩:=i5 hy
   refine⟨_,rfl,_,rfl,_,_,rfl,rfl,_,_,rfl,rfl,?_,_,_,rfl,rfl,.inl ⟨_,_,rfl,rfl,_,rfl,yQ ⟨_,rfl,trivial,st i acc A e u⟩ ⟨A,e,u.skip⟩⟩⟩
   show (0:Int)<=0+(i:Int)+1
   omega
  ·rintro acc ⟨A,rfl,u⟩
   rw[dO]at u
   have u:dU (n:Int) A:=by rw[bp1]at u;exact u
   exact⟨⟨_,_,rfl,rfl,cR _,trivial,q A u.set⟩,λns z=>by cases z⟩
 ·refine⟨_,rfl,_,rfl,by omega,by omega,by rw[dO];omega,λi acc=>∃A,acc=intz A/\dU (i:Int) A,⟨[],rfl,dU.nil⟩,?_,?_⟩
  ·rintro i y acc hy ⟨A,e,u⟩
   obtain⟨rfl,hi⟩:=i5 hy
   have hi:i<n:=by rw[bp1]at hi;exact hi
   refine⟨_,rfl,_,rfl,_,_,rfl,rfl,_,_,rfl,?_,?_,λz z0=>⟨_,_,rfl,rfl,(by show (0:Int)<3;decide),_,_,rfl,rfl,_,rfl,yQ ⟨_,rfl,trivial,st i acc A e u⟩ ⟨A,e,u.skip⟩⟩⟩
   ·show (0:Int)<=0+(i:Int)+90;omega
   ·show 0+(i:Int)+90<=1000;omega
  ·rintro acc ⟨A,rfl,u⟩
   rw[dO]at u
   have u:dU (n:Int) A:=by rw[bp1]at u;exact u
   exact⟨⟨_,_,rfl,rfl,cR _,trivial,q A u.set⟩,λns z=>by cases z⟩
section
variable {ws:af}{ls:aa}{ns S:af}
theorem af0:∀k,(∀j<k,nextOf ws ls (bA ws ls ns j)≠[])->k<=(bA ws ls ns k).length
 |0,_=>bo4 _
 |k+1,h=>by
  have ih:=af0 k λj hj=>h j (by omega)
  have:=List.length_pos_iff.mpr (h k (by omega))
  show k+1<=(bA ws ls ns k++nextOf ws ls (bA ws ls ns k)).length
  rw[bm7];omega
theorem aW2 (ws:af)(ls:aa)(ns:af):∃m,cG ws ls ns m:=by
 have key:∀k,(∃m,cG ws ls ns m)∨∀j<k,nextOf ws ls (bA ws ls ns j)≠[]:=λk=>by
  induction k with
  |zero=>exact .inr λj hj=>(by omega)
  |succ k ih=>
   rcases ih with h|h
   ·exact .inl h
   ·by_cases e:nextOf ws ls (bA ws ls ns k) = []
    ·exact .inl ⟨k,h,e⟩
    ·exact .inr λj hj=>if z:j=k then z▸e else h j (by omega)
 rcases key (ns.length+cold ws ns+1) with h|h
 ·exact h
 ·have:=af0 _ h
  have:=xO ws ls ns (ns.length+cold ws ns+1)
  omega
def tJ (ws:af)(ls:aa)(ns:af):af:=nE ws ls (cB ws.length ns)
theorem aW3 (wb:Wb ws ls){m:Nat}(en:cG ws ls ns m):cB ws.length (bA ws ls ns m)=tJ ws ls ns:=
 aP8 (aQ0 wb en) (ab9 ws ls _) (yA _ _) (aR3 (yA _ _))
theorem yR:nB ws ls (cB ws.length ns) (tJ ws ls ns):=ab9 ws ls _
theorem aW4 (wb:Wb ws ls)(hs:bD ws.length ns=true):dM ws ls ns=decide (tJ ws ls ns = []):=by
 obtain⟨m,en⟩:=aW2 ws ls ns
 rw[aV8 hs en,aS6 hs,aW3 wb en]
end
theorem aW5 (ws:af)(ls:aa):dM ws ls (rng ws.length)=true:=tF.mpr λ_ _ hU h hh=>hU h hh
theorem aW6 (n:Nat):bD n (rng n)=true:=yF.set ⟨ab3 n,λx hx=>e8.mp hx⟩
end Core
namespace L2
open PySem PySem.Spec PyProof.Rows
theorem aW7 {a b c:af}(h1:HT.aU a b=true)(h2:HT.aU b c=true):HT.aU a c=true:=by
 cases e:HT.aU a c with
 |true=>rfl
 |false=>
  have ca:=oE (kX h2) (kX h1)
  have:=L7 e ca
  subst this
  have:=kX h1
  rw[h2]at this;cases this
theorem tK {α:Type}{p q:α->Bool}:∀{l:List α},(∀x∈l,p x=true->q x=true)->(l.filter p).length<=(l.filter q).length
 |[],_=>bk7 _
 |x::l,h=>by
  have ih:=tK (l:=l) λy hy=>h y (bm1 _ hy)
  have hx:=h x bl7
  rw[bp7,bp7]
  cases ep:p x with
  |false=>cases q x<;>simp<;>omega
  |true=>rw[hx ep];simp;omega
theorem af1 {α:Type}{p q:α->Bool}:∀{l:List α},(∀x∈l,p x=true->q x=true)->(∃x∈l,q x=true/\p x=false)->(l.filter p).length<(l.filter q).length
 |[],_,e=>by obtain⟨_,z,_⟩:=e;cases z
 |x::l,h,e=>by
  have hx:=h x bl7
  have h':∀y∈l,p y=true->q y=true:=λy hy=>h y (bm1 _ hy)
  have le:=tK h'
  rw[bp7,bp7]
  obtain⟨y,hy,qy,py⟩:=e
  rcases bl8.mp hy with rfl|hy
  ·rw[qy,py];simp;omega
  ·have ih:=af1 h' ⟨y,hy,qy,py⟩
   cases ep:p x with
   |false=>cases q x<;>simp<;>omega
   |true=>rw[hx ep];simp;omega
def lN (ys:ae)(x:af):Nat:=(ys.filter λy=>HT.aU y x).length
theorem af2 {ys:ae}{u v:af}(hu:u∈ys)(hv:v∈ys):HT.aU u v=decide ((lN ys u:Int)<(lN ys v:Int)):=by
 have irr:∀a:af,HT.aU a a=false:=λa=>by
  cases e:HT.aU a a with
  |false=>rfl
  |true=>have:=kX e;rw[e]at this;cases this
 cases e:HT.aU u v with
 |true=>
  have:lN ys u<lN ys v:=af1 (λx _ h=>aW7 h e) ⟨u,hu,e,irr u⟩
  exact (bl6 (by omega)).symm
 |false=>
  have:lN ys v<=lN ys u:=tK λx _ h=>by
   cases e2:HT.aU x u with
   |true=>rfl
   |false=>have:=oE e2 e;rw[h]at this;cases this
  exact (bl1 (by omega)).symm
end L2
namespace L2
open PySem PySem.Spec PyProof.Rows SO
section
variable {prog:Program}{w:World}{A:Around}{E:Value→Shared→Prop}{s:Shared}
theorem aW8 {l b:Addr}{items items2:Array Value}{ns ms:af}{Q:Bool->Shared->Prop}(hl:IsTup s.heap l items)(hb:IsTup s.heap b items2)(hi:IntsAre items.toList ns)(hj:IntsAre items2.toList ms)(hu:A.units<cLine)(h:Q (HT.aU ns ms) s):wpAny (model prog w) A (oneLt' true (.ref l) (.ref b)) Q E s:=by
 obtain⟨⟨cls,dd,data,sl⟩,ho,hc,n,hd⟩:=id hl
 obtain⟨⟨cls2,dd2,data2,sl2⟩,ho2,hc2,n2,hd2⟩:=id hb
 simp only at hc hd hc2 hd2
 subst hc hd hc2 hd2
 rw[oneLt'_eq]
 simp only[if_true]
 refine bk3 (wpAny_cRoomFor hu ?_)
 refine bk3 (wpAny_callSpecialIfBound?_slot (T:="tuple") ⟨_,ho,rfl⟩ PySem.F.slot_tuple_lt (call_meets PySem.F.slot_tuple_lt ⟨_,ho,rfl⟩ PySem.F.entry_tuple_lt (PySem.F.args_tuple_lt_2 _ _) (HT.E2 l b items items2 n n2 dd dd2 sl sl2 ns ms hi hj) ⟨ho,ho2,?_⟩))
 exact bu7 h
structure fD (h:Heap)(v:Value)(ns:af):Prop where
 at_:∃b ob us n,v = .ref b/\h.get? b=some ob/\ob.cls = .type "tuple"/\ob.data = .seq (List.toArray us) n/\IntsAre us ns
def yS (h:Heap)(v:Value):af:=match v with
 |.ref b=>match h.get? b with
  |some ob=>match ob.data with
   |.seq us _=>us.toList.map numOf
   |_=>[]
  |none=>[]
 |_=>[]
theorem af3:∀{us:List Value}{ns:af},IntsAre us ns->us.map numOf=ns
 |_,_,.nil=>rfl
 |_,_,.cons _ _ h=>by rw[bq5,af3 h];rfl
theorem fD.ints {h:Heap}{v:Value}{ns:af}(z:fD h v ns):yS h v=ns:=by
 obtain⟨b,ob,us,n,rfl,e2,_,e4,e5⟩:=z.at_
 unfold yS
 dsimp only
 rw[e2];dsimp only
 rw[e4];exact af3 e5
def tL (h:Heap)(ys:ae)(x:Keyed):Int:=(lN ys (yS h x.1):Int)
theorem aW9 (ys:ae)(hu:A.units<cLine):bV prog w A E s oneType' (λx=>∃ns∈ys,fD s.heap x.1 ns) (tL s.heap ys):=by
 rintro x y ⟨ns,m1,z⟩ ⟨ms,m2,z'⟩ st Q hk hq
 unfold tL at hq
 rw[z.ints,z'.ints,<- af2 m1 m2]at hq
 obtain⟨b,ob,us,n,e1,e2,e3,e4,e5⟩:=z.at_
 obtain⟨b',ob',us',n',e1',e2',e3',e4',e5'⟩:=z'.at_
 rw[lt'_eq]
 refine bm2 (wpS_get ?_)
 rw[hk,e1,e1',keyLt'_oneType]
 refine bm2 (wpS_lift (wpAny_attempt (aW8 (items:=us.toArray) (items2:=us'.toArray) ⟨_,e2,e3,_,e4⟩ ⟨_,e2',e3',_,e4'⟩ (by simpa using e5) (by simpa using e5') hu ?_)))
 exact⟨rfl,bm9 hq⟩
def nL (h:Heap)(v:Value):Option Value:=match v with
 |.ref b=>match h.get? b with
  |some ob=>match ob.data with
   |.seq us _=>us[0]?
   |_=>none
  |none=>none
 |_=>none
theorem fD.first {h:Heap}{v:Value}(z:fD h v []):nL h v=none:=by
 obtain⟨b,ob,us,n,rfl,e2,_,e4,e5⟩:=z.at_
 cases e5
 unfold nL
 dsimp only
 rw[e2];dsimp only
 rw[e4];rfl
end
section
variable {M:Model}{A:Around}{E:Value→Shared→Prop}{s:Shared}
theorem af4:∀(vs:List Value) {Q:List (Option Value)->Shared->Prop},(∀v∈vs,∃ns,fD s.heap v ns)->Q (vs.map (nL s.heap)) s->wpAny M A (vs.mapM firstOfTuple') Q E s
 |[],_,_,h=>by rw[List.mapM_nil];exact bk8 h
 |v::vs,Q,t,h=>by
  obtain⟨ns,z⟩:=t v bl7
  obtain⟨b,ob,us,n,rfl,e2,e3,e4,e5⟩:=z.at_
  have ef:nL s.heap (.ref b)=us.toArray[0]?:=by
   unfold nL
   dsimp only
   rw[e2];dsimp only
   rw[e4]
  rw[List.mapM_cons]
  refine bk3 ?_
  rw[PySem.W.kas_first_eq]
  refine bk3 (PySem.W.Looks.here (show PySem.W.Looks M s.heap (typeOf (.ref b)) ob.cls from (PySem.W.Looks.ld e2).andThen .now) ?_)
  rw[e3,if_neg (by first|decide|simp)]
  refine bk3 (listItems_at e2 e4 (bk8 ?_))
  rw[<- ef]
  exact bk3 (af4 vs (Q:=λbs s'=>wpAny M A (pure (nL s.heap (.ref b)::bs)) Q E s') (λy hy=>t y (bm1 _ hy)) (bk8 h))
theorem aX0 {v:Value}{vs:List Value}{Q:SortKind->Shared->Prop}(t:∀y∈v::vs,∃ns,fD s.heap y ns)(t0:fD s.heap v [])(h:Q oneType' s):wpAny M A (keyKind' (v::vs).toArray) Q E s:=by
 rw[keyKind'_eq,List.mapM_toArray,map_eq_pure_bind]
 refine bk3 (bk3 (af4 _ t (bk8 ?_)))
 rw[bq5,t0.first,if_neg (by simp),if_neg (by simp)]
 rw[oneTypeOnly'_eq,List.mapM_toArray,map_eq_pure_bind]
 refine bk3 (bk3 (bk3 (PySem.W.kas_mapM (r:=Value.type "tuple") _ (λy hy Q' hq=>?_) (bk8 ?_))))
 ·obtain⟨ns,z⟩:=t y (by simpa using hy)
  obtain⟨b,ob,us,n,rfl,e2,e3,e4,e5⟩:=z.at_
  refine PySem.W.Looks.here (show PySem.W.Looks M s.heap (typeOf (.ref b)) ob.cls from (PySem.W.Looks.ld e2).andThen .now) ?_
  rw[e3];exact hq
 ·have hall2:((List.map (λ_=>Value.type "tuple") (v::vs)).toArray.all λx=>x==Value.type "tuple")=true:=by
   simp only[List.all_toArray,List.all_map,bu3]
   intro _ _
   rfl
  have h0:(List.map (λ_=>Value.type "tuple") (v::vs)).toArray[0]? = some (Value.type "tuple"):=by simp
  rw[h0]
  simp only[hall2,if_true]
  exact bk8 (bk8 h)
end
theorem aX1 {prog:Program}{w:World}{A:Around}{E:Value->Shared->Prop}{s:Shared}{l:Addr}{vs:List Value}{Q:Value->Shared->Prop}{κ:SortKind}{Ok:Keyed->Prop}{rk:Keyed->Int}(hl:s.heap.IsList l vs.toArray)(h2:2<=vs.length)(big:vs.length<=sizeLine)(hk:∀(A:Around) (E:Value->Shared->Prop) (Q:SortKind->Shared->Prop),Q κ { s with heap:=cJ (cE s.heap vs) (s.heap.objs.size+1) vs }->wpAny (model prog w) A (keyKind' vs.toArray) Q E { s with heap:=cJ (cE s.heap vs) (s.heap.objs.size+1) vs })(hu:A.units+3<cLine)(c:∀(A:Around) (E:Value->Shared->Prop),A.units<cLine->bV prog w A E { s with heap:=cJ (cE s.heap vs) (s.heap.objs.size+1) vs } κ Ok rk)(o:∀v∈vs,Ok (v,v))(q:∀out:List Value,out.Perm vs->out.Pairwise (λu v=>rk (u,u)<=rk (v,v))->Q (.ref (s.heap.objs.size+1)) { s with heap:=sortedAll s.heap vs out.toArray }):wpAny (model prog w) A (call (.builtin "sorted") [.ref l]) Q E s:=by
 apply Calls.call_function_entry kind_sorted plain_sorted entry_sorted (args_sorted1 _)
 simp only[Builtin.«sorted»]
 apply bk3 (m:=checkCount "sorted" 1 1 _)
 apply bk8
 apply bk3
 refine collect_list hl ?_ big
 apply bk3
 refine wpAny_newList ?_ big
 have one:((s.heap.push (seqObj "list" #[] 0)).update s.heap.objs.size (Obj.mapSeq (·++vs.toArray))).objs.size=s.heap.objs.size+1:=(Heap.size_update _ _ _).trans (size_push' _ _)
 have at1:(cE s.heap vs).get? (s.heap.objs.size+1)=some (seqObj "list" vs.toArray 0):=one▸bm4 _ rfl
 change wpAny _ _ _ _ _ { s with heap:=cE s.heap vs }
 rw[one]
 apply bk3
 apply bt1
 refine bs4 slot_list_sort ⟨_,at1,rfl⟩ entry_list_sort ?_ (args_list_sort _)
 exact V1 (s:={ s with heap:=cE s.heap vs }) at1 h2 big (hk _ _) (c _ _ (by show A.units+2<cLine;omega)) o λout a1 a2=>⟨_,rfl,bk8 ⟨_,rfl,q out a1 a2⟩⟩
def tM (K:ad):List V->Hp->VK->Prop:=λxs H Q=>∃(a:Addr) (ys:List V) (key:V->af),xs = [.ref a]/\aJ K H a ys/\ys.length<=4096/\(∀y∈ys,∃b,y = .ref b/\aH K H b ((key y).map V.int))/\(∀y,ys.head? = some y->key y = [])/\
 ∀l (zs:List V),H l=none->zs.Perm ys->zs.Pairwise (λu v=>HT.aU (key v) (key u)=false)->Q (.ref l) (upd H l (.lst zs))
theorem aX2 {X:Cx}(hu:X.A.units+3<cLine):cP X (.builtin "sorted") (tM X.K):=by
 intro pins s σ H xs us Q I r h
 obtain⟨a,ys,key,rfl,hs,hz4,hk,h0,q⟩:=h
 obtain⟨u,rfl,ru⟩:=fU r
 cases ru
 obtain⟨its,rv,p,hz⟩:=I.list hs
 have hl:=rv.length
 have hn:s.heap.objs.size<=s.heap.objs.size+1:=Nat.le_succ _
 by_cases h2:its.length<2
 ·refine vW p.isList h2 ?_
  obtain⟨e,he⟩:=sortedAll_at s.heap its its.toArray
  refine⟨.ref (s.heap.objs.size+1),upd H (s.heap.objs.size+1) (.lst ys),I.laid (t':=s.toks) (λ_ _=>sortedAll_old) hn ⟨hz,its,e,rv,he⟩,rfl,q _ ys (I.hok.fresh hn) (List.Perm.refl _) ?_⟩
  match ys,hl with
  |[],_=>exact bv8
  |[_],_=>exact bo1 _ _
  |_::_::_,hl=>simp at hl;omega
 ·have pv:∀{y:V}{v:Value},aP y v->y∈ys->fD (cJ (cE s.heap its) (s.heap.objs.size+1) its) v (key y):=λ{y v} ry hy=>by
   obtain⟨b,rfl,sq⟩:=hk y hy
   cases ry
   obtain⟨us,ru,⟨ob,e1,c1,n1,d1⟩,_⟩:=I.tuple sq
   exact⟨b,ob,us,n1,rfl,V0 (bo2 (Nat.lt_succ_of_lt (bm3 e1))) (U9 e1),c1,d1,kS ru⟩
  have pvs:∀{xs:List V}{vs:List Value},aI xs vs->(∀y∈xs,y∈ys)->∀v∈vs,∃ns∈ys.map key,fD (cJ (cE s.heap its) (s.heap.objs.size+1) its) v ns:=by
   intro xs vs r
   induction r with
   |nil=>intro _ v hv;cases hv
   |cons rx rt ih=>
    intro hh v hv
    rcases bl8.mp hv with z|z
    ·subst z
     exact⟨_,bn7.mpr ⟨_,hh _ bl7,rfl⟩,pv rx (hh _ bl7)⟩
    ·exact ih (λy hy=>hh y (bm1 _ hy)) v z
  have allp:=pvs rv λ_ h=>h
  obtain⟨v0,vr,ev⟩:∃v0 vr,its=v0::vr:=by
   cases its with
   |nil=>simp at h2
   |cons v0 vr=>exact⟨v0,vr,rfl⟩
  have t0:fD (cJ (cE s.heap its) (s.heap.objs.size+1) its) v0 []:=by
   cases rv with
   |nil=>cases ev
   |cons rx rt=>
    cases ev
    have:=pv rx bl7
    rwa [h0 _ rfl]at this
  refine aX1 (κ:=oneType') (Ok:=λx=>∃ns∈ys.map key,fD (cJ (cE s.heap its) (s.heap.objs.size+1) its) x.1 ns) (rk:=tL (cJ (cE s.heap its) (s.heap.objs.size+1) its) (ys.map key)) p.isList (by omega) (by rw[<- hl];exact hz)
   (λA E Q hQ=>?_) hu (λA E hA=>aW9 (s:={ s with heap:=cJ (cE s.heap its) (s.heap.objs.size+1) its }) (ys.map key) hA) (λv hv=>allp v hv) λout pm so=>?_
  ·have tt:∀y∈its,∃ns,fD (cJ (cE s.heap its) (s.heap.objs.size+1) its) y ns:=λy hy=>(allp y hy).imp λ_ z=>z.2
   have:=aX0 (M:=model X.prog X.w) (A:=A) (E:=E) (s:={ s with heap:=cJ (cE s.heap its) (s.heap.objs.size+1) its }) (v:=v0) (vs:=vr) (Q:=Q) (by rw[<- ev];exact tt) t0 hQ
   rw[<- ev]at this
   exact this
  ·obtain⟨zs,pz,rz⟩:=V3 pm.symm rv
   obtain⟨e,he⟩:=sortedAll_at s.heap its out.toArray
   refine⟨.ref (s.heap.objs.size+1),upd H (s.heap.objs.size+1) (.lst zs),I.laid (t':=s.toks) (λ_ _=>sortedAll_old) hn ⟨by rw[pz.length_eq];exact hz,out,e,rz,he⟩,rfl,q _ zs (I.hok.fresh hn) pz ?_⟩
   have lz:=rz.length
   rw[bp3]
   intro i j hi hj hij
   have s1:=bp3.mp so i j (by omega) (by omega) hij
   have gi:=kW i hi rz
   have gj:=kW j hj rz
   simp only[bl3,bk5 hi,bk5 hj,bk5 (show i<out.length by omega),bk5 (show j<out.length by omega),Option.getD_some]at gi gj
   have mi:=pz.mem_iff.mp (bs6 hi)
   have mj:=pz.mem_iff.mp (bs6 hj)
   have vi:=pv gi mi
   have vj:=pv gj mj
   unfold tL at s1
   rw[fD.ints vi,fD.ints vj]at s1
   rw[af2 (bn7.mpr ⟨_,mj,rfl⟩) (bn7.mpr ⟨_,mi,rfl⟩)]
   exact bl1 (by omega)
end L2
namespace PP
open PySem L2
section
variable {X:Cx}{e:Expr}{tr:cM}{pos p2:Pos}
def af5:List PV->(PV->Prop)->Prop:=λxs Q=>∃ys:ae,xs = [.lst (ys.map λr=>PV.tup (intz r))]/\ys.length<=4096/\(∀y,ys.head? = some y->y = [])/\∀zs:ae,zs.Perm ys->zs.Pairwise (λu v=>HT.aU v u=false)->Q (.lst (zs.map λr=>PV.tup (intz r)))
theorem aX3:eL X af5 (tM X.K):=by
 rintro H vs xs Q Q' r ⟨ys,rfl,hl,hne,q⟩ k
 obtain⟨v,rfl,r1⟩:=r.one
 obtain⟨a,us,rfl,_,h,r2⟩:=r1.sqL
 obtain⟨h1,h2⟩:=sM r2
 have lr:=r2.length
 rw[bl5]at lr
 refine⟨a,us,i7 H,rfl,aJ.of h,by omega,λy hy=>?_,λy hy=>?_,λl zs hl' pm so=>?_⟩
 ·obtain⟨b,rfl,hb⟩:=h2 y hy
  exact⟨b,rfl,aH.of hb⟩
 ·refine hne _ ?_
  rw[<- h1,List.head?_map,hy];rfl
 ·have hz:∀u∈zs,∃b,u = .ref b/\H b=some (.tup ((i7 H u).map V.int)):=λu hu=>h2 u (pm.mem_iff.mp hu)
  refine k _ _ _ (aZ hl' _) (.lst hl' aT ((sN hz).same (aZ hl' _) λ_ z=>z)) (q _ ?_ ?_)
  ·rw[<- h1];exact pm.map _
  ·rw[bs8];exact so
def yT:List PV->(PV->Prop)->Prop:=λxs Q=>sL xs Q∨af5 xs Q
theorem aX4 (hu:X.A.units+3<cLine):cP X (.builtin "sorted") (λxs H Q=>qR X.K xs H Q∨tM X.K xs H Q):=by
 intro pins s σ H xs us Q I r h
 rcases h with h|h
 ·exact L9 pins s σ H xs us Q I r h
 ·exact aX2 hu pins s σ H xs us Q I r h
theorem aX5:eL X yT (λxs H Q=>qR X.K xs H Q∨tM X.K xs H Q):=by
 intro H vs xs Q Q' r h k
 rcases h with h|h
 ·exact .inl (X8 H vs xs Q Q' r h k)
 ·exact .inr (aX3 H vs xs Q Q' r h k)
theorem aX6 (B:Bt X.mg)(hu:X.A.units+3<cLine)(ha:QA X [e] tr)(hg:Gl X "sorted":=by rfl)(he:starEach [e] X.env=(false,eval e X.env)::starEach [] X.env:=by rfl)(hpl:(backTo pos (starEach [] X.env)).any (·.1)=false:=by rfl):QE X (.Call (.Name "sorted" p2) [e] [] pos) (aE yT tr):=
 hG (aX4 hu) aX5 hg B.sorted PyProof.Rows.boot_sorted ha (he:=he) (hpl:=hpl)
end
end PP
namespace L2
open PySem PySem.Spec PyProof.Rows
section
variable {X:Cx}
theorem aX7 (hc:X.calm=true):cP X (.builtin "min") (λxs H Q=>∃(a:Addr) (ns:af),xs = [.ref a]/\aJ X.K H a (ns.map V.int)/\ns≠[]/\∀M:Int,M∈ns->(∀x∈ns,M<=x)->Q (.int M) H):=by
 intro pins s σ H xs us Q I r h
 obtain⟨a,ns,rfl,hq,ne,q⟩:=h
 obtain⟨u,rfl,ru⟩:=fU r
 cases ru
 obtain⟨its,rv,p,hz⟩:=I.list hq
 have ia:=kS rv
 obtain⟨ys,ey⟩:=ia.allInts.items
 have en:ns=ys.toList.map (·.1):=by
  have e1:=nums_intItems ys
  rw[<- ey]at e1
  exact ia.numsOf.symm.trans e1
 have pos:0<ys.size:=Nat.pos_of_ne_zero λz=>ne (by rw[en,Array.eq_empty_of_size_eq_zero z];rfl)
 have hl:s.heap.IsList a (intItems ys):=ey▸p.isList
 refine min_intList (I.ok.hd hc) hl pos λv h' tk ev old=>?_
 obtain⟨t,rfl⟩:=intItems_at ev
 have best:=argBest_lt (numAt ys) (ys.size-1)
 have mem:∀x:Int,x∈ns↔∃j,j<ys.size/\numAt ys j=x:=λx=>by
  rw[en]
  constructor
  ·intro z
   obtain⟨j,hj,e⟩:=mem_getD z
   exact⟨j,by simpa using hj,by rw[numAt_eq];exact e⟩
  ·rintro⟨j,hj,rfl⟩
   rw[numAt_eq]
   exact getD_mem (by simpa using hj)
 refine⟨.int _,H,I.kept (t':=tk) (h':=h') old,⟨t,rfl⟩,q _ ?_ λx hx=>?_⟩
 ·exact (mem _).mpr ⟨_,by have:=best.1;omega,rfl⟩
 ·obtain⟨j,hj,rfl⟩:=(mem x).mp hx
  exact best.2 j (by omega)
end
end L2
namespace PP
open PySem L2
section
variable {X:Cx}{e:Expr}{tr:cM}{pos p2:Pos}
def tN:List PV->(PV->Prop)->Prop:=λxs Q=>∃ns:af,xs = [.lst (intz ns)]/\ns≠[]/\∀M:Int,M∈ns->(∀x∈ns,M<=x)->Q (.int M)
theorem aX8:eL X tN (λxs H Q=>∃(a:Addr) (ns:af),xs = [.ref a]/\aJ X.K H a (ns.map V.int)/\ns≠[]/\∀M:Int,M∈ns->(∀x∈ns,M<=x)->Q (.int M) H):=by
 rintro H vs xs Q Q' r ⟨ns,rfl,ne,q⟩ k
 obtain⟨v,rfl,r1⟩:=r.one
 obtain⟨a,us,rfl,_,h,r2⟩:=r1.sqL
 rw[r2.ofInts]at h
 exact⟨a,ns,rfl,aJ.of h,ne,λM m1 m2=>k _ _ _ (aA.refl _) (.int M) (q M m1 m2)⟩
theorem af6 (B:Bt X.mg)(hc:X.calm=true)(ha:QA X [e] tr)(hg:Gl X "min":=by rfl)(he:starEach [e] X.env=(false,eval e X.env)::starEach [] X.env:=by rfl)(hpl:(backTo pos (starEach [] X.env)).any (·.1)=false:=by rfl):QE X (.Call (.Name "min" p2) [e] [] pos) (aE tN tr):=
 hG (aX7 hc) aX8 hg B.min PyProof.Rows.boot_min ha (he:=he) (hpl:=hpl)
end
end PP
namespace Core
open PySem L2 PP
theorem aX9 (n:Nat)(S:af)(h:(n:Int)∉S):cB (n+1) S=cB n S++[(n:Int)]:=by
 unfold cB
 rw[jG,bA6]
 congr 1
 rw[bp7,bl1 h];rfl
theorem aY0 (n:Nat)(S:af):cB (n+1) (S++[(n:Int)])=cB n S:=by
 unfold cB
 rw[jG,bA6]
 have e1:[(n:Int)].filter (λx=>!decide (x∈S++[(n:Int)])) = []:=by
  rw[bp7,bl6 (bn4.mpr (.inr (bl0.mpr rfl)))];rfl
 rw[e1,bo9]
 refine List.filter_congr λx hx=>?_
 have:=(e8.mp hx).2
 rw[decide_eq_decide.mpr (show x∈S++[(n:Int)]↔x∈S from ⟨λz=>(bn4.mp z).elim id λy=>by have:=bl0.mp y;omega,λz=>bn4.mpr (.inl z)⟩)]
theorem yU:∀(n p:Nat) (S:af),(b6 (rng n))[p]? = some S->(b6 (rng n))[2^n-1-p]? = some (cB n S)
 |0,p,S,h=>by
  have h:([[]]:ae)[p]? = some S:=h
  cases p with
  |zero=>cases h;rfl
  |succ p=>cases h
 |n+1,p,S,h=>by
  have len:(b6 (rng n)).length=2^n:=lK n
  rw[jG,iO]at h ⊢
  have pw:2^(n+1)=2^n+2^n:=by rw[Nat.pow_succ];omega
  have p1:1<=2^n:=Nat.one_le_two_pow
  by_cases hp:p<2^n
  ·rw[bp2 (by omega)]at h
   have ih:=yU n p S h
   have nS:(n:Int)∉S:=λz=>by have:=(nF n p S h).1 _ z;omega
   rw[bq0 (by omega),len,bl4,show 2^(n+1)-1-p-2^n=2^n-1-p by omega,ih,aX9 n S nS];rfl
  ·rw[bq0 (by omega),len,bl4]at h
   cases e:(b6 (rng n))[p-2^n]? with
   |none=>rw[e]at h;cases h
   |some T=>
    rw[e]at h
    cases h
    have ih:=yU n (p-2^n) T e
    have lt:p-2^n<2^n:=by have:=(bl9.mp e).1;omega
    rw[bp2 (by omega),show 2^(n+1)-1-p=2^n-1-(p-2^n) by omega,ih,aY0]
theorem aY1 {ws:af}{ls:aa}{S:af}(wb:Wb ws ls)(hs:bD ws.length S=true):dM ws ls S=true↔¬HC ws ls (cB ws.length S):=by
 rw[aW4 wb hs,bm8]
 refine⟨λe ⟨U,cU,nU,sU⟩=>nU ?_,λh=>bv5 λne=>h ⟨tJ ws ls S,yR.cold,ne,yR.sub⟩⟩
 refine List.eq_nil_iff_forall_not_mem.mpr λx hx=>?_
 have:=yR.most U cU sU x hx
 rw[e]at this;cases this
noncomputable def cO (ws:af)(ls:aa):ae:=(b6 (rng ws.length)).filter (dM ws ls)
def kE:dL:=λEp xs Q=>∃ws ls,xs = [bC ws ls]/\Wb ws ls/\(ws.length<=12->Q (.lst (tups (cO ws ls))))/\(12<ws.length->Ep "TooMany")
def af7 (Ep:Str->Prop):aM:=(aN (aY 1 (gN Ep nH (a7 (a5 0) a9)))
 (aN (aY 2 (gN Ep nJ (a7 (a5 0) (a7 (a5 1) a9))))
 (aN (aY 3 (mH (aE bQ (a7 (a5 1) a9)) (qC (.int 1))))
 (bJ (c7 (sQ (a5 1)) [none,none,some 2,some 3] (oO 0 1) (jV (l5 (bH (a5 2) (mH (a5 3) (a5 0))))) (a5 1))))))
theorem aY2:iN af7 ["web","chosen","holds","last"] kE:=by
 rintro Ep xs Q ⟨ws,ls,rfl,wb,q,qe⟩
 refine⟨_,rfl,ws,ls,rfl,wb.few,λfew=>⟨trivial,?_⟩,qe⟩
 have q:=q few
 have ln:=lK ws.length
 have l12:2^ws.length<=4096:=bp5 (by1 (by decide) few) (by decide)
 refine⟨_,rfl,_,rfl,ws,ls,rfl,wb,few,λbs bl hb=>⟨trivial,?_⟩⟩
 refine⟨_,rfl,_,_,rfl,rfl,_,_,rfl,rfl,trivial,?_⟩
 unfold cO at q
 have key:∀i S,(b6 (rng ws.length))[i]? = some S->dM ws ls S = !bs.getD (2^ws.length-1-i) false:=λi S e=>by
  have hs:=pM.mp ((i8 ws.length S).mp (bn2 e))
  have h1:=hb _ _ (yU ws.length i S e)
  have h2:=aY1 wb hs
  cases b:bs.getD (2^ws.length-1-i) false with
  |true=>
   have:=h1.mp b
   cases f:dM ws ls S with
   |false=>rfl
   |true=>exact absurd this (h2.mp f)
  |false=>exact h2.mpr λz=>by rw[h1.mpr z]at b;cases b
 generalize b6 (rng ws.length)=C at *
 refine⟨_,rfl,_,.inl rfl,(λz=>by cases z),by rw[mY,dI];omega,λi acc=>acc=tups ((C.take i).filter (dM ws ls)),rfl,?_,?_⟩
 ·rintro i y acc hy rfl
  obtain⟨y,hy2,rfl⟩:=Z0 hy
  obtain⟨S,rfl,hS⟩:=jC hy2
  have il:=(bl9.mp hS).1
  have tk:=k9 (p:=dM ws ls) hS
  have ix:L2.atI (fC bs) (((tups C).length:Int)-1-(i:Int))=some (.bl (bs.getD (2^ws.length-1-i) false)):=by
   rw[dI,ln]
   have:=iS (xs:=fC bs) (j:=2^ws.length-1-i) (v:=.bl (bs.getD (2^ws.length-1-i) false)) (by show (List.map PV.bl bs)[_]? = _;rw[bl4,bl3,bk5 (by omega)];rfl)
   rwa [show ((2^ws.length-1-i:Nat):Int)=((2^ws.length:Nat):Int)-1-(i:Int) by omega]at this
  refine⟨_,_,rfl,_,rfl,_,rfl,_,rfl,_,_,rfl,rfl,_,_,_,rfl,rfl,ix,_,rfl,?_⟩
  rw[key i S hS]at tk
  cases hbi:bs.getD (2^ws.length-1-i) false with
  |true=>
   rw[hbi]at tk
   refine bG ?_
   dsimp only
   rw[tk];simp
  |false=>
   rw[hbi]at tk
   refine bP ⟨_,rfl,yH _ (pF S),?_⟩
   dsimp only
   rw[tk]
   unfold tups
   rw[bn6];rfl
 rintro acc rfl
 rw[mY,dI,bn9]
 exact⟨trivial,q⟩
def nM (ws:af)(ls:aa)(M:Int):Prop:=(∃S∈cO ws ls,(S.length:Int)=M)/\∀S∈cO ws ls,M<=(S.length:Int)
theorem lO {ws:af}{ls:aa}{S:af}:S∈cO ws ls↔bD ws.length S=true/\dM ws ls S=true:=by
 unfold cO
 rw[bm0,i8,pM]
theorem yV (ws:af)(ls:aa):cO ws ls≠[]:=λz=>by
 have:=lO.mpr ⟨aW6 ws.length,aW5 ws ls⟩
 rw[z]at this;cases this
theorem yW {ws:af}{ls:aa}(few:ws.length<=12):(cO ws ls).length<=4096:=by
 have:=bA7 (dM ws ls) (b6 (rng ws.length))
 have ln:=lK ws.length
 have:2^ws.length<=4096:=bp5 (by1 (by decide) few) (by decide)
 unfold cO
 omega
noncomputable def lP (ws:af)(ls:aa)(M:Int):ae:=(cO ws ls).filter λS=>decide ((S.length:Int)=M)
def tO:dL:=λEp xs Q=>∃ws ls,xs = [bC ws ls]/\Wb ws ls/\(ws.length<=12->∀M,nM ws ls M->(lP ws ls M).length<64/\∀Z:ae,Z.Perm (lP ws ls M)->Z.Pairwise (λu v=>HT.aU v u=false)->Q (.lst (tups Z)))/\(12<ws.length->Ep "TooMany")
def af8 (Ep:Str->Prop):aM:=(aN (aY 1 (gN Ep kE (a7 (a5 0) a9)))
 (aN (aY 2 (aE tN (a7 (c7 (cN (a5 1)) [none] (b8 0) dX (aE bQ (a7 (a5 0) a9))) a9)))
 (bJ (aE yT (a7 (c7 (cN (a5 1)) [none,some 2] (b8 0) (aX (dY (aE bQ (a7 (a5 0) a9)) (a5 1))) (a5 0)) a9)))))
theorem aY3:iN af8 ["web","lighting","fewest"] tO:=by
 rintro Ep xs Q ⟨ws,ls,rfl,wb,q,qe⟩
 refine⟨_,rfl,ws,ls,rfl,wb,λfew=>⟨trivial,?_⟩,qe⟩
 have ll:=yW (ls:=ls) few
 have lne:=yV ws ls
 have qq:∀M:Int,(∃S∈cO ws ls,(S.length:Int)=M)->(∀S∈cO ws ls,M<=(S.length:Int))->_:=λM m1 m2=>q few M ⟨m1,m2⟩
 unfold lP at qq
 generalize cO ws ls=L at ll lne qq ⊢
 refine⟨_,rfl,_,rfl,(λz=>by cases z),by rw[dI];omega,λi acc=>acc=intz ((L.take i).map λS=>(S.length:Int)),rfl,?_,?_⟩
 ·rintro i y acc hy rfl
  obtain⟨S,rfl,hS⟩:=jC hy
  refine⟨_,rfl,_,_,rfl,rfl,trivial,?_⟩
  dsimp only
  rw[aW,bp6,hS,bn6,fA];rfl
 rintro acc rfl
 rw[dI,bn9]
 refine⟨_,rfl,λz=>lne (bw9.mp z),λM m1 m2=>⟨trivial,?_⟩⟩
 obtain⟨l64,q⟩:=qq M (by obtain⟨S,hS,e⟩:=bn7.mp m1;exact⟨S,hS,e⟩) λS hS=>m2 _ (bn7.mpr ⟨S,hS,rfl⟩)
 refine⟨_,rfl,_,rfl,(λz=>by cases z),by rw[dI];omega,λi acc=>acc=tups ((L.take i).filter λS=>decide ((S.length:Int)=M)),rfl,?_,?_⟩
 ·rintro i y acc hy rfl
  obtain⟨S,rfl,hS⟩:=jC hy
  have tk:=k9 (p:=λS:af=>decide ((S.length:Int)=M)) hS
  refine⟨_,rfl,_,_,rfl,rfl,_,rfl,.inl ⟨_,_,rfl,rfl,_,rfl,?_⟩⟩
  show if decide (((intz S).length:Int)=M)=true then _ else _
  rw[aW]
  cases hm:decide ((S.length:Int)=M) with
  |true=>
   rw[hm]at tk
   refine bP ⟨_,rfl,yH _ (pF S),?_⟩
   dsimp only
   rw[tk]
   unfold tups
   rw[bn6];rfl
  |false=>
   rw[hm]at tk
   refine bG ?_
   dsimp only
   rw[tk];simp
 rintro acc rfl
 rw[dI,bn9]
 by_cases h0:M=0
 ·refine .inr ⟨_,rfl,by omega,λy hy=>?_,λZ pz so=>⟨trivial,q Z pz so⟩⟩
  have:=bq2 (bm0.mp (List.mem_of_mem_head? hy)).2
  exact bt8 (by omega)
 ·refine .inl ⟨_,rfl,l64,λy hy z=>?_,λZ pz so=>⟨trivial,q Z pz so⟩⟩
  have:=bq2 (bm0.mp hy).2
  rw[z]at this
  exact h0 this.symm
def tP:dL:=λEp xs Q=>∃ws ls,xs = [bC ws ls]/\Wb ws ls/\(ws.length<=12->∀M,nM ws ls M->Q (.int M))/\(12<ws.length->Ep "TooMany")
def af9 (Ep:Str->Prop):aM:=(bJ (aE tN (a7 (c7 (cN (gN Ep kE (a7 (a5 0) a9))) [none] (b8 0) dX (aE bQ (a7 (a5 0) a9))) a9)))
theorem aY4:iN af9 ["web"] tP:=by
 rintro Ep xs Q ⟨ws,ls,rfl,wb,q,qe⟩
 refine⟨_,rfl,ws,ls,rfl,wb,λfew=>?_,qe⟩
 have ll:=yW (ls:=ls) few
 have lne:=yV ws ls
 have qq:∀M:Int,(∃S∈cO ws ls,(S.length:Int)=M)->(∀S∈cO ws ls,M<=(S.length:Int))->_:=λM m1 m2=>q few M ⟨m1,m2⟩
 generalize cO ws ls=L at ll lne qq ⊢
 refine⟨_,rfl,(λz=>by cases z),by rw[dI];omega,λi acc=>acc=intz ((L.take i).map λS=>(S.length:Int)),rfl,?_,?_⟩
 ·rintro i y acc hy rfl
  obtain⟨S,rfl,hS⟩:=jC hy
  refine⟨_,rfl,_,_,rfl,rfl,trivial,?_⟩
  dsimp only
  rw[aW,bp6,hS,bn6,fA];rfl
 rintro acc rfl
 rw[dI,bn9]
 exact⟨_,rfl,λz=>lne (bw9.mp z),λM m1 m2=>⟨trivial,qq M (by obtain⟨S,hS,e⟩:=bn7.mp m1;exact⟨S,hS,e⟩) λS hS=>m2 _ (bn7.mpr ⟨S,hS,rfl⟩)⟩⟩
theorem aY5:∀n<8,∀M<8,((b6 (rng n)).filter λS=>decide (S.length=M)).length<64:=by decide +kernel
theorem aY6 {ws:af}{ls:aa}{M:Int}(few:ws.length<=7)(h:nM ws ls M):(lP ws ls M).length<64:=by
 obtain⟨⟨S,hS,e⟩,_⟩:=h
 have sl:=mW (lO.mp hS).1
 have:=aY5 ws.length (by omega) S.length (by omega)
 refine bA4 ?_ this
 unfold lP cO
 rw[List.filter_filter]
 refine tK λT _ hT=>?_
 rw[bp4,bm8]at hT
 exact bl6 (by omega)
theorem aY7 {ws:af}{ls:aa}{M N:Int}(h:nM ws ls M)(h':nM ws ls N):M=N:=by
 obtain⟨⟨S,hS,e⟩,m⟩:=h
 obtain⟨⟨T,hT,e'⟩,m'⟩:=h'
 have:=m T hT
 have:=m' S hS
 omega
abbrev tQ:bK:=ae1 7
abbrev ag0:aM:=ae4 t5
theorem aY8:dC ag0 ["script","most","many","sparse","digits","cells","k","links","counts","other","number","one","draw","wants"] tQ:=aV5 (by decide) λm h=>aV6 (by omega)
def jI (n:Nat)(ps:af):Prop:=ps.length=n/\∀w∈ps,0<=w
def tR:dL:=λEp xs Q=>∃(x:PV) (ns:af) (m:Nat),xs = [x,.int m]/\cK x ns/\ns.length<=1000/\m<=1000000/\(jI m ns->Q (.tup (intz ns)))/\(¬jI m ns->Ep "BadPrices")
def ag1 (Ep:Str->Prop):aM:=(aN (cF (aX (P5 (aE bQ (a7 (a5 0) a9)) (a5 1))) (nC Ep "BadPrices" (a7 (qC (.str "there is one price for each")) a9)) cZ)
 (aN (cF (aX (aE sT (a7 (c7 (cN (a5 0)) [none] (b8 0) dX (lD (a5 0) (qC (.int 0)))) a9))) (nC Ep "BadPrices" (a7 (qC (.str "no price is below 0")) a9)) cZ)
 (bJ (aE j7 (a7 (a5 0) a9)))))
theorem aY9:iN ag1 ["prices","many"] tR:=by
 rintro Ep xs Q ⟨x,ns,m,rfl,hx,hl,hm,q,qe⟩
 refine⟨_,rfl,_,_,rfl,hx.len,_,rfl,.inl ⟨_,_,rfl,rfl,_,rfl,?_⟩⟩
 show if (!decide ((ns.length:Int)=(m:Int)))=true then _ else _
 by_cases hlm:ns.length=m
 ·rw[bl6 (by omega)]
  refine bG ⟨_,rfl,_,hx.seq,kA hx,by rw[aW];omega,λi acc=>acc=((ns.take i).map λn=>PV.bl (decide (n<0))),rfl,?_,?_⟩
  ·rintro i y acc hy rfl
   obtain⟨n,rfl,hn⟩:=fZ hy
   refine⟨_,rfl,_,_,rfl,rfl,trivial,?_⟩
   dsimp only
   rw[bp6,hn,bn6];rfl
  ·rintro acc rfl
   rw[aW,bn9]
   refine⟨ns.map λn=>decide (n<0),by rw[bx6];rfl,_,rfl,?_⟩
   by_cases hp:∀w∈ns,0<=w
   ·have:(ns.map λn=>decide (n<0)).any id=false:=by
     rw[List.any_map,List.any_eq_false]
     intro x hx
     have:=hp x hx
     simp;omega
    rw[this]
    exact bG ⟨_,rfl,⟨_,_,rfl,hx.seqT,cR _,trivial,q ⟨hlm,hp⟩⟩,hx.noscr⟩
   ·have:(ns.map λn=>decide (n<0)).any id=true:=by
     obtain⟨w,hw⟩:=Classical.not_forall.mp hp
     obtain⟨h1,h2⟩:=Classical.not_imp.mp hw
     rw[List.any_map,List.any_eq_true]
     exact⟨w,h1,by simp;omega⟩
    rw[this]
    exact bP ⟨by show 1<=1000;decide,qe λz=>hp z.2⟩
 ·rw[bl1 (by omega)]
  exact bP ⟨by show 1<=1000;decide,qe λz=>hlm z.1⟩
def e9 (ps S:af):Int:=(S.map λs=>ps.getD s.toNat 0).sum
def tS:bK:=λxs Q=>∃p x ps S,xs = [p,x]/\cK p ps/\cK x S/\S.length<=1000/\(∀s∈S,0<=s/\s<(ps.length:Int))/\Q (.int (e9 ps S))
def ag2:aM:=(bJ (aE pL (a7 (c7 (cN (a5 1)) [none,some 0] (b8 0) dX (bH (a5 1) (a5 0))) a9)))
theorem aZ0:dC ag2 ["prices","some"] tS:=by
 rintro xs Q ⟨p,x,ps,S,rfl,hp,hx,hS,inn,q⟩
 refine⟨_,rfl,_,hx.seq,kA hx,by rw[aW];omega,λi acc=>acc=intz ((S.take i).map λs=>ps.getD s.toNat 0),rfl,?_,?_⟩
 ·rintro i y acc hy rfl
  obtain⟨n,rfl,hn⟩:=fZ hy
  have nn:=inn n (bn2 hn)
  have ix:L2.atI (intz ps) n=some (.int (ps.getD n.toNat 0)):=by
   have hl:n.toNat<ps.length:=by omega
   have:=iS (xs:=intz ps) (j:=n.toNat) (v:=.int (ps.getD n.toNat 0)) (by show (List.map PV.int ps)[_]? = _;rw[bl4,bl3,bk5 hl];rfl)
   rwa [Int.toNat_of_nonneg nn.1]at this
  refine⟨_,rfl,_,rfl,_,_,_,hp.seq,rfl,ix,rfl,?_⟩
  dsimp only
  rw[bp6,hn,bn6,fA];rfl
 ·rintro acc rfl
  rw[aW,bn9]
  exact⟨_,_,rfl,rfl,trivial,q⟩
def tT:bK:=λxs Q=>∃(ns:af) (m:Nat),xs = [.scr ns,.int m]/\ns.length<=63/\m<=40/\∀ps,jI m ps->Q (.lst (intz ps))
def ag3:aM:=(aN (iI 2 (fM a9))
 (aN (eW (gX (a5 1)) (b8 3)
  (aN (aY 4 (aE jH (a7 (aE i6 (a7 (a5 0) (a7 (qC (.int 2)) a9))) (a7 (cH (a5 3) (qC (.int 30))) a9))))
  (aN (cF (aX (lD (cH (qC (.int 4)) (a5 3)) (aE bQ (a7 (a5 0) a9)))) (aY 4 (cH (gJ (bH (a5 0) (cH (qC (.int 4)) (a5 3))) (qC (.int 11))) (aE i6 (a7 (a5 0) (a7 (qC (.int 2)) a9))))) cZ)
  (jX 2 (bH (fM (a7 (c9 (a5 4) (qC (.int 3))) (a7 (cH (qC (.int 1)) (c9 (a5 4) (qC (.int 9)))) (a7 (c9 (a5 4) (rF (qC (.int 10)) (qC (.int 9)))) (a7 (cH (rF (qC (.int 10)) (qC (.int 20))) (c9 (a5 4) (qC (.int 7)))) a9))))) (c9 (gJ (a5 4) (qC (.int 10))) (qC (.int 4))))))))
 (j4 2)))
theorem aZ1:dC ag3 ["script","many","prices","k","number"] tT:=by
 rintro xs Q ⟨ns,m,rfl,hl,hm,q⟩
 refine⟨by decide,rfl,rfl,rfl,?_⟩
 refine⟨_,rfl,(m:Int),rfl,by omega,by omega,λi ρ=>∃(ps:af) (y3 y4:Option Slot),ρ = [some (.sh (flat (.scr ns)) (.scr ns)),some (.sh (flat (.int (m:Int))) (.int (m:Int))),some (.own (.lst (intz ps))),y3,y4]/\jI i ps,⟨[],none,none,rfl,rfl,by simp⟩,?_,?_⟩
 ·rintro i y ρ hy ⟨ps,y3,y4,rfl,gp⟩
  obtain⟨rfl,hi⟩:=i5 hy
  rw[bp1]at hi
  refine jF ?_
  rw[bx7]
  refine⟨_,rfl,_,ns,2,rfl,.inl rfl,by decide,_,rfl,_,_,rfl,rfl,_,_,rfl,by omega,by omega,λz z0=>⟨trivial,?_⟩⟩
  have tail:∀c:Int,(jX 2 (bH (fM (a7 (c9 (a5 4) (qC (.int 3))) (a7 (cH (qC (.int 1)) (c9 (a5 4) (qC (.int 9)))) (a7 (c9 (a5 4) (rF (qC (.int 10)) (qC (.int 9)))) (a7 (cH (rF (qC (.int 10)) (qC (.int 20))) (c9 (a5 4) (qC (.int 7)))) a9))))) (c9 (gJ (a5 4) (qC (.int 10))) (qC (.int 4)))))
    { nx:=λρ=>∃(ps:af) (y3 y4:Option Slot),ρ = [some (.sh (flat (.scr ns)) (.scr ns)),some (.sh (flat (.int (m:Int))) (.int (m:Int))),some (.own (.lst (intz ps))),y3,y4]/\jI (i+1) ps,rt:=Q,ct:=λρ=>∃(ps:af) (y3 y4:Option Slot),ρ = [some (.sh (flat (.scr ns)) (.scr ns)),some (.sh (flat (.int (m:Int))) (.int (m:Int))),some (.own (.lst (intz ps))),y3,y4]/\jI (i+1) ps,bk:=(j4 2) { nx:=λ_=>Q .non,rt:=Q } }
    [some (.sh (flat (.scr ns)) (.scr ns)),some (.sh (flat (.int (m:Int))) (.int (m:Int))),some (.own (.lst (intz ps))),si i,si c]:=λc=>by
   have j0:0<=c/10%4:=bv1 _ (by decide)
   have j1:c/10%4<4:=Int.emod_lt_of_pos _ (by decide)
   have odd:∃p:Int,0<=p/\L2.atI [PV.int (c%3),.int (1+c%9),.int (c%10^(9:Int).toNat),.int (10^(20:Int).toNat+c%7)] (c/10%4)=some (.int p):=by
    generalize c/10%4=j at j0 j1
    have e1:0<=c%3:=bv1 _ (by decide)
    have e2:0<=c%9:=bv1 _ (by decide)
    have e3:0<=c%10^(9:Int).toNat:=bv1 _ (by decide)
    have e4:0<=c%7:=bv1 _ (by decide)
    have e5:(0:Int)<=10^(20:Int).toNat:=by decide
    rcases (show j=0∨j=1∨j=2∨j=3 by omega) with rfl|rfl|rfl|rfl
    ·exact⟨_,e1,rfl⟩
    ·exact⟨_,by omega,rfl⟩
    ·exact⟨_,e3,rfl⟩
    ·exact⟨_,Int.add_nonneg e5 e4,rfl⟩
   obtain⟨p,p0,at4⟩:=odd
   refine⟨_,rfl,_,rfl,_,_,rfl,rfl,(by show (0:Int)<3;decide),_,rfl,_,_,rfl,rfl,(by show (0:Int)<9;decide),_,_,rfl,rfl,_,rfl,_,_,rfl,rfl,⟨by decide,by decide,by decide⟩,_,_,rfl,rfl,(by show (0:Int)<10^(9:Int).toNat;decide),
    _,_,rfl,rfl,⟨by decide,by decide,by decide⟩,_,rfl,_,_,rfl,rfl,(by show (0:Int)<7;decide),_,_,rfl,rfl,by show 4<=1000;decide,rfl,_,rfl,_,_,rfl,rfl,⟨by decide,by decide⟩,_,_,rfl,rfl,(by show (0:Int)<4;decide),?_⟩
   refine⟨_,_,_,rfl,rfl,at4,trivial,by rw[aW,gp.1];omega,ps++[p],si i,si c,?_,?_⟩
   ·rw[fA];rfl
   ·refine⟨by rw[bm7,gp.1];rfl,λw hw=>?_⟩
    rcases bn4.mp hw with hw|hw
    ·exact gp.2 w hw
    ·rw[bl0]at hw;omega
  refine⟨_,rfl,_,_,rfl,rfl,_,rfl,_,_,rfl,rfl,_,_,rfl,rfl,_,rfl,?_⟩
  show if decide (4+(i:Int)<(ns.length:Int))=true then _ else _
  by_cases h4:4+(i:Int)<(ns.length:Int)
  ·rw[bl6 h4]
   have hl4:4+i<ns.length:=by omega
   have ix:L2.atI (intz ns) (4+(i:Int))=some (.int ns[4+i]):=by
    have:=iS (xs:=intz ns) (j:=4+i) (v:=.int ns[4+i]) (by show (List.map PV.int ns)[_]? = _;rw[bl4,bk5 hl4];rfl)
    exact this
   exact bP ⟨_,rfl,_,rfl,_,_,rfl,rfl,_,_,_,rfl,rfl,ix,_,_,rfl,rfl,⟨by decide,by decide⟩,_,rfl,_,ns,2,rfl,.inl rfl,by decide,_,_,rfl,rfl,trivial,tail _⟩
  ·rw[bl1 h4]
   exact bG (tail z)
 ·rintro ρ ⟨ps,y3,y4,rfl,gp⟩
  rw[dO,bp1]at gp
  exact⟨_,rfl,trivial,q ps gp⟩
def vS (ws:af)(ls:aa)(ns R:af):Prop:=ad1 ws ls ns R=true/\fQ ws ls (ns++R)
end Core
namespace HT
open PySem PyProof.Rows
section
open PySem.SeqAt
open PySem.MeetsSeq PySem.MeetsSeq2 PySem.MeetsSeq3
theorem aZ2 (l b:Addr)(n n2:Nat)(dd dd2:Option Addr)(sl sl2:Array (Option Value))(a c:Int)(t u:Tok)(v x:Value)(e lt:Bool) :
  Meets (Builtin.«tuple.__lt__» ⟨[.ref l,.ref b],[]⟩)
   (λA R s=>s.heap.get? l=some { cls:=.type "tuple",dict:=dd,data:=.seq #[.int a t,v] n,slots:=sl }/\s.heap.get? b=some { cls:=.type "tuple",dict:=dd2,data:=.seq #[.int c u,x] n2,slots:=sl2 }/\
    SeqAt.EqAt A.in1 s v x e/\(∀(prog:Program) (w:World) (E Q:Value->Shared->Prop),Q (.bool lt) s->wpAny (model prog w) A.in1 (richCompare .Lt v x) Q E s)/\
    R (.ok (.ret (.bool (if a=c then (if e then false else lt) else decide (a<c))))) s):=
 .of_wp λprog w A R s h=>by
  obtain⟨hp,g,d,tk,os⟩:=s;obtain⟨hl,hb,he2,hlt,h⟩:=h
  have f2:=AutoSeq1.sub_tuple_tuple
  wp_walk using bB0 hl,bB0 hb,wpAny_forIn_list _ (λbR z s'=>z.1=none/\s'=⟨hp,g,d,tk,os⟩/\(bR = [(Value.int a t,Value.int c u),(v,x)]∨(bR = [(v,x)]/\a=c)∨(bR = []/\a=c/\e=true))) _
  case turn=>
   rintro⟨p,q⟩ bR z s' ⟨hz,rfl,c1|⟨c1,ac⟩|⟨c1,_⟩⟩
   ·injection c1 with c2 c3
    injection c2 with c4 c5
    subst c4 c5
    obtain⟨e1,he1,hiff⟩:=C9 A.in1 ⟨hp,g,d,tk,os⟩ a t c u
    refine bk3 (he1 prog w _ _ ?_)
    cases e1 with
    |true=>
     wp_walk
     exact⟨rfl,rfl,.inr (.inl ⟨c3,hiff.mp rfl⟩)⟩
    |false=>
     rw[if_neg (λq=>absurd (hiff.mpr q) bm6)]at h
     have hri:=E1 A.in1 ⟨hp,g,d,tk,os⟩ a t c u prog w
     wp_walk using hri
     exact⟨_,rfl,by simpa using h⟩
   ·injection c1 with c2 c3
    injection c2 with c4 c5
    subst c4 c5
    rw[if_pos ac]at h
    refine bk3 (he2 prog w _ _ ?_)
    cases e with
    |true=>
     wp_walk
     exact⟨rfl,rfl,.inr (.inr ⟨c3,ac,rfl⟩)⟩
    |false=>
     have hri:=hlt prog w
     wp_walk using hri
     exact⟨_,rfl,by simpa using h⟩
   ·cases c1
  case fin=>
   rintro⟨b1,b2⟩ s' ⟨hz,rfl,c1|⟨c1,ac⟩|⟨c1,ac,et⟩⟩
   ·cases c1
   ·cases c1
   ·simp only at hz
    subst hz
    subst et
    rw[if_pos ac,if_pos rfl]at h
    wp_walk
    exact⟨_,rfl,by simpa[Builtin.Tuple.tupleCompareSizes] using h⟩
  case h=>exact⟨rfl,rfl,.inl rfl⟩
end
end HT
namespace L2
open PySem PySem.Spec PyProof.Rows PP
section
variable {X:Cx}{pins:List (Addr×Obj)}{s:Shared}{σ:St}{H:Hp}{M M':Addr→Prop}
abbrev lQ (a:Int)(ns:af):PV:=.tup [.int a,.tup (intz ns)]
theorem tU:∀ns:af,HT.aU ns ns=false
 |[]=>rfl
 |x::xs=>by rw[HT.gE,if_pos rfl];exact tU xs
theorem aZ3 {A:Around}(hu:A.units+4<cLine)(I:a6 X pins σ H s){x y:V}{v u:Value}{a c:Int}{ns ms:af}(r1:aF X.K M H x (lQ a ns))(r2:aF X.K M' H y (lQ c ms))(e1:aP x v)(e2:aP y u){prog:Program}{w:World}{E Q:Value->Shared->Prop}(h:Q (.bool (HT.aU (a::ns) (c::ms))) s):wpAny (model prog w) A (richCompare .Lt v u) Q E s:=by
 obtain⟨l,us,rfl,h1,q1⟩:=r1.sqT
 obtain⟨b,ws,rfl,h2,q2⟩:=r2.sqT
 cases e1
 cases e2
 obtain⟨x1,x2,rfl,p1,p2⟩:=q1.two
 obtain⟨y1,y2,rfl,p3,p4⟩:=q2.two
 cases p1
 cases p3
 obtain⟨its,v1,t1,_⟩:=I.tuple (aH.of (K:=X.K) h1)
 obtain⟨its2,v2,t2,_⟩:=I.tuple (aH.of (K:=X.K) h2)
 obtain⟨_,_,rfl,k1,k2⟩:=v1.two
 obtain⟨_,_,rfl,k3,k4⟩:=v2.two
 obtain⟨t,rfl⟩:=k1
 obtain⟨t',rfl⟩:=k3
 have eq:=x4 I 2 (A:=A.in1) (by show A.units+1+2<cLine;omega) p2 p4 k2 k4 (by exact wW 1 ns ms)
 rw[wV 1]at eq
 obtain⟨p,us,rfl,h3,q3⟩:=p2.sqT
 obtain⟨q,ws,rfl,h4,q4⟩:=p4.sqT
 obtain rfl:=q3.ofInts
 obtain rfl:=q4.ofInts
 cases k2
 cases k4
 obtain⟨its,v3,t3,_⟩:=I.tuple (aH.of (K:=X.K) h3)
 obtain⟨its2,v4,t4,_⟩:=I.tuple (aH.of (K:=X.K) h4)
 have i3:IntsAre its.toArray.toList ns:=kS v3
 have i4:IntsAre its2.toArray.toList ms:=kS v4
 obtain⟨⟨cls,dd,data,sl⟩,ho,hc,n,hd⟩:=t1
 obtain⟨⟨cls2,dd2,data2,sl2⟩,ho2,hc2,n2,hd2⟩:=t2
 simp only at hc hd hc2 hd2
 subst hc hd hc2 hd2
 refine richCompare_meets_room (op:=.Lt) ⟨_,ho,rfl⟩ ⟨_,ho2,rfl⟩ PySem.F.slot_tuple_lt PySem.F.entry_tuple_lt (PySem.F.args_tuple_lt_2 _ _) (HT.aZ2 l b n n2 dd dd2 sl sl2 a c t t' _ _ (decide (ns=ms)) (HT.aU ns ms))
  ⟨ho,ho2,eq,λprog w E Q hq=>(HT.ar9 t3 t4 i3 i4 (by show A.units+1<cLine;omega) hq:wpAny (model prog w) A.in1 (compareOp .Lt _ _) Q E s),?_⟩ (by omega)
 have e:(if a=c then (if (decide (ns=ms))=true then false else HT.aU ns ms) else decide (a<c))=HT.aU (a::ns) (c::ms):=by
  rw[HT.gE]
  by_cases ac:a=c
  ·rw[if_pos ac,if_pos ac]
   by_cases nm:ns=ms
   ·rw[if_pos (bl6 nm),nm,tU]
   ·rw[if_neg (by rw[bm8];exact nm)]
  ·rw[if_neg ac,if_neg ac]
 rw[e]
 exact⟨(λx=>nomatch x),h⟩
end
section
variable {prog:Program}{w:World}{A:Around}{R:Result→Shared→Prop}{I S:Addr}{n:Nat}{l:Addr}{its:Array Value}{s0:Shared}{bt:Nat→Nat→Bool}
abbrev at_ (s:Shared)(h:Heap)(k:Nat):Shared:={ s with heap:=h,toks:=k }
abbrev kF (g h:Heap):Prop:=∀b o,g.get? b=some o->h.get? b=some o
def bV (prog:Program)(w:World)(A:Around)(s0:Shared)(its:Array Value)(bt:Nat->Nat->Bool):Prop:=
 ∀(i j:Nat) (v u:Value) (h:Heap) (k:Nat) (Q E:Value->Shared->Prop),its[i]? = some v->its[j]? = some u->kF s0.heap h->Q (.bool (bt i j)) (at_ s0 h k)->wpAny (model prog w) A (richCompare .Lt v u) Q E (at_ s0 h k)
theorem aZ4 (hh:A.in1.handled=none)(ne:l≠I)(sI:S≠I)(sl:S≠l)(fI:s0.heap.get? I=none)(fS:s0.heap.get? S=none)(ask:bV prog w A.in1 s0 its bt)(fin:∀v h k,its[argBest bt (its.size-1)]? = some v->kF s0.heap h->R (.ok (.ret v)) (at_ s0 h k)) :
  ∀(m j:Nat) (h:Heap) (k:Nat) (v:Value) (c:Nat),its.size-(j+1)=m->j+1<=its.size->kF s0.heap h->(h.IsListIter I l (j+1)/\h.IsList l its)->its[argBest bt j]? = some v->
  h.get? S=some { cls:=.type "list",dict:=none,data:=.seq #[v,v] c,slots:=#[] }->codeAny (model prog w) A (.builtin "min.loop" ⟨[.ref I,.none,.ref S],[]⟩) R (at_ s0 h k):=by
 have W:=Walks.list (prog:=prog) (w:=w) hh I l ne its
 have nm:(toString "min"++toString ".loop":String)="min.loop":=by decide
 have nS:S∉[I]:=λz=>sI (bl0.mp z)
 have put:∀{h h':Heap},kF s0.heap h->(∀b o,b∉[I]->h.get? b=some o->h'.get? b=some o)->kF s0.heap h':=λ{h h'} o1 o2 b o e=>o2 b o (λz=>by rw[bl0.mp z,fI]at e;cases e) (o1 b o e)
 have put2:∀{h:Heap}{f:Obj->Obj},kF s0.heap h->kF s0.heap (h.update S f):=λ{h f} o1 b o e=>(bw7 _ _ (λz:S=b=>by rw[<- z,fS]at e;cases e)).trans (o1 b o e)
 intro m
 induction m with
 |zero=>
  intro j h k v c hm hj old st hv hS
  have hj2:j+1=its.size:=by omega
  refine codeAny_builtin PySem.F.entry_min_loop ?_
  rw[bB5 bv4]
  refine bk3 (bw2 hS rfl ?_)
  refine bk3 (wpAny_tryCatch (W.done _ _ _ (hj2▸st) λh2 k2 o2=>?_))
  exact bk3 (wpAny_updateSeq (o2 S _ nS hS) rfl (bk3 (wpAny_letGo (bk8 (fin v _ k2 (by rw[<- hj2];exact hv) (put2 (put old o2)))))))
 |succ m ih=>
  intro j h k v c hm hj old st hv hS
  have lt:j+1<its.size:=by omega
  refine codeAny_builtin PySem.F.entry_min_loop ?_
  rw[bB5 bv4]
  refine bk3 (bw2 hS rfl ?_)
  refine bk3 (wpAny_tryCatch (W.item (j+1) _ _ _ lt st λu h2 k2 hu st2 o2=>?_))
  have hS2:=o2 S _ nS hS
  refine bk3 (bk8 ?_)
  refine bk3 (m:=tryCatch (holding [u,u] (richCompare .Lt u v >>= _)) _) (wpAny_tryCatch (bt1 (bk3 (ask (j+1) (argBest bt j) u v h2 k2 _ _ hu hv (put old o2) ?_))))
  refine bk3 (bt1 (bu7 (bk3 (wpAny_letGo (bk8 ?_)))))
  cases hb:bt (j+1) (argBest bt j) with
  |false=>
   simp only[bn0,bq1]
   refine bk3 (wpAny_letGo ?_)
   rw[nm]
   exact bk8 ⟨plainId_quiet bv4 _,ih (j+1) h2 k2 v c (by omega) lt (put old o2) st2 (by simp only[argBest,hb,bn0,bq1];exact hv) hS2⟩
  |true=>
   simp only[if_true]
   refine bk3 (wpAny_updateSeq hS2 rfl (bk3 (wpAny_letGo ?_)))
   rw[nm]
   refine bk8 ⟨plainId_quiet bv4 _,ih (j+1) _ k2 u _ (by omega) lt (put2 (put old o2)) (W.frame _ _ _ st2 λb hb2 o e=>?_) (by simp only[argBest,hb,if_true];exact hu) (bx1 _ hS2 rfl)⟩
   refine (bw7 _ _ (λz:S=b=>?_)).trans e
   rcases bl8.mp hb2 with q|q
   ·exact sI (z.trans q)
   ·exact sl (z.trans (bl0.mp q))
end
section
variable {prog:Program}{w:World}{A:Around}{s0:Shared}{l:Addr}{its:Array Value}{bt:Nat→Nat→Bool}
theorem yX {h:Heap}{a:Addr}(z:h.objs.size<=a):h.get? a=none:=by
 cases q:h.get? a with
 |none=>rfl
 |some o=>exact absurd (bm3 q) (Nat.not_lt.mpr z)
theorem aZ5 {Q E:Value->Shared->Prop}(hh:A.in1.handled=none)(hl:s0.heap.IsList l its)(ne:0<its.size)(ask:bV prog w A.in1 s0 its bt)(fin:∀v h k,its[argBest bt (its.size-1)]? = some v->kF s0.heap h->Q v (at_ s0 h k)):wpAny (model prog w) A (call (.builtin "min") [.ref l]) Q E s0:=by
 have nm:(toString "min"++toString ".loop":String)="min.loop":=by decide
 have lb:l<s0.heap.objs.size:=by obtain⟨_,e,_⟩:=hl;exact bm3 e
 have nI:l≠s0.heap.objs.size:=bo2 lb
 have hz:(s0.heap.push { cls:=.type "list_iterator",data:=.fields #[.ref l,.int 0 0] }).objs.size=s0.heap.objs.size+1:=bw1 ..
 refine call_function_tree PySem.F.kind_min PySem.F.plain_min PySem.F.entry_min (PySem.F.args_min1 _) ?_
 refine bk3 (wpAny_of_eq (show Builtin.Builtins.bindParams "min" ["key","default"] 0 ⟨[],[]⟩=pure [none,none] from rfl) ?_)
 refine bk3 (bk8 (bk3 (wpAny_pyIter_list hl (bk3 (br7 ?_)))))
 rw[nm]
 refine bk8 ⟨plainId_quiet bv4 _,codeAny_builtin PySem.F.entry_min_loop ?_⟩
 rw[bB5 bv4]
 have W:=Walks.list (prog:=prog) (w:=w) hh s0.heap.objs.size l nI its
 have st:((s0.heap.push { cls:=.type "list_iterator",data:=.fields #[.ref l,.int 0 0] }).push { cls:=.type "list",data:=.seq #[] }).IsListIter s0.heap.objs.size l 0:=⟨_,bk6 _ (bm4 _ rfl),rfl,rfl⟩
 have sl2:((s0.heap.push { cls:=.type "list_iterator",data:=.fields #[.ref l,.int 0 0] }).push { cls:=.type "list",data:=.seq #[] }).IsList l its:=(hl.push _).push _
 have hS:=bm4 (s0.heap.push { cls:=.type "list_iterator",data:=.fields #[.ref l,.int 0 0] }) (o:={ cls:=.type "list",data:=.seq #[] }) rfl
 refine bk3 (bw2 hS rfl ?_)
 refine bk3 (wpAny_tryCatch (W.item 0 _ _ _ ne ⟨st,sl2⟩ λv h2 k2 hv st2 o2=>?_))
 have sI:(s0.heap.push { cls:=.type "list_iterator",data:=.fields #[.ref l,.int 0 0] }).objs.size≠s0.heap.objs.size:=by omega
 have sl3:(s0.heap.push { cls:=.type "list_iterator",data:=.fields #[.ref l,.int 0 0] }).objs.size≠l:=λz=>by rw[hz]at z;exact absurd lb (by rw[<- z];exact Nat.not_lt.mpr (Nat.le_succ _))
 have hS2:=o2 _ _ (λz=>sI (bl0.mp z)) hS
 have fS:s0.heap.get? (s0.heap.push { cls:=.type "list_iterator",data:=.fields #[.ref l,.int 0 0] }).objs.size=none:=yX (by omega)
 refine bk3 (bk8 ?_)
 refine bk3 (m:=updateSeq _ (λ_=>#[v,v])) (wpAny_updateSeq hS2 rfl ?_)
 rw[nm]
 refine bk8 ⟨plainId_quiet bv4 _,aZ4 hh nI sI sl3 (yX (bk7 _)) fS ask (λv h k e o=>fin v h k e o) _ 0 _ k2 v _ rfl ne (λb o e=>?_) (W.frame _ _ _ st2 λb hb o e=>?_) hv (bx1 _ hS2 rfl)⟩
 ·refine (bw7 _ _ (λz:_=b=>by rw[<- z,fS]at e;cases e)).trans (o2 b o (λz=>?_) (bk6 _ (bk6 _ e)))
  rw[bl0.mp z]at e
  rw[yX (bk7 _)]at e;cases e
 ·refine (bw7 _ _ (λz:_=b=>?_)).trans e
  rcases bl8.mp hb with q|q
  ·exact sI (z.trans q)
  ·exact sl3 (z.trans (bl0.mp q))
theorem ag4 {f:Nat->af}:∀k,argBest (λi j=>HT.aU (f i) (f j)) k<=k/\∀j,j<=k->HT.aU (f j) (f (argBest (λi j=>HT.aU (f i) (f j)) k))=false
 |0=>⟨bk7 _,λj h=>by rw[Nat.le_zero.mp h];exact tU _⟩
 |k+1=>by
  obtain⟨h1,h2⟩:=ag4 (f:=f) k
  cases hb:HT.aU (f (k+1)) (f (argBest (λi j=>HT.aU (f i) (f j)) k)) with
  |true=>
   have e:argBest (λi j=>HT.aU (f i) (f j)) (k+1)=k+1:=by simp only[argBest,hb,if_true]
   rw[e]
   refine⟨bk7 _,λj hj=>?_⟩
   rcases bp0 k j with g|g
   ·rw[show j=k+1 by omega];exact tU _
   ·exact oE (h2 j g) (kX hb)
  |false=>
   have e:argBest (λi j=>HT.aU (f i) (f j)) (k+1)=argBest (λi j=>HT.aU (f i) (f j)) k:=by simp only[argBest,hb,bn0,bq1]
   rw[e]
   refine⟨by omega,λj hj=>?_⟩
   rcases bp0 k j with g|g
   ·rw[show j=k+1 by omega];exact hb
   ·exact h2 j g
end
section
variable {X:Cx}
abbrev tV (ps:List (Int×af)):List PV:=ps.map λp=>lQ p.1 p.2
def ag5 (K:ad):List V->Hp->VK->Prop:=λxs H Q=>∃(a:Addr) (us:List V) (ps:List (Int×af)),xs = [.ref a]/\H a=some (.lst us)/\Reps K (λ_=>True) H us (tV ps)/\ps≠[]/\∀v p,p∈ps->(∀q∈ps,HT.aU (q.1::q.2) (p.1::p.2)=false)->aF K (λ_=>True) H v (lQ p.1 p.2)->Q v H
theorem aZ6 (hc:X.calm=true)(hu:X.A.units+6<cLine):cP X (.builtin "min") (ag5 X.K):=by
 intro pins s σ H xs us Q I r h
 obtain⟨a,ws,ps,rfl,ha,rr,ne,q⟩:=h
 obtain⟨u,rfl,ru⟩:=fU r
 cases ru
 obtain⟨its,rv,p,hz⟩:=I.list (aJ.of (K:=X.K) ha)
 have lr:=rv.length
 have lp:=rr.length
 rw[bl5]at lp
 have at1:∀(i:Nat) (v:Value),its.toArray[i]? = some v->∃x p,aP x v/\ps[i]? = some p/\aF X.K (λ_=>True) H x (lQ p.1 p.2):=λi v hv=>by
  have hv:its[i]? = some v:=by simpa using hv
  have hi:=(bl9.mp hv).1
  have h1:i<ws.length:=by omega
  obtain⟨w',hw',rw'⟩:=rv.get (bk5 h1)
  rw[hv]at hw'
  cases hw'
  obtain⟨m,hm,rm⟩:=rr.get (bk5 h1)
  rw[bl4]at hm
  cases hp:ps[i]? with
  |none=>rw[hp]at hm;cases hm
  |some m'=>rw[hp]at hm;cases hm;exact⟨_,_,rw',rfl,rm⟩
 have zs:its.toArray.size=ps.length:=by rw[bk9];omega
 have pos:0<its.toArray.size:=by rw[zs];exact Nat.pos_of_ne_zero λz=>ne (List.length_eq_zero_iff.mp z)
 let f:Nat->af:=λi=>match ps[i]? with|some p=>p.1::p.2|none=>[]
 have fe:∀{i p},ps[i]? = some p->f i=p.1::p.2:=λ{i p} e=>by show (match ps[i]? with|some p=>p.1::p.2|none=>[])=_;rw[e]
 refine aZ5 (bt:=λi j=>HT.aU (f i) (f j)) (I.ok.hd hc) p.isList pos (λi j v u h k Q E hv hu2 old hq=>?_) λv h k hv old=>?_
 ·obtain⟨x,p1,r1,e1,q1⟩:=at1 i v hv
  obtain⟨y,p2,r2,e2,q2⟩:=at1 j u hu2
  have I2:a6 X pins σ H (at_ s h k):=I.kept (t':=k) old
  refine aZ3 (A:=X.A.in1) (by show X.A.units+1+4<cLine;omega) I2 q1 q2 r1 r2 ?_
  rw[<- fe e1,<- fe e2]
  exact hq
 ·obtain⟨x,p1,r1,e1,q1⟩:=at1 _ v hv
  obtain⟨_,best⟩:=ag4 (f:=f) (its.toArray.size-1)
  refine⟨x,H,I.kept (t':=k) old,r1,q x p1 (bn2 e1) (λz hz2=>?_) q1⟩
  obtain⟨j,hj⟩:=List.getElem?_of_mem hz2
  have:=best j (by have:=(bl9.mp hj).1;omega)
  rwa [fe hj,fe e1]at this
end
end L2
namespace PP
open PySem L2
section
variable {X:Cx}{a b e:Expr}{ta tb:aD}{tr:cM}{pos p2:Pos}
def yY:List PV->(PV->Prop)->Prop:=λxs Q=>∃ps:List (Int×af),xs = [.lst (tV ps)]/\ps≠[]/\∀p,p∈ps->(∀q∈ps,HT.aU (q.1::q.2) (p.1::p.2)=false)->Q (lQ p.1 p.2)
theorem ag6 (a:Int)(ns:af):flat (lQ a ns)=true:=by
 show (flat (.int a)&&(flat (.tup (intz ns))&&true))=true
 rw[show flat (.tup (intz ns))=true from cR ns];rfl
theorem aZ7:eL X yY (ag5 X.K):=by
 rintro H vs xs Q Q' r ⟨ps,rfl,ne,q⟩ k
 obtain⟨v,rfl,r1⟩:=r.one
 obtain⟨a,us,rfl,_,h,r2⟩:=r1.sqL
 exact⟨a,us,ps,rfl,h,r2,ne,λv p hp hq rp=>k v H _ (aA.refl _) (rp.flat (ag6 _ _)) (q p hp hq)⟩
theorem aZ8 (B:Bt X.mg)(hc:X.calm=true)(hu:X.A.units+6<cLine)(ha:QA X [e] tr)(hg:Gl X "min":=by rfl)(he:starEach [e] X.env=(false,eval e X.env)::starEach [] X.env:=by rfl)(hpl:(backTo pos (starEach [] X.env)).any (·.1)=false:=by rfl):QE X (.Call (.Name "min" p2) [e] [] pos) (aE yY tr):=
 hG (aZ6 hc hu) aZ7 hg B.min PyProof.Rows.boot_min ha (he:=he) (hpl:=hpl)
end
theorem aZ9 {A:Around}{k:Nat}(hr:bT k A):A.units+6<cLine:=by have:=hr.units;omega
end PP
namespace Core
open PySem L2 PP
def yZ (ws:af)(ls:aa)(ps S:af):Prop:=S∈cO ws ls/\∀T∈cO ws ls,HT.aU (e9 ps T::T) (e9 ps S::S)=false
def tW:dL:=λEp xs Q=>∃ws ls p ps,xs = [bC ws ls,p]/\Wb ws ls/\ws.length<=12/\cK p ps/\ps.length<=1000/\(jI ws.length ps->∀S,yZ ws ls ps S->Q (.tup (intz S)))/\(¬jI ws.length ps->Ep "BadPrices")
def ag7 (Ep:Str->Prop):aM:=(aN (aY 2 (gN Ep kE (a7 (a5 0) a9)))
 (aN (aY 3 (gN Ep tR (a7 (a5 1) (a7 (aE gL (a7 (a5 0) a9)) a9))))
 (aN (aY 4 (aE yY (a7 (c7 (cN (a5 2)) [none,some 3] (b8 0) dX (iZ (a7 (aE tS (a7 (a5 1) (a7 (a5 0) a9))) (a7 (a5 0) a9)))) a9)))
 (bJ (bH (a5 4) (qC (.int 1)))))))
theorem ba0:iN ag7 ["web","prices","lighting","known","best"] tW:=by
 rintro Ep xs Q ⟨ws,ls,p,ps,rfl,wb,few,hp,hpl,q,qe⟩
 refine⟨_,rfl,ws,ls,rfl,wb,λ_=>⟨trivial,?_⟩,λz=>absurd z (by omega)⟩
 refine⟨_,rfl,_,rfl,ws,ls,rfl,p,ps,ws.length,rfl,hp,hpl,by omega,λg=>⟨trivial,?_⟩,qe⟩
 have q:=q g
 have ll:=yW (ls:=ls) few
 have lne:=yV ws ls
 have ok:∀S∈cO ws ls,S.length<=1000/\∀s∈S,0<=s/\s<(ps.length:Int):=λS hS=>by
  have hs:=(lO.mp hS).1
  have:=mW hs
  exact⟨by omega,λs h=>by rw[g.1];exact (eG hs).2 s h⟩
 have q:∀S,S∈cO ws ls->(∀T∈cO ws ls,HT.aU (e9 ps T::T) (e9 ps S::S)=false)->Q (.tup (intz S)):=λS h1 h2=>q S ⟨h1,h2⟩
 generalize cO ws ls=L at ll lne ok q ⊢
 refine⟨_,rfl,_,rfl,(λz=>by cases z),by rw[dI];omega,λi acc=>acc=tV ((L.take i).map λS=>(e9 ps S,S)),rfl,?_,?_⟩
 ·rintro i y acc hy rfl
  obtain⟨S,rfl,hS⟩:=jC hy
  obtain⟨o1,o2⟩:=ok S (bn2 hS)
  refine⟨_,rfl,_,rfl,_,_,ps,S,rfl,.inl rfl,.inl rfl,o1,o2,_,rfl,by show 2<=1000;decide,ag6 _ _,trivial,?_⟩
  dsimp only
  rw[bp6,hS,bn6]
  unfold tV
  rw[bn6];rfl
 rintro acc rfl
 rw[dI,bn9]
 refine⟨_,rfl,λz=>lne (bw9.mp z),λp hp hq=>⟨trivial,?_⟩⟩
 obtain⟨S,hS,rfl⟩:=bn7.mp hp
 exact⟨_,rfl,_,_,_,rfl,rfl,rfl,trivial,q S hS λT hT=>hq _ (bn7.mpr ⟨T,hT,rfl⟩)⟩
def FB (L:ae)(f:af->Int)(r:af):Prop:=∃i,L[i]? = some r/\(∀(j:Nat) (s:af),j<i->L[j]? = some s->f s<f r)/\∀s∈L,f s<=f r
def inL (S:af)(l:Int×Int):Bool:=decide (l.1∈S)&&decide (l.2∈S)
abbrev z9:dL:=ac8
def ag8 (Ep:Str->Prop):aM:=(aN (aY 1 (gN Ep nH (a7 (a5 0) a9)))
 (aN (aY 2 (gN Ep nJ (a7 (a5 0) (a7 (a5 1) a9))))
 (aN (aY 3 (c7 (sQ (a5 1)) [none,none,some 2] (oO 0 1) (jU (l5 (bH (a5 2) (a5 0))) (jV (aX (aE nG (a7 (a5 2) (a7 (a5 0) (a7 (a5 1) a9))))))) (a5 1)))
 (bJ (aE sL (a7 (a5 3) a9))))))
theorem ba1:iN ag8 ["web","chosen","holds","found"] z9:=by
 rintro Ep xs Q ⟨ws,ls,rfl,wb,q,qe⟩
 refine⟨_,rfl,ws,ls,rfl,wb.few,λfew=>⟨trivial,?_⟩,qe⟩
 obtain⟨q1,q⟩:=q few
 have ln:=lK ws.length
 have l12:2^ws.length<=4096:=bp5 (by1 (by decide) few) (by decide)
 refine⟨_,rfl,_,rfl,ws,ls,rfl,wb,few,λbs bl hb=>⟨trivial,?_⟩⟩
 unfold eR at q1 q
 have cat:∀{p:Nat}{S:af},(b6 (rng ws.length))[p]? = some S->(bs.getD p false=true↔HC ws ls S):=λ{p S} e=>hb p S e
 have sat:=λp S=>nF ws.length p S
 have hok:=λ(p:Nat) (S:af) (e:(b6 (rng ws.length))[p]? = some S) (h:p<=bs.length)=>ac7 (bs:=bs) few e h
 have hif:=λ(p:Nat) (S:af) (e:(b6 (rng ws.length))[p]? = some S)=>ac6 (bs:=bs) (ls:=ls) e λq T _ e=>hb q T e
 generalize b6 (rng ws.length)=C at *
 refine⟨_,rfl,_,.inl rfl,(λz=>by cases z),by rw[mY,dI];omega,λi acc=>acc=tups ((C.take i).filter (gA ws ls)),rfl,?_,?_⟩
 ·rintro i y acc hy rfl
  obtain⟨y,hy2,rfl⟩:=Z0 hy
  obtain⟨S,rfl,hS⟩:=jC hy2
  have il:=(bl9.mp hS).1
  have tk:(C.take (i+1)).filter (gA ws ls)=(C.take i).filter (gA ws ls)++(if gA ws ls S=true then [S] else []):=by
   rw[bp6,hS,bA6]
   congr 1
   show List.filter _ [S]=_
   simp only[bp7,List.filter_nil]
  have ix:L2.atI (fC bs) (i:Int)=some (.bl (bs.getD i false)):=iS (by show (List.map PV.bl bs)[i]? = _;rw[bl4,bl3,bk5 (by omega)];rfl)
  obtain⟨k1,k2⟩:=hok i S hS (by omega)
  have hw:=hif i S hS
  have le:=aR7 (ws:=ws) (ls:=ls) S
  refine⟨_,_,rfl,_,rfl,_,rfl,_,_,_,rfl,rfl,ix,_,rfl,?_⟩
  cases hbi:bs.getD i false with
  |false=>
   have:gA ws ls S=false:=by
    cases z:gA ws ls S with
    |false=>rfl
    |true=>
     have:=(cat hS).mpr (le.mpr (kD.mp z)).1
     rw[hbi]at this;cases this
   rw[this]at tk
   refine bG (bG ?_)
   dsimp only
   rw[tk];simp
  |true=>
   refine bP ⟨_,rfl,_,rfl,_,rfl,bs,i,S,rfl,k1,k2,_,rfl,?_⟩
   cases hwb:lM bs i S with
   |true=>
    have:gA ws ls S=false:=by
     cases z:gA ws ls S with
     |false=>rfl
     |true=>exact absurd (hw.mp hwb) (le.mpr (kD.mp z)).2
    rw[this]at tk
    refine bG ?_
    dsimp only
    rw[tk];simp
   |false=>
    have:gA ws ls S=true:=kD.mpr (le.mp ⟨(cat hS).mp hbi,λz=>by rw[hw.mpr z]at hwb;cases hwb⟩)
    rw[this]at tk
    refine bP ⟨_,rfl,yH _ (pF S),?_⟩
    dsimp only
    rw[tk]
    unfold tups
    rw[bn6];rfl
 rintro acc rfl
 rw[mY,dI,bn9]
 refine⟨trivial,?_⟩
 refine⟨_,rfl,C.filter (gA ws ls),rfl,q1,λy hy=>(kD.mp (bm0.mp hy).2).1,λZ pz so=>⟨trivial,q Z pz so⟩⟩
structure Moved (ws os ws':af):Prop where
 len:ws'.length=ws.length
 at_:∀h:Nat,h<ws.length->ws'[(os.getD h 0).toNat]? = ws[h]?
end Core
namespace L2
open PySem PySem.Spec PyProof.Rows
def iP:HO->Bool
 |.dK _=>true
 |.dT _=>true
 |_=>false
section
variable {X:Cx}{pins:List (Addr×Obj)}{σ:St}{H H':Hp}{s:Shared}{a:Addr}
theorem a6.frozeD {o:Obj}{u:HO}(I:a6 X pins σ H s)(h:H a=some u)(du:iP u=true)(e:s.heap.get? a=some o):a6 X pins σ (upd H a (.frz o u)) s:=by
 have own:∀{c:Addr}{y:Addr},H c=some (.own y)->c≠a:=λ{c y} q z=>by rw[z,h]at q;cases q;cases du
 have tp:∀{c:Addr}{xs:List V},H c=some (.tup xs)->c≠a:=λ{c xs} q z=>by rw[z,h]at q;cases q;cases du
 refine I.reH (a:=a) (λb n=>aC n) ⟨_,h⟩ (λxs q=>by rw[h]at q;cases q;cases du) (λo' v q=>by have:=I.base.frzs a o' v q;rw[h]at this;cases this;cases du) (λps q=>by rw[h]at q;cases q;cases du) λb v q=>?_
 by_cases hb:b=a
 ·subst hb
  rw[aT]at q;cases q
  exact⟨e,(I.hok b _ h).stay (λ_ _ _ q=>q) (λc q=>by rw[aC (own q)];exact q) λc xs q=>by rw[aC (tp q)];exact q⟩
 ·rw[aC hb]at q
  exact (I.hok b v q).stay (λ_ _ _ q=>q) (λc q=>by rw[aC (own q)];exact q) λc xs q=>by rw[aC (tp q)];exact q
end
def zA (H:Hp):HO->List V->Prop
 |.dK kvs,ys=>ys=kvs.map λp=>kV p.1
 |.dT kvs,ys=>Paired (vY H) ys (kvs.map (·.1))
 |_,_=>False
section
variable {X:Cx}{tg l:Expr}{tl:TE}
def zB (tl:TE):TI:=λσ H R=>tl σ H λx H1=>∃a u,x = .ref a/\H1 a=some u/\iP u=true/\∀o ys,zA H1 u ys->R (V7 a o ys) (upd H1 a (.frz o u))
theorem ba2 (hl:PE X l tl):PI X tg l (zB tl):=by
 intro pins s σ H R I h
 refine aK (hl pins s σ H _ I h) λv s1 h1=>?_
 obtain⟨x,H1,I1,r1,a,u,e,ha,du,q⟩:=h1
 subst e
 cases r1
 have hf:H1 s1.heap.objs.size=none:=I1.hok.fresh (bk7 _)
 obtain⟨es,ep,ys,⟨o,e1,e2,e3⟩,far,pk,vl⟩:∃es ep ys,Raw.kY s1.heap a es ep/\(a==sysModules)=false/\zA H1 u ys/\aI ys (es.toList.map (·.key)):=by
  cases u with
  |dK kvs=>
   obtain⟨es,ep,rw_,far,vl,z⟩:=ay5 I1 ha
   exact⟨es,ep,_,rw_,far,rfl,vl⟩
  |dT kvs=>
   obtain⟨es,ep,ys,rw_,far,pk,vl,z⟩:=ay6 I1 ha
   exact⟨es,ep,ys,rw_,far,pk,vl⟩
  |_=>cases du
 refine Raw.made far ⟨o,e1,e2,e3⟩ ?_
 refine⟨s1.heap.objs.size,[s1.heap.objs.size],_,_,upd H1 a (.frz o u),rfl,(I1.frozeD ha du e1).kept (t':=s1.toks) λb o e=>bk6 _ e,aJ9 a _ ⟨e2,e3⟩ vl,⟨_,bm4 _ rfl,rfl,rfl⟩,λb hb=>?_,q o ys pk⟩
 obtain rfl:b=s1.heap.objs.size:=by simpa using hb
 exact I1.fpOk (bk7 _) (by rw[aC (λz=>by rw[z,ha]at hf;cases hf)];exact hf)
end
end L2
namespace PP
open PySem L2
mutual
def dF:PV->Bool
 |.tup xs=>nods xs
 |.lst xs=>nods xs
 |.kt xs=>nods xs
 |.dK _=>false
 |.dT _=>false
 |.fK _=>false
 |.fT _=>false
 |.fL xs=>nods xs
 |.non=>true
 |.bl _=>true
 |.int _=>true
 |.str _=>true
 |.scr _=>true
 |.exc _=>true
def nods:List PV->Bool
 |[]=>true
 |x::r=>dF x&&nods r
end
structure kG (M M':Addr->Prop)(H H':Hp):Prop where
 lst:∀a us,M a->H a=some (.lst us)->M' a/\H' a=some (.lst us)
 tup:∀a us,H a=some (.tup us)->H' a=some (.tup us)
 frz:∀a o u,H a=some (.frz o u)->iP u=false->H' a=some (.frz o u)
mutual
theorem aF.keepN {K:ad}{M M':Addr->Prop}{H H':Hp}(k:kG M M' H H'):∀{v:V}{x:PV},dF x=true->aF K M H v x->aF K M' H' v x
 |_,_,_,.non=>.non
 |_,_,_,.bl b=>.bl b
 |_,_,_,.int i=>.int i
 |_,_,_,.str x=>.str x
 |_,_,f,.tup h r=>.tup (k.tup _ _ h) (Reps.keepN k (by unfold PP.dF at f;exact f) r)
 |_,_,f,.lst m h r=>.lst (k.lst _ _ m h).1 (k.lst _ _ m h).2 (Reps.keepN k (by unfold PP.dF at f;exact f) r)
 |_,_,f,.dK m h e r=>by unfold PP.dF at f;cases f
 |_,_,f,.dT m h e r=>by unfold PP.dF at f;cases f
 |_,_,_,.scr h=>.scr (h.elim (λ⟨o,e⟩=>.inl ⟨o,k.frz _ _ _ e rfl⟩) .inr)
 |_,_,f,.kt h r=>.kt h (Reps.keepN k (by unfold PP.dF at f;exact f) r)
 |_,_,_,.exc h e c=>.exc (k.frz _ _ _ h rfl) e c
 |_,_,f,.fK h e r=>by unfold PP.dF at f;cases f
 |_,_,f,.fT h e r=>by unfold PP.dF at f;cases f
 |_,_,f,.fL h r=>.fL (k.frz _ _ _ h rfl) (Reps.keepN k (by unfold PP.dF at f;exact f) r)
theorem Reps.keepN {K:ad}{M M':Addr->Prop}{H H':Hp}(k:kG M M' H H'):∀{vs:List V}{xs:List PV},nods xs=true->Reps K M H vs xs->Reps K M' H' vs xs
 |_,_,_,.nil=>.nil
 |_,_,f,.cons r t=>by
  unfold PP.nods at f
  rw[bp4]at f
  exact .cons (aF.keepN k f.1 r) (Reps.keepN k f.2 t)
end
theorem kG.froze {M M':Addr->Prop}{H:Hp}{a:Addr}{u:HO}{o:Obj}(h:H a=some u)(du:iP u=true)(m:∀b us,M b->H b=some (.lst us)->M' b):kG M M' H (upd H a (.frz o u)):=
 ⟨λb us hb e=>⟨m b us hb e,by rw[aC (λz=>by rw[z,h]at e;cases e;cases du)];exact e⟩,λb us e=>by rw[aC (λz=>by rw[z,h]at e;cases e;cases du)];exact e,
  λb o' u' e _=>by rw[aC (λz=>by rw[z,h]at e;cases e;cases du)];exact e⟩
theorem kG.thaw {M M':Addr->Prop}{H:Hp}{a:Addr}{u w:HO}{o:Obj}(h:H a=some (.frz o u))(du:iP u=true)(m:∀b us,M b->H b=some (.lst us)->M' b):kG M M' H (upd H a w):=
 ⟨λb us hb e=>⟨m b us hb e,by rw[aC (λz=>by rw[z,h]at e;cases e)];exact e⟩,λb us e=>by rw[aC (λz=>by rw[z,h]at e;cases e)];exact e,
  λb o' u' e d'=>by rw[aC (λz=>by rw[z,h]at e;cases e;rw[du]at d';cases d')];exact e⟩
mutual
theorem ba3:∀{x:PV},flat x=true->dF x=true
 |.tup xs,f=>by unfold PP.flat at f;unfold PP.dF;exact flats_nods f
 |.kt xs,f=>by unfold PP.flat at f;unfold PP.dF;exact flats_nods f
 |.lst xs,f=>by unfold PP.flat at f;cases f
 |.dK _,f=>by unfold PP.flat at f;cases f
 |.dT _,f=>by unfold PP.flat at f;cases f
 |.fK _,f=>by unfold PP.flat at f;cases f
 |.fT _,f=>by unfold PP.flat at f;cases f
 |.fL xs,f=>by unfold PP.flat at f;unfold PP.dF;exact flats_nods f
 |.non,_=>by unfold PP.dF;rfl
 |.bl _,_=>by unfold PP.dF;rfl
 |.int _,_=>by unfold PP.dF;rfl
 |.str _,_=>by unfold PP.dF;rfl
 |.scr _,_=>by unfold PP.dF;rfl
 |.exc _,_=>by unfold PP.dF;rfl
theorem flats_nods:∀{xs:List PV},flats xs=true->nods xs=true
 |[],_=>by unfold PP.nods;rfl
 |x::r,f=>by
  unfold PP.flats at f
  rw[bp4]at f
  unfold PP.nods
  rw[ba3 f.1,flats_nods f.2];rfl
end
def fz:PV->PV
 |.dK ps=>.fK ps
 |.dT ps=>.fT ps
 |x=>x
def ba4:PV->Option (List PV)
 |.dK ps=>some (ps.map λp=>kP p.1)
 |.dT ps=>some (ps.map λp=>.tup (p.1.map kP))
 |_=>none
def ba5:PV->List PV
 |.dK ps=>ps.map (·.2)
 |.dT ps=>ps.map (·.2)
 |_=>[]
section
variable {X:Cx}{σ:St}{H:Hp}{Q':VK}
theorem ba6 {K:ad}{M:Addr->Prop}{H:Hp}(k:aG):aF K M H (kV k) (kP k):=by cases k<;>constructor
end
end PP
namespace Core
open PySem L2 PP
def zC (r c:Int)(l:Int×Int):Bool:=decide (0<=l.1)&&(decide (l.1<r)&&(decide (0<=l.2)&&decide (l.2<c)))
def ba7 (l:Int×Int):aa:=[(l.1-1,l.2),(l.1,l.2-1),(l.1,l.2+1),(l.1+1,l.2)]
def zD (r c:Int)(l:Int×Int):aa:=(ba7 l).filter (zC r c)
theorem ag9:∀{l m:af},l.Nodup->(∀x∈l,x∈m)->l.length<=m.length
 |[],_,_,_=>bo4 _
 |a::r,m,nd,h=>by
  have hm:=h a bl7
  have:=ag9 (l:=r) (m:=m.erase a) (bu1.mp nd).2 λx hx=>(List.mem_erase_of_ne (show x≠a from λe=>(bu1.mp nd).1 (by rw[<- e];exact hx))).mpr (h x (bm1 _ hx))
  rw[List.length_erase_of_mem hm]at this
  have:=List.length_pos_of_mem hm
  rw[bo3];omega
section
variable {ls:aa}{n:Nat}{B:af}
def ins (ls:aa)(S:af)(h:Int):Nat:=((bB ls h).filter λx=>decide (x∈S)).length
end
def keep2 (ls:aa)(L:af):af:=L.filter λh=>decide (2<=ins ls L h)
end Core
namespace L2
open PySem PySem.Spec PyProof.Rows SO
abbrev kk (l:Int×Int):List aG:=[Sum.inl l.1,Sum.inl l.2]
end L2
namespace Core
open PySem L2 PP
inductive pO (r c:Int)(S:aa):Int×Int->Prop
 |seed {x:Int×Int}:x∈S->pO r c S x
 |kin {x a b:Int×Int}:zC r c x=true->a∈zD r c x->b∈zD r c x->a≠b->pO r c S a->pO r c S b->pO r c S x
def nbC (r c:Int)(P:aa)(x:Int×Int):Nat:=(P.filter λp=>decide (x∈zD r c p)).length
structure Wk (r c:Int)(S K P:aa):Prop where
 nd:K.Nodup
 ndP:P.Nodup
 sub:∀x∈P,x∈K
 brn:∀x∈K,pO r c S x
 sd:∀x∈S,x∈K
 bd:∀x∈K,zC r c x=true
 low:∀x,x∉K->nbC r c P x<2
end Core
namespace L2
open PySem PySem.Spec PyProof.Rows SO
abbrev kn (ns:af):List aG:=ns.map Sum.inl
end L2
namespace Core
open PySem L2 PP
structure Bx where
 t:Int
 l:Int
 b:Int
 r:Int
deriving DecidableEq
def Bx.k (x:Bx):af:=[x.t,x.l,x.b,x.r]
def okX (x:Bx):Prop:=x.t<=x.b/\x.l<=x.r
def inX (x:Bx)(p:Int×Int):Prop:=x.t<=p.1/\p.1<=x.b/\x.l<=p.2/\p.2<=x.r
def ah0 (x a:Int×Int):Prop:=(a.1=x.1/\(a.2=x.2-1∨a.2=x.2+1))∨(a.2=x.2/\(a.1=x.1-1∨a.1=x.1+1))
def Clo (B:Bx)(U:Int×Int->Prop):Prop:=∀x a b,inX B x->ah0 x a->ah0 x b->a≠b->U a->U b->U x
section
variable {B:Bx}{U:Int×Int→Prop}
variable {t l b r:Int}
section
variable (cl:Clo B U){p1 p2:Int}(u:U (p1, p2))(ip:inX B (p1, p2))
include cl u ip
end
end
theorem tX {i:Nat}{x:PV}{g:Bool}{ρ:b7}{Q:b7->Prop}(f:flat x=true)(q:Q (ρ.set i (some (.sh true x)))):b8 i x g ρ Q:=by
 unfold b8
 rw[f,Bool.or_true]
 exact q
theorem ah1 {α:Type}(p q:α->Bool):∀l:List α,(l.filter p).length=(l.filter λx=>p x&&!q x).length+(l.filter λx=>q x&&p x).length
 |[]=>rfl
 |a::r=>by
  have ih:=ah1 p q r
  rw[bp7,bp7,bp7]
  cases p a<;>cases q a<;>simp<;>omega
section
variable {ls:aa}{n:Nat}{U:af}{v:Int}
noncomputable def mu (ls:aa)(U:af):Int:=((ls.filter (inL U)).length:Int)-(U.length:Int)+((aT0 ls U).length:Int)
end
abbrev Wys:=List (Int×af)
section
variable {ls:aa}{l:Int×Int}{n:Nat}{S U:af}{h x y:Int}
theorem ba8 (n:Nat):bD n (rng n)=true:=by
 have:=aQ5 n λ_=>true
 rwa [bv7.mpr λ_ _=>rfl]at this
end
abbrev Prs:=List (Int×Option Int)
theorem ba9 (n:Nat):dD 0 n=intz (rng n):=by
 refine List.ext_getElem? λi=>?_
 by_cases h:i<n
 ·rw[wR h]
  unfold intz
  rw[bl4,pE h,bx7];rfl
 ·rw[bA8 (by rw[dO];omega),bA8 (by rw[aW,eZ];omega)]
abbrev tY:=List (Int×af)
def ksB (W:tY):af:=W.map (·.1)
section
variable {ws:af}{n:Nat}{ls:aa}{P:Prs}{W T:tY}{D B:af}{h x y c:Int}{e:Option Int}
structure oC (P:Prs)(W:tY)(D:af)(x:Int)(B:af):Prop where
 self:x∈B
 nd:B.Nodup
 up:∀y∈B,y=x∨(y∈ksB W/\∃e,(y,some e)∈P/\e∈B)
 dn:∀y∈B,∀c,(c,some y)∈P->c∈ksB W->c∈B
 inn:∀y∈B,y∈D
end
theorem bb0 {i:Nat}{b:af}{g:Bool}{ρ:b7}{Q:b7->Prop}(q:Q (ρ.set i (some (.sh true (.tup (intz b)))))):b8 i (.tup (intz b)) g ρ Q:=by
 show Q (ρ.set i (some (.sh (g||flats (intz b)) (.tup (intz b)))))
 rw[cR,Bool.or_true];exact q
section
variable {ws:af}{ls:aa}{B S:af}{qs:tY}
theorem bb1 (st:stay ws ls B=B):fQ ws ls (cB ws.length B):=λh hh=>by
 unfold kin
 by_cases z:h∈B
 ·have s1:fB ws ls B h=true:=by
   have:=bv7.mp st h z
   exact this
  unfold fB at s1
  have s2:=bq2 s1
  unfold eQ at s2
  have e:=ah1 (λ_:Int=>true) (λz=>decide (z∈B)) (bB ls h)
  rw[bv7.mpr λ_ _=>rfl]at e
  have c:((bB ls h).filter λx=>decide (x∈B)&&true)=(bB ls h).filter λx=>decide (x∈B):=List.filter_congr λx _=>bA1 _
  rw[c]at e
  have d:((bB ls h).filter λx=>decide (x∈cB ws.length B)).length<=((bB ls h).filter λx=>true&&!decide (x∈B)).length:=by
   refine List.Sublist.length_le ?_
   have:((bB ls h).filter λx=>decide (x∈cB ws.length B))=(((bB ls h).filter λx=>true&&!decide (x∈B)).filter λx=>decide (x∈cB ws.length B)):=by
    rw[List.filter_filter]
    refine List.filter_congr λx _=>?_
    unfold cB
    rw[bq8]
    simp only[bm8,bm0,bp4,Bool.not_eq_true',bq4,Bool.true_and]
    exact⟨λz=>⟨z,z.2⟩,λz=>z.1⟩
   rw[this]
   exact bz5
  rw[Bool.and_eq_false_iff]
  exact .inr (bl1 (by omega))
 ·have:h∈cB ws.length B:=bm0.mpr ⟨hh,by rw[bl1 z];rfl⟩
  rw[bl6 this];rfl
theorem bb2 (st:stay ws ls B=B){x:Int}(hx:x∈B)(xr:x∈rng ws.length)(f:dM ws ls S=true)(sub:∀s∈S,s∈rng ws.length):∃y∈B,y∈S:=by
 refine bv5 λno=>?_
 have:=tF.mp f (cB ws.length B) (bb1 st) (λs hs=>bm0.mpr ⟨sub s hs,by rw[bl1 λz=>no ⟨s,z,hs⟩];rfl⟩) x xr
 have:=(bm0.mp this).2
 rw[bl6 hx]at this
 cases this
end
end Core
namespace L2
open PySem PySem.Spec PyProof.Rows
abbrev Cx.re (X:Cx)(H0:Hp):Cx:={ X with H₀:=H0 }
section
variable {X:Cx}{pins:List (Addr×Obj)}{σ:St}{H:Hp}{s:Shared}{a:Addr}{o:Obj}{u:HO}
theorem a6.re (I:a6 X pins σ H s)(hx:X.H₀ a=some u)(ha:H a=some (.frz o u)):a6 (X.re (upd X.H₀ a (.frz o u))) pins σ H s:=by
 have ne:∀b,X.H₀ b=none->b≠a:=λb e z=>by rw[z,hx]at e;cases e
 have un:∀b,upd X.H₀ a (.frz o u) b=none->X.H₀ b=none:=λb e=>by
  by_cases z:b=a
  ·rw[z,aT]at e;cases e
  ·rw[aC z]at e;exact e
 have ok:=I.ok
 exact⟨⟨ok.mod,ok.kind,ok.glob,ok.blt,ok.above,ok.inj,ok.has,ok.cab,ok.hd,ok.frames,ok.stk,ok.exf,λb o' e=>⟨(ok.bs b o' e).1,by show upd X.H₀ a _ b=none;rw[aC (ne b (ok.bs b o' e).2)];exact (ok.bs b o' e).2⟩,ok.bsz,ok.noex,ok.exfs,ok.funs,λb hb=>by show upd X.H₀ a _ b=none;rw[aC (ne b (ok.frf b hb))];exact ok.frf b hb⟩,I.os,I.bare,
  ⟨λb o' e n=>I.base.keep b o' e (un b n),λb o' e n=>I.base.slot b o' e (un b n),λb o' e n=>I.base.free b o' e (un b n),I.base.there,λb xs e=>by
   by_cases z:b=a
   ·have e:upd X.H₀ a (.frz o u) b=some (.tup xs):=e
    rw[z,aT]at e;cases e
   ·exact I.base.tups b xs (by have e:upd X.H₀ a (.frz o u) b=some (.tup xs):=e;rw[aC z]at e;exact e),λb o' v e=>by
   by_cases z:b=a
   ·have e:upd X.H₀ a (.frz o u) b=some (.frz o' v):=e
    rw[z,aT]at e;cases e;rw[z];exact ha
   ·exact I.base.frzs b o' v (by have e:upd X.H₀ a (.frz o u) b=some (.frz o' v):=e;rw[aC z]at e;exact e),λb ps e=>by
   by_cases z:b=a
   ·have e:upd X.H₀ a (.frz o u) b=some (.tbl ps):=e
    rw[z,aT]at e;cases e
   ·exact I.base.tbls b ps (by have e:upd X.H₀ a (.frz o u) b=some (.tbl ps):=e;rw[aC z]at e;exact e)⟩,I.loc,I.cell,I.free,I.freeC,I.pin,I.hok,I.len⟩
theorem a6.unre (I:a6 (X.re (upd X.H₀ a (.frz o u))) pins σ H s)(hx:X.H₀ a=some u)(du:iP u=true):a6 X pins σ H s:=by
 have ne:∀b,X.H₀ b=none->b≠a:=λb e z=>by rw[z,hx]at e;cases e
 have to_:∀b,X.H₀ b=none->upd X.H₀ a (.frz o u) b=none:=λb e=>by rw[aC (ne b e)];exact e
 have un:∀b,upd X.H₀ a (.frz o u) b=none->X.H₀ b=none:=λb e=>by
  by_cases z:b=a
  ·rw[z,aT]at e;cases e
  ·rw[aC z]at e;exact e
 have ok:=I.ok
 exact⟨⟨ok.mod,ok.kind,ok.glob,ok.blt,ok.above,ok.inj,ok.has,ok.cab,ok.hd,ok.frames,ok.stk,ok.exf,λb o' e=>⟨(ok.bs b o' e).1,un b (ok.bs b o' e).2⟩,ok.bsz,ok.noex,ok.exfs,ok.funs,λb hb=>un b (ok.frf b hb)⟩,I.os,I.bare,
  ⟨λb o' e n=>I.base.keep b o' e (to_ b n),λb o' e n=>I.base.slot b o' e (to_ b n),λb o' e n=>I.base.free b o' e (to_ b n),I.base.there,λb xs e=>I.base.tups b xs (by
   show upd X.H₀ a _ b=_
   rw[aC λz=>by rw[z,hx]at e;cases e;cases du];exact e),λb o' v e=>I.base.frzs b o' v (by
   show upd X.H₀ a _ b=_
   rw[aC λz=>by rw[z,hx]at e;cases e;cases du];exact e),λb ps e=>I.base.tbls b ps (by
   show upd X.H₀ a _ b=_
   rw[aC λz=>by rw[z,hx]at e;cases e;cases du];exact e)⟩,I.loc,I.cell,I.free,I.freeC,I.pin,I.hok,I.len⟩
structure ReH (H0 H1:Hp)(a:Addr)(o:Obj)(u:HO):Prop where
 how:(H0 a=none/\H1=H0)∨(H0 a=some u/\H1=upd H0 a (.frz o u))
 was:∀w,H0 a=some w->w=u
def tRe (X:Cx)(T:Hp->TS):TS:=λD σ H=>∃H1 a o u,ReH X.H₀ H1 a o u/\iP u=true/\H a=some (.frz o u)/\T H1 D σ H
theorem bb3 {body:List Stmt}{T:Hp->TS}(hb:∀H0,dG (X.re H0) body (T H0)):dG X body (tRe X T):=by
 intro pins s σ H D I h
 obtain⟨H1,a,o,u,⟨how,_⟩,du,ha,t⟩:=h
 rcases how with⟨_,rfl⟩|⟨hx,rfl⟩
 ·exact hb X.H₀ pins s σ H D I t
 ·refine aK (hb (upd X.H₀ a (.frz o u)) pins s σ H D (I.re hx ha) t) λf s1 h1=>?_
  cases f with
  |next=>obtain⟨σ',H',I',q⟩:=h1;exact⟨σ',H',I'.unre hx du,q⟩
  |brk=>obtain⟨σ',H',I',q⟩:=h1;exact⟨σ',H',I'.unre hx du,q⟩
  |cont=>obtain⟨σ',H',I',q⟩:=h1;exact⟨σ',H',I'.unre hx du,q⟩
  |ret v=>obtain⟨w,σ',H',I',q⟩:=h1;exact⟨w,σ',H',I'.unre hx du,q⟩
def ah2 (X:Cx)(i:Nat)(g:TG)(tb:TS):TS:=λD σ H=>pV (zB (eS i)) g tb { nx:=λσ' H'=>∃a o u,H' a=some (.frz o u)/\(∀o' v',X.H₀ a≠some (.frz o' v'))/\D.nx σ' (upd H' a u),rt:=λ_ _=>False } σ H
theorem bb4 {st:Stmt}{i:Nat}{g:TG}{tb:TS}(h:PS X st (pV (zB (eS i)) g tb)):PS X st (ah2 X i g tb):=by
 intro pins s σ H D I hq
 refine aK (h pins s σ H _ I hq) λf s1 h1=>?_
 cases f with
 |next=>
  obtain⟨σ',H1,I1,a,o,u,e,n,q⟩:=h1
  exact⟨σ',_,I1.thaw e n,q⟩
 |brk=>obtain⟨_,_,_,q⟩:=h1;exact q.elim
 |cont=>obtain⟨_,_,_,q⟩:=h1;exact q.elim
 |ret v=>obtain⟨_,_,_,_,_,q⟩:=h1;exact q.elim
end
end L2
namespace PP
open PySem L2
def pP:Slot->Bool
 |.sh _ x=>dF x
 |.own (.lst xs)=>nods xs
 |.own (.dK ps)=>nods (ps.map (·.2))
 |.own (.dT ps)=>nods (ps.map (·.2))
 |.own _=>false
section
variable {K:ad}{H0 H1:Hp}{W:Addr→Prop}{σ:St}{ρ:b7}{H:Hp}{a:Addr}{o:Obj}{u:HO}
theorem _root_.L2.ReH.nn (R:ReH H0 H1 a o u)(b:Addr):H1 b=none↔H0 b=none:=by
 rcases R.how with⟨_,rfl⟩|⟨e,rfl⟩
 ·exact Iff.rfl
 ·by_cases z:b=a
  ·rw[z,aT,e];exact⟨(λz=>by cases z),λz=>by cases z⟩
  ·rw[aC z]
theorem _root_.L2.ReH.off (R:ReH H0 H1 a o u){b:Addr}(z:b≠a):H1 b=H0 b:=by
 rcases R.how with⟨_,rfl⟩|⟨e,rfl⟩
 ·rfl
 ·rw[aC z]
theorem ah3 (R:ReH H0 H1 a o u){g:Bool}{b:Addr}:Ms H0 W g b↔Ms H1 W g b:=by
 cases g with
 |true=>exact and_congr Iff.rfl (R.nn b).symm
 |false=>exact Iff.rfl
theorem bb5 (R:ReH H0 H1 a o u){H':Hp}{m:Slot}{v:V}(sf:pP m=true)(kn:∀g,kG (Ms H0 W g) (Ms H1 W g) H H')(km:∀b w,W b->H b=some w->H' b=some w)(r:qT K H0 W H v m):qT K H1 W H' v m:=by
 cases m with
 |sh g x=>exact aF.keepN (kn g) sf r
 |own x=>
  obtain⟨b,e1,wb,r⟩:=r
  refine⟨b,e1,wb,?_⟩
  cases x with
  |lst xs=>obtain⟨us,e,r⟩:=r;exact⟨us,km b _ wb e,Reps.keepN (kn true) sf r⟩
  |dK ps=>obtain⟨us,e,q,r⟩:=r;exact⟨us,km b _ wb e,q,Reps.keepN (kn true) sf r⟩
  |dT ps=>obtain⟨us,e,q,r⟩:=r;exact⟨us,km b _ wb e,q,Reps.keepN (kn true) sf r⟩
  |_=>cases sf
theorem bb6 {i:Nat}{x:PV}(px:PX K H0 W σ ρ H)(R:ReH H0 H1 a o u)(ha:H a=some u)(du:iP u=true)(wa:¬W a)(ev:σ[i]? = some (some (.ref a)))(sf:∀j m,j≠i->ρ[j]? = some (some m)->pP m=true)(rf:aF K (λb=>¬W b) (upd H a (.frz o u)) (.ref a) (fz x)):PX K H1 W σ (ρ.set i (some (.sh false (fz x)))) (upd H a (.frz o u)):=by
 have nw:∀b,W b->b≠a:=λb z e=>wa (e▸z)
 refine⟨by rw[br8];exact px.len,λb w e=>?_,λb z=>?_,λj m h=>?_,λj k y z b h1 h2 h3 h4=>?_⟩
 ·by_cases z:b=a
  ·subst z
   rcases R.how with⟨n0,rfl⟩|⟨e0,rfl⟩
   ·rw[n0]at e;cases e
   ·rw[aT]at e ⊢;exact e
  ·rw[aC z];rw[R.off z]at e;exact px.same _ _ e
 ·obtain⟨h1,w,h2,h3⟩:=px.wm b z
  exact⟨(R.nn b).mpr h1,w,by rw[aC (nw b z)];exact h2,h3⟩
 ·rcases fX h with⟨rfl,hl,e⟩|⟨hne,h⟩
  ·cases e
   exact⟨_,ev,rf⟩
  ·obtain⟨v,e,r⟩:=px.sl j m h
   exact⟨v,e,bb5 R (sf j m hne h) (λg=>.froze ha du λb us hb _=>(ah3 R).mp hb) (λb w wb e=>by rw[aC (nw b wb)];exact e) r⟩
 ·rcases fX h1 with⟨_,_,e⟩|⟨_,h1⟩
  ·cases e
  ·rcases fX h2 with⟨_,_,e⟩|⟨_,h2⟩
   ·cases e
   ·exact px.dis j k y z b h1 h2 h3 h4
theorem bb7 {ρ3:b7}{H2:Hp}(px:PX K H1 W σ ρ H2)(R:ReH H0 H1 a o u)(ha:H2 a=some (.frz o u))(du:iP u=true)(wa:¬W a)(hl:ρ3.length=ρ.length)(sf:∀(j:Nat) m,ρ3[j]? = some (some m)->ρ[j]? = some (some m)/\pP m=true):PX K H0 W σ ρ3 (upd H2 a u):=by
 have nw:∀b,W b->b≠a:=λb z e=>wa (e▸z)
 have kn:∀g,kG (Ms H1 W g) (Ms H0 W g) H2 (upd H2 a u):=λg=>.thaw ha du λb us hb _=>(ah3 R).mpr hb
 refine⟨by rw[hl];exact px.len,λb w e=>?_,λb z=>?_,λj m h=>?_,λj k y z b h1 h2 h3 h4=>px.dis j k y z b (sf _ _ h1).1 (sf _ _ h2).1 h3 h4⟩
 ·by_cases z:b=a
  ·subst z
   rw[R.was w e,aT]
  ·rw[aC z];rw[<- R.off z]at e;exact px.same _ _ e
 ·obtain⟨h1,w,h2,h3⟩:=px.wm b z
  exact⟨(R.nn b).mp h1,w,by rw[aC (nw b z)];exact h2,h3⟩
 ·obtain⟨h1,h2⟩:=sf j m h
  obtain⟨v,e,r⟩:=px.sl j m h1
  refine⟨v,e,?_⟩
  cases m with
  |sh g x=>exact aF.keepN (kn g) h2 r
  |own x=>
   obtain⟨b,e1,wb,r⟩:=r
   have km:∀w,H2 b=some w->upd H2 a u b=some w:=λw e=>by rw[aC (nw b wb)];exact e
   refine⟨b,e1,wb,?_⟩
   cases x with
   |lst xs=>obtain⟨us,e,r⟩:=r;exact⟨us,km _ e,Reps.keepN (kn true) h2 r⟩
   |dK ps=>obtain⟨us,e,q,r⟩:=r;exact⟨us,km _ e,q,Reps.keepN (kn true) h2 r⟩
   |dT ps=>obtain⟨us,e,q,r⟩:=r;exact⟨us,km _ e,q,Reps.keepN (kn true) h2 r⟩
   |_=>cases h2
end
section
variable {X:Cx}{σ:St}{H:Hp}{D:cG}
def tZ (i:Nat)(p:gY)(tb:aM):aM:=λD ρ=>∃x ks,ρ[i]? = some (some (.sh false x))/\ba4 x=some ks/\nods (ba5 x)=true/\(∀j m,j≠i->ρ[j]? = some (some m)->pP m=true)/\∃I:Nat->b7->Prop,I 0 (ρ.set i (some (.sh false (fz x))))/\
 (∀k y ρ',ks[k]? = some y->I k ρ'->p y true ρ' λρ2=>tb { nx:=I (k+1),ct:=I (k+1),rt:=λ_=>False } ρ2)/\∀ρ',I ks.length ρ'->∃ρ3,ρ3.length=ρ'.length/\(∀(j:Nat) m,ρ3[j]? = some (some m)->ρ'[j]? = some (some m)/\pP m=true)/\D.nx ρ3
theorem bb8 {i:Nat}{p:gY}{g:TG}{tb:aM}{own:Nat->Prop}(hg:l7 X.K own p g)(h:LS X (tZ i p tb) D σ H):ah2 X i g (tRe X λH1=>LS (X.re H1) tb) D σ H:=by
 obtain⟨W,ρ,D',px,⟨x,ks,hi,hk,nv,sf,I,i0,turn,fin⟩,k⟩:=h
 obtain⟨v,ev,r⟩:=px.sl i _ hi
 have r:aF X.K (λb=>¬W b) H v x:=r
 have tupW:∀{b:Addr}{us:List V},H b=some (.tup us)->¬W b:=λ{b us} e z=>by
  obtain⟨_,w,e2,m⟩:=px.wm b z
  rw[e]at e2;cases e2;cases m
 obtain⟨a,u,rfl,ha,du,wa,frz,keys⟩:∃a u,v = .ref a/\H a=some u/\iP u=true/\¬W a/\(∀o:Obj,aF X.K (λb=>¬W b) (upd H a (.frz o u)) (.ref a) (fz x))/\
   ∀ys,zA H u ys->ys.length=ks.length/\∀(o:Obj) (W':Addr->Prop) (H':Hp) (M:Addr->Prop) (j:Nat) (y:V),Ev W (upd H a (.frz o u)) W' H'->ys[j]? = some y->∃x,ks[j]? = some x/\aF X.K M H' y x:=by
  cases r with
  |@dK a kvs ps wa ha ek rv=>
   cases hk
   refine⟨a,_,rfl,ha,rfl,wa,λo=>.fK aT ek (Reps.keepN (.froze ha rfl λb us hb _=>hb) nv rv),λys ky=>?_⟩
   obtain rfl:ys=kvs.map λp=>kV p.1:=ky
   have lk:=rE ek
   refine⟨by rw[bl5,bl5];exact lk,λo W' H' M j y s hy=>?_⟩
   rw[bl4]at hy
   cases e:kvs[j]? with
   |none=>rw[e]at hy;cases hy
   |some kv=>
    rw[e]at hy;cases hy
    have:(kvs.map (·.1))[j]? = some kv.1:=by rw[bl4,e];rfl
    rw[ek,bl4]at this
    cases e2:ps[j]? with
    |none=>rw[e2]at this;cases this
    |some pp=>
     rw[e2]at this
     have e3:pp.1=kv.1:=bn8 this
     exact⟨kP pp.1,by rw[bl4,e2];rfl,by rw[e3];exact ba6 kv.1⟩
  |@dT a kvs ps wa ha ek rv=>
   cases hk
   refine⟨a,_,rfl,ha,rfl,wa,λo=>.fT aT ek (Reps.keepN (.froze ha rfl λb us hb _=>hb) nv rv),λys ky=>?_⟩
   have ky:Paired (vY H) ys (kvs.map (·.1)):=ky
   have lk:=rE ek
   have ll:=ky.length
   rw[bl5]at ll
   refine⟨by rw[bl5];omega,λo W' H' M j y s hy=>?_⟩
   obtain⟨key,hkey,q2,rfl,hq2⟩:=ab6 ky hy
   rw[ek,bl4]at hkey
   cases e2:ps[j]? with
   |none=>rw[e2]at hkey;cases hkey
   |some pp=>
    rw[e2]at hkey
    have e3:pp.1=key:=bn8 hkey
    refine⟨.tup (pp.1.map kP),by rw[bl4,e2];rfl,?_⟩
    rw[e3]
    exact .tup (s _ _ (by rw[aC (λz=>by rw[z,ha]at hq2;cases hq2)];exact hq2) (tupW hq2)).1 (Reps.keys key)
  |_=>cases hk
 refine⟨_,ev,a,u,rfl,ha,du,λo ys pk=>?_⟩
 obtain⟨lk,kys⟩:=keys ys pk
 obtain⟨H1,R⟩:∃H1,ReH X.H₀ H1 a o u:=by
  cases e:X.H₀ a with
  |none=>exact⟨X.H₀,.inl ⟨e,rfl⟩,λw z=>by rw[e]at z;cases z⟩
  |some w=>
   have:=px.same _ _ e
   rw[ha]at this;cases this
   exact⟨_,.inr ⟨e,rfl⟩,λw z=>by rw[e]at z;cases z;rfl⟩
 have nofr:∀o' v',X.H₀ a≠some (.frz o' v'):=λo' v' e=>by have:=px.same _ _ e;rw[ha]at this;cases this;cases du
 refine⟨λj m σ2 H2=>m=ks.length-j/\j<=ks.length/\∃W2 ρ2,PX X.K H1 W2 σ2 ρ2 H2/\Ev W (upd H a (.frz o u)) W2 H2/\I j ρ2,⟨ks.length,by omega,bo4 _,W,_,bb6 px R ha du wa ev sf (frz o),Ev.refl _ _,i0⟩,?_⟩
 rintro j m σ2 H2 ⟨rfl,hj,W2,ρ2,px2,e2,i2⟩
 obtain⟨fro,wa2⟩:=e2 _ _ aT wa
 by_cases hlt:j<ks.length
 ·refine .inr ⟨⟨⟨_,fro⟩,by omega⟩,λσ3 H3=>∃W3 ρ3,PX X.K H1 W3 σ3 ρ3 H3/\Ev W (upd H a (.frz o u)) W3 H3/\I (j+1) ρ3,λσ3 H3 ⟨W3,ρ3,a,b,c⟩=>⟨ks.length-(j+1),by omega,rfl,hlt,W3,ρ3,a,b,c⟩,λv H3 y=>?_⟩
  obtain⟨rfl,hy⟩:=y
  obtain⟨x',hx,rx⟩:=kys o W2 H3 (Ms H1 W2 true) j v e2 hy
  refine hg H1 W2 σ2 ρ2 H3 v x' true _ _ px2 rx (turn j x' ρ2 hx i2) λσ4 ρ4 px4 _ _ q4=>?_
  exact⟨H1,a,o,u,R,du,fro,W2,ρ4,_,px4,q4,λW' σ' H' ρ' e p q=>⟨W',ρ',p,e2.trans e,q⟩,(λ_ _ _ _ _ z=>z.elim),(λ_ _ _ _ _ _ z=>z.elim),λW' σ' H' ρ' e p q=>⟨W',ρ',p,e2.trans e,q⟩⟩
 ·obtain rfl:j=ks.length:=by omega
  obtain⟨ρ3,hl,h3,q⟩:=fin ρ2 i2
  refine .inl ⟨⟨⟨_,fro⟩,lk.symm⟩,a,o,u,fro,nofr,k.nx W2 σ2 _ ρ3 (λb w e n=>?_) (bb7 px2 R fro du wa2 hl h3) q⟩
  by_cases hb:b=a
  ·subst hb
   rw[ha]at e;cases e
   exact⟨aT,wa2⟩
  ·rw[aC hb]
   exact e2 b w (by rw[aC hb];exact e) n
end
section
variable {X:Cx}{e:Expr}{t:aM}{pos:Pos}
theorem bb9 {tg:Expr}{p:gY}{g:TG}{own:Nat->Prop}{body:List Stmt}{d:Nat}{y:Str}{yp:Pos}(hp:PassesOwn (model X.prog X.w) X.A X.env X.xe)(hc:X.calm=true)(hi:PE X (.Name y yp) (eS d))(hg:PG X tg g)(ho:l7 X.K own p g)(hb:∀H0,eN (X.re H0) body t)(hs:∀x,foldedSetIterable (.Name y yp) X.env x=pure x:=by intro _;rfl) :
  QS X (.For tg (.Name y yp) body [] pos) (tZ d p t):=eY (bb4 (pX hp hc (ba2 hi) hg (bb3 hb) hs)) λ_ _ _ h=>bb8 ho h
theorem bc0 (d i:Nat){x y:Str}{tp yp:Pos}{body:List Stmt}(hN:X.N.Nodup)(hb:∀H0,eN (X.re H0) body t)(hi:PE X (.Name y yp) (eS d):=by exact pv _)(hx:X.N[i]? = some x:=by rfl)(hl:jL X.env.scope x:=by first|exact Or.inl rfl|exact Or.inr rfl)(hf:X.fn x=true∨X.env.scope.names.lookup x=some .local:=by first|exact .inl rfl|exact .inr rfl)(hp:PassesOwn (model X.prog X.w) X.A X.env X.xe:=by exact PassesOwn.never)(hc:X.calm=true:=by rfl)(hs:∀x,foldedSetIterable (.Name y yp) X.env x=pure x:=by intro _;rfl):QS X (.For (.Name x tp) (.Name y yp) body [] pos) (tZ d (b8 i) t):=
 bb9 hp hc hi (eU hN hx hl hf) (oN _ i) hb hs
end
end PP
namespace L2
open PySem PySem.Spec PyProof.Rows
section
variable {X:Cx}{pins:List (Addr×Obj)}{σ:St}{H H':Hp}{s:Shared}{a:Addr}
theorem a6.frozeL {o:Obj}{us:List V}(I:a6 X pins σ H s)(h:H a=some (.lst us))(e:s.heap.get? a=some o):a6 X pins σ (upd H a (.frz o (.lst us))) s:=by
 have own:∀{c:Addr}{y:Addr},H c=some (.own y)->c≠a:=λ{c y} q z=>by rw[z,h]at q;cases q
 have tp:∀{c:Addr}{xs:List V},H c=some (.tup xs)->c≠a:=λ{c xs} q z=>by rw[z,h]at q;cases q
 refine I.reH (a:=a) (λb n=>aC n) ⟨_,h⟩ (λxs q=>by rw[h]at q;cases q) (λo' v q=>by have:=I.base.frzs a o' v q;rw[h]at this;cases this) (λps q=>by rw[h]at q;cases q) λb v q=>?_
 by_cases hb:b=a
 ·subst hb
  rw[aT]at q;cases q
  exact⟨e,(I.hok b _ h).stay (λ_ _ _ q=>q) (λc q=>by rw[aC (own q)];exact q) λc xs q=>by rw[aC (tp q)];exact q⟩
 ·rw[aC hb]at q
  exact (I.hok b v q).stay (λ_ _ _ q=>q) (λc q=>by rw[aC (own q)];exact q) λc xs q=>by rw[aC (tp q)];exact q
def ah4 (t:TE):TE:=λσ H Q=>t σ H λv H1=>∃a us,v = .ref a/\H1 a=some (.lst us)/\∀o,Q v (upd H1 a (.frz o (.lst us)))
theorem bc1 {e:Expr}{t:TE}(h:PE X e t):PE X e (ah4 t):=by
 intro pins s σ H Q I hq
 refine aK (h pins s σ H _ I hq) λv s1 h1=>?_
 obtain⟨x,H1,I1,r1,a,us,ex,ea,q⟩:=h1
 obtain⟨_,_,_,_,ho⟩:=(show bM X.prog X.w H1 s1.heap a (.lst us) from I1.hok a _ ea)
 exact⟨x,_,I1.frozeL ea ho,r1,q _⟩
end
section
variable {prog:Program}{w:World}{A:Around}{E:Value→Shared→Prop}{s:Shared}{env:Env}
theorem bc2 {k v:Expr}{pos:Pos}{Q:Value->Shared->Prop}(h:wpAny (model prog w) A (evalPairs (pairTrees [some k] [v] env pos)) (λvs s₁=>∃x y,vs = [(x,y)]/\wpAny (model prog w) A (dictSet s.heap.objs.size x y) (λ_ s2=>Q (.ref s.heap.objs.size) s2) E s₁) E
   { s with heap:=s.heap.push { cls:=.type "dict",data:=.dict #[] } }) :
  wpAny (model prog w) A (eval (.Dict [some k] [v] pos) env) Q E s:=by
 have hn:=pairTrees_length [some k] [v] env pos rfl rfl
 have h0:pairTrees [some k] [v] env pos≠[]:=λz=>by rw[z]at hn;cases hn
 have hl:(pairTrees [some k] [v] env pos).length<=15:=by rw[hn];show 1<=15;decide
 rw[arm_eval_Dict,zip_pairTrees [some k] [v] env pos rfl rfl,dictDisplay_pairs _ h0 (by omega)]
 refine bk3 (wpAny_standAt (bk3 ?_))
 unfold subDict
 refine bk3 (wpAny_alloc ?_)
 refine bk3 (bt1 ?_)
 rw[if_pos hl]
 refine bk3 (bs2 h (λvs s₁ h₁=>?_) λ_ _ e=>e)
 obtain⟨x,y,rfl,h₁⟩:=h₁
 refine bt1 (bk3 ?_)
 rw[List.forIn_cons]
 refine bk3 (bk3 (bs2 h₁ (λ_ s2 q=>bk8 ?_) λ_ _ e=>e))
 show wpAny (model prog w) A (forIn ([]:List (Value×Value)) PUnit.unit _) _ E s2
 rw[List.forIn_nil]
 exact bk8 (bk8 (bk8 (bk8 q)))
end
section
variable {X:Cx}{pos:Pos}{k v:Expr}{tk tv:TE}
def ah5 (tk tv:TE):TE:=λσ H Q=>∀p,H p=none->vD [(tk,tv)] σ (upd H p (.dT [])) λps H2=>∃x y,ps = [(x,y)]/\H2 p=some (.dT [])/\∃b ks,x = .ref b/\H2 b=some (.tup (List.map kV ks))/\Q (.ref p) (upd H2 p (.dT [(ks,y)]))
theorem bc3 (hu:X.A.units+1<cLine)(hk:PE X k tk)(hv:PE X v tv):PE X (.Dict [some k] [v] pos) (ah5 tk tv):=by
 intro pins s σ H Q I q
 have hn:=I.hok.fresh (bk7 s.heap.objs.size)
 have I1:=I.laid (a:=s.heap.objs.size) (o:=.dT []) (h':=s.heap.push { cls:=.type "dict",data:=.dict #[] }) (t':=s.toks) (λ_ _ q=>bk6 _ q) (bk7 _) (J4 s.heap I.big)
 refine bc2 (aK (aw6 hk hv aw5 pins _ σ _ _ I1 (q _ hn)) λws s2 h2=>?_)
 obtain⟨ps,H2,I2,rel,x,y,rfl,e,b,ks,rfl,eb,q2⟩:=h2
 cases rel with
 |@cons _ p _ _ r t=>
 cases t
 obtain⟨u,r0⟩:=p
 obtain⟨r1,r2⟩:=r
 cases (show u=Value.ref b from r1)
 refine⟨_,_,rfl,?_⟩
 obtain⟨z,hd,xs,rel,dd⟩:=G9 I2.hok e
 have hz:xs.length<=sizeLine:=by rw[<- Paired.length rel];exact z
 refine wpAny_dictSet_heap (hsz:=hz) (Nat.lt_of_succ_lt hu) (m3 I2.hok eb) dd λh' dd' hs=>⟨.ref s.heap.objs.size,_,?_,rfl,q2⟩
 obtain⟨q,es,ep,hq,h2,h3,h4,_,h5⟩:=dd'
 cases rel
 refine vA I2 (by rw[e];exact True.intro) hs ⟨q,hq⟩ ⟨by show 1<=sizeLine;rw[sizeLine_eq];omega,hd,_,(KT.put .nil ks eb r2).keeps λc ys ec=>?_,q,es,ep,hq,h2,h3,h4,h5⟩
 rw[aC (zM ec e (λz=>nomatch z))]
 exact ec
end
section
variable {X:Cx}
def ah6:R2:=λx y H Q=>∃l b xs zs,x = .ref l/\y = .ref b/\Rd H l (.lst xs)/\H b=some (.lst zs)/\xs.length+zs.length<=sizeLine/\∀p,H p=none->Q (.ref p) (upd H p (.lst (xs++zs)))
theorem bc4:bS X (binaryOp .Add) ah6:=by
 intro pins s σ H x y v u Q I rx ry h
 obtain⟨l,b,xs,zs,rfl,rfl,hH,hB,hz,q⟩:=h
 cases rx
 cases ry
 obtain⟨_,its,n,r,e⟩:=(show bM X.prog X.w H s.heap l (.lst xs) from v9 I.hok hH)
 obtain⟨_,its2,n2,r2,e2⟩:=(show bM X.prog X.w H s.heap b (.lst zs) from I.hok b _ hB)
 have l1:=aI.length r
 have l2:=aI.length r2
 refine PySem.P.add_list e e2 ?_ (by rw[bk9,bk9];omega)
 have ea:its.toArray++its2.toArray=(its++its2).toArray:=by simp
 rw[ea]
 exact⟨.ref _,_,I.lnew (t':=s.toks) (r.append r2) (by rw[bm7];omega),rfl,q _ I.fresh⟩
end
end L2
namespace PP
open PySem L2
section
variable {X:Cx}{e:Expr}{te:aD}{σ:St}{H:Hp}{Q':VK}
def u0 (te:aD):aD:=λρ Q=>te ρ λx g=>∃xs,x = .lst xs/\g = .fr/\flats xs=true/\Q (.fL xs) .fr
theorem bc5 (h:LE X (u0 te) σ H Q'):ah4 (LE X te) σ H Q':=by
 obtain⟨W,ρ,Q,px,q,k⟩:=h
 refine⟨W,ρ,_,px,q,?_⟩
 rintro v H1 x g s r ⟨xs,rfl,rfl,f,q⟩
 cases r with
 |@lst a us _ m e r=>
  refine⟨a,us,rfl,e,λo=>k _ _ _ .fr (λb u hb=>?_) (.fL aT ((r.flat (M':=λ_=>False) f).keep (.upd e rfl λb z=>z.elim))) q⟩
  have nb:b≠a:=λz=>by have m:H a=none:=m;rw[z,m]at hb;cases hb
  rw[aC nb];exact s b u hb
theorem ah7 (h:QE X e te):QE X e (u0 te):=cD (bc1 h) λ_ _ _=>bc5
def zE (tk tv:aD):aD:=λρ Q=>tk ρ λx _=>tv ρ λy _=>∃ks,x = .tup (List.map kP ks)/\flat y=true/\Q (.dT [(ks,y)]) .fr
theorem bc6 {tk tv:aD}(h:LE X (zE tk tv) σ H Q'):ah5 (LE X tk) (LE X tv) σ H Q':=by
 obtain⟨W,ρ,Q,px,q,k⟩:=h
 intro p hp
 refine⟨W,ρ,_,px.mono (aZ hp _),q,?_⟩
 intro v H1 x g s r q1
 refine⟨W,ρ,_,(px.mono (aZ hp _)).mono s,q1,?_⟩
 rintro v2 H2 y g2 s2 r2 ⟨ks,rfl,f,q2⟩
 obtain⟨b,us,rfl,hb,rb⟩:=r.sqT
 obtain rfl:=rC rb
 have hp2:H2 p=some (.dT []):=s2 p _ (s p _ aT)
 refine⟨_,_,rfl,hp2,b,ks,rfl,s2 _ _ hb,?_⟩
 have sm:aA H (upd H2 p (.dT [(ks,v2)])):=λc o e=>by
  have nb:c≠p:=λz=>by rw[z,hp]at e;cases e
  rw[aC nb]
  exact s2 c o (s c o (by rw[aC nb];exact e))
 exact k _ _ _ .fr sm (.dT hp aT rfl (.cons ((r2.flat (M':=λ_=>False) f).keep (.upd hp2 rfl λb z=>z.elim)) .nil)) q2
theorem bc7 {pos:Pos}{a b:Expr}{tk tv:aD}(hu:X.A.units+1<cLine)(ha:QE X a tk)(hb:QE X b tv):QE X (.Dict [some a] [b] pos) (zE tk tv):=cD (bc3 hu ha hb) λ_ _ _=>bc6
end
section
variable {X:Cx}{a b:Expr}{ta tb:aD}{pos:Pos}
def ah8:PV->Tg->PV->Tg->PK->Prop:=λx _ y _ Q=>∃xs ys,x = .fL xs/\y = .lst ys/\flats xs=true/\flats ys=true/\xs.length+ys.length<=16000000/\Q (.lst (xs++ys)) .fr
abbrev ah9 (ta tb:aD):aD:=q2 ah8 ta tb
theorem bc8:eD X ah8 ah6:=by
 rintro W Hs H u v x y g g' Q Q' s n r1 r2 ⟨xs,ys,rfl,rfl,f1,f2,hl,q⟩ k
 obtain⟨b,ws,rfl,_,h2,q2⟩:=r2.sqL
 cases r1 with
 |@fL a o us _ h1 q1=>
  have l1:=q1.length
  have l2:=q2.length
  refine⟨a,b,us,ws,rfl,rfl,.inr ⟨_,h1⟩,h2,lim (by omega),λp hp=>k _ _ _ .fr (aZ hp _) (.lst (s.free hp) aT (((q1.flat f1).append (q2.flat f2)).same (aZ hp _) λ_ z=>z)) q⟩
theorem bc9 (ha:QE X a ta)(hb:QE X b tb):QE X (.BinOp a .Add b pos) (ah9 ta tb):=fY bc4 bc8 ha hb
end
section
def bd0:PV->Option Nat
 |.fL xs=>some xs.length
 |_=>none
def nN (ps:List (List aG×PV))(k:List aG)(n:Nat):Bool:=match c8 ps k with
 |none=>true
 |some z=>decide (((bd0 z).getD 0)<n)
def jJ (ps:List (List aG×PV))(k:List aG)(xs:List PV):List (List aG×PV):=if nN ps k xs.length=true then dP ps k (.fL xs) else ps
def u5 (ps:List (List aG×PV)):Prop:=∀p∈ps,∃ys,p.2 = .fL ys/\flats ys=true
theorem ai0 {ps:List (List aG×PV)}(h:u5 ps):flats (ps.map (·.2))=true:=by
 induction ps with
 |nil=>rfl
 |cons p r ih=>
  obtain⟨ys,e,f⟩:=h p bl7
  show (flat p.2&&flats (r.map (·.2)))=true
  rw[ih λq hq=>h q (bm1 _ hq),e,bA1]
  unfold flat;exact f
theorem bd1 {κ:Type}[DecidableEq κ]{ps:List (κ×PV)}{k:κ}{z:PV}(h:c8 ps k=some z):(k,z)∈ps:=by
 unfold c8 at h
 obtain⟨p,hp,e⟩:=Option.map_eq_some_iff.mp h
 have h1:=List.mem_of_find?_eq_some hp
 have h2:=List.find?_some hp
 have:p.1=k:=bq2 h2
 subst e this
 exact h1
theorem zF {K:ad}{M:Addr->Prop}{H:Hp}:∀(ks:List aG),Reps K M H (ks.map kV) (ks.map kP)
 |[]=>.nil
 |.inl i::r=>.cons (.int i) (zF r)
 |.inr x::r=>.cons (.str x) (zF r)
def ai1 (K:ad):Sp:=λvs H Q _=>∃d b y ks kvs ps xs,vs = [.ref d,.ref b,y]/\H d=some (.dT kvs)/\H b=some (.tup (List.map kV ks))/\kvs.map (·.1)=ps.map (·.1)/\Reps K (λ_=>True) H (kvs.map (·.2)) (ps.map (·.2))/\
 u5 ps/\aF K (λ_=>True) H y (.fL xs)/\flats xs=true/\ps.length<16000000/\∀H',aA H H'->Q .non (if nN ps ks xs.length=true then upd H' d (.dT (eJ kvs ks y)) else H')
def tKL:cC:=qY (aX (l9 true (a5 1) (a5 0))) (aX (q2 (eF λi j=>.bl (decide (j<i))) (aE bQ (a7 (a5 2) a9)) (aE bQ (a7 (mG (a5 0) (a5 1)) a9))))
structure nO (P:Program)(w:World)(K:ad)(mg:Str->Option Value)(base:Heap)(k:Nat)(x:Str)(ps:List Str):Prop where
 ex:∃f fd,cL P w K mg base cY k f fd ps (ai1 K)/\gR K fd ps []/\PySem.W.keepIn K (.ref f)=true/\mg x=some (.ref f)
theorem nO.of {P:Program}{w:World}{K:ad}{mg:Str->Option Value}{base:Heap}{k:Nat}{x:Str}{p1 p2 p3:Str}{st:Stmt}{f:Addr}{fd:FuncData}(F:eB K x x st f fd)(m:mg x=some (.ref f))(S:FnScope [p1,p2,p3] [p1,p2,p3] (aQ st))(hb:∀(kV doc pm:Value) (an:Option Addr) (cdv ct:Value) (us:List Value),us.length = [p1,p2,p3].length->bindArgs (PySem.W.fnOf x x (iG st) (dW st) (aQ st) .none kV doc pm an cdv ct) ⟨us,[]⟩=pure ([p1,p2,p3].zip us))(body:∀(cdv:Value) (A:Around) (outer:List Env) (s:Shared) (H:Hp) (E:XK),bT k (A.deeper (PyProof.Rows.envOfC x (aQ st) s.heap.objs.size f cdv))->
   dG (cX cY P w K mg base [p1,p2,p3] x (aQ st) f cdv A outer s H E).nox (dW st) (uI (LT (cX cY P w K mg base [p1,p2,p3] x (aQ st) f cdv A outer s H E).nox tKL) (vC (eS 0) (eS 1) (eS 2)) uF)):nO P w K mg base (k+1) x [p1,p2,p3]:=by
 refine⟨f,fd,F.ok S (λvs H Q E h=>?_) (λcdv A outer s H vs Q E hr h=>⟨_,body cdv A outer s H E hr,?_⟩),F.binds hb,F.kp,m⟩
 ·obtain⟨d,b,y,ks,kvs,ps,xs,rfl,_⟩:=h
  rfl
 ·obtain⟨d,b,y,ks,kvs,ps,xs,rfl,ed,eb,e1,r,al,ry,fx,hl,q⟩:=h
  have px:=rO (N:=[p1,p2,p3]) (K:=K) (H:=H) (vs:=[.ref d,.ref b,y]) (xs:=[.dT ps,.tup (ks.map kP),.fL xs]) (.cons (.dT trivial ed e1 r) (.cons (.tup eb (zF ks)) (.cons ry .nil)))
  refine⟨_,_,λc=>c=nN ps ks xs.length,px,?_,λc H1 s1 ec=>?_⟩
  ·refine⟨_,rfl,_,rfl,c8 ps ks,.inr ⟨ps,ks,rfl,rfl,rfl⟩,_,rfl,?_⟩
   unfold nN
   cases ev:c8 ps ks with
   |none=>exact rfl
   |some z=>
    obtain⟨ys,ez,_⟩:=al _ (bd1 ev)
    have ez:z = .fL ys:=ez
    subst ez
    refine⟨_,rfl,_,_,rfl,rfl,_,rfl,_,rfl,_,.inr ⟨ps,ks,rfl,rfl,ev.symm⟩,_,_,rfl,rfl,_,_,rfl,rfl,_,rfl,?_⟩
    show decide ((ys.length:Int)<xs.length)=decide (ys.length<xs.length)
    exact decide_eq_decide.mpr Int.ofNat_lt
  ·subst ec
   have q1:=q H1 s1
   cases e:nN ps ks xs.length with
   |false=>rw[if_neg (by simp)];rw[e,if_neg (by simp)]at q1;exact q1
   |true=>
    rw[if_pos rfl];rw[e,if_pos rfl]at q1
    exact⟨y,rfl,.ref d,rfl,.ref b,rfl,d,_,rfl,jP.t (s1 _ _ ed) (s1 _ _ eb) (gI (by rw[rE e1];omega)),q1⟩
end
section
variable {X:Cx}{σ:St}{H:Hp}{D:cG}{t1 t2:aD}
def u6 (i:Nat)(t1 t2:aD):aM:=λD ρ=>∃ps,ρ[i]? = some (some (.own (.dT ps)))/\t1 ρ λy _=>t2 ρ λz _=>∃k xs,y = .tup (List.map kP k)/\z = .fL xs/\flats xs=true/\u5 ps/\ps.length<16000000/\D.nx (ρ.set i (some (.own (.dT (jJ ps k xs)))))
theorem bd2 {i:Nat}(h:LS X (u6 i t1 t2) D σ H):uG (qA (ai1 X.K) [] E0 (iF (eS i) (iF (LE X t1) (iF (LE X t2) kR)))) D σ H:=by
 obtain⟨W,ρ,D',px,⟨ps,hi,q⟩,k⟩:=h
 obtain⟨v,ev,a,rfl,wa,kvs,ea,e1,r⟩:=px.sl i _ hi
 refine⟨_,ev,W,ρ,_,px,q,?_⟩
 intro v1 H1 y g s1 r1 q1
 refine⟨W,ρ,_,px.mono s1,q1,?_⟩
 rintro v2 H2 z g2 s2 r2 ⟨kk,xs,rfl,rfl,fx,al,hl,q2⟩
 obtain⟨b,us,rfl,hb,rb⟩:=r1.sqT
 obtain rfl:=rC rb
 have s12:=s1.trans s2
 have ea2:=s12 _ _ ea
 have px2:=px.mono s12
 have r':=r.same (M':=λ_=>True) s12 λ_ _=>trivial
 refine⟨a,b,v2,kk,kvs,ps,xs,rfl,ea2,s2 _ _ hb,e1,r',al,r2.same (aA.refl _) λ_ _=>trivial,fx,hl,λH3 s3=>?_⟩
 have s13:=s12.trans s3
 have ea3:=s3 _ _ ea2
 cases e:nN ps kk xs.length with
 |false=>
  rw[if_neg (by simp)]
  have:jJ ps kk xs=ps:=by unfold jJ;rw[e,if_neg (by simp)]
  rw[this]at q2
  have hs:ρ.set i (some (.own (.dT ps)))=ρ:=by
   obtain⟨hl,he⟩:=bl9.mp hi
   rw[<- he,List.set_getElem_self]
  rw[hs]at q2
  exact k.nx W σ H3 ρ (Ev.same s13) (px.mono s13) q2
 |true=>
  rw[if_pos rfl]
  have:jJ ps kk xs=dP ps kk (.fL xs):=by unfold jJ;rw[e,if_pos rfl]
  rw[this]at q2
  refine k.nx W σ _ _ ((Ev.same s13).trans (Ev.upd wa)) ((px.mono s13).updT hi ev wa ?_) q2
  obtain⟨h1,h2⟩:=O6 kk (((r2.flat (M':=Ms X.H₀ W true) (by unfold flat;exact fx))).same s3 λ_ z=>z) e1 (r.same s13 λ_ z=>z)
  exact⟨h1,h2.keep (.upd ea3 rfl λb m=>⟨oK wa m,m⟩)⟩
theorem ai2 {k j:Nat}{x y:Str}{ps:List Str}{a b:Expr}{p2 p3 pos pos2:Pos}(d:nO X.prog X.w X.K X.mg X.base k x ps)(hr:bT j X.A)(i:Nat)(ha:QE X a t1)(hb:QE X b t2)(hkj:k<=j:=by decide)(hN:X.N[i]? = some y:=by rfl)(hv:iC X.env.scope y:=by first|exact Or.inl rfl|exact Or.inr (Or.inl rfl)|exact Or.inr (Or.inr rfl))(hd:(y==("__debug__":Str))=false:=by decide)(hcd:(y==("__classdict__":Str))=false:=by decide)(hg:Gl X x:=by rfl)(hdb:(x==("__debug__":Str))=false:=by decide)(he:starEach [.Name y p3,a,b] X.env=(false,eval (.Name y p3) X.env)::starEach [a,b] X.env:=by rfl)(he2:starEach [a,b] X.env=(false,eval a X.env)::starEach [b] X.env:=by rfl)(he3:starEach [b] X.env=(false,eval b X.env)::starEach [] X.env:=by rfl)(hpl:(backTo pos (starEach [a,b] X.env)).any (·.1)=false:=by rfl)(hs:swapsWith (.Call (.Name x p2) [.Name y p3,a,b] [] pos) none pos2.line X.env=pure false:=by rfl):QS X (.Expr (.Call (.Name x p2) [.Name y p3,a,b] [] pos) pos2) (u6 i t1 t2):=by
 obtain⟨f,fd,F,b,kp,m⟩:=d.ex
 exact eY (lS (qB F (hr.mono hkj) hg m kp b .nil K0 (cW (kJ hN hv hd hcd) (cW ha (cW hb dH he3) he2) he) hdb he hpl) hs) λ_ _ _=>bd2
end
end PP
namespace Core
open PySem L2 PP
def kI (F:af):List aG:=F.map Sum.inl
theorem pQ (F:af):(kI F).map kP=intz F:=by
 unfold kI intz;rw[bx6];rfl
structure GE (n:Nat)(L:ae)(h:Int)(F:af)(Bs:ae):Prop where
 sub:F.Sublist (rng n)
 ge:∀x∈F,h<=x
 mem:∀B∈Bs,B∈L
 dis:Bs.Pairwise λa b=>∀x∈a,x∉b
 off:∀B∈Bs,∀x∈B,x∉F
 len:(Bs.length:Int)<=h
def GD (n:Nat)(L:ae)(h:Int)(ps:List (List aG×PV)):Prop:=(∀p∈ps,∃F Bs,p=(kI F,.fL (tups Bs))/\GE n L h F Bs)/\(ps.map (·.1)).Nodup
theorem GD.all {n:Nat}{L:ae}{h:Int}{ps:List (List aG×PV)}(g:GD n L h ps):u5 ps:=λp hp=>by
 obtain⟨F,Bs,rfl,_⟩:=g.1 p hp
 exact⟨_,rfl,jD Bs⟩
theorem zG {α:Type}[DecidableEq α]:∀{xs ys:List α},xs.Nodup->(∀x∈xs,x∈ys)->xs.length<=ys.length
 |[],_,_,_=>bo4 _
 |x::xs,ys,nd,h=>by
  have hx:=h x bl7
  have nd':=bu1.mp nd
  have:=zG (ys:=ys.erase x) nd'.2 λy hy=>(List.mem_erase_of_ne (λe=>nd'.1 (by rw[<- e];exact hy))).mpr (h y (bm1 _ hy))
  rw[List.length_erase_of_mem hx]at this
  have:0<ys.length:=List.length_pos_of_mem hx
  rw[bo3];omega
theorem GD.few {n:Nat}{L:ae}{h:Int}{ps:List (List aG×PV)}(g:GD n L h ps)(hn:n<=12):ps.length<16000000:=by
 have h1:=zG (ys:=(b6 (rng n)).map kI) g.2 λk hk=>by
  obtain⟨p,hp,rfl⟩:=bn7.mp hk
  obtain⟨F,Bs,rfl,e⟩:=g.1 p hp
  exact bn7.mpr ⟨F,(i8 n F).mpr e.sub,rfl⟩
 rw[bl5,bl5,lK]at h1
 have:2^n<=2^12:=by1 (by decide) hn
 omega
theorem ai3 (ps:List (List aG×PV))(k:List aG)(z:PV):(k∈ps.map (·.1)/\(dP ps k z).map (·.1)=ps.map (·.1))∨(k∉ps.map (·.1)/\(dP ps k z).map (·.1)=ps.map (·.1)++[k]):=by
 have ea:(ps.any λp=>decide (p.1=k))=true↔k∈ps.map (·.1):=by
  rw[List.any_eq_true,bn7]
  exact⟨λ⟨p,hp,e⟩=>⟨p,hp,bq2 e⟩,λ⟨p,hp,e⟩=>⟨p,hp,bl6 e⟩⟩
 unfold dP
 by_cases h:k∈ps.map (·.1)
 ·refine .inl ⟨h,?_⟩
  rw[if_pos (ea.mpr h),bx6]
  apply List.map_congr_left
  intro p hp
  show (if p.1=k then (p.1,z) else p).1=p.1
  split<;>rfl
 ·refine .inr ⟨h,?_⟩
  rw[if_neg (λc=>h (ea.mp c)),bn6];rfl
theorem bd3 {ps:List (List aG×PV)}{k:List aG}{z:PV}{p:List aG×PV}(h:p∈dP ps k z):p∈ps∨p=(k,z):=by
 unfold dP at h
 split at h
 ·obtain⟨q,hq,e⟩:=bn7.mp h
  by_cases c:q.1=k
  ·rw[if_pos c]at e;exact .inr (by rw[<- e,c])
  ·rw[if_neg c]at e;exact .inl (by rw[<- e];exact hq)
 ·rcases bn4.mp h with h|h
  ·exact .inl h
  ·exact .inr (bl0.mp h)
theorem GD.keep {n:Nat}{L:ae}{h:Int}{ps:List (List aG×PV)}{F:af}{Bs:ae}(g:GD n L h ps)(e:GE n L h F Bs):GD n L h (jJ ps (kI F) (tups Bs))/\jJ ps (kI F) (tups Bs)≠[]:=by
 unfold jJ
 split
 ·refine⟨⟨λp hp=>?_,?_⟩,λz=>?_⟩
  ·rcases bd3 hp with hp|rfl
   ·exact g.1 p hp
   ·exact⟨F,Bs,rfl,e⟩
  ·rcases ai3 ps (kI F) (.fL (tups Bs)) with⟨hk,e⟩|⟨hk,e⟩
   ·rw[e];exact g.2
   ·rw[e]
    exact by9.mpr ⟨g.2,bo1 _ _,λa ha b hb c=>hk (by rw[bl0.mp hb]at c;rw[<- c];exact ha)⟩
  ·have this:=congrArg (List.map (·.1)) z
   rcases ai3 ps (kI F) (.fL (tups Bs)) with⟨hk,e⟩|⟨hk,e⟩
   ·rw[e]at this
    have this:ps.map (·.1) = []:=this
    rw[this]at hk;cases hk
   ·rw[e]at this;simp at this
 ·rename_i hk
  refine⟨g,λz=>hk ?_⟩
  rw[z];rfl
theorem ai4 {ps:List (List aG×PV)}(nd:(ps.map (·.1)).Nodup){k:List aG}{z:PV}(h:(k,z)∈ps):c8 ps k=some z:=by
 unfold c8
 induction ps with
 |nil=>cases h
 |cons p r ih=>
  rw[bq5,bu1]at nd
  rw[bv0]
  rcases bl8.mp h with h|h
  ·rw[<- h,bl6 rfl];rfl
  ·have:p.1≠k:=λc=>nd.1 (by rw[c];exact bn7.mpr ⟨_,h,rfl⟩)
   rw[bl1 this]
   exact ih nd.2 h
theorem GE.alone {n:Nat}{L:ae}{h:Int}{F:af}{Bs:ae}(e:GE n L h F Bs):GE n L (h+1) (F.filter λz=>!decide (z∈[h])) Bs:=by
 refine⟨bz5.trans e.sub,λx hx=>?_,e.mem,e.dis,λB hB x hx c=>e.off B hB x hx (bm0.mp c).1,by have:=e.len;omega⟩
 obtain⟨h1,h2⟩:=bm0.mp hx
 have h3:=e.ge x h1
 have h4:x≠h:=λc=>by rw[c]at h2;simp at h2
 omega
theorem GE.with_ {n:Nat}{L:ae}{h:Int}{F:af}{Bs:ae}{B:af}(e:GE n L h F Bs)(hB:B∈L)(hh:h∈B)(hF:∀x∈B,x∈F):GE n L (h+1) (F.filter λz=>!decide (z∈B)) (Bs++[B]):=by
 refine⟨bz5.trans e.sub,λx hx=>?_,λC hC=>?_,?_,λC hC x hx c=>?_,by rw[bm7,bq6];have:=e.len;omega⟩
 ·obtain⟨h1,h2⟩:=bm0.mp hx
  have h3:=e.ge x h1
  have h4:x≠h:=λc=>by
   rw[c]at h2
   have:decide (h∈B)=true:=bl6 hh
   rw[this]at h2;cases h2
  omega
 ·rcases bn4.mp hC with hC|hC
  ·exact e.mem C hC
  ·rw[bl0.mp hC];exact hB
 ·refine bp8.mpr ⟨e.dis,bo1 _ _,λC hC D hD x hx c=>?_⟩
  rw[bl0.mp hD]at c
  exact e.off C hC x hx (hF x c)
 ·obtain⟨h1,h2⟩:=bm0.mp c
  rcases bn4.mp hC with hC|hC
  ·exact e.off C hC x hx h1
  ·rw[bl0.mp hC]at hx
   have:decide (x∈B)=true:=bl6 hx
   rw[this]at h2;cases h2
theorem bd4 {ns S:af}(h:eQ ns S=0):∀x∈ns,x∈S:=λx hx=>by
 unfold eQ at h
 have h1:(ns.filter λx=>decide (x∈S)).length=ns.length:=by omega
 have h2:=List.length_filter_eq_length_iff.mp h1 x hx
 exact bq2 h2
theorem zH {n:Nat}{F:af}(h:F.Sublist (rng n)):F.length<=n:=by
 have:=h.length_le
 unfold rng at this
 rw[bl5,by7]at this
 exact this
def u7:bK:=λxs Q=>∃(n:Nat) (L:ae) (ps:List (List aG×PV)) (h:Int) (Z:ae),xs = [.dT ps,.int h,.lst (tups Z)]/\n<=12/\0<=h/\h<=12/\GD n L h ps/\ps≠[]/\(∀B∈Z,B∈L/\B.Sublist (rng n)/\h∈B)/\∀ps',GD n L (h+1) ps'->ps'≠[]->Q (.dT ps')
def ai5:aM:=(aN (iI 3 (qC (.dT [])))
 (aN (tZ 0 (b8 4)
  (aN (aY 5 (aE kB (a7 (a5 4) a9)))
  (aN (u6 3 (aE pK (a7 (a5 4) (a7 (fM (a7 (a5 1) a9)) a9))) (mG (a5 0) (a5 4)))
  (eW (cN (a5 2)) (b8 6)
   (cF (aX (dY (aE nA (a7 (a5 6) (a7 (a5 5) a9))) (qC (.int 0)))) (u6 3 (aE pK (a7 (a5 4) (a7 (a5 6) a9))) (u0 (ah9 (mG (a5 0) (a5 4)) (fM (a7 (a5 6) a9))))) cZ)))))
 (j4 3)))
theorem bd5:dC ai5 ["most","hearth","blocks","later","free","inside","block"] u7:=by
 rintro xs Q ⟨n,L,ps,h,Z,rfl,hn,h0,h12,gd,hne,hZ,q⟩
 refine⟨rfl,rfl,?_⟩
 refine⟨.dT ps,_,rfl,rfl,flats_nods (ai0 gd.all),λj m hj hm=>?_,λk ρ=>∃lp y4 y5 y6,ρ = [some (.sh false (.fT ps)),si h,some (.sh false (.lst (tups Z))),some (.own (.dT lp)),y4,y5,y6]/\GD n L (h+1) lp/\(0<k->lp≠[]),⟨[],none,none,none,rfl,⟨λp hp=>(by cases hp),List.nodup_nil⟩,λz=>by omega⟩,?_,?_⟩
 ·match j,hj,hm with
  |1,_,hm=>cases hm;rfl
  |2,_,hm=>cases hm;exact flats_nods (jD Z)
  |3,_,hm=>cases hm;rfl
  |4,_,hm=>cases hm
  |5,_,hm=>cases hm
  |6,_,hm=>cases hm
 ·rintro k y ρ hy ⟨lp,y4,y5,y6,rfl,gl,gk⟩
  rw[bl4]at hy
  cases hp:ps[k]? with
  |none=>rw[hp]at hy;cases hy
  |some pp=>
  rw[hp]at hy
  have hm:=bn2 hp
  obtain⟨F,Bs,rfl,ge⟩:=gd.1 pp hm
  obtain rfl:PV.tup (intz F)=y:=by rw[<- pQ];exact bn8 hy
  have fF:flat (.tup (intz F))=true:=by unfold flat;exact cR F
  have lF:=zH ge.sub
  have vF:rD (.fT ps) (.tup (intz F)) (some (.fL (tups Bs))):=.inr ⟨ps,kI F,rfl,by rw[pQ],(ai4 gd.2 hm).symm⟩
  refine tX fF ?_
  refine⟨_,rfl,_,F,rfl,.inl rfl,by omega,λds hds=>⟨trivial,?_⟩⟩
  refine⟨lp,rfl,_,rfl,_,rfl,(by show 1<=1000;decide),rfl,_,F,_,[h],rfl,.inl rfl,.inr rfl,by omega,(by show 1<=1000;decide),_,rfl,_,rfl,_,vF,kI (F.filter λz=>!decide (z∈[h])),_,by rw[pQ],rfl,jD Bs,gl.all,gl.few hn,?_⟩
  obtain⟨gl1,jT⟩:=gl.keep ge.alone
  refine⟨_,rfl,tups Z,rfl,(λz=>by cases z),λj ρ=>∃lp y6,ρ = [some (.sh false (.fT ps)),si h,some (.sh false (.lst (tups Z))),some (.own (.dT lp)),some (.sh true (.tup (intz F))),some (.sh true (.dK ds)),y6]/\GD n L (h+1) lp/\lp≠[],⟨_,y6,rfl,gl1,jT⟩,?_,?_⟩
  ·rintro j y ρ hy ⟨lp,y6,rfl,gl,ne⟩
   unfold tups at hy
   rw[bl4]at hy
   cases hB:Z[j]? with
   |none=>rw[hB]at hy;cases hy
   |some B=>
   rw[hB]at hy
   cases hy
   obtain⟨b1,b2,b3⟩:=hZ B (bn2 hB)
   have lB:=zH b2
   refine tX (by unfold flat;exact cR B) ?_
   refine⟨_,rfl,_,rfl,_,B,ds,F,rfl,.inl rfl,hds,by omega,.inl ⟨_,_,rfl,rfl,_,rfl,?_⟩⟩
   show if decide (eQ B F=0)=true then _ else _
   by_cases c:eQ B F=0
   ·rw[if_pos (bl6 c)]
    refine⟨lp,rfl,_,rfl,_,rfl,_,F,_,B,rfl,.inl rfl,.inl rfl,by omega,by omega,_,rfl,_,rfl,_,vF,_,rfl,(by show 1<=1000;decide),(by show (flat (.tup (intz B))&&true)=true;rw[bA1];unfold flat;exact cR B),tups Bs,[.tup (intz B)],rfl,rfl,jD Bs,(by show (flat (.tup (intz B))&&true)=true;rw[bA1];unfold flat;exact cR B),?_,_,rfl,rfl,?_,?_⟩
    ·have:=ge.len
     show (tups Bs).length+1<=16000000
     unfold tups;rw[bl5];omega
    ·rw[show tups Bs++[PV.tup (intz B)]=tups (Bs++[B]) by unfold tups;rw[bn6];rfl]
     exact jD _
    ·obtain⟨gl2,m9⟩:=gl.keep (ge.with_ b1 b3 (bd4 c))
     have e3:tups Bs++[PV.tup (intz B)]=tups (Bs++[B]):=by unfold tups;rw[bn6];rfl
     refine⟨kI (F.filter λz=>!decide (z∈B)),tups (Bs++[B]),?_,?_,jD _,gl.all,gl.few hn,?_⟩
     ·rw[pQ]
     ·exact congrArg PV.fL e3
     ·exact⟨jJ lp (kI (F.filter λz=>!decide (z∈B))) (tups (Bs++[B])),some (.sh true (.tup (intz B))),rfl,gl2,m9⟩
   ·rw[if_neg (by rw[bm8];exact c)]
    exact⟨lp,_,rfl,gl,ne⟩
  ·rintro ρ ⟨lp,y6,rfl,gl,ne⟩
   exact⟨lp,_,_,y6,rfl,gl,λ_=>ne⟩
 ·rintro ρ ⟨lp,y4,y5,y6,rfl,gl,gk⟩
  refine⟨[none,none,none,some (.own (.dT lp)),none,none,none],rfl,λj m hm=>?_,?_⟩
  ·match j,hm with
   |0,hm=>cases hm
   |1,hm=>cases hm
   |2,hm=>cases hm
   |3,hm=>cases hm;exact⟨rfl,flats_nods (ai0 gl.all)⟩
   |4,hm=>cases hm
   |5,hm=>cases hm
   |6,hm=>cases hm
  ·have hk:0<(ps.map λp=>PV.tup (p.1.map kP)).length:=by
    rw[bl5];exact List.length_pos_iff.mpr hne
   exact⟨_,rfl,trivial,q lp gl (gk hk)⟩
def u8:bK:=λxs Q=>∃ws ls,xs = [bC ws ls]/\Wb ws ls/\ws.length<=12/\(eR ws ls).length<64/\∀Bs:ae,(∀B∈Bs,B∈eR ws ls)->(Bs.Pairwise λa b=>∀x∈a,x∉b)->Bs.length<=ws.length->Q (.fL (tups Bs))
def ai6:aM:=(aN (aY 1 (aE (ac8 λ_=>False) (a7 (a5 0) a9)))
 (aN (aY 2 (zE (yN (aE gL (a7 (a5 0) a9))) (u0 (fM a9))))
 (aN (eW (gX (aE gL (a7 (a5 0) a9))) (b8 3)
  (aY 2 (aE u7 (a7 (a5 2) (a7 (a5 3) (a7 (c7 (cN (a5 1)) [none,some 3] (b8 0) (aX (dY (bH (a5 0) (qC (.int 0))) (a5 1))) (a5 0)) a9))))))
 (bJ (mG (a5 2) (iZ a9))))))
theorem bd6:dC ai6 ["web","blocks","most","hearth"] u8:=by
 rintro xs Q ⟨ws,ls,rfl,wb,hn,few,q⟩
 refine⟨_,rfl,ws,ls,rfl,wb,λ_=>⟨few,λZ pz _=>?_⟩,λz=>by omega⟩
 have zm:∀B,B∈Z↔B∈eR ws ls:=λB=>pz.mem_iff
 refine⟨trivial,?_⟩
 refine⟨_,rfl,ws,ls,rfl,_,rfl,by omega,by omega,by show 0<=1000;omega,rfl,[],rfl,rfl,rfl,kI (rng ws.length),?_,rfl,trivial,?_⟩
 ·rw[pQ];show PV.tup (dD 0 ws.length)=_;rw[Y1]
 have zl:Z.length<64:=by rw[pz.length_eq];exact few
 refine⟨_,rfl,ws,ls,rfl,_,rfl,by omega,by omega,λk ρ=>∃ps y3,ρ = [some (.sh (flat (bC ws ls)) (bC ws ls)),some (.sh true (.lst (tups Z))),some (.sh true (.dT ps)),y3]/\GD ws.length (eR ws ls) k ps/\ps≠[],⟨[(kI (rng ws.length),.fL [])],none,rfl,⟨λp hp=>?_,bo1 _ _⟩,λz=>by cases z⟩,?_,?_⟩
 ·rw[bl0.mp hp]
  exact⟨_,[],rfl,List.Sublist.refl _,λx hx=>(e8.mp hx).1,λB hB=>(by cases hB),bv8,λB hB=>(by cases hB),bv9 _⟩
 ·rintro k y ρ hy ⟨ps,y3,rfl,gd,ne⟩
  obtain⟨rfl,hk⟩:=i5 hy
  refine tX rfl ?_
  refine⟨_,rfl,_,rfl,_,rfl,tups Z,rfl,(λz=>by cases z),by rw[dI];omega,λi acc=>∃A,acc=tups A/\∀B∈A,B∈Z/\(0+(k:Int))∈B,⟨[],rfl,λB hB=>by cases hB⟩,?_,?_⟩
  ·rintro i y acc hy ⟨A,rfl,hA⟩
   obtain⟨B,rfl,hB⟩:=jC hy
   have hZ:=bn2 hB
   refine tX (by unfold flat;exact cR B) ?_
   have lb:=kD.mp (bm0.mp ((zm B).mp hZ)).2
   cases B with
   |nil=>exact absurd rfl lb.1
   |cons b r=>
   refine⟨_,rfl,intz (b::r),0,.int b,rfl,rfl,jS (bv9 0) rfl,_,rfl,.inl ⟨_,_,rfl,rfl,_,rfl,?_⟩⟩
   show if decide (b=0+(k:Int))=true then _ else _
   by_cases c:b=0+(k:Int)
   ·rw[if_pos (bl6 c)]
    refine⟨_,rfl,trivial,A++[b::r],?_,λB hB=>?_⟩
    ·unfold tups;rw[bn6];rfl
    ·rcases bn4.mp hB with hB|hB
     ·exact hA B hB
     ·rw[bl0.mp hB]
      exact⟨hZ,by rw[<- c];exact bl7⟩
   ·rw[if_neg (by rw[bm8];exact c)]
    exact⟨A,rfl,hA⟩
  ·rintro acc ⟨A,rfl,hA⟩
   have sb:∀B∈eR ws ls,B.Sublist (rng ws.length):=λB hB=>(i8 _ B).mp (bm0.mp hB).1
   refine⟨ws.length,eR ws ls,ps,0+(k:Int),A,rfl,hn,by omega,by omega,by rw[bx7];exact gd,ne,λB hB=>⟨(zm B).mp (hA B hB).1,sb B ((zm B).mp (hA B hB).1),(hA B hB).2⟩,λps' g' ne'=>⟨trivial,ps',some (.sh true (.int (0+(k:Int)))),rfl,?_,ne'⟩⟩
   rw[bx7]at g'
   exact g'
 ·rintro ρ ⟨ps,y3,rfl,gd,ne⟩
  have lr:(dD 0 ws.length).length=ws.length:=by unfold dD;rw[bl5,by7]
  have gd:GD ws.length (eR ws ls) ((dD 0 ws.length).length:Nat) ps:=gd
  rw[lr]at gd
  obtain⟨p,r,rfl⟩:∃p r,ps=p::r:=by
   cases ps with
   |nil=>exact absurd rfl ne
   |cons p r=>exact⟨p,r,rfl⟩
  obtain⟨F,Bs,rfl,ge⟩:=gd.1 p bl7
  obtain rfl:F = []:=by
   cases F with
   |nil=>rfl
   |cons x F=>
    have h1:=ge.ge x bl7
    have h2:=(e8.mp (ge.sub.subset bl7)).2
    omega
  have v:=ai4 gd.2 (bl7 (a:=(kI [],PV.fL (tups Bs))) (l:=r))
  refine⟨_,rfl,by show 0<=1000;omega,rfl,_,.inr ⟨_,kI [],rfl,rfl,v.symm⟩,?_⟩
  have:=ge.len
  exact⟨trivial,q Bs ge.mem ge.dis (by omega)⟩
def kH (A:af):af:=A.filter λz=>!decide (z=0)
def u9:ae:=(b6 (rng 7)).filter λA=>!decide (0∈A)
theorem bd7:u9.length=64:=by decide +kernel
theorem jK {A:af}{x:Int}:x∈kH A↔x∈A/\x≠0:=by
 unfold kH
 rw[bm0,Bool.not_eq_true',bq4]
theorem bd8 {n m:Nat}(h:n<=m):(rng n).Sublist (rng m):=by
 unfold rng
 refine List.Sublist.map _ ?_
 exact List.range_sublist.mpr h
theorem bd9 {A:af}(h:A.Sublist (rng 7)):kH A∈u9:=by
 refine bm0.mpr ⟨(i8 7 _).mpr (bz5.trans h),?_⟩
 rw[Bool.not_eq_true',bq4]
 exact λc=>(jK.mp c).2 rfl
theorem be0 {C:ae}(nd:C.Nodup)(sub:∀A∈C,A.Sublist (rng 7))(anti:∀A∈C,∀B∈C,(∀x∈A,x∈B)->A=B):C.length<64:=by
 have nm:(C.map kH).Nodup:=by
  refine List.Pairwise.map kH (R:=λa b=>a∈C/\b∈C/\a≠b) (λa b ⟨ha,hb,hne⟩ e=>hne ?_) ?_
  ·by_cases c:(0:Int)∈b
   ·refine anti a ha b hb λx hx=>?_
    by_cases x0:x=0
    ·rw[x0];exact c
    ·exact (jK.mp (e▸jK.mpr ⟨hx,x0⟩)).1
   ·refine (anti b hb a ha λx hx=>?_).symm
    have x0:x≠0:=λz=>c (z▸hx)
    exact (jK.mp (e.symm▸jK.mpr ⟨hx,x0⟩)).1
  ·refine List.Pairwise.imp_of_mem (λ{a b} ha hb h=>⟨ha,hb,h⟩) nd
 have key:∀e∈u9,e∉C.map kH->C.length<64:=λe he hn=>by
  have h1:=zG (ys:=u9.erase e) nm λx hx=>by
   obtain⟨A,hA,rfl⟩:=bn7.mp hx
   exact (List.mem_erase_of_ne λz=>hn (by rw[<- z];exact hx)).mpr (bd9 (sub A hA))
  rw[bl5,List.length_erase_of_mem he,bd7]at h1
  omega
 by_cases c0:([]:af)∈C.map kH
 ·by_cases c1:([1]:af)∈C.map kH
  ·refine key [1,2] (by decide +kernel) λc2=>?_
   obtain⟨P0,h0,e0⟩:=bn7.mp c0
   obtain⟨P1,h1,e1⟩:=bn7.mp c1
   obtain⟨P2,h2,e2⟩:=bn7.mp c2
   have i1:(1:Int)∈P1:=(jK.mp (e1▸bl0.mpr rfl)).1
   have z0:∀x∈P0,x=0:=λx hx=>Decidable.byContradiction λx0=>by
    have:=jK.mpr ⟨hx,x0⟩
    rw[e0]at this;cases this
   have n1:(0:Int)∉P1:=λc=>by
    have:=anti P0 h0 P1 h1 λx hx=>by rw[z0 x hx];exact c
    rw[<- this]at i1
    exact absurd (z0 1 i1) (by decide)
   have q1:∀x∈P1,x=1:=λx hx=>by
    have x0:x≠0:=λz=>n1 (z▸hx)
    have:=jK.mpr ⟨hx,x0⟩
    rw[e1]at this
    exact bl0.mp this
   have i2:(1:Int)∈P2:=(jK.mp (e2▸bl7)).1
   have e12:=anti P1 h1 P2 h2 λx hx=>by rw[q1 x hx];exact i2
   rw[e12,e2]at e1
   cases e1
  ·exact key [1] (by decide +kernel) c1
 ·exact key [] (by decide +kernel) c0
theorem be1 {ws:af}{ls:aa}(few:ws.length<=7):(eR ws ls).length<64:=by
 have sb:∀A∈eR ws ls,A.Sublist (rng ws.length):=λA hA=>(i8 _ A).mp (bm0.mp hA).1
 refine be0 ((aR5 ws.length).filter _) (λA hA=>(sb A hA).trans (bd8 few)) λA hA B hB h=>?_
 have lA:=kD.mp (bm0.mp hA).2
 have lB:=kD.mp (bm0.mp hB).2
 exact y7 (pM.mp (sb A hA)) (pM.mp (sb B hB)) λx=>⟨h x,lB.2.2 A lA.2.1 lA.1 h x⟩
theorem be2 {ws:af}{ls:aa}{ps S T:af}(h:yZ ws ls ps S)(hT:T∈cO ws ls):e9 ps S<=e9 ps T:=by
 have:=h.2 T hT
 rw[HT.gE]at this
 by_cases e:e9 ps T=e9 ps S
 ·omega
 ·rw[if_neg e,bq4]at this
  omega
section
variable {ws:af}{ls:aa}{Bs:ae}{S:af}
theorem ai7 (hB:∀B∈Bs,B∈eR ws ls)(hS:bD ws.length S=true)(f:dM ws ls S=true):∀B∈Bs,∃y∈B,y∈S:=λB hb=>by
 have h:=hB B hb
 have sb:=(i8 _ B).mp (bm0.mp h).1
 have lb:=kD.mp (bm0.mp h).2
 cases B with
 |nil=>exact absurd rfl lb.1
 |cons x r=>exact bb2 lb.2.1 bl7 (sb.subset bl7) f λs hs=>e8.mpr ((eG hS).2 s hs)
theorem ai8:∀{Bs:ae},Bs.Pairwise (λa b=>∀x∈a,x∉b)->(∀B∈Bs,∃y∈B,y∈S)->∃L:af,L.Nodup/\L.length=Bs.length/\∀x∈L,x∈S/\∃B∈Bs,x∈B
 |[],_,_=>⟨[],bv8,rfl,λ_ z=>by cases z⟩
 |q::qs,p,m=>by
  obtain⟨p1,p2⟩:=List.pairwise_cons.mp p
  obtain⟨L,l1,l2,l3⟩:=ai8 p2 λr hr=>m r (bm1 _ hr)
  obtain⟨y,hy,hs⟩:=m q bl7
  refine⟨y::L,bu1.mpr ⟨λz=>?_,l1⟩,by rw[bo3,bo3,l2],λx hx=>?_⟩
  ·obtain⟨_,r,hr,hx⟩:=l3 y z
   exact p1 r hr y hy hx
  ·rcases bl8.mp hx with z|z
   ·rw[z];exact⟨hs,q,bl7,hy⟩
   ·obtain⟨a,r,hr,hx⟩:=l3 x z
    exact⟨a,r,bm1 _ hr,hx⟩
theorem be3 (hB:∀B∈Bs,B∈eR ws ls)(dis:Bs.Pairwise λa b=>∀x∈a,x∉b)(hS:bD ws.length S=true)(f:dM ws ls S=true):Bs.length<=S.length:=by
 obtain⟨L,l1,l2,l3⟩:=ai8 dis (ai7 hB hS f)
 rw[<- l2]
 exact ag9 l1 λx hx=>(l3 x hx).1
end
def zI:bK:=Y4
def be4:aD:=aE pL (a7 (c7 (cN (a5 9)) [none,some 3] (b8 0) dX (bH (a5 1) (a5 0))) a9)
def ai9:aM:=(eW (cN (a5 6)) (b8 10)
    (cF (aX (dY (aE bQ (a7 (c7 (cN (a5 10)) [none,some 9] (b8 0) (aX (q2 (oR false) (a5 0) (a5 1))) (a5 0)) a9)) (qC (.int 0)))) (bJ (qC (.bl false))) cZ))
def zJ:aM:=(cF (aX (aE tH (a7 (a5 1) (a7 (a5 9) a9)))) (aN (cF (qY (aX (lD (aE bQ (a7 (a5 9) a9)) (a5 5))) (aX (P5 (dY (aE bQ (a7 (a5 9) a9)) (a5 5)) (q2 yJ (a5 9) (a5 4))))) (bJ (qC (.bl false))) cZ)
   (aN (cF (aX (lD be4 (a5 7))) (bJ (qC (.bl false))) cZ)
   ai9)) cZ)
def aj0:aM:=(aN (aY 1 (aE tQ (a7 (a5 0) (a7 (qC (.int 7)) a9))))
 (aN (aY 2 (aE bQ (a7 (bH (a5 1) (qC (.int 0))) a9)))
 (aN (aY 3 (aE tT (a7 (a5 0) (a7 (a5 2) a9))))
 (aN (aY 4 (aE (tO λ_=>False) (a7 (a5 1) a9)))
 (aN (aY 5 (aE (tP λ_=>False) (a7 (a5 1) a9)))
 (aN (aY 6 (aE u8 (a7 (a5 1) a9)))
 (aN (aY 7 (aE pL (a7 (c7 (cN (aE (tW λ_=>False) (a7 (a5 1) (a7 (a5 3) a9)))) [none,some 3] (b8 0) dX (bH (a5 1) (a5 0))) a9)))
 (aN (cF (aX (jY (aE bQ (a7 (a5 6) a9)) (a5 5))) (bJ (qC (.bl false))) cZ)
 (aN (eW (cN (xX (wY (a5 0) (oT (qC (.int 2))) (oT (qC (.int 62)))) (fM (a7 (oQ (qC (.int 1))) a9)))) (b8 8)
  (aN (aY 9 (aE tI (a7 (a5 8) (a7 (a5 2) a9))))
  (aN (cF (aX (dY (a5 8) (oQ (qC (.int 1))))) (aY 9 (yN (a5 2))) cZ)
  zJ)))
 (bJ (qC (.bl true))))))))))))
section
variable {ws:af}{ls:aa}{Bs Z:ae}{S C ps:af}{M:Int}{E:oJ}{s0 s2 s8 y10:Option Slot}
theorem aj1 {s0 s1:Option Slot}{i:Nat}{y:PV}{acc:List PV}{I:Nat->List PV->Prop}(hS:∀x∈S,0<=x/\x<(ps.length:Int))(hy:(intz S)[i]? = some y)(e:acc=intz ((S.take i).map λs=>ps.getD s.toNat 0)):∃n,y = .int n/\L2.atI (intz ps) n=some (.int (ps.getD n.toNat 0))/\acc++[.int (ps.getD n.toNat 0)]=intz ((S.take (i+1)).map λs=>ps.getD s.toNat 0):=by
 obtain⟨n,rfl,hn⟩:=fZ hy
 have nn:=hS n (bn2 hn)
 refine⟨n,rfl,?_,?_⟩
 ·have hl:n.toNat<ps.length:=by omega
  have:=iS (xs:=intz ps) (j:=n.toNat) (v:=.int (ps.getD n.toNat 0)) (by show (List.map PV.int ps)[_]? = _;rw[bl4,bl3,bk5 hl];rfl)
  rwa [Int.toNat_of_nonneg nn.1]at this
 ·rw[e,bp6,hn,bn6,fA];rfl
theorem be5 (hB:∀B∈Bs,B∈eR ws ls)(n12:ws.length<=12)(hS:bD ws.length S=true)(f:dM ws ls S=true)(nx:∀y,E.nx [s0,some (.sh true (bC ws ls)),s2,some (.sh true (.lst (intz ps))),some (.sh true (.lst (tups Z))),si M,some (.sh true (.fL (tups Bs))),si (e9 ps C),s8,some (.sh true (.tup (intz S))),y]) :
  ai9 E [s0,some (.sh true (bC ws ls)),s2,some (.sh true (.lst (intz ps))),some (.sh true (.lst (tups Z))),si M,some (.sh true (.fL (tups Bs))),si (e9 ps C),s8,some (.sh true (.tup (intz S))),y10]:=by
 refine⟨_,rfl,tups Bs,rfl,(λz=>by cases z),λi ρ=>∃y,ρ = [s0,some (.sh true (bC ws ls)),s2,some (.sh true (.lst (intz ps))),some (.sh true (.lst (tups Z))),si M,some (.sh true (.fL (tups Bs))),si (e9 ps C),s8,some (.sh true (.tup (intz S))),y],⟨_,rfl⟩,?_,?_⟩
 ·rintro i y ρ hy ⟨y10,rfl⟩
  obtain⟨b,rfl,hb⟩:=jC hy
  have pm:=bn2 hb
  obtain⟨x,xb,xs⟩:=ai7 hB hS f b pm
  have pl:=zH ((i8 _ b).mp (bm0.mp (hB b pm)).1)
  refine bb0 ?_
  refine⟨_,rfl,intz b,rfl,(λz=>by cases z),by rw[aW];omega,λj acc=>acc=intz ((b.take j).filter λx=>decide (x∈S)),rfl,?_,?_⟩
  ·rintro j z acc hz rfl
   obtain⟨n,rfl,hn⟩:=fZ hz
   have tk:=k9 (p:=λz=>decide (z∈S)) hn
   refine⟨_,rfl,_,rfl,n,S,rfl,rfl,_,rfl,?_⟩
   show if decide (n∈S)=true then _ else _
   cases hm:decide (n∈S) with
   |true=>
    rw[hm]at tk
    refine bP ⟨_,rfl,trivial,?_⟩
    dsimp only
    rw[tk,fA];rfl
   |false=>
    rw[hm]at tk
    refine bG ?_
    dsimp only
    rw[tk];exact (bo9 _).symm▸rfl
  ·rintro acc rfl
   rw[aW,bp9 (bk7 _)]
   refine⟨_,_,rfl,rfl,.inl ⟨_,_,rfl,rfl,_,rfl,?_⟩⟩
   have ne:(b.filter λx=>decide (x∈S)).length≠0:=λz=>by
    have:=List.length_eq_zero_iff.mp z
    have:=bz7.mp this x xb
    rw[bl6 xs]at this
    exact this rfl
   rw[aW]
   show if decide (((b.filter λx=>decide (x∈S)).length:Int)=0)=true then _ else _
   rw[bl1 (by omega)]
   exact bG ⟨_,rfl⟩
 ·rintro ρ ⟨y,rfl⟩
  exact nx y
theorem aj2 (wb:Wb ws ls)(n12:ws.length<=12)(gp:jI ws.length ps)(hM:nM ws ls M)(pz:Z.Perm (lP ws ls M))(hC:yZ ws ls ps C)(hB:∀B∈Bs,B∈eR ws ls)(hS:bD ws.length S=true)(nx:∀y,E.nx [s0,some (.sh true (bC ws ls)),s2,some (.sh true (.lst (intz ps))),some (.sh true (.lst (tups Z))),si M,some (.sh true (.fL (tups Bs))),si (e9 ps C),s8,some (.sh true (.tup (intz S))),y]) :
  zJ E [s0,some (.sh true (bC ws ls)),s2,some (.sh true (.lst (intz ps))),some (.sh true (.lst (tups Z))),si M,some (.sh true (.fL (tups Bs))),si (e9 ps C),s8,some (.sh true (.tup (intz S))),y10]:=by
 have sl:=mW hS
 refine⟨_,rfl,_,rfl,ws,ls,_,S,rfl,wb,.inl rfl,λx hx=>e8.mpr ((eG hS).2 x hx),_,rfl,?_⟩
 cases f:dM ws ls S with
 |false=>exact bG (nx _)
 |true=>
  have lit:S∈cO ws ls:=lO.mpr ⟨hS,f⟩
  have lo:=hM.2 S lit
  refine bP ⟨_,rfl,_,_,rfl,rfl,_,rfl,_,_,rfl,rfl,_,rfl,?_⟩
  rw[aW]
  show if decide ((S.length:Int)<M)=true then _ else _
  rw[bl1 (by omega)]
  refine bG ⟨_,rfl,_,_,rfl,rfl,_,rfl,.inl ⟨_,_,rfl,rfl,_,rfl,_,rfl,S,Z,rfl,rfl,.inr ⟨_,_,rfl,rfl,_,rfl,?_⟩⟩⟩
  have same:decide ((S.length:Int)=M)=decide (S∈Z):=by
   rw[bq8,bm8,bm8,pz.mem_iff]
   unfold lP
   rw[bm0,bm8]
   exact⟨λz=>⟨lit,z⟩,λz=>z.2⟩
  rw[aW]
  show if (!decide (decide ((S.length:Int)=M)=decide (S∈Z)))=true then _ else _
  rw[same,bl6 rfl]
  refine bG ?_
  have pl:=gp.1
  have inn:∀x∈S,0<=x/\x<(ps.length:Int):=λx hx=>by
   have:=(eG hS).2 x hx
   omega
  refine⟨_,rfl,intz S,rfl,(λz=>by cases z),by rw[aW];omega,λi acc=>acc=intz ((S.take i).map λs=>ps.getD s.toNat 0),rfl,?_,?_⟩
  ·rintro i y acc hy e
   obtain⟨n,rfl,ix,e2⟩:=aj1 (s0:=none) (s1:=none) (I:=λ_ _=>True) inn hy e
   exact⟨_,rfl,_,rfl,_,_,_,rfl,rfl,ix,rfl,e2⟩
  ·rintro acc rfl
   rw[aW,bn9]
   refine⟨_,_,rfl,rfl,_,rfl,_,_,rfl,rfl,_,rfl,?_⟩
   have le:=be2 hC lit
   show if decide (e9 ps S<e9 ps C)=true then _ else _
   rw[bl1 (by omega)]
   exact bG (be5 hB n12 hS f nx)
end
theorem be6:dC aj0 ["script","web","many","prices","least","fewest","blocks","best","cell","seeds","block"] zI:=by
 rintro xs Q ⟨ns,rfl,hl,q⟩
 refine⟨_,rfl,ns,7,rfl,hl,by decide,by decide,λn ws ls n0 n1 w=>⟨trivial,?_⟩⟩
 have wl:=w.many
 have wb:Wb ws ls:=w.wb (by omega)
 have few:ws.length<=12:=by omega
 have n7:ws.length<=7:=by omega
 refine⟨_,rfl,_,_,_,rfl,rfl,rfl,_,_,rfl,rfl,trivial,?_⟩
 rw[aW]
 refine⟨_,rfl,_,rfl,ns,ws.length,rfl,hl,by omega,λps gp=>⟨trivial,?_⟩⟩
 have pl:=gp.1
 refine⟨_,rfl,ws,ls,rfl,wb,λ_ M hM=>⟨aY6 n7 hM,λZ pz _=>⟨trivial,?_⟩⟩,λz=>absurd z (by omega)⟩
 refine⟨_,rfl,ws,ls,rfl,wb,λ_ N hN=>⟨trivial,?_⟩,λz=>absurd z (by omega)⟩
 obtain rfl:=aY7 hM hN
 refine⟨_,rfl,ws,ls,rfl,wb,few,be1 n7,λBs hB dis bl=>⟨trivial,?_⟩⟩
 refine⟨_,rfl,_,rfl,ws,ls,_,ps,rfl,wb,few,.inr rfl,by omega,λ_ C hC=>?_,λz=>absurd gp z⟩
 have sC:=(lO.mp hC.1).1
 have lC:=mW sC
 refine⟨intz C,rfl,(λz=>by cases z),by rw[aW];omega,λi acc=>acc=intz ((C.take i).map λs=>ps.getD s.toNat 0),rfl,?_,?_⟩
 ·rintro i y acc hy e
  obtain⟨n,rfl,ix,e2⟩:=aj1 (s0:=none) (s1:=none) (I:=λ_ _=>True) (λx hx=>by have:=(eG sC).2 x hx;omega) hy e
  exact⟨_,rfl,_,rfl,_,_,_,rfl,rfl,ix,rfl,e2⟩
 rintro acc rfl
 rw[aW,bn9]
 refine⟨_,_,rfl,rfl,trivial,?_⟩
 obtain⟨S0,hS0,e0⟩:=hM.1
 have a0:=be3 hB dis (lO.mp hS0).1 (lO.mp hS0).2
 refine⟨_,rfl,_,_,rfl,rfl,_,rfl,_,_,rfl,rfl,_,rfl,?_⟩
 rw[dI]
 show if decide (M<(Bs.length:Int))=true then _ else _
 rw[bl1 (by omega)]
 refine bG ?_
 obtain⟨zs,ez,zl⟩:=vZ ns (some 2) (some 62)
 refine⟨_,rfl,_,rfl,_,rfl,_,rfl,cR _,_,rfl,by show 1<=1000;decide,rfl,j6 (intz ns) (some 2) (some 62),[.int (-1)],rfl,rfl,by rw[ez];exact cR _,rfl,by rw[ez,aW];show zs.length+1<=_;omega,intz (zs++[-1]),by show some (j6 (intz ns) (some 2) (some 62)++[.int (-1)])=_;rw[ez,fA];rfl,(λz=>by cases z),
  λi ρ=>∃y8 y9 y10,ρ = [some (.sh true (.scr ns)),some (.sh true (bC ws ls)),si ws.length,some (.sh true (.lst (intz ps))),some (.sh true (.lst (tups Z))),si M,some (.sh true (.fL (tups Bs))),si (e9 ps C),y8,y9,y10],⟨none,none,none,rfl⟩,?_,?_⟩
 ·rintro i y ρ hy ⟨y8,y9,y10,rfl⟩
  obtain⟨c,rfl,hc⟩:=fZ hy
  refine jF ?_
  refine⟨_,rfl,_,rfl,c,ws.length,rfl,by omega,λS hS=>⟨trivial,?_⟩⟩
  refine⟨_,rfl,_,rfl,.inl ⟨_,_,rfl,rfl,_,rfl,?_⟩⟩
  show if decide (c = -1)=true then _ else _
  by_cases c1:c = -1
  ·rw[if_pos (bl6 c1)]
   refine⟨_,rfl,ws.length,rfl,by omega,by omega,trivial,?_⟩
   show zJ _ [_,_,_,_,_,_,_,_,_,some (.sh true (.tup (dD 0 ws.length))),_]
   rw[ba9]
   exact aj2 wb few gp hM pz hC hB (ba8 _) λy=>⟨_,_,y,rfl⟩
  ·rw[if_neg (by rw[bm8];exact c1)]
   exact aj2 wb few gp hM pz hC hB hS λy=>⟨_,_,y,rfl⟩
 ·rintro ρ ⟨y8,y9,y10,rfl⟩
  exact⟨trivial,q⟩
end Core
namespace K_k39
open PySem PySem.W L2 PP Core
theorem _root_.L2.FnScope.au {N P:List Str}{s:Scope}(a:s.kind=.function:=by rfl)(b:s.isCoroutine=false:=by rfl)(c:s.isGenerator=false:=by rfl)(d:N.Nodup:=by decide +kernel)(e:N.take P.length=P:=by rfl)(f:∀x∈P,s.names.lookup x=some .local∨s.names.lookup x=some .cell:=by decide +kernel)(g:∀y∈s.names,y.2≠.free:=by decide +kernel):FnScope N P s:=⟨a,b,c,d,e,f,g⟩
def aV (i:Nat):Stmt:=PySem.Challenge.pw_kindleweb_k39_whole_no_fewer_no_cheaper.main.body.getD i (.Pass ⟨0,0,0,0⟩)
structure FK (K:Frag)(n:Str)(i:Nat)(f:Addr)(d:FuncData):Prop where
 a:nsIn K mainGlobals n=some (some (.ref f))
 F:eB K n n (aV i) f d
structure FM (K:Frag)(mg:Str->Option Value)(n:Str)(i:Nat)(f:Addr)(d:FuncData):Prop where
 F:eB K n n (aV i) f d
 m:mg n=some (.ref f)
theorem FK.M {K:Frag}{mg:Str->Option Value}{n:Str}{i:Nat}{f:Addr}{d:FuncData}{h:Heap}(z:FK K n i f d)(X:K.In h)(G:h.Ns mainGlobals mg):FM K mg n i f d:=⟨z.F,mg_of X G z.a⟩
abbrev Hb (x:Str)(ps:List Str)(i:Nat):Prop:=∀(kV doc pm:Value) (an:Option Addr) (cdv ct:Value) (us:List Value),us.length=ps.length->bindArgs (fnOf x x (iG (aV i)) (dW (aV i)) (aQ (aV i)) .none kV doc pm an cdv ct) ⟨us,[]⟩=pure (ps.zip us)
theorem zK {A:Around}{k:Nat}(hr:bT k A):A.units+3<cLine:=by have:=hr.units;omega
section
variable {P:Program}{w:World}{K:Frag}{mg:Str→Option Value}{base:Heap}{f:Addr}{fd:FuncData}{k i:Nat}{x:Str}{ps N:List Str}
theorem Df.au {p:bK}(F:FM K mg x i f fd)(S:FnScope N ps (aQ (aV i)))(body:∀(cdv:Value) (A:Around) (outer:List Env) (s:Shared) (H:Hp) (E:XK),bT k (A.deeper (PyProof.Rows.envOfC x (aQ (aV i)) s.heap.objs.size f cdv))->∃t,eN (cX cY P w K mg base N x (aQ (aV i)) f cdv A outer s H E).nox (dW (aV i)) t/\∀xs Q,p xs Q->t { nx:=λ_=>Q .non,rt:=Q } (fO N xs))(hb:Hb x ps i:=by intro _ _ _ _ _ _ us hl;first|(obtain⟨_,rfl⟩:=nD hl;rfl)|(obtain⟨_,_,rfl⟩:=yD hl;rfl)|(obtain⟨_,_,_,rfl⟩:=yE hl;rfl)|(obtain⟨_,_,_,_,rfl⟩:=us4 hl;rfl)|(obtain⟨_,_,_,_,_,rfl⟩:=us5 hl;rfl))(len:∀xs Q,p xs Q->xs.length=ps.length:=by intro xs Q h;repeat (first|(obtain⟨rfl,_⟩:=h;rfl)|(obtain⟨_,h⟩:=h))):Df P w K mg base (k+1) x ps p:=
 Df.of F.F F.m S hb len body
theorem bF.au {p:dL}(F:FM K mg x i f fd)(S:FnScope N ps (aQ (aV i)))(t:(Str->Prop)->aM)(rd:∀Ep xs Q,p Ep xs Q->t Ep { nx:=λ_=>Q .non,rt:=Q } (fO N xs))(body:∀(cdv:Value) (A:Around) (outer:List Env) (s:Shared) (H:Hp) (E:XK) (Ep:Str->Prop),bT k (A.deeper (PyProof.Rows.envOfC x (aQ (aV i)) s.heap.objs.size f cdv))->mV (cX (eO P w) P w K mg base N x (aQ (aV i)) f cdv A outer s H E) (EX K H Ep)->eN (cX (eO P w) P w K mg base N x (aQ (aV i)) f cdv A outer s H E) (dW (aV i)) (t Ep))(hb:Hb x ps i:=by intro _ _ _ _ _ _ us hl;first|(obtain⟨_,rfl⟩:=nD hl;rfl)|(obtain⟨_,_,rfl⟩:=yD hl;rfl)|(obtain⟨_,_,_,rfl⟩:=yE hl;rfl)|(obtain⟨_,_,_,_,rfl⟩:=us4 hl;rfl)|(obtain⟨_,_,_,_,_,rfl⟩:=us5 hl;rfl))(len:∀Ep xs Q,p Ep xs Q->xs.length=ps.length:=by intro Ep xs Q h;repeat (first|(obtain⟨rfl,_⟩:=h;rfl)|(obtain⟨_,h⟩:=h))):bF P w K mg base (k+1) x ps p:=
 bF.of F.F F.m S hb t len rd body
end
section
variable {P:Program}{w:World}{K:Frag}{mg:Str→Option Value}{base:Heap}{f:Addr}{fd:FuncData}
theorem uA:(["ahead","behind"]:List Str).Nodup:=by decide +kernel
abbrev aj3:Stmt:=aV 6
theorem scR:FnScope ["things"] ["things"] (aQ aj3):=.au
theorem zL {ns:af}{i:Nat}{x y:V}(h1:(ns.map V.int)[i]? = some x)(h2:((ns.map V.int).drop 1)[i]? = some y):∃p q:Int,x = .int p/\y = .int q/\(ns.zip (ns.drop 1))[i]? = some (p,q):=by
 rw[bl4]at h1
 rw[<- List.map_drop,bl4]at h2
 cases e1:ns[i]? with
 |none=>rw[e1]at h1;cases h1
 |some p=>
  cases e2:(ns.drop 1)[i]? with
  |none=>rw[e2]at h2;cases h2
  |some q=>
   rw[e1]at h1;rw[e2]at h2
   exact⟨p,q,(bn8 h1).symm,(bn8 h2).symm,List.getElem?_zip_eq_some.mpr ⟨e1,e2⟩⟩
theorem be7 (B:Bt mg)(F:eB K "rises" "rises" aj3 f fd):cL P w K mg base cY 1 f fd ["things"] (X9 K):=by
 refine F.ok scR (λvs H Q E h=>?_) (λcdv A outer s H vs Q E hr h=>?_)
 ·obtain⟨a,ns,rfl,_⟩:=h
  rfl
 obtain⟨a,ns,rfl,hS,hn,q⟩:=h
 have lz:((ns.map V.int).drop 1).length<=sizeLine:=bu6 (gI (by rw[bv3,bl5];omega))
 have lz2:((ns.map V.int).drop 1).length<=(ns.map V.int).length:=by rw[bv3];omega
 have lz3:(ns.zip (ns.drop 1)).length=((ns.map V.int).drop 1).length:=by rw[List.length_zip,bv3,bv3,bl5];omega
 rcases hS with hS|hS
 ·refine⟨_,iR (lT (uU (w9 rfl) rfl B.all PyProof.Rows.boot_all (cW (K3 (N:=["ahead","behind"]) (fr:=[none,none]) rfl (cQ.of rfl rfl) (az5 rfl B.zip (cW (pv 0) (cW (uX N0 (pv 0) (uW kK) E6) dH)))
   ⟨λ_ _ _ _=>show PG _ _ (kO K 2 (fR (cV 0) (fR (cV 1) kN))) from nV rfl (iD (eU (i:=0) uA rfl (Or.inl rfl) (.inr rfl)) (iD (eU (i:=1) uA rfl (Or.inl rfl) (.inr rfl)) nR)),λ_ _ _ _=>oA,λ_ _ _ _=>uQ pY (pv 0) (pv 1) (gQ _)⟩) dH))),?_⟩
  refine⟨_,rfl,_,rfl,1,rfl,a,_,rfl,hS,λp hp=>?_,λe=>?_⟩
  ·have s1:=aZ hp (.tup (dN (ns.map V.int) (some 1) none))
   have hb:aH K (upd H p (.tup (dN (ns.map V.int) (some 1) none))) p ((ns.map V.int).drop 1):=aH.of (by rw[aT,wC])
   refine⟨a,p,_,_,rfl,s1.tup hS,hb,wB (M9 (s1.tup hS) hb lz2) (λi acc _=>acc=((ns.zip (ns.drop 1)).take i).map λ(p:Int×Int)=>V.bl (decide (p.1<p.2))) lz (λ_ _=>rfl) (λ_ _ _ _ _ h=>h) (λi x acc D H' hi hR c hP=>?_) (λD acc H' hD sm hDa hlen hP=>?_)⟩
   ·obtain⟨T,x1,y1,rfl,hT,h1,h2⟩:=hR
    obtain⟨m,k,rfl,rfl,hz⟩:=zL h1 h2
    refine⟨T,_,rfl,aH.of hT,rfl,_,_,rfl,_,_,rfl,rfl,((Wk.refl _).set (i:=0) rfl).set (i:=1) rfl,oF ⟨_,rfl,_,rfl,_,_,rfl,rfl,c.yes (aA.refl _) ?_⟩⟩
    rw[pD hz,hP]
   ·refine⟨D,(ns.zip (ns.drop 1)).map λ(p:Int×Int)=>decide (p.1<p.2),rfl,aJ.of ?_,q _ (s1.trans sm)⟩
    rw[hDa,hP,<- lz3,bn9,bx6];rfl
  ·have hb:aH K H a ((ns.map V.int).drop 1):=by
    have:(ns.map V.int).drop 1=ns.map V.int:=by rw[<- wC];exact e
    rw[this];exact hS
   refine⟨a,a,_,_,rfl,hS,hb,wB (M9 hS hb lz2) (λi acc _=>acc=((ns.zip (ns.drop 1)).take i).map λ(p:Int×Int)=>V.bl (decide (p.1<p.2))) lz (λ_ _=>rfl) (λ_ _ _ _ _ h=>h) (λi x acc D H' hi hR c hP=>?_) (λD acc H' hD sm hDa hlen hP=>?_)⟩
   ·obtain⟨T,x1,y1,rfl,hT,h1,h2⟩:=hR
    obtain⟨m,k,rfl,rfl,hz⟩:=zL h1 h2
    refine⟨T,_,rfl,aH.of hT,rfl,_,_,rfl,_,_,rfl,rfl,((Wk.refl _).set (i:=0) rfl).set (i:=1) rfl,oF ⟨_,rfl,_,rfl,_,_,rfl,rfl,c.yes (aA.refl _) ?_⟩⟩
    rw[pD hz,hP]
   ·refine⟨D,(ns.zip (ns.drop 1)).map λ(p:Int×Int)=>decide (p.1<p.2),rfl,aJ.of ?_,q _ sm⟩
    rw[hDa,hP,<- lz3,bn9,bx6];rfl
 ·refine⟨_,iR (lT (uU (w9 rfl) rfl B.all PyProof.Rows.boot_all (cW (K3 (N:=["ahead","behind"]) (fr:=[none,none]) rfl (cQ.of rfl rfl) (aA1 rfl B.zip (cW (pv 0) (cW (uX F5 (pv 0) (uW kK) E6) dH)))
   ⟨λ_ _ _ _=>show PG _ _ (kO K 2 (fR (cV 0) (fR (cV 1) kN))) from nV rfl (iD (eU (i:=0) uA rfl (Or.inl rfl) (.inr rfl)) (iD (eU (i:=1) uA rfl (Or.inl rfl) (.inr rfl)) nR)),λ_ _ _ _=>oA,λ_ _ _ _=>uQ pY (pv 0) (pv 1) (gQ _)⟩) dH))),?_⟩
  refine⟨_,rfl,_,rfl,1,rfl,a,_,rfl,hS,λp hp=>?_⟩
  have s1:=aZ hp (.lst (dN (ns.map V.int) (some 1) none))
  have hb:aJ K (upd H p (.lst (dN (ns.map V.int) (some 1) none))) p ((ns.map V.int).drop 1):=aJ.of (by rw[aT,wC])
  refine⟨a,p,_,_,rfl,s1.seq hS,hb,wB (aA2 (s1.seq hS) hb lz2) (λi acc _=>acc=((ns.zip (ns.drop 1)).take i).map λ(p:Int×Int)=>V.bl (decide (p.1<p.2))) lz (λ_ _=>rfl) (λ_ _ _ _ _ h=>h) (λi x acc D H' hi hR c hP=>?_) (λD acc H' hD sm hDa hlen hP=>?_)⟩
  ·obtain⟨T,x1,y1,rfl,hT,h1,h2⟩:=hR
   obtain⟨m,k,rfl,rfl,hz⟩:=zL h1 h2
   refine⟨T,_,rfl,aH.of hT,rfl,_,_,rfl,_,_,rfl,rfl,((Wk.refl _).set (i:=0) rfl).set (i:=1) rfl,oF ⟨_,rfl,_,rfl,_,_,rfl,rfl,c.yes (aA.refl _) ?_⟩⟩
   rw[pD hz,hP]
  ·refine⟨D,(ns.zip (ns.drop 1)).map λ(p:Int×Int)=>decide (p.1<p.2),rfl,aJ.of ?_,q _ (s1.trans sm)⟩
   rw[hDa,hP,<- lz3,bn9,bx6];rfl
abbrev aj4:Stmt:=aV 8
theorem uB:FnScope ["web","around","one","other"] ["web"] (aQ aj4):=.au
theorem be8 (F:eB K "near_lists" "near_lists" aj4 f fd):cL P w K mg base cY 1 f fd ["web"] sO:=by
 refine F.ok uB (λvs H Q E h=>?_) (λcdv A outer s H vs Q E hr h=>?_)
 ·obtain⟨v,ws,ls,rfl,_⟩:=h
  rfl
 obtain⟨v,ws,ls,rfl,W,hn,hm,hin,q⟩:=h
 refine⟨_,kL (K4 (i:=1) (N:=["want"]) (fr:=[none]) rfl (cQ.of rfl rfl) (pU (iU o5 (pv 0) kK (λ_ _=>rfl)))
   ⟨λ_ _ _ _=>eU (i:=0) (bo1 _ _) rfl (Or.inl rfl) (.inr rfl),λ_ _ _ _=>oA,λ_ _ _ _=>uS dH⟩ uB.nd rfl rfl rfl)
  (kL (pX PassesOwn.never rfl (pU (iU o5 (pv 0) kK (λ_ _=>rfl))) (nV (n:=2) rfl (iD (eU (i:=2) uB.nd rfl (Or.inl rfl) (.inr rfl)) (iD (eU (i:=3) uB.nd rfl (Or.inl rfl) (.inr rfl)) nR)) )
   (kL (lS (o7 by8 bx4 bx5 lY (iU o4 (pv 1) (pv 2) (λ_ _=>rfl)) (cW (pv 3) dH)))
   (iR (lS (o7 by8 bx4 bx5 lY (iU o4 (pv 1) (pv 3) (λ_ _=>rfl)) (cW (pv 2) dH))))))
  (iR (lT (pv 1)))),?_⟩
 obtain⟨a,p,q',ys,rfl,ha,hp,hq,hL⟩:=W.at_
 have lw:(ws.map V.int).length=ws.length:=bl5 _
 refine⟨_,rfl,a,_,_,_,rfl,rfl,aH.of ha,rfl,p,rfl,⟨_,aH.of hp⟩,K9 (K7 (aH.of hp)) (λi acc H'=>∃bs:List Addr,acc=bs.map V.ref/\bs.length=i/\bs.Nodup/\∀b∈bs,H b=none/\H' b=some (.lst [])) (by rw[lw];exact bu6 (vG hn))
  (λD hD=>⟨[],rfl,rfl,List.nodup_nil,λ_ z=>nomatch z⟩) (λi x acc D H' hx c hPv=>?_) (λD acc H' hD sm hDa hlen hPv=>?_)⟩
 ·obtain⟨bs,rfl,hbl,nd,hb⟩:=hPv
  refine⟨M1 (n:=none),oF ⟨bo4 _,λr hr'=>?_⟩⟩
  have hrD:r≠D:=λz=>by rw[z,c.acc]at hr';cases hr'
  have hrH:H r=none:=c.same.free hr'
  refine c.yes (aZ hr' _) ⟨bs++[r],by simp,by simp[hbl],?_,λb hm=>?_⟩
  ·refine by9.mpr ⟨nd,bo1 _ _,λb hb1 b' hb2 e=>?_⟩
   rw[bl0.mp hb2]at e
   rw[e]at hb1
   rw[(hb r hb1).2]at hr';cases hr'
  ·rcases bn4.mp hm with hm|hm
   ·have hbD:b≠D:=λz=>by
     rw[z]at hm
     have:=(hb D hm).2
     rw[c.acc]at this
     have:bs.map V.ref = []:=by injection this with e1;injection e1
     have:bs = []:=bw9.mp this
     rw[this]at hm;simp at hm
    refine⟨(hb b hm).1,?_⟩
    rw[aC hbD,aC (bX (hb b hm).2 hr')]
    exact (hb b hm).2
   ·rw[bl0.mp hm]
    exact⟨hrH,by rw[aC hrD,aT]⟩
 ·obtain⟨bs,rfl,hbl,nd,hb⟩:=hPv
  rw[lw]at hbl
  have R0:gT H H' D bs (λk=>bB (ls.take 0) k):=by
   refine⟨hD,λb hm=>⟨(hb b hm).1,λz=>?_⟩,nd,hDa,λk b hk=>(hb b (bn2 hk)).2,sm⟩
   rw[z]at hm
   have:=(hb D hm).2
   rw[hDa]at this
   have:bs.map V.ref = []:=by injection this with e1;injection e1
   have:bs = []:=bw9.mp this
   rw[this]at hm;simp at hm
  have lL:=hL.length
  refine⟨_,rfl,a,_,_,_,rfl,rfl,aH.of (sm _ _ ha),rfl,q',rfl,⟨_,aH.of (sm _ _ hq)⟩,A8 (K:=K) (a:=q') (xs:=ys) (λi σ H2=>∃x y:Option V,σ = [some (.ref a),some (.ref D),x,y]/\gT H H2 D bs (λk=>bB (ls.take i) k))
   ⟨none,none,rfl,R0⟩ (λi σ H2 _ ⟨_,_,_,R⟩=>aH.of (R.same _ _ hq)) ?_ ?_⟩
  ·rintro i y σ H2 hi ⟨x1,x2,rfl,R⟩
   obtain⟨l,b,hl,rfl,hbt⟩:=hL.get hi
   have hlm:l∈ls:=bn2 hl
   obtain⟨⟨h1,h2⟩,h3,h4⟩:=hin l hlm
   have k1:l.1.toNat<bs.length:=by omega
   have k2:l.2.toNat<bs.length:=by omega
   have e1:bs[l.1.toNat]? = some (bs[l.1.toNat]):=bk5 k1
   have e2:bs[l.2.toNat]? = some (bs[l.2.toNat]):=bk5 k2
   refine⟨b,_,rfl,aH.of (R.same _ _ hbt),rfl,_,_,rfl,_,_,rfl,rfl,?_⟩
   refine⟨_,rfl,_,rfl,D,_,_,.ref bs[l.1.toNat],rfl,rfl,aJ.of R.row,jS h1 (by rw[bl4,e1];rfl),oG (aJ.of (R.rows _ _ e1)),_,rfl,_,_,_,rfl,rfl,R.rows _ _ e1,?_,?_⟩
   ·rw[bl5]
    have:=m8 (ls.take i) (l.1.toNat:Nat)
    rw[bt6]at this
    exact gI (by omega)
   ·have R1:=R.app e1 l.2
    refine⟨_,rfl,_,rfl,D,_,_,.ref bs[l.2.toNat],rfl,rfl,aJ.of R1.row,jS h3 (by rw[bl4,e2];rfl),oG (aJ.of (R1.rows _ _ e2)),_,rfl,_,_,_,rfl,rfl,R1.rows _ _ e2,?_,?_⟩
    ·rw[bl5]
     have:=m8 (ls.take i) (l.2.toNat:Nat)
     rw[bt6]at this
     split
     ·rw[bm7,bq6];exact gI (by omega)
     ·exact gI (by omega)
    ·have R2:=R1.app e2 l.1
     refine⟨_,_,rfl,R2.congr λk hk=>?_⟩
     rw[M4 hl]
     have c1:(k=l.1.toNat)↔l.1=(k:Int):=by omega
     have c2:(k=l.2.toNat)↔l.2=(k:Int):=by omega
     by_cases d1:k=l.1.toNat
     ·by_cases d2:k=l.2.toNat
      ·rw[if_pos d2,if_pos d1,if_pos (c1.mp d1),if_pos (c2.mp d2)];simp
      ·rw[if_neg d2,if_pos d1,if_pos (c1.mp d1),if_neg (λz=>d2 (c2.mpr z))];simp
     ·by_cases d2:k=l.2.toNat
      ·rw[if_pos d2,if_neg d1,if_neg (λz=>d1 (c1.mpr z)),if_pos (c2.mp d2)];simp
      ·rw[if_neg d2,if_neg d1,if_neg (λz=>d1 (c1.mpr z)),if_neg (λz=>d2 (c2.mpr z))];simp
  ·
   rintro σ H2 ⟨x1,x2,rfl,R⟩
   refine⟨_,rfl,q D bs H2 hbl ?_⟩
   rw[lL,bn9]at R
   exact R
abbrev aj5:Stmt:=aV 42
theorem uC:FnScope ["web","beside","one","other"] ["web"] (aQ aj5):=.au
theorem be9 (F:eB K "_law_beside" "_law_beside" aj5 f fd):cL P w K mg base cY 1 f fd ["web"] sO:=by
 refine F.ok uC (λvs H Q E h=>?_) (λcdv A outer s H vs Q E hr h=>?_)
 ·obtain⟨v,ws,ls,rfl,_⟩:=h
  rfl
 obtain⟨v,ws,ls,rfl,W,hn,hm,hin,q⟩:=h
 refine⟨_,kL (K4 (i:=1) (N:=["hearth"]) (fr:=[none]) rfl (cQ.of rfl rfl) (pU (iU o5 (pv 0) kK (λ_ _=>rfl)))
   ⟨λ_ _ _ _=>eU (i:=0) (bo1 _ _) rfl (Or.inl rfl) (.inr rfl),λ_ _ _ _=>oA,λ_ _ _ _=>uS dH⟩ uC.nd rfl rfl rfl)
  (kL (pX PassesOwn.never rfl (pU (iU o5 (pv 0) kK (λ_ _=>rfl))) (nV (n:=2) rfl (iD (eU (i:=2) uC.nd rfl (Or.inl rfl) (.inr rfl)) (iD (eU (i:=3) uC.nd rfl (Or.inl rfl) (.inr rfl)) nR)) )
   (kL (lS (o7 by8 bx4 bx5 lY (iU o4 (pv 1) (pv 2) (λ_ _=>rfl)) (cW (pv 3) dH)))
   (iR (lS (o7 by8 bx4 bx5 lY (iU o4 (pv 1) (pv 3) (λ_ _=>rfl)) (cW (pv 2) dH))))))
  (iR (lT (pv 1)))),?_⟩
 obtain⟨a,p,q',ys,rfl,ha,hp,hq,hL⟩:=W.at_
 have lw:(ws.map V.int).length=ws.length:=bl5 _
 refine⟨_,rfl,a,_,_,_,rfl,rfl,aH.of ha,rfl,p,rfl,⟨_,aH.of hp⟩,K9 (K7 (aH.of hp)) (λi acc H'=>∃bs:List Addr,acc=bs.map V.ref/\bs.length=i/\bs.Nodup/\∀b∈bs,H b=none/\H' b=some (.lst [])) (by rw[lw];exact bu6 (vG hn))
  (λD hD=>⟨[],rfl,rfl,List.nodup_nil,λ_ z=>nomatch z⟩) (λi x acc D H' hx c hPv=>?_) (λD acc H' hD sm hDa hlen hPv=>?_)⟩
 ·obtain⟨bs,rfl,hbl,nd,hb⟩:=hPv
  refine⟨M1 (n:=none),oF ⟨bo4 _,λr hr'=>?_⟩⟩
  have hrD:r≠D:=λz=>by rw[z,c.acc]at hr';cases hr'
  have hrH:H r=none:=c.same.free hr'
  refine c.yes (aZ hr' _) ⟨bs++[r],by simp,by simp[hbl],?_,λb hm=>?_⟩
  ·refine by9.mpr ⟨nd,bo1 _ _,λb hb1 b' hb2 e=>?_⟩
   rw[bl0.mp hb2]at e
   rw[e]at hb1
   rw[(hb r hb1).2]at hr';cases hr'
  ·rcases bn4.mp hm with hm|hm
   ·have hbD:b≠D:=λz=>by
     rw[z]at hm
     have:=(hb D hm).2
     rw[c.acc]at this
     have:bs.map V.ref = []:=by injection this with e1;injection e1
     have:bs = []:=bw9.mp this
     rw[this]at hm;simp at hm
    refine⟨(hb b hm).1,?_⟩
    rw[aC hbD,aC (bX (hb b hm).2 hr')]
    exact (hb b hm).2
   ·rw[bl0.mp hm]
    exact⟨hrH,by rw[aC hrD,aT]⟩
 ·obtain⟨bs,rfl,hbl,nd,hb⟩:=hPv
  rw[lw]at hbl
  have R0:gT H H' D bs (λk=>bB (ls.take 0) k):=by
   refine⟨hD,λb hm=>⟨(hb b hm).1,λz=>?_⟩,nd,hDa,λk b hk=>(hb b (bn2 hk)).2,sm⟩
   rw[z]at hm
   have:=(hb D hm).2
   rw[hDa]at this
   have:bs.map V.ref = []:=by injection this with e1;injection e1
   have:bs = []:=bw9.mp this
   rw[this]at hm;simp at hm
  have lL:=hL.length
  refine⟨_,rfl,a,_,_,_,rfl,rfl,aH.of (sm _ _ ha),rfl,q',rfl,⟨_,aH.of (sm _ _ hq)⟩,A8 (K:=K) (a:=q') (xs:=ys) (λi σ H2=>∃x y:Option V,σ = [some (.ref a),some (.ref D),x,y]/\gT H H2 D bs (λk=>bB (ls.take i) k))
   ⟨none,none,rfl,R0⟩ (λi σ H2 _ ⟨_,_,_,R⟩=>aH.of (R.same _ _ hq)) ?_ ?_⟩
  ·rintro i y σ H2 hi ⟨x1,x2,rfl,R⟩
   obtain⟨l,b,hl,rfl,hbt⟩:=hL.get hi
   have hlm:l∈ls:=bn2 hl
   obtain⟨⟨h1,h2⟩,h3,h4⟩:=hin l hlm
   have k1:l.1.toNat<bs.length:=by omega
   have k2:l.2.toNat<bs.length:=by omega
   have e1:bs[l.1.toNat]? = some (bs[l.1.toNat]):=bk5 k1
   have e2:bs[l.2.toNat]? = some (bs[l.2.toNat]):=bk5 k2
   refine⟨b,_,rfl,aH.of (R.same _ _ hbt),rfl,_,_,rfl,_,_,rfl,rfl,?_⟩
   refine⟨_,rfl,_,rfl,D,_,_,.ref bs[l.1.toNat],rfl,rfl,aJ.of R.row,jS h1 (by rw[bl4,e1];rfl),oG (aJ.of (R.rows _ _ e1)),_,rfl,_,_,_,rfl,rfl,R.rows _ _ e1,?_,?_⟩
   ·rw[bl5]
    have:=m8 (ls.take i) (l.1.toNat:Nat)
    rw[bt6]at this
    exact gI (by omega)
   ·have R1:=R.app e1 l.2
    refine⟨_,rfl,_,rfl,D,_,_,.ref bs[l.2.toNat],rfl,rfl,aJ.of R1.row,jS h3 (by rw[bl4,e2];rfl),oG (aJ.of (R1.rows _ _ e2)),_,rfl,_,_,_,rfl,rfl,R1.rows _ _ e2,?_,?_⟩
    ·rw[bl5]
     have:=m8 (ls.take i) (l.2.toNat:Nat)
     rw[bt6]at this
     split
     ·rw[bm7,bq6];exact gI (by omega)
     ·exact gI (by omega)
    ·have R2:=R1.app e2 l.1
     refine⟨_,_,rfl,R2.congr λk hk=>?_⟩
     rw[M4 hl]
     have c1:(k=l.1.toNat)↔l.1=(k:Int):=by omega
     have c2:(k=l.2.toNat)↔l.2=(k:Int):=by omega
     by_cases d1:k=l.1.toNat
     ·by_cases d2:k=l.2.toNat
      ·rw[if_pos d2,if_pos d1,if_pos (c1.mp d1),if_pos (c2.mp d2)];simp
      ·rw[if_neg d2,if_pos d1,if_pos (c1.mp d1),if_neg (λz=>d2 (c2.mpr z))];simp
     ·by_cases d2:k=l.2.toNat
      ·rw[if_pos d2,if_neg d1,if_neg (λz=>d1 (c1.mpr z)),if_pos (c2.mp d2)];simp
      ·rw[if_neg d2,if_neg d1,if_neg (λz=>d1 (c1.mpr z)),if_neg (λz=>d2 (c2.mpr z))];simp
  ·
   rintro σ H2 ⟨x1,x2,rfl,R⟩
   refine⟨_,rfl,q D bs H2 hbl ?_⟩
   rw[lL,bn9]at R
   exact R
theorem bf0:FnScope ["web"] ["web"] (aQ (aV 7)):=.au
theorem bf1 (B:Bt mg)(F:FM K mg "hearths_in" 7 f fd) :Df P w K mg base 1 "hearths_in" ["web"] gL:=
 Df.au F bf0 (λcdv A outer s H E hr=>by
  exact⟨(W0),(aR (bN (cT B (a8 (bU (qv 0) aL) aB)))),aK1⟩)
theorem aj6:FnScope ["hearths","chosen","hearth"] ["hearths"] (aQ (aV 12)):=.au
theorem bf2 (B:Bt mg)(F:FM K mg "sets_among" 12 f fd) :Df P w K mg base 1 "sets_among" ["hearths"] t7:=
 Df.au F aj6 (λcdv A outer s H E hr=>by
  have nd:=aj6.nd
  exact⟨(ac2),(aO (b9 (i:=1) nd (iK (a8 (mO aB) aB)))
   (aO (gK 2 nd (dA (qv 0))
    (aR (b9 (i:=1) nd (Y6 (qv 1) (hJ (N:=["some","hearth"]) (fr:=[none,some 2]) (dA (qv 1)) (λ_ _ _ _=>(aO7 (qv 0) (mO (a8 (qv 1) aB)))))))))
   (aR (mP 1)))),aR8⟩)
theorem aj7:FnScope ["hearths","inside","hearth"] ["hearths"] (aQ (aV 13)):=.au
theorem bf3 (B:Bt mg)(F:FM K mg "marked" 13 f fd) :Df P w K mg base 1 "marked" ["hearths"] kB:=
 Df.au F aj7 (λcdv A outer s H E hr=>by
  have nd:=aj7.nd
  have hu:=m5 hr
  exact⟨(W9),(aO (jZ (i:=1) nd aF7)
   (aO (gK 2 nd (dA (qv 0))
    (aR (aG1 hu (i:=1) (qv 2) gZ)))
   (aR (mP 1)))),aK8⟩)
theorem bf4:FnScope ["hearths","inside"] ["hearths","inside"] (aQ (aV 14)):=.au
theorem bf5 (B:Bt mg)(F:FM K mg "count_inside" 14 f fd) :Df P w K mg base 1 "count_inside" ["hearths","inside"] sK:=
 Df.au F bf4 (λcdv A outer s H E hr=>by
  have hu:=m5 hr
  exact⟨(X0),(aR (bN (cT B (a8 (iL (N:=["hearth","inside"]) (fr:=[none,some 1]) (dA (qv 0)) (λ_ _ _ _=>(aF5 hu (qv 0) (qv 1))) (λ_ _ _ _=>(qv 0))) aB)))),aK9⟩)
theorem bf6:FnScope ["holds","place","some"] ["holds","place","some"] (aQ (aV 25)):=.au
theorem bf7 (B:Bt mg)(F:FM K mg "holds_without_one" 25 f fd) :Df P w K mg base 1 "holds_without_one" ["holds","place","some"] nG:=
 Df.au F bf6 (λcdv A outer s H E hr=>by
  exact⟨(ac3),(aR (bN (ab2 B rfl (a8 (hJ (N:=["hearth","holds","place"]) (fr:=[none,some 0,some 1]) (dA (qv 2)) (λ_ _ _ _=>(bU (qv 1) (oV (qv 2) (aF1 aL (qv 0)))))) aB)))),aR9⟩)
theorem bf8:FnScope ["prices","many"] ["prices","many"] (aQ (aV 27)):=.au
theorem bf9 (B:Bt mg)(F:FM K mg "made_prices" 27 f fd)(x_BadPrices:Xc K mg base "BadPrices"):bF P w K mg base 1 "made_prices" ["prices","many"] tR:=
 bF.au F bf8 ag1 aY9 (λcdv A outer s H E Ep hr hX=>by
  exact (aO (dS (Q2 (cT B (a8 (qv 0) aB)) (qv 1)) (aR (sW hX x_BadPrices (a8 rH aB))) dR)
   (aO (dS (mL (ab2 B rfl (a8 (hJ (N:=["price"]) (fr:=[none]) (dA (qv 0)) (λ_ _ _ _=>(Q0 (qv 0) aL))) aB))) (aR (sW hX x_BadPrices (a8 rH aB))) dR)
   (aR (bN (k6 B (a8 (qv 0) aB)))))))
theorem bg0:FnScope ["prices","some"] ["prices","some"] (aQ (aV 28)):=.au
theorem bg1 (B:Bt mg)(F:FM K mg "price_sum" 28 f fd) :Df P w K mg base 1 "price_sum" ["prices","some"] tS:=
 Df.au F bg0 (λcdv A outer s H E hr=>by
  exact⟨(ag2),(aR (bN (yB B rfl (a8 (hJ (N:=["one","prices"]) (fr:=[none,some 0]) (dA (qv 1)) (λ_ _ _ _=>(bU (qv 1) (qv 0)))) aB)))),aZ0⟩)
theorem bg2:FnScope ["most","free","blocks"] ["most","free","blocks"] (aQ (aV 36)):=.au
theorem bg3 (B:Bt mg)(F:FM K mg "keep_longer" 36 f fd):nO P w K mg base 1 "keep_longer" ["most","free","blocks"]:=
 nO.of F.F F.m bg2 (λ_ _ _ _ _ _ us hl=>by obtain⟨_,_,_,rfl⟩:=yE hl;rfl) (λcdv A outer s H E hr=>by
  have hu:=m5 hr
  exact iR (zY (rK (Q7 (Q3 hu (qv 1) (qv 0)) (Q5 (rJ (cT B (a8 (qv 2) aB)) (cT B (a8 (rL hu (qv 0) (qv 1)) aB)))))) (iR (J3 hu (pv 0) (pv 1) (pv 2) rfl)) zX))
theorem bg4:FnScope ["script","k"] ["script","k"] (aQ (aV 38)):=.au
theorem bg5 (B:Bt mg)(F:FM K mg "_law_cell_at" 38 f fd) :Df P w K mg base 1 "_law_cell_at" ["script","k"] i6:=
 Df.au F bg4 (λcdv A outer s H E hr=>by
  exact⟨(X3),(aO (dS (oX (qv 1) (cT B (a8 (qv 0) aB))) (aR (bN (bU (qv 0) (qv 1)))) dR)
   (aR (bN aL))),aL1⟩)
theorem aj8:FnScope ["number","k","turn"] ["number","k"] (aQ (aV 39)):=.au
theorem bg6 (B:Bt mg)(F:FM K mg "_law_mixed" 39 f fd) :Df P w K mg base 1 "_law_mixed" ["number","k"] jH:=
 Df.au F aj8 (λcdv A outer s H E hr=>by
  have nd:=aj8.nd
  exact⟨(ad9),(aO (b9 (i:=2) nd (dQ (dE (dE (dE (dQ (qv 0) aL) (oW (oW aL (qv 1)) (qv 1))) (oW aL (qv 1))) aL) aL))
   (aO (b9 (i:=2) nd (dQ (oW (qv 2) aL) aL))
   (aR (bN (dQ (oW (qv 2) (qv 2)) aL))))),aV0⟩)
theorem bg7:FnScope ["web","number"] ["web","number"] (aQ (aV 9)):=.au
theorem bg8 (B:Bt mg)(F:FM K mg "is_hearth" 9 f fd)(d_hearths_in:Df P w K mg base 1 "hearths_in" ["web"] gL):Df P w K mg base 2 "is_hearth" ["web","number"] sH:=
 Df.au F bg7 (λcdv A outer s H E hr=>by
  exact⟨(W5),(aR (bN (Q8 (aF3 (qv 1) aL) (x3 (Q0 (qv 1) (bE d_hearths_in hr (a8 (qv 0) aB))))))),aK2⟩)
theorem bg9:FnScope ["hearths","inside"] ["hearths","inside"] (aQ (aV 15)):=.au
theorem bh0 (B:Bt mg)(F:FM K mg "count_outside" 15 f fd)(d_count_inside:Df P w K mg base 1 "count_inside" ["hearths","inside"] sK):Df P w K mg base 2 "count_outside" ["hearths","inside"] nA:=
 Df.au F bg9 (λcdv A outer s H E hr=>by
  exact⟨(aa1),(aR (bN (oV (cT B (a8 (qv 0) aB)) (bE d_count_inside hr (a8 (qv 0) (a8 (qv 1) aB)))))),aP1⟩)
theorem aj9:FnScope ["hearths","some","gone"] ["hearths","some"] (aQ (aV 16)):=.au
theorem bh1 (B:Bt mg)(F:FM K mg "without" 16 f fd)(d_marked:Df P w K mg base 1 "marked" ["hearths"] kB):Df P w K mg base 2 "without" ["hearths","some"] pK:=
 Df.au F aj9 (λcdv A outer s H E hr=>by
  have nd:=aj9.nd
  have hu:=m5 hr
  exact⟨(aa2),(aO (b9 (i:=2) nd (bE d_marked hr (a8 (qv 1) aB)))
   (aR (bN (k6 B (a8 (iL (N:=["hearth","gone"]) (fr:=[none,some 2]) (dA (qv 0)) (λ_ _ _ _=>(Q3 hu (qv 0) (qv 1))) (λ_ _ _ _=>(qv 0))) aB))))),aP2⟩)
theorem bh2:FnScope ["web"] ["web"] (aQ (aV 23)):=.au
theorem bh3 (B:Bt mg)(F:FM K mg "searched_sets" 23 f fd)(d_hearths_in:Df P w K mg base 1 "hearths_in" ["web"] gL)(d_sets_among:Df P w K mg base 1 "sets_among" ["hearths"] t7)(x_TooMany:Xc K mg base "TooMany"){u_MOST_SEARCHED:Nat}(m_MOST_SEARCHED:mg "MOST_SEARCHED" = some (.int 12 u_MOST_SEARCHED)):bF P w K mg base 2 "searched_sets" ["web"] nH:=
 bF.au F bh2 ac4 aS0 (λcdv A outer s H E Ep hr hX=>by
  exact (aO (dS (rJ (bE d_hearths_in hr (a8 (qv 0) aB)) (aO5 rfl m_MOST_SEARCHED)) (aR (sW hX x_TooMany (a8 rH aB))) dR)
   (aR (bN (bE d_sets_among hr (a8 (aL3 B (bE d_hearths_in hr (a8 (qv 0) aB))) aB))))))
theorem ak0:FnScope ["script","most","number"] ["script","most"] (aQ (aV 40)):=.au
theorem bh4 (B:Bt mg)(F:FM K mg "_law_hearths" 40 f fd)(d__law_cell_at:Df P w K mg base 1 "_law_cell_at" ["script","k"] i6):Df P w K mg base 2 "_law_hearths" ["script","most"] tD:=
 Df.au F ak0 (λcdv A outer s H E hr=>by
  have nd:=ak0.nd
  exact⟨(ae0),(aO (b9 (i:=2) nd (bE d__law_cell_at hr (a8 (qv 0) (a8 aL aB))))
   (aO (dS (iJ (dQ (qv 2) aL) aL) (aR (bN (R3 B rfl (a8 (qv 1) (a8 (aG5 B rfl (a8 aL (a8 (oV (cT B (a8 (qv 0) aB)) aL) aB))) aB))))) dR)
   (aO (dS (iJ (dQ (qv 2) aL) aL) (aR (bN (dQ (dE (lE (qv 2) aL) aL) (dE (qv 1) aL)))) dR)
   (aR (bN (dQ (dE (lE (qv 2) aL) aL) (dE (R3 B rfl (a8 aL (a8 (qv 1) aB))) aL))))))),aV1⟩)
theorem ak1:FnScope ["web","seeds","beside","burning","left","hearth","count"] ["web","seeds"] (aQ (aV 43)):=.au
theorem bh5 (B:Bt mg)(F:FM K mg "_law_burning" 43 f fd)(d__law_beside:Df P w K mg base 1 "_law_beside" ["web"] ae6):Df P w K mg base 2 "_law_burning" ["web","seeds"] tG:=
 Df.au F ak1 (λcdv A outer s H E hr=>by
  have nd:=ak1.nd
  exact⟨(ae7),(aO (b9 (i:=2) nd (bE d__law_beside hr (a8 (qv 0) aB)))
   (aO (jZ (i:=3) nd (hJ (N:=["hearth","seeds"]) (fr:=[none,some 1]) (j8 rfl B.range (cT B (a8 (bU (qv 0) aL) aB))) (λ_ _ _ _=>(aG6 (qv 0) (qv 1)))))
   (aO (b9 (i:=4) nd gZ)
   (aO (aG0 PassesOwn.never (mL (qv 4))
    (aO (b9 (i:=4) nd gZ)
    (aR (gK 5 nd (j8 rfl B.range (cT B (a8 (bU (qv 0) aL) aB)))
     (aO (b9 (i:=6) nd (cT B (a8 (iL (N:=["other","burning"]) (fr:=[none,some 3]) (dA (bU (qv 2) (qv 5))) (λ_ _ _ _=>(oY (bU (qv 1) (qv 0)))) (λ_ _ _ _=>(qv 0))) aB)))
     (aR (dS (rK (Q6 (mM (oY (bU (qv 3) (qv 5)))) (Q4 (aF4 (qv 6) (bU (bU (qv 0) aL) (qv 5)))))) (aO (x8 (i:=3) (qv 5) gZ)
      (aR (b9 (i:=4) nd gZ))) dR)))))))
   (aR (mP 3)))))),aV9⟩)
theorem bh6:FnScope ["number","many"] ["number","many"] (aQ (aV 45)):=.au
theorem bh7 (B:Bt mg)(F:FM K mg "_law_seeds" 45 f fd)(d__law_mixed:Df P w K mg base 1 "_law_mixed" ["number","k"] jH):Df P w K mg base 2 "_law_seeds" ["number","many"] tI:=
 Df.au F bh6 (λcdv A outer s H E hr=>by
  exact⟨(ae9),(aO (dS (iJ (dQ (qv 0) aL) aL) (aR (bN (k6 B (a8 (iL (N:=["hearth","number"]) (fr:=[none,some 0]) (j8 rfl B.range (qv 1)) (λ_ _ _ _=>(iJ (aU6 (aF2 (qv 1) (dE (qv 0) aL)) aL) aL)) (λ_ _ _ _=>(qv 0))) aB)))) dR)
   (aR (bN (k6 B (a8 (iL (N:=["hearth","number"]) (fr:=[none,some 0]) (j8 rfl B.range (qv 1)) (λ_ _ _ _=>(rJ (dQ (bE d__law_mixed hr (a8 (qv 1) (a8 (dE (qv 0) aL) aB))) aL) aL)) (λ_ _ _ _=>(qv 0))) aB))))),aW1⟩)
theorem ak2:FnScope ["script","many","prices","k","number"] ["script","many"] (aQ (aV 46)):=.au
theorem bh8 (B:Bt mg)(F:FM K mg "_law_prices" 46 f fd)(d__law_mixed:Df P w K mg base 1 "_law_mixed" ["number","k"] jH)(d__law_cell_at:Df P w K mg base 1 "_law_cell_at" ["script","k"] i6):Df P w K mg base 2 "_law_prices" ["script","many"] tT:=
 Df.au F ak2 (λcdv A outer s H E hr=>by
  have nd:=ak2.nd
  exact⟨(ag3),(aO (jZ (i:=2) nd (iK aB))
   (aO (gK 3 nd (j8 rfl B.range (qv 1))
    (aO (b9 (i:=4) nd (bE d__law_mixed hr (a8 (bE d__law_cell_at hr (a8 (qv 0) (a8 aL aB))) (a8 (dE (qv 3) aL) aB))))
    (aO (dS (oX (dE aL (qv 3)) (cT B (a8 (qv 0) aB))) (aR (b9 (i:=4) nd (dE (lE (bU (qv 0) (dE aL (qv 3))) aL) (bE d__law_cell_at hr (a8 (qv 0) (a8 aL aB)))))) dR)
    (aR (rM 2 (bU (iK (a8 (dQ (qv 4) aL) (a8 (dE aL (dQ (qv 4) aL)) (a8 (dQ (qv 4) (P9 aL aL)) (a8 (dE (P9 aL aL) (dQ (qv 4) aL)) aB))))) (dQ (lE (qv 4) aL) aL)))))))
   (aR (mP 2)))),aZ1⟩)
theorem bh9:FnScope ["web","numbers"] ["web","numbers"] (aQ (aV 10)):=.au
theorem bi0 (B:Bt mg)(F:FM K mg "is_set" 10 f fd)(d_rises:Df P w K mg base 1 "rises" ["things"] xP)(d_is_hearth:Df P w K mg base 2 "is_hearth" ["web","number"] sH):Df P w K mg base 3 "is_set" ["web","numbers"] sJ:=
 Df.au F bh9 (λcdv A outer s H E hr=>by
  exact⟨(W6),(aR (bN (Q8 (bE d_rises hr (a8 (qv 1) aB)) (x3 (aG4 B rfl (a8 (hJ (N:=["number","web"]) (fr:=[none,some 0]) (dA (qv 1)) (λ_ _ _ _=>(bE d_is_hearth hr (a8 (qv 1) (a8 (qv 0) aB))))) aB)))))),aK3⟩)
theorem ak3:FnScope ["web","around","block","inside"] ["web","around","block"] (aQ (aV 19)):=.au
theorem bi1 (B:Bt mg)(F:FM K mg "staying" 19 f fd)(d_marked:Df P w K mg base 1 "marked" ["hearths"] kB)(d_count_outside:Df P w K mg base 2 "count_outside" ["hearths","inside"] nA):Df P w K mg base 3 "staying" ["web","around","block"] sR:=
 Df.au F ak3 (λcdv A outer s H E hr=>by
  have nd:=ak3.nd
  exact⟨(aa4),(aO (b9 (i:=3) nd (bE d_marked hr (a8 (qv 2) aB)))
   (aR (bN (k6 B (a8 (iL (N:=["hearth","inside","around","web"]) (fr:=[none,some 3,some 1,some 0]) (dA (qv 2)) (λ_ _ _ _=>(oX (bE d_count_outside hr (a8 (bU (qv 2) (qv 0)) (a8 (qv 1) aB))) (bU (bU (qv 3) aL) (qv 0)))) (λ_ _ _ _=>(qv 0))) aB))))),aP3⟩)
theorem ak4:FnScope ["most","hearth","blocks","later","free","inside","block"] ["most","hearth","blocks"] (aQ (aV 35)):=.au
theorem bi2 (B:Bt mg)(F:FM K mg "passed_on" 35 f fd)(d_marked:Df P w K mg base 1 "marked" ["hearths"] kB)(d_keep_longer:nO P w K mg base 1 "keep_longer" ["most","free","blocks"] )(d_without:Df P w K mg base 2 "without" ["hearths","some"] pK)(d_count_outside:Df P w K mg base 2 "count_outside" ["hearths","inside"] nA):Df P w K mg base 3 "passed_on" ["most","hearth","blocks"] u7:=
 Df.au F ak4 (λcdv A outer s H E hr=>by
  have nd:=ak4.nd
  have hu:=m5 hr
  exact⟨(ai5),(aO (jZ (i:=3) nd aF8)
   (aO (bc0 0 4 nd (λ_=>
    (aO (b9 (i:=5) nd (bE d_marked hr (a8 (qv 4) aB)))
    (aO (ai2 d_keep_longer hr 3 (bE d_without hr (a8 (qv 4) (a8 (iK (a8 (qv 1) aB)) aB))) (rL hu (qv 0) (qv 4)))
    (aR (gK 6 nd (dA (qv 2))
     (aR (dS (iJ (bE d_count_outside hr (a8 (qv 6) (a8 (qv 5) aB))) aL) (aR (ai2 d_keep_longer hr 3 (bE d_without hr (a8 (qv 4) (a8 (qv 6) aB))) (ah7 (bc9 (rL hu (qv 0) (qv 4)) (iK (a8 (qv 6) aB)))))) dR))))))))
   (aR (mP 3)))),bd5⟩)
theorem ak5:FnScope ["script","most","many","sparse","digits","cells","k","links","counts","other","number","one","draw","wants"] ["script","most"] (aQ (aV 41)):=.au
theorem bi3 (B:Bt mg)(F:FM K mg "_law_web" 41 f fd)(d__law_hearths:Df P w K mg base 2 "_law_hearths" ["script","most"] tD)(d__law_cell_at:Df P w K mg base 1 "_law_cell_at" ["script","k"] i6)(d__law_mixed:Df P w K mg base 1 "_law_mixed" ["number","k"] jH):Df P w K mg base 3 "_law_web" ["script","most"] tQ:=
 Df.au F ak5 (λcdv A outer s H E hr=>by
  have nd:=ak5.nd
  exact⟨(ag0),(aO (b9 (i:=2) nd (bE d__law_hearths hr (a8 (qv 0) (a8 (qv 1) aB))))
   (aO (b9 (i:=3) nd (dE aL (dQ (bE d__law_cell_at hr (a8 (qv 0) (a8 aL aB))) aL)))
   (aO (b9 (i:=4) nd (wZ (dQ (lE (bE d__law_cell_at hr (a8 (qv 0) (a8 aL aB))) aL) aL) aL))
   (aO (jZ (i:=5) nd (R9 (qv 0) (rN aL) (rN (dE aL (qv 2)))))
   (aO (gK 6 nd (Q9 rfl B.range (cT B (a8 (qv 5) aB)) (qv 2))
    (aR (rM 5 (bE d__law_mixed hr (a8 (bE d__law_cell_at hr (a8 (qv 0) (a8 aL aB))) (a8 (qv 6) aB))))))
   (aO (jZ (i:=7) nd (iK aB))
   (aO (jZ (i:=8) nd (aO4 (iK (a8 aL aB)) (qv 2)))
   (aO (gK 9 nd (j8 rfl B.range (qv 2))
    (aO (b9 (i:=10) nd (lE (bU (qv 5) (qv 9)) aL))
    (aR (gK 11 nd (j8 rfl B.range (qv 9))
     (aO (b9 (i:=12) nd (qv 10))
     (aO (b9 (i:=10) nd (lE (qv 10) (qv 3)))
     (aO (dS (mM (mL (qv 4))) (aR (b9 (i:=12) nd (bE d__law_mixed hr (a8 (bU (qv 5) (qv 9)) (a8 (dE (qv 11) aL) aB))))) dR)
     (aR (dS (iJ (dQ (qv 12) (qv 3)) aL) (aO (rM 7 (mO (a8 (qv 11) (a8 (qv 9) aB))))
      (aO (x8 (i:=8) (qv 11) (dE (bU (qv 8) (qv 11)) aL))
      (aR (x8 (i:=8) (qv 9) (dE (bU (qv 8) (qv 9)) aL))))) dR)))))))))
   (aO (aH1 (i:=13) nd (N:=["k","cells","counts"]) (fr:=[none,some 5,some 8]) (j8 rfl B.range (qv 2)) (λ_ _ _ _=>(dQ (bU (qv 1) (qv 0)) (dE (bU (qv 2) (qv 0)) aL))))
   (aR (bN (mO (a8 (k6 B (a8 (qv 13) aB)) (a8 (k6 B (a8 (aQ9 B (a8 (qv 7) aB)) aB)) aB)))))))))))))),aY8⟩)
theorem bi4:FnScope ["web","seeds"] ["web","seeds"] (aQ (aV 44)):=.au
theorem bi5 (B:Bt mg)(F:FM K mg "_law_lights" 44 f fd)(d__law_burning:Df P w K mg base 2 "_law_burning" ["web","seeds"] tG):Df P w K mg base 3 "_law_lights" ["web","seeds"] tH:=
 Df.au F bi4 (λcdv A outer s H E hr=>by
  exact⟨(ae8),(aR (bN (wZ (cT B (a8 (iL (N:=["fire"]) (fr:=[none]) (dA (bE d__law_burning hr (a8 (qv 0) (a8 (qv 1) aB)))) (λ_ _ _ _=>(mM (oY (qv 0)))) (λ_ _ _ _=>(qv 0))) aB)) aL))),aW0⟩)
theorem bi6:FnScope ["web","hearths"] ["web","hearths"] (aQ (aV 11)):=.au
theorem bi7 (B:Bt mg)(F:FM K mg "made_set" 11 f fd)(d_is_set:Df P w K mg base 3 "is_set" ["web","numbers"] sJ)(x_BadSet:Xc K mg base "BadSet"):bF P w K mg base 4 "made_set" ["web","hearths"] sY:=
 bF.au F bi6 ab5 aQ7 (λcdv A outer s H E Ep hr hX=>by
  exact (aO (dS (mM (mL (bE d_is_set hr (a8 (qv 0) (a8 (qv 1) aB))))) (aR (sW hX x_BadSet (a8 rH aB))) dR)
   (aR (bN (k6 B (a8 (qv 1) aB))))))
theorem ak6:FnScope ["web","block","chosen"] ["web","block"] (aQ (aV 18)):=.au
theorem bi8 (B:Bt mg)(F:FM K mg "is_cold" 18 f fd)(d_made_set:bF P w K mg base 4 "made_set" ["web","hearths"] sY)(d_staying:Df P w K mg base 3 "staying" ["web","around","block"] sR)(d_near_lists:Df P w K mg base 1 "near_lists" ["web"] pG):bF P w K mg base 5 "is_cold" ["web","block"] t6:=
 bF.au F ak6 ab7 aR0 (λcdv A outer s H E Ep hr hX=>by
  have nd:=ak6.nd
  have hu3:=zK hr
  exact (aO (b9 (i:=2) nd (iM hX d_made_set hr (a8 (qv 0) (a8 (qv 1) aB))))
   (aR (bN (aH0 hu3 (bE d_staying hr (a8 (qv 0) (a8 (bE d_near_lists hr (a8 (qv 0) aB)) (a8 (qv 2) aB)))) (qv 2))))))
theorem ak7:FnScope ["web","chosen","holds","place"] ["web","chosen"] (aQ (aV 24)):=.au
theorem bi9 (B:Bt mg)(F:FM K mg "holding_cold" 24 f fd)(d_holds_without_one:Df P w K mg base 1 "holds_without_one" ["holds","place","some"] nG)(d_is_cold:bF P w K mg base 5 "is_cold" ["web","block"] t6):bF P w K mg base 6 "holding_cold" ["web","chosen"] nJ:=
 bF.au F ak7 ac5 aS1 (λcdv A outer s H E Ep hr hX=>by
  have nd:=ak7.nd
  exact (aO (jZ (i:=2) nd (iK (a8 gZ aB)))
   (aO (gK 3 (hp:=hX.own) nd (Q9 rfl B.range aL (cT B (a8 (qv 1) aB)))
    (aR (rM 2 (aF6 (bE d_holds_without_one hr (a8 (qv 2) (a8 (qv 3) (a8 (bU (qv 1) (qv 3)) aB)))) (x3 (iM hX d_is_cold hr (a8 (qv 0) (a8 (bU (qv 1) (qv 3)) aB))))))))
   (aR (mP 2)))))
theorem ak8:FnScope ["web","chosen","holds","found"] ["web"] (aQ (aV 22)):=.au
theorem bj0 (B:Bt mg)(F:FM K mg "least_colds" 22 f fd)(d_searched_sets:bF P w K mg base 2 "searched_sets" ["web"] nH)(d_holding_cold:bF P w K mg base 6 "holding_cold" ["web","chosen"] nJ)(d_holds_without_one:Df P w K mg base 1 "holds_without_one" ["holds","place","some"] nG):bF P w K mg base 7 "least_colds" ["web"] z9:=
 bF.au F ak8 ag8 ba1 (λcdv A outer s H E Ep hr hX=>by
  have nd:=ak8.nd
  exact (aO (b9 (i:=1) nd (iM hX d_searched_sets hr (a8 (qv 0) aB)))
   (aO (b9 (i:=2) nd (iM hX d_holding_cold hr (a8 (qv 0) (a8 (qv 1) aB))))
   (aO (aO2 (i:=3) nd (N:=["place","some","holds"]) (fr:=[none,none,some 2]) (Z1 rfl B.enum (qv 1)) (λ_ _ _ _=>(rK (Q6 (oY (bU (qv 2) (qv 0))) (Q4 (mM (mL (bE d_holds_without_one hr (a8 (qv 2) (a8 (qv 0) (a8 (qv 1) aB)))))))))) (λ_ _ _ _=>(qv 1)))
   (aR (bN (aL5 B (a8 (qv 3) aB))))))))
theorem ak9:FnScope ["web","chosen","holds","last"] ["web"] (aQ (aV 31)):=.au
theorem bj1 (B:Bt mg)(F:FM K mg "lighting_sets" 31 f fd)(d_searched_sets:bF P w K mg base 2 "searched_sets" ["web"] nH)(d_holding_cold:bF P w K mg base 6 "holding_cold" ["web","chosen"] nJ):bF P w K mg base 7 "lighting_sets" ["web"] kE:=
 bF.au F ak9 af7 aY2 (λcdv A outer s H E Ep hr hX=>by
  have nd:=ak9.nd
  exact (aO (b9 (i:=1) nd (iM hX d_searched_sets hr (a8 (qv 0) aB)))
   (aO (b9 (i:=2) nd (iM hX d_holding_cold hr (a8 (qv 0) (a8 (qv 1) aB))))
   (aO (b9 (i:=3) nd (oV (cT B (a8 (qv 1) aB)) aL))
   (aR (bN (aO1 (N:=["place","seeds","holds","last"]) (fr:=[none,none,some 2,some 3]) (Z1 rfl B.enum (qv 1)) (λ_ _ _ _=>(mM (oY (bU (qv 2) (oV (qv 3) (qv 0)))))) (λ_ _ _ _=>(qv 1)))))))))
theorem bj2:FnScope ["web"] ["web"] (aQ (aV 30)):=.au
theorem bj3 (B:Bt mg)(F:FM K mg "least_many" 30 f fd)(d_lighting_sets:bF P w K mg base 7 "lighting_sets" ["web"] kE):bF P w K mg base 8 "least_many" ["web"] tP:=
 bF.au F bj2 af9 aY4 (λcdv A outer s H E Ep hr hX=>by
  exact (aR (bN (af6 B rfl (a8 (hJ (N:=["seeds"]) (fr:=[none]) (dA (iM hX d_lighting_sets hr (a8 (qv 0) aB))) (λ_ _ _ _=>(cT B (a8 (qv 0) aB)))) aB)))))
theorem al0:FnScope ["web","lighting","fewest"] ["web"] (aQ (aV 32)):=.au
theorem bj4 (B:Bt mg)(F:FM K mg "all_least" 32 f fd)(d_lighting_sets:bF P w K mg base 7 "lighting_sets" ["web"] kE):bF P w K mg base 8 "all_least" ["web"] tO:=
 bF.au F al0 af8 aY3 (λcdv A outer s H E Ep hr hX=>by
  have nd:=al0.nd
  have hu3:=zK hr
  exact (aO (b9 (i:=1) nd (iM hX d_lighting_sets hr (a8 (qv 0) aB)))
   (aO (b9 (i:=2) nd (af6 B rfl (a8 (hJ (N:=["seeds"]) (fr:=[none]) (dA (qv 1)) (λ_ _ _ _=>(cT B (a8 (qv 0) aB)))) aB)))
   (aR (bN (aX6 B hu3 (a8 (iL (N:=["seeds","fewest"]) (fr:=[none,some 2]) (dA (qv 1)) (λ_ _ _ _=>(iJ (cT B (a8 (qv 0) aB)) (qv 1))) (λ_ _ _ _=>(qv 0))) aB)))))))
theorem al1:FnScope ["web","prices","lighting","known","best"] ["web","prices"] (aQ (aV 33)):=.au
theorem bj5 (B:Bt mg)(F:FM K mg "cheapest" 33 f fd)(d_lighting_sets:bF P w K mg base 7 "lighting_sets" ["web"] kE)(d_made_prices:bF P w K mg base 1 "made_prices" ["prices","many"] tR)(d_hearths_in:Df P w K mg base 1 "hearths_in" ["web"] gL)(d_price_sum:Df P w K mg base 1 "price_sum" ["prices","some"] tS):bF P w K mg base 8 "cheapest" ["web","prices"] tW:=
 bF.au F al1 ag7 ba0 (λcdv A outer s H E Ep hr hX=>by
  have nd:=al1.nd
  exact (aO (b9 (i:=2) nd (iM hX d_lighting_sets hr (a8 (qv 0) aB)))
   (aO (b9 (i:=3) nd (iM hX d_made_prices hr (a8 (qv 1) (a8 (bE d_hearths_in hr (a8 (qv 0) aB)) aB))))
   (aO (b9 (i:=4) nd (aZ8 B rfl (aZ9 hr) (a8 (hJ (N:=["seeds","known"]) (fr:=[none,some 3]) (dA (qv 2)) (λ_ _ _ _=>(mO (a8 (bE d_price_sum hr (a8 (qv 1) (a8 (qv 0) aB))) (a8 (qv 0) aB))))) aB)))
   (aR (bN (bU (qv 4) aL)))))))
theorem al2:FnScope ["web","blocks","most","hearth"] ["web"] (aQ (aV 34)):=.au
theorem bj6 (B:Bt mg)(F:FM K mg "blocks_apart" 34 f fd)(d_least_colds:bF P w K mg base 7 "least_colds" ["web"] z9)(d_hearths_in:Df P w K mg base 1 "hearths_in" ["web"] gL)(d_passed_on:Df P w K mg base 3 "passed_on" ["most","hearth","blocks"] u7):Df P w K mg base 8 "blocks_apart" ["web"] u8:=
 Df.au F al2 (λcdv A outer s H E hr=>by
  have nd:=al2.nd
  have hu:=m5 hr
  exact⟨(ai6),(aO (b9 (i:=1) nd (sV d_least_colds hr (a8 (qv 0) aB)))
   (aO (b9 (i:=2) nd (bc7 hu (ad8 B (bE d_hearths_in hr (a8 (qv 0) aB))) (ah7 (iK aB))))
   (aO (gK 3 nd (j8 rfl B.range (bE d_hearths_in hr (a8 (qv 0) aB)))
    (aR (b9 (i:=2) nd (bE d_passed_on hr (a8 (qv 2) (a8 (qv 3) (a8 (iL (N:=["block","hearth"]) (fr:=[none,some 3]) (dA (qv 1)) (λ_ _ _ _=>(iJ (bU (qv 0) aL) (qv 1))) (λ_ _ _ _=>(qv 0))) aB)))))))
   (aR (bN (rL hu (qv 2) (mO aB))))))),bd6⟩)
theorem al3:FnScope ["script","web","many","prices","least","fewest","blocks","best","cell","seeds","block"] ["script"] (aQ (aV 47)):=.au
theorem bj7 (B:Bt mg)(F:eB K "law" "law" (aV 47) f fd)(d__law_web:Df P w K mg base 3 "_law_web" ["script","most"] tQ)(d__law_prices:Df P w K mg base 2 "_law_prices" ["script","many"] tT)(d_all_least:bF P w K mg base 8 "all_least" ["web"] tO)(d_least_many:bF P w K mg base 8 "least_many" ["web"] tP)(d_blocks_apart:Df P w K mg base 8 "blocks_apart" ["web"] u8)(d_cheapest:bF P w K mg base 8 "cheapest" ["web","prices"] tW)(d__law_seeds:Df P w K mg base 2 "_law_seeds" ["number","many"] tI)(d__law_lights:Df P w K mg base 3 "_law_lights" ["web","seeds"] tH):cL P w K mg base cY 9 f fd ["script"] (oM K zI):=
 aM2 F al3 (λxs Q h=>by unfold zI at h;repeat (first|(obtain⟨rfl,_⟩:=h;rfl)|(obtain⟨_,h⟩:=h))) (λcdv A outer s H E hr=>by
  have nd:=al3.nd
  have hu3:=zK hr
  exact⟨(aj0),(aO (b9 (i:=1) nd (bE d__law_web hr (a8 (qv 0) (a8 aL aB))))
   (aO (b9 (i:=2) nd (cT B (a8 (bU (qv 1) aL) aB)))
   (aO (b9 (i:=3) nd (bE d__law_prices hr (a8 (qv 0) (a8 (qv 2) aB))))
   (aO (b9 (i:=4) nd (sV d_all_least hr (a8 (qv 1) aB)))
   (aO (b9 (i:=5) nd (sV d_least_many hr (a8 (qv 1) aB)))
   (aO (b9 (i:=6) nd (bE d_blocks_apart hr (a8 (qv 1) aB)))
   (aO (b9 (i:=7) nd (yB B rfl (a8 (hJ (N:=["hearth","prices"]) (fr:=[none,some 3]) (dA (sV d_cheapest hr (a8 (qv 1) (a8 (qv 3) aB)))) (λ_ _ _ _=>(bU (qv 1) (qv 0)))) aB)))
   (aO (dS (rJ (cT B (a8 (qv 6) aB)) (qv 5)) (aR (bN gZ)) dR)
   (aO (gK 8 nd (dA (Y6 (R9 (qv 0) (rN aL) (rN aL)) (iK (a8 (R4 aL) aB))))
    (aO (b9 (i:=9) nd (bE d__law_seeds hr (a8 (qv 8) (a8 (qv 2) aB))))
    (aO (dS (iJ (qv 8) (R4 aL)) (aR (b9 (i:=9) nd (ad8 B (qv 2)))) dR)
    (aR (dS (mL (bE d__law_lights hr (a8 (qv 1) (a8 (qv 9) aB)))) (aO (dS (rK (Q7 (oX (cT B (a8 (qv 9) aB)) (qv 5)) (Q5 (Q2 (wZ (cT B (a8 (qv 9) aB)) (qv 5)) (aS5 hu3 (qv 9) (qv 4)))))) (aR (bN gZ)) dR)
     (aO (dS (oX (yB B rfl (a8 (hJ (N:=["hearth","prices"]) (fr:=[none,some 3]) (dA (qv 9)) (λ_ _ _ _=>(bU (qv 1) (qv 0)))) aB)) (qv 7)) (aR (bN gZ)) dR)
     (aR (gK 10 nd (dA (qv 6))
      (aR (dS (iJ (cT B (a8 (iL (N:=["hearth","seeds"]) (fr:=[none,some 9]) (dA (qv 10)) (λ_ _ _ _=>(aG7 (qv 0) (qv 1))) (λ_ _ _ _=>(qv 0))) aB)) aL) (aR (bN gZ)) dR)))))) dR)))))
   (aR (bN gZ))))))))))),be6⟩)
end
set_option autoImplicit true in
theorem bj8 {l:OpenLaw}{w:World}{K:Frag}{h:Heap}{mg:Str->Option Value}(X:K.In h)(G:h.Ns mainGlobals mg)(hfa:mg "law" = some (.ref fa))(h0:FK K "rises" 6 f0 d0)(h1:FK K "hearths_in" 7 f1 d1)(h2:FK K "near_lists" 8 f2 d2)(h3:FK K "sets_among" 12 f3 d3)(h4:FK K "marked" 13 f4 d4)(h5:FK K "count_inside" 14 f5 d5)(h6:FK K "holds_without_one" 25 f6 d6)(h7:FK K "made_prices" 27 f7 d7)(h8:FK K "price_sum" 28 f8 d8)(h9:FK K "keep_longer" 36 f9 d9)(h10:FK K "_law_cell_at" 38 f10 d10)(h11:FK K "_law_mixed" 39 f11 d11)(h12:FK K "_law_beside" 42 f12 d12)(h13:FK K "is_hearth" 9 f13 d13)(h14:FK K "count_outside" 15 f14 d14)(h15:FK K "without" 16 f15 d15)(h16:FK K "searched_sets" 23 f16 d16)(h17:FK K "_law_hearths" 40 f17 d17)(h18:FK K "_law_burning" 43 f18 d18)(h19:FK K "_law_seeds" 45 f19 d19)(h20:FK K "_law_prices" 46 f20 d20)(h21:FK K "is_set" 10 f21 d21)(h22:FK K "staying" 19 f22 d22)(h23:FK K "passed_on" 35 f23 d23)(h24:FK K "_law_web" 41 f24 d24)(h25:FK K "_law_lights" 44 f25 d25)(h26:FK K "made_set" 11 f26 d26)(h27:FK K "is_cold" 18 f27 d27)(h28:FK K "holding_cold" 24 f28 d28)(h29:FK K "least_colds" 22 f29 d29)(h30:FK K "lighting_sets" 31 f30 d30)(h31:FK K "least_many" 30 f31 d31)(h32:FK K "all_least" 32 f32 d32)(h33:FK K "cheapest" 33 f33 d33)(h34:FK K "blocks_apart" 34 f34 d34)(a35:nsIn K mainGlobals "law" = some (some (.ref f35)))(l35:K.lookup f35=some ⟨oc35,od35,.func (fnOf "law" "law" (iG (aV 47)) (dW (aV 47)) (aQ (aV 47)) .none kV35 dc35 pm35 an35 cd35 ct35),sl35⟩)(c35:codeIn K cd35 "law" = true)(k35:keepIn K (.ref f35)=true)(z_len:nsIn K mainGlobals "len" = some none)(z_range:nsIn K mainGlobals "range" = some none)(z_tuple:nsIn K mainGlobals "tuple" = some none)(z_list:nsIn K mainGlobals "list" = some none)(z_sorted:nsIn K mainGlobals "sorted" = some none)(z_all:nsIn K mainGlobals "all" = some none)(z_any:nsIn K mainGlobals "any" = some none)(z_zip:nsIn K mainGlobals "zip" = some none)(z_min:nsIn K mainGlobals "min" = some none)(z_max:nsIn K mainGlobals "max" = some none)(z_sum:nsIn K mainGlobals "sum" = some none)(z_isinstance:nsIn K mainGlobals "isinstance" = some none)(z_int:nsIn K mainGlobals "int" = some none)(z_bool:nsIn K mainGlobals "bool" = some none)(z_enumerate:nsIn K mainGlobals "enumerate" = some none){u_MOST_SEARCHED:Nat}(z_MOST_SEARCHEDx:nsIn K mainGlobals "MOST_SEARCHED" = some (some (.int 12 u_MOST_SEARCHED))){C_HearthError C_BadSet C_BadPrices C_TooMany:Addr}(aX_HE:nsIn K mainGlobals "HearthError" = some (some (.ref C_HearthError)))(aX_BS:nsIn K mainGlobals "BadSet" = some (some (.ref C_BadSet)))(aX_BP:nsIn K mainGlobals "BadPrices" = some (some (.ref C_BadPrices)))(aX_TM:nsIn K mainGlobals "TooMany" = some (some (.ref C_TooMany)))(zX_BW:nsIn K mainGlobals "BadWeb" = some none)(zX_BO:nsIn K mainGlobals "BadOrder" = some none)(zX_BB:nsIn K mainGlobals "BadBoard" = some none)(zX_BD:nsIn K mainGlobals "BadDeed" = some none)(zX_NW:nsIn K mainGlobals "NotWood" = some none)(zX_NP:nsIn K mainGlobals "NoPaper" = some none)(zX_NS:nsIn K mainGlobals "NoSuch" = some none)(zX_NT:nsIn K mainGlobals "NoText" = some none)(zX_OR:nsIn K mainGlobals "OddRound" = some none)(y_fg:specialIn K (.builtin "object.__class__") "__get__" = some (some (.builtin "getset_descriptor.__get__")))(y_ft:takesIn K (.builtin "object.__class__")=some true)(z_VE:nsIn K mainGlobals "ValueError" = some none)(y1_HE:isClsIn K C_HearthError=true)(y2_HE:typeIn K (.ref C_HearthError)=some (.type "type"))(y3_HE:findIn K (.ref C_HearthError) "__getattribute__" = some (some (.builtin "BaseException.__getattribute__")))(y4_HE:findIn K (.ref C_HearthError) "__getattr__" = some none)(y5_HE:findIn K (.ref C_HearthError) "__class__" = some (some (.builtin "object.__class__")))(y6_HE:mroIn K C_HearthError (.type "object")=some true)(y7_HE:mroIn K C_HearthError (.type "BaseException")=some true)(y1_BS:isClsIn K C_BadSet=true)(y2_BS:typeIn K (.ref C_BadSet)=some (.type "type"))(y3_BS:findIn K (.ref C_BadSet) "__getattribute__" = some (some (.builtin "BaseException.__getattribute__")))(y4_BS:findIn K (.ref C_BadSet) "__getattr__" = some none)(y5_BS:findIn K (.ref C_BadSet) "__class__" = some (some (.builtin "object.__class__")))(y6_BS:mroIn K C_BadSet (.type "object")=some true)(y7_BS:mroIn K C_BadSet (.type "BaseException")=some true)(y1_BP:isClsIn K C_BadPrices=true)(y2_BP:typeIn K (.ref C_BadPrices)=some (.type "type"))(y3_BP:findIn K (.ref C_BadPrices) "__getattribute__" = some (some (.builtin "BaseException.__getattribute__")))(y4_BP:findIn K (.ref C_BadPrices) "__getattr__" = some none)(y5_BP:findIn K (.ref C_BadPrices) "__class__" = some (some (.builtin "object.__class__")))(y6_BP:mroIn K C_BadPrices (.type "object")=some true)(y7_BP:mroIn K C_BadPrices (.type "BaseException")=some true)(y1_TM:isClsIn K C_TooMany=true)(y2_TM:typeIn K (.ref C_TooMany)=some (.type "type"))(y3_TM:findIn K (.ref C_TooMany) "__getattribute__" = some (some (.builtin "BaseException.__getattribute__")))(y4_TM:findIn K (.ref C_TooMany) "__getattr__" = some none)(y5_TM:findIn K (.ref C_TooMany) "__class__" = some (some (.builtin "object.__class__")))(y6_TM:mroIn K C_TooMany (.type "object")=some true)(y7_TM:mroIn K C_TooMany (.type "BaseException")=some true)(q_BP:excIn K C_BadPrices [.type "ValueError",.type "Exception",.type "BaseException",.type "object"] "ValueError.__new__" = true)(q_BS:excIn K C_BadSet [.type "ValueError",.type "Exception",.type "BaseException",.type "object"] "ValueError.__new__" = true)(q_TM:excIn K C_TooMany [.type "ValueError",.type "Exception",.type "BaseException",.type "object"] "ValueError.__new__" = true)
 :∃fd:FuncData,(∀(s:Shared) (v:Value),BindsTo s fd ⟨[v],[]⟩ [("script",v)])/\∀base:Heap,K.In base->base.Ns mainGlobals mg->cL l.prog w K mg base cY 9 fa fd ["script"] (sP K):=by
 have e:=hfa.symm.trans (mg_of X G a35)
 cases e
 have F35:=ax1 (st:=aV 47) l35 c35 k35
 have m35:=mg_of X G a35
 have B:Bt mg:=⟨mg_none_of X G z_len,mg_none_of X G z_range,mg_none_of X G z_tuple,mg_none_of X G z_list,mg_none_of X G z_sorted,mg_none_of X G z_all,mg_none_of X G z_any,mg_none_of X G z_zip,mg_none_of X G z_min,mg_none_of X G z_max,mg_none_of X G z_sum,mg_none_of X G z_isinstance,mg_none_of X G z_int,mg_none_of X G z_bool,mg_none_of X G z_enumerate⟩
 have m_MOST_SEARCHED:=mg_of X G z_MOST_SEARCHEDx
 refine⟨fnOf "law" "law" (iG (aV 47)) (dW (aV 47)) (aQ (aV 47)) .none kV35 dc35 pm35 an35 cd35 ct35,λs v=>.of_eq rfl,λbase KB _=>?_⟩
 have XK_HearthError:sX K C_HearthError:=⟨y1_HE,y2_HE,y3_HE,y4_HE,y5_HE,y_fg,y_ft,y6_HE,y7_HE⟩
 have XK_BadSet:sX K C_BadSet:=⟨y1_BS,y2_BS,y3_BS,y4_BS,y5_BS,y_fg,y_ft,y6_BS,y7_BS⟩
 have XK_BadPrices:sX K C_BadPrices:=⟨y1_BP,y2_BP,y3_BP,y4_BP,y5_BP,y_fg,y_ft,y6_BP,y7_BP⟩
 have XK_TooMany:sX K C_TooMany:=⟨y1_TM,y2_TM,y3_TM,y4_TM,y5_TM,y_fg,y_ft,y6_TM,y7_TM⟩
 have x_BadPrices:Xc K mg base "BadPrices":=⟨C_BadPrices,_,_,_,_,yC KB (mg_of X G aX_BP) q_BP,PySem.F.excBase_ValueError,aX_BP⟩
 have x_BadSet:Xc K mg base "BadSet":=⟨C_BadSet,_,_,_,_,yC KB (mg_of X G aX_BS) q_BS,PySem.F.excBase_ValueError,aX_BS⟩
 have x_TooMany:Xc K mg base "TooMany":=⟨C_TooMany,_,_,_,_,yC KB (mg_of X G aX_TM) q_TM,PySem.F.excBase_ValueError,aX_TM⟩
 have D0:=aL6 (be7 (P:=l.prog) (w:=w) (base:=base) B h0.F) (h0.F.binds (ps:=["things"]) λ_ _ _ _ _ _ us hl=>by obtain⟨_,rfl⟩:=nD hl;rfl) h0.F.kp (mg_of X G h0.a)
 have D1:=bf1 (P:=l.prog) (w:=w) (base:=base) B (h1.M X G)
 have D2:=aL7 (be8 (P:=l.prog) (w:=w) (mg:=mg) (base:=base) h2.F) (h2.F.binds (ps:=["web"]) λ_ _ _ _ _ _ us hl=>by obtain⟨_,rfl⟩:=nD hl;rfl) h2.F.kp (mg_of X G h2.a)
 have D3:=bf2 (P:=l.prog) (w:=w) (base:=base) B (h3.M X G)
 have D4:=bf3 (P:=l.prog) (w:=w) (base:=base) B (h4.M X G)
 have D5:=bf5 (P:=l.prog) (w:=w) (base:=base) B (h5.M X G)
 have D6:=bf7 (P:=l.prog) (w:=w) (base:=base) B (h6.M X G)
 have D7:=bf9 (P:=l.prog) (w:=w) (base:=base) B (h7.M X G)  x_BadPrices
 have D8:=bg1 (P:=l.prog) (w:=w) (base:=base) B (h8.M X G)
 have D9:=bg3 (P:=l.prog) (w:=w) (base:=base) B (h9.M X G)
 have D10:=bg5 (P:=l.prog) (w:=w) (base:=base) B (h10.M X G)
 have D11:=bg6 (P:=l.prog) (w:=w) (base:=base) B (h11.M X G)
 have D12:=aV7 (be9 (P:=l.prog) (w:=w) (mg:=mg) (base:=base) h12.F) (h12.F.binds (ps:=["web"]) λ_ _ _ _ _ _ us hl=>by obtain⟨_,rfl⟩:=nD hl;rfl) h12.F.kp (mg_of X G h12.a)
 have D13:=bg8 (P:=l.prog) (w:=w) (base:=base) B (h13.M X G) D1
 have D14:=bh0 (P:=l.prog) (w:=w) (base:=base) B (h14.M X G) D5
 have D15:=bh1 (P:=l.prog) (w:=w) (base:=base) B (h15.M X G) D4
 have D16:=bh3 (P:=l.prog) (w:=w) (base:=base) B (h16.M X G) D1 D3 x_TooMany m_MOST_SEARCHED
 have D17:=bh4 (P:=l.prog) (w:=w) (base:=base) B (h17.M X G) D10
 have D18:=bh5 (P:=l.prog) (w:=w) (base:=base) B (h18.M X G) D12
 have D19:=bh7 (P:=l.prog) (w:=w) (base:=base) B (h19.M X G) D11
 have D20:=bh8 (P:=l.prog) (w:=w) (base:=base) B (h20.M X G) D11 D10
 have D21:=bi0 (P:=l.prog) (w:=w) (base:=base) B (h21.M X G) D0 D13
 have D22:=bi1 (P:=l.prog) (w:=w) (base:=base) B (h22.M X G) D4 D14
 have D23:=bi2 (P:=l.prog) (w:=w) (base:=base) B (h23.M X G) D4 D9 D15 D14
 have D24:=bi3 (P:=l.prog) (w:=w) (base:=base) B (h24.M X G) D17 D10 D11
 have D25:=bi5 (P:=l.prog) (w:=w) (base:=base) B (h25.M X G) D18
 have D26:=bi7 (P:=l.prog) (w:=w) (base:=base) B (h26.M X G) D21 x_BadSet
 have D27:=bi8 (P:=l.prog) (w:=w) (base:=base) B (h27.M X G) D26 D22 D2
 have D28:=bi9 (P:=l.prog) (w:=w) (base:=base) B (h28.M X G) D6 D27
 have D29:=bj0 (P:=l.prog) (w:=w) (base:=base) B (h29.M X G) D16 D28 D6
 have D30:=bj1 (P:=l.prog) (w:=w) (base:=base) B (h30.M X G) D16 D28
 have D31:=bj3 (P:=l.prog) (w:=w) (base:=base) B (h31.M X G) D30
 have D32:=bj4 (P:=l.prog) (w:=w) (base:=base) B (h32.M X G) D30
 have D33:=bj5 (P:=l.prog) (w:=w) (base:=base) B (h33.M X G) D30 D7 D1 D8
 have D34:=bj6 (P:=l.prog) (w:=w) (base:=base) B (h34.M X G) D29 D1 D23
 exact aM3 (bj7 B F35 D24 D20 D32 D31 D34 D33 D19 D25)
theorem bj9 {l:OpenLaw}{q:Program}{loose:List Str}{XP:(Str->Option Value)->Heap->Prop}{YP:World->Heap->Prop}{d:DefRec}{K:Params->Frag}(hn:l.most=some 63)(hdf:d.params.defaults = [])(hY:∀(w:World) (h:Heap),YP w h->(K w.params).In h)(F:∀(w:World) (mg:Str->Option Value) (fa:Addr) (h:Heap),(K w.params).In h->h.Ns mainGlobals mg->mg d.name=some (.ref fa)->
   ∃fd:FuncData,(∀(s:Shared) (u:Value),BindsTo s fd ⟨[u],[]⟩ [("script",u)])/\∀base:Heap,(K w.params).In base->base.Ns mainGlobals mg->cL l.prog w (K w.params) mg base cY 9 fa fd ["script"] (sP (K w.params))) :
  WalkO q loose XP YP l.row.toRowW d [] (λf vs=>PySem.call f vs):=
 L2.ax0 (n:=63) (k:=9) (x:="script") (CX:=λ_=>cY) (sp:=λw=>sP (K w.params)) hn (by decide) hdf ⟨rfl,by decide,by decide⟩ hY F (λ_ _ a ns hl hO hS=>⟨a,ns,rfl,aM4 hO hS,hl,λ_=>rfl⟩) λ_ _ _ _ _ z=>z
end K_k39
open PySem PySem.W PyProof.Rows
theorem PySem.W.Fast.te13052408679150730464 : True := trivial
theorem PySem.W.Fast.te16555476440528808052 : True := trivial
theorem PySem.W.Fast.te5369427470323729400 : True := trivial
set_option maxRecDepth 100000 in
set_option maxHeartbeats 0 in
theorem PySem.Challenge.cw_kindleweb_k39_whole_no_fewer_no_cheaper_holds : PySem.Challenge.rw_kindleweb_k39_whole_no_fewer_no_cheaper.Holds := by
 w_on;o_law;k_head;(case hw => w_witness2)
 k_fill
 refine K_k39.bj9 (l := PySem.Challenge.rw_kindleweb_k39_whole_no_fewer_no_cheaper) rfl rfl (λw h Y => PySem.W.kIn_of Y) ?F
 case F =>
  intro w mg fa h KX G hmg
  refine' K_k39.bj8 KX G hmg ?h0 ?h1 ?h2 ?h3 ?h4 ?h5 ?h6 ?h7 ?h8 ?h9 ?h10 ?h11 ?h12 ?h13 ?h14 ?h15 ?h16 ?h17 ?h18 ?h19 ?h20 ?h21 ?h22 ?h23 ?h24 ?h25 ?h26 ?h27 ?h28 ?h29 ?h30 ?h31 ?h32 ?h33 ?h34 ?a35 ?l35 ?c35 ?k35 ?z_len ?z_range ?z_tuple ?z_list ?z_sorted ?z_all ?z_any ?z_zip ?z_min ?z_max ?z_sum ?z_isinstance ?z_int ?z_bool ?z_enumerate ?z_MOST_SEARCHEDx ?aX_HE ?aX_BS ?aX_BP ?aX_TM ?zX_BW ?zX_BO ?zX_BB ?zX_BD ?zX_NW ?zX_NP ?zX_NS ?zX_NT ?zX_OR ?y_fg ?y_ft ?z_VE ?y1_HE ?y2_HE ?y3_HE ?y4_HE ?y5_HE ?y6_HE ?y7_HE ?y1_BS ?y2_BS ?y3_BS ?y4_BS ?y5_BS ?y6_BS ?y7_BS ?y1_BP ?y2_BP ?y3_BP ?y4_BP ?y5_BP ?y6_BP ?y7_BP ?y1_TM ?y2_TM ?y3_TM ?y4_TM ?y5_TM ?y6_TM ?y7_TM ?q_BP ?q_BS ?q_TM
  (case h0|h1|h2|h3|h4|h5|h6|h7|h8|h9|h10|h11|h12|h13|h14|h15|h16|h17|h18|h19|h20|h21|h22|h23|h24|h25|h26|h27|h28|h29|h30|h31|h32|h33|h34 => exact⟨by k_is, ⟨⟨_, _, _, _, _, _, _, _, _, rfl, by k_is, by k_is⟩, by k_is⟩⟩)
  (case a35|l35|c35|k35|z_len|z_range|z_tuple|z_list|z_sorted|z_all|z_any|z_zip|z_min|z_max|z_sum|z_isinstance|z_int|z_bool|z_enumerate|z_MOST_SEARCHEDx|aX_HE|aX_BS|aX_BP|aX_TM|zX_BW|zX_BO|zX_BB|zX_BD|zX_NW|zX_NP|zX_NS|zX_NT|zX_OR|y_fg|y_ft|z_VE|y1_HE|y2_HE|y3_HE|y4_HE|y5_HE|y6_HE|y7_HE|y1_BS|y2_BS|y3_BS|y4_BS|y5_BS|y6_BS|y7_BS|y1_BP|y2_BP|y3_BP|y4_BP|y5_BP|y6_BP|y7_BP|y1_TM|y2_TM|y3_TM|y4_TM|y5_TM|y6_TM|y7_TM => k_is)
  (case q_BP|q_BS|q_TM => k_exc)


