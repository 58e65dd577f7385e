import PyProof.Rows.All
import Wide.All
import OpenK.AllK
import Wide.FinOn
import Lean
import PyProof.EqAt
import PyProof.EqKinds
import PyProof.TupleCall
import PyProof.NeKinds
import PyProof.Draws
import PyProof.ZipIter
import PyProof.DictUpdate
import PyProof.AutoSeq1
import PyProof.ListRange
import PyProof.ListMulRoad
import PyProof.FactsAll.tuple_2
import PyProof.Rows.SortShell
import PyProof.EnumFor
import PyProof.EnumMake
import PyProof.EnumStmt
import PyProof.Rows.SortWalk
import KE.KDictList
import PyProof.SumAny
import PyProof.ConsumeWalk
import PyProof.WalksMore
import PyProof.Rows.TupAssign
import PyProof.ExcArgsOwn
import PySem.Challenge.RW_kindleweb_k38_blocks_apart
set_option Elab.async false
set_option linter.all false
set_option maxRecDepth 100000
set_option maxHeartbeats 4000000
section
open PySem PySem.Spec PyProof.Rows
def bh3:=@wpAny_bind
def bh4:=@Heap.get?_push_of_some
def bh5:=@List.getElem?_eq_getElem
def bh6:=@List.size_toArray
def bh7:=@List.mem_cons_self
def bh8:=@Nat.le_refl
def bh9:=@List.getD_eq_getElem?_getD
def bi0:=@wpAny_pure
def bi1:=@List.length_map
def bi2:=@decide_eq_false
def bi3:=@List.getElem?_eq_some_iff
def bi4:=@List.mem_cons
def bi5:=@List.mem_cons_of_mem
def bi6:=@List.mem_singleton
def bi7:=@List.getElem?_map
def bi8:=@wpS_bind
def bi9:=@decide_eq_true
def bj0:=@Heap.lt_size
def bj1:=@Nat.lt_of_lt_of_le
def bj2:=@Heap.get?_push_size
def bj3:=@Bool.false_ne_true
def bj4:=@wpS_pure
def bj5:=@List.mem_of_getElem?
def bj6:=@List.length_append
def bj7:=@List.not_mem_nil
def bk0:=@List.mem_filter
def bk1:=@Bool.false_eq_true
def bk2:=@Option.some.inj
def bk3:=@decide_eq_true_eq
def bk4:=@Bool.and_eq_true
def bk5:=@List.mem_map
def bk6:=@List.append_assoc
def bk8:=@List.map_append
def bk9:=@List.length_cons
def bl0:=@List.take_length
def bl1:=@List.mem_append_right
def bl3:=@Nat.ne_of_lt
def bl4:=@Nat.zero_le
def bl5:=@List.mem_append
def bl7:=@List.pairwise_iff_getElem
def bl8:=@List.pairwise_singleton
def bl9:=@List.getElem?_set_ne
def bm0:=@Nat.le_trans
def bm1:=@List.take_add_one
def bm4:=@Int.toNat_natCast
def bm6:=@List.map_cons
def bm7:=@Nat.lt_or_ge
def bm8:=@List.all_eq_true
def bm9:=@List.length_set
def bn0:=@List.pairwise_append
def bn1:=@Array.getElem_mem
def bn2:=@List.length_singleton
def bn3:=@List.take_append_drop
def bn4:=@List.append_nil
def bn5:=@List.getElem?_append_left
def bn6:=@Array.length_toList
def bn7:=@PySem.mem_of_lookup
def bn8:=@Nat.lt_irrefl
def bn9:=@if_false
def bo1:=@or_false
def bo2:=@wpAny_field
def bo3:=@wpAny_callSpecial?_slot
def bo4:=@List.getElem?_cons_succ
def bo6:=@wpAny_mono
def bo8:=@wpAny_call_entry
def bo9:=@List.lookup_cons
def bp0:=@Nat.le_add_right
def bp1:=@wpAny_newObj_type
def bp2:=@List.Pairwise.nil
def bp3:=@List.pairwise_map
def bp5:=@wpAny_setField_rec
def bp6:=@PyProof.Rows.callWith_type1
def bp7:=@Array.getElem?_toList
def bp8:=@Array.toList_append
def bq0:=@List.mem_range
def bq2:=@List.length_take
def bq3:=@List.getElem?_append_right
def bq4:=@beq_self_eq_true
def bq5:=@List.getElem_mem
def bq6:=@decide_eq_false_iff_not
def bq7:=@List.filter_cons
def bq8:=@List.getElem?_set_self
def bq9:=@wpS_forRange
def br0:=@List.take_of_length_le
def br1:=@List.pairwise_cons
def br2:=@PySem.W.kia_one
def br3:=@wpAny_holding
def br4:=@List.replicate_succ
def br6:=@Nat.le_of_lt
def br7:=@wpAny_truthy_bool
def br8:=@PySem.F.plainAttrs_list
def bs0:=@List.mem_append_left
def bs1:=@Int.le_refl
def bs3:=@List.find?_cons
def bs4:=@Nat.ne_of_gt
def bs5:=@List.length_drop
def bs7:=@List.getElem_of_mem
def bs8:=@List.length_range
def bt1:=@List.zip_cons_cons
def bt3:=@Nat.pow_le_pow_right
def bt4:=@Array.getD_eq_getD_getElem?
def bt5:=@List.all_cons
def bt6:=@Bool.and_true
def bt7:=@List.flatten_cons
def bt8:=@Heap.size_push
def bu0:=@List.filter_eq_self
def bu1:=@Bool.eq_iff_iff
def bu2:=@PyProof.Rows.slot_tuple_getitem
def bu3:=@wpAny_pyIter_tuple
def bu6:=@PySem.F.slot_list_append
def bu7:=@PySem.F.type_list_append
def bu8:=@Int.zero_add
def bv2:=@Bool.eq_false_iff
def bv3:=@of_decide_eq_true
def bv4:=@List.nodup_append
def bv5:=@wpAny_rule
def bv6:=@Heap.SameBut.update
def bv8:=@List.map_map
def bv9:=@List.pairwise_lt_range
def bw0:=@List.any_cons
def bw2:=@of_decide_eq_false
def bw3:=@wpAny_seqItems
def bw4:=@Nat.eq_or_lt_of_le
def bw5:=@List.length_replicate
def bw6:=@List.nodup_cons
def bx3:=@wpS_mono
def bx5:=@List.getElem?_of_mem
def bx8:=@List.drop_take
def by0:=@True.intro
end
abbrev aa:=List (Int×Int)
abbrev ac:=PySem.W.Frag
abbrev ad:=List (List Int)
abbrev ae:=List Int
namespace L2
open PySem PySem.Spec PyProof.Rows
abbrev aC:=Sum Int Str
def l6:aC->Value->Bool
 |.inl k,v=>Value.isInt k v
 |.inr x,v=>Value.isStrOf x v
def ai5 (w:World):aC->Int
 |.inl k=>hashInt k
 |.inr x=>hashStr w x
theorem gZ:∀{k:aC}{v:Value},l6 k v=true->(∃i t,k=Sum.inl i/\v=Value.int i t)∨(∃x t,k=Sum.inr x/\v=Value.str x t)
 |.inl i,v,h=>by
  obtain⟨t,e⟩:=Value.isInt_shape (k:=i) (v:=v) h
  exact .inl ⟨i,t,rfl,e⟩
 |.inr x,v,h=>by
  obtain⟨t,e⟩:=Value.isStrOf_shape (x:=x) (v:=v) h
  exact .inr ⟨x,t,rfl,e⟩
theorem ai6 (i:Int)(t:Tok):l6 (.inl i) (.int i t)=true:=by simp[l6,Value.isInt]
theorem ai7 (x:Str)(t:Tok):l6 (.inr x) (.str x t)=true:=by simp[l6,Value.isStrOf]
theorem ai8 (a b:Int):decide ((Sum.inl a:aC)=Sum.inl b)=(a==b):=by
 by_cases e:a=b
 ·subst e;simp
 ·have h:¬(Sum.inl a:aC)=Sum.inl b:=λq=>e (Sum.inl.inj q)
  rw[bi2 h]
  exact (beq_eq_false_iff_ne.mpr e).symm
theorem ai9 (a b:Str):decide ((Sum.inr a:aC)=Sum.inr b)=decide (a=b):=by
 by_cases e:a=b
 ·subst e;simp
 ·have h:¬(Sum.inr a:aC)=Sum.inr b:=λq=>e (Sum.inr.inj q)
  rw[bi2 h,bi2 e]
theorem aj0 (a:Int)(b:Str):decide ((Sum.inl a:aC)=Sum.inr b)=false:=bi2 (λq=>nomatch q)
theorem aj1 (a:Str)(b:Int):decide ((Sum.inr a:aC)=Sum.inl b)=false:=bi2 (λq=>nomatch q)
def eU (prog:Program)(w:World):PySem.KeyKind prog w aC where
 is:=l6
 hash:=ai5 w
 inj:=λv a b ha hb=>by
  rcases gZ ha with⟨i,t,rfl,rfl⟩|⟨x,t,rfl,rfl⟩
  ·rcases gZ hb with⟨j,u,rfl,e⟩|⟨y,u,rfl,e⟩
   ·injection e with e1 _;rw[e1]
   ·exact nomatch e
  ·rcases gZ hb with⟨j,u,rfl,e⟩|⟨y,u,rfl,e⟩
   ·exact nomatch e
   ·injection e with e1 _;rw[e1]
 byValue:=λk v h=>by
  rcases gZ h with⟨i,t,rfl,rfl⟩|⟨x,t,rfl,rfl⟩<;>rfl
 pyHash:=λhv h=>by
  rcases gZ hv with⟨i,t,rfl,rfl⟩|⟨x,t,rfl,rfl⟩
  ·exact wpAny_pyHash_int h
  ·exact wpAny_pyHash_str h
 eqBool:=λhu hv h=>by
  rcases gZ hu with⟨i,t,rfl,rfl⟩|⟨x,t,rfl,rfl⟩
  ·rcases gZ hv with⟨j,u,rfl,rfl⟩|⟨y,u,rfl,rfl⟩
   ·rw[ai8]at h;exact wpAny_eqBool_int h
   ·rw[aj0]at h;exact SeqAt.EqAt.int_str i t y u _ _ _ _ h
  ·rcases gZ hv with⟨j,u,rfl,rfl⟩|⟨y,u,rfl,rfl⟩
   ·rw[aj1]at h;exact SeqAt.EqAt.str_int x t j u _ _ _ _ h
   ·rw[ai9]at h;exact wpAny_eqBool_str h
 «strs»:=λk x t v h=>by
  rcases gZ h with⟨i,u,rfl,e⟩|⟨y,u,rfl,e⟩
  ·exact nomatch e
  ·injection e with e1 _
   subst e1
   cases v<;>rfl
theorem aj2 (prog:Program)(w:World)(i:Int)(t:Tok):(eU prog w).is (.inl i) (.int i t)=true:=ai6 i t
theorem aj3 (prog:Program)(w:World)(x:Str)(t:Tok):(eU prog w).is (.inr x) (.str x t)=true:=ai7 x t
inductive V where
 |non|bl (b:Bool)|int (i:Int)|str (x:Str)|byt (b:Array UInt8)|flt (b:UInt64)|ref (a:Addr)|ty (n:String)
 deriving DecidableEq
def aM:V->Value->Prop
 |.non,u=>u=Value.none
 |.bl b,u=>u=Value.bool b
 |.int i,u=>∃t,u=Value.int i t
 |.str x,u=>∃t,u=Value.str x t
 |.byt b,u=>∃t,u=Value.bytes b t
 |.flt b,u=>∃t,u=Value.float b t
 |.ref a,u=>u=Value.ref a
 |.ty n,u=>u=Value.type n
abbrev aF:List V->List Value->Prop:=Paired aM
theorem aF.length {xs:List V}{us:List Value}(r:aF xs us):xs.length=us.length:=Paired.length r
theorem aF.get:∀{xs:List V}{us:List Value}{i:Nat}{x:V},aF xs us->xs[i]? = some x->∃u,us[i]? = some u/\aM x u
 |_,_,_,_,.nil,e=>by simp at e
 |_,_,0,_,.cons r _,e=>by simp at e;subst e;exact⟨_,rfl,r⟩
 |_,_,i+1,x,.cons _ t,e=>by
  obtain⟨u,h1,h2⟩:=aF.get (i:=i) (x:=x) t (by simpa using e)
  exact⟨u,by simpa using h1,h2⟩
theorem aF.set {x:V}{u:Value}(r:aM x u):∀{xs:List V}{us:List Value} (i:Nat),aF xs us->aF (xs.set i x) (us.set i u)
 |_,_,_,.nil=>.nil
 |_,_,0,.cons _ t=>.cons r t
 |_,_,i+1,.cons q t=>.cons q (aF.set r i t)
theorem aF.append:∀{xs ys:List V}{us ws:List Value},aF xs us->aF ys ws->aF (xs++ys) (us++ws)
 |_,_,_,_,.nil,s=>s
 |_,_,_,_,.cons r t,s=>.cons r (aF.append t s)
theorem aF.take:∀{xs:List V}{us:List Value} (n:Nat),aF xs us->aF (xs.take n) (us.take n)
 |_,_,0,_=>.nil
 |_,_,_+1,.nil=>.nil
 |_,_,n+1,.cons r t=>.cons r (aF.take n t)
theorem aF.drop:∀{xs:List V}{us:List Value} (n:Nat),aF xs us->aF (xs.drop n) (us.drop n)
 |_,_,0,r=>r
 |_,_,_+1,.nil=>.nil
 |_,_,n+1,.cons _ t=>aF.drop n t
theorem aF.none_of:∀{xs:List V}{us:List Value}{i:Nat},aF xs us->xs[i]? = none->us[i]? = none:=λ{xs us i} r e=>by
 have h1:=r.length
 have h2:xs.length<=i:=List.getElem?_eq_none_iff.mp e
 exact List.getElem?_eq_none_iff.mpr (by omega)
def fG:Option V->Option Value->Prop
 |some v,some u=>aM v u
 |none,none=>True
 |_,_=>False
def KV {κ:Type}:List (κ×V)->List (κ×Value)->Prop:=Paired λ(p:κ×V) (q:κ×Value)=>p.1=q.1/\aM p.2 q.2
def kV:aC->V
 |.inl i=>.int i
 |.inr x=>.str x
inductive HO where
 |lst (xs:List V)
 |tup (xs:List V)
 |dK (kvs:List (aC×V))|dT (kvs:List (List aC×V))
 |set (S:Int->Bool) (n:Nat)
 |ins (C dx:Addr) (fs:List (Str×V))
 |own (x:Addr)
 |xd (fs:List (Str×V))
 |met (f x:Addr)
 |rng (lo hi:Int)
 |frz (o:Obj) (u:HO)
 |tbl (ps:Array Value)
 |ext (φ:Heap->Prop)
abbrev Hp:=Addr->Option HO
def upd (H:Hp)(a:Addr)(o:HO):Hp:=λb=>if b=a then some o else H b
theorem aQ {H:Hp}{a:Addr}{o:HO}:upd H a o a=some o:=by unfold upd;rw[if_pos rfl]
theorem a8 {H:Hp}{a b:Addr}{o:HO}(h:b≠a):upd H a o b=H b:=by unfold upd;rw[if_neg h]
theorem yZ {H:Hp}{a b:Addr}{o u:HO}(h:H a=some o)(h':H b=some u)(d:o≠u):a≠b:=by
 intro e;subst e;rw[h]at h';exact d (bk2 h')
theorem bO {H:Hp}{a b:Addr}{o:HO}(h:H a=some o)(h':H b=none):a≠b:=by
 intro e;subst e;rw[h]at h';cases h'
def gF (h:Heap)(a:Addr):Prop:=∀o,h.get? a=some o->o.dict=none
theorem gF.new (h:Heap)(o:Obj)(d:o.dict=none)(s:o.isFreed=false:=by rfl):gF (h.push o) h.objs.size:=λu e=>by
 rw[bj2 h (o:=o) s]at e
 cases e;exact d
theorem gF.stay {h h':Heap}{a:Addr}{o:Obj}(n:gF h a)(e:h.get? a=some o)(e':h'.get? a=some o):gF h' a:=λu hu=>by
 rw[e']at hu;cases hu;exact n _ e
section
variable (P:Program)(w:World)
def b7 (H:Hp)(h:Heap)(a:Addr):HO->Prop
 |.lst xs=>xs.length<=sizeLine/\∃(its:List Value) (n:Nat),aF xs its/\h.get? a=some { cls:=.type "list",data:=.seq its.toArray n }
 |.tup xs=>xs.length<=sizeLine/\∃its:List Value,aF xs its/\IsTup h a its.toArray/\gF h a
 |.dK kvs=>kvs.length<=sizeLine/\(a==sysModules)=false/\∃vs,KV kvs vs/\h.DictOf (eU P w) a vs
 |.dT kvs=>kvs.length<=sizeLine/\(a==sysModules)=false/\∃xs:List (List aC×Addr×Value),
   Paired (λ(p:List aC×V) (q:List aC×Addr×Value)=>p.1=q.1/\H q.2.1=some (.tup (p.1.map kV))/\aM p.2 q.2.2) kvs xs/\
   ∃o es ep,h.get? a=some o/\o.ExactDict/\o.data = .dict es ep/\es.toList=xs.map (entryOfKey (tupleKind (eU P w)))/\(xs.map (·.1)).Nodup
 |.set S n=>h.SetOf (intKind P w) a S n
 |.ins C dx fs=>H dx=some (.own a)/\fs.length<=1000/\dx≠a/\h.get? a=some (PySem.W.instObj C dx)/\
   ∃mA,h.Ns1 dx mA/\(∀f,fG (fs.lookup f) (mA f))/\PySem.Within mA (fs.map (·.1))
 |.own _=>∃o,h.get? a=some o
 |.xd fs=>∃mA,h.Ns1 a mA/\∀f,fG (fs.lookup f) (mA f)
 |.rng lo hi=>∃t u v,h.get? a=some { cls:=.type "range",data:=.fields #[.int lo t,.int hi u,.int 1 v] }
 |.frz o u=>h.get? a=some o/\b7 H h a u
 |.tbl ps=>h.get? a=some { cls:=.none,data:=.fields ps }
 |.met f x=>h.get? a=some (PySem.W.methodObj (.ref f) (.ref x))
 |.ext φ=>φ h/\(∃o,h.get? a=some o)/\∀h1 h2:Heap,φ h1->(∀o,h1.get? a=some o->h2.get? a=some o)->φ h2
def bG (H:Hp)(h:Heap):Prop:=∀a o,H a=some o->b7 P w H h a o
end
section
variable {P:Program}{w:World}{H H':Hp}{h h':Heap}{a:Addr}{o:HO}
theorem b7.lt (x:b7 P w H h a o):a<h.objs.size:=by
 cases o with
 |lst xs=>obtain⟨_,_,_,_,e⟩:=x;exact bj0 e
 |tup xs=>obtain⟨_,_,_,p,_⟩:=x;exact p.lt
 |dK kvs=>obtain⟨_,_,_,_,o,_,_,e,_⟩:=x;exact bj0 e
 |dT kvs=>obtain⟨_,_,_,_,o,_,_,e,_⟩:=x;exact bj0 e
 |set S n=>obtain⟨o,_,_,_,e,_⟩:=x;exact bj0 e
 |ins C dx fs=>obtain⟨_,_,_,e,_⟩:=x;exact bj0 e
 |own y=>obtain⟨_,e⟩:=x;exact bj0 e
 |xd fs=>obtain⟨_,⟨_,_,_,e,_⟩,_⟩:=x;exact bj0 e
 |rng lo hi=>obtain⟨_,_,_,e⟩:=x;exact bj0 e
 |frz ob u=>obtain⟨e,_⟩:=x;exact bj0 e
 |tbl ps=>exact bj0 (show h.get? a=some _ from x)
 |met f y=>exact bj0 (show h.get? a=some _ from x)
 |ext φ=>obtain⟨_,⟨_,e⟩,_⟩:=x;exact bj0 e
theorem Paired.mapP {α β:Type}{F G:α->β->Prop}:∀{l₁:List α}{l₂:List β},Paired F l₁ l₂->(∀a b,F a b->G a b)->Paired G l₁ l₂
 |_,_,.nil,_=>.nil
 |_,_,.cons r t,f=>.cons (f _ _ r) (Paired.mapP t f)
theorem b7.stay (x:b7 P w H h a o)(k:∀b u,(b=a∨H b=some (.own a))->h.get? b=some u->h'.get? b=some u)(ho:∀b,H b=some (.own a)->H' b=some (.own a))(ht:∀b xs,H b=some (.tup xs)->H' b=some (.tup xs)):b7 P w H' h' a o:=by
 induction o with
 |lst xs=>obtain⟨z,its,n,r,e⟩:=x;exact⟨z,its,n,r,k _ _ (.inl rfl) e⟩
 |tup xs=>obtain⟨z,its,r,⟨ob,e,c⟩,nd⟩:=x;exact⟨z,its,r,⟨ob,k _ _ (.inl rfl) e,c⟩,nd.stay e (k _ _ (.inl rfl) e)⟩
 |dK kvs=>obtain⟨z,y,vs,r,ob,es,ep,e,c⟩:=x;exact⟨z,y,vs,r,ob,es,ep,k _ _ (.inl rfl) e,c⟩
 |dT kvs=>
  obtain⟨z,y,xs,r,ob,es,ep,e,c⟩:=x
  exact⟨z,y,xs,Paired.mapP r λp q z=>⟨z.1,ht _ _ z.2.1,z.2.2⟩,ob,es,ep,k _ _ (.inl rfl) e,c⟩
 |set S n=>obtain⟨ob,es,ep,t,e,c⟩:=x;exact⟨ob,es,ep,t,k _ _ (.inl rfl) e,c⟩
 |ins C dx fs=>
  obtain⟨d,z,ne,e,mA,⟨od,es,ep,e2,c⟩,r⟩:=x
  exact⟨ho _ d,z,ne,k _ _ (.inl rfl) e,mA,⟨od,es,ep,k _ _ (.inr d) e2,c⟩,r⟩
 |own y=>obtain⟨ob,e⟩:=x;exact⟨ob,k _ _ (.inl rfl) e⟩
 |xd fs=>obtain⟨mA,⟨od,es,ep,e,c⟩,r⟩:=x;exact⟨mA,⟨od,es,ep,k _ _ (.inl rfl) e,c⟩,r⟩
 |rng lo hi=>obtain⟨t,u,v,e⟩:=x;exact⟨t,u,v,k _ _ (.inl rfl) e⟩
 |frz ob u ih=>obtain⟨e,q⟩:=x;exact⟨k _ _ (.inl rfl) e,ih q⟩
 |tbl ps=>
  have e:h.get? a=some { cls:=.none,data:=.fields ps }:=x
  show h'.get? a=some { cls:=.none,data:=.fields ps }
  exact k a _ (.inl rfl) e
 |met f y=>
  have e:h.get? a=some (PySem.W.methodObj (.ref f) (.ref y)):=x
  show h'.get? a=some (PySem.W.methodObj (.ref f) (.ref y))
  exact k a _ (.inl rfl) e
 |ext φ=>obtain⟨p,⟨o,e⟩,st⟩:=x;exact⟨st _ _ p λo q=>k _ _ (.inl rfl) q,⟨o,k _ _ (.inl rfl) e⟩,st⟩
theorem bG.lt (x:bG P w H h)(e:H a=some o):a<h.objs.size:=(x a o e).lt
theorem bG.fresh (x:bG P w H h)(e:h.objs.size<=a):H a=none:=by
 cases q:H a with
 |none=>rfl
 |some u=>exact absurd (bj1 (x.lt q) e) (bn8 _)
theorem bG.kept (x:bG P w H h)(k:∀b u,h.get? b=some u->h'.get? b=some u):bG P w H h':=λa o e=>
 (x a o e).stay (λb u _ q=>k b u q) (λ_ q=>q) λ_ _ q=>q
theorem bG.laid (x:bG P w H h)(k:∀b u,h.get? b=some u->h'.get? b=some u)(hp:h.objs.size<=a)(new:b7 P w (upd H a o) h' a o):bG P w (upd H a o) h':=λb u e=>by
 have hn:=x.fresh hp
 by_cases hb:b=a
 ·subst hb;rw[aQ]at e;cases e;exact new
 ·rw[a8 hb]at e
  exact (x b u e).stay (λc v _ q=>k c v q) (λc q=>by rw[a8 (bO q hn)];exact q) λc xs q=>by rw[a8 (bO q hn)];exact q
end
def Rd (H:Hp)(a:Addr)(u:HO):Prop:=H a=some u∨∃o,H a=some (.frz o u)
theorem Rd.ok {P:Program}{w:World}{H:Hp}{h:Heap}{a:Addr}{u:HO}(r:Rd H a u)(x:bG P w H h):b7 P w H h a u:=by
 rcases r with r|⟨o,r⟩
 ·exact x a u r
 ·obtain⟨_,q⟩:=x a _ r
  exact q
def mZ:Option HO->Prop
 |some (.lst _)=>True
 |some (.dK _)=>True
 |some (.dT _)=>True
 |some (.set _ _)=>True
 |some (.ins _ _ _)=>True
 |some (.ext _)=>True
 |_=>False
section
variable {P:Program}{w:World}{H:Hp}{h h':Heap}{x e:Addr}{o':HO}
theorem bG.write (ok:bG P w H h)(mu:mZ (H x))(he:e=x∨H e=some (.own x))(k:∀b u,b≠e->h.get? b=some u->h'.get? b=some u)(heo:∃u,h'.get? e=some u)(new:b7 P w (upd H x o') h' x o'):bG P w (upd H x o') h':=λb u q=>by
 have nown:∀c y,H c=some (.own y)->c≠x:=λc y r z=>by subst z;rw[r]at mu;exact mu
 have ntup:∀c xs,H c=some (.tup xs)->c≠x:=λc xs r z=>by subst z;rw[r]at mu;exact mu
 by_cases hb:b=x
 ·subst hb;rw[aQ]at q;cases q;exact new
 ·rw[a8 hb]at q
  by_cases hbe:b=e
  ·have q':H b=some (.own x):=by
    rcases he with z|z
    ·exact absurd (hbe.trans z) hb
    ·rw[hbe];exact z
   rw[q]at q';cases q'
   obtain⟨v,hv⟩:=heo
   exact⟨v,by rw[hbe];exact hv⟩
  ·refine (ok b u q).stay (λc v hc r=>k c v ?_ r) (λc r=>by rw[a8 (nown c b r)];exact r) λc xs r=>by rw[a8 (ntup c xs r)];exact r
   rcases hc with rfl|hc
   ·exact hbe
   ·rintro rfl
    rcases he with z|z
    ·exact nown c b hc z
    ·rw[hc]at z;cases z;exact hb rfl
end
structure Un (fs ex:List Addr)(H H':Hp)(h h':Heap):Prop where
 keep:∀b o,h.get? b=some o->H b=none->b∉fs->b∉ex->h'.get? b=some o
 slot:∀b o,h.get? b=some o->H b=none->b∈fs->b∉ex->∃sl,h'.get? b=some { o with slots:=sl }
 free:∀b o,h.get? b=some o->H b=none->b∉ex->H' b=none
 there:∀b o,h.get? b=some o->b∉ex->∃o',h'.get? b=some o'
 tups:∀b xs,H b=some (.tup xs)->H' b=some (.tup xs)
 frzs:∀b o u,H b=some (.frz o u)->H' b=some (.frz o u)
 tbls:∀b ps,H b=some (.tbl ps)->∃more,H' b=some (.tbl (ps++more))
section
variable {fs fs' ex ex':List Addr}{H H1 H2:Hp}{h h1 h2 h':Heap}{a x e:Addr}{o:HO}
theorem Un.any (u:Un fs ex H H1 h h1){b:Addr}{ob:Obj}(q:h.get? b=some ob)(n:H b=none)(hx:b∉ex):∃sl,h1.get? b=some { ob with slots:=sl }:=by
 by_cases hb:b∈fs
 ·exact u.slot b ob q n hb hx
 ·exact⟨ob.slots,u.keep b ob q n hb hx⟩
theorem Un.kept (k:∀b u,h.get? b=some u->h'.get? b=some u):Un fs ex H H h h':=
 ⟨λb ob q _ _ _=>k b ob q,λb ob q _ _ _=>⟨ob.slots,k b ob q⟩,λ_ _ _ n _=>n,λb ob q _=>⟨ob,k b ob q⟩,λ_ _ q=>q,λ_ _ _ q=>q,λ_ ps q=>⟨#[],by rw[q];simp⟩⟩
theorem Un.refl:Un fs ex H H h h:=Un.kept λ_ _ q=>q
theorem Un.laid (k:∀b u,h.get? b=some u->h'.get? b=some u)(hp:h.objs.size<=a)(hn:H a=none):Un fs ex H (upd H a o) h h' where
 keep:=λb u q _ _ _=>k b u q
 slot:=λb u q _ _ _=>⟨u.slots,k b u q⟩
 free:=λb u q n _=>by rw[a8 (bl3 (bj1 (bj0 q) hp))];exact n
 there:=λb u q _=>⟨u,k b u q⟩
 tups:=λb xs q=>by rw[a8 (bO q hn)];exact q
 frzs:=λb u xs q=>by rw[a8 (bO q hn)];exact q
 tbls:=λb ps q=>⟨#[],by rw[a8 (bO q hn),q];simp⟩
theorem Un.write (mu:mZ (H x))(he:e=x∨H e=some (.own x))(k:∀b u,b≠e->h.get? b=some u->h'.get? b=some u)(heo:∃u,h'.get? e=some u):Un fs ex H (upd H x o) h h':=by
 have hx:∀b,H b=none->b≠x:=λb n z=>by subst z;rw[n]at mu;exact mu
 have hb:∀b,H b=none->b≠e:=λb n z=>by
  subst z
  rcases he with r|r
  ·exact hx b n r
  ·rw[n]at r;cases r
 have hm:∀b u,H b=some u->¬mZ (some u)->b≠x:=λb u q nm z=>by subst z;rw[q]at mu;exact nm mu
 refine⟨λb u q n _ _=>k b u (hb b n) q,λb u q n _ _=>⟨u.slots,k b u (hb b n) q⟩,λb u q n _=>by rw[a8 (hx b n)];exact n,λb u q _=>?_,
  λb xs q=>by rw[a8 (hm b _ q λz=>z)];exact q,λb u xs q=>by rw[a8 (hm b _ q λz=>z)];exact q,λb ps q=>⟨#[],by rw[a8 (hm b _ q λz=>z),q];simp⟩⟩
 by_cases hbe:b=e
 ·subst hbe;exact heo
 ·exact⟨u,k b u hbe q⟩
end
def pA (h:Heap)(H:Hp):List Addr:=(List.range h.objs.size).filter λa=>(H a).isSome
def iB (h:Heap)(H:Hp):Heap:=PySem.W.hideAll h (pA h H)
theorem aj4 (h:Heap)(H:Hp):(iB h H).objs.size=h.objs.size:=PySem.W.hideAll_size _ _
theorem aj5 {h:Heap}{H:Hp}{b:Addr}{o:Obj}(e:h.get? b=some o)(n:H b=none):(iB h H).get? b=some o:=
 PySem.W.hideAll_get _ e λhm=>by
  have q:(H b).isSome=true:=(bk0.mp hm).2
  rw[n]at q;simp at q
theorem aj6 {h:Heap}{H:Hp}{b:Addr}{o:Obj}(e:(iB h H).get? b=some o):h.get? b=some o/\H b=none:=by
 have e':h.get? b=some o:=PySem.W.of_hideAll (pA h H) e
 refine⟨e',?_⟩
 cases q:H b with
 |none=>rfl
 |some x=>
  have hm:b∈pA h H:=bk0.mpr ⟨bq0.mpr (bj0 e'),by simp[q]⟩
  have z:(iB h H).get? b=none:=PySem.W.hideAll_none (pA h H) hm
  rw[z]at e;cases e
def nA (g h:Heap)(L:Addr):List (Addr×Obj):=(List.range h.objs.size).filterMap λa=>if a=L∨(g.get? a).isSome=true then none else (h.get? a).map λo=>(a,o)
theorem z9 {g h:Heap}{L a:Addr}{o:Obj}(h1:a≠L)(h2:g.get? a=none)(h3:h.get? a=some o):(a,o)∈nA g h L:=
 List.mem_filterMap.mpr ⟨a,bq0.mpr (bj0 h3),by simp[h1,h2,h3]⟩
theorem aj7 {g h:Heap}{L:Addr}{p:Addr×Obj}(hp:p∈nA g h L):p.1≠L/\g.get? p.1=none/\h.get? p.1=some p.2:=by
 obtain⟨b,_,e⟩:=List.mem_filterMap.mp hp
 split at e
 ·cases e
 ·rename_i hn
  cases q:h.get? b with
  |none=>rw[q]at e;simp at e
  |some u=>
   rw[q]at e
   simp only[Option.map_some,Option.some.injEq]at e
   subst e
   refine⟨λz=>hn (.inl z),?_,q⟩
   show g.get? b=none
   cases r:g.get? b with
   |none=>rfl
   |some v=>exact (hn (.inr (by simp[r]))).elim
def bX (g h:Heap)(L d:Addr):List (Addr×Obj):=(nA g h L).filter λp=>decide (p.1≠d)
theorem aj8 {g h:Heap}{L:Addr}:News g L h (nA g h L):=λp hp=>let ⟨a,b,c⟩:=aj7 hp;⟨c,a,b⟩
structure Mod (K:ac)(mg:Str->Option Value)(base:Heap):Prop where
 kin:K.In base
 glob:base.Ns mainGlobals mg
 blt:∃mb,base.Ns builtinsNs mb/\∀x:Str,x≠"__name__"->mb x=bootBuiltins x
 nolimit:base.NoLimit
structure Cx where
 prog:Program
 w:World
 K:ac
 mg:Str->Option Value
 base:Heap
 A:Around
 N:List Str
 s₀:Shared
 H₀:Hp
 env:Env
 outer:List Env
 stack:List Env
 ex:List Addr
 fn:Str->Bool
 calm:Bool
 pn:List (Addr×Obj)
 xe:Value->Shared->Prop
def bP (l:List Env):List Addr:=l.filterMap (·.frame)
abbrev Cx.fs (X:Cx):List Addr:=bP X.outer
def fQ (sc:Scope)(x:Str):Prop:=sc.names.lookup x=some .local∨sc.names.lookup x=some .cell∨sc.names.lookup x=some .free
def j4 (sc:Scope)(x:Str):Prop:=sc.names.lookup x=some .local∨sc.names.lookup x=some .cell
def aj9 (env:Env)(h:Heap)(m:Str->Option Value)(x:Str)(u:Value):Prop:=
 (env.kindOf x=some .local/\m x=some u)∨((env.kindOf x=some .cell∨env.kindOf x=some .free)/\∃c,env.cells.lookup x=some c/\h.IsCell c (some u))
structure Cx.Ok (X:Cx):Prop where
 mod:Mod X.K X.mg X.base
 kind:X.env.scope.kind = .function
 glob:X.env.globals=mainGlobals
 blt:X.env.builtins=builtinsNs
 above:X.s₀.heap.objs.size<=X.env.locals
 inj:∀x y c,X.env.cells.lookup x=some c->X.env.cells.lookup y=some c->x=y
 has:∀x,(X.env.kindOf x=some .cell∨X.env.kindOf x=some .free)->∃c,X.env.cells.lookup x=some c
 cab:∀x c,X.fn x=true->X.env.cells.lookup x=some c->X.s₀.heap.objs.size<=c
 hd:X.calm=true->X.A.handled=none
 frames:X.A.frames=some X.stack
 stk:X.stack=X.outer∨(X.stack=X.env::X.outer/\X.env.frame=some X.env.locals)
 exf:∀b∈X.ex,b≠X.env.locals/\∀x c,X.env.cells.lookup x=some c->c≠b
 bs:∀b o,X.base.get? b=some o->X.s₀.heap.get? b=some o/\X.H₀ b=none
 bsz:X.base.objs.size<=X.s₀.heap.objs.size
 noex:∀b o,X.base.get? b=some o->b∉X.ex
 exfs:∀b∈X.ex,b∉X.fs
 funs:X.s₀.heap.FunFrames X.base X.outer
 frf:∀b∈X.fs,X.H₀ b=none
structure a6 (X:Cx)(pins:List (Addr×Obj))(σ:List (Option V))(H:Hp)(s:Shared):Prop where
 ok:X.Ok
 os:s.os=X.s₀.os
 bare:AllBare s.gens
 base:Un X.fs X.ex X.H₀ H X.s₀.heap s.heap
 loc:∃m,s.heap.Ns X.env.locals m/\∀(i:Nat) (x:Str) (v:V),X.N[i]? = some x->σ[i]? = some (some v)->fQ X.env.scope x->∃u,aM v u/\aj9 X.env s.heap m x u
 cell:∀x c,X.env.cells.lookup x=some c->∃v,s.heap.IsCell c v
 free:H X.env.locals=none
 freeC:∀x c,X.env.cells.lookup x=some c->H c=none
 pin:∀p∈X.pn++pins,s.heap.get? p.1=some p.2/\H p.1=none/\p.1≠X.env.locals/\p.1∉X.fs/\∀v,p.2.data≠.cell v
 hok:bG X.prog X.w H s.heap
 len:σ.length=X.N.length
section
variable {X:Cx}{pins:List (Addr×Obj)}{σ:List (Option V)}{H H':Hp}{s:Shared}{h':Heap}
theorem Cx.Ok.nofr (ok:X.Ok){b:Addr}{o:Obj}(e:X.base.get? b=some o):b∉X.fs:=λhb=>by
 have:=(ok.funs.mem hb).1
 rw[e]at this;cases this
theorem a6.bs (I:a6 X pins σ H s):∀b o,X.base.get? b=some o->s.heap.get? b=some o/\H b=none:=λb o e=>
 ⟨I.base.keep b o (I.ok.bs b o e).1 (I.ok.bs b o e).2 (I.ok.nofr e) (I.ok.noex b o e),I.base.free b o (I.ok.bs b o e).1 (I.ok.bs b o e).2 (I.ok.noex b o e)⟩
theorem a6.bk (I:a6 X pins σ H s):∀b o,X.base.get? b=some o->s.heap.get? b=some o:=λb o e=>(I.bs b o e).1
theorem a6.mod (I:a6 X pins σ H s):Mod X.K X.mg X.base:=I.ok.mod
theorem a6.kIn (I:a6 X pins σ H s):X.K.In s.heap:=I.ok.mod.kin.keeps I.bk
theorem a6.fr (I:a6 X pins σ H s):∃m,Fr X.base X.env.locals s.heap m:=
 let ⟨m,hn,_⟩:=I.loc
 ⟨m,hn,I.bk,bm0 I.ok.bsz I.ok.above⟩
theorem a6.lt (I:a6 X pins σ H s):X.env.locals<s.heap.objs.size:=let ⟨_,hn,_⟩:=I.loc;hn.lt
theorem a6.sz (I:a6 X pins σ H s):X.s₀.heap.objs.size<=s.heap.objs.size:=bm0 I.ok.above (br6 I.lt)
theorem a6.nofs (I:a6 X pins σ H s){a:Addr}(h:s.heap.objs.size<=a):a∉X.fs:=λhb=>by
 obtain⟨_,o,ho,_⟩:=I.ok.funs.mem hb
 exact absurd (bj1 (bj0 ho) (bm0 I.sz h)) (bn8 _)
theorem a6.cne (I:a6 X pins σ H s):∀x c,X.env.cells.lookup x=some c->c≠X.env.locals:=λx c e z=>by
 obtain⟨v,o,ho,hd⟩:=I.cell x c e
 obtain⟨m,⟨o',es,ep,ho',hd',_⟩,_⟩:=I.loc
 rw[z,ho']at ho;cases ho;rw[hd']at hd;cases hd
theorem a6.funs (I:a6 X pins σ H s):s.heap.FunFrames X.base X.outer:=by
 have all:∀(l:List Env),(∀b∈bP l,b∈X.fs)->X.s₀.heap.FunFrames X.base l->s.heap.FunFrames X.base l:=by
  intro l
  induction l with
  |nil=>intro _ _;trivial
  |cons env r ih=>
   intro hs hl
   obtain⟨hk,⟨L,o,hf,hn,ho,hd⟩,hr⟩:=hl
   have hL:L∈X.fs:=hs L (by unfold bP;rw[List.filterMap_cons,hf];exact bh7)
   obtain⟨sl,e⟩:=I.base.slot L o ho (I.ok.frf L hL) hL λz=>I.ok.exfs L z hL
   exact⟨hk,⟨L,_,hf,hn,e,hd⟩,ih (λb hb=>hs b (by unfold bP;rw[List.filterMap_cons,hf];exact bi5 _ hb)) hr⟩
 exact all X.outer (λ_ hb=>hb) I.ok.funs
theorem a6.stack (I:a6 X pins σ H s):s.heap.FunFrames X.base X.stack:=by
 rcases I.ok.stk with e|⟨e,hf⟩
 ·rw[e];exact I.funs
 ·rw[e]
  obtain⟨m,hn,_⟩:=I.loc
  refine .cons (by rw[I.ok.kind];decide) hf hn ?_ I.funs
  exact Heap.get?_none_of_le (bm0 I.ok.bsz I.ok.above)
theorem a6.stkSub (I:a6 X pins σ H s):∀b∈bP X.stack,b∈X.env.locals::X.fs:=λb hb=>by
 rcases I.ok.stk with e|⟨e,hf⟩
 ·rw[e]at hb;exact bi5 _ hb
 ·rw[e]at hb
  unfold bP at hb
  rw[List.filterMap_cons,hf]at hb
  exact hb
theorem a6.stkFree (I:a6 X pins σ H s):∀b∈bP X.stack,H b=none:=λb hb=>by
 rcases bi4.mp (I.stkSub b hb) with e|hb
 ·rw[e];exact I.free
 ·obtain⟨_,o,ho,_⟩:=I.ok.funs.mem hb
  exact I.base.free b o ho (I.ok.frf b hb) λz=>I.ok.exfs b z hb
theorem a6.step {g':Array GenState}{t':Nat}{d':Drawn}{ch:List Addr}(I:a6 X pins σ H s)(hch:∀b∈ch,(b∈X.ex∨X.s₀.heap.objs.size<=b)/\b≠X.env.locals/\(∀x c,X.env.cells.lookup x=some c->c≠b)/\∀p∈X.pn++pins,p.1≠b)(keep:∀b o,b≠X.env.locals->b∉X.fs->b∉ch->s.heap.get? b=some o->H b=none->h'.get? b=some o)(slot:∀b o,b≠X.env.locals->b∈X.fs->b∉ch->s.heap.get? b=some o->H b=none->∃sl,h'.get? b=some { o with slots:=sl })(free:∀b o,b∉ch->s.heap.get? b=some o->H b=none->H' b=none)(there:∀b o,b∉ch->s.heap.get? b=some o->∃o',h'.get? b=some o')(tups:∀b xs,H b=some (.tup xs)->H' b=some (.tup xs))(frzs:∀b o u,H b=some (.frz o u)->H' b=some (.frz o u))(tbls:∀b ps,H b=some (.tbl ps)->∃more,H' b=some (.tbl (ps++more)))(ns:∀m,s.heap.Ns X.env.locals m->h'.Ns X.env.locals m)(hok:bG X.prog X.w H' h')(hg:AllBare g') :
  a6 X pins σ H' { s with heap:=h',gens:=g',drawn:=d',toks:=t' }:=by
 have neL:∀b o,X.s₀.heap.get? b=some o->b≠X.env.locals:=λb o e=>bl3 (bj1 (bj0 e) I.ok.above)
 have neC:∀b o,X.s₀.heap.get? b=some o->b∉X.ex->b∉ch:=λb o e hx hb=>by
  rcases (hch b hb).1 with z|z
  ·exact hx z
  ·exact absurd (bj1 (bj0 e) z) (bn8 _)
 have cellK:∀x c,X.env.cells.lookup x=some c->∀v,s.heap.IsCell c v->h'.IsCell c v:=λx c e v ⟨o,ho,hd⟩=>by
  have nch:c∉ch:=λz=>(hch c z).2.2.1 x c e rfl
  by_cases hc:c∈X.fs
  ·obtain⟨sl,q⟩:=slot c o (I.cne x c e) hc nch ho (I.freeC x c e)
   exact⟨_,q,hd⟩
  ·exact⟨o,keep c o (I.cne x c e) hc nch ho (I.freeC x c e),hd⟩
 refine⟨I.ok,I.os,hg,⟨λb o e n hb hx=>?_,λb o e n hb hx=>?_,λb o e n hx=>?_,λb o e hx=>?_,λb xs e=>tups b xs (I.base.tups b xs e),λb o xs e=>frzs b o xs (I.base.frzs b o xs e),λb ps e=>?_⟩,?_,λx c e=>?_,?_,λx c e=>?_,λp hp=>?_,hok,I.len⟩
 ·exact keep b o (neL b o e) hb (neC b o e hx) (I.base.keep b o e n hb hx) (I.base.free b o e n hx)
 ·obtain⟨sl,e1⟩:=I.base.slot b o e n hb hx
  obtain⟨sl',e2⟩:=slot b _ (neL b o e) hb (neC b o e hx) e1 (I.base.free b o e n hx)
  exact⟨sl',e2⟩
 ·obtain⟨o',e1⟩:=I.base.there b o e hx
  exact free b o' (neC b o e hx) e1 (I.base.free b o e n hx)
 ·obtain⟨o',e1⟩:=I.base.there b o e hx
  exact there b o' (neC b o e hx) e1
 ·obtain⟨m1,e1⟩:=I.base.tbls b ps e
  obtain⟨m2,e2⟩:=tbls b _ e1
  exact⟨m1++m2,by rw[e2,Array.append_assoc]⟩
 ·obtain⟨m,hn,hl⟩:=I.loc
  refine⟨m,ns m hn,λi x v e1 e2 e3=>?_⟩
  obtain⟨u,r,l⟩:=hl i x v e1 e2 e3
  refine⟨u,r,?_⟩
  rcases l with l|⟨k,c,e,z⟩
  ·exact .inl l
  ·exact .inr ⟨k,c,e,cellK x c e _ z⟩
 ·obtain⟨v,z⟩:=I.cell x c e
  exact⟨v,cellK x c e v z⟩
 ·obtain⟨m,⟨o,_,_,ho,_⟩,_⟩:=I.loc
  exact free _ o (λz=>(hch _ z).2.1 rfl) ho I.free
 ·obtain⟨v,o,ho,hd⟩:=I.cell x c e
  exact free c o (λz=>(hch c z).2.2.1 x c e rfl) ho (I.freeC x c e)
 ·obtain⟨e,n,ne,nf,d⟩:=I.pin p hp
  have nch:p.1∉ch:=λz=>(hch p.1 z).2.2.2 p hp rfl
  exact⟨keep p.1 p.2 ne nf nch e n,free p.1 p.2 nch e n,ne,nf,d⟩
theorem a6.un {t':Nat}(I:a6 X pins σ H s)(u:Un X.fs [] H H' s.heap h')(hok:bG X.prog X.w H' h'):a6 X pins σ H' { s with heap:=h',toks:=t' }:=by
 obtain⟨m,⟨o,es,ep,ho,r⟩,_⟩:=id I.loc
 obtain⟨sl,hL⟩:=u.any ho I.free (by simp)
 exact I.step (g':=s.gens) (d':=s.drawn) (ch:=[]) (λ_ z=>nomatch z) (λb o _ hb _ e n=>u.keep b o e n hb (by simp)) (λb o _ hb _ e n=>u.slot b o e n hb (by simp)) (λb o _ e n=>u.free b o e n (by simp)) (λb o _ e=>u.there b o e (by simp)) u.tups u.frzs u.tbls (λm' hm=>by
  obtain⟨o',es',ep',ho',r'⟩:=hm
  rw[ho]at ho';cases ho'
  exact⟨_,es',ep',hL,r'⟩) hok I.bare
theorem a6.call {g':Array GenState}{t':Nat}{d':Drawn}{ch:List Addr}(I:a6 X pins σ H s)(u:Un (bP X.stack) ch H H' s.heap h')(hok:bG X.prog X.w H' h')(hg:AllBare g')(hch:∀b∈ch,(b∈X.ex∨X.s₀.heap.objs.size<=b)/\b≠X.env.locals/\(∀x c,X.env.cells.lookup x=some c->c≠b)/\∀p∈X.pn++pins,p.1≠b) :
  a6 X pins σ H' { s with heap:=h',gens:=g',drawn:=d',toks:=t' }:=by
 obtain⟨m,⟨o,es,ep,ho,r⟩,_⟩:=id I.loc
 obtain⟨sl,hL⟩:=u.any ho I.free λz=>(hch _ z).2.1 rfl
 exact I.step (ch:=ch) hch (λb o hL hb hc e n=>u.keep b o e n (λz=>(bi4.mp (I.stkSub b z)).elim hL hb) hc) (λb o _ _ hc e n=>u.any e n hc) (λb o hc e n=>u.free b o e n hc) (λb o hc e=>u.there b o e hc) u.tups u.frzs u.tbls (λm' hm=>by
  obtain⟨o',es',ep',ho',r'⟩:=hm
  rw[ho]at ho';cases ho'
  exact⟨_,es',ep',hL,r'⟩) hok hg
theorem a6.turned {t':Nat}{it:Addr}(I:a6 X pins σ H s)(k:∀b o,b≠it->s.heap.get? b=some o->h'.get? b=some o)(hn:H it=none)(hL:it≠X.env.locals)(h1:it∈X.ex∨X.s₀.heap.objs.size<=it)(h2:∀x c,X.env.cells.lookup x=some c->c≠it)(h3:∀p∈X.pn++pins,p.1≠it):a6 X pins σ H { s with heap:=h',toks:=t' }:=by
 have nit:∀b u,H b=some u->b≠it:=λb u e z=>by rw[z,hn]at e;cases e
 refine I.step (g':=s.gens) (d':=s.drawn) (ch:=[it]) (λb hb=>?_) (λb o _ _ hc e _=>k b o (λz=>hc (by simp[z])) e) (λb o _ _ hc e _=>⟨o.slots,k b o (λz=>hc (by simp[z])) e⟩) (λ_ _ _ _ n=>n)
  (λb o hc e=>⟨o,k b o (λz=>hc (by simp[z])) e⟩) (λ_ _ e=>e) (λ_ _ _ e=>e) (λb ps e=>⟨#[],by rw[e];simp⟩) (λm hm=>?_) (λb u e=>?_) I.bare
 ·have e:b=it:=by simpa using hb
  subst e
  exact⟨h1,hL,h2,h3⟩
 ·obtain⟨o,es,ep,ho,r⟩:=hm
  exact⟨o,es,ep,k _ o (Ne.symm hL) ho,r⟩
 ·refine (I.hok b u e).stay (λc v hc q=>k c v ?_ q) (λ_ q=>q) λ_ _ q=>q
  rcases hc with z|z
  ·rw[z];exact nit b u e
  ·exact nit c _ z
theorem a6.tok (I:a6 X pins σ H s)(t:Nat):a6 X pins σ H { s with toks:=t }:=I.un (h':=s.heap) (t':=t) Un.refl I.hok
theorem a6.kept {t':Nat}(I:a6 X pins σ H s)(k:∀b u,s.heap.get? b=some u->h'.get? b=some u):a6 X pins σ H { s with heap:=h',toks:=t' }:=I.un (Un.kept k) (I.hok.kept k)
theorem a6.laid {a:Addr}{o:HO}{t':Nat}(I:a6 X pins σ H s)(k:∀b u,s.heap.get? b=some u->h'.get? b=some u)(hp:s.heap.objs.size<=a)(new:b7 X.prog X.w (upd H a o) h' a o) :
  a6 X pins σ (upd H a o) { s with heap:=h',toks:=t' }:=I.un (Un.laid k hp (I.hok.fresh hp)) (I.hok.laid k hp new)
theorem a6.write {x e:Addr}{o:HO}{t':Nat}(I:a6 X pins σ H s)(mu:mZ (H x))(he:e=x∨H e=some (.own x))(k:∀b u,b≠e->s.heap.get? b=some u->h'.get? b=some u)(heo:∃u,h'.get? e=some u)(new:b7 X.prog X.w (upd H x o) h' x o):a6 X pins σ (upd H x o) { s with heap:=h',toks:=t' }:=I.un (Un.write mu he k heo) (I.hok.write mu he k heo new)
theorem a6.weak {σ':List (Option V)}(I:a6 X pins σ H s)(hl:σ'.length=σ.length)(w:∀(i:Nat) v,σ'[i]? = some (some v)->σ[i]? = some (some v)):a6 X pins σ' H s:=
 ⟨I.ok,I.os,I.bare,I.base,let ⟨m,hn,hl'⟩:=I.loc;⟨m,hn,λi x v e1 e2 e3=>hl' i x v e1 (w i v e2) e3⟩,I.cell,I.free,I.freeC,I.pin,I.hok,hl.trans I.len⟩
theorem a6.pins_of {pins':List (Addr×Obj)}(I:a6 X pins σ H s)(h:∀p∈pins',s.heap.get? p.1=some p.2/\H p.1=none/\p.1≠X.env.locals/\p.1∉X.fs/\∀v,p.2.data≠.cell v):a6 X pins' σ H s:=
 ⟨I.ok,I.os,I.bare,I.base,I.loc,I.cell,I.free,I.freeC,λp hp=>(bl5.mp hp).elim (λz=>I.pin p (bs0 _ z)) (h p),I.hok,I.len⟩
theorem zA {N:List Str}(hN:N.Nodup){i j:Nat}{x:Str}(a:N[i]? = some x)(b:N[j]? = some x):i=j:=by
 obtain⟨h1,e1⟩:=bi3.mp a
 obtain⟨h2,e2⟩:=bi3.mp b
 exact (List.getElem_inj hN).mp (e1.trans e2.symm)
theorem u6 {M:Model}{A:Around}{E:Value->Shared->Prop}{i:Nat}{x:Str}{v:V}{u:Value}{Q:Unit->Shared->Prop}(I:a6 X pins σ H s)(hN:X.N.Nodup)(hi:X.N[i]? = some x)(hx:j4 X.env.scope x)(r:aM v u)(h:∀s',a6 X pins (σ.set i (some v)) H s'->(∃a,Heap.SameBut a s.heap s'.heap/\(a=X.env.locals∨X.env.cells.lookup x=some a))->Q () s')(hf:X.fn x=true∨X.env.scope.names.lookup x=some .local:=by first|exact .inl rfl|exact .inr rfl|assumption):wpAny M A (storeName X.env x u) Q E s:=by
 obtain⟨m,hn,hl⟩:=id I.loc
 have hcls:(X.env.scope.kind==.class||(X.env.scope.kind==.module&&X.env.locals != X.env.globals))=false:=by rw[I.ok.kind];rfl
 have hiσ:i<σ.length:=by rw[I.len];exact (bi3.mp hi).1
 have cne:=I.cne
 have tracked:∀{a:Addr}{h':Heap},(∃o,s.heap.get? a=some o/\H a=none)->Heap.SameBut a s.heap h'->bG X.prog X.w H h':=λ{a h'} ha hs b ob e=>by
  obtain⟨_,_,hfree⟩:=ha
  refine (I.hok b ob e).stay (λc w' hc q=>(hs.2 c ?_).trans q) (λ_ q=>q) λ_ _ q=>q
  rintro rfl
  rcases hc with rfl|hc
  ·rw[hfree]at e;cases e
  ·rw[hfree]at hc;cases hc
 rcases hx with hk|hk
 ·refine wpAny_storeName_local hk hn (λh' hn' hs=>?_) hcls
  obtain⟨oL,_,_,hoL,_⟩:=id hn
  refine h _ ⟨I.ok,I.os,I.bare,⟨λb o e n hb hx=>?_,λb o e n hb hx=>?_,I.base.free,λb o e hx=>?_,I.base.tups,I.base.frzs,I.base.tbls⟩,⟨_,hn',λj y v' e1 e2 e3=>?_⟩,λy c e=>?_,I.free,I.freeC,λp hp=>?_,tracked ⟨oL,hoL,I.free⟩ hs,by simpa using I.len⟩ ⟨_,hs,.inl rfl⟩
  ·exact (hs.2 b (bl3 (bj1 (bj0 e) I.ok.above))).trans (I.base.keep b o e n hb hx)
  ·obtain⟨sl,e1⟩:=I.base.slot b o e n hb hx
   exact⟨sl,(hs.2 b (bl3 (bj1 (bj0 e) I.ok.above))).trans e1⟩
  ·obtain⟨o',e1⟩:=I.base.there b o e hx
   exact⟨o',(hs.2 b (bl3 (bj1 (bj0 e) I.ok.above))).trans e1⟩
  ·by_cases hj:j=i
   ·subst hj
    rw[hi]at e1;cases e1
    rw[bq8 hiσ]at e2
    cases e2
    exact⟨u,r,.inl ⟨hk,by simp⟩⟩
   ·rw[bl9 (Ne.symm hj)]at e2
    obtain⟨u',r',q⟩:=hl j y v' e1 e2 e3
    refine⟨u',r',?_⟩
    rcases q with⟨k,e⟩|⟨k,c,e,z⟩
    ·refine .inl ⟨k,?_⟩
     have:y≠x:=λe=>hj (zA hN e1 (e▸hi))
     simp[this,e]
    ·exact .inr ⟨k,c,e,z.sameBut hs (cne y c e)⟩
  ·obtain⟨w',z⟩:=I.cell y c e
   exact⟨w',z.sameBut hs (cne y c e)⟩
  ·obtain⟨e,n,ne,nf,d⟩:=I.pin p hp
   exact⟨(hs.2 p.1 ne).trans e,n,ne,nf,d⟩
 ·have hfn:X.fn x=true:=by
   rcases hf with z|z
   ·exact z
   ·rw[z]at hk;cases hk
  obtain⟨c,hc⟩:=I.ok.has x (.inl hk)
  obtain⟨w',z⟩:=I.cell x c hc
  refine wpAny_storeName_cell I.ok.kind hk hc z (λh' hc' hs=>?_)
  obtain⟨oc,hoc,hocd⟩:=id z
  refine h { s with heap:=h' } ⟨I.ok,I.os,I.bare,⟨λb o e n hb hx=>?_,λb o e n hb hx=>?_,I.base.free,λb o e hx=>?_,I.base.tups,I.base.frzs,I.base.tbls⟩,⟨m,hn.sameBut hs (Ne.symm (cne x c hc)),λj y v' e1 e2 e3=>?_⟩,λy c' e=>?_,I.free,I.freeC,λp hp=>?_,tracked ⟨oc,hoc,I.freeC x c hc⟩ hs,by simpa using I.len⟩ ⟨c,hs,.inr hc⟩
  ·exact (hs.2 b (bl3 (bj1 (bj0 e) (I.ok.cab x c hfn hc)))).trans (I.base.keep b o e n hb hx)
  ·obtain⟨sl,e1⟩:=I.base.slot b o e n hb hx
   exact⟨sl,(hs.2 b (bl3 (bj1 (bj0 e) (I.ok.cab x c hfn hc)))).trans e1⟩
  ·obtain⟨o',e1⟩:=I.base.there b o e hx
   exact⟨o',(hs.2 b (bl3 (bj1 (bj0 e) (I.ok.cab x c hfn hc)))).trans e1⟩
  ·by_cases hj:j=i
   ·subst hj
    rw[hi]at e1;cases e1
    rw[bq8 hiσ]at e2
    cases e2
    exact⟨u,r,.inr ⟨.inl hk,c,hc,hc'⟩⟩
   ·rw[bl9 (Ne.symm hj)]at e2
    obtain⟨u',r',q⟩:=hl j y v' e1 e2 e3
    refine⟨u',r',?_⟩
    rcases q with q|⟨k,c',e,z'⟩
    ·exact .inl q
    ·refine .inr ⟨k,c',e,z'.sameBut hs ?_⟩
     rintro rfl
     exact hj (zA hN e1 (I.ok.inj _ _ _ e hc▸hi))
  ·by_cases hcc:c'=c
   ·subst hcc;exact⟨_,hc'⟩
   ·obtain⟨w2,z2⟩:=I.cell y c' e
    exact⟨w2,z2.sameBut hs hcc⟩
  ·obtain⟨e,n,ne,nf,d⟩:=I.pin p hp
   refine⟨(hs.2 p.1 ?_).trans e,n,ne,nf,d⟩
   intro q
   rw[q,hoc]at e
   have q':oc=p.2:=bk2 e
   exact d w' (by rw[<- q'];exact hocd)
theorem zB {M:Model}{A:Around}{E:Value->Shared->Prop}{i:Nat}{x:Str}{v:V}{u:Value}{Q:Unit->Shared->Prop}(I:a6 X pins σ H s)(hN:X.N.Nodup)(hi:X.N[i]? = some x)(hx:j4 X.env.scope x)(r:aM v u)(h:∀s',a6 X pins (σ.set i (some v)) H s'->Q () s')(hf:X.fn x=true∨X.env.scope.names.lookup x=some .local:=by first|exact .inl rfl|exact .inr rfl|assumption):wpAny M A (storeName X.env x u) Q E s:=
 u6 I hN hi hx r (λs' I' _=>h s' I') hf
theorem a6.call' {s':Shared}{ch:List Addr}(I:a6 X pins σ H s)(ho:s'.os=s.os)(u:Un (bP X.stack) ch H H' s.heap s'.heap)(hok:bG X.prog X.w H' s'.heap)(hg:AllBare s'.gens)(hch:∀b∈ch,(b∈X.ex∨X.s₀.heap.objs.size<=b)/\b≠X.env.locals/\(∀x c,X.env.cells.lookup x=some c->c≠b)/\∀p∈X.pn++pins,p.1≠b):a6 X pins σ H' s':=by
 obtain⟨h',g',d',t',o'⟩:=s'
 have e:o'=s.os:=ho
 subst e
 exact I.call (g':=g') (t':=t') (d':=d') u hok hg hch
end
abbrev XK:=Value->Option Addr->Hp->Prop
abbrev St:=List (Option V)
abbrev VK:=V->Hp->Prop
abbrev TE:=St->Hp->VK->Prop
abbrev TT:=St->Hp->(Bool->Hp->Prop)->Prop
abbrev TA:=St->Hp->(List V->Hp->Prop)->Prop
structure cW where
 nx:St->Hp->Prop
 rt:VK
 bk:St->Hp->Prop:=λ_ _=>False
 ct:St->Hp->Prop:=λ_ _=>False
abbrev TS:=cW->St->Hp->Prop
def EP (X:Cx)(pins:List (Addr×Obj))(σ:St)(Q:VK)(u:Value)(s':Shared):Prop:=∃v H',a6 X pins σ H' s'/\aM v u/\Q v H'
def TP (X:Cx)(pins:List (Addr×Obj))(σ:St)(Q:Bool->Hp->Prop)(b:Bool)(s':Shared):Prop:=∃H',a6 X pins σ H' s'/\Q b H'
def AP (X:Cx)(pins:List (Addr×Obj))(σ:St)(Q:List V->Hp->Prop)(us:List Value)(s':Shared):Prop:=∃vs H',a6 X pins σ H' s'/\aF vs us/\Q vs H'
def SP (X:Cx)(pins:List (Addr×Obj))(D:cW)(f:Flow)(s':Shared):Prop:=
 match f with
 |.next=>∃σ' H',a6 X pins σ' H' s'/\D.nx σ' H'
 |.brk=>∃σ' H',a6 X pins σ' H' s'/\D.bk σ' H'
 |.cont=>∃σ' H',a6 X pins σ' H' s'/\D.ct σ' H'
 |.ret u=>∃v σ' H',a6 X pins σ' H' s'/\aM v u/\D.rt v H'
def PE (X:Cx)(e:Expr)(t:TE):Prop:=
 ∀(pins:List (Addr×Obj)) (s:Shared) (σ:St) (H:Hp) (Q:VK),a6 X pins σ H s->t σ H Q->wpAny (model X.prog X.w) X.A (eval e X.env) (EP X pins σ Q) X.xe s
def PT (X:Cx)(e:Expr)(t:TT):Prop:=
 ∀(pins:List (Addr×Obj)) (s:Shared) (σ:St) (H:Hp) (Q:Bool->Hp->Prop),a6 X pins σ H s->t σ H Q->wpAny (model X.prog X.w) X.A (isTrue e X.env (eval e X.env)) (TP X pins σ Q) X.xe s
def PW (X:Cx)(e:Expr)(t:TT):Prop:=
 ∀(whole:Sem Value) (pins:List (Addr×Obj)) (s:Shared) (σ:St) (H:Hp) (Q:Bool->Hp->Prop),a6 X pins σ H s->t σ H Q->wpAny (model X.prog X.w) X.A (isTrue e X.env whole) (TP X pins σ Q) X.xe s
theorem PW.pt {X:Cx}{e:Expr}{t:TT}(h:PW X e t):PT X e t:=h _
def PA (X:Cx)(es:List Expr)(t:TA):Prop:=
 ∀(pos:Pos) (pins:List (Addr×Obj)) (s:Shared) (σ:St) (H:Hp) (Q:List V->Hp->Prop),a6 X pins σ H s->t σ H Q->wpAny (model X.prog X.w) X.A (spliced (backTo pos (starEach es X.env))) (AP X pins σ Q) X.xe s
def PS (X:Cx)(st:Stmt)(t:TS):Prop:=
 ∀(pins:List (Addr×Obj)) (s:Shared) (σ:St) (H:Hp) (D:cW),a6 X pins σ H s->t D σ H->wpAny (model X.prog X.w) X.A (exec st X.env) (SP X pins D) X.xe s
def dE (X:Cx)(st:List Stmt)(t:TS):Prop:=
 ∀(pins:List (Addr×Obj)) (s:Shared) (σ:St) (H:Hp) (D:cW),a6 X pins σ H s->t D σ H->wpAny (model X.prog X.w) X.A (execs st X.env) (SP X pins D) X.xe s
theorem aK {α:Type}{t:Sem α}{Q Q':α->Shared->Prop}{M:Model}{A:Around}{E:Value->Shared->Prop}{s:Shared}(h:wpAny M A t Q E s)(hQ:∀a s,Q a s->Q' a s):wpAny M A t Q' E s:=bo6 h hQ λ_ _ x=>x
section
variable {X:Cx}
theorem bin {a b:Expr}{ta tb:TE}(ha:PE X a ta)(hb:PE X b tb){pins:List (Addr×Obj)}{s:Shared}{σ:St}{H:Hp}{R:V->V->Hp->Prop}(I:a6 X pins σ H s)(h:ta σ H λx H1=>tb σ H1 λy H2=>R x y H2){α:Type}{Q:α->Shared->Prop}{f:Value->Value->Sem α}(hf:∀v u s2 x y H2,a6 X pins σ H2 s2->aM x v->aM y u->R x y H2->wpAny (model X.prog X.w) X.A (f v u) Q X.xe s2) :
  wpAny (model X.prog X.w) X.A (eval a X.env) (λv s₁=>wpAny (model X.prog X.w) X.A (eval b X.env) (λu s₂=>wpAny (model X.prog X.w) X.A (f v u) Q X.xe s₂) X.xe s₁) X.xe s:=by
 refine aK (ha pins s σ H _ I h) λv s1 ⟨x,H1,I1,r1,q1⟩=>?_
 refine aK (hb pins s1 σ H1 _ I1 q1) λu s2 ⟨y,H2,I2,r2,q2⟩=>?_
 exact hf v u s2 x y H2 I2 r1 r2 q2
def dQ (i:Nat):TE:=λσ H Q=>∃v,σ[i]? = some (some v)/\Q v H
def tC (v:V):TE:=λ_ H Q=>Q v H
theorem iC {i:Nat}{x:Str}{pos:Pos}(hN:X.N[i]? = some x)(hv:fQ X.env.scope x)(hd:(x==("__debug__":Str))=false:=by decide)(hcd:(x==("__classdict__":Str))=false:=by decide):PE X (.Name x pos) (dQ i):=by
 intro pins s σ H Q I h
 obtain⟨v,e,h⟩:=h
 obtain⟨m,hn,hl⟩:=I.loc
 obtain⟨u,r,l⟩:=hl i x v hN e hv
 have fin:EP X pins σ Q u s:=⟨v,H,I,r,h⟩
 rcases l with⟨hk,hm⟩|⟨hk,c,hc,hcell⟩
 ·exact wpAny_Name (wpAny_loadName_local I.ok.kind hk hn hm fin) hd
 ·rcases hk with hk|hk
  ·exact wpAny_Name (wpAny_loadName_cell I.ok.kind hk hc hcell fin) hd
  ·exact wpAny_Name (wpAny_loadName_free I.ok.kind hk hc hcell fin hcd) hd
theorem jT {i j pos}:PE X (.Constant (.int i) j pos) (tC (.int i)):=λ_ _ _ H _ I h=>wpAny_Constant_int ⟨.int i,H,I.tok _,⟨_,rfl⟩,h⟩
theorem ak0 {b j pos}:PE X (.Constant (.bool b) j pos) (tC (.bl b)):=λ_ _ _ H _ I h=>Constant_bool ⟨.bl b,H,I,rfl,h⟩
theorem ak1 {x j pos}:PE X (.Constant (.str x) j pos) (tC (.str x)):=λ_ _ _ H _ I h=>Calls.Constant_str ⟨.str x,H,I.tok _,⟨_,rfl⟩,h⟩
def Gl (X:Cx)(x:Str):Prop:=X.env.kindOf x=some .globalImplicit
theorem u7 {E:Value->Shared->Prop}{pins:List (Addr×Obj)}{s:Shared}{σ:St}{H:Hp}{x:Str}{u:Value}{pos:Pos}{Q:Value->Shared->Prop}(I:a6 X pins σ H s)(hg:Gl X x)(hm:X.mg x=some u)(h:Q u s)(hd:(x==("__debug__":Str))=false:=by decide):wpAny (model X.prog X.w) X.A (eval (.Name x pos) X.env) Q E s:=
 Calls.Name_function_global I.ok.kind hg (Calls.loadGlobal_global (by rw[I.ok.glob];exact I.mod.glob.keeps I.bk) hm h) hd
theorem iD {E:Value->Shared->Prop}{pins:List (Addr×Obj)}{s:Shared}{σ:St}{H:Hp}{x:Str}{u:Value}{pos:Pos}{Q:Value->Shared->Prop}(I:a6 X pins σ H s)(hg:Gl X x)(hm:X.mg x=none)(hv:bootBuiltins x=some u)(h:Q u s)(hn:x≠"__name__":=by decide)(hd:(x==("__debug__":Str))=false:=by decide):wpAny (model X.prog X.w) X.A (eval (.Name x pos) X.env) Q E s:=by
 obtain⟨mb,h1,h2⟩:=I.mod.blt
 exact Calls.Name_function_global I.ok.kind hg (Calls.loadGlobal_builtin (by rw[I.ok.glob];exact I.mod.glob.keeps I.bk) hm (by rw[I.ok.blt];exact h1.keeps I.bk) ((h2 x hn).trans hv) h) hd
theorem ak2 {x:Str}{v:V}{u:Value}{pos:Pos}(hg:Gl X x)(hm:X.mg x=some u)(r:aM v u)(hd:(x==("__debug__":Str))=false:=by decide):PE X (.Name x pos) (tC v):=
 λ_ _ _ H _ I h=>u7 I hg hm ⟨v,H,I,r,h⟩ hd
theorem ak3 {x:Str}{v:V}{u:Value}{pos:Pos}(hg:Gl X x)(hm:X.mg x=none)(hv:bootBuiltins x=some u)(r:aM v u)(hn:x≠"__name__":=by decide)(hd:(x==("__debug__":Str))=false:=by decide):PE X (.Name x pos) (tC v):=
 λ_ _ _ H _ I h=>iD I hg hm hv ⟨v,H,I,r,h⟩ hn hd
variable {a b:Expr}{ta tb:TE}{pos:Pos}
def PC (X:Cx)(op:CmpOp)(a b:Expr)(t:TE):Prop:=
 ∀(pins:List (Addr×Obj)) (s:Shared) (σ:St) (H:Hp) (Q:VK),a6 X pins σ H s->t σ H Q->
  wpAny (model X.prog X.w) X.A (eval a X.env) (λv s₁=>wpAny (model X.prog X.w) X.A (eval b X.env) (λu s₂=>wpAny (model X.prog X.w) X.A (compareOp op v u) (EP X pins σ Q) X.xe s₂) X.xe s₁) X.xe s
def tB (t:TE):TT:=λσ H Q=>t σ H λx H1=>∃c,x = .bl c/\Q c H1
theorem zC {op:CmpOp}{t:TE}(h:PC X op a b t)(h1:behindInMarks op b=false:=by first|exact nobehind _ (by decide) (by decide)|rfl):PT X (.Compare a [op] [b] pos) (tB t):=by
 intro pins s σ H Q I hw
 refine wpAny_isTrue_Compare1 (aK (h pins s σ H _ I hw) λv s1 h1=>aK h1 λu s2 h2=>aK h2 λc s3 ⟨x,H1,I1,r1,q1⟩=>?_) h1
 obtain⟨d,rfl,q⟩:=q1
 cases r1
 exact br7 ⟨H1,I1,q⟩
theorem ak4 {e:Expr}{t:TE}(h:PE X e t)(he:∀whole,isTrue e X.env whole=(do let v <- whole;standAt e.pos;holding [v] (truthy v)):=by intro _;rfl):PT X e (tB t):=by
 intro pins s σ H Q I hw
 refine isTrue_plain (aK (h pins s σ H _ I hw) λv s1 ⟨x,H1,I1,r1,q1⟩=>?_) (he _)
 obtain⟨d,rfl,q⟩:=q1
 cases r1
 exact br7 ⟨H1,I1,q⟩
variable {tA tB':TT}{bX:List Expr}
def zD (t u:TT):TT:=λσ H Q=>t σ H λc H1=>if c=true then u σ H1 Q else Q false H1
def zE (t u:TT):TT:=λσ H Q=>t σ H λc H1=>if c=true then Q true H1 else u σ H1 Q
def zF (t:TT):TT:=λσ H Q=>t σ H λc H1=>Q (!c) H1
theorem ak5 (ha:PT X a tA):PW X (.BoolOp .And [a] pos) tA:=by
 intro wh pins s σ H Q I h
 refine isTrue_and (aK (ha pins s σ H Q I h) λc s1 e=>?_)
 cases c with
 |true=>exact isTrue_and_nil e
 |false=>exact e
theorem ak6 (ha:PT X a tA):PW X (.BoolOp .Or [a] pos) tA:=by
 intro wh pins s σ H Q I h
 refine isTrue_or (aK (ha pins s σ H Q I h) λc s1 e=>?_)
 cases c with
 |false=>exact isTrue_or_nil e
 |true=>exact e
theorem ak7 (ha:PT X a tA)(hb:PW X (.BoolOp .And (b::bX) pos) tB'):PW X (.BoolOp .And (a::b::bX) pos) (zD tA tB'):=by
 intro wh pins s σ H Q I h
 refine isTrue_and (aK (ha pins s σ H _ I h) λc s1 ⟨H1,I1,q1⟩=>?_)
 cases c with
 |true=>exact hb wh pins s1 σ H1 Q I1 q1
 |false=>exact⟨H1,I1,q1⟩
theorem ak8 (ha:PT X a tA)(hb:PW X (.BoolOp .Or (b::bX) pos) tB'):PW X (.BoolOp .Or (a::b::bX) pos) (zE tA tB'):=by
 intro wh pins s σ H Q I h
 refine isTrue_or (aK (ha pins s σ H _ I h) λc s1 ⟨H1,I1,q1⟩=>?_)
 cases c with
 |true=>exact⟨H1,I1,q1⟩
 |false=>exact hb wh pins s1 σ H1 Q I1 q1
theorem ak9 (ha:PT X a tA):PT X (.UnaryOp .Not a pos) (zF tA):=by
 intro pins s σ H Q I h
 exact isTrue_not (ha pins s σ H (λc H1=>Q (!c) H1) I h)
def zG (ta tb:TE):TE:=λσ H Q=>ta σ H λx H1=>∃c,x = .bl c/\if c=true then tb σ H1 Q else Q (.bl false) H1
def zH (ta tb:TE):TE:=λσ H Q=>ta σ H λx H1=>∃c,x = .bl c/\if c=true then Q (.bl true) H1 else tb σ H1 Q
def zI (ta:TE):TE:=λσ H Q=>ta σ H λx H1=>∃c,x = .bl c/\Q (.bl (!c)) H1
theorem al0 {op}{t:TE}(h:PE X a t):PE X (.BoolOp op [a] pos) t:=λpins s σ H Q I hw=>BoolOp_one (h pins s σ H Q I hw)
theorem al1 (ha:PE X a ta)(hb:PE X (.BoolOp .And (b::bX) pos) tb):PE X (.BoolOp .And (a::b::bX) pos) (zG ta tb):=by
 intro pins s σ H Q I h
 refine BoolOp_and (aK (ha pins s σ H _ I h) λv s1 ⟨x,H1,I1,r1,q1⟩=>?_)
 obtain⟨c,rfl,q1⟩:=q1
 cases r1
 refine br7 ?_
 cases c with
 |true=>exact hb pins s1 σ H1 Q I1 q1
 |false=>exact⟨.bl false,H1,I1,rfl,q1⟩
theorem al2 (ha:PE X a ta)(hb:PE X (.BoolOp .Or (b::bX) pos) tb):PE X (.BoolOp .Or (a::b::bX) pos) (zH ta tb):=by
 intro pins s σ H Q I h
 refine BoolOp_or (aK (ha pins s σ H _ I h) λv s1 ⟨x,H1,I1,r1,q1⟩=>?_)
 obtain⟨c,rfl,q1⟩:=q1
 cases r1
 refine br7 ?_
 cases c with
 |false=>exact hb pins s1 σ H1 Q I1 q1
 |true=>exact⟨.bl true,H1,I1,rfl,q1⟩
theorem al3 (ha:PE X a ta):PE X (.UnaryOp .Not a pos) (zI ta):=by
 intro pins s σ H Q I h
 refine UnaryOp_ (aK (ha pins s σ H _ I h) λv s1 ⟨x,H1,I1,r1,q1⟩=>?_)
 obtain⟨c,rfl,q1⟩:=q1
 cases r1
 exact not_of (br7 ⟨.bl (!c),H1,I1,rfl,q1⟩)
end
def aJ (K:ac)(H:Hp)(a:Addr)(xs:List V):Prop:=
 Rd H a (.lst xs) ∨
  ∃(o:Obj) (its:Array Value) (n:Nat),K.lookup a=some o/\o.cls = .type "list"/\o.dict=none/\o.data = .seq its n/\its.size<=sizeLine/\aF xs its.toList
def aG (K:ac)(H:Hp)(a:Addr)(xs:List V):Prop:=
 Rd H a (.tup xs) ∨
  ∃(o:Obj) (its:Array Value) (n:Nat),K.lookup a=some o/\o.cls = .type "tuple"/\o.data = .seq its n/\its.size<=sizeLine/\aF xs its.toList
def al4:Value->Option V
 |.none=>some .non
 |.bool b=>some (.bl b)
 |.int i _=>some (.int i)
 |.str x _=>some (.str x)
 |.bytes b _=>some (.byt b)
 |.float b _=>some (.flt b)
 |.ref a=>some (.ref a)
 |.type n=>some (.ty n)
 |_=>none
theorem aM.abs {x:V}{u:Value}(r:aM x u):al4 u=some x:=by
 cases x with
 |non=>cases r;rfl
 |bl _=>cases r;rfl
 |int _=>obtain⟨t,rfl⟩:=r;rfl
 |str _=>obtain⟨t,rfl⟩:=r;rfl
 |byt _=>obtain⟨t,rfl⟩:=r;rfl
 |flt _=>obtain⟨t,rfl⟩:=r;rfl
 |ref _=>cases r;rfl
 |ty _=>cases r;rfl
theorem aM.inj {x y:V}{u:Value}(r:aM x u)(q:aM y u):x=y:=bk2 (r.abs.symm.trans q.abs)
theorem aF.inj:∀{xs ys:List V}{us:List Value},aF xs us->aF ys us->xs=ys
 |_,_,_,.nil,.nil=>rfl
 |_,_,_,.cons r t,.cons r' t'=>by rw[r.inj r',aF.inj t t']
section
variable {X:Cx}{pins:List (Addr×Obj)}{σ:St}{H:Hp}{s:Shared}{a:Addr}{xs ys:List V}
theorem aJ.of {K:ac}(h:H a=some (.lst xs)):aJ K H a xs:=.inl (.inl h)
theorem aG.of {K:ac}(h:H a=some (.tup xs)):aG K H a xs:=.inl (.inl h)
theorem a6.list (I:a6 X pins σ H s)(h:aJ X.K H a xs):∃its:List Value,aF xs its/\PlainL s.heap a its.toArray/\xs.length<=sizeLine:=by
 rcases h with h|⟨o,its,n,hk,hc,hd,hs,hz,r⟩
 ·obtain⟨z,its,n,r,e⟩:=h.ok I.hok
  exact⟨its,r,⟨_,n,e,rfl,rfl,rfl⟩,z⟩
 ·refine⟨its.toList,r,⟨o,n,I.kIn a o hk,hc,hd,by simpa using hs⟩,?_⟩
  have e:=r.length
  simp only[bn6]at e
  omega
theorem a6.tuple (I:a6 X pins σ H s)(h:aG X.K H a xs):∃its:List Value,aF xs its/\IsTup s.heap a its.toArray/\xs.length<=sizeLine:=by
 rcases h with h|⟨o,its,n,hk,hc,hs,hz,r⟩
 ·obtain⟨z,its,r,p,_⟩:=h.ok I.hok
  exact⟨its,r,p,z⟩
 ·refine⟨its.toList,r,⟨o,I.kIn a o hk,hc,n,by simpa using hs⟩,?_⟩
  have e:=r.length
  simp only[bn6]at e
  omega
theorem a6.list_inj (I:a6 X pins σ H s)(h:aJ X.K H a xs)(h':aJ X.K H a ys):xs=ys:=by
 obtain⟨its,r,⟨o,n,e,_,_,d⟩,_⟩:=I.list h
 obtain⟨its',r',⟨o',n',e',_,_,d'⟩,_⟩:=I.list h'
 rw[e]at e';cases e'
 rw[d]at d'
 injection d' with d1 _
 have:its=its':=by simpa using congrArg Array.toList d1
 subst this
 exact r.inj r'
theorem a6.tuple_inj (I:a6 X pins σ H s)(h:aG X.K H a xs)(h':aG X.K H a ys):xs=ys:=by
 obtain⟨its,r,⟨o,e,_,n,d⟩,_⟩:=I.tuple h
 obtain⟨its',r',⟨o',e',_,n',d'⟩,_⟩:=I.tuple h'
 rw[e]at e';cases e'
 rw[d]at d'
 injection d' with d1 _
 have:its=its':=by simpa using congrArg Array.toList d1
 subst this
 exact r.inj r'
end
abbrev Cx.wish (X:Cx)(E:Value->Shared->Prop):Cx:={ X with xe:=E }
abbrev Cx.nox (X:Cx):Cx:=X.wish λ_ _=>False
theorem Cx.Ok.wish {X:Cx}(ok:X.Ok)(E:Value->Shared->Prop):(X.wish E).Ok:=
 ⟨ok.mod,ok.kind,ok.glob,ok.blt,ok.above,ok.inj,ok.has,ok.cab,ok.hd,ok.frames,ok.stk,ok.exf,ok.bs,ok.bsz,ok.noex,ok.exfs,ok.funs,ok.frf⟩
theorem Cx.Ok.unwish {X:Cx}{E:Value->Shared->Prop}(ok:(X.wish E).Ok):X.Ok:=
 ⟨ok.mod,ok.kind,ok.glob,ok.blt,ok.above,ok.inj,ok.has,ok.cab,ok.hd,ok.frames,ok.stk,ok.exf,ok.bs,ok.bsz,ok.noex,ok.exfs,ok.funs,ok.frf⟩
section
variable {X:Cx}{pins:List (Addr×Obj)}{σ:St}{H:Hp}{s:Shared}{E:Value→Shared→Prop}
theorem a6.wish (I:a6 X pins σ H s)(E:Value->Shared->Prop):a6 (X.wish E) pins σ H s:=⟨I.ok.wish E,I.os,I.bare,I.base,I.loc,I.cell,I.free,I.freeC,I.pin,I.hok,I.len⟩
theorem a6.unwish (I:a6 (X.wish E) pins σ H s):a6 X pins σ H s:=⟨I.ok.unwish,I.os,I.bare,I.base,I.loc,I.cell,I.free,I.freeC,I.pin,I.hok,I.len⟩
theorem SP.unwish {D:cW}{f:Flow}{s':Shared}(h:SP (X.wish E) pins D f s'):SP X pins D f s':=by
 cases f with
 |next=>obtain⟨σ',H',I,q⟩:=h;exact⟨σ',H',I.unwish,q⟩
 |brk=>obtain⟨σ',H',I,q⟩:=h;exact⟨σ',H',I.unwish,q⟩
 |cont=>obtain⟨σ',H',I,q⟩:=h;exact⟨σ',H',I.unwish,q⟩
 |ret u=>obtain⟨v,σ',H',I,r,q⟩:=h;exact⟨v,σ',H',I.unwish,r,q⟩
theorem dE.nox {st:List Stmt}{t:TS}(h:dE X.nox st t):dE X st t:=λpins s σ H D I hw=>
 bo6 (h pins s σ H D (I.wish _) hw) (λ_ _ q=>q.unwish) λ_ _ z=>False.elim z
end
section
variable {X:Cx}{st:Stmt}{bX:List Stmt}{t u:TS}{e:Expr}{te:TE}{pos:Pos}
def u8:TS:=λD σ H=>D.nx σ H
def zJ (t u:TS):TS:=λD σ H=>t { D with nx:=u D } σ H
theorem zK:dE X [] u8:=λ_ _ σ H _ I h=>wpAny_execs_nil ⟨σ,H,I,h⟩
theorem j5 (h1:PS X st t)(h2:dE X bX u):dE X (st::bX) (zJ t u):=by
 intro pins s σ H D I h
 refine wpAny_execs_cons (aK (h1 pins s σ H { D with nx:=u D } I h) λf s1 q=>?_)
 cases f with
 |next=>
  obtain⟨σ',H',I',q⟩:=q
  exact h2 pins s1 σ' H' D I' q
 |ret v=>exact q
 |brk=>exact q
 |cont=>exact q
theorem iE (h1:PS X st t):dE X [st] t:=by
 intro pins s σ H D I h
 refine wpAny_execs_cons (aK (h1 pins s σ H D I h) λf s1 q=>?_)
 cases f with
 |next=>exact wpAny_execs_nil q
 |ret v=>exact q
 |brk=>exact q
 |cont=>exact q
theorem a6.quiet {pins:List (Addr×Obj)}{σ:St}{H:Hp}{s:Shared}(I:a6 X pins σ H s):interactive X.env=false:=by simp[interactive,I.ok.kind]
def nC (te:TE):TS:=λD σ H=>te σ H λ_ H1=>D.nx σ H1
theorem j6 (he:PE X e te)(hs:swapsWith e none pos.line X.env=pure false:=by rfl):PS X (.Expr e pos) (nC te):=by
 intro pins s σ H D I h
 exact wpAny_Expr_any (aK (he pins s σ H _ I h) λv s1 ⟨x,H1,I1,r1,q1⟩=>⟨σ,H1,I1,q1⟩) I.quiet hs
def u9 (te:TE):TS:=λD σ H=>te σ H D.rt
theorem l7 (he:PE X e te):PS X (.Return (some e) pos) (u9 te):=by
 intro pins s σ H D I h
 exact wpAny_Return_some (aK (he pins s σ H _ I h) λv s1 ⟨x,H1,I1,r1,q1⟩=>⟨x,σ,H1,I1,r1,q1⟩)
def uA (c:TT)(t u:TS):TS:=λD σ H=>c σ H λb H1=>if b=true then t D σ H1 else u D σ H1
theorem zL {c:Expr}{a b:List Stmt}{tc:TT}(hc:PT X c tc)(ha:dE X a t)(hb:dE X b u):PS X (.If c a b pos) (uA tc t u):=by
 intro pins s σ H D I h
 refine wpAny_If (aK (hc pins s σ H _ I h) λd s1 ⟨H1,I1,q1⟩=>?_)
 cases d with
 |true=>exact ha pins s1 σ H1 D I1 q1
 |false=>exact hb pins s1 σ H1 D I1 q1
end
abbrev TG:=V->St->Hp->(St->Hp->Prop)->Prop
abbrev jU:=List V->St->Hp->(St->Hp->Prop)->Prop
def PG (X:Cx)(target:Expr)(t:TG):Prop:=
 ∀(pins:List (Addr×Obj)) (s:Shared) (σ:St) (H:Hp) (v:V) (u:Value) (Q:St->Hp->Prop),a6 X pins σ H s->aM v u->t v σ H Q->
  wpAny (model X.prog X.w) X.A (assign target X.env u) (λ_ s'=>∃σ' H',a6 X pins σ' H' s'/\Q σ' H') X.xe s
def pB (X:Cx)(ts:List Expr)(t:jU):Prop:=
 ∀(pins:List (Addr×Obj)) (s:Shared) (σ:St) (H:Hp) (vs:List V) (us:List Value) (Q:St->Hp->Prop),a6 X pins σ H s->aF vs us->t vs σ H Q->
  wpAny (model X.prog X.w) X.A (assignInOrder ((assignEach ts X.env).map (·.2)) us) (λ_ s'=>∃σ' H',a6 X pins σ' H' s'/\Q σ' H') X.xe s
abbrev uB:=V->V->V->Hp->(Hp->Prop)->Prop
def zM (X:Cx)(t:uB):Prop:=
 ∀(pins:List (Addr×Obj)) (s:Shared) (σ:St) (H:Hp) (o i v:V) (ov iv u:Value) (Q:Hp->Prop),a6 X pins σ H s->aM o ov->aM i iv->aM v u->t o i v H Q->
  wpAny (model X.prog X.w) X.A (setItem ov iv u) (λ_ s'=>∃H',a6 X pins σ H' s'/\Q H') X.xe s
section
variable {X:Cx}{pos:Pos}
def cX (i:Nat):TG:=λv σ H Q=>Q (σ.set i (some v)) H
theorem eD {i:Nat}{x:Str}(hN:X.N.Nodup)(hi:X.N[i]? = some x)(hx:j4 X.env.scope x)(hf:X.fn x=true∨X.env.scope.names.lookup x=some .local:=by first|exact .inl rfl|exact .inr rfl|assumption):PG X (.Name x pos) (cX i):=by
 intro pins s σ H v u Q I r h
 exact wpAny_assign_Name (zB I hN hi hx r (λs' I'=>⟨_,H,I',h⟩) hf)
def l8:jU:=λvs σ H Q=>vs = []/\Q σ H
def gG (t:TG)(u:jU):jU:=λvs σ H Q=>∃v r,vs=v::r/\t v σ H λσ' H'=>u r σ' H' Q
theorem nE:pB X [] l8:=by
 intro pins s σ H vs us Q I r h
 obtain⟨e,h⟩:=h
 subst e
 cases r
 exact assignInOrder_nil ⟨σ,H,I,h⟩
theorem hG {e:Expr}{es:List Expr}{t:TG}{u:jU}(h1:PG X e t)(h2:pB X es u)(hs:(assignEach (e::es) X.env).map (·.2)=assign e X.env::(assignEach es X.env).map (·.2):=by rfl):pB X (e::es) (gG t u):=by
 intro pins s σ H vs us Q I r h
 obtain⟨v,vr,e1,h⟩:=h
 subst e1
 cases r with
 |cons r rr=>
  rw[hs]
  refine assignInOrder_cons (aK (h1 pins s σ H _ _ _ I r h) λ_ s1 ⟨σ1,H1,I1,q1⟩=>?_)
  exact h2 pins s1 σ1 H1 _ _ Q I1 rr q1
def l9 (K:ac)(n:Nat)(t:jU):TG:=λv σ H Q=>∃a xs,v = .ref a/\aG K H a xs/\xs.length=n/\t xs σ H Q
theorem nF {es:List Expr}{k:Nat}{t:jU}{n:Nat}(hc:X.calm=true)(h:pB X es t)(hn:(assignEach es X.env).length=n:=by rfl)(hst:(assignEach es X.env).findIdx? (·.1)=none:=by rfl):PG X (.Tuple es k pos) (l9 X.K n t):=by
 intro pins s σ H v u Q I r hw
 obtain⟨a,xs,e1,hq,hl,hw⟩:=hw
 subst e1
 cases r
 obtain⟨its,rv,ht,hz⟩:=I.tuple hq
 refine assign_Tuple_tuple (I.ok.hd hc) ht (by simp[hn,<- hl,rv.length]) hst λh' hx=>?_
 have I1:a6 X pins σ H { s with heap:=h' }:=I.kept (t':=s.toks) λb o e=>hx b o (bl3 (bj0 e)) e
 exact h pins _ σ H xs _ Q I1 (by simpa using rv) hw
def uC (to ti:TE)(t:uB):TG:=λv σ H Q=>to σ H λo H1=>ti σ H1 λi H2=>t o i v H2 λH3=>Q σ H3
theorem al5 {o i:Expr}{to ti:TE}{t:uB}(ho:PE X o to)(hi:PE X i ti)(hs:zM X t)(ha:∀v,assign (.Subscript o i pos) X.env v=(do
   let ov <- holding [v] (eval o X.env)
   let iv <- holding [v,ov] (eval i X.env)
   standAt pos
   holding [v,ov,iv] (setItem ov iv v)
   release [v,ov,iv] []):=by intro _;rfl):PG X (.Subscript o i pos) (uC to ti t):=by
 intro pins s σ H v u Q I r h
 rw[ha]
 refine bh3 (br3 (aK (ho pins s σ H _ I h) λov s1 ⟨x,H1,I1,r1,q1⟩=>?_))
 refine bh3 (br3 (aK (hi pins s1 σ H1 _ I1 q1) λiv s2 ⟨y,H2,I2,r2,q2⟩=>?_))
 refine bh3 (wpAny_standAt (bh3 (br3 (aK (hs pins s2 σ H2 x y v ov iv u _ I2 r1 r2 r q2) λ_ s3 ⟨H3,I3,q3⟩=>?_))))
 exact wpAny_release ⟨σ,H3,I3,q3⟩
def jV (te:TE)(g:TG):TS:=λD σ H=>te σ H λx H1=>g x σ H1 D.nx
theorem al6 {tg e:Expr}{te:TE}{g:TG}(he:PE X e te)(hg:PG X tg g)(hs:swapsWithSole [tg] e pos.line X.env=pure false:=by rfl)(hw:swappedStores [tg] e X.env=pure none:=by rfl)(h1:(assignEach [tg] X.env).map (·.2) = [assign tg X.env]:=by rfl):PS X (.Assign [tg] e pos) (jV te g):=by
 intro pins s σ H D I h
 refine wpAny_Assign_stores (aK (he pins s σ H _ I h) λv s1 ⟨x,H1,I1,r1,q1⟩=>?_) hs hw
 rw[h1]
 exact aK (hg pins s1 σ H1 x v _ I1 r1 q1) λ_ s2 q=>q
theorem zN {i:Nat}{x:Str}{e:Expr}{te:TE}{pos':Pos}(hN:X.N.Nodup)(hi:X.N[i]? = some x)(hx:j4 X.env.scope x)(he:PE X e te)(hs:swapsWith e (some (.Name x pos')) pos.line X.env=pure false:=by rfl)(hf:X.fn x=true∨X.env.scope.names.lookup x=some .local:=by first|exact .inl rfl|exact .inr rfl|assumption) :
  PS X (.Assign [.Name x pos'] e pos) (jV te (cX i)):=by
 intro pins s σ H D I h
 refine wpAny_Assign_Name (aK (he pins s σ H _ I h) λv s1 ⟨y,H1,I1,r1,q1⟩=>?_) hs
 exact zB I1 hN hi hx r1 (λs2 I2=>⟨_,H1,I2,q1⟩) hf
end
structure It where
 go:Nat->Hp->Prop
 yld:Nat->Hp->V->Hp->Prop
 stop:Nat->Hp->Prop
def fR (X:Cx)(pins:List (Addr×Obj))(H:Hp)(b:Addr):Prop:=
 H b=none/\b≠X.env.locals/\b∉X.fs/\(b∈X.ex∨X.s₀.heap.objs.size<=b)/\(∀x c,X.env.cells.lookup x=some c->c≠b)/\∀p∈X.pn++pins,p.1≠b
theorem a6.fpOk {X:Cx}{pins:List (Addr×Obj)}{σ:St}{H H':Hp}{s:Shared}{b:Addr}(I:a6 X pins σ H s)(hb:s.heap.objs.size<=b)(hn:H' b=none):fR X pins H' b:=by
 refine⟨hn,bs4 (bj1 I.lt hb),I.nofs hb,.inr (bm0 I.sz hb),λx c e z=>?_,λp hp z=>?_⟩
 ·obtain⟨v,q⟩:=I.cell x c e
  exact absurd (bj1 q.lt (by rw[z];exact hb)) (bn8 _)
 ·exact absurd (bj1 (bj0 (I.pin p hp).1) (by rw[z];exact hb)) (bn8 _)
structure gH (P:Program)(w:World)(K:ac)(tg:Expr)(J:It)(fp:List Addr)(it:Addr)(tn:Nat->Heap->Prop):Prop where
 mem:it∈fp
 obj:∀i h,tn i h->∀b∈fp,∃o,h.get? b=some o/\∀v,o.data≠.cell v
 keep:∀i h h',tn i h->(∀b∈fp,∀o,h.get? b=some o->h'.get? b=some o)->tn i h'
 item:∀(X:Cx),X.prog=P->X.w=w->X.K=K->X.calm=true->∀(i:Nat) (pins:List (Addr×Obj)) (s:Shared) (σ:St) (H:Hp) (E:Value->Shared->Prop),a6 X pins σ H s->(∀b∈fp,fR X pins H b)->tn i s.heap->J.go i H->
  wpAny (model P w) X.A (pyNext (.ref it)) (λr s1=>∃u,r=some u/\
   wpAny (model P w) X.A (letOwnedTupleGo tg (.ref it) u) (λ_ s2=>∃x H',a6 X pins σ H' s2/\aM x u/\J.yld i H x H'/\tn (i+1) s2.heap/\∀b∈fp,H' b=none) E s1) E s
 done:∀(X:Cx),X.prog=P->X.w=w->X.K=K->X.calm=true->∀(i:Nat) (pins:List (Addr×Obj)) (s:Shared) (σ:St) (H:Hp) (E:Value->Shared->Prop),a6 X pins σ H s->(∀b∈fp,fR X pins H b)->tn i s.heap->J.stop i H->
  wpAny (model P w) X.A (pyNext (.ref it)) (λr s1=>r=none/\a6 X pins σ H s1) E s
 self:∀(A:Around) (i:Nat) (s:Shared) (Q:Value->Shared->Prop) (E:Value->Shared->Prop),tn i s.heap->Q (.ref it) s->wpAny (model P w) A (pyIter (.ref it)) Q E s
abbrev TI:=St->Hp->(It->Hp->Prop)->Prop
def zO (X:Cx)(pins:List (Addr×Obj))(σ:St)(tg:Expr)(R:It->Hp->Prop)(itv:Value)(s2:Shared):Prop:=
 ∃(it:Addr) (fp:List Addr) (tn:Nat->Heap->Prop) (J:It) (H':Hp),itv = .ref it/\a6 X pins σ H' s2/\gH X.prog X.w X.K tg J fp it tn/\tn 0 s2.heap/\(∀b∈fp,fR X pins H' b)/\R J H'
def PI (X:Cx)(tg iter:Expr)(wi:TI):Prop:=
 ∀(pins:List (Addr×Obj)) (s:Shared) (σ:St) (H:Hp) (R:It->Hp->Prop),a6 X pins σ H s->wi σ H R->
  wpAny (model X.prog X.w) X.A (eval iter X.env) (λv s1=>wpAny (model X.prog X.w) X.A (pyIter v) (zO X pins σ tg R) X.xe s1) X.xe s
theorem pC {M:Model}{A:Around}{E:Value->Shared->Prop}{s:Shared}{tg:Expr}{it:Addr}{u:Value}{o:Obj}{n:String}{vs:Array Value}{Q:Unit->Shared->Prop}(ho:s.heap.get? it=some o)(hc:o.cls = .type n)(hd:o.data = .fields vs)(hn:["enumerate","zip","dict_itemiterator","dict_reverseitemiterator","odict_iterator","itertools.zip_longest","itertools.pairwise"].contains n=false)(hQ:Q () s):wpAny M A (letOwnedTupleGo tg (.ref it) u) Q E s:=by
  unfold letOwnedTupleGo
  cases tg<;>first
    |exact bi0 hQ
    |(cases u<;>first
        |exact bi0 hQ
        | (refine bh3 (wpAny_load ho ?_)
           rw[hc,hd]
           show wpAny M A (if (["enumerate","zip","dict_itemiterator","dict_reverseitemiterator","odict_iterator","itertools.zip_longest","itertools.pairwise"].contains n&&vs[0]?==some (rawInt _))=true then _ else _) Q E s
           rw[if_neg (by intro h;rw[hn,Bool.false_and]at h;cases h)]
           exact bi0 hQ))
def lC (K:ac)(a:Addr):It:=
 ⟨λi H=>∃xs x,aJ K H a xs/\xs[i]? = some x,λi H x H'=>H'=H/\∀xs,aJ K H a xs->xs[i]? = some x,λi H=>∃xs,aJ K H a xs/\xs.length<=i⟩
def j7 (K:ac)(a:Addr):It:=
 ⟨λi H=>∃xs x,aG K H a xs/\xs[i]? = some x,λi H x H'=>H'=H/\∀xs,aG K H a xs->xs[i]? = some x,λi H=>∃xs,aG K H a xs/\xs.length<=i⟩
def nG (lo:Int)(n:Nat):It:=⟨λi _=>i<n,λi H x H'=>H'=H/\x = .int (lo+i),λi _=>n<=i⟩
theorem al7 {P:Program}{w:World}{K:ac}{tg:Expr}(a it:Addr):gH P w K tg (lC K a) [it] it (λi h=>h.IsListIter it a i) where
 mem:=by simp
 obj:=λi h st b hb=>by
  have e:b=it:=by simpa using hb
  subst e
  obtain⟨o,e,c,d⟩:=st
  exact⟨o,e,λv z=>by rw[d]at z;cases z⟩
 keep:=λi h h' st k=>st.at λo e=>k it (by simp) o e
 item:=by
  intro X hP hw hK hc i pins s σ H E I hf st hg
  subst hP hw hK
  obtain⟨xs,x,hq,hx⟩:=hg
  obtain⟨its,rv,p,hz⟩:=I.list hq
  obtain⟨u,hu,ru⟩:=rv.get hx
  obtain⟨f0,f1,f2,f3,f4,f5⟩:=hf it (by simp)
  refine wpAny_pyNext_list_item st p.isList (x:=u) (by simpa using hu) λh' st' sb=>?_
  have I1:a6 X pins σ H { s with heap:=h' }:=I.turned (t':=s.toks) (λb o hb e=>(sb.2 b hb).trans e) f0 f1 f3 f4 f5
  obtain⟨o,e,c,d⟩:=id st'
  exact⟨u,rfl,pC (s:={ s with heap:=h' }) e c d (by decide) ⟨x,H,I1,ru,⟨rfl,λys hy=>by rw[I.list_inj hy hq];exact hx⟩,st',λb hb=>(hf b hb).1⟩⟩
 done:=by
  intro X hP hw hK hc i pins s σ H E I hf st hg
  subst hP hw hK
  obtain⟨xs,hq,hx⟩:=hg
  obtain⟨its,rv,p,hz⟩:=I.list hq
  obtain⟨f0,f1,f2,f3,f4,f5⟩:=hf it (by simp)
  have hl:=rv.length
  exact wpAny_pyNext_list_end (I.ok.hd hc) st p.isList (by simp;omega) λh' eb=>⟨rfl,I.turned (t':=s.toks) (λb o hb e=>eb b o hb e) f0 f1 f3 f4 f5⟩
 self:=λ_ _ _ _ _ st h=>wpAny_pyIter_listiter st h
theorem zP {P:Program}{w:World}{K:ac}{tg:Expr}(a it:Addr):gH P w K tg (j7 K a) [it] it (λi h=>h.IsTupleIter it a i) where
 mem:=by simp
 obj:=λi h st b hb=>by
  have e:b=it:=by simpa using hb
  subst e
  obtain⟨o,e,c,d⟩:=st
  exact⟨o,e,λv z=>by rw[d]at z;cases z⟩
 keep:=λi h h' st k=>st.at λo e=>k it (by simp) o e
 item:=by
  intro X hP hw hK hc i pins s σ H E I hf st hg
  subst hP hw hK
  obtain⟨xs,x,hq,hx⟩:=hg
  obtain⟨its,rv,p,hz⟩:=I.tuple hq
  obtain⟨u,hu,ru⟩:=rv.get hx
  obtain⟨f0,f1,f2,f3,f4,f5⟩:=hf it (by simp)
  refine wpAny_pyNext_tuple_item st (show s.heap.IsTuple a its.toArray from p) (x:=u) (by simpa using hu) λh' st' sb=>?_
  have I1:a6 X pins σ H { s with heap:=h' }:=I.turned (t':=s.toks) (λb o hb e=>(sb.2 b hb).trans e) f0 f1 f3 f4 f5
  obtain⟨o,e,c,d⟩:=id st'
  exact⟨u,rfl,pC (s:={ s with heap:=h' }) e c d (by decide) ⟨x,H,I1,ru,⟨rfl,λys hy=>by rw[I.tuple_inj hy hq];exact hx⟩,st',λb hb=>(hf b hb).1⟩⟩
 done:=by
  intro X hP hw hK hc i pins s σ H E I hf st hg
  subst hP hw hK
  obtain⟨xs,hq,hx⟩:=hg
  obtain⟨its,rv,p,hz⟩:=I.tuple hq
  obtain⟨f0,f1,f2,f3,f4,f5⟩:=hf it (by simp)
  have hl:=rv.length
  exact wpAny_pyNext_tuple_end (I.ok.hd hc) st (show s.heap.IsTuple a its.toArray from p) (by simp;omega) λh' eb=>⟨rfl,I.turned (t':=s.toks) (λb o hb e=>eb b o hb e) f0 f1 f3 f4 f5⟩
 self:=λ_ _ _ _ _ st h=>wpAny_pyIter_tupleiter st h
theorem al8 {P:Program}{w:World}{K:ac}{tg:Expr}(it:Addr)(lo:Int)(n:Nat):gH P w K tg (nG lo n) [it] it (λi h=>IsRangeIter h it (lo+(i:Nat)*1) ((n:Int)-(i:Nat)) 1) where
 mem:=by simp
 obj:=λi h st b hb=>by
  have e:b=it:=by simpa using hb
  subst e
  exact⟨_,st,λv z=>by
   have z':Data.fields _=Data.cell v:=z
   cases z'⟩
 keep:=λi h h' st k=>k it (by simp) _ st
 item:=by
  intro X hP hw hK hc i pins s σ H E I hf st hg
  subst hP hw hK
  obtain⟨f0,f1,f2,f3,f4,f5⟩:=hf it (by simp)
  have W:=Walks.range (prog:=X.prog) (w:=X.w) (I.ok.hd hc) it lo 1 n
  refine W.item i s _ _ hg st λv h' tk hv st' kk=>?_
  obtain⟨t,rfl⟩:=hv
  have I1:a6 X pins σ H { s with heap:=h',toks:=tk }:=I.turned (λb o hb e=>kk b o (by simpa using hb) e) f0 f1 f3 f4 f5
  refine⟨_,rfl,pC (s:={ s with heap:=h',toks:=tk }) (n:="range_iterator") st' rfl rfl (by decide) ⟨.int (lo+i),H,I1,⟨t,?_⟩,⟨rfl,rfl⟩,st',λb hb=>(hf b hb).1⟩⟩
  rw[Int.mul_one]
 done:=by
  intro X hP hw hK hc i pins s σ H E I hf st hg
  subst hP hw hK
  obtain⟨f0,f1,f2,f3,f4,f5⟩:=hf it (by simp)
  exact wpAny_pyNext_range_end (I.ok.hd hc) st (by have:n<=i:=hg;omega) λh' eb=>⟨rfl,I.turned (t':=s.toks) (λb o hb e=>eb b o hb e) f0 f1 f3 f4 f5⟩
 self:=λ_ _ _ _ _ st h=>wpAny_pyIter_rangeiter st h
section
variable {X:Cx}{tg:Expr}
def al9 (K:ac)(tl:TE):TI:=λσ H R=>tl σ H λx H1=>∃a,x = .ref a/\(∃xs,aG K H1 a xs)/\R (j7 K a) H1
theorem pD {l:Expr}{tl:TE}(hl:PE X l tl):PI X tg l (al9 X.K tl):=by
 intro pins s σ H R I h
 refine aK (hl pins s σ H _ I h) λv s1 ⟨x,H1,I1,r1,q1⟩=>?_
 obtain⟨a,e,⟨xs,hq⟩,q⟩:=q1
 subst e
 cases r1
 obtain⟨its,rv,p,hz⟩:=I1.tuple hq
 refine bu3 (show s1.heap.IsTuple a its.toArray from p) ?_
 refine⟨s1.heap.objs.size,[s1.heap.objs.size],_,_,H1,rfl,I1.kept (t':=s1.toks) λb o e=>bh4 _ e,zP a _,⟨_,bj2 _ rfl,rfl,rfl⟩,λb hb=>?_,q⟩
 have e:b=s1.heap.objs.size:=by simpa using hb
 subst e
 exact I1.fpOk (bh8 _) (I1.hok.fresh (bh8 _))
theorem zQ {pins:List (Addr×Obj)}{σ:St}{H:Hp}{s:Shared}{R:It->Hp->Prop}{E:Value->Shared->Prop}{lo hi:Int}{t u v:Tok}{tk:Nat}(I:a6 X pins σ H s)(h1:-(2^62)<=lo)(h2:lo<2^62)(h3:-(2^62)<=hi)(h4:hi<2^62)(q:R (nG lo (hi-lo).toNat) H):wpAny (model X.prog X.w) X.A (pyIter (.ref s.heap.objs.size)) (zO X pins σ tg R) E { s with heap:=s.heap.push { cls:=.type "range",data:=.fields #[.int lo t,.int hi u,.int 1 v] },toks:=tk }:=by
 refine wpAny_pyIter_range (IsRange.new ..) (small_one h1 h2 h3 h4) ?_
 have I1:a6 X pins σ H { s with heap:=s.heap.push { cls:=.type "range",data:=.fields #[.int lo t,.int hi u,.int 1 v] },toks:=tk }:=I.kept λb o e=>bh4 _ e
 refine⟨(s.heap.push { cls:=.type "range",data:=.fields #[.int lo t,.int hi u,.int 1 v] }).objs.size,[(s.heap.push { cls:=.type "range",data:=.fields #[.int lo t,.int hi u,.int 1 v] }).objs.size],_,_,H,rfl,
  I1.kept (t':=tk) λb o e=>bh4 _ e,al8 _ lo (hi-lo).toNat,?_,λb hb=>?_,q⟩
 ·have e1:lo+((0:Nat):Int)*1=lo:=by simp
  have e2:(((hi-lo).toNat:Nat):Int)-((0:Nat):Int)=Builtin.Range.rangeSize lo hi 1:=by rw[rangeSize_one];split<;>omega
  show IsRangeIter _ _ (lo+((0:Nat):Int)*1) ((((hi-lo).toNat:Nat):Int)-((0:Nat):Int)) 1
  rw[e1,e2]
  exact bj2 _ rfl
 ·have e:b=(s.heap.push { cls:=.type "range",data:=.fields #[.int lo t,.int hi u,.int 1 v] }).objs.size:=by simpa using hb
  subst e
  exact I1.fpOk (bh8 _) (I1.hok.fresh (bh8 _))
def zR (ta:TA):TI:=λσ H R=>ta σ H λvs H1=>∃j:Int,vs = [.int j]/\-(2^62)<=j/\j<2^62/\R (nG 0 j.toNat) H1
def zS (ta:TA):TI:=λσ H R=>ta σ H λvs H1=>∃i j:Int,vs = [.int i,.int j]/\(-(2^62)<=i/\i<2^62/\-(2^62)<=j/\j<2^62)/\R (nG i (j-i).toNat) H1
theorem am0 {a:Expr}{ta:TA}{p pos:Pos}(hg:Gl X "range")(hm:X.mg "range" = none)(ha:PA X [a] ta)(hs:starEach [a] X.env = [(false,eval a X.env)]:=by rfl):PI X tg (.Call (.Name "range" p) [a] [] pos) (zR ta):=by
 intro pins s σ H R I h
 refine Call_ (iD I hg hm boot_range (bp6 (aK (ha pos pins s σ H _ I h) λus s1 ⟨vs,H1,I1,r1,q1⟩=>?_) hs rfl))
 obtain⟨j,e,q1,q2,q⟩:=q1
 subst e
 cases r1 with
 |cons r rr=>
  cases rr
  obtain⟨t,rfl⟩:=r
  exact call_range_1 (zQ I1 (by omega) (by omega) q1 q2 (by simpa using q))
theorem am1 {a b:Expr}{ta:TA}{p pos:Pos}(hg:Gl X "range")(hm:X.mg "range" = none)(ha:PA X [a,b] ta)(hs:starEach [a,b] X.env = [(false,eval a X.env),(false,eval b X.env)]:=by rfl)(hs2:starEach [b] X.env = [(false,eval b X.env)]:=by rfl) :
  PI X tg (.Call (.Name "range" p) [a,b] [] pos) (zS ta):=by
 intro pins s σ H R I h
 refine Call_ (iD I hg hm boot_range (bp6 (aK (ha pos pins s σ H _ I h) λus s1 ⟨vs,H1,I1,r1,q1⟩=>?_) (by rw[hs,hs2]) (by rw[hs2];rfl)))
 obtain⟨i,j,e,⟨q1,q2,q3,q4⟩,q⟩:=q1
 subst e
 cases r1 with
 |cons r rr=>
  cases rr with
  |cons r' rr=>
   cases rr
   obtain⟨t,rfl⟩:=r
   obtain⟨t',rfl⟩:=r'
   exact call_range_2 (zQ I1 q1 q2 q3 q4 q)
def pE (wi:TI)(g:TG)(tb:TS):TS:=λD σ H=>wi σ H λJ H1=>∃W:Nat->Nat->St->Hp->Prop,(∃m,W 0 m σ H1)/\∀i m σ H,W i m σ H->
 (J.stop i H/\D.nx σ H)∨(J.go i H/\∃N:St->Hp->Prop,(∀σ' H',N σ' H'->∃m',m'<m/\W (i+1) m' σ' H')/\∀x H',J.yld i H x H'->g x σ H' λσ2 H2=>tb { D with nx:=N,ct:=N,bk:=D.nx } σ2 H2)
def nH (fp:List Addr)(h:Heap):List (Addr×Obj):=fp.filterMap λb=>(h.get? b).map λo=>(b,o)
theorem pF {fp:List Addr}{h:Heap}{b:Addr}{o:Obj}(hb:b∈fp)(e:h.get? b=some o):(b,o)∈nH fp h:=List.mem_filterMap.mpr ⟨b,hb,by rw[e];rfl⟩
theorem am2 {fp:List Addr}{h:Heap}{p:Addr×Obj}(hp:p∈nH fp h):p.1∈fp/\h.get? p.1=some p.2:=by
 obtain⟨b,hb,e⟩:=List.mem_filterMap.mp hp
 cases q:h.get? b with
 |none=>rw[q]at e;cases e
 |some o=>
  rw[q]at e
  have e':(b,o)=p:=bk2 e
  subst e'
  exact⟨hb,q⟩
theorem a6.pinned {pins:List (Addr×Obj)}{σ:St}{H:Hp}{s:Shared}{fp:List Addr}(I:a6 X pins σ H s)(hf:∀b∈fp,fR X pins H b)(ho:∀b∈fp,∃o,s.heap.get? b=some o/\∀v,o.data≠.cell v):a6 X (pins++nH fp s.heap) σ H s:=
 I.pins_of λp hp=>(bl5.mp hp).elim (λz=>I.pin p (bl1 _ z)) λz=>by
  obtain⟨hb,e⟩:=am2 z
  obtain⟨f0,f1,f2,_⟩:=hf p.1 hb
  obtain⟨o,e',d⟩:=ho p.1 hb
  rw[e]at e';cases e'
  exact⟨e,f0,f1,f2,d⟩
theorem a6.unpinned {pins pl:List (Addr×Obj)}{σ:St}{H:Hp}{s:Shared}(I:a6 X (pins++pl) σ H s):a6 X pins σ H s:=I.pins_of λp hp=>I.pin p (bl1 _ (bs0 _ hp))
theorem pG {iter:Expr}{body:List Stmt}{wi:TI}{g:TG}{tb:TS}{pos:Pos}(hp:PassesOwn (model X.prog X.w) X.A X.env X.xe)(hc:X.calm=true)(hi:PI X tg iter wi)(hg:PG X tg g)(hb:dE X body tb)(hs:∀x,foldedSetIterable iter X.env x=pure x:=by intro _;rfl):PS X (.For tg iter body [] pos) (pE wi g tb):=by
 intro pins s σ H D I h
 refine wpAny_For (aK (hi pins s σ H _ I h) λv s1 h1=>aK h1 λitv s2 h2=>?_) hs
 obtain⟨it,fp,tn,J,H2,e,I2,T,st2,f2,W,⟨m0,w0⟩,turn⟩:=h2
 subst e
 have stat:∀{H':Hp},(∀b∈fp,H' b=none)->∀b∈fp,fR X pins H' b:=λhn b hb=>⟨hn b hb,(f2 b hb).2⟩
 refine codeAny_forLoop_any (λn s'=>∃i σ' H',a6 X pins σ' H' s'/\tn i s'.heap/\(∀b∈fp,H' b=none)/\W i n σ' H') ?_ m0 ⟨0,σ,H2,I2,st2,λb hb=>(f2 b hb).1,w0⟩
 rintro n s3 ⟨i,σ3,H3,I3,st3,fr3,w3⟩
 rcases turn i n σ3 H3 w3 with⟨stop,qn⟩|⟨go,N,hN,step⟩
 ·refine wpAny_passesOwn hp (aK (T.done X rfl rfl rfl hc i pins s3 σ3 H3 X.xe I3 (stat fr3) st3 stop) λr s4 ⟨hr,I4⟩=>?_)
  subst hr
  exact wpAny_execs_nil ⟨σ3,H3,I4,qn⟩
 ·refine wpAny_passesOwn hp (aK (T.item X rfl rfl rfl hc i pins s3 σ3 H3 X.xe I3 (stat fr3) st3 go) λr s4 ⟨u,hr,h4⟩=>?_)
  subst hr
  refine wpAny_passesOwn hp (aK h4 λ_ s5 ⟨x,H5,I5,r5,y5,st5,fr5⟩=>?_)
  have I5':=I5.pinned (stat fr5) (T.obj _ _ st5)
  refine wpAny_passesOwn hp (aK (hg _ s5 σ3 H5 x u _ I5' r5 (step x H5 y5)) λ_ s6 ⟨σ6,H6,I6,q6⟩=>?_)
  refine wpAny_passesOwn hp (aK (hb _ s6 σ6 H6 _ I6 q6) λf s7 q7=>?_)
  have again:∀{σ7:St}{H7:Hp},a6 X (pins++nH fp s5.heap) σ7 H7 s7->N σ7 H7->∃m,m<n/\∃i σ' H',a6 X pins σ' H' s7/\tn i s7.heap/\(∀b∈fp,H' b=none)/\W i m σ' H':=λ{σ7 H7} I7 n7=>by
   obtain⟨m',hm,w7⟩:=hN σ7 H7 n7
   refine⟨m',hm,i+1,σ7,H7,I7.unpinned,T.keep _ _ _ st5 λb hb o e=>(I7.pin (b,o) (bl1 _ (bl1 _ (pF hb e)))).1,λb hb=>?_,w7⟩
   obtain⟨o,e,d⟩:=T.obj _ _ st5 b hb
   exact (I7.pin (b,o) (bl1 _ (bl1 _ (pF hb e)))).2.1
  cases f with
  |next=>obtain⟨σ7,H7,I7,n7⟩:=q7;exact again I7 n7
  |cont=>obtain⟨σ7,H7,I7,n7⟩:=q7;exact again I7 n7
  |brk=>obtain⟨σ7,H7,I7,q7⟩:=q7;exact⟨σ7,H7,I7.unpinned,q7⟩
  |ret v=>obtain⟨x7,σ7,H7,I7,r7,q7⟩:=q7;exact⟨x7,σ7,H7,I7.unpinned,r7,q7⟩
end
theorem bg9 {K:ac}{a:Addr}{xs:List V}{g:TG}{tb:TS}{D:cW}{σ:St}{H:Hp}(Pv:Nat->St->Hp->Prop)(h0:Pv 0 σ H)(hl:∀i σ H,i<=xs.length->Pv i σ H->aJ K H a xs)(hs:∀i x σ H,xs[i]? = some x->Pv i σ H->g x σ H λσ2 H2=>tb { D with nx:=Pv (i+1),ct:=Pv (i+1),bk:=D.nx } σ2 H2)(hd:∀σ H,Pv xs.length σ H->D.nx σ H) :
  ∃W:Nat->Nat->St->Hp->Prop,(∃m,W 0 m σ H)/\∀i m σ H,W i m σ H->
   ((lC K a).stop i H/\D.nx σ H)∨((lC K a).go i H/\∃N:St->Hp->Prop,(∀σ' H',N σ' H'->∃m',m'<m/\W (i+1) m' σ' H')/\∀x H',(lC K a).yld i H x H'->g x σ H' λσ2 H2=>tb { D with nx:=N,ct:=N,bk:=D.nx } σ2 H2):=by
 refine⟨λi m σ H=>m=xs.length-i/\i<=xs.length/\Pv i σ H,⟨xs.length,by simp,bl4 _,h0⟩,?_⟩
 rintro i m σ H ⟨rfl,hi,p⟩
 have q:=hl i σ H hi p
 by_cases hlt:i<xs.length
 ·refine .inr ⟨⟨xs,xs[i],q,by simp[hlt]⟩,Pv (i+1),λσ' H' p'=>⟨xs.length-(i+1),by omega,rfl,hlt,p'⟩,λx H' y=>?_⟩
  obtain⟨e,y⟩:=y
  subst e
  exact hs i x σ _ (y xs q) p
 ·have e:i=xs.length:=by omega
  subst e
  exact .inl ⟨⟨xs,q,bh8 _⟩,hd σ H p⟩
theorem zT {K:ac}{a:Addr}{xs:List V}{g:TG}{tb:TS}{D:cW}{σ:St}{H:Hp}(Pv:Nat->St->Hp->Prop)(h0:Pv 0 σ H)(hl:∀i σ H,i<=xs.length->Pv i σ H->aG K H a xs)(hs:∀i x σ H,xs[i]? = some x->Pv i σ H->g x σ H λσ2 H2=>tb { D with nx:=Pv (i+1),ct:=Pv (i+1),bk:=D.nx } σ2 H2)(hd:∀σ H,Pv xs.length σ H->D.nx σ H) :
  ∃W:Nat->Nat->St->Hp->Prop,(∃m,W 0 m σ H)/\∀i m σ H,W i m σ H->
   ((j7 K a).stop i H/\D.nx σ H)∨((j7 K a).go i H/\∃N:St->Hp->Prop,(∀σ' H',N σ' H'->∃m',m'<m/\W (i+1) m' σ' H')/\∀x H',(j7 K a).yld i H x H'->g x σ H' λσ2 H2=>tb { D with nx:=N,ct:=N,bk:=D.nx } σ2 H2):=by
 refine⟨λi m σ H=>m=xs.length-i/\i<=xs.length/\Pv i σ H,⟨xs.length,by simp,bl4 _,h0⟩,?_⟩
 rintro i m σ H ⟨rfl,hi,p⟩
 have q:=hl i σ H hi p
 by_cases hlt:i<xs.length
 ·refine .inr ⟨⟨xs,xs[i],q,by simp[hlt]⟩,Pv (i+1),λσ' H' p'=>⟨xs.length-(i+1),by omega,rfl,hlt,p'⟩,λx H' y=>?_⟩
  obtain⟨e,y⟩:=y
  subst e
  exact hs i x σ _ (y xs q) p
 ·have e:i=xs.length:=by omega
  subst e
  exact .inl ⟨⟨xs,q,bh8 _⟩,hd σ H p⟩
abbrev R2:=V->V->Hp->VK->Prop
def bK (X:Cx)(f:Value->Value->Sem Value)(r:R2):Prop:=
 ∀(pins:List (Addr×Obj)) (s:Shared) (σ:St) (H:Hp) (x y:V) (v u:Value) (Q:VK),a6 X pins σ H s->aM x v->aM y u->r x y H Q->
  wpAny (model X.prog X.w) X.A (f v u) (EP X pins σ Q) X.xe s
def uD (X:Cx)(f:Value->Sem Value)(r:V->Hp->VK->Prop):Prop:=
 ∀(pins:List (Addr×Obj)) (s:Shared) (σ:St) (H:Hp) (x:V) (v:Value) (Q:VK),a6 X pins σ H s->aM x v->r x H Q->
  wpAny (model X.prog X.w) X.A (f v) (EP X pins σ Q) X.xe s
def cH (X:Cx)(f:Value)(r:List V->Hp->VK->Prop):Prop:=
 ∀(pins:List (Addr×Obj)) (s:Shared) (σ:St) (H:Hp) (xs:List V) (us:List Value) (Q:VK),a6 X pins σ H s->aF xs us->r xs H Q->
  wpAny (model X.prog X.w) X.A (call f us) (EP X pins σ Q) X.xe s
def am3 (X:Cx)(r:V->Hp->(Bool->Hp->Prop)->Prop):Prop:=
 ∀(pins:List (Addr×Obj)) (s:Shared) (σ:St) (H:Hp) (x:V) (v:Value) (Q:Bool->Hp->Prop),a6 X pins σ H s->aM x v->r x H Q->
  wpAny (model X.prog X.w) X.A (truthy v) (TP X pins σ Q) X.xe s
def nI (r:R2)(ta tb:TE):TE:=λσ H Q=>ta σ H λx H1=>tb σ H1 λy H2=>r x y H2 Q
def tUn (r:V->Hp->VK->Prop)(ta:TE):TE:=λσ H Q=>ta σ H λx H1=>r x H1 Q
def rI (C:Int->Int->Prop)(g:Int->Int->V):R2:=λx y H Q=>∃i j,x = .int i/\y = .int j/\C i j/\Q (g i j) H
def fS (g:Int->Int->V):R2:=λx y H Q=>∃i j,x = .int i/\y = .int j/\Q (g i j) H
def rU (g:Int->V):V->Hp->VK->Prop:=λx H Q=>∃i,x = .int i/\Q (g i) H
section
variable {X:Cx}{a b c:Expr}{ta tb tc:TE}{pos:Pos}
theorem uE (ha:PE X a ta)(hb:PE X b tb){pins:List (Addr×Obj)}{s:Shared}{σ:St}{H:Hp}{R:V->V->Hp->Prop}(I:a6 X pins σ H s)(h:ta σ H λx H1=>tb σ H1 λy H2=>R x y H2){Q:Value->Shared->Prop}{f:Value->Value->Sem Value}(hf:∀v u s2 x y H2,a6 X pins σ H2 s2->aM x v->aM y u->R x y H2->wpAny (model X.prog X.w) X.A (f v u) Q X.xe s2) :
  wpAny (model X.prog X.w) X.A (eval a X.env) (λv s₁=>wpAny (model X.prog X.w) X.A (eval b X.env) (λu s₂=>wpAny (model X.prog X.w) X.A (f v u) Q X.xe s₂) X.xe s₁) X.xe s:=by
 refine aK (ha pins s σ H _ I h) λv s1 ⟨x,H1,I1,r1,q1⟩=>?_
 refine aK (hb pins s1 σ H1 _ I1 q1) λu s2 ⟨y,H2,I2,r2,q2⟩=>?_
 exact hf v u s2 x y H2 I2 r1 r2 q2
theorem am4 {op:Operator}{r:R2}(ho:bK X (binaryOp op) r)(ha:PE X a ta)(hb:PE X b tb):PE X (.BinOp a op b pos) (nI r ta tb):=by
 intro pins s σ H Q I h
 exact wpAny_BinOp (uE ha hb I h λv u s2 x y H2 I2 rx ry q=>ho pins s2 σ H2 x y v u Q I2 rx ry q)
theorem am5 {op:UnaryOp}{r:V->Hp->VK->Prop}(ho:uD X (unaryOp op) r)(ha:PE X a ta):PE X (.UnaryOp op a pos) (tUn r ta):=by
 intro pins s σ H Q I h
 exact UnaryOp_ (aK (ha pins s σ H _ I h) λv s1 ⟨x,H1,I1,r1,q1⟩=>ho pins s1 σ H1 x v Q I1 r1 q1)
theorem pH {f:Value->Value->Sem Value}{C:Int->Int->Prop}{g:Int->Int->Int}(rule:∀(i j:Int) (t u:Tok) (s:Shared) (Q:Value->Shared->Prop) (E:Value->Shared->Prop),C i j->Q (.int (g i j) s.toks) { s with toks:=s.toks+1 }->wpAny (model X.prog X.w) X.A (f (.int i t) (.int j u)) Q E s) :
  bK X f (rI C λi j=>.int (g i j)):=by
 intro pins s σ H x y v u Q I rx ry h
 obtain⟨i,j,rfl,rfl,hc,q⟩:=h
 obtain⟨t,rfl⟩:=rx
 obtain⟨t',rfl⟩:=ry
 exact rule i j t t' s _ _ hc ⟨.int (g i j),H,I.tok _,⟨_,rfl⟩,q⟩
theorem pI {f:Value->Value->Sem Value}{g:Int->Int->Int}(rule:∀(i j:Int) (t u:Tok) (s:Shared) (Q:Value->Shared->Prop) (E:Value->Shared->Prop),Q (.int (g i j) s.toks) { s with toks:=s.toks+1 }->wpAny (model X.prog X.w) X.A (f (.int i t) (.int j u)) Q E s) :
  bK X f (fS λi j=>.int (g i j)):=by
 intro pins s σ H x y v u Q I rx ry h
 obtain⟨i,j,rfl,rfl,q⟩:=h
 obtain⟨t,rfl⟩:=rx
 obtain⟨t',rfl⟩:=ry
 exact rule i j t t' s _ _ ⟨.int (g i j),H,I.tok _,⟨_,rfl⟩,q⟩
theorem pJ {f:Value->Value->Sem Value}{g:Int->Int->Bool}(rule:∀(i j:Int) (t u:Tok) (s:Shared) (Q:Value->Shared->Prop) (E:Value->Shared->Prop),Q (.bool (g i j)) s->wpAny (model X.prog X.w) X.A (f (.int i t) (.int j u)) Q E s) :
  bK X f (fS λi j=>.bl (g i j)):=by
 intro pins s σ H x y v u Q I rx ry h
 obtain⟨i,j,rfl,rfl,q⟩:=h
 obtain⟨t,rfl⟩:=rx
 obtain⟨t',rfl⟩:=ry
 exact rule i j t t' s _ _ ⟨.bl (g i j),H,I,rfl,q⟩
def uF (i j:Int):Prop:=0<j/\j<1073741824
def uG (i j:Int):Prop:=0<=j/\j<=1000000/\i.natAbs<2^64
def nJ (i j:Int):Prop:=(-(2^64)<i/\i<2^64)∨(-(2^64)<j/\j<2^64)
theorem nJ.ok {i j:Int}(h:nJ i j):IntMulOk i j:=by
 rcases h with⟨h1,h2⟩|⟨h1,h2⟩
 ·exact .of_left (intBits_le_64 h1 h2)
 ·exact .of_right (intBits_le_64 h1 h2)
theorem am6:bK X (binaryOp .Add) (fS λi j=>.int (i+j)):=pI λ_ _ _ _ _ _ _ q=>add_int q
theorem am7:bK X (binaryOp .Sub) (fS λi j=>.int (i-j)):=pI λ_ _ _ _ _ _ _ q=>sub_int q
theorem am8:bK X (binaryOp .Mult) (rI nJ λi j=>.int (i*j)):=pH λ_ _ _ _ _ _ _ hc q=>mul_int q hc.ok
theorem am9:bK X (binaryOp .FloorDiv) (rI uF λi j=>.int (i/j)):=pH λi j _ _ _ _ _ hc q=>by
 have h1:(0:Int)<j:=hc.1
 have h2:j<1073741824:=hc.2
 exact floordiv_int (by omega) (by rw[Int.fdiv_eq_ediv_of_nonneg i (by omega)];exact q) (.inl (PyProof.noPylong_small (by omega)))
theorem an0:bK X (binaryOp .Mod) (rI (λ_ j=>0<j) λi j=>.int (i%j)):=pH λi j _ _ _ _ _ hc q=>by
 have h1:(0:Int)<j:=hc
 exact mod_int' (by omega) (by rw[Int.fmod_eq_emod_of_nonneg i (by omega)];exact q)
theorem an1:bK X (binaryOp .LShift) (rI uG λi j=>.int (i*2^j.toNat)):=pH λ_ _ _ _ _ _ _ hc q=>lshift_int_small hc.1 hc.2.1 hc.2.2 q
theorem an2:bK X (binaryOp .BitAnd) (fS λi j=>.int (Builtin.bitAnd i j)):=pI λ_ _ _ _ _ _ _ q=>and_int q
theorem an3:bK X (binaryOp .BitXor) (fS λi j=>.int (Builtin.bitXor i j)):=pI λ_ _ _ _ _ _ _ q=>xor_int q
theorem unI {f:Value->Sem Value}{g:Int->Int}(rule:∀(i:Int) (t:Tok) (s:Shared) (Q:Value->Shared->Prop) (E:Value->Shared->Prop),Q (.int (g i) s.toks) { s with toks:=s.toks+1 }->wpAny (model X.prog X.w) X.A (f (.int i t)) Q E s) :
  uD X f (rU λi=>.int (g i)):=by
 intro pins s σ H x v Q I rx h
 obtain⟨i,rfl,q⟩:=h
 obtain⟨t,rfl⟩:=rx
 exact rule i t s _ _ ⟨.int (g i),H,I.tok _,⟨_,rfl⟩,q⟩
theorem an4:uD X (unaryOp .USub) (rU λi=>.int (-i)):=unI λ_ _ _ _ _ q=>neg_int q
end
def zU:V->V->Bool
 |.non,.non=>true|.non,.int _=>true|.int _,.non=>true|.non,.bl _=>true|.bl _,.non=>true|.non,.str _=>true|.str _,.non=>true
 |.int _,.int _=>true|.bl _,.bl _=>true|.str _,.str _=>true|.byt _,.byt _=>true
 |.int _,.str _=>true|.str _,.int _=>true|.bl _,.str _=>true|.str _,.bl _=>true
 |_,_=>false
def zV:R2:=λx y H Q=>zU x y=true/\Q (.bl (decide (x=y))) H
def zW:R2:=λx y H Q=>zU x y=true/\Q (.bl (!decide (x=y))) H
theorem zX {i j:Int}:decide (V.int i=V.int j)=(i==j):=by
 rw[bu1]
 simp
theorem zY {i j:Bool}:decide (V.bl i=V.bl j)=(i==j):=by
 rw[bu1]
 simp
theorem zZ {i j:Str}:decide (V.str i=V.str j)=(i==j):=by
 rw[bu1]
 simp
theorem A0 {i j:Array UInt8}:decide (V.byt i=V.byt j)=(i.toList==j.toList):=by
 rw[bu1]
 cases i
 cases j
 simp
section
variable {X:Cx}{a b c:Expr}{ta tb tc:TE}{pos:Pos}
theorem bQ {pins:List (Addr×Obj)}{σ:St}{H:Hp}{s:Shared}{Q:VK}{k k':Bool}(I:a6 X pins σ H s)(q:Q (.bl k) H)(e:k=k'):EP X pins σ Q (.bool k') s:=by
 subst e
 exact⟨.bl k,H,I,rfl,q⟩
theorem A1:bK X (compareOp .Eq) zV:=by
 intro pins s σ H x y v u Q I rx ry h
 obtain⟨hs,q⟩:=h
 cases x with
 |non=>
  cases rx
  cases y with
  |non=>cases ry;exact PySem.EqNone.eq_none_none (bQ I q (by simp))
  |bl j=>cases ry;exact PySem.EqNone.eq_none_bool (bQ I q (by simp))
  |int j=>obtain⟨t',rfl⟩:=ry;exact PySem.EqNone.eq_none_int (bQ I q (by simp))
  |str j=>obtain⟨t',rfl⟩:=ry;exact PySem.EqNone.eq_none_str (bQ I q (by simp))
  |_=>exact absurd (show false=true from hs) bj3
 |bl i=>
  cases rx
  cases y with
  |non=>cases ry;exact PySem.EqNone.eq_bool_none (bQ I q (by simp))
  |bl j=>cases ry;exact eq_bool (bQ I q zY)
  |str j=>obtain⟨t',rfl⟩:=ry;exact PySem.EqMixed.eq_bool_str (bQ I q (by simp))
  |_=>exact absurd (show false=true from hs) bj3
 |int i=>
  obtain⟨t,rfl⟩:=rx
  cases y with
  |non=>cases ry;exact PySem.EqNone.eq_int_none (bQ I q (by simp))
  |int j=>obtain⟨t',rfl⟩:=ry;exact eq_int (bQ I q zX)
  |str j=>obtain⟨t',rfl⟩:=ry;exact PySem.EqMixed.eq_int_str (bQ I q (by simp))
  |_=>exact absurd (show false=true from hs) bj3
 |str i=>
  obtain⟨t,rfl⟩:=rx
  cases y with
  |non=>cases ry;exact PySem.EqNone.eq_str_none (bQ I q (by simp))
  |bl j=>cases ry;exact PySem.EqMixed.eq_str_bool (bQ I q (by simp))
  |int j=>obtain⟨t',rfl⟩:=ry;exact PySem.EqMixed.eq_str_int (bQ I q (by simp))
  |str j=>obtain⟨t',rfl⟩:=ry;exact eq_str (bQ I q zZ)
  |_=>exact absurd (show false=true from hs) bj3
 |byt i=>
  obtain⟨t,rfl⟩:=rx
  cases y with
  |byt j=>obtain⟨t',rfl⟩:=ry;exact PySem.W.eq_bytes (bQ I q A0)
  |_=>exact absurd (show false=true from hs) bj3
 |_=>cases y<;>exact absurd (show false=true from hs) bj3
theorem an5:bK X (compareOp .NotEq) zW:=by
 intro pins s σ H x y v u Q I rx ry h
 obtain⟨hs,q⟩:=h
 cases x with
 |non=>
  cases rx
  cases y with
  |non=>cases ry;exact PySem.EqNone.ne_none_none (bQ I q (by simp))
  |bl j=>cases ry;exact PySem.EqNone.ne_none_bool (bQ I q (by simp))
  |int j=>obtain⟨t',rfl⟩:=ry;exact PySem.EqNone.ne_none_int (bQ I q (by simp))
  |str j=>obtain⟨t',rfl⟩:=ry;exact PySem.EqNone.ne_none_str (bQ I q (by simp))
  |_=>exact absurd (show false=true from hs) bj3
 |bl i=>
  cases rx
  cases y with
  |non=>cases ry;exact PySem.EqNone.ne_bool_none (bQ I q (by simp))
  |bl j=>cases ry;exact ne_bool (bQ I q (congrArg not zY))
  |str j=>obtain⟨t',rfl⟩:=ry;exact PySem.EqMixed.ne_bool_str (bQ I q (by simp))
  |_=>exact absurd (show false=true from hs) bj3
 |int i=>
  obtain⟨t,rfl⟩:=rx
  cases y with
  |non=>cases ry;exact PySem.EqNone.ne_int_none (bQ I q (by simp))
  |int j=>obtain⟨t',rfl⟩:=ry;exact ne_int (bQ I q (congrArg not zX))
  |str j=>obtain⟨t',rfl⟩:=ry;exact PySem.EqMixed.ne_int_str (bQ I q (by simp))
  |_=>exact absurd (show false=true from hs) bj3
 |str i=>
  obtain⟨t,rfl⟩:=rx
  cases y with
  |non=>cases ry;exact PySem.EqNone.ne_str_none (bQ I q (by simp))
  |bl j=>cases ry;exact PySem.EqMixed.ne_str_bool (bQ I q (by simp))
  |int j=>obtain⟨t',rfl⟩:=ry;exact PySem.EqMixed.ne_str_int (bQ I q (by simp))
  |str j=>obtain⟨t',rfl⟩:=ry;exact ne_str (bQ I q (congrArg not zZ))
  |_=>exact absurd (show false=true from hs) bj3
 |byt i=>
  obtain⟨t,rfl⟩:=rx
  cases y with
  |byt j=>obtain⟨t',rfl⟩:=ry;exact PySem.W.ne_bytes (bQ I q (congrArg not A0))
  |_=>exact absurd (show false=true from hs) bj3
 |_=>cases y<;>exact absurd (show false=true from hs) bj3
theorem pK:bK X (compareOp .Lt) (fS λi j=>.bl (decide (i<j))):=pJ λ_ _ _ _ _ _ _ q=>lt_int q
theorem an6:bK X (compareOp .LtE) (fS λi j=>.bl (decide (i<=j))):=pJ λ_ _ _ _ _ _ _ q=>le_int q
theorem an7:bK X (compareOp .Gt) (fS λi j=>.bl (decide (j<i))):=pJ λ_ _ _ _ _ _ _ q=>gt_int q
theorem A2:bK X (compareOp .GtE) (fS λi j=>.bl (decide (j<=i))):=pJ λ_ _ _ _ _ _ _ q=>ge_int q
theorem fU (b:Expr){op:CmpOp}(h:op≠.In:=by decide)(h2:op≠.NotIn:=by decide):behindInMarks op b=false:=by
 have e1:(op==CmpOp.In)=false:=by cases op<;>first|rfl|exact absurd rfl h
 have e2:(op==CmpOp.NotIn)=false:=by cases op<;>first|rfl|exact absurd rfl h2
 cases b<;>simp[behindInMarks,e1,e2]
theorem uH {op:CmpOp}{r:R2}(ho:bK X (compareOp op) r)(ha:PE X a ta)(hb:PE X b tb)(hm:behindInMarks op b=false):PE X (.Compare a [op] [b] pos) (nI r ta tb):=by
 intro pins s σ H Q I h
 exact wpAny_Compare1 (uE ha hb I h λv u s2 x y H2 I2 rx ry q=>ho pins s2 σ H2 x y v u Q I2 rx ry q) hm
def an8 (t:TE):TT:=λσ H Q=>t σ H λx H'=>∃k,x = .bl k/\Q k H'
theorem an9 {op:CmpOp}{r:R2}(ho:bK X (compareOp op) r)(ha:PE X a ta)(hb:PE X b tb)(hm:behindInMarks op b=false):PT X (.Compare a [op] [b] pos) (an8 (nI r ta tb)):=by
 intro pins s σ H Q I h
 refine wpAny_isTrue_Compare1 (aK (ha pins s σ H _ I h) λv s1 ⟨x,H1,I1,r1,q1⟩=>aK (hb pins s1 σ H1 _ I1 q1) λu s2 ⟨y,H2,I2,r2,q2⟩=>
  aK (ho pins s2 σ H2 x y v u _ I2 r1 r2 q2) λc s3 ⟨z,H3,I3,r3,k,e,q3⟩=>?_) hm
 subst e
 cases r3
 exact br7 ⟨H3,I3,q3⟩
def uI (K:ac)(x:V)(H:Hp)(k:Bool):Prop:=
 match x with
 |.non=>k=false
 |.bl b=>k=b
 |.int i=>k=(i != 0)
 |.str y=>y.length<=sizeLine/\k=((y.length:Int) != 0)
 |.byt y=>y.size<=sizeLine/\k=((y.size:Int) != 0)
 |.ref p=>(∃xs,aJ K H p xs/\k = !xs.isEmpty)∨(∃xs,aG K H p xs/\k = !xs.isEmpty)∨∃kvs,H p=some (.dK kvs)/\k = !kvs.isEmpty
 |_=>False
theorem ao0 {κ:Type}{kvs:List (κ×V)}{vs:List (κ×Value)}(r:KV kvs vs):(!vs.isEmpty) = !kvs.isEmpty:=by
 cases r<;>rfl
theorem A3 {xs:List V}{its:List Value}(r:aF xs its):(!its.toArray.isEmpty) = !xs.isEmpty:=by
 cases r<;>simp
theorem lD:(sizeLine:Nat)<2^63:=by rw[sizeLine_eq];decide
theorem ao1:am3 X (λx H Q=>∃k,uI X.K x H k/\Q k H):=by
 intro pins s σ H x v Q I rx h
 obtain⟨k,e,q⟩:=h
 have hl:=lD
 have hs:sizeLine=16777216:=sizeLine_eq
 cases x with
 |non=>
  cases rx
  have e':k=false:=e
  subst e'
  exact truthy_none ⟨H,I,q⟩
 |bl b=>
  cases rx
  have e':k=b:=e
  subst e'
  exact br7 ⟨H,I,q⟩
 |int i=>
  obtain⟨t,rfl⟩:=rx
  have e':k=(i != 0):=e
  subst e'
  exact PySem.P.truthy_int ⟨H,I,q⟩
 |str y=>
  obtain⟨t,rfl⟩:=rx
  obtain⟨hy,e'⟩:y.length<=sizeLine/\k=((y.length:Int) != 0):=e
  subst e'
  exact PySem.P.truthy_str (by omega) ⟨H,I.tok _,q⟩
 |byt y=>
  obtain⟨t,rfl⟩:=rx
  obtain⟨hy,e'⟩:y.size<=sizeLine/\k=((y.size:Int) != 0):=e
  subst e'
  exact PySem.W.truthy_bytes (by omega) ⟨H,I.tok _,q⟩
 |ref p=>
  cases rx
  have e':(∃xs,aJ X.K H p xs/\k = !xs.isEmpty)∨(∃xs,aG X.K H p xs/\k = !xs.isEmpty)∨∃kvs,H p=some (.dK kvs)/\k = !kvs.isEmpty:=e
  rcases e' with⟨xs,hx,e'⟩|⟨xs,hx,e'⟩|⟨kvs,hx,e'⟩
  ·subst e'
   obtain⟨its,r,pl,hz⟩:=I.list hx
   have hlen:=r.length
   exact wpAny_truthy_list pl.isList (by simp only[bh6];omega) ⟨H,I.tok _,by rw[A3 r];exact q⟩
  ·subst e'
   obtain⟨its,r,pl,hz⟩:=I.tuple hx
   have hlen:=r.length
   exact truthy_tuple pl (by simp only[bh6];omega) ⟨H,I.tok _,by rw[A3 r];exact q⟩
  ·subst e'
   obtain⟨hz,hS,vs,r,m⟩:kvs.length<=sizeLine/\(p==sysModules)=false/\∃vs,KV kvs vs/\s.heap.DictOf (eU X.prog X.w) p vs:=I.hok p _ hx
   have hlen:kvs.length=vs.length:=Paired.length r
   exact wpAny_truthy_dict hS m (by omega) ⟨H,I.tok _,by rw[ao0 r];exact q⟩
 |_=>exact (show False from e).elim
theorem ao2 (ha:PE X a ta)(he:∀whole,isTrue a X.env whole=(do let v <- whole;standAt a.pos;holding [v] (truthy v))) :
  PT X a (λσ H Q=>ta σ H λx H'=>∃k,uI X.K x H' k/\Q k H'):=by
 intro pins s σ H Q I h
 exact isTrue_plain (aK (ha pins s σ H _ I h) λv s1 ⟨x,H1,I1,r1,q1⟩=>ao1 pins s1 σ H1 x v Q I1 r1 q1) (he _)
theorem fV {x:V}{us:List Value}(r:aF [x] us):∃u,us = [u]/\aM x u:=by
 cases r with
 |cons r1 r2=>cases r2;exact⟨_,rfl,r1⟩
theorem pL {x y:V}{us:List Value}(r:aF [x,y] us):∃u w',us = [u,w']/\aM x u/\aM y w':=by
 cases r with
 |cons r1 r2=>
  cases r2 with
  |cons r3 r4=>cases r4;exact⟨_,_,rfl,r1,r3⟩
theorem ao3 (hc:X.calm=true):cH X (.builtin "max") (λxs H Q=>∃i j,xs = [.int i,.int j]/\Q (.int (if j>i then j else i)) H):=by
 intro pins s σ H xs us Q I r h
 obtain⟨i,j,rfl,q⟩:=h
 obtain⟨u,w',rfl,⟨t,rfl⟩,⟨t',rfl⟩⟩:=pL r
 refine max_two_ints (I.ok.hd hc) λh' tk k=>⟨_,H,I.kept k,?_,q⟩
 by_cases hj:j>i
 ·rw[if_pos hj,if_pos hj];exact⟨_,rfl⟩
 ·rw[if_neg hj,if_neg hj];exact⟨_,rfl⟩
theorem ao4 (hc:X.calm=true):cH X (.builtin "min") (λxs H Q=>∃i j,xs = [.int i,.int j]/\Q (.int (if j<i then j else i)) H):=by
 intro pins s σ H xs us Q I r h
 obtain⟨i,j,rfl,q⟩:=h
 obtain⟨u,w',rfl,⟨t,rfl⟩,⟨t',rfl⟩⟩:=pL r
 refine min_two_ints (I.ok.hd hc) λh' tk k=>⟨_,H,I.kept k,?_,q⟩
 by_cases hj:j<i
 ·rw[if_pos hj,if_pos hj];exact⟨_,rfl⟩
 ·rw[if_neg hj,if_neg hj];exact⟨_,rfl⟩
end
structure uJ (h:Heap)(x dx C:Addr)(mA:Str->Option Value):Prop where
 obj:h.get? x=some (PySem.W.instObj C dx)
 ns:h.Ns1 dx mA
 ne:dx≠x
theorem ao5 {h:Heap}{dx:Addr}{mA:Str->Option Value}(n:h.Ns1 dx mA):∃od,h.get? dx=some od/\∀name,PySem.W.lookIn name od=some (mA name):=by
 obtain⟨o,es,ep,ho,hd,hk,_,hm⟩:=n
 refine⟨o,ho,λname=>?_⟩
 have e:=hm name
 unfold nsFind findBy at e
 rw[<- Array.find?_toList]at e
 unfold PySem.W.lookIn
 rw[hd]
 dsimp only
 split
 ·rename_i y q
  rw[q]at e
  exact congrArg some e
 ·rename_i q
  rw[q]at e
  have a:es.toList.any (·.refKey)=false:=by
   rw[List.any_eq_false]
   intro y hy
   obtain⟨z,t,hkey⟩:=hk y (Array.mem_toList_iff.mp hy)
   simp[DictEntry.refKey,hkey]
  have a':¬es.toList.any (·.refKey)=true:=by rw[a];exact bj3
  rw[if_neg a']
  exact congrArg some e
theorem uJ.look {h:Heap}{x dx C:Addr}{mA:Str->Option Value}(I:uJ h x dx C mA):∃od,PySem.W.InstAt h x (PySem.W.instObj C dx) C (some od)/\∀name,PySem.W.lookIn name od=some (mA name):=
 let ⟨od,ho,hl⟩:=ao5 I.ns
 ⟨od,⟨I.obj,rfl,rfl,ho⟩,hl⟩
theorem fG.some_of {v:V}{o:Option Value}(r:fG (some v) o):∃u,o=some u/\aM v u:=by
 cases o with
 |none=>exact (show False from r).elim
 |some u=>exact⟨u,rfl,r⟩
theorem fG.none_of {o:Option Value}(r:fG none o):o=none:=by
 cases o with
 |none=>rfl
 |some u=>exact (show False from r).elim
section
variable {P:Program}{w:World}{H H':Hp}{h h':Heap}{a C dx:Addr}{fs fs':List (Str×V)}
theorem ao6 (hok:bG P w H h)(e:H a=some (.ins C dx fs)):∃mA,uJ h a dx C mA/\(∀f,fG (fs.lookup f) (mA f))/\PySem.Within mA (fs.map (·.1))/\fs.length<=1000/\H dx=some (.own a):=by
 obtain⟨d,z,ne,ob,mA,n,r,q⟩:=(show b7 P w H h a (.ins C dx fs) from hok a _ e)
 exact⟨mA,⟨ob,n,ne⟩,r,q,z,d⟩
end
structure uK (K:ac)(C:Addr):Prop where
 pg:PySem.W.plainGet K C Str.empty=true
 hd:PySem.W.hasDictIn K C=true
 po:PySem.W.plainOver K C=true
 sa:PySem.W.findIn K (.ref C) "__setattr__" = some (some (.builtin "object.__setattr__"))
theorem uK.get {K:ac}{C:Addr}(c:uK K C)(f:Str):PySem.W.plainGet K C f=true:=c.pg
section
variable {X:Cx}{pins:List (Addr×Obj)}{σ:St}{H:Hp}{s:Shared}{A:Around}{E:Value→Shared→Prop}{Q:Value→Shared→Prop}{c:Value}{b:Bool}
inductive eV (K:ac)(H:Hp):V->Value->Prop where
 |non:eV K H .non (.type "NoneType")
 |bl (x:Bool):eV K H (.bl x) (.type "bool")
 |int (i:Int):eV K H (.int i) (.type "int")
 |str (x:Str):eV K H (.str x) (.type "str")
 |flt (x:UInt64):eV K H (.flt x) (.type "float")
 |lst {a:Addr}{xs:List V} (e:H a=some (.lst xs)):eV K H (.ref a) (.type "list")
 |frz {a:Addr}{o:Obj}{xs:List V} (e:H a=some (.frz o (.lst xs))):eV K H (.ref a) (.type "list")
 |tup {a:Addr}{xs:List V} (e:H a=some (.tup xs)):eV K H (.ref a) (.type "tuple")
 |dK {a:Addr}{kvs:List (aC×V)} (e:H a=some (.dK kvs)):eV K H (.ref a) (.type "dict")
 |dT {a:Addr}{kvs:List (List aC×V)} (e:H a=some (.dT kvs)):eV K H (.ref a) (.type "dict")
 |ins {a C dx:Addr}{fs:List (Str×V)} (e:H a=some (.ins C dx fs)) (cl:uK K C) (ha:PySem.W.findIn K (.ref C) "__class__" = some (some (.builtin "object.__class__")))
   (hn:PySem.W.specialIn K (.builtin "object.__class__") "__get__" = some (some (.builtin "getset_descriptor.__get__"))) (htk:PySem.W.takesIn K (.builtin "object.__class__")=some true)
   (hm:PySem.W.mroIn K C (.type "object")=some true):eV K H (.ref a) (.ref C)
theorem ao7 {x:V}{u t:Value}(I:a6 X pins σ H s)(rx:aM x u)(ty:eV X.K H x t)(e:PySem.W.kitOne X.K t c=some b)(h:∀tk,Q (.bool b) { s with toks:=tk }) :
  wpAny (model X.prog X.w) A (call (.builtin "isinstance") [u,c]) Q E s:=by
 cases ty with
 |non=>cases (show u=Value.none from rx);exact br2 PySem.W.kitx_none I.kIn by0 e (λz=>nomatch z) h
 |bl y=>cases (show u=Value.bool y from rx);exact br2 PySem.W.kitx_bool I.kIn by0 e (λz=>nomatch z) h
 |int i=>obtain⟨t,q⟩:=(show ∃t,u=Value.int i t from rx);cases q;exact br2 PySem.W.kitx_int I.kIn by0 e (λz=>nomatch z) h
 |str y=>obtain⟨t,q⟩:=(show ∃t,u=Value.str y t from rx);cases q;exact br2 PySem.W.kitx_str I.kIn by0 e (λz=>nomatch z) h
 |flt y=>obtain⟨t,q⟩:=(show ∃t,u=Value.float y t from rx);cases q;exact br2 PySem.W.kitx_float I.kIn by0 e (λz=>nomatch z) h
 |@lst a xs ea=>
  cases (show u=Value.ref a from rx)
  obtain⟨_,_,n,_,h1⟩:=(show b7 X.prog X.w H s.heap a (.lst xs) from I.hok a _ ea)
  exact br2 PySem.W.kitx_list I.kIn ⟨_,h1,rfl⟩ e (λz=>nomatch z) h
 |@frz a ob xs ea=>
  cases (show u=Value.ref a from rx)
  obtain⟨_,_,_,n,_,h1⟩:=(show b7 X.prog X.w H s.heap a (.frz ob (.lst xs)) from I.hok a _ ea)
  exact br2 PySem.W.kitx_list I.kIn ⟨_,h1,rfl⟩ e (λz=>nomatch z) h
 |@tup a xs ea=>
  cases (show u=Value.ref a from rx)
  obtain⟨_,_,_,p,_⟩:=(show b7 X.prog X.w H s.heap a (.tup xs) from I.hok a _ ea)
  obtain⟨o,h1,h2,_⟩:=p
  exact br2 PySem.W.kitx_tuple I.kIn ⟨o,h1,h2⟩ e (λz=>nomatch z) h
 |@dK a kvs ea=>
  cases (show u=Value.ref a from rx)
  obtain⟨_,_,vs,_,p⟩:=(show b7 X.prog X.w H s.heap a (.dK kvs) from I.hok a _ ea)
  obtain⟨o,es,ep,h1,h2,_⟩:=p
  exact br2 PySem.W.kitx_dict I.kIn ⟨o,h1,h2.1⟩ e (λz=>nomatch z) h
 |@dT a kvs ea=>
  cases (show u=Value.ref a from rx)
  obtain⟨_,_,xs,_,o,es,ep,h1,h2,_⟩:=(show b7 X.prog X.w H s.heap a (.dT kvs) from I.hok a _ ea)
  exact br2 PySem.W.kitx_dict I.kIn ⟨o,h1,h2.1⟩ e (λz=>nomatch z) h
 |@ins a C dx fs ea cl ha hn htk hm=>
  cases (show u=Value.ref a from rx)
  obtain⟨mA,O,_⟩:=ao6 I.hok ea
  obtain⟨od,J,_⟩:=O.look
  exact br2 (PySem.W.kitx_own (cl.get _) cl.hd ha hn htk hm) I.kIn J e (λz=>nomatch z) h
end
structure bR (k:Nat)(A:Around):Prop where
 hd:A.handled=none
 dp:A.depth+3*k+5<recursionLimit
 un:A.units+16*k+200<cLine
theorem bR.mono {j k:Nat}{A:Around}(r:bR k A)(h:j<=k):bR j A:=⟨r.hd,by have:=r.dp;omega,by have:=r.un;omega⟩
theorem bR.deeper {k:Nat}{A:Around}(r:bR (k+1) A)(env:Env):bR k (A.deeper env):=
 ⟨r.hd,by have:=r.dp;show A.depth+1+3*k+5<_;omega,by have:=r.un;show A.units+3+16*k+200<_;omega⟩
theorem bR.depth {k:Nat}{A:Around}(r:bR k A):A.depth<recursionLimit:=by have:=r.dp;omega
theorem bR.units {k:Nat}{A:Around}(r:bR k A):A.units+64<cLine:=by have:=r.un;omega
def j8:TA:=λ_ H Q=>Q [] H
def gI (ta:TE)(tr:TA):TA:=λσ H Q=>ta σ H λx H1=>tr σ H1 λxs H2=>Q (x::xs) H2
section
variable {X:Cx}{e:Expr}{es:List Expr}{te:TE}{t:TA}{pos:Pos}
theorem cS:PA X [] j8:=λ_ _ _ _ H Q I h=>Calls.spliced_nil ⟨[],H,I,.nil,h⟩
theorem c9 (ha:PE X e te)(hr:PA X es t)(hs:starEach (e::es) X.env=(false,eval e X.env)::starEach es X.env:=by rfl):PA X (e::es) (gI te t):=by
 intro pos pins s σ H Q I h
 rw[hs]
 show wpAny _ _ (spliced ((false,eval e X.env)::backTo pos (starEach es X.env))) _ _ s
 refine Calls.spliced_cons (aK (ha pins s σ H _ I h) λu s1 ⟨x,H1,I1,r1,q1⟩=>?_)
 exact aK (hr pos pins s1 σ H1 _ I1 q1) λus s2 ⟨xs,H2,I2,r2,q2⟩=>⟨x::xs,H2,I2,.cons r1 r2,q2⟩
def A4 (t:TA):TE:=λσ H Q=>t σ H λxs H1=>xs.length<=sizeLine/\∀p,H1 p=none->Q (.ref p) (upd H1 p (.tup xs))
def A5 (t:TA):TE:=λσ H Q=>t σ H λxs H1=>xs.length<=sizeLine/\∀p,H1 p=none->Q (.ref p) (upd H1 p (.lst xs))
theorem ao8 {x1}(h:PA X es t):PE X (.Tuple es x1 pos) (A4 t):=by
 intro pins s σ H Q I hq
 refine wpAny_Tuple_spliced (aK (h pos pins s σ H _ I hq) λus s1 ⟨xs,H1,I1,r,z,q⟩=>⟨by rw[<- r.length];exact z,?_⟩)
 have hf:H1 s1.heap.objs.size=none:=I1.hok.fresh (bh8 _)
 refine⟨.ref s1.heap.objs.size,upd H1 s1.heap.objs.size (.tup xs),I1.laid (t':=s1.toks) (λb u e=>bh4 _ e) (bh8 _) ?_,rfl,q _ hf⟩
 exact⟨z,us,r,⟨_,bj2 _ rfl,rfl,_,rfl⟩,gF.new _ _ rfl⟩
theorem uL (h:PA X es t):PE X (.List es pos) (A5 t):=by
 intro pins s σ H Q I hq
 refine wpAny_List_spliced (aK (h pos pins s σ H _ I hq) λus s1 ⟨xs,H1,I1,r,z,q⟩=>⟨by rw[<- r.length];exact z,?_⟩)
 have hf:H1 s1.heap.objs.size=none:=I1.hok.fresh (bh8 _)
 refine⟨.ref s1.heap.objs.size,upd H1 s1.heap.objs.size (.lst xs),I1.laid (t':=s1.toks) (λb u e=>bh4 _ e) (bh8 _) ?_,rfl,q _ hf⟩
 exact⟨z,us,0,r,bj2 _ rfl⟩
end
abbrev Sp:=List V->Hp->VK->XK->Prop
abbrev fW:=List Env->Hp->Shared->XK->Value->Shared->Prop
structure nK (P:Program)(w:World)(K:ac)(mg:Str->Option Value)(base:Heap)(A:Around)(outer:List Env)(s:Shared)(H:Hp):Prop where
 frames:A.frames=some outer
 mod:Mod K mg base
 bs:∀b o,base.get? b=some o->s.heap.get? b=some o/\H b=none
 bsz:base.objs.size<=s.heap.objs.size
 funs:s.heap.FunFrames base outer
 frf:∀b∈bP outer,H b=none
 hok:bG P w H s.heap
 bare:AllBare s.gens
def CE (outer:List Env)(P:Program)(w:World)(H:Hp)(s:Shared)(Q:VK)(u:Value)(s':Shared):Prop:=
 ∃v H',s'.os=s.os/\AllBare s'.gens/\Un (bP outer) [] H H' s.heap s'.heap/\bG P w H' s'.heap/\aM v u/\Q v H'
def CR (CX:fW)(outer:List Env)(P:Program)(w:World)(H:Hp)(s:Shared)(Q:VK)(E:XK)(r:Result)(s':Shared):Prop:=
 match r with
 |.ok (.ret u)=>CE outer P w H s Q u s'
 |.ok _=>False
 |.error e=>CX outer H s E e s'
structure cD (P:Program)(w:World)(K:ac)(mg:Str->Option Value)(base:Heap)(CX:fW)(k:Nat)(f:Addr)(fd:FuncData)(ps:List Str)(sp:Sp):Prop where
 len:∀vs H Q E,sp vs H Q E->vs.length=ps.length
 run:∀(A:Around) (outer:List Env) (s:Shared) (H:Hp) (args:Args) (us:List Value) (vs:List V) (Q:VK) (E:XK),bR k A->nK P w K mg base A outer s H->BindsTo s fd args (ps.zip us)->aF vs us->sp vs H Q E->
  codeAny (model P w) A (.call (.ref f) args) (CR CX outer P w H s Q E) s
theorem cD.imp {P:Program}{w:World}{K:ac}{mg:Str->Option Value}{base:Heap}{CX:fW}{k:Nat}{f:Addr}{fd:FuncData}{ps:List Str}{sp sp':Sp}(F:cD P w K mg base CX k f fd ps sp)(h:∀vs H Q E,sp' vs H Q E->sp vs H Q E):cD P w K mg base CX k f fd ps sp':=
 ⟨λvs H Q E q=>F.len vs H Q E (h _ _ _ _ q),λA outer s H args us vs Q E hr he hb hv hs=>F.run A outer s H args us vs Q E hr he hb hv (h _ _ _ _ hs)⟩
section
variable {X:Cx}{pins:List (Addr×Obj)}{σ:St}{H:Hp}{s s':Shared}
theorem a6.env0 (I:a6 X pins σ H s):nK X.prog X.w X.K X.mg X.base X.A X.stack s H:=
 ⟨I.ok.frames,I.ok.mod,I.bs,bm0 I.ok.bsz I.sz,I.stack,I.stkFree,I.hok,I.bare⟩
theorem a6.after {Q:VK}{u:Value}(I:a6 X pins σ H s)(h:CE X.stack X.prog X.w H s Q u s'):EP X pins σ Q u s':=by
 obtain⟨v,H',os,bare,un,hok,r,q⟩:=h
 obtain⟨hh,g,d,t,os'⟩:=s'
 obtain rfl:os'=s.os:=os
 exact⟨v,H',I.call (h':=hh) (g':=g) (d':=d) (t':=t) (ch:=[]) un hok bare (λb z=>absurd z (by simp)),r,q⟩
end
def pM (sp:Sp)(dvs:List V)(E:XK)(t:TA):TE:=λσ H Q=>t σ H λvs H1=>sp (vs++dvs) H1 Q E
def gJ (K:ac)(fd:FuncData)(ps:List Str)(ds:List Value):Prop:=
 ∀(s:Shared) (us:List Value),K.In s.heap->(us++ds).length=ps.length->BindsTo s fd ⟨us,[]⟩ (ps.zip (us++ds))
theorem gJ.all {K:ac}{fd:FuncData}{ps:List Str}(h:∀us:List Value,us.length=ps.length->bindArgs fd ⟨us,[]⟩=pure (ps.zip us)):gJ K fd ps []:=λs us _ hl=>by
 rw[bn4]at hl ⊢
 exact .of_eq (h us hl)
def nL (CX:fW)(X:Cx)(E:XK):Prop:=∀(pins:List (Addr×Obj)) (σ:St) (H:Hp) (s:Shared) (e:Value) (s':Shared),a6 X pins σ H s->CX X.stack H s E e s'->X.xe e s'
section
variable {X:Cx}{CX:fW}{k:Nat}{f C:Addr}{fd:FuncData}{ps:List Str}{sp:Sp}{dvs:List V}{ds:List Value}{E:XK}{x m:Str}{p pos apos:Pos}{e o:Expr}{es:List Expr}{ta:TE}{t:TA}
theorem ao9 {pins:List (Addr×Obj)}{σ:St}{H:Hp}{s:Shared}{Q:VK}{us:List Value}{vs:List V}(F:cD X.prog X.w X.K X.mg X.base CX k f fd ps sp)(hr:bR k X.A)(hb:gJ X.K fd ps ds)(hd:aF dvs ds)(hx:nL CX X E)(I:a6 X pins σ H s)(r:aF vs us)(h:sp (vs++dvs) H Q E):wpAny (model X.prog X.w) X.A (call (.ref f) us) (EP X pins σ Q) X.xe s:=by
 have r2:aF (vs++dvs) (us++ds):=r.append hd
 have hl:(us++ds).length=ps.length:=by rw[<- r2.length];exact F.len _ _ _ _ h
 refine wpAny_call (codeAny_mono (F.run X.A X.stack s H ⟨us,[]⟩ (us++ds) (vs++dvs) Q E hr I.env0 (hb s us I.kIn hl) r2 h) λr s' hq=>?_)
 cases r with
 |error e=>exact hx pins σ H s e s' I hq
 |ok fl=>
  cases fl with
  |ret u=>exact I.after hq
  |next=>exact False.elim hq
  |brk=>exact False.elim hq
  |cont=>exact False.elim hq
theorem pN (F:cD X.prog X.w X.K X.mg X.base CX k f fd ps sp)(hr:bR k X.A)(hg:Gl X x)(hm:X.mg x=some (.ref f))(hk:PySem.W.keepIn X.K (.ref f)=true)(hb:gJ X.K fd ps ds)(hd:aF dvs ds)(hx:nL CX X E)(ha:PA X (e::es) t)(hdb:(x==("__debug__":Str))=false:=by decide)(he:starEach (e::es) X.env=(false,eval e X.env)::starEach es X.env:=by rfl)(hpl:(backTo pos (starEach es X.env)).any (·.1)=false:=by rfl) :
  PE X (.Call (.Name x p) (e::es) [] pos) (pM sp dvs E t):=by
 intro pins s σ H Q I h
 refine wpAny_Call_Name_kw (u7 I hg hm ?_ hdb)
 refine PySem.W.callWith_K (h₀:=X.base) I.ok.mod.kin hk (aK (ha pos pins s σ H _ I h) λus s1 ⟨vs,H1,I1,r,q⟩=>⟨I1.kIn,?_⟩) he hpl
 exact ao9 F hr hb hd hx I1 r q
end
def PK (X:Cx)(kws:List Keyword)(t:TA):Prop:=
 ∀(pos:Pos) (pins:List (Addr×Obj)) (s:Shared) (σ:St) (H:Hp) (Q:List V->Hp->Prop),a6 X pins σ H s->t σ H Q->wpAny (model X.prog X.w) X.A (evalAll ((backToKw pos (keywordEach kws X.env)).map (·.2))) (AP X pins σ Q) X.xe s
structure FnScope (N P:List Str)(sc:Scope):Prop where
 kind:sc.kind = .function
 co:sc.isCoroutine=false
 gen:sc.isGenerator=false
 nd:N.Nodup
 pre:N.take P.length=P
 par:∀x∈P,sc.names.lookup x=some .local∨sc.names.lookup x=some .cell
 nofree:∀y∈sc.names,y.2≠.free
theorem A6 {kindOf:Str->Option NameKind}{x:Str}:∀{binds:List (Str×Value)}{m:Str->Option Value},(∀v,(x,v)∉binds)->bindL kindOf binds m x=m x
 |[],_,_=>rfl
 |(n,v)::r,m,h=>by
  unfold bindL
  rw[A6 λw hw=>h w (bi5 _ hw)]
  split
  ·have:x≠n:=by rintro rfl;exact h v bh7
   simp[this]
  ·rfl
theorem A7 {kindOf:Str->Option NameKind}{x:Str}:∀{binds:List (Str×Value)}{m:Str->Option Value},(∀v,(x,v)∉binds)->bindC kindOf binds m x=m x
 |[],_,_=>rfl
 |(n,v)::r,m,h=>by
  unfold bindC
  rw[A7 λw hw=>h w (bi5 _ hw)]
  split
  ·rfl
  ·have:x≠n:=by rintro rfl;exact h v bh7
   simp[this]
theorem A8 {kindOf:Str->Option NameKind}{x:Str}{v:Value}:∀{P:List Str}{vs:List Value}{i:Nat}{m:Str->Option Value},P.Nodup->P[i]? = some x->vs[i]? = some v->kindOf x=some .local->
  bindL kindOf (P.zip vs) m x=some v
 |[],_,_,_,_,h,_,_=>by simp at h
 |_::_,[],_,_,_,_,h,_=>by simp at h
 |p::P,w::vs,0,m,nd,h1,h2,hk=>by
  simp at h1 h2;subst h1;subst h2
  show bindL kindOf ((p,w)::P.zip vs) m p=_
  unfold bindL
  rw[A6 λv hv=>(bw6.mp nd).1 (List.of_mem_zip hv).1,if_pos hk]
  simp
 |p::P,w::vs,i+1,m,nd,h1,h2,hk=>by
  show bindL kindOf ((p,w)::P.zip vs) m x=_
  unfold bindL
  exact A8 (i:=i) (bw6.mp nd).2 (by simpa using h1) (by simpa using h2) hk
theorem A9 {kindOf:Str->Option NameKind}{x:Str}{v:Value}:∀{P:List Str}{vs:List Value}{i:Nat}{m:Str->Option Value},P.Nodup->P[i]? = some x->vs[i]? = some v->kindOf x≠some .local->
  bindC kindOf (P.zip vs) m x=some v
 |[],_,_,_,_,h,_,_=>by simp at h
 |_::_,[],_,_,_,_,h,_=>by simp at h
 |p::P,w::vs,0,m,nd,h1,h2,hk=>by
  simp at h1 h2;subst h1;subst h2
  show bindC kindOf ((p,w)::P.zip vs) m p=_
  unfold bindC
  rw[A7 λv hv=>(bw6.mp nd).1 (List.of_mem_zip hv).1,if_neg hk]
  simp
 |p::P,w::vs,i+1,m,nd,h1,h2,hk=>by
  show bindC kindOf ((p,w)::P.zip vs) m x=_
  unfold bindC
  exact A9 (i:=i) (bw6.mp nd).2 (by simpa using h1) (by simpa using h2) hk
def fX (N:List Str)(vs:List V):St:=vs.map some++List.replicate (N.length-vs.length) none
def cK (CX:fW)(P:Program)(w:World)(K:ac)(mg:Str->Option Value)(base:Heap)(N:List Str)(qual:Str)(scope:Scope)(f:Addr)(cd:Value)(A:Around)(outer:List Env)(s:Shared)(H:Hp)(E:XK):Cx where
 prog:=P
 w:=w
 K:=K
 mg:=mg
 base:=base
 A:=A.deeper (envOfC qual scope s.heap.objs.size f cd)
 N:=N
 s₀:=s
 H₀:=H
 env:=envOfC qual scope s.heap.objs.size f cd
 outer:=outer
 stack:=envOfC qual scope s.heap.objs.size f cd::outer
 ex:=[]
 calm:=true
 fn:=λ_=>true
 pn:=[]
 xe:=λe s'=>wpAny (model P w) (A.deeper (envOfC qual scope s.heap.objs.size f cd)) (leaving (envOfC qual scope s.heap.objs.size f cd) e) (λ_ s''=>CX outer H s E e s'') (λe' s''=>CX outer H s E e' s'') s'
theorem B0 {sc:Scope}{n:Nat}{x:Str}(h:sc.names.lookup x=some .cell):∃c,(cellsFrom n sc.names []).lookup x=some c:=by
 have q:=PySem.W.cellsFrom_some sc.names n [] (.inl h)
 exact Option.isSome_iff_exists.mp q
theorem ap0 {CX:fW}{P:Program}{w:World}{K:ac}{mg:Str->Option Value}{base:Heap}{N ps:List Str}{qual:Str}{scope:Scope}{f:Addr}{cd:Value}{A:Around}{outer:List Env}{s s1:Shared}{H:Hp}{E:XK}{us:List Value}{vs:List V}(S:FnScope N ps scope)(hd:A.handled=none)(e0:nK P w K mg base A outer s H)(hl:vs.length=ps.length)(r:aF vs us)(x:InCallC s s.heap.objs.size (bindL (envOfC qual scope s.heap.objs.size f cd).kindOf (ps.zip us) λ_=>none) (cellsFrom (s.heap.objs.size+1) scope.names []) (bindC (envOfC qual scope s.heap.objs.size f cd).kindOf (ps.zip us) λ_=>none) s1) :
  a6 (cK CX P w K mg base N qual scope f cd A outer s H E) [] (fX N vs) H s1:=by
 have hpl:ps.length<=N.length:=by have:=congrArg List.length S.pre;rw[bq2]at this;omega
 obtain⟨h1,tk,rfl,hk⟩:=x.done
 have noA:∀b:Addr,b∉(cK CX P w K mg base N qual scope f cd A outer s H E).ex:=λb z=>absurd (show b∈([]:List Addr) from z) (by simp)
 refine⟨⟨e0.mod,S.kind,rfl,rfl,bh8 _,λy z c h1 h2=>?_,λy hy=>?_,λy c _ h=>?_,λ_=>hd,Around.frames_deeper e0.frames,.inr ⟨rfl,rfl⟩,λb z=>absurd z (noA b),e0.bs,e0.bsz,λb _ _=>noA b,λb z=>absurd z (noA b),e0.funs,e0.frf⟩,
  rfl,e0.bare,Un.kept hk,⟨_,x.toInCall.ns,λi y v h1 h2 h3=>?_⟩,λy c h=>⟨_,x.cell y c h⟩,e0.hok.fresh (bh8 _),λy c h=>?_,λp hp=>absurd (show p∈([]:List (Addr×Obj)) from hp) (by simp),e0.hok.kept hk,?_⟩
 ·exact name_of_addr x.apart (bn7 h1) (bn7 h2)
 ·have hy:scope.names.lookup y=some .cell∨scope.names.lookup y=some .free:=hy
  rcases hy with hy|hy
  ·exact B0 hy
  ·exact absurd rfl (S.nofree _ (bn7 hy))
 ·exact br6 (x.above y c (bn7 h))
 ·have hi:i<vs.length:=by
   unfold fX at h2
   by_cases hi:i<vs.length
   ·exact hi
   ·rw[bq3 (by simpa using hi)]at h2
    rw[List.getElem?_replicate]at h2
    split at h2<;>cases h2
  have ha:vs[i]? = some v:=by
   unfold fX at h2
   rw[bn5 (by simpa using hi),bi7]at h2
   cases e:vs[i]? with
   |none=>rw[e]at h2;cases h2
   |some a=>rw[e]at h2;cases h2;rfl
  obtain⟨u,hu,rv⟩:=r.get ha
  have hp:ps[i]? = some y:=by
   rw[<- S.pre,List.getElem?_take_of_lt (by omega)];exact h1
  have ndP:ps.Nodup:=by rw[<- S.pre];exact S.nd.sublist (List.take_sublist _ _)
  refine⟨u,rv,?_⟩
  rcases S.par y (bj5 hp) with k|k
  ·exact .inl ⟨k,A8 ndP hp hu k⟩
  ·obtain⟨c,e⟩:=B0 (n:=s.heap.objs.size+1) k
   refine .inr ⟨.inl k,c,e,?_⟩
   have q:=x.cell y c e
   rw[A9 ndP hp hu (by show scope.names.lookup y≠_;rw[k];decide)]at q
   exact q
 ·exact e0.hok.fresh (br6 (x.above y c (bn7 h)))
 ·unfold fX
  show _=N.length
  rw[bj6,bi1,bw5]
  omega
theorem B1 {CX:fW}{P:Program}{w:World}{K:ac}{mg:Str->Option Value}{base:Heap}{k:Nat}{f:Addr}{name qual:Str}{params:Arguments}{body:List Stmt}{scope:Scope}{dV kV doc pm cdv ct oc:Value}{an od:Option Addr}{osl:Array (Option Value)}{N ps:List Str}{sp:Sp}(lk:K.lookup f=some ⟨oc,od,.func (PySem.W.fnOf name qual params body scope dV kV doc pm an cdv ct),osl⟩)(hcd:PySem.W.codeIn K cdv qual=true)(S:FnScope N ps scope)(len:∀vs H Q E,sp vs H Q E->vs.length=ps.length)(hbody:∀(A:Around) (outer:List Env) (s:Shared) (H:Hp) (vs:List V) (Q:VK) (E:XK),bR k (A.deeper (envOfC qual scope s.heap.objs.size f cdv))->sp vs H Q E->
   ∃t,dE (cK CX P w K mg base N qual scope f cdv A outer s H E) body t/\t { nx:=λ_ H'=>Q .non H',rt:=Q } (fX N vs) H) :
  cD P w K mg base CX (k+1) f (PySem.W.fnOf name qual params body scope dV kV doc pm an cdv ct) ps sp:=by
 refine⟨len,λA outer s H args us vs Q E hr e0 hb r hsp=>?_⟩
 have hl:=len _ _ _ _ hsp
 have KX:K.In s.heap:=e0.mod.kin.keeps λb o e=>(e0.bs b o e).1
 have lim:s.heap.NoLimit:=e0.mod.nolimit.keeps λb o e=>(e0.bs b o e).1
 have hkind:∀y∈ps.zip us,scope.names.lookup y.1=some .local∨(scope.names.lookup y.1=some .cell/\((cellsFrom (s.heap.objs.size+1) scope.names []).lookup y.1).isSome=true):=λ⟨n,v⟩ hy=>by
  rcases S.par n (List.of_mem_zip hy).1 with q|q
  ·exact .inl q
  ·exact .inr ⟨q,PySem.W.cellsFrom_some _ _ _ (.inl q)⟩
 refine codeAny_call_function hr.depth (KX _ _ lk) rfl S.co S.gen rfl (PySem.W.codeRec_of KX hcd) (hb _ _ _ _ ?_)
 refine wpAny_newFunctionEnv_cells S.kind hkind λenv he s1 x=>?_
 subst he
 refine⟨lim.keeps x.toInCall.keep,codeAny_func ?_⟩
 obtain⟨t,ht,hq⟩:=hbody A outer s H vs Q E (hr.deeper _) hsp
 have I:a6 (cK CX P w K mg base N qual scope f cdv A outer s H E) [] (fX N vs) H s1:=ap0 S hr.hd e0 hl r x
 refine bo6 (ht [] s1 (fX N vs) H _ I hq) (λfl s' hs=>?_) λe s' hs=>hs
 have fin:∀{σ':St}{H':Hp}{v:V}{u:Value},a6 (cK CX P w K mg base N qual scope f cdv A outer s H E) [] σ' H' s'->aM v u->Q v H'->CE outer P w H s Q u s':=
  λ{σ' H' v u} J rv q=>⟨v,H',J.os,J.bare,J.base,J.hok,rv,q⟩
 cases fl with
 |ret u=>
  obtain⟨v,σ',H',J,rv,q⟩:=hs
  exact fin J rv q
 |next=>
  obtain⟨σ',H',J,q⟩:=hs
  exact fin (v:=V.non) (u:=Value.none) J rfl q
 |brk=>
  obtain⟨_,_,_,q⟩:=hs
  exact False.elim q
 |cont=>
  obtain⟨_,_,_,q⟩:=hs
  exact False.elim q
section
variable {X:Cx}{x:Str}{p pos:Pos}{e:Expr}{es:List Expr}{t:TA}{id T:String}{r:List V→Hp→VK→Prop}
def uM (r:List V->Hp->VK->Prop)(t:TA):TE:=λσ H Q=>t σ H λvs H1=>r vs H1 Q
theorem pO (hc:cH X (.builtin id) r)(hg:Gl X x)(hm:X.mg x=none)(hv:bootBuiltins x=some (.builtin id))(ha:PA X (e::es) t)(hn:x≠"__name__":=by decide)(hdb:(x==("__debug__":Str))=false:=by decide)(he:starEach (e::es) X.env=(false,eval e X.env)::starEach es X.env:=by rfl)(hpl:(backTo pos (starEach es X.env)).any (·.1)=false:=by rfl):PE X (.Call (.Name x p) (e::es) [] pos) (uM r t):=by
 intro pins s σ H Q I h
 refine wpAny_Call_Name_kw (iD I hg hm hv ?_ hn hdb)
 exact PyProof.Rows.callWith_builtin1 (aK (ha pos pins s σ H _ I h) λus s1 ⟨vs,H1,I1,r1,q1⟩=>hc pins s1 σ H1 vs us Q I1 r1 q1) he hpl
theorem uN (hc:cH X (.type T) r)(hg:Gl X x)(hm:X.mg x=none)(hv:bootBuiltins x=some (.type T))(ha:PA X (e::es) t)(hn:x≠"__name__":=by decide)(hdb:(x==("__debug__":Str))=false:=by decide)(he:starEach (e::es) X.env=(false,eval e X.env)::starEach es X.env:=by rfl)(hpl:(backTo pos (starEach es X.env)).any (·.1)=false:=by rfl):PE X (.Call (.Name x p) (e::es) [] pos) (uM r t):=by
 intro pins s σ H Q I h
 refine wpAny_Call_Name_kw (iD I hg hm hv ?_ hn hdb)
 exact bp6 (aK (ha pos pins s σ H _ I h) λus s1 ⟨vs,H1,I1,r1,q1⟩=>hc pins s1 σ H1 vs us Q I1 r1 q1) he hpl
end
end L2
namespace HT
open PySem PyProof.Rows
def aY:ae->ae->Bool
 |[],[]=>false
 |[],_::_=>true
 |_::_,[]=>false
 |x::xs,y::ys=>if x=y then aY xs ys else decide (x<y)
theorem iF (x y:Int)(xs ys:ae):aY (x::xs) (y::ys)=if x=y then aY xs ys else decide (x<y):=rfl
theorem B2:aY [] []=false:=rfl
theorem ap1 (y:Int)(ys:ae):aY [] (y::ys)=true:=rfl
theorem ap2 (x:Int)(xs:ae):aY (x::xs) []=false:=rfl
theorem ap3 (A:Around)(s:Shared)(a:Int)(t:Tok)(c:Int)(u:Tok):∃e,SeqAt.EqAt A s (.int a t) (.int c u) e/\(e=true↔a=c):=
 ⟨(a==c),SeqAt.EqAt.int_int a t c u,by simp⟩
theorem ap4 (A:Around)(s:Shared)(a:Int)(t:Tok)(c:Int)(u:Tok)(prog:Program)(w:World)(E:Value->Shared->Prop)(Q:Value->Shared->Prop)(h:Q (.bool (decide (a<c))) s) :
  wpAny (model prog w) A (richCompare .Lt (.int a t) (.int c u)) Q E s:=
 (PyProof.Rows.lt_int h:wpAny (model prog w) A (compareOp .Lt (.int a t) (.int c u)) Q E s)
section
open PySem.SeqAt
open PySem.AutoSeq1 (wpAny_loadPart')
open PySem.MeetsSeq PySem.MeetsSeq2 PySem.MeetsSeq3
theorem ap5 (l b:Addr)(items items2:Array Value)(n n2:Nat)(dd dd2:Option Addr)(sl sl2:Array (Option Value))(ns ms:ae)(hi:IntsAre items.toList ns)(hj:IntsAre items2.toList ms) :
  Meets (Builtin.«tuple.__lt__» ⟨[.ref l,.ref b],[]⟩)
   (λ_ R s=>s.heap.get? l=some { cls:=.type "tuple",dict:=dd,data:=.seq items n,slots:=sl }/\s.heap.get? b=some { cls:=.type "tuple",dict:=dd2,data:=.seq items2 n2,slots:=sl2 }/\
    R (.ok (.ret (.bool (aY ns ms)))) s):=
 .of_wp λprog w A R s h=>by
  obtain⟨hp,g,d,tk,os⟩:=s;obtain⟨hl,hb,h⟩:=h
  have f2:=AutoSeq1.sub_tuple_tuple
  have z1:items.size=ns.length:=by rw[<- hi.length];simp
  have z2:items2.size=ms.length:=by rw[<- hj.length];simp
  wp_walk using wpAny_loadPart' hl,wpAny_loadPart' hb,wpAny_forIn_list _ (λbX b s'=>b.1=none/\s'=⟨hp,g,d,tk,os⟩/\∃(vs ws:List Value) (ns' ms':ae),bX=vs.zip ws/\
   IntsAre vs ns'/\IntsAre ws ms'/\ns'.length+items2.size=ms'.length+items.size/\R (.ok (.ret (.bool (aY ns' ms')))) ⟨hp,g,d,tk,os⟩) _
  case turn=>
   rintro⟨y,x⟩ bX b s' ⟨hb',rfl,vs,ws,ns',ms',hz,hvi,hwi,hlen,hR⟩
   cases hvi with
   |nil=>rw[List.zip_nil_left]at hz;cases hz
   |cons a t hvi'=>
    cases hwi with
    |nil=>rw[List.zip_nil_right]at hz;cases hz
    |cons c u hwi'=>
     rw[bt1]at hz
     injection hz with hyx hrest
     injection hyx with hy hx
     subst hy hx
     rw[iF]at hR
     simp only[bk9]at hlen
     obtain⟨e,he,hiff⟩:=ap3 A.in1 ⟨hp,g,d,tk,os⟩ a t c u
     refine bh3 (he prog w _ _ ?_)
     cases e with
     |true=>
      rw[if_pos (hiff.mp rfl)]at hR
      wp_walk
      exact⟨rfl,rfl,_,_,_,_,hrest,hvi',hwi',by omega,hR⟩
     |false=>
      rw[if_neg (λq=>absurd (hiff.mpr q) bj3)]at hR
      have hri:=ap4 A.in1 ⟨hp,g,d,tk,os⟩ a t c u prog w
      wp_walk using hri
      exact⟨_,rfl,by simpa using hR⟩
  case fin=>
   rintro⟨b1,b2⟩ s' ⟨hb',rfl,vs,ws,ns',ms',hz,hvi,hwi,hlen,hR⟩
   simp only at hb'
   subst hb'
   have hv:aY ns' ms'=decide (items.size<items2.size):=by
    cases hvi with
    |nil=>
     cases hwi with
     |nil=>
      simp only[List.length_nil]at hlen
      rw[B2]
      exact (bi2 (by omega)).symm
     |cons c u hw=>
      simp only[List.length_nil,bk9]at hlen
      rw[ap1]
      exact (bi9 (by omega)).symm
    |cons a t hv=>
     cases hwi with
     |nil=>
      simp only[List.length_nil,bk9]at hlen
      rw[ap2]
      exact (bi2 (by omega)).symm
     |cons c u hw=>
      rw[bt1]at hz
      cases hz
   rw[hv]at hR
   wp_walk
   exact⟨_,rfl,by simpa[Builtin.Tuple.tupleCompareSizes] using hR⟩
  case h=>
   exact⟨rfl,rfl,items.toList,items2.toList,ns,ms,rfl,hi,hj,by omega,h⟩
end
section
variable {prog:Program}{w:World}{A:Around}{E:Value→Shared→Prop}{s:Shared}
theorem ap6 {t b:Addr}{vs ws:List Value}{Q:Value->Shared->Prop}(ht:IsTup s.heap t vs.toArray)(hb:IsTup s.heap b ws.toArray)(hv:vs≠[])(h1:ws = []->Q (.ref t) s)(h2:ws≠[]->Q (.ref s.heap.objs.size) { s with heap:=s.heap.push { cls:=.type "tuple",data:=.seq (vs++ws).toArray } })(hsz:vs.length+ws.length<=sizeLine):wpAny (model prog w) A (binaryOp .Add (.ref t) (.ref b)) Q E s:=by
 obtain⟨⟨cls,dd,data,sl⟩,ho,hc,n,hd⟩:=id ht
 obtain⟨⟨cls2,dd2,data2,sl2⟩,ho2,hc2,n2,hd2⟩:=id hb
 simp only at hc hd hc2 hd2
 subst hc hd hc2 hd2
 have e:vs.toArray++ws.toArray=(vs++ws).toArray:=by simp
 by_cases hw:ws = []
 ·exact concat_meets ⟨_,ho,rfl⟩ ⟨_,ho2,rfl⟩ noFill_tuple_add seq_tuple_add PySem.F.slot_tuple_add PySem.F.entry_tuple_add (PySem.F.args_tuple_add_2 _ _)
   (tuple_addW1 t b vs.toArray ws.toArray n n2 dd dd2 sl sl2 (by simpa using hv) (by simp[hw])) ⟨ho,ho2,h1 hw⟩
 ·refine concat_meets ⟨_,ho,rfl⟩ ⟨_,ho2,rfl⟩ noFill_tuple_add seq_tuple_add PySem.F.slot_tuple_add PySem.F.entry_tuple_add (PySem.F.args_tuple_add_2 _ _)
   (tuple_addW2 t b vs.toArray ws.toArray n n2 dd dd2 sl sl2 (by simpa using hv) (by simpa using hw) (by rw[bh6,bh6];exact hsz)) ⟨ho,ho2,?_⟩
  rw[e]
  exact h2 hw
def aP (n d:Nat):Option Int->Nat
 |none=>d
 |some v=>if v<0 then (v+(n:Int)).toNat else min v.toNat n
theorem ap7 (n d:Nat):aP n d none=d:=rfl
theorem ap8 (n d k:Nat):aP n d (some (k:Int))=min k n:=by
 show (if (k:Int)<0 then ((k:Int)+(n:Int)).toNat else min (k:Int).toNat n)=min k n
 rw[if_neg (by omega),bm4]
theorem ap9 (n d:Nat)(hd:d<=n)(o:Option Int):aP n d o<=n:=by
 cases o with
 |none=>exact hd
 |some v=>
  show (if v<0 then (v+(n:Int)).toNat else min v.toNat n)<=n
  by_cases hv:v<0
  ·rw[if_pos hv];omega
  ·rw[if_neg hv];exact Nat.min_le_right _ _
theorem B3 (v:Int)(n d:Nat):(if v<0 then max (v+(n:Int)) 0 else min v (n:Int))=((aP n d (some v):Nat):Int):=by
 show (if v<0 then max (v+(n:Int)) 0 else min v (n:Int))=(((if v<0 then (v+(n:Int)).toNat else min v.toNat n):Nat):Int)
 by_cases hv:v<0
 ·simp only[if_pos hv];omega
 ·simp only[if_neg hv];omega
theorem aq0 (lo hi:Option Int)(n:Nat):Builtin.Slice.sliceAdjust lo hi 1 (n:Int)=(((aP n 0 lo:Nat):Int),((aP n n hi:Nat):Int)):=by
 have h1:¬((1:Int)<0):=by omega
 unfold Builtin.Slice.sliceAdjust
 simp only[h1,bn9]
 refine Prod.ext ?_ ?_
 ·cases lo with
  |none=>rfl
  |some v=>exact B3 v n 0
 ·cases hi with
  |none=>rfl
  |some v=>exact B3 v n n
theorem aq1 (i j:Nat):Builtin.Slice.slicePlaces (i:Int) (j:Int) 1=j-i:=by
 unfold Builtin.Slice.slicePlaces
 have h1:(1:Int)>0:=by omega
 simp only[h1,if_true,Int.ediv_one]
 split<;>omega
theorem B4 {v:Value}{o:Option Int}{Q:Option Int->Shared->Prop}(p:IsPart v o)(h:Q o s):wpAny (model prog w) A (Builtin.Slice.slicePartIndex v) Q E s:=by
 cases p with
 |none=>exact slicePart_none h
 |int i t=>exact slicePart_int h
theorem B5 {sl:Addr}{vl vu:Value}{lo hi:Option Int}{n:Nat}{Q:Int×Int×Nat->Shared->Prop}(hs:s.heap.IsSliceOf sl vl vu .none)(pl:IsPart vl lo)(pu:IsPart vu hi)(h:Q (((aP n 0 lo:Nat):Int),1,aP n n hi-aP n 0 lo) s):wpAny (model prog w) A (Builtin.Slice.sliceApplied (.ref sl) (pure (n:Int))) Q E s:=by
 obtain⟨os,hos,hcs,hds⟩:=id hs
 unfold Builtin.Slice.sliceApplied Builtin.Slice.sliceFields
 refine bh3 (bh3 (bo2 hos hds (x:=vl) rfl (bh3 (bo2 hos hds (x:=vu) rfl (bh3 (bo2 hos hds (x:=.none) rfl (bi0 ?_)))))))
 refine bh3 (slicePart_none ?_)
 show wpAny _ _ (if ((1:Int)==0)=true then _ else _) _ _ s
 rw[if_neg (by decide)]
 refine bh3 (B4 pl (bh3 (B4 pu (bh3 (bi0 ?_)))))
 show wpAny _ _ (match Builtin.Slice.sliceAdjust lo hi 1 (n:Int) with|(lo,hi)=>pure (lo,(1:Int),Builtin.Slice.slicePlaces lo hi 1)) _ _ s
 rw[aq0 lo hi n]
 show wpAny _ _ (pure (((aP n 0 lo:Nat):Int),(1:Int),Builtin.Slice.slicePlaces ((aP n 0 lo:Nat):Int) ((aP n n hi:Nat):Int) 1)) _ _ s
 rw[aq1]
 exact bi0 h
theorem aq2 (xs:Array Value)(i k:Nat):((List.range k).filterMap λ(m:Nat)=>xs[((i:Int)+(m:Int)*1).toNat]?).toArray=((xs.toList.drop i).take k).toArray:=by
 have e:(λ(m:Nat)=>xs[((i:Int)+(m:Int)*1).toNat]?)=λm=>xs[i+m]?:=by
  funext m
  have:((i:Int)+(m:Int)*1).toNat=i+m:=by omega
  rw[this]
 rw[e]
 have:=pick_run xs i k
 rw[List.filterMap_map]at this
 have e2:((λx=>xs[x]?) ∘ λx=>i+x)=λm=>xs[i+m]?:=rfl
 rw[e2]at this
 rw[this]
theorem aq3 {t sl:Addr}{items:Array Value}{vl vu:Value}{lo hi:Option Int}{Q:Value->Shared->Prop}(ht:IsTup s.heap t items)(hs:s.heap.IsSliceOf sl vl vu .none)(pl:IsPart vl lo)(pu:IsPart vu hi)(hw:¬(aP items.size 0 lo=0/\aP items.size items.size hi=items.size))(h:Q (.ref s.heap.objs.size) { s with heap:=s.heap.push { cls:=.type "tuple",data:=.seq ((items.toList.drop (aP items.size 0 lo)).take (aP items.size items.size hi-aP items.size 0 lo)).toArray } })(hsz:items.size<=sizeLine):wpAny (model prog w) A (getItem (.ref t) (.ref sl)) Q E s:=by
 have htake:sizeOk (.seq ((items.toList.drop (aP items.size 0 lo)).take (aP items.size items.size hi-aP items.size 0 lo)).toArray):=by
  show ((items.toList.drop (aP items.size 0 lo)).take (aP items.size items.size hi-aP items.size 0 lo)).toArray.size<=sizeLine
  rw[bh6,bq2,bs5,bn6]
  omega
 have hj:aP items.size items.size hi<=items.size:=ap9 _ _ (bh8 _) hi
 obtain⟨os,hos,hcs,hds⟩:=id hs
 have hTs:s.TypeIs (.ref sl) "slice":=⟨os,hos,hcs⟩
 unfold getItem
 try with_reducible refine br3 ?_
 first|refine bh3 (bi0 ?_)|skip
 refine bh3 (wpAny_sequenceKey ht.typeIs (by decide) ?_)
 refine bh3 (bo3 (name:=Str.ofString "__getitem__") ht.typeIs bu2
  (bo8 bu2 ht.typeIs entry_tuple_getitem ?_ (args_tuple_getitem _ _)))
 show wpAny _ _ (Builtin.Tuple.tupleItemsOf (.ref t) >>= _) _ _ s
 refine bh3 (tupleItemsOf_ ht ?_)
 refine bh3 (wpAny_typeOf hTs ?_)
 rw[if_pos (by decide)]
 refine bh3 (B5 hs pl pu ?_)
 have hno:¬((((aP items.size 0 lo:Nat):Int)==0&&(1:Int)==1&&(aP items.size items.size hi-aP items.size 0 lo)==items.size)=true):=by
  intro q
  rw[bk4,bk4]at q
  have q1:((aP items.size 0 lo:Nat):Int)=0:=eq_of_beq q.1.1
  have q2:aP items.size items.size hi-aP items.size 0 lo=items.size:=eq_of_beq q.2
  exact hw ⟨by omega,by omega⟩
 show wpAny _ _ (if (((aP items.size 0 lo:Nat):Int)==0&&(1:Int)==1&&(aP items.size items.size hi-aP items.size 0 lo)==items.size)=true then _ else _) _ _ s
 rw[if_neg hno,aq2]
 first
  |exact bh3 (m:=Builtin.Tuple.tupleExact _) (bp1 (bi0 ⟨_,rfl,bi0 h⟩) htake)
  |exact bh3 (m:=Builtin.Tuple.tupleExact _) (bp1 (bh3 (bi0 (bi0 ⟨_,rfl,bi0 h⟩))) htake)
  |exact bh3 (bh3 (m:=Builtin.Tuple.tupleExact _) (bp1 (bi0 (bi0 ⟨_,rfl,bi0 h⟩)) htake))
  |exact bh3 (bh3 (m:=Builtin.Tuple.tupleExact _) (bp1 (bi0 ⟨_,rfl,bi0 h⟩) htake))
end
end HT
namespace L2
open PySem PySem.Spec PyProof.Rows
abbrev TO:=St->Hp->(Option Int->Hp->Prop)->Prop
def PO (X:Cx)(e:Option Expr)(t:TO):Prop:=
 ∀(pins:List (Addr×Obj)) (s:Shared) (σ:St) (H:Hp) (Q:Option Int->Hp->Prop),a6 X pins σ H s->t σ H Q->
  wpAny (model X.prog X.w) X.A (evalPart e X.env) (λu s'=>∃o H',a6 X pins σ H' s'/\IsPart u o/\Q o H') X.xe s
def aq4:TO:=λ_ H Q=>Q none H
def aq5 (t:TE):TO:=λσ H Q=>t σ H λx H1=>∃i,x = .int i/\Q (some i) H1
theorem pP {ns:ae}:∀{us:List Value},aF (ns.map V.int) us->IntsAre us ns:=by
 induction ns with
 |nil=>intro us r;rw[List.map_nil]at r;cases r;exact .nil
 |cons n ns ih=>
  intro us r
  rw[bm6]at r
  cases r with
  |cons r1 r2=>
   obtain⟨t,e⟩:=r1
   subst e
   exact .cons n t (ih r2)
section
variable {X:Cx}{e:Expr}{te:TE}{lo hi:Option Expr}{tl th:TO}{pos p2:Pos}
theorem uO:PO X none aq4:=by
 intro pins s σ H Q I h
 rw[evalPart_none]
 exact bi0 ⟨none,H,I,.none,h⟩
theorem uP (h:PE X e te):PO X (some e) (aq5 te):=by
 intro pins s σ H Q I hw
 rw[evalPart_some]
 refine aK (h pins s σ H _ I hw) λu s1 ⟨x,H1,I1,r1,q1⟩=>?_
 obtain⟨i,rfl,q⟩:=q1
 obtain⟨t,rfl⟩:=r1
 exact⟨some i,H1,I1,.int i t,q⟩
def j9 (X:Cx)(r:V->Option Int->Option Int->Hp->VK->Prop):Prop:=
 ∀(pins:List (Addr×Obj)) (s:Shared) (σ:St) (H:Hp) (x:V) (v vl vu:Value) (lo hi:Option Int) (sl:Addr) (Q:VK),a6 X pins σ H s->aM x v->s.heap.IsSliceOf sl vl vu .none->IsPart vl lo->IsPart vu hi->r x lo hi H Q->
  ∃T id,typeLookup (.type T) "__getitem__" = pure (some (.builtin id))/\s.TypeIs v T/\wpAny (model X.prog X.w) X.A (getItem v (.ref sl)) (EP X pins σ Q) X.xe s
theorem j9.or {r r':V->Option Int->Option Int->Hp->VK->Prop}(h:j9 X r)(h':j9 X r'):j9 X (λx lo hi H Q=>r x lo hi H Q∨r' x lo hi H Q):=by
 intro pins s σ H x v vl vu lo hi sl Q I rx hs pl pu q
 rcases q with q|q
 ·exact h pins s σ H x v vl vu lo hi sl Q I rx hs pl pu q
 ·exact h' pins s σ H x v vl vu lo hi sl Q I rx hs pl pu q
def tSl (r:V->Option Int->Option Int->Hp->VK->Prop)(te:TE)(tl th:TO):TE:=λσ H Q=>te σ H λx H1=>tl σ H1 λl H2=>th σ H2 λu H3=>r x l u H3 Q
theorem uQ {r:V->Option Int->Option Int->Hp->VK->Prop}(hr:j9 X r)(he:PE X e te)(hl:PO X lo tl)(hu:PO X hi th):PE X (.Subscript e (.Slice lo hi none p2) pos) (tSl r te tl th):=by
 intro pins s σ H Q I h
 refine Subscript_ (aK (he pins s σ H _ I h) λv s1 ⟨x,H1,I1,r1,q1⟩=>?_)
 refine wpAny_Slice (aK (hl pins s1 σ H1 _ I1 q1) λvl s2 ⟨l,H2,I2,pl,q2⟩=>aK (hu pins s2 σ H2 _ I2 q2) λvu s3 ⟨u,H3,I3,pu,q3⟩=>?_)
 rw[evalPart_none]
 refine bi0 ?_
 have I4:a6 X pins σ H3 { s3 with heap:=s3.heap.push { cls:=.type "slice",data:=.fields #[vl,vu,.none] } }:=I3.kept (t':=s3.toks) λb ob q=>bh4 _ q
 obtain⟨T,id,hT,ht,hg⟩:=hr pins { s3 with heap:=s3.heap.push { cls:=.type "slice",data:=.fields #[vl,vu,.none] } } σ H3 x v vl vu l u s3.heap.objs.size Q I4 r1 (Heap.IsSliceOf.new ..) pl pu q3
 show wpAny (model X.prog X.w) X.A (subscriptTail e (.Slice lo hi none p2) v (.ref s3.heap.objs.size)) (EP X pins σ Q) X.xe { s3 with heap:=s3.heap.push { cls:=.type "slice",data:=.fields #[vl,vu,.none] } }
 exact tail_any (ops:=[.ref s3.heap.objs.size,v]) ht hT hg (by with_unfolding_all rfl)
def dF (xs:List V)(lo hi:Option Int):List V:=(xs.drop (HT.aP xs.length 0 lo)).take (HT.aP xs.length xs.length hi-HT.aP xs.length 0 lo)
theorem B6 (xs:List V)(lo hi:Option Int):(dF xs lo hi).length<=xs.length:=by
 unfold dF
 rw[bq2,bs5]
 omega
def aq6 (K:ac):V->Option Int->Option Int->Hp->VK->Prop:=λx lo hi H Q=>∃a xs,x = .ref a/\aG K H a xs/\
 ¬(HT.aP xs.length 0 lo=0/\HT.aP xs.length xs.length hi=xs.length)/\∀p,H p=none->Q (.ref p) (upd H p (.tup (dF xs lo hi)))
theorem aq7:j9 X (aq6 X.K):=by
 intro pins s σ H x v vl vu lo hi sl Q I rx hs pl pu h
 obtain⟨a,xs,rfl,hx,hw,q⟩:=h
 cases rx
 obtain⟨its,r,ht,hz⟩:=I.tuple hx
 have hlen:its.toArray.size=xs.length:=by rw[bh6];exact r.length.symm
 refine⟨"tuple",_,PyProof.Rows.slot_tuple_getitem.lookup,ht.typeIs,?_⟩
 refine HT.aq3 ht hs pl pu (by rw[hlen];exact hw) ?_ (by rw[hlen];exact hz)
 rw[hlen]
 refine⟨.ref s.heap.objs.size,_,I.laid (t':=s.toks) (o:=.tup (dF xs lo hi)) (λb ob q=>bh4 _ q) (bh8 _) ?_,rfl,q _ (I.hok.fresh (bh8 _))⟩
 exact⟨bm0 (B6 xs lo hi) hz,_,(r.drop (HT.aP xs.length 0 lo)).take (HT.aP xs.length xs.length hi-HT.aP xs.length 0 lo),IsTup.new _ _,gF.new _ _ rfl⟩
def aq8 (K:ac):R2:=λx y H Q=>∃a b xs ys,x = .ref a/\y = .ref b/\aG K H a xs/\aG K H b ys/\xs≠[]/\xs.length+ys.length<=sizeLine/\
 (ys = []->Q (.ref a) H)/\(ys≠[]->∀p,H p=none->Q (.ref p) (upd H p (.tup (xs++ys))))
theorem aF.nil_iff {xs:List V}{us:List Value}(r:aF xs us):us = []↔xs = []:=by
 cases r with
 |nil=>simp
 |cons _ _=>simp
theorem aq9:bK X (binaryOp .Add) (aq8 X.K):=by
 intro pins s σ H x y v u Q I rx ry h
 obtain⟨a,b,xs,ys,rfl,rfl,ha,hb,hx,hz,q1,q2⟩:=h
 cases rx
 cases ry
 obtain⟨its,r1,p1,_⟩:=I.tuple ha
 obtain⟨its2,r2,p2,_⟩:=I.tuple hb
 refine HT.ap6 p1 p2 (λz=>hx (r1.nil_iff.mp z)) (λz=>⟨.ref a,H,I,rfl,q1 (r2.nil_iff.mp z)⟩) (λz=>?_) (by rw[<- r1.length,<- r2.length];exact hz)
 refine⟨.ref s.heap.objs.size,_,I.laid (t':=s.toks) (o:=.tup (xs++ys)) (λb ob q=>bh4 _ q) (bh8 _) ?_,rfl,q2 (λw=>z (r2.nil_iff.mpr w)) _ (I.hok.fresh (bh8 _))⟩
 exact⟨by rw[bj6];exact hz,_,r1.append r2,IsTup.new _ _,gF.new _ _ rfl⟩
end
def fH (n:Nat)(i:Int):Option Nat:=if 0<=i then (if i<n then some i.toNat else none) else if -(n:Int)<=i then some (i+n).toNat else none
def atI {α:Type}(xs:List α)(i:Int):Option α:=(fH xs.length i).bind λj=>xs[j]?
theorem B7 {n:Nat}{i:Int}{j:Nat}(h:fH n i=some j):seqIndex? i n=some j/\j<n/\-(n:Int)<=i/\i<n:=by
 unfold fH at h
 by_cases h0:0<=i
 ·rw[if_pos h0]at h
  by_cases h1:i<n
  ·rw[if_pos h1]at h
   have e:i.toNat=j:=bk2 h
   exact⟨by rw[seqIndex_of h0 h1,e],by omega,by omega,h1⟩
  ·rw[if_neg h1]at h;cases h
 ·rw[if_neg h0]at h
  by_cases h1:-(n:Int)<=i
  ·rw[if_pos h1]at h
   have e:(i+n).toNat=j:=bk2 h
   exact⟨by rw[seqIndex_neg (by omega) h1,e],by omega,h1,by omega⟩
  ·rw[if_neg h1]at h;cases h
theorem uR {α:Type}{xs:List α}{i:Int}{v:α}(h:atI xs i=some v):∃j,seqIndex? i xs.length=some j/\xs[j]? = some v/\j<xs.length/\-(xs.length:Int)<=i/\i<xs.length:=by
 unfold atI at h
 cases e:fH xs.length i with
 |none=>rw[e]at h;cases h
 |some j=>
  rw[e]at h
  obtain⟨h1,h2,h3,h4⟩:=B7 e
  exact⟨j,h1,h,h2,h3,h4⟩
theorem jW {α:Type}{xs:List α}{j:Nat}{v:α}(h:xs[j]? = some v):atI xs (j:Int)=some v:=by
 have hj:j<xs.length:=(bi3.mp h).1
 have e:fH xs.length (j:Int)=some j:=by
  unfold fH
  rw[if_pos (by omega),if_pos (by omega)];simp
 unfold atI;rw[e];exact h
def B8 (b:Expr):Prop:=∀o i,subscripted b false o i=operate [o,i] (getItem o i)
def iG (X:Cx)(r:R2):Prop:=
 ∀(value slice:Expr) (pins:List (Addr×Obj)) (s:Shared) (σ:St) (H:Hp) (x y:V) (v u:Value) (Q:VK),a6 X pins σ H s->aM x v->aM y u->r x y H Q->
  subscripted slice false v u=operate [v,u] (getItem v u)->wpAny (model X.prog X.w) X.A (subscriptTail value slice v u) (EP X pins σ Q) X.xe s
def B9 (X:Cx)(id:String)(r:V->List V->Hp->VK->Prop):Prop:=
 ∀(pins:List (Addr×Obj)) (s:Shared) (σ:St) (H:Hp) (x:V) (xs:List V) (v:Value) (us:List Value) (Q:VK),a6 X pins σ H s->aM x v->aF xs us->r x xs H Q->
  wpAny (model X.prog X.w) X.A (call (.builtin id) (v::us)) (EP X pins σ Q) X.xe s
section
variable {X:Cx}{a b:Expr}{ta tb:TE}{pos:Pos}
theorem iG.or {r r':R2}(h:iG X r)(h':iG X r'):iG X (λx y H Q=>r x y H Q∨r' x y H Q):=by
 intro value slice pins s σ H x y v u Q I rx ry q hs
 rcases q with q|q
 ·exact h value slice pins s σ H x y v u Q I rx ry q hs
 ·exact h' value slice pins s σ H x y v u Q I rx ry q hs
theorem iH {r:R2}(hr:iG X r)(ha:PE X a ta)(hb:PE X b tb)(hs:B8 b):PE X (.Subscript a b pos) (nI r ta tb):=by
 intro pins s σ H Q I h
 exact Subscript_ (uE ha hb I h λv u s2 x y H2 I2 rx ry q=>hr a b pins s2 σ H2 x y v u Q I2 rx ry q (hs _ _))
def C0 (K:ac):R2:=λx y H Q=>∃p xs i v,x = .ref p/\y = .int i/\aJ K H p xs/\atI xs i=some v/\Q v H
def C1 (K:ac):R2:=λx y H Q=>∃p xs i v,x = .ref p/\y = .int i/\aG K H p xs/\atI xs i=some v/\Q v H
def C2:R2:=λx y H Q=>∃z i c,x = .str z/\y = .int i/\z.length<=sizeLine/\atI z.cps.toList i=some c/\Q (.str ⟨#[c]⟩) H
theorem nM:iG X (C0 X.K):=by
 intro value slice pins s σ H x y v u Q I rx ry h hs
 obtain⟨p,xs,i,z,rfl,rfl,hq,he,q⟩:=h
 cases rx
 obtain⟨t,rfl⟩:=ry
 obtain⟨its,r,pl,hz⟩:=I.list hq
 obtain⟨j,h1,h2,h3,h4,h5⟩:=uR he
 obtain⟨w,ew,rw'⟩:=r.get h2
 have hl:=r.length
 have hn:=lD
 have fin:EP X pins σ Q w s:=⟨z,H,I,rw',q⟩
 by_cases h0:0<=i
 ·have hj:i.toNat=j:=by
   rw[seqIndex_of h0 h5]at h1
   exact bk2 h1
  exact item_listR pl.isList h0 (by omega) (by rw[hj];simpa using ew) fin hs
 ·have hj:(i+(its.toArray.size:Int)).toNat=j:=by
   rw[seqIndex_neg (by omega) h4]at h1
   rw[bh6,<- hl]
   exact bk2 h1
  exact subscriptTail_builtinR (x:=w) pl.isList.typeIs slot_list_getitem.lookup
   (wpAny_getItem_list_neg (Q:=λr s'=>r=w/\EP X pins σ Q r s') pl.isList (by omega) (by rw[bh6]<;>omega) (by omega) (by rw[hj];simpa using ew) ⟨rfl,fin⟩) hs
theorem nN:iG X (C1 X.K):=by
 intro value slice pins s σ H x y v u Q I rx ry h hs
 obtain⟨p,xs,i,z,rfl,rfl,hq,he,q⟩:=h
 cases rx
 obtain⟨t,rfl⟩:=ry
 obtain⟨its,r,pl,hz⟩:=I.tuple hq
 obtain⟨j,h1,h2,h3,h4,h5⟩:=uR he
 obtain⟨w,ew,rw'⟩:=r.get h2
 have hl:=r.length
 have hn:=lD
 have fin:EP X pins σ Q w s:=⟨z,H,I,rw',q⟩
 exact subscriptTail_builtinR (x:=w) pl.typeIs slot_tuple_getitem.lookup
  (getItem_tuple (j:=j) (Q:=λr s'=>r=w/\EP X pins σ Q r s') pl (by omega) (by omega) (by rw[bh6,<- hl];exact h1) (by simpa using ew) ⟨rfl,fin⟩) hs
theorem ar0:iG X C2:=by
 intro value slice pins s σ H x y v u Q I rx ry h hs
 obtain⟨z,i,c,rfl,rfl,hz,he,q⟩:=h
 obtain⟨t,rfl⟩:=rx
 obtain⟨t',rfl⟩:=ry
 obtain⟨j,h1,h2,h3,h4,h5⟩:=uR he
 have hl:z.cps.toList.length=z.length:=by simp[Str.length]
 rw[hl]at h1 h4 h5
 have hn:=lD
 exact tail_any (typeIs_str s z t) slot_str_getitem.lookup (getItem_str (c:=c) (by
  have e1:decide (i < -(2^63:Int))=false:=bi2 (by omega)
  have e2:decide (i >= 2^63)=false:=bi2 (by omega)
  rw[e1,e2,Bool.or_false]) (by rw[h1];simpa using h2) ⟨.str ⟨#[c]⟩,H,I.tok _,⟨_,rfl⟩,q⟩) hs
def C3 (K:ac):R2:=λx y H Q=>C0 K x y H Q∨C1 K x y H Q∨C2 x y H Q
theorem ar1:iG X (C3 X.K):=nM.or (nN.or ar0)
theorem ar2 (its:List Value)(n j:Nat)(u:Value):Obj.mapSeq (·.setIfInBounds j u) { cls:=.type "list",data:=.seq its.toArray n }={ cls:=.type "list",data:=.seq (its.set j u).toArray n }:=by
 simp[Obj.mapSeq]
theorem a6.lst {pins:List (Addr×Obj)}{σ:St}{H:Hp}{s:Shared}{p:Addr}{xs:List V}(I:a6 X pins σ H s)(h:H p=some (.lst xs)) :
  ∃(its:List Value) (n:Nat),aF xs its/\s.heap.get? p=some { cls:=.type "list",data:=.seq its.toArray n }/\xs.length<=sizeLine:=by
 obtain⟨z,its,n,r,e⟩:=I.hok p _ h
 exact⟨its,n,r,e,z⟩
theorem a6.lstUpd {pins:List (Addr×Obj)}{σ:St}{H:Hp}{s:Shared}{p:Addr}{xs ys:List V}{its its':List Value}{n n':Nat}{f:Obj->Obj}(I:a6 X pins σ H s)(h:H p=some (.lst xs))(ho:s.heap.get? p=some { cls:=.type "list",data:=.seq its.toArray n })(hf:f { cls:=.type "list",data:=.seq its.toArray n }={ cls:=.type "list",data:=.seq its'.toArray n' })(r:aF ys its')(hz:ys.length<=sizeLine)(t:Nat) :
  a6 X pins σ (upd H p (.lst ys)) { s with heap:=s.heap.update p f,toks:=t }:=by
 have e:(s.heap.update p f).get? p=some { cls:=.type "list",data:=.seq its'.toArray n' }:=by
  rw[Heap.get?_update_self f ho (by rw[hf]<;>rfl),hf]
 refine I.write (x:=p) (e:=p) (by rw[h];trivial) (.inl rfl) (λb u hb q=>(Heap.get?_update_other _ _ (Ne.symm hb)).trans q) ⟨_,e⟩ ?_
 exact⟨hz,its',n',r,e⟩
def uS:V->V->V->Hp->(Hp->Prop)->Prop:=λo i v H Q=>∃p xs k j,o = .ref p/\i = .int k/\H p=some (.lst xs)/\fH xs.length k=some j/\Q (upd H p (.lst (xs.set j v)))
theorem ar3:zM X uS:=by
 intro pins s σ H o i v ov iv u Q I ro ri rv h
 obtain⟨p,xs,k,j,rfl,rfl,hp,hj,q⟩:=h
 cases ro
 obtain⟨t,rfl⟩:=ri
 obtain⟨its,n,r,ho,hz⟩:=I.lst hp
 obtain⟨h1,h2,h3,h4⟩:=B7 hj
 have hl:=r.length
 have hn:=lD
 have I':a6 X pins σ (upd H p (.lst (xs.set j v))) { s with heap:=s.heap.update p (Obj.mapSeq (·.setIfInBounds j u)) }:=
  I.lstUpd hp ho (ar2 its n j u) (r.set rv j) (by rw[bm9];exact hz) s.toks
 by_cases h0:0<=k
 ·have hk:k.toNat=j:=by
   rw[seqIndex_of h0 h4]at h1
   exact bk2 h1
  exact PySem.W.ki_setAt ho h0 (by omega) (by rw[bh6,<- hl];exact h4) (by rw[hk];exact⟨_,I',q⟩)
 ·have hk:(k+(its.toArray.size:Int)).toNat=j:=by
   rw[seqIndex_neg (by omega) h3]at h1
   rw[bh6,<- hl]
   exact bk2 h1
  exact PySem.W.ki_setBack ho (by omega) (by rw[bh6,<- hl];exact h3) (by omega) (by rw[hk];exact⟨_,I',q⟩)
theorem ar4 (lo hi:Option Int)(n:Nat):(sliceBounds lo hi none n).1=((HT.aP n 0 lo:Nat):Int)/\(sliceBounds lo hi none n).2.1=((HT.aP n n hi:Nat):Int)/\(sliceBounds lo hi none n).2.2=1:=by
 refine⟨?_,?_,rfl⟩
 ·cases lo with
  |none=>simp[sliceBounds,HT.aP]
  |some i=>
   simp only[sliceBounds,HT.aP,Option.getD_none,show (1:Int)>0 by decide,if_true]
   by_cases h:i<0
   ·simp only[h,if_true]<;>omega
   ·simp only[h,bn9]<;>omega
 ·cases hi with
  |none=>simp[sliceBounds,HT.aP]
  |some i=>
   simp only[sliceBounds,HT.aP,Option.getD_none,show (1:Int)>0 by decide,if_true]
   by_cases h:i<0
   ·simp only[h,if_true]<;>omega
   ·simp only[h,bn9]<;>omega
theorem ar5 (its:List Value)(lo hi:Option Int):slicePick its.toArray lo hi none=((its.drop (HT.aP its.length 0 lo)).take (HT.aP its.length its.length hi-HT.aP its.length 0 lo)).toArray:=by
 obtain⟨h1,h2,h3⟩:=ar4 lo hi its.toArray.size
 unfold slicePick
 rw[h1,h2,h3]
 simp only[sliceRange_one,pick_run,bh6]<;>rfl
def ar6 (K:ac):V->Option Int->Option Int->Hp->VK->Prop:=λx lo hi H Q=>∃a xs,x = .ref a/\aJ K H a xs/\∀p,H p=none->Q (.ref p) (upd H p (.lst (dF xs lo hi)))
theorem C4:j9 X (ar6 X.K):=by
 intro pins s σ H x v vl vu lo hi sl Q I rx hs pl pu h
 obtain⟨a,xs,rfl,hx,q⟩:=h
 cases rx
 obtain⟨its,r,ht,hz⟩:=I.list hx
 have hlen:=r.length
 refine⟨"list",_,slot_list_getitem.lookup,ht.isList.typeIs,?_⟩
 refine wpAny_getItem_list_slice ht.isList hs pl pu .none (by simp) ?_ (by rw[bh6]<;>omega)
 rw[ar5,<- hlen]
 refine⟨.ref s.heap.objs.size,_,I.laid (t':=s.toks) (o:=.lst (dF xs lo hi)) (λb ob q=>bh4 _ q) (bh8 _) ?_,rfl,q _ (I.hok.fresh (bh8 _))⟩
 exact⟨bm0 (B6 xs lo hi) hz,_,0,(r.drop (HT.aP xs.length 0 lo)).take (HT.aP xs.length xs.length hi-HT.aP xs.length 0 lo),bj2 _ rfl⟩
def iI:V->Bool
 |.non=>true
 |.bl _=>true
 |.int _=>true
 |.str _=>true
 |_=>false
def gK:V->V->Bool
 |.non,.non=>true
 |.bl a,.bl b=>a==b
 |.bl a,.int b=>(if a then 1 else 0)==b
 |.int a,.bl b=>a==(if b then 1 else 0)
 |.int a,.int b=>a==b
 |.str a,.str b=>a==b
 |_,_=>false
theorem ar7 {A:Around}{s:Shared}{y x:V}{u v:Value}(ry:aM y u)(rx:aM x v)(fy:iI y=true)(fx:iI x=true):SeqAt.EqAt A s u v (gK y x):=by
 cases y with
 |non=>
  cases ry
  cases x with
  |non=>cases rx;exact SeqAt.EqAt.same _
  |bl b=>cases rx;exact SeqAt.EqAt.none_bool b
  |int b=>obtain⟨t,rfl⟩:=rx;exact SeqAt.EqAt.none_int b t
  |str b=>obtain⟨t,rfl⟩:=rx;exact SeqAt.EqAt.none_str b t
  |_=>exact absurd (show false=true from fx) bj3
 |bl a=>
  cases ry
  cases x with
  |non=>cases rx;exact SeqAt.EqAt.bool_none a
  |bl b=>cases rx;exact SeqAt.EqAt.bool_bool a b
  |int b=>obtain⟨t,rfl⟩:=rx;exact SeqAt.EqAt.bool_int a b t
  |str b=>obtain⟨t,rfl⟩:=rx;exact SeqAt.EqAt.bool_str a b t
  |_=>exact absurd (show false=true from fx) bj3
 |int a=>
  obtain⟨t',rfl⟩:=ry
  cases x with
  |non=>cases rx;exact SeqAt.EqAt.int_none a t'
  |bl b=>cases rx;exact SeqAt.EqAt.int_bool a t' b
  |int b=>obtain⟨t,rfl⟩:=rx;exact SeqAt.EqAt.int_int a t' b t
  |str b=>obtain⟨t,rfl⟩:=rx;exact SeqAt.EqAt.int_str a t' b t
  |_=>exact absurd (show false=true from fx) bj3
 |str a=>
  obtain⟨t',rfl⟩:=ry
  cases x with
  |non=>cases rx;exact SeqAt.EqAt.str_none a t'
  |bl b=>cases rx;exact SeqAt.EqAt.str_bool a t' b
  |int b=>obtain⟨t,rfl⟩:=rx;exact SeqAt.EqAt.str_int a t' b t
  |str b=>obtain⟨t,rfl⟩:=rx;exact SeqAt.EqAt.str_str a t' b t
  |_=>exact absurd (show false=true from fx) bj3
 |_=>exact absurd (show false=true from fy) bj3
def eF (x:V)(u:Value):Bool:=match u with
 |.none=>gK .non x
 |.bool b=>gK (.bl b) x
 |.int i _=>gK (.int i) x
 |.str z _=>gK (.str z) x
 |_=>false
theorem C5 {x y:V}{u:Value}(r:aM y u)(f:iI y=true):eF x u=gK y x:=by
 cases y with
 |non=>cases r;rfl
 |bl b=>cases r;rfl
 |int i=>obtain⟨t,rfl⟩:=r;rfl
 |str z=>obtain⟨t,rfl⟩:=r;rfl
 |_=>exact absurd (show false=true from f) bj3
theorem nO {x:V}:∀{xs:List V}{us:List Value},aF xs us->xs.all iI=true->us.any (eF x)=xs.any λy=>gK y x
 |_,_,.nil,_=>rfl
 |y::xs,u::us,.cons r t,f=>by
  rw[bt5,bk4]at f
  rw[bw0,bw0,C5 r f.1,nO t f.2]
theorem nP {A:Around}{s:Shared}{x:V}{v:Value}(rx:aM x v)(fx:iI x=true):∀{xs:List V}{us:List Value},aF xs us->xs.all iI=true->∀u∈us,SeqAt.EqAt A s u v (eF x u)
 |_,_,.nil,_=>λu hu=>by cases hu
 |y::xs,u::us,.cons r t,f=>λu' hu=>by
  rw[bt5,bk4]at f
  rcases bi4.mp hu with rfl|hu
  ·rw[C5 r f.1];exact ar7 r rx f.1 fx
  ·exact nP rx fx t f.2 u' hu
def nQ (x:V)(xs:List V):Bool:=xs.any λy=>gK y x
def uT (K:ac)(neg:Bool):R2:=λx y H Q=>∃p xs,y = .ref p/\(aJ K H p xs∨aG K H p xs)/\iI x=true/\xs.all iI=true/\Q (.bl (if neg then !nQ x xs else nQ x xs)) H
theorem ar8:bK X (compareOp .In) (uT X.K false):=by
 intro pins s σ H x y v u Q I rx ry h
 obtain⟨p,xs,rfl,hq,fx,fs,q⟩:=h
 cases ry
 rcases hq with hq|hq
 ·obtain⟨its,r,pl,hz⟩:=I.list hq
  refine SeqAt.in_listAt (eF x) pl.isList (λw hw=>nP rx fx r fs w (by simpa using hw)) ⟨.bl _,H,I,rfl,?_⟩
  rw[show its.toArray.any (eF x)=its.any (eF x) by simp,nO r fs]
  exact q
 ·obtain⟨its,r,pl,hz⟩:=I.tuple hq
  refine SeqAt.in_tupleAt (eF x) pl (λw hw=>nP rx fx r fs w (by simpa using hw)) ⟨.bl _,H,I,rfl,?_⟩
  rw[show its.toArray.any (eF x)=its.any (eF x) by simp,nO r fs]
  exact q
theorem ar9:bK X (compareOp .NotIn) (uT X.K true):=by
 intro pins s σ H x y v u Q I rx ry h
 obtain⟨p,xs,rfl,hq,fx,fs,q⟩:=h
 cases ry
 rcases hq with hq|hq
 ·obtain⟨its,r,pl,hz⟩:=I.list hq
  refine SeqAt.notIn_listAt (eF x) pl.isList (λw hw=>nP rx fx r fs w (by simpa using hw)) ⟨.bl _,H,I,rfl,?_⟩
  rw[show its.toArray.any (eF x)=its.any (eF x) by simp,nO r fs]
  exact q
 ·obtain⟨its,r,pl,hz⟩:=I.tuple hq
  refine SeqAt.notIn_tupleAt (eF x) pl (λw hw=>nP rx fx r fs w (by simpa using hw)) ⟨.bl _,H,I,rfl,?_⟩
  rw[show its.toArray.any (eF x)=its.any (eF x) by simp,nO r fs]
  exact q
theorem as0:cH X (.builtin "len") (λxs H Q=>∃p ys,xs = [.ref p]/\(aJ X.K H p ys∨aG X.K H p ys)/\Q (.int ys.length) H):=by
 intro pins s σ H xs us Q I r h
 obtain⟨p,ys,rfl,hq,q⟩:=h
 obtain⟨u,rfl,rx⟩:=fV r
 cases rx
 have hn:=lD
 rcases hq with hq|hq
 ·obtain⟨its,r',pl,hz⟩:=I.list hq
  have hlen:=r'.length
  exact Calls.call_len_list pl.isList (by simp only[bh6]<;>omega) ⟨.int ys.length,H,I.tok _,⟨s.toks+1,by rw[bh6,hlen]⟩,q⟩
 ·obtain⟨its,r',pl,hz⟩:=I.tuple hq
  have hlen:=r'.length
  exact len_tuple pl (by simp only[bh6]<;>omega) ⟨.int ys.length,H,I.tok _,⟨s.toks+1,by rw[bh6,hlen]⟩,q⟩
theorem cH.or {f:Value}{r r':List V->Hp->VK->Prop}(h:cH X f r)(h':cH X f r'):cH X f (λxs H Q=>r xs H Q∨r' xs H Q):=by
 intro pins s σ H xs us Q I rs q
 rcases q with q|q
 ·exact h pins s σ H xs us Q I rs q
 ·exact h' pins s σ H xs us Q I rs q
theorem as1:cH X (.type "list") (λxs H Q=>∃p ys,xs = [.ref p]/\(aJ X.K H p ys∨aG X.K H p ys)/\∀l,H l=none->Q (.ref l) (upd H l (.lst ys))):=by
 intro pins s σ H xs us Q I r h
 obtain⟨p,ys,rfl,hq,q⟩:=h
 obtain⟨u,rfl,rx⟩:=fV r
 cases rx
 have fin:∀(its:List Value),aF ys its->ys.length<=sizeLine->∀(h':Heap) (c':Nat),(∀b o',s.heap.get? b=some o'->h'.get? b=some o')->
   h'.get? s.heap.objs.size=some { cls:=.type "list",dict:=none,data:=.seq its.toArray c',slots:=#[] }->EP X pins σ Q (.ref s.heap.objs.size) { s with heap:=h' }:=λits r' hz h' c' kp e=>
  ⟨.ref s.heap.objs.size,_,I.laid (t':=s.toks) kp (bh8 _) (show b7 X.prog X.w _ h' _ (.lst ys) from ⟨hz,its,c',r',e⟩),rfl,q _ (I.hok.fresh (bh8 _))⟩
 rcases hq with hq|hq
 ·obtain⟨its,r',pl,hz⟩:=I.list hq
  have hlen:=r'.length
  obtain⟨o,ho,hc,n,hd⟩:=pl.isList
  exact call_list_seq p (.inl rfl) ho hc hd (λh' c' kp e=>fin its r' hz h' c' kp e) (by simp only[bh6]<;>omega)
 ·obtain⟨its,r',pl,hz⟩:=I.tuple hq
  have hlen:=r'.length
  obtain⟨o,ho,hc,n,hd⟩:=pl
  exact call_list_seq p (.inr rfl) ho hc hd (λh' c' kp e=>fin its r' hz h' c' kp e) (by simp only[bh6]<;>omega)
theorem as2:cH X (.type "tuple") (λxs H Q=>∃p ys,xs = [.ref p]/\((aJ X.K H p ys/\∀l,H l=none->Q (.ref l) (upd H l (.tup ys)))∨(aG X.K H p ys/\Q (.ref p) H))):=by
 intro pins s σ H xs us Q I r h
 obtain⟨p,ys,rfl,h⟩:=h
 obtain⟨u,rfl,rx⟩:=fV r
 cases rx
 rcases h with⟨hq,q⟩|⟨hq,q⟩
 ·obtain⟨its,r',pl,hz⟩:=I.list hq
  have hlen:=r'.length
  refine call_tuple_list pl.isList (λh' kp=>?_) (by simp only[bh6]<;>omega)
  have I1:a6 X pins σ H { s with heap:=h' }:=I.kept (t':=s.toks) kp
  have I2:a6 X pins σ (upd H h'.objs.size (.tup ys)) { s with heap:=h'.push { cls:=.type "tuple",data:=.seq its.toArray } }:=
   I1.laid (t':=s.toks) (λb o e=>bh4 _ e) (bh8 _) (show b7 X.prog X.w _ _ _ (.tup ys) from ⟨hz,its,r',IsTup.new _ _,gF.new _ _ rfl⟩)
  exact⟨.ref h'.objs.size,_,I2,rfl,q _ (I1.hok.fresh (bh8 _))⟩
 ·obtain⟨its,r',pl,hz⟩:=I.tuple hq
  exact call_tuple_same pl ⟨.ref p,H,I,rfl,q⟩
def jA (K:ac)(T:String)(x:V)(H:Hp):Prop:=match x with
 |.str _=>T="str"
 |.int _=>T="int"
 |.ref p=>(T="list"/\∃xs,aJ K H p xs)∨(T="tuple"/\∃o,K.lookup p=some o/\o.cls = .type "tuple"/\o.dict=none) ∨
   (T="dict"/\((∃kvs,H p=some (.dK kvs))∨∃kvs,H p=some (.dT kvs)))∨(T="set"/\∃S n,H p=some (.set S n))
 |_=>False
theorem C6 {pins:List (Addr×Obj)}{σ:St}{H:Hp}{s:Shared}{T:String}{x:V}{v:Value}(I:a6 X pins σ H s)(r:aM x v)(ty:jA X.K T x H) :
  s.TypeIs v T/\∀a,v = .ref a->∃ob,s.heap.get? a=some ob/\ob.dict=none:=by
 cases x with
 |str z=>
  obtain⟨t,rfl⟩:=r
  cases (show T="str" from ty)
  exact⟨typeIs_str s z t,λ_ e=>nomatch e⟩
 |int i=>
  obtain⟨t,rfl⟩:=r
  cases (show T="int" from ty)
  exact⟨typeIs_int s i t,λ_ e=>nomatch e⟩
 |ref p=>
  cases r
  rcases ty with⟨rfl,xs,hq⟩|⟨rfl,o,hk,hc,hd⟩|⟨rfl,hk⟩|⟨rfl,S,n,hk⟩
  ·obtain⟨its,_,pl,_⟩:=I.list hq
   refine⟨pl.isList.typeIs,λa e=>?_⟩
   cases e
   obtain⟨o,n,e,c,hd,_⟩:=pl
   exact⟨o,e,hd⟩
  ·refine⟨⟨o,I.kIn p o hk,hc⟩,λa e=>?_⟩
   cases e
   exact⟨o,I.kIn _ o hk,hd⟩
  ·have z:∃o,s.heap.get? p=some o/\o.ExactDict:=by
    rcases hk with⟨kvs,hk⟩|⟨kvs,hk⟩
    ·obtain⟨_,_,_,_,o,_,_,e,ex,_⟩:=I.hok p _ hk
     exact⟨o,e,ex⟩
    ·obtain⟨_,_,_,_,o,_,_,e,ex,_⟩:=I.hok p _ hk
     exact⟨o,e,ex⟩
   obtain⟨o,e,ex⟩:=z
   refine⟨⟨o,e,ex.1⟩,λa e2=>?_⟩
   cases e2
   exact⟨o,e,ex.2.1⟩
  ·obtain⟨o,_,_,_,e,ex,_⟩:=I.hok p _ hk
   refine⟨⟨o,e,ex.1⟩,λa e2=>?_⟩
   cases e2
   exact⟨o,e,ex.2.1⟩
 |_=>exact False.elim ty
def C7 (K:ac)(T:String)(r:V->List V->Hp->VK->Prop)(to:TE):TE:=λσ H Q=>to σ H λx H1=>jA K T x H1/\r x [] H1 Q
def uU (K:ac)(T:String)(r:V->List V->Hp->VK->Prop)(to:TE)(t:TA):TE:=λσ H Q=>to σ H λx H1=>jA K T x H1/\t σ H1 λxs H2=>r x xs H2 Q
variable {o e:Expr}{es:List Expr}{to:TE}{t:TA}{name:Str}{apos cpos:Pos}{T id:String}{r:V→List V→Hp→VK→Prop}
theorem as3 (pa:PlainAttrs T)(slot:Slot T name id)(hty:typeOf (.builtin id)=pure (.type "method_descriptor"))(hm:B9 X id r)(ho:PE X o to)(hbase:attributeBase o name X.env (eval o X.env)=eval o X.env:=by rfl)(hline:(apos.endLine==cpos.line)=true:=by rfl):PE X (.Call (.Attribute o name apos) [] [] cpos) (C7 X.K T r to):=by
 intro pins s σ H Q I h
 refine wpAny_Call_method0_late hbase hline (aK (ho pins s σ H _ I h) λv s1 ⟨x,H1,I1,r1,ty,q1⟩=>?_)
 obtain⟨h1,h2⟩:=C6 I1 r1 ty
 exact⟨T,id,pa,slot,hty,h1,h2,Calls.callWith_builtin rfl (PySem.evalArgs_none (hm pins s1 σ H1 x [] v [] Q I1 r1 .nil q1))⟩
theorem lE (pa:PlainAttrs T)(slot:Slot T name id)(hty:typeOf (.builtin id)=pure (.type "method_descriptor"))(hm:B9 X id r)(ho:PE X o to)(ha:PA X (e::es) t)(hbase:attributeBase o name X.env (eval o X.env)=eval o X.env:=by rfl)(hfew:((backTo cpos (starEach (e::es) X.env)).all (λx=>!x.1)&&(backToKw cpos (keywordEach [] X.env)).all (λx=>x.1.isSome)
  &&decide ((e::es).length+([]:List Keyword).length+(if ([]:List Keyword).isEmpty then 0 else 1)<30))=true:=by rfl)(hline:(apos.endLine==cpos.line)=true:=by rfl)(hs:starEach (e::es) X.env=(false,eval e X.env)::starEach es X.env:=by rfl)(hplain:(backTo cpos (starEach es X.env)).any (·.1)=false:=by rfl) :
  PE X (.Call (.Attribute o name apos) (e::es) [] cpos) (uU X.K T r to t):=by
 intro pins s σ H Q I h
 refine wpAny_Call_method_late hbase hfew hline rfl (aK (ho pins s σ H _ I h) λv s1 ⟨x,H1,I1,r1,ty,q1⟩=>?_)
 obtain⟨h1,h2⟩:=C6 I1 r1 ty
 refine⟨T,id,pa,slot,hty,h1,h2,?_⟩
 have hA:=ha cpos pins s1 σ H1 _ I1 q1
 rw[hs]at hA ⊢
 refine Calls.callWith_builtin (by show (false||(backTo cpos (starEach es X.env)).any (·.1))=false;rw[hplain]<;>rfl) (Calls.evalArgs_plain ?_)
 exact aK hA λus s2 ⟨vs,H2,I2,r2,q2⟩=>hm pins s2 σ H2 x vs v us Q I2 r1 r2 q2
end
def lG (X:Cx)(id:String)(r:V->List V->Hp->VK->Prop):Prop:=
 ∀(pins:List (Addr×Obj)) (s:Shared) (σ:St) (H:Hp) (x:V) (xs:List V) (v:Value) (us:List Value) (Q:VK),a6 X pins σ H s->aM x v->aF xs us->r x xs H Q->
  wpAny (model X.prog X.w) X.A (call (.builtin id) (v::us)) (EP X pins σ Q) X.xe s
theorem aF.one {x:V}{us:List Value}(h:aF [x] us):∃u,us = [u]/\aM x u:=by
 cases h with
 |cons r t=>
  cases t
  exact⟨_,rfl,r⟩
theorem aF.zero:∀{us:List Value},aF [] us->us = []
 |_,.nil=>rfl
theorem aF.dropLast {xs:List V}{us:List Value}(h:aF xs us):aF xs.dropLast us.dropLast:=by
 induction h with
 |nil=>exact .nil
 |cons r t ih=>
  cases t with
  |nil=>exact .nil
  |cons q t'=>exact .cons r ih
theorem aF.eraseIdx:∀{xs:List V}{us:List Value} (i:Nat),aF xs us->aF (xs.eraseIdx i) (us.eraseIdx i)
 |_,_,_,.nil=>.nil
 |_,_,0,.cons _ t=>t
 |_,_,i+1,.cons r t=>.cons r (aF.eraseIdx i t)
theorem aF.rep {xs:List V}{us:List Value}(h:aF xs us):∀k:Nat,aF (List.replicate k xs).flatten (List.replicate k us).flatten
 |0=>.nil
 |k+1=>by
  rw[br4,br4,bt7,bt7]
  exact aF.append h (aF.rep h k)
theorem as4 {α:Type}(l:List α):l.eraseIdx (l.length-1)=l.dropLast:=by
 induction l with
 |nil=>rfl
 |cons a r ih=>
  cases r with
  |nil=>rfl
  |cons b r=>
   have e:(a::b::r).length-1=((b::r).length-1)+1:=by
    have h1:(a::b::r).length=r.length+2:=rfl
    have h2:(b::r).length=r.length+1:=rfl
    omega
   rw[e,List.eraseIdx_cons_succ,ih]
   all_goals rfl
theorem C8 (its:List Value):∀(k:Nat) (acc:List Value),
  List.foldl (λx1 x2=>x1++x2) acc.toArray (List.replicate k its.toArray)=(acc++(List.replicate k its).flatten).toArray
 |0,acc=>by simp
 |k+1,acc=>by
  have e:acc.toArray++its.toArray=(acc++its).toArray:=by simp
  have e2:(acc++its)++(List.replicate k its).flatten=acc++(List.replicate (k+1) its).flatten:=by
   rw[br4,bt7,bk6]
  rw[<- e2,<- C8 its k (acc++its),<- e,br4,List.foldl_cons]
section
variable {X:Cx}{pins:List (Addr×Obj)}{σ:St}{H:Hp}{s:Shared}{l b:Addr}{xs ys zs:List V}
theorem a6.lset {its its':List Value}{n:Nat}{f:Array Value->Array Value}{t':Nat}(I:a6 X pins σ H s)(hH:H l=some (.lst xs))(e:s.heap.get? l=some { cls:=.type "list",data:=.seq its.toArray n })(hf:f its.toArray=its'.toArray)(hv:aF ys its')(hz:ys.length<=sizeLine) :
  a6 X pins σ (upd H l (.lst ys)) { s with heap:=s.heap.update l (Obj.mapSeq f),toks:=t' }:=by
 have q:=PySem.IsL.update e f
 rw[hf]at q
 refine I.write (x:=l) (e:=l) (by rw[hH];exact trivial) (.inl rfl) (λb' u hb hu=>(Heap.get?_update_other s.heap (Obj.mapSeq f) (Ne.symm hb)).trans hu) ⟨_,q⟩ ?_
 exact⟨hz,its',_,hv,q⟩
theorem a6.lnew {its:List Value}{t':Nat}(I:a6 X pins σ H s)(hv:aF ys its)(hz:ys.length<=sizeLine) :
  a6 X pins σ (upd H s.heap.objs.size (.lst ys)) { s with heap:=s.heap.push { cls:=.type "list",data:=.seq its.toArray },toks:=t' }:=
 I.laid (λ_ _ q=>bh4 _ q) (bh8 _) ⟨hz,its,0,hv,bj2 _ rfl⟩
theorem a6.fresh (I:a6 X pins σ H s):H s.heap.objs.size=none:=I.hok.fresh (bh8 _)
theorem a6.lstM (I:a6 X pins σ H s)(hH:H l=some (.lst xs)):xs.length<=sizeLine/\∃(its:List Value) (n:Nat),aF xs its/\xs.length=its.length/\s.heap.get? l=some { cls:=.type "list",data:=.seq its.toArray n }:=by
 obtain⟨z,its,n,r,e⟩:=I.hok l _ hH
 exact⟨z,its,n,r,r.length,e⟩
theorem uV {n:Nat}(h:n<=sizeLine):Builtin.List.listTooLong n=false:=by
 unfold Builtin.List.listTooLong
 exact bi2 (by omega)
end
section
variable {X:Cx}
def C9:V->List V->Hp->VK->Prop:=λx vs H Q=>∃l xs y,x = .ref l/\vs = [y]/\H l=some (.lst xs)/\xs.length<sizeLine/\Q .non (upd H l (.lst (xs++[y])))
theorem lH:lG X "list.append" C9:=by
 intro pins s σ H x vs v us Q I rx rv h
 obtain⟨l,xs,y,rfl,rfl,hH,hz,q⟩:=h
 cases rx
 obtain⟨u,rfl,ru⟩:=rv.one
 obtain⟨z,its,n,r,hl,e⟩:=I.lstM hH
 refine call_meets F.slot_list_append ⟨_,e,rfl⟩ F.entry_list_append (F.args_list_append_2 _ _) (PySem.list_append l its.toArray n u (by rw[bh6];omega)) ⟨e,?_⟩
 refine⟨.non,_,I.lset (its':=its++[u]) hH e (by simp) (r.append (.cons ru .nil)) ?_,rfl,q⟩
 rw[bj6,bn2]
 omega
def E1:V->List V->Hp->VK->Prop:=λx vs H Q=>∃l b xs zs,x = .ref l/\vs = [.ref b]/\H l=some (.lst xs)/\H b=some (.lst zs)/\xs.length+zs.length<=sizeLine/\Q .non (upd H l (.lst (xs++zs)))
theorem as5:lG X "list.extend" E1:=by
 intro pins s σ H x vs v us Q I rx rv h
 obtain⟨l,b,xs,zs,rfl,rfl,hH,hB,hz,q⟩:=h
 cases rx
 obtain⟨u,rfl,ru⟩:=rv.one
 cases ru
 obtain⟨z,its,n,r,hl,e⟩:=I.lstM hH
 obtain⟨z2,its2,n2,r2,hl2,e2⟩:=I.lstM hB
 have hsz:its.toArray.size+its2.toArray.size<=sizeLine:=by rw[bh6,bh6];omega
 have hlong:¬(!its.toArray.isEmpty&&Builtin.List.listTooLong (its.toArray.size+its2.toArray.size))=true:=by
  rw[uV hsz,Bool.and_false]
  exact bj3
 refine call_meets F.slot_list_extend ⟨_,e,rfl⟩ F.entry_list_extend (F.args_list_extend_2 _ _)
  (AutoSeq1.list_extend_list_list_0 l its.toArray n b its2.toArray n2 hlong (by rw[bh6];omega) (by omega)) ⟨e,e2,?_⟩
 refine⟨.non,_,I.lset (its':=its++its2) hH e (by simp) (r.append r2) ?_,rfl,q⟩
 rw[bj6]
 omega
def as6:V->List V->Hp->VK->Prop:=λx vs H Q=>∃l xs y,x = .ref l/\vs = []/\H l=some (.lst xs)/\xs[xs.length-1]? = some y/\Q y (upd H l (.lst xs.dropLast))
theorem bh0:lG X "list.pop" as6:=by
 intro pins s σ H x vs v us Q I rx rv h
 obtain⟨l,xs,y,rfl,rfl,hH,hy,q⟩:=h
 cases rx
 have hus:=rv.zero
 subst hus
 obtain⟨z,its,n,r,hl,e⟩:=I.lstM hH
 obtain⟨u,hu,ru⟩:=r.get hy
 have hy':its.toArray[its.toArray.size-1]? = some u:=by
  show its.toArray[its.length-1]? = some u
  rw[<- bp7,<- hl]
  exact hu
 refine call_meets F.slot_list_pop ⟨_,e,rfl⟩ F.entry_list_pop (F.args_list_pop_1 _) (MeetsSeq.list_pop_last l its.toArray n u hy' (by rw[bh6];omega)) ⟨e,?_⟩
 refine⟨y,_,I.lset (its':=its.dropLast) hH e ?_ r.dropLast ?_,ru,q⟩
 ·show its.toArray.eraseIdxIfInBounds (its.toArray.size-1)=its.dropLast.toArray
  rw[bh6,List.eraseIdxIfInBounds_toArray,as4]
 ·rw[List.length_dropLast]
  omega
def E2:V->List V->Hp->VK->Prop:=λx vs H Q=>∃l xs,x = .ref l/\vs = []/\H l=some (.lst xs)/\Q .non (upd H l (.lst []))
theorem as7:lG X "list.clear" E2:=by
 intro pins s σ H x vs v us Q I rx rv h
 obtain⟨l,xs,rfl,rfl,hH,q⟩:=h
 cases rx
 have hus:=rv.zero
 subst hus
 obtain⟨z,its,n,r,hl,e⟩:=I.lstM hH
 refine call_meets F.slot_list_clear ⟨_,e,rfl⟩ F.entry_list_clear (F.args_list_clear_1 _) (AutoSeq1.list_clear_list_0 l its.toArray n (by rw[bh6];omega)) ⟨e,?_⟩
 exact⟨.non,_,I.lset (its':=[]) (ys:=[]) hH e rfl .nil (bl4 _),rfl,q⟩
def E3:R2:=λx y H Q=>∃l b xs zs,x = .ref l/\y = .ref b/\H l=some (.lst xs)/\H b=some (.lst zs)/\xs.length+zs.length<=sizeLine/\∀p,H p=none->Q (.ref p) (upd H p (.lst (xs++zs)))
theorem as8:bK X (binaryOp .Add) E3:=by
 intro pins s σ H x y v u Q I rx ry h
 obtain⟨l,b,xs,zs,rfl,rfl,hH,hB,hz,q⟩:=h
 cases rx
 cases ry
 obtain⟨z,its,n,r,hl,e⟩:=I.lstM hH
 obtain⟨z2,its2,n2,r2,hl2,e2⟩:=I.lstM hB
 refine PySem.P.add_list e e2 ?_ (by rw[bh6,bh6];omega)
 have ea:its.toArray++its2.toArray=(its++its2).toArray:=by simp
 rw[ea]
 exact⟨.ref _,_,I.lnew (t':=s.toks) (r.append r2) (by rw[bj6];omega),rfl,q _ I.fresh⟩
def E4:R2:=λx y H Q=>∃l k xs,x = .ref l/\y = .int k/\H l=some (.lst xs)/\-(2^63)<=k/\k<2^63/\xs.length*k.toNat<=sizeLine/\
 ∀p,H p=none->Q (.ref p) (upd H p (.lst (List.replicate k.toNat xs).flatten))
theorem as9 {α:Type}(xs:List α)(k:Nat):(List.replicate k xs).flatten.length=k*xs.length:=by
 induction k with
 |zero=>simp
 |succ k ih=>rw[br4,bt7,bj6,ih,Nat.succ_mul,Nat.add_comm]
theorem at0:bK X (binaryOp .Mult) E4:=by
 intro pins s σ H x y v u Q I rx ry h
 obtain⟨l,k,xs,rfl,rfl,hH,h1,h2,hz,q⟩:=h
 cases rx
 obtain⟨t,rfl⟩:=ry
 obtain⟨z,its,n,r,hl,e⟩:=I.lstM hH
 have hlen:its.toArray.size*k.toNat<=sizeLine:=by rw[bh6,<- hl];exact hz
 have hcap:¬its.toArray.size*k.toNat>(2^63-1)/8:=by
  have:(sizeLine:Nat)<=(2^63-1)/8:=by decide
  omega
 have hfit:¬(!Builtin.List.listFitsIndex k)=true:=by
  rw[fitsIndex_both h1 h2]
  exact bj3
 have hlong:¬Builtin.List.listTooLong (its.toArray.size*k.toNat)=true:=by
  rw[uV hlen]
  exact bj3
 have hnew:List.foldl (λx1 x2=>x1++x2) #[] (List.replicate (if its.toArray.isEmpty=true then 0 else k.toNat) its.toArray)=(List.replicate k.toNat its).flatten.toArray:=by
  have f0:∀m:Nat,List.foldl (λx1 x2=>x1++x2) #[] (List.replicate m its.toArray)=(List.replicate m its).flatten.toArray:=λm=>by
   have:=C8 its m []
   rw[List.nil_append]at this
   exact this
  rw[f0]
  cases its with
  |nil=>simp
  |cons a r'=>rw[if_neg (by simp)]
 refine wpAny_binaryOp_repeat_ref (T:="list") (U:="int") (by decide) ⟨_,e,rfl⟩ (λs'=>typeIs_int s' k t) noFill_list_mul F.fills_int_mul F.slot_int_rmul repeat_list F.slot_int_index.lookup
  (call_meets F.slot_int_rmul (typeIs_int s k t) F.entry_int_rmul (F.args_int_rmul_2 _ _) (int___rmul___int_list k t l its.toArray n)
   ⟨e,rfl,⟨_,e,rfl⟩,call_meets F.slot_list_mul ⟨_,e,rfl⟩ F.entry_list_mul (F.args_list_mul_2 _ _) (AutoListH.list___mul___list_int_3 l its.toArray n k t hfit hcap hlong) ⟨e,?_⟩⟩)
 rw[hnew]
 exact⟨.ref _,_,I.lnew (t':=s.toks) (r.rep k.toNat) (by rw[as9,Nat.mul_comm];exact hz),rfl,q _ I.fresh⟩
end
section
variable {κ:Type}[DecidableEq κ]
def eG (kvs:List (κ×V))(k:κ):Option V:=(kvs.find? λkv=>decide (kv.1=k)).map (·.2)
def e8 (kvs:List (κ×V))(k:κ)(v:V):List (κ×V):=
 if (kvs.any λkv=>decide (kv.1=k))=true then kvs.map (λkv=>if kv.1=k then (kv.1,v) else kv) else kvs++[(k,v)]
theorem uW {p:κ×V}{r:List (κ×V)}{k:κ}(e:p.1=k):eG (p::r) k=some p.2:=by simp[eG,bs3,e]
theorem uX {p:κ×V}{r:List (κ×V)}{k:κ}(e:¬p.1=k):eG (p::r) k=eG r k:=by simp[eG,bs3,e]
theorem E5 (k:κ):∀kvs:List (κ×V),(kvs.any λkv=>decide (kv.1=k))=(eG kvs k).isSome
 |[]=>rfl
 |p::r=>by
  rw[bw0]
  by_cases e:p.1=k
  ·simp only[uW e,bi9 e,Bool.true_or,Option.isSome_some]
  ·rw[uX e,bi2 e,Bool.false_or];exact E5 k r
theorem E6 (kvs:List (κ×V))(k:κ)(v:V):(e8 kvs k v).length<=kvs.length+1:=by
 unfold e8
 split
 ·rw[bi1];omega
 ·rw[bj6,bk9,List.length_nil];omega
theorem fG.isSome_eq {o:Option V}{u:Option Value}(r:fG o u):o.isSome=u.isSome:=by
 cases o with
 |none=>cases u with
  |none=>rfl
  |some _=>exact (show False from r).elim
 |some _=>cases u with
  |none=>exact (show False from r).elim
  |some _=>rfl
theorem KV.val {kvs:List (κ×V)}{vs:List (κ×Value)}(r:KV kvs vs)(k:κ):fG (eG kvs k) (valueAt vs k):=by
 unfold KV at r
 induction r with
 |nil=>exact by0
 |@cons p q ps qs h t ih=>
  obtain⟨h1,h2⟩:=h
  by_cases e:p.1=k
  ·have e':q.1=k:=h1.symm.trans e
   have b:valueAt (q::qs) k=some q.2:=by simp[valueAt,bs3,e']
   rw[uW e,b];exact h2
  ·have e':¬q.1=k:=λz=>e (h1.trans z)
   have b:valueAt (q::qs) k=valueAt qs k:=by simp[valueAt,bs3,e']
   rw[uX e,b];exact ih
theorem KV.any {kvs:List (κ×V)}{vs:List (κ×Value)}(r:KV kvs vs)(k:κ):(kvs.any λkv=>decide (kv.1=k))=vs.any λkv=>decide (kv.1=k):=by
 unfold KV at r
 induction r with
 |nil=>rfl
 |cons h t ih=>rw[bw0,bw0,ih,h.1]
theorem KV.repl {kvs:List (κ×V)}{vs:List (κ×Value)}(r:KV kvs vs)(k:κ){y:V}{u:Value}(ry:aM y u) :
  KV (kvs.map λkv=>if kv.1=k then (kv.1,y) else kv) (vs.map λkv=>if kv.1=k then (kv.1,u) else kv):=by
 unfold KV at r ⊢
 induction r with
 |nil=>exact .nil
 |@cons p q ps qs h t ih=>
  rw[bm6,bm6]
  refine .cons ?_ ih
  obtain⟨h1,h2⟩:=h
  by_cases e:p.1=k
  ·rw[if_pos e,if_pos (h1.symm.trans e)];exact⟨h1,ry⟩
  ·rw[if_neg e,if_neg (λz=>e (h1.trans z))];exact⟨h1,h2⟩
theorem KV.put {kvs:List (κ×V)}{vs:List (κ×Value)}(r:KV kvs vs)(k:κ){y:V}{u:Value}(ry:aM y u):KV (e8 kvs k y) (stored vs k u):=by
 unfold e8 stored
 rw[r.any k]
 by_cases e:(vs.any λkv=>decide (kv.1=k))=true
 ·rw[if_pos e,if_pos e];exact r.repl k ry
 ·rw[if_neg e,if_neg e];exact Paired.snoc r ⟨rfl,ry⟩
theorem KV.length {kvs:List (κ×V)}{vs:List (κ×Value)}(r:KV kvs vs):kvs.length=vs.length:=Paired.length r
end
theorem nR {P:Program}{w:World}{k:aC}{u:Value}(r:aM (kV k) u):(eU P w).is k u=true:=by
 cases k with
 |inl i=>obtain⟨t,e⟩:=(show ∃t,u=Value.int i t from r);subst e;exact aj2 P w i t
 |inr x=>obtain⟨t,e⟩:=(show ∃t,u=Value.str x t from r);subst e;exact aj3 P w x t
theorem E7 {P:Program}{w:World}:∀{ks:List aC}{us:List Value},aF (ks.map kV) us->ItemsAre (eU P w) ks us
 |[],_,r=>by rw[List.map_nil]at r;cases r;exact .nil
 |k::ks,_,r=>by
  rw[bm6]at r
  cases r with
  |cons h t=>exact .cons (nR h) (E7 t)
abbrev KT (H:Hp):List (List aC×V)->List (List aC×Addr×Value)->Prop:=Paired λp q=>p.1=q.1/\H q.2.1=some (.tup (p.1.map kV))/\aM p.2 q.2.2
theorem KT.val {H:Hp}{kvs:List (List aC×V)}{xs:List (List aC×Addr×Value)}(r:KT H kvs xs)(k:List aC):fG (eG kvs k) ((atKey xs k).map (·.2)):=by
 induction r with
 |nil=>exact by0
 |@cons p q ps qs h t ih=>
  obtain⟨h1,_,h2⟩:=h
  by_cases e:p.1=k
  ·have e':q.1=k:=h1.symm.trans e
   have b:atKey (q::qs) k=some q.2:=by simp[atKey,bs3,e']
   rw[uW e,b];exact h2
  ·have e':¬q.1=k:=λz=>e (h1.trans z)
   have b:atKey (q::qs) k=atKey qs k:=by simp[atKey,bs3,e']
   rw[uX e,b];exact ih
theorem KT.repl {H:Hp}{kvs:List (List aC×V)}{xs:List (List aC×Addr×Value)}(r:KT H kvs xs)(k:List aC){y:V}{u:Value}(ry:aM y u) :
  KT H (kvs.map λkv=>if kv.1=k then (kv.1,y) else kv) (xs.map (putAt k u)):=by
 induction r with
 |nil=>exact .nil
 |@cons p q ps qs h t ih=>
  rw[bm6,bm6]
  refine .cons ?_ ih
  obtain⟨h1,h2,h3⟩:=h
  unfold putAt
  by_cases e:p.1=k
  ·rw[if_pos e,if_pos (h1.symm.trans e)];exact⟨h1,h2,ry⟩
  ·rw[if_neg e,if_neg (λz=>e (h1.trans z))];exact⟨h1,h2,h3⟩
theorem KT.put {H:Hp}{kvs:List (List aC×V)}{xs:List (List aC×Addr×Value)}(r:KT H kvs xs)(k:List aC){b:Addr}{y:V}{u:Value}(hb:H b=some (.tup (k.map kV)))(ry:aM y u) :
  KT H (e8 kvs k y) (storedH xs k b u):=by
 have e:(kvs.any λkv=>decide (kv.1=k))=(atKey xs k).isSome:=by
  rw[E5,(r.val k).isSome_eq,Option.isSome_map]
 unfold e8 storedH
 rw[e]
 by_cases q:(atKey xs k).isSome=true
 ·rw[if_pos q,if_pos q];exact r.repl k ry
 ·rw[if_neg q,if_neg q];exact Paired.snoc r ⟨rfl,hb,ry⟩
theorem KT.keeps {H H':Hp}{kvs:List (List aC×V)}{xs:List (List aC×Addr×Value)}(r:KT H kvs xs)(ht:∀b ys,H b=some (.tup ys)->H' b=some (.tup ys)):KT H' kvs xs:=
 Paired.mapP r λ_ _ z=>⟨z.1,ht _ _ z.2.1,z.2.2⟩
section
variable {P:Program}{w:World}{H:Hp}{h:Heap}{a:Addr}
theorem uY {u:HO}(ok:bG P w H h)(e:Rd H a u):b7 P w H h a u:=e.ok ok
theorem lI {kvs:List (aC×V)}(ok:bG P w H h)(e:Rd H a (.dK kvs)):kvs.length<=sizeLine/\(a==sysModules)=false/\∃vs,KV kvs vs/\h.DictOf (eU P w) a vs:=
 show b7 P w H h a (.dK kvs) from uY ok e
theorem at2 {kvs:List (aC×V)}(ok:bG P w H h)(e:H a=some (.dK kvs)):kvs.length<=sizeLine/\(a==sysModules)=false/\∃vs,KV kvs vs/\h.DictOf (eU P w) a vs:=lI ok (.inl e)
theorem lJ {ks:List aC}(ok:bG P w H h)(e:H a=some (.tup (ks.map kV))):(tupleKind (eU P w)).is h ks a:=by
 obtain⟨_,its,r,⟨o,h1,h2,n,h3⟩,_⟩:=(show b7 P w H h a (.tup (ks.map kV)) from ok a _ e)
 exact⟨o,its.toArray,n,h1,h2,h3,by simpa using E7 r⟩
theorem nS {kvs:List (List aC×V)}(ok:bG P w H h)(e:Rd H a (.dT kvs)):kvs.length<=sizeLine/\(a==sysModules)=false/\
  ∃xs,KT H kvs xs/\h.DictOfH (tupleKind (eU P w)) a xs:=by
 obtain⟨z,y,xs,r,o,es,ep,h1,h2,h3,h4,h5⟩:=(show b7 P w H h a (.dT kvs) from uY ok e)
 refine⟨z,y,xs,r,o,es,ep,h1,h2,h3,h4,λx hx=>?_,h5⟩
 have all:∀{l:List (List aC×V)}{m:List (List aC×Addr×Value)},KT H l m->∀x∈m,(tupleKind (eU P w)).is h x.1 x.2.1:=by
  intro l m q
  induction q with
  |nil=>intro x hx;exact nomatch hx
  |@cons p q ps qs hq t ih=>
   intro x hx
   rcases bi4.mp hx with e|hx
   ·subst e
    exact lJ ok (by rw[<- hq.1];exact hq.2.1)
   ·exact ih x hx
 exact all r x hx
theorem E8 {kvs:List (List aC×V)}(ok:bG P w H h)(e:H a=some (.dT kvs)):kvs.length<=sizeLine/\(a==sysModules)=false/\
  ∃xs,KT H kvs xs/\h.DictOfH (tupleKind (eU P w)) a xs:=nS ok (.inl e)
end
def eW (H:Hp)(a:Addr)(y:V)(r:Option V):Prop:=
 (∃kvs k,Rd H a (.dK kvs)/\y=kV k/\r=eG kvs k)∨∃kvs k b,Rd H a (.dT kvs)/\y = .ref b/\H b=some (.tup (k.map kV))/\r=eG kvs k
def jB (H:Hp)(a:Addr)(y v:V)(H':Hp):Prop:=
 (∃kvs k,H a=some (.dK kvs)/\y=kV k/\kvs.length<sizeLine/\H'=upd H a (.dK (e8 kvs k v))) ∨
 ∃kvs k b,H a=some (.dT kvs)/\y = .ref b/\H b=some (.tup (k.map kV))/\kvs.length<sizeLine/\H'=upd H a (.dT (e8 kvs k v))
theorem eW.k {H:Hp}{a:Addr}{kvs:List (aC×V)}{k:aC}(e:H a=some (.dK kvs)):eW H a (kV k) (eG kvs k):=.inl ⟨kvs,k,.inl e,rfl,rfl⟩
theorem eW.t {H:Hp}{a b:Addr}{kvs:List (List aC×V)}{k:List aC}(e:H a=some (.dT kvs))(eb:H b=some (.tup (k.map kV))):eW H a (.ref b) (eG kvs k):=.inr ⟨kvs,k,b,.inl e,rfl,eb,rfl⟩
theorem jB.k {H:Hp}{a:Addr}{kvs:List (aC×V)}{k:aC}{v:V}(e:H a=some (.dK kvs))(hl:kvs.length<sizeLine):jB H a (kV k) v (upd H a (.dK (e8 kvs k v))):=.inl ⟨kvs,k,e,rfl,hl,rfl⟩
theorem jB.t {H:Hp}{a b:Addr}{kvs:List (List aC×V)}{k:List aC}{v:V}(e:H a=some (.dT kvs))(eb:H b=some (.tup (k.map kV)))(hl:kvs.length<sizeLine) :
  jB H a (.ref b) v (upd H a (.dT (e8 kvs k v))):=.inr ⟨kvs,k,b,e,rfl,eb,hl,rfl⟩
section
variable {X:Cx}{pins:List (Addr×Obj)}{σ:St}{H:Hp}{s:Shared}{a:Addr}{y v:V}{u r:Value}{o:Option V}{A:Around}{E:Value→Shared→Prop}
theorem a6.big (I:a6 X pins σ H s):sysModules<s.heap.objs.size:=by
 have h:mainGlobals<s.heap.objs.size:=(I.mod.glob.keeps I.bk).lt
 exact Nat.lt_trans (by decide) h
theorem at3 {Q:Value->Shared->Prop}(hu:A.units+1<cLine)(I:a6 X pins σ H s)(g:eW H a y (some v))(ry:aM y u)(h:∀w' s',a6 X pins σ H s'->aM v w'->Q w' s') :
  wpAny (model X.prog X.w) A (getItem (.ref a) u) Q E s:=by
 rcases g with⟨kvs,k,e,ey,l⟩|⟨kvs,k,b,e,ey,eb,l⟩
 ·subst ey
  obtain⟨z,hd,vs,rel,dd⟩:=lI I.hok e
  obtain⟨w',hw,rw'⟩:=fG.some_of (v:=v) (o:=valueAt vs k) (by rw[l];exact rel.val k)
  exact wpAny_getItem_of (nR ry) dd.mapOf hw (h w' _ (I.tok _) rw')
 ·subst ey
  cases (show u=Value.ref b from ry)
  obtain⟨z,hd,xs,rel,dd⟩:=nS I.hok e
  obtain⟨w',hw,rw'⟩:=fG.some_of (v:=v) (o:=(atKey xs k).map (·.2)) (by rw[l];exact rel.val k)
  obtain⟨p,hp,hp2⟩:=Option.map_eq_some_iff.mp hw
  refine wpAny_getItem_heap (tupleKind_room_in1 hu) (lJ I.hok eb) dd hp ?_
  rw[hp2]
  exact h w' _ (I.tok _) rw'
theorem at4 {Q:Value->Shared->Prop}(hu:A.units+1<cLine)(I:a6 X pins σ H s)(g:eW H a y o)(ry:aM y u)(h:∀s',a6 X pins σ H s'->Q (.bool o.isSome) s') :
  wpAny (model X.prog X.w) A (compareOp .In u (.ref a)) Q E s:=by
 rcases g with⟨kvs,k,e,ey,l⟩|⟨kvs,k,b,e,ey,eb,l⟩
 ·subst ey
  obtain⟨z,hd,vs,rel,dd⟩:=lI I.hok e
  refine wpAny_in_of (nR ry) hd dd.mapOf ?_
  rw[<- (rel.val k).isSome_eq,<- l]
  exact h _ (I.tok _)
 ·subst ey
  cases (show u=Value.ref b from ry)
  obtain⟨z,hd,xs,rel,dd⟩:=nS I.hok e
  refine wpAny_in_heap (tupleKind_room_in1 hu) (lJ I.hok eb) hd dd ?_
  have q:=(rel.val k).isSome_eq
  rw[Option.isSome_map]at q
  rw[<- q,<- l]
  exact h _ (I.tok _)
theorem at5 {Q:Value->Shared->Prop}(hu:A.units+1<cLine)(I:a6 X pins σ H s)(g:eW H a y o)(ry:aM y u)(h:∀s',a6 X pins σ H s'->Q (.bool (!o.isSome)) s') :
  wpAny (model X.prog X.w) A (compareOp .NotIn u (.ref a)) Q E s:=by
 rcases g with⟨kvs,k,e,ey,l⟩|⟨kvs,k,b,e,ey,eb,l⟩
 ·subst ey
  obtain⟨z,hd,vs,rel,dd⟩:=lI I.hok e
  refine wpAny_notIn_of (nR ry) hd dd.mapOf ?_
  rw[<- (rel.val k).isSome_eq,<- l]
  exact h _ (I.tok _)
 ·subst ey
  cases (show u=Value.ref b from ry)
  obtain⟨z,hd,xs,rel,dd⟩:=nS I.hok e
  refine wpAny_notIn_heap (tupleKind_room_in1 hu) (lJ I.hok eb) hd dd ?_
  have q:=(rel.val k).isSome_eq
  rw[Option.isSome_map]at q
  rw[<- q,<- l]
  exact h _ (I.tok _)
theorem uZ {h':Heap}{t':Nat}{ob:HO}(I:a6 X pins σ H s)(mu:mZ (H a))(hs:Heap.SameBut a s.heap h')(he:∃q,h'.get? a=some q)(new:b7 X.prog X.w (upd H a ob) h' a ob) :
  a6 X pins σ (upd H a ob) { s with heap:=h',toks:=t' }:=
 I.write (x:=a) (e:=a) mu (.inl rfl) (λb q hb z=>(hs.2 b hb).trans z) he new
theorem at6 {P:Program}{w:World}{H':Hp}{h':Heap}{kvs:List (aC×V)}{vs:List (aC×Value)}(z:kvs.length<=sizeLine)(hd:(a==sysModules)=false)(rel:KV kvs vs)(dd:h'.DictOf (eU P w) a vs) :
  b7 P w H' h' a (.dK kvs):=⟨z,hd,vs,rel,dd⟩
theorem at7 {H':Hp}{Q:Unit->Shared->Prop}(hu:A.units+1<cLine)(I:a6 X pins σ H s)(g:jB H a y v H')(ry:aM y u)(rv:aM v r)(h:∀s',a6 X pins σ H' s'->Q () s') :
  wpAny (model X.prog X.w) A (setItem (.ref a) u r) Q E s:=by
 rcases g with⟨kvs,k,e,ey,l,eH⟩|⟨kvs,k,b,e,ey,eb,l,eH⟩
 ·subst ey eH
  obtain⟨z,hd,vs,rel,dd⟩:=at2 I.hok e
  have hz:vs.length<=sizeLine:=by rw[<- rel.length];exact z
  have hl:(e8 kvs k v).length<=sizeLine:=by have:=E6 kvs k v;omega
  refine wpAny_setItem_pairs (hsz:=hz) (nR ry) dd λh' dd' hs=>h _ ?_
  have he:∃q,h'.get? a=some q:=let ⟨q,_,_,hq,_⟩:=dd';⟨q,hq⟩
  exact uZ I (by rw[e];exact by0) hs he (at6 hl hd (rel.put k rv) dd')
 ·subst ey eH
  cases (show u=Value.ref b from ry)
  obtain⟨z,hd,xs,rel,dd⟩:=E8 I.hok e
  have hz:xs.length<=sizeLine:=by rw[<- Paired.length rel];exact z
  have hl:(e8 kvs k v).length<=sizeLine:=by have:=E6 kvs k v;omega
  refine wpAny_setItem_heap (hsz:=hz) (tupleKind_room_in1 hu) (lJ I.hok eb) dd λh' dd' hs=>h _ ?_
  obtain⟨q,es,ep,hq,h2,h3,h4,_,h5⟩:=dd'
  refine uZ I (by rw[e];exact by0) hs ⟨q,hq⟩ ⟨hl,hd,_,(rel.put k eb rv).keeps λc ys ec=>?_,q,es,ep,hq,h2,h3,h4,h5⟩
  rw[a8 (yZ ec e (λz=>nomatch z))]
  exact ec
end
section
variable {X:Cx}{pins:List (Addr×Obj)}{σ:St}{H:Hp}{s:Shared}{a:Addr}{kvs:List (aC×V)}{k:aC}{u:Value}{A:Around}{E:Value→Shared→Prop}
theorem at8 {Q:Value->Shared->Prop}(I:a6 X pins σ H s)(e:Rd H a (.dK kvs))(h:∀t s',a6 X pins σ H s'->Q (.int kvs.length t) s'):wpAny (model X.prog X.w) A (call (.builtin "len") [.ref a]) Q E s:=by
 obtain⟨z,hd,vs,rel,dd⟩:=lI I.hok e
 refine call_len_dict hd dd (by rw[<- rel.length];rw[sizeLine_eq]at z;omega) ?_
 rw[<- rel.length]
 exact h _ _ (I.tok _)
end
def v3 (i:Expr):Prop:=∀ov iv,subscripted i false ov iv=operate [ov,iv] (getItem ov iv)
theorem at9 {prog:Program}{w:World}{A:Around}{E:Value->Shared->Prop}{s:Shared}{env:Env}{value slice:Expr}{pos:Pos}{T id:String}{Q:Value->Shared->Prop}(hl:typeLookup (.type T) "__getitem__" = pure (some (.builtin id)))(hs:v3 slice)(h:wpAny (model prog w) A (eval value env) (λo s₁=>wpAny (model prog w) A (eval slice env) (λi s₂=>s₂.TypeIs o T/\wpAny (model prog w) A (getItem o i) Q E s₂) E s₁) E s) :
  wpAny (model prog w) A (eval (.Subscript value slice pos) env) Q E s:=by
 refine Subscript_ (bo6 h (λo s₁ h₁=>bo6 h₁ (λi s₂ h₂=>?_) λ_ _ x=>x) λ_ _ x=>x)
 obtain⟨hT,h₂⟩:=h₂
 unfold subscriptTail
 refine bh3 ?_
 rw[getitemInPython_of_ne hT.not_modules]
 refine bh3 (wpAny_specialOf hT hl ?_)
 have fin:wpAny (model prog w) A (subscripted slice false o i) (λr s₃=>wpAny (model prog w) A (letTemporaryGo value o r >>= λ_=>pure r) Q E s₃) E s₂:=by
  rw[hs o i]
  exact wpAny_operating (bo6 h₂ (λr s₃ h₃=>bh3 (wpAny_letTemporaryGo (bi0 h₃))) λ_ _ x=>x)
 first
  |exact bi0 (bh3 fin)
  |exact bh3 (bi0 (bh3 fin))
  |exact bh3 fin
theorem au0 {X:Cx}{pins:List (Addr×Obj)}{σ:St}{H:Hp}{s:Shared}{a:Addr}{y:V}{o:Option V}(I:a6 X pins σ H s)(g:eW H a y o):s.TypeIs (.ref a) "dict":=by
 rcases g with⟨kvs,k,e,_,_⟩|⟨kvs,k,b,e,_,_,_⟩
 ·obtain⟨_,_,vs,_,dd⟩:=lI I.hok e
  exact dd.typeIs
 ·obtain⟨_,_,xs,_,dd⟩:=nS I.hok e
  exact dd.typeIs
def E9 (td ty:TE):TE:=λσ H Q=>td σ H λx H1=>ty σ H1 λy H2=>∃a v,x = .ref a/\eW H2 a y (some v)/\Q v H2
def F0 (ty td:TE):TE:=λσ H Q=>ty σ H λy H1=>td σ H1 λx H2=>∃a o,x = .ref a/\eW H2 a y o/\Q (.bl o.isSome) H2
def F1 (ty td:TE):TE:=λσ H Q=>ty σ H λy H1=>td σ H1 λx H2=>∃a o,x = .ref a/\eW H2 a y o/\Q (.bl (!o.isSome)) H2
def v4 (td ty tv:TE):TS:=λD σ H=>tv σ H λv H1=>td σ H1 λx H2=>ty σ H2 λy H3=>∃a H4,x = .ref a/\jB H3 a y v H4/\D.nx σ H4
section
variable {X:Cx}{o i e value:Expr}{pos pos' tpos:Pos}{td ty tv:TE}
theorem au1 (hu:X.A.units+1<cLine)(ho:PE X o td)(hi:PE X i ty)(hs:v3 i):PE X (.Subscript o i pos) (E9 td ty):=by
 intro pins s σ H Q I h
 refine at9 PySem.F.slot_dict_getitem.lookup hs (aK (ho pins s σ H _ I h) λu s1 ⟨x,H1,I1,rx,q1⟩=>aK (hi pins s1 σ H1 _ I1 q1) λiv s2 ⟨y,H2,I2,ry,a,v,ex,g,q2⟩=>?_)
 subst ex
 obtain rfl:u=Value.ref a:=rx
 exact⟨au0 I2 g,at3 hu I2 g ry λw' s3 I3 rw'=>⟨v,H2,I3,rw',q2⟩⟩
theorem au2 (hu:X.A.units+1<cLine)(hi:PE X i ty)(ho:PE X o td):PC X .In i o (F0 ty td):=by
 intro pins s σ H Q I h
 refine aK (hi pins s σ H _ I h) λiv s1 ⟨y,H1,I1,ry,q1⟩=>aK (ho pins s1 σ H1 _ I1 q1) λu s2 ⟨x,H2,I2,rx,a,ov,ex,g,q2⟩=>?_
 subst ex
 obtain rfl:u=Value.ref a:=rx
 exact at4 hu I2 g ry λs3 I3=>⟨.bl ov.isSome,H2,I3,rfl,q2⟩
theorem au3 (hu:X.A.units+1<cLine)(hi:PE X i ty)(ho:PE X o td):PC X .NotIn i o (F1 ty td):=by
 intro pins s σ H Q I h
 refine aK (hi pins s σ H _ I h) λiv s1 ⟨y,H1,I1,ry,q1⟩=>aK (ho pins s1 σ H1 _ I1 q1) λu s2 ⟨x,H2,I2,rx,a,ov,ex,g,q2⟩=>?_
 subst ex
 obtain rfl:u=Value.ref a:=rx
 exact at5 hu I2 g ry λs3 I3=>⟨.bl (!ov.isSome),H2,I3,rfl,q2⟩
theorem F3 (hu:X.A.units+1<cLine)(ho:PE X o td)(hi:PE X i ty)(hv:PE X value tv)(hs:swapsWith value (some (.Subscript o i pos')) pos.line X.env=pure false) :
  PS X (.Assign [.Subscript o i pos'] value pos) (v4 td ty tv):=by
 intro pins s σ H D I h
 refine wpAny_Assign_Subscript (aK (hv pins s σ H _ I h) λr s1 ⟨v,H1,I1,rv,q1⟩=>aK (ho pins s1 σ H1 _ I1 q1) λu s2 ⟨x,H2,I2,rx,q2⟩=>aK (hi pins s2 σ H2 _ I2 q2) λiv s3 ⟨y,H3,I3,ry,a,H4,ex,g,q3⟩=>?_) hs
 subst ex
 obtain rfl:u=Value.ref a:=rx
 exact at7 hu I3 g ry rv λs4 I4=>⟨σ,H4,I4,q3⟩
end
theorem au4 {P:Program}{w:World}{H:Hp}(h:Heap)(hb:sysModules<h.objs.size):b7 P w H (h.push { cls:=.type "dict",data:=.dict #[] }) h.objs.size (.dK []):=
 ⟨bl4 _,beq_eq_false_iff_ne.mpr (Ne.symm (bl3 hb)),[],.nil,Heap.DictOf.new h⟩
theorem F4 {P:Program}{w:World}{H:Hp}(h:Heap)(hb:sysModules<h.objs.size):b7 P w H (h.push { cls:=.type "dict",data:=.dict #[] }) h.objs.size (.dT []):=
 ⟨bl4 _,beq_eq_false_iff_ne.mpr (Ne.symm (bl3 hb)),[],.nil,_,#[],0,bj2 _ rfl,⟨rfl,rfl,rfl⟩,rfl,rfl,List.nodup_nil⟩
def F5:TE:=λ_ H Q=>∀p,H p=none->Q (.ref p) (upd H p (.dK []))
def F6:TE:=λ_ H Q=>∀p,H p=none->Q (.ref p) (upd H p (.dT []))
section
variable {X:Cx}{pos:Pos}
theorem au5:PE X (.Dict [] [] pos) F5:=λpins s σ H Q I h=>
 wpAny_Dict_empty ⟨.ref s.heap.objs.size,_,I.laid (a:=s.heap.objs.size) (o:=.dK []) (t':=s.toks) (λ_ _ q=>bh4 _ q) (bh8 _) (au4 s.heap I.big),rfl,h _ (I.hok.fresh (bh8 _))⟩
theorem au6:PE X (.Dict [] [] pos) F6:=λpins s σ H Q I h=>
 wpAny_Dict_empty ⟨.ref s.heap.objs.size,_,I.laid (a:=s.heap.objs.size) (o:=.dT []) (t':=s.toks) (λ_ _ q=>bh4 _ q) (bh8 _) (F4 s.heap I.big),rfl,h _ (I.hok.fresh (bh8 _))⟩
end
def v5:List (TE×TE)->St->Hp->(List (V×V)->Hp->Prop)->Prop
 |[],_,H,Q=>Q [] H
 |(tk,tv)::r,σ,H,Q=>tk σ H λx H1=>tv σ H1 λy H2=>v5 r σ H2 λps H3=>Q ((x,y)::ps) H3
abbrev VV:List (V×V)->List (Value×Value)->Prop:=Paired λp q=>aM p.1 q.1/\aM p.2 q.2
def v6 (X:Cx)(pos:Pos)(keys:List (Option Expr))(values:List Expr)(trs:List (TE×TE)):Prop:=
 ∀(pins:List (Addr×Obj)) (s:Shared) (σ:St) (H:Hp) (Q:List (V×V)->Hp->Prop),a6 X pins σ H s->v5 trs σ H Q->
  wpAny (model X.prog X.w) X.A (evalPairs (pairTrees keys values X.env pos)) (λvs s'=>∃ps H',a6 X pins σ H' s'/\VV ps vs/\Q ps H') X.xe s
theorem au7 {X:Cx}{pos:Pos}:v6 X pos [] [] []:=λpins s σ H Q I h=>pairTrees_nil_walk ⟨[],H,I,.nil,h⟩
theorem au8 {X:Cx}{pos:Pos}{k v:Expr}{ks:List (Option Expr)}{vs:List Expr}{tk tv:TE}{trs:List (TE×TE)}(hk:PE X k tk)(hv:PE X v tv)(hr:v6 X pos ks vs trs) :
  v6 X pos (some k::ks) (v::vs) ((tk,tv)::trs):=λpins s σ H Q I h=>
 pairTrees_cons_walk (aK (hk pins s σ H _ I h) λu s1 ⟨x,H1,I1,rx,q1⟩=>aK (hv pins s1 σ H1 _ I1 q1) λw2 s2 ⟨y,H2,I2,ry,q2⟩=>
  aK (hr pins s2 σ H2 _ I2 q2) λws s3 ⟨ps,H3,I3,rel,q3⟩=>⟨(x,y)::ps,H3,I3,.cons ⟨rx,ry⟩ rel,q3⟩)
structure M2 (X:Cx)(o:Expr)(m:Str)(apos:Pos)(e f:Expr)(cpos:Pos):Prop where
 base:attributeBase o m X.env (eval o X.env)=eval o X.env
 few:((backTo cpos (starEach [e,f] X.env)).all (λx=>!x.1)&&(backToKw cpos (keywordEach [] X.env)).all (λx=>x.1.isSome)
 &&decide (([e,f]:List Expr).length+([]:List Keyword).length+(if ([]:List Keyword).isEmpty then 0 else 1)<30))=true
 line:(apos.endLine==cpos.line)=true
 trees:backTo cpos (starEach [e,f] X.env) = [(false,eval e X.env),(false,eval f X.env)]
end L2
namespace Att
open PySem PySem.W PySem.Calls PyProof.Rows
theorem au9 {P:Params}{h:Heap}:∀(ns:ae) (vs:List Value),WellAll P h vs (ns.map WData.int)->IntsAre vs ns:=by
 intro ns
 induction ns with
 |nil=>
  intro vs w
  rw[List.map_nil]at w
  cases w
  exact .nil
 |cons n ns ih=>
  intro vs w
  rw[bm6]at w
  cases w with
  |cons a b=>
   cases a
   exact .cons _ _ (ih _ b)
theorem F7 {l:OpenLaw}{n:Nat}(hn:l.most=some n){P:Params}{h:Heap}{args:List WData}{vals:List Value}(hpre:l.row.toRowW.claim.pre args=true)(hwl:WellAll P h vals args) :
  ∃a vs ns,vals = [Value.ref a]/\args = [WData.list (ns.map WData.int)]/\h.get? a=some { cls:=.type "list",data:=.seq vs.toArray }/\IntsAre vs ns/\ns.length<=n:=by
 have hsh:WShape.hasAll [] args [.list .int]=true:=(pre_splitW hpre).1
 have hc:l.pre.holds [] { args:=args }=true:=(pre_splitW hpre).2
 obtain⟨d,r,rfl,h1,h2⟩:=hasAllW_cons hsh
 obtain rfl:=hasAllW_nil h2
 obtain⟨xs,rfl,h3⟩:=hasW_list h1
 obtain⟨ns,rfl⟩:=items_int h3
 have hlen:ns.length<=n:=by
  unfold OpenLaw.pre at hc
  have h4:(WTm.not (.lt (.lit (.int (n:Int))) (.len (.arg 0)))).holds [] { args:=[.list (ns.map .int)] }=true:=by
   have h4:=(holds_andW hc).1
   rw[hn]at h4
   exact h4
  have h5:=condW_of h4 (w_not (w_lt w_lit (w_len_list (w_arg rfl))))
  rw[bi1]at h5
  refine Nat.le_of_not_lt λq=>?_
  have q':(n:Int)<((ns.length:Nat):Int):=by omega
  first
   |(rw[bi9 q']at h5;exact absurd h5 (by decide))
   |(simp at h5;omega)
 cases hwl with
 |cons w1 w2=>
  cases w2
  cases w1 with
  |list ho hall=>exact⟨_,_,ns,rfl,rfl,ho,au9 ns _ hall,hlen⟩
theorem F8 (l:OpenLaw)(args:List WData):l.row.toRowW.claim.post args (.bool true) args=true:=
 postW_of (r:=l.row.toRowW) (X:=(true==true))
  (show WShape.has [] (.bool true) .bool=true by first|rfl|decide|simp[WShape.has,WShape.arms,WShape.armsAll])
  (show (WTm.eq .res (.lit (.bool true))).value [] { args:=args,res:=some (.bool true),after:=args }=some (.bool (true==true)) from w_eq_bool (w_res rfl) w_lit) rfl
theorem bh1 {l:OpenLaw}{n:Nat}{q:Program}{loose:List Str}{XP:(Str->Option Value)->Heap->Prop}{YP:World->Heap->Prop}{d:DefRec}{x:Str}(hn:l.most=some n)(hdf:d.params.defaults = [])(hbind:∀pm cd doc v:Value,bindArgs (docDef d.name d.params d.body d.scope pm cd doc) ⟨[v],[]⟩=pure [(x,v)])(hx:d.scope.names.lookup x=some .local∨d.scope.names.lookup x=some .cell)(hk:d.scope.kind = .function)(hco:d.scope.isCoroutine=false)(hgen:d.scope.isGenerator=false)(body:∀(w:World) (s₀ s₁ s:Shared) (mg mb:Str->Option Value) (fa:Addr) (o:Obj) (pm cd doc:Value) (a:Addr) (vs:List Value) (ns:ae),
   Ground q loose [] XP w s₀ mg mb s₁.heap->YP w s₁.heap->
   s₁.heap.get? fa=some o->o.data = .func (docDef d.name d.params d.body d.scope pm cd doc)->s₁.heap.CodeRec cd d.name->mg d.name=some (.ref fa)->
   s₁.heap.get? a=some { cls:=.type "list",data:=.seq vs.toArray }->IntsAre vs ns->ns.length<=n->
   s.gens = #[]->s.os=s₁.os->
   Fr s₁.heap s₁.heap.objs.size s.heap (bindL (envOfC d.name d.scope s₁.heap.objs.size fa cd).kindOf [(x,.ref a)] λ_=>none)->
   Cl s₁.heap.objs.size (cellsFrom (s₁.heap.objs.size+1) d.scope.names []) s.heap (bindC (envOfC d.name d.scope s₁.heap.objs.size fa cd).kindOf [(x,.ref a)] λ_=>none)->
   wpAny (model l.prog w) (callerA.deeper (envOfC d.name d.scope s₁.heap.objs.size fa cd)) (execs d.body (envOfC d.name d.scope s₁.heap.objs.size fa cd))
    (λf s'=>f = .ret (.bool true)/\OldK s₁.heap s'.heap/\s'.os=s₁.os/\AllBare s'.gens) (λ_ _=>False) s) :
  WalkO q loose XP YP l.row.toRowW d [] (λf vs=>PySem.call f vs):=by
 intro w s₀ s₁ mg mb G Y fa o pm cd doc dV kV ho hd hcd hD hmg hg args vals as hpre hlay hrd hwl hlo
 obtain rfl:dV = .none:=Dflts.none hD hdf
 obtain rfl:kV = .none:=Dflts.noKw hD
 obtain⟨a,vs,ns,rfl,rfl,hobj,hints,hlen⟩:=F7 hn hpre hwl
 refine enter_call ?_
 refine call_cells_ret (o:=o) (by rw[depth_caller];decide) ho (fd_plain hd) G.T.nolimit hcd (hbind pm cd doc (.ref a)) (λy hy=>?_) (λh₁ tk F X=>?_) hco hgen hk
 ·obtain rfl:y=(x,Value.ref a):=bi6.mp hy
  rcases hx with e|e
  ·exact .inl e
  ·exact .inr ⟨e,cellsFrom_some _ _ _ (.inl e)⟩
 ·refine bo6 (body w s₀ s₁ { s₁ with heap:=h₁,toks:=tk } mg mb fa o pm cd doc a vs ns G Y ho (fd_plain hd) hcd hmg hobj hints hlen hg rfl F X) (λf s' hq=>?_) (λ_ _ hq=>hq)
  obtain⟨rfl,h2,h3,h4⟩:=hq
  exact⟨.inl ⟨.bool true,.bool true,[],rfl,λ_=>rfl,.bool true,F8 l _,λ_=>⟨bp2,λ_ hm=>(nomatch hm)⟩⟩,h2,h3,h4⟩
theorem av0 {l:OpenLaw}{n:Nat}{q:Program}{loose:List Str}{XP:(Str->Option Value)->Heap->Prop}{YP:World->Heap->Prop}{d:DefRec}(hn:l.most=some n)(hdf:d.params.defaults = [])(call:∀(w:World) (s₀ s₁:Shared) (mg mb:Str->Option Value) (fa:Addr) (o:Obj) (pm cd doc:Value) (a:Addr) (vs:List Value) (ns:ae),
   Ground q loose [] XP w s₀ mg mb s₁.heap->YP w s₁.heap->
   s₁.heap.get? fa=some o->o.data = .func (docDef d.name d.params d.body d.scope pm cd doc)->s₁.heap.CodeRec cd d.name->mg d.name=some (.ref fa)->
   s₁.heap.get? a=some { cls:=.type "list",data:=.seq vs.toArray }->IntsAre vs ns->ns.length<=n->s₁.gens = #[]->
   codeAny (model l.prog w) callerA (.call (.ref fa) ⟨[.ref a],[]⟩) (λr s'=>r = .ok (.ret (.bool true))/\OldK s₁.heap s'.heap/\s'.os=s₁.os/\AllBare s'.gens) s₁) :
  WalkO q loose XP YP l.row.toRowW d [] (λf vs=>PySem.call f vs):=by
 intro w s₀ s₁ mg mb G Y fa o pm cd doc dV kV ho hd hcd hD hmg hg args vals as hpre hlay hrd hwl hlo
 obtain rfl:dV = .none:=Dflts.none hD hdf
 obtain rfl:kV = .none:=Dflts.noKw hD
 obtain⟨a,vs,ns,rfl,rfl,hobj,hints,hlen⟩:=F7 hn hpre hwl
 refine enter_call (codeAny_mono (call w s₀ s₁ mg mb fa o pm cd doc a vs ns G Y ho (fd_plain hd) hcd hmg hobj hints hlen hg) λr s' hq=>?_)
 obtain⟨rfl,h2,h3,h4⟩:=hq
 exact⟨.inl ⟨.bool true,.bool true,[],rfl,λ_=>rfl,.bool true,F8 l _,λ_=>⟨bp2,λ_ hm=>(nomatch hm)⟩⟩,h2,h3,h4⟩
end Att
namespace L2
open PySem PySem.Spec PyProof.Rows
theorem F9:∀{vs:List Value}{ns:ae},IntsAre vs ns->aF (ns.map V.int) vs
 |_,_,.nil=>.nil
 |_,_,.cons n t h=>.cons ⟨t,rfl⟩ (F9 h)
def pQ (H:Hp):Prop:=∀b,H b=none∨∃o xs,H b=some (.frz o (.lst xs))
theorem av1 {P:Program}{w:World}{K:ac}{mg mb:Str->Option Value}{CX:fW}{k:Nat}{fa a:Addr}{fd:FuncData}{x:Str}{sp:Sp}{s₁:Shared}{vs:List Value}{ns:ae}(KX:K.In s₁.heap)(hns:s₁.heap.Ns mainGlobals mg)(hb:s₁.heap.Ns builtinsNs mb)(hbb:∀x:Str,x≠"__name__"->mb x=bootBuiltins x)(hlim:s₁.heap.NoLimit)(hg:s₁.gens = #[])(ha:s₁.heap.get? a=some { cls:=.type "list",data:=.seq vs.toArray })(hi:IntsAre vs ns)(hl:ns.length<=sizeLine)(hr:bR k callerA)(F:∀base:Heap,K.In base->base.Ns mainGlobals mg->cD P w K mg base CX k fa fd [x] sp)(hbind:∀(s:Shared) (u:Value),BindsTo s fd ⟨[u],[]⟩ [(x,u)])(hsp:∀H:Hp,pQ H->aJ K H a (ns.map V.int)->sp [.ref a] H (λv _=>v = .bl true) λ_ _ _=>False)(hCX:∀H e s',CX [] H s₁ (λ_ _ _=>False) e s'->False) :
  codeAny (model P w) callerA (.call (.ref fa) ⟨[.ref a],[]⟩) (λr s'=>r = .ok (.ret (.bool true))/\OldK s₁.heap s'.heap/\s'.os=s₁.os/\AllBare s'.gens) s₁:=by
 have rv:=F9 hi
 have lenV:=hi.length
 have core:∀H:Hp,pQ H->aJ K H a (ns.map V.int)->bG P w H s₁.heap->(∀b,H b≠none->b=a)->(H a≠none->K.lookup a=none)->
   codeAny (model P w) callerA (.call (.ref fa) ⟨[.ref a],[]⟩) (λr s'=>r = .ok (.ret (.bool true))/\OldK s₁.heap s'.heap/\s'.os=s₁.os/\AllBare s'.gens) s₁:=by
  intro H hO hS hok hA hK
  have base_of:∀{b:Addr}{o:Obj},s₁.heap.get? b=some o->H b=none->(iB s₁.heap H).get? b=some o:=λe n=>aj5 e n
  have noA:∀{b:Addr}{o:Obj}{es:Array DictEntry}{ep:Nat},s₁.heap.get? b=some o->o.data = .dict es ep->H b=none:=λ{b o es ep} e d=>by
   cases q:H b with
   |none=>rfl
   |some u=>
    have e':b=a:=hA b (by rw[q];simp)
    subst e'
    rw[ha]at e;cases e
    have d':Data.seq vs.toArray _=Data.dict es ep:=d
    cases d'
  have nsK:∀{b:Addr}{m:Str->Option Value},s₁.heap.Ns b m->(iB s₁.heap H).Ns b m:=λ{b m} ⟨o,es,ep,e,d,r⟩=>⟨o,es,ep,base_of e (noA e d),d,r⟩
  have hKb:K.In (iB s₁.heap H):=λb o e=>base_of (KX b o e) (by
   cases q:H b with
   |none=>rfl
   |some u=>
    have e':b=a:=hA b (by rw[q];simp)
    subst e'
    rw[hK (by rw[q];simp)]at e;cases e)
  have hM:Mod K mg (iB s₁.heap H):=⟨hKb,nsK hns,⟨mb,nsK hb,hbb⟩,let ⟨mc,h1,h2⟩:=hlim;⟨mc,nsK h1,h2⟩⟩
  have e0:nK P w K mg (iB s₁.heap H) callerA [] s₁ H:=⟨rfl,hM,λb o e=>aj6 e,Nat.le_of_eq (aj4 _ _),trivial,λb hb=>absurd (show b∈([]:List Addr) from hb) (by simp),hok,.of_eq hg⟩
  refine codeAny_mono ((F _ hKb (nsK hns)).run callerA [] s₁ H ⟨[.ref a],[]⟩ [.ref a] [.ref a] _ _ hr e0 (hbind s₁ (.ref a)) (.cons rfl .nil) (hsp H hO hS)) λr s' h=>?_
  cases r with
  |error e=>exact (hCX H e s' h).elim
  |ok fl=>
   cases fl with
   |next=>exact False.elim h
   |brk=>exact False.elim h
   |cont=>exact False.elim h
   |ret u=>
    obtain⟨v,H',os,bare,un,hok',r',q⟩:=h
    have q':v = .bl true:=q
    subst q'
    obtain rfl:u=Value.bool true:=r'
    refine⟨rfl,OldK.of_keep λb o e=>?_,os,bare⟩
    cases q:H b with
    |none=>exact un.keep b o e q (by intro z;exact absurd (show b∈([]:List Addr) from z) (by simp)) (by simp)
    |some u=>
     rcases hO b with z|⟨ob,xs,z⟩
     ·rw[q]at z;cases z
     ·have z2:=un.frzs b ob _ z
      obtain⟨e1,_⟩:=hok b _ z
      obtain⟨e2,_⟩:=hok' b _ z2
      rw[e]at e1;cases e1
      exact e2
 cases hk:K.lookup a with
 |some o=>
  have e:=KX a o hk
  rw[ha]at e
  cases e
  refine core (λ_=>none) (λ_=>.inl rfl) (.inr ⟨_,vs.toArray,_,hk,rfl,rfl,rfl,by rw[bh6,lenV];exact hl,by simpa using rv⟩) (λb u z=>by have z':(none:Option HO)=some u:=z;cases z') (λb z=>absurd rfl z) λz=>absurd rfl z
 |none=>
  refine core (λb=>if b=a then some (.frz { cls:=.type "list",data:=.seq vs.toArray } (.lst (ns.map V.int))) else none) (λb=>?_) (.inl (.inr ⟨{ cls:=.type "list",data:=.seq vs.toArray },if_pos rfl⟩)) (λb u z=>?_) (λb z=>?_) λ_=>hk
  ·by_cases hb:b=a
   ·exact .inr ⟨_,_,if_pos hb⟩
   ·exact .inl (if_neg hb)
  ·by_cases hb:b=a
   ·have z':=(if_pos hb).symm.trans z
    cases z'
    subst hb
    exact⟨ha,by rw[bi1];exact hl,vs,_,rv,ha⟩
   ·have z':=(if_neg hb).symm.trans z
    cases z'
  ·by_cases hb:b=a
   ·exact hb
   ·exact absurd (if_neg hb) z
theorem av2 {l:PySem.W.OpenLaw}{n k:Nat}{q:Program}{loose:List Str}{XP:(Str->Option Value)->Heap->Prop}{YP:World->Heap->Prop}{d:DefRec}{K:Params->ac}{CX:World->fW}{sp:World->Sp}{x:Str}(hn:l.most=some n)(hn2:n<=sizeLine)(hdf:d.params.defaults = [])(hr:bR k callerA)(hY:∀(w:World) (h:Heap),YP w h->(K w.params).In h)(F:∀(w:World) (mg:Str->Option Value) (fa:Addr) (h:Heap),(K w.params).In h->h.Ns mainGlobals mg->mg d.name=some (.ref fa)->
   ∃fd:FuncData,(∀(s:Shared) (u:Value),BindsTo s fd ⟨[u],[]⟩ [(x,u)])/\
    ∀base:Heap,(K w.params).In base->base.Ns mainGlobals mg->cD l.prog w (K w.params) mg base (CX w) k fa fd [x] (sp w))(hsp:∀(w:World) (H:Hp) (a:Addr) (ns:ae),ns.length<=n->pQ H->aJ (K w.params) H a (ns.map V.int)->sp w [.ref a] H (λv _=>v = .bl true) λ_ _ _=>False)(hCX:∀(w:World) (H:Hp) (s:Shared) (e:Value) (s':Shared),CX w [] H s (λ_ _ _=>False) e s'->False) :
  PySem.W.WalkO q loose XP YP l.row.toRowW d [] (λf vs=>PySem.call f vs):=by
 refine Att.av0 hn hdf λw s₀ s₁ mg mb fa o pm cd doc a vs ns G Y ho hd hcd hmg hobj hints hlen hg=>?_
 have KX:=hY w _ Y
 obtain⟨fd,hb,hF⟩:=F w mg fa _ KX G.T.g hmg
 exact av1 KX G.T.g G.T.b G.T.builtins G.T.nolimit hg hobj hints (bm0 hlen hn2) hr hF hb (λH hO hS=>hsp w H a ns hlen hO hS) λH e s'=>hCX w H s₁ e s'
def hJ (s:Stmt):Arguments:=match s with
 |.FunctionDef _ a _ _ _ _ _ _ _ _=>a
 |_=>{ posonlyargs:=[],args:=[],vararg:=none,kwonlyargs:=[],kw_defaults:=[],kwarg:=none,defaults:=[] }
def dH (s:Stmt):List Stmt:=match s with
 |.FunctionDef _ _ b _ _ _ _ _ _ _=>b
 |_=>[]
def aN (s:Stmt):Scope:=match s with
 |.FunctionDef _ _ _ _ _ _ sc _ _ _=>sc
 |_=>{ kind:=.function,names:=[],isGenerator:=false,isCoroutine:=false }
abbrev cL:fW:=λ_ _ _ _ _ _=>False
abbrev E0:XK:=λ_ _ _=>False
theorem G0 {X:Cx}:nL cL X E0:=λ_ _ _ _ _ _ _ h=>h.elim
structure dR (K:ac)(x qual:Str)(st:Stmt)(f:Addr)(fd:FuncData):Prop where
 ex:∃(oc:Value) (od:Option Addr) (kV doc pm:Value) (an:Option Addr) (cdv ct:Value) (osl:Array (Option Value)),
  fd=PySem.W.fnOf x qual (hJ st) (dH st) (aN st) .none kV doc pm an cdv ct/\K.lookup f=some ⟨oc,od,.func fd,osl⟩/\PySem.W.codeIn K cdv qual=true
 kp:PySem.W.keepIn K (.ref f)=true
section
variable {P:Program}{w:World}{K:ac}{mg:Str→Option Value}{base:Heap}
theorem dR.ok {x qual:Str}{st:Stmt}{f:Addr}{fd:FuncData}{N ps:List Str}{k:Nat}{sp:Sp}(F:dR K x qual st f fd)(S:FnScope N ps (aN st))(len:∀vs H Q E,sp vs H Q E->vs.length=ps.length)(hbody:∀(cdv:Value) (A:Around) (outer:List Env) (s:Shared) (H:Hp) (vs:List V) (Q:VK) (E:XK),bR k (A.deeper (envOfC qual (aN st) s.heap.objs.size f cdv))->sp vs H Q E->
   ∃t,dE (cK cL P w K mg base N qual (aN st) f cdv A outer s H E).nox (dH st) t/\t { nx:=λ_ H'=>Q .non H',rt:=Q } (fX N vs) H):cD P w K mg base cL (k+1) f fd ps sp:=by
 obtain⟨oc,od,kV,doc,pm,an,cdv,ct,osl,rfl,lk,hcd⟩:=F.ex
 refine B1 lk hcd S len λA outer s H vs Q E hr hsp=>?_
 obtain⟨t,h,q⟩:=hbody cdv A outer s H vs Q E hr hsp
 exact⟨t,h.nox,q⟩
theorem dR.binds {x qual:Str}{st:Stmt}{f:Addr}{fd:FuncData}{ps:List Str}(F:dR K x qual st f fd)(h:∀(kV doc pm:Value) (an:Option Addr) (cdv ct:Value) (us:List Value),us.length=ps.length->bindArgs (PySem.W.fnOf x qual (hJ st) (dH st) (aN st) .none kV doc pm an cdv ct) ⟨us,[]⟩=pure (ps.zip us)):gJ K fd ps []:=by
 obtain⟨oc,od,kV,doc,pm,an,cdv,ct,osl,rfl,lk,hcd⟩:=F.ex
 exact .all (h kV doc pm an cdv ct)
theorem av3 {x qual:Str}{st:Stmt}{f:Addr}{oc:Value}{od an:Option Addr}{osl:Array (Option Value)}{kV doc pm cdv ct:Value}(l:K.lookup f=some ⟨oc,od,.func (PySem.W.fnOf x qual (hJ st) (dH st) (aN st) .none kV doc pm an cdv ct),osl⟩)(c:PySem.W.codeIn K cdv qual=true)(k:PySem.W.keepIn K (.ref f)=true):dR K x qual st f (PySem.W.fnOf x qual (hJ st) (dH st) (aN st) .none kV doc pm an cdv ct):=⟨⟨oc,od,kV,doc,pm,an,cdv,ct,osl,rfl,l,c⟩,k⟩
end
theorem lK {A:Around}{k:Nat}(hr:bR k A):A.units+1<cLine:=Nat.lt_of_le_of_lt (Nat.add_le_add_left (by decide:1<=64) _) hr.units
theorem v7 {n:Nat}(h:n<=1000):n<sizeLine:=Nat.lt_of_le_of_lt h (by decide)
section
variable {X:Cx}
theorem pv (i:Nat){x:Str}{pos:Pos}(hN:X.N[i]? = some x:=by rfl)(hv:fQ X.env.scope x:=by first|exact Or.inl rfl|exact Or.inr (Or.inl rfl)|exact Or.inr (Or.inr rfl))(hd:(x==("__debug__":Str))=false:=by decide)(hcd:(x==("__classdict__":Str))=false:=by decide):PE X (.Name x pos) (dQ i):=iC hN hv hd hcd
theorem av4:cH X (.builtin "len") (λxs H Q=>∃a kvs,xs = [V.ref a]/\H a=some (.dK kvs)/\Q (.int kvs.length) H):=by
 intro pins s σ H xs us Q I r h
 obtain⟨a,kvs,rfl,ha,q⟩:=h
 obtain⟨u,rfl,ru⟩:=fV r
 cases ru
 exact at8 I (.inl ha) λt s' I'=>⟨.int kvs.length,H,I',⟨t,rfl⟩,q⟩
end
theorem bD {A B:Prop}(h:B):if false=true then A else B:=by
 rw[if_neg bj3]
 exact h
theorem cA {A B:Prop}(h:A):if true=true then A else B:=by
 rw[if_pos rfl]
 exact h
def aA (H H':Hp):Prop:=∀b o,H b=some o->H' b=some o
theorem aA.refl (H:Hp):aA H H:=λ_ _ h=>h
theorem aA.trans {H H1 H2:Hp}(a:aA H H1)(b:aA H1 H2):aA H H2:=λc o h=>b c o (a c o h)
theorem aA.free {H H':Hp}(e:aA H H'){l:Addr}(h:H' l=Option.none):H l=Option.none:=by
 cases q:H l with
 |none=>rfl
 |some o=>
  rw[e l o q]at h
  cases h
theorem aA.seq {K:ac}{H H':Hp}{a:Addr}{xs:List V}(e:aA H H')(h:aJ K H a xs):aJ K H' a xs:=by
 rcases h with (h|⟨o,h⟩)|h
 ·exact .inl (.inl (e _ _ h))
 ·exact .inl (.inr ⟨o,e _ _ h⟩)
 ·exact .inr h
def dS (cells:List (Str×Addr)):List (Str×NameKind)->List (Str×Addr)->List (Str×Addr)
 |[],cs=>cs
 |(n,k)::r,cs=>dS cells r (if k==.free then (n,(cells.lookup n).getD 0)::cs else cs)
theorem v8 {env:Env}:∀(ns:List (Str×NameKind)) (cs:List (Str×Addr)),(∀x∈ns,x.2 = .free->∃c,env.cells.lookup x.1=some c)->
  (forIn ns cs (λ(x:Str×NameKind) r=>(match x with
   |(name,kind)=>if (kind==.free)=true then (do let y <- cellOf env name;pure (ForInStep.yield ((name,y)::r))) else pure (ForInStep.yield r)):_->_->Sem _))=(pure (dS env.cells ns cs):Sem (List (Str×Addr)))
 |[],cs,_=>by rw[List.forIn_nil];rfl
 |(n,k)::r,cs,h=>by
  rw[List.forIn_cons]
  have hr:∀x∈r,x.2 = .free->∃c,env.cells.lookup x.1=some c:=λx hx=>h x (bi5 _ hx)
  cases hk:(k==NameKind.free) with
  |true=>
   have e:k = .free:=by simpa using hk
   obtain⟨c,hc⟩:=h (n,k) bh7 e
   simp only[hk,if_true]
   have e1:cellOf env n=pure c:=by unfold cellOf;rw[hc]
   rw[e1]
   show ((pure c >>= λy=>pure (ForInStep.yield ((n,y)::cs))) >>= _:Sem _)=_
   rw[pure_bind,pure_bind]
   have:=v8 (env:=env) r ((n,c)::cs) hr
   refine this.trans ?_
   unfold dS
   simp only[hk,if_true,hc,Option.getD_some]
   cases r<;>rfl
  |false=>
   simp only[hk,bk1,bn9]
   rw[pure_bind]
   have:=v8 (env:=env) r cs hr
   refine this.trans ?_
   conv=>rhs;unfold dS
   simp only[hk,bk1,bn9]
theorem pR {scope:Scope}{env:Env}(h:∀x∈scope.names,x.2 = .free->∃c,env.cells.lookup x.1=some c):closureFor scope env=pure (dS env.cells scope.names []):=by
 have e:=v8 (env:=env) scope.names [] h
 unfold closureFor
 rw[show (pure (dS env.cells scope.names []):Sem (List (Str×Addr)))=(pure (dS env.cells scope.names []) >>= pure) by rw[pure_bind]]
 rw[<- e]
theorem pS {cells:List (Str×Addr)}:∀(ns:List (Str×NameKind)) (cs:List (Str×Addr)) {x:Str}{c:Addr},(∀y∈ns,y.2 = .free->∃c,cells.lookup y.1=some c)->
  (∀x c,cs.lookup x=some c->cells.lookup x=some c)->(dS cells ns cs).lookup x=some c->cells.lookup x=some c
 |[],cs,x,c,_,hc,h=>hc x c h
 |(n,k)::r,cs,x,c,hn,hc,h=>by
  unfold dS at h
  have hr:∀y∈r,y.2 = .free->∃c,cells.lookup y.1=some c:=λy hy=>hn y (bi5 _ hy)
  cases hk:(k==NameKind.free) with
  |false=>
   simp only[hk,bk1,bn9]at h
   exact pS r cs hr hc h
  |true=>
   simp only[hk,if_true]at h
   refine pS r _ hr (λy d e=>?_) h
   obtain⟨c0,h0⟩:=hn (n,k) bh7 (by simpa using hk)
   have h0:cells.lookup n=some c0:=h0
   rw[h0]at e
   rw[bo9]at e
   by_cases hyn:y=n
   ·subst hyn
    simp only[bq4,Option.getD_some]at e
    rw[h0];exact e
   ·have:(y==n)=false:=beq_eq_false_iff_ne.mpr hyn
    simp only[this]at e
    exact hc y d e
theorem v9 {cells:List (Str×Addr)}:∀(ns:List (Str×NameKind)) (cs:List (Str×Addr)) {x:Str},((x,NameKind.free)∈ns∨∃c,cs.lookup x=some c)->∃c,(dS cells ns cs).lookup x=some c
 |[],cs,x,h=>by
  rcases h with h|h
  ·simp at h
  ·exact h
 |(n,k)::r,cs,x,h=>by
  unfold dS
  refine v9 r _ ?_
  rcases h with h|⟨c,h⟩
  ·rcases bi4.mp h with e|e
   ·cases e
    exact .inr ⟨_,by simp[bo9];rfl⟩
   ·exact .inl e
  ·right
   cases hk:(k==NameKind.free) with
   |false=>exact⟨c,by simpa[hk] using h⟩
   |true=>
    simp only[if_true]
    rw[bo9]
    by_cases hxn:(x==n)=true
    ·simp only[hxn];exact⟨_,rfl⟩
    ·simp only[bv2.mpr hxn];exact⟨c,h⟩
theorem pT {env:Env}:∀{names:List (Str×NameKind)}{x:Str}{k:NameKind},(names.map λ(n,k)=>if (k==NameKind.free&&env.scope.kind==.function&&env.kindOf n==some .cell) then (n,NameKind.cell) else (n,k)).lookup x=some k->
  names.lookup x=some k∨(names.lookup x=some .free/\k = .cell)
 |[],_,_,h=>by simp at h
 |(n,q)::r,x,k,h=>by
  have ih:=@pT env r x k
  rw[bm6]at h
  by_cases hx:(x==n)=true
  ·have e:x=n:=by simpa using hx
   subst e
   by_cases hc:(q==NameKind.free&&env.scope.kind==.function&&env.kindOf x==some .cell)=true
   ·simp only[hc,if_true,bo9,bq4]at h
    have hq:q = .free:=by simp at hc;exact hc.1.1
    exact .inr ⟨by simp[bo9,hq],(bk2 h).symm⟩
   ·simp only[hc,bk1,bn9,bo9,bq4]at h
    exact .inl (by simp[bo9];exact bk2 h)
  ·have hx':(x==n)=false:=bv2.mpr hx
   have h':(r.map λ(n,k)=>if (k==NameKind.free&&env.scope.kind==.function&&env.kindOf n==some .cell) then (n,NameKind.cell) else (n,k)).lookup x=some k:=by
    by_cases hc:(q==NameKind.free&&env.scope.kind==.function&&env.kindOf n==some .cell)=true
    ·simp only[hc,if_true,bo9,hx']at h;exact h
    ·simp only[hc,bk1,bn9,bo9,hx']at h;exact h
   simp only[bo9,hx']
   exact ih h'
def eY (fr:List (Option Nat))(σ:St):St:=fr.map λo=>o.bind λj=>(σ[j]?).join
def Wk (σ₁ σ₂:St):Prop:=σ₁.length=σ₂.length/\∀(i:Nat) v,σ₁[i]? = some (some v)->σ₂[i]? = some (some v)
theorem Wk.refl (σ:St):Wk σ σ:=⟨rfl,λ_ _ h=>h⟩
theorem Wk.set {σ τ:St}{i:Nat}{v:V}(h:Wk σ τ)(hi:σ[i]? = some none):Wk σ (τ.set i (some v)):=by
 refine⟨by rw[bm9];exact h.1,λj w e=>?_⟩
 by_cases hj:j=i
 ·subst hj;rw[hi]at e;cases e
 ·rw[bl9 (Ne.symm hj)];exact h.2 j w e
theorem iJ:∀(ns:List (Str×NameKind)) (n:Nat) (cs:List (Str×Addr)),cellsFrom n ns cs=cellsFrom n ns []++cs
 |[],_,_=>rfl
 |(x,k)::r,n,cs=>by
  unfold cellsFrom
  split
  ·rw[iJ r (n+1) ((x,n)::cs),iJ r (n+1) [(x,n)]];simp
  ·exact iJ r n cs
theorem vA:∀(ns:List (Str×NameKind)) (n:Nat) {x:Str}{c:Addr},(x,c)∈cellsFrom n ns []->(x,NameKind.cell)∈ns
 |[],_,_,_,h=>by simp[cellsFrom]at h
 |(y,k)::r,n,x,c,h=>by
  unfold cellsFrom at h
  split at h
  ·rename_i hk
   rw[iJ]at h
   rcases bl5.mp h with z|z
   ·exact bi5 _ (vA r _ z)
   ·rw[bi6]at z
    cases z
    have:k = .cell:=by simpa using hk
    rw[this];exact bh7
  ·exact bi5 _ (vA r _ h)
theorem pU:∀(ns:List (Str×NameKind)) (n:Nat) {x:Str},(x,NameKind.cell)∈ns->∃c,(x,c)∈cellsFrom n ns []
 |(y,k)::r,n,x,h=>by
  unfold cellsFrom
  rcases bi4.mp h with z|z
  ·cases z
   rw[if_pos (by rfl),iJ]
   exact⟨n,bl1 _ (by simp)⟩
  ·split
   ·obtain⟨c,hc⟩:=pU r (n+1) z
    rw[iJ]
    exact⟨c,bs0 _ hc⟩
   ·exact pU r n z
theorem vB {α:Type}:∀{l:List (Str×α)}{x:Str}{c:α},(x,c)∈l->∃d,l.lookup x=some d
 |(y,v)::r,x,c,h=>by
  rw[bo9]
  cases hb:x==y with
  |true=>exact⟨v,rfl⟩
  |false=>
   rcases bi4.mp h with z|z
   ·cases z;simp at hb
   ·exact vB z
theorem pV {α:Type}{x:Str}:∀(l r:List (Str×α)),(l++r).lookup x=(match l.lookup x with|some v=>some v|none=>r.lookup x)
 |[],_=>rfl
 |(y,v)::l,r=>by
  rw[List.cons_append,bo9,bo9]
  cases hb:x==y with
  |true=>rfl
  |false=>exact pV l r
def fY (X:Cx)(scope:Scope)(C:Addr):List (Str×Addr):=cellsFrom (C+1) scope.names (dS X.env.cells scope.names [])
theorem jX {X:Cx}{scope:Scope}{C:Addr}{x:Str}{c:Addr}(h:(fY X scope C).lookup x=some c) :
  (x,c)∈cellsFrom (C+1) scope.names []∨((∀d,(x,d)∉cellsFrom (C+1) scope.names [])/\(dS X.env.cells scope.names []).lookup x=some c):=by
 unfold fY at h
 rw[iJ,pV]at h
 cases e:(cellsFrom (C+1) scope.names []).lookup x with
 |some v=>rw[e]at h;cases h;exact .inl (bn7 e)
 |none=>
  rw[e]at h
  refine .inr ⟨λd hd=>?_,h⟩
  obtain⟨d',z⟩:=vB hd
  rw[e]at z;cases z
theorem av5 {X:Cx}{scope:Scope}{C:Addr}{x:Str}{c:Addr}(hn:(x,NameKind.cell)∉scope.names)(h:(dS X.env.cells scope.names []).lookup x=some c):(fY X scope C).lookup x=some c:=by
 unfold fY
 rw[iJ,pV]
 cases e:(cellsFrom (C+1) scope.names []).lookup x with
 |some v=>exact absurd (vA _ _ (bn7 e)) hn
 |none=>exact h
theorem G1 {X:Cx}{scope:Scope}{C:Addr}{x:Str}(h:(x,NameKind.cell)∈scope.names∨∃c,(dS X.env.cells scope.names []).lookup x=some c):∃c,(fY X scope C).lookup x=some c:=by
 unfold fY
 rw[iJ,pV]
 cases e:(cellsFrom (C+1) scope.names []).lookup x with
 |some v=>exact⟨v,rfl⟩
 |none=>
  rcases h with h|h
  ·obtain⟨c,hc⟩:=pU scope.names (C+1) h
   obtain⟨d,hd⟩:=vB hc
   rw[e]at hd;cases hd
  ·exact h
def bJ (X:Cx)(scope:Scope)(N:List Str)(s:Shared)(H:Hp)(C:Addr)(fp:List Addr)(E:Value->Shared->Prop):Cx:=
 { X with N:=N,s₀:=s,H₀:=H,env:=compEnvC scope (fY X scope C) C X.env,outer:=X.stack,ex:=fp,fn:=λx=>scope.names.lookup x==some .cell,pn:=[],xe:=E }
structure cT (X:Cx)(scope:Scope)(N:List Str)(fr:List (Option Nat)):Prop where
 kind:scope.kind = .function
 own:∀y∈scope.names,y.2 = .cell->scope.names.lookup y.1=some .cell
 names:∀y∈scope.names,y.2 = .local->scope.names.lookup y.1=some .local
 free:∀y∈scope.names,y.2 = .free->X.env.scope.names.lookup y.1=some .cell∨X.env.scope.names.lookup y.1=some .free
 len:fr.length=N.length
 from_:∀(i j:Nat),fr[i]? = some (some j)->∃x,N[i]? = some x/\X.N[j]? = some x/\scope.names.lookup x=some .free
section
variable {X:Cx}{pins:List (Addr×Obj)}{σ:St}{H:Hp}{s:Shared}{scope:Scope}{N:List Str}{fr:List (Option Nat)}
theorem cT.cells (S:cT X scope N fr)(I:a6 X pins σ H s):∀y∈scope.names,y.2 = .free->∃c,X.env.cells.lookup y.1=some c:=λy hy hk=>I.ok.has y.1 (S.free y hy hk)
theorem av6 {C D:Addr}{fp:List Addr}{E:Value->Shared->Prop}{h1:Heap}{tk:Nat}{m:Str->Option Value}(S:cT X scope N fr)(I:a6 X pins σ H s)(hf:∀b∈fp,fR X pins H b)(hfl:∀b∈fp,b<s.heap.objs.size)(hD:s.heap.objs.size<=D)(hC:s.heap.objs.size<=C)(hDC:D<C)(old:∀b o,s.heap.get? b=some o->h1.get? b=some o)(hns:h1.Ns C m)(hacc:h1.get? D=some { cls:=.type "list",data:=.seq #[] 0 })(hco:CellsOk h1 (C+1) (cellsFrom (C+1) scope.names [])) :
  a6 (bJ X scope N s H C fp E) [] (eY fr σ) (upd H D (.lst [])) { s with heap:=h1,toks:=tk }:=by
 have hHD:H D=none:=I.hok.fresh hD
 have cl:=S.cells I
 have cs:∀{x:Str}{c:Addr},(dS X.env.cells scope.names []).lookup x=some c->X.env.cells.lookup x=some c:=λ{x c} h=>pS scope.names [] cl (λ_ _ z=>by simp at z) h
 have clt:∀{x:Str}{c:Addr},X.env.cells.lookup x=some c->c<s.heap.objs.size:=λ{x c} h=>by obtain⟨v,z⟩:=I.cell x c h;exact z.lt
 have nge:∀{x:Str}{c:Addr},(x,c)∈cellsFrom (C+1) scope.names []->C<c:=λ{x c} h=>(hco.empty x c h).2
 refine⟨⟨I.ok.mod,?_,I.ok.glob,I.ok.blt,hC,?_,?_,?_,I.ok.hd,I.ok.frames,.inl rfl,?_,I.bs,bm0 I.ok.bsz I.sz,?_,?_,I.stack,I.stkFree⟩,rfl,I.bare,Un.laid old hD hHD,⟨m,hns,?_⟩,?_,?_,?_,λp hp=>absurd (show p∈([]:List (Addr×Obj)) from hp) (by simp),?_,?_⟩
 ·exact S.kind
 ·intro x y c h1 h2
  rcases jX h1 with a|⟨_,a⟩<;>rcases jX h2 with b|⟨_,b⟩
  ·exact name_of_addr hco.apart a b
  ·exact absurd (bj1 (Nat.lt_trans (nge a) (clt (cs b))) hC) (bn8 _)
  ·exact absurd (bj1 (Nat.lt_trans (nge b) (clt (cs a))) hC) (bn8 _)
  ·exact I.ok.inj x y c (cs a) (cs b)
 ·intro x hx
  have hx:(relabel scope X.env).names.lookup x=some .cell∨(relabel scope X.env).names.lookup x=some .free:=hx
  have fin:(x,NameKind.free)∈scope.names->∃c,(fY X scope C).lookup x=some c:=λz=>G1 (.inr (v9 scope.names [] (.inl z)))
  rcases hx with hx|hx
  ·rcases pT hx with z|z
   ·exact G1 (.inl (bn7 z))
   ·exact fin (bn7 z.1)
  ·rcases pT hx with z|z
   ·exact fin (bn7 z)
   ·exact absurd z.2 (by decide)
 ·intro x c hx h
  have hx:(scope.names.lookup x==some NameKind.cell)=true:=hx
  have hx:scope.names.lookup x=some .cell:=by simpa using hx
  rcases jX h with a|⟨a,_⟩
  ·exact bm0 hC (br6 (nge a))
  ·obtain⟨d,hd⟩:=pU scope.names (C+1) (bn7 hx)
   exact absurd hd (a d)
 ·intro b hb
  refine⟨bl3 (bj1 (hfl b hb) hC),λx c e=>?_⟩
  rcases jX e with a|⟨_,a⟩
  ·exact bs4 (Nat.lt_trans (bj1 (hfl b hb) hC) (nge a))
  ·exact (hf b hb).2.2.2.2.1 x c (cs a)
 ·intro b o e hb
  rcases (hf b hb).2.2.2.1 with z|z
  ·exact I.ok.noex b o e z
  ·exact absurd (bj1 (bj0 e) (bm0 I.ok.bsz z)) (bn8 _)
 ·intro b hb z
  rcases bi4.mp (I.stkSub b z) with e|e
  ·exact (hf b hb).2.1 e
  ·exact (hf b hb).2.2.1 e
 ·intro i x v e1 e2 e3
  have e2:(fr.map λo=>o.bind λj=>(σ[j]?).join)[i]? = some (some v):=e2
  rw[bi7]at e2
  cases ef:fr[i]? with
  |none=>rw[ef]at e2;cases e2
  |some o=>
   rw[ef]at e2
   cases o with
   |none=>cases e2
   |some j=>
    have e2:some ((σ[j]?).join)=some (some v):=e2
    have ej:σ[j]? = some (some v):=by
     cases q:σ[j]? with
     |none=>rw[q]at e2;cases e2
     |some w=>rw[q]at e2;cases w with
      |none=>cases e2
      |some w=>cases e2;rfl
    obtain⟨y,a1,a2,a4⟩:=S.from_ i j ef
    have e1:N[i]? = some x:=e1
    rw[e1]at a1
    cases a1
    have a3:(x,NameKind.free)∈scope.names:=bn7 a4
    have vis:fQ X.env.scope x:=(S.free _ a3 rfl).elim (λz=>.inr (.inl z)) λz=>.inr (.inr z)
    obtain⟨m0,hn0,hl0⟩:=I.loc
    obtain⟨u,r,l⟩:=hl0 j x v a2 ej vis
    refine⟨u,r,.inr ⟨?_,?_⟩⟩
    ·have e3:(relabel scope X.env).names.lookup x=some .local∨(relabel scope X.env).names.lookup x=some .cell∨(relabel scope X.env).names.lookup x=some .free:=e3
     rcases e3 with z|z|z
     ·rcases pT z with y|y
      ·rw[a4]at y;cases y
      ·exact absurd y.2 (by decide)
     ·exact .inl z
     ·exact .inr z
    ·obtain⟨c,hc⟩:=v9 (cells:=X.env.cells) scope.names [] (x:=x) (.inl a3)
     refine⟨c,av5 (λz=>by have:=S.own _ z rfl;rw[a4]at this;cases this) hc,?_⟩
     have hc':=cs hc
     have S1:=S.free (x,.free) a3 rfl
     rcases l with⟨k,_⟩|⟨_,c2,hc2,z⟩
     ·have k:X.env.scope.names.lookup x=some .local:=k
      rcases S1 with q|q<;>(have q:X.env.scope.names.lookup x=_:=q;rw[k]at q;cases q)
     ·rw[hc']at hc2;cases hc2
      obtain⟨oc,ho,hd⟩:=z
      exact⟨oc,old c oc ho,hd⟩
 ·intro x c e
  rcases jX e with a|⟨_,a⟩
  ·exact⟨_,(hco.empty x c a).1⟩
  ·obtain⟨v,oc,ho,hd⟩:=I.cell x c (cs a)
   exact⟨v,oc,old c oc ho,hd⟩
 ·show upd H D (.lst []) C=none
  rw[a8 (bs4 hDC)];exact I.hok.fresh hC
 ·intro x c e
  show upd H D (.lst []) c=none
  rcases jX e with a|⟨_,a⟩
  ·rw[a8 (bs4 (Nat.lt_trans hDC (nge a)))];exact I.hok.fresh (bm0 hC (br6 (nge a)))
  ·have q:=cs a
   rw[a8 (bl3 (bj1 (clt q) hD))]
   exact I.freeC x c q
 ·exact I.hok.laid old hD ⟨bl4 _,[],0,.nil,hacc⟩
 ·show (eY fr σ).length=N.length
  unfold eY;rw[bi1];exact S.len
end
def jC (X:Cx)(ifs:List Expr)(t:TT):Prop:=
 ∀(pins:List (Addr×Obj)) (s:Shared) (σ:St) (H:Hp) (Q:Bool->Hp->Prop),a6 X pins σ H s->t σ H Q->
  wpAny (model X.prog X.w) X.A (forIn ifs true λc r=>if r=true then do let ok <- isTrue c X.env (eval c X.env);pure (ForInStep.yield ok) else pure (ForInStep.yield r)) (TP X pins σ Q) X.xe s
def vC:TT:=λ_ H Q=>Q true H
theorem nV {X:Cx}:jC X [] vC:=λ_ _ _ H _ I h=>wpAny_tests_nil ⟨H,I,h⟩
theorem G2 {X:Cx}{c:Expr}{t:TT}(h:PT X c t):jC X [c] t:=λpins s σ H Q I hq=>wpAny_tests_one (h pins s σ H Q I hq)
section
variable {prog:Program}{w:World}{A:Around}
def vD (prog:Program)(w:World)(A:Around)(elt tg:Expr)(ifs:List Expr)(it acc:Value)(env:Env)(lost:Value->Shared->Prop)(stop next:Shared->Prop)(s:Shared):Prop:=
 let M:=model prog w
 let tests:Sem Bool:=forIn ifs true λc r=>if r=true then do let ok <- isTrue c env (eval c env);pure (ForInStep.yield ok) else pure (ForInStep.yield r)
 let put:Shared->Prop:=wpAny M A (eval elt env) (λx=>wpAny M A (call (.builtin "list.append") [acc,x]) (λ_=>next) lost) lost
 let taken:Value->Shared->Prop:=λv=>wpAny M A (letOwnedTupleGo tg it v) (λ_=>wpAny M A (assign tg env v) (λ_=>wpAny M A tests (λok s'=>if ok=true then put s' else next s') lost) lost) lost
 wpAny M A (pyNext it) (λr s'=>match r with
  |none=>stop s'
  |some v=>taken v s') lost s
theorem av7 {R:Result->Shared->Prop}{s:Shared}{elt tg iter:Expr}{ifs:List Expr}{scope:Scope}{pos:Pos}{it acc:Value}{env:Env}(I:Nat->Shared->Prop)(turn:∀n s,I n s->vD prog w A elt tg ifs it acc env (notedBy (model prog w) A env λe=>R (.error e)) (R (.ok .next)) (λs'=>∃m,m<n/\I m s') s)(n:Nat)(h:I n s) :
  codeAny (model prog w) A (.compLoop (.ListComp elt [⟨tg,iter,ifs,0⟩] scope pos) 0 it acc env) R s:=by
 apply codeAny_loop rfl I _ n h
 intro k s1 h1
 change wpAny _ A ((compTurn _ 0 it acc env).onRaise (λx=>do noteFrame x env;theTreesLotGoes x)) _ _ s1
 apply wpAny_noted
 rw[compTurn_list]
 have t:=turn k s1 h1
 unfold vD at t
 apply bh3
 apply wpAny_standAt
 apply bh3
 refine bo6 t (λr s2 h2=>?_) λ_ _ z=>z
 cases r with
 |none=>exact bi0 h2
 |some v=>
  apply bh3
  refine bo6 h2 (λ_ s3 h3=>?_) λ_ _ z=>z
  apply bh3
  refine bo6 h3 (λ_ s4 h4=>?_) λ_ _ z=>z
  apply bh3
  refine bo6 h4 (λok s5 h5=>?_) λ_ _ z=>z
  cases ok with
  |false=>exact bi0 ⟨rfl,h5⟩
  |true=>
   apply bh3
   apply bh3
   refine bo6 h5 (λx s6 h6=>?_) λ_ _ z=>z
   apply bh3
   exact bo6 h6 (λ_ s7 h7=>bi0 (bi0 ⟨rfl,h7⟩)) λ_ _ z=>z
end
def nW (g:TG)(tc:TT)(te:TE)(σ0:St)(J:It)(D:Addr)(Q:VK)(W:Nat->Nat->List V->Hp->Prop):Prop:=
 ∀i m acc H',W i m acc H'->H' D=some (.lst acc)/\((J.stop i H'/\Q (.ref D) H')∨(J.go i H'/\∀x H2,J.yld i H' x H2->g x σ0 H2 λσ2 H3=>Wk σ0 σ2/\tc σ2 H3 λb H4=>
  if b=true then te σ2 H4 λv H5=>H5 D=some (.lst acc)/\acc.length<sizeLine/\∃m',m'<m/\W (i+1) m' (acc++[v]) (upd H5 D (.lst (acc++[v]))) else ∃m',m'<m/\W (i+1) m' acc H4))
def G3 (wi:TI)(fr:List (Option Nat))(g:TG)(tc:TT)(te:TE):TE:=λσ H Q=>wi σ H λJ H1=>∀D,H1 D=none->
 ∃W:Nat->Nat->List V->Hp->Prop,(∃m,W 0 m [] (upd H1 D (.lst [])))/\nW g tc te (eY fr σ) J D Q W
section
variable {M:Model}{A:Around}{E:Value→Shared→Prop}{s:Shared}
theorem av8 {scope:Scope}{globals:Addr}{cl:List (Str×Addr)}{qual:Str}{func:Option Addr}{code:Value}{builtins:Addr}{outer:Env}{Q:Env->Shared->Prop}(hQ:∀h',h'.Ns s.heap.objs.size (λ_=>none)->(∀b o,s.heap.get? b=some o->h'.get? b=some o)->CellsOk h' (s.heap.objs.size+1) (cellsFrom (s.heap.objs.size+1) scope.names [])->
   Q (newEnv scope s.heap.objs.size globals (cellsFrom (s.heap.objs.size+1) scope.names cl) qual func code (some outer) builtins) { s with heap:=h' }) :
  wpAny M A (newFunctionEnv scope globals cl [] qual func code (some outer) builtins) Q E s:=by
 simp only[newFunctionEnv,Option.isSome_some,if_true]
 refine bh3 (wpAny_alloc ?_)
 refine bh3 (wpAny_layCells _ (λname kind cells=>by cases hkc:kind==NameKind.cell<;>simp[hkc]) _ _ _ _ ?_)
 have ok:=cellsFrom_ok scope.names (s.heap.push { cls:=.type "dict",data:=.dict #[] }) (s.heap.objs.size+1) [] ⟨λ_ _ hm=>(nomatch hm),bp2⟩ (by rw[bt8];exact bh8 _)
 rw[bt8]at ok
 rw[show ({ s with heap:=s.heap.push { cls:=.type "dict",data:=.dict #[] } }:Shared).heap.objs.size=s.heap.objs.size+1 from bt8 ..]
 rw[List.forIn_nil]
 refine bh3 (bi0 (bi0 (hQ _ ((Heap.Ns.new s.heap (.type "dict")).keeps (pushCells_keeps _ _)) (λb o e=>pushCells_keeps _ _ b o (bh4 _ e)) ok)))
end
section
variable {X:Cx}{pins:List (Addr×Obj)}{σ:St}{H:Hp}{s:Shared}{scope:Scope}{N:List Str}{fr:List (Option Nat)}{tg iter elt:Expr}{ifs:List Expr}{pos:Pos}{wi:TI}{g:TG}{tc:TT}{te:TE}
structure lM (X:Cx)(scope:Scope)(N:List Str)(tg:Expr)(ifs:List Expr)(elt:Expr)(s:Shared)(H:Hp)(g:TG)(tc:TT)(te:TE):Prop where
 tg:∀(C:Addr) (fp:List Addr),PG (bJ X scope N s H C fp λ_ _=>False) tg g
 ifs:∀(C:Addr) (fp:List Addr),jC (bJ X scope N s H C fp λ_ _=>False) ifs tc
 elt:∀(C:Addr) (fp:List Addr),PE (bJ X scope N s H C fp λ_ _=>False) elt te
structure nX (X:Cx)(scope:Scope)(N:List Str)(tg:Expr)(ifs:List Expr)(elt:Expr)(g:TG)(tc:TT)(te:TE):Prop where
 tg:∀(s:Shared) (H:Hp) (C:Addr) (fp:List Addr),PG (bJ X scope N s H C fp λ_ _=>False) tg g
 ifs:∀(s:Shared) (H:Hp) (C:Addr) (fp:List Addr),jC (bJ X scope N s H C fp λ_ _=>False) ifs tc
 elt:∀(s:Shared) (H:Hp) (C:Addr) (fp:List Addr),PE (bJ X scope N s H C fp λ_ _=>False) elt te
theorem nX.at (B:nX X scope N tg ifs elt g tc te)(s:Shared)(H:Hp):lM X scope N tg ifs elt s H g tc te:=⟨B.tg s H,B.ifs s H,B.elt s H⟩
theorem av9 {C:Addr}{fp:List Addr}{E:Value->Shared->Prop}{pins':List (Addr×Obj)}{σ':St}{H':Hp}{s':Shared}(I:a6 X pins σ H s)(hf:∀b∈fp,fR X pins H b)(I':a6 (bJ X scope N s H C fp E) pins' σ' H' s'):a6 X pins σ H' s':=
 I.call' (ch:=fp) I'.os I'.base I'.hok I'.bare λb hb=>⟨(hf b hb).2.2.2.1,(hf b hb).2.1,(hf b hb).2.2.2.2.1,(hf b hb).2.2.2.2.2⟩
theorem pW {Rr:Value->Addr->Result->Shared->Prop}{J:It}{fp:List Addr}{it:Addr}{tn:Nat->Heap->Prop}{Q:VK}(hc:X.calm=true)(S:cT X scope N fr)(B:lM X scope N tg ifs elt s H g tc te)(I:a6 X pins σ H s)(T:gH X.prog X.w X.K tg J fp it tn)(hst:tn 0 s.heap)(hf:∀b∈fp,fR X pins H b)(h:∀D,H D=none->∃W:Nat->Nat->List V->Hp->Prop,(∃m,W 0 m [] (upd H D (.lst [])))/\nW g tc te (eY fr σ) J D Q W)(hend:∀(D C:Addr) (s':Shared) (H':Hp) (m:Str->Option Value),s.heap.objs.size<=C->s.heap.objs.size<=D->a6 X pins σ H' s'->s'.heap.Ns C m->H' C=none->Q (.ref D) H'->Rr (.ref D) C (.ok .next) s') :
  wpAny (model X.prog X.w) X.A (newList []) (λacc s₃=>wpAny (model X.prog X.w) X.A (newFunctionEnv scope X.env.globals (dS X.env.cells scope.names []) [] X.env.qual none .none (some X.env)) (λcenv s₄=>
   codeAny (model X.prog X.w) X.A (.compStart (.ListComp elt [⟨tg,iter,ifs,0⟩] scope pos) 0 (.ref it) acc { cenv with scope:=relabel scope X.env }) (Rr acc cenv.locals) s₄) X.xe s₃) X.xe s:=by
 refine bp1 (av8 (λh₁ hns₁ keep₁ hco₁=>?_))
 dsimp only at hns₁ keep₁ hco₁ ⊢
 generalize hH2:s.heap.push { cls:=.type "list",dict:=none,data:=.seq ([]:List Value).toArray }=H2 at hns₁ keep₁ hco₁ ⊢
 have hC:H2.objs.size=s.heap.objs.size+1:=by rw[<- hH2,bt8]
 have hDC:s.heap.objs.size<H2.objs.size:=by rw[hC];exact Nat.lt_succ_self _
 have hCle:s.heap.objs.size<=H2.objs.size:=by rw[hC];exact Nat.le_succ _
 have old:∀b o,s.heap.get? b=some o->h₁.get? b=some o:=λb o e=>keep₁ b o (hH2▸bh4 _ e)
 have hacc:h₁.get? s.heap.objs.size=some { cls:=.type "list",data:=.seq #[] 0 }:=keep₁ _ _ (hH2▸bj2 _ rfl)
 have hfl:∀b∈fp,b<s.heap.objs.size:=λb hb=>by obtain⟨o,e,_⟩:=T.obj _ _ hst b hb;exact bj0 e
 obtain⟨W,⟨m0,w0⟩,turn⟩:=h s.heap.objs.size (I.hok.fresh (bh8 _))
 have st1:tn 0 h₁:=T.keep _ _ _ hst λb _ o e=>old b o e
 have fr0:∀b∈fp,upd H s.heap.objs.size (.lst []) b=none:=λb hb=>by rw[a8 (bl3 (hfl b hb))];exact (hf b hb).1
 have stat:∀{H':Hp},(∀b∈fp,H' b=none)->∀b∈fp,fR (bJ X scope N s H H2.objs.size fp λ_ _=>False) [] H' b:=λ{H'} hn b hb=>by
  have f:=hf b hb
  refine⟨hn b hb,bl3 (bj1 (hfl b hb) hCle),λz=>?_,.inl hb,λx c e=>(jX e).elim (λz=>bs4 (Nat.lt_trans (bj1 (hfl b hb) hCle) (hco₁.empty x c z).2)) λz=>f.2.2.2.2.1 x c (pS scope.names [] (S.cells I) (λ_ _ z=>by simp at z) z.2),λp hp=>absurd (show p∈([]:List (Addr×Obj)) from hp) (by simp)⟩
  rcases bi4.mp (I.stkSub b z) with e|e
  ·exact f.2.1 e
  ·exact f.2.2.1 e
 generalize hX:bJ X scope N s H H2.objs.size fp (λ_ _=>False)=Y at stat
 have I0:a6 Y [] (eY fr σ) (upd H s.heap.objs.size (.lst [])) { s with heap:=h₁ }:=hX▸av6 S I hf hfl (bh8 _) hCle hDC old hns₁ hacc hco₁
 have bt:PG Y tg g:=hX▸B.tg H2.objs.size fp
 have bi:jC Y ifs tc:=hX▸B.ifs H2.objs.size fp
 have be:PE Y elt te:=hX▸B.elt H2.objs.size fp
 have eP:Y.prog=X.prog:=by rw[<- hX];rfl
 have ew:Y.w=X.w:=by rw[<- hX];rfl
 have eK:Y.K=X.K:=by rw[<- hX];rfl
 have eA:Y.A=X.A:=by rw[<- hX];rfl
 have eE:Y.env=compEnvC scope (fY X scope H2.objs.size) H2.objs.size X.env:=by rw[<- hX];rfl
 have eX:Y.xe=λ_ _=>False:=by rw[<- hX];rfl
 have ec:Y.calm=true:=by rw[<- hX];exact hc
 have never:∀{E:Value->Shared->Prop} (e:Value) (s':Shared),Y.xe e s'->E e s':=λ{E} e s' z=>by rw[eX]at z;exact z.elim
 have out:∀{pins' σ' H' s'},a6 Y pins' σ' H' s'->a6 X pins σ H' s':=λ{_ _ _ _} I'=>av9 (C:=H2.objs.size) (E:=λ_ _=>False) (scope:=scope) (N:=N) I hf (hX▸I')
 have loop:codeAny (model X.prog X.w) X.A (.compLoop (.ListComp elt [⟨tg,iter,ifs,0⟩] scope pos) 0 (.ref it) (.ref s.heap.objs.size) (compEnvC scope (fY X scope H2.objs.size) H2.objs.size X.env))
   (Rr (.ref s.heap.objs.size) H2.objs.size) { s with heap:=h₁ }:=by
  refine av7 (λn s'=>∃i acc H',a6 Y [] (eY fr σ) H' s'/\tn i s'.heap/\(∀b∈fp,H' b=none)/\W i n acc H') ?_ m0 ⟨0,[],_,I0,st1,fr0,w0⟩
  rintro n s3 ⟨i,acc,H3,I3,st3,fr3,w3⟩
  unfold vD
  dsimp only
  obtain⟨hD3,step⟩:=turn i n acc H3 w3
  rcases step with⟨stop,qn⟩|⟨go,step⟩
  ·have z:=T.done Y eP ew eK ec i [] s3 _ H3 (notedBy (model X.prog X.w) X.A (compEnvC scope (fY X scope H2.objs.size) H2.objs.size X.env) λe s'=>Rr (.ref s.heap.objs.size) H2.objs.size (.error e) s') I3 (stat fr3) st3 stop
   rw[eA]at z
   refine aK z λr s4 ⟨hr,I4⟩=>?_
   subst hr
   obtain⟨m4,hn4,_⟩:=I4.loc
   rw[eE]at hn4
   have f4:=I4.free
   rw[eE]at f4
   exact hend _ _ s4 H3 m4 hCle (bh8 _) (out I4) hn4 f4 qn
  ·have z:=T.item Y eP ew eK ec i [] s3 _ H3 (notedBy (model X.prog X.w) X.A (compEnvC scope (fY X scope H2.objs.size) H2.objs.size X.env) λe s'=>Rr (.ref s.heap.objs.size) H2.objs.size (.error e) s') I3 (stat fr3) st3 go
   rw[eA]at z
   refine aK z λr s4 ⟨u,hr,h4⟩=>?_
   subst hr
   refine aK h4 λ_ s5 ⟨x,H5,I5,r5,y5,st5,fr5⟩=>?_
   have I5':=I5.pinned (stat fr5) (T.obj _ _ st5)
   have q1:=bt _ s5 _ H5 x u _ I5' r5 (step x H5 y5)
   rw[eP,ew,eA,eE]at q1
   refine bo6 q1 (λ_ s6 ⟨σ6,H6,I6,wk,q6⟩=>?_) never
   have q2:=bi _ s6 σ6 H6 _ I6 q6
   rw[eP,ew,eA,eE]at q2
   refine bo6 q2 (λb s7 ⟨H7,I7,q7⟩=>?_) never
   have again:∀{H8:Hp}{s8:Shared}{acc':List V},a6 Y ([]++nH fp s5.heap) σ6 H8 s8->(∃m',m'<n/\W (i+1) m' acc' H8)->∃m,m<n/\∃i acc H',a6 Y [] (eY fr σ) H' s8/\tn i s8.heap/\(∀b∈fp,H' b=none)/\W i m acc H':=λ{H8 s8 acc'} I8 n8=>by
    obtain⟨m',hm,w8⟩:=n8
    refine⟨m',hm,i+1,acc',H8,(I8.unpinned).weak wk.1 wk.2,T.keep _ _ _ st5 λb hb o e=>(I8.pin (b,o) (bl1 _ (bl1 _ (pF hb e)))).1,λb hb=>?_,w8⟩
    obtain⟨o,e,d⟩:=T.obj _ _ st5 b hb
    exact (I8.pin (b,o) (bl1 _ (bl1 _ (pF hb e)))).2.1
   cases b with
   |false=>
    rw[if_neg bj3]at q7 ⊢
    exact again I7 q7
   |true=>
    rw[if_pos rfl]at q7 ⊢
    have q3:=be _ s7 σ6 H7 _ I7 q7
    rw[eP,ew,eA,eE]at q3
    refine bo6 q3 (λv s8 ⟨y,H8,I8,r8,hD8,hz8,q8⟩=>?_) never
    have q4:=lH _ s8 σ6 H8 (.ref s.heap.objs.size) [y] (.ref s.heap.objs.size) [v] (λ_ H9=>∃m',m'<n/\W (i+1) m' (acc++[y]) H9) I8 rfl (.cons r8 .nil) ⟨_,_,_,rfl,rfl,hD8,hz8,q8⟩
    rw[eP,ew,eA]at q4
    exact bo6 q4 (λ_ s9 ⟨_,H9,I9,_,q9⟩=>again I9 q9) never
 exact codeAny_compStart_list loop (T.self _ 0 _ _ _ st1 loop)
end
section
variable {X:Cx}{scope:Scope}{N:List Str}{fr:List (Option Nat)}{tg iter elt:Expr}{ifs:List Expr}{pos:Pos}{wi:TI}{g:TG}{tc:TT}{te:TE}
theorem a6.drop {pins:List (Addr×Obj)}{σ:St}{H H':Hp}{s s':Shared}{C:Addr}{h':Heap}(I0:a6 X pins σ H s)(hC:s.heap.objs.size<=C){σ':St}(I:a6 X pins σ' H' s')(hn:H' C=none)(sb:Heap.SameBut C s'.heap h'):a6 X pins σ' H' { s' with heap:=h' }:=by
 refine I.turned (t':=s'.toks) (it:=C) (λb o hb e=>(sb.2 b hb).trans e) hn (bs4 (bj1 I0.lt hC)) (.inr (bm0 I0.sz hC)) (λx c e z=>?_) λp hp z=>?_
 ·obtain⟨v,q⟩:=I0.cell x c e
  exact absurd (bj1 q.lt (by rw[z];exact hC)) (bn8 _)
 ·exact absurd (bj1 (bj0 (I0.pin p hp).1) (by rw[z];exact hC)) (bn8 _)
theorem G4 (hc:X.calm=true)(S:cT X scope N fr)(hi:PI X tg iter wi)(B:nX X scope N tg ifs elt g tc te)(hs:∀x,foldedSetIterable iter X.env x=pure x:=by intro _;rfl):PE X (.ListComp elt [⟨tg,iter,ifs,0⟩] scope pos) (G3 wi fr g tc te):=by
 intro pins s σ H Q I h
 rw[eval_ListComp]
 refine wpAny_comprehension_free (use:=none) rfl hs (pR (S.cells I)) S.kind S.names (aK (hi pins s σ H _ I h) λv s1 h1=>aK h1 λitv s2 h2=>?_)
 obtain⟨it,fp,tn,J,H2,e,I2,T,st2,f2,hW⟩:=h2
 subst e
 refine pW (Rr:=λacc C=>compPost (model X.prog X.w) X.A X.xe none (EP X pins σ Q) acc C) hc S (B.at _ _) I2 T st2 f2 hW ?_
 intro D C s' H' m hC hD I' hns hHC q
 exact⟨m,hns,λh' sb=>⟨.ref D,H',I2.drop hC I' hHC sb,rfl,q⟩⟩
theorem G5 {i:Nat}{x:Str}{px spos:Pos}(hc:X.calm=true)(S:cT X scope N fr)(hi:PI X tg iter wi)(B:nX X scope N tg ifs elt g tc te)(hN:X.N.Nodup)(hix:X.N[i]? = some x)(hx:X.env.scope.names.lookup x=some .local)(hsw:swapsWith (.ListComp elt [⟨tg,iter,ifs,0⟩] scope pos) (some (.Name x px)) spos.line X.env=pure true)(hs:∀x,foldedSetIterable iter X.env x=pure x:=by intro _;rfl) :
  PS X (.Assign [.Name x px] (.ListComp elt [⟨tg,iter,ifs,0⟩] scope pos) spos) (jV (G3 wi fr g tc te) (cX i)):=by
 intro pins s σ H D I h
 rw[exec_Assign_Name_used _ _ _ _ hsw]
 refine bh3 (wpAny_standAt (bh3 ?_))
 show wpAny _ _ (do let _ <- comprehension (.ListComp elt [⟨tg,iter,ifs,0⟩] scope pos) scope X.env _ (newList []) false (eval iter X.env) (some (assign (.Name x px) X.env))) _ _ s
 refine bh3 (bo6 (wpAny_comprehension_free (Q:=λ_ s'=>SP X pins D .next s') (use:=some (assign (.Name x px) X.env)) rfl hs (pR (S.cells I)) S.kind S.names (aK (hi pins s σ H _ I h) λv s1 h1=>aK h1 λitv s2 h2=>?_))
  (λ_ s' hq=>bi0 (bi0 hq)) λ_ _ e=>e)
 obtain⟨it,fp,tn,J,H2,e,I2,T,st2,f2,hW⟩:=h2
 subst e
 refine pW (Rr:=λacc C=>compPost (model X.prog X.w) X.A X.xe (some (assign (.Name x px) X.env)) (λ_ s'=>SP X pins D .next s') acc C) hc S (B.at _ _) I2 T st2 f2 hW ?_
 intro D' C s' H' m hC hD I' hns hHC q
 refine wpAny_assign_Name (u6 I' hN hix (.inl hx) (v:=.ref D') rfl (λs'' I'' sb=>?_) (.inr hx))
 obtain⟨a,sb,ha⟩:=sb
 have hCa:C≠a:=by
  rcases ha with z|z
  ·rw[z];exact bs4 (bj1 I2.lt hC)
  ·intro e;subst e
   obtain⟨v,q⟩:=I2.cell x _ z
   exact absurd (bj1 q.lt hC) (bn8 _)
 exact⟨m,hns.sameBut sb hCa,λh' sb'=>⟨_,H',I2.drop hC I'' hHC sb',q⟩⟩
variable {gh:Hp→TG}{tch:Hp→TT}{teh:Hp→TE}
def vE (wi:TI)(fr:List (Option Nat))(gh:Hp->TG)(tch:Hp->TT)(teh:Hp->TE):TE:=λσ H Q=>wi σ H λJ H1=>∀D,H1 D=none->
 ∃W:Nat->Nat->List V->Hp->Prop,(∃m,W 0 m [] (upd H1 D (.lst [])))/\nW (gh H1) (tch H1) (teh H1) (eY fr σ) J D Q W
theorem G6 (hc:X.calm=true)(S:cT X scope N fr)(hi:PI X tg iter wi)(B:∀(s:Shared) (H:Hp),lM X scope N tg ifs elt s H (gh H) (tch H) (teh H))(hs:∀x,foldedSetIterable iter X.env x=pure x:=by intro _;rfl):PE X (.ListComp elt [⟨tg,iter,ifs,0⟩] scope pos) (vE wi fr gh tch teh):=by
 intro pins s σ H Q I h
 rw[eval_ListComp]
 refine wpAny_comprehension_free (use:=none) rfl hs (pR (S.cells I)) S.kind S.names (aK (hi pins s σ H _ I h) λv s1 h1=>aK h1 λitv s2 h2=>?_)
 obtain⟨it,fp,tn,J,H2,e,I2,T,st2,f2,hW⟩:=h2
 subst e
 refine pW (Rr:=λacc C=>compPost (model X.prog X.w) X.A X.xe none (EP X pins σ Q) acc C) hc S (B _ _) I2 T st2 f2 hW ?_
 intro D C s' H' m hC hD I' hns hHC q
 exact⟨m,hns,λh' sb=>⟨.ref D,H',I2.drop hC I' hHC sb,rfl,q⟩⟩
theorem G7 {i:Nat}{x:Str}{px spos:Pos}(hc:X.calm=true)(S:cT X scope N fr)(hi:PI X tg iter wi)(B:∀(s:Shared) (H:Hp),lM X scope N tg ifs elt s H (gh H) (tch H) (teh H))(hN:X.N.Nodup)(hix:X.N[i]? = some x)(hx:X.env.scope.names.lookup x=some .local)(hsw:swapsWith (.ListComp elt [⟨tg,iter,ifs,0⟩] scope pos) (some (.Name x px)) spos.line X.env=pure true)(hs:∀x,foldedSetIterable iter X.env x=pure x:=by intro _;rfl) :
  PS X (.Assign [.Name x px] (.ListComp elt [⟨tg,iter,ifs,0⟩] scope pos) spos) (jV (vE wi fr gh tch teh) (cX i)):=by
 intro pins s σ H D I h
 rw[exec_Assign_Name_used _ _ _ _ hsw]
 refine bh3 (wpAny_standAt (bh3 ?_))
 show wpAny _ _ (do let _ <- comprehension (.ListComp elt [⟨tg,iter,ifs,0⟩] scope pos) scope X.env _ (newList []) false (eval iter X.env) (some (assign (.Name x px) X.env))) _ _ s
 refine bh3 (bo6 (wpAny_comprehension_free (Q:=λ_ s'=>SP X pins D .next s') (use:=some (assign (.Name x px) X.env)) rfl hs (pR (S.cells I)) S.kind S.names (aK (hi pins s σ H _ I h) λv s1 h1=>aK h1 λitv s2 h2=>?_))
  (λ_ s' hq=>bi0 (bi0 hq)) λ_ _ e=>e)
 obtain⟨it,fp,tn,J,H2,e,I2,T,st2,f2,hW⟩:=h2
 subst e
 refine pW (Rr:=λacc C=>compPost (model X.prog X.w) X.A X.xe (some (assign (.Name x px) X.env)) (λ_ s'=>SP X pins D .next s') acc C) hc S (B _ _) I2 T st2 f2 hW ?_
 intro D' C s' H' m hC hD I' hns hHC q
 refine wpAny_assign_Name (u6 I' hN hix (.inl hx) (v:=.ref D') rfl (λs'' I'' sb=>?_) (.inr hx))
 obtain⟨a,sb,ha⟩:=sb
 have hCa:C≠a:=by
  rcases ha with z|z
  ·rw[z];exact bs4 (bj1 I2.lt hC)
  ·intro e;subst e
   obtain⟨v,q⟩:=I2.cell x _ z
   exact absurd (bj1 q.lt hC) (bn8 _)
 exact⟨m,hns.sameBut sb hCa,λh' sb'=>⟨_,H',I2.drop hC I'' hHC sb',q⟩⟩
end
theorem aW {H:Hp}{p:Addr}(h:H p=none)(o:HO):aA H (upd H p o):=λb u q=>by rw[a8 (bO q h)];exact q
theorem aA.tup {K:ac}{H H':Hp}{a:Addr}{xs:List V}(e:aA H H')(h:aG K H a xs):aG K H' a xs:=by
 rcases h with (h|⟨o,h⟩)|h
 ·exact .inl (.inl (e _ _ h))
 ·exact .inl (.inr ⟨o,e _ _ h⟩)
 ·exact .inr h
structure G8 (H:Hp)(J:It)(xs:List V):Prop where
 go:∀i H',aA H H'->i<xs.length->J.go i H'
 yld:∀i H' x H2,aA H H'->J.yld i H' x H2->i<xs.length->xs[i]? = some x/\H2=H'
 stop:∀H',aA H H'->J.stop xs.length H'
theorem G9 {K:ac}{H:Hp}{a:Addr}{xs:List V}(h:aG K H a xs):G8 H (j7 K a) xs:=
 ⟨λi H' e hi=>⟨xs,xs[i],e.tup h,by simp[hi]⟩,λi H' x H2 e y hi=>⟨y.2 xs (e.tup h),y.1⟩,λH' e=>⟨xs,e.tup h,bh8 _⟩⟩
def fZ (lo:Int)(n:Nat):List V:=(List.range n).map λ(i:Nat)=>V.int (lo+(i:Int))
theorem pX (lo:Int)(n:Nat):(fZ lo n).length=n:=by unfold fZ;rw[bi1,bs8]
def CW (H1:Hp)(D:Addr)(n:Nat)(Pv:Nat->List V->Hp->Prop):Nat->Nat->List V->Hp->Prop:=λi m acc H'=>m=n-i/\i<=n/\acc.length<=i/\aA H1 H'/\H' D=some (.lst acc)/\Pv i acc H'
def vG (H1:Hp)(D:Addr)(n:Nat)(Pv:Nat->List V->Hp->Prop)(i:Nat)(acc:List V)(v:V)(H5:Hp):Prop:=H5 D=some (.lst acc)/\acc.length<sizeLine/\∃m',m'<n-i/\CW H1 D n Pv (i+1) m' (acc++[v]) (upd H5 D (.lst (acc++[v])))
def J0 (H1:Hp)(D:Addr)(n:Nat)(Pv:Nat->List V->Hp->Prop)(i:Nat)(acc:List V)(H4:Hp):Prop:=∃m',m'<n-i/\CW H1 D n Pv (i+1) m' acc H4
structure pY (H1:Hp)(D:Addr)(n i:Nat)(acc:List V)(H':Hp):Prop where
 lt:i<n
 few:acc.length<=i
 sz:n<=sizeLine
 same:aA H1 H'
 new:H1 D=none
 acc:H' D=some (.lst acc)
theorem pY.yes {H1:Hp}{D:Addr}{n i:Nat}{acc:List V}{H' H5:Hp}{Pv:Nat->List V->Hp->Prop}{v:V}(c:pY H1 D n i acc H')(s:aA H' H5)(p:Pv (i+1) (acc++[v]) (upd H5 D (.lst (acc++[v])))):vG H1 D n Pv i acc v H5:=by
 refine⟨s _ _ c.acc,Nat.lt_of_le_of_lt c.few (bj1 c.lt c.sz),_,?_,rfl,c.lt,?_,λb o e=>?_,aQ,p⟩
 ·have:=c.lt;omega
 ·rw[bj6,bn2];exact Nat.succ_le_succ c.few
 ·rw[a8 (bO e c.new)];exact s _ _ (c.same _ _ e)
theorem J1 {H1:Hp}{J:It}{xs:List V}{g:TG}{tc:TT}{te:TE}{σ0:St}{Q:VK}(O:G8 H1 J xs)(Pv:Nat->List V->Hp->Prop)(hn:xs.length<=sizeLine)(h0:∀D,H1 D=none->Pv 0 [] (upd H1 D (.lst [])))(hs:∀i x acc D H',xs[i]? = some x->pY H1 D xs.length i acc H'->Pv i acc H'->g x σ0 H' λσ2 H3=>Wk σ0 σ2/\tc σ2 H3 λb H4=>
   if b=true then te σ2 H4 λv H5=>vG H1 D xs.length Pv i acc v H5 else J0 H1 D xs.length Pv i acc H4)(hd:∀D acc H',H1 D=none->aA H1 H'->H' D=some (.lst acc)->acc.length<=xs.length->Pv xs.length acc H'->Q (.ref D) H') :
  ∀D,H1 D=none->∃W:Nat->Nat->List V->Hp->Prop,(∃m,W 0 m [] (upd H1 D (.lst [])))/\nW g tc te σ0 J D Q W:=by
 intro D hD
 refine⟨CW H1 D xs.length Pv,⟨xs.length,rfl,bl4 _,bh8 _,aW hD _,aQ,h0 D hD⟩,?_⟩
 rintro i m acc H' ⟨rfl,hi,ha,sm,hDa,p⟩
 refine⟨hDa,?_⟩
 by_cases hlt:i<xs.length
 ·refine .inr ⟨O.go i H' sm hlt,λx H2 y=>?_⟩
  obtain⟨hx,e⟩:=O.yld i H' x H2 sm y hlt
  subst e
  exact hs i x acc D H2 hx ⟨hlt,ha,hn,sm,hD,hDa⟩ p
 ·have e:i=xs.length:=by omega
  subst e
  exact .inl ⟨O.stop H' sm,hd D acc H' hD sm hDa ha p⟩
end L2
namespace Srt
open PySem PySem.W PyProof.Rows
abbrev G (p:Array Nat)(i:Nat):Nat:=p.getD i 0
theorem nY {p q:Array Nat}{i j:Nat}(h:p[i]? = q[j]?):G p i=G q j:=by
 unfold G;rw[bt4,bt4,h]
theorem vH {p:Array Nat}{i j:Nat}(hj:j<=p.size)(k:Nat):G (kas_rev p i j) k=if i<=k/\k<j then G p (i+j-1-k) else G p k:=by
 have e:=getElem?_mirror_all (i:=i) hj k
 unfold kas_rev
 by_cases h1:i<=k/\k<j
 ·rw[if_pos h1]at e ⊢;exact nY e
 ·rw[if_neg h1]at e ⊢;exact nY e
theorem aw0 {p:Array Nat}{src d:Nat}(hs:src<p.size)(hd:d<=src)(k:Nat):G (bubble p src d) k=if k=src-d then G p src else if src-d<k/\k<=src then G p (k-1) else G p k:=by
 have e:=getElem?_bubble hs d hd k
 by_cases h1:k=src-d
 ·rw[if_pos h1]at e ⊢;exact nY e
 ·rw[if_neg h1]at e ⊢
  by_cases h2:src-d<k/\k<=src
  ·rw[if_pos h2]at e ⊢;exact nY e
  ·rw[if_neg h2]at e ⊢;exact nY e
def PP (n:Nat)(p:Array Nat):Prop:=p.toList.Perm (List.range n)
theorem PP.size {n:Nat}{p:Array Nat}(h:PP n p):p.size=n:=by
 have:=h.length_eq
 rw[bs8]at this
 simpa using this
theorem PP.lt {n:Nat}{p:Array Nat}(h:PP n p){k:Nat}(hk:k<n):G p k<n:=by
 have hs:=h.size
 have hk':k<p.toList.length:=by simpa[hs] using hk
 have e:G p k=p.toList[k]:=by
  unfold G;rw[bt4];simp[hs,hk]
 have m:p.toList[k]∈p.toList:=bq5 hk'
 rw[e]
 exact bq0.mp (h.mem_iff.mp m)
theorem PP.of {n:Nat}{p q:Array Nat}(h:PP n p)(e:q.Perm p):PP n q:=(Array.perm_iff_toList_perm.mp e).trans h
theorem PP.rev {n:Nat}{p:Array Nat}(h:PP n p)(i j:Nat):PP n (kas_rev p i j):=h.of (mirror_perm _ _ _ _)
theorem PP.bub {n:Nat}{p:Array Nat}(h:PP n p)(i j:Nat):PP n (bubble p i j):=h.of (bubble_perm _ _ _)
structure vI (c:Nat->Nat->Bool):Prop where
 asym:∀{i j},c i j=true->c j i=false
 ntr:∀{i j k},c i j=false->c j k=false->c i k=false
section
variable {c:Nat→Nat→Bool}(O:vI c)
def Le (c:Nat->Nat->Bool)(i j:Nat):Prop:=c j i=false
include O
theorem le_refl (i:Nat):Le c i i:=by
 unfold Le
 cases h:c i i with
 |false=>rfl
 |true=>have:=O.asym h;rw[h]at this;exact this
theorem le_trans {i j k:Nat}(h1:Le c i j)(h2:Le c j k):Le c i k:=O.ntr h2 h1
theorem pZ {i j:Nat}(h:c i j=true):Le c i j:=O.asym h
omit O
def eZ (c:Nat->Nat->Bool)(p:Array Nat)(n:Nat):Prop:=∀a b,a<=b->b<n->Le c (G p a) (G p b)
def jD (c:Nat->Nat->Bool)(p:Array Nat)(n:Nat):Prop:=∀a b,a<=b->b<n->Le c (G p b) (G p a)
include O
theorem aw1 {p:Array Nat}{n:Nat}(h:eZ c p n)(h1:1<=n)(hl:Le c (G p (n-1)) (G p n)):eZ c p (n+1):=λa b hab hb=>by
 by_cases hbn:b<n
 ·exact h a b hab hbn
 ·have e:b=n:=by omega
  subst e
  by_cases han:a=b
  ·subst han;exact le_refl O _
  ·exact le_trans O (h a (b-1) (by omega) (by omega)) hl
theorem qA {p:Array Nat}{n:Nat}(h:jD c p n)(h1:1<=n)(hl:Le c (G p n) (G p (n-1))):jD c p (n+1):=λa b hab hb=>by
 by_cases hbn:b<n
 ·exact h a b hab hbn
 ·have e:b=n:=by omega
  subst e
  by_cases han:a=b
  ·subst han;exact le_refl O _
  ·exact le_trans O hl (h a (b-1) (by omega) (by omega))
omit O
def bS {α:Type}(n:Nat)(c:Nat->Nat->Bool)(R:α->Prop):KasT α->Prop
 |.ret a=>R a
 |.ask i j k=>i<n/\j<n/\bS n c R (k (c i j))
theorem bS.mono {α:Type}{n:Nat}{R R':α->Prop}(h:∀a,R a->R' a):∀(t:KasT α),bS n c R t->bS n c R' t
 |.ret a,q=>h a q
 |.ask i j k,q=>⟨q.1,q.2.1,bS.mono h (k (c i j)) q.2.2⟩
theorem bS.bind {α β:Type}{n:Nat}{R:α->Prop}{R':β->Prop}{f:α->KasT β}(h:∀a,R a->bS n c R' (f a)):∀(t:KasT α),bS n c R t->bS n c R' (t.bind f)
 |.ret a,q=>h a q
 |.ask i j k,q=>⟨q.1,q.2.1,bS.bind h (k (c i j)) q.2.2⟩
theorem bS.run {α:Type}{n:Nat}{R:α->Prop}{I:Shared->Prop}{cmp:Nat->Nat->(Bool->Shared->Prop)->Shared->Prop}{Q:α->Shared->Prop}(hc:∀i j C s,i<n->j<n->I s->(∀s',I s'->C (c i j) s')->cmp i j C s)(hQ:∀a s,R a->I s->Q a s):∀(t:KasT α) (s:Shared),I s->bS n c R t->t.kasWp cmp Q s
 |.ret a,s,hI,q=>hQ a s q hI
 |.ask i j k,s,hI,q=>hc i j _ s q.1 q.2.1 hI λs' hI'=>bS.run hc hQ (k (c i j)) s' hI' q.2.2
include O
theorem vJ {n:Nat}{p:Array Nat}(hp:PP n p):∀(f m:Nat),1<=m->m+f<=n->eZ c p m->bS n c (λr=>m<=r/\r<=m+f/\eZ c p r/\(r<m+f->c (G p r) (G p (r-1))=true)) (kas_asc p f m)
 |0,m,_,_,h=>⟨bh8 _,bh8 _,h,λz=>absurd z (bn8 _)⟩
 |f+1,m,h1,h2,h=>by
  refine⟨hp.lt (by omega),hp.lt (by omega),?_⟩
  by_cases hc:c (p.getD m 0) (p.getD (m-1) 0)=true
  ·simp only[hc,if_true]
   exact⟨bh8 _,by omega,h,λ_=>hc⟩
  ·have hc':c (p.getD m 0) (p.getD (m-1) 0)=false:=bv2.mpr hc
   simp only[hc',bk1,bn9]
   refine bS.mono (λr q=>⟨by omega,by omega,q.2.2.1,λz=>q.2.2.2 (by omega)⟩) _ (vJ hp f (m+1) (by omega) (by omega) (aw1 O h h1 hc'))
omit O
def jY (c:Nat->Nat->Bool)(i j:Nat):Prop:=Le c i j/\Le c j i
include O
theorem vK {p q:Array Nat}{n:Nat}(h:jD c p n)(e:∀k,k<n->jY c (G q k) (G p k)):jD c q n:=λa b hab hb=>
 le_trans O (e b hb).1 (le_trans O (h a b hab hb) (e a (by omega)).2)
theorem J2 {n m i:Nat}{p:Array Nat}(hp:PP n p)(hm:m<=n)(h:∀a,i<=a->a<m->jY c (G p a) (G p (m-1))):∀k,jY c (G (kas_rev p i m) k) (G p k):=λk=>by
 rw[vH (by rw[hp.size];exact hm)]
 by_cases hk:i<=k/\k<m
 ·rw[if_pos hk]
  have h1:=h (i+m-1-k) (by omega) (by omega)
  have h2:=h k hk.1 hk.2
  exact⟨le_trans O h1.1 h2.2,le_trans O h2.1 h1.2⟩
 ·rw[if_neg hk];exact⟨le_refl O _,le_refl O _⟩
omit O
def DI (c:Nat->Nat->Bool)(n:Nat)(p:Array Nat)(m q:Nat):Prop:=PP n p/\1<=m/\m<=n/\jD c p m/\q+1<=m/\∀a,m-(q+1)<=a->a<m->jY c (G p a) (G p (m-1))
include O
theorem J3 {n m q:Nat}{p:Array Nat}(h:DI c n p m q):PP n (kas_rev p (m-(q+1)) m)/\∀k,jY c (G (kas_rev p (m-(q+1)) m) k) (G p k):=
 ⟨h.1.rev _ _,J2 O h.1 h.2.2.1 h.2.2.2.2.2⟩
theorem qB {n:Nat}:∀(f:Nat) (p:Array Nat) (m q:Nat),m+f<=n->DI c n p m q->bS n c (λr=>DI c n r.1 r.2.1 r.2.2) (kas_desc f p m q)
 |0,p,m,q,_,h=>h
 |f+1,p,m,q,hf,h=>by
  have hp:=h.1
  have h1:=h.2.1
  refine⟨hp.lt (by omega),hp.lt (by omega),?_⟩
  by_cases hc:c (p.getD m 0) (p.getD (m-1) 0)=true
  ·simp only[hc,if_true]
   have dn:jD c p (m+1):=qA O h.2.2.2.1 h1 (pZ O hc)
   by_cases hq:q>0
   ·simp only[hq,if_true]
    obtain⟨pr,er⟩:=J3 O h
    refine qB f _ (m+1) 0 (by omega) ⟨pr,by omega,by omega,vK O dn λk _=>er k,by omega,λa h1 h2=>?_⟩
    have e:a=m+1-1:=by omega
    rw[e];exact⟨le_refl O _,le_refl O _⟩
   ·simp only[hq,bn9]
    refine qB f p (m+1) 0 (by omega) ⟨hp,by omega,by omega,dn,by omega,λa h1 h2=>?_⟩
    have e:a=m+1-1:=by omega
    rw[e];exact⟨le_refl O _,le_refl O _⟩
  ·have hc':c (p.getD m 0) (p.getD (m-1) 0)=false:=bv2.mpr hc
   simp only[hc',bk1,bn9]
   refine⟨hp.lt (by omega),hp.lt (by omega),?_⟩
   by_cases hd:c (p.getD (m-1) 0) (p.getD m 0)=true
   ·simp only[hd,if_true]
    exact h
   ·have hd':c (p.getD (m-1) 0) (p.getD m 0)=false:=bv2.mpr hd
    simp only[hd',bk1,bn9]
    have ee:jY c (G p (m-1)) (G p m):=⟨hc',hd'⟩
    refine qB f p (m+1) (q+1) (by omega) ⟨hp,by omega,by omega,qA O h.2.2.2.1 h1 ee.2,by have:=h.2.2.2.2.1;omega,λa h1 h2=>?_⟩
    rw[Nat.add_sub_cancel]
    by_cases ha:a=m
    ·rw[ha];exact⟨le_refl O _,le_refl O _⟩
    ·have z:=h.2.2.2.2.2 a (by omega) (by omega)
     exact⟨le_trans O z.1 ee.1,le_trans O ee.2 z.2⟩
omit O
def CI (c:Nat->Nat->Bool)(n:Nat)(r:Nat×Array Nat):Prop:=PP n r.2/\1<=r.1/\r.1<=n/\eZ c r.2 r.1
include O
theorem J4 {n m:Nat}{p:Array Nat}(hp:PP n p)(h1:1<=m)(hm:m<=n)(h:jD c p m):bS n c (CI c n) (kas_tail3 m n p):=by
 have ha:eZ c (kas_rev p 0 m) m:=λa b hab hb=>by
  rw[vH (by rw[hp.size];exact hm),vH (by rw[hp.size];exact hm),if_pos ⟨bl4 _,by omega⟩,if_pos ⟨bl4 _,hb⟩]
  exact h _ _ (by omega) (by omega)
 refine bS.bind (R:=λr=>m<=r/\r<=m+(n-m)/\eZ c (kas_rev p 0 m) r/\_) (λr q=>?_) _ (vJ O (hp.rev 0 m) (n-m) m h1 (by omega) ha)
 exact⟨hp.rev _ _,by have:=q.1;omega,by have:=q.2.1;omega,q.2.2.1⟩
theorem J5 {n m:Nat}{p:Array Nat}(hp:PP n p)(h1:1<=m)(hm:m+1<=n)(h:jD c p (m+1)):bS n c (CI c n) (kas_descPart m n p):=by
 refine bS.bind (R:=λr=>DI c n r.1 r.2.1 r.2.2) (λr q=>?_) _ (qB O (n-(m+1)) p (m+1) 0 (by omega) ⟨hp,by omega,hm,h,by omega,λa h1 h2=>?_⟩)
 ·by_cases hq:r.2.2>0
  ·rw[if_pos hq]
   obtain⟨pr,er⟩:=J3 O q
   exact J4 O pr q.2.1 q.2.2.1 (vK O q.2.2.2.1 λk _=>er k)
  ·rw[if_neg hq]
   exact J4 O q.1 q.2.1 q.2.2.1 q.2.2.2.1
 ·have e:a=m+1-1:=by omega
  rw[e];exact⟨le_refl O _,le_refl O _⟩
theorem aw2 {n:Nat}{p:Array Nat}(hp:PP n p)(hn:1<=n):bS n c (CI c n) (kas_count n p):=by
 have a1:eZ c p 1:=λa b hab hb=>by
  have e1:a=0:=by omega
  have e2:b=0:=by omega
  rw[e1,e2];exact le_refl O _
 refine bS.bind (R:=λr=>1<=r/\r<=1+(n-1)/\eZ c p r/\(r<1+(n-1)->c (G p r) (G p (r-1))=true)) (λm q=>?_) _ (vJ O hp (n-1) 1 (bh8 _) (by omega) a1)
 obtain⟨q1,q2,q3,q4⟩:=q
 by_cases hm:(m==n)=true
 ·rw[if_pos hm]
  exact⟨hp,q1,by omega,q3⟩
 ·rw[if_neg hm]
  have hne:m≠n:=by simpa using hm
  have hc:=q4 (by omega)
  by_cases h1:m>1
  ·rw[if_pos h1]
   refine⟨hp.lt (by omega),hp.lt (by omega),?_⟩
   by_cases hd:c (p.getD 0 0) (p.getD (m-1) 0)=true
   ·simp only[hd,if_true]
    exact⟨hp,q1,by omega,q3⟩
   ·have hd':c (p.getD 0 0) (p.getD (m-1) 0)=false:=bv2.mpr hd
    simp only[hd',bk1,bn9]
    have eq:∀a,0<=a->a<m->jY c (G p a) (G p (m-1)):=λa _ ha=>⟨q3 a (m-1) (by omega) (by omega),le_trans O hd' (q3 0 a (bl4 _) ha)⟩
    have er:=J2 O hp (by omega:m<=n) eq
    refine J5 O (hp.rev 0 m) q1 (by omega) (vK O (p:=p) ?_ λk _=>er k)
    refine qA O (λa b hab hb=>?_) q1 (pZ O hc)
    exact le_trans O (eq b (bl4 _) hb).1 (eq a (bl4 _) (by omega)).2
  ·rw[if_neg h1]
   have e:m=1:=by omega
   subst e
   refine J5 O hp (bh8 _) (by omega) (qA O (λa b hab hb=>?_) (bh8 _) (pZ O hc))
   have e1:a=0:=by omega
   have e2:b=0:=by omega
   rw[e1,e2];exact le_refl O _
theorem vL {n k:Nat}{p:Array Nat}(hp:PP n p)(hk:k<n)(ha:eZ c p k):∀(f l r:Nat),l<=r->r<=k->r-l<=f->(∀a,a<l->Le c (G p a) (G p k))->(∀a,r<=a->a<k->Le c (G p k) (G p a))->
  bS n c (λl=>l<=k/\(∀a,a<l->Le c (G p a) (G p k))/\∀a,l<=a->a<k->Le c (G p k) (G p a)) (kas_place p k f l r)
 |0,l,r,h1,h2,h3,hl,hr=>⟨by omega,hl,λa h4 h5=>hr a (by omega) h5⟩
 |f+1,l,r,h1,h2,h3,hl,hr=>by
  unfold kas_place
  by_cases hlr:l >= r
  ·rw[if_pos hlr]
   exact⟨by omega,hl,λa h4 h5=>hr a (by omega) h5⟩
  ·rw[if_neg hlr]
   refine⟨hp.lt hk,hp.lt (by omega),?_⟩
   by_cases hc:c (p.getD k 0) (p.getD ((l+r)/2) 0)=true
   ·simp only[hc,if_true]
    exact vL hp hk ha f l ((l+r)/2) (by omega) (by omega) (by omega) hl λa h4 h5=>le_trans O (pZ O hc) (ha _ _ h4 h5)
   ·have hc':c (p.getD k 0) (p.getD ((l+r)/2) 0)=false:=bv2.mpr hc
    simp only[hc',bk1,bn9]
    exact vL hp hk ha f ((l+r)/2+1) r (by omega) h2 (by omega) (λa h4=>le_trans O (ha a ((l+r)/2) (by omega) (by omega)) hc') hr
theorem J6 {n:Nat}:∀(f:Nat) (p:Array Nat) (k:Nat),PP n p->k+f<=n->eZ c p k->bS n c (λq=>PP n q/\eZ c q (k+f)) (kas_bin f p k)
 |0,p,k,hp,_,h=>⟨hp,h⟩
 |f+1,p,k,hp,hk,h=>by
  refine bS.bind (R:=λl=>l<=k/\(∀a,a<l->Le c (G p a) (G p k))/\∀a,l<=a->a<k->Le c (G p k) (G p a)) (λl q=>?_) _ (vL O hp (by omega) h k 0 k (bl4 _) (bh8 _) (by omega) (λa z=>absurd z (Nat.not_lt_zero _)) λa h1 h2=>absurd h2 (by omega))
  obtain⟨q1,q2,q3⟩:=q
  have e:∀a,G (bubble p k (k-l)) a=if a=l then G p k else if l<a/\a<=k then G p (a-1) else G p a:=λa=>by
   rw[aw0 (by rw[hp.size];omega) (by omega),show k-(k-l)=l by omega]
  refine bS.mono (λr z=>⟨z.1,by rw[show k+(f+1)=k+1+f by omega];exact z.2⟩) _ (J6 f _ (k+1) (hp.bub _ _) (by omega) λa b hab hb=>?_)
  rw[e,e]
  by_cases ha:a=l
  ·rw[if_pos ha]
   by_cases hb':b=l
   ·rw[if_pos hb'];exact le_refl O _
   ·rw[if_neg hb',if_pos (by omega)];exact q3 _ (by omega) (by omega)
  ·rw[if_neg ha]
   by_cases ha2:l<a/\a<=k
   ·rw[if_pos ha2,if_neg (by omega),if_pos (by omega)]
    exact h _ _ (by omega) (by omega)
   ·rw[if_neg ha2]
    by_cases hb':b=l
    ·rw[if_pos hb'];exact q2 a (by omega)
    ·rw[if_neg hb']
     by_cases hb2:l<b/\b<=k
     ·rw[if_pos hb2];exact h _ _ (by omega) (by omega)
     ·rw[if_neg hb2];exact h _ _ hab (by omega)
theorem aw3 {n:Nat}(hn:1<=n):bS n c (λq=>PP n q/\eZ c q n) (kas_sort n):=by
 have hp:PP n (List.toArray (List.range n)):=by unfold PP;simp
 refine bS.bind (R:=CI c n) (λr q=>?_) _ (aw2 O hp hn)
 obtain⟨q1,q2,q3,q4⟩:=q
 by_cases h:r.1<n
 ·rw[if_pos h]
  have e:max r.1 1=r.1:=by omega
  rw[e]
  exact bS.mono (λp z=>⟨z.1,by rw[show r.1+(n-r.1)=n by omega]at z;exact z.2⟩) _ (J6 O (n-r.1) r.2 r.1 q1 (by omega) q4)
 ·rw[if_neg h]
  have e:r.1=n:=by omega
  exact⟨q1,by rw[e]at q4;exact q4⟩
end
end Srt
namespace L2
open PySem PySem.Spec PyProof.Rows
theorem b7.there {P:Program}{w:World}{H:Hp}{h:Heap}{a:Addr}{o:HO}(x:b7 P w H h a o):∃u,h.get? a=some u:=by
 cases o with
 |lst xs=>obtain⟨_,_,_,_,e⟩:=x;exact⟨_,e⟩
 |tup xs=>obtain⟨_,_,_,⟨o,e,_⟩,_⟩:=x;exact⟨_,e⟩
 |dK kvs=>obtain⟨_,_,_,_,o,_,_,e,_⟩:=x;exact⟨_,e⟩
 |dT kvs=>obtain⟨_,_,_,_,o,_,_,e,_⟩:=x;exact⟨_,e⟩
 |set S n=>obtain⟨o,_,_,_,e,_⟩:=x;exact⟨_,e⟩
 |ins C dx fs=>obtain⟨_,_,_,e,_⟩:=x;exact⟨_,e⟩
 |own y=>exact x
 |xd fs=>obtain⟨_,⟨_,_,_,e,_⟩,_⟩:=x;exact⟨_,e⟩
 |rng lo hi=>obtain⟨_,_,_,e⟩:=x;exact⟨_,e⟩
 |frz ob u=>obtain⟨e,_⟩:=x;exact⟨_,e⟩
 |tbl ps=>exact⟨_,(show h.get? a=some _ from x)⟩
 |met f y=>exact⟨_,(show h.get? a=some _ from x)⟩
 |ext φ=>obtain⟨_,z,_⟩:=x;exact z
section
variable {X:Cx}{pins:List (Addr×Obj)}{σ:St}{H:Hp}{s:Shared}{h':Heap}{a:Addr}{o:HO}{t':Nat}
theorem a6.laidF (I:a6 X pins σ H s)(hn:s.heap.get? a=none)(k:∀b u,b≠X.env.locals->s.heap.get? b=some u->h'.get? b=some u)(ns:∀m,s.heap.Ns X.env.locals m->h'.Ns X.env.locals m)(new:b7 X.prog X.w (upd H a o) h' a o):H a=none/\a6 X pins σ (upd H a o) { s with heap:=h',toks:=t' }:=by
 have hHn:H a=none:=by
  cases q:H a with
  |none=>rfl
  |some u=>obtain⟨z,e⟩:=(I.hok a u q).there;rw[hn]at e;cases e
 have ne:∀b u,s.heap.get? b=some u->b≠a:=λb u e z=>by rw[z,hn]at e;cases e
 have hL:=I.free
 refine⟨hHn,I.step (g':=s.gens) (d':=s.drawn) (ch:=[]) (λ_ z=>nomatch z) (λb o' h1 _ _ e _=>k b o' h1 e) (λb o' h1 _ _ e _=>⟨o'.slots,k b o' h1 e⟩) (λb o' _ e n=>by rw[a8 (ne b o' e)];exact n) (λb o' _ e=>?_)
  (λb xs q=>by rw[a8 (bO q hHn)];exact q) (λb u xs q=>by rw[a8 (bO q hHn)];exact q) (λb ps q=>⟨#[],by rw[a8 (bO q hHn),q];simp⟩) ns (λb u q=>?_) I.bare⟩
 ·by_cases hb:b=X.env.locals
  ·obtain⟨m,hm,_⟩:=I.loc
   obtain⟨o2,_,_,e2,_⟩:=ns m hm
   exact⟨o2,by rw[hb];exact e2⟩
  ·exact⟨o',k b o' hb e⟩
 ·by_cases hb:b=a
  ·subst hb;rw[aQ]at q;cases q;exact new
  ·rw[a8 hb]at q
   refine (I.hok b u q).stay (λc v hc e=>k c v ?_ e) (λc e=>by rw[a8 (bO e hHn)];exact e) λc xs e=>by rw[a8 (bO e hHn)];exact e
   rcases hc with z|z
   ·rw[z];intro y;rw[y,hL]at q;cases q
   ·intro y;rw[y,hL]at z;cases z
theorem a6.newsAll (I:a6 X pins σ H s){news:List (Addr×Obj)}{m:Str->Option Value}(hs:∀p∈nA X.base s.heap X.env.locals,p∈news)(F:Fr X.base X.env.locals h' m)(N:News X.base X.env.locals h' news) :
  ∀b o,b≠X.env.locals->s.heap.get? b=some o->h'.get? b=some o:=λb o h1 e=>by
 cases q:X.base.get? b with
 |some u=>
  have:=I.bk b u q
  rw[e]at this;cases this
  exact F.keep b _ q
 |none=>exact (N (b,o) (hs _ (z9 h1 q e))).1
end
theorem aw4 {α:Type}{d:α}(l:List α){p:List Nat}(h:p.Perm (List.range l.length)):(p.map λi=>l.getD i d).Perm l:=by
 have e:(List.range l.length).map (λi=>l.getD i d)=l:=by
  apply List.ext_getElem
  ·simp
  ·intro i h1 h2
   simp at h1
   simp[h1]
 have:=h.map λi=>l.getD i d
 rw[e]at this
 exact this
theorem jZ:∀{xs:List V}{us:List Value} (i:Nat),i<xs.length->aF xs us->aM (xs.getD i .non) (us.getD i Value.none)
 |_,_,_,h,.nil=>by simp at h
 |_,_,0,_,.cons r _=>by simpa using r
 |_,_,i+1,h,.cons _ t=>by
  have:=jZ i (by simpa using h) t
  simpa using this
theorem J7 {xs:List V}{us:List Value}(r:aF xs us):∀{p:List Nat},(∀i∈p,i<xs.length)->aF (p.map λi=>xs.getD i .non) (p.map λi=>us.getD i Value.none)
 |[],_=>.nil
 |i::p,h=>.cons (jZ i (h i bh7) r) (J7 r λj hj=>h j (bi5 _ hj))
theorem qD {α:Type}:∀l:List α,(l.zip l).map (·.2)=l
 |[]=>rfl
 |a::l=>by
  show a::((l.zip l).map (·.2))=a::l
  rw[qD l]
theorem aw5 {prog:Program}{w:World}{A:Around}{E:Value->Shared->Prop}{s:Shared}{a:Addr}{vs:List Value}{n:Nat}{P:PySem.Fin->Shared->Prop}(e:s.heap.get? a=some (seqObj "list" vs.toArray n))(few:vs.length<2)(q:P (.done (.ret .none)) { s with heap:=sortedHeap s.heap a vs vs.toArray }):wpAny (model prog w) A (Builtin.«list.sort» ⟨[.ref a],[]⟩) P E s:=by
 have big:vs.length<=sizeLine:=bm0 (br6 few) (by decide)
 have la:=bj0 e
 have c:vs.toArray.size<2:=by simpa using few
 have same:(arrOf (SortSt.mk' general' (vs.toArray.zip vs.toArray) #[] 7 none)).map (·.2)=vs.toArray:=by
  change (vs.toArray.zip vs.toArray).map (·.2)=vs.toArray
  apply Array.ext'
  simpa using qD vs
 obtain⟨k,ek⟩:∃k,(s.heap.update a (Obj.mapSeq λ_=>#[])).get? a=some (seqObj "list" #[] k):=⟨_,get?_update_seq e λ_=>#[]⟩
 have there:(((s.heap.update a (Obj.mapSeq λ_=>#[])).push (seqObj "tuple" vs.toArray 0)).push (seqObj "list" #[] 0)).get? a=some (seqObj "list" #[] k):=
  bh4 _ (bh4 _ ek)
 rw[list_sort_plain]
 apply bh3
 apply listItems_at e rfl
 apply bh3
 refine listUpdate_at e rfl ?_ (by simpa using big) (bl4 _)
 apply bh3
 apply seqEpoch_at ek rfl
 apply bh3
 refine wpAny_newTuple ?_ big
 apply bh3
 refine wpAny_newList ?_ (bl4 _)
 apply br3
 simp only[c,if_true,StateT.run_pure]
 apply bh3
 apply bi0
 apply bh3
 apply bi0
 apply bh3
 apply seqEpoch_at there rfl
 apply bh3
 refine listUpdate_at there rfl ?_ (bl4 _) (by rw[same,bh6];exact Nat.le_succ_of_le big)
 rw[same]
 simp only[bne_self_eq_false,bk1,bn9]
 exact bi0 q
theorem vM {prog:Program}{w:World}{A:Around}{E:Value->Shared->Prop}{s:Shared}{l:Addr}{vs:List Value}{Q:Value->Shared->Prop}(hl:s.heap.IsList l vs.toArray)(few:vs.length<2)(q:Q (.ref (s.heap.objs.size+1)) { s with heap:=sortedAll s.heap vs vs.toArray }):wpAny (model prog w) A (call (.builtin "sorted") [.ref l]) Q E s:=by
 have big:vs.length<=sizeLine:=bm0 (br6 few) (by decide)
 apply Calls.call_function_entry kind_sorted plain_sorted entry_sorted (args_sorted1 _)
 simp only[Builtin.«sorted»]
 apply bh3 (m:=checkCount "sorted" 1 1 _)
 apply bi0
 apply bh3
 refine collect_list hl ?_ big
 apply bh3
 refine wpAny_newList ?_ big
 have one:((s.heap.push (seqObj "list" #[] 0)).update s.heap.objs.size (Obj.mapSeq (·++vs.toArray))).objs.size=s.heap.objs.size+1:=(Heap.size_update _ _ _).trans (size_push' _ _)
 have at1:(((s.heap.push (seqObj "list" #[] 0)).update s.heap.objs.size (Obj.mapSeq (·++vs.toArray))).push (seqObj "list" vs.toArray 0)).get? (s.heap.objs.size+1)=some (seqObj "list" vs.toArray 0):=one▸bj2 _ rfl
 change wpAny _ _ _ _ _ { s with heap:=((s.heap.push (seqObj "list" #[] 0)).update s.heap.objs.size (Obj.mapSeq (·++vs.toArray))).push (seqObj "list" vs.toArray 0) }
 rw[one]
 apply bh3
 apply br3
 refine bo8 slot_list_sort ⟨_,at1,rfl⟩ entry_list_sort ?_ (args_list_sort _)
 refine aw5 at1 few ⟨_,rfl,?_⟩
 exact bi0 ⟨_,rfl,q⟩
theorem lN:∀{a b:ae},HT.aY a b=true->HT.aY b a=false
 |[],[],h=>by cases h
 |[],_::_,_=>rfl
 |_::_,[],h=>by cases h
 |x::xs,y::ys,h=>by
  rw[HT.iF]at h ⊢
  by_cases e:x=y
  ·rw[if_pos e]at h;rw[if_pos e.symm];exact lN h
  ·rw[if_neg e]at h;rw[if_neg (Ne.symm e)]
   have:=bv3 h
   exact bi2 (by omega)
theorem qE:∀{a b c:ae},HT.aY a b=false->HT.aY b c=false->HT.aY a c=false
 |[],[],c,_,h=>h
 |[],_::_,_,h,_=>by cases h
 |_::_,[],[],_,_=>rfl
 |_::_,[],_::_,_,h=>by cases h
 |_::_,_::_,[],_,_=>rfl
 |x::xs,y::ys,z::zs,h1,h2=>by
  rw[HT.iF]at h1 h2 ⊢
  by_cases e1:x=y
  ·rw[if_pos e1]at h1
   by_cases e2:y=z
   ·rw[if_pos e2]at h2;rw[if_pos (e1.trans e2)];exact qE h1 h2
   ·rw[if_neg e2]at h2;rw[if_neg (by rw[e1];exact e2)];rw[e1];exact h2
  ·rw[if_neg e1]at h1
   have k1:=bw2 h1
   by_cases e2:y=z
   ·rw[<- e2,if_neg e1];exact h1
   ·rw[if_neg e2]at h2
    have k2:=bw2 h2
    rw[if_neg (by omega)]
    exact bi2 (by omega)
theorem vN:∀{a b:ae},HT.aY a b=false->HT.aY b a=false->a=b
 |[],[],_,_=>rfl
 |[],_::_,h,_=>by cases h
 |_::_,[],_,h=>by cases h
 |x::xs,y::ys,h1,h2=>by
  rw[HT.iF]at h1 h2
  by_cases e:x=y
  ·rw[if_pos e]at h1;rw[if_pos e.symm]at h2;rw[e,vN h1 h2]
  ·rw[if_neg e]at h1;rw[if_neg (Ne.symm e)]at h2
   have:=bw2 h1
   have:=bw2 h2
   omega
def J8 (H:Hp):V->ae
 |.ref b=>match H b with
  |some (.tup xs)=>xs.map λx=>match x with
   |.int i=>i
   |_=>0
  |_=>[]
 |_=>[]
section
variable {prog:Program}{w:World}{A:Around}{s:Shared}{Q:Bool→Shared→Prop}
theorem vO:∀{us ws:List Value}{xs ys:ae} (i:Nat),IntsAre us xs->IntsAre ws ys->Q (HT.aY xs ys) s->PySem.W.KatLex prog w A true (decide (us.length<ws.length)) Q (us.zip ws) i s
 |_,_,_,_,_,.nil,.nil,h=>h
 |_,_,_,_,_,.nil,.cons _ _ _,h=>h
 |_,_,_,_,_,.cons _ _ _,.nil,h=>h
 |_,_,_,_,i,.cons (vs:=us) x t hx,.cons (vs:=ws) y u hy,h=>by
  refine PySem.W.kat_cons (wpAny_eqBool_int ?_)
  rw[HT.iF]at h
  by_cases e:x=y
  ·rw[if_pos e]at h
   have eb:(x==y)=true:=by simpa using e
   rw[eb]
   refine PySem.W.kat_yes ?_
   have e2:decide ((Value.int x t::us).length<(Value.int y u::ws).length)=decide (us.length<ws.length):=by simp
   rw[e2]
   exact vO (i+1) hx hy h
  ·rw[if_neg e]at h
   have eb:(x==y)=false:=by simpa using e
   rw[eb]
   refine PySem.W.kat_no ?_
   cases hi:(true&&i==0) with
   |true=>exact PySem.W.kat_lt_int h
   |false=>exact PySem.W.kat_one _ _ (lt_int h)
end
def J9 (K:ac):List V->Hp->VK->Prop:=λxs H Q=>∃(a:Addr) (ys:List V) (key:V->ae),xs = [.ref a]/\aJ K H a ys/\ys.length<64/\(∀y∈ys,∃b,y = .ref b/\aG K H b ((key y).map V.int)/\key y≠[])/\
 ∀l (zs:List V),H l=none->zs.Perm ys->zs.Pairwise (λu v=>HT.aY (key v) (key u)=false)->Q (.ref l) (upd H l (.lst zs))
theorem aw6 {c:Nat->Nat->Bool}{R:V->V->Prop}{ys:List V}{p:Array Nat}{n:Nat}(hp:Srt.PP n p)(ha:Srt.eZ c p n)(hR:∀i j,Srt.Le c i j->R (ys.getD i .non) (ys.getD j .non)) :
  (p.toList.map λi=>ys.getD i .non).Pairwise R:=by
 rw[bp3,bl7]
 intro i j hi hj hij
 have hs:=hp.size
 have h1:i<n:=by rw[<- hs];simpa using hi
 have h2:j<n:=by rw[<- hs];simpa using hj
 have q:=ha i j (br6 hij) h2
 have e:∀k (hk:k<p.toList.length),Srt.G p k=p.toList[k]:=λk hk=>by
  have hk':k<p.size:=by simpa using hk
  unfold Srt.G;rw[bt4];simp[hk']
 rw[e i hi,e j hj]at q
 exact hR _ _ q
theorem aw7 {X:Cx}:cH X (.builtin "sorted") (J9 X.K):=by
 intro pins s σ H xs us Q I r h
 obtain⟨a,ys,key,rfl,hs,h64,hk,q⟩:=h
 obtain⟨u,rfl,ru⟩:=fV r
 cases ru
 obtain⟨its,rv,p,hz⟩:=I.list hs
 have hl:=rv.length
 by_cases h2:its.length<2
 ·
  refine vM p.isList h2 ?_
  obtain⟨e,he⟩:=sortedAll_at s.heap its its.toArray
  have hn:s.heap.objs.size<=s.heap.objs.size+1:=Nat.le_succ _
  refine⟨.ref (s.heap.objs.size+1),upd H (s.heap.objs.size+1) (.lst ys),I.laid (t':=s.toks) (λ_ _=>sortedAll_old) hn ⟨hz,its,e,rv,he⟩,rfl,q _ ys (I.hok.fresh hn) (List.Perm.refl _) ?_⟩
  match ys,hl with
  |[],_=>exact bp2
  |[_],_=>exact bl8 _ _
  |_::_::_,hl=>simp at hl;omega
 ·obtain⟨m,F⟩:=I.fr
  have hL:∀{b:Addr}{k:ae},aG X.K H b (k.map V.int)->b≠X.env.locals:=λ{b k} z e=>by
   obtain⟨its',_,⟨ob,e1,c1,_⟩,_⟩:=I.tuple z
   obtain⟨m',⟨o',es',ep',e2,d2,_⟩,_⟩:=I.loc
   rcases z with (z|⟨_,z⟩)|⟨o3,its3,n3,z3,zc,zd,_⟩
   ·rw[e,I.free]at z;cases z
   ·rw[e,I.free]at z;cases z
   ·have:=I.kIn b o3 z3
    rw[e,e2]at this
    cases this
    rw[d2]at zd;cases zd
  refine PySem.W.kat_sorted F (aj8 (g:=X.base) (h:=s.heap) (L:=X.env.locals)) p.isList (by omega) (by omega) λD e1 h' F' N' hD=>?_
  have keep:=I.newsAll (λp hp=>bi5 _ hp) F' N'
  have look:∀i,i<ys.length->∃(b:Addr) (ob:Obj) (us:List Value) (n:Nat),its.getD i Value.none = .ref b/\h'.get? b=some ob/\ob.cls = .type "tuple"/\ob.data = .seq us.toArray n/\IntsAre us (key (ys.getD i .non))/\key (ys.getD i .non)≠[]:=λi hi=>by
   have hy:ys.getD i .non∈ys:=by
    rw[bh9,bh5 hi];exact bq5 hi
   obtain⟨b,eb,sq,ne⟩:=hk _ hy
   have rr:=jZ i hi rv
   rw[eb]at rr
   have rr:its.getD i Value.none = .ref b:=rr
   obtain⟨us,ru,⟨ob,e1,c1,n1,d1⟩,_⟩:=I.tuple sq
   exact⟨b,ob,us,n1,rr,keep b ob (hL sq) e1,c1,d1,pP ru,ne⟩
  have firsts:∀{xs:List V}{vs:List Value},aF xs vs->(∀y∈xs,∃b,y = .ref b/\aG X.K H b ((key y).map V.int)/\key y≠[])->∃fs:List Value,PySem.W.KatTups h' vs fs/\fs.length=vs.length/\∀v∈fs,∃i t,v=Value.int i t:=by
   intro xs vs r
   induction r with
   |nil=>intro _;exact⟨[],PySem.W.KatTups.nil,rfl,λ_ z=>nomatch z⟩
   |@cons x v xs vs rx rt ih=>
    intro hh
    obtain⟨fs,t1,t2,t3⟩:=ih λy hy=>hh y (bi5 _ hy)
    obtain⟨b,eb,sq,ne⟩:=hh x bh7
    subst eb
    cases rx
    obtain⟨us,ru,⟨ob,e1,c1,n1,d1⟩,_⟩:=I.tuple sq
    have ia:=pP ru
    generalize key (V.ref b)=kk at ia ne
    cases ia with
    |nil=>exact absurd rfl ne
    |@cons n t vs0 ns0 ht=>
     exact⟨Value.int n t::fs,PySem.W.KatTups.cons (keep b ob (hL sq) e1) c1 d1 (by simp) t1,by simp[t2],λv hv=>(bi4.mp hv).elim (λz=>⟨n,t,z⟩) (t3 v)⟩
  obtain⟨fs,t1,t2,t3⟩:=firsts rv hk
  refine PySem.W.kat_kind (T:=.type "int") t1 (by omega) (λv hv=>?_) (by decide) ?_
  ·obtain⟨i,t,rfl⟩:=t3 v hv
   exact PySem.W.Looks.now
  let c:Nat->Nat->Bool:=λi j=>HT.aY (key (ys.getD i .non)) (key (ys.getD j .non))
  have O:Srt.vI c:=⟨λh=>lN h,λh1 h2=>qE h1 h2⟩
  have ok:=Srt.aw3 (n:=its.length) O (by omega)
  refine Srt.bS.run (I:=λs'=>s'={ s with heap:=h' }) (λi j C s' hi hj hI hC=>?_) (λpa s' hR hI=>?_) _ _ rfl ok
  ·subst hI
   obtain⟨b1,o1,u1,n1,g1,g2,_,g4,g5,_⟩:=look i (by omega)
   obtain⟨b2,o2,u2,n2,k1,k2,_,k4,k5,_⟩:=look j (by omega)
   show wpAny _ _ (keyLt' (tuples' (Value.type "int" != Value.type "tuple")) (its.getD i Value.none) (its.getD j Value.none)) _ _ _
   rw[g1,k1]
   have eT:(Value.type "int" != Value.type "tuple")=true:=by decide
   rw[eT]
   refine PySem.W.kat_lt g2 g4 k2 k4 ?_
   have:=vO (prog:=X.prog) (w:=X.w) (A:=X.A.in1.in1) (s:={ s with heap:=h' }) (Q:=C) 0 g5 k5 (hC _ rfl)
   simpa using this
  ·subst hI
   obtain⟨hp,hasc⟩:=hR
   refine PySem.W.KasFin.intro F' N' (PySem.W.UpdF.head λp hp=>bl3 (hD p hp)) λh2 cc F2 N2=>?_
   have keep2:=I.newsAll (λp hp=>bi5 _ hp) F2 N2
   have hDn:s.heap.get? D=none:=by
    cases z:s.heap.get? D with
    |none=>rfl
    |some o=>
     obtain⟨_,n1,n2⟩:=N2 (D,_) bh7
     exact absurd (hD _ (z9 n1 n2 z)) (bn8 _)
   have hpl:∀i∈pa.toList,i<ys.length:=λi hi=>by
    have:=bq0.mp (hp.mem_iff.mp hi);omega
   have hp':pa.toList.Perm (List.range ys.length):=by rw[hl];exact hp
   have pm:=aw4 (d:=V.non) ys hp'
   obtain⟨hDo,hDL,hDb⟩:=N2 (D,_) bh7
   obtain⟨hHD,I2⟩:=I.laidF (t':=s.toks) (a:=D) (o:=.lst (pa.toList.map λi=>ys.getD i .non)) hDn keep2 (λm' hm'=>by
     have e:m'=m:=funext λnm=>Heap.Ns.agree hm' F.ns nm
     rw[e];exact F2.ns) ⟨by rw[pm.length_eq];exact hz,_,cc,J7 rv hpl,hDo⟩
   exact⟨.ref D,_,I2,rfl,q D _ hHD pm (aw6 hp hasc λi j hle=>hle)⟩
end L2
namespace Raw
open PySem PySem.W PySem.Calls PyProof.Rows
def k7 (h:Heap)(d:Addr)(es:Array DictEntry)(ep:Nat):Prop:=∃o,h.get? d=some o/\o.ExactDict/\o.data = .dict es ep
theorem k7.ty {s:Shared}{d:Addr}{es:Array DictEntry}{ep:Nat}(x:k7 s.heap d es ep):s.TypeIs (.ref d) "dict":=x.elim λo y=>⟨o,y.1,y.2.1.1⟩
section
variable {prog:Program}{w:World}{A:Around}{E:Value→Shared→Prop}{s:Shared}{d it:Addr}{es:Array DictEntry}{ep i:Nat}
theorem made (far:(d==sysModules)=false)(x:k7 s.heap d es ep){Q:Value->Shared->Prop}(q:Q (.ref s.heap.objs.size) { s with heap:=s.heap.push { cls:=.type "dict_keyiterator",data:=.fields #[.ref d,.int 0 0,.int es.size 0,.int ep 0] } }):wpAny (model prog w) A (pyIter (.ref d)) Q E s:=by
 have T:=x.ty
 obtain⟨o,e1,e2,e3⟩:=x
 apply wpAny_pyIter_slot T PySem.F.slot_dict_iter
 apply bo8 PySem.F.slot_dict_iter T PySem.F.entry_dict_iter _ (PySem.F.args_dict_iter_1 _)
 simp only[Builtin.«dict.__iter__»,Builtin.Dict.dictSlotNone]
 apply bh3
 apply bh3
 apply wpAny_notOrdered_dict T
 apply bi0
 change wpAny _ _ (Builtin.Dict.showsAll d >>= _) _ _ s
 have far':Builtin.Dict.showsAll d=pure ():=by
  unfold Builtin.Dict.showsAll
  simp only[far,bk1,bn9]
 rw[far',pure_bind]
 apply bh3
 apply wpAny_dictEntries e1 e3
 apply bh3
 apply wpAny_dictEpoch e1 e3
 apply bh3
 refine bp1 (bi0 ?_)
 refine⟨.ref s.heap.objs.size,rfl,"dict_keyiterator",_,⟨_,bj2 _ rfl,rfl⟩,PySem.F.slot_dict_keyiterator_next.lookup,?_⟩
 simpa only[rawInt] using q
theorem turn (hh:A.handled=none)(hi:s.heap.IsKeyIter it d i es.size ep)(x:k7 s.heap d es ep){Q:Option Value->Shared->Prop}(yes:∀(lt:i<es.size) h',h'.IsKeyIter it d (i+1) es.size ep->Heap.SameBut it s.heap h'->Q (some es[i].key) { s with heap:=h' })(no:es.size<=i->∀h',Heap.ExtBut it s.heap h'->Q none { s with heap:=h' }):wpAny (model prog w) A (pyNext (.ref it)) Q E s:=by
 have T:=hi.typeIs
 obtain⟨oi,f1,f2,f3⟩:=hi
 obtain⟨o,e1,e2,e3⟩:=x
 have slot:=PySem.F.slot_dict_keyiterator_next
 have plain:Builtin.Dict_items.ownsTuple "dict_keyiterator" = false:=by decide
 have isref:(Value.ref d==Value.none)=false:=rfl
 have nn:¬(i:Int)<0:=by omega
 unfold pyNext
 apply bh3
 apply wpAny_attempt
 apply bo3 (name:=Str.ofString "__next__") T slot
 apply bo8 slot T PySem.F.entry_dict_keyiterator_next _ (PySem.F.args_dict_keyiterator_next_1 _)
 apply bh3
 apply bi0
 apply bh3
 apply bh3
 apply bh3
 first
  |apply wpAny_typeNameOfWhole_keyiter T
  |apply wpAny_typeNameOf_keyiter T
 apply bi0
 apply bh3
 apply wpAny_fieldsOf f1 f3
 simp only[plain,bk1,bn9]
 change wpAny _ _ (if (Value.ref d==Value.none)=true then _ else _) _ _ s
 have adr:Builtin.Dict_items.addrOf (Value.ref d)=pure d:=rfl
 simp only[isref,bk1,bn9,adr,pure_bind]
 apply bh3
 apply wpAny_dictEntries e1 e3
 simp only[bne_self_eq_false,bk1,bn9]
 apply bh3
 apply wpAny_dictEpoch e1 e3
 simp only[bne_self_eq_false,bk1,bn9]
 apply bi0
 simp only[nn,bn9,bm4]
 by_cases lt:i<es.size
 ·simp only[Array.getElem?_eq_getElem lt]
  apply bh3
  apply bh3
  first
   |apply wpAny_typeNameOfWhole_keyiter T
   |apply wpAny_typeNameOf_keyiter T
  apply bi0
  apply bh3
  apply wpAny_isOneOf_keyiter T
  change wpAny _ _ (setField (.ref it) 1 (rawInt ((i:Int)+1)) >>= _) _ _ s
  apply bh3
  refine wpAny_setField f1 f3 (by simp) ?_
  have again:(s.heap.update it (Obj.mapFields (·.setIfInBounds 1 (rawInt ((i:Int)+1))))).IsKeyIter it d (i+1) es.size ep:=by
   refine⟨_,Heap.get?_update_self _ f1 (Obj.isFreed_of_fields (Obj.data_mapFields f3 _)),?_,?_⟩
   ·rw[Obj.cls_mapFields];exact f2
   ·rw[Obj.data_mapFields f3];simp[rawInt]
  apply bh3
  apply br3
  apply bh3
  refine wpAny_isOneOf_keyiter (s:={ s with heap:=s.heap.update it (Obj.mapFields (·.setIfInBounds 1 (rawInt ((i:Int)+1)))) }) again.typeIs ?_
  change wpAny _ _ (pure es[i].key) _ _ _
  apply bi0
  apply bi0
  exact⟨es[i].key,rfl,bi0 (yes lt _ again (bv6 ..))⟩
 ·have ge:es.size<=i:=Nat.le_of_not_lt lt
  simp only[Array.getElem?_eq_none ge]
  apply bh3
  apply bh3
  first
   |apply wpAny_typeNameOfWhole_keyiter T
   |apply wpAny_typeNameOf_keyiter T
  apply bi0
  change wpAny _ _ (setField (.ref it) 0 .none >>= _) _ _ s
  apply bh3
  refine wpAny_setField f1 f3 (by simp) ?_
  apply bh3
  simp only[newExc,newTuple]
  apply bh3
  refine bp1 ?_ (by size_fits)
  apply bh3
  refine wpAny_of_eq (a:=Value.none) (by first|rfl|(simp only[firstArgMember];rfl)) ?_
  refine bp1 ?_ (by size_fits)
  unfold raiseNew
  apply bh3
  apply wpAny_handled
  have quiet:A.in1.handled=none:=hh
  rw[quiet]
  refine wpAny_throw ?_
  apply bh3
  refine wpAny_isInstance (T:="StopIteration") (b:=true) ⟨_,bj2 _ rfl,rfl⟩ isSubtype_stop ?_
  exact bi0 (no ge _ (((bv6 ..).extBut.push _).push _))
end
end Raw
namespace L2
open PySem PySem.Spec PyProof.Rows
section
variable {X:Cx}{pins:List (Addr×Obj)}{σ:St}{H:Hp}{s:Shared}{a:Addr}
def vP (H:Hp)(y:V)(k:List aC):Prop:=∃q,y = .ref q/\H q=some (.tup (k.map kV))
theorem aw8 {kvs:List (aC×V)}(I:a6 X pins σ H s)(h:H a=some (.dK kvs)):∃es ep,Raw.k7 s.heap a es ep/\(a==sysModules)=false/\aF (kvs.map λp=>kV p.1) (es.toList.map (·.key))/\kvs.length<=sizeLine:=by
 obtain⟨z,far,vs,rel,o,es,ep,e1,e2,e3,kk,pr,nd⟩:=(show b7 X.prog X.w H s.heap a (.dK kvs) from I.hok a _ h)
 refine⟨es,ep,⟨o,e1,e2,e3⟩,far,?_,z⟩
 clear z far e1 e2 e3 kk nd h
 generalize es.toList=l at pr
 induction pr generalizing kvs with
 |nil=>cases rel;exact .nil
 |@cons e k es' kvs' h1 h2 _ ih=>
  cases rel with
  |@cons p q ps qs r rs=>
   refine .cons ?_ (ih rs)
   obtain⟨r1,_⟩:=r
   show aM (kV p.1) e.key
   rw[r1]
   rcases gZ h1 with⟨n,t,e4,e5⟩|⟨x,t,e4,e5⟩
   ·rw[e4,e5];exact⟨t,rfl⟩
   ·rw[e4,e5];exact⟨t,rfl⟩
theorem aw9 {kvs:List (List aC×V)}(I:a6 X pins σ H s)(h:H a=some (.dT kvs)):∃es ep ys,Raw.k7 s.heap a es ep/\(a==sysModules)=false/\Paired (vP H) ys (kvs.map (·.1))/\aF ys (es.toList.map (·.key))/\kvs.length<=sizeLine:=by
 obtain⟨z,far,xs,rel,o,es,ep,e1,e2,e3,e4,nd⟩:=(show b7 X.prog X.w H s.heap a (.dT kvs) from I.hok a _ h)
 refine⟨es,ep,xs.map λq=>V.ref q.2.1,⟨o,e1,e2,e3⟩,far,?_,?_,z⟩
 ·clear e4 nd h z
  induction rel with
  |nil=>exact .nil
  |cons r rs ih=>exact .cons ⟨_,rfl,r.2.1⟩ ih
 ·rw[e4]
  clear rel e4 nd
  induction xs with
  |nil=>exact .nil
  |cons q qs ih=>exact .cons rfl ih
end
section
variable {X:Cx}
theorem ax0:cH X (.builtin "isinstance") (λxs H Q=>∃x t n b,xs = [x,.ty n]/\eV X.K H x t/\PySem.W.kitOne X.K t (.type n)=some b/\Q (.bl b) H):=by
 intro pins s σ H xs us Q I r h
 obtain⟨x,t,n,b,rfl,ty,e,q⟩:=h
 obtain⟨u,u',rfl,ru,ru'⟩:=pL r
 cases ru'
 exact ao7 I ru ty e λtk=>⟨.bl b,H,I.tok tk,rfl,q⟩
end
def K0 (outer:List (Str×NameKind))(XN:List Str)(names:List (Str×NameKind))(N:List Str)(fr:List (Option Nat)):Bool:=
 names.all (λy=>!(y.2==.cell)||names.lookup y.1==some .cell)&&names.all (λy=>!(y.2==.local)||names.lookup y.1==some .local) &&
 names.all (λy=>!(y.2==.free)||(outer.lookup y.1==some .cell||outer.lookup y.1==some .free))&&fr.length==N.length &&
 (fr.zip N).all (λp=>match p.1 with
  |none=>true
  |some j=>XN[j]?==some p.2&&names.lookup p.2==some .free)
theorem cT.of {X:Cx}{scope:Scope}{N:List Str}{fr:List (Option Nat)}(hk:scope.kind = .function)(h:K0 X.env.scope.names X.N scope.names N fr=true):cT X scope N fr:=by
 unfold K0 at h
 simp only[bk4]at h
 obtain⟨⟨⟨⟨h1,h2⟩,h3⟩,h4⟩,h5⟩:=h
 refine⟨hk,λy hy e=>?_,λy hy e=>?_,λy hy e=>?_,by simpa using h4,λi j e=>?_⟩
 ·have:=bm8.mp h1 y hy
  rw[e]at this;simpa using this
 ·have:=bm8.mp h2 y hy
  rw[e]at this;simpa using this
 ·have:=bm8.mp h3 y hy
  rw[e]at this;simpa using this
 ·have hl:fr.length=N.length:=by simpa using h4
  have hi:i<fr.length:=(bi3.mp e).1
  have m:(some j,N[i]'(by omega))∈fr.zip N:=by
   have:(fr.zip N)[i]? = some (some j,N[i]'(by omega)):=by
    rw[List.getElem?_zip_eq_some]
    exact⟨e,by simp⟩
   exact bj5 this
  have:=bm8.mp h5 _ m
  simp only[bk4,beq_iff_eq]at this
  exact⟨N[i]'(by omega),by simp,this.1,this.2⟩
theorem K1 {n:Option V}{r:St}{v:V}:Wk (none::r) (some v::r):=(Wk.refl (none::r)).set (i:=0) rfl
def lO (H:Hp)(ys:List V)(ls:aa):Prop:=Paired (λy l=>∃b,y = .ref b/\H b=some (.tup [.int l.1,.int l.2])) ys ls
structure K2 (H:Hp)(v:V)(ws:ae)(ls:aa):Prop where
 at_:∃a p q ys,v = .ref a/\H a=some (.tup [.ref p,.ref q])/\H p=some (.tup (ws.map V.int))/\H q=some (.tup ys)/\lO H ys ls
theorem lO.get {H:Hp}:∀{ys:List V}{ls:aa}{i:Nat}{y:V},lO H ys ls->ys[i]? = some y->∃l b,ls[i]? = some l/\y = .ref b/\H b=some (.tup [.int l.1,.int l.2])
 |_,_,_,_,.nil,e=>by simp at e
 |_,_,0,_,.cons (b:=l) ⟨b,h1,h2⟩ _,e=>by simp at e;subst e;exact⟨l,b,rfl,h1,h2⟩
 |_,_,i+1,_,.cons _ t,e=>by
  obtain⟨l,b,h1,h2⟩:=lO.get (i:=i) t (by simpa using e)
  exact⟨l,b,by simpa using h1,h2⟩
def c7 (ls:aa)(k:Int):ae:=ls.flatMap λl=>(if l.1=k then [l.2] else [])++(if l.2=k then [l.1] else [])
theorem ax1 (ls:aa)(l:Int×Int)(k:Int):c7 (ls++[l]) k=c7 ls k++((if l.1=k then [l.2] else [])++(if l.2=k then [l.1] else [])):=by
 unfold c7;rw[List.flatMap_append];simp
theorem K3 {ls:aa}{i:Nat}{l:Int×Int}(h:ls[i]? = some l)(k:Int):c7 (ls.take (i+1)) k=c7 (ls.take i) k++((if l.1=k then [l.2] else [])++(if l.2=k then [l.1] else [])):=by
 rw[bm1,h];exact ax1 _ _ _
structure gL (H H':Hp)(r:Addr)(bs:List Addr)(f:Nat->ae):Prop where
 new:H r=none
 news:∀b∈bs,H b=none/\b≠r
 nd:bs.Nodup
 row:H' r=some (.lst (bs.map V.ref))
 rows:∀(k:Nat) (b:Addr),bs[k]? = some b->H' b=some (.lst ((f k).map V.int))
 same:aA H H'
theorem gL.congr {H H':Hp}{r:Addr}{bs:List Addr}{f g:Nat->ae}(h:gL H H' r bs f)(e:∀k,k<bs.length->f k=g k):gL H H' r bs g:=
 ⟨h.new,h.news,h.nd,h.row,λk b hb=>by rw[<- e k (bi3.mp hb).1];exact h.rows k b hb,h.same⟩
theorem gL.app {H H':Hp}{r:Addr}{bs:List Addr}{f:Nat->ae}(h:gL H H' r bs f){k:Nat}{b:Addr}(hb:bs[k]? = some b)(x:Int) :
  gL H (upd H' b (.lst ((f k).map V.int++[V.int x]))) r bs (λj=>if j=k then f j++[x] else f j):=by
 have hm:b∈bs:=bj5 hb
 refine⟨h.new,h.news,h.nd,by rw[a8 (Ne.symm (h.news b hm).2)];exact h.row,λj c hc=>?_,λc o e=>by rw[a8 (bO e (h.news b hm).1)];exact h.same c o e⟩
 by_cases hj:j=k
 ·subst hj
  rw[hb]at hc;cases hc
  rw[aQ,if_pos rfl];simp
 ·rw[if_neg hj]
  have ne:c≠b:=λz=>by
   subst z
   obtain⟨i1,e1⟩:=bi3.mp hb
   obtain⟨i2,e2⟩:=bi3.mp hc
   refine hj (Nat.le_antisymm (Nat.le_of_not_lt λz=>?_) (Nat.le_of_not_lt λz=>?_))
   ·exact bl7.mp h.nd _ _ i1 i2 z (e1.trans e2.symm)
   ·exact bl7.mp h.nd _ _ i2 i1 z (e2.trans e1.symm)
  rw[a8 ne];exact h.rows j c hc
theorem lP (ls:aa)(k:Int):(c7 ls k).length<=2*ls.length:=by
 induction ls with
 |nil=>exact bh8 _
 |cons l r ih=>
  have e:c7 (l::r) k=((if l.1=k then [l.2] else [])++(if l.2=k then [l.1] else []))++c7 r k:=rfl
  rw[e,bj6,bj6,bk9]
  have h1:(if l.1=k then [l.2] else []).length<=1:=by split<;>simp
  have h2:(if l.2=k then [l.1] else []).length<=1:=by split<;>simp
  omega
theorem k8 {α:Type}{xs:List α}{i:Int}{v:α}(h0:0<=i)(h:xs[i.toNat]? = some v):atI xs i=some v:=by
 have:=jW h
 rwa [show ((i.toNat:Nat):Int)=i by omega]at this
theorem g9 {n:Nat}(h:n<=16000000):n<sizeLine:=by rw[sizeLine_eq];omega
theorem nZ {σ:St}{H:Hp}{A B:Hp->Prop}(h:A H):vC σ H λb H4=>if b=true then A H4 else B H4:=by
 show if true=true then A H else B H
 rw[if_pos rfl];exact h
theorem k9 {K:ac}{H:Hp}{p:Addr}{xs:List V}(h:aJ K H p xs):jA K "list" (.ref p) H:=.inl ⟨rfl,xs,h⟩
def o0 (H:Hp)(y:V):Int×Int:=match J8 H y with
 |[a,b]=>(a,b)
 |_=>(0,0)
theorem qF {H:Hp}:∀{zs:List V},(∀y∈zs,∃b,y = .ref b/\H b=some (.tup [.int (o0 H y).1,.int (o0 H y).2])/\J8 H y = [(o0 H y).1,(o0 H y).2])->lO H zs (zs.map (o0 H))
 |[],_=>.nil
 |y::zs,h=>by
  obtain⟨b,e,hb,_⟩:=h y bh7
  exact .cons ⟨b,e,hb⟩ (qF λz hz=>h z (bi5 _ hz))
theorem K4 (ns:ae)(lo hi:Option Int):∃ms:ae,dF (ns.map V.int) lo hi=ms.map V.int/\ms.length<=ns.length:=by
 unfold dF
 refine⟨_,by rw[<- List.map_drop,<- List.map_take],?_⟩
 rw[bq2,bs5];omega
end L2
namespace Zp
open PySem PyProof.Rows
section
variable {prog:Program}{w:World}{A:Around}{E:Value→Shared→Prop}{s:Shared}
theorem K5 {it t:Addr}{i:Nat}{items:Array Value}{x:Value}{Q:Value->Shared->Prop}(hi:s.heap.IsTupleIter it t i)(ht:s.heap.IsTuple t items)(hx:items[i]? = some x)(q:∀h',h'.IsTupleIter it t (i+1)->Heap.SameBut it s.heap h'->Q x { s with heap:=h' }):wpAny (model prog w) A (Builtin.SmallTypes.nextOf (.ref it)) Q E s:=by
 have T:=hi.typeIs
 obtain⟨o,e1,e2,e3⟩:=hi
 obtain⟨u,f1,_,k,f3⟩:=ht
 have slot:=PySem.F.slot_tuple_iterator_next
 have isref:(Value.ref t==Value.none)=false:=rfl
 unfold Builtin.SmallTypes.nextOf
 apply bh3
 apply bo3 (name:=Str.ofString "__next__") T slot
 apply bo8 slot T PySem.F.entry_tuple_iterator_next _ (PySem.F.args_tuple_iterator_next_1 _)
 change wpAny _ _ (field (.ref it) 0 >>= _) _ _ s
 apply bh3
 refine bo2 e1 e3 (x:=.ref t) rfl ?_
 change wpAny _ _ (if (Value.ref t==Value.none)=true then _ else _) _ _ s
 simp only[isref,bk1,bn9]
 change wpAny _ _ (field (.ref it) 1 >>= _) _ _ s
 apply bh3
 refine bo2 e1 e3 (x:=.int i 0) rfl ?_
 change wpAny _ _ (seqItems? (.ref t) >>= _) _ _ s
 apply bh3
 apply bw3 f1 f3
 simp only[bm4,hx]
 apply bh3
 refine wpAny_setField e1 e3 (by simp) ?_
 apply bi0
 refine⟨x,rfl,bi0 (q _ ⟨_,Heap.get?_update_self _ e1 (Obj.isFreed_of_fields (Obj.data_mapFields e3 _)),?_,?_⟩ (bv6 ..))⟩
 ·rw[Obj.cls_mapFields];exact e2
 ·rw[Obj.data_mapFields e3];simp[rawInt]
theorem K6 {it t:Addr}{i:Nat}{items:Array Value}{Q:Value->Shared->Prop}(hh:A.handled=none)(hi:s.heap.IsTupleIter it t i)(ht:s.heap.IsTuple t items)(hx:items[i]? = none)(q:∀h' e,Heap.ExtBut it s.heap h'->(∃o,h'.get? e=some o/\o.cls = .type "StopIteration")->E (.ref e) { s with heap:=h' }):wpAny (model prog w) A (Builtin.SmallTypes.nextOf (.ref it)) Q E s:=by
 have T:=hi.typeIs
 obtain⟨o,e1,e2,e3⟩:=hi
 obtain⟨u,f1,_,k,f3⟩:=ht
 have slot:=PySem.F.slot_tuple_iterator_next
 have isref:(Value.ref t==Value.none)=false:=rfl
 unfold Builtin.SmallTypes.nextOf
 apply bh3
 apply bo3 (name:=Str.ofString "__next__") T slot
 apply bo8 slot T PySem.F.entry_tuple_iterator_next _ (PySem.F.args_tuple_iterator_next_1 _)
 change wpAny _ _ (field (.ref it) 0 >>= _) _ _ s
 apply bh3
 refine bo2 e1 e3 (x:=.ref t) rfl ?_
 change wpAny _ _ (if (Value.ref t==Value.none)=true then _ else _) _ _ s
 simp only[isref,bk1,bn9]
 change wpAny _ _ (field (.ref it) 1 >>= _) _ _ s
 apply bh3
 refine bo2 e1 e3 (x:=.int i 0) rfl ?_
 change wpAny _ _ (seqItems? (.ref t) >>= _) _ _ s
 apply bh3
 apply bw3 f1 f3
 simp only[bm4,hx]
 apply bh3
 apply bv5
 apply bh3
 refine wpAny_setField e1 e3 (by simp) ?_
 apply bh3
 simp only[newExc,newTuple]
 apply bh3
 refine bp1 ?_ (by size_fits)
 apply bh3
 refine wpAny_of_eq (a:=Value.none) (by first|rfl|(simp only[firstArgMember];rfl)) ?_
 refine bp1 ?_ (by size_fits)
 unfold raiseNew
 apply bh3
 apply wpAny_handled
 have quiet:A.in1.handled=none:=hh
 rw[quiet]
 refine wpAny_throw ?_
 exact q _ _ (((bv6 ..).extBut.push _).push _) ⟨_,bj2 _ rfl,rfl⟩
theorem ax2 (hh:A.handled=none)(it t:Addr)(ne:t≠it)(items:Array Value):Draws prog w A it [it,t] items.size (λi v=>items[i]? = some v) (λi h=>h.IsTupleIter it t i/\h.IsTuple t items) where
 live:=λ_ _ st=>st.1.elim λo y=>⟨o,y.1⟩
 frame:=λ_ _ _ st k=>⟨st.1.at λo e=>k it bh7 o e,st.2.elim λo y=>⟨o,k t (bi5 _ bh7) o y.1,y.2⟩⟩
 item:=λi s Q E lt st q=>K5 st.1 st.2 (Array.getElem?_eq_getElem lt) λh' again sb=>q _ h' s.toks (Array.getElem?_eq_getElem lt) ⟨again,st.2.elim λo y=>⟨o,sb.extBut t o ne y.1,y.2⟩⟩ sb
 done:=λs Q E st q=>K6 hh st.1 st.2 (Array.getElem?_eq_none (bh8 _)) q
end
structure Ap (z TI TO i1 i2:Addr)(fp1 fp2:List Addr):Prop where
 TIz:TI≠z
 TOz:TO≠z
 TITO:TI≠TO
 z1:z∉fp1
 z2:z∉fp2
 o1:TO∉fp1
 o2:TO∉fp2
 t1:TI∉fp1
 t2:TI∉fp2
 m1:i1∈fp1
 m2:i2∈fp2
 n1:i1∉fp2
 n2:i2∉fp1
structure vQ (z TI TO i1 i2:Addr)(St1 St2:Nat->Heap->Prop)(f0:Value)(i j:Nat)(h:Heap):Prop where
 zz:IsZip h z TI TO f0
 ti:IsPair h TI (.ref i1) (.ref i2)
 to_:∃a b,IsPair h TO a b
 s1:St1 i h
 s2:St2 j h
section
variable {prog:Program}{w:World}{A:Around}{E:Value→Shared→Prop}{s:Shared}{z TI TO i1 i2:Addr}{fp1 fp2:List Addr}{n1 n2:Nat}{P1 P2:Nat→Value→Prop}{St1 St2:Nat→Heap→Prop}
theorem jE (ap:Ap z TI TO i1 i2 fp1 fp2){b:Addr}(h:b∉fp1):b≠i1:=λe=>h (e▸ap.m1)
theorem lQ (ap:Ap z TI TO i1 i2 fp1 fp2){b:Addr}(h:b∉fp2):b≠i2:=λe=>h (e▸ap.m2)
theorem item (D1:Draws prog w A.in1 i1 fp1 n1 P1 St1)(D2:Draws prog w A.in1 i2 fp2 n2 P2 St2)(ap:Ap z TI TO i1 i2 fp1 fp2){i:Nat}(l1:i<n1)(l2:i<n2)(st:vQ z TI TO i1 i2 St1 St2 .none i i s.heap){Q:Option Value->Shared->Prop}(q:∀x y h' tk,P1 i x->P2 i y->vQ z TI TO i1 i2 St1 St2 (rawInt s.heap.objs.size) (i+1) (i+1) h'->IsPair h' s.heap.objs.size x y->(∀c o,c≠z->c≠TO->c≠i1->c≠i2->s.heap.get? c=some o->h'.get? c=some o)->
   h'.objs.size=s.heap.objs.size+1->Q (some (.ref s.heap.objs.size)) { s with heap:=h',toks:=tk }):wpAny (model prog w) A (pyNext (.ref z)) Q E s:=by
 obtain⟨hz,hti,⟨a,b,hto⟩,h1,h2⟩:=st
 have T:s.TypeIs (.ref z) "zip":=⟨_,hz,rfl⟩
 have slot:=PySem.F.slot_zip_next
 unfold pyNext
 apply bh3
 apply wpAny_attempt
 apply bo3 (name:=Str.ofString "__next__") T slot
 apply bo8 slot T PySem.F.entry_zip_next _ (PySem.F.args_zip_next_1 _)
 change wpAny _ _ (field (.ref z) 2 >>= _) _ _ _
 apply bh3
 refine bo2 hz rfl (x:=.bool false) rfl ?_
 change wpAny _ _ (field (.ref z) 3 >>= _) _ _ _
 apply bh3
 refine bo2 hz rfl (x:=.ref TI) rfl ?_
 apply bh3
 apply bw3 hti rfl
 change wpAny _ _ (Builtin.SmallTypes.ownedTupleIsFree (.ref z) >>= _) _ _ _
 apply bh3
 unfold Builtin.SmallTypes.ownedTupleIsFree
 apply bh3
 refine bo2 hz rfl (x:=.none) rfl (bi0 ?_)
 simp only[if_true]
 apply bh3
 apply bv5
 apply bh3
 refine bo2 hz rfl (x:=.ref TO) rfl ?_
 apply bh3
 refine bp5 hz (by simp) λg1 hz1 sb1=>?_
 have k1:∀c o,c≠z->s.heap.get? c=some o->g1.get? c=some o:=λc o c1 e=>sb1.extBut c o c1 e
 apply bh3
 simp only[List.zipIdx_cons,List.zipIdx_nil,List.forIn_cons,List.forIn_nil]
 apply bh3
 apply bh3
 apply wpAny_onRaise
 change wpAny _ _ (Builtin.SmallTypes.nextOf (.ref i1) >>= _) _ _ _
 apply bh3
 refine D1.item i { s with heap:=g1 } _ _ l1 (D1.frame _ _ _ h1 λc hc o e=>k1 c o (λy=>ap.z1 (y▸hc)) e) λx g2 tk2 px st1 sb2=>bi0 ?_
 have k2:∀c o,c≠z->c≠i1->s.heap.get? c=some o->g2.get? c=some o:=λc o c1 c2 e=>sb2.extBut c o c2 (k1 c o c1 e)
 have to2:IsPair g2 TO a b:=k2 _ _ ap.TOz (jE ap ap.o1) hto
 apply bh3
 apply bw3 to2 rfl
 apply bh3
 refine wpAny_updateSeq_pair to2 λg3 to3 sb3=>?_
 have to3:IsPair g3 TO x b:=to3
 apply bh3
 apply wpAny_letGo
 apply bi0
 apply bh3
 apply bh3
 apply wpAny_onRaise
 change wpAny _ _ (Builtin.SmallTypes.nextOf (.ref i2) >>= _) _ _ _
 apply bh3
 have k3:∀c o,c≠z->c≠i1->c≠TO->s.heap.get? c=some o->g3.get? c=some o:=λc o c1 c2 c3 e=>sb3.extBut c o c3 (k2 c o c1 c2 e)
 refine D2.item i { s with heap:=g3,toks:=tk2 } _ _ l2 (D2.frame _ _ _ h2 λc hc o e=>k3 c o (λy=>ap.z2 (y▸hc)) (λy=>ap.n1 (y▸hc)) (λy=>ap.o2 (y▸hc)) e) λy g4 tk4 py st2 sb4=>bi0 ?_
 have to4:IsPair g4 TO x b:=sb4.extBut _ _ (lQ ap ap.o2) to3
 apply bh3
 apply bw3 to4 rfl
 apply bh3
 refine wpAny_updateSeq_pair to4 λg5 to5 sb5=>?_
 have to5:IsPair g5 TO x y:=to5
 apply bh3
 apply wpAny_letGo
 apply bi0
 apply bi0
 apply bh3
 apply bw3 to5 rfl
 apply bh3
 refine wpAny_newTuple ?_ (by show 2<=sizeLine;decide)
 have size:g5.objs.size=s.heap.objs.size:=by rw[sb5.1,sb4.1,sb3.1,sb2.1,sb1.1]
 have k5:∀c o,c≠z->c≠TO->c≠i1->c≠i2->s.heap.get? c=some o->g5.get? c=some o:=λc o c1 c2 c3 c4 e=>sb5.extBut c o c2 (sb4.extBut c o c4 (k3 c o c1 c3 c2 e))
 have z5:IsZip g5 z TI TO .ellipsis:=sb5.extBut _ _ (Ne.symm ap.TOz) (sb4.extBut _ _ (lQ ap ap.z2) (sb3.extBut _ _ (Ne.symm ap.TOz) (sb2.extBut _ _ (jE ap ap.z1) hz1)))
 change wpAny _ _ (Builtin.SmallTypes.ownedTupleHandOut (.ref z) (.ref g5.objs.size) >>= _) _ _ _
 apply bh3
 unfold Builtin.SmallTypes.ownedTupleHandOut
 apply bh3
 have z6:IsZip (g5.push { cls:=.type "tuple",data:=.seq #[x,y] }) z TI TO .ellipsis:=bh4 _ z5
 refine bp5 z6 (by simp) λg7 z7 sb7=>?_
 have z7:IsZip g7 z TI TO (rawInt g5.objs.size):=z7
 refine bp5 z7 (by simp) λg8 z8 sb8=>?_
 have z8:IsZip g8 z TI TO (rawInt g5.objs.size):=z8
 have zlt:z<g5.objs.size:=bj0 z5
 have up:∀c o,c≠z->g5.get? c=some o->g8.get? c=some o:=λc o c1 e=>sb8.extBut c o c1 (sb7.extBut c o c1 (bh4 _ e))
 have p8:IsPair g8 g5.objs.size x y:=sb8.extBut _ _ (bs4 zlt) (sb7.extBut _ _ (bs4 zlt) (bj2 _ rfl))
 have s8:g8.objs.size=g5.objs.size+1:=by rw[sb8.1,sb7.1,bt8]
 have f1:St1 (i+1) g8:=D1.frame _ _ _ st1 λc hc o e=>up c o (λy=>ap.z1 (y▸hc)) (sb5.extBut c o (λy=>ap.o1 (y▸hc)) (sb4.extBut c o (λy=>ap.n2 (y▸hc)) (sb3.extBut c o (λy=>ap.o1 (y▸hc)) e)))
 have f2:St2 (i+1) g8:=D2.frame _ _ _ st2 λc hc o e=>up c o (λy=>ap.z2 (y▸hc)) (sb5.extBut c o (λy=>ap.o2 (y▸hc)) e)
 have ti8:IsPair g8 TI (.ref i1) (.ref i2):=up _ _ ap.TIz (k5 _ _ ap.TIz ap.TITO (jE ap ap.t1) (lQ ap ap.t2) hti)
 rw[size]at z8 p8 s8
 apply bi0
 refine⟨_,rfl,bi0 ?_⟩
 change Q (some (.ref g5.objs.size)) _
 rw[size]
 exact q x y g8 tk4 px py ⟨z8,ti8,⟨x,y,up _ _ ap.TOz to5⟩,f1,f2⟩ p8 (λc o c1 c2 c3 c4 e=>up c o c1 (k5 c o c1 c2 c3 c4 e)) s8
theorem fin (D1:Draws prog w A.in1 i1 fp1 n1 P1 St1)(D2:Draws prog w A.in1 i2 fp2 n2 P2 St2)(ap:Ap z TI TO i1 i2 fp1 fp2){i:Nat}(le:i=n1∨(i<n1/\i=n2))(st:vQ z TI TO i1 i2 St1 St2 .none i i s.heap){Q:Option Value->Shared->Prop}(q:∀h' tk,(∀c o,c≠z->c≠TO->c≠i1->c≠i2->s.heap.get? c=some o->h'.get? c=some o)->Q none { s with heap:=h',toks:=tk }):wpAny (model prog w) A (pyNext (.ref z)) Q E s:=by
 obtain⟨hz,hti,⟨a,b,hto⟩,h1,h2⟩:=st
 have T:s.TypeIs (.ref z) "zip":=⟨_,hz,rfl⟩
 have slot:=PySem.F.slot_zip_next
 unfold pyNext
 apply bh3
 apply wpAny_attempt
 apply bo3 (name:=Str.ofString "__next__") T slot
 apply bo8 slot T PySem.F.entry_zip_next _ (PySem.F.args_zip_next_1 _)
 change wpAny _ _ (field (.ref z) 2 >>= _) _ _ _
 apply bh3
 refine bo2 hz rfl (x:=.bool false) rfl ?_
 change wpAny _ _ (field (.ref z) 3 >>= _) _ _ _
 apply bh3
 refine bo2 hz rfl (x:=.ref TI) rfl ?_
 apply bh3
 apply bw3 hti rfl
 change wpAny _ _ (Builtin.SmallTypes.ownedTupleIsFree (.ref z) >>= _) _ _ _
 apply bh3
 unfold Builtin.SmallTypes.ownedTupleIsFree
 apply bh3
 refine bo2 hz rfl (x:=.none) rfl (bi0 ?_)
 simp only[if_true]
 apply bh3
 apply bv5
 apply bh3
 refine bo2 hz rfl (x:=.ref TO) rfl ?_
 apply bh3
 refine bp5 hz (by simp) λg1 hz1 sb1=>?_
 have k1:∀c o,c≠z->s.heap.get? c=some o->g1.get? c=some o:=λc o c1 e=>sb1.extBut c o c1 e
 apply bh3
 simp only[List.zipIdx_cons,List.zipIdx_nil,List.forIn_cons,List.forIn_nil]
 apply bh3
 apply bh3
 apply wpAny_onRaise
 change wpAny _ _ (Builtin.SmallTypes.nextOf (.ref i1) >>= _) _ _ _
 apply bh3
 have z1:IsZip g1 z TI TO .ellipsis:=hz1
 rcases le with rfl|⟨lt,rfl⟩
 ·refine D1.done { s with heap:=g1 } _ _ (D1.frame _ _ _ h1 λc hc o e=>k1 c o (λy=>ap.z1 (y▸hc)) e) λg2 e eb ex=>?_
  have z2:IsZip g2 z TI TO .ellipsis:=eb _ _ (jE ap ap.z1) z1
  refine bp5 z2 (by simp) λg3 z3 sb3=>?_
  obtain⟨oe,eo,co⟩:=ex
  have ne:e≠z:=λy=>by
   rw[y,z2]at eo
   have:=bk2 eo
   rw[<- this]at co;exact absurd (show Value.type "zip" = Value.type "StopIteration" from co) (by decide)
  apply bh3
  refine wpAny_isInstance (T:="StopIteration") (b:=true) ⟨oe,sb3.extBut _ _ ne eo,co⟩ isSubtype_stop ?_
  exact bi0 (q g3 s.toks λc o c1 _ c3 _ e=>sb3.extBut c o c1 (eb c o c3 (k1 c o c1 e)))
 ·refine D1.item i { s with heap:=g1 } _ _ lt (D1.frame _ _ _ h1 λc hc o e=>k1 c o (λy=>ap.z1 (y▸hc)) e) λx g2 tk2 px st1 sb2=>bi0 ?_
  have k2:∀c o,c≠z->c≠i1->s.heap.get? c=some o->g2.get? c=some o:=λc o c1 c2 e=>sb2.extBut c o c2 (k1 c o c1 e)
  have to2:IsPair g2 TO a b:=k2 _ _ ap.TOz (jE ap ap.o1) hto
  apply bh3
  apply bw3 to2 rfl
  apply bh3
  refine wpAny_updateSeq_pair to2 λg3 to3 sb3=>?_
  apply bh3
  apply wpAny_letGo
  apply bi0
  apply bh3
  apply bh3
  apply wpAny_onRaise
  change wpAny _ _ (Builtin.SmallTypes.nextOf (.ref i2) >>= _) _ _ _
  apply bh3
  have k3:∀c o,c≠z->c≠i1->c≠TO->s.heap.get? c=some o->g3.get? c=some o:=λc o c1 c2 c3 e=>sb3.extBut c o c3 (k2 c o c1 c2 e)
  refine D2.done { s with heap:=g3,toks:=tk2 } _ _ (D2.frame _ _ _ h2 λc hc o e=>k3 c o (λy=>ap.z2 (y▸hc)) (λy=>ap.n1 (y▸hc)) (λy=>ap.o2 (y▸hc)) e) λg4 e eb ex=>?_
  have z4:IsZip g4 z TI TO .ellipsis:=eb _ _ (lQ ap ap.z2) (sb3.extBut _ _ (Ne.symm ap.TOz) (sb2.extBut _ _ (jE ap ap.z1) z1))
  refine bp5 z4 (by simp) λg5 z5 sb5=>?_
  obtain⟨oe,eo,co⟩:=ex
  have ne:e≠z:=λy=>by
   rw[y,z4]at eo
   have:=bk2 eo
   rw[<- this]at co;exact absurd (show Value.type "zip" = Value.type "StopIteration" from co) (by decide)
  apply bh3
  refine wpAny_isInstance (T:="StopIteration") (b:=true) ⟨oe,sb5.extBut _ _ ne eo,co⟩ isSubtype_stop ?_
  exact bi0 (q g5 tk2 λc o c1 c2 c3 c4 e=>sb5.extBut c o c1 (eb c o c4 (k3 c o c1 c3 c2 e)))
end
def fI (h:Heap)(t u:Addr):Heap:=
 ((((h.push { cls:=.type "tuple_iterator",data:=.fields #[.ref t,.int 0 0] }).push { cls:=.type "tuple_iterator",data:=.fields #[.ref u,.int 0 0] }).push { cls:=.type "tuple",data:=.seq #[.ref h.objs.size,.ref (h.objs.size+1)] }).push
  { cls:=.type "tuple",data:=.seq #[.none,.none] }).push { cls:=.type "zip",data:=.fields #[.none,.bool false,.bool false,.ref (h.objs.size+2),.ref (h.objs.size+3)] }
theorem ax3 (t u:Addr)(xs ys:Array Value):Meets (Builtin.«zip.__new__» ⟨[.type "zip",.ref t,.ref u],[]⟩) (λ_ R s=>s.heap.IsTuple t xs/\s.heap.IsTuple u ys/\R (.ok (.ret (.ref (s.heap.objs.size+4)))) { s with heap:=fI s.heap t u }):=
 .of_wp λprog w A R s h=>by
  obtain⟨hp,g,d,tk,os⟩:=s
  obtain⟨ht,hu,h⟩:=h
  have sub:=sub_zip
  have a1:Heap.IsTuple (Shared.heap ⟨hp,g,d,tk,os⟩) t xs:=ht
  have a2:Heap.IsTuple (Shared.heap ⟨hp.push { cls:=.type "tuple_iterator",data:=.fields #[.ref t,.int 0 0] },g,d,tk,os⟩) u ys:=hu.elim λo y=>⟨o,bh4 _ y.1,y.2⟩
  wp_walk using bu3 a1,bu3 a2
  have e:∀(o:Obj) (k:Heap),(k.push o).objs.size=k.objs.size+1:=λo k=>bt8 ..
  refine⟨_,rfl,?_⟩
  simp only[fI,e]at h ⊢
  exact h
section
variable {prog:Program}{w:World}{A:Around}{E:Value→Shared→Prop}{s:Shared}
theorem ax4 {t u:Addr}{xs ys:Array Value}{Q:Value->Shared->Prop}(ht:s.heap.IsTuple t xs)(hu:s.heap.IsTuple u ys)(q:∀h',IsZip h' (s.heap.objs.size+4) (s.heap.objs.size+2) (s.heap.objs.size+3) .none->IsPair h' (s.heap.objs.size+2) (.ref s.heap.objs.size) (.ref (s.heap.objs.size+1))->
   IsPair h' (s.heap.objs.size+3) .none .none->h'.IsTupleIter s.heap.objs.size t 0->h'.IsTupleIter (s.heap.objs.size+1) u 0->(∀c o,s.heap.get? c=some o->h'.get? c=some o)->Q (.ref (s.heap.objs.size+4)) { s with heap:=h' }) :
  wpAny (model prog w) A (call (.type "zip") [.ref t,.ref u]) Q E s:=by
 refine callType_new PySem.F.called_zip (by decide) (PySem.F.typeCall_zip_2 _ _) (PySem.F.newCall_zip_2 _ _) (λobj=>PySem.F.args_object_init_3 obj _ _) PySem.F.entry_zip_new (ax3 t u xs ys) ⟨ht,hu,?_⟩
 have e:∀(o:Obj) (k:Heap),(k.push o).objs.size=k.objs.size+1:=λo k=>bt8 ..
 have p0:∀(k:Heap) (o:Obj) (m:Nat),o.isFreed=false->m=k.objs.size->(k.push o).get? m=some o:=λk o m f z=>by rw[z];exact bj2 _ f
 have g0:(fI s.heap t u).get? s.heap.objs.size=some { cls:=.type "tuple_iterator",data:=.fields #[.ref t,.int 0 0] }:=by
  unfold fI
  exact bh4 _ (bh4 _ (bh4 _ (bh4 _ (p0 _ _ _ rfl rfl))))
 have g1:(fI s.heap t u).get? (s.heap.objs.size+1)=some { cls:=.type "tuple_iterator",data:=.fields #[.ref u,.int 0 0] }:=by
  unfold fI
  exact bh4 _ (bh4 _ (bh4 _ (p0 _ _ _ rfl (by simp only[e]))))
 have g2:(fI s.heap t u).get? (s.heap.objs.size+2)=some { cls:=.type "tuple",data:=.seq #[.ref s.heap.objs.size,.ref (s.heap.objs.size+1)] }:=by
  unfold fI
  exact bh4 _ (bh4 _ (p0 _ _ _ rfl (by simp only[e])))
 have g3:(fI s.heap t u).get? (s.heap.objs.size+3)=some { cls:=.type "tuple",data:=.seq #[.none,.none] }:=by
  unfold fI
  exact bh4 _ (p0 _ _ _ rfl (by simp only[e]))
 have g4:(fI s.heap t u).get? (s.heap.objs.size+4)=some { cls:=.type "zip",data:=.fields #[.none,.bool false,.bool false,.ref (s.heap.objs.size+2),.ref (s.heap.objs.size+3)] }:=by
  unfold fI
  exact p0 _ _ _ rfl (by simp only[e])
 refine⟨⟨_,g4,rfl⟩,q _ g4 g2 g3 ⟨_,g0,rfl,rfl⟩ ⟨_,g1,rfl,rfl⟩ λc o z=>?_⟩
 unfold fI
 exact bh4 _ (bh4 _ (bh4 _ (bh4 _ (bh4 _ z))))
end
end Zp
namespace L2
open PySem PySem.Spec PyProof.Rows
def vR (K:ac)(a b:Addr):It:=
  ⟨λi H=>∃xs ys x y,aG K H a xs/\aG K H b ys/\xs[i]? = some x/\ys[i]? = some y,
   λi H v H'=>∃T x y,H T=none/\v = .ref T/\H'=upd H T (.tup [x,y])/\∀xs ys,aG K H a xs->aG K H b ys->xs[i]? = some x/\ys[i]? = some y,
   λi H=>∃xs ys,aG K H a xs/\aG K H b ys/\(i=xs.length∨(i<xs.length/\i=ys.length))⟩
def Sq (t:Bool)(K:ac)(H:Hp)(a:Addr)(xs:List V):Prop:=match t with
 |true=>aG K H a xs
 |false=>aJ K H a xs
def fJ (t:Bool)(h:Heap)(i a:Addr)(n:Nat):Prop:=match t with
 |true=>h.IsTupleIter i a n
 |false=>h.IsListIter i a n
def K7 (t:Bool)(h:Heap)(a:Addr)(xs:Array Value):Prop:=match t with
 |true=>h.IsTuple a xs
 |false=>h.IsList a xs
theorem fJ.at {h h':Heap}{i a:Addr}{n:Nat}:∀{t:Bool},fJ t h i a n->(∀o,h.get? i=some o->h'.get? i=some o)->fJ t h' i a n
 |true,x,k=>Heap.IsTupleIter.at x k
 |false,x,k=>Heap.IsListIter.at x k
theorem fJ.ob {h:Heap}{i a:Addr}{n:Nat}:∀{t:Bool},fJ t h i a n->∃o,h.get? i=some o/\∀v,o.data≠.cell v
 |true,⟨o,f,_,d⟩=>⟨o,f,λv q=>by rw[d]at q;cases q⟩
 |false,⟨o,f,_,d⟩=>⟨o,f,λv q=>by rw[d]at q;cases q⟩
theorem fJ.draws {prog:Program}{w:World}{A:Around}:∀(t:Bool) (hh:A.handled=none) (it a:Addr) (ne:a≠it) (items:Array Value),Draws prog w A it [it,a] items.size (λi v=>items[i]? = some v) (λi h=>fJ t h it a i/\K7 t h a items)
 |true,hh,it,a,ne,items=>Zp.ax2 hh it a ne items
 |false,hh,it,a,ne,items=>Draws.list hh it a ne items
section
variable {X:Cx}{pins:List (Addr×Obj)}{σ:St}{H:Hp}{s:Shared}{a:Addr}{xs ys:List V}
theorem Sq.get (I:a6 X pins σ H s):∀{t:Bool},Sq t X.K H a xs->∃us,aF xs us/\K7 t s.heap a us.toArray
 |true,h=>by obtain⟨us,r,p,_⟩:=I.tuple h;exact⟨us,r,p⟩
 |false,h=>by obtain⟨us,r,p,_⟩:=I.list h;exact⟨us,r,p.isList⟩
theorem Sq.inj (I:a6 X pins σ H s):∀{t:Bool},Sq t X.K H a xs->Sq t X.K H a ys->xs=ys
 |true,h,g=>I.tuple_inj h g
 |false,h,g=>I.list_inj h g
theorem Sq.off (I:a6 X pins σ H s)(he:H a=none)(hb:X.base.get? a=none):∀{t:Bool},Sq t X.K H a xs->False
 |true,h=>by
  rcases h with (h|⟨_,h⟩)|⟨o,_,_,h,_⟩
  ·rw[he]at h;cases h
  ·rw[he]at h;cases h
  ·have:=I.ok.mod.kin a o h
   rw[hb]at this;cases this
 |false,h=>by
  rcases h with (h|⟨_,h⟩)|⟨o,_,_,h,_⟩
  ·rw[he]at h;cases h
  ·rw[he]at h;cases h
  ·have:=I.ok.mod.kin a o h
   rw[hb]at this;cases this
end
def ax5 (t1 t2:Bool)(K:ac)(a b:Addr):It:=
  ⟨λi H=>∃xs ys x y,Sq t1 K H a xs/\Sq t2 K H b ys/\xs[i]? = some x/\ys[i]? = some y,
   λi H v H'=>∃T x y,H T=none/\v = .ref T/\H'=upd H T (.tup [x,y])/\∀xs ys,Sq t1 K H a xs->Sq t2 K H b ys->xs[i]? = some x/\ys[i]? = some y,
   λi H=>∃xs ys,Sq t1 K H a xs/\Sq t2 K H b ys/\(i=xs.length∨(i<xs.length/\i=ys.length))⟩
structure vS (t1 t2:Bool)(z TI TO i1 i2 a b:Addr)(i:Nat)(h:Heap):Prop where
 zz:IsZip h z TI TO .none
 ti:IsPair h TI (.ref i1) (.ref i2)
 to_:∃x y,IsPair h TO x y
 s1:fJ t1 h i1 a i
 s2:fJ t2 h i2 b i
theorem K8 (t1 t2:Bool){P:Program}{w:World}{K:ac}{elts:List Expr}{k:Nat}{pos:Pos}(a b z TI TO i1 i2:Addr)(d:[z,TI,TO,i1,i2].Nodup) :
  gH P w K (.Tuple elts k pos) (ax5 t1 t2 K a b) [z,TI,TO,i1,i2] z (vS t1 t2 z TI TO i1 i2 a b):=by
 have nd:z≠TI/\z≠TO/\z≠i1/\z≠i2/\TI≠TO/\TI≠i1/\TI≠i2/\TO≠i1/\TO≠i2/\i1≠i2:=by
  simp only[bw6,bi4,bj7,bo1,not_or]at d
  obtain⟨⟨a1,a2,a3,a4⟩,⟨b1,b2,b3⟩,⟨c1,c2⟩,e1,_⟩:=d
  exact⟨a1,a2,a3,a4,b1,b2,b3,c1,c2,e1⟩
 obtain⟨n1,n2,n3,n4,n5,n6,n7,n8,n9,n10⟩:=nd
 have offBase:∀{X:Cx}{pins:List (Addr×Obj)}{σ:St}{H:Hp}{s:Shared},a6 X pins σ H s->(∀c∈[z,TI,TO,i1,i2],fR X pins H c)->∀c∈[z,TI,TO,i1,i2],X.base.get? c=none:=by
  intro X pins σ H s I hf c hc
  cases q:X.base.get? c with
  |none=>rfl
  |some o=>
   rcases (hf c hc).2.2.2.1 with h|h
   ·exact absurd h (I.ok.noex c o q)
   ·exact absurd (bj1 (bj0 q) (bm0 I.ok.bsz h)) (bn8 _)
 have off:∀{t:Bool}{X:Cx}{pins:List (Addr×Obj)}{σ:St}{H:Hp}{s:Shared}{c:Addr}{zs:List V},a6 X pins σ H s->(∀c∈[z,TI,TO,i1,i2],fR X pins H c)->Sq t X.K H c zs->c∉[z,TI,TO,i1,i2]:=by
  intro t X pins σ H s c zs I hf hc hm
  exact Sq.off I (hf c hm).1 (offBase I hf c hm) hc
 have ap:∀{c e:Addr},c∉[z,TI,TO,i1,i2]->e∉[z,TI,TO,i1,i2]->Zp.Ap z TI TO i1 i2 [i1,c] [i2,e]:=λ{c e} hc he=>by
  simp only[bi4,bj7,bo1,not_or]at hc he
  obtain⟨c1,c2,c3,c4,c5⟩:=hc
  obtain⟨e1,e2,e3,e4,e5⟩:=he
  have two:∀{q u v:Addr},q≠u->q≠v->q∉[u,v]:=λ{q u v} h1 h2 hm=>by
   simp only[bi4,bj7,bo1]at hm
   exact hm.elim h1 h2
  exact⟨n1.symm,n2.symm,n5,two n3 (Ne.symm c1),two n4 (Ne.symm e1),two n8 (Ne.symm c3),two n9 (Ne.symm e3),two n6 (Ne.symm c2),two n7 (Ne.symm e2),bh7,bh7,two n10 (Ne.symm e4),two n10.symm (Ne.symm c5)⟩
 refine⟨by simp,λi h st c hc=>?_,λi h h' st kp=>?_,?_,?_,λA i s Q E st q=>wpAny_pyIter_zip st.zz q⟩
 ·simp only[bi4,bj7,bo1]at hc
  obtain⟨x,y,to⟩:=st.to_
  rcases hc with rfl|rfl|rfl|rfl|rfl
  ·exact⟨_,st.zz,λv q=>by cases q⟩
  ·exact⟨_,st.ti,λv q=>by cases q⟩
  ·exact⟨_,to,λv q=>by cases q⟩
  ·exact st.s1.ob
  ·exact st.s2.ob
 ·obtain⟨x,y,to⟩:=st.to_
  exact⟨kp z (by simp) _ st.zz,kp TI (by simp) _ st.ti,⟨x,y,kp TO (by simp) _ to⟩,st.s1.at λo e=>kp i1 (by simp) o e,st.s2.at λo e=>kp i2 (by simp) o e⟩
 ·
  intro X hP hw hK hc i pins s σ H E I hf st hg
  subst hP hw hK
  obtain⟨xs,ys,x,y,ha,hb,hx,hy⟩:=hg
  obtain⟨us,ru,pu⟩:=Sq.get I ha
  obtain⟨vs,rv,pv'⟩:=Sq.get I hb
  obtain⟨ux,eux,rux⟩:=ru.get hx
  obtain⟨vy,evy,rvy⟩:=rv.get hy
  have fa:=off I hf ha
  have fb:=off I hf hb
  have hh:X.A.in1.handled=none:=I.ok.hd hc
  have l1:i<us.toArray.size:=by simpa using (bi3.mp eux).1
  have l2:i<vs.toArray.size:=by simpa using (bi3.mp evy).1
  have fa':a≠i1:=λq=>fa (by rw[q];simp)
  have fb':b≠i2:=λq=>fb (by rw[q];simp)
  have D1:=fJ.draws t1 (prog:=X.prog) (w:=X.w) hh i1 a fa' us.toArray
  have D2:=fJ.draws t2 (prog:=X.prog) (w:=X.w) hh i2 b fb' vs.toArray
  refine Zp.item D1 D2 (ap fa fb) l1 l2 ⟨st.zz,st.ti,st.to_,⟨st.s1,pu⟩,⟨st.s2,pv'⟩⟩ λp q h' tk hp hq st' pr kp sz=>⟨_,rfl,?_⟩
  obtain rfl:p=ux:=by
   have:us.toArray[i]? = some ux:=by simpa using eux
   rw[this]at hp;exact (bk2 hp).symm
  obtain rfl:q=vy:=by
   have:vs.toArray[i]? = some vy:=by simpa using evy
   rw[this]at hq;exact (bk2 hq).symm
  refine wpAny_letOwnedTupleGo_zip (s:={ s with heap:=h',toks:=tk }) st'.zz λg zz sb=>?_
  have hzl:z<s.heap.objs.size:=bj0 st.zz
  have up:∀c o,c≠z->c≠TO->c≠i1->c≠i2->s.heap.get? c=some o->g.get? c=some o:=λc o c1 c2 c3 c4 e=>sb.extBut c o c1 (kp c o c1 c2 c3 c4 e)
  have hT:H s.heap.objs.size=none:=I.hok.fresh (bh8 _)
  have prG:IsPair g s.heap.objs.size p q:=sb.extBut _ _ (bs4 hzl) pr
  have fpn:∀c u,H c=some u->c∉[z,TI,TO,i1,i2]:=λc u e hm=>by rw[(hf c hm).1]at e;cases e
  have upH:∀c o u,H c=some u->s.heap.get? c=some o->g.get? c=some o:=λc o u e z=>by
   have:=fpn c u e
   simp only[bi4,bj7,bo1,not_or]at this
   exact up c o this.1 this.2.2.1 this.2.2.2.1 this.2.2.2.2 z
  have ns:∀m,s.heap.Ns X.env.locals m->g.Ns X.env.locals m:=λm hm=>by
   obtain⟨o,es,ep,e1,e2⟩:=hm
   exact⟨o,es,ep,up _ o (Ne.symm (hf z (by simp)).2.1) (Ne.symm (hf TO (by simp)).2.1) (Ne.symm (hf i1 (by simp)).2.1) (Ne.symm (hf i2 (by simp)).2.1) e1,e2⟩
  have I2:a6 X pins σ (upd H s.heap.objs.size (.tup [x,y])) { s with heap:=g,toks:=tk }:=by
   refine I.step (g':=s.gens) (d':=s.drawn) (ch:=[z,TO,i1,i2]) (λc hc'=>?_) (λc o _ _ hc' e _=>?_) (λc o _ _ hc' e _=>⟨o.slots,?_⟩) (λc o _ e n=>?_) (λc o hc' e=>⟨o,?_⟩)
    (λc zs e=>by rw[a8 (bO e hT)];exact e) (λc u zs e=>by rw[a8 (bO e hT)];exact e) (λc ps e=>⟨#[],by rw[a8 (bO e hT),e];simp⟩) ns (λc u e=>?_) I.bare
   ·have hm:c∈[z,TI,TO,i1,i2]:=by
     simp only[bi4,bj7,bo1]at hc' ⊢
     rcases hc' with h|h|h|h<;>simp[h]
    exact⟨(hf c hm).2.2.2.1,(hf c hm).2.1,(hf c hm).2.2.2.2.1,(hf c hm).2.2.2.2.2⟩
   ·simp only[bi4,bj7,bo1,not_or]at hc'
    exact up c o hc'.1 hc'.2.1 hc'.2.2.1 hc'.2.2.2 e
   ·simp only[bi4,bj7,bo1,not_or]at hc'
    exact up c o hc'.1 hc'.2.1 hc'.2.2.1 hc'.2.2.2 e
   ·rw[a8 (bl3 (bj0 e))];exact n
   ·simp only[bi4,bj7,bo1,not_or]at hc'
    exact up c o hc'.1 hc'.2.1 hc'.2.2.1 hc'.2.2.2 e
   ·by_cases hcT:c=s.heap.objs.size
    ·subst hcT
     rw[aQ]at e;cases e
     exact⟨by show 2<=sizeLine;decide,[p,q],.cons rux (.cons rvy .nil),⟨_,prG,rfl,_,rfl⟩,λu e=>by rw[prG]at e;cases e;rfl⟩
    ·rw[a8 hcT]at e
     refine (I.hok c u e).stay (λc' o' hc2 q'=>?_) (λc' q'=>by rw[a8 (bO q' hT)];exact q') λc' zs q'=>by rw[a8 (bO q' hT)];exact q'
     rcases hc2 with rfl|hc2
     ·exact upH _ _ _ e q'
     ·exact upH _ _ _ hc2 q'
  obtain⟨x',y',to'⟩:=st'.to_
  refine⟨.ref s.heap.objs.size,_,I2,rfl,⟨_,x,y,hT,rfl,rfl,λxs' ys' ha' hb'=>?_⟩,⟨zz,sb.extBut _ _ n1.symm st'.ti,⟨x',y',sb.extBut _ _ n2.symm to'⟩,st'.s1.1.at λo e=>sb.extBut _ o n3.symm e,st'.s2.1.at λo e=>sb.extBut _ o n4.symm e⟩,λc hc'=>?_⟩
  ·rw[Sq.inj I ha' ha,Sq.inj I hb' hb];exact⟨hx,hy⟩
  ·obtain⟨o,e,_⟩:∃o,s.heap.get? c=some o/\True:=by
    simp only[bi4,bj7,bo1]at hc'
    obtain⟨x2,y2,to2⟩:=st.to_
    obtain⟨o1,f1,_⟩:=st.s1.ob
    obtain⟨o2,f2,_⟩:=st.s2.ob
    rcases hc' with rfl|rfl|rfl|rfl|rfl
    ·exact⟨_,st.zz,trivial⟩
    ·exact⟨_,st.ti,trivial⟩
    ·exact⟨_,to2,trivial⟩
    ·exact⟨_,f1,trivial⟩
    ·exact⟨_,f2,trivial⟩
   rw[a8 (bl3 (bj0 e))];exact (hf c hc').1
 ·
  intro X hP hw hK hc i pins s σ H E I hf st hg
  subst hP hw hK
  obtain⟨xs,ys,ha,hb,hi⟩:=hg
  obtain⟨us,ru,pu⟩:=Sq.get I ha
  obtain⟨vs,rv,pv'⟩:=Sq.get I hb
  have fa:=off I hf ha
  have fb:=off I hf hb
  have hh:X.A.in1.handled=none:=I.ok.hd hc
  have fa':a≠i1:=λq=>fa (by rw[q];simp)
  have fb':b≠i2:=λq=>fb (by rw[q];simp)
  have D1:=fJ.draws t1 (prog:=X.prog) (w:=X.w) hh i1 a fa' us.toArray
  have D2:=fJ.draws t2 (prog:=X.prog) (w:=X.w) hh i2 b fb' vs.toArray
  have e1:=ru.length
  have e2:=rv.length
  refine Zp.fin D1 D2 (ap fa fb) (by simp only[bh6];omega) ⟨st.zz,st.ti,st.to_,⟨st.s1,pu⟩,⟨st.s2,pv'⟩⟩ λg tk kp=>⟨rfl,?_⟩
  have fpn:∀c u,H c=some u->c∉[z,TI,TO,i1,i2]:=λc u e hm=>by rw[(hf c hm).1]at e;cases e
  have upH:∀c o u,H c=some u->s.heap.get? c=some o->g.get? c=some o:=λc o u e z=>by
   have:=fpn c u e
   simp only[bi4,bj7,bo1,not_or]at this
   exact kp c o this.1 this.2.2.1 this.2.2.2.1 this.2.2.2.2 z
  have ns:∀m,s.heap.Ns X.env.locals m->g.Ns X.env.locals m:=λm hm=>by
   obtain⟨o,es,ep,e1,e2⟩:=hm
   exact⟨o,es,ep,kp _ o (Ne.symm (hf z (by simp)).2.1) (Ne.symm (hf TO (by simp)).2.1) (Ne.symm (hf i1 (by simp)).2.1) (Ne.symm (hf i2 (by simp)).2.1) e1,e2⟩
  refine I.step (g':=s.gens) (d':=s.drawn) (ch:=[z,TO,i1,i2]) (λc hc'=>?_) (λc o _ _ hc' e _=>?_) (λc o _ _ hc' e _=>⟨o.slots,?_⟩) (λc o _ e n=>n) (λc o hc' e=>⟨o,?_⟩)
   (λc zs e=>e) (λc u zs e=>e) (λc ps e=>⟨#[],by rw[e];simp⟩) ns (λc u e=>?_) I.bare
  ·have hm:c∈[z,TI,TO,i1,i2]:=by
    simp only[bi4,bj7,bo1]at hc' ⊢
    rcases hc' with h|h|h|h<;>simp[h]
   exact⟨(hf c hm).2.2.2.1,(hf c hm).2.1,(hf c hm).2.2.2.2.1,(hf c hm).2.2.2.2.2⟩
  ·simp only[bi4,bj7,bo1,not_or]at hc'
   exact kp c o hc'.1 hc'.2.1 hc'.2.2.1 hc'.2.2.2 e
  ·simp only[bi4,bj7,bo1,not_or]at hc'
   exact kp c o hc'.1 hc'.2.1 hc'.2.2.1 hc'.2.2.2 e
  ·simp only[bi4,bj7,bo1,not_or]at hc'
   exact kp c o hc'.1 hc'.2.1 hc'.2.2.1 hc'.2.2.2 e
  ·refine (I.hok c u e).stay (λc' o' hc2 q'=>?_) (λ_ q'=>q') λ_ _ q'=>q'
   rcases hc2 with rfl|hc2
   ·exact upH _ _ _ e q'
   ·exact upH _ _ _ hc2 q'
abbrev ax6:=vS true true
theorem ax7 {P:Program}{w:World}{K:ac}{elts:List Expr}{k:Nat}{pos:Pos}(a b z TI TO i1 i2:Addr)(d:[z,TI,TO,i1,i2].Nodup) :
  gH P w K (.Tuple elts k pos) (vR K a b) [z,TI,TO,i1,i2] z (ax6 z TI TO i1 i2 a b):=K8 true true a b z TI TO i1 i2 d
section
variable {X:Cx}
def ax8 (K:ac)(ta:TA):TI:=λσ H R=>ta σ H λvs H1=>∃a b xs ys,vs = [.ref a,.ref b]/\aG K H1 a xs/\aG K H1 b ys/\R (vR K a b) H1
theorem ax9 {elts:List Expr}{kt:Nat}{pt:Pos}{a b:Expr}{ta:TA}{p pos:Pos}(hg:Gl X "zip")(hm:X.mg "zip" = none)(ha:PA X [a,b] ta)(hs:starEach [a,b] X.env = [(false,eval a X.env),(false,eval b X.env)]:=by rfl)(hs2:starEach [b] X.env = [(false,eval b X.env)]:=by rfl) :
  PI X (.Tuple elts kt pt) (.Call (.Name "zip" p) [a,b] [] pos) (ax8 X.K ta):=by
 intro pins s σ H R I h
 refine Call_ (iD I hg hm PyProof.Rows.boot_zip (bp6 (aK (ha pos pins s σ H _ I h) λus s1 ⟨vs,H1,I1,r1,q1⟩=>?_) (by rw[hs,hs2]) (by rw[hs2];rfl)))
 obtain⟨a',b',xs,ys,e,h1,h2,q⟩:=q1
 subst e
 cases r1 with
 |cons r rr=>
  cases rr with
  |cons r' rr=>
   cases rr
   cases r
   cases r'
   obtain⟨us,_,p1,_⟩:=I1.tuple h1
   obtain⟨ws,_,p2,_⟩:=I1.tuple h2
   refine Zp.ax4 p1 p2 λh' z ti to s1' s2' kp=>wpAny_pyIter_zip z ?_
   have fresh:∀k,H1 (s1.heap.objs.size+k)=none:=λk=>I1.hok.fresh (bp0 _ _)
   refine⟨s1.heap.objs.size+4,[s1.heap.objs.size+4,s1.heap.objs.size+2,s1.heap.objs.size+3,s1.heap.objs.size,s1.heap.objs.size+1],_,_,H1,rfl,I1.kept (t':=s1.toks) kp,
    ax7 a' b' _ _ _ _ _ (by simp),⟨z,ti,⟨_,_,to⟩,s1',s2'⟩,λc hc=>?_,q⟩
   simp only[bi4,bj7,bo1]at hc
   rcases hc with rfl|rfl|rfl|rfl|rfl
   ·exact I1.fpOk (bp0 _ _) (fresh 4)
   ·exact I1.fpOk (bp0 _ _) (fresh 2)
   ·exact I1.fpOk (bp0 _ _) (fresh 3)
   ·exact I1.fpOk (bh8 _) (fresh 0)
   ·exact I1.fpOk (bp0 _ _) (fresh 1)
theorem vT (hc:X.calm=true):cH X (.builtin "all") (λxs H Q=>∃(a:Addr) (bs:List Bool),xs = [.ref a]/\aJ X.K H a (bs.map V.bl)/\Q (.bl (bs.all id)) H):=by
 intro pins s σ H xs us Q I r h
 obtain⟨a,bs,rfl,hq,q⟩:=h
 obtain⟨u,rfl,ru⟩:=fV r
 cases ru
 obtain⟨its,rv,p,hz⟩:=I.list hq
 have hl:=rv.length
 rw[bi1]at hl
 have hlt:a<s.heap.objs.size:=by obtain⟨o,e,_⟩:=p.isList;exact bj0 e
 refine call_all_walk (wpAny_pyIter_list p.isList ?_)
 have hh:X.A.in1.handled=none:=I.ok.hd hc
 refine⟨s.heap.objs.size,_,_,_,_,_,λi=>bs.getD i false,rfl,Walks.list hh s.heap.objs.size a (bl3 hlt) its.toArray,⟨⟨_,bj2 _ rfl,rfl,rfl⟩,p.isList.push _⟩,?_,λh' tk kp=>?_⟩
 ·intro i v s' Q' E' hP hQ'
  have hi:its[i]? = some v:=by simpa using hP
  have hil:i<bs.length:=by rw[hl];exact (bi3.mp hi).1
  obtain⟨u,e1,e2⟩:=rv.get (i:=i) (x:=.bl bs[i]) (by simp[hil])
  rw[hi]at e1;cases e1
  cases e2
  have:bs.getD i false=bs[i]:=by rw[bh9,bh5 hil];rfl
  have hQ2:Q' (bs.getD i false) s':=hQ'
  rw[this]at hQ2
  exact br7 hQ2
 ·have all_eq:(List.range its.toArray.size).all (λi=>bs.getD i false)=bs.all id:=by
   rw[bh6,<- hl]
   clear q rv hz hl hq hlt p hh kp
   induction bs with
   |nil=>rfl
   |cons b r ih=>
    rw[bk9,List.range_succ_eq_map,bt5,List.all_map,bt5,<- ih]
    rfl
  rw[all_eq]
  refine⟨.bl (bs.all id),H,I.kept (t':=tk) (h':=h') λb o e=>kp b o (λz=>?_) (bh4 _ e),rfl,q⟩
  rw[bi6.mp z]at e
  exact absurd (bj0 e) (bn8 _)
end
structure vU (H:Hp)(J:It)(n:Nat)(R:Nat->V->Hp->Prop):Prop where
 go:∀i H',aA H H'->i<n->J.go i H'
 yld:∀i H' x H2,aA H H'->J.yld i H' x H2->i<n->aA H' H2/\R i x H2
 stop:∀H',aA H H'->J.stop n H'
theorem vV {H1:Hp}{J:It}{n:Nat}{R:Nat->V->Hp->Prop}{g:TG}{tc:TT}{te:TE}{σ0:St}{Q:VK}(O:vU H1 J n R)(Pv:Nat->List V->Hp->Prop)(hn:n<=sizeLine)(h0:∀D,H1 D=none->Pv 0 [] (upd H1 D (.lst [])))(mono:∀i acc H' H2,aA H' H2->Pv i acc H'->Pv i acc H2)(hs:∀i x acc D H',i<n->R i x H'->pY H1 D n i acc H'->Pv i acc H'->g x σ0 H' λσ2 H3=>Wk σ0 σ2/\tc σ2 H3 λb H4=>
   if b=true then te σ2 H4 λv H5=>vG H1 D n Pv i acc v H5 else J0 H1 D n Pv i acc H4)(hd:∀D acc H',H1 D=none->aA H1 H'->H' D=some (.lst acc)->acc.length<=n->Pv n acc H'->Q (.ref D) H') :
  ∀D,H1 D=none->∃W:Nat->Nat->List V->Hp->Prop,(∃m,W 0 m [] (upd H1 D (.lst [])))/\nW g tc te σ0 J D Q W:=by
 intro D hD
 refine⟨CW H1 D n Pv,⟨n,rfl,bl4 _,bh8 _,aW hD _,aQ,h0 D hD⟩,?_⟩
 rintro i m acc H' ⟨rfl,hi,ha,sm,hDa,p⟩
 refine⟨hDa,?_⟩
 by_cases hlt:i<n
 ·refine .inr ⟨O.go i H' sm hlt,λx H2 y=>?_⟩
  obtain⟨s2,r2⟩:=O.yld i H' x H2 sm y hlt
  exact hs i x acc D H2 hlt r2 ⟨hlt,ha,hn,sm.trans s2,hD,s2 _ _ hDa⟩ (mono i acc H' H2 s2 p)
 ·have e:i=n:=by omega
  subst e
  exact .inl ⟨O.stop H' sm,hd D acc H' hD sm hDa ha p⟩
theorem K9 {K:ac}{H:Hp}{a b:Addr}{xs ys:List V}(ha:aG K H a xs)(hb:aG K H b ys)(hl:ys.length<=xs.length) :
  vU H (vR K a b) ys.length (λi v H2=>∃T x y,v = .ref T/\H2 T=some (.tup [x,y])/\xs[i]? = some x/\ys[i]? = some y):=by
 refine⟨λi H' sm hi=>⟨xs,ys,xs[i]'(by omega),ys[i],sm.tup ha,sm.tup hb,by simp,by simp⟩,λi H' v H2 sm y hi=>?_,λH' sm=>⟨xs,ys,sm.tup ha,sm.tup hb,by omega⟩⟩
 obtain⟨T,x,y',hT,hv,e,hxy⟩:=y
 subst e
 obtain⟨h1,h2⟩:=hxy xs ys (sm.tup ha) (sm.tup hb)
 exact⟨aW hT _,T,x,y',hv,aQ,h1,h2⟩
end L2
namespace HT
open PySem PyProof.Rows
section
variable {prog:Program}{w:World}{A:Around}{E:Value→Shared→Prop}{s:Shared}
theorem ay0 {t sl:Addr}{items:Array Value}{vl vu:Value}{lo hi:Option Int}{Q:Value->Shared->Prop}(ht:IsTup s.heap t items)(hs:s.heap.IsSliceOf sl vl vu .none)(pl:IsPart vl lo)(pu:IsPart vu hi)(h1:aP items.size 0 lo=0)(h2:aP items.size items.size hi=items.size)(h:Q (.ref t) s):wpAny (model prog w) A (getItem (.ref t) (.ref sl)) Q E s:=by
 obtain⟨o,e1,e2,e3⟩:=id hs
 have T:s.TypeIs (.ref sl) "slice":=⟨o,e1,e2⟩
 unfold getItem
 try with_reducible refine br3 ?_
 first|refine bh3 (bi0 ?_)|skip
 apply bh3
 apply wpAny_sequenceKey ht.typeIs (by decide)
 apply bh3
 apply bo3 (name:=Str.ofString "__getitem__") ht.typeIs bu2
 apply bo8 bu2 ht.typeIs entry_tuple_getitem _ (args_tuple_getitem _ _)
 change wpAny _ _ (Builtin.Tuple.tupleItemsOf (.ref t) >>= _) _ _ s
 apply bh3
 apply tupleItemsOf_ ht
 apply bh3
 apply wpAny_typeOf T
 rw[if_pos (by decide)]
 apply bh3
 apply B5 hs pl pu
 rw[h1,h2]
 have yes:((((0:Nat):Int)==0&&(1:Int)==1&&(items.size-0)==items.size)=true):=by simp
 change wpAny _ _ (if ((((0:Nat):Int)==0&&(1:Int)==1&&(items.size-0)==items.size)=true) then _ else _) _ _ s
 rw[if_pos yes]
 apply bh3
 unfold Builtin.Tuple.tupleIsExact
 apply bh3
 apply wpAny_typeOf ht.typeIs
 apply bi0
 change wpAny _ _ (rule "tuple.getitem.whole" >>= λ_=>ret (Value.ref t)) _ _ s
 apply bh3
 apply bv5
 exact bi0 ⟨_,rfl,bi0 h⟩
end
end HT
namespace L2
open PySem PySem.Spec PyProof.Rows
section
variable {X:Cx}
def ay1 (K:ac):V->Option Int->Option Int->Hp->VK->Prop:=λx lo hi H Q=>∃a xs,x = .ref a/\aG K H a xs/\(∀p,H p=none->Q (.ref p) (upd H p (.tup (dF xs lo hi))))/\(dF xs lo hi=xs->Q (.ref a) H)
theorem L0:j9 X (ay1 X.K):=by
 intro pins s σ H x v vl vu lo hi sl Q I rx hs pl pu h
 obtain⟨a,xs,ex,hx,q1,q2⟩:=h
 by_cases hw:HT.aP xs.length 0 lo=0/\HT.aP xs.length xs.length hi=xs.length
 ·subst ex
  cases rx
  obtain⟨its,r,ht,hz⟩:=I.tuple hx
  have hlen:its.toArray.size=xs.length:=by rw[bh6];exact r.length.symm
  refine⟨"tuple",_,PyProof.Rows.slot_tuple_getitem.lookup,ht.typeIs,?_⟩
  refine HT.ay0 ht hs pl pu (by rw[hlen];exact hw.1) (by rw[hlen];exact hw.2) ⟨.ref a,H,I,rfl,q2 ?_⟩
  unfold dF
  rw[hw.1,hw.2]
  simp
 ·exact aq7 pins s σ H x v vl vu lo hi sl Q I rx hs pl pu ⟨a,xs,ex,hx,hw,q1⟩
end
theorem vW (xs:List V):dF xs (some 1) none=xs.drop 1:=by
 unfold dF
 have e1:HT.aP xs.length 0 (some 1)=min 1 xs.length:=HT.ap8 xs.length 0 1
 have e2:HT.aP xs.length xs.length none=xs.length:=rfl
 rw[e1,e2]
 cases xs with
 |nil=>rfl
 |cons x r=>
  have:min 1 (x::r).length=1:=by simp
  rw[this]
  simp
def vX (K:ac)(a b:Addr):It:=
  ⟨λi H=>∃xs ys x y,aJ K H a xs/\aJ K H b ys/\xs[i]? = some x/\ys[i]? = some y,
   λi H v H'=>∃T x y,H T=none/\v = .ref T/\H'=upd H T (.tup [x,y])/\∀xs ys,aJ K H a xs->aJ K H b ys->xs[i]? = some x/\ys[i]? = some y,
   λi H=>∃xs ys,aJ K H a xs/\aJ K H b ys/\(i=xs.length∨(i<xs.length/\i=ys.length))⟩
abbrev ay2:=vS false false
theorem ay3 {P:Program}{w:World}{K:ac}{elts:List Expr}{k:Nat}{pos:Pos}(a b z TI TO i1 i2:Addr)(d:[z,TI,TO,i1,i2].Nodup) :
  gH P w K (.Tuple elts k pos) (vX K a b) [z,TI,TO,i1,i2] z (ay2 z TI TO i1 i2 a b):=K8 false false a b z TI TO i1 i2 d
section
variable {X:Cx}
def ay4 (K:ac)(ta:TA):TI:=λσ H R=>ta σ H λvs H1=>∃a b xs ys,vs = [.ref a,.ref b]/\aJ K H1 a xs/\aJ K H1 b ys/\R (vX K a b) H1
theorem ay5 {elts:List Expr}{kt:Nat}{pt:Pos}{a b:Expr}{ta:TA}{p pos:Pos}(hg:Gl X "zip")(hm:X.mg "zip" = none)(ha:PA X [a,b] ta)(hs:starEach [a,b] X.env = [(false,eval a X.env),(false,eval b X.env)]:=by rfl)(hs2:starEach [b] X.env = [(false,eval b X.env)]:=by rfl) :
  PI X (.Tuple elts kt pt) (.Call (.Name "zip" p) [a,b] [] pos) (ay4 X.K ta):=by
 intro pins s σ H R I h
 refine Call_ (iD I hg hm PyProof.Rows.boot_zip (bp6 (aK (ha pos pins s σ H _ I h) λus s1 ⟨vs,H1,I1,r1,q1⟩=>?_) (by rw[hs,hs2]) (by rw[hs2];rfl)))
 obtain⟨a',b',xs,ys,e,h1,h2,q⟩:=q1
 subst e
 cases r1 with
 |cons r rr=>
  cases rr with
  |cons r' rr=>
   cases rr
   cases r
   cases r'
   obtain⟨us,_,p1,_⟩:=I1.list h1
   obtain⟨ws,_,p2,_⟩:=I1.list h2
   refine call_zip_2 p1.isList p2.isList λh' z ti to s1' s2' _ kp=>wpAny_pyIter_zip z ?_
   have fresh:∀k,H1 (s1.heap.objs.size+k)=none:=λk=>I1.hok.fresh (bp0 _ _)
   refine⟨s1.heap.objs.size+4,[s1.heap.objs.size+4,s1.heap.objs.size+2,s1.heap.objs.size+3,s1.heap.objs.size,s1.heap.objs.size+1],_,_,H1,rfl,I1.kept (t':=s1.toks) kp,
    ay3 a' b' _ _ _ _ _ (by simp),⟨z,ti,⟨_,_,to⟩,s1',s2'⟩,λc hc=>?_,q⟩
   simp only[bi4,bj7,bo1]at hc
   rcases hc with rfl|rfl|rfl|rfl|rfl
   ·exact I1.fpOk (bp0 _ _) (fresh 4)
   ·exact I1.fpOk (bp0 _ _) (fresh 2)
   ·exact I1.fpOk (bp0 _ _) (fresh 3)
   ·exact I1.fpOk (bh8 _) (fresh 0)
   ·exact I1.fpOk (bp0 _ _) (fresh 1)
end
theorem ay6 {K:ac}{H:Hp}{a b:Addr}{xs ys:List V}(ha:aJ K H a xs)(hb:aJ K H b ys)(hl:ys.length<=xs.length) :
  vU H (vX K a b) ys.length (λi v H2=>∃T x y,v = .ref T/\H2 T=some (.tup [x,y])/\xs[i]? = some x/\ys[i]? = some y):=by
 refine⟨λi H' sm hi=>⟨xs,ys,xs[i]'(by omega),ys[i],sm.seq ha,sm.seq hb,by simp,by simp⟩,λi H' v H2 sm y hi=>?_,λH' sm=>⟨xs,ys,sm.seq ha,sm.seq hb,by omega⟩⟩
 obtain⟨T,x,y',hT,hv,e,hxy⟩:=y
 subst e
 obtain⟨h1,h2⟩:=hxy xs ys (sm.seq ha) (sm.seq hb)
 exact⟨aW hT _,T,x,y',hv,aQ,h1,h2⟩
theorem ay7 (l:Addr)(items:Array Value)(n:Nat)(b:Addr)(items2:Array Value)(n2:Nat)(dd:Option Addr)(ss:Array (Option Value))(h0:¬(!items.isEmpty&&Builtin.List.listTooLong (items.size+items2.size))=true)(h1:items.size<=sizeLine)(h2:items.size+items2.size<=sizeLine+1) :
  Meets (Builtin.«list.extend» ⟨[.ref l,.ref b],[]⟩) (λ_ R s=>s.heap.get? l=some { cls:=.type "list",dict:=none,data:=.seq items n,slots:=#[] }/\s.heap.get? b=some { cls:=.type "tuple",dict:=dd,data:=.seq items2 n2,slots:=ss }/\R (.ok (.ret Value.none)) { s with heap:=s.heap.update l (Obj.mapSeq λx=>x++items2),toks:=s.toks }):=
 .of_wp λprog w A R s h=>by
  obtain⟨hp,g,d,tk,os⟩:=s;obtain⟨hl,hb,h⟩:=h;have f2:=AutoSeq1.sub_tuple_tuple;have f3:=AutoSeq1.sub_list_list;have f4:=AutoSeq1.sub_tuple_list;have f5:=AutoSeq1.sub_list_tuple
  have hz':(items++items2).size<=sizeLine+1:=by rw[Array.size_append];exact h2
  wp_walk using (wpAny_updateSeq hl rfl (hz:=h1) (_hz':=hz')),AutoSeq1.wpAny_loadPart' hl,AutoSeq1.wpAny_loadPart' hb
  exact⟨_,rfl,h⟩
def L1 (K:ac):V->List V->Hp->VK->Prop:=λx vs H Q=>∃(l b:Addr) (xs zs:List V),x = .ref l/\vs = [.ref b]/\H l=some (.lst xs)/\aG K H b zs/\xs.length+zs.length<=sizeLine/\Q .non (upd H l (.lst (xs++zs)))
theorem ay8 {X:Cx}:lG X "list.extend" (L1 X.K):=by
 intro pins s σ H x vs v us Q I rx rv h
 obtain⟨l,b,xs,zs,rfl,rfl,hH,hB,hz,q⟩:=h
 cases rx
 obtain⟨u,rfl,ru⟩:=rv.one
 cases ru
 obtain⟨z,its,n,r,hl,e⟩:=I.lstM hH
 obtain⟨its2,r2,⟨⟨cls,dd,data,ss⟩,e2,hc,n2,hd⟩,z2⟩:=I.tuple hB
 cases hc
 cases hd
 have hl2:=r2.length
 have hsz:its.toArray.size+its2.toArray.size<=sizeLine:=by rw[bh6,bh6];omega
 have hlong:¬(!its.toArray.isEmpty&&Builtin.List.listTooLong (its.toArray.size+its2.toArray.size))=true:=by
  rw[uV hsz,Bool.and_false]
  exact bj3
 refine call_meets F.slot_list_extend ⟨_,e,rfl⟩ F.entry_list_extend (F.args_list_extend_2 _ _)
  (ay7 l its.toArray n b its2.toArray n2 dd ss hlong (by rw[bh6];omega) (by omega)) ⟨e,e2,?_⟩
 refine⟨.non,_,I.lset (its':=its++its2) hH e (by simp) (r.append r2) ?_,rfl,q⟩
 rw[bj6]
 omega
end L2
namespace PP
open PySem L2
inductive PV where
 |non|bl (b:Bool)|int (i:Int)|str (x:Str)|tup (xs:List PV)|lst (xs:List PV)
 |dK (kvs:List (aC×PV))|dT (kvs:List (List aC×PV))|scr (ns:ae)|kt (xs:List PV)|exc (c:Str)|fK (kvs:List (aC×PV))|fT (kvs:List (List aC×PV))|fL (xs:List PV)
mutual
def flat:PV->Bool
 |.tup xs=>flats xs
 |.lst _=>false
 |.dK _=>false
 |.dT _=>false
 |.non=>true
 |.bl _=>true
 |.int _=>true
 |.str _=>true
 |.scr _=>true
 |.kt xs=>flats xs
 |.exc _=>true
 |.fK _=>false
 |.fT _=>false
 |.fL xs=>flats xs
def flats:List PV->Bool
 |[]=>true
 |x::r=>flat x&&flats r
end
def iK (K:ac)(H:Hp)(a:Addr)(ns:ae):Prop:=(∃o,H a=some (.frz o (.lst (ns.map V.int)))) ∨
  ∃(o:Obj) (its:Array Value) (n:Nat),K.lookup a=some o/\o.cls = .type "list"/\o.dict=none/\o.data = .seq its n/\its.size<=sizeLine/\aF (ns.map V.int) its.toList
def lR (K:ac)(a:Addr)(us:List V):Prop:=∃(o:Obj) (its:Array Value) (n:Nat),K.lookup a=some o/\o.cls = .type "tuple"/\o.data = .seq its n/\its.size<=sizeLine/\aF us its.toList
mutual
inductive aD (K:ac)(M:Addr->Prop)(H:Hp):V->PV->Prop
 |non:aD K M H .non .non
 |bl (b:Bool):aD K M H (.bl b) (.bl b)
 |int (i:Int):aD K M H (.int i) (.int i)
 |str (x:Str):aD K M H (.str x) (.str x)
 |tup {a:Addr}{us:List V}{xs:List PV}:H a=some (.tup us)->Reps K M H us xs->aD K M H (.ref a) (.tup xs)
 |lst {a:Addr}{us:List V}{xs:List PV}:M a->H a=some (.lst us)->Reps K M H us xs->aD K M H (.ref a) (.lst xs)
 |dK {a:Addr}{kvs:List (aC×V)}{ps:List (aC×PV)}:M a->H a=some (.dK kvs)->kvs.map (·.1)=ps.map (·.1)->Reps K M H (kvs.map (·.2)) (ps.map (·.2))->aD K M H (.ref a) (.dK ps)
 |dT {a:Addr}{kvs:List (List aC×V)}{ps:List (List aC×PV)}:M a->H a=some (.dT kvs)->kvs.map (·.1)=ps.map (·.1)->Reps K M H (kvs.map (·.2)) (ps.map (·.2))->aD K M H (.ref a) (.dT ps)
 |scr {a:Addr}{ns:ae}:iK K H a ns->aD K M H (.ref a) (.scr ns)
 |kt {a:Addr}{us:List V}{xs:List PV}:lR K a us->Reps K M H us xs->aD K M H (.ref a) (.kt xs)
 |exc {a C:Addr}{o:Obj}{c:Str}:H a=some (.frz o (.own a))->PySem.W.nsIn K mainGlobals c=some (some (.ref C))->o.cls = .ref C->aD K M H (.ref a) (.exc c)
 |fK {a:Addr}{o:Obj}{kvs:List (aC×V)}{ps:List (aC×PV)}:H a=some (.frz o (.dK kvs))->kvs.map (·.1)=ps.map (·.1)->Reps K M H (kvs.map (·.2)) (ps.map (·.2))->aD K M H (.ref a) (.fK ps)
 |fT {a:Addr}{o:Obj}{kvs:List (List aC×V)}{ps:List (List aC×PV)}:H a=some (.frz o (.dT kvs))->kvs.map (·.1)=ps.map (·.1)->Reps K M H (kvs.map (·.2)) (ps.map (·.2))->aD K M H (.ref a) (.fT ps)
 |fL {a:Addr}{o:Obj}{us:List V}{xs:List PV}:H a=some (.frz o (.lst us))->Reps K M H us xs->aD K M H (.ref a) (.fL xs)
inductive Reps (K:ac)(M:Addr->Prop)(H:Hp):List V->List PV->Prop
 |nil:Reps K M H [] []
 |cons {v:V}{x:PV}{vs:List V}{xs:List PV}:aD K M H v x->Reps K M H vs xs->Reps K M H (v::vs) (x::xs)
end
structure hV (M M':Addr->Prop)(H H':Hp):Prop where
 lst:∀a us,M a->H a=some (.lst us)->M' a/\H' a=some (.lst us)
 dK:∀a kvs,M a->H a=some (.dK kvs)->M' a/\H' a=some (.dK kvs)
 dT:∀a kvs,M a->H a=some (.dT kvs)->M' a/\H' a=some (.dT kvs)
 tup:∀a us,H a=some (.tup us)->H' a=some (.tup us)
 frz:∀a o u,H a=some (.frz o u)->H' a=some (.frz o u)
theorem iK.keep {K:ac}{H H':Hp}{a:Addr}{ns:ae}(k:∀a o u,H a=some (.frz o u)->H' a=some (.frz o u))(h:iK K H a ns):iK K H' a ns:=
 h.elim (λ⟨o,e⟩=>.inl ⟨o,k _ _ _ e⟩) .inr
mutual
theorem aD.keep {K:ac}{M M':Addr->Prop}{H H':Hp}(k:hV M M' H H'):∀{v:V}{x:PV},aD K M H v x->aD K M' H' v x
 |_,_,.non=>.non
 |_,_,.bl b=>.bl b
 |_,_,.int i=>.int i
 |_,_,.str x=>.str x
 |_,_,.tup h r=>.tup (k.tup _ _ h) (Reps.keep k r)
 |_,_,.lst m h r=>.lst (k.lst _ _ m h).1 (k.lst _ _ m h).2 (Reps.keep k r)
 |_,_,.dK m h e r=>.dK (k.dK _ _ m h).1 (k.dK _ _ m h).2 e (Reps.keep k r)
 |_,_,.dT m h e r=>.dT (k.dT _ _ m h).1 (k.dT _ _ m h).2 e (Reps.keep k r)
 |_,_,.scr h=>.scr (h.keep k.frz)
 |_,_,.kt h r=>.kt h (Reps.keep k r)
 |_,_,.exc h e c=>.exc (k.frz _ _ _ h) e c
 |_,_,.fK h e r=>.fK (k.frz _ _ _ h) e (Reps.keep k r)
 |_,_,.fT h e r=>.fT (k.frz _ _ _ h) e (Reps.keep k r)
 |_,_,.fL h r=>.fL (k.frz _ _ _ h) (Reps.keep k r)
theorem Reps.keep {K:ac}{M M':Addr->Prop}{H H':Hp}(k:hV M M' H H'):∀{vs:List V}{xs:List PV},Reps K M H vs xs->Reps K M' H' vs xs
 |_,_,.nil=>.nil
 |_,_,.cons r t=>.cons (aD.keep k r) (Reps.keep k t)
end
mutual
theorem aD.flat {K:ac}{M M':Addr->Prop}{H:Hp}{v:V}{x:PV}(f:flat x=true)(r:aD K M H v x):aD K M' H v x:=by
 cases r with
 |non=>exact .non
 |bl b=>exact .bl b
 |int i=>exact .int i
 |str x=>exact .str x
 |tup h r=>exact .tup h (Reps.flat (by unfold PP.flat at f;exact f) r)
 |lst m h r=>unfold PP.flat at f;cases f
 |dK m h e r=>unfold PP.flat at f;cases f
 |dT m h e r=>unfold PP.flat at f;cases f
 |scr h=>exact .scr h
 |kt h r=>exact .kt h (Reps.flat (by unfold PP.flat at f;exact f) r)
 |exc h e c=>exact .exc h e c
 |fK h e r=>unfold PP.flat at f;cases f
 |fT h e r=>unfold PP.flat at f;cases f
 |fL h r=>exact .fL h (Reps.flat (by unfold PP.flat at f;exact f) r)
theorem Reps.flat {K:ac}{M M':Addr->Prop}{H:Hp}{vs:List V}{xs:List PV}(f:flats xs=true)(r:Reps K M H vs xs):Reps K M' H vs xs:=by
 cases r with
 |nil=>exact .nil
 |cons r t=>
  unfold PP.flats at f
  rw[bk4]at f
  exact .cons (aD.flat f.1 r) (Reps.flat f.2 t)
end
theorem hV.same {M M':Addr->Prop}{H H':Hp}(s:aA H H')(m:∀a,M a->M' a):hV M M' H H':=
 ⟨λa _ h e=>⟨m a h,s _ _ e⟩,λa _ h e=>⟨m a h,s _ _ e⟩,λa _ h e=>⟨m a h,s _ _ e⟩,λ_ _ e=>s _ _ e,λ_ _ _ e=>s _ _ e⟩
theorem aD.same {K:ac}{M M':Addr->Prop}{H H':Hp}{v:V}{x:PV}(r:aD K M H v x)(s:aA H H')(m:∀a,M a->M' a):aD K M' H' v x:=r.keep (.same s m)
theorem Reps.same {K:ac}{M M':Addr->Prop}{H H':Hp}{v:List V}{x:List PV}(r:Reps K M H v x)(s:aA H H')(m:∀a,M a->M' a):Reps K M' H' v x:=r.keep (.same s m)
def gM:HO->Bool
 |.lst _=>true
 |.dK _=>true
 |.dT _=>true
 |_=>false
theorem hV.upd {M M':Addr->Prop}{H:Hp}{a:Addr}{o o':HO}(h:H a=some o')(mu:gM o'=true)(m:∀b,M b->b≠a/\M' b):hV M M' H (upd H a o):=
 ⟨λb _ hb e=>⟨(m b hb).2,by rw[a8 (m b hb).1];exact e⟩,λb _ hb e=>⟨(m b hb).2,by rw[a8 (m b hb).1];exact e⟩,λb _ hb e=>⟨(m b hb).2,by rw[a8 (m b hb).1];exact e⟩,
  λb _ e=>by rw[a8 (λz=>by rw[z,h]at e;cases e;cases mu)];exact e,
  λb _ _ e=>by rw[a8 (λz=>by rw[z,h]at e;cases e;cases mu)];exact e⟩
theorem Reps.length {K:ac}{M:Addr->Prop}{H:Hp}:∀{vs:List V}{xs:List PV},Reps K M H vs xs->vs.length=xs.length
 |_,_,.nil=>rfl
 |_,_,.cons _ t=>congrArg (·+1) t.length
theorem Reps.get {K:ac}{M:Addr->Prop}{H:Hp}:∀{vs:List V}{xs:List PV}{i:Nat}{v:V},Reps K M H vs xs->vs[i]? = some v->∃x,xs[i]? = some x/\aD K M H v x
 |_,_,_,_,.nil,e=>by simp at e
 |_,_,0,_,.cons r _,e=>by simp at e;subst e;exact⟨_,rfl,r⟩
 |_,_,i+1,v,.cons _ t,e=>by
  rw[bo4]at e
  obtain⟨x,h1,h2⟩:=t.get e
  exact⟨x,by rw[bo4];exact h1,h2⟩
theorem Reps.at {K:ac}{M:Addr->Prop}{H:Hp}:∀{vs:List V}{xs:List PV}{i:Nat}{x:PV},Reps K M H vs xs->xs[i]? = some x->∃v,vs[i]? = some v/\aD K M H v x
 |_,_,_,_,.nil,e=>by simp at e
 |_,_,0,_,.cons r _,e=>by simp at e;subst e;exact⟨_,rfl,r⟩
 |_,_,i+1,v,.cons _ t,e=>by
  rw[bo4]at e
  obtain⟨x,h1,h2⟩:=t.at e
  exact⟨x,by rw[bo4];exact h1,h2⟩
theorem Reps.append {K:ac}{M:Addr->Prop}{H:Hp}:∀{vs:List V}{xs:List PV}{us:List V}{ys:List PV},Reps K M H vs xs->Reps K M H us ys->Reps K M H (vs++us) (xs++ys)
 |_,_,_,_,.nil,s=>s
 |_,_,_,_,.cons r t,s=>.cons r (t.append s)
theorem Reps.set {K:ac}{M:Addr->Prop}{H:Hp}{v:V}{x:PV}(q:aD K M H v x):∀(i:Nat) {vs:List V}{xs:List PV},Reps K M H vs xs->Reps K M H (vs.set i v) (xs.set i x)
 |_,_,_,.nil=>.nil
 |0,_,_,.cons r t=>.cons q t
 |i+1,_,_,.cons r t=>.cons r (Reps.set q i t)
theorem Reps.take {K:ac}{M:Addr->Prop}{H:Hp}:∀(n:Nat) {vs:List V}{xs:List PV},Reps K M H vs xs->Reps K M H (vs.take n) (xs.take n)
 |0,_,_,_=>by simp;exact .nil
 |_+1,_,_,.nil=>.nil
 |n+1,_,_,.cons r t=>.cons r (Reps.take n t)
theorem Reps.drop {K:ac}{M:Addr->Prop}{H:Hp}:∀(n:Nat) {vs:List V}{xs:List PV},Reps K M H vs xs->Reps K M H (vs.drop n) (xs.drop n)
 |0,_,_,r=>r
 |_+1,_,_,.nil=>.nil
 |n+1,_,_,.cons _ t=>Reps.drop n t
theorem Reps.eraseIdx {K:ac}{M:Addr->Prop}{H:Hp}:∀(n:Nat) {vs:List V}{xs:List PV},Reps K M H vs xs->Reps K M H (vs.eraseIdx n) (xs.eraseIdx n)
 |_,_,_,.nil=>.nil
 |0,_,_,.cons _ t=>t
 |n+1,_,_,.cons r t=>.cons r (Reps.eraseIdx n t)
abbrev intz (ns:ae):List PV:=ns.map PV.int
theorem Reps.intz {K:ac}{M:Addr->Prop}{H:Hp}:∀(ns:ae),Reps K M H (ns.map V.int) (intz ns)
 |[]=>.nil
 |n::r=>.cons (.int n) (Reps.intz r)
theorem Reps.ofInts {K:ac}{M:Addr->Prop}{H:Hp}:∀{ns:ae}{us:List V},Reps K M H us (PP.intz ns)->us=ns.map V.int
 |[],_,.nil=>rfl
 |n::r,_,.cons q t=>by
  cases q
  rw[Reps.ofInts t];rfl
theorem cE:∀(ns:ae),flats (intz ns)=true
 |[]=>rfl
 |n::r=>by show (flat (.int n)&&flats (intz r))=true;rw[cE r];rfl
inductive Tg|rd|sh|nw|fr
inductive Slot|sh (g:Bool) (x:PV)|own (x:PV)
def Slot.val:Slot->PV
 |.sh _ x=>x
 |.own x=>x
def Slot.tag:Slot->Tg
 |.sh true _=>.nw
 |.sh false _=>.sh
 |.own _=>.rd
abbrev aZ:=List (Option Slot)
def Ms (H0:Hp)(W:Addr->Prop):Bool->Addr->Prop
 |false,a=>¬W a
 |true,a=>¬W a/\H0 a=none
def Mg (H0:Hp)(W:Addr->Prop)(Hs:Hp):Tg->Addr->Prop
 |.rd,_=>True
 |.sh,a=>¬W a
 |.nw,a=>¬W a/\H0 a=none
 |.fr,a=>Hs a=none
def gN (K:ac)(M:Addr->Prop)(H:Hp)(a:Addr):PV->Prop
 |.lst xs=>∃us,H a=some (.lst us)/\Reps K M H us xs
 |.dK ps=>∃kvs,H a=some (.dK kvs)/\kvs.map (·.1)=ps.map (·.1)/\Reps K M H (kvs.map (·.2)) (ps.map (·.2))
 |.dT ps=>∃kvs,H a=some (.dT kvs)/\kvs.map (·.1)=ps.map (·.1)/\Reps K M H (kvs.map (·.2)) (ps.map (·.2))
 |_=>False
def qG (K:ac)(H0:Hp)(W:Addr->Prop)(H:Hp)(v:V):Slot->Prop
 |.sh g x=>aD K (Ms H0 W g) H v x
 |.own x=>∃a,v = .ref a/\W a/\gN K (Ms H0 W true) H a x
structure PX (K:ac)(H0:Hp)(W:Addr->Prop)(σ:St)(ρ:aZ)(H:Hp):Prop where
 len:ρ.length=σ.length
 same:aA H0 H
 wm:∀a,W a->H0 a=none/\∃o,H a=some o/\gM o=true
 sl:∀(i:Nat) (m:Slot),ρ[i]? = some (some m)->∃v,σ[i]? = some (some v)/\qG K H0 W H v m
 dis:∀(i j:Nat) (x y:PV) (a:Addr),ρ[i]? = some (some (.own x))->ρ[j]? = some (some (.own y))->σ[i]? = some (some (.ref a))->σ[j]? = some (some (.ref a))->i=j
theorem gN.keep {K:ac}{M M':Addr->Prop}{H H':Hp}{a:Addr}(k:hV M M' H H')(ha:∀o,H a=some o->H' a=some o):∀{x:PV},gN K M H a x->gN K M' H' a x
 |.lst _,⟨us,e,r⟩=>⟨us,ha _ e,r.keep k⟩
 |.dK _,⟨us,e,q,r⟩=>⟨us,ha _ e,q,r.keep k⟩
 |.dT _,⟨us,e,q,r⟩=>⟨us,ha _ e,q,r.keep k⟩
theorem gN.at {K:ac}{M:Addr->Prop}{H:Hp}{a:Addr}:∀{x:PV},gN K M H a x->∃o,H a=some o/\gM o=true
 |.lst _,⟨us,e,r⟩=>⟨_,e,rfl⟩
 |.dK _,⟨us,e,q,r⟩=>⟨_,e,rfl⟩
 |.dT _,⟨us,e,q,r⟩=>⟨_,e,rfl⟩
theorem gN.rep {K:ac}{M M':Addr->Prop}{H:Hp}{a:Addr}(m:∀b,M b->M' b)(ha:M' a):∀{x:PV},gN K M H a x->aD K M' H (.ref a) x
 |.lst _,⟨us,e,r⟩=>.lst ha e (r.same (aA.refl _) m)
 |.dK _,⟨us,e,q,r⟩=>.dK ha e q (r.same (aA.refl _) m)
 |.dT _,⟨us,e,q,r⟩=>.dT ha e q (r.same (aA.refl _) m)
section
variable {K:ac}{H0:Hp}{W W':Addr→Prop}{σ:St}{ρ:aZ}{H H':Hp}
theorem PX.mono (p:PX K H0 W σ ρ H)(s:aA H H'):PX K H0 W σ ρ H':=by
 refine⟨p.len,p.same.trans s,λa h=>⟨(p.wm a h).1,let ⟨o,e,m⟩:=(p.wm a h).2;⟨o,s _ _ e,m⟩⟩,λi m h=>?_,p.dis⟩
 obtain⟨v,e,r⟩:=p.sl i m h
 refine⟨v,e,?_⟩
 cases m with
 |sh g x=>exact aD.same r s λ_ z=>z
 |own x=>
  obtain⟨a,e1,e2,r⟩:=r
  exact⟨a,e1,e2,r.keep (.same s λ_ z=>z) λ_ z=>s _ _ z⟩
theorem PX.new (p:PX K H0 W σ ρ H){a:Addr}(h:H a=none):¬W a/\H0 a=none:=
 ⟨λz=>(by obtain⟨_,o,e,_⟩:=p.wm a z;rw[h]at e;cases e),p.same.free h⟩
theorem Mg.back {g:Tg}{H1:Hp}(s:aA H H1){a:Addr}(h:Mg H0 W H1 g a):Mg H0 W H g a:=by
 cases g with
 |fr=>exact s.free h
 |rd=>exact h
 |sh=>exact h
 |nw=>exact h
end
abbrev PK:=PV->Tg->Prop
abbrev aB:=aZ->PK->Prop
abbrev cB:=aZ->(Bool->Prop)->Prop
abbrev cM:=aZ->(List (PV×Tg)->Prop)->Prop
inductive gO (K:ac)(H0:Hp)(W:Addr->Prop)(Hs H:Hp):List V->List (PV×Tg)->Prop
 |nil:gO K H0 W Hs H [] []
 |cons {v:V}{x:PV}{g:Tg}{vs:List V}{xs:List (PV×Tg)}:aD K (Mg H0 W Hs g) H v x->gO K H0 W Hs H vs xs->gO K H0 W Hs H (v::vs) ((x,g)::xs)
def qH (K:ac)(H0:Hp)(W:Addr->Prop)(H:Hp)(Q:PK)(Q':VK):Prop:=∀v H' x g,aA H H'->aD K (Mg H0 W H g) H' v x->Q x g->Q' v H'
def LE (X:Cx)(t:aB):TE:=λσ H Q'=>∃(W:Addr->Prop) (ρ:aZ) (Q:PK),PX X.K X.H₀ W σ ρ H/\t ρ Q/\qH X.K X.H₀ W H Q Q'
def LT (X:Cx)(t:cB):TT:=λσ H Q'=>∃(W:Addr->Prop) (ρ:aZ) (Q:Bool->Prop),PX X.K X.H₀ W σ ρ H/\t ρ Q/\∀b H',aA H H'->Q b->Q' b H'
def LA (X:Cx)(t:cM):TA:=λσ H Q'=>∃(W:Addr->Prop) (ρ:aZ) (Q:List (PV×Tg)->Prop),PX X.K X.H₀ W σ ρ H/\t ρ Q/\∀vs H' xs,aA H H'->gO X.K X.H₀ W H H' vs xs->Q xs->Q' vs H'
theorem gO.same {K:ac}{H0:Hp}{W:Addr->Prop}{Hs Hs' H H':Hp}(s:aA H H')(b:aA Hs' Hs):∀{vs:List V}{xs:List (PV×Tg)},gO K H0 W Hs H vs xs->gO K H0 W Hs' H' vs xs
 |_,_,.nil=>.nil
 |_,_,.cons r t=>.cons (r.same s λ_ z=>Mg.back b z) (t.same s b)
theorem gO.any {K:ac}{H0:Hp}{W:Addr->Prop}{Hs H:Hp}:∀{vs:List V}{xs:List (PV×Tg)},gO K H0 W Hs H vs xs->Reps K (λ_=>True) H vs (xs.map (·.1))
 |_,_,.nil=>.nil
 |_,_,.cons r t=>.cons (r.same (aA.refl _) λ_ _=>trivial) t.any
def Nw:Tg->PV->Prop
 |.fr,_=>True
 |.nw,_=>True
 |_,x=>flat x=true
section
variable {K:ac}{H0 Hs H:Hp}{W:Addr→Prop}{σ:St}{ρ:aZ}
theorem Nw.rep {g:Tg}{x:PV}{v:V}(px:PX K H0 W σ ρ Hs)(n:Nw g x)(r:aD K (Mg H0 W Hs g) H v x):aD K (Ms H0 W true) H v x:=by
 cases g with
 |fr=>exact r.same (aA.refl _) λa z=>px.new z
 |nw=>exact r.same (aA.refl _) λa z=>z
 |sh=>exact r.flat n
 |rd=>exact r.flat n
theorem L3 {v:V}{m:Slot}(r:qG K H0 W H v m):aD K (Mg H0 W Hs m.tag) H v m.val:=by
 cases m with
 |sh g x=>
  cases g with
  |true=>exact aD.same r (aA.refl _) λ_ z=>z
  |false=>exact aD.same r (aA.refl _) λ_ z=>z
 |own x=>
  obtain⟨a,rfl,_,r⟩:=r
  exact r.rep (λ_ _=>trivial) trivial
end
section
variable {X:Cx}{σ:St}{H:Hp}{Q':VK}{ta tb:aB}
def a5 (i:Nat):aB:=λρ Q=>∃m,ρ[i]? = some (some m)/\Q m.val m.tag
def qC (x:PV):aB:=λ_ Q=>Q x .fr
theorem ay9 {i:Nat}(h:LE X (a5 i) σ H Q'):dQ i σ H Q':=by
 obtain⟨W,ρ,Q,px,⟨m,e,q⟩,k⟩:=h
 obtain⟨v,ev,r⟩:=px.sl i m e
 exact⟨v,ev,k v H _ _ (aA.refl _) (L3 r) q⟩
theorem qI {x:PV}{v:V}(hr:∀M,aD X.K M H v x)(h:LE X (qC x) σ H Q'):tC v σ H Q':=by
 obtain⟨W,ρ,Q,px,q,k⟩:=h
 exact k v H _ _ (aA.refl _) (hr _) q
def e9 (X:Cx)(R:PV->Tg->PV->Tg->PK->Prop)(r:R2):Prop:=∀(W:Addr->Prop) (Hs H:Hp) (u v:V) (x y:PV) (g g':Tg) (Q:PK) (Q':VK),aA Hs H->
 (∀a,Hs a=none->¬W a/\X.H₀ a=none)->aD X.K (Mg X.H₀ W Hs g) H u x->aD X.K (Mg X.H₀ W Hs g') H v y->R x g y g' Q->(∀w H' z gz,aA H H'->aD X.K (Mg X.H₀ W Hs gz) H' w z->Q z gz->Q' w H')->r u v H Q'
def q2 (R:PV->Tg->PV->Tg->PK->Prop)(ta tb:aB):aB:=λρ Q=>ta ρ λx g=>tb ρ λy g'=>R x g y g' Q
theorem qJ {R:PV->Tg->PV->Tg->PK->Prop}{r:R2}(c:e9 X R r)(h:LE X (q2 R ta tb) σ H Q'):nI r (LE X ta) (LE X tb) σ H Q':=by
 obtain⟨W,ρ,Q,px,q,k⟩:=h
 refine⟨W,ρ,_,px,q,λu H1 x g s1 r1 q1=>⟨W,ρ,_,px.mono s1,q1,λv H2 y g' s2 r2 q2=>?_⟩⟩
 exact c W H H2 u v x y g g' Q Q' (s1.trans s2) (λa z=>px.new z) (r1.same s2 λ_ z=>z) (r2.same (aA.refl _) λ_ z=>Mg.back s1 z) q2 λw H' z gz s3 r3 q3=>k w H' z gz ((s1.trans s2).trans s3) r3 q3
def RI (C:Int->Int->Prop)(f:Int->Int->PV):PV->Tg->PV->Tg->PK->Prop:=λx _ y _ Q=>∃i j,x = .int i/\y = .int j/\C i j/\Q (f i j) .fr
def cZ (f:Int->Int->PV):PV->Tg->PV->Tg->PK->Prop:=λx _ y _ Q=>∃i j,x = .int i/\y = .int j/\Q (f i j) .fr
theorem qK {C:Int->Int->Prop}{f:Int->Int->Int}:e9 X (RI C λi j=>.int (f i j)) (rI C λi j=>.int (f i j)):=by
 rintro W Hs H u v x y g g' Q Q' s n r1 r2 ⟨i,j,rfl,rfl,c,q⟩ k
 cases r1;cases r2
 exact⟨i,j,rfl,rfl,c,k _ _ _ _ (aA.refl _) (.int _) q⟩
theorem qL {f:Int->Int->Int}:e9 X (cZ λi j=>.int (f i j)) (fS λi j=>.int (f i j)):=by
 rintro W Hs H u v x y g g' Q Q' s n r1 r2 ⟨i,j,rfl,rfl,q⟩ k
 cases r1;cases r2
 exact⟨i,j,rfl,rfl,k _ _ _ _ (aA.refl _) (.int _) q⟩
theorem lS {f:Int->Int->Bool}:e9 X (cZ λi j=>.bl (f i j)) (fS λi j=>.bl (f i j)):=by
 rintro W Hs H u v x y g g' Q Q' s n r1 r2 ⟨i,j,rfl,rfl,q⟩ k
 cases r1;cases r2
 exact⟨i,j,rfl,rfl,k _ _ _ _ (aA.refl _) (.bl _) q⟩
def kA (neg:Bool):PV->Tg->PV->Tg->PK->Prop:=λx _ y _ Q=>(∃i j,x = .int i/\y = .int j/\Q (.bl (if neg=true then !decide (i=j) else decide (i=j))) .fr)∨(∃i j,x = .bl i/\y = .bl j/\Q (.bl (if neg=true then !decide (i=j) else decide (i=j))) .fr)
theorem L4 (i j:Int):decide (V.int i=V.int j)=decide (i=j):=by
 rw[bu1,bk3,bk3];exact⟨λz=>V.int.inj z,λz=>congrArg V.int z⟩
theorem L5 (i j:Bool):decide (V.bl i=V.bl j)=decide (i=j):=by
 rw[bu1,bk3,bk3];exact⟨λz=>V.bl.inj z,λz=>congrArg V.bl z⟩
theorem L6:e9 X (kA false) zV:=by
 rintro W Hs H u v x y g g' Q Q' s n r1 r2 (⟨i,j,rfl,rfl,q⟩|⟨i,j,rfl,rfl,q⟩) k
 ·cases r1;cases r2
  exact⟨rfl,by rw[L4];exact k _ _ _ _ (aA.refl _) (.bl _) q⟩
 ·cases r1;cases r2
  exact⟨rfl,by rw[L5];exact k _ _ _ _ (aA.refl _) (.bl _) q⟩
theorem az0:e9 X (kA true) zW:=by
 rintro W Hs H u v x y g g' Q Q' s n r1 r2 (⟨i,j,rfl,rfl,q⟩|⟨i,j,rfl,rfl,q⟩) k
 ·cases r1;cases r2
  exact⟨rfl,by rw[L4];exact k _ _ _ _ (aA.refl _) (.bl _) q⟩
 ·cases r1;cases r2
  exact⟨rfl,by rw[L5];exact k _ _ _ _ (aA.refl _) (.bl _) q⟩
def aU (t:aB):cB:=λρ Q=>t ρ λx _=>∃b,x = .bl b/\Q b
theorem qM {t:aB}{Q':Bool->Hp->Prop}(h:LT X (aU t) σ H Q'):LE X t σ H λx H'=>∃k,x = .bl k/\Q' k H':=by
 obtain⟨W,ρ,Q,px,q,k⟩:=h
 refine⟨W,ρ,_,px,q,?_⟩
 rintro v H1 x g s r ⟨b,rfl,q⟩
 cases r
 exact⟨b,rfl,k _ _ s q⟩
def jF (t u:cB):cB:=λρ Q=>t ρ λc=>if c=true then u ρ Q else Q false
def jG (t u:cB):cB:=λρ Q=>t ρ λc=>if c=true then Q true else u ρ Q
def i4 (t:cB):cB:=λρ Q=>t ρ λc=>Q (!c)
variable {t u:cB}{Qb:Bool→Hp→Prop}
theorem az1 (h:LT X (jF t u) σ H Qb):zD (LT X t) (LT X u) σ H Qb:=by
 obtain⟨W,ρ,Q,px,q,k⟩:=h
 refine⟨W,ρ,_,px,q,λb H1 s1 q1=>?_⟩
 cases b with
 |true=>exact cA ⟨W,ρ,Q,px.mono s1,by simpa using q1,λb H2 s2 q2=>k _ _ (s1.trans s2) q2⟩
 |false=>exact bD (k _ _ s1 (by simpa using q1))
theorem az2 (h:LT X (jG t u) σ H Qb):zE (LT X t) (LT X u) σ H Qb:=by
 obtain⟨W,ρ,Q,px,q,k⟩:=h
 refine⟨W,ρ,_,px,q,λb H1 s1 q1=>?_⟩
 cases b with
 |false=>exact bD ⟨W,ρ,Q,px.mono s1,by simpa using q1,λb H2 s2 q2=>k _ _ (s1.trans s2) q2⟩
 |true=>exact cA (k _ _ s1 (by simpa using q1))
theorem az3 (h:LT X (i4 t) σ H Qb):zF (LT X t) σ H Qb:=by
 obtain⟨W,ρ,Q,px,q,k⟩:=h
 exact⟨W,ρ,_,px,q,λb H1 s1 q1=>k _ _ s1 q1⟩
def lT (ta tb:aB):aB:=λρ Q=>ta ρ λx _=>∃c,x = .bl c/\if c=true then tb ρ Q else Q (.bl false) .fr
def vY (ta tb:aB):aB:=λρ Q=>ta ρ λx _=>∃c,x = .bl c/\if c=true then Q (.bl true) .fr else tb ρ Q
def vZ (ta:aB):aB:=λρ Q=>ta ρ λx _=>∃c,x = .bl c/\Q (.bl (!c)) .fr
theorem qH.back {K:ac}{H0:Hp}{W:Addr->Prop}{H H1:Hp}{Q:PK}(k:qH K H0 W H Q Q')(s:aA H H1):qH K H0 W H1 Q Q':=λv H' x g s' r q=>k v H' x g (s.trans s') (r.same (aA.refl _) λ_ z=>Mg.back s z) q
theorem az4 (h:LE X (lT ta tb) σ H Q'):zG (LE X ta) (LE X tb) σ H Q':=by
 obtain⟨W,ρ,Q,px,q,k⟩:=h
 refine⟨W,ρ,_,px,q,?_⟩
 rintro v H1 x g s1 r ⟨c,rfl,q⟩
 cases r
 refine⟨c,rfl,?_⟩
 cases c with
 |true=>exact cA ⟨W,ρ,Q,px.mono s1,by simpa using q,k.back s1⟩
 |false=>exact bD (k _ _ _ _ s1 (.bl _) (by simpa using q))
theorem az5 (h:LE X (vY ta tb) σ H Q'):zH (LE X ta) (LE X tb) σ H Q':=by
 obtain⟨W,ρ,Q,px,q,k⟩:=h
 refine⟨W,ρ,_,px,q,?_⟩
 rintro v H1 x g s1 r ⟨c,rfl,q⟩
 cases r
 refine⟨c,rfl,?_⟩
 cases c with
 |false=>exact bD ⟨W,ρ,Q,px.mono s1,by simpa using q,k.back s1⟩
 |true=>exact cA (k _ _ _ _ s1 (.bl _) (by simpa using q))
theorem az6 (h:LE X (vZ ta) σ H Q'):zI (LE X ta) σ H Q':=by
 obtain⟨W,ρ,Q,px,q,k⟩:=h
 refine⟨W,ρ,_,px,q,?_⟩
 rintro v H1 x g s1 r ⟨c,rfl,q⟩
 cases r
 exact⟨c,rfl,k _ _ _ _ s1 (.bl _) q⟩
def aE:cM:=λ_ Q=>Q []
def a7 (te:aB)(tr:cM):cM:=λρ Q=>te ρ λx g=>tr ρ λxs=>Q ((x,g)::xs)
variable {Qa:List V→Hp→Prop}{tr:cM}
theorem az7 (h:LA X aE σ H Qa):j8 σ H Qa:=by
 obtain⟨W,ρ,Q,px,q,k⟩:=h
 exact k _ _ _ (aA.refl _) .nil q
theorem az8 (h:LA X (a7 ta tr) σ H Qa):gI (LE X ta) (LA X tr) σ H Qa:=by
 obtain⟨W,ρ,Q,px,q,k⟩:=h
 refine⟨W,ρ,_,px,q,λv H1 x g s1 r1 q1=>⟨W,ρ,_,px.mono s1,q1,λvs H2 xs s2 r2 q2=>?_⟩⟩
 exact k _ _ _ (s1.trans s2) (.cons (r1.same s2 λ_ z=>z) (r2.same (aA.refl _) s1)) q2
def i5 (t:cM):aB:=λρ Q=>t ρ λxs=>xs.length<=1000/\flats (xs.map (·.1))=true/\Q (.tup (xs.map (·.1))) .fr
def fA (t:cM):aB:=λρ Q=>t ρ λxs=>xs.length<=1000/\flats (xs.map (·.1))=true/\Q (.lst (xs.map (·.1))) .fr
theorem gO.length {K:ac}{H0:Hp}{W:Addr->Prop}{Hs H:Hp}:∀{vs:List V}{xs:List (PV×Tg)},gO K H0 W Hs H vs xs->vs.length=xs.length
 |_,_,.nil=>rfl
 |_,_,.cons _ t=>congrArg (·+1) t.length
theorem w4 {n:Nat}(h:n<=1000):n<=sizeLine:=br6 (v7 h)
theorem az9 (h:LE X (i5 tr) σ H Q'):A4 (LA X tr) σ H Q':=by
 obtain⟨W,ρ,Q,px,q,k⟩:=h
 refine⟨W,ρ,_,px,q,?_⟩
 rintro vs H1 xs s1 r ⟨hl,n,q⟩
 refine⟨by rw[r.length];exact w4 hl,λp hp=>k _ _ _ .fr (s1.trans (aW hp _)) (.tup aQ ?_) q⟩
 exact (r.any.flat n).same (aW hp _) λ_ z=>z
theorem aA0 (h:LE X (fA tr) σ H Q'):A5 (LA X tr) σ H Q':=by
 obtain⟨W,ρ,Q,px,q,k⟩:=h
 refine⟨W,ρ,_,px,q,?_⟩
 rintro vs H1 xs s1 r ⟨hl,n,q⟩
 refine⟨by rw[r.length];exact w4 hl,λp hp=>k _ _ _ .fr (s1.trans (aW hp _)) (.lst (s1.free hp) aQ ?_) q⟩
 exact (r.any.flat n).same (aW hp _) λ_ z=>z
def fB (X:Cx)(R:List PV->(PV->Prop)->Prop)(r:List V->Hp->VK->Prop):Prop:=∀(H:Hp) (vs:List V) (xs:List PV) (Q:PV->Prop) (Q':VK),Reps X.K (λ_=>True) H vs xs->R xs Q->
 (∀w H' z,aA H H'->aD X.K (λa=>H a=none) H' w z->Q z->Q' w H')->r vs H Q'
def aH (R:List PV->(PV->Prop)->Prop)(t:cM):aB:=λρ Q=>t ρ λxs=>R (xs.map (·.1)) λz=>Q z .fr
theorem L7 {R:List PV->(PV->Prop)->Prop}{r:List V->Hp->VK->Prop}(c:fB X R r)(h:LE X (aH R tr) σ H Q'):uM r (LA X tr) σ H Q':=by
 obtain⟨W,ρ,Q,px,q,k⟩:=h
 refine⟨W,ρ,_,px,q,λvs H1 xs s1 r1 q1=>c H1 vs _ _ Q' r1.any q1 λw H' z s2 r2 q2=>k w H' z .fr (s1.trans s2) (r2.same (aA.refl _) λ_ z=>s1.free z) q2⟩
end
structure qN where
 nx:aZ->Prop
 rt:PV->Prop
 bk:aZ->Prop:=λ_=>False
 ct:aZ->Prop:=λ_=>False
abbrev aL:=qN->aZ->Prop
def Ev (W:Addr->Prop)(H:Hp)(W':Addr->Prop)(H':Hp):Prop:=∀b o,H b=some o->¬W b->H' b=some o/\¬W' b
theorem Ev.trans {W W1 W2:Addr->Prop}{H H1 H2:Hp}(a:Ev W H W1 H1)(b:Ev W1 H1 W2 H2):Ev W H W2 H2:=λc o h n=>let ⟨h1,n1⟩:=a c o h n;b c o h1 n1
theorem Ev.same {W:Addr->Prop}{H H':Hp}(s:aA H H'):Ev W H W H':=λc o h n=>⟨s _ _ h,n⟩
theorem Ev.refl (W:Addr->Prop)(H:Hp):Ev W H W H:=Ev.same (aA.refl _)
structure qO (X:Cx)(W:Addr->Prop)(H:Hp)(D':qN)(D:cW):Prop where
 nx:∀W' σ' H' ρ',Ev W H W' H'->PX X.K X.H₀ W' σ' ρ' H'->D'.nx ρ'->D.nx σ' H'
 rt:∀v H' x,aA X.H₀ H'->aD X.K (λa=>X.H₀ a=none) H' v x->D'.rt x->D.rt v H'
 bk:∀W' σ' H' ρ',Ev W H W' H'->PX X.K X.H₀ W' σ' ρ' H'->D'.bk ρ'->D.bk σ' H'
 ct:∀W' σ' H' ρ',Ev W H W' H'->PX X.K X.H₀ W' σ' ρ' H'->D'.ct ρ'->D.ct σ' H'
theorem qO.step {X:Cx}{W W1:Addr->Prop}{H H1:Hp}{D':qN}{D:cW}(k:qO X W H D' D)(e:Ev W H W1 H1):qO X W1 H1 D' D:=
 ⟨λW' σ' H' ρ' e'=>k.nx W' σ' H' ρ' (e.trans e'),k.rt,λW' σ' H' ρ' e'=>k.bk W' σ' H' ρ' (e.trans e'),λW' σ' H' ρ' e'=>k.ct W' σ' H' ρ' (e.trans e')⟩
def LS (X:Cx)(t:aL):TS:=λD σ H=>∃(W:Addr->Prop) (ρ:aZ) (D':qN),PX X.K X.H₀ W σ ρ H/\t D' ρ/\qO X W H D' D
theorem dI {α:Type}{l:List α}{i j:Nat}{a b:α}(h:(l.set i a)[j]? = some b):(j=i/\i<l.length/\b=a)∨(j≠i/\l[j]? = some b):=by
 by_cases e:j=i
 ·subst e
  have hl:j<(l.set j a).length:=(bi3.mp h).1
  rw[bm9]at hl
  rw[bq8 hl]at h
  exact .inl ⟨rfl,hl,(bk2 h).symm⟩
 ·rw[bl9 (Ne.symm e)]at h
  exact .inr ⟨e,h⟩
section
variable {K:ac}{H0:Hp}{W W':Addr→Prop}{σ:St}{ρ:aZ}{H H' Hs:Hp}
theorem PX.setSh {i:Nat}{v:V}{g:Bool}{x:PV}(p:PX K H0 W σ ρ H)(r:aD K (Ms H0 W g) H v x):PX K H0 W (σ.set i (some v)) (ρ.set i (some (.sh g x))) H:=by
 refine⟨by rw[bm9,bm9];exact p.len,p.same,p.wm,λj m h=>?_,λj k y z a h1 h2 h3 h4=>?_⟩
 ·rcases dI h with⟨rfl,hl,e⟩|⟨hne,h⟩
  ·cases e
   rw[p.len]at hl
   exact⟨v,bq8 hl,r⟩
  ·obtain⟨u,e,q⟩:=p.sl j m h
   exact⟨u,by rw[bl9 (Ne.symm hne)];exact e,q⟩
 ·rcases dI h1 with⟨_,_,e⟩|⟨n1,h1⟩
  ·cases e
  ·rcases dI h2 with⟨_,_,e⟩|⟨n2,h2⟩
   ·cases e
   ·rw[bl9 (Ne.symm n1)]at h3
    rw[bl9 (Ne.symm n2)]at h4
    exact p.dis j k y z a h1 h2 h3 h4
def lU (W:Addr->Prop)(a:Addr):Addr->Prop:=λb=>W b∨b=a
theorem w5 {g:Bool}{a b:Addr}(n:b≠a)(h:Ms H0 W g b):Ms H0 (lU W a) g b:=by
 cases g with
 |true=>exact⟨λz=>z.elim h.1 n,h.2⟩
 |false=>exact λz=>z.elim h n
theorem PX.setOwn {i:Nat}{a:Addr}{x:PV}(p:PX K H0 W σ ρ Hs)(s:aA Hs H)(ha:Hs a=none)(r:gN K (Ms H0 (lU W a) true) H a x):PX K H0 (lU W a) (σ.set i (some (.ref a))) (ρ.set i (some (.own x))) H:=by
 have old:∀b o,Hs b=some o->b≠a:=λb o e z=>by rw[z,ha]at e;cases e
 have kp:∀g,hV (Ms H0 W g) (Ms H0 (lU W a) g) Hs H:=λg=>⟨λb _ m e=>⟨w5 (old _ _ e) m,s _ _ e⟩,λb _ m e=>⟨w5 (old _ _ e) m,s _ _ e⟩,λb _ m e=>⟨w5 (old _ _ e) m,s _ _ e⟩,λ_ _ e=>s _ _ e,λ_ _ _ e=>s _ _ e⟩
 have wa:¬W a:=(p.new ha).1
 refine⟨by rw[bm9,bm9];exact p.len,p.same.trans s,λb z=>?_,λj m h=>?_,λj k y z b h1 h2 h3 h4=>?_⟩
 ·rcases z with z|rfl
  ·obtain⟨h1,o,h2,h3⟩:=p.wm b z
   exact⟨h1,o,s _ _ h2,h3⟩
  ·exact⟨(p.new ha).2,r.at⟩
 ·rcases dI h with⟨rfl,hl,e⟩|⟨hne,h⟩
  ·cases e
   rw[p.len]at hl
   exact⟨_,bq8 hl,a,rfl,.inr rfl,r⟩
  ·obtain⟨u,e,q⟩:=p.sl j m h
   refine⟨u,by rw[bl9 (Ne.symm hne)];exact e,?_⟩
   cases m with
   |sh g y=>exact aD.keep (kp g) q
   |own y=>
    obtain⟨b,e1,e2,q⟩:=q
    exact⟨b,e1,.inl e2,q.keep (kp true) λo z=>s _ _ z⟩
 ·have ne:∀{j:Nat}{y:PV},ρ[j]? = some (some (.own y))->σ[j]?≠some (some (.ref a)):=λ{j y} h1 h2=>by
   obtain⟨u,e,c,e1,e2,_⟩:=p.sl j _ h1
   rw[h2]at e
   cases e
   cases e1
   exact wa e2
  rcases dI h1 with⟨e1,l1,_⟩|⟨n1,h1⟩
  ·rcases dI h2 with⟨e2,_,_⟩|⟨n2,h2⟩
   ·rw[e1,e2]
   ·rw[e1,bq8 (by rw[<- p.len];exact l1)]at h3
    rw[bl9 (Ne.symm n2)]at h4
    cases h3
    exact absurd h4 (ne h2)
  ·rw[bl9 (Ne.symm n1)]at h3
   rcases dI h2 with⟨e2,l2,_⟩|⟨n2,h2⟩
   ·rw[e2,bq8 (by rw[<- p.len];exact l2)]at h4
    cases h4
    exact absurd h3 (ne h1)
   ·rw[bl9 (Ne.symm n2)]at h4
    exact p.dis j k y z b h1 h2 h3 h4
theorem Ev.own {a:Addr}(s:aA Hs H)(ha:Hs a=none):Ev W Hs (lU W a) H:=λb o e n=>⟨s _ _ e,λz=>z.elim n λz=>by rw[z,ha]at e;cases e⟩
theorem lV {g:Bool}{a b:Addr}(wa:W a)(h:Ms H0 W g b):b≠a:=by
 cases g with
 |true=>exact λz=>h.1 (by rw[z];exact wa)
 |false=>exact λz=>h (by rw[z];exact wa)
theorem PX.updOwn {i:Nat}{a:Addr}{x y:PV}{o:HO}(p:PX K H0 W σ ρ H)(hi:ρ[i]? = some (some (.own x)))(ha:σ[i]? = some (some (.ref a)))(wa:W a)(mu:gM o=true)(r:gN K (Ms H0 W true) (upd H a o) a y) :
  PX K H0 W σ (ρ.set i (some (.own y))) (upd H a o):=by
 obtain⟨w0,o',e',mu'⟩:=p.wm a wa
 have kp:∀g,hV (Ms H0 W g) (Ms H0 W g) H (upd H a o):=λg=>.upd e' mu' λb m=>⟨lV wa m,m⟩
 refine⟨by rw[bm9];exact p.len,λb u e=>by rw[a8 (λz=>by rw[z,w0]at e;cases e)];exact p.same _ _ e,λb z=>?_,λj m h=>?_,λj k y' z b h1 h2 h3 h4=>?_⟩
 ·by_cases e:b=a
  ·subst e;exact⟨w0,o,aQ,mu⟩
  ·obtain⟨h1,o2,h2,h3⟩:=p.wm b z
   exact⟨h1,o2,by rw[a8 e];exact h2,h3⟩
 ·rcases dI h with⟨rfl,hl,e⟩|⟨hne,h⟩
  ·cases e
   exact⟨_,ha,a,rfl,wa,r⟩
  ·obtain⟨u,e,q⟩:=p.sl j m h
   refine⟨u,e,?_⟩
   cases m with
   |sh g y=>exact aD.keep (kp g) q
   |own y=>
    obtain⟨b,e1,e2,q⟩:=q
    have hb:b≠a:=λz=>by
     subst e1
     rw[z]at e
     exact hne (p.dis j i _ _ a h hi e ha)
    exact⟨b,e1,e2,q.keep (kp true) λo z=>by rw[a8 hb];exact z⟩
 ·have g1:∃y,ρ[j]? = some (some (.own y)):=by
   rcases dI h1 with⟨e,_,_⟩|⟨_,h⟩
   ·exact⟨x,by rw[e];exact hi⟩
   ·exact⟨_,h⟩
  have g2:∃y,ρ[k]? = some (some (.own y)):=by
   rcases dI h2 with⟨e,_,_⟩|⟨_,h⟩
   ·exact⟨x,by rw[e];exact hi⟩
   ·exact⟨_,h⟩
  obtain⟨y1,g1⟩:=g1
  obtain⟨y2,g2⟩:=g2
  exact p.dis j k y1 y2 b g1 g2 h3 h4
theorem Ev.upd {a:Addr}{o:HO}(wa:W a):Ev W H W (upd H a o):=λb u e n=>⟨by rw[a8 (λz=>n (by rw[z];exact wa))];exact e,n⟩
def o4 (W:Addr->Prop)(a:Addr):Addr->Prop:=λb=>W b/\b≠a
theorem w6 {g:Bool}{a b:Addr}(h:Ms H0 W g b):Ms H0 (o4 W a) g b:=by
 cases g with
 |true=>exact⟨λz=>h.1 z.1,h.2⟩
 |false=>exact λz=>h z.1
theorem PX.freeze {i:Nat}{a:Addr}{x:PV}(p:PX K H0 W σ ρ H)(hi:ρ[i]? = some (some (.own x)))(ha:σ[i]? = some (some (.ref a))):PX K H0 (o4 W a) σ (ρ.set i (some (.sh true x))) H:=by
 obtain⟨v,ev,a',e1,wa,r⟩:=p.sl i _ hi
 rw[ha]at ev
 cases ev
 cases e1
 refine⟨by rw[bm9];exact p.len,p.same,λb z=>p.wm b z.1,λj m h=>?_,λj k y' z b h1 h2 h3 h4=>?_⟩
 ·rcases dI h with⟨rfl,hl,e⟩|⟨hne,h⟩
  ·cases e
   exact⟨_,ha,r.rep (M':=Ms H0 (o4 W a) true) (λb m=>w6 (g:=true) m) (show Ms H0 (o4 W a) true a from ⟨λz=>z.2 rfl,(p.wm a wa).1⟩)⟩
  ·obtain⟨u,e,q⟩:=p.sl j m h
   refine⟨u,e,?_⟩
   cases m with
   |sh g y=>exact aD.same q (aA.refl _) λ_ m=>w6 m
   |own y=>
    obtain⟨b,e1,e2,q⟩:=q
    have hb:b≠a:=λz=>by
     subst e1
     rw[z]at e
     exact hne (p.dis j i _ _ a h hi e ha)
    exact⟨b,e1,⟨e2,hb⟩,q.keep (.same (aA.refl _) λ_ m=>w6 m) λ_ z=>z⟩
 ·rcases dI h1 with⟨_,_,e⟩|⟨_,h1⟩
  ·cases e
  ·rcases dI h2 with⟨_,_,e⟩|⟨_,h2⟩
   ·cases e
   ·exact p.dis j k _ _ b h1 h2 h3 h4
theorem Ev.off {a:Addr}:Ev W H (o4 W a) H:=λb u e n=>⟨e,λz=>n z.1⟩
end
section
variable {X:Cx}{σ:St}{H:Hp}{D:cW}{te:aB}{t u:aL}
def dG:aL:=λD ρ=>D.nx ρ
def aO (t u:aL):aL:=λD ρ=>t { D with nx:=u D } ρ
theorem aA1 (h:LS X dG D σ H):u8 D σ H:=by
 obtain⟨W,ρ,D',px,q,k⟩:=h
 exact k.nx W σ H ρ (Ev.refl _ _) px q
theorem aA2 (h:LS X (aO t u) D σ H):zJ (LS X t) (LS X u) D σ H:=by
 obtain⟨W,ρ,D',px,q,k⟩:=h
 exact⟨W,ρ,_,px,q,λW' σ' H' ρ' e px' q'=>⟨W',ρ',D',px',q',k.step e⟩,k.rt,k.bk,k.ct⟩
def L8:Tg->PV->Bool
 |.fr,_=>true
 |.nw,_=>true
 |_,x=>flat x
def L9:Tg->PV->Prop
 |.rd,x=>flat x=true
 |_,_=>True
theorem aA3 {K:ac}{H0 Hs H:Hp}{W:Addr->Prop}{σ:St}{ρ:aZ}{g:Tg}{x:PV}{v:V}(px:PX K H0 W σ ρ Hs)(n:L9 g x)(r:aD K (Mg H0 W Hs g) H v x):aD K (Ms H0 W (L8 g x)) H v x:=by
 cases g with
 |fr=>exact Nw.rep (g:=.fr) px trivial r
 |nw=>exact Nw.rep (g:=.nw) px trivial r
 |sh=>
  show aD K (Ms H0 W (flat x)) H v x
  cases e:flat x with
  |true=>exact r.flat e
  |false=>exact r.same (aA.refl _) λ_ z=>z
 |rd=>exact r.flat n
def bH (i:Nat)(te:aB):aL:=λD ρ=>te ρ λx g=>L9 g x/\D.nx (ρ.set i (some (.sh (L8 g x) x)))
theorem w9 {i:Nat}(h:LS X (bH i te) D σ H):jV (LE X te) (cX i) D σ H:=by
 obtain⟨W,ρ,D',px,q,k⟩:=h
 refine⟨W,ρ,_,px,q,?_⟩
 rintro v H1 x g s r ⟨n,q⟩
 exact k.nx W _ H1 _ (Ev.same s) ((px.mono s).setSh (aA3 px n r)) q
def M0:PV->Bool
 |.lst xs=>flats xs
 |.dK ps=>flats (ps.map (·.2))
 |.dT ps=>flats (ps.map (·.2))
 |_=>false
theorem aA4 {K:ac}{M:Addr->Prop}{H:Hp}{v:V}{x:PV}(r:aD K M H v x)(o:M0 x=true):∃a,v = .ref a/\M a/\∀M',gN K M' H a x:=by
 cases r with
 |lst m e r=>exact⟨_,rfl,m,λ_=>⟨_,e,r.flat o⟩⟩
 |dK m e q r=>exact⟨_,rfl,m,λ_=>⟨_,e,q,r.flat o⟩⟩
 |dT m e q r=>exact⟨_,rfl,m,λ_=>⟨_,e,q,r.flat o⟩⟩
 |_=>cases o
def fM (i:Nat)(te:aB):aL:=λD ρ=>te ρ λx g=>g = .fr/\M0 x=true/\D.nx (ρ.set i (some (.own x)))
theorem aA5 {i:Nat}(h:LS X (fM i te) D σ H):jV (LE X te) (cX i) D σ H:=by
 obtain⟨W,ρ,D',px,q,k⟩:=h
 refine⟨W,ρ,_,px,q,?_⟩
 rintro v H1 x g s r ⟨rfl,o,q⟩
 obtain⟨a,rfl,m,w⟩:=aA4 r o
 exact k.nx _ _ H1 _ (Ev.own s m) (px.setOwn s m (w _)) q
def qP (i:Nat)(t:aL):aL:=λD ρ=>∃x,ρ[i]? = some (some (.own x))/\t D (ρ.set i (some (.sh true x)))
theorem aA6 {i:Nat}(h:LS X (qP i t) D σ H):LS X t D σ H:=by
 obtain⟨W,ρ,D',px,⟨x,hi,q⟩,k⟩:=h
 obtain⟨v,ev,a,rfl,wa,r⟩:=px.sl i _ hi
 exact⟨_,_,D',px.freeze hi ev,q,k.step Ev.off⟩
def bI (te:aB):aL:=λD ρ=>te ρ λx g=>Nw g x/\D.rt x
theorem aA7 (h:LS X (bI te) D σ H):u9 (LE X te) D σ H:=by
 obtain⟨W,ρ,D',px,q,k⟩:=h
 refine⟨W,ρ,_,px,q,?_⟩
 rintro v H1 x g s r ⟨n,q⟩
 exact k.rt v H1 x (px.same.trans s) ((Nw.rep px n r).same (aA.refl _) λ_ z=>z.2) q
def Slot.nw:Slot->Prop
 |.own _=>True
 |.sh true _=>True
 |.sh false x=>flat x=true
def lW (i:Nat):aL:=λD ρ=>∃m,ρ[i]? = some (some m)/\m.nw/\D.rt m.val
theorem aA8 {i:Nat}(h:LS X (lW i) D σ H):u9 (dQ i) D σ H:=by
 obtain⟨W,ρ,D',px,⟨m,hi,n,q⟩,k⟩:=h
 obtain⟨v,ev,r⟩:=px.sl i _ hi
 refine⟨v,ev,k.rt v H _ px.same ?_ q⟩
 cases m with
 |own x=>
  obtain⟨a,rfl,wa,r⟩:=r
  exact r.rep (λ_ z=>z.2) (px.wm a wa).1
 |sh g x=>
  cases g with
  |true=>exact aD.same r (aA.refl _) λ_ z=>z.2
  |false=>exact aD.flat n r
def cN (c:cB)(t u:aL):aL:=λD ρ=>c ρ λb=>if b=true then t D ρ else u D ρ
theorem aA9 {c:cB}(h:LS X (cN c t u) D σ H):uA (LT X c) (LS X t) (LS X u) D σ H:=by
 obtain⟨W,ρ,D',px,q,k⟩:=h
 refine⟨W,ρ,_,px,q,λb H1 s q1=>?_⟩
 cases b with
 |true=>exact cA ⟨W,ρ,D',px.mono s,by simpa using q1,k.step (Ev.same s)⟩
 |false=>exact bD ⟨W,ρ,D',px.mono s,by simpa using q1,k.step (Ev.same s)⟩
end
theorem lim {n:Nat}(h:n<=16000000):n<=sizeLine:=br6 (g9 h)
theorem aD.sqT {K:ac}{M:Addr->Prop}{H:Hp}{v:V}{xs:List PV}(r:aD K M H v (.tup xs)):∃a us,v = .ref a/\H a=some (.tup us)/\Reps K M H us xs:=by
 cases r with
 |tup e r=>exact⟨_,_,rfl,e,r⟩
theorem aD.sqL {K:ac}{M:Addr->Prop}{H:Hp}{v:V}{xs:List PV}(r:aD K M H v (.lst xs)):∃a us,v = .ref a/\M a/\H a=some (.lst us)/\Reps K M H us xs:=by
 cases r with
 |lst m e r=>exact⟨_,_,rfl,m,e,r⟩
theorem iK.sqL {K:ac}{H:Hp}{a:Addr}{ns:ae}(h:iK K H a ns):aJ K H a (ns.map V.int):=h.elim (λz=>.inl (.inr z)) .inr
def iL:PV->Option (List PV)
 |.tup xs=>some xs
 |.lst xs=>some xs
 |.scr ns=>some (intz ns)
 |.kt xs=>some xs
 |.fL xs=>some xs
 |_=>none
theorem aD.seq {K:ac}{M:Addr->Prop}{H:Hp}{v:V}{x:PV}{xs:List PV}(r:aD K M H v x)(e:iL x=some xs):∃a us,v = .ref a/\(aJ K H a us∨aG K H a us)/\Reps K M H us xs:=by
 cases r with
 |tup h r=>cases e;exact⟨_,_,rfl,.inr (aG.of h),r⟩
 |lst m h r=>cases e;exact⟨_,_,rfl,.inl (aJ.of h),r⟩
 |scr h=>cases e;exact⟨_,_,rfl,.inl h.sqL,Reps.intz _⟩
 |kt h r=>cases e;exact⟨_,_,rfl,.inr (.inr h),r⟩
 |fL h r=>cases e;exact⟨_,_,rfl,.inl (.inl (.inr ⟨_,h⟩)),r⟩
 |_=>cases e
section
variable {X:Cx}{σ:St}{H:Hp}{D:cW}{te ti to:aB}{t u:aL}{Q':VK}
theorem _root_.PP.PX.updL {K:ac}{H0:Hp}{W:Addr->Prop}{σ:St}{ρ:aZ}{H:Hp}{i:Nat}{a:Addr}{x:PV}{us:List V}{ys:List PV}(p:PX K H0 W σ ρ H)(hi:ρ[i]? = some (some (.own x)))(ha:σ[i]? = some (some (.ref a)))(wa:W a)(r:Reps K (Ms H0 W true) (upd H a (.lst us)) us ys) :
  PX K H0 W σ (ρ.set i (some (.own (.lst ys)))) (upd H a (.lst us)):=p.updOwn hi ha wa rfl (y:=.lst ys) ⟨us,aQ,r⟩
def kB (i:Nat)(te:aB):aL:=λD ρ=>∃xs,ρ[i]? = some (some (.own (.lst xs)))/\te ρ λx g=>Nw g x/\xs.length<16000000/\D.nx (ρ.set i (some (.own (.lst (xs++[x])))))
theorem aB0 {i:Nat}(h:LS X (kB i te) D σ H):nC (uU X.K "list" C9 (dQ i) (gI (LE X te) j8)) D σ H:=by
 obtain⟨W,ρ,D',px,⟨xs,hi,q⟩,k⟩:=h
 obtain⟨v,ev,a,rfl,wa,us,ea,r⟩:=px.sl i _ hi
 refine⟨_,ev,k9 (aJ.of ea),W,ρ,_,px,q,?_⟩
 rintro w H1 x g s rx ⟨n,hl,q⟩
 have ea1:=s _ _ ea
 refine⟨a,us,w,rfl,rfl,ea1,g9 (by rw[r.length];omega),?_⟩
 refine k.nx W σ _ _ ((Ev.same s).trans (Ev.upd wa)) ((px.mono s).updL hi ev wa ?_) q
 exact ((r.same s λ_ z=>z).append (.cons (Nw.rep px n rx) .nil)).keep (.upd ea1 rfl λb m=>⟨lV wa m,m⟩)
def M1 (K:ac):V->List V->Hp->VK->Prop:=λx vs H Q=>E1 x vs H Q∨L1 K x vs H Q
def wA (i:Nat)(te:aB):aL:=λD ρ=>∃xs,ρ[i]? = some (some (.own (.lst xs)))/\te ρ λy g=>∃ys,(y = .tup ys∨y = .lst ys)/\(Nw g y∨flats ys=true)/\xs.length+ys.length<=16000000/\D.nx (ρ.set i (some (.own (.lst (xs++ys)))))
theorem aB1 {i:Nat}(h:LS X (wA i te) D σ H):nC (uU X.K "list" (M1 X.K) (dQ i) (gI (LE X te) j8)) D σ H:=by
 obtain⟨W,ρ,D',px,⟨xs,hi,q⟩,k⟩:=h
 obtain⟨v,ev,a,rfl,wa,us,ea,r⟩:=px.sl i _ hi
 refine⟨_,ev,k9 (aJ.of ea),W,ρ,_,px,q,?_⟩
 rintro w H1 y g s ry ⟨ys,hy,n,hl,q⟩
 have ea1:=s _ _ ea
 have key:∀(zs:List V),Reps X.K (Ms X.H₀ W true) H1 zs ys->D.nx σ (upd H1 a (.lst (us++zs))):=λzs rz=>by
  refine k.nx W σ _ _ ((Ev.same s).trans (Ev.upd wa)) ((px.mono s).updL hi ev wa ?_) q
  exact ((r.same s λ_ z=>z).append rz).keep (.upd ea1 rfl λb m=>⟨lV wa m,m⟩)
 have lr:=r.length
 rcases hy with rfl|rfl
 ·obtain⟨b,zs,rfl,eb,rz⟩:=ry.sqT
  have lz:=rz.length
  refine .inr ⟨a,b,us,zs,rfl,rfl,ea1,aG.of eb,lim (by omega),key zs ?_⟩
  rcases n with n|n
  ·obtain⟨b',zs',e1,e2,rz'⟩:=(Nw.rep px n ry).sqT
   cases e1;rw[eb]at e2;cases e2;exact rz'
  ·exact rz.flat n
 ·obtain⟨b,zs,rfl,_,eb,rz⟩:=ry.sqL
  have lz:=rz.length
  refine .inl ⟨a,b,us,zs,rfl,rfl,ea1,eb,lim (by omega),key zs ?_⟩
  rcases n with n|n
  ·obtain⟨b',zs',e1,_,e2,rz'⟩:=(Nw.rep px n ry).sqL
   cases e1;rw[eb]at e2;cases e2;exact rz'
  ·exact rz.flat n
def kC (i:Nat)(tk te:aB):aL:=λD ρ=>te ρ λx g=>∃xs,ρ[i]? = some (some (.own (.lst xs)))/\tk ρ λy _=>∃n j,y = .int n/\fH xs.length n=some j/\Nw g x/\D.nx (ρ.set i (some (.own (.lst (xs.set j x)))))
theorem aB2 {i:Nat}{tk:aB}(h:LS X (kC i tk te) D σ H):jV (LE X te) (uC (dQ i) (LE X tk) uS) D σ H:=by
 obtain⟨W,ρ,D',px,q,k⟩:=h
 refine⟨W,ρ,_,px,q,?_⟩
 rintro w H1 x g s rx ⟨xs,hi,q1⟩
 obtain⟨v,ev,a,rfl,wa,us,ea,r⟩:=(px.mono s).sl i _ hi
 refine⟨_,ev,W,ρ,_,px.mono s,q1,?_⟩
 rintro kv H2 y gy s2 ry ⟨n,j,rfl,hj,nw,q2⟩
 cases ry
 have ea2:=s2 _ _ ea
 refine⟨a,us,n,j,rfl,rfl,ea2,by rw[r.length];exact hj,?_⟩
 refine k.nx W σ _ _ ((Ev.same (s.trans s2)).trans (Ev.upd wa)) ((px.mono (s.trans s2)).updL hi ev wa ?_) q2
 exact (Reps.set ((Nw.rep px nw rx).same s2 λ_ z=>z) j (r.same s2 λ_ z=>z)).keep (.upd ea2 rfl λb m=>⟨lV wa m,m⟩)
end
theorem Reps.atI {K:ac}{M:Addr->Prop}{H:Hp}{us:List V}{xs:List PV}{i:Int}{z:PV}(r:Reps K M H us xs)(h:L2.atI xs i=some z):∃v,L2.atI us i=some v/\aD K M H v z:=by
 unfold L2.atI at h ⊢
 rw[r.length]
 cases e:fH xs.length i with
 |none=>rw[e]at h;cases h
 |some j=>rw[e]at h;exact r.at h
section
variable {X:Cx}{σ:St}{H:Hp}{Q':VK}{ta tb te:aB}{tr:cM}
def wB:PV->Tg->PV->Tg->PK->Prop:=λx g y _ Q=>∃xs i z,iL x=some xs/\y = .int i/\L2.atI xs i=some z/\Q z g
theorem aB3:e9 X wB (C3 X.K):=by
 rintro W Hs H u v x y g g' Q Q' s n r1 r2 ⟨xs,i,z,e,rfl,hz,q⟩ k
 cases r2
 obtain⟨a,us,rfl,hs,r⟩:=r1.seq e
 obtain⟨v,hv,rv⟩:=r.atI hz
 rcases hs with hs|hs
 ·exact .inl ⟨a,us,i,v,rfl,rfl,hs,hv,k v H z g (aA.refl _) rv q⟩
 ·exact .inr (.inl ⟨a,us,i,v,rfl,rfl,hs,hv,k v H z g (aA.refl _) rv q⟩)
def wC:PV->Option Nat
 |.tup xs=>some xs.length
 |.lst xs=>some xs.length
 |.scr ns=>some ns.length
 |.dK ps=>some ps.length
 |.kt xs=>some xs.length
 |.fL xs=>some xs.length
 |_=>none
def cF:List PV->(PV->Prop)->Prop:=λxs Q=>∃x n,xs = [x]/\wC x=some n/\Q (.int n)
theorem Reps.one {K:ac}{M:Addr->Prop}{H:Hp}{vs:List V}{x:PV}(r:Reps K M H vs [x]):∃v,vs = [v]/\aD K M H v x:=by
 cases r with
 |cons r t=>cases t;exact⟨_,rfl,r⟩
theorem Reps.two {K:ac}{M:Addr->Prop}{H:Hp}{vs:List V}{x y:PV}(r:Reps K M H vs [x,y]):∃v w,vs = [v,w]/\aD K M H v x/\aD K M H w y:=by
 cases r with
 |cons r t=>
  obtain⟨w,rfl,q⟩:=t.one
  exact⟨_,_,rfl,r,q⟩
theorem aB4:fB X cF (λxs H Q=>(∃p ys,xs = [.ref p]/\(aJ X.K H p ys∨aG X.K H p ys)/\Q (.int ys.length) H)∨∃a kvs,xs = [V.ref a]/\H a=some (.dK kvs)/\Q (.int kvs.length) H):=by
 rintro H vs xs Q Q' r ⟨x,n,rfl,e,q⟩ k
 obtain⟨v,rfl,r1⟩:=r.one
 have fin:∀{m:Nat},m=n->Q' (.int m) H:=λ{m} z=>by rw[z];exact k _ _ _ (aA.refl _) (.int _) q
 cases r1 with
 |tup h r2=>cases e;exact .inl ⟨_,_,rfl,.inr (aG.of h),fin r2.length⟩
 |lst m h r2=>cases e;exact .inl ⟨_,_,rfl,.inl (aJ.of h),fin r2.length⟩
 |scr h=>cases e;exact .inl ⟨_,_,rfl,.inl h.sqL,fin (by rw[bi1])⟩
 |kt h r2=>cases e;exact .inl ⟨_,_,rfl,.inr (.inr h),fin r2.length⟩
 |fL h r2=>cases e;exact .inl ⟨_,_,rfl,.inl (.inl (.inr ⟨_,h⟩)),fin r2.length⟩
 |dK m h e' r=>
  cases e
  refine .inr ⟨_,_,rfl,h,fin ?_⟩
  have:=congrArg List.length e'
  rw[bi1,bi1]at this
  exact this
 |_=>cases e
def seqT:PV->Option (List PV)
 |.kt _=>none
 |x=>iL x
def M3:List PV->(PV->Prop)->Prop:=λxs Q=>∃x ys,xs = [x]/\seqT x=some ys/\flats ys=true/\Q (.tup ys)
def qQ:List PV->(PV->Prop)->Prop:=λxs Q=>∃x ys,xs = [x]/\iL x=some ys/\flats ys=true/\Q (.lst ys)
theorem aB5:fB X (λxs Q=>M3 xs Q/\∀ns,xs≠[.scr ns]) (λxs H Q=>∃p ys,xs = [.ref p]/\((aJ X.K H p ys/\∀l,H l=none->Q (.ref l) (upd H l (.tup ys)))∨(aG X.K H p ys/\Q (.ref p) H))):=by
 rintro H vs xs Q Q' r ⟨⟨x,ys,rfl,e,f,q⟩,nsc⟩ k
 obtain⟨v,rfl,r1⟩:=r.one
 cases r1 with
 |tup h r2=>cases e;exact⟨_,_,rfl,.inr ⟨aG.of h,k _ _ _ (aA.refl _) (.tup h (r2.flat f)) q⟩⟩
 |lst m h r2=>cases e;exact⟨_,_,rfl,.inl ⟨aJ.of h,λl hl=>k _ _ _ (aW hl _) (.tup aQ ((r2.flat f).same (aW hl _) λ_ z=>z)) q⟩⟩
 |scr h=>exact absurd rfl (nsc _)
 |fL h r2=>cases e;exact⟨_,_,rfl,.inl ⟨.inl (.inr ⟨_,h⟩),λl hl=>k _ _ _ (aW hl _) (.tup aQ ((r2.flat f).same (aW hl _) λ_ z=>z)) q⟩⟩
 |_=>cases e
theorem aB6:fB X qQ (λxs H Q=>∃p ys,xs = [.ref p]/\(aJ X.K H p ys∨aG X.K H p ys)/\∀l,H l=none->Q (.ref l) (upd H l (.lst ys))):=by
 rintro H vs xs Q Q' r ⟨x,ys,rfl,e,f,q⟩ k
 obtain⟨v,rfl,r1⟩:=r.one
 obtain⟨a,us,rfl,hs,r2⟩:=r1.seq e
 exact⟨_,_,rfl,hs,λl hl=>k _ _ _ (aW hl _) (.lst hl aQ ((r2.flat f).same (aW hl _) λ_ z=>z)) q⟩
def wD:List PV->(PV->Prop)->Prop:=λxs Q=>∃bs:List Bool,xs = [.lst (bs.map PV.bl)]/\Q (.bl (bs.all id))
theorem Reps.ofBls {K:ac}{M:Addr->Prop}{H:Hp}:∀{ns:List Bool}{us:List V},Reps K M H us (ns.map PV.bl)->us=ns.map V.bl
 |[],_,.nil=>rfl
 |n::r,_,.cons q t=>by
  cases q
  rw[Reps.ofBls t];rfl
theorem aB7:fB X wD (λxs H Q=>∃(a:Addr) (bs:List Bool),xs = [.ref a]/\aJ X.K H a (bs.map V.bl)/\Q (.bl (bs.all id)) H):=by
 rintro H vs xs Q Q' r ⟨bs,rfl,q⟩ k
 obtain⟨v,rfl,r1⟩:=r.one
 obtain⟨a,us,rfl,_,h,r2⟩:=r1.sqL
 obtain rfl:=r2.ofBls
 exact⟨a,bs,rfl,aJ.of h,k _ _ _ (aA.refl _) (.bl _) q⟩
def qR:List PV->(PV->Prop)->Prop:=λxs Q=>∃i j,xs = [.int i,.int j]/\Q (.int (if j<i then j else i))
def qS:List PV->(PV->Prop)->Prop:=λxs Q=>∃i j,xs = [.int i,.int j]/\Q (.int (if j>i then j else i))
theorem aB8:fB X qR (λxs H Q=>∃i j,xs = [.int i,.int j]/\Q (.int (if j<i then j else i)) H):=by
 rintro H vs xs Q Q' r ⟨i,j,rfl,q⟩ k
 obtain⟨v,w,rfl,r1,r2⟩:=r.two
 cases r1;cases r2
 exact⟨i,j,rfl,k _ _ _ (aA.refl _) (.int _) q⟩
theorem aB9:fB X qS (λxs H Q=>∃i j,xs = [.int i,.int j]/\Q (.int (if j>i then j else i)) H):=by
 rintro H vs xs Q Q' r ⟨i,j,rfl,q⟩ k
 obtain⟨v,w,rfl,r1,r2⟩:=r.two
 cases r1;cases r2
 exact⟨i,j,rfl,k _ _ _ (aA.refl _) (.int _) q⟩
abbrev bA:=List PV->(PV->Prop)->Prop
def jH (K:ac)(p:bA):Sp:=λvs H Q _=>∃xs Qp,Reps K (λ_=>True) H vs xs/\p xs Qp/\∀v H' x,aA H H'->aD K (λa=>H a=none) H' v x->Qp x->Q v H'
theorem aC0 {p:bA}{E:XK}(h:LE X (aH p tr) σ H Q'):pM (jH X.K p) [] E (LA X tr) σ H Q':=by
 obtain⟨W,ρ,Q,px,q,k⟩:=h
 refine⟨W,ρ,_,px,q,λvs H1 xs s1 r1 q1=>⟨_,_,by rw[bn4];exact r1.any,q1,λv H' x s2 r2 q2=>k v H' x .fr (s1.trans s2) (r2.same (aA.refl _) λ_ z=>s1.free z) q2⟩⟩
def aC1:PV->Option Bool
 |.non=>some false
 |.bl b=>some b
 |.int i=>some (i != 0)
 |.tup xs=>some (!xs.isEmpty)
 |.lst xs=>some (!xs.isEmpty)
 |.dK ps=>some (!ps.isEmpty)
 |_=>none
def wE (t:aB):cB:=λρ Q=>t ρ λx _=>∃b,aC1 x=some b/\Q b
theorem wF {α β:Type}:∀{l:List α}{m:List β},l.length=m.length->l.isEmpty=m.isEmpty
 |[],[],_=>rfl
 |_::_,_::_,_=>rfl
theorem aC2 {t:aB}{Qb:Bool->Hp->Prop}(h:LT X (wE t) σ H Qb):LE X t σ H λx H'=>∃k,uI X.K x H' k/\Qb k H':=by
 obtain⟨W,ρ,Q,px,q,k⟩:=h
 refine⟨W,ρ,_,px,q,?_⟩
 rintro v H1 x g s r ⟨b,e,q⟩
 refine⟨b,?_,k _ _ s q⟩
 cases r with
 |non=>cases e;rfl
 |bl b=>cases e;rfl
 |int i=>cases e;rfl
 |str x=>cases e
 |tup h r=>cases e;exact .inr (.inl ⟨_,aG.of h,by rw[wF r.length]⟩)
 |lst m h r=>cases e;exact .inl ⟨_,aJ.of h,by rw[wF r.length]⟩
 |dK m h e' r=>
  cases e
  refine .inr (.inr ⟨_,h,?_⟩)
  have:=congrArg List.length e'
  rw[bi1,bi1]at this
  rw[wF this]
 |dT m h e' r=>cases e
 |scr h=>cases e
 |kt h r=>cases e
 |exc h e' c=>cases e
 |fK h e' r=>cases e
 |fT h e' r=>cases e
 |fL h r=>cases e
end
structure lX (K:ac)(H0:Hp)(W:Addr->Prop)(g:Bool)(H1:Hp)(J:It)(xs:List PV):Prop where
 go:∀W' H' i,Ev W H1 W' H'->i<xs.length->J.go i H'
 yld:∀W' H' i v H2,Ev W H1 W' H'->J.yld i H' v H2->i<xs.length->aA H' H2/\∃x,xs[i]? = some x/\aD K (Ms H0 W' g) H2 v x
 stop:∀W' H',Ev W H1 W' H'->J.stop xs.length H'
abbrev fC:=aZ->(List PV->Bool->Prop)->Prop
def LI (X:Cx)(t:fC):TI:=λσ H R=>∃(W:Addr->Prop) (ρ:aZ) (Q:List PV->Bool->Prop),PX X.K X.H₀ W σ ρ H/\t ρ Q/\∀J H1 xs g,aA H H1->lX X.K X.H₀ W g H1 J xs->Q xs g->R J H1
theorem Ev.keep {H0:Hp}{W W':Addr->Prop}{H H':Hp}{g:Bool}(e:Ev W H W' H')(tw:∀a,W a->∃o,H a=some o/\gM o=true):hV (Ms H0 W g) (Ms H0 W' g) H H':=by
 have m:∀{a:Addr}{o:HO},Ms H0 W g a->H a=some o->Ms H0 W' g a/\H' a=some o:=λ{a o} z h=>by
  cases g with
  |true=>
   obtain⟨h1,h2⟩:=e a _ h z.1
   exact⟨⟨h2,z.2⟩,h1⟩
  |false=>
   obtain⟨h1,h2⟩:=e a _ h z
   exact⟨h2,h1⟩
 refine⟨λa _ z h=>m z h,λa _ z h=>m z h,λa _ z h=>m z h,λa _ h=>(e a _ h λz=>?_).1,λa _ _ h=>(e a _ h λz=>?_).1⟩
 ·obtain⟨o,h',mu⟩:=tw a z;rw[h]at h';cases h';cases mu
 ·obtain⟨o,h',mu⟩:=tw a z;rw[h]at h';cases h';cases mu
section
variable {X:Cx}{σ:St}{H:Hp}{te:aB}{tr:cM}{R:It→Hp→Prop}
def M4 (K:ac)(tl:TE):TI:=λσ H R=>tl σ H λx H1=>∃a,x = .ref a/\((∃xs,aJ K H1 a xs/\R (lC K a) H1)∨(∃xs,aG K H1 a xs/\R (j7 K a) H1))
def wG:Tg->List PV->Bool
 |.fr,_=>true
 |.nw,_=>true
 |_,xs=>flats xs
def dA (te:aB):fC:=λρ Q=>te ρ λx g=>∃xs,iL x=some xs/\(g = .rd->flat x=true)/\Q xs (wG g xs)
theorem wH {K:ac}{H0:Hp}{W:Addr->Prop}{g:Bool}{H1:Hp}{a:Addr}{us:List V}{xs:List PV}(tw:∀a,W a->∃o,H1 a=some o/\gM o=true)(ha:∀W' H',Ev W H1 W' H'->aJ K H' a us)(r:Reps K (Ms H0 W g) H1 us xs):lX K H0 W g H1 (lC K a) xs:=by
 have lr:=r.length
 refine⟨λW' H' i e hi=>⟨us,us[i]'(by omega),ha W' H' e,by simp⟩,λW' H' i v H2 e y hi=>?_,λW' H' e=>⟨us,ha W' H' e,by omega⟩⟩
 obtain⟨rfl,y⟩:=y
 obtain⟨x,hx,rx⟩:=r.get (y us (ha W' _ e))
 exact⟨aA.refl _,x,hx,rx.keep (e.keep tw)⟩
theorem M5 {K:ac}{H0:Hp}{W:Addr->Prop}{g:Bool}{H1:Hp}{a:Addr}{us:List V}{xs:List PV}(tw:∀a,W a->∃o,H1 a=some o/\gM o=true)(ha:∀W' H',Ev W H1 W' H'->aG K H' a us)(r:Reps K (Ms H0 W g) H1 us xs):lX K H0 W g H1 (j7 K a) xs:=by
 have lr:=r.length
 refine⟨λW' H' i e hi=>⟨us,us[i]'(by omega),ha W' H' e,by simp⟩,λW' H' i v H2 e y hi=>?_,λW' H' e=>⟨us,ha W' H' e,by omega⟩⟩
 obtain⟨rfl,y⟩:=y
 obtain⟨x,hx,rx⟩:=r.get (y us (ha W' _ e))
 exact⟨aA.refl _,x,hx,rx.keep (e.keep tw)⟩
theorem kD {K:ac}{H0 Hs H:Hp}{W:Addr->Prop}{σ:St}{ρ:aZ}{g:Tg}{us:List V}{xs:List PV}(px:PX K H0 W σ ρ Hs)(hg:g = .rd->flats xs=true)(r:Reps K (Mg H0 W Hs g) H us xs):Reps K (Ms H0 W (wG g xs)) H us xs:=by
 cases g with
 |fr=>exact r.same (aA.refl _) λ_ z=>px.new z
 |nw=>exact r.same (aA.refl _) λ_ z=>z
 |sh=>
  show Reps K (Ms H0 W (flats xs)) H us xs
  cases e:flats xs with
  |true=>exact r.flat e
  |false=>exact r.same (aA.refl _) λ_ z=>z
 |rd=>exact r.flat (hg rfl)
theorem aC3 (h:LI X (dA te) σ H R):M4 X.K (LE X te) σ H R:=by
 obtain⟨W,ρ,Q,px,q,k⟩:=h
 refine⟨W,ρ,_,px,q,?_⟩
 rintro v H1 x g s r ⟨xs,e,hg,q⟩
 have px1:=px.mono s
 have tw:∀a,W a->∃o,H1 a=some o/\gM o=true:=λa z=>(px1.wm a z).2
 cases r with
 |tup h r=>
  cases e
  refine⟨_,rfl,.inr ⟨_,aG.of h,k _ _ _ _ s (M5 tw (λW' H' e=>aG.of (e _ _ h λz=>?_).1) (kD px (λz=>by have:=hg z;unfold flat at this;exact this) r)) q⟩⟩
  obtain⟨o,h',mu⟩:=tw _ z;rw[h]at h';cases h';cases mu
 |@lst a us xs' m h r=>
  cases e
  have wa:¬W a:=by
   cases g with
   |fr=>exact (px.new m).1
   |nw=>exact m.1
   |sh=>exact m
   |rd=>have:=hg rfl;unfold flat at this;cases this
  exact⟨_,rfl,.inl ⟨_,aJ.of h,k _ _ _ _ s (wH tw (λW' H' e=>aJ.of (e _ _ h wa).1) (kD px (λz=>by have:=hg z;unfold flat at this;cases this) r)) q⟩⟩
 |scr h=>
  cases e
  refine⟨_,rfl,.inl ⟨_,h.sqL,k _ _ _ _ s (wH tw (λW' H' e=>(iK.keep (λa o u hz=>(e _ _ hz λz=>?_).1) h).sqL) (kD (g:=g) px (λz=>cE _) (Reps.intz _))) q⟩⟩
  obtain⟨o,h',mu⟩:=tw _ z;rw[hz]at h';cases h';cases mu
 |kt h r=>
  cases e
  exact⟨_,rfl,.inr ⟨_,.inr h,k _ _ _ _ s (M5 tw (λW' H' e=>.inr h) (kD px (λz=>by have:=hg z;unfold flat at this;exact this) r)) q⟩⟩
 |fL h r=>
  cases e
  refine⟨_,rfl,.inl ⟨_,.inl (.inr ⟨_,h⟩),k _ _ _ _ s (wH tw (λW' H' e=>.inl (.inr ⟨_,(e _ _ h λz=>?_).1⟩)) (kD px (λz=>by have:=hg z;unfold flat at this;exact this) r)) q⟩⟩
  obtain⟨o,h',mu⟩:=tw _ z;rw[h]at h';cases h';cases mu
 |_=>cases e
def cI (lo:Int)(n:Nat):List PV:=(List.range n).map λ(i:Nat)=>PV.int (lo+(i:Int))
theorem gP (lo:Int)(n:Nat):(cI lo n).length=n:=by unfold cI;rw[bi1,bs8]
theorem M6 {lo:Int}{n i:Nat}(h:i<n):(cI lo n)[i]? = some (.int (lo+i)):=by unfold cI;rw[bi7,List.getElem?_range h];rfl
def iM (te:aB):fC:=λρ Q=>te ρ λx _=>∃j:Int,x = .int j/\-1000000<=j/\j<=1000000/\Q (cI 0 j.toNat) true
def qT (ta tb:aB):fC:=λρ Q=>ta ρ λx _=>tb ρ λy _=>∃i j:Int,x = .int i/\y = .int j/\(-1000000<=i/\i<=1000000/\-1000000<=j/\j<=1000000)/\Q (cI i (j-i).toNat) true
theorem M7 {K:ac}{H0:Hp}{W:Addr->Prop}{H1:Hp}(lo:Int)(n:Nat):lX K H0 W true H1 (nG lo n) (cI lo n):=by
 refine⟨λW' H' i e hi=>by rw[gP]at hi;exact hi,λW' H' i v H2 e y hi=>?_,λW' H' e=>by show n<=(cI lo n).length;rw[gP];exact bh8 _⟩
 rw[gP]at hi
 obtain⟨rfl,rfl⟩:=y
 exact⟨aA.refl _,_,M6 hi,.int _⟩
theorem aC4 (h:LI X (iM te) σ H R):zR (gI (LE X te) j8) σ H R:=by
 obtain⟨W,ρ,Q,px,q,k⟩:=h
 refine⟨W,ρ,_,px,q,?_⟩
 rintro v H1 x g s r ⟨j,rfl,h1,h2,q⟩
 cases r
 exact⟨j,rfl,by omega,by omega,k _ _ _ _ s (M7 0 j.toNat) q⟩
theorem aC5 {ta tb:aB}(h:LI X (qT ta tb) σ H R):zS (gI (LE X ta) (gI (LE X tb) j8)) σ H R:=by
 obtain⟨W,ρ,Q,px,q,k⟩:=h
 refine⟨W,ρ,_,px,q,λv H1 x g s r q=>⟨W,ρ,_,px.mono s,q,?_⟩⟩
 rintro w H2 y g' s2 r2 ⟨i,j,rfl,rfl,h,q⟩
 cases r;cases r2
 exact⟨i,j,rfl,by omega,k _ _ _ _ (s.trans s2) (M7 i (j-i).toNat) q⟩
end
abbrev gQ:=PV->Bool->aZ->(aZ->Prop)->Prop
def kE (K:ac)(own:Nat->Prop)(p:gQ)(t:TG):Prop:=∀(H0:Hp) (W:Addr->Prop) (σ:St) (ρ:aZ) (H:Hp) (v:V) (x:PV) (g:Bool) (Q:aZ->Prop) (Q':St->Hp->Prop),
 PX K H0 W σ ρ H->aD K (Ms H0 W g) H v x->p x g ρ Q->(∀σ' ρ',PX K H0 W σ' ρ' H->(∀i,¬own i->σ'[i]? = σ[i]?)->σ'.length=σ.length->Q ρ'->Q' σ' H)->t v σ H Q'
def bB (i:Nat):gQ:=λx g ρ Q=>Q (ρ.set i (some (.sh (g||flat x) x)))
theorem qU {K:ac}{H0 H:Hp}{W:Addr->Prop}{v:V}{x:PV}{g:Bool}(r:aD K (Ms H0 W g) H v x):aD K (Ms H0 W (g||flat x)) H v x:=by
 cases g with
 |true=>exact r
 |false=>
  show aD K (Ms H0 W (flat x)) H v x
  cases e:flat x with
  |true=>exact r.flat e
  |false=>exact r
theorem o5 (K:ac)(i:Nat):kE K (· = i) (bB i) (cX i):=by
 intro H0 W σ ρ H v x g Q Q' px r q k
 exact k _ _ (px.setSh (qU r)) (λj hj=>by rw[bl9 (Ne.symm hj)]) (bm9 ..) q
def wI (i j:Nat):gQ:=λx g ρ Q=>∃y z,x = .tup [y,z]/\Q ((ρ.set i (some (.sh (g||flat y) y))).set j (some (.sh (g||flat z) z)))
theorem aC6 (K:ac)(i j:Nat):kE K (λk=>k=i∨k=j) (wI i j) (l9 K 2 (gG (cX i) (gG (cX j) l8))):=by
 intro H0 W σ ρ H v x g Q Q' px r q k
 obtain⟨y,z,rfl,q⟩:=q
 obtain⟨a,us,rfl,h,r⟩:=r.sqT
 obtain⟨u1,u2,rfl,r1,r2⟩:=r.two
 refine⟨a,_,rfl,aG.of h,rfl,u1,_,rfl,u2,_,rfl,rfl,k _ _ ((px.setSh (qU r1)).setSh (qU r2)) (λk hk=>?_) (by rw[bm9,bm9]) q⟩
 rw[bl9 (λe=>hk (.inr e.symm)),bl9 (λe=>hk (.inl e.symm))]
section
variable {X:Cx}{σ:St}{H:Hp}{D:cW}
def dJ (ti:fC)(p:gQ)(tb:aL):aL:=λD ρ=>ti ρ λxs g=>∃I:Nat->aZ->Prop,I 0 ρ/\(∀i x ρ',xs[i]? = some x->I i ρ'->p x g ρ' λρ2=>tb { D with nx:=I (i+1),ct:=I (i+1),bk:=D.nx } ρ2)/\∀ρ',I xs.length ρ'->D.nx ρ'
theorem aC7 {ti:fC}{p:gQ}{g:TG}{tb:aL}{own:Nat->Prop}(hg:kE X.K own p g)(h:LS X (dJ ti p tb) D σ H):pE (LI X ti) g (LS X tb) D σ H:=by
 obtain⟨W,ρ,D',px,q,k⟩:=h
 refine⟨W,ρ,_,px,q,?_⟩
 rintro J H1 xs gb s it ⟨I,i0,turn,fin⟩
 refine⟨λi m σ2 H2=>m=xs.length-i/\i<=xs.length/\∃W2 ρ2,PX X.K X.H₀ W2 σ2 ρ2 H2/\Ev W H1 W2 H2/\I i ρ2,⟨xs.length,by omega,bl4 _,W,ρ,px.mono s,Ev.refl _ _,i0⟩,?_⟩
 rintro i m σ2 H2 ⟨rfl,hi,W2,ρ2,px2,e2,i2⟩
 have e0:Ev W H W2 H2:=(Ev.same s).trans e2
 by_cases hlt:i<xs.length
 ·refine .inr ⟨it.go W2 H2 i e2 hlt,λσ3 H3=>∃W3 ρ3,PX X.K X.H₀ W3 σ3 ρ3 H3/\Ev W H1 W3 H3/\I (i+1) ρ3,λσ3 H3 ⟨W3,ρ3,a,b,c⟩=>⟨xs.length-(i+1),by omega,rfl,hlt,W3,ρ3,a,b,c⟩,λv H3 y=>?_⟩
  obtain⟨s3,x,hx,rx⟩:=it.yld W2 H2 i v H3 e2 y hlt
  refine hg X.H₀ W2 σ2 ρ2 H3 v x gb _ _ (px2.mono s3) rx (turn i x ρ2 hx i2) λσ4 ρ4 px4 _ _ q4=>?_
  have e3:Ev W H1 W2 H3:=e2.trans (Ev.same s3)
  have e3':Ev W H W2 H3:=e0.trans (Ev.same s3)
  exact⟨W2,ρ4,_,px4,q4,λW' σ' H' ρ' e p q=>⟨W',ρ',p,e3.trans e,q⟩,k.rt,λW' σ' H' ρ' e p q=>k.nx W' σ' H' ρ' (e3'.trans e) p q,λW' σ' H' ρ' e p q=>⟨W',ρ',p,e3.trans e,q⟩⟩
 ·have e:i=xs.length:=by omega
  subst e
  exact .inl ⟨it.stop W2 H2 e2,k.nx W2 σ2 H2 ρ2 e0 px2 (fin ρ2 i2)⟩
end
def lY (fr:List (Option Nat))(ρ:aZ):aZ:=fr.map λo=>o.bind λj=>(ρ[j]?).join.map λm=>Slot.sh false m.val
def kF (D:Addr):Addr->Prop:=λa=>a=D
theorem aC8 {K:ac}{H0:Hp}{W:Addr->Prop}{σ:St}{ρ:aZ}{H1 H':Hp}{D:Addr}{acc:List V}{fr:List (Option Nat)}(px:PX K H0 W σ ρ H1)(hD:H1 D=none)(s:aA H1 H')(ha:H' D=some (.lst acc)) :
  PX K H1 (kF D) (eY fr σ) (lY fr ρ) H':=by
 have old:∀{a:Addr}{o:HO},H1 a=some o->a≠D:=λ{a o} e z=>by rw[z,hD]at e;cases e
 refine⟨by unfold eY lY;rw[bi1,bi1],s,λa z=>by cases z;exact⟨hD,_,ha,rfl⟩,λi m h=>?_,λi j x y a h1=>?_⟩
 ·unfold lY at h
  rw[bi7]at h
  cases ef:fr[i]? with
  |none=>rw[ef]at h;cases h
  |some o=>
   rw[ef]at h
   cases o with
   |none=>cases h
   |some j=>
    have h:some ((ρ[j]?).join.map λm=>Slot.sh false m.val)=some (some m):=h
    cases er:ρ[j]? with
    |none=>rw[er]at h;cases h
    |some o=>
     rw[er]at h
     cases o with
     |none=>cases h
     |some m0=>
      cases h
      obtain⟨v,ev,r⟩:=px.sl j m0 er
      refine⟨v,?_,?_⟩
      ·unfold eY
       rw[bi7,ef]
       show some ((σ[j]?).join)=_
       rw[ev];rfl
      ·have r':aD K (λ_=>True) H1 v m0.val:=(L3 (Hs:=H1) r).same (aA.refl _) λ_ _=>trivial
       exact r'.keep ⟨λa _ _ e=>⟨old e,s _ _ e⟩,λa _ _ e=>⟨old e,s _ _ e⟩,λa _ _ e=>⟨old e,s _ _ e⟩,λ_ _ e=>s _ _ e,λ_ _ _ e=>s _ _ e⟩
 ·unfold lY at h1
  rw[bi7]at h1
  cases ef:fr[i]? with
  |none=>rw[ef]at h1;cases h1
  |some o=>
   rw[ef]at h1
   cases o with
   |none=>cases h1
   |some j=>
    have h1:some ((ρ[j]?).join.map λm=>Slot.sh false m.val)=some (some (Slot.own x)):=h1
    cases er:ρ[j]? with
    |none=>rw[er]at h1;cases h1
    |some o=>
     rw[er]at h1
     cases o with
     |none=>cases h1
     |some m0=>cases h1
section
variable {X:Cx}{σ:St}{H:Hp}{Q':VK}
abbrev _root_.L2.Cx.frm (X:Cx)(H1:Hp):Cx:={ X with H₀:=H1 }
def dL (ti:fC)(fr:List (Option Nat))(p:gQ)(tc:cB)(te:aB):aB:=λρ Q=>ti ρ λxs g=>xs.length<=16000000/\∃I:Nat->List PV->Prop,I 0 []/\
 (∀i x acc,xs[i]? = some x->I i acc->p x false (lY fr ρ) λρ2=>tc ρ2 λb=>if b=true then te ρ2 λy gy=>Nw gy y/\I (i+1) (acc++[y]) else I (i+1) acc)/\∀acc,I xs.length acc->Q (.lst acc) .fr
theorem qV {ti:fC}{fr:List (Option Nat)}{p:gQ}{g:TG}{tc:cB}{te:aB}{own:Nat->Prop}(hg:kE X.K own p g)(ho:∀i,own i->fr[i]? = some none)(h:LE X (dL ti fr p tc te) σ H Q') :
  vE (LI X ti) fr (λ_=>g) (λH1=>LT (X.frm H1) tc) (λH1=>LE (X.frm H1) te) σ H Q':=by
 obtain⟨W,ρ,Q,px,q,k⟩:=h
 refine⟨W,ρ,_,px,q,?_⟩
 rintro J H1 xs gb s it ⟨hl,I,i0,turn,fin⟩ D hD
 have px1:=px.mono s
 refine⟨λi m acc H'=>m=xs.length-i/\i<=xs.length/\aA H1 H'/\H' D=some (.lst acc)/\∃ys,Reps X.K (Ms H1 (kF D) true) H' acc ys/\ys.length<=i/\I i ys,⟨xs.length,by omega,bl4 _,aW hD _,aQ,[],.nil,bh8 _,i0⟩,?_⟩
 rintro i m acc H' ⟨rfl,hi,sm,ha,ys,ry,hy,iy⟩
 refine⟨ha,?_⟩
 have ev:Ev W H1 (lU W D) H':=Ev.own sm hD
 by_cases hlt:i<xs.length
 ·refine .inr ⟨it.go _ H' i ev hlt,λv H2 y=>?_⟩
  obtain⟨s2,x,hx,rx⟩:=it.yld _ H' i v H2 ev y hlt
  have ha2:=s2 _ _ ha
  have pxb:PX X.K H1 (kF D) (eY fr σ) (lY fr ρ) H2:=aC8 px1 hD (sm.trans s2) ha2
  have rx':aD X.K (Ms H1 (kF D) false) H2 v x:=rx.same (aA.refl _) λa z=>by
   cases gb with
   |true=>exact λe=>z.1 (.inr e)
   |false=>exact λe=>z (.inr e)
  refine hg H1 (kF D) _ _ H2 v x false _ _ pxb rx' (turn i x ys hx iy) λσ2 ρ2 px2 hown hlen q2=>⟨⟨hlen.symm,λj w e=>?_⟩,?_⟩
  ·by_cases oj:own j
   ·have:=ho j oj
    unfold eY at e
    rw[bi7,this]at e
    cases e
   ·rw[hown j oj];exact e
  ·refine⟨kF D,ρ2,_,px2,q2,λb H4 s4 q4=>?_⟩
   have ha4:=s4 _ _ ha2
   have sm4:=(sm.trans s2).trans s4
   cases b with
   |false=>
    refine bD ⟨xs.length-(i+1),by omega,rfl,hlt,sm4,ha4,ys,ry.same (s2.trans s4) λ_ z=>z,by omega,by simpa using q4⟩
   |true=>
    refine cA ⟨kF D,ρ2,_,px2.mono s4,by simpa using q4,?_⟩
    rintro w H5 y gy s5 ryy ⟨nw,q5⟩
    have ha5:=s5 _ _ ha4
    have lr:=ry.length
    refine⟨ha5,g9 (by omega),xs.length-(i+1),by omega,rfl,hlt,λb o e=>?_,aQ,ys++[y],?_,by rw[bj6,bn2];omega,q5⟩
    ·rw[a8 (λz=>by rw[z,hD]at e;cases e)]
     exact s5 _ _ (sm4 _ _ e)
    ·exact ((ry.same ((s2.trans s4).trans s5) λ_ z=>z).append (.cons (Nw.rep (px2.mono s4) nw ryy) .nil)).keep (.upd ha5 rfl λb m=>⟨m.1,m⟩)
 ·have e:i=xs.length:=by omega
  subst e
  refine .inl ⟨it.stop _ H' ev,k _ H' _ .fr (s.trans sm) (.lst (s.free hD) ha (ry.same (aA.refl _) λ_ z=>s.free z.2)) (fin ys iy)⟩
def gA:cB:=λ_ Q=>Q true
theorem aC9 {Qb:Bool->Hp->Prop}(h:LT X gA σ H Qb):vC σ H Qb:=by
 obtain⟨W,ρ,Q,px,q,k⟩:=h
 exact k _ _ (aA.refl _) q
end
section
variable {κ:Type}[DecidableEq κ]
def bL (ps:List (κ×PV))(k:κ):Option PV:=(ps.find? λp=>decide (p.1=k)).map (·.2)
def cO (ps:List (κ×PV))(k:κ)(x:PV):List (κ×PV):=if (ps.any λp=>decide (p.1=k))=true then ps.map (λp=>if p.1=k then (p.1,x) else p) else ps++[(k,x)]
variable {K:ac}{M:Addr→Prop}{H:Hp}
theorem iN (k:κ):∀{kvs:List (κ×V)}{ps:List (κ×PV)},kvs.map (·.1)=ps.map (·.1)->Reps K M H (kvs.map (·.2)) (ps.map (·.2))->(bL ps k=none->eG kvs k=none)/\∀x,bL ps k=some x->∃v,eG kvs k=some v/\aD K M H v x
 |[],[],_,_=>⟨λ_=>rfl,λx h=>by cases h⟩
 |[],_::_,e,_=>by cases e
 |_::_,[],e,_=>by cases e
 |(k1,v)::kvs,(k2,x)::ps,e,r=>by
  injection e with e1 e2
  have e1:k1=k2:=e1
  subst e1
  cases r with
  |cons r t=>
   obtain⟨h1,h2⟩:=iN k e2 t
   unfold bL eG at h1 h2 ⊢
   by_cases e:k1=k
   ·simp only[bs3,e,decide_true,Option.map_some]
    exact⟨λz=>(by cases z),λy z=>(by cases z;exact⟨v,rfl,r⟩)⟩
   ·simp only[bs3,e,decide_false]
    exact⟨h1,h2⟩
theorem aD0 (k:κ){kvs:List (κ×V)}{ps:List (κ×PV)}(e:kvs.map (·.1)=ps.map (·.1)):(kvs.any λp=>decide (p.1=k))=ps.any λp=>decide (p.1=k):=by
 have h1:(kvs.any λp=>decide (p.1=k))=(kvs.map (·.1)).any λz=>decide (z=k):=by rw[List.any_map];rfl
 have h2:(ps.any λp=>decide (p.1=k))=(ps.map (·.1)).any λz=>decide (z=k):=by rw[List.any_map];rfl
 rw[h1,h2,e]
theorem M8 (k:κ){w:V}{y:PV}(q:aD K M H w y):∀{kvs:List (κ×V)}{ps:List (κ×PV)},kvs.map (·.1)=ps.map (·.1)->Reps K M H (kvs.map (·.2)) (ps.map (·.2))->
  (kvs.map λkv=>if kv.1=k then (kv.1,w) else kv).map (·.1)=(ps.map λkv=>if kv.1=k then (kv.1,y) else kv).map (·.1)/\Reps K M H ((kvs.map λkv=>if kv.1=k then (kv.1,w) else kv).map (·.2)) ((ps.map λkv=>if kv.1=k then (kv.1,y) else kv).map (·.2))
 |[],[],_,_=>⟨rfl,.nil⟩
 |[],_::_,e,_=>by cases e
 |_::_,[],e,_=>by cases e
 |(k1,v)::kvs,(k2,x)::ps,e,r=>by
  injection e with e1 e2
  have e1:k1=k2:=e1
  subst e1
  cases r with
  |cons r t=>
   obtain⟨h1,h2⟩:=M8 k q e2 t
   by_cases e:k1=k
   ·simp only[bm6,e,if_true]
    exact⟨by rw[h1],.cons q h2⟩
   ·simp only[bm6,e,bn9]
    exact⟨by rw[h1],.cons r h2⟩
theorem M9 (k:κ){w:V}{y:PV}(q:aD K M H w y){kvs:List (κ×V)}{ps:List (κ×PV)}(e:kvs.map (·.1)=ps.map (·.1))(r:Reps K M H (kvs.map (·.2)) (ps.map (·.2))) :
  (e8 kvs k w).map (·.1)=(cO ps k y).map (·.1)/\Reps K M H ((e8 kvs k w).map (·.2)) ((cO ps k y).map (·.2)):=by
 unfold e8 cO
 rw[aD0 k e]
 split
 ·exact M8 k q e r
 ·rw[bk8,bk8,bk8,bk8,e]
  exact⟨rfl,r.append (.cons q .nil)⟩
end
def kP:aC->PV
 |.inl i=>.int i
 |.inr x=>.str x
theorem wJ {K:ac}{M:Addr->Prop}{H:Hp}{v:V}{k:aC}(r:aD K M H v (kP k)):v=kV k:=by
 cases k with
 |inl i=>cases r;rfl
 |inr x=>cases r;rfl
theorem qW {K:ac}{M:Addr->Prop}{H:Hp}:∀{ks:List aC}{us:List V},Reps K M H us (ks.map kP)->us=ks.map kV
 |[],_,.nil=>rfl
 |k::r,_,.cons q t=>by rw[wJ q,qW t];rfl
def N0:PV->PV
 |.fK ps=>.dK ps
 |.fT ps=>.dT ps
 |x=>x
def qX (x y:PV)(o:Option PV):Prop:=(∃ps k,N0 x = .dK ps/\y=kP k/\o=bL ps k)∨(∃ps k,N0 x = .dT ps/\y = .tup (k.map kP)/\o=bL ps k)
theorem wK {K:ac}{M M2:Addr->Prop}{H:Hp}{v w:V}{x y:PV}{o:Option PV}(h:qX x y o)(rx:aD K M H v x)(ry:aD K M2 H w y):∃a o',v = .ref a/\eW H a w o'/\(o=none->o'=none)/\∀z,o=some z->∃u,o'=some u/\aD K M H u z:=by
 rcases h with⟨ps,k,ex,rfl,rfl⟩|⟨ps,k,ex,rfl,rfl⟩
 ·obtain rfl:=wJ ry
  cases rx with
  |dK m h e r=>cases ex;exact⟨_,_,rfl,eW.k h,(iN k e r).1,(iN k e r).2⟩
  |fK h e r=>cases ex;exact⟨_,_,rfl,.inl ⟨_,k,.inr ⟨_,h⟩,rfl,rfl⟩,(iN k e r).1,(iN k e r).2⟩
  |_=>cases ex
 ·obtain⟨b,us,rfl,hb,rb⟩:=ry.sqT
  obtain rfl:=qW rb
  cases rx with
  |dT m h e r=>cases ex;exact⟨_,_,rfl,eW.t h hb,(iN k e r).1,(iN k e r).2⟩
  |fT h e r=>cases ex;exact⟨_,_,rfl,.inr ⟨_,k,b,.inr ⟨_,h⟩,rfl,hb,rfl⟩,(iN k e r).1,(iN k e r).2⟩
  |_=>cases ex
section
variable {X:Cx}{σ:St}{H:Hp}{D:cW}{tk td te:aB}{Q':VK}
def kG (neg:Bool)(tk td:aB):aB:=λρ Q=>tk ρ λy _=>td ρ λx _=>∃o,qX x y o/\Q (.bl (if neg=true then !o.isSome else o.isSome)) .fr
theorem N1 {α β:Type}{o:Option α}{o':Option β}{P:β->α->Prop}(h1:o=none->o'=none)(h2:∀z,o=some z->∃u,o'=some u/\P u z):o'.isSome=o.isSome:=by
 cases o with
 |none=>rw[h1 rfl];rfl
 |some z=>obtain⟨u,e,_⟩:=h2 z rfl;rw[e];rfl
theorem aD1 (h:LE X (kG false tk td) σ H Q'):F0 (LE X tk) (LE X td) σ H Q':=by
 obtain⟨W,ρ,Q,px,q,k⟩:=h
 refine⟨W,ρ,_,px,q,λw H1 y g s r q=>⟨W,ρ,_,px.mono s,q,?_⟩⟩
 rintro v H2 x g' s2 r2 ⟨o,ak,q⟩
 obtain⟨a,o',rfl,dg,h1,h2⟩:=wK ak r2 (r.same s2 λ_ z=>z)
 refine⟨a,o',rfl,dg,?_⟩
 rw[N1 h1 h2]
 exact k _ _ _ .fr (s.trans s2) (.bl _) q
theorem aD2 (h:LE X (kG true tk td) σ H Q'):F1 (LE X tk) (LE X td) σ H Q':=by
 obtain⟨W,ρ,Q,px,q,k⟩:=h
 refine⟨W,ρ,_,px,q,λw H1 y g s r q=>⟨W,ρ,_,px.mono s,q,?_⟩⟩
 rintro v H2 x g' s2 r2 ⟨o,ak,q⟩
 obtain⟨a,o',rfl,dg,h1,h2⟩:=wK ak r2 (r.same s2 λ_ z=>z)
 refine⟨a,o',rfl,dg,?_⟩
 rw[N1 h1 h2]
 exact k _ _ _ .fr (s.trans s2) (.bl _) q
def lZ (td tk:aB):aB:=λρ Q=>td ρ λx g=>tk ρ λy _=>∃z,qX x y (some z)/\Q z g
theorem aD3 (h:LE X (lZ td tk) σ H Q'):E9 (LE X td) (LE X tk) σ H Q':=by
 obtain⟨W,ρ,Q,px,q,k⟩:=h
 refine⟨W,ρ,_,px,q,λv H1 x g s r q=>⟨W,ρ,_,px.mono s,q,?_⟩⟩
 rintro w H2 y g' s2 r2 ⟨z,ak,q⟩
 obtain⟨a,o',rfl,dg,h1,h2⟩:=wK ak (r.same s2 λ_ z=>z) r2
 obtain⟨u,rfl,ru⟩:=h2 z rfl
 exact⟨a,u,rfl,dg,k _ _ _ g (s.trans s2) ru q⟩
theorem PX.updD {K:ac}{H0:Hp}{W:Addr->Prop}{σ:St}{ρ:aZ}{H:Hp}{i:Nat}{a:Addr}{x:PV}{kvs:List (aC×V)}{ps:List (aC×PV)}(p:PX K H0 W σ ρ H)(hi:ρ[i]? = some (some (.own x)))(ha:σ[i]? = some (some (.ref a)))(wa:W a)(r:kvs.map (·.1)=ps.map (·.1)/\Reps K (Ms H0 W true) (upd H a (.dK kvs)) (kvs.map (·.2)) (ps.map (·.2))):PX K H0 W σ (ρ.set i (some (.own (.dK ps)))) (upd H a (.dK kvs)):=p.updOwn hi ha wa rfl (y:=.dK ps) ⟨kvs,aQ,r⟩
theorem PX.updT {K:ac}{H0:Hp}{W:Addr->Prop}{σ:St}{ρ:aZ}{H:Hp}{i:Nat}{a:Addr}{x:PV}{kvs:List (List aC×V)}{ps:List (List aC×PV)}(p:PX K H0 W σ ρ H)(hi:ρ[i]? = some (some (.own x)))(ha:σ[i]? = some (some (.ref a)))(wa:W a)(r:kvs.map (·.1)=ps.map (·.1)/\Reps K (Ms H0 W true) (upd H a (.dT kvs)) (kvs.map (·.2)) (ps.map (·.2))):PX K H0 W σ (ρ.set i (some (.own (.dT ps)))) (upd H a (.dT kvs)):=p.updOwn hi ha wa rfl (y:=.dT ps) ⟨kvs,aQ,r⟩
theorem qY {κ α β:Type}{l:List (κ×α)}{m:List (κ×β)}(e:l.map (·.1)=m.map (·.1)):l.length=m.length:=by
 have:=congrArg List.length e
 rw[bi1,bi1]at this
 exact this
def wL (i:Nat)(tk te:aB):aL:=λD ρ=>te ρ λz g=>∃ps,ρ[i]? = some (some (.own (.dK ps)))/\tk ρ λy _=>∃k,y=kP k/\Nw g z/\ps.length<16000000/\D.nx (ρ.set i (some (.own (.dK (cO ps k z)))))
theorem aD4 {i:Nat}(h:LS X (wL i tk te) D σ H):v4 (dQ i) (LE X tk) (LE X te) D σ H:=by
 obtain⟨W,ρ,D',px,q,k⟩:=h
 refine⟨W,ρ,_,px,q,?_⟩
 rintro w H1 z g s rz ⟨ps,hi,q⟩
 obtain⟨v,ev,a,rfl,wa,kvs,ea,e1,r⟩:=(px.mono s).sl i _ hi
 refine⟨_,ev,W,ρ,_,px.mono s,q,?_⟩
 rintro kv H2 y g' s2 ry ⟨kk,rfl,nw,hl,q⟩
 obtain rfl:=wJ ry
 have ea2:=s2 _ _ ea
 refine⟨a,_,rfl,jB.k ea2 (g9 (by rw[qY e1];omega)),?_⟩
 refine k.nx W σ _ _ ((Ev.same (s.trans s2)).trans (Ev.upd wa)) ((px.mono (s.trans s2)).updD hi ev wa ?_) q
 obtain⟨h1,h2⟩:=M9 kk ((Nw.rep px nw rz).same s2 λ_ z=>z) e1 (r.same s2 λ_ z=>z)
 exact⟨h1,h2.keep (.upd ea2 rfl λb m=>⟨lV wa m,m⟩)⟩
theorem aD5 (h:LE X (qC (.dK [])) σ H Q'):F5 σ H Q':=by
 obtain⟨W,ρ,Q,px,q,k⟩:=h
 exact λp hp=>k _ _ _ .fr (aW hp _) (.dK hp aQ rfl .nil) q
theorem aD6 (h:LE X (qC (.dT [])) σ H Q'):F6 σ H Q':=by
 obtain⟨W,ρ,Q,px,q,k⟩:=h
 exact λp hp=>k _ _ _ .fr (aW hp _) (.dT hp aQ rfl .nil) q
end
def c8:Nat->PV->PV->Bool
 |_,.non,.non=>true
 |_,.bl a,.bl b=>a==b
 |_,.int a,.int b=>a==b
 |_,.str a,.str b=>a==b
 |n+1,.tup xs,.tup ys=>(xs.zip ys).all (λp=>c8 n p.1 p.2)&&xs.length==ys.length
 |n+1,.lst xs,.lst ys=>(xs.zip ys).all (λp=>c8 n p.1 p.2)&&xs.length==ys.length
 |n+1,.kt xs,.kt ys=>(xs.zip ys).all (λp=>c8 n p.1 p.2)&&xs.length==ys.length
 |_,_,_=>false
def dB:Nat->PV->PV->Bool
 |_,.non,.non=>true
 |_,.bl _,.bl _=>true
 |_,.int _,.int _=>true
 |_,.str _,.str _=>true
 |_,.non,.int _=>true
 |_,.int _,.non=>true
 |n+1,.tup xs,.tup ys=>(xs.zip ys).all (λp=>dB n p.1 p.2)
 |n+1,.lst xs,.lst ys=>(xs.zip ys).all (λp=>dB n p.1 p.2)
 |n+1,.kt xs,.kt ys=>(xs.zip ys).all (λp=>dB n p.1 p.2)
 |_+1,.non,.tup _=>true
 |_+1,.tup _,.non=>true
 |_,_,_=>false
theorem aD7 (n:Nat)(a b:Int):c8 n (.int a) (.int b)=(a==b):=by cases n<;>rfl
theorem N3 (n:Nat):∀(a b:ae),((((intz a).zip (intz b)).all λp=>c8 n p.1 p.2)&&(intz a).length==(intz b).length)=decide (a=b)
 |[],[]=>rfl
 |[],_::_=>by simp
 |_::_,[]=>by simp
 |x::a,y::b=>by
  have ih:=N3 n a b
  simp only[bm6,bt1,bt5,bk9,aD7]at ih ⊢
  by_cases e:x=y
  ·subst e
   have:((intz a).length+1==(intz b).length+1)=((intz a).length==(intz b).length):=by simp
   rw[this,bq4,Bool.true_and,ih]
   simp
  ·have:(x==y)=false:=beq_eq_false_iff_ne.mpr e
   rw[this,Bool.false_and,Bool.false_and]
   simp[e]
theorem N4 (n:Nat)(a b:ae):c8 (n+1) (.tup (intz a)) (.tup (intz b))=decide (a=b):=N3 n a b
theorem N5 (n:Nat):∀(a b:ae),(((intz a).zip (intz b)).all λp=>dB n p.1 p.2)=true
 |[],_=>by simp
 |_::_,[]=>by simp
 |x::a,y::b=>by
  simp only[bm6,bt1,bt5,N5 n a b,bt6]
  cases n<;>rfl
theorem N6 (n:Nat)(a b:ae):dB (n+1) (.tup (intz a)) (.tup (intz b))=true:=N5 n a b
def o6 (ta:aB):aB:=λρ Q=>ta ρ λx _=>∃i,x = .int i/\Q (.int (-i)) .fr
def o7 (neg:Bool):PV->Tg->PV->Tg->PK->Prop:=λx _ y _ Q=>∃i ns,x = .int i/\iL y=some (intz ns)/\Q (.bl (if neg=true then !decide (i∈ns) else decide (i∈ns))) .fr
def N7:PV->Option String
 |.non=>some "NoneType"
 |.bl _=>some "bool"
 |.int _=>some "int"
 |.str _=>some "str"
 |.tup _=>some "tuple"
 |.kt _=>some "tuple"
 |.lst _=>some "list"
 |_=>none
def iO (K:ac)(n:String)(te:aB):aB:=λρ Q=>te ρ λx _=>∃T b,N7 x=some T/\PySem.W.kitOne K (.type T) (.type n)=some b/\Q (.bl b) .fr
def qZ (n:Nat)(neg:Bool):PV->Tg->PV->Tg->PK->Prop:=λx _ y _ Q=>((∃xs ys,x = .tup xs/\y = .tup ys)∨(∃xs ys,x = .lst xs/\y = .lst ys))/\dB (n+1) x y=true/\Q (.bl (if neg=true then !c8 (n+1) x y else c8 (n+1) x y)) .fr
abbrev m3:=aZ->(Option Int->Prop)->Prop
def gR (xs:List PV)(lo hi:Option Int):List PV:=(xs.drop (HT.aP xs.length 0 lo)).take (HT.aP xs.length xs.length hi-HT.aP xs.length 0 lo)
def aD8:PV->List PV->PV
 |.tup _,ys=>.tup ys
 |.kt _,ys=>.tup ys
 |_,ys=>.lst ys
def N8:m3:=λ_ Q=>Q none
def r6 (te:aB):m3:=λρ Q=>te ρ λx _=>∃i,x = .int i/\Q (some i)
def wM (te:aB)(tl th:m3):aB:=λρ Q=>te ρ λx _=>tl ρ λlo=>th ρ λhi=>∃xs,seqT x=some xs/\flats xs=true/\Q (aD8 x (gR xs lo hi)) .fr
def eI (N:List Str)(xs:List PV):aZ:=xs.map (λx=>some (.sh (flat x) x))++List.replicate (N.length-xs.length) none
abbrev dU (ta tb:aB):aB:=q2 (cZ λi j=>.int (i+j)) ta tb
abbrev r9 (ta tb:aB):aB:=q2 (cZ λi j=>.int (i-j)) ta tb
abbrev o8 (ta tb:aB):aB:=q2 (RI nJ λi j=>.int (i*j)) ta tb
abbrev iP (ta tb:aB):aB:=q2 (RI uF λi j=>.int (i/j)) ta tb
abbrev dM (ta tb:aB):aB:=q2 (RI (λ_ j=>0<j) λi j=>.int (i%j)) ta tb
abbrev rA (ta tb:aB):aB:=q2 (RI uG λi j=>.int (i*2^j.toNat)) ta tb
abbrev wN (ta tb:aB):aB:=q2 (cZ λi j=>.bl (decide (i<j))) ta tb
abbrev qLe (ta tb:aB):aB:=q2 (cZ λi j=>.bl (decide (i<=j))) ta tb
abbrev kH (ta tb:aB):aB:=q2 (cZ λi j=>.bl (decide (j<i))) ta tb
abbrev wO (ta tb:aB):aB:=q2 (cZ λi j=>.bl (decide (j<=i))) ta tb
abbrev fD (ta tb:aB):aB:=q2 (kA false) ta tb
abbrev qNe (ta tb:aB):aB:=q2 (kA true) ta tb
abbrev bT (ta tb:aB):aB:=q2 wB ta tb
def m5:List PV->(PV->Prop)->Prop:=λxs Q=>M3 xs Q/\∀ns,xs≠[.scr ns]
def QE (X:Cx)(e:Expr)(t:aB):Prop:=PE X e (LE X t)
def QT (X:Cx)(e:Expr)(t:cB):Prop:=PT X e (LT X t)
def QW (X:Cx)(e:Expr)(t:cB):Prop:=PW X e (LT X t)
def QA (X:Cx)(es:List Expr)(t:cM):Prop:=PA X es (LA X t)
def QS (X:Cx)(st:Stmt)(t:aL):Prop:=PS X st (LS X t)
def dW (X:Cx)(st:List Stmt)(t:aL):Prop:=dE X st (LS X t)
def QI (X:Cx)(tg iter:Expr)(t:fC):Prop:=PI X tg iter (LI X t)
section
variable {X:Cx}
theorem bU {e:Expr}{t t':TE}(h:PE X e t)(m:∀σ H Q,t' σ H Q->t σ H Q):PE X e t':=λpins s σ H Q I q=>h pins s σ H Q I (m σ H Q q)
theorem m6 {e:Expr}{t t':TT}(h:PT X e t)(m:∀σ H Q,t' σ H Q->t σ H Q):PT X e t':=λpins s σ H Q I q=>h pins s σ H Q I (m σ H Q q)
theorem N9 {e:Expr}{t t':TT}(h:PW X e t)(m:∀σ H Q,t' σ H Q->t σ H Q):PW X e t':=λwh pins s σ H Q I q=>h wh pins s σ H Q I (m σ H Q q)
theorem O0 {e:List Expr}{t t':TA}(h:PA X e t)(m:∀σ H Q,t' σ H Q->t σ H Q):PA X e t':=λpos pins s σ H Q I q=>h pos pins s σ H Q I (m σ H Q q)
theorem eB {e:Stmt}{t t':TS}(h:PS X e t)(m:∀D σ H,t' D σ H->t D σ H):PS X e t':=λpins s σ H D I q=>h pins s σ H D I (m D σ H q)
theorem wP {e:List Stmt}{t t':TS}(h:dE X e t)(m:∀D σ H,t' D σ H->t D σ H):dE X e t':=λpins s σ H D I q=>h pins s σ H D I (m D σ H q)
theorem rB {tg e:Expr}{t t':TI}(h:PI X tg e t)(m:∀σ H R,t' σ H R->t σ H R):PI X tg e t':=λpins s σ H R I q=>h pins s σ H R I (m σ H R q)
variable {a b c e o:Expr}{es bX:List Expr}{ta tb te to tk:aB}{tr:cM}{tA tB' tc:cB}{pos p2 px:Pos}{st:Stmt}{sts:List Stmt}{t u:aL}
theorem qv (i:Nat){x:Str}{pos:Pos}(hN:X.N[i]? = some x:=by rfl)(hv:fQ X.env.scope x:=by first|exact Or.inl rfl|exact Or.inr (Or.inl rfl)|exact Or.inr (Or.inr rfl))(hd:(x==("__debug__":Str))=false:=by decide)(hcd:(x==("__classdict__":Str))=false:=by decide):QE X (.Name x pos) (a5 i):=bU (iC hN hv hd hcd) λ_ _ _=>ay9
theorem aS {i j}:QE X (.Constant (.int i) j pos) (qC (.int i)):=bU jT λ_ _ _=>qI λ_=>.int i
theorem iQ {i j}:QE X (.Constant (.bool i) j pos) (qC (.bl i)):=bU ak0 λ_ _ _=>qI λ_=>.bl i
theorem O1 {i j}:QE X (.Constant (.str i) j pos) (qC (.str i)):=bU ak1 λ_ _ _=>qI λ_=>.str i
theorem gB {op:Operator}{R:PV->Tg->PV->Tg->PK->Prop}{r:R2}(ho:bK X (binaryOp op) r)(cv:e9 X R r)(ha:QE X a ta)(hb:QE X b tb):QE X (.BinOp a op b pos) (q2 R ta tb):=bU (am4 ho ha hb) λ_ _ _=>qJ cv
theorem fE (ha:QE X a ta)(hb:QE X b tb):QE X (.BinOp a .Add b pos) (q2 (cZ λi j=>.int (i+j)) ta tb):=gB am6 qL ha hb
theorem wQ (ha:QE X a ta)(hb:QE X b tb):QE X (.BinOp a .Sub b pos) (q2 (cZ λi j=>.int (i-j)) ta tb):=gB am7 qL ha hb
theorem o9 (ha:QE X a ta)(hb:QE X b tb):QE X (.BinOp a .Mult b pos) (q2 (RI nJ λi j=>.int (i*j)) ta tb):=gB am8 qK ha hb
theorem oA (ha:QE X a ta)(hb:QE X b tb):QE X (.BinOp a .FloorDiv b pos) (q2 (RI uF λi j=>.int (i/j)) ta tb):=gB am9 qK ha hb
theorem gC (ha:QE X a ta)(hb:QE X b tb):QE X (.BinOp a .Mod b pos) (q2 (RI (λ_ j=>0<j) λi j=>.int (i%j)) ta tb):=gB an0 qK ha hb
theorem rC (ha:QE X a ta)(hb:QE X b tb):QE X (.BinOp a .LShift b pos) (q2 (RI uG λi j=>.int (i*2^j.toNat)) ta tb):=gB an1 qK ha hb
theorem rD {op:CmpOp}{R:PV->Tg->PV->Tg->PK->Prop}{r:R2}(ho:bK X (compareOp op) r)(cv:e9 X R r)(ha:QE X a ta)(hb:QE X b tb)(hm:behindInMarks op b=false):QE X (.Compare a [op] [b] pos) (q2 R ta tb):=bU (uH ho ha hb hm) λ_ _ _=>qJ cv
theorem jI {op:CmpOp}{R:PV->Tg->PV->Tg->PK->Prop}{r:R2}(ho:bK X (compareOp op) r)(cv:e9 X R r)(ha:QE X a ta)(hb:QE X b tb)(hm:behindInMarks op b=false):QT X (.Compare a [op] [b] pos) (aU (q2 R ta tb)):=m6 (an9 ho ha hb hm) λ_ _ _ h=>qJ cv (qM h)
theorem aD9 (ha:QE X a ta)(hb:QE X b tb):QE X (.Compare a [.Lt] [b] pos) (q2 (cZ λi j=>.bl (decide (i<j))) ta tb):=rD pK lS ha hb (fU _)
theorem aE0 (ha:QE X a ta)(hb:QE X b tb):QE X (.Compare a [.GtE] [b] pos) (q2 (cZ λi j=>.bl (decide (j<=i))) ta tb):=rD A2 lS ha hb (fU _)
theorem O2 (ha:QE X a ta)(hb:QE X b tb):QE X (.Compare a [.Eq] [b] pos) (q2 (kA false) ta tb):=rD A1 L6 ha hb (fU _)
theorem O3 (ha:QE X a ta)(hb:QE X b tb):QT X (.Compare a [.Lt] [b] pos) (aU (q2 (cZ λi j=>.bl (decide (i<j))) ta tb)):=jI pK lS ha hb (fU _)
theorem aE1 (ha:QE X a ta)(hb:QE X b tb):QT X (.Compare a [.LtE] [b] pos) (aU (q2 (cZ λi j=>.bl (decide (i<=j))) ta tb)):=jI an6 lS ha hb (fU _)
theorem wR (ha:QE X a ta)(hb:QE X b tb):QT X (.Compare a [.Gt] [b] pos) (aU (q2 (cZ λi j=>.bl (decide (j<i))) ta tb)):=jI an7 lS ha hb (fU _)
theorem O4 (ha:QE X a ta)(hb:QE X b tb):QT X (.Compare a [.GtE] [b] pos) (aU (q2 (cZ λi j=>.bl (decide (j<=i))) ta tb)):=jI A2 lS ha hb (fU _)
theorem kJ (ha:QE X a ta)(hb:QE X b tb):QT X (.Compare a [.Eq] [b] pos) (aU (q2 (kA false) ta tb)):=jI A1 L6 ha hb (fU _)
theorem aE2 (ha:QE X a ta)(hb:QE X b tb):QT X (.Compare a [.NotEq] [b] pos) (aU (q2 (kA true) ta tb)):=jI an5 az0 ha hb (fU _)
theorem aE3 (hu:X.A.units+1<cLine)(hk:QE X a tk)(hd:QE X b te)(hm:behindInMarks .In b=false:=by rfl):QT X (.Compare a [.In] [b] pos) (aU (kG false tk te)):=m6 (zC (au2 hu hk hd) hm) λ_ _ _ h=>aD1 (qM h)
theorem O5 (hu:X.A.units+1<cLine)(hk:QE X a tk)(hd:QE X b te)(hm:behindInMarks .NotIn b=false:=by rfl):QT X (.Compare a [.NotIn] [b] pos) (aU (kG true tk te)):=m6 (zC (au3 hu hk hd) hm) λ_ _ _ h=>aD2 (qM h)
theorem iR (h:QE X e te)(he:∀whole,isTrue e X.env whole=(do let v <- whole;standAt e.pos;holding [v] (truthy v)):=by intro _;rfl):QT X e (aU te):=m6 (ak4 h he) λ_ _ _ h=>qM h
theorem aE4 (h:QE X e te)(he:∀whole,isTrue e X.env whole=(do let v <- whole;standAt e.pos;holding [v] (truthy v)):=by intro _;rfl):QT X e (wE te):=m6 (ao2 h he) λ_ _ _ h=>aC2 h
theorem O6 (ha:QT X a tA):QW X (.BoolOp .And [a] pos) tA:=ak5 ha
theorem rE (ha:QT X a tA):QW X (.BoolOp .Or [a] pos) tA:=ak6 ha
theorem O7 (ha:QT X a tA)(hb:QW X (.BoolOp .And (b::bX) pos) tB'):QW X (.BoolOp .And (a::b::bX) pos) (jF tA tB'):=N9 (ak7 ha hb) λ_ _ _=>az1
theorem m7 (ha:QT X a tA)(hb:QW X (.BoolOp .Or (b::bX) pos) tB'):QW X (.BoolOp .Or (a::b::bX) pos) (jG tA tB'):=N9 (ak8 ha hb) λ_ _ _=>az2
theorem m8 (h:QW X e tA):QT X e tA:=PW.pt h
theorem jJ (ha:QT X a tA):QT X (.UnaryOp .Not a pos) (i4 tA):=m6 (ak9 ha) λ_ _ _=>az3
theorem oB {op}(h:QE X a ta):QE X (.BoolOp op [a] pos) ta:=al0 h
theorem rF (ha:QE X a ta)(hb:QE X (.BoolOp .And (b::bX) pos) tb):QE X (.BoolOp .And (a::b::bX) pos) (lT ta tb):=bU (al1 ha hb) λ_ _ _=>az4
theorem aE5 (ha:QE X a ta)(hb:QE X (.BoolOp .Or (b::bX) pos) tb):QE X (.BoolOp .Or (a::b::bX) pos) (vY ta tb):=bU (al2 ha hb) λ_ _ _=>az5
theorem aE6 (ha:QE X a ta):QE X (.UnaryOp .Not a pos) (vZ ta):=bU (al3 ha) λ_ _ _=>az6
theorem aI:QA X [] aE:=O0 cS λ_ _ _=>az7
theorem a9 (ha:QE X e te)(hr:QA X es tr)(hs:starEach (e::es) X.env=(false,eval e X.env)::starEach es X.env:=by rfl):QA X (e::es) (a7 te tr):=O0 (c9 ha hr hs) λ_ _ _=>az8
theorem kK {x1}(h:QA X es tr):QE X (.Tuple es x1 pos) (i5 tr):=bU (ao8 h) λ_ _ _=>az9
theorem gS (h:QA X es tr):QE X (.List es pos) (fA tr):=bU (uL h) λ_ _ _=>aA0
theorem cG (ha:QE X a ta)(hb:QE X b tb)(hs:B8 b:=by exact λ_ _=>rfl):QE X (.Subscript a b pos) (q2 wB ta tb):=bU (iH ar1 ha hb hs) λ_ _ _=>qJ aB3
theorem rG (hu:X.A.units+1<cLine)(ha:QE X a ta)(hb:QE X b tb)(hs:v3 b:=by exact λ_ _=>rfl):QE X (.Subscript a b pos) (lZ ta tb):=bU (au1 hu ha hb hs) λ_ _ _=>aD3
theorem aE7:QE X (.Dict [] [] pos) (qC (.dK [])):=bU au5 λ_ _ _=>aD5
theorem aE8:QE X (.Dict [] [] pos) (qC (.dT [])):=bU au6 λ_ _ _=>aD6
theorem iS {x:Str}{id:String}{R:List PV->(PV->Prop)->Prop}{r:List V->Hp->VK->Prop}(hc:cH X (.builtin id) r)(cv:fB X R r)(hg:Gl X x)(hm:X.mg x=none)(hv:bootBuiltins x=some (.builtin id))(ha:QA X (e::es) tr)(hn:x≠"__name__":=by decide)(hdb:(x==("__debug__":Str))=false:=by decide)(he:starEach (e::es) X.env=(false,eval e X.env)::starEach es X.env:=by rfl)(hpl:(backTo pos (starEach es X.env)).any (·.1)=false:=by rfl):QE X (.Call (.Name x p2) (e::es) [] pos) (aH R tr):=bU (pO hc hg hm hv ha hn hdb he hpl) λ_ _ _=>L7 cv
theorem O8 {x:Str}{T:String}{R:List PV->(PV->Prop)->Prop}{r:List V->Hp->VK->Prop}(hc:cH X (.type T) r)(cv:fB X R r)(hg:Gl X x)(hm:X.mg x=none)(hv:bootBuiltins x=some (.type T))(ha:QA X (e::es) tr)(hn:x≠"__name__":=by decide)(hdb:(x==("__debug__":Str))=false:=by decide)(he:starEach (e::es) X.env=(false,eval e X.env)::starEach es X.env:=by rfl)(hpl:(backTo pos (starEach es X.env)).any (·.1)=false:=by rfl):QE X (.Call (.Name x p2) (e::es) [] pos) (aH R tr):=bU (uN hc hg hm hv ha hn hdb he hpl) λ_ _ _=>L7 cv
theorem eJ:dW X [] dG:=wP zK λ_ _ _=>aA1
theorem aR (h1:QS X st t)(h2:dW X sts u):dW X (st::sts) (aO t u):=wP (j5 h1 h2) λ_ _ _=>aA2
theorem aT (h1:QS X st t):dW X [st] t:=iE h1
theorem bY {i:Nat}{x:Str}(hN:X.N.Nodup)(he:QE X e te)(hi:X.N[i]? = some x:=by rfl)(hx:j4 X.env.scope x:=by first|exact Or.inl rfl|exact Or.inr rfl)(hs:swapsWith e (some (.Name x p2)) pos.line X.env=pure false:=by rfl)(hf:X.fn x=true∨X.env.scope.names.lookup x=some .local:=by first|exact .inl rfl|exact .inr rfl) :
  QS X (.Assign [.Name x p2] e pos) (bH i te):=eB (zN hN hi hx he hs hf) λ_ _ _=>w9
theorem gT {i:Nat}{x:Str}(hN:X.N.Nodup)(he:QE X e te)(hi:X.N[i]? = some x:=by rfl)(hx:j4 X.env.scope x:=by first|exact Or.inl rfl|exact Or.inr rfl)(hs:swapsWith e (some (.Name x p2)) pos.line X.env=pure false:=by rfl)(hf:X.fn x=true∨X.env.scope.names.lookup x=some .local:=by first|exact .inl rfl|exact .inr rfl) :
  QS X (.Assign [.Name x p2] e pos) (fM i te):=eB (zN hN hi hx he hs hf) λ_ _ _=>aA5
theorem O9 (i:Nat)(h:QS X st t):QS X st (qP i t):=eB h λ_ _ _=>aA6
theorem bM (he:QE X e te):QS X (.Return (some e) pos) (bI te):=eB (l7 he) λ_ _ _=>aA7
theorem rH (i:Nat){x:Str}(hN:X.N[i]? = some x:=by rfl)(hv:fQ X.env.scope x:=by first|exact Or.inl rfl|exact Or.inr (Or.inl rfl)|exact Or.inr (Or.inr rfl))(hd:(x==("__debug__":Str))=false:=by decide)(hcd:(x==("__classdict__":Str))=false:=by decide) :
  QS X (.Return (some (.Name x p2)) pos) (lW i):=eB (l7 (iC hN hv hd hcd)) λ_ _ _=>aA8
theorem eL {sa sb:List Stmt}(hc:QT X c tc)(ha:dW X sa t)(hb:dW X sb u):QS X (.If c sa sb pos) (cN tc t u):=eB (zL hc ha hb) λ_ _ _=>aA9
theorem rJ (i:Nat){x:Str}{apos cpos xpos:Pos}(he:QE X e te)(hN:X.N[i]? = some x:=by rfl)(hv:fQ X.env.scope x:=by first|exact Or.inl rfl|exact Or.inr (Or.inl rfl)|exact Or.inr (Or.inr rfl))(hd:(x==("__debug__":Str))=false:=by decide)(hcd:(x==("__classdict__":Str))=false:=by decide)(hbase:attributeBase (.Name x xpos) "append" X.env (eval (.Name x xpos) X.env)=eval (.Name x xpos) X.env:=by rfl)(hfew:((backTo cpos (starEach [e] X.env)).all (λx=>!x.1)&&(backToKw cpos (keywordEach [] X.env)).all (λx=>x.1.isSome)&&decide (([e]:List Expr).length+([]:List Keyword).length+(if ([]:List Keyword).isEmpty then 0 else 1)<30))=true:=by rfl)(hline:(apos.endLine==cpos.line)=true:=by rfl)(hs:starEach [e] X.env=(false,eval e X.env)::starEach [] X.env:=by rfl)(hplain:(backTo cpos (starEach [] X.env)).any (·.1)=false:=by rfl)(hsw:swapsWith (.Call (.Attribute (.Name x xpos) "append" apos) [e] [] cpos) none pos.line X.env=pure false:=by rfl) :
  QS X (.Expr (.Call (.Attribute (.Name x xpos) "append" apos) [e] [] cpos) pos) (kB i te):=
 eB (j6 (lE br8 bu6 bu7 lH (iC hN hv hd hcd) (c9 he cS hs) hbase hfew hline hs hplain) hsw) λ_ _ _=>aB0
theorem aE9 {i:Nat}{x:Str}{xpos tpos:Pos}(hu:X.A.units+1<cLine)(hk:QE X a tk)(he:QE X e te)(hN:X.N[i]? = some x:=by rfl)(hv:fQ X.env.scope x:=by first|exact Or.inl rfl|exact Or.inr (Or.inl rfl)|exact Or.inr (Or.inr rfl))(hd:(x==("__debug__":Str))=false:=by decide)(hcd:(x==("__classdict__":Str))=false:=by decide)(hs:swapsWith e (some (.Subscript (.Name x xpos) a tpos)) pos.line X.env=pure false:=by rfl):QS X (.Assign [.Subscript (.Name x xpos) a tpos] e pos) (wL i tk te):=eB (F3 hu (iC hN hv hd hcd) hk he hs) λ_ _ _=>aD4
theorem aF0 {tg l:Expr}{tl:TE}(hl:PE X l tl):PI X tg l (M4 X.K tl):=by
 intro pins s σ H R I h
 refine aK (hl pins s σ H _ I h) λv s1 ⟨x,H1,I1,r1,q1⟩=>?_
 obtain⟨a,e,q⟩:=q1
 subst e
 cases r1
 rcases q with⟨xs,hq,q⟩|⟨xs,hq,q⟩
 ·obtain⟨its,rv,p,hz⟩:=I1.list hq
  refine wpAny_pyIter_list p.isList ?_
  refine⟨s1.heap.objs.size,[s1.heap.objs.size],_,_,H1,rfl,I1.kept (t':=s1.toks) λb o e=>bh4 _ e,al7 a _,⟨_,bj2 _ rfl,rfl,rfl⟩,λb hb=>?_,q⟩
  have e:b=s1.heap.objs.size:=by simpa using hb
  subst e
  exact I1.fpOk (bh8 _) (I1.hok.fresh (bh8 _))
 ·obtain⟨its,rv,p,hz⟩:=I1.tuple hq
  refine bu3 (show s1.heap.IsTuple a its.toArray from p) ?_
  refine⟨s1.heap.objs.size,[s1.heap.objs.size],_,_,H1,rfl,I1.kept (t':=s1.toks) λb o e=>bh4 _ e,zP a _,⟨_,bj2 _ rfl,rfl,rfl⟩,λb hb=>?_,q⟩
  have e:b=s1.heap.objs.size:=by simpa using hb
  subst e
  exact I1.fpOk (bh8 _) (I1.hok.fresh (bh8 _))
theorem dN {tg l:Expr}(hl:QE X l te):QI X tg l (dA te):=rB (aF0 hl) λ_ _ _=>aC3
theorem kL {tg:Expr}(hg:Gl X "range")(hm:X.mg "range" = none)(ha:QE X a ta)(hs:starEach [a] X.env = [(false,eval a X.env)]:=by rfl):QI X tg (.Call (.Name "range" p2) [a] [] pos) (iM ta):=rB (am0 hg hm (c9 ha cS hs) hs) λ_ _ _=>aC4
theorem P3 {tg:Expr}(hg:Gl X "range")(hm:X.mg "range" = none)(ha:QE X a ta)(hb:QE X b tb)(hs:starEach [a,b] X.env = [(false,eval a X.env),(false,eval b X.env)]:=by rfl)(hs2:starEach [b] X.env = [(false,eval b X.env)]:=by rfl) :
  QI X tg (.Call (.Name "range" p2) [a,b] [] pos) (qT ta tb):=rB (am1 hg hm (c9 ha (c9 hb cS hs2) (by rw[hs,hs2])) hs hs2) λ_ _ _=>aC5
theorem aF1 {tg:Expr}{body:List Stmt}{ti:fC}{p:gQ}{g:TG}{own:Nat->Prop}(hp:PassesOwn (model X.prog X.w) X.A X.env X.xe)(hc:X.calm=true)(hi:QI X tg e ti)(hg:PG X tg g)(ht:kE X.K own p g)(hb:dW X body t)(hs:∀x,foldedSetIterable e X.env x=pure x:=by intro _;rfl):QS X (.For tg e body [] pos) (dJ ti p t):=eB (pG hp hc hi hg hb hs) λ_ _ _=>aC7 ht
end
section
variable {X:Cx}{pins:List (Addr×Obj)}{σ:St}{H:Hp}{s:Shared}{K:ac}{M M':Addr→Prop}
theorem lR.inj {a:Addr}{us ws:List V}(h:lR K a us)(h':lR K a ws):us=ws:=by
 obtain⟨o,its,n,e1,_,e2,_,v⟩:=h
 obtain⟨o',its',n',e1',_,e2',_,v'⟩:=h'
 rw[e1]at e1';cases e1'
 rw[e2]at e2';cases e2'
 exact v.inj v'
theorem Reps.self_of {n:Nat}(ih:∀{v:V}{x y:PV},aD K M H v x->aD K M' H v y->dB n x y=true->c8 n x y=true):∀{vs:List V}{xs ys:List PV},Reps K M H vs xs->Reps K M' H vs ys->((xs.zip ys).all λp=>dB n p.1 p.2)=true->(((xs.zip ys).all λp=>c8 n p.1 p.2)&&xs.length==ys.length)=true
 |_,_,_,.nil,.nil,_=>rfl
 |_,_,_,.cons r t,.cons r' t',o=>by
  simp only[bt1,bt5,bk4]at o
  have h1:=ih r r' o.1
  have h2:=Reps.self_of ih t t' o.2
  simp only[bt1,bt5,h1,Bool.true_and,bk9]at h2 ⊢
  rw[<- h2]
  congr 1
  simp
theorem aD.self:∀(n:Nat) {v:V}{x y:PV},aD K M H v x->aD K M' H v y->dB n x y=true->c8 n x y=true:=by
 intro n
 induction n with
 |zero=>
  intro v x y r r' o
  cases r with
  |non=>cases r';rfl
  |bl b=>cases r';exact bq4 b
  |int i=>cases r';exact bq4 i
  |str z=>cases r';exact bq4 z
  |_=>cases o
 |succ n ih=>
  intro v x y r r' o
  cases r with
  |non=>cases r';rfl
  |bl b=>cases r';exact bq4 b
  |int i=>cases r';exact bq4 i
  |str z=>cases r';exact bq4 z
  |tup h rr=>
   cases r' with
   |tup h' rr'=>rw[h]at h';cases h';exact Reps.self_of ih rr rr' o
   |_=>cases o
  |lst _ h rr=>
   cases r' with
   |lst _ h' rr'=>rw[h]at h';cases h';exact Reps.self_of ih rr rr' o
   |_=>cases o
  |kt h rr=>
   cases r' with
   |kt h' rr'=>cases lR.inj h h';exact Reps.self_of ih rr rr' o
   |_=>cases o
  |_=>cases o
theorem Reps.self (n:Nat){vs:List V}{xs ys:List PV}(r:Reps K M H vs xs)(r':Reps K M' H vs ys)(o:((xs.zip ys).all λp=>dB n p.1 p.2)=true):(((xs.zip ys).all λp=>c8 n p.1 p.2)&&xs.length==ys.length)=true:=Reps.self_of (aD.self n) r r' o
theorem m9 (n:Nat)(xs ys:List PV):(List.range (min xs.length ys.length)).all (λj=>c8 n (xs.getD j .non) (ys.getD j .non))=(xs.zip ys).all λp=>c8 n p.1 p.2:=by
 rw[bu1]
 simp only[bm8,bq0]
 constructor
 ·intro h p hp
  obtain⟨j,hj,e⟩:=bs7 hp
  have hj':j<min xs.length ys.length:=by simpa using hj
  have:=h j hj'
  rw[List.getElem_zip]at e
  subst e
  have h1:j<xs.length:=by omega
  have h2:j<ys.length:=by omega
  simpa[bh9,h1,h2] using this
 ·intro h j hj
  have h1:j<xs.length:=by omega
  have h2:j<ys.length:=by omega
  have hz:j<(xs.zip ys).length:=by simp;omega
  have:=h _ (bq5 hz)
  rw[List.getElem_zip]at this
  simpa[bh9,h1,h2] using this
theorem aF2 (I:a6 X pins σ H s):∀(n:Nat) {A:Around}{v w:V}{x y:PV}{a b:Value},A.units+n<cLine->aD X.K M H v x->aD X.K M' H w y->aM v a->aM w b->dB n x y=true->SeqAt.EqAt A s a b (c8 n x y):=by
 intro n
 induction n with
 |zero=>
  intro A v w x y a b hu rx ry ra rb o
  cases rx with
  |non=>
   cases ra
   cases ry with
   |non=>cases rb;exact SeqAt.EqAt.same _
   |int i=>obtain⟨t',rfl⟩:=rb;exact SeqAt.EqAt.none_int _ _
   |_=>cases o
  |bl i=>
   cases ra
   cases ry with
   |bl j=>cases rb;exact SeqAt.EqAt.bool_bool _ _
   |_=>cases o
  |int i=>
   obtain⟨t,rfl⟩:=ra
   cases ry with
   |int j=>obtain⟨t',rfl⟩:=rb;exact SeqAt.EqAt.int_int _ _ _ _
   |non=>cases rb;exact SeqAt.EqAt.int_none _ _
   |_=>cases o
  |str i=>
   obtain⟨t,rfl⟩:=ra
   cases ry with
   |str j=>obtain⟨t',rfl⟩:=rb;exact SeqAt.EqAt.str_str _ _ _ _
   |_=>cases o
  |_=>cases o
 |succ n ih=>
  intro A v w x y a b hu rx ry ra rb o
  have items:∀{us ws:List V}{xs ys:List PV}{its its2:List Value},Reps X.K M H us xs->Reps X.K M' H ws ys->aF us its->aF ws its2->((xs.zip ys).all λp=>dB n p.1 p.2)=true->
    ∀j (h1:j<its.toArray.size) (h2:j<its2.toArray.size),SeqAt.EqAt A.in1 s its.toArray[j] its2.toArray[j] (c8 n (xs.getD j .non) (ys.getD j .non)):=λ{us ws xs ys its its2} r1 r2 v1 v2 ok j h1 h2=>by
   have l1:=v1.length
   have l2:=v2.length
   have m1:=r1.length
   have m2:=r2.length
   have k1:j<its.length:=by simpa using h1
   have k2:j<its2.length:=by simpa using h2
   have j1:j<us.length:=by omega
   have j2:j<ws.length:=by omega
   have i1:j<xs.length:=by omega
   have i2:j<ys.length:=by omega
   obtain⟨u,hu',ru⟩:=v1.get (bh5 j1)
   obtain⟨u2,hu2',ru2⟩:=v2.get (bh5 j2)
   obtain⟨x,hx,rx⟩:=r1.get (bh5 j1)
   obtain⟨y,hy,ry⟩:=r2.get (bh5 j2)
   have e1:its.toArray[j]=u:=by
    rw[bh5 k1]at hu'
    simpa using hu'
   have e2:its2.toArray[j]=u2:=by
    rw[bh5 k2]at hu2'
    simpa using hu2'
   have ok':dB n x y=true:=by
    rw[bm8]at ok
    have hz:j<(xs.zip ys).length:=by simp;omega
    have:=ok _ (bq5 hz)
    rw[List.getElem_zip]at this
    rw[bh5 i1]at hx
    rw[bh5 i2]at hy
    cases hx;cases hy
    exact this
   rw[e1,e2]
   have g1:xs.getD j .non=x:=by rw[bh9,hx];rfl
   have g2:ys.getD j .non=y:=by rw[bh9,hy];rfl
   rw[g1,g2]
   exact ih (by show A.units+1+n<cLine;omega) rx ry ru ru2 ok'
  have huA:A.units<cLine:=by omega
  cases rx with
  |@kt p us xs h1 r1=>
   obtain⟨its,v1,p1,_⟩:=I.tuple (.inr h1)
   cases (show a=Value.ref p from ra)
   cases ry with
   |@kt p2 ws ys h2 r2=>
    obtain⟨its2,v2,p2',_⟩:=I.tuple (.inr h2)
    cases (show b=Value.ref p2 from rb)
    by_cases e:p=p2
    ·subst e
     have:=aD.self (K:=X.K) (M:=M) (M':=M') (n+1) (.kt h1 r1) (.kt h2 r2) o
     rw[this]
     exact SeqAt.EqAt.same _
    ·have:=SeqAt.RcAt.tuples p1 p2' huA (items r1 r2 v1 v2 o)
     refine .of_refs e ?_
     have l1:=v1.length
     have l2:=v2.length
     have m1:=r1.length
     have m2:=r2.length
     rw[bh6,bh6,<- l1,<- l2,m1,m2,m9]at this
     exact this
   |_=>cases o
  |@tup p us xs h1 r1=>
   obtain⟨its,v1,p1,_⟩:=I.tuple (aG.of (K:=X.K) h1)
   cases (show a=Value.ref p from ra)
   cases ry with
   |@tup p2 ws ys h2 r2=>
    obtain⟨its2,v2,p2',_⟩:=I.tuple (aG.of (K:=X.K) h2)
    cases (show b=Value.ref p2 from rb)
    by_cases e:p=p2
    ·subst e
     have:=aD.self (K:=X.K) (M:=M) (M':=M') (n+1) (.tup h1 r1) (.tup h2 r2) o
     rw[this]
     exact SeqAt.EqAt.same _
    ·have:=SeqAt.RcAt.tuples p1 p2' huA (items r1 r2 v1 v2 o)
     refine .of_refs e ?_
     have l1:=v1.length
     have l2:=v2.length
     have m1:=r1.length
     have m2:=r2.length
     rw[bh6,bh6,<- l1,<- l2,m1,m2,m9]at this
     exact this
   |non=>cases rb;exact SeqAt.EqAt.tuple_none p1 huA
   |_=>cases o
  |@lst p us xs _ h1 r1=>
   obtain⟨its,v1,p1,_⟩:=I.list (aJ.of (K:=X.K) h1)
   cases (show a=Value.ref p from ra)
   cases ry with
   |@lst p2 ws ys _ h2 r2=>
    obtain⟨its2,v2,p2',_⟩:=I.list (aJ.of (K:=X.K) h2)
    cases (show b=Value.ref p2 from rb)
    have l1:=v1.length
    have l2:=v2.length
    have m1:=r1.length
    have m2:=r2.length
    by_cases e:p=p2
    ·subst e
     rw[h1]at h2;cases h2
     have:=Reps.self n r1 r2 o
     show SeqAt.EqAt A s _ _ ((xs.zip ys).all (λp=>c8 n p.1 p.2)&&xs.length==ys.length)
     rw[this]
     exact SeqAt.EqAt.same _
    ·refine .of_refs e ?_
     by_cases hl:xs.length=ys.length
     ·have:=SeqAt.RcAt.lists p1.isList p2'.isList (by rw[bh6,bh6];omega) huA (items r1 r2 v1 v2 o)
      have hm:min xs.length ys.length=its.length:=by omega
      rw[bh6,<- hm,m9]at this
      show SeqAt.RcAt A s _ _ ((xs.zip ys).all (λp=>c8 n p.1 p.2)&&xs.length==ys.length)
      rw[show (xs.length==ys.length)=true by simpa using hl,bt6]
      exact this
     ·have:=SeqAt.RcAt.lists_lengths (A:=A) p1.isList p2'.isList (by rw[bh6,bh6];simp;omega) huA
      show SeqAt.RcAt A s _ _ ((xs.zip ys).all (λp=>c8 n p.1 p.2)&&xs.length==ys.length)
      rw[show (xs.length==ys.length)=false by simpa using hl,Bool.and_false]
      exact this
   |_=>cases o
  |non=>
   cases ra
   cases ry with
   |non=>cases rb;exact SeqAt.EqAt.same _
   |int i=>obtain⟨t',rfl⟩:=rb;exact SeqAt.EqAt.none_int _ _
   |@tup p2 ws ys h2 r2=>
    obtain⟨its2,v2,p2',_⟩:=I.tuple (aG.of (K:=X.K) h2)
    cases (show b=Value.ref p2 from rb)
    exact SeqAt.EqAt.none_tuple p2' huA
   |_=>cases o
  |bl i=>
   cases ra
   cases ry with
   |bl j=>cases rb;exact SeqAt.EqAt.bool_bool _ _
   |_=>cases o
  |int i=>
   obtain⟨t,rfl⟩:=ra
   cases ry with
   |int j=>obtain⟨t',rfl⟩:=rb;exact SeqAt.EqAt.int_int _ _ _ _
   |non=>cases rb;exact SeqAt.EqAt.int_none _ _
   |_=>cases o
  |str i=>
   obtain⟨t,rfl⟩:=ra
   cases ry with
   |str j=>obtain⟨t',rfl⟩:=rb;exact SeqAt.EqAt.str_str _ _ _ _
   |_=>cases o
  |_=>cases o
end
structure Bt (mg:Str->Option Value):Prop where
 len:mg "len" = none
 range:mg "range" = none
 tuple:mg "tuple" = none
 list:mg "list" = none
 sorted:mg "sorted" = none
 all:mg "all" = none
 any:mg "any" = none
 zip:mg "zip" = none
 min:mg "min" = none
 max:mg "max" = none
 sum:mg "sum" = none
 isinst:mg "isinstance" = none
 int:mg "int" = none
 bool:mg "bool" = none
 enum:mg "enumerate" = none
section
variable {X:Cx}{a b c e o:Expr}{es bX:List Expr}{ta tb te to tk:aB}{tr:cM}{tA tB' tc:cB}{pos p2 px:Pos}{st:Stmt}{sts:List Stmt}{t u:aL}
theorem dX (B:Bt X.mg)(ha:QA X [e] tr)(hg:Gl X "len":=by rfl)(he:starEach [e] X.env=(false,eval e X.env)::starEach [] X.env:=by rfl)(hpl:(backTo pos (starEach [] X.env)).any (·.1)=false:=by rfl):QE X (.Call (.Name "len" p2) [e] [] pos) (aH cF tr):=
 iS (as0.or av4) aB4 hg B.len PySem.boot_len ha (he:=he) (hpl:=hpl)
theorem oC (B:Bt X.mg)(ha:QA X [e] tr)(hg:Gl X "tuple":=by rfl)(he:starEach [e] X.env=(false,eval e X.env)::starEach [] X.env:=by rfl)(hpl:(backTo pos (starEach [] X.env)).any (·.1)=false:=by rfl):QE X (.Call (.Name "tuple" p2) [e] [] pos) (aH m5 tr):=
 O8 as2 aB5 hg B.tuple PyProof.Rows.boot_tuple ha (he:=he) (hpl:=hpl)
theorem P4 (B:Bt X.mg)(ha:QA X [e] tr)(hg:Gl X "list":=by rfl)(he:starEach [e] X.env=(false,eval e X.env)::starEach [] X.env:=by rfl)(hpl:(backTo pos (starEach [] X.env)).any (·.1)=false:=by rfl):QE X (.Call (.Name "list" p2) [e] [] pos) (aH qQ tr):=
 O8 as1 aB6 hg B.list PyProof.Rows.boot_list ha (he:=he) (hpl:=hpl)
theorem aF3 (B:Bt X.mg)(hc:X.calm=true)(ha:QA X [e] tr)(hg:Gl X "all":=by rfl)(he:starEach [e] X.env=(false,eval e X.env)::starEach [] X.env:=by rfl)(hpl:(backTo pos (starEach [] X.env)).any (·.1)=false:=by rfl):QE X (.Call (.Name "all" p2) [e] [] pos) (aH wD tr):=
 iS (vT hc) aB7 hg B.all PyProof.Rows.boot_all ha (he:=he) (hpl:=hpl)
theorem P5 (B:Bt X.mg)(hc:X.calm=true)(ha:QA X [a,b] tr)(hg:Gl X "min":=by rfl)(he:starEach [a,b] X.env=(false,eval a X.env)::starEach [b] X.env:=by rfl)(hpl:(backTo pos (starEach [b] X.env)).any (·.1)=false:=by rfl):QE X (.Call (.Name "min" p2) [a,b] [] pos) (aH qR tr):=
 iS (ao4 hc) aB8 hg B.min PyProof.Rows.boot_min ha (he:=he) (hpl:=hpl)
theorem P6 (B:Bt X.mg)(hc:X.calm=true)(ha:QA X [a,b] tr)(hg:Gl X "max":=by rfl)(he:starEach [a,b] X.env=(false,eval a X.env)::starEach [b] X.env:=by rfl)(hpl:(backTo pos (starEach [b] X.env)).any (·.1)=false:=by rfl):QE X (.Call (.Name "max" p2) [a,b] [] pos) (aH qS tr):=
 iS (ao3 hc) aB9 hg B.max PyProof.Rows.boot_max ha (he:=he) (hpl:=hpl)
theorem P7 (ha:QE X a ta):QE X (.UnaryOp .USub a pos) (o6 ta):=bU (am5 an4 ha) λσ H Q' h=>by
 obtain⟨W,ρ,Q,px,q,k⟩:=h
 refine⟨W,ρ,_,px,q,?_⟩
 rintro v H1 x g s r ⟨i,rfl,q⟩
 cases r
 exact⟨i,rfl,k _ _ _ .fr s (.int _) q⟩
theorem P8 (x:Int):∀(xs:ae),nQ (.int x) (xs.map V.int)=decide (x∈xs)
 |[]=>by simp[nQ]
 |y::r=>by
  have ih:=P8 x r
  unfold nQ at ih ⊢
  rw[bm6,bw0,ih]
  by_cases e:y=x
  ·subst e;simp[gK]
  ·have:gK (.int y) (.int x)=false:=by simpa[gK] using e
   rw[this,Bool.false_or,bu1]
   simp[Ne.symm e]
theorem P9:∀(xs:ae),(xs.map V.int).all iI=true
 |[]=>rfl
 |_::r=>by rw[bm6,bt5,P9 r];rfl
theorem Q0 (neg:Bool):e9 X (o7 neg) (uT X.K neg):=by
 rintro W Hs H u v x y g g' Q Q' s n r1 r2 ⟨i,ns,rfl,e,q⟩ k
 cases r1
 obtain⟨a,us,rfl,hs,r⟩:=r2.seq e
 obtain rfl:=r.ofInts
 refine⟨a,_,rfl,hs,rfl,P9 ns,?_⟩
 have:=k _ _ _ .fr (aA.refl _) (.bl _) q
 rw[P8]
 cases neg<;>exact this
theorem aF4 (ha:QE X a ta)(hb:QE X b tb)(hm:behindInMarks .In b=false:=by rfl):QT X (.Compare a [.In] [b] pos) (aU (q2 (o7 false) ta tb)):=jI ar8 (Q0 false) ha hb hm
theorem aF5 (ha:QE X a ta)(hb:QE X b tb)(hm:behindInMarks .NotIn b=false:=by rfl):QT X (.Compare a [.NotIn] [b] pos) (aU (q2 (o7 true) ta tb)):=jI ar9 (Q0 true) ha hb hm
theorem aD.kt_ {K:ac}{M:Addr->Prop}{H:Hp}{v:V}{xs:List PV}(r:aD K M H v (.kt xs)):∃a us,v = .ref a/\lR K a us/\Reps K M H us xs:=by
 cases r with
 |kt h r=>exact⟨_,_,rfl,h,r⟩
def Q2 (K:ac)(H:Hp)(x:V)(t:Value):Prop:=eV K H x t∨∃a us,x = .ref a/\aG K H a us/\t = .type "tuple"
theorem aF6:cH X (.builtin "isinstance") (λxs H Q=>∃x t n b,xs = [x,.ty n]/\Q2 X.K H x t/\PySem.W.kitOne X.K t (.type n)=some b/\Q (.bl b) H):=by
 intro pins s σ H xs us Q I r h
 obtain⟨x,t,n,b,rfl,ty,e,q⟩:=h
 rcases ty with ty|⟨a,ws,rfl,hs,rfl⟩
 ·exact ax0 pins s σ H _ us Q I r ⟨x,t,n,b,rfl,ty,e,q⟩
 obtain⟨u,u',rfl,ru,ru'⟩:=pL r
 cases ru'
 cases (show u=Value.ref a from ru)
 obtain⟨its,_,⟨o,h1,h2,_⟩,_⟩:=I.tuple hs
 exact br2 PySem.W.kitx_tuple I.kIn ⟨o,h1,h2⟩ e (λz=>nomatch z) λtk=>⟨.bl b,H,I.tok tk,rfl,q⟩
theorem aF7 {K:ac}{M:Addr->Prop}{H:Hp}{v:V}{x:PV}{T:String}(r:aD K M H v x)(e:N7 x=some T):Q2 K H v (.type T):=by
 cases r with
 |non=>cases e;exact .inl .non
 |bl b=>cases e;exact .inl (.bl b)
 |int i=>cases e;exact .inl (.int i)
 |str i=>cases e;exact .inl (.str i)
 |tup h _=>cases e;exact .inl (.tup h)
 |lst _ h _=>cases e;exact .inl (.lst h)
 |kt h _=>cases e;exact .inr ⟨_,_,rfl,.inr h,rfl⟩
 |_=>cases e
theorem rK {x:Str}{n:String}(B:Bt X.mg)(hn:bootBuiltins x=some (.type n))(hm:X.mg x=none)(ha:QE X a ta)(hg:Gl X "isinstance":=by rfl)(hgx:Gl X x:=by rfl)(hx:x≠"__name__":=by decide)(hdx:(x==("__debug__":Str))=false:=by decide)(he:starEach [a,.Name x px] X.env=(false,eval a X.env)::starEach [.Name x px] X.env:=by rfl)(he2:starEach [.Name x px] X.env=(false,eval (.Name x px) X.env)::starEach [] X.env:=by rfl)(hpl:(backTo pos (starEach [.Name x px] X.env)).any (·.1)=false:=by rfl):QE X (.Call (.Name "isinstance" p2) [a,.Name x px] [] pos) (iO X.K n ta):=
 bU (pO aF6 hg B.isinst PyProof.Rows.boot_isinstance (c9 ha (c9 (ak3 (v:=.ty n) hgx hm hn rfl hx hdx) cS he2) he) (he:=he) (hpl:=hpl)) λσ H Q' h=>by
  obtain⟨W,ρ,Q,px,q,k⟩:=h
  refine⟨W,ρ,_,px,q,?_⟩
  rintro v H1 x g s r ⟨T,b,e,kt,q⟩
  exact⟨v,_,n,b,rfl,aF7 r e,kt,k _ _ _ .fr s (.bl _) q⟩
theorem aF8 (B:Bt X.mg)(ha:QE X a ta)(hg:Gl X "isinstance":=by rfl)(hgx:Gl X "int":=by rfl)(he:starEach [a,.Name "int" px] X.env=(false,eval a X.env)::starEach [.Name "int" px] X.env:=by rfl)(he2:starEach [.Name "int" px] X.env=(false,eval (.Name "int" px) X.env)::starEach [] X.env:=by rfl)(hpl:(backTo pos (starEach [.Name "int" px] X.env)).any (·.1)=false:=by rfl):QE X (.Call (.Name "isinstance" p2) [a,.Name "int" px] [] pos) (iO X.K "int" ta):=rK B PyProof.Rows.boot_int B.int ha (hg:=hg) (hgx:=hgx) (he:=he) (he2:=he2) (hpl:=hpl)
theorem aF9 (B:Bt X.mg)(ha:QE X a ta)(hg:Gl X "isinstance":=by rfl)(hgx:Gl X "bool":=by rfl)(he:starEach [a,.Name "bool" px] X.env=(false,eval a X.env)::starEach [.Name "bool" px] X.env:=by rfl)(he2:starEach [.Name "bool" px] X.env=(false,eval (.Name "bool" px) X.env)::starEach [] X.env:=by rfl)(hpl:(backTo pos (starEach [.Name "bool" px] X.env)).any (·.1)=false:=by rfl):QE X (.Call (.Name "isinstance" p2) [a,.Name "bool" px] [] pos) (iO X.K "bool" ta):=rK B PyProof.Rows.boot_bool B.bool ha (hg:=hg) (hgx:=hgx) (he:=he) (he2:=he2) (hpl:=hpl)
theorem aG0 (B:Bt X.mg)(ha:QE X a ta)(hg:Gl X "isinstance":=by rfl)(hgx:Gl X "tuple":=by rfl)(he:starEach [a,.Name "tuple" px] X.env=(false,eval a X.env)::starEach [.Name "tuple" px] X.env:=by rfl)(he2:starEach [.Name "tuple" px] X.env=(false,eval (.Name "tuple" px) X.env)::starEach [] X.env:=by rfl)(hpl:(backTo pos (starEach [.Name "tuple" px] X.env)).any (·.1)=false:=by rfl):QE X (.Call (.Name "isinstance" p2) [a,.Name "tuple" px] [] pos) (iO X.K "tuple" ta):=rK B PyProof.Rows.boot_tuple B.tuple ha (hg:=hg) (hgx:=hgx) (he:=he) (he2:=he2) (hpl:=hpl)
theorem aG1 (B:Bt X.mg)(ha:QE X a ta)(hg:Gl X "isinstance":=by rfl)(hgx:Gl X "list":=by rfl)(he:starEach [a,.Name "list" px] X.env=(false,eval a X.env)::starEach [.Name "list" px] X.env:=by rfl)(he2:starEach [.Name "list" px] X.env=(false,eval (.Name "list" px) X.env)::starEach [] X.env:=by rfl)(hpl:(backTo pos (starEach [.Name "list" px] X.env)).any (·.1)=false:=by rfl):QE X (.Call (.Name "isinstance" p2) [a,.Name "list" px] [] pos) (iO X.K "list" ta):=rK B PyProof.Rows.boot_list B.list ha (hg:=hg) (hgx:=hgx) (he:=he) (he2:=he2) (hpl:=hpl)
def Q3 (K:ac)(n:Nat)(neg:Bool):R2:=λv w H Q=>∃x y,aD K (λ_=>True) H v x/\aD K (λ_=>True) H w y/\((∃xs ys,x = .tup xs/\y = .tup ys)∨(∃xs ys,x = .lst xs/\y = .lst ys)∨(∃xs ys,x = .kt xs/\y = .kt ys))/\dB (n+1) x y=true/\Q (.bl (if neg=true then !c8 (n+1) x y else c8 (n+1) x y)) H
theorem wS {pins:List (Addr×Obj)}{σ:St}{H:Hp}{s:Shared}{M M':Addr->Prop}(I:a6 X pins σ H s){n:Nat}{A:Around}(hu:A.units+(n+1)<cLine){us ws:List V}{xs ys:List PV}{its its2:List Value}(r1:Reps X.K M H us xs)(r2:Reps X.K M' H ws ys)(v1:aF us its)(v2:aF ws its2)(ok:((xs.zip ys).all λp=>dB n p.1 p.2)=true):∀j (h1:j<its.toArray.size) (h2:j<its2.toArray.size),SeqAt.EqAt A.in1 s its.toArray[j] its2.toArray[j] (c8 n (xs.getD j .non) (ys.getD j .non)):=by
 intro j h1 h2
 have l1:=v1.length
 have l2:=v2.length
 have m1:=r1.length
 have m2:=r2.length
 have k1:j<its.length:=by simpa using h1
 have k2:j<its2.length:=by simpa using h2
 have j1:j<us.length:=by omega
 have j2:j<ws.length:=by omega
 have i1:j<xs.length:=by omega
 have i2:j<ys.length:=by omega
 obtain⟨u,hu',ru⟩:=v1.get (bh5 j1)
 obtain⟨u2,hu2',ru2⟩:=v2.get (bh5 j2)
 obtain⟨x,hx,rx⟩:=r1.get (bh5 j1)
 obtain⟨y,hy,ry⟩:=r2.get (bh5 j2)
 have e1:its.toArray[j]=u:=by
  rw[bh5 k1]at hu'
  simpa using hu'
 have e2:its2.toArray[j]=u2:=by
  rw[bh5 k2]at hu2'
  simpa using hu2'
 have ok':dB n x y=true:=by
  rw[bm8]at ok
  have hz:j<(xs.zip ys).length:=by simp;omega
  have:=ok _ (bq5 hz)
  rw[List.getElem_zip]at this
  rw[bh5 i1]at hx
  rw[bh5 i2]at hy
  cases hx;cases hy
  exact this
 rw[e1,e2]
 have g1:xs.getD j .non=x:=by rw[bh9,hx];rfl
 have g2:ys.getD j .non=y:=by rw[bh9,hy];rfl
 rw[g1,g2]
 exact aF2 I n (by show A.units+1+n<cLine;omega) rx ry ru ru2 ok'
theorem aG2 (n:Nat)(hu:X.A.units+(n+1)<cLine):bK X (compareOp .Eq) (Q3 X.K n false):=by
 intro pins s σ H v w a b Q I ra rb h
 obtain⟨x,y,rx,ry,kd,o,q⟩:=h
 have hu0:X.A.units<cLine:=by omega
 rcases kd with⟨xs,ys,rfl,rfl⟩|⟨xs,ys,rfl,rfl⟩|⟨xs,ys,rfl,rfl⟩
 ·obtain⟨p,us,rfl,h1,r1⟩:=rx.sqT
  obtain⟨p2,ws,rfl,h2,r2⟩:=ry.sqT
  cases ra;cases rb
  obtain⟨its,v1,p1,_⟩:=I.tuple (aG.of (K:=X.K) h1)
  obtain⟨its2,v2,p2',_⟩:=I.tuple (aG.of (K:=X.K) h2)
  have l1:=v1.length
  have l2:=v2.length
  have m1:=r1.length
  have m2:=r2.length
  have:=SeqAt.RcAt.tuples p1 p2' hu0 (wS I hu r1 r2 v1 v2 o)
  rw[bh6,bh6,<- l1,<- l2,m1,m2,m9]at this
  exact this _ _ _ _ ⟨.bl _,H,I,rfl,q⟩
 ·obtain⟨p,us,rfl,_,h1,r1⟩:=rx.sqL
  obtain⟨p2,ws,rfl,_,h2,r2⟩:=ry.sqL
  cases ra;cases rb
  obtain⟨its,v1,p1,_⟩:=I.list (aJ.of (K:=X.K) h1)
  obtain⟨its2,v2,p2',_⟩:=I.list (aJ.of (K:=X.K) h2)
  have l1:=v1.length
  have l2:=v2.length
  have m1:=r1.length
  have m2:=r2.length
  have q:Q (.bl ((xs.zip ys).all (λp=>c8 n p.1 p.2)&&xs.length==ys.length)) H:=q
  by_cases hl:xs.length=ys.length
  ·have:=SeqAt.RcAt.lists p1.isList p2'.isList (by rw[bh6,bh6];omega) hu0 (wS I hu r1 r2 v1 v2 o)
   have hm:min xs.length ys.length=its.length:=by omega
   rw[bh6,<- hm,m9]at this
   rw[show (xs.length==ys.length)=true by simpa using hl,bt6]at q
   exact this _ _ _ _ ⟨.bl _,H,I,rfl,q⟩
  ·have:=SeqAt.RcAt.lists_lengths (A:=X.A) p1.isList p2'.isList (by rw[bh6,bh6];simp;omega) hu0
   rw[show (xs.length==ys.length)=false by simpa using hl,Bool.and_false]at q
   exact this _ _ _ _ ⟨.bl _,H,I,rfl,q⟩
 ·obtain⟨p,us,rfl,h1,r1⟩:=rx.kt_
  obtain⟨p2,ws,rfl,h2,r2⟩:=ry.kt_
  cases ra;cases rb
  obtain⟨its,v1,p1,_⟩:=I.tuple (.inr h1)
  obtain⟨its2,v2,p2',_⟩:=I.tuple (.inr h2)
  have l1:=v1.length
  have l2:=v2.length
  have m1:=r1.length
  have m2:=r2.length
  have:=SeqAt.RcAt.tuples p1 p2' hu0 (wS I hu r1 r2 v1 v2 o)
  rw[bh6,bh6,<- l1,<- l2,m1,m2,m9]at this
  exact this _ _ _ _ ⟨.bl _,H,I,rfl,q⟩
theorem aG3 {n:Nat}{neg:Bool}:e9 X (qZ n neg) (Q3 X.K n neg):=by
 rintro W Hs H u v x y g g' Q Q' s n r1 r2 ⟨kd,o,q⟩ k
 exact⟨x,y,r1.same (aA.refl _) λ_ _=>trivial,r2.same (aA.refl _) λ_ _=>trivial,kd.elim .inl λz=>.inr (.inl z),o,k _ _ _ .fr (aA.refl _) (.bl _) q⟩
theorem Q4 (hu:X.A.units+3<cLine)(ha:QE X a ta)(hb:QE X b tb):QE X (.Compare a [.Eq] [b] pos) (q2 (qZ 2 false) ta tb):=rD (aG2 2 hu) aG3 ha hb (fU _)
end
end PP
namespace PP
open PySem L2 PyProof.Rows
def LO (X:Cx)(t:m3):TO:=λσ H Q'=>∃(W:Addr->Prop) (ρ:aZ) (Q:Option Int->Prop),PX X.K X.H₀ W σ ρ H/\t ρ Q/\∀o H',aA H H'->Q o->Q' o H'
def QO (X:Cx)(e:Option Expr)(t:m3):Prop:=PO X e (LO X t)
theorem Reps.cut {K:ac}{M:Addr->Prop}{H:Hp}{us:List V}{xs:List PV}(r:Reps K M H us xs)(lo hi:Option Int):Reps K M H (dF us lo hi) (gR xs lo hi):=by
 unfold dF gR
 rw[r.length]
 exact (r.drop _).take _
section
variable {X:Cx}{a b c e o:Expr}{es bX:List Expr}{ta tb te to tk:aB}{tr:cM}{tA tB' tc:cB}{pos p2 px:Pos}{st:Stmt}{sts:List Stmt}{t u:aL}
theorem aG4:QO X none N8:=λpins s σ H Q I h=>uO pins s σ H Q I (by
 obtain⟨W,ρ,Q1,px,q,k⟩:=h
 exact k _ _ (aA.refl _) q)
theorem wT (h:QE X e te):QO X (some e) (r6 te):=λpins s σ H Q I hq=>uP h pins s σ H Q I (by
 obtain⟨W,ρ,Q1,px,q,k⟩:=hq
 refine⟨W,ρ,_,px,q,?_⟩
 rintro v H1 x g s r ⟨i,rfl,q⟩
 cases r
 exact⟨i,rfl,k _ _ s q⟩)
theorem Q5 {lo hi:Option Expr}{tl th:m3}{sp:Pos}(he:QE X e te)(hl:QO X lo tl)(hh:QO X hi th):QE X (.Subscript e (.Slice lo hi none sp) pos) (wM te tl th):=bU (uQ (C4.or L0) he hl hh) λσ H Q' h=>by
 obtain⟨W,ρ,Q,px,q,k⟩:=h
 refine⟨W,ρ,_,px,q,λv H1 x g s1 r1 q1=>⟨W,ρ,_,px.mono s1,q1,λlo H2 s2 q2=>⟨W,ρ,_,px.mono (s1.trans s2),q2,?_⟩⟩⟩
 rintro hi H3 s3 ⟨xs,e,f,q3⟩
 have S:=(s1.trans s2).trans s3
 have r3:=r1.same (M':=Mg X.H₀ W H g) (s2.trans s3) λ_ z=>z
 cases r3 with
 |tup h r=>
  cases e
  refine .inr ⟨_,_,rfl,aG.of h,λp hp=>k _ _ _ .fr (S.trans (aW hp _)) (.tup aQ (((r.flat f).cut lo hi).same (aW hp _) λ_ z=>z)) q3,λec=>k _ _ _ .fr S (.tup h ?_) q3⟩
  have:=(r.flat (M':=Mg X.H₀ W H .fr) f).cut lo hi
  rw[ec]at this
  exact this
 |lst m h r=>
  cases e
  exact .inl ⟨_,_,rfl,aJ.of h,λp hp=>k _ _ _ .fr (S.trans (aW hp _)) (.lst (S.free hp) aQ (((r.flat f).cut lo hi).same (aW hp _) λ_ z=>z)) q3⟩
 |scr h=>
  cases e
  exact .inl ⟨_,_,rfl,h.sqL,λp hp=>k _ _ _ .fr (S.trans (aW hp _)) (.lst (S.free hp) aQ (((Reps.intz _).cut lo hi).same (aW hp _) λ_ z=>z)) q3⟩
 |fL h r=>
  cases e
  exact .inl ⟨_,_,rfl,.inl (.inr ⟨_,h⟩),λp hp=>k _ _ _ .fr (S.trans (aW hp _)) (.lst (S.free hp) aQ (((r.flat f).cut lo hi).same (aW hp _) λ_ z=>z)) q3⟩
 |_=>cases e
structure Df (P:Program)(w:World)(K:ac)(mg:Str->Option Value)(base:Heap)(k:Nat)(x:Str)(ps:List Str)(p:bA):Prop where
 ex:∃f fd,cD P w K mg base cL k f fd ps (jH K p)/\gJ K fd ps []/\PySem.W.keepIn K (.ref f)=true/\mg x=some (.ref f)
theorem b9 {k j:Nat}{x:Str}{ps:List Str}{p:bA}(d:Df X.prog X.w X.K X.mg X.base k x ps p)(hr:bR j X.A)(ha:QA X (e::es) tr)(hkj:k<=j:=by decide)(hg:Gl X x:=by rfl)(hdb:(x==("__debug__":Str))=false:=by decide)(he:starEach (e::es) X.env=(false,eval e X.env)::starEach es X.env:=by rfl)(hpl:(backTo pos (starEach es X.env)).any (·.1)=false:=by rfl):QE X (.Call (.Name x p2) (e::es) [] pos) (aH p tr):=by
 obtain⟨f,fd,F,b,kp,m⟩:=d.ex
 exact bU (pN F (hr.mono hkj) hg m kp b .nil G0 ha hdb he hpl) λ_ _ _=>aC0
theorem rL {K:ac}{H:Hp}{N:List Str}{vs:List V}{xs:List PV}(r:Reps K (λ_=>True) H vs xs):PX K H (λ_=>False) (L2.fX N vs) (eI N xs) H:=by
 have lr:=r.length
 have own:∀{i:Nat}{m:Slot},(eI N xs)[i]? = some (some m)->∃x,xs[i]? = some x/\m = .sh (flat x) x:=λ{i m} h=>by
  unfold eI at h
  by_cases hi:i<xs.length
  ·rw[bn5 (by simpa using hi),bi7]at h
   rw[bh5 hi]at h ⊢
   cases h
   exact⟨_,rfl,rfl⟩
  ·rw[bq3 (by simpa using hi),List.getElem?_replicate]at h
   split at h<;>cases h
 refine⟨by unfold L2.fX eI;simp[lr],aA.refl _,λa z=>z.elim,λi m h=>?_,λi j x y a h1=>?_⟩
 ·obtain⟨x,hx,rfl⟩:=own h
  obtain⟨v,hv,rx⟩:=r.at hx
  refine⟨v,?_,qU (g:=false) (rx.same (aA.refl _) λ_ _ z=>z)⟩
  have hi:i<vs.length:=(bi3.mp hv).1
  unfold L2.fX
  rw[bn5 (by simpa using hi),bi7,hv];rfl
 ·obtain⟨x,_,e⟩:=own h1
  cases e
theorem Df.of {P:Program}{w:World}{K:ac}{mg:Str->Option Value}{base:Heap}{k:Nat}{x:Str}{ps N:List Str}{p:bA}{st:Stmt}{f:Addr}{fd:FuncData}(F:dR K x x st f fd)(m:mg x=some (.ref f))(S:FnScope N ps (aN st))(hb:∀(kV doc pm:Value) (an:Option Addr) (cdv ct:Value) (us:List Value),us.length=ps.length->bindArgs (PySem.W.fnOf x x (hJ st) (dH st) (aN st) .none kV doc pm an cdv ct) ⟨us,[]⟩=pure (ps.zip us))(len:∀xs Q,p xs Q->xs.length=ps.length)(body:∀(cdv:Value) (A:Around) (outer:List Env) (s:Shared) (H:Hp) (E:XK),bR k (A.deeper (envOfC x (aN st) s.heap.objs.size f cdv))->
   ∃t,dW (cK cL P w K mg base N x (aN st) f cdv A outer s H E).nox (dH st) t/\∀xs Q,p xs Q->t { nx:=λ_=>Q .non,rt:=Q } (eI N xs)):Df P w K mg base (k+1) x ps p:=by
 refine⟨f,fd,F.ok S (λvs H Q E h=>?_) (λcdv A outer s H vs Q E hr h=>?_),F.binds hb,F.kp,m⟩
 ·obtain⟨xs,Qp,r,q,_⟩:=h
  rw[r.length];exact len xs Qp q
 ·obtain⟨xs,Qp,r,q,k⟩:=h
  obtain⟨t,ht,hq⟩:=body cdv A outer s H E hr
  refine⟨_,ht,λ_=>False,eI N xs,_,rL r,hq xs Qp q,?_,?_,?_,?_⟩
  ·exact λW' σ' H' ρ' e px q=>k _ _ _ px.same .non q
  ·exact λv H' x s r q=>k _ _ _ s r q
  ·exact λW' σ' H' ρ' e px q=>q
  ·exact λW' σ' H' ρ' e px q=>q
theorem eM (i:Nat){x:Str}{tp:Pos}{body:List Stmt}{ti:fC}(hN:X.N.Nodup)(hi:QI X (.Name x tp) e ti)(hb:dW X body t)(hx:X.N[i]? = some x:=by rfl)(hl:j4 X.env.scope x:=by first|exact Or.inl rfl|exact Or.inr rfl)(hf:X.fn x=true∨X.env.scope.names.lookup x=some .local:=by first|exact .inl rfl|exact .inr rfl)(hp:PassesOwn (model X.prog X.w) X.A X.env X.xe:=by exact PassesOwn.never)(hc:X.calm=true:=by rfl)(hs:∀x,foldedSetIterable e X.env x=pure x:=by intro _;rfl):QS X (.For (.Name x tp) e body [] pos) (dJ ti (bB i) t):=
 aF1 hp hc hi (eD hN hx hl hf) (o5 _ i) hb hs
abbrev cU:Value->Shared->Prop:=λ_ _=>False
section
variable {scope:Scope}{N:List Str}{fr:List (Option Nat)}{x y:Str}{tp xp yp:Pos}{kt:Nat}{iter elt:Expr}{ti:fC}
theorem wU {ifs:List Expr}{tcs:cB}(he:∀(s:Shared) (H:Hp) (C:Addr) (fp:List Addr),QE (bJ X scope N s H C fp cU) elt te)(hi:∀(s:Shared) (H:Hp) (C:Addr) (fp:List Addr),jC (bJ X scope N s H C fp cU) ifs (LT (bJ X scope N s H C fp cU) tcs))(hN:N.Nodup)(h0:N[0]? = some x)(hl:∀(s:Shared) (H:Hp) (C:Addr) (fp:List Addr),(bJ X scope N s H C fp cU).env.scope.names.lookup x=some .local)(s:Shared)(H:Hp) :
  lM X scope N (.Name x tp) ifs elt s H (cX 0) (LT (X.frm H) tcs) (LE (X.frm H) te):=
 ⟨λC fp=>eD (X:=bJ X scope N s H C fp cU) hN h0 (.inl (hl s H C fp)) (.inr (hl s H C fp)),λC fp=>hi s H C fp,λC fp=>he s H C fp⟩
theorem Q6 {Y:Cx}:jC Y [] (LT Y gA):=λpins s σ H Q I h=>nV pins s σ H Q I (aC9 h)
theorem oD (hi:QI X (.Name x tp) iter ti)(he:∀(s:Shared) (H:Hp) (C:Addr) (fp:List Addr),QE (bJ X scope N s H C fp cU) elt te)(hc:X.calm=true:=by rfl)(S:cT X scope N fr:=by exact cT.of rfl rfl)(hN:N.Nodup:=by decide +kernel)(h0:N[0]? = some x:=by rfl)(hl:∀(s:Shared) (H:Hp) (C:Addr) (fp:List Addr),(bJ X scope N s H C fp cU).env.scope.names.lookup x=some .local:=by intro _ _ _ _;rfl)(hf:fr[0]? = some none:=by rfl)(hs:∀x,foldedSetIterable iter X.env x=pure x:=by intro _;rfl):QE X (.ListComp elt [⟨.Name x tp,iter,[],0⟩] scope pos) (dL ti fr (bB 0) gA te):=
 bU (G6 (gh:=λ_=>cX 0) (tch:=λH=>LT (X.frm H) gA) (teh:=λH=>LE (X.frm H) te) hc S hi (wU he (λ_ _ _ _=>Q6) hN h0 hl) hs) λ_ _ _=>qV (o5 _ 0) (λi e=>by subst e;exact hf)
theorem mB {c:Expr}{tcs:cB}(hi:QI X (.Name x tp) iter ti)(ht:∀(s:Shared) (H:Hp) (C:Addr) (fp:List Addr),QT (bJ X scope N s H C fp cU) c tcs)(he:∀(s:Shared) (H:Hp) (C:Addr) (fp:List Addr),QE (bJ X scope N s H C fp cU) elt te)(hc:X.calm=true:=by rfl)(S:cT X scope N fr:=by exact cT.of rfl rfl)(hN:N.Nodup:=by decide +kernel)(h0:N[0]? = some x:=by rfl)(hl:∀(s:Shared) (H:Hp) (C:Addr) (fp:List Addr),(bJ X scope N s H C fp cU).env.scope.names.lookup x=some .local:=by intro _ _ _ _;rfl)(hf:fr[0]? = some none:=by rfl)(hs:∀x,foldedSetIterable iter X.env x=pure x:=by intro _;rfl):QE X (.ListComp elt [⟨.Name x tp,iter,[c],0⟩] scope pos) (dL ti fr (bB 0) tcs te):=
 bU (G6 (gh:=λ_=>cX 0) (tch:=λH=>LT (X.frm H) tcs) (teh:=λH=>LE (X.frm H) te) hc S hi (wU he (λs H C fp=>G2 (ht s H C fp)) hN h0 hl) hs) λ_ _ _=>qV (o5 _ 0) (λi e=>by subst e;exact hf)
theorem aG5 {i:Nat}{z:Str}{zp:Pos}(nd:X.N.Nodup)(hi:QI X (.Name x tp) iter ti)(he:∀(s:Shared) (H:Hp) (C:Addr) (fp:List Addr),QE (bJ X scope N s H C fp cU) elt te)(hz:X.N[i]? = some z:=by rfl)(hzl:X.env.scope.names.lookup z=some .local:=by rfl)(hsw:swapsWith (.ListComp elt [⟨.Name x tp,iter,[],0⟩] scope p2) (some (.Name z zp)) pos.line X.env=pure true:=by rfl)(hc:X.calm=true:=by rfl)(S:cT X scope N fr:=by exact cT.of rfl rfl)(hN:N.Nodup:=by decide +kernel)(h0:N[0]? = some x:=by rfl)(hl:∀(s:Shared) (H:Hp) (C:Addr) (fp:List Addr),(bJ X scope N s H C fp cU).env.scope.names.lookup x=some .local:=by intro _ _ _ _;rfl)(hf:fr[0]? = some none:=by rfl)(hs:∀x,foldedSetIterable iter X.env x=pure x:=by intro _;rfl):QS X (.Assign [.Name z zp] (.ListComp elt [⟨.Name x tp,iter,[],0⟩] scope p2) pos) (bH i (dL ti fr (bB 0) gA te)):=
 eB (G7 (gh:=λ_=>cX 0) (tch:=λH=>LT (X.frm H) gA) (teh:=λH=>LE (X.frm H) te) hc S hi (wU he (λ_ _ _ _=>Q6) hN h0 hl) nd hz hzl hsw hs) λD σ H h=>qV (o5 _ 0) (λi e=>by subst e;exact hf) (w9 h)
end
theorem aG6:lG X "list.extend" (M1 X.K):=λpins s σ H x xs v us Q I rx rs h=>h.elim (as5 pins s σ H x xs v us Q I rx rs) (ay8 pins s σ H x xs v us Q I rx rs)
theorem aG7 (i:Nat){x:Str}{apos cpos xpos:Pos}(he:QE X e te)(hN:X.N[i]? = some x:=by rfl)(hv:fQ X.env.scope x:=by first|exact Or.inl rfl|exact Or.inr (Or.inl rfl)|exact Or.inr (Or.inr rfl))(hd:(x==("__debug__":Str))=false:=by decide)(hcd:(x==("__classdict__":Str))=false:=by decide)(hbase:attributeBase (.Name x xpos) "extend" X.env (eval (.Name x xpos) X.env)=eval (.Name x xpos) X.env:=by rfl)(hfew:((backTo cpos (starEach [e] X.env)).all (λx=>!x.1)&&(backToKw cpos (keywordEach [] X.env)).all (λx=>x.1.isSome)&&decide (([e]:List Expr).length+([]:List Keyword).length+(if ([]:List Keyword).isEmpty then 0 else 1)<30))=true:=by rfl)(hline:(apos.endLine==cpos.line)=true:=by rfl)(hs:starEach [e] X.env=(false,eval e X.env)::starEach [] X.env:=by rfl)(hplain:(backTo cpos (starEach [] X.env)).any (·.1)=false:=by rfl)(hsw:swapsWith (.Call (.Attribute (.Name x xpos) "extend" apos) [e] [] cpos) none pos.line X.env=pure false:=by rfl) :
  QS X (.Expr (.Call (.Attribute (.Name x xpos) "extend" apos) [e] [] cpos) pos) (wA i te):=
 eB (j6 (lE br8 PySem.F.slot_list_extend PySem.F.type_list_extend aG6 (iC hN hv hd hcd) (c9 he cS hs) hbase hfew hline hs hplain) hsw) λ_ _ _=>aB1
theorem wV {i:Nat}{x:Str}{xpos tpos:Pos}(hk:QE X a tk)(he:QE X e te)(hN:X.N[i]? = some x:=by rfl)(hv:fQ X.env.scope x:=by first|exact Or.inl rfl|exact Or.inr (Or.inl rfl)|exact Or.inr (Or.inr rfl))(hd:(x==("__debug__":Str))=false:=by decide)(hcd:(x==("__classdict__":Str))=false:=by decide)(hp:∀(tx:TE) (tg:TE),PE X (.Name x xpos) tx->PE X a tg->PG X (.Subscript (.Name x xpos) a tpos) (uC tx tg uS):=by intro _ _ h1 h2;exact al5 h1 h2 ar3)(hs:swapsWithSole [.Subscript (.Name x xpos) a tpos] e pos.line X.env=pure false:=by rfl)(hw:swappedStores [.Subscript (.Name x xpos) a tpos] e X.env=pure none:=by rfl) :
  QS X (.Assign [.Subscript (.Name x xpos) a tpos] e pos) (kC i tk te):=eB (al6 he (hp _ _ (iC hN hv hd hcd) hk) hs hw) λ_ _ _=>aB2
end
end PP
namespace SO
open PySem PyProof.Rows
section
variable (rk:Keyed→Int)
def Kr (xs:Array Keyed)(i:Nat):Int:=((xs[i]?).map rk).getD 0
def Up (xs:Array Keyed)(lo hi:Nat):Prop:=∀i j,lo<=i->i<=j->j<hi->Kr rk xs i<=Kr rk xs j
def Dn (xs:Array Keyed)(lo hi:Nat):Prop:=∀i j,lo<=i->i<=j->j<hi->Kr rk xs j<=Kr rk xs i
end
variable {rk:Keyed→Int}
theorem kM {xs ys:Array Keyed}{i j:Nat}(h:xs[i]? = ys[j]?):Kr rk xs i=Kr rk ys j:=by unfold Kr;rw[h]
theorem rM {xs:Array Keyed}{i j:Nat}(hj:j<=xs.size)(k:Nat):Kr rk (mirror xs i j ((j-i)/2)) k=Kr rk xs (if i<=k/\k<j then i+j-1-k else k):=by
 refine kM ?_
 rw[getElem?_mirror_all hj]
 split<;>rfl
theorem wW {xs:Array Keyed}{i j:Nat}(hj:j<=xs.size)(e:∀k,i<=k->k<j->Kr rk xs k=Kr rk xs (j-1))(k:Nat):Kr rk (mirror xs i j ((j-i)/2)) k=Kr rk xs k:=by
 rw[rM hj]
 split
 ·rename_i h;rw[e k h.1 h.2,e _ (by omega) (by omega)]
 ·rfl
theorem aG8 {xs:Array Keyed}{src d:Nat}(hs:src<xs.size)(hd:d<=src)(k:Nat):Kr rk (bubble xs src d) k=Kr rk xs (if k=src-d then src else if src-d<k/\k<=src then k-1 else k):=by
 refine kM ?_
 rw[getElem?_bubble hs d hd]
 repeat' split
 all_goals rfl
structure SB (κ:SortKind)(a0:Array Keyed)(pd:Array (Nat×Nat×Nat))(st:SortSt):Prop where
 pm:(arrOf st).Perm a0
 kd:kindOf st=κ
 ok:failedOf st=none
 pd:pendingOf st=pd
section
variable {κ:SortKind}{a0:Array Keyed}{pd:Array (Nat×Nat×Nat)}{st:SortSt}{prog:Program}{w:World}{A:Around}{E:Value→Shared→Prop}{s:Shared}{Ok:Keyed→Prop}
theorem SB.sz (h:SB κ a0 pd st):(arrOf st).size=a0.size:=h.pm.size_eq
theorem SB.put (h:SB κ a0 pd st){xs:Array Keyed}(hp:xs.Perm (arrOf st)):SB κ a0 pd (setArr st xs):=⟨hp.trans h.pm,h.kd,h.ok,h.pd⟩
def bW (prog:Program)(w:World)(A:Around)(E:Value->Shared->Prop)(s:Shared)(κ:SortKind)(Ok:Keyed->Prop)(rk:Keyed->Int):Prop:=
 ∀(x y:Keyed),Ok x->Ok y->∀(st:SortSt) (Q:Option Bool->SortSt->Prop),kindOf st=κ->Q (some (decide (rk x<rk y))) st->wpS (model prog w) A E s (lt' x y) Q st
def bE (Ok:Keyed->Prop)(xs:Array Keyed):Prop:=∀x∈xs,Ok x
theorem SB.all (h:SB κ a0 pd st)(o:bE Ok a0):bE Ok (arrOf st):=λx hx=>o x (h.pm.mem_iff.mp hx)
theorem cP {xs:Array Keyed}{i:Nat}{Q:Keyed->SortSt->Prop}(hi:i<xs.size)(h:Q xs[i] st):wpS (model prog w) A E s (elem' xs i) Q st:=by
 rw[elem'_eq,getElem?_pos xs i hi];exact bj4 h
theorem bV {xs:Array Keyed}{i:Nat}(hi:i<xs.size):Kr rk xs i=rk xs[i]:=by unfold Kr;rw[getElem?_pos xs i hi];rfl
theorem oE (c:bW prog w A E s κ Ok rk)(o:bE Ok a0)(b:SB κ a0 pd st){i j:Nat}{Q:Option Bool->SortSt->Prop}(hi:i<a0.size)(hj:j<a0.size)(h:Q (some (decide (Kr rk (arrOf st) i<Kr rk (arrOf st) j))) st):wpS (model prog w) A E s (ltAt' i j) Q st:=by
 have hi':i<(arrOf st).size:=by rw[b.sz];exact hi
 have hj':j<(arrOf st).size:=by rw[b.sz];exact hj
 rw[ltAt'_eq]
 refine bi8 (wpS_get (bi8 (cP hi' (bi8 (cP hj' ?_)))))
 refine c _ _ (b.all o _ (bn1 hi')) (b.all o _ (bn1 hj')) st Q b.kd ?_
 rw[<- bV (rk:=rk) hi',<- bV (rk:=rk) hj'];exact h
theorem rN {i j:Nat}{Q:Unit->SortSt->Prop}(h:Q () (setArr st (mirror (arrOf st) i j ((j-i)/2)))):wpS (model prog w) A E s (reverseSlice' i j) Q st:=by
 rw[reverseSlice'_eq];exact wpS_modify h
abbrev CS:=Option (Option Nat)×Nat
abbrev DS:=Option (Option Nat)×Nat×Nat
def oF (lo b nrem:Nat):StateT SortSt Sem CS:=forIn [b:nrem] ((none,b):CS) λ_ r=>do
 match <- ltAt' (lo+r.2) (lo+r.2-1) with
 |some q=>if q=true then pure (ForInStep.done (none,r.2)) else pure (ForInStep.yield (none,r.2+1))
 |_=>pure (ForInStep.done (some none,r.2))
def wX (lo b nrem:Nat):StateT SortSt Sem DS:=forIn [b:nrem] ((none,b,0):DS) λ_ r=>do
 match <- ltAt' (lo+r.2.1) (lo+r.2.1-1) with
 |some q=>
  if q=true then (if r.2.2>0 then do reverseSlice' (lo+r.2.1-(r.2.2+1)) (lo+r.2.1);pure (ForInStep.yield (none,r.2.1+1,0)) else pure (ForInStep.yield (none,r.2.1+1,0)))
  else do
   match <- ltAt' (lo+r.2.1-1) (lo+r.2.1) with
   |some q=>if q=true then pure (ForInStep.done (none,r.2.1,r.2.2)) else pure (ForInStep.yield (none,r.2.1+1,r.2.2+1))
   |_=>pure (ForInStep.done (some none,r.2.1,r.2.2))
 |_=>pure (ForInStep.done (some none,r.2.1,r.2.2))
theorem Q7 (c:bW prog w A E s κ Ok rk)(o:bE Ok a0)(b:SB κ a0 pd st){lo n nrem:Nat}{Q:CS->SortSt->Prop}(hz:lo+nrem<=a0.size)(h1:1<=n)(hn:n<=nrem)(u:Up rk (arrOf st) lo (lo+n))(h:∀m,n<=m->m<=nrem->Up rk (arrOf st) lo (lo+m)->(m=nrem∨Kr rk (arrOf st) (lo+m)<Kr rk (arrOf st) (lo+m-1))->Q (none,m) st):wpS (model prog w) A E s (oF lo n nrem) Q st:=by
 unfold oF
 refine bq9 (I:=λx r st'=>st'=st/\r=(none,x)/\Up rk (arrOf st) lo (lo+x)) ?_ ?_ ⟨rfl,rfl,u⟩
 ·rintro x r st' hx hx' ⟨rfl,rfl,u'⟩
  refine bi8 (oE c o b (by omega) (by omega) ?_)
  by_cases hq:Kr rk (arrOf st') (lo+x)<Kr rk (arrOf st') (lo+x-1)
  ·rw[bi9 hq]
   exact bj4 (h x hx (by omega) u' (.inr hq))
  ·rw[bi2 hq]
   refine bj4 ⟨rfl,rfl,λi j hi hij hj=>?_⟩
   rcases bm7 j (lo+x) with z|z
   ·exact u' i j hi hij z
   ·have ej:j=lo+x:=by omega
    subst ej
    rcases bw4 hij with z|z
    ·rw[z];exact bs1 _
    ·have:=u' i (lo+x-1) hi (by omega) (by omega)
     omega
 ·rintro r st' ⟨rfl,rfl,u'⟩
  have em:max n nrem=nrem:=by omega
  rw[em]at u' ⊢
  exact h nrem hn (bh8 _) u' (.inl rfl)
structure oG (rk:Keyed->Int)(xs ys:Array Keyed)(lo m q:Nat):Prop where
 dn:Dn rk ys lo (lo+m)
 le:q+1<=m
 eq:∀i,lo+m-(q+1)<=i->i<lo+m->Kr rk ys i=Kr rk ys (lo+m-1)
 low:∀i,i<lo->Kr rk ys i=Kr rk xs i
theorem aG9 (c:bW prog w A E s κ Ok rk)(o:bE Ok a0)(b:SB κ a0 pd st){lo n nrem:Nat}{xs:Array Keyed}{Q:DS->SortSt->Prop}(hz:lo+nrem<=a0.size)(h1:1<=n)(hn:n<=nrem)(u:oG rk xs (arrOf st) lo n 0)(h:∀m q st',SB κ a0 pd st'->n<=m->m<=nrem->oG rk xs (arrOf st') lo m q->Q (none,m,q) st'):wpS (model prog w) A E s (wX lo n nrem) Q st:=by
 unfold wX
 refine bq9 (I:=λx r st'=>∃q,r=(none,x,q)/\SB κ a0 pd st'/\oG rk xs (arrOf st') lo x q) ?_ ?_ ⟨0,rfl,b,u⟩
 ·rintro x r st' hx hx' ⟨q,rfl,b',f⟩
  have sz:=b'.sz
  dsimp only
  refine bi8 (oE c o b' (by omega) (by omega) ?_)
  by_cases hq:Kr rk (arrOf st') (lo+x)<Kr rk (arrOf st') (lo+x-1)
  ·rw[bi9 hq]
   have nx:∀ys:Array Keyed,(∀k,Kr rk ys k=Kr rk (arrOf st') k)->oG rk xs ys lo (x+1) 0:=λys e=>by
    refine⟨λi j hi hij hj=>?_,by omega,λi h1 h2=>by rw[show i=lo+(x+1)-1 by omega],λi hi=>(e i).trans (f.low i hi)⟩
    rw[e,e]
    rcases bm7 j (lo+x) with z|z
    ·exact f.dn i j hi hij z
    ·have ej:j=lo+x:=by omega
     subst ej
     rcases bw4 hij with z|z
     ·rw[z];exact bs1 _
     ·have:=f.dn i (lo+x-1) hi (by omega) (by omega)
      omega
   dsimp only
   rw[if_pos rfl]
   by_cases hp:q>0
   ·rw[if_pos hp]
    exact bi8 (rN (bj4 ⟨0,rfl,b'.put (mirror_perm _ _ _ _),nx _ (wW (by omega) f.eq)⟩))
   ·rw[if_neg hp]
    exact bj4 ⟨0,rfl,b',nx _ λ_=>rfl⟩
  ·rw[bi2 hq]
   dsimp only
   rw[if_neg bj3]
   refine bi8 (oE c o b' (by omega) (by omega) ?_)
   by_cases hl:Kr rk (arrOf st') (lo+x-1)<Kr rk (arrOf st') (lo+x)
   ·rw[bi9 hl]
    exact bj4 (h x q st' b' hx (by omega) f)
   ·rw[bi2 hl]
    have ex:Kr rk (arrOf st') (lo+x)=Kr rk (arrOf st') (lo+x-1):=by omega
    refine bj4 ⟨q+1,rfl,b',λi j hi hij hj=>?_,by have:=f.le;omega,λi h1 h2=>?_,f.low⟩
    ·rcases bm7 j (lo+x) with z|z
     ·exact f.dn i j hi hij z
     ·have ej:j=lo+x:=by omega
      subst ej
      rcases bw4 hij with z|z
      ·rw[z];exact bs1 _
      ·rw[ex];exact f.dn i (lo+x-1) hi (by omega) (by omega)
    ·rw[show lo+(x+1)-1=lo+x by omega]
     rcases bm7 i (lo+x) with z|z
     ·rw[ex];exact f.eq i (by omega) z
     ·rw[show i=lo+x by omega]
 ·rintro r st' ⟨q,rfl,b',f⟩
  have em:max n nrem=nrem:=by omega
  rw[em]at f ⊢
  exact h nrem q st' b' hn (bh8 _) f
theorem Q8 (c:bW prog w A E s κ Ok rk)(o:bE Ok a0)(b:SB κ a0 pd st){lo nrem:Nat}(n:Nat){xs:Array Keyed}{Q:Option Nat->SortSt->Prop}{K:DS->StateT SortSt Sem (Option Nat)}{k:CS->StateT SortSt Sem (Option Nat)}(hz:lo+nrem<=a0.size)(hn:n+1<=nrem)(hK:∀m q,K (none,m,q)=if q>0 then reverseSlice' (lo+m-(q+1)) (lo+m) >>= λ_=>reverseSlice' lo (lo+m) >>= λ_=>oF lo m nrem >>= k else reverseSlice' lo (lo+m) >>= λ_=>oF lo m nrem >>= k)(hk:∀m,k (none,m)=pure (some m))(u:oG rk xs (arrOf st) lo (n+1) 0)(h:∀m st',SB κ a0 pd st'->1<=m->m<=nrem->Up rk (arrOf st') lo (lo+m)->(∀i,i<lo->Kr rk (arrOf st') i=Kr rk xs i)->Q (some m) st'):wpS (model prog w) A E s (liftM (rule "list.sort.descending-run") >>= λ_=>wX lo (n+1) nrem >>= K) Q st:=by
 refine bi8 (wpS_lift (bv5 ⟨rfl,?_⟩))
 refine bi8 (aG9 c o b hz (by omega) hn u λm q st1 b1 m1 m2 f=>?_)
 have fin:∀st2:SortSt,SB κ a0 pd st2->(∀k,Kr rk (arrOf st2) k=Kr rk (arrOf st1) k)->
   wpS (model prog w) A E s (reverseSlice' lo (lo+m) >>= λ_=>oF lo m nrem >>= k) Q st2:=λst2 b2 e=>by
  have sz:=b2.sz
  have low:∀i,i<lo->Kr rk (mirror (arrOf st2) lo (lo+m) ((lo+m-lo)/2)) i=Kr rk xs i:=λi hi=>by
   rw[rM (by omega),if_neg (by omega),e]
   exact f.low i hi
  refine bi8 (rN (bi8 (Q7 (κ:=κ) c o (b2.put (mirror_perm _ _ _ _)) hz (by omega) m2 ?_ λm' h1 h2 up _=>by rw[hk];exact bj4 (h m' _ (b2.put (mirror_perm _ _ _ _)) (by omega) h2 up low))))
  ·intro i j hi hij hj
   show Kr rk (mirror (arrOf st2) lo (lo+m) _) i<=Kr rk (mirror (arrOf st2) lo (lo+m) _) j
   rw[rM (by omega),rM (by omega),if_pos (by omega),if_pos (by omega),e,e]
   exact f.dn _ _ (by omega) (by omega) (by omega)
 rw[hK]
 by_cases hp:q>0
 ·rw[if_pos hp]
  have sz:=b1.sz
  exact bi8 (rN (fin _ (b1.put (mirror_perm _ _ _ _)) (wW (by omega) f.eq)))
 ·rw[if_neg hp]
  exact fin st1 b1 λ_=>rfl
theorem aH0 (c:bW prog w A E s κ Ok rk)(o:bE Ok a0)(b:SB κ a0 pd st){lo nrem:Nat}{Q:Option Nat->SortSt->Prop}(hz:lo+nrem<=a0.size)(h1:1<=nrem)(h:∀m st',SB κ a0 pd st'->1<=m->m<=nrem->Up rk (arrOf st') lo (lo+m)->(∀i,i<lo->Kr rk (arrOf st') i=Kr rk (arrOf st) i)->Q (some m) st'):wpS (model prog w) A E s (countRun' lo nrem) Q st:=by
 rw[countRun'_eq]
 refine bi8 (Q7 (n:=1) c o b hz (bh8 _) h1 (λi j hi hij hj=>by rw[show i=j by omega];exact bs1 _) λn n1 n2 un on=>?_)
 dsimp only
 by_cases en:(n==nrem)=true
 ·rw[if_pos en]
  exact bj4 (h n st b n1 n2 un λ_ _=>rfl)
 ·rw[if_neg en]
  have en':n≠nrem:=by simpa using en
  have lt:=on.resolve_left en'
  have sz:=b.sz
  by_cases g:n>1
  ·rw[if_pos g]
   refine bi8 (oE c o b (by omega) (by omega) ?_)
   by_cases hq:Kr rk (arrOf st) lo<Kr rk (arrOf st) (lo+n-1)
   ·rw[bi9 hq]
    exact bj4 (h n st b n1 n2 un λ_ _=>rfl)
   ·rw[bi2 hq]
    dsimp only
    rw[if_neg bj3]
    have all:∀k,lo<=k->k<lo+n->Kr rk (arrOf st) k=Kr rk (arrOf st) (lo+n-1):=λk k1 k2=>by
     have a1:=un lo k (bh8 _) k1 k2
     have a2:=un k (lo+n-1) k1 (by omega) (by omega)
     omega
    have sm:=wW (rk:=rk) (xs:=arrOf st) (i:=lo) (j:=lo+n) (by omega) all
    refine bi8 (rN (Q8 (xs:=arrOf st) (κ:=κ) c o (b.put (mirror_perm _ _ _ _)) n hz (by omega) (λ_ _=>rfl) (λ_=>rfl) ⟨λi j hi hij hj=>?_,by omega,λi h1 h2=>by rw[show i=lo+(n+1)-1 by omega],λi _=>sm i⟩ h))
    show Kr rk (mirror (arrOf st) lo (lo+n) _) j<=Kr rk (mirror (arrOf st) lo (lo+n) _) i
    rw[sm,sm]
    rcases bm7 j (lo+n) with z|z
    ·rw[all i hi (by omega),all j (by omega) z];exact bs1 _
    ·have ej:j=lo+n:=by omega
     subst ej
     rcases bw4 hij with z|z
     ·rw[z];exact bs1 _
     ·rw[all i hi (by omega)];exact Int.le_of_lt lt
  ·rw[if_neg g]
   have e1:n=1:=by omega
   subst e1
   refine Q8 (xs:=arrOf st) c o b 1 hz (by omega) (λ_ _=>rfl) (λ_=>rfl) ⟨λi j hi hij hj=>?_,by omega,λi h1 h2=>by rw[show i=lo+(1+1)-1 by omega],λi _=>rfl⟩ h
   rcases bw4 hij with z|z
   ·rw[z];exact bs1 _
   ·have ei:i=lo+1-1:=by omega
    have ej:j=lo+1:=by omega
    rw[ei,ej];exact Int.le_of_lt lt
theorem aH1 (c:bW prog w A E s κ Ok rk)(o:bE Ok a0)(b:SB κ a0 pd st){lo n q:Nat}{Q:Bool->SortSt->Prop}(hz:lo+n<=a0.size)(hq:q<=n)(u:Up rk (arrOf st) lo (lo+q))(h:∀st',SB κ a0 pd st'->Up rk (arrOf st') lo (lo+n)->(∀i,i<lo->Kr rk (arrOf st') i=Kr rk (arrOf st) i)->Q true st'):wpS (model prog w) A E s (binarySort' lo n q) Q st:=by
 rw[binarySort'_eq]
 refine bi8 (bx3 (bq9 (I:=λk r st'=>r=(none,())/\SB κ a0 pd st'/\Up rk (arrOf st') lo (lo+min k n)/\∀i,i<lo->Kr rk (arrOf st') i=Kr rk (arrOf st) i)
  (Q:=λr st'=>r=(none,())/\SB κ a0 pd st'/\Up rk (arrOf st') lo (lo+n)/\∀i,i<lo->Kr rk (arrOf st') i=Kr rk (arrOf st) i) ?_ ?_ ?_) ?_)
 ·rintro k r st1 hk hkn ⟨rfl,b1,u1,l1⟩
  rw[show min k n=k by omega]at u1
  have hk0:lo+k<a0.size:=by omega
  have sz:=b1.sz
  refine bi8 (bx3 (bq9 (I:=λx r st'=>st'=st1/\∃l g,r=(none,l,g)/\l<=g/\g<=k/\g-l<=k-x/\(∀i,i<l->Kr rk (arrOf st1) (lo+i)<=Kr rk (arrOf st1) (lo+k))/\∀i,g<=i->i<k->Kr rk (arrOf st1) (lo+k)<Kr rk (arrOf st1) (lo+i))
   (Q:=λr st'=>st'=st1/\∃l g,r=(none,l,g)/\l<=k/\(∀i,i<l->Kr rk (arrOf st1) (lo+i)<=Kr rk (arrOf st1) (lo+k))/\∀i,l<=i->i<k->Kr rk (arrOf st1) (lo+k)<Kr rk (arrOf st1) (lo+i)) ?_ ?_ ?_) ?_)
  ·rintro x r st2 _ hx ⟨rfl,l,g,rfl,d1,d2,d3,f1,f2⟩
   dsimp only
   by_cases hlg:l >= g
   ·rw[if_pos hlg]
    have e:g=l:=by omega
    subst e
    exact bj4 ⟨rfl,g,g,rfl,d2,f1,f2⟩
   ·rw[if_neg hlg]
    refine bi8 (oE c o b1 hk0 (by omega) ?_)
    by_cases hc:Kr rk (arrOf st2) (lo+k)<Kr rk (arrOf st2) (lo+(l+g)/2)
    ·rw[bi9 hc]
     refine bj4 ⟨rfl,l,(l+g)/2,rfl,by omega,by omega,by omega,f1,λi i1 i2=>?_⟩
     have:=u1 (lo+(l+g)/2) (lo+i) (by omega) (by omega) (by omega)
     omega
    ·rw[bi2 hc]
     refine bj4 ⟨rfl,(l+g)/2+1,g,rfl,by omega,d2,by omega,λi i1=>?_,f2⟩
     have:=u1 (lo+i) (lo+(l+g)/2) (by omega) (by omega) (by omega)
     omega
  ·rintro r st2 ⟨rfl,l,g,rfl,d1,d2,d3,f1,f2⟩
   have e:g=l:=by omega
   subst e
   exact⟨rfl,g,g,rfl,d2,f1,f2⟩
  ·exact⟨rfl,0,k,rfl,by omega,by omega,by omega,λi hi=>absurd hi (by omega),λi i1 i2=>absurd i1 (by omega)⟩
  ·rintro r st2 ⟨rfl,l,g,rfl,d,f1,f2⟩
   dsimp only
   rw[moveDown'_eq]
   have kb:∀i,Kr rk (bubble (arrOf st2) (lo+k) (lo+k-(lo+l))) i=Kr rk (arrOf st2) (if i=lo+l then lo+k else if lo+l<i/\i<=lo+k then i-1 else i):=λi=>by
    rw[aG8 (by omega) (by omega),show lo+k-(lo+k-(lo+l))=lo+l by omega]
   refine bi8 (wpS_modify (bj4 ⟨rfl,b1.put (bubble_perm _ _ _),λi j hi hij hj=>?_,λi hi=>?_⟩))
   ·show Kr rk (bubble (arrOf st2) (lo+k) (lo+k-(lo+l))) i<=Kr rk (bubble (arrOf st2) (lo+k) (lo+k-(lo+l))) j
    rw[kb,kb]
    rw[show min (k+1) n=k+1 by omega]at hj
    have v1:∀p,lo<=p->p<lo+l->Kr rk (arrOf st2) p<=Kr rk (arrOf st2) (lo+k):=λp p1 p2=>by have:=f1 (p-lo) (by omega);rwa [show lo+(p-lo)=p by omega]at this
    have v2:∀p,lo+l<=p->p<lo+k->Kr rk (arrOf st2) (lo+k)<Kr rk (arrOf st2) p:=λp p1 p2=>by have:=f2 (p-lo) (by omega) (by omega);rwa [show lo+(p-lo)=p by omega]at this
    repeat' split
    all_goals first
     |(exfalso;omega)
     |exact bs1 _
     |exact v1 _ (by omega) (by omega)
     |exact Int.le_of_lt (v2 _ (by omega) (by omega))
     |exact u1 _ _ (by omega) (by omega) (by omega)
   ·show Kr rk (bubble (arrOf st2) (lo+k) (lo+k-(lo+l))) i=_
    rw[kb,if_neg (by omega),if_neg (by omega)]
    exact l1 i hi
 ·rintro r st1 ⟨rfl,b1,u1,l1⟩
  rw[show min (max (max q 1) n) n=n by omega]at u1
  exact⟨rfl,b1,u1,l1⟩
 ·refine⟨rfl,b,λi j hi hij hj=>?_,λ_ _=>rfl⟩
  rcases bm7 j (lo+q) with z|z
  ·exact u i j hi hij z
  ·rw[show i=j by omega];exact bs1 _
 ·rintro r st1 ⟨rfl,b1,u1,l1⟩
  exact bj4 (h st1 b1 u1 l1)
end
def jK:Bool->Keyed->Array Keyed->Nat->Nat->Nat->StateT SortSt Sem (Option Nat):=sortPriv% PySem.Builtin.gallop
def kN (lf:Bool)(key:Keyed)(xs:Array Keyed)(bs i:Nat):StateT SortSt Sem (Option Bool):=do
 let z <- elem' xs (bs+i)
 if lf then lt' z key else return (<- lt' key z).map (!·)
theorem aH2 (lf:Bool)(key:Keyed)(xs:Array Keyed)(bs n h:Nat):jK lf key xs bs n h=(do
 let mut la:=0
 let mut of:=1
 let mut l:=0
 let mut g:=0
 let some rt <- kN lf key xs bs h|return none
 if rt then
  let mx:=n-h
  for _ in [0:n] do
   if of >= mx then break
   let some mr <- kN lf key xs bs (h+of)|return none
   if !mr then break
   la:=of
   of:=2*of+1
  l:=h+la+1
  g:=h+min of mx
 else
  let mx:=h+1
  for _ in [0:n] do
   if of >= mx then break
   let some fd <- kN lf key xs bs (h-of)|return none
   if fd then break
   la:=of
   of:=2*of+1
  l:=h+1-min of mx
  g:=h-la
 for _ in [0:n] do
  if l >= g then break
  let m:=l+(g-l)/2
  let some mr <- kN lf key xs bs m|return none
  if mr then l:=m+1 else g:=m
 return some g):=rfl
section
variable {rk:Keyed→Int}{κ:SortKind}{st:SortSt}{prog:Program}{w:World}{A:Around}{E:Value→Shared→Prop}{s:Shared}{Ok:Keyed→Prop}
def bN (rk:Keyed->Int)(lf:Bool)(key:Keyed)(xs:Array Keyed)(bs i:Nat):Bool:=if lf then decide (Kr rk xs (bs+i)<rk key) else decide (Kr rk xs (bs+i)<=rk key)
theorem rO (c:bW prog w A E s κ Ok rk)(hk:kindOf st=κ){lf:Bool}{key:Keyed}{xs:Array Keyed}{bs i:Nat}{Q:Option Bool->SortSt->Prop}(ok:Ok key)(o:bE Ok xs)(hi:bs+i<xs.size)(h:Q (some (bN rk lf key xs bs i)) st):wpS (model prog w) A E s (kN lf key xs bs i) Q st:=by
 unfold kN
 refine bi8 (cP hi ?_)
 unfold bN at h
 rw[bV hi]at h
 cases lf with
 |true=>
  simp only[if_true]at h ⊢
  exact c _ _ (o _ (bn1 hi)) ok st Q hk h
 |false=>
  simp only[bk1,bn9]at h ⊢
  refine bi8 (c _ _ ok (o _ (bn1 hi)) st _ hk (bj4 ?_))
  have e:(!decide (rk key<rk xs[bs+i]))=decide (rk xs[bs+i]<=rk key):=by
   by_cases z:rk xs[bs+i]<=rk key
   ·rw[bi9 z,bi2 (by omega)];rfl
   ·rw[bi2 z,bi9 (by omega)];rfl
  show Q (some (!decide (rk key<rk xs[bs+i]))) st
  rw[e];exact h
abbrev GS:=Option (Option Nat)×Nat×Nat
def Q9 (lf:Bool)(key:Keyed)(xs:Array Keyed)(bs n l g:Nat):StateT SortSt Sem GS:=forIn [0:n] ((none,l,g):GS) λ_ r=>
 if r.2.1 >= r.2.2 then pure (ForInStep.done (none,r.2.1,r.2.2)) else do
  match <- kN lf key xs bs (r.2.1+(r.2.2-r.2.1)/2) with
  |some q=>if q=true then pure (ForInStep.yield (none,r.2.1+(r.2.2-r.2.1)/2+1,r.2.2)) else pure (ForInStep.yield (none,r.2.1,r.2.1+(r.2.2-r.2.1)/2))
  |_=>pure (ForInStep.done (some none,r.2.1,r.2.2))
theorem R3 (c:bW prog w A E s κ Ok rk)(hk:kindOf st=κ){lf:Bool}{key:Keyed}{xs:Array Keyed}{bs n l g:Nat}{Q:GS->SortSt->Prop}(ok:Ok key)(o:bE Ok xs)(hz:bs+n<=xs.size)(mono:∀i j,i<=j->j<n->bN rk lf key xs bs j=true->bN rk lf key xs bs i=true)(hlg:l<=g)(hg:g<=n)(h1:∀i,i<l->bN rk lf key xs bs i=true)(h2:∀i,g<=i->i<n->bN rk lf key xs bs i=false)(hq:∀k,k<=n->(∀i,i<k->bN rk lf key xs bs i=true)->(∀i,k<=i->i<n->bN rk lf key xs bs i=false)->Q (none,k,k) st):wpS (model prog w) A E s (Q9 lf key xs bs n l g) Q st:=by
 unfold Q9
 refine bq9 (I:=λx r st'=>st'=st/\∃l g,r=(none,l,g)/\l<=g/\g<=n/\g-l<=n-x/\(∀i,i<l->bN rk lf key xs bs i=true)/\∀i,g<=i->i<n->bN rk lf key xs bs i=false) ?_ ?_ ⟨rfl,l,g,rfl,hlg,hg,by omega,h1,h2⟩
 ·rintro x r st' _ hx ⟨rfl,l,g,rfl,d1,d2,d3,f1,f2⟩
  dsimp only
  by_cases hc:l >= g
  ·rw[if_pos hc]
   have e:g=l:=by omega
   subst e
   exact bj4 (hq g d2 f1 f2)
  ·rw[if_neg hc]
   refine bi8 (rO c hk ok o (by omega) ?_)
   cases z:bN rk lf key xs bs (l+(g-l)/2) with
   |true=>exact bj4 ⟨rfl,_,_,rfl,by omega,d2,by omega,λi hi=>mono i (l+(g-l)/2) (by omega) (by omega) z,f2⟩
   |false=>
    refine bj4 ⟨rfl,_,_,rfl,by omega,by omega,by omega,f1,λi i1 i2=>?_⟩
    cases y:bN rk lf key xs bs i with
    |false=>rfl
    |true=>rw[mono _ i i1 i2 y]at z;cases z
 ·rintro r st' ⟨rfl,l,g,rfl,d1,d2,d3,f1,f2⟩
  have e:g=l:=by omega
  subst e
  exact hq g d2 f1 f2
theorem mC (c:bW prog w A E s κ Ok rk)(hk:kindOf st=κ){lf:Bool}{key:Keyed}{xs:Array Keyed}{bs n h:Nat}{Q:Option Nat->SortSt->Prop}(ok:Ok key)(o:bE Ok xs)(hh:h<n)(hz:bs+n<=xs.size)(u:Up rk xs bs (bs+n))(hq:∀k,k<=n->(∀i,i<k->bN rk lf key xs bs i=true)->(∀i,k<=i->i<n->bN rk lf key xs bs i=false)->Q (some k) st):wpS (model prog w) A E s (jK lf key xs bs n h) Q st:=by
 have mono:∀i j,i<=j->j<n->bN rk lf key xs bs j=true->bN rk lf key xs bs i=true:=λi j hij hj e=>by
  have:=u (bs+i) (bs+j) (by omega) (by omega) (by omega)
  unfold bN at e ⊢
  cases lf with
  |true=>simp only[if_true,bk3]at e ⊢;omega
  |false=>simp only[bk1,bn9,bk3]at e ⊢;omega
 have monf:∀i j,i<=j->j<n->bN rk lf key xs bs i=false->bN rk lf key xs bs j=false:=λi j hij hj e=>by
  cases z:bN rk lf key xs bs j with
  |false=>rfl
  |true=>rw[mono i j hij hj z]at e;cases e
 rw[aH2]
 refine bi8 (rO c hk ok o (by omega) ?_)
 dsimp only
 cases z:bN rk lf key xs bs h with
 |true=>
  rw[if_pos rfl]
  refine bi8 (bx3 (bq9 (I:=λx r st'=>st'=st/\∃la of,r=(none,la,of)/\la<of/\x<of/\h+la<n/\bN rk lf key xs bs (h+la)=true)
   (Q:=λr st'=>st'=st/\∃la of,r=(none,la,of)/\la<of/\h+la<n/\bN rk lf key xs bs (h+la)=true/\(of<n-h->bN rk lf key xs bs (h+of)=false)) ?_ ?_ ⟨rfl,0,1,rfl,by omega,by omega,by omega,z⟩) ?_)
  ·rintro x r st' _ hx ⟨rfl,la,of,rfl,d1,d2,d3,f⟩
   dsimp only
   by_cases hc:of >= n-h
   ·rw[if_pos hc]
    exact bj4 ⟨rfl,la,of,rfl,d1,d3,f,λy=>absurd y (by omega)⟩
   ·rw[if_neg hc]
    refine bi8 (rO c hk ok o (by omega) ?_)
    cases y:bN rk lf key xs bs (h+of) with
    |true=>exact bj4 ⟨rfl,of,2*of+1,rfl,by omega,by omega,by omega,y⟩
    |false=>exact bj4 ⟨rfl,la,of,rfl,d1,d3,f,λ_=>y⟩
  ·rintro r st' ⟨rfl,la,of,rfl,d1,d2,d3,f⟩
   exact⟨rfl,la,of,rfl,d1,d3,f,λy=>absurd y (by omega)⟩
  ·rintro r st' ⟨rfl,la,of,rfl,d1,d3,f,ft⟩
   dsimp only
   refine bi8 (R3 (l:=h+la+1) (g:=h+min of (n-h)) c hk ok o hz mono (by omega) (by omega) (λi hi=>mono i (h+la) (by omega) d3 f) (λi i1 i2=>?_) λk k1 k2 k3=>bj4 (hq k k1 k2 k3))
   rcases bm7 of (n-h) with y|y
   ·exact monf (h+of) i (by omega) i2 (ft y)
   ·exact absurd i1 (by omega)
 |false=>
  rw[if_neg bj3]
  refine bi8 (bx3 (bq9 (I:=λx r st'=>st'=st/\∃la of,r=(none,la,of)/\la<of/\x<of/\la<=h/\bN rk lf key xs bs (h-la)=false)
   (Q:=λr st'=>st'=st/\∃la of,r=(none,la,of)/\la<of/\la<=h/\bN rk lf key xs bs (h-la)=false/\(of<h+1->bN rk lf key xs bs (h-of)=true)) ?_ ?_ ⟨rfl,0,1,rfl,by omega,by omega,by omega,z⟩) ?_)
  ·rintro x r st' _ hx ⟨rfl,la,of,rfl,d1,d2,d3,f⟩
   dsimp only
   by_cases hc:of >= h+1
   ·rw[if_pos hc]
    exact bj4 ⟨rfl,la,of,rfl,d1,d3,f,λy=>absurd y (by omega)⟩
   ·rw[if_neg hc]
    refine bi8 (rO c hk ok o (by omega) ?_)
    cases y:bN rk lf key xs bs (h-of) with
    |false=>exact bj4 ⟨rfl,of,2*of+1,rfl,by omega,by omega,by omega,y⟩
    |true=>exact bj4 ⟨rfl,la,of,rfl,d1,d3,f,λ_=>y⟩
  ·rintro r st' ⟨rfl,la,of,rfl,d1,d2,d3,f⟩
   exact⟨rfl,la,of,rfl,d1,d3,f,λy=>absurd y (by omega)⟩
  ·rintro r st' ⟨rfl,la,of,rfl,d1,d3,f,ft⟩
   dsimp only
   refine bi8 (R3 (l:=h+1-min of (h+1)) (g:=h-la) c hk ok o hz mono (by omega) (by omega) (λi hi=>?_) (λi i1 i2=>monf (h-la) i i1 i2 f) λk k1 k2 k3=>bj4 (hq k k1 k2 k3))
   rcases bm7 of (h+1) with y|y
   ·exact mono i (h-of) (by omega) (by omega) (ft y)
   ·exact absurd hi (by omega)
end
def mD:Nat->StateT SortSt Sem Unit:=sortPriv% PySem.Builtin.setMinGallop
def wY:Array Keyed->Array Keyed->StateT SortSt Sem (Array Keyed):=sortPriv% PySem.Builtin.mergeLo
theorem aH3 (g:Nat):mD g=modify (λst=>SortSt.mk' (kindOf st) (arrOf st) (pendingOf st) g (failedOf st)):=rfl
abbrev LS:=Option (Array Keyed)×Array Keyed×Nat×Nat×Nat×Nat×Nat
abbrev wZ:=Option (Array Keyed)×Array Keyed×Nat×Nat×Nat×Nat
abbrev LO:=Option (Array Keyed)×Array Keyed×Nat×Nat×Nat
def rP (x y o:Array Keyed)(i j mg p q:Nat):StateT SortSt Sem (ForInStep LS):=do
 let v <- elem' x i
 if (i+1+1==x.size)=true then pure (.done (some (o.push v++y.extract j y.size++x.extract (i+1) x.size),o.push v,i+1,j,mg,p,q))
 else if (decide (p<7)&&decide (q<7))=true then pure (.done (none,o.push v,i+1,j,mg,p,q)) else pure (.yield (none,o.push v,i+1,j,mg,p,q))
def rQ (x y o:Array Keyed)(i j mg p q:Nat):StateT SortSt Sem (ForInStep LS):=do
 let v <- elem' y j
 if (j+1==y.size)=true then pure (.done (some (o.push v++x.extract i x.size++y.extract (j+1) y.size),o.push v,i,j+1,mg,p,q)) else do
  let u <- elem' x i
  match <- jK true u y (j+1) (y.size-(j+1)) 0 with
  |some k=>
   if k>0 then
    if (j+1+k==y.size)=true then pure (.done (some (o.push v++y.extract (j+1) (j+1+k)++x.extract i x.size++y.extract (j+1+k) y.size),o.push v++y.extract (j+1) (j+1+k),i,j+1+k,mg,p,k))
    else rP x y (o.push v++y.extract (j+1) (j+1+k)) i (j+1+k) mg p k
   else rP x y (o.push v) i (j+1) mg p k
  |_=>pure (.done (some (o.push v++x.extract i x.size++y.extract (j+1) y.size),o.push v,i,j+1,mg,p,q))
def rR (x y o:Array Keyed)(i j mg p q:Nat):StateT SortSt Sem (ForInStep LS):=do
 mD mg
 let v <- elem' y j
 match <- jK false v x i (x.size-i) 0 with
 |some k=>
  if k>0 then
   if (i+k+1==x.size)=true then pure (.done (some (o++x.extract i (i+k)++y.extract j y.size++x.extract (i+k) x.size),o++x.extract i (i+k),i+k,j,mg,k,q))
   else if (i+k==x.size)=true then pure (.done (some (o++x.extract i (i+k)++x.extract (i+k) x.size++y.extract j y.size),o++x.extract i (i+k),i+k,j,mg,k,q))
   else rQ x y (o++x.extract i (i+k)) (i+k) j mg k q
  else rQ x y o i j mg k q
 |_=>pure (.done (some (o++x.extract i x.size++y.extract j y.size),o,i,j,mg,p,q))
def x3 (x y o:Array Keyed)(i j mg p q:Nat):StateT SortSt Sem LS:=forIn [0:x.size+y.size] ((none,o,i,j,mg,p,q):LS) λ_ r=>
 if r.2.2.2.2.1>1 then rR x y r.2.1 r.2.2.1 r.2.2.2.1 (r.2.2.2.2.1-1) r.2.2.2.2.2.1 r.2.2.2.2.2.2 else rR x y r.2.1 r.2.2.1 r.2.2.2.1 r.2.2.2.2.1 r.2.2.2.2.2.1 r.2.2.2.2.2.2
def x4 (x y o:Array Keyed)(i j mg:Nat):StateT SortSt Sem wZ:=forIn [0:x.size+y.size] ((none,o,i,j,0,0):wZ) λ_ r=>do
 let v <- elem' y r.2.2.2.1
 let u <- elem' x r.2.2.1
 match <- lt' v u with
 |some q=>
  if q=true then do
   let v <- elem' y r.2.2.2.1
   if (r.2.2.2.1+1==y.size)=true then pure (.done (some (r.2.1.push v++x.extract r.2.2.1 x.size++y.extract (r.2.2.2.1+1) y.size),r.2.1.push v,r.2.2.1,r.2.2.2.1+1,0,r.2.2.2.2.2+1))
   else if r.2.2.2.2.2+1 >= mg then pure (.done (none,r.2.1.push v,r.2.2.1,r.2.2.2.1+1,0,r.2.2.2.2.2+1)) else pure (.yield (none,r.2.1.push v,r.2.2.1,r.2.2.2.1+1,0,r.2.2.2.2.2+1))
  else do
   let u <- elem' x r.2.2.1
   if (r.2.2.1+1+1==x.size)=true then pure (.done (some (r.2.1.push u++y.extract r.2.2.2.1 y.size++x.extract (r.2.2.1+1) x.size),r.2.1.push u,r.2.2.1+1,r.2.2.2.1,r.2.2.2.2.1+1,0))
   else if r.2.2.2.2.1+1 >= mg then pure (.done (none,r.2.1.push u,r.2.2.1+1,r.2.2.2.1,r.2.2.2.2.1+1,0)) else pure (.yield (none,r.2.1.push u,r.2.2.1+1,r.2.2.2.1,r.2.2.2.2.1+1,0))
 |_=>pure (.done (some (r.2.1++x.extract r.2.2.1 x.size++y.extract r.2.2.2.1 y.size),r.2.1,r.2.2.1,r.2.2.2.1,r.2.2.2.2.1,r.2.2.2.2.2))
def R4 (x y o:Array Keyed)(i j mg:Nat):StateT SortSt Sem LO:=forIn [0:x.size+y.size] ((none,o,i,j,mg):LO) λ_ r=>do
 let u <- x4 x y r.2.1 r.2.2.1 r.2.2.2.1 r.2.2.2.2
 match u.1 with
 |some z=>pure (.done (some z,u.2.1,u.2.2.1,u.2.2.2.1,r.2.2.2.2))
 |none=>do
  liftM (rule "list.sort.gallop")
  let v <- x3 x y u.2.1 u.2.2.1 u.2.2.2.1 (r.2.2.2.2+1) u.2.2.2.2.1 u.2.2.2.2.2
  match v.1 with
  |some z=>pure (.done (some z,v.2.1,v.2.2.1,v.2.2.2.1,v.2.2.2.2.1))
  |none=>do
   mD (v.2.2.2.2.1+1)
   pure (.yield (none,v.2.1,v.2.2.1,v.2.2.2.1,v.2.2.2.2.1+1))
theorem aH4 (x y:Array Keyed):wY x y=(do
 liftM (rule "list.sort.merge-lo")
 let v <- elem' y 0
 if (1==y.size)=true then pure (#[v]++x.extract 0 x.size++y.extract 1 y.size)
 else if (0+1==x.size)=true then pure (#[v]++y.extract 1 y.size++x.extract 0 x.size)
 else do
  let z <- get
  let r <- R4 x y #[v] 0 1 (gallopOf z)
  match r.1 with
  |some z=>pure z
  |none=>unsupported "internal:list.sort.merge-bound"):=by kernel_rfl
section
variable (rk:Keyed→Int)
def Sd (l:List Keyed):Prop:=l.Pairwise λa b=>rk a<=rk b
structure MI (xs ys o:List Keyed)(i j:Nat):Prop where
 pm:o.Perm (xs.take i++ys.take j)
 sx:Sd rk (o++xs.drop i)
 sy:Sd rk (o++ys.drop j)
end
variable {rk:Keyed→Int}{xs ys o:List Keyed}{i j:Nat}
theorem Sd.ins {o a b d:List Keyed}(h1:Sd rk (o++a))(h2:Sd rk (o++(b++d)))(h:∀u∈b,∀t∈a,rk u<=rk t):Sd rk ((o++b)++a):=by
 unfold Sd at *
 rw[bk6]
 obtain⟨p1,p2,p3⟩:=bn0.mp h1
 obtain⟨q1,q2,q3⟩:=bn0.mp h2
 obtain⟨r1,r2,r3⟩:=bn0.mp q2
 refine bn0.mpr ⟨p1,bn0.mpr ⟨r1,p2,h⟩,λu hu t ht=>?_⟩
 rcases bl5.mp ht with z|z
 ·exact q3 u hu t (bs0 _ z)
 ·exact p3 u hu t z
theorem MI.ofy (m:MI rk xs ys o i j)(k:Nat)(h:∀u∈(ys.drop j).take k,∀t∈xs.drop i,rk u<=rk t):MI rk xs ys (o++(ys.drop j).take k) i (j+k):=by
 have e:(ys.drop j).take k++ys.drop (j+k)=ys.drop j:=by rw[<- List.drop_drop];exact bn3 k _
 refine⟨?_,Sd.ins m.sx (d:=ys.drop (j+k)) (by rw[e];exact m.sy) h,by rw[bk6,e];exact m.sy⟩
 rw[List.take_add,<- bk6]
 exact m.pm.append_right _
theorem MI.ofx (m:MI rk xs ys o i j)(k:Nat)(h:∀u∈(xs.drop i).take k,∀t∈ys.drop j,rk u<=rk t):MI rk xs ys (o++(xs.drop i).take k) (i+k) j:=by
 have e:(xs.drop i).take k++xs.drop (i+k)=xs.drop i:=by rw[<- List.drop_drop];exact bn3 k _
 refine⟨?_,by rw[bk6,e];exact m.sx,Sd.ins m.sy (d:=xs.drop (i+k)) (by rw[e];exact m.sx) h⟩
 rw[List.take_add]
 refine (m.pm.append_right _).trans ?_
 rw[bk6,bk6]
 exact (List.perm_append_comm).append_left _
theorem MI.fin (m:MI rk xs ys o i j)(h:xs.length<=i∨ys.length<=j):(o++xs.drop i++ys.drop j).Perm (xs++ys)/\Sd rk (o++xs.drop i++ys.drop j):=by
 refine⟨?_,?_⟩
 ·rw[bk6]
  refine (m.pm.append_right _).trans ?_
  have e1:xs=xs.take i++xs.drop i:=(bn3 i xs).symm
  have e2:ys=ys.take j++ys.drop j:=(bn3 j ys).symm
  conv=>rhs;rw[e1,e2]
  rw[bk6,bk6]
  refine List.Perm.append_left _ ?_
  rw[<- bk6,<- bk6]
  exact (List.perm_append_comm).append_right _
 ·rcases h with h|h
  ·rw[List.drop_eq_nil_of_le h,bn4];exact m.sy
  ·rw[List.drop_eq_nil_of_le h,bn4];exact m.sx
theorem MI.lst (m:MI rk xs ys o i j)(h:∀u∈ys,∀t∈xs.drop i,rk u<=rk t):(o++ys.drop j++xs.drop i).Perm (xs++ys)/\Sd rk (o++ys.drop j++xs.drop i):=by
 have m2:=m.ofy ys.length λu hu t ht=>h u (List.mem_of_mem_drop (List.mem_of_mem_take hu)) t ht
 have e:(ys.drop j).take ys.length=ys.drop j:=br0 (by simp)
 rw[e]at m2
 have f:=m2.fin (.inr (by omega))
 rw[List.drop_eq_nil_of_le (as:=ys) (i:=j+ys.length) (by omega),bn4]at f
 exact f
theorem R5 {x:Array Keyed}{i k:Nat}{u:Keyed}(h:u∈(x.toList.drop i).take k):∃t,t<k/\i+t<x.size/\rk u=Kr rk x (i+t):=by
 obtain⟨t,ht,e⟩:=bs7 h
 have h1:t<k/\i+t<x.size:=by simp at ht;omega
 refine⟨t,h1.1,h1.2,?_⟩
 rw[bV h1.2,<- e]
 simp
theorem oH {x:Array Keyed}{i:Nat}{u:Keyed}(h:u∈x.toList.drop i):∃t,i+t<x.size/\rk u=Kr rk x (i+t):=by
 obtain⟨t,ht,e⟩:=bs7 h
 have h1:i+t<x.size:=by simp at ht;omega
 refine⟨t,h1,?_⟩
 rw[bV h1,<- e]
 simp
theorem Sd.up {x:Array Keyed}(h:Sd rk x.toList)(lo hi:Nat)(hh:hi<=x.size):Up rk x lo hi:=λi j _ hij hj=>by
 rw[bV (by omega:i<x.size),bV (by omega:j<x.size)]
 rcases bw4 hij with z|z
 ·subst z;exact bs1 _
 ·have:=bl7.mp h i j (by simp;omega) (by simp;omega) z
  simpa using this
theorem R6 (x:Array Keyed)(i k:Nat):(x.extract i (i+k)).toList=(x.toList.drop i).take k:=by
 simp[List.extract]
theorem rS (x:Array Keyed)(i:Nat):(x.extract i x.size).toList=x.toList.drop i:=by
 simp[List.extract]
 exact br0 (by simp)
theorem kO {x:Array Keyed}{i:Nat}(h:i<x.size):[x[i]]=(x.toList.drop i).take 1:=by
 rw[List.drop_eq_getElem_cons (by simpa using h)];simp
structure Gq (st st':SortSt):Prop where
 kd:kindOf st'=kindOf st
 ar:arrOf st'=arrOf st
 pd:pendingOf st'=pendingOf st
 ok:failedOf st'=failedOf st
theorem Gq.refl (st:SortSt):Gq st st:=⟨rfl,rfl,rfl,rfl⟩
section
variable {κ:SortKind}{st:SortSt}{prog:Program}{w:World}{A:Around}{E:Value→Shared→Prop}{s:Shared}{Ok:Keyed→Prop}
theorem rT {st0:SortSt}{g:Nat}{Q:Unit->SortSt->Prop}(q:Gq st0 st)(h:∀st',Gq st0 st'->Q () st'):wpS (model prog w) A E s (mD g) Q st:=by
 rw[aH3];exact wpS_modify (h _ ⟨q.kd,q.ar,q.pd,q.ok⟩)
def dO (rk:Keyed->Int)(x y r:Array Keyed):Prop:=r.toList.Perm (x.toList++y.toList)/\Sd rk r.toList
theorem MI.y1 {x y o:Array Keyed}(m:MI rk x.toList y.toList o.toList i j)(hj:j<y.size)(h:∀t,i+t<x.size->rk y[j]<=Kr rk x (i+t)):MI rk x.toList y.toList (o.push y[j]).toList i (j+1):=by
 have:=m.ofy 1 λu hu t ht=>?_
 ·rw[<- kO hj]at this;simpa using this
 ·rw[<- kO hj,bi6]at hu
  subst hu
  obtain⟨q,q1,q2⟩:=oH (rk:=rk) ht
  rw[q2];exact h q q1
theorem MI.x1 {x y o:Array Keyed}(m:MI rk x.toList y.toList o.toList i j)(hi:i<x.size)(h:∀t,j+t<y.size->rk x[i]<=Kr rk y (j+t)):MI rk x.toList y.toList (o.push x[i]).toList (i+1) j:=by
 have:=m.ofx 1 λu hu t ht=>?_
 ·rw[<- kO hi]at this;simpa using this
 ·rw[<- kO hi,bi6]at hu
  subst hu
  obtain⟨q,q1,q2⟩:=oH (rk:=rk) ht
  rw[q2];exact h q q1
theorem MI.yk {x y o:Array Keyed}(m:MI rk x.toList y.toList o.toList i j)(k:Nat)(h:∀p t,p<k->j+p<y.size->i+t<x.size->Kr rk y (j+p)<=Kr rk x (i+t)):MI rk x.toList y.toList (o++y.extract j (j+k)).toList i (j+k):=by
 have:=m.ofy k λu hu t ht=>?_
 ·rw[<- R6]at this;rw[bp8];exact this
 ·obtain⟨p,p1,p2,p3⟩:=R5 (rk:=rk) hu
  obtain⟨q,q1,q2⟩:=oH (rk:=rk) ht
  rw[q2,p3];exact h p q p1 p2 q1
theorem MI.xk {x y o:Array Keyed}(m:MI rk x.toList y.toList o.toList i j)(k:Nat)(h:∀p t,p<k->i+p<x.size->j+t<y.size->Kr rk x (i+p)<=Kr rk y (j+t)):MI rk x.toList y.toList (o++x.extract i (i+k)).toList (i+k) j:=by
 have:=m.ofx k λu hu t ht=>?_
 ·rw[<- R6]at this;rw[bp8];exact this
 ·obtain⟨p,p1,p2,p3⟩:=R5 (rk:=rk) hu
  obtain⟨q,q1,q2⟩:=oH (rk:=rk) ht
  rw[q2,p3];exact h p q p1 p2 q1
theorem mE {key:Keyed}{xs:Array Keyed}{bs i:Nat}:bN rk false key xs bs i=decide (Kr rk xs (bs+i)<=rk key):=rfl
theorem mF {key:Keyed}{xs:Array Keyed}{bs i:Nat}:bN rk true key xs bs i=decide (Kr rk xs (bs+i)<rk key):=rfl
def GI (rk:Keyed->Int)(x y:Array Keyed)(lb:Nat)(st:SortSt)(c:LS)(st':SortSt):Prop:=Gq st st'/\∃o i j mg p q,c=(none,o,i,j,mg,p,q)/\MI rk x.toList y.toList o.toList i j/\i+1<x.size/\j<y.size/\lb<=i+j
def GQ (rk:Keyed->Int)(x y:Array Keyed)(lb:Nat)(st:SortSt)(c:LS)(st':SortSt):Prop:=Gq st st'/\((∃r o i j mg p q,c=(some r,o,i,j,mg,p,q)/\dO rk x y r)∨∃o i j mg p q,c=(none,o,i,j,mg,p,q)/\MI rk x.toList y.toList o.toList i j/\i+1<x.size/\j<y.size/\lb<=i+j)
def GR (rk:Keyed->Int)(x y:Array Keyed)(lb:Nat)(st:SortSt)(r:ForInStep LS)(st':SortSt):Prop:=match r with|.done c=>GQ rk x y lb st c st'|.yield c=>GI rk x y lb st c st'
theorem MI.done {x y o:Array Keyed}(m:MI rk x.toList y.toList o.toList i j)(hh:x.size<=i∨y.size<=j):dO rk x y (o++x.extract i x.size++y.extract j y.size):=by
 unfold dO
 rw[bp8,bp8,rS,rS]
 exact m.fin (by simpa using hh)
theorem MI.last {x y o:Array Keyed}(m:MI rk x.toList y.toList o.toList i j)(x0:0<x.size)(hl:∀u∈y.toList,rk u<=rk x[x.size-1])(hh:i+1=x.size):dO rk x y (o++y.extract j y.size++x.extract i x.size):=by
 unfold dO
 rw[bp8,bp8,rS,rS]
 refine m.lst λu hu t ht=>?_
 obtain⟨q,q1,q2⟩:=oH (rk:=rk) ht
 have e:i+q=x.size-1:=by omega
 rw[q2,e,bV (by omega)]
 exact hl u hu
theorem R7 {st0:SortSt}{x y o:Array Keyed}{mg p q lb:Nat}(x0:0<x.size)(hl:∀u∈y.toList,rk u<=rk x[x.size-1])(g:Gq st0 st)(m:MI rk x.toList y.toList o.toList i j)(hi:i+1<x.size)(hj:j<y.size)(hb:lb<=i+j)(hm:∀t,j+t<y.size->rk x[i]<=Kr rk y (j+t)):wpS (model prog w) A E s (rP x y o i j mg p q) (GR rk x y lb st0) st:=by
 unfold rP
 have hi':i<x.size:=by omega
 have m':=m.x1 hi' hm
 refine bi8 (cP hi' ?_)
 by_cases he:(i+1+1==x.size)=true
 ·rw[if_pos he]
  have he:i+1+1=x.size:=by simpa using he
  exact bj4 ⟨g,.inl ⟨_,_,_,_,_,_,_,rfl,m'.last x0 hl he⟩⟩
 ·rw[if_neg he]
  have he:i+1+1≠x.size:=by simpa using he
  split
  ·exact bj4 ⟨g,.inr ⟨_,_,_,_,_,_,rfl,m',by omega,hj,by omega⟩⟩
  ·exact bj4 ⟨g,_,_,_,_,_,_,rfl,m',by omega,hj,by omega⟩
theorem R8 (c:bW prog w A E s κ Ok rk){st0:SortSt}(hk:kindOf st0=κ){x y o:Array Keyed}{mg p q lb:Nat}(ox:bE Ok x)(oy:bE Ok y)(sx:Sd rk x.toList)(sy:Sd rk y.toList)(x0:0<x.size)(hl:∀u∈y.toList,rk u<=rk x[x.size-1])(g:Gq st0 st)(m:MI rk x.toList y.toList o.toList i j)(hi:i+1<x.size)(hj:j<y.size)(hb:lb<=i+j)(hm:∀t,i+t<x.size->rk y[j]<=Kr rk x (i+t)):wpS (model prog w) A E s (rQ x y o i j mg p q) (GR rk x y lb st0) st:=by
 unfold rQ
 have hi':i<x.size:=by omega
 have m':=m.y1 hj hm
 refine bi8 (cP hj ?_)
 by_cases he:(j+1==y.size)=true
 ·rw[if_pos he]
  have he:j+1=y.size:=by simpa using he
  exact bj4 ⟨g,.inl ⟨_,_,_,_,_,_,_,rfl,m'.done (.inr (by omega))⟩⟩
 ·rw[if_neg he]
  have he:j+1≠y.size:=by simpa using he
  refine bi8 (cP hi' (bi8 (mC c (g.kd.trans hk) (ox _ (bn1 hi')) oy (by omega) (by omega) (sy.up _ _ (by omega)) λk k1 k2 k3=>?_)))
  dsimp only
  have ux:=sx.up 0 _ (bh8 x.size)
  have mk:=m'.yk k λp t hp _ ht=>by
   have a1:=k2 p hp
   rw[mF,bk3]at a1
   have a2:=ux i (i+t) (by omega) (by omega) ht
   rw[bV hi']at a2
   omega
  have km:∀t,j+1+k+t<y.size->rk x[i]<=Kr rk y (j+1+k+t):=λt ht=>by
   have a1:=k3 (k+t) (by omega) (by omega)
   rw[mF,bq6,<- Nat.add_assoc]at a1
   omega
  by_cases hk0:k>0
  ·rw[if_pos hk0]
   by_cases hf:(j+1+k==y.size)=true
   ·rw[if_pos hf]
    have hf:j+1+k=y.size:=by simpa using hf
    exact bj4 ⟨g,.inl ⟨_,_,_,_,_,_,_,rfl,mk.done (.inr (by omega))⟩⟩
   ·rw[if_neg hf]
    have hf:j+1+k≠y.size:=by simpa using hf
    exact R7 x0 hl g mk hi (by omega) (by omega) km
  ·rw[if_neg hk0]
   have e0:k=0:=by omega
   subst e0
   exact R7 x0 hl g m' hi (by omega) (by omega) km
theorem R9 (c:bW prog w A E s κ Ok rk){st0:SortSt}(hk:kindOf st0=κ){x y o:Array Keyed}{mg p q lb:Nat}(ox:bE Ok x)(oy:bE Ok y)(sx:Sd rk x.toList)(sy:Sd rk y.toList)(x0:0<x.size)(hl:∀u∈y.toList,rk u<=rk x[x.size-1])(g:Gq st0 st)(m:MI rk x.toList y.toList o.toList i j)(hi:i+1<x.size)(hj:j<y.size)(hb:lb<=i+j) :
  wpS (model prog w) A E s (rR x y o i j mg p q) (GR rk x y lb st0) st:=by
 unfold rR
 refine bi8 (rT g λst4 q4=>bi8 (cP hj (bi8 (mC c (q4.kd.trans hk) (oy _ (bn1 hj)) ox (by omega) (by omega) (sx.up _ _ (by omega)) λk k1 k2 k3=>?_))))
 dsimp only
 have uy:=sy.up 0 _ (bh8 y.size)
 have mk:=m.xk k λp t hp _ ht=>by
  have a1:=k2 p hp
  rw[mE,bk3]at a1
  have a2:=uy j (j+t) (by omega) (by omega) ht
  rw[bV hj]at a2
  omega
 have km:∀t,i+k+t<x.size->rk y[j]<=Kr rk x (i+k+t):=λt ht=>by
  have a1:=k3 (k+t) (by omega) (by omega)
  rw[mE,bq6,<- Nat.add_assoc]at a1
  omega
 by_cases hk0:k>0
 ·rw[if_pos hk0]
  by_cases he:(i+k+1==x.size)=true
  ·rw[if_pos he]
   exact bj4 ⟨q4,.inl ⟨_,_,_,_,_,_,_,rfl,mk.last x0 hl (by simpa using he)⟩⟩
  ·rw[if_neg he]
   have he:i+k+1≠x.size:=by simpa using he
   by_cases hf:(i+k==x.size)=true
   ·rw[if_pos hf]
    have hf:i+k=x.size:=by simpa using hf
    exact bj4 ⟨q4,.inl ⟨_,_,_,_,_,_,_,rfl,mk.done (.inl (by omega))⟩⟩
   ·rw[if_neg hf]
    have hf:i+k≠x.size:=by simpa using hf
    exact R8 c hk ox oy sx sy x0 hl q4 mk (by omega) hj (by omega) km
 ·rw[if_neg hk0]
  have e0:k=0:=by omega
  subst e0
  exact R8 c hk ox oy sx sy x0 hl q4 m hi hj hb km
theorem aH5 (c:bW prog w A E s κ Ok rk){st0:SortSt}(hk:kindOf st0=κ){x y o:Array Keyed}{mg p q lb:Nat}(ox:bE Ok x)(oy:bE Ok y)(sx:Sd rk x.toList)(sy:Sd rk y.toList)(x0:0<x.size)(hl:∀u∈y.toList,rk u<=rk x[x.size-1])(g:Gq st0 st)(m:MI rk x.toList y.toList o.toList i j)(hi:i+1<x.size)(hj:j<y.size)(hb:lb<=i+j) :
  wpS (model prog w) A E s (x3 x y o i j mg p q) (GQ rk x y lb st0) st:=by
 unfold x3
 refine bq9 (I:=λ_=>GI rk x y lb st0) ?_ ?_ ⟨g,o,i,j,_,p,q,rfl,m,hi,hj,hb⟩
 ·rintro t c3 st3 _ _ ⟨q3,o,i,j,mg,p,q,rfl,m,hi,hj,pr3⟩
  dsimp only
  split
  ·exact bx3 (R9 c hk ox oy sx sy x0 hl q3 m hi hj pr3) λr _ hr=>by cases r<;>exact hr
  ·exact bx3 (R9 c hk ox oy sx sy x0 hl q3 m hi hj pr3) λr _ hr=>by cases r<;>exact hr
 ·rintro c3 st3 ⟨q3,o,i,j,mg,p,q,rfl,m,hi,hj,pr3⟩
  exact⟨q3,.inr ⟨_,_,_,_,_,_,rfl,m,hi,hj,pr3⟩⟩
theorem aH6 (c:bW prog w A E s κ Ok rk){st0:SortSt}(hk:kindOf st0=κ){x y o:Array Keyed}{mg:Nat}{Q:wZ->SortSt->Prop}(ox:bE Ok x)(oy:bE Ok y)(sx:Sd rk x.toList)(sy:Sd rk y.toList)(x0:0<x.size)(hl:∀u∈y.toList,rk u<=rk x[x.size-1])(g:Gq st0 st)(m:MI rk x.toList y.toList o.toList i j)(hi:i+1<x.size)(hj:j<y.size)(h1:∀r o' i' j' p q st',Gq st0 st'->dO rk x y r->Q (some r,o',i',j',p,q) st')(h2:∀o' i' j' p q st',Gq st0 st'->MI rk x.toList y.toList o'.toList i' j'->i'+1<x.size->j'<y.size->i+j+1<=i'+j'->Q (none,o',i',j',p,q) st') :
  wpS (model prog w) A E s (x4 x y o i j mg) Q st:=by
 have ux:Up rk x 0 x.size:=sx.up 0 _ (bh8 _)
 have uy:Up rk y 0 y.size:=sy.up 0 _ (bh8 _)
 unfold x4
 refine bq9 (I:=λt c st'=>Gq st0 st'/\∃o i' j' p q,c=(none,o,i',j',p,q)/\MI rk x.toList y.toList o.toList i' j'/\i'+1<x.size/\j'<y.size/\i+j+t<=i'+j') ?_ ?_ ⟨g,o,i,j,0,0,rfl,m,hi,hj,by omega⟩
 ·rintro t c2 st2 _ ht ⟨q2,o,i',j',p,q,rfl,m,hi,hj,pr2⟩
  dsimp only
  have hi':i'<x.size:=by omega
  refine bi8 (cP hj (bi8 (cP hi' (bi8 (c _ _ (oy _ (bn1 hj)) (ox _ (bn1 hi')) st2 _ (q2.kd.trans hk) ?_)))))
  by_cases hc:rk y[j']<rk x[i']
  ·rw[bi9 hc]
   dsimp only
   rw[if_pos rfl]
   have m':=m.y1 hj λt ht=>by
    have:=ux i' (i'+t) (by omega) (by omega) ht
    rw[bV hi']at this
    omega
   refine bi8 (cP hj ?_)
   by_cases he:(j'+1==y.size)=true
   ·rw[if_pos he]
    have he:j'+1=y.size:=by simpa using he
    exact bj4 (h1 _ _ _ _ _ _ _ q2 (m'.done (.inr (by omega))))
   ·rw[if_neg he]
    have he:j'+1≠y.size:=by simpa using he
    split
    ·exact bj4 (h2 _ _ _ _ _ _ q2 m' hi (by omega) (by omega))
    ·exact bj4 ⟨q2,_,_,_,_,_,rfl,m',hi,by omega,by omega⟩
  ·rw[bi2 hc]
   dsimp only
   rw[if_neg bj3]
   have m':=m.x1 hi' λt ht=>by
    have:=uy j' (j'+t) (by omega) (by omega) ht
    rw[bV hj]at this
    omega
   refine bi8 (cP hi' ?_)
   by_cases he:(i'+1+1==x.size)=true
   ·rw[if_pos he]
    exact bj4 (h1 _ _ _ _ _ _ _ q2 (m'.last x0 hl (by simpa using he)))
   ·rw[if_neg he]
    have he:i'+1+1≠x.size:=by simpa using he
    split
    ·exact bj4 (h2 _ _ _ _ _ _ q2 m' (by omega) hj (by omega))
    ·exact bj4 ⟨q2,_,_,_,_,_,rfl,m',by omega,hj,by omega⟩
 ·rintro c2 st2 ⟨q2,o,i',j',p,q,rfl,m,hi,hj,pr2⟩
  exact h2 _ _ _ _ _ _ q2 m hi hj (by omega)
theorem aH7 (c:bW prog w A E s κ Ok rk)(hk:kindOf st=κ){x y:Array Keyed}{Q:Array Keyed->SortSt->Prop}(ox:bE Ok x)(oy:bE Ok y)(sx:Sd rk x.toList)(sy:Sd rk y.toList)(x0:0<x.size)(y0:0<y.size)(hf:∀t∈x.toList,rk y[0]<=rk t)(hl:∀u∈y.toList,rk u<=rk x[x.size-1])(h:∀r st',Gq st st'->dO rk x y r->Q r st'):wpS (model prog w) A E s (wY x y) Q st:=by
 rw[aH4]
 refine bi8 (wpS_lift (bv5 ⟨rfl,bi8 (cP y0 ?_)⟩))
 have m0:MI rk x.toList y.toList (#[y[0]]:Array Keyed).toList 0 1:=by
  have mm:MI rk x.toList y.toList [] 0 0:=⟨by simp,sx,sy⟩
  have:=mm.ofy 1 λu hu t ht=>?_
  ·rw[<- kO y0]at this;exact this
  ·rw[<- kO y0,bi6]at hu
   subst hu
   exact hf t ht
 by_cases e1:(1==y.size)=true
 ·rw[if_pos e1]
  have e1:1=y.size:=by simpa using e1
  exact bj4 (h _ st (Gq.refl st) (m0.done (.inr (by omega))))
 ·rw[if_neg e1]
  have e1:1≠y.size:=by simpa using e1
  by_cases e2:(0+1==x.size)=true
  ·rw[if_pos e2]
   exact bj4 (h _ st (Gq.refl st) (m0.last x0 hl (by simpa using e2)))
  ·rw[if_neg e2]
   have e2:0+1≠x.size:=by simpa using e2
   refine bi8 (wpS_get ?_)
   unfold R4
   refine bi8 (bx3 (bq9
    (I:=λn c st'=>Gq st st'/\∃o i j mg,c=(none,o,i,j,mg)/\MI rk x.toList y.toList o.toList i j/\i+1<x.size/\j<y.size/\n+1<=i+j)
    (Q:=λc st'=>Gq st st'/\∃r o i j mg,c=(some r,o,i,j,mg)/\dO rk x y r) ?_ ?_ ⟨Gq.refl st,_,0,1,_,rfl,m0,by omega,by omega,by omega⟩) ?_)
   ·rintro n c1 st1 _ hn ⟨q1,o,i,j,mg,rfl,m,hi,hj,pr⟩
    dsimp only
    refine bi8 (aH6 c hk ox oy sx sy x0 hl q1 m hi hj (λr o' i' j' p q st' g md=>bj4 ⟨g,r,_,_,_,_,rfl,md⟩) λo' i' j' p q st' g m' hi' hj' pr'=>?_)
    refine bi8 (wpS_lift (bv5 ⟨rfl,?_⟩))
    refine bi8 (bx3 (aH5 c hk ox oy sx sy x0 hl g m' hi' hj' pr') ?_)
    rintro c3 st3 ⟨q3,⟨r,o,i3,j3,mg,p,q,rfl,md⟩|⟨o,i3,j3,mg,p,q,rfl,m,hi,hj,pr3⟩⟩
    ·exact bj4 ⟨q3,r,_,_,_,_,rfl,md⟩
    ·exact bi8 (rT q3 λst4 q4=>bj4 ⟨q4,o,i3,j3,_,rfl,m,hi,hj,by omega⟩)
   ·rintro c1 st1 ⟨q1,o,i,j,mg,rfl,m,hi,hj,pr⟩
    exact absurd pr (by omega)
   ·rintro c1 st1 ⟨q1,r,o,i,j,mg,rfl,md⟩
    exact bj4 (h r _ q1 md)
end
def x5:Array Keyed->Array Keyed->StateT SortSt Sem (Array Keyed):=sortPriv% PySem.Builtin.mergeHi
abbrev LH:=Option (Array Keyed)×Nat×Nat×Array Keyed×Nat×Nat×Nat
abbrev x8:=Option (Array Keyed)×Nat×Nat×Array Keyed×Nat×Nat
abbrev LP:=Option (Array Keyed)×Nat×Nat×Array Keyed×Nat
def rV (x y o:Array Keyed)(i j mg p q:Nat):StateT SortSt Sem (ForInStep LH):=do
 let v <- elem' x (i-1)
 if (i-1==0)=true then pure (.done (some (x.extract 0 (i-1)++y.extract 0 j++(o.push v).reverse),i-1,j,o.push v,mg,p,q))
 else if (decide (p<7)&&decide (q<7))=true then pure (.done (none,i-1,j,o.push v,mg,p,q)) else pure (.yield (none,i-1,j,o.push v,mg,p,q))
def rW (x y o:Array Keyed)(i j mg p q:Nat):StateT SortSt Sem (ForInStep LH):=do
 let v <- elem' y (j-1)
 if (j-1==1)=true then pure (.done (some (y.extract 0 (j-1)++x.extract 0 i++(o.push v).reverse),i,j-1,o.push v,mg,p,q)) else do
  let u <- elem' x (i-1)
  match <- jK true u y 0 (j-1) (j-1-1) with
  |some z=>
   if j-1-z>0 then
    if (z==1)=true then pure (.done (some (y.extract 0 z++x.extract 0 i++(o.push v++(y.extract z (j-1)).reverse).reverse),i,z,o.push v++(y.extract z (j-1)).reverse,mg,p,j-1-z))
    else if (z==0)=true then pure (.done (some (x.extract 0 i++y.extract 0 z++(o.push v++(y.extract z (j-1)).reverse).reverse),i,z,o.push v++(y.extract z (j-1)).reverse,mg,p,j-1-z))
    else rV x y (o.push v++(y.extract z (j-1)).reverse) i z mg p (j-1-z)
   else rV x y (o.push v) i (j-1) mg p (j-1-z)
  |_=>pure (.done (some (x.extract 0 i++y.extract 0 (j-1)++(o.push v).reverse),i,j-1,o.push v,mg,p,q))
def rX (x y o:Array Keyed)(i j mg p q:Nat):StateT SortSt Sem (ForInStep LH):=do
 mD mg
 let v <- elem' y (j-1)
 match <- jK false v x 0 i (i-1) with
 |some z=>
  if i-z>0 then
   if (z==0)=true then pure (.done (some (x.extract 0 z++y.extract 0 j++(o++(x.extract z i).reverse).reverse),z,j,o++(x.extract z i).reverse,mg,i-z,q))
   else rW x y (o++(x.extract z i).reverse) z j mg (i-z) q
  else rW x y o i j mg (i-z) q
 |_=>pure (.done (some (x.extract 0 i++y.extract 0 j++o.reverse),i,j,o,mg,p,q))
def x9 (x y o:Array Keyed)(i j mg p q:Nat):StateT SortSt Sem LH:=forIn [0:x.size+y.size] ((none,i,j,o,mg,p,q):LH) λ_ r=>
 if r.2.2.2.2.1>1 then rX x y r.2.2.2.1 r.2.1 r.2.2.1 (r.2.2.2.2.1-1) r.2.2.2.2.2.1 r.2.2.2.2.2.2 else rX x y r.2.2.2.1 r.2.1 r.2.2.1 r.2.2.2.2.1 r.2.2.2.2.2.1 r.2.2.2.2.2.2
def xA (x y o:Array Keyed)(i j mg:Nat):StateT SortSt Sem x8:=forIn [0:x.size+y.size] ((none,i,j,o,0,0):x8) λ_ r=>do
 let v <- elem' y (r.2.2.1-1)
 let u <- elem' x (r.2.1-1)
 match <- lt' v u with
 |some q=>
  if q=true then do
   let u <- elem' x (r.2.1-1)
   if (r.2.1-1==0)=true then pure (.done (some (x.extract 0 (r.2.1-1)++y.extract 0 r.2.2.1++(r.2.2.2.1.push u).reverse),r.2.1-1,r.2.2.1,r.2.2.2.1.push u,r.2.2.2.2.1+1,0))
   else if r.2.2.2.2.1+1 >= mg then pure (.done (none,r.2.1-1,r.2.2.1,r.2.2.2.1.push u,r.2.2.2.2.1+1,0)) else pure (.yield (none,r.2.1-1,r.2.2.1,r.2.2.2.1.push u,r.2.2.2.2.1+1,0))
  else do
   let v <- elem' y (r.2.2.1-1)
   if (r.2.2.1-1==1)=true then pure (.done (some (y.extract 0 (r.2.2.1-1)++x.extract 0 r.2.1++(r.2.2.2.1.push v).reverse),r.2.1,r.2.2.1-1,r.2.2.2.1.push v,0,r.2.2.2.2.2+1))
   else if r.2.2.2.2.2+1 >= mg then pure (.done (none,r.2.1,r.2.2.1-1,r.2.2.2.1.push v,0,r.2.2.2.2.2+1)) else pure (.yield (none,r.2.1,r.2.2.1-1,r.2.2.2.1.push v,0,r.2.2.2.2.2+1))
 |_=>pure (.done (some (x.extract 0 r.2.1++y.extract 0 r.2.2.1++r.2.2.2.1.reverse),r.2.1,r.2.2.1,r.2.2.2.1,r.2.2.2.2.1,r.2.2.2.2.2))
def S0 (x y o:Array Keyed)(i j mg:Nat):StateT SortSt Sem LP:=forIn [0:x.size+y.size] ((none,i,j,o,mg):LP) λ_ r=>do
 let u <- xA x y r.2.2.2.1 r.2.1 r.2.2.1 r.2.2.2.2
 match u.1 with
 |some z=>pure (.done (some z,u.2.1,u.2.2.1,u.2.2.2.1,r.2.2.2.2))
 |none=>do
  liftM (rule "list.sort.gallop")
  let v <- x9 x y u.2.2.2.1 u.2.1 u.2.2.1 (r.2.2.2.2+1) u.2.2.2.2.1 u.2.2.2.2.2
  match v.1 with
  |some z=>pure (.done (some z,v.2.1,v.2.2.1,v.2.2.2.1,v.2.2.2.2.1))
  |none=>do
   mD (v.2.2.2.2.1+1)
   pure (.yield (none,v.2.1,v.2.2.1,v.2.2.2.1,v.2.2.2.2.1+1))
theorem aH8 (x y:Array Keyed):x5 x y=(do
 liftM (rule "list.sort.merge-hi")
 let v <- elem' x (x.size-1)
 if (x.size-1==0)=true then pure (x.extract 0 (x.size-1)++y.extract 0 y.size++(#[v]:Array Keyed).reverse)
 else if (y.size==1)=true then pure (y.extract 0 y.size++x.extract 0 (x.size-1)++(#[v]:Array Keyed).reverse)
 else do
  let z <- get
  let r <- S0 x y #[v] (x.size-1) y.size (gallopOf z)
  match r.1 with
  |some z=>pure z
  |none=>unsupported "internal:list.sort.merge-bound"):=by kernel_rfl
structure MH (rk:Keyed->Int)(xs ys o:List Keyed)(i j:Nat):Prop where
 pm:o.Perm (xs.drop i++ys.drop j)
 sx:Sd rk (xs.take i++o)
 sy:Sd rk (ys.take j++o)
variable {rk:Keyed→Int}{xs ys o:List Keyed}{i j:Nat}
theorem Sd.insR {o a b d:List Keyed}(h1:Sd rk (a++o))(h2:Sd rk ((d++b)++o))(h:∀t∈a,∀u∈b,rk t<=rk u):Sd rk (a++(b++o)):=by
 unfold Sd at *
 obtain⟨p1,p2,p3⟩:=bn0.mp h1
 obtain⟨q1,q2,q3⟩:=bn0.mp h2
 obtain⟨r1,r2,r3⟩:=bn0.mp q1
 refine bn0.mpr ⟨p1,bn0.mpr ⟨r2,p2,λu hu t ht=>q3 u (bl1 _ hu) t ht⟩,λu hu t ht=>?_⟩
 rcases bl5.mp ht with z|z
 ·exact h u hu t z
 ·exact p3 u hu t z
theorem rY (l:List Keyed){z j:Nat}(h:z<=j):l.take z++(l.take j).drop z=l.take j:=by
 have e:l.take z=(l.take j).take z:=by rw[List.take_take,Nat.min_eq_left h]
 rw[e];exact bn3 z _
theorem xB (l:List Keyed){z j:Nat}(h:z<=j):(l.take j).drop z++l.drop j=l.drop z:=by
 rw[bx8,show l.drop j=(l.drop z).drop (j-z) by rw[List.drop_drop,Nat.add_sub_cancel' h]]
 exact bn3 _ _
theorem MH.ofy (m:MH rk xs ys o i j){z:Nat}(hz:z<=j)(h:∀t∈xs.take i,∀u∈(ys.take j).drop z,rk t<=rk u):MH rk xs ys ((ys.take j).drop z++o) i z:=by
 refine⟨?_,Sd.insR m.sx (d:=ys.take z) (by rw[rY _ hz];exact m.sy) h,by rw[<- bk6,rY _ hz];exact m.sy⟩
 rw[<- xB ys hz]
 refine (m.pm.append_left _).trans ?_
 rw[<- bk6,<- bk6]
 exact (List.perm_append_comm).append_right _
theorem MH.ofx (m:MH rk xs ys o i j){z:Nat}(hz:z<=i)(h:∀t∈ys.take j,∀u∈(xs.take i).drop z,rk t<=rk u):MH rk xs ys ((xs.take i).drop z++o) z j:=by
 refine⟨?_,by rw[<- bk6,rY _ hz];exact m.sx,Sd.insR m.sy (d:=xs.take z) (by rw[rY _ hz];exact m.sx) h⟩
 rw[<- xB xs hz,bk6]
 exact m.pm.append_left _
theorem MH.fin (m:MH rk xs ys o i j)(h:i=0∨j=0):(xs.take i++ys.take j++o).Perm (xs++ys)/\Sd rk (xs.take i++ys.take j++o):=by
 refine⟨?_,?_⟩
 ·have e1:xs=xs.take i++xs.drop i:=(bn3 i xs).symm
  have e2:ys=ys.take j++ys.drop j:=(bn3 j ys).symm
  conv=>rhs;rw[e1,e2]
  rw[bk6,bk6]
  refine List.Perm.append_left _ ((m.pm.append_left _).trans ?_)
  rw[<- bk6,<- bk6]
  exact (List.perm_append_comm).append_right _
 ·rcases h with h|h
  ·subst h;simpa using m.sy
  ·subst h;simpa using m.sx
theorem MH.fst (m:MH rk xs ys o i j)(h:∀t∈ys.take j,∀u∈xs,rk t<=rk u):(ys.take j++xs.take i++o).Perm (xs++ys)/\Sd rk (ys.take j++xs.take i++o):=by
 have m2:=m.ofx (bl4 i) λt ht u hu=>h t ht u (List.mem_of_mem_take (List.mem_of_mem_drop hu))
 have f:=m2.fin (.inl rfl)
 simpa using f
theorem oI {x:Array Keyed}{i:Nat}{u:Keyed}(h:u∈x.toList.take i):∃t,t<i/\t<x.size/\rk u=Kr rk x t:=by
 obtain⟨t,ht,e⟩:=bs7 h
 have h1:t<i/\t<x.size:=by simp at ht;omega
 refine⟨t,h1.1,h1.2,?_⟩
 rw[bV h1.2,<- e]
 simp
theorem oJ {x:Array Keyed}{z i:Nat}{u:Keyed}(h:u∈(x.toList.take i).drop z):∃t,z<=t/\t<i/\t<x.size/\rk u=Kr rk x t:=by
 obtain⟨t,ht,e⟩:=bs7 h
 have h1:z+t<i/\z+t<x.size:=by simp at ht;omega
 refine⟨z+t,by omega,h1.1,h1.2,?_⟩
 rw[bV h1.2,<- e]
 simp
theorem kQ (x:Array Keyed)(z i:Nat):(x.extract z i).toList=(x.toList.take i).drop z:=by
 rw[bx8];simp[List.extract]
theorem rZ (x:Array Keyed)(i:Nat):(x.extract 0 i).toList=x.toList.take i:=by
 simp[List.extract]
theorem oK {x:Array Keyed}{i:Nat}(h:i<x.size):[x[i]]=(x.toList.take (i+1)).drop i:=by
 rw[bx8,kO h,show i+1-i=1 by omega]
section
variable {κ:SortKind}{st:SortSt}{prog:Program}{w:World}{A:Around}{E:Value→Shared→Prop}{s:Shared}{Ok:Keyed→Prop}
theorem MH.y1 {x y o:Array Keyed}(m:MH rk x.toList y.toList o.toList.reverse i (j+1))(hj:j<y.size)(h:∀t,t<i->t<x.size->Kr rk x t<=rk y[j]):MH rk x.toList y.toList (o.push y[j]).toList.reverse i j:=by
 have:=m.ofy (Nat.le_succ j) λt ht u hu=>?_
 ·rw[<- oK hj]at this;simpa using this
 ·rw[<- oK hj,bi6]at hu
  subst hu
  obtain⟨q,q1,q2,q3⟩:=oI (rk:=rk) ht
  rw[q3];exact h q q1 q2
theorem MH.x1 {x y o:Array Keyed}(m:MH rk x.toList y.toList o.toList.reverse (i+1) j)(hi:i<x.size)(h:∀t,t<j->t<y.size->Kr rk y t<=rk x[i]):MH rk x.toList y.toList (o.push x[i]).toList.reverse i j:=by
 have:=m.ofx (Nat.le_succ i) λt ht u hu=>?_
 ·rw[<- oK hi]at this;simpa using this
 ·rw[<- oK hi,bi6]at hu
  subst hu
  obtain⟨q,q1,q2,q3⟩:=oI (rk:=rk) ht
  rw[q3];exact h q q1 q2
theorem MH.yk {x y o:Array Keyed}(m:MH rk x.toList y.toList o.toList.reverse i j){z:Nat}(hz:z<=j)(h:∀t p,t<i->t<x.size->z<=p->p<j->p<y.size->Kr rk x t<=Kr rk y p):MH rk x.toList y.toList (o++(y.extract z j).reverse).toList.reverse i z:=by
 have:=m.ofy hz λt ht u hu=>?_
 ·rw[<- kQ]at this;simpa using this
 ·obtain⟨q,q1,q2,q3⟩:=oI (rk:=rk) ht
  obtain⟨p,p1,p2,p3,p4⟩:=oJ (rk:=rk) hu
  rw[q3,p4];exact h q p q1 q2 p1 p2 p3
theorem MH.xk {x y o:Array Keyed}(m:MH rk x.toList y.toList o.toList.reverse i j){z:Nat}(hz:z<=i)(h:∀t p,t<j->t<y.size->z<=p->p<i->p<x.size->Kr rk y t<=Kr rk x p):MH rk x.toList y.toList (o++(x.extract z i).reverse).toList.reverse z j:=by
 have:=m.ofx hz λt ht u hu=>?_
 ·rw[<- kQ]at this;simpa using this
 ·obtain⟨q,q1,q2,q3⟩:=oI (rk:=rk) ht
  obtain⟨p,p1,p2,p3,p4⟩:=oJ (rk:=rk) hu
  rw[q3,p4];exact h q p q1 q2 p1 p2 p3
theorem MH.done {x y o:Array Keyed}(m:MH rk x.toList y.toList o.toList.reverse i j)(hh:i=0∨j=0):dO rk x y (x.extract 0 i++y.extract 0 j++o.reverse):=by
 unfold dO
 rw[bp8,bp8,rZ,rZ,Array.toList_reverse]
 exact m.fin hh
theorem MH.frst {x y o:Array Keyed}(m:MH rk x.toList y.toList o.toList.reverse i j)(y0:0<y.size)(hf:∀t∈x.toList,rk y[0]<=rk t)(hh:j=1):dO rk x y (y.extract 0 j++x.extract 0 i++o.reverse):=by
 unfold dO
 rw[bp8,bp8,rZ,rZ,Array.toList_reverse]
 refine m.fst λt ht u hu=>?_
 subst hh
 obtain⟨q,q1,q2,q3⟩:=oI (rk:=rk) ht
 have e:q=0:=by omega
 subst e
 rw[q3,bV y0]
 exact hf u hu
structure HB (rk:Keyed->Int)(x y:Array Keyed)(lb i j:Nat)(o:Array Keyed):Prop where
 m:MH rk x.toList y.toList o.toList.reverse i j
 i0:0<i
 i1:i<x.size
 j0:1<j
 j1:j<=y.size
 pr:i+j+lb<=x.size+y.size
def HI (rk:Keyed->Int)(x y:Array Keyed)(lb:Nat)(st:SortSt)(c:LH)(st':SortSt):Prop:=Gq st st'/\∃i j o mg p q,c=(none,i,j,o,mg,p,q)/\HB rk x y lb i j o
def HQ (rk:Keyed->Int)(x y:Array Keyed)(lb:Nat)(st:SortSt)(c:LH)(st':SortSt):Prop:=Gq st st'/\((∃r i j o mg p q,c=(some r,i,j,o,mg,p,q)/\dO rk x y r)∨∃i j o mg p q,c=(none,i,j,o,mg,p,q)/\HB rk x y lb i j o)
def HR (rk:Keyed->Int)(x y:Array Keyed)(lb:Nat)(st:SortSt)(r:ForInStep LH)(st':SortSt):Prop:=match r with|.done c=>HQ rk x y lb st c st'|.yield c=>HI rk x y lb st c st'
theorem S2 {st0:SortSt}{x y o:Array Keyed}{i j mg p q lb:Nat}(g:Gq st0 st)(b:HB rk x y lb (i+1) j o)(hm:∀(hi:i<x.size) t,t<j->t<y.size->Kr rk y t<=rk x[i]):wpS (model prog w) A E s (rV x y o (i+1) j mg p q) (HR rk x y lb st0) st:=by
 unfold rV
 obtain⟨m,i0,i1,j0,j1,pr⟩:=b
 have hi':i<x.size:=by omega
 have m':=m.x1 hi' (hm hi')
 simp only[Nat.add_sub_cancel]
 refine bi8 (cP hi' ?_)
 by_cases he:(i==0)=true
 ·rw[if_pos he]
  have he:i=0:=by simpa using he
  exact bj4 ⟨g,.inl ⟨_,_,_,_,_,_,_,rfl,m'.done (.inl he)⟩⟩
 ·rw[if_neg he]
  have he:i≠0:=by simpa using he
  split
  ·exact bj4 ⟨g,.inr ⟨_,_,_,_,_,_,rfl,m',by omega,by omega,j0,j1,by omega⟩⟩
  ·exact bj4 ⟨g,_,_,_,_,_,_,rfl,m',by omega,by omega,j0,j1,by omega⟩
theorem S3 (c:bW prog w A E s κ Ok rk){st0:SortSt}(hk:kindOf st0=κ){x y o:Array Keyed}{i j mg p q lb:Nat}(ox:bE Ok x)(oy:bE Ok y)(sx:Sd rk x.toList)(sy:Sd rk y.toList)(y0:0<y.size)(hf:∀t∈x.toList,rk y[0]<=rk t)(g:Gq st0 st)(b:HB rk x y lb (i+1) (j+1) o)(hm:∀(hj:j<y.size) t,t<i+1->t<x.size->Kr rk x t<=rk y[j]):wpS (model prog w) A E s (rW x y o (i+1) (j+1) mg p q) (HR rk x y lb st0) st:=by
 unfold rW
 obtain⟨m,i0,i1,j0,j1,pr⟩:=b
 have hi':i<x.size:=by omega
 have hj:j<y.size:=by omega
 have m':=m.y1 hj (hm hj)
 simp only[Nat.add_sub_cancel]
 refine bi8 (cP hj ?_)
 by_cases he:(j==1)=true
 ·rw[if_pos he]
  have he:j=1:=by simpa using he
  exact bj4 ⟨g,.inl ⟨_,_,_,_,_,_,_,rfl,m'.frst y0 hf he⟩⟩
 ·rw[if_neg he]
  have he:j≠1:=by simpa using he
  refine bi8 (cP hi' (bi8 (mC c (g.kd.trans hk) (ox _ (bn1 hi')) oy (by omega) (by omega) (sy.up _ _ (by omega)) λz k1 k2 k3=>?_)))
  dsimp only
  have ux:=sx.up 0 _ (bh8 x.size)
  have mk:=m'.yk k1 λt p ht ht' hp hp' _=>by
   have a1:=k3 p hp hp'
   rw[mF,bq6,Nat.zero_add]at a1
   have a2:=ux t i (by omega) (by omega) hi'
   rw[bV (i:=i) hi']at a2
   omega
  have km:∀(hi:i<x.size) t,t<z->t<y.size->Kr rk y t<=rk x[i]:=λ_ t ht _=>by
   have a1:=k2 t ht
   rw[mF,bk3,Nat.zero_add]at a1
   omega
  by_cases hk0:j-z>0
  ·rw[if_pos hk0]
   by_cases h1:(z==1)=true
   ·rw[if_pos h1]
    have h1:z=1:=by simpa using h1
    exact bj4 ⟨g,.inl ⟨_,_,_,_,_,_,_,rfl,mk.frst y0 hf h1⟩⟩
   ·rw[if_neg h1]
    have h1:z≠1:=by simpa using h1
    by_cases h0:(z==0)=true
    ·rw[if_pos h0]
     have h0:z=0:=by simpa using h0
     exact bj4 ⟨g,.inl ⟨_,_,_,_,_,_,_,rfl,mk.done (.inr h0)⟩⟩
    ·rw[if_neg h0]
     have h0:z≠0:=by simpa using h0
     exact S2 g ⟨mk,by omega,i1,by omega,by omega,by omega⟩ km
  ·rw[if_neg hk0]
   have e0:z=j:=by omega
   subst e0
   exact S2 g ⟨m',by omega,i1,by omega,by omega,by omega⟩ km
theorem S4 (c:bW prog w A E s κ Ok rk){st0:SortSt}(hk:kindOf st0=κ){x y o:Array Keyed}{i j mg p q lb:Nat}(ox:bE Ok x)(oy:bE Ok y)(sx:Sd rk x.toList)(sy:Sd rk y.toList)(y0:0<y.size)(hf:∀t∈x.toList,rk y[0]<=rk t)(g:Gq st0 st)(b:HB rk x y lb i (j+1) o) :
  wpS (model prog w) A E s (rX x y o i (j+1) mg p q) (HR rk x y lb st0) st:=by
 unfold rX
 obtain⟨m,i0,i1,j0,j1,pr⟩:=b
 have hj:j<y.size:=by omega
 simp only[Nat.add_sub_cancel]
 refine bi8 (rT g λst4 q4=>bi8 (cP hj (bi8 (mC c (q4.kd.trans hk) (oy _ (bn1 hj)) ox (by omega) (by omega) (sx.up _ _ (by omega)) λz k1 k2 k3=>?_))))
 dsimp only
 have uy:=sy.up 0 _ (bh8 y.size)
 have mk:=m.xk k1 λt p ht ht' hp hp' _=>by
  have a1:=k3 p hp hp'
  rw[mE,bq6,Nat.zero_add]at a1
  have a2:=uy t j (by omega) (by omega) hj
  rw[bV (i:=j) hj]at a2
  omega
 have km:∀(hj:j<y.size) t,t<z->t<x.size->Kr rk x t<=rk y[j]:=λ_ t ht _=>by
  have a1:=k2 t ht
  rw[mE,bk3,Nat.zero_add]at a1
  exact a1
 by_cases hk0:i-z>0
 ·rw[if_pos hk0]
  by_cases he:(z==0)=true
  ·rw[if_pos he]
   exact bj4 ⟨q4,.inl ⟨_,_,_,_,_,_,_,rfl,mk.done (.inl (by simpa using he))⟩⟩
  ·rw[if_neg he]
   have he:z≠0:=by simpa using he
   obtain⟨z2,rfl⟩:∃z2,z=z2+1:=⟨z-1,by omega⟩
   exact S3 c hk ox oy sx sy y0 hf q4 ⟨mk,by omega,by omega,j0,j1,by omega⟩ km
 ·rw[if_neg hk0]
  have e0:z=i:=by omega
  subst e0
  obtain⟨z2,rfl⟩:∃z2,z=z2+1:=⟨z-1,by omega⟩
  exact S3 c hk ox oy sx sy y0 hf q4 ⟨m,i0,i1,j0,j1,pr⟩ km
theorem aH9 (c:bW prog w A E s κ Ok rk){st0:SortSt}(hk:kindOf st0=κ){x y o:Array Keyed}{i j mg p q lb:Nat}(ox:bE Ok x)(oy:bE Ok y)(sx:Sd rk x.toList)(sy:Sd rk y.toList)(y0:0<y.size)(hf:∀t∈x.toList,rk y[0]<=rk t)(g:Gq st0 st)(b:HB rk x y lb i j o) :
  wpS (model prog w) A E s (x9 x y o i j mg p q) (HQ rk x y lb st0) st:=by
 unfold x9
 refine bq9 (I:=λ_=>HI rk x y lb st0) ?_ ?_ ⟨g,i,j,o,_,p,q,rfl,b⟩
 ·rintro t c3 st3 _ _ ⟨q3,i,j,o,mg,p,q,rfl,b3⟩
  obtain⟨j3,rfl⟩:∃j3,j=j3+1:=⟨j-1,by have:=b3.j0;omega⟩
  dsimp only
  split
  ·exact bx3 (S4 c hk ox oy sx sy y0 hf q3 b3) λr _ hr=>by cases r<;>exact hr
  ·exact bx3 (S4 c hk ox oy sx sy y0 hf q3 b3) λr _ hr=>by cases r<;>exact hr
 ·rintro c3 st3 ⟨q3,i,j,o,mg,p,q,rfl,b3⟩
  exact⟨q3,.inr ⟨_,_,_,_,_,_,rfl,b3⟩⟩
theorem aI0 (c:bW prog w A E s κ Ok rk){st0:SortSt}(hk:kindOf st0=κ){x y o:Array Keyed}{i j mg n:Nat}{Q:x8->SortSt->Prop}(ox:bE Ok x)(oy:bE Ok y)(sx:Sd rk x.toList)(sy:Sd rk y.toList)(y0:0<y.size)(hf:∀t∈x.toList,rk y[0]<=rk t)(g:Gq st0 st)(b:HB rk x y n i j o)(h1:∀r i' j' o' p q st',Gq st0 st'->dO rk x y r->Q (some r,i',j',o',p,q) st')(h2:∀i' j' o' p q st',Gq st0 st'->HB rk x y (n+1) i' j' o'->Q (none,i',j',o',p,q) st') :
  wpS (model prog w) A E s (xA x y o i j mg) Q st:=by
 have ux:Up rk x 0 x.size:=sx.up 0 _ (bh8 _)
 have uy:Up rk y 0 y.size:=sy.up 0 _ (bh8 _)
 unfold xA
 refine bq9 (I:=λt c st'=>Gq st0 st'/\∃i j o p q,c=(none,i,j,o,p,q)/\HB rk x y (n+t) i j o) ?_ ?_ ⟨g,i,j,o,0,0,rfl,b⟩
 ·rintro t c2 st2 _ ht ⟨q2,i',j',o,p,q,rfl,m,i0,i1,j0,j1,pr⟩
  obtain⟨i2,rfl⟩:∃i2,i'=i2+1:=⟨i'-1,by omega⟩
  obtain⟨j2,rfl⟩:∃j2,j'=j2+1:=⟨j'-1,by omega⟩
  simp only[Nat.add_sub_cancel]
  have hi:i2<x.size:=by omega
  have hj:j2<y.size:=by omega
  refine bi8 (cP hj (bi8 (cP hi (bi8 (c _ _ (oy _ (bn1 hj)) (ox _ (bn1 hi)) st2 _ (q2.kd.trans hk) ?_)))))
  by_cases hc:rk y[j2]<rk x[i2]
  ·rw[bi9 hc]
   dsimp only
   rw[if_pos rfl]
   have m':=m.x1 hi λt ht _=>by
    have:=uy t j2 (by omega) (by omega) hj
    rw[bV hj]at this
    omega
   refine bi8 (cP hi ?_)
   by_cases he:(i2==0)=true
   ·rw[if_pos he]
    exact bj4 (h1 _ _ _ _ _ _ _ q2 (m'.done (.inl (by simpa using he))))
   ·rw[if_neg he]
    have he:i2≠0:=by simpa using he
    split
    ·exact bj4 (h2 _ _ _ _ _ _ q2 ⟨m',by omega,by omega,j0,j1,by omega⟩)
    ·exact bj4 ⟨q2,_,_,_,_,_,rfl,m',by omega,by omega,j0,j1,by omega⟩
  ·rw[bi2 hc]
   dsimp only
   rw[if_neg bj3]
   have m':=m.y1 hj λt ht _=>by
    have:=ux t i2 (by omega) (by omega) hi
    rw[bV hi]at this
    omega
   refine bi8 (cP hj ?_)
   by_cases he:(j2==1)=true
   ·rw[if_pos he]
    exact bj4 (h1 _ _ _ _ _ _ _ q2 (m'.frst y0 hf (by simpa using he)))
   ·rw[if_neg he]
    have he:j2≠1:=by simpa using he
    split
    ·exact bj4 (h2 _ _ _ _ _ _ q2 ⟨m',i0,i1,by omega,by omega,by omega⟩)
    ·exact bj4 ⟨q2,_,_,_,_,_,rfl,m',i0,i1,by omega,by omega,by omega⟩
 ·rintro c2 st2 ⟨q2,i',j',o,p,q,rfl,m,i0,i1,j0,j1,pr⟩
  exact h2 _ _ _ _ _ _ q2 ⟨m,i0,i1,j0,j1,by omega⟩
theorem aI1 (c:bW prog w A E s κ Ok rk)(hk:kindOf st=κ){x y:Array Keyed}{Q:Array Keyed->SortSt->Prop}(ox:bE Ok x)(oy:bE Ok y)(sx:Sd rk x.toList)(sy:Sd rk y.toList)(x0:0<x.size)(y0:0<y.size)(hf:∀t∈x.toList,rk y[0]<=rk t)(hl:∀u∈y.toList,rk u<=rk x[x.size-1])(h:∀r st',Gq st st'->dO rk x y r->Q r st'):wpS (model prog w) A E s (x5 x y) Q st:=by
 rw[aH8]
 refine bi8 (wpS_lift (bv5 ⟨rfl,bi8 (cP (by omega:x.size-1<x.size) ?_)⟩))
 have m0:MH rk x.toList y.toList (#[x[x.size-1]]:Array Keyed).toList.reverse (x.size-1) y.size:=by
  have mm:MH rk x.toList y.toList [] x.size y.size:=⟨by simp,by rw[br0 (by simp),bn4];exact sx,by rw[br0 (by simp),bn4];exact sy⟩
  have e:=oK (x:=x) (i:=x.size-1) (by omega)
  rw[show x.size-1+1=x.size by omega]at e
  have:=mm.ofx (Nat.sub_le x.size 1) λt ht u hu=>?_
  ·rw[<- e]at this;simpa using this
  ·rw[<- e,bi6]at hu
   subst hu
   exact hl t (List.mem_of_mem_take ht)
 by_cases e1:(x.size-1==0)=true
 ·rw[if_pos e1]
  exact bj4 (h _ st (Gq.refl st) (m0.done (.inl (by simpa using e1))))
 ·rw[if_neg e1]
  have e1:x.size-1≠0:=by simpa using e1
  by_cases e2:(y.size==1)=true
  ·rw[if_pos e2]
   exact bj4 (h _ st (Gq.refl st) (m0.frst y0 hf (by simpa using e2)))
  ·rw[if_neg e2]
   have e2:y.size≠1:=by simpa using e2
   refine bi8 (wpS_get ?_)
   unfold S0
   refine bi8 (bx3 (bq9
    (I:=λn c st'=>Gq st st'/\∃i j o mg,c=(none,i,j,o,mg)/\HB rk x y (n+1) i j o)
    (Q:=λc st'=>Gq st st'/\∃r i j o mg,c=(some r,i,j,o,mg)/\dO rk x y r) ?_ ?_ ⟨Gq.refl st,_,_,_,_,rfl,m0,by omega,by omega,by omega,by omega,by omega⟩) ?_)
   ·rintro n c1 st1 _ hn ⟨q1,i,j,o,mg,rfl,b⟩
    dsimp only
    refine bi8 (aI0 c hk ox oy sx sy y0 hf q1 b (λr o' i' j' p q st' g md=>bj4 ⟨g,r,_,_,_,_,rfl,md⟩) λi' j' o' p q st' g b'=>?_)
    refine bi8 (wpS_lift (bv5 ⟨rfl,?_⟩))
    refine bi8 (bx3 (aH9 c hk ox oy sx sy y0 hf g b') ?_)
    rintro c3 st3 ⟨q3,⟨r,i3,j3,o,mg,p,q,rfl,md⟩|⟨i3,j3,o,mg,p,q,rfl,b3⟩⟩
    ·exact bj4 ⟨q3,r,_,_,_,_,rfl,md⟩
    ·exact bi8 (rT q3 λst4 q4=>bj4 ⟨q4,i3,j3,o,_,rfl,b3⟩)
   ·rintro c1 st1 ⟨q1,i,j,o,mg,rfl,b⟩
    have:=b.pr
    exact absurd this (by omega)
   ·rintro c1 st1 ⟨q1,r,i,j,o,mg,rfl,md⟩
    exact bj4 (h r _ q1 md)
end
theorem aI2 (i:Nat):mergeAt' i=(do
 let z <- get
 let (some (sa,na,pw),some (sb,nb,_)):=((pendingOf z)[i]?,(pendingOf z)[i+1]?)|unsupported "internal:list.sort.pending"
 set (SortSt.mk' (kindOf z) (arrOf z) (((pendingOf z).setIfInBounds i (sa,na+nb,pw)).eraseIdxIfInBounds (i+1)) (gallopOf z) (failedOf z))
 let some k <- jK false (<- elem' (arrOf z) sb) (arrOf z) sa na 0|return false
 let (sa,na):=(sa+k,na-k)
 if na==0 then return true
 let some nb <- jK true (<- elem' (arrOf z) (sa+na-1)) (arrOf z) sb nb (nb-1)|return false
 if nb==0 then return true
 let x:=(arrOf z).extract sa sb
 let y:=(arrOf z).extract sb (sb+nb)
 let m <- if na<=nb then wY x y else x5 x y
 modify λz=>setArr z (m.toList.zipIdx.foldl (λa (p,j)=>a.setIfInBounds (sa+j) p) (arrOf z))
 return (failedOf (<- get)).isNone):=rfl
variable {rk:Keyed→Int}
theorem aI3 {σ:Type}{M:Model}{A:Around}{E:Value->Shared->Prop}{s:Shared}{a b:σ}{Q:PUnit->σ->Prop}(h:Q ⟨⟩ a):wpS M A E s (set a:StateT σ Sem PUnit) Q b:=by
 unfold wpS;rw[StateT.run_set];exact bi0 ⟨rfl,h⟩
theorem S5 (o:Nat):∀(m:List Keyed) (n:Nat) (a:Array Keyed) (t:Nat),o+n+m.length<=a.size->
  ((m.zipIdx n).foldl (λa (p,j)=>a.setIfInBounds (o+j) p) a)[t]? = if o+n<=t/\t<o+n+m.length then m[t-(o+n)]? else a[t]?
 |[],n,a,t,_=>by
  show a[t]? = _
  rw[if_neg (λz=>Nat.not_lt_of_ge z.1 z.2)]
 |p::m,n,a,t,h=>by
  rw[List.zipIdx_cons,List.foldl_cons]
  have h':o+(n+1)+m.length<=(a.setIfInBounds (o+n) p).size:=by rw[Array.size_setIfInBounds];simp at h;omega
  have ih:=S5 o m (n+1) (a.setIfInBounds (o+n) p) t h'
  refine ih.trans ?_
  have hs:o+n<a.size:=by simp at h;omega
  rw[Array.getElem?_setIfInBounds]
  by_cases e:o+n=t
  ·subst e
   rw[if_neg (by omega),if_pos rfl,if_pos hs,if_pos (by simp),Nat.sub_self];rfl
  ·rw[if_neg e]
   by_cases c:o+n<=t/\t<o+n+(p::m).length
   ·rw[if_pos c,if_pos (by simp at c;omega)]
    rw[show t-(o+n)=(t-(o+(n+1)))+1 by omega];rfl
   ·rw[if_neg c,if_neg (by simp at c ⊢;omega)]
theorem S6 {a:Array Keyed}{lo hi:Nat}(u:Up rk a lo hi)(hh:hi<=a.size):Sd rk (a.extract lo hi).toList:=by
 unfold Sd
 rw[bl7]
 intro i j hi' hj hij
 have h2:lo+j<hi:=by simp at hj;omega
 have:=u (lo+i) (lo+j) (by omega) (by omega) h2
 rw[bV (by omega:lo+i<a.size),bV (by omega:lo+j<a.size)]at this
 simpa using this
theorem S7 {a:Array Keyed}{lo mid hi:Nat}(u:Up rk a lo mid)(v:Up rk a mid hi)(h0:lo<mid)(h1:mid<hi)(h:Kr rk a (mid-1)<=Kr rk a mid):Up rk a lo hi:=λi j hi' hij hj=>by
 rcases bm7 j mid with z|z
 ·exact u i j hi' hij z
 ·rcases bm7 i mid with y|y
  ·have a1:=u i (mid-1) hi' (by omega) (by omega)
   have a2:=v mid j (bh8 _) z hj
   omega
  ·exact v i j y hij hj
theorem S8 {a:Array Keyed}{lo hi t:Nat}(h:t<hi-lo)(hh:hi<=a.size):Kr rk (a.extract lo hi) t=Kr rk a (lo+t):=by
 refine kM ?_
 rw[Array.getElem?_extract_of_lt (by omega)]
 exact (getElem?_pos a (lo+t) (by omega)).symm
section
variable {κ:SortKind}{a0:Array Keyed}{pd:Array (Nat×Nat×Nat)}{st:SortSt}{prog:Program}{w:World}{A:Around}{E:Value→Shared→Prop}{s:Shared}{Ok:Keyed→Prop}
theorem aI4 {a m:Array Keyed}{p x e:Nat}(hpx:p<=x)(hxe:x<=e)(he:e<=a.size)(md:dO rk (a.extract p x) (a.extract x e) m) :
  let r:=m.toList.zipIdx.foldl (λa (q,j)=>a.setIfInBounds (p+j) q) a
  r.Perm a/\(∀t,(t<p∨e<=t)->Kr rk r t=Kr rk a t)/\(∀t t',p<=t->t<=t'->t'<e->Kr rk r t<=Kr rk r t')/\∀t,p<=t->t<e->∃t',p<=t'/\t'<e/\Kr rk r t=Kr rk a t':=by
 intro r
 have ml:m.toList.length=e-p:=by
  rw[md.1.length_eq];simp;omega
 have g:∀t,r[t]? = if p<=t/\t<e then m[t-p]? else a[t]?:=λt=>by
  have:=S5 p m.toList 0 a t (by omega)
  rw[show r=(m.toList.zipIdx 0).foldl (λa (q,j)=>a.setIfInBounds (p+j) q) a from rfl,this]
  simp only[Nat.add_zero,ml,show p+(e-p)=e by omega,bp7]
 have ex:(a.extract p x).toList++(a.extract x e).toList=(a.toList.take e).drop p:=by
  rw[kQ,kQ,bx8,bx8,bx8]
  rw[show x=p+(x-p) by omega,<- List.drop_drop,show p+(x-p)-p=x-p by omega,show e-(p+(x-p))=(e-p)-(x-p) by omega]
  have:=bn3 (x-p) ((a.toList.drop p).take (e-p))
  rw[List.take_take,bx8,Nat.min_eq_left (by omega)]at this
  exact this
 have rl:r.toList=a.toList.take p++(m.toList++a.toList.drop e):=by
  apply List.ext_getElem?
  intro t
  rw[bp7,g]
  rcases bm7 t p with z|z
  ·rw[if_neg (by omega),bn5 (by simp;omega),List.getElem?_take_of_lt z,bp7]
  ·rw[bq3 (by simp;omega)]
   have lp:(a.toList.take p).length=p:=by simp;omega
   rw[lp]
   rcases bm7 t e with y|y
   ·rw[if_pos ⟨z,y⟩,bn5 (by omega),bp7]
   ·rw[if_neg (by omega),bq3 (by omega),ml,List.getElem?_drop,bp7]
    congr 1;omega
 have mp:m.toList.Perm ((a.toList.take e).drop p):=ex▸md.1
 refine⟨?_,λt ht=>kM (by rw[g,if_neg (by omega)]),λt t' h1 h2 h3=>?_,λt h1 h2=>?_⟩
 ·refine Array.perm_iff_toList_perm.mpr ?_
  rw[rl]
  have:a.toList=a.toList.take p++((a.toList.take e).drop p++a.toList.drop e):=by
   rw[xB _ (by omega:p<=e)];exact (bn3 p _).symm
  conv=>rhs;rw[this]
  exact (mp.append_right _).append_left _
 ·have e1:Kr rk r t=Kr rk m (t-p):=kM (by rw[g,if_pos (by omega)])
  have e2:Kr rk r t'=Kr rk m (t'-p):=kM (by rw[g,if_pos (by omega)])
  rw[e1,e2]
  have ms:m.size=e-p:=by rw[<- ml];simp
  exact md.2.up 0 m.size (bh8 _) (t-p) (t'-p) (by omega) (by omega) (by omega)
 ·have e1:Kr rk r t=Kr rk m (t-p):=kM (by rw[g,if_pos (by omega)])
  have ms:m.size=e-p:=by rw[<- ml];simp
  have hm:t-p<m.size:=by omega
  have mm:m[t-p]∈(a.toList.take e).drop p:=mp.mem_iff.mp (by simp)
  obtain⟨t',q1,q2,q3,q4⟩:=oJ (rk:=rk) mm
  exact⟨t',q1,q2,by rw[e1,bV hm];exact q4⟩
theorem aI5 (c:bW prog w A E s κ Ok rk)(o:bE Ok a0)(b:SB κ a0 pd st){i sa na pw sb nb pw':Nat}{Q:Bool->SortSt->Prop}(e1:pd[i]? = some (sa,na,pw))(e2:pd[i+1]? = some (sb,nb,pw'))(hs:sb=sa+na)(n0:0<na)(m0:0<nb)(hz:sb+nb<=a0.size)(u:Up rk (arrOf st) sa sb)(v:Up rk (arrOf st) sb (sb+nb))(h:∀st',SB κ a0 ((pd.setIfInBounds i (sa,na+nb,pw)).eraseIdxIfInBounds (i+1)) st'->Up rk (arrOf st') sa (sb+nb)->(∀t,(t<sa∨sb+nb<=t)->Kr rk (arrOf st') t=Kr rk (arrOf st) t)->Q true st'):wpS (model prog w) A E s (mergeAt' i) Q st:=by
 have sz:=b.sz
 rw[aI2]
 refine bi8 (wpS_get ?_)
 rw[b.pd,e1,e2]
 dsimp only
 refine bi8 (aI3 ?_)
 generalize hst:SortSt.mk' (kindOf st) (arrOf st) ((pd.setIfInBounds i (sa,na+nb,pw)).eraseIdxIfInBounds (i+1)) (gallopOf st) (failedOf st)=st1
 have b1:SB κ a0 ((pd.setIfInBounds i (sa,na+nb,pw)).eraseIdxIfInBounds (i+1)) st1:=by rw[<- hst];exact⟨b.pm,b.kd,b.ok,rfl⟩
 have ar:arrOf st1=arrOf st:=by rw[<- hst]
 have oa:=b.all o
 have hsb:sb<(arrOf st).size:=by omega
 refine bi8 (cP hsb (bi8 (mC c b1.kd (oa _ (bn1 hsb)) oa n0 (by omega) (hs▸u) λk k1 k2 k3=>?_)))
 dsimp only
 have k2':∀t,sa<=t->t<sa+k->Kr rk (arrOf st) t<=Kr rk (arrOf st) sb:=λt t1 t2=>by
  have:=k2 (t-sa) (by omega)
  rw[mE,bk3,show sa+(t-sa)=t by omega]at this
  rw[bV hsb];exact this
 have k3':∀t,sa+k<=t->t<sb->Kr rk (arrOf st) sb<Kr rk (arrOf st) t:=λt t1 t2=>by
  have:=k3 (t-sa) (by omega) (by omega)
  rw[mE,bq6,show sa+(t-sa)=t by omega]at this
  rw[bV hsb];omega
 by_cases ek:(na-k==0)=true
 ·rw[if_pos ek]
  have ek:na-k=0:=by simpa using ek
  refine bj4 (h st1 b1 ?_ λt _=>by rw[ar])
  rw[ar]
  exact S7 u v (by omega) (by omega) (k2' (sb-1) (by omega) (by omega))
 ·rw[if_neg ek]
  have ek:na-k≠0:=by simpa using ek
  have el:sa+k+(na-k)-1=sb-1:=by omega
  rw[el]
  have hsl:sb-1<(arrOf st).size:=by omega
  refine bi8 (cP hsl (bi8 (mC c b1.kd (oa _ (bn1 hsl)) oa (by omega) (by omega) v λl l1 l2 l3=>?_)))
  dsimp only
  have l2':∀t,sb<=t->t<sb+l->Kr rk (arrOf st) t<Kr rk (arrOf st) (sb-1):=λt t1 t2=>by
   have:=l2 (t-sb) (by omega)
   rw[mF,bk3,show sb+(t-sb)=t by omega]at this
   rw[bV hsl];exact this
  have l3':∀t,sb+l<=t->t<sb+nb->Kr rk (arrOf st) (sb-1)<=Kr rk (arrOf st) t:=λt t1 t2=>by
   have:=l3 (t-sb) (by omega) (by omega)
   rw[mF,bq6,show sb+(t-sb)=t by omega]at this
   rw[bV hsl];omega
  by_cases en:(l==0)=true
  ·rw[if_pos en]
   have en:l=0:=by simpa using en
   subst en
   refine bj4 (h st1 b1 ?_ λt _=>by rw[ar])
   rw[ar]
   exact S7 u v (by omega) (by omega) (l3' sb (by omega) (by omega))
  ·rw[if_neg en]
   have en:l≠0:=by simpa using en
   have sub:∀p e,bE Ok ((arrOf st).extract p e):=λp e z hz=>oa z (by
    have:z∈((arrOf st).extract p e).toList:=Array.mem_toList_iff.mpr hz
    rw[kQ]at this
    exact Array.mem_toList_iff.mp (List.mem_of_mem_take (List.mem_of_mem_drop this)))
   have sx:Sd rk ((arrOf st).extract (sa+k) sb).toList:=S6 (λi j h1 h2 h3=>u i j (by omega) h2 h3) (by omega)
   have sy:Sd rk ((arrOf st).extract sb (sb+l)).toList:=S6 (λi j h1 h2 h3=>v i j h1 h2 (by omega)) (by omega)
   have x0:0<((arrOf st).extract (sa+k) sb).size:=by simp;omega
   have y0:0<((arrOf st).extract sb (sb+l)).size:=by simp;omega
   have hf:∀t∈((arrOf st).extract (sa+k) sb).toList,rk ((arrOf st).extract sb (sb+l))[0]<=rk t:=λt ht=>by
    rw[kQ]at ht
    obtain⟨t',q1,q2,q3,q4⟩:=oJ (rk:=rk) ht
    rw[q4,<- bV (rk:=rk) y0,S8 (by omega) (by omega)]
    exact Int.le_of_lt (k3' t' q1 q2)
   have hl:∀t∈((arrOf st).extract sb (sb+l)).toList,rk t<=rk ((arrOf st).extract (sa+k) sb)[((arrOf st).extract (sa+k) sb).size-1]:=λt ht=>by
    rw[kQ]at ht
    obtain⟨t',q1,q2,q3,q4⟩:=oJ (rk:=rk) ht
    have e:((arrOf st).extract (sa+k) sb).size=sb-(sa+k):=by simp;omega
    rw[q4,<- bV (rk:=rk) (by omega),S8 (by omega) (by omega),e,show sa+k+(sb-(sa+k)-1)=sb-1 by omega]
    exact Int.le_of_lt (l2' t' q1 q2)
   have fin:∀(m:Array Keyed) (st2:SortSt),Gq st1 st2->dO rk ((arrOf st).extract (sa+k) sb) ((arrOf st).extract sb (sb+l)) m->
     wpS (model prog w) A E s (do modify (λz=>setArr z (m.toList.zipIdx.foldl (λa (p,j)=>a.setIfInBounds (sa+k+j) p) (arrOf z)));return (failedOf (<- get)).isNone) Q st2:=λm st2 g md=>by
    have b2:SB κ a0 ((pd.setIfInBounds i (sa,na+nb,pw)).eraseIdxIfInBounds (i+1)) st2:=⟨by rw[g.ar];exact b1.pm,g.kd.trans b1.kd,g.ok.trans b1.ok,g.pd.trans b1.pd⟩
    have a2:arrOf st2=arrOf st:=g.ar.trans ar
    obtain⟨r1,r2,r3,r4⟩:=aI4 (by omega) (by omega) (by omega) md
    generalize hr:m.toList.zipIdx.foldl (λa (q,j)=>a.setIfInBounds (sa+k+j) q) (arrOf st)=r at r1 r2 r3 r4
    refine bi8 (wpS_modify (bi8 (wpS_get (bj4 ?_))))
    have b3:=b2.put (xs:=m.toList.zipIdx.foldl (λa (q,j)=>a.setIfInBounds (sa+k+j) q) (arrOf st2)) (by rw[a2,hr];exact r1)
    have er:arrOf (setArr st2 (m.toList.zipIdx.foldl (λa (q,j)=>a.setIfInBounds (sa+k+j) q) (arrOf st2)))=r:=by rw[<- hr,a2]
    have tr:(failedOf (setArr st2 (m.toList.zipIdx.foldl (λa (q,j)=>a.setIfInBounds (sa+k+j) q) (arrOf st2)))).isNone=true:=by rw[b3.ok];rfl
    rw[tr]
    refine h _ b3 (λi j hi hij hj=>?_) λt ht=>?_
    ·rw[er]
     have bl:∀t,sa<=t->t<sa+k->∀t',sa+k<=t'->t'<sb+l->Kr rk (arrOf st) t<=Kr rk (arrOf st) t':=λt t1 t2 t' t3 t4=>by
      rcases bm7 t' sb with z|z
      ·exact u t t' t1 (by omega) z
      ·have a1:=k2' t t1 t2
       have a2:=v sb t' (bh8 _) z (by omega)
       omega
     have br:∀t,sb+l<=t->t<sb+nb->∀t',sa+k<=t'->t'<sb+l->Kr rk (arrOf st) t'<=Kr rk (arrOf st) t:=λt t1 t2 t' t3 t4=>by
      rcases bm7 t' sb with z|z
      ·have a1:=u t' (sb-1) (by omega) (by omega) (by omega)
       have a2:=l3' t t1 t2
       omega
      ·exact v t' t z (by omega) t2
     have blr:∀t,sa<=t->t<sa+k->∀t',sb+l<=t'->t'<sb+nb->Kr rk (arrOf st) t<=Kr rk (arrOf st) t':=λt t1 t2 t' t3 t4=>by
      have a1:=bl t t1 t2 (sb-1) (by omega) (by omega)
      have a2:=l3' t' t3 t4
      omega
     rcases bm7 i (sa+k) with z|z
     ·rw[r2 i (.inl z)]
      rcases bm7 j (sa+k) with y|y
      ·rw[r2 j (.inl y)];exact u i j hi hij (by omega)
      ·rcases bm7 j (sb+l) with x|x
       ·obtain⟨t',q1,q2,q3⟩:=r4 j y x
        rw[q3];exact bl i hi z t' q1 q2
       ·rw[r2 j (.inr x)];exact blr i hi z j x hj
     ·rcases bm7 j (sb+l) with x|x
      ·exact r3 i j z hij x
      ·rw[r2 j (.inr x)]
       rcases bm7 i (sb+l) with y|y
       ·obtain⟨t',q1,q2,q3⟩:=r4 i z y
        rw[q3];exact br j x hj t' q1 q2
       ·rw[r2 i (.inr y)];exact v i j (by omega) hij hj
    ·rw[er];exact r2 t (by omega)
   by_cases hle:na-k<=l
   ·rw[if_pos hle]
    exact bi8 (aH7 c b1.kd (sub _ _) (sub _ _) sx sy x0 y0 hf hl λm st2 g md=>fin m st2 g md)
   ·rw[if_neg hle]
    exact bi8 (aI1 c b1.kd (sub _ _) (sub _ _) sx sy x0 y0 hf hl λm st2 g md=>fin m st2 g md)
end
def Ch:Nat->List (Nat×Nat)->Nat->Prop
 |a,[],b=>a=b
 |a,(p,n)::r,b=>p=a/\0<n/\Ch (a+n) r b
theorem Ch.split:∀{l l':List (Nat×Nat)}{a b:Nat},Ch a (l++l') b->∃m,Ch a l m/\Ch m l' b
 |[],_,a,_,h=>⟨a,rfl,h⟩
 |(p,n)::l,l',a,b,h=>by
  obtain⟨h1,h2,h3⟩:=h
  obtain⟨m,q1,q2⟩:=Ch.split h3
  exact⟨m,⟨h1,h2,q1⟩,q2⟩
theorem Ch.join:∀{l l':List (Nat×Nat)}{a m b:Nat},Ch a l m->Ch m l' b->Ch a (l++l') b
 |[],_,a,m,_,h,h'=>by cases (show a=m from h);exact h'
 |(p,n)::l,l',a,m,b,h,h'=>⟨h.1,h.2.1,Ch.join h.2.2 h'⟩
theorem Ch.len:∀{l:List (Nat×Nat)}{a b:Nat},Ch a l b->a+l.length<=b
 |[],a,b,h=>by cases (show a=b from h);simp
 |(p,n)::l,a,b,h=>by
  have:=Ch.len h.2.2
  have:=h.2.1
  simp;omega
theorem Ch.mem:∀{l:List (Nat×Nat)}{a b:Nat}{r:Nat×Nat},Ch a l b->r∈l->a<=r.1/\r.1+r.2<=b/\0<r.2
 |(p,n)::l,a,b,r,h,hr=>by
  obtain⟨h1,h2,h3⟩:=h
  have hb:=Ch.len h3
  rcases bi4.mp hr with e|e
  ·subst e
   have h1:p=a:=h1
   refine⟨?_,?_,h2⟩
   ·show a<=p;omega
   ·show p+n<=b;omega
  ·have:=Ch.mem h3 e
   exact⟨by omega,this.2.1,this.2.2⟩
def sk (pd:Array (Nat×Nat×Nat)):List (Nat×Nat):=pd.toList.map λr=>(r.1,r.2.1)
theorem sC (pd:Array (Nat×Nat×Nat)):(sk pd).length=pd.size:=by simp[sk]
structure Rn (rk:Keyed->Int)(a:Array Keyed)(l:List (Nat×Nat))(lo:Nat):Prop where
 ch:Ch 0 l lo
 up:∀r∈l,Up rk a r.1 (r.1+r.2)
variable {rk:Keyed→Int}{κ:SortKind}{a0:Array Keyed}{pd:Array (Nat×Nat×Nat)}{st:SortSt}{prog:Program}{w:World}{A:Around}{E:Value→Shared→Prop}{s:Shared}{Ok:Keyed→Prop}
theorem Rn.same {a b:Array Keyed}{l:List (Nat×Nat)}{lo:Nat}(h:Rn rk a l lo)(e:∀t,t<lo->Kr rk b t=Kr rk a t):Rn rk b l lo:=⟨h.ch,λr hr i j hi hij hj=>by
 have:=(h.ch.mem hr).2.1
 rw[e i (by omega),e j (by omega)]
 exact h.up r hr i j hi hij hj⟩
theorem S9 (c:bW prog w A E s κ Ok rk)(o:bE Ok a0)(b:SB κ a0 pd st){i lo:Nat}{Q:Bool->SortSt->Prop}(hi:i+1<pd.size)(hz:lo<=a0.size)(rn:Rn rk (arrOf st) (sk pd) lo)(h:∀pd' st',SB κ a0 pd' st'->pd'.size+1=pd.size->Rn rk (arrOf st') (sk pd') lo->(∀t,lo<=t->Kr rk (arrOf st') t=Kr rk (arrOf st) t)->Q true st'):wpS (model prog w) A E s (mergeAt' i) Q st:=by
 obtain⟨⟨sa,na,pw⟩,e1⟩:∃r,pd[i]? = some r:=⟨pd[i],getElem?_pos pd i (by omega)⟩
 obtain⟨⟨sb,nb,pw'⟩,e2⟩:∃r,pd[i+1]? = some r:=⟨pd[i+1],getElem?_pos pd (i+1) hi⟩
 have d1:pd.toList=pd.toList.take i++(sa,na,pw)::(sb,nb,pw')::pd.toList.drop (i+2):=by
  have hl:i<pd.toList.length:=by simp;omega
  have hl2:i+1<pd.toList.length:=by simpa using hi
  have g1:pd.toList[i]=(sa,na,pw):=by rw[getElem?_pos pd i (by omega)]at e1;simpa using e1
  have g2:pd.toList[i+1]=(sb,nb,pw'):=by rw[getElem?_pos pd (i+1) hi]at e2;simpa using e2
  have:=bn3 i pd.toList
  rw[List.drop_eq_getElem_cons hl,List.drop_eq_getElem_cons hl2,g1,g2]at this
  exact this.symm
 have li:(pd.toList.take i).length=i:=by simp;omega
 have d2:((pd.setIfInBounds i (sa,na+nb,pw)).eraseIdxIfInBounds (i+1)).toList=pd.toList.take i++(sa,na+nb,pw)::pd.toList.drop (i+2):=by
  have e:((pd.setIfInBounds i (sa,na+nb,pw)).eraseIdxIfInBounds (i+1)).toList=(pd.toList.set i (sa,na+nb,pw)).eraseIdx (i+1):=by
   unfold Array.eraseIdxIfInBounds
   rw[dif_pos (by rw[Array.size_setIfInBounds];exact hi),Array.toList_eraseIdx,Array.toList_setIfInBounds]
  rw[e]
  conv=>lhs;rw[d1]
  rw[List.set_append_right _ _ (by omega),li,Nat.sub_self,List.set_cons_zero,List.eraseIdx_append_of_length_le (by omega),li,show i+1-i=1 by omega]
  rfl
 have k1:sk pd=(pd.toList.take i).map (λr=>(r.1,r.2.1))++(sa,na)::(sb,nb)::(pd.toList.drop (i+2)).map (λr=>(r.1,r.2.1)):=by
  unfold sk;conv=>lhs;rw[d1]
  simp
 have k2:sk ((pd.setIfInBounds i (sa,na+nb,pw)).eraseIdxIfInBounds (i+1))=(pd.toList.take i).map (λr=>(r.1,r.2.1))++(sa,na+nb)::(pd.toList.drop (i+2)).map (λr=>(r.1,r.2.1)):=by
  unfold sk;rw[d2]
  simp
 have ch:=rn.ch
 rw[k1]at ch
 obtain⟨m,c1,c2⟩:=ch.split
 obtain⟨f1,f2,f3,f4,f5⟩:=c2
 have f1:sa=m:=f1
 have f3:sb=m+na:=f3
 have up:=rn.up
 rw[k1]at up
 have lo2:=f5.len
 refine aI5 c o b e1 e2 (by omega) f2 f4 (by omega) (by have:=up (sa,na) (by simp);rw[f3,<- f1];exact this) (up (sb,nb) (by simp)) λst' b' u' fr=>h _ st' b' ?_ ⟨?_,?_⟩ λt ht=>fr t (by omega)
 ·rw[<- sC,<- sC,k1,k2];simp;omega
 ·rw[k2]
  refine c1.join ⟨f1,by omega,?_⟩
  rw[<- Nat.add_assoc];exact f5
 ·intro r hr
  rw[k2]at hr
  rcases bl5.mp hr with z|z
  ·intro p q h1 h2 h3
   have:=(c1.mem z).2.1
   rw[fr p (by omega),fr q (by omega)]
   exact up r (bs0 _ z) p q h1 h2 h3
  ·rcases bi4.mp z with z|z
   ·subst z
    show Up rk (arrOf st') sa (sa+(na+nb))
    rw[show sa+(na+nb)=sb+nb by omega];exact u'
   ·intro p q h1 h2 h3
    have:=(f5.mem z).1
    rw[fr p (by omega),fr q (by omega)]
    exact up r (bl1 _ (bi5 _ (bi5 _ z))) p q h1 h2 h3
abbrev RS:=Option Unit×Nat
def T0 (sz pw:Nat):StateT SortSt Sem (Option Unit×Unit):=forIn [0:sz] ((none,()):Option Unit×Unit) λ_ _=>do
 let z <- get
 match (if (pendingOf z).size>1 then (pendingOf z)[(pendingOf z).size-2]? else none) with
 |some (_,_,o)=>if o<=pw then pure (.done (none,())) else do
   let q <- mergeAt' ((pendingOf z).size-2)
   if (!q)=true then pure (.done (some (),())) else pure (.yield (none,()))
 |_=>pure (.done (none,()))
def jn (sz lo n:Nat):StateT SortSt Sem (ForInStep RS):=do
 let z <- get
 match (pendingOf z).back? with
 |some (s1,n1,_)=>do
  let r <- T0 sz (power' sz (2*s1+n1) (2*s1+n1+n1+n) sz)
  match r.1 with
  |some u=>pure (.done (some u,lo))
  |none=>do
   modify λs=>setPending s ((pendingOf s).modify ((pendingOf s).size-1) λx=>(x.1,x.2.1,power' sz (2*s1+n1) (2*s1+n1+n1+n) sz))
   modify λs=>setPending s ((pendingOf s).push (lo,n,0))
   pure (.yield (none,lo+n))
 |_=>do
  modify λs=>setPending s ((pendingOf s).push (lo,n,0))
  pure (.yield (none,lo+n))
def T1 (sz mr lo:Nat):StateT SortSt Sem (ForInStep RS):=if lo >= sz then pure (.done (none,lo)) else do
 match <- countRun' lo (sz-lo) with
 |some n=>
  if n<mr then
   liftM (rule "list.sort.binary-insertion")
   let q <- binarySort' lo (min (sz-lo) mr) n
   if (!q)=true then pure (.done (some (),lo)) else jn sz lo (min (sz-lo) mr)
  else jn sz lo n
 |_=>pure (.done (some (),lo))
def T2 (sz:Nat):StateT SortSt Sem (Option Unit×Unit):=forIn [0:sz] ((none,()):Option Unit×Unit) λ_ _=>do
 let z <- get
 if (pendingOf z).size<=1 then pure (.done (none,())) else do
  let q <- mergeAt' (if ((if (pendingOf z).size-2>0 then (pendingOf z)[(pendingOf z).size-2-1]?.map (·.2.1) else none).any (·<((pendingOf z)[(pendingOf z).size-2+1]?.elim 0 (·.2.1))))=true then (pendingOf z).size-2-1 else (pendingOf z).size-2)
  if (!q)=true then pure (.done (some (),())) else pure (.yield (none,()))
theorem aI6:sortRuns'=(do
 let z <- get
 let r <- (forIn [0:(arrOf z).size] ((none,0):RS) λ_ r=>T1 (arrOf z).size (minRun' (arrOf z).size (arrOf z).size 0) r.2)
 match r.1 with
 |some u=>pure u
 |none=>do
  let q <- T2 (arrOf z).size
  match q.1 with
  |some u=>pure u
  |none=>pure ()):=by kernel_rfl
theorem T3 {lo nn:Nat}(n1:0<nn){pd:Array (Nat×Nat×Nat)}{a:Array Keyed}(r:Rn rk a (sk pd) lo)(u:Up rk a lo (lo+nn)):Rn rk a (sk (pd.push (lo,nn,0))) (lo+nn):=by
 have e:sk (pd.push (lo,nn,0))=sk pd++[(lo,nn)]:=by simp[sk]
 refine⟨by rw[e];exact r.ch.join ⟨rfl,n1,rfl⟩,λq hq=>?_⟩
 rw[e]at hq
 rcases bl5.mp hq with z|z
 ·exact r.up q z
 ·rw[bi6]at z
  subst z
  exact u
theorem T4 (c:bW prog w A E s κ Ok rk)(o:bE Ok a0)(b:SB κ a0 pd st){lo n:Nat}{Q:ForInStep RS->SortSt->Prop}(n1:1<=n)(n2:lo+n<=a0.size)(rn:Rn rk (arrOf st) (sk pd) lo)(u:Up rk (arrOf st) lo (lo+n))(h:∀pd' st',SB κ a0 pd' st'->Rn rk (arrOf st') (sk pd') (lo+n)->Q (.yield (none,lo+n)) st'):wpS (model prog w) A E s (jn a0.size lo n) Q st:=by
 unfold jn
 refine bi8 (wpS_get ?_)
 rw[b.pd]
 cases hb:pd.back? with
 |none=>exact bi8 (wpS_modify (bj4 (h (pd.push (lo,n,0)) _ ⟨b.pm,b.kd,b.ok,by show (pendingOf st).push _=_;rw[b.pd]⟩ (T3 n1 rn u))))
 |some q=>
  obtain⟨s1,m1,q3⟩:=q
  dsimp only
  generalize power' a0.size (2*s1+m1) (2*s1+m1+m1+n) a0.size=pw
  unfold T0
  refine bi8 (bx3 (bq9
   (I:=λ_ r st'=>r=(none,())/\∃pd,SB κ a0 pd st'/\Rn rk (arrOf st') (sk pd) lo/\Up rk (arrOf st') lo (lo+n))
   (Q:=λr st'=>r=(none,())/\∃pd,SB κ a0 pd st'/\Rn rk (arrOf st') (sk pd) lo/\Up rk (arrOf st') lo (lo+n)) ?_ (λ_ _ z=>z) ⟨rfl,pd,b,rn,u⟩) ?_)
  ·rintro t r st4 _ ht ⟨rfl,pd4,b4,r4,u4⟩
   refine bi8 (wpS_get ?_)
   rw[b4.pd]
   cases ho:(if pd4.size>1 then pd4[pd4.size-2]? else none) with
   |none=>exact bj4 ⟨rfl,pd4,b4,r4,u4⟩
   |some z=>
    obtain⟨z1,z2,z3⟩:=z
    have h1:pd4.size>1:=by
     by_cases y:pd4.size>1
     ·exact y
     ·rw[if_neg y]at ho;cases ho
    dsimp only
    by_cases hp:z3<=pw
    ·rw[if_pos hp]
     exact bj4 ⟨rfl,pd4,b4,r4,u4⟩
    ·rw[if_neg hp]
     refine bi8 (S9 c o b4 (by omega) (by omega) r4 λpd5 st5 b5 _ r5 f5=>?_)
     exact bj4 ⟨rfl,pd5,b5,r5,λi j hi hij hj=>by rw[f5 i hi,f5 j (by omega)];exact u4 i j hi hij hj⟩
  ·rintro r st4 ⟨rfl,pd4,b4,r4,u4⟩
   refine bi8 (wpS_modify (bi8 (wpS_modify (bj4 ?_))))
   have e:sk (pd4.modify (pd4.size-1) λx=>(x.1,x.2.1,pw))=sk pd4:=by
    unfold sk
    rw[Array.toList_modify]
    apply List.ext_getElem?
    intro t
    rw[bi7,bi7,List.getElem?_modify]
    cases pd4.toList[t]? with
    |none=>simp
    |some v=>by_cases y:pd4.size-1=t<;>simp[y]
   refine h ((pd4.modify (pd4.size-1) λx=>(x.1,x.2.1,pw)).push (lo,n,0)) _ ⟨b4.pm,b4.kd,b4.ok,?_⟩ (T3 n1 (by rw[e];exact r4) u4)
   show ((pendingOf st4).modify ((pendingOf st4).size-1) λx=>(x.1,x.2.1,pw)).push _=_
   rw[b4.pd]
theorem aI7 (c:bW prog w A E s κ Ok rk)(o:bE Ok a0)(b:SB κ a0 #[] st){Q:Unit->SortSt->Prop}(h2:1<=a0.size)(h:∀st',(arrOf st').Perm a0->failedOf st'=none->Up rk (arrOf st') 0 a0.size->Q () st'):wpS (model prog w) A E s sortRuns' Q st:=by
 rw[aI6]
 refine bi8 (wpS_get ?_)
 rw[b.sz]
 generalize minRun' a0.size a0.size 0=mr
 refine bi8 (bx3 (bq9
  (I:=λx r st'=>∃lo pd,r=(none,lo)/\x<=lo/\lo<=a0.size/\SB κ a0 pd st'/\Rn rk (arrOf st') (sk pd) lo)
  (Q:=λr st'=>∃pd,r=(none,a0.size)/\SB κ a0 pd st'/\Rn rk (arrOf st') (sk pd) a0.size) ?_ ?_ ⟨0,#[],rfl,bh8 _,bl4 _,b,⟨rfl,λr hr=>absurd hr (by simp[sk])⟩⟩) ?_)
 ·rintro x r st1 _ hx ⟨lo,pd,rfl,xl,lz,b1,rn⟩
  unfold T1
  dsimp only
  by_cases hd:lo >= a0.size
  ·rw[if_pos hd]
   have e:lo=a0.size:=by omega
   subst e
   exact bj4 ⟨pd,rfl,b1,rn⟩
  ·rw[if_neg hd]
   refine bi8 (aH0 c o b1 (by omega) (by omega) λn st2 b2 n1 n2 u2 l2=>?_)
   have rn2:=rn.same l2
   dsimp only
   by_cases hmr:n<mr
   ·rw[if_pos hmr]
    refine bi8 (wpS_lift (bv5 ⟨rfl,?_⟩))
    refine bi8 (aH1 c o b2 (by omega) (by omega) u2 λst3 b3 u3 l3=>?_)
    rw[if_neg (by decide)]
    exact T4 c o b3 (by omega) (by omega) (rn2.same l3) u3 λpd' st' b' r'=>⟨_,pd',rfl,by omega,by omega,b',r'⟩
   ·rw[if_neg hmr]
    exact T4 c o b2 n1 (by omega) rn2 u2 λpd' st' b' r'=>⟨lo+n,pd',rfl,by omega,by omega,b',r'⟩
 ·rintro r st1 ⟨lo,pd,rfl,xl,lz,b1,rn⟩
  have e:lo=a0.size:=by omega
  subst e
  exact⟨pd,rfl,b1,rn⟩
 ·rintro r st1 ⟨pd,rfl,b1,rn⟩
  dsimp only
  unfold T2
  refine bi8 (bx3 (bq9
   (I:=λt r st'=>r=(none,())/\∃pd,SB κ a0 pd st'/\Rn rk (arrOf st') (sk pd) a0.size/\(pd.size+t<=a0.size∨pd.size<=1))
   (Q:=λr st'=>r=(none,())/\∃pd,SB κ a0 pd st'/\Rn rk (arrOf st') (sk pd) a0.size/\pd.size<=1) ?_ ?_ ⟨rfl,pd,b1,rn,.inl (by have:=rn.ch.len;rw[sC]at this;omega)⟩) ?_)
  ·rintro t r st2 _ ht ⟨rfl,pd,b2,rn2,pr⟩
   refine bi8 (wpS_get ?_)
   rw[b2.pd]
   by_cases h1:pd.size<=1
   ·rw[if_pos h1]
    exact bj4 ⟨rfl,pd,b2,rn2,h1⟩
   ·rw[if_neg h1]
    refine bi8 (S9 c o b2 ?_ (bh8 _) rn2 λpd' st3 b3 sz3 rn3 _=>?_)
    ·split<;>split<;>omega
    ·exact bj4 ⟨rfl,pd',b3,rn3,by omega⟩
  ·rintro r st2 ⟨rfl,pd,b2,rn2,pr⟩
   exact⟨rfl,pd,b2,rn2,by omega⟩
  ·rintro r st2 ⟨rfl,pd,b2,rn2,pr⟩
   refine bj4 (h st2 b2.pm b2.ok ?_)
   have ch:=rn2.ch
   have up:=rn2.up
   rw[<- sC]at pr
   cases e:sk pd with
   |nil=>rw[e]at ch;exact absurd (show 0=a0.size from ch) (by omega)
   |cons r l=>
    rw[e]at ch up pr
    have el:l = []:=List.eq_nil_of_length_eq_zero (by have:=pr;rw[bk9]at this;omega)
    subst el
    obtain⟨p,n⟩:=r
    obtain⟨q1,q2,q3⟩:=ch
    have q1:p=0:=q1
    have q3:0+n=a0.size:=q3
    subst q1
    have:=up (0,n) (by simp)
    rw[<- q3];exact this
end SO
namespace L2
open PySem PySem.Spec PyProof.Rows SO
abbrev cC (h:Heap)(a:Addr)(vs:List Value):Heap:=((h.update a (Obj.mapSeq λ_=>#[])).push (seqObj "tuple" vs.toArray 0)).push (seqObj "list" #[] 0)
abbrev bZ (h:Heap)(vs:List Value):Heap:=((h.push (seqObj "list" #[] 0)).update h.objs.size (Obj.mapSeq (·++vs.toArray))).push (seqObj "list" vs.toArray 0)
theorem T5 {h:Heap}{vs:List Value}{b:Addr}{o:Obj}(e:h.get? b=some o):(bZ h vs).get? b=some o:=by
 have l:=bj0 e
 refine bh4 _ ?_
 rw[Heap.get?_update_ne _ _ _ _ (bl3 l)]
 exact bh4 _ e
theorem T6 {h:Heap}{vs:List Value}{a b:Addr}{o:Obj}(hb:b≠a)(e:h.get? b=some o):(cC h a vs).get? b=some o:=by
 refine bh4 _ (bh4 _ ?_)
 rw[Heap.get?_update_ne _ _ _ _ hb];exact e
theorem T7 {prog:Program}{w:World}{A:Around}{E:Value->Shared->Prop}{s:Shared}{a:Addr}{vs:List Value}{n:Nat}{P:PySem.Fin->Shared->Prop}{κ:SortKind}{Ok:Keyed->Prop}{rk:Keyed->Int}(e:s.heap.get? a=some (seqObj "list" vs.toArray n))(h2:2<=vs.length)(big:vs.length<=sizeLine)(hk:∀Q:SortKind->Shared->Prop,Q κ { s with heap:=cC s.heap a vs }->wpAny (model prog w) A (keyKind' vs.toArray) Q E { s with heap:=cC s.heap a vs })(c:bW prog w A E { s with heap:=cC s.heap a vs } κ Ok rk)(o:∀v∈vs,Ok (v,v))(q:∀out:List Value,out.Perm vs->out.Pairwise (λu v=>rk (u,u)<=rk (v,v))->P (.done (.ret .none)) { s with heap:=sortedHeap s.heap a vs out.toArray }):wpAny (model prog w) A (Builtin.«list.sort» ⟨[.ref a],[]⟩) P E s:=by
 have la:=bj0 e
 have cc:¬vs.toArray.size<2:=by simpa using h2
 obtain⟨k,ek⟩:∃k,(s.heap.update a (Obj.mapSeq λ_=>#[])).get? a=some (seqObj "list" #[] k):=⟨_,get?_update_seq e λ_=>#[]⟩
 have there:(cC s.heap a vs).get? a=some (seqObj "list" #[] k):=bh4 _ (bh4 _ ek)
 rw[list_sort_plain]
 apply bh3
 apply listItems_at e rfl
 apply bh3
 refine listUpdate_at e rfl ?_ (by simpa using big) (bl4 _)
 apply bh3
 apply seqEpoch_at ek rfl
 apply bh3
 refine wpAny_newTuple ?_ big
 apply bh3
 refine wpAny_newList ?_ (bl4 _)
 apply br3
 simp only[cc,bn9]
 apply bh3
 refine hk _ ?_
 have zl:(vs.toArray.zip vs.toArray).toList=vs.zip vs:=by simp
 apply bh3
 refine bo6 (aI7 (a0:=vs.toArray.zip vs.toArray) (Q:=λ_ st'=>(arrOf st').Perm (vs.toArray.zip vs.toArray)/\failedOf st'=none/\Up rk (arrOf st') 0 (vs.toArray.zip vs.toArray).size) c (λx hx=>?_) ⟨Array.Perm.refl _,rfl,rfl,rfl⟩ (by simp;omega) λst' a1 a2 a3=>⟨a1,a2,a3⟩) ?_ λ_ _ z=>z
 ·have hx':x∈vs.zip vs:=by rw[<- zl];exact Array.mem_toList_iff.mpr hx
  obtain⟨y1,y2⟩:=mem_zip_self hx'
  have:=o x.1 y2
  have ex:x=(x.1,x.1):=Prod.ext rfl y1.symm
  rw[ex];exact this
 ·rintro⟨⟨⟩,st'⟩ s' ⟨rfl,pm,ok,up⟩
  have lp:(arrOf st').toList.Perm (vs.zip vs):=by rw[<- zl];exact Array.perm_iff_toList_perm.mp pm
  have out:(arrOf st').map (·.2)=((arrOf st').toList.map (·.2)).toArray:=by apply Array.toList_inj.mp;rw[Array.toList_map]
  have op:((arrOf st').toList.map (·.2)).Perm vs:=by
   have:=lp.map (·.2)
   rw[qD]at this;exact this
  have sz:(arrOf st').size=vs.length:=by rw[pm.size_eq];simp
  dsimp only
  apply bh3
  apply seqEpoch_at there rfl
  apply bh3
  refine listUpdate_at there rfl ?_ (bl4 _) (by rw[Array.size_map,sz];exact Nat.le_succ_of_le big)
  rw[ok]
  simp only[bne_self_eq_false,bk1,bn9]
  refine bi0 ?_
  have hq:=q _ op ?_
  ·rw[<- out]at hq;exact hq
  ·rw[bp3,bl7]
   intro i j hi hj hij
   have hi':i<(arrOf st').size:=by simpa using hi
   have hj':j<(arrOf st').size:=by simpa using hj
   have h1:=up i j (bl4 _) (br6 hij) (by simp;omega)
   rw[bV hi',bV hj']at h1
   have dg:∀x∈(arrOf st').toList,(x.2,x.2)=x:=λx hx=>Prod.ext (mem_zip_self (lp.mem_iff.mp hx)).1.symm rfl
   rw[dg _ (bq5 hi),dg _ (bq5 hj)]
   simpa using h1
theorem aI8 {prog:Program}{w:World}{A:Around}{E:Value->Shared->Prop}{s:Shared}{l:Addr}{vs:List Value}{Q:Value->Shared->Prop}{κ:SortKind}{Ok:Keyed->Prop}{rk:Keyed->Int}(hl:s.heap.IsList l vs.toArray)(h2:2<=vs.length)(big:vs.length<=sizeLine)(hk:∀(A:Around) (E:Value->Shared->Prop) (Q:SortKind->Shared->Prop),Q κ { s with heap:=cC (bZ s.heap vs) (s.heap.objs.size+1) vs }->wpAny (model prog w) A (keyKind' vs.toArray) Q E { s with heap:=cC (bZ s.heap vs) (s.heap.objs.size+1) vs })(c:∀(A:Around) (E:Value->Shared->Prop),bW prog w A E { s with heap:=cC (bZ s.heap vs) (s.heap.objs.size+1) vs } κ Ok rk)(o:∀v∈vs,Ok (v,v))(q:∀out:List Value,out.Perm vs->out.Pairwise (λu v=>rk (u,u)<=rk (v,v))->Q (.ref (s.heap.objs.size+1)) { s with heap:=sortedAll s.heap vs out.toArray }):wpAny (model prog w) A (call (.builtin "sorted") [.ref l]) Q E s:=by
 apply Calls.call_function_entry kind_sorted plain_sorted entry_sorted (args_sorted1 _)
 simp only[Builtin.«sorted»]
 apply bh3 (m:=checkCount "sorted" 1 1 _)
 apply bi0
 apply bh3
 refine collect_list hl ?_ big
 apply bh3
 refine wpAny_newList ?_ big
 have one:((s.heap.push (seqObj "list" #[] 0)).update s.heap.objs.size (Obj.mapSeq (·++vs.toArray))).objs.size=s.heap.objs.size+1:=(Heap.size_update _ _ _).trans (size_push' _ _)
 have at1:(bZ s.heap vs).get? (s.heap.objs.size+1)=some (seqObj "list" vs.toArray 0):=one▸bj2 _ rfl
 change wpAny _ _ _ _ _ { s with heap:=bZ s.heap vs }
 rw[one]
 apply bh3
 apply br3
 refine bo8 slot_list_sort ⟨_,at1,rfl⟩ entry_list_sort ?_ (args_list_sort _)
 exact T7 (s:={ s with heap:=bZ s.heap vs }) at1 h2 big (hk _ _) (c _ _) o λout a1 a2=>⟨_,rfl,bi0 ⟨_,rfl,q out a1 a2⟩⟩
def sE (h:Heap)(B:Int)(x:Keyed):Int:=match x.1 with
 |.ref b=>match h.get? b with
  |some ob=>match ob.data with
   |.seq us _=>numOf (us.getD 0 .none)*B+numOf (us.getD 1 .none)
   |_=>0
  |none=>0
 |_=>0
structure iT (h:Heap)(M:Int)(v:Value)(p q:Int):Prop where
 at_:∃b ob us n,v = .ref b/\h.get? b=some ob/\ob.cls = .type "tuple"/\ob.data = .seq (List.toArray us) n/\IntsAre us [p,q]
 lo:-M<=q
 hi:q<=M
theorem iT.rk {h:Heap}{M B:Int}{x:Keyed}{p q:Int}(z:iT h M x.1 p q):sE h B x=p*B+q:=by
 obtain⟨b,ob,us,n,e1,e2,_,e4,e5⟩:=z.at_
 cases e5 with
 |cons _ t e6=>cases e6 with
  |cons _ u e7=>cases e7;unfold sE;rw[e1];dsimp only;rw[e2];dsimp only;rw[e4];rfl
theorem T8 {p q p' q' M:Int}(h1:-M<=q)(h2:q<=M)(h3:-M<=q')(h4:q'<=M):HT.aY [p,q] [p',q']=decide (p*(2*M+1)+q<p'*(2*M+1)+q'):=by
 rw[HT.iF]
 have mm:∀{a b:Int},a<b->a*(2*M+1)+(2*M+1)<=b*(2*M+1):=λ{a b} z=>by
  have:=Int.mul_le_mul_of_nonneg_right (show a+1<=b by omega) (show 0<=2*M+1 by omega)
  rw[Int.add_mul,Int.one_mul]at this
  exact this
 by_cases e:p=p'
 ·subst e
  rw[if_pos rfl,HT.iF]
  by_cases e2:q=q'
  ·subst e2
   rw[if_pos rfl,HT.B2,bi2 (by omega)]
  ·rw[if_neg e2]
   by_cases l:q<q'
   ·rw[bi9 l,bi9 (by omega)]
   ·rw[bi2 l,bi2 (by omega)]
 ·rw[if_neg e]
  by_cases l:p<p'
  ·have:=mm l
   rw[bi9 l,bi9 (by omega)]
  ·have:=mm (show p'<p by omega)
   rw[bi2 l,bi2 (by omega)]
theorem aI9 {prog:Program}{w:World}{A:Around}{E:Value->Shared->Prop}{s:Shared}{M:Int}:bW prog w A E s (tuples' true) (λx=>∃p q,iT s.heap M x.1 p q) (sE s.heap (2*M+1)):=by
 rintro x y ⟨p,q,z⟩ ⟨p',q',z'⟩ st Q hk hq
 rw[z.rk,z'.rk]at hq
 rw[<- T8 z.lo z.hi z'.lo z'.hi]at hq
 obtain⟨b,ob,us,n,e1,e2,e3,e4,e5⟩:=z.at_
 obtain⟨b',ob',us',n',e1',e2',e3',e4',e5'⟩:=z'.at_
 rw[lt'_eq]
 refine bi8 (wpS_get ?_)
 rw[hk,e1,e1']
 refine bi8 (wpS_lift (wpAny_attempt (PySem.W.kat_lt e2 e4 e2' e4' ?_)))
 have:=vO (prog:=prog) (w:=w) (A:=A) (s:=s) (Q:=λa s'=>s'=s/\wpS (model prog w) A E s (pure (some a)) Q st) 0 e5 e5' ⟨rfl,bj4 hq⟩
 simpa using this
theorem T9 {vs vs':List Value}(h:vs.Perm vs'):∀{xs:List V},aF xs vs->∃xs',xs'.Perm xs/\aF xs' vs':=by
 induction h with
 |nil=>intro xs r;exact⟨xs,List.Perm.refl _,r⟩
 |cons v _ ih=>
  intro xs r
  cases r with
  |cons r t=>
   obtain⟨xs',p,r'⟩:=ih t
   exact⟨_::xs',p.cons _,.cons r r'⟩
 |swap u v l=>
  intro xs r
  cases r with
  |cons r t=>cases t with
   |cons r2 t2=>exact⟨_,List.Perm.swap _ _ _,.cons r2 (.cons r t2)⟩
 |trans _ _ ih1 ih2=>
  intro xs r
  obtain⟨x1,p1,r1⟩:=ih1 r
  obtain⟨x2,p2,r2⟩:=ih2 r1
  exact⟨x2,p2.trans p1,r2⟩
theorem U0 {α:Type}(f:α->Int):∀l:List α,∃M:Int,∀y∈l,-M<=f y/\f y<=M
 |[]=>⟨0,λ_ h=>nomatch h⟩
 |x::l=>by
  obtain⟨M,h⟩:=U0 f l
  refine⟨max M (max (f x) (- f x)),λy hy=>?_⟩
  rcases bi4.mp hy with e|e
  ·subst e;omega
  ·have:=h y e;omega
def U1 (K:ac):List V->Hp->VK->Prop:=λxs H Q=>∃(a:Addr) (ys:List V) (key:V->ae),xs = [.ref a]/\aJ K H a ys/\ys.length<=4096/\(∀y∈ys,∃b,y = .ref b/\aG K H b ((key y).map V.int)/\(key y).length=2)/\
 ∀l (zs:List V),H l=none->zs.Perm ys->zs.Pairwise (λu v=>HT.aY (key v) (key u)=false)->Q (.ref l) (upd H l (.lst zs))
theorem aJ0 {X:Cx}:cH X (.builtin "sorted") (U1 X.K):=by
 intro pins s σ H xs us Q I r h
 obtain⟨a,ys,key,rfl,hs,hz4,hk,q⟩:=h
 obtain⟨u,rfl,ru⟩:=fV r
 cases ru
 obtain⟨its,rv,p,hz⟩:=I.list hs
 have hl:=rv.length
 have hn:s.heap.objs.size<=s.heap.objs.size+1:=Nat.le_succ _
 by_cases h2:its.length<2
 ·refine vM p.isList h2 ?_
  obtain⟨e,he⟩:=sortedAll_at s.heap its its.toArray
  refine⟨.ref (s.heap.objs.size+1),upd H (s.heap.objs.size+1) (.lst ys),I.laid (t':=s.toks) (λ_ _=>sortedAll_old) hn ⟨hz,its,e,rv,he⟩,rfl,q _ ys (I.hok.fresh hn) (List.Perm.refl _) ?_⟩
  match ys,hl with
  |[],_=>exact bp2
  |[_],_=>exact bl8 _ _
  |_::_::_,hl=>simp at hl;omega
 ·obtain⟨M,hM⟩:=U0 (λy=>(key y).getD 1 0) ys
  have pv:∀{y:V}{v:Value},aM y v->y∈ys->∃pp qq,key y = [pp,qq]/\iT (cC (bZ s.heap its) (s.heap.objs.size+1) its) M v pp qq:=λ{y v} ry hy=>by
   obtain⟨b,rfl,sq,l2⟩:=hk y hy
   cases ry
   obtain⟨us,ru,⟨ob,e1,c1,n1,d1⟩,_⟩:=I.tuple sq
   have ia:=pP ru
   have mm:=hM _ hy
   match hkk:key (V.ref b),l2 with
   |[pp,qq],_=>
    rw[hkk]at ia mm
    exact⟨pp,qq,rfl,⟨b,ob,us,n1,rfl,T6 (bl3 (Nat.lt_succ_of_lt (bj0 e1))) (T5 e1),c1,d1,ia⟩,mm.1,mm.2⟩
  have pvs:∀{xs:List V}{vs:List Value},aF xs vs->(∀y∈xs,y∈ys)->∀v∈vs,∃pp qq,iT (cC (bZ s.heap its) (s.heap.objs.size+1) its) M v pp qq:=by
   intro xs vs r
   induction r with
   |nil=>intro _ v hv;cases hv
   |cons rx rt ih=>
    intro hh v hv
    rcases bi4.mp hv with z|z
    ·subst z
     obtain⟨pp,qq,_,z⟩:=pv rx (hh _ bh7)
     exact⟨pp,qq,z⟩
    ·exact ih (λy hy=>hh y (bi5 _ hy)) v z
  have firsts:∀{vs:List Value},(∀v∈vs,∃pp qq,iT (cC (bZ s.heap its) (s.heap.objs.size+1) its) M v pp qq)->∃fs:List Value,PySem.W.KatTups (cC (bZ s.heap its) (s.heap.objs.size+1) its) vs fs/\fs.length=vs.length/\∀v∈fs,∃i t,v=Value.int i t:=by
   intro vs
   induction vs with
   |nil=>intro _;exact⟨[],PySem.W.KatTups.nil,rfl,λ_ z=>nomatch z⟩
   |cons v vs ih=>
    intro hh
    obtain⟨fs,t1,t2,t3⟩:=ih λy hy=>hh y (bi5 _ hy)
    obtain⟨pp,qq,z⟩:=hh v bh7
    obtain⟨b,ob,us,n,rfl,e2,e3,e4,e5⟩:=z.at_
    cases e5 with
    |cons _ t e6=>exact⟨Value.int pp t::fs,PySem.W.KatTups.cons e2 e3 e4 (by simp) t1,by simp[t2],λv hv=>(bi4.mp hv).elim (λz=>⟨pp,t,z⟩) (t3 v)⟩
  have allp:=pvs rv λ_ h=>h
  obtain⟨fs,t1,t2,t3⟩:=firsts allp
  refine aI8 (κ:=tuples' true) (Ok:=λx=>∃pp qq,iT (cC (bZ s.heap its) (s.heap.objs.size+1) its) M x.1 pp qq) (rk:=sE (cC (bZ s.heap its) (s.heap.objs.size+1) its) (2*M+1)) p.isList (by omega) (by rw[<- hl];exact hz)
   (λA E Q hQ=>?_) (λA E=>aI9 (s:={ s with heap:=cC (bZ s.heap its) (s.heap.objs.size+1) its })) (λv hv=>allp v hv) λout pm so=>?_
  ·refine PySem.W.kat_kind (T:=.type "int") t1 (by omega) (λv hv=>?_) (by decide) ?_
   ·obtain⟨i,t,rfl⟩:=t3 v hv
    exact PySem.W.Looks.now
   ·have eT:(Value.type "int" != Value.type "tuple")=true:=by decide
    rw[eT];exact hQ
  ·obtain⟨zs,pz,rz⟩:=T9 pm.symm rv
   obtain⟨e,he⟩:=sortedAll_at s.heap its out.toArray
   refine⟨.ref (s.heap.objs.size+1),upd H (s.heap.objs.size+1) (.lst zs),I.laid (t':=s.toks) (λ_ _=>sortedAll_old) hn ⟨by rw[pz.length_eq];exact hz,out,e,rz,he⟩,rfl,q _ zs (I.hok.fresh hn) pz ?_⟩
   have lz:=rz.length
   rw[bl7]
   intro i j hi hj hij
   have s1:=bl7.mp so i j (by omega) (by omega) hij
   have gi:=jZ i hi rz
   have gj:=jZ j hj rz
   simp only[bh9,bh5 hi,bh5 hj,bh5 (show i<out.length by omega),bh5 (show j<out.length by omega),Option.getD_some]at gi gj
   obtain⟨pi,qi,ki,vi⟩:=pv gi (pz.mem_iff.mp (bq5 hi))
   obtain⟨pj,qj,kj,vj⟩:=pv gj (pz.mem_iff.mp (bq5 hj))
   rw[iT.rk (x:=(out[i],out[i])) vi,iT.rk (x:=(out[j],out[j])) vj]at s1
   rw[ki,kj,T8 vj.lo vj.hi vi.lo vi.hi]
   exact bi2 (by omega)
end L2
namespace L2
open PySem PySem.Spec PyProof.Rows
theorem b7.at {P:Program}{w:World}{H:Hp}{h:Heap}{a:Addr}{o:HO}(x:b7 P w H h a o):∃ob,h.get? a=some ob:=by
 cases o with
 |lst xs=>obtain⟨_,_,_,_,e⟩:=x;exact⟨_,e⟩
 |tup xs=>obtain⟨_,_,_,⟨_,e,_⟩,_⟩:=x;exact⟨_,e⟩
 |dK kvs=>obtain⟨_,_,_,_,_,_,_,e,_⟩:=x;exact⟨_,e⟩
 |dT kvs=>obtain⟨_,_,_,_,_,_,_,e,_⟩:=x;exact⟨_,e⟩
 |set S n=>obtain⟨_,_,_,_,e,_⟩:=x;exact⟨_,e⟩
 |ins C dx fs=>obtain⟨_,_,_,e,_⟩:=x;exact⟨_,e⟩
 |own y=>exact x
 |xd fs=>obtain⟨_,⟨_,_,_,e,_⟩,_⟩:=x;exact⟨_,e⟩
 |rng lo hi=>obtain⟨_,_,_,e⟩:=x;exact⟨_,e⟩
 |frz ob u=>obtain⟨e,_⟩:=x;exact⟨_,e⟩
 |tbl ps=>exact⟨_,x⟩
 |met f y=>exact⟨_,x⟩
 |ext φ=>exact x.2.1
structure xC (P:Program)(w:World)(outer:List Env)(H:Hp)(s:Shared)(H':Hp)(B:Heap)(a C:Addr)(s':Shared):Prop where
 os:s'.os=s.os
 bare:AllBare s'.gens
 un:Un (bP outer) [] H H' s.heap s'.heap
 hok:bG P w H' s'.heap
 fly:∃a0,Heap.FlyingW B outer a (.ref C) a0 s'.heap
 b0:∀b o,s.heap.get? b=some o->b∉bP outer->∃o',B.get? b=some o'
 b1:∀b o,s.heap.get? b=some o->H b=none->b∉bP outer->B.get? b=some o
 b2:∀b u o,H' b=some u->s'.heap.get? b=some o->B.get? b=some o
def eC (P:Program)(w:World):fW:=λouter H s E e s'=>∃(H':Hp) (B:Heap) (a C:Addr),e = .ref a/\xC P w outer H s H' B a C s'/\E (.ref C) none H'
section
variable {P:Program}{w:World}{outer:List Env}{H H':Hp}{s s':Shared}{B h2:Heap}{a C:Addr}
theorem xC.hok2 (f:xC P w outer H s H' B a C s')(k:B.StaysIn h2):bG P w H' h2:=λb u e=>
 (f.hok b u e).stay (λc v hc q=>by
  rcases hc with z|z
  ·subst z;exact k _ _ (f.b2 _ _ _ e q)
  ·exact k _ _ (f.b2 _ _ _ z q)) (λ_ q=>q) λ_ _ q=>q
end
section
variable {P:Program}{w:World}{K:ac}{mg:Str→Option Value}{base:Heap}{N:List Str}{qual:Str}{scope:Scope}{f:Addr}{cd:Value}{A:Around}{outer:List Env}{s₀:Shared}{H₀:Hp}{E₀ E₁:XK}
theorem sF {pins:List (Addr×Obj)}{σ:St}{H:Hp}{s:Shared}(I:a6 (cK (eC P w) P w K mg base N qual scope f cd A outer s₀ H₀ E₀) pins σ H s){b:Addr}{o:Obj}(e:s₀.heap.get? b=some o)(n:b∉bP outer) :
  b∉bP (envOfC qual scope s₀.heap.objs.size f cd::outer):=λz=>by
 rcases bi4.mp (I.stkSub b z) with y|y
 ·have l:=bj0 e
  have y:b=s₀.heap.objs.size:=y
  exact absurd l (by rw[y];exact bn8 _)
 ·exact n y
theorem aJ1 (hE:∀c d H',E₁ c d H'->E₀ c d H'):nL (eC P w) (cK (eC P w) P w K mg base N qual scope f cd A outer s₀ H₀ E₀) E₁:=by
 intro pins σ H s e s' I hx
 obtain⟨H',B,a,C,e1,fl,q⟩:=hx
 subst e1
 have I':=I.call' fl.os fl.un fl.hok fl.bare (ch:=[]) (λb z=>absurd z (by simp))
 obtain⟨a0,fly⟩:=fl.fly
 refine wpAny_leaves_onW I.ok.frames rfl fly λh' fly' up=>?_
 have slot:∀b o,s₀.heap.get? b=some o->b∈bP outer->∃sl,h'.get? b=some { o with slots:=sl }:=λb o e hb=>by
  obtain⟨sl,e1⟩:=I'.base.slot b o e (I.ok.frf b hb) hb (λz=>nomatch z)
  obtain⟨_,o2,e2,nf⟩:=I.ok.funs.mem hb
  rw[show (cK (eC P w) P w K mg base N qual scope f cd A outer s₀ H₀ E₀).s₀=s₀ from rfl,e]at e2
  cases e2
  obtain⟨sl',e3⟩:=up b _ e1 nf
  exact⟨sl',e3⟩
 have old:∀b o,s₀.heap.get? b=some o->H₀ b=none->b∉bP outer->B.get? b=some o:=λb o e n hb=>
  fl.b1 b o (I.base.keep b o e n hb (λz=>nomatch z)) (I.base.free b o e n (λz=>nomatch z)) (sF I e hb)
 have old0:∀b o,s₀.heap.get? b=some o->b∉bP outer->∃o',B.get? b=some o':=λb o e hb=>by
  obtain⟨o1,e1⟩:=I.base.there b o e (λz=>nomatch z)
  exact fl.b0 b o1 e1 (sF I e hb)
 refine⟨H',B,a,C,rfl,⟨I'.os,I'.bare,⟨λb o e n hb _=>fly'.1 _ _ (old b o e n hb),λb o e n hb _=>slot b o e hb,λb o e n hx=>I'.base.free b o e n hx,λb o e _=>?_,I'.base.tups,I'.base.frzs,I'.base.tbls⟩,fl.hok2 fly'.1,⟨a0,fly'⟩,old0,old,λb u o e h=>?_⟩,hE _ _ _ q⟩
 ·by_cases hb:b∈bP outer
  ·obtain⟨sl,e1⟩:=slot b o e hb
   exact⟨_,e1⟩
  ·obtain⟨o',e1⟩:=old0 b o e hb
   exact⟨o',fly'.1 _ _ e1⟩
 ·obtain⟨ob,e1⟩:=(fl.hok b u e).at
  have e2:=fl.b2 b u ob e e1
  have e3:=fly'.1 _ _ e2
  have h:h'.get? b=some o:=h
  rw[h]at e3;cases e3;exact e2
theorem aJ2 {pins:List (Addr×Obj)}{σ:St}{H:Hp}{s:Shared}{h':Heap}{e C:Addr}{args:List Value}(I:a6 (cK (eC P w) P w K mg base N qual scope f cd A outer s₀ H₀ E₀) pins σ H s)(mx:Heap.MadeExcOf s.heap h' e (.ref C) args)(q:E₀ (.ref C) none H) :
  (cK (eC P w) P w K mg base N qual scope f cd A outer s₀ H₀ E₀).xe (.ref e) { s with heap:=h' }:=by
 have tr:∀b u,H b=some u->b∉bP (envOfC qual scope s₀.heap.objs.size f cd::outer):=λb u z n=>by
  rw[I.stkFree b n]at z;cases z
 have inB:∀b o,s.heap.get? b=some o->b∉bP (envOfC qual scope s₀.heap.objs.size f cd::outer)->(PySem.W.hideAll s.heap (bP (envOfC qual scope s₀.heap.objs.size f cd::outer))).get? b=some o:=λb o z n=>PySem.W.hideAll_get _ z n
 refine wpAny_leaves_madeW (base:=PySem.W.hideAll s.heap (bP (envOfC qual scope s₀.heap.objs.size f cd::outer))) I.ok.frames rfl (λb o z=>PySem.W.of_hideAll _ z) (PySem.W.funFrames_hide I.stack λenv he b hb=>List.mem_filterMap.mpr ⟨env,he,hb⟩) mx λh'' t fly _ _ up=>?_
 have slot:∀b o,s₀.heap.get? b=some o->b∈bP outer->∃sl,h''.get? b=some { o with slots:=sl }:=λb o e hb=>by
  obtain⟨sl,e1⟩:=I.base.slot b o e (I.ok.frf b hb) hb (λz=>nomatch z)
  obtain⟨_,o2,e2,nf⟩:=I.ok.funs.mem hb
  rw[show (cK (eC P w) P w K mg base N qual scope f cd A outer s₀ H₀ E₀).s₀=s₀ from rfl,e]at e2
  cases e2
  obtain⟨sl',e3⟩:=up b _ (mx.keeps _ _ e1) nf
  exact⟨sl',e3⟩
 have old:∀b o,s₀.heap.get? b=some o->H₀ b=none->b∉bP outer->(PySem.W.hideAll s.heap (bP (envOfC qual scope s₀.heap.objs.size f cd::outer))).get? b=some o:=λb o e n hb=>
  inB b o (I.base.keep b o e n hb (λz=>nomatch z)) (sF I e hb)
 have old0:∀b o,s₀.heap.get? b=some o->b∉bP outer->∃o',(PySem.W.hideAll s.heap (bP (envOfC qual scope s₀.heap.objs.size f cd::outer))).get? b=some o':=λb o e hb=>by
  obtain⟨o1,e1⟩:=I.base.there b o e (λz=>nomatch z)
  exact⟨o1,inB b o1 e1 (sF I e hb)⟩
 refine⟨H,_,e,C,rfl,⟨I.os,I.bare,⟨λb o e n hb _=>fly.1 _ _ (old b o e n hb),λb o e n hb _=>slot b o e hb,λb o e n hx=>I.base.free b o e n hx,λb o e _=>?_,I.base.tups,I.base.frzs,I.base.tbls⟩,λb u z=>?_,⟨_,fly⟩,old0,old,λb u o z h=>?_⟩,q⟩
 ·by_cases hb:b∈bP outer
  ·obtain⟨sl,e1⟩:=slot b o e hb
   exact⟨_,e1⟩
  ·obtain⟨o',e1⟩:=old0 b o e hb
   exact⟨o',fly.1 _ _ e1⟩
 ·refine (I.hok b u z).stay (λc v hc y=>?_) (λ_ y=>y) λ_ _ y=>y
  rcases hc with z'|z'
  ·subst z';exact fly.1 _ _ (inB _ _ y (tr _ _ z))
  ·exact fly.1 _ _ (inB _ _ y (tr _ _ z'))
 ·obtain⟨ob,e1⟩:=(I.hok b u z).at
  have e2:=inB b ob e1 (tr b u z)
  have e3:=fly.1 _ _ e2
  have h:h''.get? b=some o:=h
  rw[h]at e3;cases e3;exact e2
end
structure mG (X:Cx)(E:XK):Prop where
 pass:nL (eC X.prog X.w) X E
 made:∀(pins:List (Addr×Obj)) (σ:St) (H:Hp) (s:Shared) (h':Heap) (e C:Addr) (args:List Value),a6 X pins σ H s->Heap.MadeExcOf s.heap h' e (.ref C) args->E (.ref C) none H->X.xe (.ref e) { s with heap:=h' }
 own:PassesOwn (model X.prog X.w) X.A X.env X.xe
theorem aJ3 {P:Program}{w:World}{K:ac}{mg:Str->Option Value}{base:Heap}{N:List Str}{qual:Str}{scope:Scope}{f:Addr}{cd:Value}{A:Around}{outer:List Env}{s₀:Shared}{H₀:Hp}{E₀ E₁:XK}(hE:∀c d H',E₁ c d H'->E₀ c d H') :
  mG (cK (eC P w) P w K mg base N qual scope f cd A outer s₀ H₀ E₀) E₁:=
 ⟨aJ1 hE,λ_ _ _ _ _ _ _ _ I mx q=>aJ2 I mx (hE _ _ _ q),PassesOwn.leaving⟩
def U2 (E:XK)(C:Addr)(t:TA):TS:=λ_ σ H=>t σ H λvs H1=>vs.length<=sizeLine/\E (.ref C) none H1
theorem aJ4 {X:Cx}{E:XK}{x:Str}{C:Addr}{bm:List Value}{B newId initId:String}{np cpos pos:Pos}{e:Expr}{es:List Expr}{t:TA}(hX:mG X E)(hc:X.calm=true)(O:OwnCls x C bm newId X.mg X.base)(FB:ExcBaseFacts B newId initId bm)(ha:PA X (e::es) t)(hg:Gl X x)(hd:(x==("__debug__":Str))=false:=by decide)(he:starEach (e::es) X.env=(false,eval e X.env)::starEach es X.env:=by rfl)(hpl:(backTo cpos (starEach es X.env)).any (·.1)=false:=by rfl) :
  PS X (.Raise (some (.Call (.Name x np) (e::es) [] cpos)) none pos) (U2 E C t):=by
 intro pins s σ H D I h
 obtain⟨tl,Na,nm,qn,bs,hx,sn,sub,ab,col,dd,k0,k1,k2,k3,k5,mN,hC,hN,hni,T⟩:=O.obj
 refine wpAny_Raise_call_subT (nm:=nm) (q:=qn) (N:=Na) (bs:=bs) (bm:=tl) (hdct:=hx) (sn:=sn) (sub:=sub) (ab:=ab) (col:=col) (dd:=dd) (k0:=k0) (k1:=k1) (k2:=k2) (k3:=k3) (k5:=k5) FB (C:=C) (mN:=mN) (T.hasType FB.hasBase) (I.ok.hd hc) (by rw[he];show (false||(backTo cpos (starEach es X.env)).any (·.1))=false;rw[hpl];rfl) hni (u7 I hg O.bound ⟨rfl,?_⟩ hd)
 have h1:=ha cpos pins s σ H _ I h
 rw[he]at h1 ⊢
 refine Calls.evalArgs_plain (bo6 h1 (λus s2 h2=>?_) λ_ _ y=>y)
 obtain⟨vs,H2,I2,r,hl,q⟩:=h2
 have r:aF vs us:=r
 exact⟨rfl,by show us.length<=sizeLine;rw[<- r.length];exact hl,I2.bk _ _ hC,hN.keeps I2.bk,T.keeps I2.bk,λh' e' mx=>hX.made pins σ H2 s2 h' e' C _ I2 mx q⟩
theorem dR.okX {P:Program}{w:World}{K:ac}{mg:Str->Option Value}{base:Heap}{x qual:Str}{st:Stmt}{f:Addr}{fd:FuncData}{N ps:List Str}{k:Nat}{sp:Sp}(F:dR K x qual st f fd)(S:FnScope N ps (aN st))(len:∀vs H Q E,sp vs H Q E->vs.length=ps.length)(hbody:∀(cdv:Value) (A:Around) (outer:List Env) (s:Shared) (H:Hp) (vs:List V) (Q:VK) (E:XK),bR k (A.deeper (envOfC qual (aN st) s.heap.objs.size f cdv))->sp vs H Q E->
   ∃t,dE (cK (eC P w) P w K mg base N qual (aN st) f cdv A outer s H E) (dH st) t/\t { nx:=λ_ H'=>Q .non H',rt:=Q } (fX N vs) H):cD P w K mg base (eC P w) (k+1) f fd ps sp:=by
 obtain⟨oc,od,kV,doc,pm,an,cdv,ct,osl,rfl,lk,hcd⟩:=F.ex
 exact B1 lk hcd S len λA outer s H vs Q E hr hsp=>hbody cdv A outer s H vs Q E hr hsp
section
variable {X:Cx}{pins:List (Addr×Obj)}{σ:St}{H H1 H':Hp}{s s1 s':Shared}{B h2:Heap}{a C:Addr}
abbrev Cx.suite (X:Cx)(a:Addr):Cx:={ X with A:=X.A.mark (some (.ref a)),calm:=false,xe:=λ_ _=>False }
end
abbrev TB:=cW->XK->St->Hp->Prop
end L2
namespace L2
open PySem PySem.Spec PyProof.Rows PySem.Calls Builtin Builtin.ObjectAttr Builtin.Getset_descriptor
structure aJ5 (K:ac)(D:Addr):Prop where
 cls:(PySem.W.clsIn K D).isSome=true
 ga:PySem.W.findIn K (.ref D) "__getattribute__" = some (some (.builtin "BaseException.__getattribute__"))
 gt:PySem.W.findIn K (.ref D) "__getattr__" = some none
 fc:PySem.W.findIn K (.ref D) "__class__" = some (some (.builtin "object.__class__"))
 fg:PySem.W.specialIn K (.builtin "object.__class__") "__get__" = some (some (.builtin "getset_descriptor.__get__"))
 ft:PySem.W.takesIn K (.builtin "object.__class__")=some true
 ob:PySem.W.mroIn K D (.type "object")=some true
 be:PySem.W.mroIn K D (.type "BaseException")=some true
end L2
namespace L2
open PySem PySem.Spec PyProof.Rows
section
variable {X:Cx}{pins:List (Addr×Obj)}{σ:St}{H H':Hp}{s:Shared}{a:Addr}
theorem a6.reH (I:a6 X pins σ H s)(d:∀b,b≠a->H' b=H b)(ha:∃x,H a=some x)(tup:∀xs,H a≠some (.tup xs))(frz:∀o v,X.H₀ a≠some (.frz o v))(tbl:∀ps,H a≠some (.tbl ps))(hok:bG X.prog X.w H' s.heap):a6 X pins σ H' s:=by
 have none:∀b,H b=none->H' b=none:=λb e=>by
  rw[d b λz=>?_];exact e
  obtain⟨x,hx⟩:=ha
  rw[z,hx]at e;cases e
 refine⟨I.ok,I.os,I.bare,⟨I.base.keep,I.base.slot,λb o e n hx=>none b (I.base.free b o e n hx),I.base.there,λb xs q=>?_,λb o u q=>?_,λb ps q=>?_⟩,I.loc,I.cell,none _ I.free,λx c e=>none c (I.freeC x c e),λp hp=>?_,hok,I.len⟩
 ·have e:=I.base.tups b xs q
  rw[d b λz=>tup xs (by rw[<- z];exact e)];exact e
 ·rw[d b λz=>frz o u (by rw[<- z];exact q)];exact I.base.frzs b o u q
 ·obtain⟨more,e⟩:=I.base.tbls b ps q
  exact⟨more,by rw[d b λz=>tbl _ (by rw[<- z];exact e)];exact e⟩
 ·obtain⟨e,n,r⟩:=I.pin p hp
  exact⟨e,none _ n,r⟩
theorem a6.thaw {o:Obj}{u:HO}(I:a6 X pins σ H s)(h:H a=some (.frz o u))(n:∀o v,X.H₀ a≠some (.frz o v)):a6 X pins σ (upd H a u) s:=by
 have own:∀{c:Addr}{y:Addr},H c=some (.own y)->c≠a:=λ{c y} q z=>by rw[z,h]at q;cases q
 have tp:∀{c:Addr}{xs:List V},H c=some (.tup xs)->c≠a:=λ{c xs} q z=>by rw[z,h]at q;cases q
 refine I.reH (a:=a) (λb n=>a8 n) ⟨_,h⟩ (λxs q=>by rw[h]at q;cases q) n (λps q=>by rw[h]at q;cases q) λb v q=>?_
 by_cases hb:b=a
 ·subst hb
  rw[aQ]at q;cases q
  exact b7.stay (I.hok b _ h).2 (λ_ _ _ q=>q) (λc q=>by rw[a8 (own q)];exact q) λc xs q=>by rw[a8 (tp q)];exact q
 ·rw[a8 hb]at q
  exact (I.hok b v q).stay (λ_ _ _ q=>q) (λc q=>by rw[a8 (own q)];exact q) λc xs q=>by rw[a8 (tp q)];exact q
end
def U3 (a:Addr)(o:Obj)(ys:List V):It:=
 ⟨λi H=>(∃u,H a=some (.frz o u))/\i<ys.length,λi H v H'=>H'=H/\ys[i]? = some v,λi H=>(∃u,H a=some (.frz o u))/\i=ys.length⟩
theorem aJ6 {P:Program}{w:World}{K:ac}{tg:Expr}{o:Obj}{es:Array DictEntry}{ep:Nat}{ys:List V}(a it:Addr)(od:o.ExactDict/\o.data = .dict es ep)(vl:aF ys (es.toList.map (·.key))) :
  gH P w K tg (U3 a o ys) [it] it (λi h=>h.IsKeyIter it a i es.size ep):=by
 have hs:es.size=ys.length:=by
  have:=vl.length
  rw[bi1,bn6]at this
  exact this.symm
 refine⟨by simp,λi h st b hb=>?_,λi h h' st k=>st.at λo e=>k it (by simp) o e,?_,?_,λ_ _ _ _ _ st q=>wpAny_pyIter_keyiter st q⟩
 ·obtain rfl:b=it:=by simpa using hb
  obtain⟨o,e,c,d⟩:=st
  exact⟨o,e,λv z=>by rw[d]at z;cases z⟩
 ·intro X hP hw hK hc i pins s σ H E I hf st hg
  subst hP hw hK
  obtain⟨⟨u,hu⟩,hi⟩:=hg
  obtain⟨f0,f1,f2,f3,f4,f5⟩:=hf it (by simp)
  refine Raw.turn (I.ok.hd hc) st ⟨o,(I.hok a _ hu).1,od.1,od.2⟩ (λlt h' again sb=>?_) (λge=>absurd ge (by omega))
  have I1:a6 X pins σ H { s with heap:=h' }:=I.turned (t':=s.toks) (λb o hb e=>(sb.2 b hb).trans e) f0 f1 f3 f4 f5
  have hv:=bh5 hi
  obtain⟨key,hk,rv⟩:=vl.get hv
  obtain rfl:key=es[i].key:=by
   rw[bi7]at hk
   simp[lt]at hk
   exact hk.symm
  obtain⟨o',e,c,d⟩:=id again
  exact⟨es[i].key,rfl,pC (s:={ s with heap:=h' }) e c d (by decide) ⟨_,H,I1,rv,⟨rfl,hv⟩,again,λb hb=>(hf b hb).1⟩⟩
 ·intro X hP hw hK hc i pins s σ H E I hf st hg
  subst hP hw hK
  obtain⟨⟨u,hu⟩,hi⟩:=hg
  obtain⟨f0,f1,f2,f3,f4,f5⟩:=hf it (by simp)
  exact Raw.turn (I.ok.hd hc) st ⟨o,(I.hok a _ hu).1,od.1,od.2⟩ (λlt=>absurd lt (by omega)) λ_ h' eb=>⟨rfl,I.turned (t':=s.toks) (λb o hb e=>eb b o hb e) f0 f1 f3 f4 f5⟩
end L2
namespace Core
open PySem L2 PP
def gU (ns:ae):Bool:=((ns.zip (ns.drop 1)).map λp=>decide (p.1<p.2)).all id
theorem sG {α β:Type}{l:List α}{f:α->β}{i:Nat}{x:α}(h:l[i]? = some x):(l.take (i+1)).map f=(l.take i).map f++[f x]:=by
 rw[bm1,h];simp
theorem kR:∀{ns:ae},gU ns=true->ns.Pairwise (·<·)
 |[],_=>.nil
 |[x],_=>bl8 _ _
 |x::y::r,h=>by
  have e:gU (x::y::r)=(decide (x<y)&&gU (y::r)):=rfl
  rw[e,bk4]at h
  have ih:=kR h.2
  refine br1.mpr ⟨λz hz=>?_,ih⟩
  rcases bi4.mp hz with rfl|hz
  ·exact bv3 h.1
  ·exact Int.lt_trans (bv3 h.1) (List.rel_of_pairwise_cons ih hz)
theorem U4:∀{ns:ae},ns.Pairwise (·<·)->gU ns=true
 |[],_=>rfl
 |[x],_=>rfl
 |x::y::r,h=>by
  have e:gU (x::y::r)=(decide (x<y)&&gU (y::r)):=rfl
  have h':=br1.mp h
  rw[e,U4 h'.2,bt6]
  exact bi9 (h'.1 y bh7)
def kin (ws:ae)(ls:aa)(S:ae)(h:Int):Bool:=!decide (h∈S)&&decide (ws.getD h.toNat 0<=(((c7 ls h).filter λx=>decide (x∈S)).length:Int))
def nextOf (ws:ae)(ls:aa)(S:ae):ae:=((List.range ws.length).map λ(i:Nat)=>(i:Int)).filter (kin ws ls S)
def oM (ws:ae)(ls:aa)(S:ae):Nat->ae
 |0=>S
 |k+1=>oM ws ls S k++nextOf ws ls (oM ws ls S k)
def U5 (ws:ae)(S:ae):Nat:=(((List.range ws.length).map λ(i:Nat)=>(i:Int)).filter λx=>!decide (x∈S)).length
theorem U6 {α:Type}(p q:α->Bool)(h:∀x,q x=true->p x=false):∀L:List α,(L.filter λx=>!p x&&!q x).length+(L.filter q).length=(L.filter λx=>!p x).length
 |[]=>rfl
 |x::r=>by
  have ih:=U6 p q h r
  cases e1:p x with
  |true=>
   have e2:q x=false:=by
    cases e:q x with
    |false=>rfl
    |true=>have:=h x e;rw[e1]at this;cases this
   simp only[bq7,e1,e2,Bool.not_true,Bool.false_and,bk1,bn9]
   exact ih
  |false=>
   cases e2:q x with
   |true=>
    simp only[bq7,e1,e2,Bool.not_true,Bool.not_false,Bool.and_false,bk1,bn9,if_true,bk9]
    omega
   |false=>
    simp only[bq7,e1,e2,Bool.not_false,bt6,bk1,bn9,if_true,bk9]
    omega
def after (ws:ae)(ls:aa)(S:ae)(m:Nat):ad:=(List.range m).map λk=>nextOf ws ls (oM ws ls S k)
theorem aJ7 {ws ns:ae}(hu:ns.Pairwise (·<·))(hin:∀x∈ns,0<=x/\x<(ws.length:Int)):ns.length+U5 ws ns<=ws.length:=by
 have nd:ns.Nodup:=hu.imp λh=>Int.ne_of_lt h
 have sub:ns ⊆ ((List.range ws.length).map λ(i:Nat)=>(i:Int)).filter λx=>decide (x∈ns):=λx hx=>by
  refine bk0.mpr ⟨bk5.mpr ⟨x.toNat,bq0.mpr ?_,?_⟩,bi9 hx⟩
  ·have:=hin x hx;omega
  ·have:=hin x hx;omega
 have h1:=nd.length_le_of_subset sub
 have h2:=U6 (λ_=>false) (λx=>decide (x∈ns)) (λ_ _=>rfl) ((List.range ws.length).map λ(i:Nat)=>(i:Int))
 have h3:(((List.range ws.length).map λ(i:Nat)=>(i:Int)).filter λx=>!false&&!decide (x∈ns)).length=U5 ws ns:=rfl
 have h4:(((List.range ws.length).map λ(i:Nat)=>(i:Int)).filter λx=>!false).length<=ws.length:=by
  refine bm0 (List.length_filter_le _ _) ?_
  rw[bi1,bs8];exact bh8 _
 rw[h3]at h2
 omega
def cW (ws:ae)(ls:aa)(ns:ae)(m:Nat):Prop:=(∀k<m,nextOf ws ls (oM ws ls ns k)≠[])/\nextOf ws ls (oM ws ls ns m) = []
theorem gD {ns:ae}{i:Nat}{x:PV}(h:(intz ns)[i]? = some x):∃n,x = .int n/\ns[i]? = some n:=by
 rw[bi7]at h
 cases e:ns[i]? with
 |none=>rw[e]at h;cases h
 |some n=>rw[e]at h;exact⟨n,(bk2 h).symm,rfl⟩
theorem iU {lo:Int}{n i:Nat}{x:PV}(h:(cI lo n)[i]? = some x):x = .int (lo+i)/\i<n:=by
 have hi:i<n:=by
  have:=(bi3.mp h).1
  rwa [gP]at this
 rw[M6 hi]at h
 exact⟨(bk2 h).symm,hi⟩
def rng (n:Nat):ae:=(List.range n).map λ(i:Nat)=>(i:Int)
theorem mH (n:Nat):(rng n).length=n:=by unfold rng;rw[bi1,bs8]
theorem fN {n:Nat}{x:Int}:x∈rng n↔0<=x/\x<(n:Int):=by
 unfold rng
 rw[bk5]
 constructor
 ·rintro⟨i,hi,rfl⟩
  have:=bq0.mp hi
  omega
 ·intro h
  exact⟨x.toNat,bq0.mpr (by omega),by omega⟩
theorem mI {α:Type}{l:List α}{p:α->Bool}{i:Nat}{x:α}(h:l[i]? = some x):(l.take (i+1)).filter p=(l.take i).filter p++(if p x=true then [x] else []):=by
 rw[bm1,h,List.filter_append]
 congr 1
 cases e:p x<;>simp[e]
theorem gV (a b:ae):intz (a++b)=intz a++intz b:=bk8
theorem b8 (a:ae):(intz a).length=a.length:=bi1 _
def bC (ws:ae)(ls:aa):PV:=.tup [.tup (intz ws),.tup (ls.map λl=>.tup [.int l.1,.int l.2])]
structure Wb (ws:ae)(ls:aa):Prop where
 few:ws.length<=40
 most:ls.length<=1700
 links:∀l∈ls,(0<=l.1/\l.1<ws.length)/\0<=l.2/\l.2<ws.length
def dC (x:PV)(ns:ae):Prop:=x = .tup (intz ns)∨x = .lst (intz ns)
theorem dC.seq {x:PV}{ns:ae}(h:dC x ns):iL x=some (intz ns):=by rcases h with rfl|rfl<;>rfl
theorem dC.seqT {x:PV}{ns:ae}(h:dC x ns):seqT x=some (intz ns):=by rcases h with rfl|rfl<;>rfl
theorem xD:∀(ls:aa),flats (ls.map λl=>PV.tup [.int l.1,.int l.2])=true
 |[]=>rfl
 |l::r=>by
  show (flat (.tup [.int l.1,.int l.2])&&flats (r.map λl=>PV.tup [.int l.1,.int l.2]))=true
  rw[xD r];rfl
theorem U7 (ws:ae)(ls:aa):flat (bC ws ls)=true:=by
 show flats [.tup (intz ws),.tup (ls.map λl=>PV.tup [.int l.1,.int l.2])]=true
 show (flat (.tup (intz ws))&&(flat (.tup (ls.map λl=>PV.tup [.int l.1,.int l.2]))&&true))=true
 show (flats (intz ws)&&(flats (ls.map λl=>PV.tup [.int l.1,.int l.2])&&true))=true
 rw[cE,xD];rfl
theorem oN (ns:ae):flat (.tup (intz ns))=true:=cE ns
def i6:bA:=λxs Q=>∃ws ls,xs = [bC ws ls]/\Q (.int ws.length)
def U8:aL:=(bI (aH cF (a7 (bT (a5 0) (qC (.int 0))) aE)))
abbrev cQ (t:aL)(N:List Str)(p:bA):Prop:=∀xs Q,p xs Q->t { nx:=λ_=>Q .non,rt:=Q } (eI N xs)
theorem aJ8:cQ U8 ["web"] i6:=by
 rintro xs Q ⟨ws,ls,rfl,q⟩
 refine⟨_,rfl,_,_,_,rfl,rfl,rfl,_,_,rfl,rfl,trivial,?_⟩
 rw[b8];exact q
def xE:bA:=λxs Q=>∃x ns,xs = [x]/\dC x ns/\ns.length<=1000/\Q (.bl (gU ns))
def inB (n:Nat)(x:Int):Bool:=decide (0<=x)&&decide (x<(n:Int))
def sH:bA:=λxs Q=>∃ws ls n,xs = [bC ws ls,.int n]/\Q (.bl (inB ws.length n))
def U9:aL:=(bI (lT (wO (a5 1) (qC (.int 0))) (wN (a5 1) (aH i6 (a7 (a5 0) aE)))))
theorem aJ9:cQ U9 ["web","number"] sH:=by
 rintro xs Q ⟨ws,ls,n,rfl,q⟩
 refine⟨_,rfl,_,_,rfl,rfl,_,rfl,?_⟩
 unfold inB at q
 by_cases h:(0:Int)<=n
 ·rw[bi9 h]at q ⊢
  refine cA ⟨_,rfl,_,rfl,ws,ls,rfl,_,_,rfl,rfl,trivial,?_⟩
  simpa using q
 ·rw[bi2 h]at q ⊢
  exact bD ⟨trivial,by simpa using q⟩
def cR (n:Nat)(ns:ae):Bool:=gU ns&&(ns.map (inB n)).all id
def sI:bA:=λxs Q=>∃ws ls x ns,xs = [bC ws ls,x]/\dC x ns/\ns.length<=1000/\Q (.bl (cR ws.length ns))
def V0:aL:=(bI (lT (aH xE (a7 (a5 1) aE)) (aH wD (a7 (dL (dA (a5 1)) [none,some 0] (bB 0) gA (aH sH (a7 (a5 1) (a7 (a5 0) aE)))) aE))))
theorem kS {x:PV}{ns:ae}(h:dC x ns):(Slot.sh (flat x) x).tag = .rd->flat x=true:=by
 cases flat x<;>intro z<;>cases z
theorem aK0:cQ V0 ["web","numbers"] sI:=by
 rintro xs Q ⟨ws,ls,x,ns,rfl,hx,hl,q⟩
 refine⟨_,rfl,x,ns,rfl,hx,hl,_,rfl,?_⟩
 unfold cR at q
 cases h:gU ns with
 |false=>rw[h]at q;exact bD ⟨trivial,q⟩
 |true=>
  rw[h]at q
  refine cA ⟨_,rfl,_,hx.seq,kS hx,by rw[b8];omega,λi acc=>acc=(((ns.take i).map (inB ws.length)).map PV.bl),rfl,?_,?_⟩
  ·rintro i y acc hy rfl
   obtain⟨n,rfl,hn⟩:=gD hy
   have tk:((ns.take (i+1)).map (inB ws.length)).map PV.bl=((ns.take i).map (inB ws.length)).map PV.bl++[PV.bl (inB ws.length n)]:=by rw[sG hn,bk8];rfl
   exact⟨_,rfl,_,rfl,ws,ls,n,rfl,trivial,tk.symm⟩
  ·rintro acc rfl
   rw[b8,bl0]
   exact⟨_,rfl,trivial,by simpa using q⟩
theorem dC.noscr {x:PV}{ns:ae}(h:dC x ns):∀ms,([x]:List PV)≠[.scr ms]:=by
 rcases h with rfl|rfl<;>intro ms z<;>cases z
structure DS (ps:List (aC×PV))(S:ae):Prop where
 has:∀i:Int,(bL ps (Sum.inl i:aC)).isSome=decide (i∈S)
 len:ps.length<=S.length
 fl:flats (ps.map (·.2))=true
theorem DS.nil:DS [] []:=⟨λi=>rfl,bh8 _,rfl⟩
section
variable {κ:Type}[DecidableEq κ]
theorem iV {p:κ×PV}{r:List (κ×PV)}{k:κ}(e:p.1=k):bL (p::r) k=some p.2:=by simp[bL,bs3,e]
theorem iW {p:κ×PV}{r:List (κ×PV)}{k:κ}(e:¬p.1=k):bL (p::r) k=bL r k:=by simp[bL,bs3,e]
theorem xF (k:κ):∀kvs:List (κ×PV),(kvs.any λkv=>decide (kv.1=k))=(bL kvs k).isSome
 |[]=>rfl
 |p::r=>by
  rw[bw0]
  by_cases e:p.1=k
  ·simp only[iV e,bi9 e,Bool.true_or,Option.isSome_some]
  ·rw[iW e,bi2 e,Bool.false_or];exact xF k r
theorem V1 (k j:κ)(y:PV):∀kvs:List (κ×PV),bL (kvs.map λkv=>if kv.1=k then (kv.1,y) else kv) j=(bL kvs j).map λx=>if j=k then y else x
 |[]=>rfl
 |p::r=>by
  have ih:=V1 k j y r
  rw[bm6]
  by_cases h:p.1=k
  ·rw[if_pos h]
   by_cases e:p.1=j
   ·rw[iV (p:=(p.1,y)) e,iV e,Option.map_some,if_pos (e.symm.trans h)]
   ·rw[iW (p:=(p.1,y)) e,iW e,ih]
  ·rw[if_neg h]
   by_cases e:p.1=j
   ·rw[iV (p:=p) e,iV e,Option.map_some,if_neg (λz=>h (e.trans z))]
   ·rw[iW (p:=p) e,iW e,ih]
theorem V2 (k j:κ)(y:PV):∀kvs:List (κ×PV),bL kvs k=none->bL (kvs++[(k,y)]) j=if j=k then some y else bL kvs j
 |[],_=>by
  by_cases e:k=j
  ·rw[if_pos e.symm];exact iV (p:=(k,y)) e
  ·rw[if_neg (λz=>e z.symm)];exact iW (p:=(k,y)) e
 |p::r,hn=>by
  rw[List.cons_append]
  have hk:¬p.1=k:=λz=>by rw[iV z]at hn;cases hn
  rw[iW hk]at hn
  have ih:=V2 k j y r hn
  by_cases e:p.1=j
  ·rw[iV e,iV e,if_neg (λz=>hk (e.trans z))]
  ·rw[iW e,iW e,ih]
theorem aK1 (kvs:List (κ×PV))(k j:κ)(y:PV):bL (cO kvs k y) j=if j=k then some y else bL kvs j:=by
 unfold cO
 by_cases a:(kvs.any λkv=>decide (kv.1=k))=true
 ·rw[if_pos a,V1]
  rw[xF]at a
  by_cases e:j=k
  ·obtain⟨x,hx⟩:=Option.isSome_iff_exists.mp a
   rw[if_pos e,e,hx,Option.map_some,if_pos rfl]
  ·rw[if_neg e]
   cases bL kvs j with
   |none=>rfl
   |some x=>rw[Option.map_some,if_neg e]
 ·rw[if_neg a]
  refine V2 k j y kvs ?_
  rw[xF]at a
  cases q:bL kvs k with
  |none=>rfl
  |some x=>rw[q]at a;exact (a rfl).elim
theorem aK2 (kvs:List (κ×PV))(k:κ)(v:PV):(cO kvs k v).length<=kvs.length+1:=by
 unfold cO
 split
 ·rw[bi1];omega
 ·rw[bj6,bk9,List.length_nil];omega
end
theorem V3:∀(xs:List PV),flats xs=true↔∀x∈xs,flat x=true
 |[]=>by simp[flats]
 |x::r=>by
  unfold flats
  rw[bk4,V3 r];simp
theorem aK3 {κ:Type}[DecidableEq κ]{ps:List (κ×PV)}{k:κ}{v:PV}{p:κ×PV}(h:p∈cO ps k v):p.2=v∨p∈ps:=by
 unfold cO at h
 split at h
 ·obtain⟨q,hq,e⟩:=bk5.mp h
  split at e
  ·subst e;exact .inl rfl
  ·subst e;exact .inr hq
 ·rcases bl5.mp h with h|h
  ·exact .inr h
  ·rw[bi6.mp h];exact .inl rfl
theorem aK4 {κ:Type}[DecidableEq κ]{ps:List (κ×PV)}{k:κ}{v:PV}(h:flats (ps.map (·.2))=true)(hv:flat v=true):flats ((cO ps k v).map (·.2))=true:=by
 rw[V3]at h ⊢
 intro x hx
 obtain⟨p,hp,rfl⟩:=bk5.mp hx
 rcases aK3 hp with e|e
 ·rw[e];exact hv
 ·exact h _ (bk5.mpr ⟨p,e,rfl⟩)
theorem DS.put {ps:List (aC×PV)}{S:ae}(h:DS ps S)(x:Int)(v:PV)(hv:flat v=true):DS (cO ps (Sum.inl x:aC) v) (S++[x]):=by
 refine⟨λi=>?_,?_,aK4 h.fl hv⟩
 ·rw[aK1]
  by_cases e:i=x
  ·subst e;rw[if_pos rfl];simp
  ·rw[if_neg (λz=>e (Sum.inl.inj z)),h.has]
   simp[e]
 ·have:=aK2 ps (Sum.inl x:aC) v
  have:=h.len
  rw[bj6,bn2];omega
def jL:bA:=λxs Q=>∃x ns,xs = [x]/\dC x ns/\ns.length<=1000/\∀ps,DS ps ns->Q (.dK ps)
def V4:aL:=(aO (fM 1 (qC (.dK [])))
 (aO (dJ (dA (a5 0)) (bB 2)
  (wL 1 (a5 2) (qC (.bl true))))
 (lW 1)))
theorem aK5:cQ V4 ["hearths","inside","hearth"] jL:=by
 rintro xs Q ⟨x,ns,rfl,hx,hl,q⟩
 refine⟨rfl,rfl,_,rfl,_,hx.seq,kS hx,λi ρ=>∃y ps,ρ = [some (.sh (flat x) x),some (.own (.dK ps)),y]/\DS ps (ns.take i),⟨none,[],rfl,DS.nil⟩,?_,?_⟩
 ·rintro i y ρ hy ⟨y0,ps,rfl,d⟩
  obtain⟨n,rfl,hn⟩:=gD hy
  have hlen:=d.len
  rw[bq2]at hlen
  refine⟨_,rfl,_,rfl,Sum.inl n,rfl,trivial,by omega,_,_,rfl,?_⟩
  rw[bm1,hn]
  exact d.put n _ rfl
 ·rintro ρ ⟨y,ps,rfl,d⟩
  rw[b8,bl0]at d
  exact⟨_,rfl,trivial,q ps d⟩
def sJ:bA:=λxs Q=>∃x ns ps S,xs = [x,.dK ps]/\dC x ns/\DS ps S/\ns.length<=10000/\Q (.int ((ns.filter λx=>decide (x∈S)).length:Nat))
def V5:aL:=(bI (aH cF (a7 (dL (dA (a5 0)) [none,some 1] (bB 0) (aU (kG false (a5 0) (a5 1))) (a5 0)) aE)))
theorem aK6:cQ V5 ["hearths","inside"] sJ:=by
 rintro xs Q ⟨x,ns,ps,S,rfl,hx,d,hl,q⟩
 refine⟨_,rfl,_,hx.seq,kS hx,by rw[b8];omega,λi acc=>acc=intz ((ns.take i).filter λx=>decide (x∈S)),rfl,?_,?_⟩
 ·rintro i y acc hy rfl
  obtain⟨n,rfl,hn⟩:=gD hy
  have tk:=mI (p:=λx=>decide (x∈S)) hn
  refine⟨_,rfl,_,rfl,_,.inl ⟨ps,Sum.inl n,rfl,rfl,rfl⟩,_,rfl,?_⟩
  show if (bL ps (Sum.inl n:aC)).isSome=true then _ else _
  rw[d.has n]
  by_cases h:n∈S
  ·rw[bi9 h]at tk ⊢
   refine cA ⟨_,rfl,trivial,?_⟩
   rw[if_pos rfl]at tk
   show _=intz (List.filter _ (List.take (i+1) ns))
   rw[tk,gV];rfl
  ·rw[bi2 h]at tk ⊢
   refine bD ?_
   rw[if_neg (by decide),bn4]at tk
   show _=intz (List.filter _ (List.take (i+1) ns))
   rw[tk]
 ·rintro acc rfl
  rw[b8,bl0]
  refine⟨_,_,rfl,rfl,trivial,?_⟩
  rw[b8];exact q
def oO (n:Nat)(ls:aa):List PV:=(List.range n).map λ(k:Nat)=>PV.lst (intz (c7 ls k))
def oP:bA:=λxs Q=>∃ws ls,xs = [bC ws ls]/\Wb ws ls/\Q (.lst (oO ws.length ls))
theorem V6 {n:Nat}{ls:aa}{h:Int}(h0:0<=h)(h1:h<(n:Int)):atI (oO n ls) h=some (.lst (intz (c7 ls h))):=by
 refine k8 h0 ?_
 unfold oO
 rw[bi7,List.getElem?_range (by omega)]
 show some (PV.lst (intz (c7 ls ((h.toNat:Nat):Int))))=_
 rw[show ((h.toNat:Nat):Int)=h by omega]
theorem sK {ws:ae}{h:Int}(h0:0<=h)(h1:h<(ws.length:Int)):atI (intz ws) h=some (.int (ws.getD h.toNat 0)):=by
 refine k8 h0 ?_
 have:h.toNat<ws.length:=by omega
 rw[bi7,bh9,bh5 this];rfl
def tups (rs:ad):List PV:=rs.map λr=>PV.tup (intz r)
theorem mJ {rs:ad}{i:Nat}{x:PV}(h:(tups rs)[i]? = some x):∃r,x = .tup (intz r)/\rs[i]? = some r:=by
 unfold tups at h
 rw[bi7]at h
 cases e:rs[i]? with
 |none=>rw[e]at h;cases h
 |some n=>rw[e]at h;exact⟨n,(bk2 h).symm,rfl⟩
theorem c6 (rs:ad):(tups rs).length=rs.length:=bi1 _
theorem eN:∀(rs:ad),flats (tups rs)=true
 |[]=>rfl
 |r::t=>by
  show (flat (.tup (intz r))&&flats (tups t))=true
  rw[oN,eN t];rfl
theorem i7 {n:Nat}{ns:ae}(h:cR n ns=true):gU ns=true/\∀x∈ns,0<=x/\x<(n:Int):=by
 unfold cR at h
 rw[bk4,bm8]at h
 refine⟨h.1,λx hx=>?_⟩
 have:=h.2 _ (bk5.mpr ⟨x,hx,rfl⟩)
 unfold inB at this
 simpa using this
theorem xG {n:Nat}{ns:ae}(h:cR n ns=true):ns.length<=n:=by
 obtain⟨h1,h2⟩:=i7 h
 have:=aJ7 (ws:=List.replicate n (0:Int)) (kR h1) (by rw[bw5];exact h2)
 rw[bw5]at this
 omega
end Core
namespace PP
open PySem L2
def V7 (te:aB):aB:=λρ Q=>te ρ λx _=>∃n:Int,x = .int n/\0<=n/\n<=1000000/\Q (.lst (cI 0 n.toNat)) .fr
def xH:List PV->(PV->Prop)->Prop:=λxs Q=>∃ys:ad,xs = [.lst (ys.map λr=>PV.tup (intz r))]/\ys.length<64/\(∀y∈ys,y≠[])/\∀zs:ad,zs.Perm ys->zs.Pairwise (λu v=>HT.aY v u=false)->Q (.lst (zs.map λr=>PV.tup (intz r)))
end PP
namespace Core
open PySem L2 PP
theorem aK7 (g:Tg)(n:Int):Nw g (.int n):=by cases g<;>first|exact trivial|rfl
def oQ (x:PV)(ns:ae):Prop:=x = .scr ns∨x = .lst (intz ns)
theorem oQ.seq {x:PV}{ns:ae}(h:oQ x ns):iL x=some (intz ns):=by rcases h with rfl|rfl<;>rfl
theorem oQ.len {x:PV}{ns:ae}(h:oQ x ns):wC x=some ns.length:=by
 rcases h with rfl|rfl
 ·rfl
 ·show some (intz ns).length=_
  rw[b8]
def jM:bA:=λxs Q=>∃x ns k,xs = [x,.int k]/\oQ x ns/\0<=k/\Q (.int (ns.getD k.toNat 0))
def V8:aL:=(aO (cN (aU (wN (a5 1) (aH cF (a7 (a5 0) aE)))) (bI (bT (a5 0) (a5 1))) dG)
 (bI (qC (.int 0))))
theorem aK8:cQ V8 ["script","k"] jM:=by
 rintro xs Q ⟨x,ns,k,rfl,hx,h0,q⟩
 refine⟨_,rfl,_,rfl,_,_,rfl,hx.len,_,_,rfl,rfl,_,rfl,?_⟩
 by_cases h:k<(ns.length:Int)
 ·rw[bi9 h]
  exact cA ⟨_,rfl,_,rfl,_,_,_,hx.seq,rfl,sK h0 h,aK7 _ _,q⟩
 ·rw[bi2 h]
  rw[bh9,List.getElem?_eq_none (by omega)]at q
  exact bD ⟨trivial,q⟩
def dD (ls:aa):List PV:=ls.map λl=>PV.tup [.int l.1,.int l.2]
def xI (l m:Int×Int):Prop:=l.1<m.1∨(l.1=m.1/\l.2<m.2)
abbrev si (n:Int):Option Slot:=some (.sh true (.int n))
def sL:bA:=λxs Q=>∃i,xs = [.int i]/\Q (.bl true)
def V9 (K:ac):aL:=(bI (lT (iO K "int" (a5 0)) (vZ (iO K "bool" (a5 0)))))
theorem dC.len {x:PV}{ns:ae}(h:dC x ns):wC x=some ns.length:=by
 rcases h with rfl|rfl<;>(show some (intz ns).length=_;rw[b8])
theorem aK9 {K:ac}(k1:PySem.W.kitOne K (.type "int") (.type "int")=some true)(k2:PySem.W.kitOne K (.type "int") (.type "bool")=some false):cQ (V9 K) ["found"] sL:=by
 rintro xs Q ⟨i,rfl,q⟩
 exact⟨_,rfl,_,_,rfl,k1,_,rfl,cA ⟨_,rfl,_,_,rfl,k2,_,rfl,trivial,q⟩⟩
end Core
namespace PP
open PySem L2 PyProof.Rows
theorem Reps.rep {K:ac}{M:Addr->Prop}{H:Hp}{us:List V}{xs:List PV}(r:Reps K M H us xs):∀k:Nat,Reps K M H (List.replicate k us).flatten (List.replicate k xs).flatten
 |0=>.nil
 |k+1=>by rw[br4,br4,bt7,bt7];exact r.append (Reps.rep r k)
section
variable {X:Cx}{a b e:Expr}{ta tb te:aB}{tr:cM}{pos p2 p3 pos2:Pos}
theorem W0 {tA:TA}(hg:Gl X "range")(hm:X.mg "range" = none)(ha:PA X [a] tA)(hs:starEach [a] X.env = [(false,eval a X.env)]:=by rfl) :
  PE X (.Call (.Name "range" p2) [a] [] pos) (λσ H Q=>tA σ H λvs H1=>∃j:Int,vs = [.int j]/\∀r,H1 r=none->Q (.ref r) (upd H1 r (.rng 0 j))):=by
 intro pins s σ H Q I h
 refine Call_ (iD I hg hm boot_range (bp6 (aK (ha pos pins s σ H _ I h) λus s1 ⟨vs,H1,I1,r1,q1⟩=>?_) hs rfl))
 obtain⟨j,e,q⟩:=q1
 subst e
 cases r1 with
 |cons r rr=>
  cases rr
  obtain⟨t,rfl⟩:=r
  refine call_range_1 ?_
  exact⟨.ref s1.heap.objs.size,_,I1.laid (o:=.rng 0 j) (λb ob q=>bh4 _ q) (bh8 _) ⟨_,_,_,bj2 _ rfl⟩,rfl,q _ (I1.hok.fresh (bh8 _))⟩
theorem W4:∀{xs:List V}{us:List Value},xs.length=us.length->(∀(i:Nat) x u,xs[i]? = some x->us[i]? = some u->aM x u)->aF xs us
 |[],[],_,_=>.nil
 |x::xs,u::us,hl,h=>.cons (h 0 x u rfl rfl) (W4 (by simpa using hl) λi y w h1 h2=>h (i+1) y w (by rw[bo4];exact h1) (by rw[bo4];exact h2))
theorem W5 {n:Nat}{acc:Array Value}(h:ItemsOf (λi v=>∃t,v = .int (0+(i:Int)*1) t) acc n):aF (fZ 0 n) acc.toList:=by
 obtain⟨h1,h2⟩:=h
 refine W4 (by rw[pX];simp[h1]) λi x u hx hu=>?_
 have hi:i<n:=by
  have:=(bi3.mp hx).1
  rwa [pX]at this
 unfold fZ at hx
 rw[bi7,List.getElem?_range hi]at hx
 cases hx
 obtain⟨t,rfl⟩:=h2 i u (by rw[<- bp7];exact hu)
 exact⟨t,by congr 1;omega⟩
theorem aL0 (hc:X.calm=true):cH X (.type "list") (λxs H Q=>∃r j,xs = [.ref r]/\H r=some (.rng 0 j)/\0<=j/\j<=1000000/\∀l,H l=none->Q (.ref l) (upd H l (.lst (fZ 0 j.toNat)))):=by
 intro pins s σ H xs us Q I r h
 obtain⟨p,j,rfl,hq,h0,h1,q⟩:=h
 obtain⟨u,rfl,rx⟩:=fV r
 cases rx
 obtain⟨t,u,v,ho⟩:=(show b7 X.prog X.w H s.heap p (.rng 0 j) from I.hok p _ hq)
 refine PySem.call_list_range (a:=0) (b:=j) (c:=1) (n:=j.toNat) (I.ok.hd hc) ho (small_one (by decide) (by decide) (by omega) (by omega)) (by rw[rangeSize_one];split<;>omega) (by omega) λh' tk acc' c' kp e it=>?_
 have vv:=W5 it
 have eq:acc'.toList.toArray=acc':=by simp
 exact⟨.ref s.heap.objs.size,_,I.laid (t':=tk) (o:=.lst (fZ 0 j.toNat)) kp (bh8 _) ⟨by rw[pX];exact lim (by omega),acc'.toList,c',vv,by rw[eq];exact e⟩,rfl,q _ (I.hok.fresh (bh8 _))⟩
theorem W6 {K:ac}{M:Addr->Prop}{H:Hp}(lo:Int)(n:Nat):Reps K M H (fZ lo n) (cI lo n):=by
 unfold fZ cI
 generalize List.range n=l
 induction l with
 |nil=>exact .nil
 |cons a r ih=>exact .cons (.int _) ih
theorem aL1 (B:Bt X.mg)(ha:QE X a ta)(hc:X.calm=true:=by rfl)(hg:Gl X "list":=by rfl)(hgr:Gl X "range":=by rfl)(hs:starEach [a] X.env = [(false,eval a X.env)]:=by rfl)(he:starEach [.Call (.Name "range" p3) [a] [] pos2] X.env=(false,eval (.Call (.Name "range" p3) [a] [] pos2) X.env)::starEach [] X.env:=by rfl)(hpl:(backTo pos (starEach [] X.env)).any (·.1)=false:=by rfl) :
  QE X (.Call (.Name "list" p2) [.Call (.Name "range" p3) [a] [] pos2] [] pos) (V7 ta):=
 bU (uN (aL0 hc) hg B.list PyProof.Rows.boot_list (c9 (W0 hgr B.range (c9 ha cS hs) hs) cS he) (he:=he) (hpl:=hpl)) λσ H Q' h=>by
  obtain⟨W,ρ,Q,px,q,k⟩:=h
  refine⟨W,ρ,_,px,q,?_⟩
  rintro v H1 x g s r ⟨n,rfl,h0,h1,q⟩
  cases r
  refine⟨n,rfl,λr hr=>⟨r,n,rfl,aQ,h0,h1,λl hl=>?_⟩⟩
  have S:aA H (upd (upd H1 r (.rng 0 n)) l (.lst (fZ 0 n.toNat))):=(s.trans (aW hr _)).trans (aW hl _)
  exact k _ _ _ .fr S (.lst (((s.trans (aW hr _))).free hl) aQ (W6 0 n.toNat)) q
def xJ:V->Int
 |.int i=>i
 |_=>0
def gW (H:Hp):V->ae
 |.ref a=>match H a with
  |some (.tup us)=>us.map xJ
  |_=>[]
 |_=>[]
theorem aL2 {H:Hp}{a:Addr}{ns:ae}(h:H a=some (.tup (ns.map V.int))):gW H (.ref a)=ns:=by
 show (match H a with|some (.tup us)=>us.map xJ|_=>[])=ns
 rw[h]
 show (ns.map V.int).map xJ=ns
 rw[bv8]
 exact List.map_id _
theorem sM {K:ac}{M:Addr->Prop}{H:Hp}:∀{us:List V}{ys:ad},Reps K M H us (ys.map λr=>PV.tup (intz r))->us.map (gW H)=ys/\∀u∈us,∃b,u = .ref b/\H b=some (.tup ((gW H u).map V.int))
 |_,[],.nil=>⟨rfl,λu h=>nomatch h⟩
 |_,y::ys,.cons r t=>by
  obtain⟨a,us,rfl,h,r1⟩:=r.sqT
  obtain rfl:=r1.ofInts
  obtain⟨h1,h2⟩:=sM t
  have hk:=aL2 h
  refine⟨by rw[bm6,h1,hk],λu hu=>?_⟩
  rcases bi4.mp hu with rfl|hu
  ·exact⟨a,rfl,by rw[hk];exact h⟩
  ·exact h2 u hu
theorem sN {K:ac}{M:Addr->Prop}{H:Hp}:∀{us:List V},(∀u∈us,∃b,u = .ref b/\H b=some (.tup ((gW H u).map V.int)))->Reps K M H us ((us.map (gW H)).map λr=>PV.tup (intz r))
 |[],_=>.nil
 |u::us,h=>by
  obtain⟨b,rfl,hb⟩:=h u bh7
  exact .cons (.tup hb (Reps.intz _)) (sN λv hv=>h v (bi5 _ hv))
theorem aL3:fB X xH (J9 X.K):=by
 rintro H vs xs Q Q' r ⟨ys,rfl,hl,hne,q⟩ k
 obtain⟨v,rfl,r1⟩:=r.one
 obtain⟨a,us,rfl,_,h,r2⟩:=r1.sqL
 obtain⟨h1,h2⟩:=sM r2
 have lr:=r2.length
 rw[bi1]at lr
 refine⟨a,us,gW H,rfl,aJ.of h,by omega,λy hy=>?_,λl zs hl' pm so=>?_⟩
 ·obtain⟨b,rfl,hb⟩:=h2 y hy
  refine⟨b,rfl,aG.of hb,hne _ ?_⟩
  rw[<- h1];exact bk5.mpr ⟨_,hy,rfl⟩
 ·have hz:∀u∈zs,∃b,u = .ref b/\H b=some (.tup ((gW H u).map V.int)):=λu hu=>h2 u (pm.mem_iff.mp hu)
  refine k _ _ _ (aW hl' _) (.lst hl' aQ ((sN hz).same (aW hl' _) λ_ z=>z)) (q _ ?_ ?_)
  ·rw[<- h1];exact pm.map _
  ·rw[bp3];exact so
theorem aL4 (B:Bt X.mg)(ha:QA X [e] tr)(hg:Gl X "sorted":=by rfl)(he:starEach [e] X.env=(false,eval e X.env)::starEach [] X.env:=by rfl)(hpl:(backTo pos (starEach [] X.env)).any (·.1)=false:=by rfl):QE X (.Call (.Name "sorted" p2) [e] [] pos) (aH xH tr):=
 iS aw7 aL3 hg B.sorted PyProof.Rows.boot_sorted ha (he:=he) (hpl:=hpl)
end
def W7 (K:ac):Sp:=λvs H Q _=>∃(a:Addr) (ns:ae),vs = [.ref a]/\(aG K H a (ns.map V.int)∨aJ K H a (ns.map V.int))/\ns.length<=1000/\∀H',aA H H'->Q (.bl (Core.gU ns)) H'
def sO:Sp:=λvs H Q _=>∃v ws ls,vs = [v]/\K2 H v ws ls/\ws.length<=1000/\ls.length<=2000/\(∀l∈ls,(0<=l.1/\l.1<ws.length)/\0<=l.2/\l.2<ws.length)/\
 ∀(r:Addr) (bs:List Addr) (H':Hp),bs.length=ws.length->gL H H' r bs (λk=>c7 ls k)->Q (.ref r) H'
section
variable {P:Program}{w:World}{K:ac}{mg:Str→Option Value}{base:Heap}{f:Addr}{fd:FuncData}{k:Nat}
theorem aL5 (F:cD P w K mg base cL k f fd ["things"] (W7 K))(b:gJ K fd ["things"] [])(kp:PySem.W.keepIn K (.ref f)=true)(m:mg "rises" = some (.ref f)):Df P w K mg base k "rises" ["things"] Core.xE:=by
 refine⟨f,fd,F.imp λvs H Q E h=>?_,b,kp,m⟩
 obtain⟨xs,Qp,r,⟨x,ns,rfl,hx,hl,q⟩,k⟩:=h
 obtain⟨v,rfl,r1⟩:=r.one
 rcases hx with rfl|rfl
 ·obtain⟨a,us,rfl,h,r2⟩:=r1.sqT
  obtain rfl:=r2.ofInts
  exact⟨a,ns,rfl,.inl (aG.of h),hl,λH' s=>k _ H' _ s (.bl _) q⟩
 ·obtain⟨a,us,rfl,_,h,r2⟩:=r1.sqL
  obtain rfl:=r2.ofInts
  exact⟨a,ns,rfl,.inr (aJ.of h),hl,λH' s=>k _ H' _ s (.bl _) q⟩
theorem qF {M:Addr->Prop}{H:Hp}:∀{us:List V}{ls:aa},Reps K M H us (ls.map λl=>PV.tup [.int l.1,.int l.2])->lO H us ls
 |_,[],.nil=>.nil
 |_,l::ls,.cons r t=>by
  obtain⟨a,us,rfl,h,r1⟩:=r.sqT
  obtain⟨u1,u2,rfl,q1,q2⟩:=r1.two
  cases q1;cases q2
  exact .cons ⟨a,rfl,h⟩ (qF t)
theorem W8 {M:Addr->Prop}{H:Hp}{v:V}{ws:ae}{ls:aa}(r:aD K M H v (Core.bC ws ls)):K2 H v ws ls:=by
 obtain⟨a,us,rfl,h,r1⟩:=aD.sqT r
 obtain⟨u1,u2,rfl,q1,q2⟩:=r1.two
 obtain⟨p,up,rfl,hp,rp⟩:=q1.sqT
 obtain⟨q,uq,rfl,hq,rq⟩:=q2.sqT
 obtain rfl:=rp.ofInts
 exact⟨a,p,q,uq,rfl,h,hp,hq,qF rq⟩
theorem xK {M:Addr->Prop}{H:Hp}:∀{bs:List Addr}{ls:aa} (off:Nat),(∀b∈bs,M b)->(∀(k:Nat) b,bs[k]? = some b->H b=some (.lst ((c7 ls ((off+k:Nat):Int)).map V.int)))->Reps K M H (bs.map V.ref) ((List.range' off bs.length).map λ(k:Nat)=>PV.lst (intz (c7 ls k)))
 |[],_,_,_,_=>.nil
 |b::bs,ls,off,hm,h=>by
  refine .cons (.lst (hm b bh7) (h 0 b rfl) (Reps.intz _)) (xK (off+1) (λc hc=>hm c (bi5 _ hc)) λk c hk=>?_)
  have:=h (k+1) c (by rw[bo4];exact hk)
  rw[show off+1+k=off+(k+1) by omega];exact this
theorem aL6 (F:cD P w K mg base cL k f fd ["web"] sO)(b:gJ K fd ["web"] [])(kp:PySem.W.keepIn K (.ref f)=true)(m:mg "near_lists" = some (.ref f)):Df P w K mg base k "near_lists" ["web"] Core.oP:=by
 refine⟨f,fd,F.imp λvs H Q E h=>?_,b,kp,m⟩
 obtain⟨xs,Qp,r,⟨ws,ls,rfl,wb,q⟩,k⟩:=h
 obtain⟨v,rfl,r1⟩:=r.one
 have:=wb.few
 have:=wb.most
 refine⟨v,ws,ls,rfl,W8 r1,by omega,by omega,wb.links,λt bs H' hb R=>k _ H' _ R.same (.lst R.new R.row ?_) q⟩
 have:=xK (K:=K) (M:=λa=>H a=none) (H:=H') (bs:=bs) (ls:=ls) 0 (λb hb=>(R.news b hb).1) λk b hk=>by rw[Nat.zero_add];exact R.rows k b hk
 rw[hb,<- List.range_eq_range']at this
 exact this
end
end PP
namespace Core
open PySem L2 PP
theorem W9 (n:Nat):cI 0 n=intz (rng n):=by
 unfold cI rng
 show _=List.map PV.int (List.map (λ(i:Nat)=>(i:Int)) (List.range n))
 rw[bv8]
 refine List.map_congr_left λi _=>?_
 show PV.int (0+(i:Int))=PV.int (i:Int)
 rw[bu8]
def two (l:Int×Int):ae:=[l.1,l.2]
def oR (r:ae):Int×Int:=(r.getD 0 0,r.getD 1 0)
theorem X0 (ls:aa):dD ls=(ls.map two).map λr=>PV.tup (intz r):=by
 unfold dD
 rw[bv8];rfl
theorem aL7 {zs:ad}{ls:aa}(h:zs.Perm (ls.map two)):∃ls':aa,zs=ls'.map two/\ls'.Perm ls:=by
 refine⟨zs.map oR,?_,?_⟩
 ·rw[bv8]
  have:∀z∈zs,(two ∘ oR) z=z:=λz hz=>by
   obtain⟨l,_,rfl⟩:=bk5.mp (h.mem_iff.mp hz)
   rfl
  rw[List.map_congr_left this,List.map_id']
 ·have:=h.map oR
  rw[bv8]at this
  have e:ls.map (oR ∘ two)=ls:=by
   have:∀l∈ls,(oR ∘ two) l=id l:=λl _=>rfl
   rw[List.map_congr_left this,List.map_id]
  rw[e]at this
  exact this
theorem aL8 {ls:aa}(so:(ls.map two).Pairwise λu v=>HT.aY v u=false)(nd:ls.Nodup):ls.Pairwise xI:=by
 rw[bp3]at so
 refine (List.pairwise_and_iff.mpr ⟨so,nd⟩).imp λ{a b} h=>?_
 obtain⟨h1,h2⟩:=h
 unfold two at h1
 rw[HT.iF]at h1
 unfold xI
 by_cases e:b.1=a.1
 ·rw[if_pos e,HT.iF]at h1
  by_cases e2:b.2=a.2
  ·exact absurd (Prod.ext e.symm e2.symm) h2
  ·rw[if_neg e2]at h1
   have:=bw2 h1
   omega
 ·rw[if_neg e]at h1
  have:=bw2 h1
  omega
structure oS (i:Int)(ms:ae):Prop where
 up:ms.Pairwise (·<·)
 inn:∀x∈ms,0<=x/\x<i
 len:(ms.length:Int)<=i
theorem oS.set {n:Nat}{ms:ae}(h:oS (n:Int) ms):cR n ms=true:=by
 unfold cR
 rw[U4 h.up,Bool.true_and,bm8]
 intro b hb
 obtain⟨x,hx,rfl⟩:=bk5.mp hb
 have:=h.inn x hx
 unfold inB
 simp[this]
theorem aL9:∀{a b:ae},a.Perm b->a.Pairwise (· <= ·)->b.Pairwise (· <= ·)->a=b:=by
 intro a b h ha hb
 exact h.eq_of_pairwise (λx y _ _ h1 h2=>Int.le_antisymm h1 h2) ha hb
def X1:bA:=λxs Q=>∃ns:ae,xs = [.scr ns]/\ns.length<=63/\Q (.bl true)
structure aM0 (K:ac):Prop where
 ii:PySem.W.kitOne K (.type "int") (.type "int")=some true
 ib:PySem.W.kitOne K (.type "int") (.type "bool")=some false
 tt:PySem.W.kitOne K (.type "tuple") (.type "tuple")=some true
 ll:PySem.W.kitOne K (.type "list") (.type "list")=some true
 bb:PySem.W.kitOne K (.type "bool") (.type "bool")=some true
theorem sP (K:ac):aM0 K:=by
 have same:∀n:String,PySem.W.kitMeta n=true->True:=λ_ _=>trivial
 refine⟨?_,?_,?_,?_,?_⟩
 ·unfold PySem.W.kitOne;rw[if_pos (by decide)]
 ·have e:(if PySem.W.kitMeta "bool" = true then (fastBuiltinMro "int").map (·.contains (Value.type "bool")) else none)=some false:=by decide +kernel
  unfold PySem.W.kitOne
  rw[if_neg (by decide)]
  exact e
 ·unfold PySem.W.kitOne;rw[if_pos (by decide)]
 ·unfold PySem.W.kitOne;rw[if_pos (by decide)]
 ·unfold PySem.W.kitOne;rw[if_pos (by decide)]
end Core
namespace PP
open PySem L2 PyProof.Rows
theorem aM1 {P:Program}{w:World}{K:ac}{mg:Str->Option Value}{base:Heap}{k:Nat}{x:Str}{ps N:List Str}{p:bA}{st:Stmt}{f:Addr}{fd:FuncData}(F:dR K x x st f fd)(S:FnScope N ps (aN st))(len:∀xs Q,p xs Q->xs.length=ps.length)(body:∀(cdv:Value) (A:Around) (outer:List Env) (s:Shared) (H:Hp) (E:XK),bR k (A.deeper (envOfC x (aN st) s.heap.objs.size f cdv))->
   ∃t,dW (cK cL P w K mg base N x (aN st) f cdv A outer s H E).nox (dH st) t/\∀xs Q,p xs Q->t { nx:=λ_=>Q .non,rt:=Q } (eI N xs)):cD P w K mg base cL (k+1) f fd ps (jH K p):=by
 refine F.ok S (λvs H Q E h=>?_) (λcdv A outer s H vs Q E hr h=>?_)
 ·obtain⟨xs,Qp,r,q,_⟩:=h
  rw[r.length];exact len xs Qp q
 ·obtain⟨xs,Qp,r,q,k⟩:=h
  obtain⟨t,ht,hq⟩:=body cdv A outer s H E hr
  refine⟨_,ht,λ_=>False,eI N xs,_,rL r,hq xs Qp q,?_,?_,?_,?_⟩
  ·exact λW' σ' H' ρ' e px q=>k _ _ _ px.same .non q
  ·exact λv H' x s r q=>k _ _ _ s r q
  ·exact λW' σ' H' ρ' e px q=>q
  ·exact λW' σ' H' ρ' e px q=>q
def sQ (K:ac):Sp:=λvs H Q _=>∃(a:Addr) (ns:ae),vs = [.ref a]/\iK K H a ns/\ns.length<=63/\∀H',Q (.bl true) H'
theorem aM2 {P:Program}{w:World}{K:ac}{mg:Str->Option Value}{base:Heap}{k:Nat}{f:Addr}{fd:FuncData}(F:cD P w K mg base cL k f fd ["script"] (jH K Core.X1)):cD P w K mg base cL k f fd ["script"] (sQ K):=
 F.imp λvs H Q E h=>by
  obtain⟨a,ns,rfl,hs,hl,q⟩:=h
  refine⟨[.scr ns],λz=>z = .bl true,.cons (.scr hs) .nil,⟨ns,rfl,hl,rfl⟩,?_⟩
  rintro v H' x _ r rfl
  cases r
  exact q H'
theorem aM3 {K:ac}{H:Hp}{a:Addr}{ns:ae}(hO:pQ H)(h:aJ K H a (ns.map V.int)):iK K H a ns:=by
 rcases h with (h|⟨o,h⟩)|h
 ·rcases hO a with e|⟨o,xs,e⟩<;>(rw[h]at e;cases e)
 ·exact .inl ⟨o,h⟩
 ·exact .inr h
end PP
namespace PyProof.Rows
open PySem
end PyProof.Rows
namespace PP
open PySem L2 PyProof.Rows
section
variable {X:Cx}{a b e:Expr}{ta tb te:aB}{tr:cM}{pos p2:Pos}
def X2:PV->Tg->PV->Tg->PK->Prop:=λx _ y _ Q=>∃xs ys,x = .lst xs/\y = .lst ys/\flats xs=true/\flats ys=true/\xs.length+ys.length<=16000000/\Q (.lst (xs++ys)) .fr
abbrev xL (ta tb:aB):aB:=q2 X2 ta tb
theorem aM4:e9 X X2 E3:=by
 rintro W Hs H u v x y g g' Q Q' s n r1 r2 ⟨xs,ys,rfl,rfl,f1,f2,hl,q⟩ k
 obtain⟨a,us,rfl,_,h1,q1⟩:=r1.sqL
 obtain⟨b,ws,rfl,_,h2,q2⟩:=r2.sqL
 have l1:=q1.length
 have l2:=q2.length
 refine⟨a,b,us,ws,rfl,rfl,h1,h2,lim (by omega),λp hp=>k _ _ _ .fr (aW hp _) (.lst (s.free hp) aQ (((q1.flat f1).append (q2.flat f2)).same (aW hp _) λ_ z=>z)) q⟩
theorem X3 (ha:QE X a ta)(hb:QE X b tb):QE X (.BinOp a .Add b pos) (xL ta tb):=gB as8 aM4 ha hb
end
end PP
namespace L2
open PySem PySem.Spec PyProof.Rows
def xM (K:ac)(a:Addr):It:=
  ⟨λi H=>∃xs x,aJ K H a xs/\xs[i]? = some x,
   λi H v H'=>∃T x,H T=none/\v = .ref T/\H'=upd H T (.tup [.int i,x])/\∀xs,aJ K H a xs->xs[i]? = some x,
   λi H=>∃xs,aJ K H a xs/\xs.length<=i⟩
structure aM5 (e it a:Addr)(i:Nat)(h:Heap):Prop where
 ee:∃old,IsEnum h e it i old
 s1:h.IsListIter it a i
theorem aM6 {P:Program}{w:World}{K:ac}{elts:List Expr}{k:Nat}{pos:Pos}(a e it:Addr)(d:e≠it) :
  gH P w K (.Tuple elts k pos) (xM K a) [e,it] e (aM5 e it a):=by
 refine⟨by simp,λi h st c hc=>?_,λi h h' st kp=>?_,?_,?_,λA i s Q E st q=>?_⟩
 ·simp only[bi4,bj7,bo1]at hc
  obtain⟨old,ee⟩:=st.ee
  obtain⟨o1,f1,g1,d1⟩:=st.s1
  rcases hc with rfl|rfl
  ·exact⟨_,ee,λv q=>by cases q⟩
  ·exact⟨_,f1,λv q=>by rw[d1]at q;cases q⟩
 ·obtain⟨old,ee⟩:=st.ee
  exact⟨⟨old,kp e (by simp) _ ee⟩,st.s1.at λo z=>kp it (by simp) o z⟩
 ·intro X hP hw hK hc i pins s σ H E I hf st hg
  subst hP hw hK
  obtain⟨xs,x,ha,hx⟩:=hg
  obtain⟨us,ru,pu,lu⟩:=I.list ha
  obtain⟨ux,eux,rux⟩:=ru.get hx
  obtain⟨old,ee⟩:=st.ee
  refine wpAny_pyNext_enum_item ee st.s1 pu.isList (by simpa using eux) d λh' eo it' pr sz kp=>⟨_,rfl,?_⟩
  refine wpAny_letOwnedTupleGo_enum (s:={ s with heap:=h',toks:=s.toks+1 }) eo λg zz sb=>?_
  have hzl:e<s.heap.objs.size:=bj0 ee
  have up:∀c o,c≠e->c≠it->s.heap.get? c=some o->g.get? c=some o:=λc o c1 c2 z=>sb.extBut c o c1 (kp c o c1 c2 z)
  have hT:H s.heap.objs.size=none:=I.hok.fresh (bh8 _)
  have prG:g.get? s.heap.objs.size=some { cls:=.type "tuple",data:=.seq #[.int i s.toks,ux] }:=sb.extBut _ _ (bs4 hzl) pr
  have fpn:∀c u,H c=some u->c∉[e,it]:=λc u z hm=>by rw[(hf c hm).1]at z;cases z
  have upH:∀c o u,H c=some u->s.heap.get? c=some o->g.get? c=some o:=λc o u q z=>by
   have:=fpn c u q
   simp only[bi4,bj7,bo1,not_or]at this
   exact up c o this.1 this.2 z
  have ns:∀m,s.heap.Ns X.env.locals m->g.Ns X.env.locals m:=λm hm=>by
   obtain⟨o,es,ep,e1,e2⟩:=hm
   exact⟨o,es,ep,up _ o (Ne.symm (hf e (by simp)).2.1) (Ne.symm (hf it (by simp)).2.1) e1,e2⟩
  have I2:a6 X pins σ (upd H s.heap.objs.size (.tup [.int i,x])) { s with heap:=g,toks:=s.toks+1 }:=by
   refine I.step (g':=s.gens) (d':=s.drawn) (ch:=[e,it]) (λc hc'=>?_) (λc o _ _ hc' z _=>?_) (λc o _ _ hc' z _=>⟨o.slots,?_⟩) (λc o _ z n=>?_) (λc o hc' z=>⟨o,?_⟩)
    (λc zs z=>by rw[a8 (bO z hT)];exact z) (λc u zs z=>by rw[a8 (bO z hT)];exact z) (λc ps z=>⟨#[],by rw[a8 (bO z hT),z];simp⟩) ns (λc u z=>?_) I.bare
   ·exact⟨(hf c hc').2.2.2.1,(hf c hc').2.1,(hf c hc').2.2.2.2.1,(hf c hc').2.2.2.2.2⟩
   ·simp only[bi4,bj7,bo1,not_or]at hc'
    exact up c o hc'.1 hc'.2 z
   ·simp only[bi4,bj7,bo1,not_or]at hc'
    exact up c o hc'.1 hc'.2 z
   ·rw[a8 (bl3 (bj0 z))];exact n
   ·simp only[bi4,bj7,bo1,not_or]at hc'
    exact up c o hc'.1 hc'.2 z
   ·by_cases hcT:c=s.heap.objs.size
    ·subst hcT
     rw[aQ]at z;cases z
     exact⟨by show 2<=sizeLine;decide,[.int i s.toks,ux],.cons ⟨_,rfl⟩ (.cons rux .nil),⟨_,prG,rfl,_,rfl⟩,λu e=>by rw[prG]at e;cases e;rfl⟩
    ·rw[a8 hcT]at z
     refine (I.hok c u z).stay (λc' o' hc2 q'=>?_) (λc' q'=>by rw[a8 (bO q' hT)];exact q') λc' zs q'=>by rw[a8 (bO q' hT)];exact q'
     rcases hc2 with rfl|hc2
     ·exact upH _ _ _ z q'
     ·exact upH _ _ _ hc2 q'
  refine⟨.ref s.heap.objs.size,_,I2,rfl,⟨_,x,hT,rfl,rfl,λxs' ha'=>?_⟩,⟨⟨ux,by push_cast;exact zz⟩,it'.at λo z=>sb.extBut _ o (Ne.symm d) z⟩,λc hc'=>?_⟩
  ·rw[I.list_inj ha' ha];exact hx
  ·obtain⟨o,z⟩:∃o,s.heap.get? c=some o:=by
    simp only[bi4,bj7,bo1]at hc'
    obtain⟨o1,f1,_⟩:=st.s1
    rcases hc' with rfl|rfl
    ·exact⟨_,ee⟩
    ·exact⟨_,f1⟩
   rw[a8 (bl3 (bj0 z))];exact (hf c hc').1
 ·intro X hP hw hK hc i pins s σ H E I hf st hg
  subst hP hw hK
  obtain⟨xs,ha,hi⟩:=hg
  obtain⟨us,ru,pu,lu⟩:=I.list ha
  obtain⟨old,ee⟩:=st.ee
  have hh:X.A.handled=none:=I.ok.hd hc
  have e1:=ru.length
  refine wpAny_pyNext_enum_end hh ee st.s1 pu.isList (by rw[Array.getElem?_eq_none];simp only[bh6];omega) λg kp=>⟨rfl,?_⟩
  have fpn:∀c u,H c=some u->c∉[e,it]:=λc u z hm=>by rw[(hf c hm).1]at z;cases z
  have upH:∀c o u,H c=some u->s.heap.get? c=some o->g.get? c=some o:=λc o u q z=>by
   have:=fpn c u q
   simp only[bi4,bj7,bo1,not_or]at this
   exact kp c o this.2 z
  have ns:∀m,s.heap.Ns X.env.locals m->g.Ns X.env.locals m:=λm hm=>by
   obtain⟨o,es,ep,e1,e2⟩:=hm
   exact⟨o,es,ep,kp _ o (Ne.symm (hf it (by simp)).2.1) e1,e2⟩
  refine I.step (g':=s.gens) (d':=s.drawn) (ch:=[it]) (λc hc'=>?_) (λc o _ _ hc' z _=>?_) (λc o _ _ hc' z _=>⟨o.slots,?_⟩) (λc o _ z n=>n) (λc o hc' z=>⟨o,?_⟩)
   (λc zs z=>z) (λc u zs z=>z) (λc ps z=>⟨#[],by rw[z];simp⟩) ns (λc u z=>?_) I.bare
  ·have hm:c∈[e,it]:=bi5 _ hc'
   exact⟨(hf c hm).2.2.2.1,(hf c hm).2.1,(hf c hm).2.2.2.2.1,(hf c hm).2.2.2.2.2⟩
  ·exact kp c o (λy=>hc' (by rw[y];simp)) z
  ·exact kp c o (λy=>hc' (by rw[y];simp)) z
  ·exact kp c o (λy=>hc' (by rw[y];simp)) z
  ·refine (I.hok c u z).stay (λc' o' hc2 q'=>?_) (λ_ q'=>q') λ_ _ q'=>q'
   rcases hc2 with rfl|hc2
   ·exact upH _ _ _ z q'
   ·exact upH _ _ _ hc2 q'
 ·obtain⟨old,ee⟩:=st.ee
  exact wpAny_pyIter_enum ee q
end L2
namespace Zp
open PySem PyProof.Rows
section
variable {prog:Program}{w:World}{A:Around}{E:Value→Shared→Prop}{s:Shared}
theorem aM7 {e it t:Addr}{i:Nat}{items:Array Value}{x old:Value}{Q:Option Value->Shared->Prop}(he:IsEnum s.heap e it i old)(hi:s.heap.IsTupleIter it t i)(ht:s.heap.IsTuple t items)(hx:items[i]? = some x)(ne:e≠it)(q:∀h',IsEnumOut h' e it ((i:Int)+1) x s.heap.objs.size->h'.IsTupleIter it t (i+1)->h'.get? s.heap.objs.size=some { cls:=.type "tuple",data:=.seq #[.int i s.toks,x] }->h'.objs.size=s.heap.objs.size+1->
   (∀b o,b≠e->b≠it->s.heap.get? b=some o->h'.get? b=some o)->Q (some (.ref s.heap.objs.size)) { s with heap:=h',toks:=s.toks+1 }):wpAny (model prog w) A (pyNext (.ref e)) Q E s:=by
 have T:s.TypeIs (.ref e) "enumerate":=⟨_,he,rfl⟩
 have slot:=PySem.F.slot_enumerate_next
 unfold pyNext
 apply bh3
 apply wpAny_attempt
 apply bo3 (name:=Str.ofString "__next__") T slot
 apply bo8 slot T PySem.F.entry_enumerate_next _ (PySem.F.args_enumerate_next_1 _)
 change wpAny _ _ (field (.ref e) 2 >>= _) _ _ _
 apply bh3
 refine bo2 he rfl (x:=.ref it) rfl ?_
 apply bh3
 refine K5 hi ht hx λg1 it1 sb1=>?_
 have e1:IsEnum g1 e it i old:=sb1.extBut _ _ ne he
 change wpAny _ _ (field (.ref e) 3 >>= _) _ _ _
 apply bh3
 refine bo2 e1 rfl (x:=rawInt i) rfl ?_
 change wpAny _ _ (field (.ref e) 4 >>= _) _ _ _
 apply bh3
 refine bo2 e1 rfl (x:=.none) rfl ?_
 change wpAny _ _ (mkInt i >>= _) _ _ _
 apply bh3
 refine wpAny_mkInt ?_
 change wpAny _ _ (setField (.ref e) 3 (rawInt ((i:Int)+1)) >>= _) _ _ _
 apply bh3
 refine bp5 e1 (by simp) λg2 e2 sb2=>?_
 apply bh3
 refine bp5 e2 (by simp) λg3 e3 sb3=>?_
 have e3:IsEnum g3 e it ((i:Int)+1) old:=e3
 apply bh3
 refine wpAny_newTuple ?_ (by show 2<=sizeLine;decide)
 have e4:IsEnum (g3.push { cls:=.type "tuple",data:=.seq #[.int i s.toks,x] }) e it ((i:Int)+1) old:=bh4 _ e3
 have size:g3.objs.size=s.heap.objs.size:=by rw[sb3.1,sb2.1,sb1.1]
 change wpAny _ _ (Builtin.SmallTypes.ownedTupleIsFree (.ref e) >>= _) _ _ _
 apply bh3
 unfold Builtin.SmallTypes.ownedTupleIsFree
 apply bh3
 refine bo2 e4 rfl (x:=.none) rfl (bi0 ?_)
 simp only[if_true]
 apply bh3
 apply bv5
 apply bh3
 refine bo2 e4 rfl (x:=old) rfl ?_
 apply bh3
 refine bp5 e4 (by simp) λg5 e5 sb5=>?_
 apply bh3
 unfold Builtin.SmallTypes.ownedTupleHandOut
 apply bh3
 refine bp5 e5 (by simp) λg6 e6 sb6=>?_
 refine bp5 e6 (by simp) λg7 e7 sb7=>?_
 have e7:IsEnumOut g7 e it ((i:Int)+1) x g3.objs.size:=e7
 have elt:e<g3.objs.size:=bj0 e3
 have up:∀c o,c≠e->(g3.push { cls:=.type "tuple",data:=.seq #[.int i s.toks,x] }).get? c=some o->g7.get? c=some o:=λc o c1 z=>sb7.extBut c o c1 (sb6.extBut c o c1 (sb5.extBut c o c1 z))
 have up3:∀c o,c≠e->g1.get? c=some o->g7.get? c=some o:=λc o c1 z=>up c o c1 (bh4 _ (sb3.extBut c o c1 (sb2.extBut c o c1 z)))
 have p7:g7.get? g3.objs.size=some { cls:=.type "tuple",data:=.seq #[.int i s.toks,x] }:=up _ _ (bs4 elt) (bj2 _ rfl)
 have s7:g7.objs.size=g3.objs.size+1:=by rw[sb7.1,sb6.1,sb5.1,bt8]
 apply bh3
 apply wpAny_letGo
 apply bi0
 rw[size]at e7 p7 s7
 refine⟨_,rfl,bi0 ?_⟩
 change Q (some (.ref g3.objs.size)) _
 rw[size]
 exact q g7 e7 (it1.at λo z=>up3 it o (Ne.symm ne) z) p7 s7 λb o b1 b2 z=>up3 b o b1 (sb1.extBut b o b2 z)
theorem aM8 {e it t:Addr}{i:Nat}{items:Array Value}{old:Value}{Q:Option Value->Shared->Prop}(hh:A.handled=none)(he:IsEnum s.heap e it i old)(hi:s.heap.IsTupleIter it t i)(ht:s.heap.IsTuple t items)(hx:items[i]? = none)(q:∀h',Heap.ExtBut it s.heap h'->Q none { s with heap:=h' }):wpAny (model prog w) A (pyNext (.ref e)) Q E s:=by
 have T:s.TypeIs (.ref e) "enumerate":=⟨_,he,rfl⟩
 have slot:=PySem.F.slot_enumerate_next
 unfold pyNext
 apply bh3
 apply wpAny_attempt
 apply bo3 (name:=Str.ofString "__next__") T slot
 apply bo8 slot T PySem.F.entry_enumerate_next _ (PySem.F.args_enumerate_next_1 _)
 change wpAny _ _ (field (.ref e) 2 >>= _) _ _ _
 apply bh3
 refine bo2 he rfl (x:=.ref it) rfl ?_
 apply bh3
 refine K6 hh hi ht hx λg2 ex eb exo=>?_
 obtain⟨oe,eo,co⟩:=exo
 apply bh3
 refine wpAny_isInstance (T:="StopIteration") (b:=true) ⟨oe,eo,co⟩ isSubtype_stop ?_
 exact bi0 (q g2 eb)
theorem aM9 {M:Model}{A:Around}{E:Value->Shared->Prop}{s:Shared}{α:Type}{c:Prop}[Decidable c]{m n:Sem α}{Q:α->Shared->Prop}(h1:wpAny M A m Q E s)(h2:wpAny M A n Q E s):wpAny M A (if c then m else n) Q E s:=by
 split
 ·exact h1
 ·exact h2
theorem aN0 (t:Addr)(xs:Array Value):Meets (Builtin.«enumerate.__new__» ⟨[.type "enumerate",.ref t],[]⟩) (λ_ R s=>s.heap.IsTuple t xs/\R (.ok (.ret (.ref (s.heap.objs.size+1)))) { s with heap:=(s.heap.push { cls:=.type "tuple_iterator",data:=.fields #[.ref t,.int 0 0] }).push { cls:=.type "enumerate",data:=.fields #[.none,.bool false,.ref s.heap.objs.size,rawInt 0,.none,.none] } }):=
 .of_wp λprog w A R s h=>by
  obtain⟨hp,g,d,tk,os⟩:=s
  obtain⟨ht,h⟩:=h
  have sub:=sub_enumerate
  have a1:Heap.IsTuple (Shared.heap ⟨hp,g,d,tk,os⟩) t xs:=ht
  wp_walk using bu3 a1
  refine wpAny_stack_any λst=>bi0 ?_
  refine aM9 ?_ ?_
  all_goals
   apply bh3
   refine wpAny_of_eq (a:=(Value.ref t,none)) rfl ?_
   wp_walk using bu3 a1
   have e:∀(o:Obj) (k:Heap),(k.push o).objs.size=k.objs.size+1:=λo k=>bt8 ..
   refine⟨_,rfl,?_⟩
   simp only[e]at h ⊢
   exact h
theorem aN1 {t:Addr}{xs:Array Value}{Q:Value->Shared->Prop}(ht:s.heap.IsTuple t xs)(q:∀h',IsEnum h' (s.heap.objs.size+1) s.heap.objs.size 0 .none->h'.IsTupleIter s.heap.objs.size t 0->h'.objs.size=s.heap.objs.size+2->(∀c o,s.heap.get? c=some o->h'.get? c=some o)->Q (.ref (s.heap.objs.size+1)) { s with heap:=h' }) :
  wpAny (model prog w) A (call (.type "enumerate") [.ref t]) Q E s:=by
 refine callType_new PySem.F.called_enumerate (by decide) (PySem.F.typeCall_enumerate_1 _) (PySem.F.newCall_enumerate_1 _) (λobj=>PySem.F.args_object_init_2 obj _) PySem.F.entry_enumerate_new (aN0 t xs) ⟨ht,?_⟩
 have e:∀(o:Obj) (k:Heap),(k.push o).objs.size=k.objs.size+1:=λo k=>bt8 ..
 have g0:((s.heap.push { cls:=.type "tuple_iterator",data:=.fields #[.ref t,.int 0 0] }).push { cls:=.type "enumerate",data:=.fields #[.none,.bool false,.ref s.heap.objs.size,rawInt 0,.none,.none] }).get? s.heap.objs.size=some { cls:=.type "tuple_iterator",data:=.fields #[.ref t,.int 0 0] }:=bh4 _ (bj2 _ rfl)
 have g1:((s.heap.push { cls:=.type "tuple_iterator",data:=.fields #[.ref t,.int 0 0] }).push { cls:=.type "enumerate",data:=.fields #[.none,.bool false,.ref s.heap.objs.size,rawInt 0,.none,.none] }).get? (s.heap.objs.size+1)=some { cls:=.type "enumerate",data:=.fields #[.none,.bool false,.ref s.heap.objs.size,rawInt 0,.none,.none] }:=by
  have:=bj2 (h:=s.heap.push { cls:=.type "tuple_iterator",data:=.fields #[.ref t,.int 0 0] }) (o:={ cls:=.type "enumerate",data:=.fields #[.none,.bool false,.ref s.heap.objs.size,rawInt 0,.none,.none] }) rfl
  rw[e]at this;exact this
 exact⟨⟨_,g1,rfl⟩,q _ g1 ⟨_,g0,rfl,rfl⟩ (by rw[e,e]) λc o z=>bh4 _ (bh4 _ z)⟩
end
end Zp
namespace L2
open PySem PySem.Spec PyProof.Rows
def xN (K:ac)(a:Addr):It:=
  ⟨λi H=>∃xs x,aG K H a xs/\xs[i]? = some x,
   λi H v H'=>∃T x,H T=none/\v = .ref T/\H'=upd H T (.tup [.int i,x])/\∀xs,aG K H a xs->xs[i]? = some x,
   λi H=>∃xs,aG K H a xs/\xs.length<=i⟩
structure aN2 (e it a:Addr)(i:Nat)(h:Heap):Prop where
 ee:∃old,IsEnum h e it i old
 s1:h.IsTupleIter it a i
theorem aN3 {P:Program}{w:World}{K:ac}{elts:List Expr}{k:Nat}{pos:Pos}(a e it:Addr)(d:e≠it) :
  gH P w K (.Tuple elts k pos) (xN K a) [e,it] e (aN2 e it a):=by
 refine⟨by simp,λi h st c hc=>?_,λi h h' st kp=>?_,?_,?_,λA i s Q E st q=>?_⟩
 ·simp only[bi4,bj7,bo1]at hc
  obtain⟨old,ee⟩:=st.ee
  obtain⟨o1,f1,g1,d1⟩:=st.s1
  rcases hc with rfl|rfl
  ·exact⟨_,ee,λv q=>by cases q⟩
  ·exact⟨_,f1,λv q=>by rw[d1]at q;cases q⟩
 ·obtain⟨old,ee⟩:=st.ee
  exact⟨⟨old,kp e (by simp) _ ee⟩,st.s1.at λo z=>kp it (by simp) o z⟩
 ·intro X hP hw hK hc i pins s σ H E I hf st hg
  subst hP hw hK
  obtain⟨xs,x,ha,hx⟩:=hg
  obtain⟨us,ru,pu,lu⟩:=I.tuple ha
  obtain⟨ux,eux,rux⟩:=ru.get hx
  obtain⟨old,ee⟩:=st.ee
  refine Zp.aM7 ee st.s1 pu (by simpa using eux) d λh' eo it' pr sz kp=>⟨_,rfl,?_⟩
  refine wpAny_letOwnedTupleGo_enum (s:={ s with heap:=h',toks:=s.toks+1 }) eo λg zz sb=>?_
  have hzl:e<s.heap.objs.size:=bj0 ee
  have up:∀c o,c≠e->c≠it->s.heap.get? c=some o->g.get? c=some o:=λc o c1 c2 z=>sb.extBut c o c1 (kp c o c1 c2 z)
  have hT:H s.heap.objs.size=none:=I.hok.fresh (bh8 _)
  have prG:g.get? s.heap.objs.size=some { cls:=.type "tuple",data:=.seq #[.int i s.toks,ux] }:=sb.extBut _ _ (bs4 hzl) pr
  have fpn:∀c u,H c=some u->c∉[e,it]:=λc u z hm=>by rw[(hf c hm).1]at z;cases z
  have upH:∀c o u,H c=some u->s.heap.get? c=some o->g.get? c=some o:=λc o u q z=>by
   have:=fpn c u q
   simp only[bi4,bj7,bo1,not_or]at this
   exact up c o this.1 this.2 z
  have ns:∀m,s.heap.Ns X.env.locals m->g.Ns X.env.locals m:=λm hm=>by
   obtain⟨o,es,ep,e1,e2⟩:=hm
   exact⟨o,es,ep,up _ o (Ne.symm (hf e (by simp)).2.1) (Ne.symm (hf it (by simp)).2.1) e1,e2⟩
  have I2:a6 X pins σ (upd H s.heap.objs.size (.tup [.int i,x])) { s with heap:=g,toks:=s.toks+1 }:=by
   refine I.step (g':=s.gens) (d':=s.drawn) (ch:=[e,it]) (λc hc'=>?_) (λc o _ _ hc' z _=>?_) (λc o _ _ hc' z _=>⟨o.slots,?_⟩) (λc o _ z n=>?_) (λc o hc' z=>⟨o,?_⟩)
    (λc zs z=>by rw[a8 (bO z hT)];exact z) (λc u zs z=>by rw[a8 (bO z hT)];exact z) (λc ps z=>⟨#[],by rw[a8 (bO z hT),z];simp⟩) ns (λc u z=>?_) I.bare
   ·exact⟨(hf c hc').2.2.2.1,(hf c hc').2.1,(hf c hc').2.2.2.2.1,(hf c hc').2.2.2.2.2⟩
   ·simp only[bi4,bj7,bo1,not_or]at hc'
    exact up c o hc'.1 hc'.2 z
   ·simp only[bi4,bj7,bo1,not_or]at hc'
    exact up c o hc'.1 hc'.2 z
   ·rw[a8 (bl3 (bj0 z))];exact n
   ·simp only[bi4,bj7,bo1,not_or]at hc'
    exact up c o hc'.1 hc'.2 z
   ·by_cases hcT:c=s.heap.objs.size
    ·subst hcT
     rw[aQ]at z;cases z
     exact⟨by show 2<=sizeLine;decide,[.int i s.toks,ux],.cons ⟨_,rfl⟩ (.cons rux .nil),⟨_,prG,rfl,_,rfl⟩,λu e=>by rw[prG]at e;cases e;rfl⟩
    ·rw[a8 hcT]at z
     refine (I.hok c u z).stay (λc' o' hc2 q'=>?_) (λc' q'=>by rw[a8 (bO q' hT)];exact q') λc' zs q'=>by rw[a8 (bO q' hT)];exact q'
     rcases hc2 with rfl|hc2
     ·exact upH _ _ _ z q'
     ·exact upH _ _ _ hc2 q'
  refine⟨.ref s.heap.objs.size,_,I2,rfl,⟨_,x,hT,rfl,rfl,λxs' ha'=>?_⟩,⟨⟨ux,by push_cast;exact zz⟩,it'.at λo z=>sb.extBut _ o (Ne.symm d) z⟩,λc hc'=>?_⟩
  ·rw[I.tuple_inj ha' ha];exact hx
  ·obtain⟨o,z⟩:∃o,s.heap.get? c=some o:=by
    simp only[bi4,bj7,bo1]at hc'
    obtain⟨o1,f1,_⟩:=st.s1
    rcases hc' with rfl|rfl
    ·exact⟨_,ee⟩
    ·exact⟨_,f1⟩
   rw[a8 (bl3 (bj0 z))];exact (hf c hc').1
 ·intro X hP hw hK hc i pins s σ H E I hf st hg
  subst hP hw hK
  obtain⟨xs,ha,hi⟩:=hg
  obtain⟨us,ru,pu,lu⟩:=I.tuple ha
  obtain⟨old,ee⟩:=st.ee
  have hh:X.A.handled=none:=I.ok.hd hc
  have e1:=ru.length
  refine Zp.aM8 hh ee st.s1 pu (by rw[Array.getElem?_eq_none];simp only[bh6];omega) λg kp=>⟨rfl,?_⟩
  have fpn:∀c u,H c=some u->c∉[e,it]:=λc u z hm=>by rw[(hf c hm).1]at z;cases z
  have upH:∀c o u,H c=some u->s.heap.get? c=some o->g.get? c=some o:=λc o u q z=>by
   have:=fpn c u q
   simp only[bi4,bj7,bo1,not_or]at this
   exact kp c o this.2 z
  have ns:∀m,s.heap.Ns X.env.locals m->g.Ns X.env.locals m:=λm hm=>by
   obtain⟨o,es,ep,e1,e2⟩:=hm
   exact⟨o,es,ep,kp _ o (Ne.symm (hf it (by simp)).2.1) e1,e2⟩
  refine I.step (g':=s.gens) (d':=s.drawn) (ch:=[it]) (λc hc'=>?_) (λc o _ _ hc' z _=>?_) (λc o _ _ hc' z _=>⟨o.slots,?_⟩) (λc o _ z n=>n) (λc o hc' z=>⟨o,?_⟩)
   (λc zs z=>z) (λc u zs z=>z) (λc ps z=>⟨#[],by rw[z];simp⟩) ns (λc u z=>?_) I.bare
  ·have hm:c∈[e,it]:=bi5 _ hc'
   exact⟨(hf c hm).2.2.2.1,(hf c hm).2.1,(hf c hm).2.2.2.2.1,(hf c hm).2.2.2.2.2⟩
  ·exact kp c o (λy=>hc' (by rw[y];simp)) z
  ·exact kp c o (λy=>hc' (by rw[y];simp)) z
  ·exact kp c o (λy=>hc' (by rw[y];simp)) z
  ·refine (I.hok c u z).stay (λc' o' hc2 q'=>?_) (λ_ q'=>q') λ_ _ q'=>q'
   rcases hc2 with rfl|hc2
   ·exact upH _ _ _ z q'
   ·exact upH _ _ _ hc2 q'
 ·obtain⟨old,ee⟩:=st.ee
  exact wpAny_pyIter_enum ee q
section
variable {X:Cx}
def X4 (K:ac)(ta:TA):TI:=λσ H R=>ta σ H λvs H1=>∃a,vs = [.ref a]/\((∃xs,aJ K H1 a xs/\R (xM K a) H1)∨(∃xs,aG K H1 a xs/\R (xN K a) H1))
theorem aN4 {elts:List Expr}{kt:Nat}{pt:Pos}{a:Expr}{ta:TA}{p pos:Pos}(hg:Gl X "enumerate")(hm:X.mg "enumerate" = none)(ha:PA X [a] ta)(hs:starEach [a] X.env = [(false,eval a X.env)]:=by rfl) :
  PI X (.Tuple elts kt pt) (.Call (.Name "enumerate" p) [a] [] pos) (X4 X.K ta):=by
 intro pins s σ H R I h
 refine Call_ (iD I hg hm PyProof.Rows.boot_enumerate (bp6 (aK (ha pos pins s σ H _ I h) λus s1 ⟨vs,H1,I1,r1,q1⟩=>?_) (by rw[hs];rfl) (by rfl)))
 obtain⟨a',e,q⟩:=q1
 subst e
 have fresh:∀k,H1 (s1.heap.objs.size+k)=none:=λk=>I1.hok.fresh (bp0 _ _)
 cases r1 with
 |cons r rr=>
  cases rr
  cases r
  rcases q with⟨xs,h1,q⟩|⟨xs,h1,q⟩
  ·obtain⟨us,_,p1,_⟩:=I1.list h1
   refine call_enumerate_list p1.isList λh' z s1' sz kp=>wpAny_pyIter_enum z ?_
   refine⟨s1.heap.objs.size+1,[s1.heap.objs.size+1,s1.heap.objs.size],_,_,H1,rfl,I1.kept (t':=s1.toks) kp,
    aM6 a' _ _ (Nat.succ_ne_self _),⟨⟨_,z⟩,s1'⟩,λc hc=>?_,q⟩
   simp only[bi4,bj7,bo1]at hc
   rcases hc with rfl|rfl
   ·exact I1.fpOk (bp0 _ _) (fresh 1)
   ·exact I1.fpOk (bh8 _) (fresh 0)
  ·obtain⟨us,_,p1,_⟩:=I1.tuple h1
   refine Zp.aN1 p1 λh' z s1' sz kp=>wpAny_pyIter_enum z ?_
   refine⟨s1.heap.objs.size+1,[s1.heap.objs.size+1,s1.heap.objs.size],_,_,H1,rfl,I1.kept (t':=s1.toks) kp,
    aN3 a' _ _ (Nat.succ_ne_self _),⟨⟨_,z⟩,s1'⟩,λc hc=>?_,q⟩
   simp only[bi4,bj7,bo1]at hc
   rcases hc with rfl|rfl
   ·exact I1.fpOk (bp0 _ _) (fresh 1)
   ·exact I1.fpOk (bh8 _) (fresh 0)
end
end L2
namespace Zp
open PySem PyProof.Rows
theorem aN5 (t b:Addr)(xs ys:Array Value)(n n2:Nat)(dd dd2:Option Addr)(sl sl2:Array (Option Value))(hx:xs.isEmpty=true):Meets (Builtin.«tuple.__add__» ⟨[.ref t,.ref b],[]⟩)
  (λ_ R s=>s.heap.get? t=some { cls:=.type "tuple",dict:=dd,data:=.seq xs n,slots:=sl }/\s.heap.get? b=some { cls:=.type "tuple",dict:=dd2,data:=.seq ys n2,slots:=sl2 }/\R (.ok (.ret (.ref b))) s):=
 .of_wp λprog w A R s h=>by
  obtain⟨h1,h2,h⟩:=h
  have sub:isSubtype (Value.type "tuple") (Value.type "tuple")=pure true:=rfl
  wp_walk
  exact⟨_,rfl,h⟩
end Zp
namespace L2
open PySem PySem.Spec PyProof.Rows
section
variable {X:Cx}
def X5 (K:ac):R2:=λx y H Q=>∃a b xs ys,x = .ref a/\y = .ref b/\aG K H a xs/\aG K H b ys/\xs.length+ys.length<=sizeLine/\
 (xs = []->Q (.ref b) H)/\(xs≠[]->ys = []->Q (.ref a) H)/\(xs≠[]->ys≠[]->∀p,H p=none->Q (.ref p) (upd H p (.tup (xs++ys))))
theorem aN6:bK X (binaryOp .Add) (X5 X.K):=by
 intro pins s σ H x y v u Q I rx ry h
 obtain⟨a,b,xs,ys,ex,ey,ha,hb,hz,q0,q1,q2⟩:=h
 by_cases hx:xs = []
 ·subst ex ey
  cases rx
  cases ry
  obtain⟨its,r1,p1,_⟩:=I.tuple ha
  obtain⟨its2,r2,p2,_⟩:=I.tuple hb
  have hi:its = []:=r1.nil_iff.mpr hx
  obtain⟨⟨cls,dd,data,sl⟩,ho,hc,n,hd⟩:=id p1
  obtain⟨⟨cls2,dd2,data2,sl2⟩,ho2,hc2,n2,hd2⟩:=id p2
  simp only at hc hd hc2 hd2
  subst hc hd hc2 hd2
  exact concat_meets ⟨_,ho,rfl⟩ ⟨_,ho2,rfl⟩ noFill_tuple_add seq_tuple_add PySem.F.slot_tuple_add PySem.F.entry_tuple_add (PySem.F.args_tuple_add_2 _ _)
   (Zp.aN5 a b its.toArray its2.toArray n n2 dd dd2 sl sl2 (by simp[hi])) ⟨ho,ho2,⟨.ref b,H,I,rfl,q0 hx⟩⟩
 ·exact aq9 pins s σ H x y v u Q I rx ry ⟨a,b,xs,ys,ex,ey,ha,hb,hx,hz,q1 hx,q2 hx⟩
end
end L2
namespace PP
open PySem L2 PyProof.Rows
def iX (xs:List PV):List PV:=xs.mapIdx λi x=>PV.tup [.int (i:Int),x]
theorem sR (xs:List PV):(iX xs).length=xs.length:=by unfold iX;rw[List.length_mapIdx]
theorem X6 {xs:List PV}{i:Nat}{x:PV}(h:xs[i]? = some x):(iX xs)[i]? = some (.tup [.int (i:Int),x]):=by
 unfold iX;rw[List.getElem?_mapIdx,h];rfl
theorem aN7 {xs:List PV}{i:Nat}{z:PV}(h:(iX xs)[i]? = some z):∃x,xs[i]? = some x/\z = .tup [.int (i:Int),x]:=by
 unfold iX at h
 rw[List.getElem?_mapIdx]at h
 cases e:xs[i]? with
 |none=>rw[e]at h;cases h
 |some x=>rw[e]at h;exact⟨x,rfl,(bk2 h).symm⟩
def xO (te:aB):fC:=λρ Q=>te ρ λx g=>∃xs,(x = .lst xs∨x = .tup xs)/\(g = .rd->flat x=true)/\Q (iX xs) (wG g xs)
theorem aN8 {K:ac}{H0:Hp}{W:Addr->Prop}{g:Bool}{H1:Hp}{a:Addr}{us:List V}{xs:List PV}(tw:∀a,W a->∃o,H1 a=some o/\gM o=true)(ha:∀W' H',Ev W H1 W' H'->aJ K H' a us)(r:Reps K (Ms H0 W g) H1 us xs):lX K H0 W g H1 (xM K a) (iX xs):=by
 have lr:=r.length
 have ll:=sR xs
 refine⟨λW' H' i e hi=>⟨us,us[i]'(by omega),ha W' H' e,by simp⟩,λW' H' i v H2 e y hi=>?_,λW' H' e=>⟨us,ha W' H' e,by omega⟩⟩
 obtain⟨T,x,hT,rfl,rfl,y⟩:=y
 obtain⟨z,hz,rz⟩:=r.get (y us (ha W' _ e))
 have sm:=aW hT (HO.tup [.int (i:Int),x])
 exact⟨sm,_,X6 hz,.tup aQ (.cons (.int _) (.cons ((rz.keep (e.keep tw)).same sm λ_ q=>q) .nil))⟩
theorem aN9 {K:ac}{H0:Hp}{W:Addr->Prop}{g:Bool}{H1:Hp}{a:Addr}{us:List V}{xs:List PV}(tw:∀a,W a->∃o,H1 a=some o/\gM o=true)(ha:∀W' H',Ev W H1 W' H'->aG K H' a us)(r:Reps K (Ms H0 W g) H1 us xs):lX K H0 W g H1 (xN K a) (iX xs):=by
 have lr:=r.length
 have ll:=sR xs
 refine⟨λW' H' i e hi=>⟨us,us[i]'(by omega),ha W' H' e,by simp⟩,λW' H' i v H2 e y hi=>?_,λW' H' e=>⟨us,ha W' H' e,by omega⟩⟩
 obtain⟨T,x,hT,rfl,rfl,y⟩:=y
 obtain⟨z,hz,rz⟩:=r.get (y us (ha W' _ e))
 have sm:=aW hT (HO.tup [.int (i:Int),x])
 exact⟨sm,_,X6 hz,.tup aQ (.cons (.int _) (.cons ((rz.keep (e.keep tw)).same sm λ_ q=>q) .nil))⟩
section
variable {X:Cx}{σ:L2.St}{H:Hp}{te:aB}{R:It→Hp→Prop}
theorem aO0 (h:LI X (xO te) σ H R):X4 X.K (gI (LE X te) j8) σ H R:=by
 obtain⟨W,ρ,Q,px,q,k⟩:=h
 refine⟨W,ρ,_,px,q,?_⟩
 rintro v H1 x g s r ⟨xs,hx,hg,q⟩
 have px1:=px.mono s
 have tw:∀a,W a->∃o,H1 a=some o/\gM o=true:=λa z=>(px1.wm a z).2
 rcases hx with rfl|rfl
 ·obtain⟨a,us,rfl,m,h,r⟩:=r.sqL
  have wa:¬W a:=by
   cases g with
   |fr=>exact (px.new m).1
   |nw=>exact m.1
   |sh=>exact m
   |rd=>have:=hg rfl;unfold flat at this;cases this
  exact⟨a,rfl,.inl ⟨us,aJ.of h,k _ _ _ _ s (aN8 tw (λW' H' e=>aJ.of (e _ _ h wa).1) (kD px (λz=>by have:=hg z;unfold flat at this;cases this) r)) q⟩⟩
 ·obtain⟨a,us,rfl,h,r⟩:=r.sqT
  refine⟨a,rfl,.inr ⟨us,aG.of h,k _ _ _ _ s (aN9 tw (λW' H' e=>aG.of (e _ _ h λz=>?_).1) (kD px (λz=>by have:=hg z;unfold flat at this;exact this) r)) q⟩⟩
  obtain⟨o,h',mu⟩:=tw _ z;rw[h]at h';cases h';cases mu
theorem aO1 {elts:List Expr}{kt:Nat}{pt p2 pos:Pos}{a:Expr}{ta:aB}(hg:Gl X "enumerate")(hm:X.mg "enumerate" = none)(ha:QE X a ta)(hs:starEach [a] X.env = [(false,eval a X.env)]:=by rfl):QI X (.Tuple elts kt pt) (.Call (.Name "enumerate" p2) [a] [] pos) (xO ta):=
 rB (aN4 hg hm (c9 ha cS hs) hs) λ_ _ _=>aO0
end
section
variable {X:Cx}{e:Expr}{te:aB}{pos p2:Pos}{scope:Scope}{N:List Str}{fr:List (Option Nat)}{x y:Str}{tp xp yp:Pos}{kt:Nat}{iter elt:Expr}{ti:fC}
abbrev sT (x y:Str)(xp yp:Pos)(kt:Nat)(tp:Pos):Expr:=.Tuple [.Name x xp,.Name y yp] kt tp
theorem aO2 {ifs:List Expr}{tcs:cB}(hc:X.calm=true)(he:∀(s:Shared) (H:Hp) (C:Addr) (fp:List Addr),QE (bJ X scope N s H C fp cU) elt te)(hi:∀(s:Shared) (H:Hp) (C:Addr) (fp:List Addr),jC (bJ X scope N s H C fp cU) ifs (LT (bJ X scope N s H C fp cU) tcs))(hN:N.Nodup)(h0:N[0]? = some x)(h1:N[1]? = some y)(hl:∀(s:Shared) (H:Hp) (C:Addr) (fp:List Addr),(bJ X scope N s H C fp cU).env.scope.names.lookup x=some .local)(hl2:∀(s:Shared) (H:Hp) (C:Addr) (fp:List Addr),(bJ X scope N s H C fp cU).env.scope.names.lookup y=some .local)(s:Shared)(H:Hp) :
  lM X scope N (sT x y xp yp kt tp) ifs elt s H (l9 X.K 2 (gG (cX 0) (gG (cX 1) l8))) (LT (X.frm H) tcs) (LE (X.frm H) te):=
 ⟨λC fp=>nF (X:=bJ X scope N s H C fp cU) hc (hG (eD hN h0 (.inl (hl s H C fp)) (.inr (hl s H C fp))) (hG (eD hN h1 (.inl (hl2 s H C fp)) (.inr (hl2 s H C fp))) nE)),λC fp=>hi s H C fp,λC fp=>he s H C fp⟩
theorem aO3 {c:Expr}{tcs:cB}{i:Nat}{z:Str}{zp:Pos}(nd:X.N.Nodup)(hi:QI X (sT x y xp yp kt tp) iter ti)(ht:∀(s:Shared) (H:Hp) (C:Addr) (fp:List Addr),QT (bJ X scope N s H C fp cU) c tcs)(he:∀(s:Shared) (H:Hp) (C:Addr) (fp:List Addr),QE (bJ X scope N s H C fp cU) elt te)(hz:X.N[i]? = some z:=by rfl)(hzl:X.env.scope.names.lookup z=some .local:=by rfl)(hsw:swapsWith (.ListComp elt [⟨sT x y xp yp kt tp,iter,[c],0⟩] scope p2) (some (.Name z zp)) pos.line X.env=pure true:=by rfl)(hc:X.calm=true:=by rfl)(S:cT X scope N fr:=by exact cT.of rfl rfl)(hN:N.Nodup:=by decide +kernel)(h0:N[0]? = some x:=by rfl)(h1:N[1]? = some y:=by rfl)(hl:∀(s:Shared) (H:Hp) (C:Addr) (fp:List Addr),(bJ X scope N s H C fp cU).env.scope.names.lookup x=some .local:=by intro _ _ _ _;rfl)(hl2:∀(s:Shared) (H:Hp) (C:Addr) (fp:List Addr),(bJ X scope N s H C fp cU).env.scope.names.lookup y=some .local:=by intro _ _ _ _;rfl)(hf:fr[0]? = some none:=by rfl)(hf2:fr[1]? = some none:=by rfl)(hs:∀x,foldedSetIterable iter X.env x=pure x:=by intro _;rfl):QS X (.Assign [.Name z zp] (.ListComp elt [⟨sT x y xp yp kt tp,iter,[c],0⟩] scope p2) pos) (bH i (dL ti fr (wI 0 1) tcs te)):=
 eB (G7 (gh:=λ_=>l9 X.K 2 (gG (cX 0) (gG (cX 1) l8))) (tch:=λH=>LT (X.frm H) tcs) (teh:=λH=>LE (X.frm H) te) hc S hi (aO2 hc he (λs H C fp=>G2 (ht s H C fp)) hN h0 h1 hl hl2) nd hz hzl hsw hs) λD σ H h=>qV (aC6 _ 0 1) (λi e=>by rcases e with e|e<;>(subst e;assumption)) (w9 h)
end
section
variable {X:Cx}{a b e o f:Expr}{ta tb te td tk tx:aB}{pos p2 apos cpos:Pos}{σ:L2.St}{H:Hp}{Q':VK}
def X7:PV->Tg->PV->Tg->PK->Prop:=λx _ y _ Q=>∃xs n,x = .lst xs/\y = .int n/\flats xs=true/\-1000000<=n/\n<=1000000/\xs.length<=10/\Q (.lst (List.replicate n.toNat xs).flatten) .fr
abbrev xP (ta tb:aB):aB:=q2 X7 ta tb
theorem aO4:e9 X X7 E4:=by
 rintro W Hs H u v x y g g' Q Q' s n r1 r2 ⟨xs,m,rfl,rfl,f,h1,h2,hl,q⟩ k
 cases r2
 obtain⟨a,us,rfl,mm,h,r⟩:=r1.sqL
 have lr:=r.length
 refine⟨a,m,us,rfl,rfl,h,by omega,by omega,lim ?_,λp hp=>k _ _ _ .fr (aW hp _) (.lst (s.free hp) aQ (((r.flat f).rep m.toNat).same (aW hp _) λ_ z=>z)) q⟩
 have h3:us.length<=10:=by omega
 have h4:m.toNat<=1000000:=by omega
 calc us.length*m.toNat<=10*1000000:=Nat.mul_le_mul h3 h4
  _<=16000000:=by decide
theorem X8 (ha:QE X a ta)(hb:QE X b tb):QE X (.BinOp a .Mult b pos) (xP ta tb):=gB at0 aO4 ha hb
theorem aO5 {x:Str}{n:Int}{t:Nat}(hg:Gl X x)(hm:X.mg x=some (.int n t))(hd:(x==("__debug__":Str))=false:=by decide):QE X (.Name x pos) (qC (.int n)):=
 bU (ak2 (v:=.int n) hg hm ⟨t,rfl⟩ hd) λ_ _ _=>qI λ_=>.int n
end
section
variable {X:Cx}{a b:Expr}{ta tb:aB}{pos:Pos}
def X9:PV->Tg->PV->Tg->PK->Prop:=λx _ y _ Q=>∃xs ys,x = .tup xs/\y = .tup ys/\flats xs=true/\flats ys=true/\xs.length+ys.length<=16000000/\Q (.tup (xs++ys)) .fr
abbrev xQ (ta tb:aB):aB:=q2 X9 ta tb
theorem aO6:e9 X X9 (X5 X.K):=by
 rintro W Hs H u v x y g g' Q Q' s n r1 r2 ⟨xs,ys,rfl,rfl,f1,f2,hl,q⟩ k
 obtain⟨a,us,rfl,h1,q1⟩:=r1.sqT
 obtain⟨b,ws,rfl,h2,q2⟩:=r2.sqT
 have l1:=q1.length
 have l2:=q2.length
 refine⟨a,b,us,ws,rfl,rfl,aG.of h1,aG.of h2,lim (by omega),λz=>?_,λ_ z=>?_,λ_ _ p hp=>k _ _ _ .fr (aW hp _) (.tup aQ (((q1.flat f1).append (q2.flat f2)).same (aW hp _) λ_ z=>z)) q⟩
 ·obtain rfl:xs = []:=by cases xs with
   |nil=>rfl
   |cons _ _=>rw[z]at l1;cases l1
  exact k _ _ _ .fr (aA.refl _) (.tup h2 (q2.flat f2)) q
 ·obtain rfl:ys = []:=by cases ys with
   |nil=>rfl
   |cons _ _=>rw[z]at l2;cases l2
  rw[bn4]at q
  exact k _ _ _ .fr (aA.refl _) (.tup h1 (q1.flat f1)) q
theorem Y0 (ha:QE X a ta)(hb:QE X b tb):QE X (.BinOp a .Add b pos) (xQ ta tb):=gB aN6 aO6 ha hb
end
end PP
namespace Core
open PySem L2 PP
section
variable {ws:ae}{ls:aa}{os ns:ae}
def aO7 (ws:ae)(ls:aa)(T:ae):Prop:=∀h∈rng ws.length,kin ws ls T h=false
end
theorem gE {i:Nat}{h:Int}{g:Bool}{ρ:aZ}{Q:aZ->Prop}(q:Q (ρ.set i (some (.sh true (.int h))))):bB i (.int h) g ρ Q:=by
 show Q (ρ.set i (some (.sh (g||true) (.int h))))
 rw[Bool.or_true];exact q
def dY (ns S:ae):Int:=(ns.length:Int)-(((ns.filter λx=>decide (x∈S)).length:Nat):Int)
def mK:bA:=λxs Q=>∃x ns ps S,xs = [x,.dK ps]/\dC x ns/\DS ps S/\ns.length<=10000/\Q (.int (dY ns S))
def Y1:aL:=(bI (r9 (aH cF (a7 (a5 0) aE)) (aH sJ (a7 (a5 0) (a7 (a5 1) aE)))))
theorem aO8:cQ Y1 ["hearths","inside"] mK:=by
 rintro xs Q ⟨x,ns,ps,S,rfl,hx,d,hl,q⟩
 exact⟨_,rfl,_,_,rfl,hx.len,_,rfl,_,rfl,x,ns,ps,S,rfl,hx,d,hl,_,_,rfl,rfl,trivial,q⟩
def oT:bA:=λxs Q=>∃x ns y ms,xs = [x,y]/\dC x ns/\dC y ms/\ns.length<=10000/\ms.length<=1000/\Q (.tup (intz (ns.filter λz=>!decide (z∈ms))))
def Y2:aL:=(aO (bH 2 (aH jL (a7 (a5 1) aE)))
 (bI (aH m5 (a7 (dL (dA (a5 0)) [none,some 2] (bB 0) (aU (kG true (a5 0) (a5 1))) (a5 0)) aE))))
theorem aO9:cQ Y2 ["hearths","some","gone"] oT:=by
 rintro xs Q ⟨x,ns,y,ms,rfl,hx,hy,hl,hm,q⟩
 refine⟨_,rfl,y,ms,rfl,hy,hm,λps d=>⟨trivial,?_⟩⟩
 refine⟨_,rfl,_,hx.seq,kS hx,by rw[b8];omega,λi acc=>acc=intz ((ns.take i).filter λz=>!decide (z∈ms)),rfl,?_,?_⟩
 ·rintro i z acc hz rfl
  obtain⟨n,rfl,hn⟩:=gD hz
  have tk:=mI (p:=λz=>!decide (z∈ms)) hn
  refine⟨_,rfl,_,rfl,_,.inl ⟨ps,Sum.inl n,rfl,rfl,rfl⟩,_,rfl,?_⟩
  show if (!(bL ps (Sum.inl n:aC)).isSome)=true then _ else _
  rw[d.has n]
  by_cases h:n∈ms
  ·rw[bi9 h]at tk ⊢
   refine bD ?_
   show _=intz (List.filter _ (List.take (i+1) ns))
   rw[tk];exact congrArg intz (bn4 _).symm
  ·rw[bi2 h]at tk ⊢
   refine cA ⟨_,rfl,trivial,?_⟩
   show _=intz (List.filter _ (List.take (i+1) ns))
   rw[tk,gV];rfl
 ·rintro acc rfl
  rw[b8,bl0]
  exact⟨⟨_,_,rfl,rfl,cE _,trivial,q⟩,λns z=>by cases z⟩
def jN (ws:ae)(ls:aa)(S:ae)(h:Int):Bool:=decide (dY (c7 ls h) S<ws.getD h.toNat 0)
def stay (ws:ae)(ls:aa)(S:ae):ae:=S.filter (jN ws ls S)
theorem aP0 {n:Nat}{S:ae}(h:cR n S=true)(p:Int->Bool):cR n (S.filter p)=true:=by
 obtain⟨h1,h2⟩:=i7 h
 have u:oS (n:Int) (S.filter p):=⟨(kR h1).filter p,λx hx=>h2 x (bk0.mp hx).1,by
  have:=xG h
  have:=List.length_filter_le p S
  omega⟩
 exact u.set
def sU:bA:=λxs Q=>∃ws ls x S,xs = [bC ws ls,.lst (oO ws.length ls),x]/\Wb ws ls/\dC x S/\cR ws.length S=true/\Q (.tup (intz (stay ws ls S)))
def Y3:aL:=(aO (bH 3 (aH jL (a7 (a5 2) aE)))
 (bI (aH m5 (a7 (dL (dA (a5 2)) [none,some 3,some 1,some 0] (bB 0) (aU (wN (aH mK (a7 (bT (a5 2) (a5 0)) (a7 (a5 1) aE))) (bT (bT (a5 3) (qC (.int 0))) (a5 0)))) (a5 0)) aE))))
theorem aP1:cQ Y3 ["web","around","block","inside"] sU:=by
 rintro xs Q ⟨ws,ls,x,S,rfl,wb,hx,hs,q⟩
 have few:=wb.few
 have ln:=xG hs
 have most:=wb.most
 refine⟨_,rfl,x,S,rfl,hx,by omega,λps d=>⟨trivial,?_⟩⟩
 refine⟨_,rfl,_,hx.seq,kS hx,by rw[b8];omega,λi acc=>acc=intz ((S.take i).filter (jN ws ls S)),rfl,?_,?_⟩
 ·rintro i z acc hz rfl
  obtain⟨h,rfl,hh⟩:=gD hz
  have hm:=(i7 hs).2 h (bj5 hh)
  have nl:=lP ls h
  have tk:=mI (p:=jN ws ls S) hh
  refine⟨_,rfl,_,rfl,_,_,_,rfl,rfl,V6 hm.1 hm.2,_,rfl,_,c7 ls h,ps,S,rfl,.inr rfl,d,by omega,_,rfl,_,_,_,rfl,rfl,rfl,_,rfl,_,_,_,rfl,rfl,sK hm.1 hm.2,_,_,rfl,rfl,_,rfl,?_⟩
  show if jN ws ls S h=true then _ else _
  cases hk:jN ws ls S h with
  |true=>
   rw[hk,if_pos rfl]at tk
   refine cA ⟨_,rfl,trivial,?_⟩
   show _=intz (List.filter _ (List.take (i+1) S))
   rw[tk,gV];rfl
  |false=>
   rw[hk,if_neg (by decide),bn4]at tk
   refine bD ?_
   show _=intz (List.filter _ (List.take (i+1) S))
   rw[tk]
 ·rintro acc rfl
  rw[b8,bl0]
  exact⟨⟨_,_,rfl,rfl,cE _,trivial,q⟩,λns z=>by cases z⟩
section
variable {ws:ae}{ls:aa}{S T:ae}
theorem Y4 {n:Nat}{A B:ae}(ha:cR n A=true)(hb:cR n B=true)(h:∀x,x∈A↔x∈B):A=B:=by
 have ua:=kR (i7 ha).1
 have ub:=kR (i7 hb).1
 have p:A.Perm B:=(List.perm_ext_iff_of_nodup (ua.imp λz=>Int.ne_of_lt z) (ub.imp λz=>Int.ne_of_lt z)).mpr h
 exact aL9 p (ua.imp λz=>Int.le_of_lt z) (ub.imp λz=>Int.le_of_lt z)
end
section
variable {ws:ae}{ls:aa}{ns:ae}
def oU (n:Nat)(S:ae):ae:=(rng n).filter λx=>!decide (x∈S)
theorem aP2 {n:Nat}{S:ae}{x:Int}:x∈oU n S↔x∈rng n/\x∉S:=by
 unfold oU;rw[bk0];simp
theorem aP3 (n:Nat)(S:ae):cR n (oU n S)=true:=by
 have u:oS (n:Int) (oU n S):=⟨by
   refine List.Pairwise.filter _ ?_
   unfold rng
   rw[bp3]
   exact bv9.imp λh=>by omega,λx hx=>fN.mp (aP2.mp hx).1,by
   have:=List.length_filter_le (λx=>!decide (x∈S)) (rng n)
   rw[mH]at this
   show ((List.filter (λx=>!decide (x∈S)) (rng n)).length:Int)<=_
   omega⟩
 exact u.set
end
theorem aP4 {xs:List PV}{w:Int}(h:0<=w):gR xs none (some w)=xs.take w.toNat:=by
 unfold gR
 rw[HT.ap7,List.drop_zero,Nat.sub_zero]
 have:HT.aP xs.length xs.length (some w)=min w.toNat xs.length:=by
  show (if w<0 then (w+(xs.length:Int)).toNat else min w.toNat xs.length)=_
  rw[if_neg (by omega)]
 rw[this,<- List.take_take,bl0]
end Core
namespace L2
open PySem PySem.Spec PyProof.Rows
theorem Y5:∀(n:Nat) (ns:ae),n<=ns.length->preSum (λi=>ns.getD i 0) n=(ns.take n).sum
 |0,_,_=>by simp[preSum]
 |n+1,ns,h=>by
  show preSum (λi=>ns.getD i 0) n+ns.getD n 0=_
  have h1:ns[n]? = some (ns[n]'(by omega)):=bh5 (by omega)
  have h2:ns.take (n+1)=ns.take n++[ns[n]'(by omega)]:=by rw[bm1,h1];rfl
  have h3:ns.getD n 0=ns[n]'(by omega):=by rw[bh9,h1];rfl
  rw[Y5 n ns (by omega),h2,h3,List.sum_append,List.sum_cons,List.sum_nil]
  omega
section
variable {X:Cx}
theorem aP5 (hc:X.calm=true):cH X (.builtin "sum") (λxs H Q=>∃(a:Addr) (ns:ae),xs = [.ref a]/\(aJ X.K H a (ns.map V.int)∨aG X.K H a (ns.map V.int))/\Q (.int ns.sum) H):=by
 intro pins s σ H xs us Q I r h
 obtain⟨a,ns,rfl,hq,q⟩:=h
 obtain⟨u,rfl,ru⟩:=fV r
 cases ru
 have hh:X.A.in1.handled=none:=I.ok.hd hc
 have fin:∀(its:List Value) (o:Obj) (wr:List Addr) (hw:∀b∈wr,s.heap.objs.size<=b),aF (ns.map V.int) its->∀s' t',Moved wr (λa b=>b=a) { s with heap:=s.heap.push o } s'->
   ∃x H',a6 X pins σ H' s'/\aM x (.int (preSum (λi=>ns.getD i 0) its.toArray.size) t')/\Q x H':=λits o wr hw rv s' t' hm=>by
  have hl:=rv.length
  rw[bi1]at hl
  have e:=Moved.eq_with hm
  have e2:preSum (λi=>ns.getD i 0) its.toArray.size=ns.sum:=by rw[bh6,<- hl,Y5 _ _ (bh8 _),bl0]
  rw[e2,e]
  refine⟨.int ns.sum,H,I.kept (t':=s'.toks) (h':=s'.heap) λb o' eb=>hm.heap b o' (λz=>?_) (bh4 _ eb),⟨t',rfl⟩,q⟩
  exact absurd (bj0 eb) (Nat.not_lt.mpr (hw b z))
 have val:∀(its:List Value),aF (ns.map V.int) its->∀(i:Nat) (v:Value),its.toArray[i]? = some v->∃t,v = .int (ns.getD i 0) t:=λits rv i v hv=>by
  have hi:its[i]? = some v:=by simpa using hv
  have hl:=rv.length
  rw[bi1]at hl
  have hil:i<ns.length:=by rw[hl];exact (bi3.mp hi).1
  obtain⟨u,e1,e2⟩:=rv.get (i:=i) (x:=.int ns[i]) (by simp[hil])
  rw[hi]at e1;cases e1
  obtain⟨t,rfl⟩:=e2
  exact⟨t,by rw[bh9,bh5 hil];rfl⟩
 rcases hq with hq|hq
 ·obtain⟨its,rv,p,hz⟩:=I.list hq
  have hlt:a<s.heap.objs.size:=by obtain⟨o,e,_⟩:=p.isList;exact bj0 e
  refine call_sum_walkAnyS (wpAny_pyIter_list p.isList ?_)
  refine⟨s.heap.objs.size,_,_,_,_,_,_,λi=>ns.getD i 0,rfl,(Walks.list hh s.heap.objs.size a (bl3 hlt) its.toArray).toS,⟨⟨_,bj2 _ rfl,rfl,rfl⟩,p.isList.push _⟩,?_,val its rv,λs' t' hm=>fin its _ _ ?_ rv s' t' hm⟩
  ·intro b hb
   have hs:(s.heap.push { cls:=.type "list_iterator",data:=.fields #[.ref a,.int 0 0] }).objs.size=s.heap.objs.size+1:=size_push' _ _
   show b<(s.heap.push _).objs.size
   rw[size_push']
   rcases bi4.mp hb with rfl|hb
   ·exact Nat.lt_succ_self _
   ·rw[bi6.mp hb];exact Nat.lt_succ_of_lt hlt
  ·intro b hb
   rw[bi6.mp hb];exact bh8 _
 ·obtain⟨its,rv,p,hz⟩:=I.tuple hq
  have hlt:a<s.heap.objs.size:=by obtain⟨o,e,_⟩:=p;exact bj0 e
  refine call_sum_walkAnyS (bu3 p ?_)
  refine⟨s.heap.objs.size,_,_,_,_,_,_,λi=>ns.getD i 0,rfl,(Walks.tuple hh s.heap.objs.size a (bl3 hlt) its.toArray).toS,⟨⟨_,bj2 _ rfl,rfl,rfl⟩,?_⟩,?_,val its rv,λs' t' hm=>fin its _ _ ?_ rv s' t' hm⟩
  ·obtain⟨o,e,h⟩:=p
   exact⟨o,bh4 _ e,h⟩
  ·intro b hb
   show b<(s.heap.push _).objs.size
   rw[size_push']
   rcases bi4.mp hb with rfl|hb
   ·exact Nat.lt_succ_self _
   ·rw[bi6.mp hb];exact Nat.lt_succ_of_lt hlt
  ·intro b hb
   rw[bi6.mp hb];exact bh8 _
theorem aP6 (hc:X.calm=true):cH X (.builtin "any") (λxs H Q=>∃(a:Addr) (bs:List Bool),xs = [.ref a]/\aJ X.K H a (bs.map V.bl)/\Q (.bl (bs.any id)) H):=by
 intro pins s σ H xs us Q I r h
 obtain⟨a,bs,rfl,hq,q⟩:=h
 obtain⟨u,rfl,ru⟩:=fV r
 cases ru
 obtain⟨its,rv,p,hz⟩:=I.list hq
 have hl:=rv.length
 rw[bi1]at hl
 have hlt:a<s.heap.objs.size:=by obtain⟨o,e,_⟩:=p.isList;exact bj0 e
 refine call_any_walk (wpAny_pyIter_list p.isList ?_)
 have hh:X.A.in1.handled=none:=I.ok.hd hc
 refine⟨s.heap.objs.size,_,_,_,_,_,λi=>bs.getD i false,rfl,Walks.list hh s.heap.objs.size a (bl3 hlt) its.toArray,⟨⟨_,bj2 _ rfl,rfl,rfl⟩,p.isList.push _⟩,?_,λh' tk kp=>?_⟩
 ·intro i v s' Q' E' hP hQ'
  have hi:its[i]? = some v:=by simpa using hP
  have hil:i<bs.length:=by rw[hl];exact (bi3.mp hi).1
  obtain⟨u,e1,e2⟩:=rv.get (i:=i) (x:=.bl bs[i]) (by simp[hil])
  rw[hi]at e1;cases e1
  cases e2
  have:bs.getD i false=bs[i]:=by rw[bh9,bh5 hil];rfl
  have hQ2:Q' (bs.getD i false) s':=hQ'
  rw[this]at hQ2
  exact br7 hQ2
 ·have any_eq:(List.range its.toArray.size).any (λi=>bs.getD i false)=bs.any id:=by
   rw[bh6,<- hl]
   clear q rv hz hl hq hlt p hh kp
   induction bs with
   |nil=>rfl
   |cons b r ih=>
    rw[bk9,List.range_succ_eq_map,bw0,List.any_map,bw0,<- ih]
    rfl
  rw[any_eq]
  refine⟨.bl (bs.any id),H,I.kept (t':=tk) (h':=h') λb o e=>kp b o (λz=>?_) (bh4 _ e),rfl,q⟩
  rw[bi6.mp z]at e
  exact absurd (bj0 e) (bn8 _)
end
end L2
namespace PP
open PySem L2 PyProof.Rows
section
variable {X:Cx}{a b e:Expr}{ta tb te:aB}{tr:cM}{pos p2:Pos}
def xR:List PV->(PV->Prop)->Prop:=λxs Q=>∃x ns,xs = [x]/\iL x=some (intz ns)/\Q (.int ns.sum)
theorem aP7:fB X xR (λxs H Q=>∃(a:Addr) (ns:ae),xs = [.ref a]/\(aJ X.K H a (ns.map V.int)∨aG X.K H a (ns.map V.int))/\Q (.int ns.sum) H):=by
 rintro H vs xs Q Q' r ⟨x,ns,rfl,e,q⟩ k
 obtain⟨v,rfl,r1⟩:=r.one
 obtain⟨a,us,rfl,hs,r2⟩:=r1.seq e
 obtain rfl:=r2.ofInts
 exact⟨a,ns,rfl,hs,k _ _ _ (aA.refl _) (.int _) q⟩
theorem aP8 (B:Bt X.mg)(hc:X.calm=true)(ha:QA X [e] tr)(hg:Gl X "sum":=by rfl)(he:starEach [e] X.env=(false,eval e X.env)::starEach [] X.env:=by rfl)(hpl:(backTo pos (starEach [] X.env)).any (·.1)=false:=by rfl):QE X (.Call (.Name "sum" p2) [e] [] pos) (aH xR tr):=
 iS (aP5 hc) aP7 hg B.sum PyProof.Rows.boot_sum ha (he:=he) (hpl:=hpl)
def xS:List PV->(PV->Prop)->Prop:=λxs Q=>∃bs:List Bool,xs = [.lst (bs.map PV.bl)]/\Q (.bl (bs.any id))
theorem aP9:fB X xS (λxs H Q=>∃(a:Addr) (bs:List Bool),xs = [.ref a]/\aJ X.K H a (bs.map V.bl)/\Q (.bl (bs.any id)) H):=by
 rintro H vs xs Q Q' r ⟨bs,rfl,q⟩ k
 obtain⟨v,rfl,r1⟩:=r.one
 obtain⟨a,us,rfl,_,h,r2⟩:=r1.sqL
 obtain rfl:=r2.ofBls
 exact⟨a,bs,rfl,aJ.of h,k _ _ _ (aA.refl _) (.bl _) q⟩
theorem aQ0 (B:Bt X.mg)(hc:X.calm=true)(ha:QA X [e] tr)(hg:Gl X "any":=by rfl)(he:starEach [e] X.env=(false,eval e X.env)::starEach [] X.env:=by rfl)(hpl:(backTo pos (starEach [] X.env)).any (·.1)=false:=by rfl):QE X (.Call (.Name "any" p2) [e] [] pos) (aH xS tr):=
 iS (aP6 hc) aP9 hg B.any PyProof.Rows.boot_any ha (he:=he) (hpl:=hpl)
end
end PP
namespace Core
open PySem L2 PP
theorem aQ1 {ns:ae}{w:Int}(h:0<=w):gR (intz ns) none (some w)=intz (ns.take w.toNat):=by
 rw[aP4 h];exact List.map_take.symm
theorem qD {ls:aa}{wts:ae}(e:wts.length=ls.length):(ls.zip wts).map (·.2)=wts:=by
 rw[List.map_snd_zip];omega
section
variable {ws:ae}{ls:aa}{ns wts:ae}{m:Nat}
def loose (ls:aa)(wts ns:ae):List ((Int×Int)×Int):=(ls.zip wts).filter λz=>!(decide (z.1.1∈ns)&&decide (z.1.2∈ns))
end
end Core
namespace PP
open PySem L2 PyProof.Rows
abbrev eO:=(Str->Prop)->bA
def EX (K:ac)(H0:Hp)(Ep:Str->Prop):XK:=λc d H'=>d=none/\aA H0 H'/\∃n C,c = .ref C/\PySem.W.nsIn K mainGlobals n=some (some (.ref C))/\Ep n
def Y6 (K:ac)(p:eO):Sp:=λvs H Q E=>∃xs Qp Ep,Reps K (λ_=>True) H vs xs/\p Ep xs Qp/\(∀v H' x,aA H H'->aD K (λa=>H a=none) H' v x->Qp x->Q v H')/\
 ∀n C H',aA H H'->PySem.W.nsIn K mainGlobals n=some (some (.ref C))->Ep n->E (.ref C) none H'
structure cV (P:Program)(w:World)(K:ac)(mg:Str->Option Value)(base:Heap)(k:Nat)(x:Str)(ps:List Str)(p:eO):Prop where
 ex:∃f fd,cD P w K mg base (eC P w) k f fd ps (Y6 K p)/\gJ K fd ps []/\PySem.W.keepIn K (.ref f)=true/\mg x=some (.ref f)
section
variable {X:Cx}{σ:L2.St}{H:Hp}{D:cW}{tr:cM}{Q':VK}{a b c e:Expr}{es:List Expr}{pos p2 cp np hp:Pos}{t:aL}{te:aB}{tc:cB}
def mL (Ep:Str->Prop)(p:eO)(t:cM):aB:=aH (p Ep) t
theorem Y7 {p:eO}{Ep:Str->Prop}(h:LE X (mL Ep p tr) σ H Q'):pM (Y6 X.K p) [] (EX X.K X.H₀ Ep) (LA X tr) σ H Q':=by
 obtain⟨W,ρ,Q,px,q,k⟩:=h
 refine⟨W,ρ,_,px,q,λvs H1 xs s1 r1 q1=>⟨_,_,Ep,by rw[bn4];exact r1.any,q1,λv H' x s2 r2 q2=>k v H' x .fr (s1.trans s2) (r2.same (aA.refl _) λ_ z=>s1.free z) q2,λn C H' s2 z1 z2=>⟨rfl,(px.same.trans s1).trans s2,n,C,rfl,z1,z2⟩⟩⟩
theorem sV {Ep:Str->Prop}{k j:Nat}{x:Str}{ps:List Str}{p:eO}(hX:mG X (EX X.K X.H₀ Ep))(d:cV X.prog X.w X.K X.mg X.base k x ps p)(hr:bR j X.A)(ha:QA X (e::es) tr)(hkj:k<=j:=by decide)(hg:Gl X x:=by rfl)(hdb:(x==("__debug__":Str))=false:=by decide)(he:starEach (e::es) X.env=(false,eval e X.env)::starEach es X.env:=by rfl)(hpl:(backTo pos (starEach es X.env)).any (·.1)=false:=by rfl):QE X (.Call (.Name x p2) (e::es) [] pos) (mL Ep p tr):=by
 obtain⟨f,fd,F,b,kp,m⟩:=d.ex
 exact bU (pN F (hr.mono hkj) hg m kp b .nil hX.pass ha hdb he hpl) λ_ _ _=>Y7
theorem aQ2 {k j:Nat}{x:Str}{ps:List Str}{p:eO}(d:cV X.prog X.w X.K X.mg X.base k x ps p)(hr:bR j X.A)(ha:QA X (e::es) tr)(hkj:k<=j:=by decide)(hg:Gl X x:=by rfl)(hdb:(x==("__debug__":Str))=false:=by decide)(he:starEach (e::es) X.env=(false,eval e X.env)::starEach es X.env:=by rfl)(hpl:(backTo pos (starEach es X.env)).any (·.1)=false:=by rfl):QE X (.Call (.Name x p2) (e::es) [] pos) (aH (p λ_=>False) tr):=by
 obtain⟨f,fd,F,b,kp,m⟩:=d.ex
 refine bU (pN F (E:=EX X.K X.H₀ λ_=>False) (hr.mono hkj) hg m kp b .nil (λ_ _ _ _ _ _ _ h=>?_) ha hdb he hpl) λ_ _ _ h=>Y7 (Ep:=λ_=>False) h
 obtain⟨_,_,_,_,_,_,_,_,_,_,_,_,z⟩:=h
 exact z.elim
def sW (Ep:Str->Prop)(n:Str)(t:cM):aL:=λ_ ρ=>t ρ λxs=>xs.length<=1000/\Ep n
theorem aQ3 {Ep:Str->Prop}{n:Str}{C:Addr}(hn:PySem.W.nsIn X.K mainGlobals n=some (some (.ref C)))(h:LS X (sW Ep n tr) D σ H):U2 (EX X.K X.H₀ Ep) C (LA X tr) D σ H:=by
 obtain⟨W,ρ,D',px,q,k⟩:=h
 exact⟨W,ρ,_,px,q,λvs H1 xs s1 r z=>⟨by rw[r.length];exact w4 z.1,rfl,px.same.trans s1,n,C,rfl,hn,z.2⟩⟩
structure Xc (K:ac)(mg:Str->Option Value)(base:Heap)(n:Str):Prop where
 ex:∃C B newId initId bm,OwnCls n C bm newId mg base/\ExcBaseFacts B newId initId bm/\PySem.W.nsIn K mainGlobals n=some (some (.ref C))
theorem Y8 {Ep:Str->Prop}{n:Str}(hX:mG X (EX X.K X.H₀ Ep))(x:Xc X.K X.mg X.base n)(ha:QA X (e::es) tr)(hc:X.calm=true:=by rfl)(hg:Gl X n:=by rfl)(hd:(n==("__debug__":Str))=false:=by decide)(he:starEach (e::es) X.env=(false,eval e X.env)::starEach es X.env:=by rfl)(hpl:(backTo cp (starEach es X.env)).any (·.1)=false:=by rfl):QS X (.Raise (some (.Call (.Name n np) (e::es) [] cp)) none pos) (sW Ep n tr):=by
 obtain⟨C,B,newId,initId,bm,O,FB,hn⟩:=x.ex
 exact eB (aJ4 hX hc O FB ha hg hd he hpl) λ_ _ _=>aQ3 hn
def aQ4:List Str:=["BadWeb","BadSet","BadOrder","BadPrices","BadBoard","BadDeed","NotWood","NoPaper","NoSuch","TooMany","NoText","OddRound"]
def aQ5 (n m:Str):Option Bool:=if aQ4.contains n then some (n==m||m=="HearthError"||m=="ValueError") else none
def jA:V->Value
 |.ref a=>.ref a
 |.ty n=>.type n
 |_=>.none
structure IsA (K:ac)(m:Str)(v2:V):Prop where
 nn:jA v2≠.none
 ex:∀n C b,PySem.W.nsIn K mainGlobals n=some (some (.ref C))->aQ5 n m=some b->aJ5 K C/\PySem.W.kitOne K (.ref C) (jA v2)=some b
 no:PySem.W.kitOne K (.type "NoneType") (jA v2)=some false
end
section
variable {X:Cx}{a:Expr}{pos p2 px:Pos}{te:aB}
structure mM (K:ac)(mg:Str->Option Value):Prop where
 mg:mg "ValueError" = none
 is:IsA K "ValueError" (.ty "ValueError")
end
structure xT (K:ac)(C:Addr):Prop where
 cls:PySem.W.isClsIn K C=true
 ty:PySem.W.typeIn K (.ref C)=some (.type "type")
 ga:PySem.W.findIn K (.ref C) "__getattribute__" = some (some (.builtin "BaseException.__getattribute__"))
 gt:PySem.W.findIn K (.ref C) "__getattr__" = some none
 fc:PySem.W.findIn K (.ref C) "__class__" = some (some (.builtin "object.__class__"))
 fg:PySem.W.specialIn K (.builtin "object.__class__") "__get__" = some (some (.builtin "getset_descriptor.__get__"))
 ft:PySem.W.takesIn K (.builtin "object.__class__")=some true
 ob:PySem.W.mroIn K C (.type "object")=some true
 be:PySem.W.mroIn K C (.type "BaseException")=some true
theorem Y9 {K:ac}{h₀:Heap}{mg:Str->Option Value}{x:Str}{C:Addr}{bmB:List Value}{newId:String}(X:K.In h₀)(m:mg x=some (.ref C))(q:PySem.W.excIn K C bmB newId=true):OwnCls x C bmB newId mg h₀:=by
 refine⟨m,?_⟩
 unfold PySem.W.excIn at q
 split at q
 case h_2=>cases q
 rename_i dd cd sl ho
 split at q
 case h_2=>cases q
 rename_i C' bm k0 k1 k2 k3 n k5 hm hs
 simp only[bk4,beq_iff_eq,Bool.not_eq_true']at q
 obtain⟨⟨⟨⟨⟨rfl,rfl⟩,dl⟩,ht⟩,hok⟩,hni⟩:=q
 obtain⟨nm,bs,mro,ns,qn,hd,sn,sub,ab,col,del⟩:=cd
 dsimp only at hm dl hok hni
 subst hm dl
 obtain rfl:sl = #[k0,k1,k2,k3,some (.builtin n),k5]:=by
  obtain⟨l⟩:=sl
  exact congrArg Array.mk hs
 exact⟨bm,ns,nm,qn,bs,hd,sn,sub,ab,col,dd,k0,k1,k2,k3,k5,_,X _ _ ho,.of_isNs (PySem.W.isNs_of_in X hok),PySem.W.nsMap_none_of_in X hok hni,PySem.W.tail_of_in X ht⟩
theorem cV.of {P:Program}{w:World}{K:ac}{mg:Str->Option Value}{base:Heap}{k:Nat}{x:Str}{ps N:List Str}{p:eO}{st:Stmt}{f:Addr}{fd:FuncData}(F:dR K x x st f fd)(m:mg x=some (.ref f))(S:FnScope N ps (aN st))(hb:∀(kV doc pm:Value) (an:Option Addr) (cdv ct:Value) (us:List Value),us.length=ps.length->bindArgs (PySem.W.fnOf x x (hJ st) (dH st) (aN st) .none kV doc pm an cdv ct) ⟨us,[]⟩=pure (ps.zip us))(t:(Str->Prop)->aL)(len:∀Ep xs Q,p Ep xs Q->xs.length=ps.length)(rd:∀Ep xs Q,p Ep xs Q->t Ep { nx:=λ_=>Q .non,rt:=Q } (eI N xs))(body:∀(cdv:Value) (A:Around) (outer:List Env) (s:Shared) (H:Hp) (E:XK) (Ep:Str->Prop),bR k (A.deeper (envOfC x (aN st) s.heap.objs.size f cdv))->mG (cK (eC P w) P w K mg base N x (aN st) f cdv A outer s H E) (EX K H Ep)->
   dW (cK (eC P w) P w K mg base N x (aN st) f cdv A outer s H E) (dH st) (t Ep)):cV P w K mg base (k+1) x ps p:=by
 refine⟨f,fd,F.okX S (λvs H Q E h=>?_) (λcdv A outer s H vs Q E hr h=>?_),F.binds hb,F.kp,m⟩
 ·obtain⟨xs,Qp,Ep,r,q,_⟩:=h
  rw[r.length];exact len Ep xs Qp q
 ·obtain⟨xs,Qp,Ep,r,q,k,ke⟩:=h
  have ht:=body cdv A outer s H E Ep hr (aJ3 λc d H' z=>?_)
  ·refine⟨_,ht,λ_=>False,eI N xs,_,rL r,rd Ep xs Qp q,?_,?_,?_,?_⟩
   ·exact λW' σ' H' ρ' e px q=>k _ _ _ px.same .non q
   ·exact λv H' x s r q=>k _ _ _ s r q
   ·exact λW' σ' H' ρ' e px q=>q
   ·exact λW' σ' H' ρ' e px q=>q
  ·obtain⟨rfl,s1,n,C,rfl,z1,z2⟩:=z
   exact ke n C H' s1 z1 z2
end PP
namespace Core
open PySem L2 PP
abbrev oV (t:(Str->Prop)->aL)(N:List Str)(p:eO):Prop:=∀Ep xs Q,p Ep xs Q->t Ep { nx:=λ_=>Q .non,rt:=Q } (eI N xs)
def sX:eO:=λEp xs Q=>∃ws ls x ns,xs = [bC ws ls,x]/\dC x ns/\ns.length<=1000/\(cR ws.length ns=true->Q (.tup (intz ns)))/\(cR ws.length ns=false->Ep "BadSet")
def Z0 (Ep:Str->Prop):aL:=(aO (cN (i4 (aU (aH sI (a7 (a5 0) (a7 (a5 1) aE))))) (sW Ep "BadSet" (a7 (qC (.str "a set is of rising hearths of the web")) aE)) dG)
 (bI (aH m5 (a7 (a5 1) aE))))
theorem aQ6:oV Z0 ["web","hearths"] sX:=by
 rintro Ep xs Q ⟨ws,ls,x,ns,rfl,hx,hl,q1,q2⟩
 refine⟨_,rfl,_,rfl,ws,ls,x,ns,rfl,hx,hl,_,rfl,?_⟩
 cases h:cR ws.length ns with
 |true=>exact bD ⟨_,rfl,⟨_,_,rfl,hx.seqT,cE _,trivial,q1 h⟩,hx.noscr⟩
 |false=>exact cA ⟨by decide,q2 h⟩
end Core
namespace PP
open PySem L2
theorem Reps.keys {K:ac}{M:Addr->Prop}{H:Hp}:∀(k:List aC),Reps K M H (k.map kV) (k.map kP)
 |[]=>.nil
 |.inl i::r=>.cons (.int i) (Reps.keys r)
 |.inr x::r=>.cons (.str x) (Reps.keys r)
theorem Z1 {α β:Type}{F:α->β->Prop}:∀{l:List α}{m:List β}{i:Nat}{x:α},Paired F l m->l[i]? = some x->∃y,m[i]? = some y/\F x y
 |_,_,_,_,.nil,e=>by simp at e
 |_,_,0,_,.cons r _,e=>by simp at e;subst e;exact⟨_,rfl,r⟩
 |_,_,i+1,x,.cons _ t,e=>by
  rw[bo4]at e
  obtain⟨y,h1,h2⟩:=Z1 t e
  exact⟨y,by rw[bo4];exact h1,h2⟩
theorem mO {us:List Value}(h:us.length=1):∃a,us = [a]:=List.length_eq_one_iff.mp h
theorem mP {us:List Value}(h:us.length=2):∃a b,us = [a,b]:=by
 cases us with
 |nil=>cases h
 |cons a r=>
  obtain⟨b,rfl⟩:=mO (us:=r) (by simpa using h)
  exact⟨a,b,rfl⟩
theorem xU {us:List Value}(h:us.length=3):∃a b c,us = [a,b,c]:=by
 cases us with
 |nil=>cases h
 |cons a r=>
  obtain⟨b,c,rfl⟩:=mP (us:=r) (by simpa using h)
  exact⟨a,b,c,rfl⟩
end PP
namespace Core
open PySem L2 PP
def NN (zs:ae):Prop:=∀z∈zs,(0:Int)<=z
theorem NN.app {zs:ae}{z:Int}(h:NN zs)(hz:0<=z):NN (zs++[z]):=λy hy=>by
 rcases bl5.mp hy with hy|hy
 ·exact h y hy
 ·rw[bi6.mp hy];exact hz
theorem NN.set {zs:ae}{z:Int}(h:NN zs)(hz:0<=z)(j:Nat):NN (zs.set j z):=λy hy=>by
 rcases List.mem_or_eq_of_mem_set hy with hy|rfl
 ·exact h y hy
 ·exact hz
theorem aQ7 (S:ae):∀ns:ae,(((ns.filter λx=>!decide (x∈S)).length:Nat):Int)=dY ns S:=by
 intro ns
 unfold dY
 induction ns with
 |nil=>rfl
 |cons x r ih=>
  by_cases h:x∈S
  ·simp only[bq7,h,decide_true,Bool.not_true,bk1,bn9,if_true,bk9]
   omega
  ·simp only[bq7,h,decide_false,Bool.not_false,bk1,bn9,if_true,bk9]
   omega
end Core
namespace PP
open PySem L2
section
variable {X:Cx}{a b e:Expr}{ta tb:aB}{tr:cM}{D:cW}{σ:St}{H:Hp}{pos p2 p3 p4:Pos}
def sY (i:Nat)(ta tb:aB):aL:=λD ρ=>∃xs,ρ[i]? = some (some (.own (.lst xs)))/\ta ρ λx _=>∃k:Nat,x = .int k/\k<=xs.length/\xs.length<16000000/\tb ρ λy g=>Nw g y/\D.nx (ρ.set i (some (.own (.lst (xs.take k++y::xs.drop k)))))
end
section
variable {X:Cx}{e:Expr}{tr:cM}{pos p2:Pos}
def sZ:List PV->(PV->Prop)->Prop:=λxs Q=>∃ys:ad,xs = [.lst (ys.map λr=>PV.tup (intz r))]/\ys.length<=4096/\(∀y∈ys,y.length=2)/\∀zs:ad,zs.Perm ys->zs.Pairwise (λu v=>HT.aY v u=false)->Q (.lst (zs.map λr=>PV.tup (intz r)))
theorem aQ8:fB X sZ (U1 X.K):=by
 rintro H vs xs Q Q' r ⟨ys,rfl,hl,hne,q⟩ k
 obtain⟨v,rfl,r1⟩:=r.one
 obtain⟨a,us,rfl,_,h,r2⟩:=r1.sqL
 obtain⟨h1,h2⟩:=sM r2
 have lr:=r2.length
 rw[bi1]at lr
 refine⟨a,us,gW H,rfl,aJ.of h,by omega,λy hy=>?_,λl zs hl' pm so=>?_⟩
 ·obtain⟨b,rfl,hb⟩:=h2 y hy
  refine⟨b,rfl,aG.of hb,hne _ ?_⟩
  rw[<- h1];exact bk5.mpr ⟨_,hy,rfl⟩
 ·have hz:∀u∈zs,∃b,u = .ref b/\H b=some (.tup ((gW H u).map V.int)):=λu hu=>h2 u (pm.mem_iff.mp hu)
  refine k _ _ _ (aW hl' _) (.lst hl' aQ ((sN hz).same (aW hl' _) λ_ z=>z)) (q _ ?_ ?_)
  ·rw[<- h1];exact pm.map _
  ·rw[bp3];exact so
theorem aQ9 (B:Bt X.mg)(ha:QA X [e] tr)(hg:Gl X "sorted":=by rfl)(he:starEach [e] X.env=(false,eval e X.env)::starEach [] X.env:=by rfl)(hpl:(backTo pos (starEach [] X.env)).any (·.1)=false:=by rfl):QE X (.Call (.Name "sorted" p2) [e] [] pos) (aH sZ tr):=
 iS aJ0 aQ8 hg B.sorted PyProof.Rows.boot_sorted ha (he:=he) (hpl:=hpl)
end
end PP
namespace Core
open PySem L2 PP
structure WL (n:Int)(ws:ae)(ls:aa):Prop where
 many:(ws.length:Int)=n
 inn:∀l∈ls,0<=l.1/\l.1<l.2/\l.2<n
 most:ls.length<=1700
 ord:ls.Pairwise xI
 pos:∀w∈ws,0<=w
theorem WL.perm {n:Int}{ws:ae}{ls ls':aa}(h1:(ws.length:Int)=n)(h2:∀l∈ls,0<=l.1/\l.1<l.2/\l.2<n)(h3:ls.length<=1700)(nd:ls.Nodup)(h4:∀w∈ws,0<=w)(p:ls'.Perm ls)(so:(ls'.map two).Pairwise λu v=>HT.aY v u=false):WL n ws ls':=
 ⟨h1,λl hl=>h2 l (p.mem_iff.mp hl),by rw[p.length_eq];exact h3,aL8 so (p.nodup_iff.mpr nd),h4⟩
theorem WL.wb {n:Int}{ws:ae}{ls:aa}(h:WL n ws ls)(hn:n<=40):Wb ws ls:=
 ⟨by have:=h.many;omega,h.most,λl hl=>by have:=h.inn l hl;have:=h.many;omega⟩
def t5:eO:=λEp xs Q=>∃ws ls x S,xs = [bC ws ls,x]/\Wb ws ls/\dC x S/\S.length<=1000/\(cR ws.length S=true->Q (.bl (decide (stay ws ls S=S))))/\(cR ws.length S=false->Ep "BadSet")
def Z3 (Ep:Str->Prop):aL:=(aO (bH 2 (mL Ep sX (a7 (a5 0) (a7 (a5 1) aE))))
 (bI (q2 (qZ 2 false) (aH sU (a7 (a5 0) (a7 (aH oP (a7 (a5 0) aE)) (a7 (a5 2) aE)))) (a5 2))))
theorem aR0:oV Z3 ["web","block","chosen"] t5:=by
 rintro Ep xs Q ⟨ws,ls,x,S,rfl,wb,hx,hl,q,qe⟩
 refine⟨_,rfl,_,rfl,ws,ls,x,S,rfl,hx,hl,λhs=>⟨trivial,?_⟩,qe⟩
 have q:=q hs
 refine⟨_,rfl,_,rfl,ws,ls,rfl,wb,_,rfl,ws,ls,_,S,rfl,wb,.inl rfl,hs,_,rfl,.inl ⟨_,_,rfl,rfl⟩,N6 2 _ _,trivial,?_⟩
 show Q (.bl (c8 3 (.tup (intz (stay ws ls S))) (.tup (intz S))))
 rw[N4];exact q
def xV (ws:ae)(ls:aa)(S:ae):Prop:=S≠[]/\stay ws ls S=S/\∀U,stay ws ls U=U->U≠[]->(∀x∈U,x∈S)->∀x∈S,x∈U
theorem aR1 {A B:ae}:∀ns:ae,(∀y∈ns,y∈A↔y∈B)->dY ns A=dY ns B:=λns h=>by
 unfold dY
 rw[List.filter_congr λx hx=>show decide (x∈A)=decide (x∈B) by rw[decide_eq_decide];exact h x hx]
theorem Z4 (n:Nat):∀(a b:ad),((((tups a).zip (tups b)).all λp=>c8 (n+1) p.1 p.2)&&(tups a).length==(tups b).length)=decide (a=b)
 |[],[]=>rfl
 |[],_::_=>by simp[tups]
 |_::_,[]=>by simp[tups]
 |x::a,y::b=>by
  have ih:=Z4 n a b
  have e:∀(z:ae) (c:ad),tups (z::c)=PV.tup (intz z)::tups c:=λ_ _=>rfl
  rw[e,e]
  simp only[bt1,bt5,bk9,N4]at ih ⊢
  by_cases h:x=y
  ·subst h
   have:((tups a).length+1==(tups b).length+1)=((tups a).length==(tups b).length):=by simp
   rw[this,bi9 rfl,Bool.true_and,ih]
   simp
  ·rw[bi2 h,Bool.false_and,Bool.false_and]
   simp[h]
theorem aR2 (n:Nat)(a b:ad):c8 (n+2) (.lst (tups a)) (.lst (tups b))=decide (a=b):=Z4 n a b
theorem Z5 (n:Nat):∀(a b:ad),dB (n+2) (.lst (tups a)) (.lst (tups b))=true
 |[],_=>by unfold dB tups;simp
 |_::_,[]=>by unfold dB tups;simp
 |x::a,y::b=>by
  have ih:=Z5 n a b
  show (((PV.tup (intz x)::tups a).zip (PV.tup (intz y)::tups b)).all λp=>dB (n+1) p.1 p.2)=true
  rw[bt1,bt5,N6,Bool.true_and]
  exact ih
theorem aR3:∀(g:Bool) {x:PV},flat x=true->Nw (Slot.sh g x).tag x
 |true,_,_=>trivial
 |false,_,h=>h
def aX (hs:ae):ad:=hs.foldl (λacc h=>acc++acc.map λp=>p++[h]) [[]]
theorem i8 (hs:ae)(h:Int):aX (hs++[h])=aX hs++(aX hs).map λp=>p++[h]:=by
 unfold aX;rw[List.foldl_append];rfl
theorem kT (n:Nat):rng (n+1)=rng n++[(n:Int)]:=by
 unfold rng;rw[List.range_succ,bk8];rfl
theorem Z6:∀hs:ae,∀k,(aX (hs.take k)).length=2^min k hs.length:=by
 intro hs k
 induction k with
 |zero=>simp[aX]
 |succ k ih=>
  by_cases h:k<hs.length
  ·have tk:hs.take (k+1)=hs.take k++[hs[k]]:=by rw[bm1,bh5 h];rfl
   rw[tk,i8,bj6,bi1,ih,show min (k+1) hs.length=min k hs.length+1 by omega,Nat.pow_succ]
   omega
  ·rw[br0 (by omega),show min (k+1) hs.length=min k hs.length by omega,<- ih,br0 (by omega)]
theorem kU (n:Nat):(aX (rng n)).length=2^n:=by
 have:=Z6 (rng n) n
 rw[br0 (by rw[mH];exact bh8 _),mH,Nat.min_self]at this
 exact this
theorem mQ (n:Nat):∀(p:Nat) (S:ae),(aX (rng n))[p]? = some S->(∀x∈S,0<=x/\x<(n:Int))/\(p=0↔S = [])/\∀h∈S,2^h.toNat<=p/\(aX (rng n))[p-2^h.toNat]? = some (S.filter λz=>!decide (z=h)):=by
 induction n with
 |zero=>
  intro p S e
  have e0:aX (rng 0) = [[]]:=rfl
  rw[e0]at e
  cases p with
  |zero=>cases e;exact⟨(λ_ h=>by cases h),⟨λ_=>rfl,λ_=>rfl⟩,(λ_ h=>by cases h)⟩
  |succ p=>cases e
 |succ n ih=>
  intro p S e
  rw[kT,i8]at e
  have ln:=kU n
  rcases bm7 p (2^n) with hp|hp
  ·rw[bn5 (by omega)]at e
   obtain⟨h1,h2,h3⟩:=ih p S e
   refine⟨λx hx=>by have:=h1 x hx;omega,h2,λh hh=>⟨(h3 h hh).1,?_⟩⟩
   rw[kT,i8,bn5 (by rw[ln];exact Nat.lt_of_le_of_lt (Nat.sub_le _ _) hp)]
   exact (h3 h hh).2
  ·rw[bq3 (by omega),ln,bi7]at e
   cases e2:(aX (rng n))[p-2^n]? with
   |none=>rw[e2]at e;cases e
   |some T=>
    rw[e2]at e
    have e:T++[(n:Int)]=S:=bk2 e
    subst e
    obtain⟨h1,h2,h3⟩:=ih _ T e2
    have nT:(n:Int)∉T:=λz=>by have:=h1 _ z;omega
    have p0:0<2^n:=Nat.pow_pos (by decide)
    refine⟨λx hx=>?_,⟨λz=>absurd z (by omega),λz=>by simp at z⟩,λh hh=>?_⟩
    ·rcases bl5.mp hx with z|z
     ·have:=h1 x z;omega
     ·rw[bi6.mp z];omega
    ·rcases bl5.mp hh with z|z
     ·have hb:=h1 h z
      obtain⟨a1,a2⟩:=h3 h z
      refine⟨by omega,?_⟩
      rw[kT,i8,bq3 (by omega),ln,bi7,show p-2^h.toNat-2^n=p-2^n-2^h.toNat by omega,a2,List.filter_append]
      have:([(n:Int)]:ae).filter (λz=>!decide (z=h)) = [(n:Int)]:=by
       rw[bq7,bi2 (by omega:¬(n:Int)=h)];rfl
      rw[this];rfl
     ·have hn:h=(n:Int):=bi6.mp z
      subst hn
      rw[show ((n:Int)).toNat=n from rfl]
      refine⟨hp,?_⟩
      have lt:p-2^n<2^n:=by
       have:=(bi3.mp e2).1
       omega
      rw[kT,i8,bn5 (by omega),e2,List.filter_append]
      have a1:T.filter (λz=>!decide (z=(n:Int)))=T:=bu0.mpr λx hx=>by
       rw[bi2 (λz:x=(n:Int)=>nT (by rw[<- z];exact hx))];rfl
      have a2:([(n:Int)]:ae).filter (λz=>!decide (z=(n:Int))) = []:=by
       rw[bq7,bi9 rfl];rfl
      rw[a1,a2,bn4]
theorem eQ (n:Nat):∀S:ae,S∈aX (rng n)↔S.Sublist (rng n):=by
 induction n with
 |zero=>
  intro S
  show S∈[[]]↔S.Sublist []
  rw[bi6,List.sublist_nil]
 |succ n ih=>
  intro S
  rw[kT,i8,bl5]
  refine⟨λh=>?_,λh=>?_⟩
  ·rcases h with h|h
   ·exact ((ih S).mp h).trans (List.sublist_append_left _ _)
   ·obtain⟨T,hT,rfl⟩:=bk5.mp h
    exact ((ih T).mp hT).append (List.Sublist.refl _)
  ·obtain⟨p1,p2,rfl,s1,s2⟩:=List.sublist_append_iff.mp h
   cases s2 with
   |cons _ s3=>rw[List.sublist_nil.mp s3,bn4];exact .inl ((ih p1).mpr s1)
   |cons_cons _ s3=>rw[List.sublist_nil.mp s3];exact .inr (bk5.mpr ⟨p1,(ih p1).mpr s1,rfl⟩)
theorem aR4 (n:Nat):(aX (rng n)).Nodup:=by
 induction n with
 |zero=>exact bl8 _ _
 |succ n ih=>
  rw[kT,i8]
  refine bv4.mpr ⟨ih,bp3.mpr (ih.imp λz e=>z (List.append_cancel_right e)),λa ha b hb e=>?_⟩
  obtain⟨p1,h1,rfl⟩:=bk5.mp hb
  have:=((eQ n a).mp ha).subset (show (n:Int)∈a by rw[e];simp)
  have:=fN.mp this
  omega
theorem jO {n:Nat}{S:ae}:S.Sublist (rng n)↔cR n S=true:=by
 refine⟨λh=>?_,λh=>?_⟩
 ·have up:(rng n).Pairwise (·<·):=by
   unfold rng
   rw[bp3]
   exact bv9.imp λh=>by omega
  have u:oS (n:Int) S:=⟨up.sublist h,λx hx=>fN.mp (h.subset hx),by have:=h.length_le;rw[mH]at this;omega⟩
  exact u.set
 ·have e:S=(rng n).filter λx=>decide (x∈S):=by
   refine Y4 h ?_ λx=>?_
   ·exact aP0 (show cR n (rng n)=true by have:=aP3 n [];unfold oU at this;rwa [bu0.mpr λx _=>by simp]at this) _
   ·rw[bk0,bk3]
    exact⟨λz=>⟨fN.mpr ((i7 h).2 x z),z⟩,λz=>z.2⟩
  rw[e];exact List.filter_sublist
section
variable {ws:ae}{ls:aa}
def HC (ws:ae)(ls:aa)(S:ae):Prop:=∃U,stay ws ls U=U/\U≠[]/\∀x∈U,x∈S
theorem aR5 {U S:ae}(hU:stay ws ls U=U)(h:∀x,x∈S↔x∈U):stay ws ls S=S:=by
 refine bu0.mpr λy hy=>?_
 have:=bu0.mp hU y ((h y).mp hy)
 unfold jN at this ⊢
 rw[aR1 (c7 ls y) λz _=>h z]
 exact this
theorem Z7 (S:ae):HC ws ls S↔(S≠[]/\stay ws ls S=S)∨∃h∈S,HC ws ls (S.filter λz=>!decide (z=h)):=by
 refine⟨λ⟨U,hU,nU,sub⟩=>?_,λh=>?_⟩
 ·by_cases all:∀x∈S,x∈U
  ·refine .inl ⟨λz=>?_,aR5 hU λx=>⟨all x,sub x⟩⟩
   cases hu:U with
   |nil=>exact nU hu
   |cons u r=>
    have:=sub u (by rw[hu];exact bh7)
    rw[z]at this;cases this
  ·obtain⟨h,hh⟩:=Classical.not_forall.mp all
   have hS:h∈S:=Classical.byContradiction λz=>hh λy=>absurd y z
   have hU2:h∉U:=λz=>hh λ_=>z
   refine .inr ⟨h,hS,U,hU,nU,λx hx=>bk0.mpr ⟨sub x hx,?_⟩⟩
   rw[bi2 (λz:x=h=>hU2 (by rw[<- z];exact hx))];rfl
 ·rcases h with h|⟨h,hh,U,hU,nU,sub⟩
  ·exact⟨S,h.2,h.1,λ_ z=>z⟩
  ·exact⟨U,hU,nU,λx hx=>(bk0.mp (sub x hx)).1⟩
theorem Z8 (S:ae):(HC ws ls S/\¬ ∃h∈S,HC ws ls (S.filter λz=>!decide (z=h)))↔xV ws ls S:=by
 refine⟨λ⟨h1,h2⟩=>?_,λlb=>⟨⟨S,lb.2.1,lb.1,λ_ z=>z⟩,λ⟨h,hh,U,hU,nU,sub⟩=>?_⟩⟩
 ·rcases (Z7 S).mp h1 with z|z
  ·refine⟨z.1,z.2,λU hU nU sub x hx=>Classical.byContradiction λy=>h2 ⟨x,hx,U,hU,nU,λu hu=>bk0.mpr ⟨sub u hu,?_⟩⟩⟩
   rw[bi2 (λz:u=x=>y (by rw[<- z];exact hu))];rfl
  ·exact absurd z h2
 ·have:=sub h (lb.2.2 U hU nU (λx hx=>(bk0.mp (sub x hx)).1) h hh)
  have:=(bk0.mp this).2
  rw[bi9 rfl]at this;cases this
end
def t6:bA:=λxs Q=>∃x hs,xs = [x]/\dC x hs/\hs.length<=12/\Q (.lst (tups (aX hs)))
def Z9:aL:=(aO (bH 1 (fA (a7 (i5 aE) aE)))
 (aO (dJ (dA (a5 0)) (bB 2)
  (bH 1 (xL (a5 1) (dL (dA (a5 1)) [none,some 2] (bB 0) gA (xQ (a5 0) (i5 (a7 (a5 1) aE)))))))
 (lW 1)))
theorem aR6:cQ Z9 ["hearths","chosen","hearth"] t6:=by
 rintro xs Q ⟨x,S,rfl,hx,hl,q⟩
 refine⟨by decide,rfl,by show 1<=1000;decide,rfl,trivial,?_⟩
 refine⟨_,rfl,_,hx.seq,kS hx,λi ρ=>∃(y:Option Slot),ρ = [some (.sh (flat x) x),some (.sh true (.lst (tups (aX (S.take i))))),y],⟨none,rfl⟩,?_,?_⟩
 ·rintro i y ρ hy ⟨y0,rfl⟩
  obtain⟨h,rfl,hi⟩:=gD hy
  have il:i<S.length:=(bi3.mp hi).1
  have sl:=Z6 S i
  have p8:(aX (S.take i)).length<=4096:=by
   rw[sl]
   exact bm0 (bt3 (by decide) (show min i S.length<=12 by omega)) (by decide)
  have shr:∀p∈aX (S.take i),p.length<=12:=by
   have gen:∀hs:ae,∀p∈aX hs,p.length<=hs.length:=by
    intro hs
    have:∀(n:Nat) (hs:ae),hs.length=n->∀p∈aX hs,p.length<=hs.length:=by
     intro n
     induction n with
     |zero=>intro hs e p hp;rw[List.eq_nil_of_length_eq_zero e]at hp ⊢;rw[bi6.mp (show p∈[[]] from hp)];exact bh8 _
     |succ n ih=>
      intro hs e p hp
      rcases List.eq_nil_or_concat hs with z|⟨l,a,z⟩
      ·rw[z]at e;cases e
      ·have z:hs=l++[a]:=by rw[z];simp
       subst z
       have le:l.length=n:=by simpa using e
       rw[i8]at hp
       rw[bj6,bn2]
       rcases bl5.mp hp with z|z
       ·have:=ih l le p z;omega
       ·obtain⟨r,hr,rfl⟩:=bk5.mp z
        have:=ih l le r hr
        rw[bj6,bn2];omega
    exact this hs.length hs rfl
   intro p hp
   have:=gen _ p hp
   rw[bq2]at this
   omega
  have tk:S.take (i+1)=S.take i++[h]:=by rw[bm1,hi];rfl
  refine gE ?_
  refine⟨_,rfl,_,rfl,_,rfl,(λz=>by cases z),by rw[c6];omega,λj acc=>acc=tups (((aX (S.take i)).take j).map λp=>p++[h]),rfl,?_,?_⟩
  ·rintro j z acc hz rfl
   obtain⟨p,rfl,hj⟩:=mJ hz
   refine⟨_,rfl,_,rfl,by show 1<=1000;decide,rfl,_,_,rfl,rfl,cE _,rfl,?_,trivial,?_⟩
   ·have:=shr p (bj5 hj)
    rw[b8]
    show p.length+1<=16000000
    omega
   ·show tups _++[PV.tup (intz p++intz [h])]=tups (((aX (S.take i)).take (j+1)).map λp=>p++[h])
    rw[bm1,hj,<- gV]
    unfold tups
    rw[bk8,bk8]
    rfl
  ·rintro acc rfl
   rw[c6,bl0]
   refine⟨_,_,rfl,rfl,eN _,eN _,?_,trivial,some (.sh true (.int h)),?_⟩
   ·rw[c6,c6,bi1];omega
   ·rw[tk,i8]
    unfold tups
    rw[bk8];rfl
 ·rintro ρ ⟨y,rfl⟩
  rw[b8,bl0]
  exact⟨_,rfl,trivial,q⟩
abbrev fO (bs:List Bool):List PV:=bs.map PV.bl
def kW (bs:List Bool)(p:Nat)(S:ae):Bool:=S.any λh=>bs.getD (p-2^h.toNat) false
def mR:bA:=λxs Q=>∃(bs:List Bool) (p:Nat) (S:ae),xs = [.lst (fO bs),.int p,.tup (intz S)]/\S.length<=1000/\(∀h∈S,0<=h/\h<=12/\2^h.toNat<=p/\p-2^h.toNat<bs.length)/\Q (.bl (kW bs p S))
def aa0:aL:=(bI (aH xS (a7 (dL (dA (a5 2)) [none,some 0,some 1] (bB 0) gA (bT (a5 1) (r9 (a5 2) (rA (qC (.int 1)) (a5 0))))) aE)))
theorem aR7:cQ aa0 ["holds","place","some"] mR:=by
 rintro xs Q ⟨bs,p,S,rfl,hl,hb,q⟩
 refine⟨_,rfl,_,rfl,(λ_=>oN S),by rw[b8];omega,λi acc=>acc=fO ((S.take i).map λh=>bs.getD (p-2^h.toNat) false),rfl,?_,?_⟩
 ·rintro i z acc hz rfl
  obtain⟨h,rfl,hh⟩:=gD hz
  obtain⟨b1,b2,b3,b4⟩:=hb h (bj5 hh)
  have ix:L2.atI (fO bs) ((p:Int)-1*2^h.toNat)=some (.bl (bs.getD (p-2^h.toNat) false)):=by
   have e:((p:Int)-1*2^h.toNat)=((p-2^h.toNat:Nat):Int):=by
    rw[Int.ofNat_sub b3];simp
   rw[e]
   exact jW (by rw[bi7,bh9,bh5 b4];rfl)
  refine⟨_,rfl,_,rfl,_,rfl,_,_,rfl,rfl,⟨b1,by omega,by decide⟩,_,_,rfl,rfl,_,_,_,rfl,rfl,ix,rfl,?_⟩
  dsimp only
  rw[bm1,hh,bk8]
  show _=List.map PV.bl (_++_)
  rw[bk8];rfl
 ·rintro acc rfl
  rw[b8,bl0]
  refine⟨_,rfl,trivial,?_⟩
  have e:(S.map λh=>bs.getD (p-2^h.toNat) false).any id=kW bs p S:=by
   unfold kW;rw[List.any_map];rfl
  rw[e];exact q
def t7:eO:=λEp xs Q=>∃ws ls,xs = [bC ws ls]/\ws.length<=40/\(ws.length<=12->Q (.lst (tups (aX (rng ws.length)))))/\(12<ws.length->Ep "TooMany")
def aa1 (Ep:Str->Prop):aL:=(aO (cN (aU (kH (aH i6 (a7 (a5 0) aE)) (qC (.int 12)))) (sW Ep "TooMany" (a7 (qC (.str "webs of at most 12 hearths are searched through")) aE)) dG)
 (bI (aH t6 (a7 (V7 (aH i6 (a7 (a5 0) aE))) aE))))
theorem aR8:oV aa1 ["web"] t7:=by
 rintro Ep xs Q ⟨ws,ls,rfl,few,q,qe⟩
 refine⟨_,rfl,ws,ls,rfl,_,_,rfl,rfl,_,rfl,?_⟩
 by_cases h:(12:Int)<(ws.length:Int)
 ·dsimp only
  rw[bi9 h]
  exact cA ⟨by decide,qe (by omega)⟩
 ·dsimp only
  rw[bi2 h]
  refine bD ⟨_,rfl,ws,ls,rfl,_,rfl,by omega,by omega,?_⟩
  rw[W9]
  exact⟨_,rng ws.length,rfl,.inr rfl,by rw[mH];omega,trivial,q (by omega)⟩
def t8:eO:=λEp xs Q=>∃ws ls,xs = [bC ws ls,.lst (tups (aX (rng ws.length)))]/\Wb ws ls/\ws.length<=12/\∀bs:List Bool,bs.length=2^ws.length->(∀p S,(aX (rng ws.length))[p]? = some S->(bs.getD p false=true↔HC ws ls S))->Q (.lst (fO bs))
def aa2 (Ep:Str->Prop):aL:=(aO (fM 2 (fA (a7 (qC (.bl false)) aE)))
 (aO (dJ (qT (qC (.int 1)) (aH cF (a7 (a5 1) aE))) (bB 3)
  (kB 2 (vY (aH mR (a7 (a5 2) (a7 (a5 3) (a7 (bT (a5 1) (a5 3)) aE)))) (mL Ep t5 (a7 (a5 0) (a7 (bT (a5 1) (a5 3)) aE))))))
 (lW 2)))
theorem aa3 {ws:ae}{ls:aa}{bs:List Bool}{p:Nat}{S:ae}(at_:(aX (rng ws.length))[p]? = some S)(hb:∀q S,q<p->(aX (rng ws.length))[q]? = some S->(bs.getD q false=true↔HC ws ls S)) :
  kW bs p S=true↔∃h∈S,HC ws ls (S.filter λz=>!decide (z=h)):=by
 obtain⟨h1,h2,h3⟩:=mQ _ p S at_
 unfold kW
 rw[List.any_eq_true]
 refine⟨λ⟨h,hh,e⟩=>⟨h,hh,?_⟩,λ⟨h,hh,e⟩=>⟨h,hh,?_⟩⟩
 ·have:=Nat.pow_pos (n:=h.toNat) (show 0<2 by decide)
  exact (hb _ _ (by have:=(h3 h hh).1;omega) (h3 h hh).2).mp e
 ·have:=Nat.pow_pos (n:=h.toNat) (show 0<2 by decide)
  exact (hb _ _ (by have:=(h3 h hh).1;omega) (h3 h hh).2).mpr e
theorem aa4 {n:Nat}{bs:List Bool}{p:Nat}{S:ae}(hn:n<=12)(at_:(aX (rng n))[p]? = some S)(hb:p<=bs.length):S.length<=1000/\∀h∈S,0<=h/\h<=12/\2^h.toNat<=p/\p-2^h.toNat<bs.length:=by
 obtain⟨h1,h2,h3⟩:=mQ _ p S at_
 have sl:=((eQ n S).mp (bj5 at_)).length_le
 rw[mH]at sl
 refine⟨by omega,λh hh=>?_⟩
 have:=Nat.pow_pos (n:=h.toNat) (show 0<2 by decide)
 have a:=(h3 h hh).1
 have b:=h1 h hh
 exact⟨b.1,by omega,a,by omega⟩
theorem aR9:oV aa2 ["web","chosen","holds","place"] t8:=by
 rintro Ep xs Q ⟨ws,ls,rfl,wb,few,q⟩
 have ln:=kU ws.length
 have l0:0<2^ws.length:=Nat.pow_pos (by decide)
 have l12:2^ws.length<=4096:=bm0 (bt3 (by decide) few) (by decide)
 generalize hC:aX (rng ws.length)=C at ln q
 have cat:∀{p:Nat}{S:ae},C[p]? = some S->(aX (rng ws.length))[p]? = some S:=λ{p S} e=>by rw[hC];exact e
 have tac:∀{p:Nat}{S:ae},(aX (rng ws.length))[p]? = some S->C[p]? = some S:=λ{p S} e=>by rw[<- hC];exact e
 refine⟨by decide,rfl,rfl,rfl,?_⟩
 refine⟨_,rfl,_,_,rfl,rfl,1,(C.length:Int),rfl,by rw[c6],⟨by omega,by omega,by omega,by omega⟩,λi ρ=>∃(bs:List Bool) (y:Option Slot),ρ = [some (.sh (flat (bC ws ls)) (bC ws ls)),some (.sh (flat (.lst (tups C))) (.lst (tups C))),some (.own (.lst (fO bs))),y]/\bs.length=i+1/\∀p S,p<i+1->C[p]? = some S->(bs.getD p false=true↔HC ws ls S),⟨[false],none,rfl,rfl,λp S hp hS=>?_⟩,?_,?_⟩
 ·have e:p=0:=by omega
  subst e
  obtain⟨_,h2,_⟩:=mQ _ 0 S (cat hS)
  rw[h2.mp rfl]
  refine⟨λz=>(by cases z),λ⟨U,_,nU,sub⟩=>?_⟩
  cases hu:U with
  |nil=>exact absurd hu nU
  |cons u r=>
   have:=sub u (by rw[hu];exact bh7)
   cases this
 ·rintro i y ρ hy ⟨bs,y0,rfl,bl,hb⟩
  obtain⟨rfl,hi⟩:=iU hy
  have hp:i+1<C.length:=by omega
  obtain⟨S,hS⟩:∃S,C[i+1]? = some S:=⟨C[i+1],bh5 hp⟩
  have ix:L2.atI (tups C) (1+(i:Int))=some (.tup (intz S)):=by
   have:=jW (xs:=tups C) (j:=i+1) (by unfold tups;rw[bi7,hS];rfl)
   rwa [show (((i+1:Nat)):Int)=1+(i:Int) by omega]at this
  obtain⟨k1,k2⟩:=aa4 (bs:=bs) few (cat hS) (by omega)
  have sub:=(eQ _ S).mp (bj5 (cat hS))
  have sS:=jO.mp sub
  have ne:S≠[]:=λz=>by have:=(mQ _ _ S (cat hS)).2.1.mpr z;omega
  have hi2:=aa3 (bs:=bs) (cat hS) λp S hp e=>hb p S hp (tac e)
  have st:=Z7 (ws:=ws) (ls:=ls) S
  refine gE ?_
  have fin:∀v:Bool,(v=true↔HC ws ls S)->∃(bs':List Bool) (y:Option Slot),[some (.sh (flat (bC ws ls)) (bC ws ls)),some (.sh (flat (.lst (tups C))) (.lst (tups C))),some (.own (.lst (fO bs++[.bl v]))),si (1+(i:Int))] = [some (.sh (flat (bC ws ls)) (bC ws ls)),some (.sh (flat (.lst (tups C))) (.lst (tups C))),some (.own (.lst (fO bs'))),y]/\bs'.length=i+1+1/\∀p S,p<i+1+1->C[p]? = some S->(bs'.getD p false=true↔HC ws ls S):=λv hv=>by
   refine⟨bs++[v],si (1+(i:Int)),by rw[show fO (bs++[v])=fO bs++[.bl v] from bk8],by rw[bj6,bl];rfl,λp T hp hT=>?_⟩
   rcases bm7 p (i+1) with z|z
   ·rw[bh9,bn5 (by omega),<- bh9]
    exact hb p T z hT
   ·have e:p=i+1:=by omega
    subst e
    rw[hS]at hT
    cases hT
    rw[bh9,bq3 (by omega),bl,Nat.sub_self]
    exact hv
  refine⟨_,rfl,_,rfl,_,rfl,_,rfl,_,rfl,_,_,_,rfl,rfl,ix,bs,i+1,S,?_,k1,k2,_,rfl,?_⟩
  ·show [PV.lst (fO bs),PV.int (1+(i:Int)),PV.tup (intz S)] = [PV.lst (fO bs),PV.int (((i+1:Nat)):Int),PV.tup (intz S)]
   rw[show (((i+1:Nat)):Int)=1+(i:Int) by omega]
  have bl2:(fO bs).length<16000000:=by show (List.map PV.bl bs).length<_;rw[bi1];omega
  cases hw:kW bs (i+1) S with
  |true=>exact cA ⟨trivial,bl2,fin true ⟨λ_=>st.mpr (.inr (hi2.mp hw)),λ_=>rfl⟩⟩
  |false=>
   refine bD ⟨_,rfl,_,rfl,_,rfl,_,_,_,rfl,rfl,ix,ws,ls,_,S,rfl,wb,.inl rfl,k1,λ_=>⟨trivial,bl2,fin _ ?_⟩,λz=>by rw[sS]at z;cases z⟩
   rw[bk3]
   refine⟨λz=>st.mpr (.inl ⟨ne,z⟩),λz=>?_⟩
   rcases st.mp z with z|z
   ·exact z.2
   ·rw[hi2.mpr z]at hw;cases hw
 ·rintro ρ ⟨bs,y,rfl,bl,hb⟩
  rw[gP]at bl hb
  refine⟨_,rfl,trivial,q bs (by omega) λp S hS=>hb p S ?_ hS⟩
  have:=(bi3.mp hS).1
  omega
open Classical in
noncomputable def fP (ws:ae)(ls:aa)(S:ae):Bool:=decide (xV ws ls S)
theorem gX {ws:ae}{ls:aa}{S:ae}:fP ws ls S=true↔xV ws ls S:=by unfold fP;exact @decide_eq_true_iff _ (Classical.propDecidable _)
noncomputable def cJ (ws:ae)(ls:aa):ad:=(aX (rng ws.length)).filter (fP ws ls)
def aa5:eO:=λEp xs Q=>∃ws ls,xs = [bC ws ls]/\Wb ws ls/\(ws.length<=12->(cJ ws ls).length<64/\∀Z:ad,Z.Perm (cJ ws ls)->Z.Pairwise (λu v=>HT.aY v u=false)->Q (.lst (tups Z)))/\(12<ws.length->Ep "TooMany")
theorem t9 (n:Nat)(a:Int):(List.replicate n [PV.int a]).flatten=intz (List.replicate n a):=by
 induction n with
 |zero=>rfl
 |succ n ih=>rw[br4,br4,bt7,ih];rfl
section
variable {ws:ae}{ls:aa}
def cne (ws:ae)(ls:aa)(S:ae):Bool:=!decide (S = [])&&decide (stay ws ls S=S)
theorem aS0 {a b:ad}(h:a.Perm b)(ha:a.Pairwise λu v=>HT.aY v u=false)(hb:b.Pairwise λu v=>HT.aY v u=false):a=b:=
 h.eq_of_pairwise (λx y _ _ h1 h2=>vN h2 h1) ha hb
end
theorem xW {b:Bool}{A B:Prop}(a:A)(c:B):if b=true then A else B:=by
 cases b with
 |true=>exact cA a
 |false=>exact bD c
def far (ns S:ae):Bool:=decide (((S.filter λx=>decide (x∈ns)).length:Int)=0)
def aS1 (ls:aa)(S U:ae):Prop:=∀x∈U,∀y∈c7 ls x,y∈S->y∈U
noncomputable def aS2 (ls:aa)(S:ae)(h:Int):ae:=S.filter λx=>@decide (∀U:ae,aS1 ls S U->h∈U->x∈U) (Classical.propDecidable _)
section
variable {ws:ae}{ls:aa}{S:ae}{n:Nat}{h x:Int}
noncomputable def aS3 (ls:aa)(S:ae)(h:Int):Bool:=decide ((aS2 ls S h).head? = some h)
noncomputable def aS4 (ls:aa)(S:ae):ae:=S.filter (aS3 ls S)
end
end Core
namespace PP
open PySem L2
section
variable {X:Cx}{σ:St}{H:Hp}{D:cW}{te:aB}{e:Expr}{pos:Pos}
def aS5 (i:Nat)(tk:aB):aL:=λD ρ=>∃xs,ρ[i]? = some (some (.own (.lst xs)))/\tk ρ λn _=>∃m:Nat,n = .int m/\xs.length<=16000000/\m<xs.length/\D.nx (ρ.set i (some (.own (.lst (xs.eraseIdx m)))))
end
end PP
namespace Core
open PySem L2 PP
def aa6 (ws:ae)(ls:aa):ae->ae->Bool
 |_,[]=>true
 |B,h::R=>inB ws.length h&&(kin ws ls B h&&aa6 ws ls (B++[h]) R)
def sp6:aL:=(cN (aU (kH (a5 7) (qC (.int 5)))) (sY 4 (a5 6) (bT (fA (a7 (o6 (qC (.int 1))) (a7 (a5 2) (a7 (r9 (o6 (qC (.int 1))) (a5 5)) (a7 (dU (a5 2) (a5 5)) aE))))) (dM (iP (a5 3) (qC (.int 97))) (qC (.int 4))))) dG)
def sp5:aL:=(cN (jF (aU (fD (a5 7) (qC (.int 5)))) (aU (kH (a5 2) (qC (.int 0))))) (sY 4 (a5 6) (dM (iP (a5 3) (qC (.int 97))) (a5 2))) sp6)
def sp4:aL:=(cN (jF (aU (fD (a5 7) (qC (.int 4)))) (aU (kH (aH cF (a7 (a5 1) aE)) (qC (.int 0))))) (sY 4 (a5 6) (bT (a5 1) (dM (iP (a5 3) (qC (.int 97))) (aH cF (a7 (a5 1) aE))))) sp5)
def sp3:aL:=(cN (jF (aU (fD (a5 7) (qC (.int 3)))) (aU (kH (aH cF (a7 (a5 4) aE)) (qC (.int 0))))) (sY 4 (a5 6) (bT (a5 4) (dM (iP (a5 3) (qC (.int 97))) (aH cF (a7 (a5 4) aE))))) sp4)
def xX:aL:=(cN (jF (aU (fD (a5 7) (qC (.int 2)))) (aU (kH (aH cF (a7 (a5 4) aE)) (qC (.int 0))))) (aS5 4 (dM (a5 6) (aH cF (a7 (a5 4) aE)))) sp3)
end Core
namespace Raw
open PySem PySem.W PySem.Calls PyProof.Rows
theorem xY {xs:List Nat}(a:xs.Pairwise (·<·)){i k:Nat}(hk:k<xs.length)(h:i<=k):xs.getD i 0<=xs.getD k 0:=by
 rcases bm7 i k with z|z
 ·have:=bl7.mp a i k (by omega) hk z
  rw[bh9,bh9,bh5 (by omega),bh5 hk]
  exact br6 this
 ·rw[Nat.le_antisymm h z];exact bh8 _
theorem aS6 {xs:Array Nat}{i j:Nat}(h:i<xs.size):xs.getD i j=xs.toList.getD i 0:=by
 rw[bh9,bp7,bt4,Array.getElem?_eq_getElem h];rfl
theorem xZ {xs:Array Nat}{j:Nat}(a:xs.toList.Pairwise (·<·)):∀(fuel lo hi:Nat),lo<=hi->hi<=xs.size->hi-lo<=fuel->(∀i,i<lo->xs.toList.getD i 0<j)->(∀i,hi<=i->i<xs.size->j<=xs.toList.getD i 0)->
  SetTable.below.go xs j fuel lo hi<=xs.size/\(∀i,i<SetTable.below.go xs j fuel lo hi->xs.toList.getD i 0<j)/\∀i,SetTable.below.go xs j fuel lo hi<=i->i<xs.size->j<=xs.toList.getD i 0
 |0,lo,hi,h1,h2,h3,h4,h5=>by
  have e:lo=hi:=by omega
  subst e
  exact⟨h2,h4,h5⟩
 |fuel+1,lo,hi,h1,h2,h3,h4,h5=>by
  have sz:xs.toList.length=xs.size:=bn6
  unfold SetTable.below.go
  by_cases lt:lo<hi
  ·rw[if_pos lt]
   dsimp only
   have m1:lo<=(lo+hi)/2:=by omega
   have m2:(lo+hi)/2<hi:=by omega
   rw[aS6 (by omega)]
   by_cases c:xs.toList.getD ((lo+hi)/2) 0<j
   ·rw[if_pos c]
    exact xZ a fuel _ _ (by omega) h2 (by omega) (λi hi'=>Nat.lt_of_le_of_lt (xY a (by omega) (by omega)) c) h5
   ·rw[if_neg c]
    exact xZ a fuel _ _ (by omega) (by omega) (by omega) h4 λi h6 h7=>bm0 (Nat.le_of_not_lt c) (xY a (by omega) h6)
  ·rw[if_neg lt]
   have e:lo=hi:=by omega
   subst e
   exact⟨h2,h4,h5⟩
theorem aS7 {xs:Array Nat}{j:Nat}(a:xs.toList.Pairwise (·<·)):SetTable.below xs j<=xs.size/\(∀i,i<SetTable.below xs j->xs.toList.getD i 0<j)/\∀i,SetTable.below xs j<=i->i<xs.size->j<=xs.toList.getD i 0:=
 xZ a xs.size 0 xs.size (bl4 _) (bh8 _) (by omega) (λi h=>absurd h (Nat.not_lt_zero _)) λi h1 h2=>absurd h2 (by omega)
theorem aS8 {α:Type}(xs:Array α)(p:Nat)(x:α):(SetTable.insertAt xs p x).toList=xs.toList.take p++x::xs.toList.drop p:=by
 unfold SetTable.insertAt
 simp
 exact br0 (by simp)
theorem aS9 {xs:Array Nat}{j:Nat}(a:xs.toList.Pairwise (·<·))(ne:xs[SetTable.below xs j]?≠some j):(SetTable.insertAt xs (SetTable.below xs j) j).toList.Pairwise (·<·):=by
 obtain⟨b1,b2,b3⟩:=aS7 (j:=j) a
 have sz:xs.toList.length=xs.size:=bn6
 rw[aS8]
 refine bn0.mpr ⟨a.sublist (List.take_sublist _ _),br1.mpr ⟨λx hx=>?_,a.sublist (List.drop_sublist _ _)⟩,λx hx y hy=>?_⟩
 ·obtain⟨i,hi,e⟩:=bs7 hx
  rw[bs5]at hi
  rw[List.getElem_drop]at e
  have h1:=b3 (SetTable.below xs j) (bh8 _) (by omega)
  have h2:=xY a (i:=SetTable.below xs j) (k:=SetTable.below xs j+i) (by omega) (by omega)
  have h3:xs.toList.getD (SetTable.below xs j+i) 0=x:=by rw[bh9,bh5 (by omega),e];rfl
  rcases bm7 j x with z|z
  ·exact z
  ·exfalso
   have h4:xs.toList.getD (SetTable.below xs j) 0=j:=by omega
   rw[bh9,bh5 (by omega)]at h4
   refine ne ?_
   rw[<- bp7,bh5 (by omega)]
   exact congrArg some h4
 ·have hx':x<j:=by
   obtain⟨i,hi,e⟩:=bs7 hx
   rw[bq2]at hi
   rw[List.getElem_take]at e
   have:=b2 i (by omega)
   rw[bh9,bh5 (by omega),e]at this
   exact this
  rcases bi4.mp hy with e|hy
  ·rw[e];exact hx'
  ·obtain⟨i,hi,e⟩:=bs7 hy
   rw[bs5]at hi
   rw[List.getElem_drop]at e
   have:=b3 (SetTable.below xs j+i) (by omega) (by omega)
   rw[bh9,bh5 (by omega),e]at this
   exact bj1 hx' this
structure gY (b:Bool)(t:SetTable):Prop where
 asc:t.place.toList.Pairwise (·<·)
 dm:t.dummies = #[]
 led:t.led=b
theorem aa7 (j:Nat):SetTable.has #[] j=false:=by
 unfold SetTable.has
 simp
theorem aa8 {t:SetTable}(dm:t.dummies = #[]){h:Int}{j:Nat}{d:Option Nat}:∀(fuel:Nat) (p:SetTable.Probe),p.dummy=none->SetTable.probe.go t (λ_=>h+1) h fuel p=some (.empty j d)->d=none/\t.slot j = .empty
 |0,p,_,e=>by cases e
 |fuel+1,p,hp,e=>by
  unfold SetTable.probe.go at e
  have adv:∀p:SetTable.Probe,p.dummy=none->(t.advance p).dummy=none:=λp hp=>by
   unfold SetTable.advance
   split<;>exact hp
  cases hs:t.slot p.j with
  |empty=>
   rw[hs]at e
   cases e
   exact⟨hp,hs⟩
  |dummy=>
   exfalso
   unfold SetTable.slot at hs
   dsimp only at hs
   rw[dm,aa7]at hs
   split at hs<;>cases hs
  |live i=>
   rw[hs]at e
   dsimp only at e
   rw[if_neg (by simp;omega)]at e
   exact aa8 dm fuel _ (adv p hp) e
theorem aT0 {t:SetTable}(dm:t.dummies = #[]){h:Int}{sl:Nat}{d:Bool}(e:t.freeSlot h=some (sl,d)):t.slot sl = .empty:=by
 unfold SetTable.freeSlot at e
 split at e
 ·rename_i j dummy hm
  obtain⟨e1,e2⟩:=aa8 dm _ _ rfl hm
  subst e1
  cases e
  exact e2
 ·cases e
theorem tD {b:Bool}{t:SetTable}(h:gY b t)(n:Nat):gY b (t.standIn n):=⟨by
 show (Array.range n).toList.Pairwise (·<·)
 rw[Array.toList_range];exact bv9,rfl,h.led⟩
theorem aT1 {b:Bool}{t:SetTable}(h:gY b t){j:Nat}(hs:t.slot j = .empty):gY b (t.put j).1:=by
 refine⟨?_,?_,h.led⟩
 ·refine aS9 h.asc λe=>?_
  unfold SetTable.slot at hs
  dsimp only at hs
  rw[if_pos (by rw[e];exact bq4 _)]at hs
  cases hs
 ·show (if SetTable.has t.dummies j then SetTable.eraseAt t.dummies (SetTable.below t.dummies j) else t.dummies) = #[]
  rw[h.dm,aa7];rfl
theorem aT2 {b:Bool}{t:SetTable}(h:gY b t)(es:Array (Int×Value))(k:Int)(x:Value):gY b (layNew t es k x).2.1:=by
 unfold layNew
 split
 ·rename_i sl wd e
  have p:=aT1 h (aT0 h.dm e)
  show gY b (SetTable.orStandIn _ _)
  unfold SetTable.orStandIn
  split
  ·exact p
  ·exact tD p _
 ·exact tD h _
theorem aT3 {b:Bool}{t:SetTable}(h:gY b t)(es:Array (Int×Value))(n:Nat):gY b (relayAll t es n).2.1:=by
 unfold relayAll
 split
 ·rename_i t' order e
  dsimp only
  split
  ·show gY b t'
   unfold SetTable.relaid SetTable.laid at e
   cases hc:SetTable.layClean (SetTable.sizeAbove n-1) (es.map (·.1)) with
   |none=>rw[hc]at e;cases e
   |some owner=>
    rw[hc]at e
    cases e
    refine⟨?_,rfl,h.led⟩
    show (List.map _ _).Pairwise (·<·)
    refine bp3.mpr (List.Pairwise.filterMap _ (R:=(·<·)) ?_ bv9)
    intro i i' hlt x hx y hy
    cases ho:owner.getD i none with
    |none=>rw[ho]at hx;cases hx
    |some v=>
     rw[ho]at hx
     cases ho2:owner.getD i' none with
     |none=>rw[ho2]at hy;cases hy
     |some v2=>
      rw[ho2]at hy
      cases hx;cases hy
      exact hlt
  ·exact tD h _
 ·exact tD h _
theorem aa9 {us vs:List Value}(p:us.Perm vs):∀{ns:ae},IntsAre vs ns->∃ms,IntsAre us ms/\ms.Perm ns:=by
 induction p with
 |nil=>intro ns h;exact⟨ns,h,List.Perm.refl _⟩
 |cons x _ ih=>
  intro ns h
  cases h with
  |cons n t r=>
   obtain⟨ms,h1,h2⟩:=ih r
   exact⟨n::ms,.cons n t h1,h2.cons n⟩
 |swap x y l=>
  intro ns h
  cases h with
  |cons n t r=>
   cases r with
   |cons n' t' r=>
    exact⟨n'::n::_,.cons n' t' (.cons n t r),List.Perm.swap _ _ _⟩
 |trans _ _ ih1 ih2=>
  intro ns h
  obtain⟨ms,h1,h2⟩:=ih2 h
  obtain⟨ms',h3,h4⟩:=ih1 h1
  exact⟨ms',h3,h4.trans h2⟩
theorem ab0:∀{us:List Value}{ns:ae},IntsAre us ns->∀(k:Int) (t:Nat),IntsAre (us++[.int k t]) (ns++[k])
 |_,_,.nil,k,t=>.cons k t .nil
 |_,_,.cons n u r,k,t=>.cons n u (ab0 r k t)
theorem tE:∀{us:List Value}{ns:ae},IntsAre us ns->∀k:Int,k∈ns↔∃t,Value.int k t∈us
 |_,_,.nil,k=>⟨(λh=>nomatch h),(λ⟨_,h⟩=>nomatch h)⟩
 |_,_,.cons n u r,k=>by
  constructor
  ·intro h
   rcases bi4.mp h with e|h
   ·exact⟨u,by rw[e];exact bh7⟩
   ·obtain⟨t,ht⟩:=(tE r k).mp h
    exact⟨t,bi5 _ ht⟩
  ·rintro⟨t,h⟩
   rcases bi4.mp h with e|h
   ·cases e;exact bh7
   ·exact bi5 _ ((tE r k).mpr ⟨t,h⟩)
abbrev oW (es:Array (Int×Value))(ep:Nat)(t:SetTable):Obj:={ cls:=.type "set",dict:=none,data:=.set es ep t,slots:=#[] }
section
variable {prog:Program}{w:World}{A:Around}{E:Value→Shared→Prop}{s:Shared}
def aT4 (prog:Program)(w:World)(es:Array (Int×Value))(t:SetTable)(ms:ae):Prop:=ElemsOf (intKind prog w) es.toList/\IntsAre (es.toList.map (·.2)) ms/\es.size<scanBound/\t.fits es.size=true/\gY (!w.params.followText "set-order") t
def ab1 (prog:Program)(w:World)(h:Heap)(a:Addr)(ms:ae):Prop:=∃es ep t,h.get? a=some (oW es ep t)/\aT4 prog w es t ms
theorem ab3 {h:Heap}{a:Addr}{es es':Array (Int×Value)}{ep:Nat}{t t':SetTable}(ho:h.get? a=some (oW es ep t)):(h.update a (Obj.putSet es' t')).get? a=some (oW es' (ep+1) t'):=by
 have:=Heap.get?_update_self (Obj.putSet es' t') ho (by rw[putSet_of es' t' (rfl:(oW es ep t).data=_)];rfl)
 rw[putSet_of es' t' (rfl:(oW es ep t).data=_)]at this
 exact this
theorem add_int {a:Addr}{ms:ae}{k:Int}{u:Nat}{Q:Bool->Shared->Prop}(hS:ab1 prog w s.heap a ms)(room:ms.length+1<scanBound)(h:∀b h' ms',Heap.SameBut a s.heap h'->ab1 prog w h' a ms'->(k∈ms->ms'.Perm ms)->(k∉ms->ms'.Perm (ms++[k]))->Q b { s with heap:=h' }) :
  wpAny (model prog w) A (setAddHashed a (.int k u) ((intKind prog w).hash k)) Q E s:=by
 obtain⟨es,ep,t,ho,hel,hi,hb,hf,tk⟩:=hS
 have key:(intKind prog w).is k (.int k u)=true:=intKind_is _ _ _ _
 have ln:ms.length=es.size:=by
  have:=IntsAre.length hi
  rw[bi1,bn6]at this
  exact this.symm
 have isk:∀v,(intKind prog w).is k v=true->∃u,v = .int k u:=λv hv=>Value.isInt_shape hv
 unfold setAddHashed setAddHashedIn
 refine br3 (bh3 (wpAny_setState_of ho rfl hf ?_))
 dsimp only
 rw[byScan_of (knd:=intKind prog w) (x:=.int k u) rfl hb hel,if_pos rfl]
 unfold setAddByScan
 refine bh3 (bh3 (bv5 ?_))
 refine bh3 (wpAny_setScan_of key ho rfl hf hel ?_)
 cases hr:List.findIdx? (λe=>(intKind prog w).is k e.2) es.toList with
 |some j=>
  dsimp only
  obtain⟨hj,hp,_⟩:=List.findIdx?_eq_some_iff_getElem.mp hr
  have km:k∈ms:=by
   obtain⟨u',e⟩:=isk _ hp
   exact (tE hi k).mpr ⟨u',by rw[<- e];exact bk5.mpr ⟨_,bq5 hj,rfl⟩⟩
  have e:s={ s with heap:=s.heap }:=by cases s;rfl
  rw[e]
  exact bi0 (bi0 (h _ s.heap ms (Heap.SameBut.refl a s.heap) ⟨es,ep,t,ho,hel,hi,hb,hf,tk⟩ (λ_=>List.Perm.refl _) λn=>absurd km n))
 |none=>
  dsimp only
  have km:k∉ms:=λz=>by
   obtain⟨u',hm⟩:=(tE hi k).mp z
   obtain⟨e,he,e2⟩:=bk5.mp hm
   have:=List.findIdx?_eq_none_iff.mp hr e he
   rw[e2,intKind_is _ _ _ _]at this;cases this
  have lp:=layNew_perm t es ((intKind prog w).hash k) (.int k u)
  have lf:=layNew_fits t es ((intKind prog w).hash k) (.int k u)
  have lk:=aT2 tk es ((intKind prog w).hash k) (.int k u)
  generalize hL:layNew t es ((intKind prog w).hash k) (.int k u)=L at lp lf lk ⊢
  obtain⟨es1,t1,wd,gave⟩:=L
  dsimp only at lp lf lk ⊢
  rw[Array.toList_push]at lp
  have el1:ElemsOf (intKind prog w) es1.toList:=(hel.push key rfl).perm lp
  have sz1:es1.size=es.size+1:=by rw[<- bn6,lp.length_eq,bj6,bn6];rfl
  obtain⟨ms1,i1,p1⟩:∃ms1,IntsAre (es1.toList.map (·.2)) ms1/\ms1.Perm (ms++[k]):=aa9 (lp.map (·.2)) (by rw[bk8];exact ab0 hi k u)
  have hb1:es1.size<scanBound:=by omega
  have gw:∀(b:Bool) (s₁:Shared) (Q':Unit->Shared->Prop),Q' () s₁->wpAny (model prog w) A (match b with|true=>rule "set.scan.the-table-gave-way" |false=>pure ()) Q' E s₁:=λb s₁ Q' hq=>by
   cases b
   ·exact bi0 hq
   ·exact bv5 hq
  refine bh3 (gw _ _ _ ?_)
  split<;>(
   show wpAny _ _ (storeSet a es1 t1 >>= _) _ _ _
   simp only[↓reduceIte]
   refine bh3 (wpAny_storeSet_of ho rfl ?_ (fits_of_scanBound hb1))
   have ho1:=ab3 (es':=es1) (t':=t1) ho
   have sb1:=bv6 s.heap a (Obj.putSet es1 t1)
   split
   ·have rp:=relayAll_perm t1 es1 (SetTable.grown es1.size)
    have rf:=relayAll_fits t1 es1 (SetTable.grown es1.size)
    have rk:=aT3 lk es1 (SetTable.grown es1.size)
    generalize relayAll t1 es1 (SetTable.grown es1.size)=L at rp rf rk ⊢
    obtain⟨es2,t2,gave2⟩:=L
    dsimp only at rp rf rk ⊢
    have sz2:es2.size=es1.size:=by rw[<- bn6,rp.length_eq,bn6]
    obtain⟨ms2,i2,p2⟩:=aa9 (rp.map (·.2)) i1
    refine bh3 (gw _ _ _ ?_)
    refine bh3 (wpAny_storeSet_of ho1 rfl ?_ (fits_of_scanBound (by omega)))
    exact bi0 (bi0 (h _ _ ms2 (sb1.trans (bv6 _ a _)) ⟨es2,_,t2,ab3 ho1,el1.perm rp,i2,by omega,rf,rk⟩ (λz=>absurd z km) λ_=>p2.trans p1))
   ·exact bi0 (bi0 (h _ _ ms1 sb1 ⟨es1,_,t1,ho1,el1,i1,hb1,lf,lk⟩ (λz=>absurd z km) λ_=>p1)))
end
section
variable {prog:Program}{w:World}{A:Around}{E:Value→Shared→Prop}{s:Shared}{r:Addr}{b:Int}{t u v:Tok}{n:Nat}
theorem aT5 {R:Result->Shared->Prop}(hh:A.handled=none)(hr:IsRange s.heap r 0 b 1 t u v)(sm:Builtin.Range.small 0 b 1=true)(hn:Builtin.Range.rangeSize 0 b 1=n)(hl:n<=2^24)(hR:∀h' tk acc c,(∀b o,b≠s.heap.objs.size->(s.heap.push { cls:=.type "list",data:=.seq ([]:List Value).toArray }).get? b=some o->h'.get? b=some o)->h'.get? s.heap.objs.size=some { cls:=.type "list",dict:=none,data:=.seq acc c,slots:=#[] }->ItemsOf (λi v=>∃t,v = .int (0+i*1) t) acc n->R (.ok (.ret (.ref s.heap.objs.size))) { s with heap:=h',toks:=tk }) :
  codeAny (model prog w) A (.builtin "proto.collect" ⟨[.ref r],[]⟩) R s:=by
 refine codeAny_builtin PySem.F.entry_proto_collect ?_
 rw[Around.under_plainId PySem.F.plain_proto_collect _]
 show wpAny _ A.in1 (newList [] >>= λl=>again (.builtin "list.__iadd__" ⟨[l,.ref r],[]⟩)) _ _ s
 refine bh3 (bp1 ?_)
 refine bi0 ⟨plainId_quiet PySem.F.plain_list_iadd _,codeAny_builtin PySem.F.entry_list_iadd ?_⟩
 rw[Around.under_plainId PySem.F.plain_list_iadd _]
 show wpAny _ A.in1 (Builtin.List.listExtendWith (.ref s.heap.objs.size) (.ref r) (.ref s.heap.objs.size)) _ _ _
 exact wpAny_extend_range (s:={ s with heap:=s.heap.push { cls:=.type "list",data:=.seq ([]:List Value).toArray } }) (R:=R) hh (bh4 _ hr) sm hn hl s.heap.objs.size _ 0 (bj2 _ rfl) hR
theorem aT6 {Q:List Value->Shared->Prop}(hh:A.handled=none)(hr:IsRange s.heap r 0 b 1 t u v)(sm:Builtin.Range.small 0 b 1=true)(hn:Builtin.Range.rangeSize 0 b 1=n)(hl:n<=2^24)(hQ:∀h' tk acc,(∀b o,s.heap.get? b=some o->h'.get? b=some o)->ItemsOf (λi v=>∃t,v = .int (0+i*1) t) acc n->Q acc.toList { s with heap:=h',toks:=tk }):wpAny (model prog w) A (collect (.ref r)) Q E s:=by
 unfold collect
 refine bh3 (wpAny_runValue (aT5 (s:=s) hh hr sm hn hl λh' tk acc c kp at1 it=>?_))
 show wpAny _ A (load s.heap.objs.size >>= _) _ _ _
 refine bh3 (wpAny_load at1 ?_)
 exact bi0 (hQ h' tk acc (λb o e=>kp b o (bl3 (bj0 e)) (bh4 _ e)) it)
theorem aT7 (r:Addr)(b:Int)(t u v:Tok)(n:Nat)(sm:Builtin.Range.small 0 b 1=true)(hn:Builtin.Range.rangeSize 0 b 1=n)(hl:n<=2^24) :
  Meets (Builtin.«tuple.__new__» ⟨[.type "tuple",.ref r],[]⟩) (λA R s=>A.handled=none/\IsRange s.heap r 0 b 1 t u v/\∀(h':Heap) tk (acc:Array Value),(∀b o',s.heap.get? b=some o'->h'.get? b=some o')->ItemsOf (λi v=>∃t,v = .int (0+i*1) t) acc n->R (.ok (.ret (.ref h'.objs.size))) { s with heap:=h'.push { cls:=.type "tuple",data:=.seq acc },toks:=tk }):=
 .of_wp λprog w A R s h=>by
  obtain⟨hp,g,d,tk,os⟩:=s
  obtain⟨hh,ht,h⟩:=h
  have hsub:=sub_tuple_self
  have hinit:=init_tuple_lookup
  have hmh:=madeHere_tuple
  have hT:Shared.TypeIs ⟨hp,g,d,tk,os⟩ (.ref r) "range":=⟨_,ht,rfl⟩
  unfold Builtin.«tuple.__new__»
  generalize pi:collect=CC
  wp_walk using wpAny_loadPart' ht,wpAny_typeOf hT
  subst pi
  refine aT6 (s:=⟨hp,g,d,tk,os⟩) hh ht sm hn hl λh' tk' acc kp it=>?_
  refine bh3 (bi0 ?_)
  show wpAny _ _ (Builtin.Tuple.tupleExact acc.toList.toArray >>= λv=>ret v) _ _ _
  unfold Builtin.Tuple.tupleExact
  refine bh3 (bp1 ?_ (by show acc.toList.toArray.size<=sizeLine;rw[bh6,bn6,it.1,sizeLine_eq];omega))
  refine bi0 ⟨_,rfl,?_⟩
  have e:acc.toList.toArray=acc:=by simp
  rw[e]
  exact h h' tk' acc kp it
theorem aT8 {Q:Value->Shared->Prop}(hh:A.handled=none)(hr:IsRange s.heap r 0 b 1 t u v)(sm:Builtin.Range.small 0 b 1=true)(hn:Builtin.Range.rangeSize 0 b 1=n)(hl:n<=2^24)(h:∀(h':Heap) tk (acc:Array Value),(∀b o',s.heap.get? b=some o'->h'.get? b=some o')->ItemsOf (λi v=>∃t,v = .int (0+i*1) t) acc n->Q (.ref h'.objs.size) { s with heap:=h'.push { cls:=.type "tuple",data:=.seq acc },toks:=tk }) :
  wpAny (model prog w) A (call (.type "tuple") [.ref r]) Q E s:=
 callType_new F.called_tuple (by decide) (F.typeCall_tuple_1 _) (F.newCall_tuple_1 _) (λobj=>F.args_object_init_2 obj _) F.entry_tuple_new (aT7 r b t u v n sm hn hl) ⟨by simp[hh],hr,λh' tk acc hk it=>⟨⟨_,bj2 _ rfl,rfl⟩,h h' tk acc hk it⟩⟩
end
end Raw
namespace PP
open PySem L2
section
variable {X:Cx}{a b:Expr}{ta tb:aB}{pos pos2 p2 p3:Pos}
abbrev aT9 (ta tb:aB):aB:=q2 (cZ λi j=>.int (Builtin.bitAnd i j)) ta tb
theorem aU0 (ha:QE X a ta)(hb:QE X b tb):QE X (.BinOp a .BitAnd b pos) (q2 (cZ λi j=>.int (Builtin.bitAnd i j)) ta tb):=gB an2 qL ha hb
theorem aU1 (hc:X.calm=true):cH X (.type "tuple") (λxs H Q=>∃r j,xs = [.ref r]/\H r=some (.rng 0 j)/\0<=j/\j<=1000000/\∀l,H l=none->Q (.ref l) (upd H l (.tup (fZ 0 j.toNat)))):=by
 intro pins s σ H xs us Q I r h
 obtain⟨p,j,rfl,hq,h0,h1,q⟩:=h
 obtain⟨u,rfl,rx⟩:=fV r
 cases rx
 obtain⟨t,u,v,ho⟩:=(show b7 X.prog X.w H s.heap p (.rng 0 j) from I.hok p _ hq)
 refine Raw.aT8 (b:=j) (n:=j.toNat) (I.ok.hd hc) ho (small_one (by decide) (by decide) (by omega) (by omega)) (by rw[rangeSize_one];split<;>omega) (by omega) λh' tk acc kp it=>?_
 have vv:=W5 it
 have eq:acc.toList.toArray=acc:=by simp
 have I1:a6 X pins σ H { s with heap:=h',toks:=tk }:=I.kept (t':=tk) kp
 have I2:a6 X pins σ (upd H h'.objs.size (.tup (fZ 0 j.toNat))) { s with heap:=h'.push { cls:=.type "tuple",data:=.seq acc.toList.toArray },toks:=tk }:=
  I1.laid (t':=tk) (λb o e=>bh4 _ e) (bh8 _) (show b7 X.prog X.w _ _ _ (.tup _) from ⟨by rw[pX];exact lim (by omega),acc.toList,vv,PyProof.Rows.IsTup.new _ _,gF.new _ _ rfl⟩)
 rw[eq]at I2
 exact⟨.ref h'.objs.size,_,I2,rfl,q _ (I1.hok.fresh (bh8 _))⟩
def ab4 (te:aB):aB:=λρ Q=>te ρ λx _=>∃n:Int,x = .int n/\0<=n/\n<=1000000/\Q (.tup (cI 0 n.toNat)) .fr
theorem aU2 (B:Bt X.mg)(ha:QE X a ta)(hc:X.calm=true:=by rfl)(hg:Gl X "tuple":=by rfl)(hgr:Gl X "range":=by rfl)(hs:starEach [a] X.env = [(false,eval a X.env)]:=by rfl)(he:starEach [.Call (.Name "range" p3) [a] [] pos2] X.env=(false,eval (.Call (.Name "range" p3) [a] [] pos2) X.env)::starEach [] X.env:=by rfl)(hpl:(backTo pos (starEach [] X.env)).any (·.1)=false:=by rfl) :
  QE X (.Call (.Name "tuple" p2) [.Call (.Name "range" p3) [a] [] pos2] [] pos) (ab4 ta):=
 bU (uN (aU1 hc) hg B.tuple PyProof.Rows.boot_tuple (c9 (W0 hgr B.range (c9 ha cS hs) hs) cS he) (he:=he) (hpl:=hpl)) λσ H Q' h=>by
  obtain⟨W,ρ,Q,px,q,k⟩:=h
  refine⟨W,ρ,_,px,q,?_⟩
  rintro v H1 x g s r ⟨n,rfl,h0,h1,q⟩
  cases r
  refine⟨n,rfl,λr hr=>⟨r,n,rfl,aQ,h0,h1,λl hl=>?_⟩⟩
  have S:aA H (upd (upd H1 r (.rng 0 n)) l (.tup (fZ 0 n.toNat))):=(s.trans (aW hr _)).trans (aW hl _)
  exact k _ _ _ .fr S (.tup aQ (W6 0 n.toNat)) q
end
end PP
namespace Core
open PySem L2 PP
def oX:bA:=λxs Q=>∃a k:Int,xs = [.int a,.int k]/\0<=k/\k<=1000/\∀z,0<=z->Q (.int z)
def ab5:aL:=(aO (bH 2 (dM (dU (dU (dU (dM (a5 0) (qC (.int 2147483647))) (o8 (o8 (qC (.int 69621)) (a5 1)) (a5 1))) (o8 (qC (.int 40692)) (a5 1))) (qC (.int 1))) (qC (.int 2147483647))))
 (aO (bH 2 (dM (o8 (a5 2) (qC (.int 48271))) (qC (.int 2147483647))))
 (bI (dM (o8 (a5 2) (a5 2)) (qC (.int 2147483647))))))
theorem aU3:cQ ab5 ["number","k","turn"] oX:=by
 rintro xs Q ⟨a,k,rfl,k0,k1,q⟩
 have big:(0:Int)<2147483647:=by decide
 refine⟨_,rfl,_,_,rfl,rfl,big,_,rfl,_,_,rfl,rfl,.inl ⟨by decide,by decide⟩,_,rfl,_,_,rfl,rfl,.inr ⟨by show -(2^64)<k;omega,by show k<2^64;omega⟩,_,_,rfl,rfl,_,rfl,_,_,rfl,rfl,.inl ⟨by decide,by decide⟩,_,_,rfl,rfl,_,_,rfl,rfl,_,_,rfl,rfl,big,trivial,?_⟩
 refine⟨_,rfl,_,_,rfl,rfl,.inr ⟨by decide,by decide⟩,_,_,rfl,rfl,big,trivial,?_⟩
 dsimp only
 have t0:0<=(a%2147483647+69621*k*k+40692*k+1)%2147483647*48271%2147483647:=Int.emod_nonneg _ (by decide)
 have t1:(a%2147483647+69621*k*k+40692*k+1)%2147483647*48271%2147483647<2147483647:=Int.emod_lt_of_pos _ (by decide)
 generalize (a%2147483647+69621*k*k+40692*k+1)%2147483647*48271%2147483647=t at t0 t1
 exact⟨_,rfl,_,rfl,_,_,rfl,rfl,.inl ⟨by show -(2^64)<t;omega,by show t<2^64;omega⟩,_,_,rfl,rfl,big,trivial,q _ (Int.emod_nonneg _ (by decide))⟩
def tF:bA:=λxs Q=>∃(ns:ae) (most:Int),xs = [.scr ns,.int most]/\0<=most/\∀z,0<=z->z<=most->Q (.int z)
def ab6:aL:=(aO (bH 2 (aH jM (a7 (a5 0) (a7 (qC (.int 0)) aE))))
 (aO (cN (aU (fD (dM (a5 2) (qC (.int 3))) (qC (.int 0)))) (bI (aH qR (a7 (a5 1) (a7 (aH qS (a7 (qC (.int 0)) (a7 (r9 (aH cF (a7 (a5 0) aE)) (qC (.int 4))) aE))) aE)))) dG)
 (aO (cN (aU (fD (dM (a5 2) (qC (.int 8))) (qC (.int 1)))) (bI (dM (dU (iP (a5 2) (qC (.int 24))) (qC (.int 5))) (dU (a5 1) (qC (.int 1))))) dG)
 (bI (dM (dU (iP (a5 2) (qC (.int 3))) (qC (.int 2))) (dU (aH qR (a7 (qC (.int 6)) (a7 (a5 1) aE))) (qC (.int 1))))))))
theorem aU4:cQ ab6 ["script","most","number"] tF:=by
 rintro xs Q ⟨ns,most,rfl,hm,q⟩
 refine⟨_,rfl,_,ns,0,rfl,.inl rfl,by decide,trivial,?_⟩
 generalize ns.getD (0:Int).toNat 0=c
 refine⟨_,rfl,_,_,rfl,rfl,(by show (0:Int)<3;decide),.inl ⟨_,_,rfl,rfl,_,rfl,xW ?_ ?_⟩⟩
 ·refine⟨_,rfl,_,rfl,_,_,rfl,rfl,_,_,rfl,rfl,_,_,rfl,_,_,rfl,trivial,q _ ?_ ?_⟩<;>split<;>split<;>omega
 refine⟨_,rfl,_,_,rfl,rfl,(by show (0:Int)<8;decide),.inl ⟨_,_,rfl,rfl,_,rfl,xW ?_ ?_⟩⟩
 ·have hp:0<most+1:=by omega
  refine⟨_,rfl,_,_,rfl,rfl,⟨by decide,by decide⟩,_,_,rfl,rfl,_,rfl,_,_,rfl,rfl,_,_,rfl,rfl,hp,trivial,q _ (Int.emod_nonneg _ (by omega)) ?_⟩
  have:=Int.emod_lt_of_pos (c/24+5) hp
  omega
 ·have hp:0<(if most<6 then most else 6)+1:=by split<;>omega
  refine⟨_,rfl,_,_,rfl,rfl,⟨by decide,by decide⟩,_,_,rfl,rfl,_,rfl,_,_,rfl,_,_,rfl,rfl,_,_,rfl,rfl,hp,trivial,q _ (Int.emod_nonneg _ (by omega)) ?_⟩
  have:=Int.emod_lt_of_pos (c/3+2) hp
  have hm:(if most<6 then most else 6)<=most:=by split<;>omega
  omega
def ab7 (mx:Int):bA:=λxs Q=>∃(ns:ae) (most:Int),xs = [.scr ns,.int most]/\ns.length<=63/\0<=most/\most<=mx/\∀n ws ls,0<=n->n<=most->WL n ws ls->Q (bC ws ls)
def ab8 (R:List PV->(PV->Prop)->Prop):aL:=(aO (bH 13 (dL (iM (a5 2)) [none,some 5,some 8] (bB 0) gA (dM (bT (a5 1) (a5 0)) (dU (bT (a5 2) (a5 0)) (qC (.int 2))))))
 (bI (i5 (a7 (aH m5 (a7 (a5 13) aE)) (a7 (aH m5 (a7 (aH R (a7 (a5 7) aE)) aE)) aE)))))
def ab9:aL:=(aO (bH 12 (a5 10))
   (aO (bH 10 (iP (a5 10) (a5 3)))
   (aO (cN (i4 (aU (a5 4))) (bH 12 (aH oX (a7 (bT (a5 5) (a5 9)) (a7 (dU (a5 11) (qC (.int 60))) aE)))) dG)
   (cN (aU (fD (dM (a5 12) (a5 3)) (qC (.int 1)))) (aO (kB 7 (i5 (a7 (a5 11) (a7 (a5 9) aE))))
    (aO (kC 8 (a5 11) (dU (bT (a5 8) (a5 11)) (qC (.int 1))))
    (kC 8 (a5 9) (dU (bT (a5 8) (a5 9)) (qC (.int 1)))))) dG))))
def y7 (R:List PV->(PV->Prop)->Prop):aL:=(aO (dJ (iM (a5 2)) (bB 9)
  (aO (bH 10 (iP (bT (a5 5) (a5 9)) (qC (.int 64))))
  (dJ (iM (a5 9)) (bB 11) ab9)))
 (ab8 R))
def ac0 (R:List PV->(PV->Prop)->Prop):aL:=(aO (bH 2 (aH tF (a7 (a5 0) (a7 (a5 1) aE))))
 (aO (bH 3 (dU (qC (.int 2)) (dM (aH jM (a7 (a5 0) (a7 (qC (.int 1)) aE))) (qC (.int 4)))))
 (aO (bH 4 (fD (dM (iP (aH jM (a7 (a5 0) (a7 (qC (.int 1)) aE))) (qC (.int 8))) (qC (.int 2))) (qC (.int 1))))
 (aO (fM 5 (wM (a5 0) (r6 (qC (.int 4))) (r6 (dU (qC (.int 4)) (a5 2)))))
 (aO (dJ (qT (aH cF (a7 (a5 5) aE)) (a5 2)) (bB 6)
  (kB 5 (aH oX (a7 (aH jM (a7 (a5 0) (a7 (qC (.int 1)) aE))) (a7 (a5 6) aE)))))
 (aO (fM 7 (fA aE))
 (aO (fM 8 (xP (fA (a7 (qC (.int 0)) aE)) (a5 2)))
 (y7 R))))))))
structure LK (i j:Nat)(ls:aa):Prop where
 inn:∀l∈ls,0<=l.1/\l.1<l.2/\(l.2<(i:Int)∨(l.2=(i:Int)/\l.1<(j:Int)))
 nd:ls.Nodup
 few:ls.length<=40*i+j
theorem LK.same {i j:Nat}{ls:aa}(h:LK i j ls):LK i (j+1) ls:=
 ⟨λl hl=>by have:=h.inn l hl;omega,h.nd,by have:=h.few;omega⟩
theorem LK.app {i j:Nat}{ls:aa}(h:LK i j ls)(hj:j<i):LK i (j+1) (ls++[((j:Int),(i:Int))]):=by
 refine⟨λl hl=>?_,bv4.mpr ⟨h.nd,bl8 _ _,λa ha b hb e=>?_⟩,by rw[bj6,bn2];have:=h.few;omega⟩
 ·rcases bl5.mp hl with z|z
  ·have:=h.inn l z;omega
  ·rw[bi6.mp z];dsimp only;omega
 ·rw[bi6.mp hb]at e
  subst e
  have:=h.inn _ ha
  dsimp only at this
  omega
theorem LK.next {i:Nat}{ls:aa}(h:LK i i ls)(hi:i<=40):LK (i+1) 0 ls:=
 ⟨λl hl=>by have:=h.inn l hl;omega,h.nd,by have:=h.few;omega⟩
theorem mS {ws:ae}{j:Nat}(h:j<ws.length):L2.atI (intz ws) (j:Int)=some (.int (ws.getD j 0)):=by
 have gw:ws[j]? = some (ws.getD j 0):=by rw[bh9,bh5 h];rfl
 exact jW (by rw[bi7,gw];rfl)
theorem y8 {ws:ae}(h:NN ws)(j:Nat):0<=ws.getD j 0:=by
 rw[bh9]
 cases hj:ws[j]? with
 |none=>exact bs1 0
 |some w=>exact h w (bj5 hj)
theorem K4 (ns:ae)(lo hi:Option Int):∃zs:ae,gR (intz ns) lo hi=intz zs/\zs.length<=ns.length:=by
 refine⟨(ns.drop (HT.aP (intz ns).length 0 lo)).take (HT.aP (intz ns).length (intz ns).length hi-HT.aP (intz ns).length 0 lo),?_,?_⟩
 ·unfold gR intz;rw[List.map_take,List.map_drop]
 ·rw[bq2,bs5];omega
def tG (R:List PV->(PV->Prop)->Prop)(m:Nat):Prop:=∀(ls:aa) (Q:PV->Prop),ls.length<=40*m->(∀ls':aa,ls'.Perm ls->(ls'.map two).Pairwise (λu v=>HT.aY v u=false)->Q (.lst (dD ls')))->(∀l∈ls,0<=l.1/\l.1<l.2/\l.2<(m:Int))->ls.Nodup->R [.lst (dD ls)] Q
theorem aU5 {m:Nat}{sp:Int}{dg:Bool}{cs cts:ae}{lks:aa}{i j:Nat}{nb:Int}{s0 s1 y6 y12 y13:Option Slot}{D:aZ->Prop}{Q:PV->Prop}{ct bk:aZ->Prop}(xX:2<=sp/\sp<=5)(hc:m<=cs.length)(hi:i<m)(hj:j<i)(m40:m<=40)(lk:LK i j lks)(cl:cts.length=m)(nn:NN cts)(k:∀(nb dr:Int) (lks':aa) (cts':ae),LK i (j+1) lks'->cts'.length=m->NN cts'->D [s0,s1,si m,si sp,some (.sh true (.bl dg)),some (.own (.lst (intz cs))),y6,some (.own (.lst (dD lks'))),some (.own (.lst (intz cts'))),si i,si nb,si j,si dr,y13]) :
  ab9 { nx:=D,rt:=Q,ct:=ct,bk:=bk } [s0,s1,si m,si sp,some (.sh true (.bl dg)),some (.own (.lst (intz cs))),y6,some (.own (.lst (dD lks))),some (.own (.lst (intz cts))),si i,si nb,si j,y12,y13]:=by
 refine⟨_,rfl,trivial,?_⟩
 refine⟨_,rfl,_,rfl,_,_,rfl,rfl,⟨by omega,by omega⟩,trivial,?_⟩
 dsimp only
 generalize nb/sp=nb2
 have fin:∀dr:Int,(cN (aU (fD (dM (a5 12) (a5 3)) (qC (.int 1)))) (aO (kB 7 (i5 (a7 (a5 11) (a7 (a5 9) aE))))
    (aO (kC 8 (a5 11) (dU (bT (a5 8) (a5 11)) (qC (.int 1))))
    (kC 8 (a5 9) (dU (bT (a5 8) (a5 9)) (qC (.int 1)))))) dG) { nx:=D,rt:=Q,ct:=ct,bk:=bk } [s0,s1,si m,si sp,some (.sh true (.bl dg)),some (.own (.lst (intz cs))),y6,some (.own (.lst (dD lks))),some (.own (.lst (intz cts))),si i,si nb2,si j,si dr,y13]:=λdr=>by
  refine⟨_,rfl,_,rfl,_,_,rfl,rfl,by show 0<sp;omega,.inl ⟨_,_,rfl,rfl,_,rfl,xW ?_ (k nb2 dr lks cts lk.same cl nn)⟩⟩
  have pl:(dD lks).length=lks.length:=bi1 _
  have fw:=lk.few
  refine⟨_,rfl,_,rfl,_,rfl,by show 2<=1000;decide,rfl,trivial,by rw[pl];omega,?_⟩
  have a1:=mS (ws:=cts) (j:=j) (by omega)
  refine⟨_,rfl,_,rfl,_,_,_,rfl,rfl,a1,_,_,rfl,rfl,_,rfl,_,rfl,j,j,rfl,?_,trivial,?_⟩
  ·rw[b8];unfold fH;rw[if_pos (by omega),if_pos (by omega)];rfl
  have e1:(intz cts).set j (.int (cts.getD j 0+1))=intz (cts.set j (cts.getD j 0+1)):=(List.map_set ..).symm
  have n1:NN (cts.set j (cts.getD j 0+1)):=nn.set (by have:=y8 nn j;omega) _
  dsimp only
  rw[e1]
  have l1:(cts.set j (cts.getD j 0+1)).length=m:=by rw[bm9];exact cl
  generalize cts.set j (cts.getD j 0+1)=ct2 at n1 l1
  have a2:=mS (ws:=ct2) (j:=i) (by omega)
  refine⟨_,rfl,_,rfl,_,_,_,rfl,rfl,a2,_,_,rfl,rfl,_,rfl,_,rfl,i,i,rfl,?_,trivial,?_⟩
  ·rw[b8];unfold fH;rw[if_pos (by omega),if_pos (by omega)];rfl
  have e2:(intz ct2).set i (.int (ct2.getD i 0+1))=intz (ct2.set i (ct2.getD i 0+1)):=(List.map_set ..).symm
  have n2:NN (ct2.set i (ct2.getD i 0+1)):=n1.set (by have:=y8 n1 i;omega) _
  dsimp only
  rw[e2]
  have:=k nb2 dr (lks++[((j:Int),(i:Int))]) (ct2.set i (ct2.getD i 0+1)) (lk.app hj) (by rw[bm9];exact l1) n2
  unfold dD at this ⊢
  rw[bk8]at this
  exact this
 refine⟨_,rfl,_,rfl,?_⟩
 cases dg with
 |true=>exact bD (fin nb)
 |false=>
  have a0:=mS (ws:=cs) (j:=i) (by omega)
  exact cA ⟨_,rfl,_,rfl,_,_,_,rfl,rfl,a0,_,rfl,_,_,rfl,rfl,_,_,rfl,by omega,by omega,λz _=>⟨trivial,fin z⟩⟩
theorem aU6 {R:List PV->(PV->Prop)->Prop}{m:Nat}{cs cts:ae}{lks:aa}{s0 s1 y3 y4 y6 y9 y10 y11 y12:Option Slot}{Q:PV->Prop}(hR:tG R m)(hc:m<=cs.length)(m40:m<=40)(lk:LK m 0 lks)(cl:cts.length=m)(nn:NN cts)(q:∀ws ls,WL m ws ls->Q (bC ws ls)) :
  ab8 R { nx:=λ_=>Q .non,rt:=Q } [s0,s1,si m,y3,y4,some (.own (.lst (intz cs))),y6,some (.own (.lst (dD lks))),some (.own (.lst (intz cts))),y9,y10,y11,y12,none]:=by
 refine⟨_,rfl,m,rfl,by omega,by omega,by rw[gP];omega,λi acc=>∃zs:ae,acc=intz zs/\zs.length=i/\NN zs,⟨[],rfl,rfl,λz hz=>by cases hz⟩,?_,?_⟩
 ·rintro i y acc hy ⟨zs,rfl,zl,zn⟩
  obtain⟨rfl,hi⟩:=iU hy
  have hi:i<m:=by omega
  refine gE ?_
  rw[bu8]
  have a1:=mS (ws:=cs) (j:=i) (by omega)
  have a2:=mS (ws:=cts) (j:=i) (by omega)
  have p1:=y8 nn i
  refine⟨_,rfl,_,rfl,_,_,_,rfl,rfl,a1,_,rfl,_,rfl,_,_,_,rfl,rfl,a2,_,_,rfl,rfl,_,_,rfl,rfl,by show 0<cts.getD i 0+2;omega,trivial,zs++[cs.getD i 0%(cts.getD i 0+2)],by rw[gV];rfl,by rw[bj6,zl];rfl,zn.app (Int.emod_nonneg _ (by omega))⟩
 rintro acc ⟨ws,rfl,wl,wn⟩
 rw[gP,bm4]at wl
 refine⟨trivial,?_⟩
 have fp:∀ls:aa,flats (dD ls)=true:=xD
 have inn:∀l∈lks,0<=l.1/\l.1<l.2/\l.2<(m:Int):=λl hl=>by have:=lk.inn l hl;omega
 refine⟨_,rfl,⟨_,_,rfl,rfl,cE _,?_⟩,(λns e=>by cases e)⟩
 refine⟨_,rfl,hR lks _ (by have:=lk.few;omega) (λls' pl so=>?_) inn lk.nd⟩
 refine⟨⟨_,_,rfl,rfl,fp _,by show 2<=1000;decide,?_,trivial,?_⟩,(λns e=>by cases e)⟩
 ·show (flats (intz ws)&&(flats (dD ls')&&true))=true
  rw[cE,fp];rfl
 ·exact q ws ls' (WL.perm (by omega) inn (by have:=lk.few;omega) lk.nd wn pl so)
theorem aU7 {R:List PV->(PV->Prop)->Prop}{m:Nat}{sp:Int}{dg:Bool}{cs cts:ae}{s0 s1 y6:Option Slot}{Q:PV->Prop}(hR:tG R m)(xX:2<=sp/\sp<=5)(hc:m<=cs.length)(m40:m<=40)(cl:cts.length=m)(nn:NN cts)(q:∀ws ls,WL m ws ls->Q (bC ws ls)) :
  y7 R { nx:=λ_=>Q .non,rt:=Q } [s0,s1,si m,si sp,some (.sh true (.bl dg)),some (.own (.lst (intz cs))),y6,some (.own (.lst [])),some (.own (.lst (intz cts))),none,none,none,none,none]:=by
 refine⟨_,rfl,m,rfl,by omega,by omega,λi ρ=>∃(lks:aa) (cts:ae) (y9 y10 y11 y12:Option Slot),ρ = [s0,s1,si m,si sp,some (.sh true (.bl dg)),some (.own (.lst (intz cs))),y6,some (.own (.lst (dD lks))),some (.own (.lst (intz cts))),y9,y10,y11,y12,none]/\LK i 0 lks/\cts.length=m/\NN cts,⟨[],cts,none,none,none,none,rfl,⟨(λl hl=>by cases hl),bp2,bl4 _⟩,cl,nn⟩,?_,?_⟩
 ·rintro i y ρ hy ⟨lks,cts,y9,y10,y11,y12,rfl,lk,cl,nn⟩
  obtain⟨rfl,hi⟩:=iU hy
  have hi:i<m:=by omega
  refine gE ?_
  rw[bu8]
  have a1:=mS (ws:=cs) (j:=i) (by omega)
  refine⟨_,rfl,_,rfl,_,_,_,rfl,rfl,a1,_,_,rfl,rfl,⟨by decide,by decide⟩,trivial,?_⟩
  dsimp only
  generalize cs.getD i 0/64=nb
  refine⟨_,rfl,i,rfl,by omega,by omega,λj ρ=>∃(nb:Int) (lks:aa) (cts:ae) (y11 y12:Option Slot),ρ = [s0,s1,si m,si sp,some (.sh true (.bl dg)),some (.own (.lst (intz cs))),y6,some (.own (.lst (dD lks))),some (.own (.lst (intz cts))),si i,si nb,y11,y12,none]/\LK i j lks/\cts.length=m/\NN cts,⟨nb,lks,cts,y11,y12,rfl,lk,cl,nn⟩,?_,?_⟩
  ·rintro j y ρ hy ⟨nb,lks,cts,y11,y12,rfl,lk,cl,nn⟩
   obtain⟨rfl,hj⟩:=iU hy
   have hj:j<i:=by omega
   refine gE ?_
   rw[bu8]
   exact aU5 xX hc hi hj m40 lk cl nn λnb dr lks' cts' h1 h2 h3=>⟨nb,lks',cts',si j,si dr,rfl,h1,h2,h3⟩
  ·rintro ρ ⟨nb,lks,cts,y11,y12,rfl,lk,cl,nn⟩
   rw[gP,bm4]at lk
   exact⟨lks,cts,si i,si nb,y11,y12,rfl,lk.next (by omega),cl,nn⟩
 ·rintro ρ ⟨lks,cts,y9,y10,y11,y12,rfl,lk,cl,nn⟩
  rw[gP,bm4]at lk
  exact aU6 hR hc m40 lk cl nn q
theorem aU8 {R:List PV->(PV->Prop)->Prop}{mx:Int}(mx40:mx<=40)(hR:∀m:Nat,(m:Int)<=mx->tG R m):cQ (ac0 R) ["script","most","many","sparse","digits","cells","k","links","counts","other","number","one","draw","wants"] (ab7 mx):=by
 rintro xs Q ⟨ns,most,rfl,hl,h0,h1,q⟩
 refine⟨_,rfl,_,rfl,ns,most,rfl,h0,λz z0 z1=>⟨trivial,?_⟩⟩
 obtain⟨m,rfl⟩:∃m:Nat,z=m:=⟨z.toNat,by omega⟩
 refine⟨_,rfl,_,ns,1,rfl,.inl rfl,by decide,_,_,rfl,rfl,(by show (0:Int)<4;decide),_,_,rfl,rfl,trivial,?_⟩
 dsimp only
 have s2:2<=2+ns.getD (1:Int).toNat 0%4/\2+ns.getD (1:Int).toNat 0%4<=5:=by
  have:=Int.emod_nonneg (ns.getD (1:Int).toNat 0) (show (4:Int)≠0 by decide)
  have:=Int.emod_lt_of_pos (ns.getD (1:Int).toNat 0) (show (0:Int)<4 by decide)
  omega
 generalize 2+ns.getD (1:Int).toNat 0%4=sp at s2
 refine⟨_,rfl,_,ns,1,rfl,.inl rfl,by decide,_,_,rfl,rfl,⟨by decide,by decide⟩,_,_,rfl,rfl,(by show (0:Int)<2;decide),.inl ⟨_,_,rfl,rfl,trivial,?_⟩⟩
 generalize (if false=true then !decide (ns.getD (1:Int).toNat 0/8%2=1) else decide (ns.getD (1:Int).toNat 0/8%2=1))=dg
 obtain⟨zs,ez,zl⟩:=K4 ns (some 4) (some (4+(m:Int)))
 refine⟨_,rfl,_,rfl,_,rfl,_,_,rfl,rfl,_,rfl,_,rfl,cE _,rfl,?_,?_⟩
 ·show flats (gR (intz ns) (some 4) (some (4+(m:Int))))=true
  rw[ez];exact cE _
 show (aO _ _) _ [_,_,_,_,_,some (Slot.own (.lst (gR (intz ns) (some 4) (some (4+(m:Int)))))),_,_,_,_,_,_,_,_]
 rw[ez]
 refine⟨_,rfl,_,_,rfl,rfl,_,rfl,(zs.length:Int),(m:Int),by rw[b8],rfl,⟨by omega,by omega,by omega,by omega⟩,λi ρ=>∃(cs:ae) (y6:Option Slot),ρ = [some (.sh (flat (.scr ns)) (.scr ns)),si most,si m,si sp,some (.sh true (.bl dg)),some (.own (.lst (intz cs))),y6,none,none,none,none,none,none,none]/\cs.length=zs.length+i,⟨zs,none,rfl,rfl⟩,?_,?_⟩
 ·rintro i y ρ hy ⟨cs,y6,rfl,cl⟩
  obtain⟨rfl,hi⟩:=iU hy
  refine gE ?_
  refine⟨_,rfl,_,rfl,_,ns,1,rfl,.inl rfl,by decide,_,rfl,_,_,rfl,by omega,by omega,λz _=>⟨trivial,by rw[b8];omega,cs++[z],_,by rw[gV];rfl,by rw[bj6,cl];rfl⟩⟩
 rintro ρ ⟨cs,y6,rfl,cl⟩
 rw[gP]at cl
 have hc:m<=cs.length:=by omega
 refine⟨by decide,rfl,rfl,rfl,?_⟩
 refine⟨by show 1<=1000;decide,rfl,_,rfl,_,_,rfl,rfl,rfl,by omega,by omega,by show 1<=10;decide,rfl,?_,?_⟩
 ·show flats (List.replicate (m:Int).toNat [PV.int 0]).flatten=true
  rw[t9];exact cE _
 show y7 R _ [_,_,_,_,_,_,_,_,some (Slot.own (.lst (List.replicate (m:Int).toNat [PV.int 0]).flatten)),_,_,_,_,_]
 rw[t9,bm4]
 exact aU7 (hR m (by omega)) s2 hc (by omega) bw5 (λz hz=>by rw[List.eq_of_mem_replicate hz];exact bs1 0) λws ls w=>q m ws ls z0 z1 w
theorem aU9 {m:Nat}(h:m<=40):tG sZ m:=λls Q hl q inn nd=>by
 refine⟨ls.map two,by rw[X0],by rw[bi1];omega,λy hy=>by obtain⟨l,_,rfl⟩:=bk5.mp hy;rfl,λZ pz so=>?_⟩
 obtain⟨ls',rfl,pl⟩:=aL7 pz
 have:=q ls' pl so
 rw[X0]at this
 exact this
end Core
namespace PP
open PySem L2
section
variable {P:Program}{w:World}{K:ac}{mg:Str→Option Value}{base:Heap}{k:Nat}{f:Addr}{fd:FuncData}
theorem aV0 (F:cD P w K mg base cL k f fd ["web"] sO)(b:gJ K fd ["web"] [])(kp:PySem.W.keepIn K (.ref f)=true)(m:mg "_law_beside" = some (.ref f)):Df P w K mg base k "_law_beside" ["web"] Core.oP:=by
 refine⟨f,fd,F.imp λvs H Q E h=>?_,b,kp,m⟩
 obtain⟨xs,Qp,r,⟨ws,ls,rfl,wb,q⟩,k⟩:=h
 obtain⟨v,rfl,r1⟩:=r.one
 have:=wb.few
 have:=wb.most
 refine⟨v,ws,ls,rfl,W8 r1,by omega,by omega,wb.links,λt bs H' hb R=>k _ H' _ R.same (.lst R.new R.row ?_) q⟩
 have:=xK (K:=K) (M:=λa=>H a=none) (H:=H') (bs:=bs) (ls:=ls) 0 (λb hb=>(R.news b hb).1) λk b hk=>by rw[Nat.zero_add];exact R.rows k b hk
 rw[hb,<- List.range_eq_range']at this
 exact this
end
end PP
namespace Core
open PySem L2 PP
abbrev ac1:bA:=oP
def tH:bA:=λxs Q=>∃(ms:ae) (n:Nat),xs = [.tup (intz ms),.int n]/\cR n ms=true/\Q (.bl true)
def ac2 (K:ac):aL:=(aO (cN (i4 (aU (iO K "tuple" (a5 0)))) (bI (qC (.bl false))) dG)
 (aO (bH 2 (o6 (qC (.int 1))))
 (aO (dJ (dA (a5 0)) (bB 3)
  (aO (cN (jG (i4 (aU (aH sL (a7 (a5 3) aE)))) (jG (aU (qLe (a5 3) (a5 2))) (aU (wO (a5 3) (a5 1))))) (bI (qC (.bl false))) dG)
  (bH 2 (a5 3))))
 (bI (qC (.bl true))))))
theorem aV1 {K:ac}(kt:PySem.W.kitOne K (.type "tuple") (.type "tuple")=some true):cQ (ac2 K) ["found","many","last","hearth"] tH:=by
 rintro xs Q ⟨ms,n,rfl,hs,q⟩
 have up:=kR (i7 hs).1
 refine⟨_,rfl,_,_,rfl,kt,_,rfl,bD ?_⟩
 refine⟨_,rfl,trivial,?_⟩
 refine⟨_,rfl,_,rfl,kS (.inl rfl),λi ρ=>∃(l:Int) (y3:Option Slot),ρ = [some (.sh (flat (.tup (intz ms))) (.tup (intz ms))),si n,si l,y3]/\∀h,ms[i]? = some h->l<h,⟨-1,none,rfl,λh hh=>by have:=(i7 hs).2 h (bj5 hh);omega⟩,?_,?_⟩
 ·rintro i y ρ hy ⟨l,y3,rfl,lo⟩
  obtain⟨h,rfl,hh⟩:=gD hy
  have b:=(i7 hs).2 h (bj5 hh)
  have l1:=lo h hh
  refine gE ?_
  refine⟨_,rfl,h,rfl,_,rfl,bD ⟨_,rfl,_,rfl,_,_,rfl,rfl,_,rfl,?_⟩⟩
  show if decide (h<=l)=true then _ else _
  rw[bi2 (by omega)]
  refine bD ⟨_,rfl,_,rfl,_,_,rfl,rfl,_,rfl,?_⟩
  show if decide (h >= (n:Int))=true then _ else _
  rw[bi2 (by omega)]
  refine bD ⟨_,rfl,trivial,h,_,rfl,λh2 hh2=>?_⟩
  obtain⟨i1,e1⟩:=bi3.mp hh
  obtain⟨i2,e2⟩:=bi3.mp hh2
  have:=bl7.mp up i (i+1) i1 i2 (by omega)
  rw[e1,e2]at this;exact this
 ·rintro ρ ⟨l,y3,rfl,_⟩
  exact⟨trivial,q⟩
def aV2:aL:=(aO (bH 2 (aH ac1 (a7 (a5 0) aE)))
 (aO (dJ (dA (a5 1)) (bB 3)
  (cN (aU (wO (aH cF (a7 (dL (dA (bT (a5 2) (a5 3))) [none,some 1] (bB 0) (aU (q2 (o7 true) (a5 0) (a5 1))) (a5 0)) aE)) (bT (bT (a5 0) (qC (.int 0))) (a5 3)))) (bI (qC (.bl false))) dG))
 (bI (qC (.bl true)))))
end Core
namespace L2
open PySem PySem.Spec PyProof.Rows
theorem aV3 {a b c:ae}(h1:HT.aY a b=true)(h2:HT.aY b c=true):HT.aY a c=true:=by
 cases e:HT.aY a c with
 |true=>rfl
 |false=>
  have ca:=qE (lN h2) (lN h1)
  have:=vN e ca
  subst this
  have:=lN h1
  rw[h2]at this;cases this
theorem yA {α:Type}{p q:α->Bool}:∀{l:List α},(∀x∈l,p x=true->q x=true)->(l.filter p).length<=(l.filter q).length
 |[],_=>bh8 _
 |x::l,h=>by
  have ih:=yA (l:=l) λy hy=>h y (bi5 _ hy)
  have hx:=h x bh7
  rw[bq7,bq7]
  cases ep:p x with
  |false=>cases q x<;>simp<;>omega
  |true=>rw[hx ep];simp;omega
theorem ac3 {α:Type}{p q:α->Bool}:∀{l:List α},(∀x∈l,p x=true->q x=true)->(∃x∈l,q x=true/\p x=false)->(l.filter p).length<(l.filter q).length
 |[],_,e=>by obtain⟨_,z,_⟩:=e;cases z
 |x::l,h,e=>by
  have hx:=h x bh7
  have h':∀y∈l,p y=true->q y=true:=λy hy=>h y (bi5 _ hy)
  have le:=yA h'
  rw[bq7,bq7]
  obtain⟨y,hy,qy,py⟩:=e
  rcases bi4.mp hy with rfl|hy
  ·rw[qy,py];simp;omega
  ·have ih:=ac3 h' ⟨y,hy,qy,py⟩
   cases ep:p x with
   |false=>cases q x<;>simp<;>omega
   |true=>rw[hx ep];simp;omega
def kX (ys:ad)(x:ae):Nat:=(ys.filter λy=>HT.aY y x).length
theorem ac4 {ys:ad}{u v:ae}(hu:u∈ys)(hv:v∈ys):HT.aY u v=decide ((kX ys u:Int)<(kX ys v:Int)):=by
 have irr:∀a:ae,HT.aY a a=false:=λa=>by
  cases e:HT.aY a a with
  |false=>rfl
  |true=>have:=lN e;rw[e]at this;cases this
 cases e:HT.aY u v with
 |true=>
  have:kX ys u<kX ys v:=ac3 (λx _ h=>aV3 h e) ⟨u,hu,e,irr u⟩
  exact (bi9 (by omega)).symm
 |false=>
  have:kX ys v<=kX ys u:=yA λx _ h=>by
   cases e2:HT.aY x u with
   |true=>rfl
   |false=>have:=qE e2 e;rw[h]at this;cases this
  exact (bi2 (by omega)).symm
end L2
namespace L2
open PySem PySem.Spec PyProof.Rows SO
section
variable {prog:Program}{w:World}{A:Around}{E:Value→Shared→Prop}{s:Shared}
theorem aV4 {l b:Addr}{items items2:Array Value}{ns ms:ae}{Q:Bool->Shared->Prop}(hl:IsTup s.heap l items)(hb:IsTup s.heap b items2)(hi:IntsAre items.toList ns)(hj:IntsAre items2.toList ms)(hu:A.units<cLine)(h:Q (HT.aY ns ms) s):wpAny (model prog w) A (oneLt' true (.ref l) (.ref b)) Q E s:=by
 obtain⟨⟨cls,dd,data,sl⟩,ho,hc,n,hd⟩:=id hl
 obtain⟨⟨cls2,dd2,data2,sl2⟩,ho2,hc2,n2,hd2⟩:=id hb
 simp only at hc hd hc2 hd2
 subst hc hd hc2 hd2
 rw[oneLt'_eq]
 simp only[if_true]
 refine bh3 (wpAny_cRoomFor hu ?_)
 refine bh3 (wpAny_callSpecialIfBound?_slot (T:="tuple") ⟨_,ho,rfl⟩ PySem.F.slot_tuple_lt (call_meets PySem.F.slot_tuple_lt ⟨_,ho,rfl⟩ PySem.F.entry_tuple_lt (PySem.F.args_tuple_lt_2 _ _) (HT.ap5 l b items items2 n n2 dd dd2 sl sl2 ns ms hi hj) ⟨ho,ho2,?_⟩))
 exact br7 h
structure eR (h:Heap)(v:Value)(ns:ae):Prop where
 at_:∃b ob us n,v = .ref b/\h.get? b=some ob/\ob.cls = .type "tuple"/\ob.data = .seq (List.toArray us) n/\IntsAre us ns
def yB (h:Heap)(v:Value):ae:=match v with
 |.ref b=>match h.get? b with
  |some ob=>match ob.data with
   |.seq us _=>us.toList.map numOf
   |_=>[]
  |none=>[]
 |_=>[]
theorem ac5:∀{us:List Value}{ns:ae},IntsAre us ns->us.map numOf=ns
 |_,_,.nil=>rfl
 |_,_,.cons _ _ h=>by rw[bm6,ac5 h];rfl
theorem eR.ints {h:Heap}{v:Value}{ns:ae}(z:eR h v ns):yB h v=ns:=by
 obtain⟨b,ob,us,n,rfl,e2,_,e4,e5⟩:=z.at_
 unfold yB
 dsimp only
 rw[e2];dsimp only
 rw[e4];exact ac5 e5
def tI (h:Heap)(ys:ad)(x:Keyed):Int:=(kX ys (yB h x.1):Int)
theorem aV5 (ys:ad)(hu:A.units<cLine):bW prog w A E s oneType' (λx=>∃ns∈ys,eR s.heap x.1 ns) (tI s.heap ys):=by
 rintro x y ⟨ns,m1,z⟩ ⟨ms,m2,z'⟩ st Q hk hq
 unfold tI at hq
 rw[z.ints,z'.ints,<- ac4 m1 m2]at hq
 obtain⟨b,ob,us,n,e1,e2,e3,e4,e5⟩:=z.at_
 obtain⟨b',ob',us',n',e1',e2',e3',e4',e5'⟩:=z'.at_
 rw[lt'_eq]
 refine bi8 (wpS_get ?_)
 rw[hk,e1,e1',keyLt'_oneType]
 refine bi8 (wpS_lift (wpAny_attempt (aV4 (items:=us.toArray) (items2:=us'.toArray) ⟨_,e2,e3,_,e4⟩ ⟨_,e2',e3',_,e4'⟩ (by simpa using e5) (by simpa using e5') hu ?_)))
 exact⟨rfl,bj4 hq⟩
def mT (h:Heap)(v:Value):Option Value:=match v with
 |.ref b=>match h.get? b with
  |some ob=>match ob.data with
   |.seq us _=>us[0]?
   |_=>none
  |none=>none
 |_=>none
theorem eR.first {h:Heap}{v:Value}(z:eR h v []):mT h v=none:=by
 obtain⟨b,ob,us,n,rfl,e2,_,e4,e5⟩:=z.at_
 cases e5
 unfold mT
 dsimp only
 rw[e2];dsimp only
 rw[e4];rfl
end
section
variable {M:Model}{A:Around}{E:Value→Shared→Prop}{s:Shared}
theorem ac6:∀(vs:List Value) {Q:List (Option Value)->Shared->Prop},(∀v∈vs,∃ns,eR s.heap v ns)->Q (vs.map (mT s.heap)) s->wpAny M A (vs.mapM firstOfTuple') Q E s
 |[],_,_,h=>by rw[List.mapM_nil];exact bi0 h
 |v::vs,Q,t,h=>by
  obtain⟨ns,z⟩:=t v bh7
  obtain⟨b,ob,us,n,rfl,e2,e3,e4,e5⟩:=z.at_
  have ef:mT s.heap (.ref b)=us.toArray[0]?:=by
   unfold mT
   dsimp only
   rw[e2];dsimp only
   rw[e4]
  rw[List.mapM_cons]
  refine bh3 ?_
  rw[PySem.W.kas_first_eq]
  refine bh3 (PySem.W.Looks.here (show PySem.W.Looks M s.heap (typeOf (.ref b)) ob.cls from (PySem.W.Looks.ld e2).andThen .now) ?_)
  rw[e3,if_neg (by first|decide|simp)]
  refine bh3 (listItems_at e2 e4 (bi0 ?_))
  rw[<- ef]
  exact bh3 (ac6 vs (Q:=λbs s'=>wpAny M A (pure (mT s.heap (.ref b)::bs)) Q E s') (λy hy=>t y (bi5 _ hy)) (bi0 h))
theorem aV6 {v:Value}{vs:List Value}{Q:SortKind->Shared->Prop}(t:∀y∈v::vs,∃ns,eR s.heap y ns)(t0:eR s.heap v [])(h:Q oneType' s):wpAny M A (keyKind' (v::vs).toArray) Q E s:=by
 rw[keyKind'_eq,List.mapM_toArray,map_eq_pure_bind]
 refine bh3 (bh3 (ac6 _ t (bi0 ?_)))
 rw[bm6,t0.first,if_neg (by simp),if_neg (by simp)]
 rw[oneTypeOnly'_eq,List.mapM_toArray,map_eq_pure_bind]
 refine bh3 (bh3 (bh3 (PySem.W.kas_mapM (r:=Value.type "tuple") _ (λy hy Q' hq=>?_) (bi0 ?_))))
 ·obtain⟨ns,z⟩:=t y (by simpa using hy)
  obtain⟨b,ob,us,n,rfl,e2,e3,e4,e5⟩:=z.at_
  refine PySem.W.Looks.here (show PySem.W.Looks M s.heap (typeOf (.ref b)) ob.cls from (PySem.W.Looks.ld e2).andThen .now) ?_
  rw[e3];exact hq
 ·have hall2:((List.map (λ_=>Value.type "tuple") (v::vs)).toArray.all λx=>x==Value.type "tuple")=true:=by
   simp only[List.all_toArray,List.all_map,bm8]
   intro _ _
   rfl
  have h0:(List.map (λ_=>Value.type "tuple") (v::vs)).toArray[0]? = some (Value.type "tuple"):=by simp
  rw[h0]
  simp only[hall2,if_true]
  exact bi0 (bi0 h)
end
theorem aV7 {prog:Program}{w:World}{A:Around}{E:Value->Shared->Prop}{s:Shared}{l:Addr}{vs:List Value}{Q:Value->Shared->Prop}{κ:SortKind}{Ok:Keyed->Prop}{rk:Keyed->Int}(hl:s.heap.IsList l vs.toArray)(h2:2<=vs.length)(big:vs.length<=sizeLine)(hk:∀(A:Around) (E:Value->Shared->Prop) (Q:SortKind->Shared->Prop),Q κ { s with heap:=cC (bZ s.heap vs) (s.heap.objs.size+1) vs }->wpAny (model prog w) A (keyKind' vs.toArray) Q E { s with heap:=cC (bZ s.heap vs) (s.heap.objs.size+1) vs })(hu:A.units+3<cLine)(c:∀(A:Around) (E:Value->Shared->Prop),A.units<cLine->bW prog w A E { s with heap:=cC (bZ s.heap vs) (s.heap.objs.size+1) vs } κ Ok rk)(o:∀v∈vs,Ok (v,v))(q:∀out:List Value,out.Perm vs->out.Pairwise (λu v=>rk (u,u)<=rk (v,v))->Q (.ref (s.heap.objs.size+1)) { s with heap:=sortedAll s.heap vs out.toArray }):wpAny (model prog w) A (call (.builtin "sorted") [.ref l]) Q E s:=by
 apply Calls.call_function_entry kind_sorted plain_sorted entry_sorted (args_sorted1 _)
 simp only[Builtin.«sorted»]
 apply bh3 (m:=checkCount "sorted" 1 1 _)
 apply bi0
 apply bh3
 refine collect_list hl ?_ big
 apply bh3
 refine wpAny_newList ?_ big
 have one:((s.heap.push (seqObj "list" #[] 0)).update s.heap.objs.size (Obj.mapSeq (·++vs.toArray))).objs.size=s.heap.objs.size+1:=(Heap.size_update _ _ _).trans (size_push' _ _)
 have at1:(bZ s.heap vs).get? (s.heap.objs.size+1)=some (seqObj "list" vs.toArray 0):=one▸bj2 _ rfl
 change wpAny _ _ _ _ _ { s with heap:=bZ s.heap vs }
 rw[one]
 apply bh3
 apply br3
 refine bo8 slot_list_sort ⟨_,at1,rfl⟩ entry_list_sort ?_ (args_list_sort _)
 exact T7 (s:={ s with heap:=bZ s.heap vs }) at1 h2 big (hk _ _) (c _ _ (by show A.units+2<cLine;omega)) o λout a1 a2=>⟨_,rfl,bi0 ⟨_,rfl,q out a1 a2⟩⟩
def ac7 (K:ac):List V->Hp->VK->Prop:=λxs H Q=>∃(a:Addr) (ys:List V) (key:V->ae),xs = [.ref a]/\aJ K H a ys/\ys.length<=4096/\(∀y∈ys,∃b,y = .ref b/\aG K H b ((key y).map V.int))/\(∀y,ys.head? = some y->key y = [])/\
 ∀l (zs:List V),H l=none->zs.Perm ys->zs.Pairwise (λu v=>HT.aY (key v) (key u)=false)->Q (.ref l) (upd H l (.lst zs))
theorem aV8 {X:Cx}(hu:X.A.units+3<cLine):cH X (.builtin "sorted") (ac7 X.K):=by
 intro pins s σ H xs us Q I r h
 obtain⟨a,ys,key,rfl,hs,hz4,hk,h0,q⟩:=h
 obtain⟨u,rfl,ru⟩:=fV r
 cases ru
 obtain⟨its,rv,p,hz⟩:=I.list hs
 have hl:=rv.length
 have hn:s.heap.objs.size<=s.heap.objs.size+1:=Nat.le_succ _
 by_cases h2:its.length<2
 ·refine vM p.isList h2 ?_
  obtain⟨e,he⟩:=sortedAll_at s.heap its its.toArray
  refine⟨.ref (s.heap.objs.size+1),upd H (s.heap.objs.size+1) (.lst ys),I.laid (t':=s.toks) (λ_ _=>sortedAll_old) hn ⟨hz,its,e,rv,he⟩,rfl,q _ ys (I.hok.fresh hn) (List.Perm.refl _) ?_⟩
  match ys,hl with
  |[],_=>exact bp2
  |[_],_=>exact bl8 _ _
  |_::_::_,hl=>simp at hl;omega
 ·have pv:∀{y:V}{v:Value},aM y v->y∈ys->eR (cC (bZ s.heap its) (s.heap.objs.size+1) its) v (key y):=λ{y v} ry hy=>by
   obtain⟨b,rfl,sq⟩:=hk y hy
   cases ry
   obtain⟨us,ru,⟨ob,e1,c1,n1,d1⟩,_⟩:=I.tuple sq
   exact⟨b,ob,us,n1,rfl,T6 (bl3 (Nat.lt_succ_of_lt (bj0 e1))) (T5 e1),c1,d1,pP ru⟩
  have pvs:∀{xs:List V}{vs:List Value},aF xs vs->(∀y∈xs,y∈ys)->∀v∈vs,∃ns∈ys.map key,eR (cC (bZ s.heap its) (s.heap.objs.size+1) its) v ns:=by
   intro xs vs r
   induction r with
   |nil=>intro _ v hv;cases hv
   |cons rx rt ih=>
    intro hh v hv
    rcases bi4.mp hv with z|z
    ·subst z
     exact⟨_,bk5.mpr ⟨_,hh _ bh7,rfl⟩,pv rx (hh _ bh7)⟩
    ·exact ih (λy hy=>hh y (bi5 _ hy)) v z
  have allp:=pvs rv λ_ h=>h
  obtain⟨v0,vr,ev⟩:∃v0 vr,its=v0::vr:=by
   cases its with
   |nil=>simp at h2
   |cons v0 vr=>exact⟨v0,vr,rfl⟩
  have t0:eR (cC (bZ s.heap its) (s.heap.objs.size+1) its) v0 []:=by
   cases rv with
   |nil=>cases ev
   |cons rx rt=>
    cases ev
    have:=pv rx bh7
    rwa [h0 _ rfl]at this
  refine aV7 (κ:=oneType') (Ok:=λx=>∃ns∈ys.map key,eR (cC (bZ s.heap its) (s.heap.objs.size+1) its) x.1 ns) (rk:=tI (cC (bZ s.heap its) (s.heap.objs.size+1) its) (ys.map key)) p.isList (by omega) (by rw[<- hl];exact hz)
   (λA E Q hQ=>?_) hu (λA E hA=>aV5 (s:={ s with heap:=cC (bZ s.heap its) (s.heap.objs.size+1) its }) (ys.map key) hA) (λv hv=>allp v hv) λout pm so=>?_
  ·have tt:∀y∈its,∃ns,eR (cC (bZ s.heap its) (s.heap.objs.size+1) its) y ns:=λy hy=>(allp y hy).imp λ_ z=>z.2
   have:=aV6 (M:=model X.prog X.w) (A:=A) (E:=E) (s:={ s with heap:=cC (bZ s.heap its) (s.heap.objs.size+1) its }) (v:=v0) (vs:=vr) (Q:=Q) (by rw[<- ev];exact tt) t0 hQ
   rw[<- ev]at this
   exact this
  ·obtain⟨zs,pz,rz⟩:=T9 pm.symm rv
   obtain⟨e,he⟩:=sortedAll_at s.heap its out.toArray
   refine⟨.ref (s.heap.objs.size+1),upd H (s.heap.objs.size+1) (.lst zs),I.laid (t':=s.toks) (λ_ _=>sortedAll_old) hn ⟨by rw[pz.length_eq];exact hz,out,e,rz,he⟩,rfl,q _ zs (I.hok.fresh hn) pz ?_⟩
   have lz:=rz.length
   rw[bl7]
   intro i j hi hj hij
   have s1:=bl7.mp so i j (by omega) (by omega) hij
   have gi:=jZ i hi rz
   have gj:=jZ j hj rz
   simp only[bh9,bh5 hi,bh5 hj,bh5 (show i<out.length by omega),bh5 (show j<out.length by omega),Option.getD_some]at gi gj
   have mi:=pz.mem_iff.mp (bq5 hi)
   have mj:=pz.mem_iff.mp (bq5 hj)
   have vi:=pv gi mi
   have vj:=pv gj mj
   unfold tI at s1
   rw[eR.ints vi,eR.ints vj]at s1
   rw[ac4 (bk5.mpr ⟨_,mj,rfl⟩) (bk5.mpr ⟨_,mi,rfl⟩)]
   exact bi2 (by omega)
end L2
namespace PP
open PySem L2
section
variable {X:Cx}{e:Expr}{tr:cM}{pos p2:Pos}
def yC:List PV->(PV->Prop)->Prop:=λxs Q=>∃ys:ad,xs = [.lst (ys.map λr=>PV.tup (intz r))]/\ys.length<=4096/\(∀y,ys.head? = some y->y = [])/\∀zs:ad,zs.Perm ys->zs.Pairwise (λu v=>HT.aY v u=false)->Q (.lst (zs.map λr=>PV.tup (intz r)))
theorem aV9:fB X yC (ac7 X.K):=by
 rintro H vs xs Q Q' r ⟨ys,rfl,hl,hne,q⟩ k
 obtain⟨v,rfl,r1⟩:=r.one
 obtain⟨a,us,rfl,_,h,r2⟩:=r1.sqL
 obtain⟨h1,h2⟩:=sM r2
 have lr:=r2.length
 rw[bi1]at lr
 refine⟨a,us,gW H,rfl,aJ.of h,by omega,λy hy=>?_,λy hy=>?_,λl zs hl' pm so=>?_⟩
 ·obtain⟨b,rfl,hb⟩:=h2 y hy
  exact⟨b,rfl,aG.of hb⟩
 ·refine hne _ ?_
  rw[<- h1,List.head?_map,hy];rfl
 ·have hz:∀u∈zs,∃b,u = .ref b/\H b=some (.tup ((gW H u).map V.int)):=λu hu=>h2 u (pm.mem_iff.mp hu)
  refine k _ _ _ (aW hl' _) (.lst hl' aQ ((sN hz).same (aW hl' _) λ_ z=>z)) (q _ ?_ ?_)
  ·rw[<- h1];exact pm.map _
  ·rw[bp3];exact so
theorem aW0 (B:Bt X.mg)(hu:X.A.units+3<cLine)(ha:QA X [e] tr)(hg:Gl X "sorted":=by rfl)(he:starEach [e] X.env=(false,eval e X.env)::starEach [] X.env:=by rfl)(hpl:(backTo pos (starEach [] X.env)).any (·.1)=false:=by rfl):QE X (.Call (.Name "sorted" p2) [e] [] pos) (aH yC tr):=
 iS (aV8 hu) aV9 hg B.sorted PyProof.Rows.boot_sorted ha (he:=he) (hpl:=hpl)
end
end PP
namespace Core
open PySem L2 PP
def tJ:bA:=λxs Q=>∃n:Nat,xs = [.int n]/\n<=12/\∀Z:ad,Z.Perm (aX (rng n))->Z.Pairwise (λu v=>HT.aY v u=false)->Q (.lst (tups Z))
def ac8:aL:=(aO (bH 1 (fA (a7 (i5 aE) aE)))
 (aO (dJ (iM (a5 0)) (bB 2)
  (bH 1 (xL (a5 1) (dL (dA (a5 1)) [none,some 2] (bB 0) gA (xQ (a5 0) (i5 (a7 (a5 1) aE)))))))
 (bI (aH yC (a7 (a5 1) aE)))))
theorem aW1:cQ ac8 ["many","sets","hearth"] tJ:=by
 rintro xs Q ⟨n,rfl,hn,q⟩
 have ln:=kU n
 have l12:2^n<=4096:=bm0 (bt3 (by decide) hn) (by decide)
 refine⟨by decide,rfl,by show 1<=1000;decide,rfl,trivial,?_⟩
 refine⟨_,rfl,(n:Int),rfl,by omega,by omega,λi ρ=>∃y,ρ = [some (.sh true (.int (n:Int))),some (.sh true (.lst (tups (aX (rng i))))),y] , ⟨none,rfl⟩,?_,?_⟩
 ·rintro i y ρ hy ⟨y2,rfl⟩
  obtain⟨rfl,hi⟩:=iU hy
  have hi:i<n:=by omega
  have li:=kU i
  have l12i:2^i<=4096:=bm0 (bt3 (by decide) (show i<=12 by omega)) (by decide)
  refine gE ?_
  rw[bu8]
  have sh:∀S∈aX (rng i),S.length<=12:=λS hS=>by
   have:=xG (n:=i) (jO.mp ((eQ i S).mp hS))
   omega
  have nx:aX (rng (i+1))=aX (rng i)++(aX (rng i)).map λp=>p++[(i:Int)]:=by rw[kT,i8]
  generalize aX (rng i)=A at *
  refine⟨_,rfl,_,rfl,_,rfl,(λz=>by cases z),by rw[c6];omega,λj acc=>acc=tups ((A.take j).map λp=>p++[(i:Int)]),rfl,?_,?_⟩
  ·rintro j z acc hz rfl
   obtain⟨S,rfl,hS⟩:=mJ hz
   have sl:=sh S (bj5 hS)
   refine⟨_,rfl,_,rfl,by show 1<=1000;decide,rfl,intz S,intz [(i:Int)],rfl,rfl,cE _,cE _,by rw[b8];show S.length+1<=_;omega,?_⟩
   rw[<- gV]
   refine⟨trivial,?_⟩
   dsimp only
   rw[bm1,hS,bk8]
   unfold tups
   rw[bk8];rfl
  rintro acc rfl
  rw[c6,bl0]
  refine⟨_,_,rfl,rfl,eN _,eN _,by rw[c6,c6,bi1];omega,trivial,?_⟩
  refine⟨si i,?_⟩
  rw[nx]
  unfold tups
  rw[bk8];rfl
 ·rintro ρ ⟨y,rfl⟩
  rw[gP,bm4]
  refine⟨_,rfl,aX (rng n),rfl,by omega,λy hy=>?_,λZ pz so=>⟨trivial,q Z pz so⟩⟩
  have h0:(aX (rng n))[0]? = some y:=by rw[<- List.head?_eq_getElem?];exact hy
  exact ((mQ n 0 y h0).2.1).mp rfl
abbrev tK:bA:=ab7 7
abbrev ac9:aL:=ac0 sZ
theorem aW2:cQ ac9 ["script","most","many","sparse","digits","cells","k","links","counts","other","number","one","draw","wants"] tK:=aU8 (by decide) λm h=>aU9 (by omega)
theorem aW3 (ps:ae)(k:Nat)(v:Int):(intz ps).set k (.int v)=intz (ps.set k v):=by
 show (List.map PV.int ps).set k _=List.map PV.int _
 rw[List.map_set]
def vI (ws:ae)(ls:aa)(ns R:ae):Prop:=aa6 ws ls ns R=true/\aO7 ws ls (ns++R)
end Core
namespace L2
open PySem PySem.Spec PyProof.Rows PP
section
variable {prog:Program}{w:World}{A:Around}{R:Result→Shared→Prop}{I S:Addr}{n:Nat}{l:Addr}{its:Array Value}{s0:Shared}{bt:Nat→Nat→Bool}
abbrev at_ (s:Shared)(h:Heap)(k:Nat):Shared:={ s with heap:=h,toks:=k }
abbrev aW4 (g h:Heap):Prop:=∀b o,g.get? b=some o->h.get? b=some o
def bW (prog:Program)(w:World)(A:Around)(s0:Shared)(its:Array Value)(bt:Nat->Nat->Bool):Prop:=
 ∀(i j:Nat) (v u:Value) (h:Heap) (k:Nat) (Q E:Value->Shared->Prop),its[i]? = some v->its[j]? = some u->aW4 s0.heap h->Q (.bool (bt i j)) (at_ s0 h k)->wpAny (model prog w) A (richCompare .Lt v u) Q E (at_ s0 h k)
end
end L2
namespace Core
open PySem L2 PP
def FB (L:ad)(f:ae->Int)(r:ae):Prop:=∃i,L[i]? = some r/\(∀(j:Nat) (s:ae),j<i->L[j]? = some s->f s<f r)/\∀s∈L,f s<=f r
def nrm (l:Int×Int):Int×Int:=(min l.1 l.2,max l.1 l.2)
def inL (S:ae)(l:Int×Int):Bool:=decide (l.1∈S)&&decide (l.2∈S)
abbrev yD:eO:=aa5
def ad0 (Ep:Str->Prop):aL:=(aO (bH 1 (mL Ep t7 (a7 (a5 0) aE)))
 (aO (bH 2 (mL Ep t8 (a7 (a5 0) (a7 (a5 1) aE))))
 (aO (bH 3 (dL (xO (a5 1)) [none,none,some 2] (wI 0 1) (jF (wE (bT (a5 2) (a5 0))) (i4 (aU (aH mR (a7 (a5 2) (a7 (a5 0) (a7 (a5 1) aE))))))) (a5 1)))
 (bI (aH xH (a7 (a5 3) aE))))))
theorem aW5:oV ad0 ["web","chosen","holds","found"] yD:=by
 rintro Ep xs Q ⟨ws,ls,rfl,wb,q,qe⟩
 refine⟨_,rfl,ws,ls,rfl,wb.few,λfew=>⟨trivial,?_⟩,qe⟩
 obtain⟨q1,q⟩:=q few
 have ln:=kU ws.length
 have l12:2^ws.length<=4096:=bm0 (bt3 (by decide) few) (by decide)
 refine⟨_,rfl,_,rfl,ws,ls,rfl,wb,few,λbs bl hb=>⟨trivial,?_⟩⟩
 unfold cJ at q1 q
 have cat:∀{p:Nat}{S:ae},(aX (rng ws.length))[p]? = some S->(bs.getD p false=true↔HC ws ls S):=λ{p S} e=>hb p S e
 have sat:=λp S=>mQ ws.length p S
 have hok:=λ(p:Nat) (S:ae) (e:(aX (rng ws.length))[p]? = some S) (h:p<=bs.length)=>aa4 (bs:=bs) few e h
 have hif:=λ(p:Nat) (S:ae) (e:(aX (rng ws.length))[p]? = some S)=>aa3 (bs:=bs) (ls:=ls) e λq T _ e=>hb q T e
 generalize aX (rng ws.length)=C at *
 refine⟨_,rfl,_,.inl rfl,(λz=>by cases z),by rw[sR,c6];omega,λi acc=>acc=tups ((C.take i).filter (fP ws ls)),rfl,?_,?_⟩
 ·rintro i y acc hy rfl
  obtain⟨y,hy2,rfl⟩:=aN7 hy
  obtain⟨S,rfl,hS⟩:=mJ hy2
  have il:=(bi3.mp hS).1
  have tk:(C.take (i+1)).filter (fP ws ls)=(C.take i).filter (fP ws ls)++(if fP ws ls S=true then [S] else []):=by
   rw[bm1,hS,List.filter_append]
   congr 1
   show List.filter _ [S]=_
   simp only[bq7,List.filter_nil]
  have ix:L2.atI (fO bs) (i:Int)=some (.bl (bs.getD i false)):=jW (by show (List.map PV.bl bs)[i]? = _;rw[bi7,bh9,bh5 (by omega)];rfl)
  obtain⟨k1,k2⟩:=hok i S hS (by omega)
  have hw:=hif i S hS
  have le:=Z8 (ws:=ws) (ls:=ls) S
  refine⟨_,_,rfl,_,rfl,_,rfl,_,_,_,rfl,rfl,ix,_,rfl,?_⟩
  cases hbi:bs.getD i false with
  |false=>
   have:fP ws ls S=false:=by
    cases z:fP ws ls S with
    |false=>rfl
    |true=>
     have:=(cat hS).mpr (le.mpr (gX.mp z)).1
     rw[hbi]at this;cases this
   rw[this]at tk
   refine bD (bD ?_)
   dsimp only
   rw[tk];simp
  |true=>
   refine cA ⟨_,rfl,_,rfl,_,rfl,bs,i,S,rfl,k1,k2,_,rfl,?_⟩
   cases hwb:kW bs i S with
   |true=>
    have:fP ws ls S=false:=by
     cases z:fP ws ls S with
     |false=>rfl
     |true=>exact absurd (hw.mp hwb) (le.mpr (gX.mp z)).2
    rw[this]at tk
    refine bD ?_
    dsimp only
    rw[tk];simp
   |false=>
    have:fP ws ls S=true:=gX.mpr (le.mp ⟨(cat hS).mp hbi,λz=>by rw[hw.mpr z]at hwb;cases hwb⟩)
    rw[this]at tk
    refine cA ⟨_,rfl,aR3 _ (oN S),?_⟩
    dsimp only
    rw[tk]
    unfold tups
    rw[bk8];rfl
 rintro acc rfl
 rw[sR,c6,bl0]
 refine⟨trivial,?_⟩
 refine⟨_,rfl,C.filter (fP ws ls),rfl,q1,λy hy=>(gX.mp (bk0.mp hy).2).1,λZ pz so=>⟨trivial,q Z pz so⟩⟩
def plc (os:ae)(h:Int):Int:=os.getD h.toNat 0
structure Moved (ws os ws':ae):Prop where
 len:ws'.length=ws.length
 at_:∀h:Nat,h<ws.length->ws'[(os.getD h 0).toNat]? = ws[h]?
def mv (os:ae)(l:Int×Int):Int×Int:=nrm (plc os l.1,plc os l.2)
end Core
namespace L2
open PySem PySem.Spec PyProof.Rows
def i9:HO->Bool
 |.dK _=>true
 |.dT _=>true
 |_=>false
section
variable {X:Cx}{pins:List (Addr×Obj)}{σ:St}{H H':Hp}{s:Shared}{a:Addr}
theorem a6.frozeD {o:Obj}{u:HO}(I:a6 X pins σ H s)(h:H a=some u)(du:i9 u=true)(e:s.heap.get? a=some o):a6 X pins σ (upd H a (.frz o u)) s:=by
 have own:∀{c:Addr}{y:Addr},H c=some (.own y)->c≠a:=λ{c y} q z=>by rw[z,h]at q;cases q;cases du
 have tp:∀{c:Addr}{xs:List V},H c=some (.tup xs)->c≠a:=λ{c xs} q z=>by rw[z,h]at q;cases q;cases du
 refine I.reH (a:=a) (λb n=>a8 n) ⟨_,h⟩ (λxs q=>by rw[h]at q;cases q;cases du) (λo' v q=>by have:=I.base.frzs a o' v q;rw[h]at this;cases this;cases du) (λps q=>by rw[h]at q;cases q;cases du) λb v q=>?_
 by_cases hb:b=a
 ·subst hb
  rw[aQ]at q;cases q
  exact⟨e,(I.hok b _ h).stay (λ_ _ _ q=>q) (λc q=>by rw[a8 (own q)];exact q) λc xs q=>by rw[a8 (tp q)];exact q⟩
 ·rw[a8 hb]at q
  exact (I.hok b v q).stay (λ_ _ _ q=>q) (λc q=>by rw[a8 (own q)];exact q) λc xs q=>by rw[a8 (tp q)];exact q
end
def yE (H:Hp):HO->List V->Prop
 |.dK kvs,ys=>ys=kvs.map λp=>kV p.1
 |.dT kvs,ys=>Paired (vP H) ys (kvs.map (·.1))
 |_,_=>False
section
variable {X:Cx}{tg l:Expr}{tl:TE}
def yF (tl:TE):TI:=λσ H R=>tl σ H λx H1=>∃a u,x = .ref a/\H1 a=some u/\i9 u=true/\∀o ys,yE H1 u ys->R (U3 a o ys) (upd H1 a (.frz o u))
theorem aW6 (hl:PE X l tl):PI X tg l (yF tl):=by
 intro pins s σ H R I h
 refine aK (hl pins s σ H _ I h) λv s1 h1=>?_
 obtain⟨x,H1,I1,r1,a,u,e,ha,du,q⟩:=h1
 subst e
 cases r1
 have hf:H1 s1.heap.objs.size=none:=I1.hok.fresh (bh8 _)
 obtain⟨es,ep,ys,⟨o,e1,e2,e3⟩,far,pk,vl⟩:∃es ep ys,Raw.k7 s1.heap a es ep/\(a==sysModules)=false/\yE H1 u ys/\aF ys (es.toList.map (·.key)):=by
  cases u with
  |dK kvs=>
   obtain⟨es,ep,rw_,far,vl,z⟩:=aw8 I1 ha
   exact⟨es,ep,_,rw_,far,rfl,vl⟩
  |dT kvs=>
   obtain⟨es,ep,ys,rw_,far,pk,vl,z⟩:=aw9 I1 ha
   exact⟨es,ep,ys,rw_,far,pk,vl⟩
  |_=>cases du
 refine Raw.made far ⟨o,e1,e2,e3⟩ ?_
 refine⟨s1.heap.objs.size,[s1.heap.objs.size],_,_,upd H1 a (.frz o u),rfl,(I1.frozeD ha du e1).kept (t':=s1.toks) λb o e=>bh4 _ e,aJ6 a _ ⟨e2,e3⟩ vl,⟨_,bj2 _ rfl,rfl,rfl⟩,λb hb=>?_,q o ys pk⟩
 obtain rfl:b=s1.heap.objs.size:=by simpa using hb
 exact I1.fpOk (bh8 _) (by rw[a8 (λz=>by rw[z,ha]at hf;cases hf)];exact hf)
end
end L2
namespace PP
open PySem L2
mutual
def cY:PV->Bool
 |.tup xs=>nods xs
 |.lst xs=>nods xs
 |.kt xs=>nods xs
 |.dK _=>false
 |.dT _=>false
 |.fK _=>false
 |.fT _=>false
 |.fL xs=>nods xs
 |.non=>true
 |.bl _=>true
 |.int _=>true
 |.str _=>true
 |.scr _=>true
 |.exc _=>true
def nods:List PV->Bool
 |[]=>true
 |x::r=>cY x&&nods r
end
structure jP (M M':Addr->Prop)(H H':Hp):Prop where
 lst:∀a us,M a->H a=some (.lst us)->M' a/\H' a=some (.lst us)
 tup:∀a us,H a=some (.tup us)->H' a=some (.tup us)
 frz:∀a o u,H a=some (.frz o u)->i9 u=false->H' a=some (.frz o u)
mutual
theorem aD.keepN {K:ac}{M M':Addr->Prop}{H H':Hp}(k:jP M M' H H'):∀{v:V}{x:PV},cY x=true->aD K M H v x->aD K M' H' v x
 |_,_,_,.non=>.non
 |_,_,_,.bl b=>.bl b
 |_,_,_,.int i=>.int i
 |_,_,_,.str x=>.str x
 |_,_,f,.tup h r=>.tup (k.tup _ _ h) (Reps.keepN k (by unfold PP.cY at f;exact f) r)
 |_,_,f,.lst m h r=>.lst (k.lst _ _ m h).1 (k.lst _ _ m h).2 (Reps.keepN k (by unfold PP.cY at f;exact f) r)
 |_,_,f,.dK m h e r=>by unfold PP.cY at f;cases f
 |_,_,f,.dT m h e r=>by unfold PP.cY at f;cases f
 |_,_,_,.scr h=>.scr (h.elim (λ⟨o,e⟩=>.inl ⟨o,k.frz _ _ _ e rfl⟩) .inr)
 |_,_,f,.kt h r=>.kt h (Reps.keepN k (by unfold PP.cY at f;exact f) r)
 |_,_,_,.exc h e c=>.exc (k.frz _ _ _ h rfl) e c
 |_,_,f,.fK h e r=>by unfold PP.cY at f;cases f
 |_,_,f,.fT h e r=>by unfold PP.cY at f;cases f
 |_,_,f,.fL h r=>.fL (k.frz _ _ _ h rfl) (Reps.keepN k (by unfold PP.cY at f;exact f) r)
theorem Reps.keepN {K:ac}{M M':Addr->Prop}{H H':Hp}(k:jP M M' H H'):∀{vs:List V}{xs:List PV},nods xs=true->Reps K M H vs xs->Reps K M' H' vs xs
 |_,_,_,.nil=>.nil
 |_,_,f,.cons r t=>by
  unfold PP.nods at f
  rw[bk4]at f
  exact .cons (aD.keepN k f.1 r) (Reps.keepN k f.2 t)
end
theorem jP.froze {M M':Addr->Prop}{H:Hp}{a:Addr}{u:HO}{o:Obj}(h:H a=some u)(du:i9 u=true)(m:∀b us,M b->H b=some (.lst us)->M' b):jP M M' H (upd H a (.frz o u)):=
 ⟨λb us hb e=>⟨m b us hb e,by rw[a8 (λz=>by rw[z,h]at e;cases e;cases du)];exact e⟩,λb us e=>by rw[a8 (λz=>by rw[z,h]at e;cases e;cases du)];exact e,
  λb o' u' e _=>by rw[a8 (λz=>by rw[z,h]at e;cases e;cases du)];exact e⟩
theorem jP.thaw {M M':Addr->Prop}{H:Hp}{a:Addr}{u w:HO}{o:Obj}(h:H a=some (.frz o u))(du:i9 u=true)(m:∀b us,M b->H b=some (.lst us)->M' b):jP M M' H (upd H a w):=
 ⟨λb us hb e=>⟨m b us hb e,by rw[a8 (λz=>by rw[z,h]at e;cases e)];exact e⟩,λb us e=>by rw[a8 (λz=>by rw[z,h]at e;cases e)];exact e,
  λb o' u' e d'=>by rw[a8 (λz=>by rw[z,h]at e;cases e;rw[du]at d';cases d')];exact e⟩
mutual
theorem aW7:∀{x:PV},flat x=true->cY x=true
 |.tup xs,f=>by unfold PP.flat at f;unfold PP.cY;exact flats_nods f
 |.kt xs,f=>by unfold PP.flat at f;unfold PP.cY;exact flats_nods f
 |.lst xs,f=>by unfold PP.flat at f;cases f
 |.dK _,f=>by unfold PP.flat at f;cases f
 |.dT _,f=>by unfold PP.flat at f;cases f
 |.fK _,f=>by unfold PP.flat at f;cases f
 |.fT _,f=>by unfold PP.flat at f;cases f
 |.fL xs,f=>by unfold PP.flat at f;unfold PP.cY;exact flats_nods f
 |.non,_=>by unfold PP.cY;rfl
 |.bl _,_=>by unfold PP.cY;rfl
 |.int _,_=>by unfold PP.cY;rfl
 |.str _,_=>by unfold PP.cY;rfl
 |.scr _,_=>by unfold PP.cY;rfl
 |.exc _,_=>by unfold PP.cY;rfl
theorem flats_nods:∀{xs:List PV},flats xs=true->nods xs=true
 |[],_=>by unfold PP.nods;rfl
 |x::r,f=>by
  unfold PP.flats at f
  rw[bk4]at f
  unfold PP.nods
  rw[aW7 f.1,flats_nods f.2];rfl
end
def fz:PV->PV
 |.dK ps=>.fK ps
 |.dT ps=>.fT ps
 |x=>x
def aW8:PV->Option (List PV)
 |.dK ps=>some (ps.map λp=>kP p.1)
 |.dT ps=>some (ps.map λp=>.tup (p.1.map kP))
 |_=>none
def aW9:PV->List PV
 |.dK ps=>ps.map (·.2)
 |.dT ps=>ps.map (·.2)
 |_=>[]
section
variable {X:Cx}{σ:St}{H:Hp}{Q':VK}
theorem aX0 {K:ac}{M:Addr->Prop}{H:Hp}(k:aC):aD K M H (kV k) (kP k):=by cases k<;>constructor
end
end PP
namespace Core
open PySem L2 PP
def yG (r c:Int)(l:Int×Int):Bool:=decide (0<=l.1)&&(decide (l.1<r)&&(decide (0<=l.2)&&decide (l.2<c)))
def aX1 (l:Int×Int):aa:=[(l.1-1,l.2),(l.1,l.2-1),(l.1,l.2+1),(l.1+1,l.2)]
def yH (r c:Int)(l:Int×Int):aa:=(aX1 l).filter (yG r c)
section
variable {ls:aa}{n:Nat}{B:ae}
def ins (ls:aa)(S:ae)(h:Int):Nat:=((c7 ls h).filter λx=>decide (x∈S)).length
end
def keep2 (ls:aa)(L:ae):ae:=L.filter λh=>decide (2<=ins ls L h)
end Core
namespace L2
open PySem PySem.Spec PyProof.Rows SO
abbrev kk (l:Int×Int):List aC:=[Sum.inl l.1,Sum.inl l.2]
end L2
namespace Core
open PySem L2 PP
inductive oY (r c:Int)(S:aa):Int×Int->Prop
 |seed {x:Int×Int}:x∈S->oY r c S x
 |kin {x a b:Int×Int}:yG r c x=true->a∈yH r c x->b∈yH r c x->a≠b->oY r c S a->oY r c S b->oY r c S x
def nbC (r c:Int)(P:aa)(x:Int×Int):Nat:=(P.filter λp=>decide (x∈yH r c p)).length
structure Wk (r c:Int)(S K P:aa):Prop where
 nd:K.Nodup
 ndP:P.Nodup
 sub:∀x∈P,x∈K
 brn:∀x∈K,oY r c S x
 sd:∀x∈S,x∈K
 bd:∀x∈K,yG r c x=true
 low:∀x,x∉K->nbC r c P x<2
theorem aX2 {α:Type}{l:List α}{i:Nat}{x:α}(nd:l.Nodup)(h:l[i]? = some x):x∉l.take i:=λz=>by
 have:(l.take (i+1)).Nodup:=nd.sublist (List.take_sublist _ _)
 rw[bm1,h]at this
 exact (bv4.mp this).2.2 x z x (by simp) rfl
end Core
namespace L2
open PySem PySem.Spec PyProof.Rows SO
abbrev kn (ns:ae):List aC:=ns.map Sum.inl
end L2
namespace Core
open PySem L2 PP
structure Bx where
 t:Int
 l:Int
 b:Int
 r:Int
deriving DecidableEq
def Bx.k (x:Bx):ae:=[x.t,x.l,x.b,x.r]
def okX (x:Bx):Prop:=x.t<=x.b/\x.l<=x.r
def inX (x:Bx)(p:Int×Int):Prop:=x.t<=p.1/\p.1<=x.b/\x.l<=p.2/\p.2<=x.r
def ad1 (x a:Int×Int):Prop:=(a.1=x.1/\(a.2=x.2-1∨a.2=x.2+1))∨(a.2=x.2/\(a.1=x.1-1∨a.1=x.1+1))
def Clo (B:Bx)(U:Int×Int->Prop):Prop:=∀x a b,inX B x->ad1 x a->ad1 x b->a≠b->U a->U b->U x
section
variable {B:Bx}{U:Int×Int→Prop}
variable {t l b r:Int}
section
variable (cl:Clo B U){p1 p2:Int}(u:U (p1, p2))(ip:inX B (p1, p2))
include cl u ip
end
end
theorem tL {i:Nat}{x:PV}{g:Bool}{ρ:aZ}{Q:aZ->Prop}(f:flat x=true)(q:Q (ρ.set i (some (.sh true x)))):bB i x g ρ Q:=by
 unfold bB
 rw[f,Bool.or_true]
 exact q
abbrev bxP (x:Bx):PV:=.tup (intz x.k)
section
variable {ns:ae}{a r c z t l:Int}{Q:PV→Prop}(q:∀x:Bx, Q (bxP x))
include q
end
def mU:bA:=λxs Q=>∃ws ls S,xs = [bC ws ls,.tup (intz S)]/\Wb ws ls/\(∀x∈S,x∈rng ws.length)/\Q (.bl (decide (stay ws ls S=S)))
abbrev ad2:aL:=aV2
theorem aX3:cQ ad2 ["web","block","beside","hearth"] mU:=by
 rintro xs Q ⟨ws,ls,S,rfl,wb,inn,q⟩
 refine⟨_,rfl,ws,ls,rfl,wb,trivial,?_⟩
 refine⟨_,rfl,_,rfl,(λ_=>oN S),λi ρ=>(∀x∈S.take i,jN ws ls S x=true)/\∃y,ρ = [some (.sh (flat (bC ws ls)) (bC ws ls)),some (.sh (flat (.tup (intz S))) (.tup (intz S))),some (.sh true (.lst (oO ws.length ls))),y],⟨λx hx=>(by rw[List.take_zero]at hx;cases hx),none,rfl⟩,?_,?_⟩
 ·rintro i y ρ hy ⟨inv,y0,rfl⟩
  obtain⟨h,rfl,hi⟩:=gD hy
  have hb:=fN.mp (inn h (bj5 hi))
  have gw:ws[h.toNat]? = some (ws.getD h.toNat 0):=by
   rw[bh9,bh5 (by omega)];rfl
  have ix:L2.atI (intz ws) h=some (.int (ws.getD h.toNat 0)):=by
   have:=jW (xs:=intz ws) (j:=h.toNat) (by rw[bi7,gw];rfl)
   rwa [show ((h.toNat:Nat):Int)=h by omega]at this
  refine gE ?_
  refine⟨_,rfl,_,rfl,_,_,_,rfl,rfl,V6 hb.1 hb.2,_,rfl,(λz=>by cases z),?_,λj acc=>acc=intz (((c7 ls h).take j).filter λx=>!decide (x∈S)),rfl,?_,?_⟩
  ·rw[b8];have:=lP ls h;have:=wb.most;omega
  ·rintro j z acc hz rfl
   obtain⟨n,rfl,hn⟩:=gD hz
   have tk:=mI (p:=λz=>!decide (z∈S)) hn
   refine⟨_,rfl,_,rfl,n,S,rfl,rfl,_,rfl,?_⟩
   show if (!decide (n∈S))=true then _ else _
   by_cases hm:n∈S
   ·rw[bi9 hm]at tk ⊢
    refine bD ?_
    dsimp only
    rw[tk];exact congrArg intz (bn4 _).symm
   ·rw[bi2 hm]at tk ⊢
    refine cA ⟨_,rfl,trivial,?_⟩
    dsimp only
    rw[tk,gV];rfl
  ·rintro acc rfl
   rw[b8,bl0]
   refine⟨_,_,rfl,rfl,_,rfl,_,_,_,rfl,rfl,rfl,_,rfl,_,_,_,rfl,rfl,ix,_,_,rfl,rfl,_,rfl,?_⟩
   rw[b8,aQ7]
   dsimp only
   have st:jN ws ls S h=decide (dY (c7 ls h) S<ws.getD h.toNat 0):=rfl
   by_cases c:dY (c7 ls h) S<ws.getD h.toNat 0
   ·rw[bi2 (by omega)]
    refine bD ⟨λx hx=>?_,_,rfl⟩
    rw[bm1,hi]at hx
    rcases bl5.mp hx with hx|hx
    ·exact inv x hx
    ·rw[bi6.mp hx,st];exact bi9 c
   ·rw[bi9 (by omega)]
    have:decide (stay ws ls S=S)=false:=bi2 λe=>by
     have:=bu0.mp e h (bj5 hi)
     rw[st,bk3]at this;exact c this
    rw[this]at q
    exact cA ⟨trivial,q⟩
 ·rintro ρ ⟨inv,y,rfl⟩
  rw[b8,bl0]at inv
  have:decide (stay ws ls S=S)=true:=bi9 (bu0.mpr inv)
  rw[this]at q
  exact⟨trivial,q⟩
section
variable {ls:aa}{n:Nat}{U:ae}{v:Int}
noncomputable def mu (ls:aa)(U:ae):Int:=((ls.filter (inL U)).length:Int)-(U.length:Int)+((aS4 ls U).length:Int)
end
abbrev Wys:=List (Int×ae)
section
variable {ls:aa}{l:Int×Int}{n:Nat}{S U:ae}{h x y:Int}
theorem aX4 (hS:cR n S=true):S.Nodup:=(kR (i7 hS).1).imp λh=>Int.ne_of_lt h
end
abbrev Prs:=List (Int×Option Int)
abbrev oZ:=List (Int×ae)
def ksB (W:oZ):ae:=W.map (·.1)
section
variable {ws:ae}{n:Nat}{ls:aa}{P:Prs}{W T:oZ}{D B:ae}{h x y c:Int}{e:Option Int}
structure nX (P:Prs)(W:oZ)(D:ae)(x:Int)(B:ae):Prop where
 self:x∈B
 nd:B.Nodup
 up:∀y∈B,y=x∨(y∈ksB W/\∃e,(y,some e)∈P/\e∈B)
 dn:∀y∈B,∀c,(c,some y)∈P->c∈ksB W->c∈B
 inn:∀y∈B,y∈D
end
theorem ad3 {i:Nat}{b:ae}{g:Bool}{ρ:aZ}{Q:aZ->Prop}(q:Q (ρ.set i (some (.sh true (.tup (intz b)))))):bB i (.tup (intz b)) g ρ Q:=by
 show Q (ρ.set i (some (.sh (g||flats (intz b)) (.tup (intz b)))))
 rw[cE,Bool.or_true];exact q
abbrev Led:=aa
def IsL (y:PV)(L:Led):Prop:=y = .tup (dD L)∨y = .lst (dD L)
end Core
namespace PP
open PySem L2
abbrev Cau:=Option (Int×ae)
end PP
namespace L2
open PySem PySem.Spec PyProof.Rows
abbrev Cx.re (X:Cx)(H0:Hp):Cx:={ X with H₀:=H0 }
section
variable {X:Cx}{pins:List (Addr×Obj)}{σ:St}{H:Hp}{s:Shared}{a:Addr}{o:Obj}{u:HO}
theorem a6.re (I:a6 X pins σ H s)(hx:X.H₀ a=some u)(ha:H a=some (.frz o u)):a6 (X.re (upd X.H₀ a (.frz o u))) pins σ H s:=by
 have ne:∀b,X.H₀ b=none->b≠a:=λb e z=>by rw[z,hx]at e;cases e
 have un:∀b,upd X.H₀ a (.frz o u) b=none->X.H₀ b=none:=λb e=>by
  by_cases z:b=a
  ·rw[z,aQ]at e;cases e
  ·rw[a8 z]at e;exact e
 have ok:=I.ok
 exact⟨⟨ok.mod,ok.kind,ok.glob,ok.blt,ok.above,ok.inj,ok.has,ok.cab,ok.hd,ok.frames,ok.stk,ok.exf,λb o' e=>⟨(ok.bs b o' e).1,by show upd X.H₀ a _ b=none;rw[a8 (ne b (ok.bs b o' e).2)];exact (ok.bs b o' e).2⟩,ok.bsz,ok.noex,ok.exfs,ok.funs,λb hb=>by show upd X.H₀ a _ b=none;rw[a8 (ne b (ok.frf b hb))];exact ok.frf b hb⟩,I.os,I.bare,
  ⟨λb o' e n=>I.base.keep b o' e (un b n),λb o' e n=>I.base.slot b o' e (un b n),λb o' e n=>I.base.free b o' e (un b n),I.base.there,λb xs e=>by
   by_cases z:b=a
   ·have e:upd X.H₀ a (.frz o u) b=some (.tup xs):=e
    rw[z,aQ]at e;cases e
   ·exact I.base.tups b xs (by have e:upd X.H₀ a (.frz o u) b=some (.tup xs):=e;rw[a8 z]at e;exact e),λb o' v e=>by
   by_cases z:b=a
   ·have e:upd X.H₀ a (.frz o u) b=some (.frz o' v):=e
    rw[z,aQ]at e;cases e;rw[z];exact ha
   ·exact I.base.frzs b o' v (by have e:upd X.H₀ a (.frz o u) b=some (.frz o' v):=e;rw[a8 z]at e;exact e),λb ps e=>by
   by_cases z:b=a
   ·have e:upd X.H₀ a (.frz o u) b=some (.tbl ps):=e
    rw[z,aQ]at e;cases e
   ·exact I.base.tbls b ps (by have e:upd X.H₀ a (.frz o u) b=some (.tbl ps):=e;rw[a8 z]at e;exact e)⟩,I.loc,I.cell,I.free,I.freeC,I.pin,I.hok,I.len⟩
theorem a6.unre (I:a6 (X.re (upd X.H₀ a (.frz o u))) pins σ H s)(hx:X.H₀ a=some u)(du:i9 u=true):a6 X pins σ H s:=by
 have ne:∀b,X.H₀ b=none->b≠a:=λb e z=>by rw[z,hx]at e;cases e
 have to_:∀b,X.H₀ b=none->upd X.H₀ a (.frz o u) b=none:=λb e=>by rw[a8 (ne b e)];exact e
 have un:∀b,upd X.H₀ a (.frz o u) b=none->X.H₀ b=none:=λb e=>by
  by_cases z:b=a
  ·rw[z,aQ]at e;cases e
  ·rw[a8 z]at e;exact e
 have ok:=I.ok
 exact⟨⟨ok.mod,ok.kind,ok.glob,ok.blt,ok.above,ok.inj,ok.has,ok.cab,ok.hd,ok.frames,ok.stk,ok.exf,λb o' e=>⟨(ok.bs b o' e).1,un b (ok.bs b o' e).2⟩,ok.bsz,ok.noex,ok.exfs,ok.funs,λb hb=>un b (ok.frf b hb)⟩,I.os,I.bare,
  ⟨λb o' e n=>I.base.keep b o' e (to_ b n),λb o' e n=>I.base.slot b o' e (to_ b n),λb o' e n=>I.base.free b o' e (to_ b n),I.base.there,λb xs e=>I.base.tups b xs (by
   show upd X.H₀ a _ b=_
   rw[a8 λz=>by rw[z,hx]at e;cases e;cases du];exact e),λb o' v e=>I.base.frzs b o' v (by
   show upd X.H₀ a _ b=_
   rw[a8 λz=>by rw[z,hx]at e;cases e;cases du];exact e),λb ps e=>I.base.tbls b ps (by
   show upd X.H₀ a _ b=_
   rw[a8 λz=>by rw[z,hx]at e;cases e;cases du];exact e)⟩,I.loc,I.cell,I.free,I.freeC,I.pin,I.hok,I.len⟩
structure ReH (H0 H1:Hp)(a:Addr)(o:Obj)(u:HO):Prop where
 how:(H0 a=none/\H1=H0)∨(H0 a=some u/\H1=upd H0 a (.frz o u))
 was:∀w,H0 a=some w->w=u
def tRe (X:Cx)(T:Hp->TS):TS:=λD σ H=>∃H1 a o u,ReH X.H₀ H1 a o u/\i9 u=true/\H a=some (.frz o u)/\T H1 D σ H
theorem aX5 {body:List Stmt}{T:Hp->TS}(hb:∀H0,dE (X.re H0) body (T H0)):dE X body (tRe X T):=by
 intro pins s σ H D I h
 obtain⟨H1,a,o,u,⟨how,_⟩,du,ha,t⟩:=h
 rcases how with⟨_,rfl⟩|⟨hx,rfl⟩
 ·exact hb X.H₀ pins s σ H D I t
 ·refine aK (hb (upd X.H₀ a (.frz o u)) pins s σ H D (I.re hx ha) t) λf s1 h1=>?_
  cases f with
  |next=>obtain⟨σ',H',I',q⟩:=h1;exact⟨σ',H',I'.unre hx du,q⟩
  |brk=>obtain⟨σ',H',I',q⟩:=h1;exact⟨σ',H',I'.unre hx du,q⟩
  |cont=>obtain⟨σ',H',I',q⟩:=h1;exact⟨σ',H',I'.unre hx du,q⟩
  |ret v=>obtain⟨w,σ',H',I',q⟩:=h1;exact⟨w,σ',H',I'.unre hx du,q⟩
def ad4 (X:Cx)(i:Nat)(g:TG)(tb:TS):TS:=λD σ H=>pE (yF (dQ i)) g tb { nx:=λσ' H'=>∃a o u,H' a=some (.frz o u)/\(∀o' v',X.H₀ a≠some (.frz o' v'))/\D.nx σ' (upd H' a u),rt:=λ_ _=>False } σ H
theorem aX6 {st:Stmt}{i:Nat}{g:TG}{tb:TS}(h:PS X st (pE (yF (dQ i)) g tb)):PS X st (ad4 X i g tb):=by
 intro pins s σ H D I hq
 refine aK (h pins s σ H _ I hq) λf s1 h1=>?_
 cases f with
 |next=>
  obtain⟨σ',H1,I1,a,o,u,e,n,q⟩:=h1
  exact⟨σ',_,I1.thaw e n,q⟩
 |brk=>obtain⟨_,_,_,q⟩:=h1;exact q.elim
 |cont=>obtain⟨_,_,_,q⟩:=h1;exact q.elim
 |ret v=>obtain⟨_,_,_,_,_,q⟩:=h1;exact q.elim
end
end L2
namespace PP
open PySem L2
def p5:Slot->Bool
 |.sh _ x=>cY x
 |.own (.lst xs)=>nods xs
 |.own (.dK ps)=>nods (ps.map (·.2))
 |.own (.dT ps)=>nods (ps.map (·.2))
 |.own _=>false
section
variable {K:ac}{H0 H1:Hp}{W:Addr→Prop}{σ:St}{ρ:aZ}{H:Hp}{a:Addr}{o:Obj}{u:HO}
theorem _root_.L2.ReH.nn (R:ReH H0 H1 a o u)(b:Addr):H1 b=none↔H0 b=none:=by
 rcases R.how with⟨_,rfl⟩|⟨e,rfl⟩
 ·exact Iff.rfl
 ·by_cases z:b=a
  ·rw[z,aQ,e];exact⟨(λz=>by cases z),λz=>by cases z⟩
  ·rw[a8 z]
theorem _root_.L2.ReH.off (R:ReH H0 H1 a o u){b:Addr}(z:b≠a):H1 b=H0 b:=by
 rcases R.how with⟨_,rfl⟩|⟨e,rfl⟩
 ·rfl
 ·rw[a8 z]
theorem ad5 (R:ReH H0 H1 a o u){g:Bool}{b:Addr}:Ms H0 W g b↔Ms H1 W g b:=by
 cases g with
 |true=>exact and_congr Iff.rfl (R.nn b).symm
 |false=>exact Iff.rfl
theorem aX7 (R:ReH H0 H1 a o u){H':Hp}{m:Slot}{v:V}(sf:p5 m=true)(kn:∀g,jP (Ms H0 W g) (Ms H1 W g) H H')(km:∀b w,W b->H b=some w->H' b=some w)(r:qG K H0 W H v m):qG K H1 W H' v m:=by
 cases m with
 |sh g x=>exact aD.keepN (kn g) sf r
 |own x=>
  obtain⟨b,e1,wb,r⟩:=r
  refine⟨b,e1,wb,?_⟩
  cases x with
  |lst xs=>obtain⟨us,e,r⟩:=r;exact⟨us,km b _ wb e,Reps.keepN (kn true) sf r⟩
  |dK ps=>obtain⟨us,e,q,r⟩:=r;exact⟨us,km b _ wb e,q,Reps.keepN (kn true) sf r⟩
  |dT ps=>obtain⟨us,e,q,r⟩:=r;exact⟨us,km b _ wb e,q,Reps.keepN (kn true) sf r⟩
  |_=>cases sf
theorem aX8 {i:Nat}{x:PV}(px:PX K H0 W σ ρ H)(R:ReH H0 H1 a o u)(ha:H a=some u)(du:i9 u=true)(wa:¬W a)(ev:σ[i]? = some (some (.ref a)))(sf:∀j m,j≠i->ρ[j]? = some (some m)->p5 m=true)(rf:aD K (λb=>¬W b) (upd H a (.frz o u)) (.ref a) (fz x)):PX K H1 W σ (ρ.set i (some (.sh false (fz x)))) (upd H a (.frz o u)):=by
 have nw:∀b,W b->b≠a:=λb z e=>wa (e▸z)
 refine⟨by rw[bm9];exact px.len,λb w e=>?_,λb z=>?_,λj m h=>?_,λj k y z b h1 h2 h3 h4=>?_⟩
 ·by_cases z:b=a
  ·subst z
   rcases R.how with⟨n0,rfl⟩|⟨e0,rfl⟩
   ·rw[n0]at e;cases e
   ·rw[aQ]at e ⊢;exact e
  ·rw[a8 z];rw[R.off z]at e;exact px.same _ _ e
 ·obtain⟨h1,w,h2,h3⟩:=px.wm b z
  exact⟨(R.nn b).mpr h1,w,by rw[a8 (nw b z)];exact h2,h3⟩
 ·rcases dI h with⟨rfl,hl,e⟩|⟨hne,h⟩
  ·cases e
   exact⟨_,ev,rf⟩
  ·obtain⟨v,e,r⟩:=px.sl j m h
   exact⟨v,e,aX7 R (sf j m hne h) (λg=>.froze ha du λb us hb _=>(ad5 R).mp hb) (λb w wb e=>by rw[a8 (nw b wb)];exact e) r⟩
 ·rcases dI h1 with⟨_,_,e⟩|⟨_,h1⟩
  ·cases e
  ·rcases dI h2 with⟨_,_,e⟩|⟨_,h2⟩
   ·cases e
   ·exact px.dis j k y z b h1 h2 h3 h4
theorem aX9 {ρ3:aZ}{H2:Hp}(px:PX K H1 W σ ρ H2)(R:ReH H0 H1 a o u)(ha:H2 a=some (.frz o u))(du:i9 u=true)(wa:¬W a)(hl:ρ3.length=ρ.length)(sf:∀(j:Nat) m,ρ3[j]? = some (some m)->ρ[j]? = some (some m)/\p5 m=true):PX K H0 W σ ρ3 (upd H2 a u):=by
 have nw:∀b,W b->b≠a:=λb z e=>wa (e▸z)
 have kn:∀g,jP (Ms H1 W g) (Ms H0 W g) H2 (upd H2 a u):=λg=>.thaw ha du λb us hb _=>(ad5 R).mpr hb
 refine⟨by rw[hl];exact px.len,λb w e=>?_,λb z=>?_,λj m h=>?_,λj k y z b h1 h2 h3 h4=>px.dis j k y z b (sf _ _ h1).1 (sf _ _ h2).1 h3 h4⟩
 ·by_cases z:b=a
  ·subst z
   rw[R.was w e,aQ]
  ·rw[a8 z];rw[<- R.off z]at e;exact px.same _ _ e
 ·obtain⟨h1,w,h2,h3⟩:=px.wm b z
  exact⟨(R.nn b).mp h1,w,by rw[a8 (nw b z)];exact h2,h3⟩
 ·obtain⟨h1,h2⟩:=sf j m h
  obtain⟨v,e,r⟩:=px.sl j m h1
  refine⟨v,e,?_⟩
  cases m with
  |sh g x=>exact aD.keepN (kn g) h2 r
  |own x=>
   obtain⟨b,e1,wb,r⟩:=r
   have km:∀w,H2 b=some w->upd H2 a u b=some w:=λw e=>by rw[a8 (nw b wb)];exact e
   refine⟨b,e1,wb,?_⟩
   cases x with
   |lst xs=>obtain⟨us,e,r⟩:=r;exact⟨us,km _ e,Reps.keepN (kn true) h2 r⟩
   |dK ps=>obtain⟨us,e,q,r⟩:=r;exact⟨us,km _ e,q,Reps.keepN (kn true) h2 r⟩
   |dT ps=>obtain⟨us,e,q,r⟩:=r;exact⟨us,km _ e,q,Reps.keepN (kn true) h2 r⟩
   |_=>cases h2
end
section
variable {X:Cx}{σ:St}{H:Hp}{D:cW}
def tM (i:Nat)(p:gQ)(tb:aL):aL:=λD ρ=>∃x ks,ρ[i]? = some (some (.sh false x))/\aW8 x=some ks/\nods (aW9 x)=true/\(∀j m,j≠i->ρ[j]? = some (some m)->p5 m=true)/\∃I:Nat->aZ->Prop,I 0 (ρ.set i (some (.sh false (fz x))))/\
 (∀k y ρ',ks[k]? = some y->I k ρ'->p y true ρ' λρ2=>tb { nx:=I (k+1),ct:=I (k+1),rt:=λ_=>False } ρ2)/\∀ρ',I ks.length ρ'->∃ρ3,ρ3.length=ρ'.length/\(∀(j:Nat) m,ρ3[j]? = some (some m)->ρ'[j]? = some (some m)/\p5 m=true)/\D.nx ρ3
theorem aY0 {i:Nat}{p:gQ}{g:TG}{tb:aL}{own:Nat->Prop}(hg:kE X.K own p g)(h:LS X (tM i p tb) D σ H):ad4 X i g (tRe X λH1=>LS (X.re H1) tb) D σ H:=by
 obtain⟨W,ρ,D',px,⟨x,ks,hi,hk,nv,sf,I,i0,turn,fin⟩,k⟩:=h
 obtain⟨v,ev,r⟩:=px.sl i _ hi
 have r:aD X.K (λb=>¬W b) H v x:=r
 have tupW:∀{b:Addr}{us:List V},H b=some (.tup us)->¬W b:=λ{b us} e z=>by
  obtain⟨_,w,e2,m⟩:=px.wm b z
  rw[e]at e2;cases e2;cases m
 obtain⟨a,u,rfl,ha,du,wa,frz,keys⟩:∃a u,v = .ref a/\H a=some u/\i9 u=true/\¬W a/\(∀o:Obj,aD X.K (λb=>¬W b) (upd H a (.frz o u)) (.ref a) (fz x))/\
   ∀ys,yE H u ys->ys.length=ks.length/\∀(o:Obj) (W':Addr->Prop) (H':Hp) (M:Addr->Prop) (j:Nat) (y:V),Ev W (upd H a (.frz o u)) W' H'->ys[j]? = some y->∃x,ks[j]? = some x/\aD X.K M H' y x:=by
  cases r with
  |@dK a kvs ps wa ha ek rv=>
   cases hk
   refine⟨a,_,rfl,ha,rfl,wa,λo=>.fK aQ ek (Reps.keepN (.froze ha rfl λb us hb _=>hb) nv rv),λys ky=>?_⟩
   obtain rfl:ys=kvs.map λp=>kV p.1:=ky
   have lk:=qY ek
   refine⟨by rw[bi1,bi1];exact lk,λo W' H' M j y s hy=>?_⟩
   rw[bi7]at hy
   cases e:kvs[j]? with
   |none=>rw[e]at hy;cases hy
   |some kv=>
    rw[e]at hy;cases hy
    have:(kvs.map (·.1))[j]? = some kv.1:=by rw[bi7,e];rfl
    rw[ek,bi7]at this
    cases e2:ps[j]? with
    |none=>rw[e2]at this;cases this
    |some pp=>
     rw[e2]at this
     have e3:pp.1=kv.1:=bk2 this
     exact⟨kP pp.1,by rw[bi7,e2];rfl,by rw[e3];exact aX0 kv.1⟩
  |@dT a kvs ps wa ha ek rv=>
   cases hk
   refine⟨a,_,rfl,ha,rfl,wa,λo=>.fT aQ ek (Reps.keepN (.froze ha rfl λb us hb _=>hb) nv rv),λys ky=>?_⟩
   have ky:Paired (vP H) ys (kvs.map (·.1)):=ky
   have lk:=qY ek
   have ll:=ky.length
   rw[bi1]at ll
   refine⟨by rw[bi1];omega,λo W' H' M j y s hy=>?_⟩
   obtain⟨key,hkey,q2,rfl,hq2⟩:=Z1 ky hy
   rw[ek,bi7]at hkey
   cases e2:ps[j]? with
   |none=>rw[e2]at hkey;cases hkey
   |some pp=>
    rw[e2]at hkey
    have e3:pp.1=key:=bk2 hkey
    refine⟨.tup (pp.1.map kP),by rw[bi7,e2];rfl,?_⟩
    rw[e3]
    exact .tup (s _ _ (by rw[a8 (λz=>by rw[z,ha]at hq2;cases hq2)];exact hq2) (tupW hq2)).1 (Reps.keys key)
  |_=>cases hk
 refine⟨_,ev,a,u,rfl,ha,du,λo ys pk=>?_⟩
 obtain⟨lk,kys⟩:=keys ys pk
 obtain⟨H1,R⟩:∃H1,ReH X.H₀ H1 a o u:=by
  cases e:X.H₀ a with
  |none=>exact⟨X.H₀,.inl ⟨e,rfl⟩,λw z=>by rw[e]at z;cases z⟩
  |some w=>
   have:=px.same _ _ e
   rw[ha]at this;cases this
   exact⟨_,.inr ⟨e,rfl⟩,λw z=>by rw[e]at z;cases z;rfl⟩
 have nofr:∀o' v',X.H₀ a≠some (.frz o' v'):=λo' v' e=>by have:=px.same _ _ e;rw[ha]at this;cases this;cases du
 refine⟨λj m σ2 H2=>m=ks.length-j/\j<=ks.length/\∃W2 ρ2,PX X.K H1 W2 σ2 ρ2 H2/\Ev W (upd H a (.frz o u)) W2 H2/\I j ρ2,⟨ks.length,by omega,bl4 _,W,_,aX8 px R ha du wa ev sf (frz o),Ev.refl _ _,i0⟩,?_⟩
 rintro j m σ2 H2 ⟨rfl,hj,W2,ρ2,px2,e2,i2⟩
 obtain⟨fro,wa2⟩:=e2 _ _ aQ wa
 by_cases hlt:j<ks.length
 ·refine .inr ⟨⟨⟨_,fro⟩,by omega⟩,λσ3 H3=>∃W3 ρ3,PX X.K H1 W3 σ3 ρ3 H3/\Ev W (upd H a (.frz o u)) W3 H3/\I (j+1) ρ3,λσ3 H3 ⟨W3,ρ3,a,b,c⟩=>⟨ks.length-(j+1),by omega,rfl,hlt,W3,ρ3,a,b,c⟩,λv H3 y=>?_⟩
  obtain⟨rfl,hy⟩:=y
  obtain⟨x',hx,rx⟩:=kys o W2 H3 (Ms H1 W2 true) j v e2 hy
  refine hg H1 W2 σ2 ρ2 H3 v x' true _ _ px2 rx (turn j x' ρ2 hx i2) λσ4 ρ4 px4 _ _ q4=>?_
  exact⟨H1,a,o,u,R,du,fro,W2,ρ4,_,px4,q4,λW' σ' H' ρ' e p q=>⟨W',ρ',p,e2.trans e,q⟩,(λ_ _ _ _ _ z=>z.elim),(λ_ _ _ _ _ _ z=>z.elim),λW' σ' H' ρ' e p q=>⟨W',ρ',p,e2.trans e,q⟩⟩
 ·obtain rfl:j=ks.length:=by omega
  obtain⟨ρ3,hl,h3,q⟩:=fin ρ2 i2
  refine .inl ⟨⟨⟨_,fro⟩,lk.symm⟩,a,o,u,fro,nofr,k.nx W2 σ2 _ ρ3 (λb w e n=>?_) (aX9 px2 R fro du wa2 hl h3) q⟩
  by_cases hb:b=a
  ·subst hb
   rw[ha]at e;cases e
   exact⟨aQ,wa2⟩
  ·rw[a8 hb]
   exact e2 b w (by rw[a8 hb];exact e) n
end
section
variable {X:Cx}{e:Expr}{t:aL}{pos:Pos}
theorem aY1 {tg:Expr}{p:gQ}{g:TG}{own:Nat->Prop}{body:List Stmt}{d:Nat}{y:Str}{yp:Pos}(hp:PassesOwn (model X.prog X.w) X.A X.env X.xe)(hc:X.calm=true)(hi:PE X (.Name y yp) (dQ d))(hg:PG X tg g)(ho:kE X.K own p g)(hb:∀H0,dW (X.re H0) body t)(hs:∀x,foldedSetIterable (.Name y yp) X.env x=pure x:=by intro _;rfl) :
  QS X (.For tg (.Name y yp) body [] pos) (tM d p t):=eB (aX6 (pG hp hc (aW6 hi) hg (aX5 hb) hs)) λ_ _ _ h=>aY0 ho h
theorem aY2 (d i:Nat){x y:Str}{tp yp:Pos}{body:List Stmt}(hN:X.N.Nodup)(hb:∀H0,dW (X.re H0) body t)(hi:PE X (.Name y yp) (dQ d):=by exact pv _)(hx:X.N[i]? = some x:=by rfl)(hl:j4 X.env.scope x:=by first|exact Or.inl rfl|exact Or.inr rfl)(hf:X.fn x=true∨X.env.scope.names.lookup x=some .local:=by first|exact .inl rfl|exact .inr rfl)(hp:PassesOwn (model X.prog X.w) X.A X.env X.xe:=by exact PassesOwn.never)(hc:X.calm=true:=by rfl)(hs:∀x,foldedSetIterable (.Name y yp) X.env x=pure x:=by intro _;rfl):QS X (.For (.Name x tp) (.Name y yp) body [] pos) (tM d (bB i) t):=
 aY1 hp hc hi (eD hN hx hl hf) (o5 _ i) hb hs
end
end PP
namespace L2
open PySem PySem.Spec PyProof.Rows
section
variable {X:Cx}{pins:List (Addr×Obj)}{σ:St}{H H':Hp}{s:Shared}{a:Addr}
theorem a6.frozeL {o:Obj}{us:List V}(I:a6 X pins σ H s)(h:H a=some (.lst us))(e:s.heap.get? a=some o):a6 X pins σ (upd H a (.frz o (.lst us))) s:=by
 have own:∀{c:Addr}{y:Addr},H c=some (.own y)->c≠a:=λ{c y} q z=>by rw[z,h]at q;cases q
 have tp:∀{c:Addr}{xs:List V},H c=some (.tup xs)->c≠a:=λ{c xs} q z=>by rw[z,h]at q;cases q
 refine I.reH (a:=a) (λb n=>a8 n) ⟨_,h⟩ (λxs q=>by rw[h]at q;cases q) (λo' v q=>by have:=I.base.frzs a o' v q;rw[h]at this;cases this) (λps q=>by rw[h]at q;cases q) λb v q=>?_
 by_cases hb:b=a
 ·subst hb
  rw[aQ]at q;cases q
  exact⟨e,(I.hok b _ h).stay (λ_ _ _ q=>q) (λc q=>by rw[a8 (own q)];exact q) λc xs q=>by rw[a8 (tp q)];exact q⟩
 ·rw[a8 hb]at q
  exact (I.hok b v q).stay (λ_ _ _ q=>q) (λc q=>by rw[a8 (own q)];exact q) λc xs q=>by rw[a8 (tp q)];exact q
def ad6 (t:TE):TE:=λσ H Q=>t σ H λv H1=>∃a us,v = .ref a/\H1 a=some (.lst us)/\∀o,Q v (upd H1 a (.frz o (.lst us)))
theorem aY3 {e:Expr}{t:TE}(h:PE X e t):PE X e (ad6 t):=by
 intro pins s σ H Q I hq
 refine aK (h pins s σ H _ I hq) λv s1 h1=>?_
 obtain⟨x,H1,I1,r1,a,us,ex,ea,q⟩:=h1
 obtain⟨_,_,_,_,ho⟩:=(show b7 X.prog X.w H1 s1.heap a (.lst us) from I1.hok a _ ea)
 exact⟨x,_,I1.frozeL ea ho,r1,q _⟩
end
section
variable {prog:Program}{w:World}{A:Around}{E:Value→Shared→Prop}{s:Shared}{env:Env}
theorem aY4 {k v:Expr}{pos:Pos}{Q:Value->Shared->Prop}(h:wpAny (model prog w) A (evalPairs (pairTrees [some k] [v] env pos)) (λvs s₁=>∃x y,vs = [(x,y)]/\wpAny (model prog w) A (dictSet s.heap.objs.size x y) (λ_ s2=>Q (.ref s.heap.objs.size) s2) E s₁) E
   { s with heap:=s.heap.push { cls:=.type "dict",data:=.dict #[] } }) :
  wpAny (model prog w) A (eval (.Dict [some k] [v] pos) env) Q E s:=by
 have hn:=pairTrees_length [some k] [v] env pos rfl rfl
 have h0:pairTrees [some k] [v] env pos≠[]:=λz=>by rw[z]at hn;cases hn
 have hl:(pairTrees [some k] [v] env pos).length<=15:=by rw[hn];show 1<=15;decide
 rw[arm_eval_Dict,zip_pairTrees [some k] [v] env pos rfl rfl,dictDisplay_pairs _ h0 (by omega)]
 refine bh3 (wpAny_standAt (bh3 ?_))
 unfold subDict
 refine bh3 (wpAny_alloc ?_)
 refine bh3 (br3 ?_)
 rw[if_pos hl]
 refine bh3 (bo6 h (λvs s₁ h₁=>?_) λ_ _ e=>e)
 obtain⟨x,y,rfl,h₁⟩:=h₁
 refine br3 (bh3 ?_)
 rw[List.forIn_cons]
 refine bh3 (bh3 (bo6 h₁ (λ_ s2 q=>bi0 ?_) λ_ _ e=>e))
 show wpAny (model prog w) A (forIn ([]:List (Value×Value)) PUnit.unit _) _ E s2
 rw[List.forIn_nil]
 exact bi0 (bi0 (bi0 (bi0 q)))
end
section
variable {X:Cx}{pos:Pos}{k v:Expr}{tk tv:TE}
def ad7 (tk tv:TE):TE:=λσ H Q=>∀p,H p=none->v5 [(tk,tv)] σ (upd H p (.dT [])) λps H2=>∃x y,ps = [(x,y)]/\H2 p=some (.dT [])/\∃b ks,x = .ref b/\H2 b=some (.tup (List.map kV ks))/\Q (.ref p) (upd H2 p (.dT [(ks,y)]))
theorem aY5 (hu:X.A.units+1<cLine)(hk:PE X k tk)(hv:PE X v tv):PE X (.Dict [some k] [v] pos) (ad7 tk tv):=by
 intro pins s σ H Q I q
 have hn:=I.hok.fresh (bh8 s.heap.objs.size)
 have I1:=I.laid (a:=s.heap.objs.size) (o:=.dT []) (h':=s.heap.push { cls:=.type "dict",data:=.dict #[] }) (t':=s.toks) (λ_ _ q=>bh4 _ q) (bh8 _) (F4 s.heap I.big)
 refine aY4 (aK (au8 hk hv au7 pins _ σ _ _ I1 (q _ hn)) λws s2 h2=>?_)
 obtain⟨ps,H2,I2,rel,x,y,rfl,e,b,ks,rfl,eb,q2⟩:=h2
 cases rel with
 |@cons _ p _ _ r t=>
 cases t
 obtain⟨u,r0⟩:=p
 obtain⟨r1,r2⟩:=r
 cases (show u=Value.ref b from r1)
 refine⟨_,_,rfl,?_⟩
 obtain⟨z,hd,xs,rel,dd⟩:=E8 I2.hok e
 have hz:xs.length<=sizeLine:=by rw[<- Paired.length rel];exact z
 refine wpAny_dictSet_heap (hsz:=hz) (Nat.lt_of_succ_lt hu) (lJ I2.hok eb) dd λh' dd' hs=>⟨.ref s.heap.objs.size,_,?_,rfl,q2⟩
 obtain⟨q,es,ep,hq,h2,h3,h4,_,h5⟩:=dd'
 cases rel
 refine uZ I2 (by rw[e];exact by0) hs ⟨q,hq⟩ ⟨by show 1<=sizeLine;rw[sizeLine_eq];omega,hd,_,(KT.put .nil ks eb r2).keeps λc ys ec=>?_,q,es,ep,hq,h2,h3,h4,h5⟩
 rw[a8 (yZ ec e (λz=>nomatch z))]
 exact ec
end
section
variable {X:Cx}
def ad8:R2:=λx y H Q=>∃l b xs zs,x = .ref l/\y = .ref b/\Rd H l (.lst xs)/\H b=some (.lst zs)/\xs.length+zs.length<=sizeLine/\∀p,H p=none->Q (.ref p) (upd H p (.lst (xs++zs)))
theorem aY6:bK X (binaryOp .Add) ad8:=by
 intro pins s σ H x y v u Q I rx ry h
 obtain⟨l,b,xs,zs,rfl,rfl,hH,hB,hz,q⟩:=h
 cases rx
 cases ry
 obtain⟨_,its,n,r,e⟩:=(show b7 X.prog X.w H s.heap l (.lst xs) from uY I.hok hH)
 obtain⟨_,its2,n2,r2,e2⟩:=(show b7 X.prog X.w H s.heap b (.lst zs) from I.hok b _ hB)
 have l1:=aF.length r
 have l2:=aF.length r2
 refine PySem.P.add_list e e2 ?_ (by rw[bh6,bh6];omega)
 have ea:its.toArray++its2.toArray=(its++its2).toArray:=by simp
 rw[ea]
 exact⟨.ref _,_,I.lnew (t':=s.toks) (r.append r2) (by rw[bj6];omega),rfl,q _ I.fresh⟩
end
end L2
namespace PP
open PySem L2
section
variable {X:Cx}{e:Expr}{te:aB}{σ:St}{H:Hp}{Q':VK}
def tN (te:aB):aB:=λρ Q=>te ρ λx g=>∃xs,x = .lst xs/\g = .fr/\flats xs=true/\Q (.fL xs) .fr
theorem aY7 (h:LE X (tN te) σ H Q'):ad6 (LE X te) σ H Q':=by
 obtain⟨W,ρ,Q,px,q,k⟩:=h
 refine⟨W,ρ,_,px,q,?_⟩
 rintro v H1 x g s r ⟨xs,rfl,rfl,f,q⟩
 cases r with
 |@lst a us _ m e r=>
  refine⟨a,us,rfl,e,λo=>k _ _ _ .fr (λb u hb=>?_) (.fL aQ ((r.flat (M':=λ_=>False) f).keep (.upd e rfl λb z=>z.elim))) q⟩
  have nb:b≠a:=λz=>by have m:H a=none:=m;rw[z,m]at hb;cases hb
  rw[a8 nb];exact s b u hb
theorem ad9 (h:QE X e te):QE X e (tN te):=bU (aY3 h) λ_ _ _=>aY7
def yI (tk tv:aB):aB:=λρ Q=>tk ρ λx _=>tv ρ λy _=>∃ks,x = .tup (List.map kP ks)/\flat y=true/\Q (.dT [(ks,y)]) .fr
theorem aY8 {tk tv:aB}(h:LE X (yI tk tv) σ H Q'):ad7 (LE X tk) (LE X tv) σ H Q':=by
 obtain⟨W,ρ,Q,px,q,k⟩:=h
 intro p hp
 refine⟨W,ρ,_,px.mono (aW hp _),q,?_⟩
 intro v H1 x g s r q1
 refine⟨W,ρ,_,(px.mono (aW hp _)).mono s,q1,?_⟩
 rintro v2 H2 y g2 s2 r2 ⟨ks,rfl,f,q2⟩
 obtain⟨b,us,rfl,hb,rb⟩:=r.sqT
 obtain rfl:=qW rb
 have hp2:H2 p=some (.dT []):=s2 p _ (s p _ aQ)
 refine⟨_,_,rfl,hp2,b,ks,rfl,s2 _ _ hb,?_⟩
 have sm:aA H (upd H2 p (.dT [(ks,v2)])):=λc o e=>by
  have nb:c≠p:=λz=>by rw[z,hp]at e;cases e
  rw[a8 nb]
  exact s2 c o (s c o (by rw[a8 nb];exact e))
 exact k _ _ _ .fr sm (.dT hp aQ rfl (.cons ((r2.flat (M':=λ_=>False) f).keep (.upd hp2 rfl λb z=>z.elim)) .nil)) q2
theorem aY9 {pos:Pos}{a b:Expr}{tk tv:aB}(hu:X.A.units+1<cLine)(ha:QE X a tk)(hb:QE X b tv):QE X (.Dict [some a] [b] pos) (yI tk tv):=bU (aY5 hu ha hb) λ_ _ _=>aY8
end
section
variable {X:Cx}{a b:Expr}{ta tb:aB}{pos:Pos}
def ae0:PV->Tg->PV->Tg->PK->Prop:=λx _ y _ Q=>∃xs ys,x = .fL xs/\y = .lst ys/\flats xs=true/\flats ys=true/\xs.length+ys.length<=16000000/\Q (.lst (xs++ys)) .fr
abbrev ae1 (ta tb:aB):aB:=q2 ae0 ta tb
theorem aZ0:e9 X ae0 ad8:=by
 rintro W Hs H u v x y g g' Q Q' s n r1 r2 ⟨xs,ys,rfl,rfl,f1,f2,hl,q⟩ k
 obtain⟨b,ws,rfl,_,h2,q2⟩:=r2.sqL
 cases r1 with
 |@fL a o us _ h1 q1=>
  have l1:=q1.length
  have l2:=q2.length
  refine⟨a,b,us,ws,rfl,rfl,.inr ⟨_,h1⟩,h2,lim (by omega),λp hp=>k _ _ _ .fr (aW hp _) (.lst (s.free hp) aQ (((q1.flat f1).append (q2.flat f2)).same (aW hp _) λ_ z=>z)) q⟩
theorem aZ1 (ha:QE X a ta)(hb:QE X b tb):QE X (.BinOp a .Add b pos) (ae1 ta tb):=gB aY6 aZ0 ha hb
end
section
def aZ2:PV->Option Nat
 |.fL xs=>some xs.length
 |_=>none
def jQ (ps:List (List aC×PV))(k:List aC)(n:Nat):Bool:=match bL ps k with
 |none=>true
 |some z=>decide (((aZ2 z).getD 0)<n)
def dP (ps:List (List aC×PV))(k:List aC)(xs:List PV):List (List aC×PV):=if jQ ps k xs.length=true then cO ps k (.fL xs) else ps
def tO (ps:List (List aC×PV)):Prop:=∀p∈ps,∃ys,p.2 = .fL ys/\flats ys=true
theorem ae2 {ps:List (List aC×PV)}(h:tO ps):flats (ps.map (·.2))=true:=by
 induction ps with
 |nil=>rfl
 |cons p r ih=>
  obtain⟨ys,e,f⟩:=h p bh7
  show (flat p.2&&flats (r.map (·.2)))=true
  rw[ih λq hq=>h q (bi5 _ hq),e,bt6]
  unfold flat;exact f
theorem ae3 {κ:Type}[DecidableEq κ]{ps:List (κ×PV)}{k:κ}{z:PV}(h:bL ps k=some z):(k,z)∈ps:=by
 unfold bL at h
 obtain⟨p,hp,e⟩:=Option.map_eq_some_iff.mp h
 have h1:=List.mem_of_find?_eq_some hp
 have h2:=List.find?_some hp
 have:p.1=k:=bv3 h2
 subst e this
 exact h1
theorem yJ {K:ac}{M:Addr->Prop}{H:Hp}:∀(ks:List aC),Reps K M H (ks.map kV) (ks.map kP)
 |[]=>.nil
 |.inl i::r=>.cons (.int i) (yJ r)
 |.inr x::r=>.cons (.str x) (yJ r)
def ae4 (K:ac):Sp:=λvs H Q _=>∃d b y ks kvs ps xs,vs = [.ref d,.ref b,y]/\H d=some (.dT kvs)/\H b=some (.tup (List.map kV ks))/\kvs.map (·.1)=ps.map (·.1)/\Reps K (λ_=>True) H (kvs.map (·.2)) (ps.map (·.2))/\
 tO ps/\aD K (λ_=>True) H y (.fL xs)/\flats xs=true/\ps.length<16000000/\∀H',aA H H'->Q .non (if jQ ps ks xs.length=true then upd H' d (.dT (e8 kvs ks y)) else H')
def tKL:cB:=jG (aU (kG true (a5 1) (a5 0))) (aU (q2 (cZ λi j=>.bl (decide (j<i))) (aH cF (a7 (a5 2) aE)) (aH cF (a7 (lZ (a5 0) (a5 1)) aE))))
structure mV (P:Program)(w:World)(K:ac)(mg:Str->Option Value)(base:Heap)(k:Nat)(x:Str)(ps:List Str):Prop where
 ex:∃f fd,cD P w K mg base cL k f fd ps (ae4 K)/\gJ K fd ps []/\PySem.W.keepIn K (.ref f)=true/\mg x=some (.ref f)
theorem mV.of {P:Program}{w:World}{K:ac}{mg:Str->Option Value}{base:Heap}{k:Nat}{x:Str}{p1 p2 p3:Str}{st:Stmt}{f:Addr}{fd:FuncData}(F:dR K x x st f fd)(m:mg x=some (.ref f))(S:FnScope [p1,p2,p3] [p1,p2,p3] (aN st))(hb:∀(kV doc pm:Value) (an:Option Addr) (cdv ct:Value) (us:List Value),us.length = [p1,p2,p3].length->bindArgs (PySem.W.fnOf x x (hJ st) (dH st) (aN st) .none kV doc pm an cdv ct) ⟨us,[]⟩=pure ([p1,p2,p3].zip us))(body:∀(cdv:Value) (A:Around) (outer:List Env) (s:Shared) (H:Hp) (E:XK),bR k (A.deeper (PyProof.Rows.envOfC x (aN st) s.heap.objs.size f cdv))->
   dE (cK cL P w K mg base [p1,p2,p3] x (aN st) f cdv A outer s H E).nox (dH st) (uA (LT (cK cL P w K mg base [p1,p2,p3] x (aN st) f cdv A outer s H E).nox tKL) (v4 (dQ 0) (dQ 1) (dQ 2)) u8)):mV P w K mg base (k+1) x [p1,p2,p3]:=by
 refine⟨f,fd,F.ok S (λvs H Q E h=>?_) (λcdv A outer s H vs Q E hr h=>⟨_,body cdv A outer s H E hr,?_⟩),F.binds hb,F.kp,m⟩
 ·obtain⟨d,b,y,ks,kvs,ps,xs,rfl,_⟩:=h
  rfl
 ·obtain⟨d,b,y,ks,kvs,ps,xs,rfl,ed,eb,e1,r,al,ry,fx,hl,q⟩:=h
  have px:=rL (N:=[p1,p2,p3]) (K:=K) (H:=H) (vs:=[.ref d,.ref b,y]) (xs:=[.dT ps,.tup (ks.map kP),.fL xs]) (.cons (.dT trivial ed e1 r) (.cons (.tup eb (yJ ks)) (.cons ry .nil)))
  refine⟨_,_,λc=>c=jQ ps ks xs.length,px,?_,λc H1 s1 ec=>?_⟩
  ·refine⟨_,rfl,_,rfl,bL ps ks,.inr ⟨ps,ks,rfl,rfl,rfl⟩,_,rfl,?_⟩
   unfold jQ
   cases ev:bL ps ks with
   |none=>exact rfl
   |some z=>
    obtain⟨ys,ez,_⟩:=al _ (ae3 ev)
    have ez:z = .fL ys:=ez
    subst ez
    refine⟨_,rfl,_,_,rfl,rfl,_,rfl,_,rfl,_,.inr ⟨ps,ks,rfl,rfl,ev.symm⟩,_,_,rfl,rfl,_,_,rfl,rfl,_,rfl,?_⟩
    show decide ((ys.length:Int)<xs.length)=decide (ys.length<xs.length)
    exact decide_eq_decide.mpr Int.ofNat_lt
  ·subst ec
   have q1:=q H1 s1
   cases e:jQ ps ks xs.length with
   |false=>rw[if_neg (by simp)];rw[e,if_neg (by simp)]at q1;exact q1
   |true=>
    rw[if_pos rfl];rw[e,if_pos rfl]at q1
    exact⟨y,rfl,.ref d,rfl,.ref b,rfl,d,_,rfl,jB.t (s1 _ _ ed) (s1 _ _ eb) (g9 (by rw[qY e1];omega)),q1⟩
end
section
variable {X:Cx}{σ:St}{H:Hp}{D:cW}{t1 t2:aB}
def tP (i:Nat)(t1 t2:aB):aL:=λD ρ=>∃ps,ρ[i]? = some (some (.own (.dT ps)))/\t1 ρ λy _=>t2 ρ λz _=>∃k xs,y = .tup (List.map kP k)/\z = .fL xs/\flats xs=true/\tO ps/\ps.length<16000000/\D.nx (ρ.set i (some (.own (.dT (dP ps k xs)))))
theorem aZ3 {i:Nat}(h:LS X (tP i t1 t2) D σ H):nC (pM (ae4 X.K) [] E0 (gI (dQ i) (gI (LE X t1) (gI (LE X t2) j8)))) D σ H:=by
 obtain⟨W,ρ,D',px,⟨ps,hi,q⟩,k⟩:=h
 obtain⟨v,ev,a,rfl,wa,kvs,ea,e1,r⟩:=px.sl i _ hi
 refine⟨_,ev,W,ρ,_,px,q,?_⟩
 intro v1 H1 y g s1 r1 q1
 refine⟨W,ρ,_,px.mono s1,q1,?_⟩
 rintro v2 H2 z g2 s2 r2 ⟨kk,xs,rfl,rfl,fx,al,hl,q2⟩
 obtain⟨b,us,rfl,hb,rb⟩:=r1.sqT
 obtain rfl:=qW rb
 have s12:=s1.trans s2
 have ea2:=s12 _ _ ea
 have px2:=px.mono s12
 have r':=r.same (M':=λ_=>True) s12 λ_ _=>trivial
 refine⟨a,b,v2,kk,kvs,ps,xs,rfl,ea2,s2 _ _ hb,e1,r',al,r2.same (aA.refl _) λ_ _=>trivial,fx,hl,λH3 s3=>?_⟩
 have s13:=s12.trans s3
 have ea3:=s3 _ _ ea2
 cases e:jQ ps kk xs.length with
 |false=>
  rw[if_neg (by simp)]
  have:dP ps kk xs=ps:=by unfold dP;rw[e,if_neg (by simp)]
  rw[this]at q2
  have hs:ρ.set i (some (.own (.dT ps)))=ρ:=by
   obtain⟨hl,he⟩:=bi3.mp hi
   rw[<- he,List.set_getElem_self]
  rw[hs]at q2
  exact k.nx W σ H3 ρ (Ev.same s13) (px.mono s13) q2
 |true=>
  rw[if_pos rfl]
  have:dP ps kk xs=cO ps kk (.fL xs):=by unfold dP;rw[e,if_pos rfl]
  rw[this]at q2
  refine k.nx W σ _ _ ((Ev.same s13).trans (Ev.upd wa)) ((px.mono s13).updT hi ev wa ?_) q2
  obtain⟨h1,h2⟩:=M9 kk (((r2.flat (M':=Ms X.H₀ W true) (by unfold flat;exact fx))).same s3 λ_ z=>z) e1 (r.same s13 λ_ z=>z)
  exact⟨h1,h2.keep (.upd ea3 rfl λb m=>⟨lV wa m,m⟩)⟩
theorem ae5 {k j:Nat}{x y:Str}{ps:List Str}{a b:Expr}{p2 p3 pos pos2:Pos}(d:mV X.prog X.w X.K X.mg X.base k x ps)(hr:bR j X.A)(i:Nat)(ha:QE X a t1)(hb:QE X b t2)(hkj:k<=j:=by decide)(hN:X.N[i]? = some y:=by rfl)(hv:fQ X.env.scope y:=by first|exact Or.inl rfl|exact Or.inr (Or.inl rfl)|exact Or.inr (Or.inr rfl))(hd:(y==("__debug__":Str))=false:=by decide)(hcd:(y==("__classdict__":Str))=false:=by decide)(hg:Gl X x:=by rfl)(hdb:(x==("__debug__":Str))=false:=by decide)(he:starEach [.Name y p3,a,b] X.env=(false,eval (.Name y p3) X.env)::starEach [a,b] X.env:=by rfl)(he2:starEach [a,b] X.env=(false,eval a X.env)::starEach [b] X.env:=by rfl)(he3:starEach [b] X.env=(false,eval b X.env)::starEach [] X.env:=by rfl)(hpl:(backTo pos (starEach [a,b] X.env)).any (·.1)=false:=by rfl)(hs:swapsWith (.Call (.Name x p2) [.Name y p3,a,b] [] pos) none pos2.line X.env=pure false:=by rfl):QS X (.Expr (.Call (.Name x p2) [.Name y p3,a,b] [] pos) pos2) (tP i t1 t2):=by
 obtain⟨f,fd,F,b,kp,m⟩:=d.ex
 exact eB (j6 (pN F (hr.mono hkj) hg m kp b .nil G0 (c9 (iC hN hv hd hcd) (c9 ha (c9 hb cS he3) he2) he) hdb he hpl) hs) λ_ _ _=>aZ3
end
end PP
namespace Core
open PySem L2 PP
def kI (F:ae):List aC:=F.map Sum.inl
theorem p6 (F:ae):(kI F).map kP=intz F:=by
 unfold kI intz;rw[bv8];rfl
theorem mW:∀{F G:ae},kI F=kI G->F=G
 |[],[],_=>rfl
 |[],_::_,h=>by cases h
 |_::_,[],h=>by cases h
 |a::F,b::G,h=>by
  unfold kI at h
  rw[bm6,bm6]at h
  injection h with h1 h2
  injection h1 with h1
  rw[h1,mW (F:=F) (G:=G) h2]
structure GE (n:Nat)(L:ad)(h:Int)(F:ae)(Bs:ad):Prop where
 sub:F.Sublist (rng n)
 ge:∀x∈F,h<=x
 mem:∀B∈Bs,B∈L
 dis:Bs.Pairwise λa b=>∀x∈a,x∉b
 off:∀B∈Bs,∀x∈B,x∉F
 len:(Bs.length:Int)<=h
def GD (n:Nat)(L:ad)(h:Int)(ps:List (List aC×PV)):Prop:=(∀p∈ps,∃F Bs,p=(kI F,.fL (tups Bs))/\GE n L h F Bs)/\(ps.map (·.1)).Nodup
theorem GD.all {n:Nat}{L:ad}{h:Int}{ps:List (List aC×PV)}(g:GD n L h ps):tO ps:=λp hp=>by
 obtain⟨F,Bs,rfl,_⟩:=g.1 p hp
 exact⟨_,rfl,eN Bs⟩
theorem yK {α:Type}[DecidableEq α]:∀{xs ys:List α},xs.Nodup->(∀x∈xs,x∈ys)->xs.length<=ys.length
 |[],_,_,_=>bl4 _
 |x::xs,ys,nd,h=>by
  have hx:=h x bh7
  have nd':=bw6.mp nd
  have:=yK (ys:=ys.erase x) nd'.2 λy hy=>(List.mem_erase_of_ne (λe=>nd'.1 (by rw[<- e];exact hy))).mpr (h y (bi5 _ hy))
  rw[List.length_erase_of_mem hx]at this
  have:0<ys.length:=List.length_pos_of_mem hx
  rw[bk9];omega
theorem GD.few {n:Nat}{L:ad}{h:Int}{ps:List (List aC×PV)}(g:GD n L h ps)(hn:n<=12):ps.length<16000000:=by
 have h1:=yK (ys:=(aX (rng n)).map kI) g.2 λk hk=>by
  obtain⟨p,hp,rfl⟩:=bk5.mp hk
  obtain⟨F,Bs,rfl,e⟩:=g.1 p hp
  exact bk5.mpr ⟨F,(eQ n F).mpr e.sub,rfl⟩
 rw[bi1,bi1,kU]at h1
 have:2^n<=2^12:=bt3 (by decide) hn
 omega
theorem ae6 (ps:List (List aC×PV))(k:List aC)(z:PV):(k∈ps.map (·.1)/\(cO ps k z).map (·.1)=ps.map (·.1))∨(k∉ps.map (·.1)/\(cO ps k z).map (·.1)=ps.map (·.1)++[k]):=by
 have ea:(ps.any λp=>decide (p.1=k))=true↔k∈ps.map (·.1):=by
  rw[List.any_eq_true,bk5]
  exact⟨λ⟨p,hp,e⟩=>⟨p,hp,bv3 e⟩,λ⟨p,hp,e⟩=>⟨p,hp,bi9 e⟩⟩
 unfold cO
 by_cases h:k∈ps.map (·.1)
 ·refine .inl ⟨h,?_⟩
  rw[if_pos (ea.mpr h),bv8]
  apply List.map_congr_left
  intro p hp
  show (if p.1=k then (p.1,z) else p).1=p.1
  split<;>rfl
 ·refine .inr ⟨h,?_⟩
  rw[if_neg (λc=>h (ea.mp c)),bk8];rfl
theorem aZ4 {ps:List (List aC×PV)}{k:List aC}{z:PV}{p:List aC×PV}(h:p∈cO ps k z):p∈ps∨p=(k,z):=by
 unfold cO at h
 split at h
 ·obtain⟨q,hq,e⟩:=bk5.mp h
  by_cases c:q.1=k
  ·rw[if_pos c]at e;exact .inr (by rw[<- e,c])
  ·rw[if_neg c]at e;exact .inl (by rw[<- e];exact hq)
 ·rcases bl5.mp h with h|h
  ·exact .inl h
  ·exact .inr (bi6.mp h)
theorem GD.keep {n:Nat}{L:ad}{h:Int}{ps:List (List aC×PV)}{F:ae}{Bs:ad}(g:GD n L h ps)(e:GE n L h F Bs):GD n L h (dP ps (kI F) (tups Bs))/\dP ps (kI F) (tups Bs)≠[]:=by
 unfold dP
 split
 ·refine⟨⟨λp hp=>?_,?_⟩,λz=>?_⟩
  ·rcases aZ4 hp with hp|rfl
   ·exact g.1 p hp
   ·exact⟨F,Bs,rfl,e⟩
  ·rcases ae6 ps (kI F) (.fL (tups Bs)) with⟨hk,e⟩|⟨hk,e⟩
   ·rw[e];exact g.2
   ·rw[e]
    exact bv4.mpr ⟨g.2,bl8 _ _,λa ha b hb c=>hk (by rw[bi6.mp hb]at c;rw[<- c];exact ha)⟩
  ·have this:=congrArg (List.map (·.1)) z
   rcases ae6 ps (kI F) (.fL (tups Bs)) with⟨hk,e⟩|⟨hk,e⟩
   ·rw[e]at this
    have this:ps.map (·.1) = []:=this
    rw[this]at hk;cases hk
   ·rw[e]at this;simp at this
 ·rename_i hk
  refine⟨g,λz=>hk ?_⟩
  rw[z];rfl
theorem tQ {ps:List (List aC×PV)}(nd:(ps.map (·.1)).Nodup){k:List aC}{z:PV}(h:(k,z)∈ps):bL ps k=some z:=by
 unfold bL
 induction ps with
 |nil=>cases h
 |cons p r ih=>
  rw[bm6,bw6]at nd
  rw[bs3]
  rcases bi4.mp h with h|h
  ·rw[<- h,bi9 rfl];rfl
  ·have:p.1≠k:=λc=>nd.1 (by rw[c];exact bk5.mpr ⟨_,h,rfl⟩)
   rw[bi2 this]
   exact ih nd.2 h
theorem GE.alone {n:Nat}{L:ad}{h:Int}{F:ae}{Bs:ad}(e:GE n L h F Bs):GE n L (h+1) (F.filter λz=>!decide (z∈[h])) Bs:=by
 refine⟨List.filter_sublist.trans e.sub,λx hx=>?_,e.mem,e.dis,λB hB x hx c=>e.off B hB x hx (bk0.mp c).1,by have:=e.len;omega⟩
 obtain⟨h1,h2⟩:=bk0.mp hx
 have h3:=e.ge x h1
 have h4:x≠h:=λc=>by rw[c]at h2;simp at h2
 omega
theorem GE.with_ {n:Nat}{L:ad}{h:Int}{F:ae}{Bs:ad}{B:ae}(e:GE n L h F Bs)(hB:B∈L)(hh:h∈B)(hF:∀x∈B,x∈F):GE n L (h+1) (F.filter λz=>!decide (z∈B)) (Bs++[B]):=by
 refine⟨List.filter_sublist.trans e.sub,λx hx=>?_,λC hC=>?_,?_,λC hC x hx c=>?_,by rw[bj6,bn2];have:=e.len;omega⟩
 ·obtain⟨h1,h2⟩:=bk0.mp hx
  have h3:=e.ge x h1
  have h4:x≠h:=λc=>by
   rw[c]at h2
   have:decide (h∈B)=true:=bi9 hh
   rw[this]at h2;cases h2
  omega
 ·rcases bl5.mp hC with hC|hC
  ·exact e.mem C hC
  ·rw[bi6.mp hC];exact hB
 ·refine bn0.mpr ⟨e.dis,bl8 _ _,λC hC D hD x hx c=>?_⟩
  rw[bi6.mp hD]at c
  exact e.off C hC x hx (hF x c)
 ·obtain⟨h1,h2⟩:=bk0.mp c
  rcases bl5.mp hC with hC|hC
  ·exact e.off C hC x hx h1
  ·rw[bi6.mp hC]at hx
   have:decide (x∈B)=true:=bi9 hx
   rw[this]at h2;cases h2
theorem aZ5 {ns S:ae}(h:dY ns S=0):∀x∈ns,x∈S:=λx hx=>by
 unfold dY at h
 have h1:(ns.filter λx=>decide (x∈S)).length=ns.length:=by omega
 have h2:=List.length_filter_eq_length_iff.mp h1 x hx
 exact bv3 h2
theorem tR {n:Nat}{F:ae}(h:F.Sublist (rng n)):F.length<=n:=by
 have:=h.length_le
 unfold rng at this
 rw[bi1,bs8]at this
 exact this
def aZ6:aL:=(aO (fM 3 (qC (.dT [])))
 (aO (tM 0 (bB 4)
  (aO (bH 5 (aH jL (a7 (a5 4) aE)))
  (aO (tP 3 (aH oT (a7 (a5 4) (a7 (fA (a7 (a5 1) aE)) aE))) (lZ (a5 0) (a5 4)))
  (dJ (dA (a5 2)) (bB 6)
   (cN (aU (fD (aH mK (a7 (a5 6) (a7 (a5 5) aE))) (qC (.int 0)))) (tP 3 (aH oT (a7 (a5 4) (a7 (a5 6) aE))) (tN (ae1 (lZ (a5 0) (a5 4)) (fA (a7 (a5 6) aE))))) dG)))))
 (lW 3)))
def jR (A:ae):ae:=A.filter λz=>!decide (z=0)
def tS:ad:=(aX (rng 7)).filter λA=>!decide (0∈A)
theorem aZ7:tS.length=64:=by decide +kernel
theorem iY {A:ae}{x:Int}:x∈jR A↔x∈A/\x≠0:=by
 unfold jR
 rw[bk0,Bool.not_eq_true',bq6]
theorem ae7 {n m:Nat}(h:n<=m):(rng n).Sublist (rng m):=by
 unfold rng
 refine List.Sublist.map _ ?_
 exact List.range_sublist.mpr h
theorem aZ8 {A:ae}(h:A.Sublist (rng 7)):jR A∈tS:=by
 refine bk0.mpr ⟨(eQ 7 _).mpr (List.filter_sublist.trans h),?_⟩
 rw[Bool.not_eq_true',bq6]
 exact λc=>(iY.mp c).2 rfl
theorem aZ9 {C:ad}(nd:C.Nodup)(sub:∀A∈C,A.Sublist (rng 7))(anti:∀A∈C,∀B∈C,(∀x∈A,x∈B)->A=B):C.length<64:=by
 have nm:(C.map jR).Nodup:=by
  refine List.Pairwise.map jR (R:=λa b=>a∈C/\b∈C/\a≠b) (λa b ⟨ha,hb,hne⟩ e=>hne ?_) ?_
  ·by_cases c:(0:Int)∈b
   ·refine anti a ha b hb λx hx=>?_
    by_cases x0:x=0
    ·rw[x0];exact c
    ·exact (iY.mp (e▸iY.mpr ⟨hx,x0⟩)).1
   ·refine (anti b hb a ha λx hx=>?_).symm
    have x0:x≠0:=λz=>c (z▸hx)
    exact (iY.mp (e.symm▸iY.mpr ⟨hx,x0⟩)).1
  ·refine List.Pairwise.imp_of_mem (λ{a b} ha hb h=>⟨ha,hb,h⟩) nd
 have key:∀e∈tS,e∉C.map jR->C.length<64:=λe he hn=>by
  have h1:=yK (ys:=tS.erase e) nm λx hx=>by
   obtain⟨A,hA,rfl⟩:=bk5.mp hx
   exact (List.mem_erase_of_ne λz=>hn (by rw[<- z];exact hx)).mpr (aZ8 (sub A hA))
  rw[bi1,List.length_erase_of_mem he,aZ7]at h1
  omega
 by_cases c0:([]:ae)∈C.map jR
 ·by_cases c1:([1]:ae)∈C.map jR
  ·refine key [1,2] (by decide +kernel) λc2=>?_
   obtain⟨P0,h0,e0⟩:=bk5.mp c0
   obtain⟨P1,h1,e1⟩:=bk5.mp c1
   obtain⟨P2,h2,e2⟩:=bk5.mp c2
   have i1:(1:Int)∈P1:=(iY.mp (e1▸bi6.mpr rfl)).1
   have z0:∀x∈P0,x=0:=λx hx=>Decidable.byContradiction λx0=>by
    have:=iY.mpr ⟨hx,x0⟩
    rw[e0]at this;cases this
   have n1:(0:Int)∉P1:=λc=>by
    have:=anti P0 h0 P1 h1 λx hx=>by rw[z0 x hx];exact c
    rw[<- this]at i1
    exact absurd (z0 1 i1) (by decide)
   have q1:∀x∈P1,x=1:=λx hx=>by
    have x0:x≠0:=λz=>n1 (z▸hx)
    have:=iY.mpr ⟨hx,x0⟩
    rw[e1]at this
    exact bi6.mp this
   have i2:(1:Int)∈P2:=(iY.mp (e2▸bh7)).1
   have e12:=anti P1 h1 P2 h2 λx hx=>by rw[q1 x hx];exact i2
   rw[e12,e2]at e1
   cases e1
  ·exact key [1] (by decide +kernel) c1
 ·exact key [] (by decide +kernel) c0
theorem ba0 {ws:ae}{ls:aa}(few:ws.length<=7):(cJ ws ls).length<64:=by
 have sb:∀A∈cJ ws ls,A.Sublist (rng ws.length):=λA hA=>(eQ _ A).mp (bk0.mp hA).1
 refine aZ9 ((aR4 ws.length).filter _) (λA hA=>(sb A hA).trans (ae7 few)) λA hA B hB h=>?_
 have lA:=gX.mp (bk0.mp hA).2
 have lB:=gX.mp (bk0.mp hB).2
 exact Y4 (jO.mp (sb A hA)) (jO.mp (sb B hB)) λx=>⟨h x,lB.2.2 A lA.2.1 lA.1 h x⟩
def Le (lp:List (List aC×PV))(F:ae)(m:Nat):Prop:=∃Bs,(kI F,PV.fL (tups Bs))∈lp/\m<=Bs.length
theorem ae8 (ps:List (List aC×PV))(k:List aC)(z:PV):(k,z)∈cO ps k z:=by
 unfold cO
 split
 ·rename_i h
  obtain⟨p,hp,e⟩:=List.any_eq_true.mp h
  have e:p.1=k:=bv3 e
  exact bk5.mpr ⟨p,hp,by rw[if_pos e,e]⟩
 ·exact bl1 _ bh7
theorem ba1 {ps:List (List aC×PV)}{k:List aC}{z:PV}{p:List aC×PV}(h:p∈ps)(n:p.1≠k):p∈cO ps k z:=by
 unfold cO
 split
 ·exact bk5.mpr ⟨p,h,by rw[if_neg n]⟩
 ·exact bs0 _ h
theorem Le.new {n:Nat}{L:ad}{h:Int}{ps:List (List aC×PV)}(g:GD n L h ps)(F:ae)(Bs:ad):Le (dP ps (kI F) (tups Bs)) F Bs.length:=by
 unfold dP
 split
 ·exact⟨Bs,ae8 _ _ _,bh8 _⟩
 ·rename_i c
  unfold jQ at c
  cases e:bL ps (kI F) with
  |none=>rw[e]at c;exact absurd rfl c
  |some z=>
   rw[e]at c
   have hm:=ae3 e
   obtain⟨F',Bs',eq,_⟩:=g.1 _ hm
   injection eq with e1 e2
   subst e2
   rw[<- mW e1]at *
   refine⟨Bs',hm,?_⟩
   have c:¬decide ((tups Bs').length<(tups Bs).length)=true:=c
   rw[bk3,c6,c6]at c
   omega
theorem Le.keep {n:Nat}{L:ad}{h:Int}{ps:List (List aC×PV)}(g:GD n L h ps){G:ae}{m:Nat}(l:Le ps G m)(F:ae)(Bs:ad):Le (dP ps (kI F) (tups Bs)) G m:=by
 obtain⟨Cs,hm,lm⟩:=l
 by_cases e:G=F
 ·subst e
  obtain⟨Ds,hd,ld⟩:=Le.new g G Bs
  unfold dP at hd ⊢
  split
  ·rename_i c
   refine⟨Bs,ae8 _ _ _,?_⟩
   unfold jQ at c
   rw[tQ g.2 hm]at c
   have c:decide ((tups Cs).length<(tups Bs).length)=true:=c
   rw[bk3,c6,c6]at c
   omega
  ·exact⟨Cs,hm,lm⟩
 ·unfold dP
  split
  ·exact⟨Cs,ba1 hm λz=>e (mW z),lm⟩
  ·exact⟨Cs,hm,lm⟩
def kY (h:Int)(Z:ad)(F:ae)(m:Nat)(lp:List (List aC×PV)):Prop:=Le lp (F.filter λz=>!decide (z∈[h])) m/\∀B∈Z,(∀x∈B,x∈F)->Le lp (F.filter λz=>!decide (z∈B)) (m+1)
theorem kY.keep {n:Nat}{L:ad}{h0:Int}{ps:List (List aC×PV)}(g:GD n L h0 ps){h:Int}{Z:ad}{F:ae}{m:Nat}(l:kY h Z F m ps)(G:ae)(Bs:ad):kY h Z F m (dP ps (kI G) (tups Bs)):=
 ⟨l.1.keep g G Bs,λB hB hF=>(l.2 B hB hF).keep g G Bs⟩
theorem ba2 {ns S:ae}(h:∀x∈ns,x∈S):dY ns S=0:=by
 unfold dY
 rw[bu0.mpr λx hx=>bi9 (h x hx)]
 omega
def eS (a b:ae):Prop:=∀x∈a,x∉b
theorem eS.symm {a b:ae}(h:eS a b):eS b a:=λx hx c=>h x c hx
def GM (n:Nat)(L:ad)(k:Int)(ps:List (List aC×PV)):Prop:=∀C:ad,(∀B∈C,B∈L)->C.Pairwise eS->(∀B∈C,B.headD 0<k)->
 ∃F Bs,(kI F,PV.fL (tups Bs))∈ps/\C.length<=Bs.length/\∀x∈rng n,k<=x->(∀B∈C,x∉B)->x∈F
theorem ba3 {n:Nat}{b:Int}{r:ae}(h:(b::r).Sublist (rng n)):∀x∈b::r,b<=x:=λx hx=>by
 have s:(rng n).Pairwise (·<·):=by
  unfold rng
  exact bp3.mpr (bv9.imp λh=>Int.ofNat_lt.mpr h)
 have:=s.sublist h
 rcases bi4.mp hx with e|e
 ·rw[e];exact bs1 _
 ·exact Int.le_of_lt ((br1.mp this).1 x e)
theorem GM.step {n:Nat}{L:ad}{k:Int}{ps ps':List (List aC×PV)}{Z:ad}(g:GM n L k ps)(ne:∀B∈L,B≠[]/\B.Sublist (rng n))(hZ:∀B∈L,B.headD 0=k->B∈Z)(got:∀F Bs,(kI F,PV.fL (tups Bs))∈ps->kY k Z F Bs.length ps'):GM n L (k+1) ps':=by
 intro C hC dj hd
 by_cases c:∃B∈C,B.headD 0=k
 ·obtain⟨B,hB,hk⟩:=c
  have pm:C.Perm (B::C.erase B):=List.perm_cons_erase hB
  have dj2:(B::C.erase B).Pairwise eS:=(pm.pairwise_iff λh=>h.symm).mp dj
  obtain⟨d1,d2⟩:=br1.mp dj2
  have mem:∀D∈C.erase B,D∈C:=λD hD=>List.mem_of_mem_erase hD
  obtain⟨nb,sb⟩:=ne B (hC B hB)
  obtain⟨b,r,rfl⟩:∃b r,B=b::r:=by
   cases B with
   |nil=>exact absurd rfl nb
   |cons b r=>exact⟨b,r,rfl⟩
  have hk:b=k:=hk
  subst hk
  obtain⟨F,Bs,hm,hl,hx⟩:=g (C.erase (b::r)) (λD hD=>hC D (mem D hD)) d2 λD hD=>by
   have h1:=hd D (mem D hD)
   obtain⟨nD,sD⟩:=ne D (hC D (mem D hD))
   cases D with
   |nil=>exact absurd rfl nD
   |cons d s=>
    have h1:d<b+1:=h1
    have h2:d≠b:=λz=>d1 _ hD b bh7 (by rw[<- z];exact bh7)
    show d<b
    omega
  have bF:∀x∈b::r,x∈F:=λx hxB=>hx x (sb.subset hxB) (ba3 sb x hxB) λD hD=>d1 D hD x hxB
  obtain⟨Bs',hm',hl'⟩:=(got F Bs hm).2 (b::r) (hZ _ (hC _ hB) rfl) bF
  refine⟨_,Bs',hm',?_,λx xr kx xn=>?_⟩
  ·have:=pm.length_eq
   rw[bk9]at this
   omega
  ·have x1:x∈F:=hx x xr (by omega) λD hD=>xn D (mem D hD)
   exact bk0.mpr ⟨x1,by rw[bi2 (xn _ hB)];rfl⟩
 ·obtain⟨F,Bs,hm,hl,hx⟩:=g C hC dj λD hD=>by
   have h1:=hd D hD
   have h2:D.headD 0≠k:=λz=>c ⟨D,hD,z⟩
   omega
  obtain⟨Bs',hm',hl'⟩:=(got F Bs hm).1
  refine⟨_,Bs',hm',by omega,λx xr kx xn=>?_⟩
  have x1:x∈F:=hx x xr (by omega) xn
  have x2:x≠k:=by omega
  exact bk0.mpr ⟨x1,by rw[bi2 (λz=>x2 (bi6.mp z))];rfl⟩
section
variable {ws:ae}{ls:aa}{qs:oZ}
theorem ae9:∀(m:Nat) (S:ae),S.length<=m->S.Sublist (rng ws.length)->HC ws ls S->∃B∈cJ ws ls,∀x∈B,x∈S
 |0,S,hl,_,hc=>by
  obtain⟨U,_,hU,sub⟩:=hc
  cases U with
  |nil=>exact absurd rfl hU
  |cons x U=>
   have:=List.length_pos_of_mem (sub x bh7)
   omega
 |m+1,S,hl,sb,hc=>by
  by_cases c:∃h∈S,HC ws ls (S.filter λz=>!decide (z=h))
  ·obtain⟨h,hh,hc2⟩:=c
   have l2:(S.filter λz=>!decide (z=h)).length<S.length:=by
    refine List.length_filter_lt_length_iff_exists.mpr ⟨h,hh,?_⟩
    rw[bi9 rfl];simp
   obtain⟨B,hB,sub⟩:=ae9 m _ (by omega) (List.filter_sublist.trans sb) hc2
   exact⟨B,hB,λx hx=>(bk0.mp (sub x hx)).1⟩
  ·exact⟨S,bk0.mpr ⟨(eQ _ S).mpr sb,gX.mpr ((Z8 S).mp ⟨hc,c⟩)⟩,λx hx=>hx⟩
theorem af0:∀{qs:oZ},(∀q∈qs,cR ws.length q.2=true/\q.1∈q.2/\stay ws ls q.2=q.2)->(qs.Pairwise λa b=>∀x∈a.2,x∉b.2)->∃C:ad,C.length=qs.length/\(∀B∈C,B∈cJ ws ls/\∃q∈qs,∀x∈B,x∈q.2)/\C.Pairwise eS
 |[],_,_=>⟨[],rfl,(λB hB=>by cases hB),bp2⟩
 |q::qs,h,p=>by
  obtain⟨p1,p2⟩:=br1.mp p
  obtain⟨C,c1,c2,c3⟩:=af0 (λr hr=>h r (bi5 _ hr)) p2
  obtain⟨s1,s2,s3⟩:=h q bh7
  obtain⟨B,hB,sub⟩:=ae9 (ws:=ws) (ls:=ls) q.2.length q.2 (bh8 _) (jO.mpr s1) ⟨q.2,s3,List.ne_nil_of_mem s2,λx hx=>hx⟩
  refine⟨B::C,by rw[bk9,bk9,c1],λD hD=>?_,br1.mpr ⟨λD hD x hx c=>?_,c3⟩⟩
  ·rcases bi4.mp hD with rfl|hD
   ·exact⟨hB,q,bh7,sub⟩
   ·obtain⟨a,r,hr,s⟩:=c2 D hD
    exact⟨a,r,bi5 _ hr,s⟩
  ·obtain⟨a,r,hr,s⟩:=c2 D hD
   exact p1 r hr x (sub x hx) (s x c)
end
end Core
namespace PP
open PySem L2
mutual
def pl:PV->Bool
 |.tup xs=>pls xs
 |.non=>true
 |.bl _=>true
 |.int _=>true
 |.str _=>true
 |_=>false
def pls:List PV->Bool
 |[]=>true
 |x::r=>pl x&&pls r
end
mutual
theorem aD.pl {K:ac}{M M':Addr->Prop}{H H':Hp}(k:∀a us,H a=some (.tup us)->H' a=some (.tup us)){v:V}{x:PV}(f:pl x=true)(r:aD K M H v x):aD K M' H' v x:=by
 cases r with
 |non=>exact .non
 |bl b=>exact .bl b
 |int i=>exact .int i
 |str x=>exact .str x
 |tup h r=>exact .tup (k _ _ h) (Reps.pl k (by unfold PP.pl at f;exact f) r)
 |lst m h r=>unfold PP.pl at f;cases f
 |dK m h e r=>unfold PP.pl at f;cases f
 |dT m h e r=>unfold PP.pl at f;cases f
 |scr h=>unfold PP.pl at f;cases f
 |kt h r=>unfold PP.pl at f;cases f
 |exc h e c=>unfold PP.pl at f;cases f
 |fK h e r=>unfold PP.pl at f;cases f
 |fT h e r=>unfold PP.pl at f;cases f
 |fL h r=>unfold PP.pl at f;cases f
theorem Reps.pl {K:ac}{M M':Addr->Prop}{H H':Hp}(k:∀a us,H a=some (.tup us)->H' a=some (.tup us)){vs:List V}{xs:List PV}(f:pls xs=true)(r:Reps K M H vs xs):Reps K M' H' vs xs:=by
 cases r with
 |nil=>exact .nil
 |cons r t=>
  unfold PP.pls at f
  rw[bk4]at f
  exact .cons (aD.pl k f.1 r) (Reps.pl k f.2 t)
end
theorem yL:∀ns:ae,pls (intz ns)=true
 |[]=>rfl
 |n::r=>by show (pl (.int n)&&pls (intz r))=true;rw[yL r];rfl
theorem af1:∀rs:ad,pls (Core.tups rs)=true
 |[]=>rfl
 |r::t=>by
  show (pl (.tup (intz r))&&pls (Core.tups t))=true
  rw[af1 t,bt6];unfold pl;exact yL r
def dZ (H:Hp):Hp:=λb=>match H b with
 |some (.frz o (.lst _))=>some (.ext λh=>h.get? b=some o)
 |x=>x
theorem yM {H:Hp}{b:Addr}{o:Obj}{us:List V}(e:H b=some (.frz o (.lst us))):dZ H b=some (.ext λh=>h.get? b=some o):=by unfold dZ;rw[e]
theorem kZ {H:Hp}{b:Addr}{x:Option HO}(e:H b=x)(n:∀o us,x≠some (.frz o (.lst us))):dZ H b=x:=by
 unfold dZ
 rw[e]
 cases x with
 |none=>rfl
 |some y=>
  cases y with
  |frz o u=>
   cases u with
   |lst us=>exact absurd rfl (n o us)
   |_=>rfl
  |_=>rfl
theorem ba4 {H:Hp}{b:Addr}{o:Obj}{us:List V}:dZ H b≠some (.frz o (.lst us)):=by
 unfold dZ
 split
 ·exact λz=>by cases z
 ·rename_i x h;exact λz=>h _ _ z
theorem af2 (H:Hp)(b:Addr):(∃o us,H b=some (.frz o (.lst us)))∨dZ H b=H b:=by
 by_cases h:∃o us,H b=some (.frz o (.lst us))
 ·exact .inl h
 ·exact .inr (kZ rfl λo us e=>h ⟨o,us,e⟩)
theorem ba5 {P:Program}{w:World}{H:Hp}{h:Heap}(k:bG P w H h):bG P w (dZ H) h:=by
 intro b o e
 rcases af2 H b with⟨ob,us,eb⟩|eb
 ·rw[yM eb]at e
  cases e
  obtain⟨g,_⟩:=k b _ eb
  exact⟨g,⟨_,g⟩,λh1 h2 φ kk=>kk _ φ⟩
 ·rw[eb]at e
  exact (k b o e).stay (λ_ _ _ q=>q) (λc q=>kZ q λ_ _ z=>by cases z) λc xs q=>kZ q λ_ _ z=>by cases z
theorem Df.fresh {P:Program}{w:World}{K:ac}{mg:Str->Option Value}{base:Heap}{k:Nat}{x:Str}{ps:List Str}{p p':bA}(d:Df P w K mg base k x ps p)(h:∀xs Q,p' xs Q->pls xs=true/\p xs (λz=>∃ys,z = .fL ys/\pls ys=true/\Q (.lst ys))):Df P w K mg base k x ps p':=by
 obtain⟨f,fd,F,bX⟩:=d.ex
 have tups:∀{H:Hp} (a us),H a=some (.tup us)->dZ H a=some (.tup us):=λa us e=>kZ e λ_ _ z=>by cases z
 have goes:∀(vs:List V) (H:Hp) (Q:VK),jH K p' vs H Q (λ_ _ _=>False)->jH K p vs (dZ H) (λv H'=>aA (dZ H) H'/\∃f o us ys,v = .ref f/\H' f=some (.frz o (.lst us))/\Reps K (λ_=>True) H' us ys/\pls ys=true/\
   ∀H2,aA H H2->H f=none->H2 f=some (.lst us)->Reps K (λa=>H a=none) H2 us ys->Q v H2) (λ_ _ _=>False):=by
  rintro vs H Q ⟨xs,Qp,r,hp,q⟩
  obtain⟨h1,h2⟩:=h xs Qp hp
  refine⟨xs,_,r.pl tups h1,h2,?_⟩
  rintro v H' z sm rz ⟨ys,rfl,py,qy⟩
  cases rz with
  |@fL f o us _ hf rs=>exact⟨sm,f,o,us,ys,rfl,hf,rs.pl (λ_ _ z=>z) py,py,λH2 s2 nf e2 r2=>q _ H2 _ s2 (.lst nf e2 r2) qy⟩
 refine⟨f,fd,⟨λvs H Q E hs=>?_,λA outer s H args us vs Q E hr e0 hb hv hs=>?_⟩,bX⟩
 ·obtain⟨xs,Qp,r,hp,q⟩:=hs
  exact F.len vs (dZ H) _ _ (goes vs H Q ⟨xs,Qp,r,hp,q⟩)
 ·have none_of:∀{b},H b=none->dZ H b=none:=λe=>kZ e λ_ _ z=>by cases z
  have e1:nK P w K mg base A outer s (dZ H):=⟨e0.frames,e0.mod,λb o e=>⟨(e0.bs b o e).1,none_of (e0.bs b o e).2⟩,e0.bsz,e0.funs,λb hb=>none_of (e0.frf b hb),ba5 e0.hok,e0.bare⟩
  have hs':jH K p' vs H Q (λ_ _ _=>False):=hs
  refine codeAny_mono (F.run A outer s (dZ H) args us vs _ E hr e1 hb hv (goes vs H Q hs')) λr s' hc=>?_
  cases r with
  |error e=>exact hc
  |ok fl=>
   cases fl with
   |ret u=>
    obtain⟨v,H',os,bare,un,hok,rv,sm,f,o,mP,ys,rfl,hf,rs,py,q⟩:=hc
    have nf1:dZ H f=none:=by
     cases z:dZ H f with
     |none=>rfl
     |some o1=>
      have:=sm f o1 z
      rw[hf]at this
      exact absurd (z.trans this.symm) ba4
    have nf:H f=none:=by
     rcases af2 H f with⟨ob,us,eb⟩|eb
     ·rw[yM eb]at nf1;cases nf1
     ·rw[<- eb];exact nf1
    have ext:∀{b ob us},H b=some (.frz ob (.lst us))->H' b=some (.ext λh=>h.get? b=some ob):=λ{b ob us} eb=>sm b _ (yM eb)
    have oth:∀{b o1},H b=some o1->(∀ob us,o1≠.frz ob (.lst us))->H' b=some o1:=λ{b o1} eb n=>sm b _ (kZ eb λob us z=>n ob us (bk2 z))
    generalize hH2:(λb=>match H b with|some (.frz ob (.lst us))=>some (HO.frz ob (.lst us))|_=>if b=f then some (HO.lst mP) else H' b:Hp)=H2
    have h2f:∀{b ob us},H b=some (.frz ob (.lst us))->H2 b=some (.frz ob (.lst us)):=λ{b ob us} eb=>by rw[<- hH2];dsimp only;rw[eb]
    have h2n:∀{b},(∀ob us,H b≠some (.frz ob (.lst us)))->b≠f->H2 b=H' b:=λ{b} n nb=>by
     rw[<- hH2];dsimp only
     split
     ·rename_i ob us z;exact absurd z (n ob us)
     ·rw[if_neg nb]
    have h2s:H2 f=some (.lst mP):=by
     rw[<- hH2];dsimp only;rw[nf];dsimp only;rw[if_pos rfl]
    have nef:∀{b o1},H b=some o1->b≠f:=λ{b o1} e z=>by rw[z,nf]at e;cases e
    have same:aA H H2:=λb o1 e=>by
     by_cases c:∃ob us,o1 = .frz ob (.lst us)
     ·obtain⟨ob,us,rfl⟩:=c;exact h2f e
     ·have n:∀ob us,o1≠.frz ob (.lst us):=λob us z=>c ⟨ob,us,z⟩
      rw[h2n (λob us z=>n ob us (by rw[e]at z;exact bk2 z)) (nef e)]
      exact oth e n
    have back:∀{b o1},H' b=some o1->(∀φ,o1≠.ext φ)->b≠f->H2 b=some o1:=λ{b o1} e n nb=>by
     rw[h2n (λob us z=>?_) nb]
     ·exact e
     ·rw[ext z]at e;cases e;exact n _ rfl
    refine⟨.ref f,H2,os,bare,⟨λb o1 e n=>un.keep b o1 e (none_of n),λb o1 e n=>un.slot b o1 e (none_of n),λb o1 e n hx=>?_,un.there,λb xs e=>?_,λb o1 u e=>same b _ e,λb ps e=>?_⟩,λb o1 e=>?_,rv,q H2 same nf h2s ?_⟩
    ·have hb:=un.free b o1 e (none_of n) hx
     rw[h2n (λob us z=>by rw[n]at z;cases z) (λz=>by rw[z,hf]at hb;cases hb)]
     exact hb
    ·exact same b _ e
    ·obtain⟨more,hm⟩:=un.tbls b ps (kZ e λ_ _ z=>by cases z)
     exact⟨more,back hm (λφ z=>by cases z) (nef e)⟩
    ·by_cases c:∃ob us,H b=some (.frz ob (.lst us))
     ·obtain⟨ob,us,eb⟩:=c
      rw[h2f eb]at e
      cases e
      obtain⟨g,_⟩:=hok b _ (ext eb)
      obtain⟨g0,z,its,n,r,e3⟩:=e0.hok b _ eb
      rw[g0]at e3
      cases e3
      exact⟨g,z,its,n,r,g⟩
     ·by_cases nb:b=f
      ·subst nb
       rw[h2s]at e
       cases e
       obtain⟨_,z,its,n,r,e3⟩:=hok _ _ hf
       exact⟨z,its,n,r,e3⟩
      ·rw[h2n (λob us z=>c ⟨ob,us,z⟩) nb]at e
       refine (hok b o1 e).stay (λ_ _ _ q=>q) (λc q=>back q (λφ z=>by cases z) λz=>?_) λc xs q=>back q (λφ z=>by cases z) λz=>?_
       ·rw[z,hf]at q;cases q
       ·rw[z,hf]at q;cases q
    ·exact rs.pl (λa us e=>back e (λφ z=>by cases z) λz=>by rw[z,hf]at e;cases e) py
   |_=>exact hc
end PP
namespace Core
open PySem L2 PP
theorem af3:∀{a b:ae},intz a=intz b->a=b
 |[],[],_=>rfl
 |[],_::_,h=>by cases h
 |_::_,[],h=>by cases h
 |x::a,y::b,h=>by
  rw[show intz (x::a)=PV.int x::intz a from rfl,show intz (y::b)=PV.int y::intz b from rfl]at h
  injection h with h1 h2
  injection h1 with h1
  rw[h1,af3 h2]
theorem yN:∀{a b:ad},tups a=tups b->a=b
 |[],[],_=>rfl
 |[],_::_,h=>by cases h
 |_::_,[],h=>by cases h
 |x::a,y::b,h=>by
  rw[show tups (x::a)=PV.tup (intz x)::tups a from rfl,show tups (y::b)=PV.tup (intz y)::tups b from rfl]at h
  injection h with h1 h2
  injection h1 with h1
  rw[af3 h1,yN h2]
abbrev LP:=List (List aC×PV)
def l4 (h:Int)(Z:ad)(F:ae)(Bs:ad)(lp:LP)(j:Nat):LP:=
 (Z.take j).foldl (λlp B=>if dY B F=0 then dP lp (kI (F.filter λz=>!decide (z∈B))) (tups (Bs++[B])) else lp) (dP lp (kI (F.filter λz=>!decide (z∈[h]))) (tups Bs))
theorem af4 {h:Int}{Z:ad}{F:ae}{Bs:ad}{lp:LP}{j:Nat}{B:ae}(e:Z[j]? = some B):l4 h Z F Bs lp (j+1)=if dY B F=0 then dP (l4 h Z F Bs lp j) (kI (F.filter λz=>!decide (z∈B))) (tups (Bs++[B])) else l4 h Z F Bs lp j:=by
 unfold l4
 rw[bm1,e,List.foldl_append];rfl
open Classical in
noncomputable def tT (h:Int)(Z:ad)(pp:List aC×PV)(lp:LP):LP:=
 if c:∃q:ae×ad,pp=(kI q.1,PV.fL (tups q.2)) then l4 h Z (choose c).1 (choose c).2 lp Z.length else lp
theorem ba6 {h:Int}{Z:ad}{F:ae}{Bs:ad}{lp:LP}:tT h Z (kI F,PV.fL (tups Bs)) lp=l4 h Z F Bs lp Z.length:=by
 unfold tT
 have c:∃q:ae×ad,(kI F,PV.fL (tups Bs))=(kI q.1,PV.fL (tups q.2)):=⟨(F,Bs),rfl⟩
 rw[dif_pos c]
 have e:=Classical.choose_spec c
 generalize Classical.choose c=q at e
 injection e with e1 e2
 injection e2 with e2
 rw[mW e1,yN e2]
noncomputable def l5 (h:Int)(Z:ad)(ps:LP)(k:Nat):LP:=(ps.take k).foldl (λlp pp=>tT h Z pp lp) []
theorem ba7 {h:Int}{Z:ad}{ps:LP}{k:Nat}{pp:List aC×PV}(e:ps[k]? = some pp):l5 h Z ps (k+1)=tT h Z pp (l5 h Z ps k):=by
 unfold l5
 rw[bm1,e,List.foldl_append];rfl
noncomputable def mX (n:Nat)(Z:ad):Nat->LP
 |0=>[(kI (rng n),.fL [])]
 |k+1=>l5 (k:Int) (Z.filter λB=>decide (B.headD 0=(k:Int))) (mX n Z k) (mX n Z k).length
def ApR (ws:ae)(ls:aa)(Bs:ad):Prop:=∃Z r,Z.Perm (cJ ws ls)/\Z.Pairwise (λu v=>HT.aY v u=false)/\mX ws.length Z ws.length=(kI [],PV.fL (tups Bs))::r
open Classical in
noncomputable def tU (ws:ae)(ls:aa):ad:=if c:∃Bs,ApR ws ls Bs then choose c else []
theorem ba8 {ws:ae}{ls:aa}{Z Bs:ad}{r:LP}(pz:Z.Perm (cJ ws ls))(sz:Z.Pairwise (λu v=>HT.aY v u=false))(e:(kI [],PV.fL (tups Bs))::r=mX ws.length Z ws.length):Bs=tU ws ls:=by
 have c:∃Bs,ApR ws ls Bs:=⟨Bs,Z,r,pz,sz,e.symm⟩
 unfold tU
 rw[dif_pos c]
 obtain⟨Z2,r2,pz2,sz2,e2⟩:=Classical.choose_spec c
 generalize Classical.choose c=q at e2
 rw[aS0 (pz2.trans pz.symm) sz2 sz,<- e]at e2
 injection e2 with e3 _
 injection e3 with _ e3
 injection e3 with e3
 exact yN e3
def tV:bA:=λxs Q=>∃(n:Nat) (L:ad) (ps:List (List aC×PV)) (h:Int) (Z:ad),xs = [.dT ps,.int h,.lst (tups Z)]/\n<=12/\0<=h/\h<=12/\GD n L h ps/\ps≠[]/\(∀B∈Z,B∈L/\B.Sublist (rng n)/\h∈B)/\∀ps',ps'=l5 h Z ps ps.length->GD n L (h+1) ps'->ps'≠[]->(∀F Bs,(kI F,PV.fL (tups Bs))∈ps->kY h Z F Bs.length ps')->Q (.dT ps')
abbrev af5:aL:=aZ6
theorem ba9:cQ af5 ["most","hearth","blocks","later","free","inside","block"] tV:=by
 rintro xs Q ⟨n,L,ps,h,Z,rfl,hn,h0,h12,gd,hne,hZ,q⟩
 refine⟨rfl,rfl,?_⟩
 refine⟨.dT ps,_,rfl,rfl,flats_nods (ae2 gd.all),λj m hj hm=>?_,λk ρ=>∃lp y4 y5 y6,ρ = [some (.sh false (.fT ps)),si h,some (.sh false (.lst (tups Z))),some (.own (.dT lp)),y4,y5,y6]/\GD n L (h+1) lp/\(0<k->lp≠[])/\(∀j F Bs,j<k->ps[j]? = some (kI F,PV.fL (tups Bs))->kY h Z F Bs.length lp)/\lp=l5 h Z ps k,⟨[],none,none,none,rfl,⟨λp hp=>(by cases hp),List.nodup_nil⟩,(λz=>by omega),(λj F Bs z=>by omega),rfl⟩,?_,?_⟩
 ·match j,hj,hm with
  |1,_,hm=>cases hm;rfl
  |2,_,hm=>cases hm;exact flats_nods (eN Z)
  |3,_,hm=>cases hm;rfl
  |4,_,hm=>cases hm
  |5,_,hm=>cases hm
  |6,_,hm=>cases hm
 ·rintro k y ρ hy ⟨lp,y4,y5,y6,rfl,gl,gk,got,ex⟩
  rw[bi7]at hy
  cases hp:ps[k]? with
  |none=>rw[hp]at hy;cases hy
  |some pp=>
  rw[hp]at hy
  have hm:=bj5 hp
  obtain⟨F,Bs,rfl,ge⟩:=gd.1 pp hm
  obtain rfl:PV.tup (intz F)=y:=by rw[<- p6];exact bk2 hy
  have fF:flat (.tup (intz F))=true:=by unfold flat;exact cE F
  have lF:=tR ge.sub
  have vF:qX (.fT ps) (.tup (intz F)) (some (.fL (tups Bs))):=.inr ⟨ps,kI F,rfl,by rw[p6],(tQ gd.2 hm).symm⟩
  refine tL fF ?_
  refine⟨_,rfl,_,F,rfl,.inl rfl,by omega,λds hds=>⟨trivial,?_⟩⟩
  refine⟨lp,rfl,_,rfl,_,rfl,(by show 1<=1000;decide),rfl,_,F,_,[h],rfl,.inl rfl,.inr rfl,by omega,(by show 1<=1000;decide),_,rfl,_,rfl,_,vF,kI (F.filter λz=>!decide (z∈[h])),_,by rw[p6],rfl,eN Bs,gl.all,gl.few hn,?_⟩
  obtain⟨gl1,jE⟩:=gl.keep ge.alone
  refine⟨_,rfl,tups Z,rfl,(λz=>by cases z),λj ρ=>∃lp y6,ρ = [some (.sh false (.fT ps)),si h,some (.sh false (.lst (tups Z))),some (.own (.dT lp)),some (.sh true (.tup (intz F))),some (.sh true (.dK ds)),y6]/\GD n L (h+1) lp/\lp≠[]/\(∀j F Bs,j<k->ps[j]? = some (kI F,PV.fL (tups Bs))->kY h Z F Bs.length lp)/\Le lp (F.filter λz=>!decide (z∈[h])) Bs.length/\(∀i B,i<j->Z[i]? = some B->(∀x∈B,x∈F)->Le lp (F.filter λz=>!decide (z∈B)) (Bs.length+1))/\lp=l4 h Z F Bs (l5 h Z ps k) j,⟨_,y6,rfl,gl1,jE,λj F' Bs' hj e=>(got j F' Bs' hj e).keep gl _ _,Le.new gl _ _,(λi B z=>by omega),(by rw[<- ex];rfl)⟩,?_,?_⟩
  ·rintro j y ρ hy ⟨lp,y6,rfl,gl,ne,got,le1,le2,ei⟩
   unfold tups at hy
   rw[bi7]at hy
   cases hB:Z[j]? with
   |none=>rw[hB]at hy;cases hy
   |some B=>
   rw[hB]at hy
   cases hy
   obtain⟨b1,b2,b3⟩:=hZ B (bj5 hB)
   have lB:=tR b2
   refine tL (by unfold flat;exact cE B) ?_
   refine⟨_,rfl,_,rfl,_,B,ds,F,rfl,.inl rfl,hds,by omega,.inl ⟨_,_,rfl,rfl,_,rfl,?_⟩⟩
   show if decide (dY B F=0)=true then _ else _
   by_cases c:dY B F=0
   ·rw[if_pos (bi9 c)]
    refine⟨lp,rfl,_,rfl,_,rfl,_,F,_,B,rfl,.inl rfl,.inl rfl,by omega,by omega,_,rfl,_,rfl,_,vF,_,rfl,(by show 1<=1000;decide),(by show (flat (.tup (intz B))&&true)=true;rw[bt6];unfold flat;exact cE B),tups Bs,[.tup (intz B)],rfl,rfl,eN Bs,(by show (flat (.tup (intz B))&&true)=true;rw[bt6];unfold flat;exact cE B),?_,_,rfl,rfl,?_,?_⟩
    ·have:=ge.len
     show (tups Bs).length+1<=16000000
     unfold tups;rw[bi1];omega
    ·rw[show tups Bs++[PV.tup (intz B)]=tups (Bs++[B]) by unfold tups;rw[bk8];rfl]
     exact eN _
    ·obtain⟨gl2,lQ⟩:=gl.keep (ge.with_ b1 b3 (aZ5 c))
     have e3:tups Bs++[PV.tup (intz B)]=tups (Bs++[B]):=by unfold tups;rw[bk8];rfl
     refine⟨kI (F.filter λz=>!decide (z∈B)),tups (Bs++[B]),?_,?_,eN _,gl.all,gl.few hn,?_⟩
     ·rw[p6]
     ·exact congrArg PV.fL e3
     ·refine⟨dP lp (kI (F.filter λz=>!decide (z∈B))) (tups (Bs++[B])),some (.sh true (.tup (intz B))),rfl,gl2,lQ,λj F' Bs' hj e=>(got j F' Bs' hj e).keep gl _ _,le1.keep gl _ _,λi B' hi e hF=>?_,(by rw[af4 hB,if_pos c,<- ei])⟩
      by_cases ij:i=j
      ·subst ij
       rw[hB]at e;cases e
       have:=Le.new gl (F.filter λz=>!decide (z∈B)) (Bs++[B])
       rw[bj6]at this
       exact this
      ·exact (le2 i B' (by omega) e hF).keep gl _ _
   ·rw[if_neg (by rw[bk3];exact c)]
    refine⟨lp,_,rfl,gl,ne,got,le1,λi B' hi e hF=>?_,(by rw[af4 hB,if_neg c];exact ei)⟩
    by_cases ij:i=j
    ·subst ij
     rw[hB]at e;cases e
     exact absurd (ba2 hF) c
    ·exact le2 i B' (by omega) e hF
  ·rintro ρ ⟨lp,y6,rfl,gl,ne,got,le1,le2,ei⟩
   refine⟨lp,_,_,y6,rfl,gl,λ_=>ne,λj F' Bs' hj e=>?_,(by rw[ba7 hp,ba6,ei,c6])⟩
   by_cases jk:j=k
   ·subst jk
    rw[hp]at e
    injection e with e
    injection e with e1 e2
    injection e2 with e2
    have el:Bs.length=Bs'.length:=by rw[<- c6 Bs,e2,c6]
    rw[<- mW e1,<- el]
    refine⟨le1,λB hB hF=>?_⟩
    obtain⟨i,hi⟩:=bx5 hB
    exact le2 i B (by rw[c6];exact (bi3.mp hi).1) hi hF
   ·exact got j F' Bs' (by omega) e
 ·rintro ρ ⟨lp,y4,y5,y6,rfl,gl,gk,got,ex⟩
  refine⟨[none,none,none,some (.own (.dT lp)),none,none,none],rfl,λj m hm=>?_,?_⟩
  ·match j,hm with
   |0,hm=>cases hm
   |1,hm=>cases hm
   |2,hm=>cases hm
   |3,hm=>cases hm;exact⟨rfl,flats_nods (ae2 gl.all)⟩
   |4,hm=>cases hm
   |5,hm=>cases hm
   |6,hm=>cases hm
  ·have hk:0<(ps.map λp=>PV.tup (p.1.map kP)).length:=by
    rw[bi1];exact List.length_pos_iff.mpr hne
   refine⟨_,rfl,trivial,q lp (by rw[ex,bi1]) gl (gk hk) λF Bs hm=>?_⟩
   obtain⟨j,hj⟩:=bx5 hm
   exact got j F Bs (by rw[bi1];exact (bi3.mp hj).1) hj
def yO:bA:=λxs Q=>∃ws ls,xs = [bC ws ls]/\Wb ws ls/\ws.length<=12/\(cJ ws ls).length<64/\∀Bs:ad,Bs=tU ws ls->(∀B∈Bs,B∈cJ ws ls)->Bs.Pairwise eS->Bs.length<=ws.length->(∀C:ad,(∀B∈C,B∈cJ ws ls)->C.Pairwise eS->C.length<=Bs.length)->Q (.fL (tups Bs))
def af6:aL:=(aO (bH 1 (aH (aa5 λ_=>False) (a7 (a5 0) aE)))
 (aO (bH 2 (yI (ab4 (aH i6 (a7 (a5 0) aE))) (tN (fA aE))))
 (aO (dJ (iM (aH i6 (a7 (a5 0) aE))) (bB 3)
  (bH 2 (aH tV (a7 (a5 2) (a7 (a5 3) (a7 (dL (dA (a5 1)) [none,some 3] (bB 0) (aU (fD (bT (a5 0) (qC (.int 0))) (a5 1))) (a5 0)) aE))))))
 (bI (lZ (a5 2) (i5 aE))))))
theorem bb0:cQ af6 ["web","blocks","most","hearth"] yO:=by
 rintro xs Q ⟨ws,ls,rfl,wb,hn,few,q⟩
 refine⟨_,rfl,ws,ls,rfl,wb,λ_=>⟨few,λZ pz sz=>?_⟩,λz=>by omega⟩
 have zm:∀B,B∈Z↔B∈cJ ws ls:=λB=>pz.mem_iff
 refine⟨trivial,?_⟩
 refine⟨_,rfl,ws,ls,rfl,_,rfl,by omega,by omega,by show 0<=1000;omega,rfl,[],rfl,rfl,rfl,kI (rng ws.length),?_,rfl,trivial,?_⟩
 ·rw[p6];show PV.tup (cI 0 ws.length)=_;rw[W9]
 have neL:∀B∈cJ ws ls,B≠[]/\B.Sublist (rng ws.length):=λB hB=>⟨(gX.mp (bk0.mp hB).2).1,(eQ _ B).mp (bk0.mp hB).1⟩
 have zl:Z.length<64:=by rw[pz.length_eq];exact few
 refine⟨_,rfl,ws,ls,rfl,_,rfl,by omega,by omega,λk ρ=>∃ps y3,ρ = [some (.sh (flat (bC ws ls)) (bC ws ls)),some (.sh true (.lst (tups Z))),some (.sh true (.dT ps)),y3]/\GD ws.length (cJ ws ls) k ps/\ps≠[]/\ps=mX ws.length Z k/\GM ws.length (cJ ws ls) k ps,⟨[(kI (rng ws.length),.fL [])],none,rfl,⟨λp hp=>?_,bl8 _ _⟩,(λz=>by cases z),rfl,λC hC dj hd=>?_⟩,?_,?_⟩
 ·rw[bi6.mp hp]
  exact⟨_,[],rfl,List.Sublist.refl _,λx hx=>(fN.mp hx).1,λB hB=>(by cases hB),bp2,λB hB=>(by cases hB),bs1 _⟩
 ·cases C with
  |nil=>exact⟨rng ws.length,[],bh7,bh8 _,λx hx _ _=>hx⟩
  |cons B C=>
   have h1:=hd B bh7
   obtain⟨nB,sB⟩:=neL B (hC B bh7)
   cases B with
   |nil=>exact absurd rfl nB
   |cons b r=>
    have h1:b<0:=h1
    have:=(fN.mp (sB.subset bh7)).1
    omega
 ·rintro k y ρ hy ⟨ps,y3,rfl,gd,ne,ex,gm⟩
  obtain⟨rfl,hk⟩:=iU hy
  refine tL rfl ?_
  refine⟨_,rfl,_,rfl,_,rfl,tups Z,rfl,(λz=>by cases z),by rw[c6];omega,λi acc=>∃A,acc=tups A/\(∀B∈A,B∈Z/\(0+(k:Int))∈B)/\(∀j B,j<i->Z[j]? = some B->B.headD 0=(k:Int)->B∈A)/\A=(Z.take i).filter (λB=>decide (B.headD 0=(k:Int))),⟨[],rfl,(λB hB=>by cases hB),(λj B hj=>by omega),rfl⟩,?_,?_⟩
  ·rintro i y acc hy ⟨A,rfl,hA,hA2,ea⟩
   obtain⟨B,rfl,hB⟩:=mJ hy
   have hZ:=bj5 hB
   refine tL (by unfold flat;exact cE B) ?_
   have lb:=gX.mp (bk0.mp ((zm B).mp hZ)).2
   cases B with
   |nil=>exact absurd rfl lb.1
   |cons b r=>
   refine⟨_,rfl,intz (b::r),0,.int b,rfl,rfl,k8 (bs1 0) rfl,_,rfl,.inl ⟨_,_,rfl,rfl,_,rfl,?_⟩⟩
   show if decide (b=0+(k:Int))=true then _ else _
   by_cases c:b=0+(k:Int)
   ·rw[if_pos (bi9 c)]
    refine⟨_,rfl,trivial,A++[b::r],?_,λB hB=>?_,λj B hj e hk=>?_,(by rw[mI hB,bi9 (show (b::r).headD 0=(k:Int) from by show b=_;omega),ea];rfl)⟩
    ·unfold tups;rw[bk8];rfl
    ·rcases bl5.mp hB with hB|hB
     ·exact hA B hB
     ·rw[bi6.mp hB]
      exact⟨hZ,by rw[<- c];exact bh7⟩
    ·by_cases ij:j=i
     ·subst ij
      rw[hB]at e;cases e
      exact bl1 _ bh7
     ·exact bs0 _ (hA2 j B (by omega) e hk)
   ·rw[if_neg (by rw[bk3];exact c)]
    refine⟨A,rfl,hA,λj B hj e hk=>?_,(by rw[mI hB,bi2 (show ¬(b::r).headD 0=(k:Int) from λz=>c (by have z:b=(k:Int):=z;omega)),ea];exact (bn4 _).symm)⟩
    by_cases ij:j=i
    ·subst ij
     rw[hB]at e;cases e
     have hk:b=(k:Int):=hk
     exact absurd (by omega) c
    ·exact hA2 j B (by omega) e hk
  ·rintro acc ⟨A,rfl,hA,hA2,ea⟩
   have sb:∀B∈cJ ws ls,B.Sublist (rng ws.length):=λB hB=>(eQ _ B).mp (bk0.mp hB).1
   refine⟨ws.length,cJ ws ls,ps,0+(k:Int),A,rfl,hn,by omega,by omega,by rw[bu8];exact gd,ne,λB hB=>⟨(zm B).mp (hA B hB).1,sb B ((zm B).mp (hA B hB).1),(hA B hB).2⟩,λps' ex' g' ne' got=>⟨trivial,ps',some (.sh true (.int (0+(k:Int)))),rfl,?_,ne',(by rw[ex',ea,c6,bl0,ex,bu8];rfl),?_⟩⟩
   ·rw[bu8]at g'
    exact g'
   ·rw[bu8]at got
    refine gm.step neL (λB hB hk=>?_) got
    obtain⟨j,hj⟩:=bx5 ((zm B).mpr hB)
    exact hA2 j B (by rw[c6];exact (bi3.mp hj).1) hj hk
 ·rintro ρ ⟨ps,y3,rfl,gd,ne,ex,gm⟩
  have lr:(cI 0 ws.length).length=ws.length:=by unfold cI;rw[bi1,bs8]
  have gd:GD ws.length (cJ ws ls) ((cI 0 ws.length).length:Nat) ps:=gd
  rw[lr]at gd
  have gm:GM ws.length (cJ ws ls) ((cI 0 ws.length).length:Nat) ps:=gm
  rw[lr]at gm
  obtain⟨p,r,rfl⟩:∃p r,ps=p::r:=by
   cases ps with
   |nil=>exact absurd rfl ne
   |cons p r=>exact⟨p,r,rfl⟩
  obtain⟨F,Bs,rfl,ge⟩:=gd.1 p bh7
  obtain rfl:F = []:=by
   cases F with
   |nil=>rfl
   |cons x F=>
    have h1:=ge.ge x bh7
    have h2:=(fN.mp (ge.sub.subset bh7)).2
    omega
  have v:=tQ gd.2 (bh7 (a:=(kI [],PV.fL (tups Bs))) (l:=r))
  refine⟨_,rfl,by show 0<=1000;omega,rfl,_,.inr ⟨_,kI [],rfl,rfl,v.symm⟩,?_⟩
  have:=ge.len
  refine⟨trivial,q Bs (ba8 pz sz (ex.trans (congrArg (mX ws.length Z) lr))) ge.mem ge.dis (by omega) λC hC dj=>?_⟩
  obtain⟨F,Bs',hm,hl,_⟩:=gm C hC dj λB hB=>by
   obtain⟨nB,sB⟩:=neL B (hC B hB)
   cases B with
   |nil=>exact absurd rfl nB
   |cons b r=>exact (fN.mp (sB.subset bh7)).2
  obtain⟨F',Bs2,e,ge'⟩:=gd.1 _ hm
  injection e with e1 e2
  injection e2 with e2
  obtain rfl:F = []:=by
   rw[mW e1]
   cases F' with
   |nil=>rfl
   |cons x F=>
    have h1:=ge'.ge x bh7
    have h2:=(fN.mp (ge'.sub.subset bh7)).2
    omega
  have v2:=tQ gd.2 hm
  rw[v]at v2
  injection v2 with v2
  injection v2 with v2
  have:Bs.length=Bs'.length:=by rw[<- c6 Bs,v2,c6]
  omega
end Core
namespace PP
open PySem L2
section
variable {X:Cx}{e a b:Expr}{te ta tb:aB}{pos:Pos}{σ:St}{H:Hp}{D:cW}{u:aL}
abbrev af7 (ta tb:aB):aB:=q2 (cZ λi j=>.int (Builtin.bitXor i j)) ta tb
theorem bb1 (ha:QE X a ta)(hb:QE X b tb):QE X (.BinOp a .BitXor b pos) (af7 ta tb):=gB an3 qL ha hb
def yP:Slot->Bool
 |.sh _ x=>flat x
 |.own (.lst xs)=>flats xs
 |.own (.dK ps)=>flats (ps.map (·.2))
 |.own (.dT ps)=>flats (ps.map (·.2))
 |_=>false
def yQ (i:Nat)(u:aL):aL:=λD ρ=>∃xs,ρ[i]? = some (some (.sh true (.lst xs)))/\(∀j m,j≠i->ρ[j]? = some (some m)->yP m=true)/\u { nx:=λ_=>False,rt:=D.rt } (ρ.set i none)
theorem PX.clearT {K:ac}{H0:Hp}{W:Addr->Prop}{ρ:aZ}{i:Nat}{a:Addr}{us:List V}(px:PX K H0 W σ ρ H)(ea:H a=some (.lst us))(wa:¬W a)(h0:H0 a=none)(sf:∀j m,j≠i->ρ[j]? = some (some m)->yP m=true):PX K H0 W σ (ρ.set i none) (upd H a (.lst [])):=by
 have nw:∀{b},W b->b≠a:=λ{b} h z=>wa (by rw[<- z];exact h)
 refine⟨by rw[bm9];exact px.len,λb o e=>?_,λb h=>?_,λj m h=>?_,λj k x y b h1 h2 h3 h4=>?_⟩
 ·rw[a8 (λz=>by rw[z,h0]at e;cases e)]
  exact px.same b o e
 ·obtain⟨h1,o,h2,h3⟩:=px.wm b h
  exact⟨h1,o,by rw[a8 (nw h)];exact h2,h3⟩
 ·rcases dI h with⟨rfl,hl,e⟩|⟨hne,h⟩
  ·cases e
  ·obtain⟨v,e,r⟩:=px.sl j m h
   have s:=sf j m hne h
   refine⟨v,e,?_⟩
   cases m with
   |sh g x=>exact (aD.flat (M':=λ_=>False) s r).keep (.upd ea rfl λb z=>z.elim)
   |own x=>
    obtain⟨b,rfl,wb,r⟩:=r
    refine⟨b,rfl,wb,?_⟩
    cases x with
    |lst xs=>
     obtain⟨us,e1,r⟩:=r
     exact⟨us,by rw[a8 (nw wb)];exact e1,(Reps.flat (M':=λ_=>False) s r).keep (.upd ea rfl λb z=>z.elim)⟩
    |dK ps=>
     obtain⟨us,e1,e2,r⟩:=r
     exact⟨us,by rw[a8 (nw wb)];exact e1,e2,(Reps.flat (M':=λ_=>False) s r).keep (.upd ea rfl λb z=>z.elim)⟩
    |dT ps=>
     obtain⟨us,e1,e2,r⟩:=r
     exact⟨us,by rw[a8 (nw wb)];exact e1,e2,(Reps.flat (M':=λ_=>False) s r).keep (.upd ea rfl λb z=>z.elim)⟩
    |_=>cases s
 ·have g:∀{j:Nat}{x:PV},(ρ.set i none)[j]? = some (some (.own x))->ρ[j]? = some (some (.own x)):=λ{j x} h=>by
   rcases dI h with⟨rfl,hl,e⟩|⟨hne,h⟩
   ·cases e
   ·exact h
  exact px.dis j k x y b (g h1) (g h2) h3 h4
theorem bb2 {i:Nat}(h:LS X (yQ i u) D σ H):nC (C7 X.K "list" E2 (dQ i)) { D with nx:=LS X u D } σ H:=by
 obtain⟨W,ρ,D',px,⟨xs,hi,sf,q⟩,k⟩:=h
 obtain⟨v,ev,r⟩:=px.sl i _ hi
 cases r with
 |@lst a us _ m ea r=>
  refine⟨_,ev,k9 (aJ.of ea),a,us,rfl,rfl,ea,?_⟩
  exact⟨W,_,_,px.clearT ea m.1 m.2 sf,q,⟨λ_ _ _ _ _ _ z=>z.elim,k.rt,λ_ _ _ _ _ _ z=>z.elim,λ_ _ _ _ _ _ z=>z.elim⟩⟩
theorem bb3 (i:Nat){x:Str}{apos cpos xpos:Pos}{sts:List Stmt}(h2:dW X sts u)(hN:X.N[i]? = some x:=by rfl)(hv:fQ X.env.scope x:=by first|exact Or.inl rfl|exact Or.inr (Or.inl rfl)|exact Or.inr (Or.inr rfl))(hd:(x==("__debug__":Str))=false:=by decide)(hcd:(x==("__classdict__":Str))=false:=by decide)(hbase:attributeBase (.Name x xpos) "clear" X.env (eval (.Name x xpos) X.env)=eval (.Name x xpos) X.env:=by rfl)(hline:(apos.endLine==cpos.line)=true:=by rfl)(hsw:swapsWith (.Call (.Attribute (.Name x xpos) "clear" apos) [] [] cpos) none pos.line X.env=pure false:=by rfl):dW X (.Expr (.Call (.Attribute (.Name x xpos) "clear" apos) [] [] cpos) pos::sts) (yQ i u):=
 wP (j5 (j6 (as3 br8 PySem.F.slot_list_clear PySem.F.type_list_clear as7 (iC hN hv hd hcd) hbase hline) hsw) h2) λ_ _ _=>bb2
end
end PP
namespace Core
open PySem L2 PP
def bt (f h:Nat):Bool:=f/2^h%2==1
def yR (m f:Nat):Bool:=(Builtin.bitAnd (m:Int) (f:Int)==(m:Int))==((List.range 6).all λh=>!bt m h||bt f h)
def yS (m f:Nat):Bool:=!(Builtin.bitAnd (m:Int) (f:Int)==(m:Int))||(Builtin.bitXor (f:Int) (m:Int)==((f-m:Nat):Int)&&decide (m<=f)&&((List.range 6).all λh=>bt (f-m) h==(bt f h&&!bt m h)))
theorem bb4:((List.range 64).all λm=>(List.range 64).all λf=>yR m f&&yS m f)=true:=by decide +kernel
theorem af8 {m f:Nat}(hm:m<64)(hf:f<64):yR m f=true/\yS m f=true:=by
 have h1:=bm8.mp (bm8.mp bb4 m (bq0.mpr hm)) f (bq0.mpr hf)
 rw[bk4]at h1
 exact h1
def b6 (B:ae):Int:=(B.map λx=>1*2^x.toNat).sum
theorem bb5:((aX (rng 6)).all λB=>decide (0<=b6 B)&&decide (b6 B<64)&&(decide (B = [])||decide (0<b6 B))&&(List.range 6).all λh=>bt (b6 B).toNat h==decide ((h:Int)∈B))=true:=by decide +kernel
theorem p9 {B:ae}(h:B.Sublist (rng 6)):0<=b6 B/\b6 B<64/\(B≠[]->0<b6 B)/\∀k:Nat,k<6->(bt (b6 B).toNat k=true↔(k:Int)∈B):=by
 have h1:=bm8.mp bb5 B ((eQ 6 B).mpr h)
 rw[bk4,bk4,bk4,Bool.or_eq_true,bk3,bk3,bk3,bk3]at h1
 obtain⟨⟨⟨h2,h3⟩,h4⟩,h5⟩:=h1
 refine⟨h2,h3,λne=>h4.elim (λz=>absurd z ne) λz=>z,λk hk=>?_⟩
 have:=bm8.mp h5 k (bq0.mpr hk)
 rw[beq_iff_eq]at this
 rw[this,bk3]
section
variable {ws:ae}{ls:aa}
def iA (ws:ae)(ls:aa)(B:ae):Prop:=B.Sublist (rng ws.length)/\B≠[]/\stay ws ls B=B
def iZ (ws:ae)(ls:aa)(C:ad):Prop:=(∀B∈C,iA ws ls B)/\C.Pairwise eS
def jS (f:Nat)(B:ae):Prop:=∀x∈B,bt f x.toNat=true
def mM (ws:ae)(ls:aa)(f:Nat)(v:Int):Prop:=(∃C,iZ ws ls C/\(∀B∈C,jS f B)/\(C.length:Int)=v)/\∀C,iZ ws ls C->(∀B∈C,jS f B)->(C.length:Int)<=v
theorem mY (n6:ws.length<=6){B:ae}(h:B.Sublist (rng ws.length)):B.Sublist (rng 6):=h.trans (ae7 n6)
theorem tW {B:ae}(h:B.Sublist (rng 6)){x:Int}(hx:x∈B):x.toNat<6/\(x.toNat:Int)=x:=by
 have:=fN.mp (h.subset hx)
 omega
theorem af9 (n6:ws.length<=6){B:ae}(h:B.Sublist (rng ws.length)){f:Nat}(hf:f<64):Builtin.bitAnd (b6 B) (f:Int)=b6 B↔jS f B:=by
 have s6:=mY n6 h
 obtain⟨m0,m1,_,mb⟩:=p9 s6
 have e:((b6 B).toNat:Int)=b6 B:=Int.toNat_of_nonneg m0
 obtain⟨k1,_⟩:=af8 (m:=(b6 B).toNat) (f:=f) (by omega) hf
 unfold yR at k1
 rw[e,beq_iff_eq,bu1,beq_iff_eq,bm8]at k1
 rw[k1]
 constructor
 ·intro h2 x hx
  obtain⟨x6,ex⟩:=tW s6 hx
  have:=h2 x.toNat (bq0.mpr x6)
  rw[(mb x.toNat x6).mpr (by rw[ex];exact hx)]at this
  exact this
 ·intro h2 k hk
  have k6:=bq0.mp hk
  cases z:bt (b6 B).toNat k with
  |false=>rfl
  |true=>
   have:=h2 _ ((mb k k6).mp z)
   rw[bm4]at this
   rw[this];rfl
theorem yT (n6:ws.length<=6){B:ae}(h:B.Sublist (rng ws.length)){f:Nat}(hf:f<64)(hi:Builtin.bitAnd (b6 B) (f:Int)=b6 B):∃g:Nat,Builtin.bitXor (f:Int) (b6 B)=(g:Int)/\(g:Int)=f-b6 B/\∀A:ae,A.Sublist (rng ws.length)->(jS g A↔jS f A/\eS B A):=by
 have s6:=mY n6 h
 obtain⟨m0,m1,_,mb⟩:=p9 s6
 have e:((b6 B).toNat:Int)=b6 B:=Int.toNat_of_nonneg m0
 obtain⟨_,k2⟩:=af8 (m:=(b6 B).toNat) (f:=f) (by omega) hf
 unfold yS at k2
 rw[e,hi,bq4,Bool.not_true,Bool.false_or,bk4,bk4,beq_iff_eq,bk3,bm8]at k2
 obtain⟨⟨k3,k4⟩,k5⟩:=k2
 refine⟨f-(b6 B).toNat,k3,by omega,λA sA=>?_⟩
 have sA6:=mY n6 sA
 have key:∀k:Nat,k<6->bt (f-(b6 B).toNat) k=(bt f k&&!bt (b6 B).toNat k):=λk hk=>beq_iff_eq.mp (k5 k (bq0.mpr hk))
 constructor
 ·intro h2
  refine⟨λx hx=>?_,λx hx c=>?_⟩
  ·obtain⟨x6,ex⟩:=tW sA6 hx
   have:=h2 x hx
   rw[key _ x6,bk4]at this
   exact this.1
  ·obtain⟨x6,ex⟩:=tW sA6 c
   have:=h2 x c
   rw[key _ x6,bk4,(mb x.toNat x6).mpr (by rw[ex];exact hx)]at this
   exact absurd this.2 (by decide)
 ·rintro⟨h2,dj⟩ x hx
  obtain⟨x6,ex⟩:=tW sA6 hx
  rw[key _ x6,h2 x hx]
  cases z:bt (b6 B).toNat x.toNat with
  |false=>rfl
  |true=>
   have:=(mb x.toNat x6).mp z
   rw[ex]at this
   exact absurd hx (dj x this)
theorem bb6 {B:ae}{C:ad}(hB:iA ws ls B)(hC:iZ ws ls C)(dj:∀A∈C,eS B A):iZ ws ls (B::C):=
 ⟨λA hA=>(bi4.mp hA).elim (λz=>by rw[z];exact hB) (hC.1 A),br1.mpr ⟨dj,hC.2⟩⟩
theorem bb7 (n6:ws.length<=6){f:Nat}(hf:f<64){v:Int}{V:ae}(v0:0<=v)(att:∃C,iZ ws ls C/\(∀B∈C,jS f B)/\(C.length:Int)=v)(old:∀g<f,mM ws ls g (V.getD g 0))(le:∀B,iA ws ls B->Builtin.bitAnd (b6 B) (f:Int)=b6 B->∀g:Nat,(g:Int)=f-b6 B->1+V.getD g 0<=v):mM ws ls f v:=by
 refine⟨att,λC hC hin=>?_⟩
 cases C with
 |nil=>exact v0
 |cons B C=>
  have hB:=hC.1 B bh7
  obtain⟨d1,d2⟩:=br1.mp hC.2
  have hi:=(af9 n6 hB.1 hf).mpr (hin B bh7)
  obtain⟨g,g1,g2,g3⟩:=yT n6 hB.1 hf hi
  have mp:=(p9 (mY n6 hB.1)).2.2.1 hB.2.1
  have h1:=le B hB hi g g2
  have h2:=(old g (by omega)).2 C ⟨λA hA=>hC.1 A (bi5 _ hA),d2⟩ λA hA=>(g3 A (hC.1 A (bi5 _ hA)).1).mpr ⟨hin A (bi5 _ hA),d1 A hA⟩
  rw[bk9]
  omega
theorem bb8 (n6:ws.length<=6){f g:Nat}(hf:f<64){B:ae}{v:Int}(hB:iA ws ls B)(hi:Builtin.bitAnd (b6 B) (f:Int)=b6 B)(eg:(g:Int)=f-b6 B)(h:mM ws ls g v):∃C,iZ ws ls C/\(∀B∈C,jS f B)/\(C.length:Int)=1+v:=by
 obtain⟨⟨C,hC,hin,hl⟩,_⟩:=h
 obtain⟨g',g1,g2,g3⟩:=yT n6 hB.1 hf hi
 obtain rfl:g=g':=by omega
 refine⟨B::C,bb6 hB hC λA hA=>((g3 A (hC.1 A hA).1).mp (hin A hA)).2,λA hA=>?_,by rw[bk9];omega⟩
 rcases bi4.mp hA with z|z
 ·rw[z];exact (af9 n6 hB.1 hf).mp hi
 ·exact ((g3 A (hC.1 A z).1).mp (hin A z)).1
end
def ag0 (ws:ae)(ls:aa)(v:Int):Prop:=(∃C,iZ ws ls C/\(C.length:Int)=v)/\∀C,iZ ws ls C->(C.length:Int)<=v
def tX:bA:=λxs Q=>∃ws ls,xs = [bC ws ls]/\Wb ws ls/\ws.length<=6/\∀v,ag0 ws ls v->Q (.int v)
def bb9:aL:=(cN (aU (fD (aT9 (a5 6) (a5 5)) (a5 6))) (kC 4 (a5 5) (aH qS (a7 (bT (a5 4) (a5 5)) (a7 (dU (qC (.int 1)) (bT (a5 4) (af7 (a5 5) (a5 6)))) aE)))) dG)
def ag1:aL:=(aO (bH 1 (aH cF (a7 (bT (a5 0) (qC (.int 0))) aE)))
 (aO (fM 2 (fA aE))
 (aO (dJ (dA (aH tJ (a7 (a5 1) aE))) (bB 3)
  (cN (jF (aU (kH (aH cF (a7 (a5 3) aE)) (qC (.int 0)))) (aU (aH mU (a7 (a5 0) (a7 (a5 3) aE))))) (kB 2 (aH xR (a7 (dL (dA (a5 3)) [none] (bB 0) gA (rA (qC (.int 1)) (a5 0))) aE))) dG))
 (aO (fM 4 (xP (fA (a7 (qC (.int 0)) aE)) (rA (qC (.int 1)) (a5 1))))
 (aO (qP 2 (dJ (iM (rA (qC (.int 1)) (a5 1))) (bB 5)
  (dJ (dA (a5 2)) (bB 6)
   bb9)))
 (bI (bT (a5 4) (o6 (qC (.int 1))))))))))
theorem yU {V:ae}{k j:Nat}{x:Int}(h:j≠k):(V.set k x).getD j 0=V.getD j 0:=by
 rw[bh9,bh9,bl9 (λz=>h z.symm)]
theorem yV {V:ae}{k:Nat}{x:Int}(h:k<V.length):(V.set k x).getD k 0=x:=by
 rw[bh9,bq8 h];rfl
section
variable {ws:ae}{ls:aa}{L V:ae}{n f:Nat}{y3:Option Slot}
structure MI (ws:ae)(ls:aa)(n:Nat)(L:ae)(f j:Nat)(V:ae):Prop where
 len:V.length=2^n
 old:∀g<f,mM ws ls g (V.getD g 0)
 new:∀g,f<g->V.getD g 0=0
 pos:0<=V.getD f 0
 att:∃C,iZ ws ls C/\(∀B∈C,jS f B)/\(C.length:Int)=V.getD f 0
 le:∀(i:Nat) (m:Int),i<j->L[i]? = some m->Builtin.bitAnd m (f:Int)=m->∀g:Nat,(g:Int)=f-m->1+V.getD g 0<=V.getD f 0
theorem MI.skip {j:Nat}(h:MI ws ls n L f j V){m:Int}(e:L[j]? = some m)(no:¬Builtin.bitAnd m (f:Int)=m):MI ws ls n L f (j+1) V:=by
 refine⟨h.len,h.old,h.new,h.pos,h.att,λi m' hi e' hb=>?_⟩
 by_cases ij:i=j
 ·subst ij
  rw[e]at e';cases e'
  exact absurd hb no
 ·exact h.le i m' (by omega) e' hb
theorem MI.put {j:Nat}(h:MI ws ls n L f j V)(n6:ws.length<=6)(hf:f<2^n)(h64:2^n<=64){B:ae}(hB:iA ws ls B)(e:L[j]? = some (b6 B))(hi:Builtin.bitAnd (b6 B) (f:Int)=b6 B){g:Nat}(eg:(g:Int)=f-b6 B)(hp:∀(i:Nat) (m:Int),L[i]? = some m->0<m) :
  MI ws ls n L f (j+1) (V.set f (if 1+V.getD g 0>V.getD f 0 then 1+V.getD g 0 else V.getD f 0)):=by
 have mp:=(p9 (mY n6 hB.1)).2.2.1 hB.2.1
 have gf:g<f:=by omega
 have fl:f<V.length:=by rw[h.len];exact hf
 have vg:=h.old g gf
 have vg0:0<=V.getD g 0:=by
  have:=vg.2 [] ⟨(λB hB=>by cases hB),bp2⟩ (λB hB=>by cases hB)
  exact this
 generalize hx:(if 1+V.getD g 0>V.getD f 0 then 1+V.getD g 0 else V.getD f 0)=x
 have x1:V.getD f 0<=x/\1+V.getD g 0<=x:=by rw[<- hx];split<;>omega
 have hpos:=h.pos
 refine⟨by rw[bm9];exact h.len,λk hk=>by rw[yU (by omega)];exact h.old k hk,λk hk=>by rw[yU (by omega)];exact h.new k hk,by rw[yV fl];omega,?_,λi m hij e' hb k ek=>?_⟩
 ·rw[yV fl,<- hx]
  split
  ·exact bb8 n6 (by omega) hB hi eg vg
  ·exact h.att
 ·have:=hp i m e'
  rw[yV fl,yU (by omega)]
  by_cases ij:i=j
  ·subst ij
   rw[e]at e';cases e'
   obtain rfl:k=g:=by omega
   exact x1.2
  ·exact Int.le_trans (h.le i m (by omega) e' hb k ek) x1.1
end
theorem bc0:cQ ag1 ["web","many","blocks","some","most","free","block"] tX:=by
 rintro xs Q ⟨ws,ls,rfl,wb,n6,q⟩
 have fw:=U7 ws ls
 have e0:eI ["web","many","blocks","some","most","free","block"] [bC ws ls] = [some (.sh true (bC ws ls)),none,none,none,none,none,none]:=by
  show [some (Slot.sh (flat (bC ws ls)) (bC ws ls)),none,none,none,none,none,none]=_
  rw[fw]
 rw[e0]
 refine⟨_,rfl,_,_,_,rfl,rfl,rfl,_,_,rfl,rfl,trivial,?_⟩
 rw[b8]
 refine⟨by decide,rfl,rfl,rfl,?_⟩
 refine⟨_,rfl,ws.length,rfl,by omega,λZ pz _=>?_⟩
 have zs:∀B∈Z,B.Sublist (rng ws.length):=λB hB=>(eQ _ B).mp (pz.mem_iff.mp hB)
 have h64:2^ws.length<=64:=bm0 (bt3 (by decide) n6) (by decide)
 have cz:∀B:ae,Decidable (iA ws ls B):=λB=>Classical.propDecidable _
 refine⟨tups Z,rfl,(λz=>by cases z),λk ρ=>∃(L:ae) (y3:Option Slot),ρ = [some (.sh true (bC ws ls)),si ws.length,some (.own (.lst (intz L))),y3,none,none,none]/\(∀m∈L,∃B,iA ws ls B/\m=b6 B)/\(∀i B,i<k->Z[i]? = some B->iA ws ls B->b6 B∈L)/\L.length<=k,⟨[],none,rfl,(λm hm=>by cases hm),(λi B hi=>by omega),bl4 _⟩,?_,?_⟩
 ·rintro k y ρ hy ⟨L,y3,rfl,h1,h2,h3⟩
  obtain⟨B,rfl,hB⟩:=mJ hy
  have sB:=zs B (bj5 hB)
  have lB:=tR sB
  refine ad3 ?_
  refine⟨_,rfl,_,_,rfl,rfl,_,_,rfl,rfl,_,rfl,?_⟩
  rw[b8]
  show if decide ((0:Int)<(B.length:Int))=true then _ else _
  by_cases b0:0<B.length
  ·rw[bi9 (by omega)]
   refine cA ⟨_,rfl,_,rfl,ws,ls,B,rfl,wb,λx hx=>sB.subset hx,_,rfl,?_⟩
   have ne:B≠[]:=λz=>by rw[z]at b0;exact absurd b0 (by decide)
   by_cases st:stay ws ls B=B
   ·rw[bi9 st]
    have cb:iA ws ls B:=⟨sB,ne,st⟩
    refine cA ⟨_,rfl,_,rfl,intz B,rfl,(λz=>by cases z),by rw[b8];omega,λj acc=>acc=intz ((B.take j).map λx=>1*2^x.toNat),rfl,?_,?_⟩
    ·rintro j z acc hz rfl
     obtain⟨x,rfl,hx⟩:=gD hz
     have xr:=fN.mp (sB.subset (bj5 hx))
     refine⟨_,rfl,_,_,rfl,rfl,⟨xr.1,by omega,by decide⟩,trivial,?_⟩
     dsimp only
     rw[bm1,hx,bk8,gV];rfl
    ·rintro acc rfl
     rw[b8 B,bl0]
     refine⟨_,_,rfl,rfl,trivial,by rw[b8];have:=(bi3.mp hB).1;have z1:=pz.length_eq;rw[kU]at z1;omega,?_⟩
     refine⟨L++[b6 B],some (.sh true (.tup (intz B))),?_,λm hm=>?_,λi B' hi e cb'=>?_,by rw[bj6,bn2];omega⟩
     ·rw[gV];rfl
     ·rcases bl5.mp hm with hm|hm
      ·exact h1 m hm
      ·exact⟨B,cb,bi6.mp hm⟩
     ·by_cases ik:i=k
      ·subst ik
       rw[hB]at e;cases e
       exact bl1 _ bh7
      ·exact bs0 _ (h2 i B' (by omega) e cb')
   ·rw[bi2 st]
    refine bD ⟨L,_,rfl,h1,λi B' hi e cb'=>?_,by omega⟩
    by_cases ik:i=k
    ·subst ik
     rw[hB]at e;cases e
     exact absurd cb'.2.2 st
    ·exact h2 i B' (by omega) e cb'
  ·rw[bi2 (by omega)]
   refine bD (bD ⟨L,_,rfl,h1,λi B' hi e cb'=>?_,by omega⟩)
   by_cases ik:i=k
   ·subst ik
    rw[hB]at e;cases e
    exact absurd (List.length_pos_iff.mpr cb'.2.1) b0
   ·exact h2 i B' (by omega) e cb'
 rintro ρ ⟨L,y3,rfl,h1,h2,h3⟩
 have all:∀B,iA ws ls B->b6 B∈L:=λB cb=>by
  obtain⟨i,hi⟩:=bx5 (pz.mem_iff.mpr ((eQ _ B).mpr cb.1))
  exact h2 i B (by rw[c6];exact (bi3.mp hi).1) hi cb
 have hp:∀(i:Nat) (m:Int),L[i]? = some m->0<m:=λi m e=>by
  obtain⟨B,cb,rfl⟩:=h1 m (bj5 e)
  exact (p9 (mY n6 cb.1)).2.2.1 cb.2.1
 clear h2 h3
 have pw:((1:Int)*2^(ws.length:Int).toNat)=((2^ws.length:Nat):Int):=by rw[Int.one_mul,bm4,Int.natCast_pow];rfl
 refine⟨(by show 1<=1000;decide),rfl,_,rfl,_,_,rfl,rfl,⟨by omega,by omega,by decide⟩,_,_,rfl,rfl,rfl,?_,?_,(by show 1<=10;decide),rfl,(by show flats (List.replicate _ [PV.int 0]).flatten=true;rw[t9];exact cE _),?_⟩
 ·rw[pw];exact Int.le_trans (by decide) (Int.natCast_nonneg _)
 ·rw[pw];exact Int.le_trans (Int.ofNat_le.mpr h64) (by decide)
 have er:(List.replicate ((1:Int)*2^(ws.length:Int).toNat).toNat [PV.int 0]).flatten=intz (List.replicate (2^ws.length) 0):=by
  rw[pw,bm4];exact t9 _ 0
 refine⟨_,rfl,_,rfl,_,_,rfl,rfl,⟨by omega,by omega,by decide⟩,_,rfl,?_,?_,λf ρ=>∃(V:ae) (y5 y6:Option Slot),ρ = [some (.sh true (bC ws ls)),si ws.length,some (.sh true (.lst (intz L))),y3,some (.own (.lst (intz V))),y5,y6]/\V.length=2^ws.length/\(∀g<f,mM ws ls g (V.getD g 0))/\∀g,f<=g->V.getD g 0=0,⟨List.replicate (2^ws.length) 0,none,none,?_,bw5,(λg hg=>by omega),λg _=>?_⟩,?_,?_⟩
 ·rw[pw];exact Int.le_trans (by decide) (Int.natCast_nonneg _)
 ·rw[pw];exact Int.le_trans (Int.ofNat_le.mpr h64) (by decide)
 ·show [_,_,_,_,some (Slot.own (.lst _)),_,_]=_
  rw[<- er];rfl
 ·rw[bh9,List.getElem?_replicate];split<;>rfl
 ·rintro f y ρ hy ⟨V,y5,y6,rfl,vl,old,new⟩
  obtain⟨rfl,hf⟩:=iU hy
  rw[pw,bm4]at hf
  refine gE ?_
  rw[bu8]
  have m0:MI ws ls ws.length L f 0 V:=⟨vl,old,λg hg=>new g (by omega),by rw[new f (bh8 _)];exact bs1 _,⟨[],⟨(λB hB=>by cases hB),bp2⟩,(λB hB=>by cases hB),by rw[new f (bh8 _)];rfl⟩,λi m hi=>by omega⟩
  refine⟨_,rfl,intz L,rfl,(λz=>by cases z),λj ρ=>∃(V:ae) (y6:Option Slot),ρ = [some (.sh true (bC ws ls)),si ws.length,some (.sh true (.lst (intz L))),y3,some (.own (.lst (intz V))),si (f:Int),y6]/\MI ws ls ws.length L f j V,⟨V,y6,rfl,m0⟩,?_,?_⟩
  ·rintro j y ρ hy ⟨V,y6,rfl,mi⟩
   obtain⟨m,rfl,hm⟩:=gD hy
   obtain⟨B,cb,rfl⟩:=h1 m (bj5 hm)
   refine gE ?_
   refine⟨_,rfl,_,rfl,_,_,rfl,rfl,_,rfl,.inl ⟨_,_,rfl,rfl,_,rfl,?_⟩⟩
   show if decide (Builtin.bitAnd (b6 B) (f:Int)=b6 B)=true then _ else _
   by_cases hi:Builtin.bitAnd (b6 B) (f:Int)=b6 B
   ·rw[bi9 hi]
    obtain⟨g,g1,g2,_⟩:=yT n6 cb.1 (show f<64 by omega) hi
    have mp:=hp j _ hm
    have vl:=mi.len
    have a1:L2.atI (intz V) (f:Int)=some (.int (V.getD f 0)):=by
     have:=sK (ws:=V) (h:=(f:Int)) (by omega) (by omega)
     rwa [bm4]at this
    have a2:L2.atI (intz V) (Builtin.bitXor (f:Int) (b6 B))=some (.int (V.getD g 0)):=by
     rw[g1]
     have:=sK (ws:=V) (h:=(g:Int)) (by omega) (by omega)
     rwa [bm4]at this
    refine cA ⟨_,rfl,_,rfl,_,_,_,rfl,rfl,a1,_,rfl,_,rfl,_,rfl,_,_,rfl,rfl,_,_,_,rfl,rfl,a2,_,_,rfl,rfl,_,_,rfl,_,rfl,_,rfl,f,f,rfl,?_,trivial,?_⟩
    ·unfold L2.fH
     rw[if_pos (by omega),b8,if_pos (by omega)];rfl
    ·refine⟨_,some (.sh true (.int (b6 B))),?_,mi.put n6 hf h64 cb hm hi g2 hp⟩
     rw[<- aW3];rfl
   ·rw[bi2 hi]
    exact bD ⟨V,_,rfl,mi.skip hm hi⟩
  ·rintro ρ ⟨V,y6,rfl,mi⟩
   refine⟨V,_,y6,rfl,mi.len,λg hg=>?_,λg hg=>mi.new g (by omega)⟩
   by_cases gf:g=f
   ·subst gf
    refine bb7 n6 (by omega) mi.pos mi.att mi.old λB cb hi k ek=>?_
    obtain⟨i,hi2⟩:=bx5 (all B cb)
    exact mi.le i _ (by rw[b8];exact (bi3.mp hi2).1) hi2 hi k ek
   ·exact mi.old g (by omega)
 ·rintro ρ ⟨V,y5,y6,rfl,vl,old,new⟩
  have lr:(cI 0 ((1:Int)*2^(ws.length:Int).toNat).toNat).length=2^ws.length:=by unfold cI;rw[bi1,bs8,pw,bm4]
  have p0:0<2^ws.length:=Nat.pow_pos (by decide)
  have last:=old (2^ws.length-1) (by rw[lr];omega)
  have a1:L2.atI (intz V) (-1)=some (.int (V.getD (2^ws.length-1) 0)):=by
   unfold L2.atI L2.fH
   rw[if_neg (by decide),b8,vl,if_pos (by omega)]
   show (intz V)[((-1:Int)+(2^ws.length:Nat)).toNat]? = _
   rw[show ((-1:Int)+(2^ws.length:Nat)).toNat=2^ws.length-1 by omega]
   show (List.map PV.int V)[_]? = _
   rw[bi7,bh9,bh5 (by omega)];rfl
  refine⟨_,rfl,_,rfl,_,_,_,rfl,rfl,a1,rfl,q _ ⟨?_,λC hC=>last.2 C hC λB hB x hx=>?_⟩⟩
  ·obtain⟨C,h1,_,h2⟩:=last.1
   exact⟨C,h1,h2⟩
  ·have xr:=fN.mp ((hC.1 B hB).1.subset hx)
   have key:∀n:Nat,n<=6->∀k:Nat,k<n->bt (2^n-1) k=true:=by decide
   exact key ws.length n6 x.toNat (by omega)
def ApB (ws:ae)(ls:aa)(Bs:ad):Prop:=Bs=tU ws ls/\(∀B∈Bs,B∈cJ ws ls)/\Bs.Pairwise eS/\Bs.length<=ws.length/\∀C:ad,(∀B∈C,B∈cJ ws ls)->C.Pairwise eS->C.length<=Bs.length
def tY:bA:=λxs Q=>∃ws ls,xs = [bC ws ls]/\Wb ws ls/\ws.length<=12/\(cJ ws ls).length<64/\∀Bs:ad,ApB ws ls Bs->Q (.lst (tups Bs))
theorem ag2:∀ls:aa,pls (dD ls)=true
 |[]=>rfl
 |l::r=>by show (pl (.tup [.int l.1,.int l.2])&&pls (dD r))=true;rw[ag2 r];rfl
theorem bc1:∀xs Q,tY xs Q->pls xs=true/\yO xs (λz=>∃ys,z = .fL ys/\pls ys=true/\Q (.lst ys)):=by
 rintro xs Q ⟨ws,ls,rfl,wb,hn,few,q⟩
 refine⟨?_,ws,ls,rfl,wb,hn,few,λBs h1 h2 h3 h4 h5=>⟨_,rfl,af1 Bs,q Bs ⟨h1,h2,h3,h4,h5⟩⟩⟩
 show (pl (.tup [.tup (intz ws),.tup (dD ls)])&&true)=true
 rw[bt6]
 unfold pl
 show (pl (.tup (intz ws))&&(pl (.tup (dD ls))&&true))=true
 rw[bt6,bk4]
 constructor
 ·unfold pl;exact yL ws
 ·unfold pl;exact ag2 ls
theorem bc2 {ws:ae}{ls:aa}{Bs:ad}{v:Int}(h:ApB ws ls Bs)(m:ag0 ws ls v):(Bs.length:Int)=v:=by
 obtain⟨_,h1,h2,_,h3⟩:=h
 have up:(Bs.length:Int)<=v:=by
  refine m.2 Bs ⟨λB hB=>?_,h2⟩
  have hb:=h1 B hB
  have lb:=gX.mp (bk0.mp hb).2
  exact⟨(eQ _ B).mp (bk0.mp hb).1,lb.1,lb.2.1⟩
 obtain⟨C,hC,hl⟩:=m.1
 obtain⟨E,e1,e2,e3⟩:∃E:ad,E.length=(C.map λB=>(B.headD 0,B)).length/\(∀B∈E,B∈cJ ws ls/\∃q∈(C.map λB=>(B.headD 0,B)),∀x∈B,x∈q.2)/\E.Pairwise eS:=by
  refine af0 (λq hq=>?_) (bp3.mpr hC.2)
  obtain⟨B,hB,rfl⟩:=bk5.mp hq
  obtain⟨c1,c2,c3⟩:=hC.1 B hB
  refine⟨jO.mp c1,?_,c3⟩
  cases B with
  |nil=>exact absurd rfl c2
  |cons b r=>exact bh7
 have:=h3 E (λB hB=>(e2 B hB).1) e3
 rw[e1,bi1]at this
 omega
theorem ag3:∀{Bs:ad},(∀B∈Bs,B.Nodup)->Bs.Pairwise eS->Bs.flatten.Nodup
 |[],_,_=>bp2
 |B::r,h,d=>by
  obtain⟨d1,d2⟩:=br1.mp d
  rw[bt7]
  refine bv4.mpr ⟨h B bh7,ag3 (λA hA=>h A (bi5 _ hA)) d2,λa ha b hb e=>?_⟩
  obtain⟨A,hA,hx⟩:=List.mem_flatten.mp hb
  exact d1 A hA a ha (by rw[e];exact hx)
def yW:bA:=X1
def bc3:aL:=(bI (lT (fD (aH cF (a7 (dL (iM (aH cF (a7 (a5 3) aE))) [none,some 3] (bB 0) (aU (q2 (o7 false) (bT (a5 1) (a5 0)) (wM (a5 1) N8 (r6 (a5 0))))) (a5 0)) aE)) (qC (.int 0))) (q2 (qZ 2 false) (aH tY (a7 (a5 1) aE)) (a5 5))))
def ag4 (K:ac):aL:=(aO (bH 1 (aH tK (a7 (a5 0) (a7 (qC (.int 6)) aE))))
 (aO (fM 2 (aH tY (a7 (a5 1) aE)))
 (aO (cN (jG (i4 (aU (iO K "list" (a5 2)))) (aU (qNe (aH cF (a7 (a5 2) aE)) (aH tX (a7 (a5 1) aE))))) (bI (qC (.bl false))) dG)
 (aO (fM 3 (fA aE))
 (aO (qP 2 (dJ (dA (a5 2)) (bB 4)
  (aO (cN (jG (i4 (aU (aH tH (a7 (a5 4) (a7 (aH cF (a7 (bT (a5 1) (qC (.int 0))) aE)) aE))))) (jG (aU (fD (aH cF (a7 (a5 4) aE)) (qC (.int 0)))) (i4 (aU (aH mU (a7 (a5 1) (a7 (a5 4) aE))))))) (bI (qC (.bl false))) dG)
  (wA 3 (aH qQ (a7 (a5 4) aE))))))
 (aO (fM 5 (aH qQ (a7 (a5 2) aE)))
 (yQ 2
 bc3)))))))
theorem bc4 {K:ac}(kl:PySem.W.kitOne K (.type "list") (.type "list")=some true):cQ (ag4 K) ["script","web","found","met","block","kept"] yW:=by
 rintro xs Q ⟨ns,rfl,hl,q⟩
 refine⟨_,rfl,ns,6,rfl,hl,by decide,by decide,λn ws ls n0 n1 w=>⟨trivial,?_⟩⟩
 have wl:=w.many
 have wb:Wb ws ls:=w.wb (by omega)
 have n6:ws.length<=6:=by omega
 have few:=ba0 (ws:=ws) (ls:=ls) (by omega)
 refine⟨_,rfl,ws,ls,rfl,wb,by omega,few,λBs ab=>⟨rfl,eN Bs,?_⟩⟩
 have sb:∀B∈Bs,B.Sublist (rng ws.length)/\B≠[]/\stay ws ls B=B:=λB hB=>by
  have hb:=ab.2.1 B hB
  have lb:=gX.mp (bk0.mp hb).2
  exact⟨(eQ _ B).mp (bk0.mp hb).1,lb.1,lb.2.1⟩
 refine⟨_,rfl,_,_,rfl,kl,_,rfl,bD ⟨_,rfl,_,_,rfl,rfl,_,rfl,ws,ls,rfl,wb,n6,λv mv=>.inl ⟨_,_,rfl,rfl,_,rfl,?_⟩⟩⟩
 have ev:=bc2 ab mv
 rw[c6]
 show if (!decide ((Bs.length:Int)=v))=true then _ else _
 rw[bi9 ev]
 refine bD ⟨by decide,rfl,rfl,rfl,?_⟩
 refine⟨_,rfl,_,rfl,tups Bs,rfl,(λz=>by cases z),λk ρ=>∃(M:ae) (y4:Option Slot),ρ = [some (.sh true (.scr ns)),some (.sh true (bC ws ls)),some (.sh true (.lst (tups Bs))),some (.own (.lst (intz M))),y4,none]/\M=(Bs.take k).flatten/\M.length<=6*k/\(∀m,y4=some m->yP m=true),⟨[],none,rfl,rfl,bl4 _,λm z=>by cases z⟩,?_,?_⟩
 ·rintro k y ρ hy ⟨M,y4,rfl,em,lm,_⟩
  obtain⟨B,rfl,hB⟩:=mJ hy
  obtain⟨s1,s2,s3⟩:=sb B (bj5 hB)
  have lB:=tR s1
  have hk:=(bi3.mp hB).1
  have bl:=ab.2.2.2.1
  refine ad3 ?_
  refine⟨_,rfl,_,rfl,_,_,_,rfl,rfl,rfl,_,_,rfl,rfl,B,ws.length,by rw[b8];rfl,jO.mp s1,_,rfl,bD ⟨_,rfl,_,_,rfl,rfl,.inl ⟨_,_,rfl,rfl,_,rfl,?_⟩⟩⟩
  have b0:=List.length_pos_iff.mpr s2
  rw[b8]
  show if decide ((B.length:Int)=0)=true then _ else _
  rw[bi2 (by omega)]
  refine bD ⟨_,rfl,_,rfl,ws,ls,B,rfl,wb,(λx hx=>s1.subset hx),_,rfl,?_⟩
  rw[bi9 s3]
  refine bD ⟨_,rfl,_,rfl,_,_,rfl,rfl,cE B,intz B,.inr rfl,.inl trivial,by rw[b8,b8];omega,?_⟩
  refine⟨M++B,some (.sh true (.tup (intz B))),?_,?_,by rw[bj6];omega,λm z=>by cases z;exact oN B⟩
  ·rw[gV];rfl
  ·rw[bm1,hB,em,List.flatten_append];simp
 ·rintro ρ ⟨M,y4,rfl,em,lm,sy⟩
  have em:M=Bs.flatten:=by rw[em,c6,bl0]
  have bl:=ab.2.2.2.1
  have lm:M.length<=6*Bs.length:=by rw[c6]at lm;exact lm
  refine⟨_,rfl,_,_,rfl,rfl,eN Bs,rfl,eN Bs,?_⟩
  refine⟨_,rfl,λj m hj hm=>?_,?_⟩
  ·match j,hj,hm with
   |0,_,hm=>cases hm;rfl
   |1,_,hm=>cases hm;exact U7 ws ls
   |2,hj,_=>exact absurd rfl hj
   |3,_,hm=>cases hm;exact cE M
   |4,_,hm=>exact sy m (bk2 hm)
   |5,_,hm=>cases hm;exact eN Bs
  ·have nd:M.Nodup:=by
    rw[em]
    exact ag3 (λB hB=>aX4 (jO.mp (sb B hB).1)) ab.2.2.1
   have lr:(cI 0 (((intz M).length:Nat):Int).toNat).length=M.length:=by unfold cI;rw[bi1,bs8,b8];rfl
   refine⟨_,rfl,_,_,rfl,rfl,_,rfl,?_,?_,?_,λk acc=>acc = [],rfl,?_,?_⟩
   ·show -1000000<=((intz M).length:Int);omega
   ·show ((intz M).length:Int)<=1000000;rw[b8];omega
   ·exact bm0 (Nat.le_of_eq lr) (by omega)
   ·rintro k y acc hy rfl
    obtain⟨rfl,hk⟩:=iU hy
    have hk:k<M.length:=by
     have:k<(((intz M).length:Nat):Int).toNat:=hk
     rw[b8]at this
     omega
    have hm:M[k]? = some M[k]:=bh5 hk
    have at1:L2.atI (intz M) (0+(k:Int))=some (.int M[k]):=by
     rw[bu8]
     exact jW (by show (List.map PV.int M)[_]? = _;rw[bi7,hm];rfl)
    refine gE ?_
    refine⟨_,rfl,_,rfl,_,_,_,rfl,rfl,at1,_,rfl,_,rfl,_,rfl,intz M,rfl,cE M,M[k],M.take k,rfl,?_,_,rfl,?_⟩
    ·show some (gR (intz M) none (some (0+(k:Int))))=_
     rw[aQ1 (by omega),show (0+(k:Int)).toNat=k by omega]
    ·show if decide (M[k]∈M.take k)=true then _ else _
     rw[bi2 (aX2 nd hm)]
     exact bD rfl
   ·rintro acc rfl
    refine⟨_,_,rfl,rfl,.inl ⟨_,_,rfl,rfl,_,rfl,cA ⟨_,rfl,ws,ls,rfl,wb,by omega,few,λBs2 ab2=>⟨_,rfl,.inr ⟨_,_,rfl,rfl⟩,Z5 1 _ _,trivial,?_⟩⟩⟩⟩
    show Q (.bl (c8 3 (.lst (tups Bs2)) (.lst (tups Bs))))
    rw[aR2 1,ab2.1,ab.1,bi9 rfl]
    exact q
end Core
namespace K_k38
open PySem PySem.W L2 PP Core
theorem _root_.L2.FnScope.au {N P:List Str}{s:Scope}(a:s.kind=.function:=by rfl)(b:s.isCoroutine=false:=by rfl)(c:s.isGenerator=false:=by rfl)(d:N.Nodup:=by decide +kernel)(e:N.take P.length=P:=by rfl)(f:∀x∈P,s.names.lookup x=some .local∨s.names.lookup x=some .cell:=by decide +kernel)(g:∀y∈s.names,y.2≠.free:=by decide +kernel):FnScope N P s:=⟨a,b,c,d,e,f,g⟩
def aV (i:Nat):Stmt:=PySem.Challenge.pw_kindleweb_k38_blocks_apart.main.body.getD i (.Pass ⟨0,0,0,0⟩)
structure FK (K:Frag)(n:Str)(i:Nat)(f:Addr)(d:FuncData):Prop where
 a:nsIn K mainGlobals n=some (some (.ref f))
 F:dR K n n (aV i) f d
structure FM (K:Frag)(mg:Str->Option Value)(n:Str)(i:Nat)(f:Addr)(d:FuncData):Prop where
 F:dR K n n (aV i) f d
 m:mg n=some (.ref f)
theorem FK.M {K:Frag}{mg:Str->Option Value}{n:Str}{i:Nat}{f:Addr}{d:FuncData}{h:Heap}(z:FK K n i f d)(X:K.In h)(G:h.Ns mainGlobals mg):FM K mg n i f d:=⟨z.F,mg_of X G z.a⟩
abbrev Hb (x:Str)(ps:List Str)(i:Nat):Prop:=∀(kV doc pm:Value) (an:Option Addr) (cdv ct:Value) (us:List Value),us.length=ps.length->bindArgs (fnOf x x (hJ (aV i)) (dH (aV i)) (aN (aV i)) .none kV doc pm an cdv ct) ⟨us,[]⟩=pure (ps.zip us)
theorem yX {A:Around}{k:Nat}(hr:bR k A):A.units+3<cLine:=by have:=hr.units;omega
section
variable {P:Program}{w:World}{K:Frag}{mg:Str→Option Value}{base:Heap}{f:Addr}{fd:FuncData}{k i:Nat}{x:Str}{ps N:List Str}
theorem Df.au {p:bA}(F:FM K mg x i f fd)(S:FnScope N ps (aN (aV i)))(body:∀(cdv:Value) (A:Around) (outer:List Env) (s:Shared) (H:Hp) (E:XK),bR k (A.deeper (PyProof.Rows.envOfC x (aN (aV i)) s.heap.objs.size f cdv))->∃t,dW (cK cL P w K mg base N x (aN (aV i)) f cdv A outer s H E).nox (dH (aV i)) t/\∀xs Q,p xs Q->t { nx:=λ_=>Q .non,rt:=Q } (eI N xs))(hb:Hb x ps i:=by intro _ _ _ _ _ _ us hl;first|(obtain⟨_,rfl⟩:=mO hl;rfl)|(obtain⟨_,_,rfl⟩:=mP hl;rfl)|(obtain⟨_,_,_,rfl⟩:=xU hl;rfl)|(obtain⟨_,_,_,_,rfl⟩:=us4 hl;rfl)|(obtain⟨_,_,_,_,_,rfl⟩:=us5 hl;rfl))(len:∀xs Q,p xs Q->xs.length=ps.length:=by intro xs Q h;repeat (first|(obtain⟨rfl,_⟩:=h;rfl)|(obtain⟨_,h⟩:=h))):Df P w K mg base (k+1) x ps p:=
 Df.of F.F F.m S hb len body
theorem cV.au {p:eO}(F:FM K mg x i f fd)(S:FnScope N ps (aN (aV i)))(t:(Str->Prop)->aL)(rd:∀Ep xs Q,p Ep xs Q->t Ep { nx:=λ_=>Q .non,rt:=Q } (eI N xs))(body:∀(cdv:Value) (A:Around) (outer:List Env) (s:Shared) (H:Hp) (E:XK) (Ep:Str->Prop),bR k (A.deeper (PyProof.Rows.envOfC x (aN (aV i)) s.heap.objs.size f cdv))->mG (cK (eC P w) P w K mg base N x (aN (aV i)) f cdv A outer s H E) (EX K H Ep)->dW (cK (eC P w) P w K mg base N x (aN (aV i)) f cdv A outer s H E) (dH (aV i)) (t Ep))(hb:Hb x ps i:=by intro _ _ _ _ _ _ us hl;first|(obtain⟨_,rfl⟩:=mO hl;rfl)|(obtain⟨_,_,rfl⟩:=mP hl;rfl)|(obtain⟨_,_,_,rfl⟩:=xU hl;rfl)|(obtain⟨_,_,_,_,rfl⟩:=us4 hl;rfl)|(obtain⟨_,_,_,_,_,rfl⟩:=us5 hl;rfl))(len:∀Ep xs Q,p Ep xs Q->xs.length=ps.length:=by intro Ep xs Q h;repeat (first|(obtain⟨rfl,_⟩:=h;rfl)|(obtain⟨_,h⟩:=h))):cV P w K mg base (k+1) x ps p:=
 cV.of F.F F.m S hb t len rd body
end
section
variable {P:Program}{w:World}{K:Frag}{mg:Str→Option Value}{base:Heap}{f:Addr}{fd:FuncData}
theorem tZ:(["ahead","behind"]:List Str).Nodup:=by decide +kernel
abbrev ag5:Stmt:=aV 5
theorem scR:FnScope ["things"] ["things"] (aN ag5):=.au
theorem yY {ns:ae}{i:Nat}{x y:V}(h1:(ns.map V.int)[i]? = some x)(h2:((ns.map V.int).drop 1)[i]? = some y):∃p q:Int,x = .int p/\y = .int q/\(ns.zip (ns.drop 1))[i]? = some (p,q):=by
 rw[bi7]at h1
 rw[<- List.map_drop,bi7]at h2
 cases e1:ns[i]? with
 |none=>rw[e1]at h1;cases h1
 |some p=>
  cases e2:(ns.drop 1)[i]? with
  |none=>rw[e2]at h2;cases h2
  |some q=>
   rw[e1]at h1;rw[e2]at h2
   exact⟨p,q,(bk2 h1).symm,(bk2 h2).symm,List.getElem?_zip_eq_some.mpr ⟨e1,e2⟩⟩
theorem bc5 (B:Bt mg)(F:dR K "rises" "rises" ag5 f fd):cD P w K mg base cL 1 f fd ["things"] (W7 K):=by
 refine F.ok scR (λvs H Q E h=>?_) (λcdv A outer s H vs Q E hr h=>?_)
 ·obtain⟨a,ns,rfl,_⟩:=h
  rfl
 obtain⟨a,ns,rfl,hS,hn,q⟩:=h
 have lz:((ns.map V.int).drop 1).length<=sizeLine:=br6 (g9 (by rw[bs5,bi1];omega))
 have lz2:((ns.map V.int).drop 1).length<=(ns.map V.int).length:=by rw[bs5];omega
 have lz3:(ns.zip (ns.drop 1)).length=((ns.map V.int).drop 1).length:=by rw[List.length_zip,bs5,bs5,bi1];omega
 rcases hS with hS|hS
 ·refine⟨_,iE (l7 (pO (vT rfl) rfl B.all PyProof.Rows.boot_all (c9 (G4 (N:=["ahead","behind"]) (fr:=[none,none]) rfl (cT.of rfl rfl) (ax9 rfl B.zip (c9 (pv 0) (c9 (uQ L0 (pv 0) (uP jT) uO) cS)))
   ⟨λ_ _ _ _=>show PG _ _ (l9 K 2 (gG (cX 0) (gG (cX 1) l8))) from nF rfl (hG (eD (i:=0) tZ rfl (Or.inl rfl) (.inr rfl)) (hG (eD (i:=1) tZ rfl (Or.inl rfl) (.inr rfl)) nE)),λ_ _ _ _=>nV,λ_ _ _ _=>uH pK (pv 0) (pv 1) (fU _)⟩) cS))),?_⟩
  refine⟨_,rfl,_,rfl,1,rfl,a,_,rfl,hS,λp hp=>?_,λe=>?_⟩
  ·have s1:=aW hp (.tup (dF (ns.map V.int) (some 1) none))
   have hb:aG K (upd H p (.tup (dF (ns.map V.int) (some 1) none))) p ((ns.map V.int).drop 1):=aG.of (by rw[aQ,vW])
   refine⟨a,p,_,_,rfl,s1.tup hS,hb,vV (K9 (s1.tup hS) hb lz2) (λi acc _=>acc=((ns.zip (ns.drop 1)).take i).map λ(p:Int×Int)=>V.bl (decide (p.1<p.2))) lz (λ_ _=>rfl) (λ_ _ _ _ _ h=>h) (λi x acc D H' hi hR c hP=>?_) (λD acc H' hD sm hDa hlen hP=>?_)⟩
   ·obtain⟨T,x1,y1,rfl,hT,h1,h2⟩:=hR
    obtain⟨m,k,rfl,rfl,hz⟩:=yY h1 h2
    refine⟨T,_,rfl,aG.of hT,rfl,_,_,rfl,_,_,rfl,rfl,((Wk.refl _).set (i:=0) rfl).set (i:=1) rfl,nZ ⟨_,rfl,_,rfl,_,_,rfl,rfl,c.yes (aA.refl _) ?_⟩⟩
    rw[sG hz,hP]
   ·refine⟨D,(ns.zip (ns.drop 1)).map λ(p:Int×Int)=>decide (p.1<p.2),rfl,aJ.of ?_,q _ (s1.trans sm)⟩
    rw[hDa,hP,<- lz3,bl0,bv8];rfl
  ·have hb:aG K H a ((ns.map V.int).drop 1):=by
    have:(ns.map V.int).drop 1=ns.map V.int:=by rw[<- vW];exact e
    rw[this];exact hS
   refine⟨a,a,_,_,rfl,hS,hb,vV (K9 hS hb lz2) (λi acc _=>acc=((ns.zip (ns.drop 1)).take i).map λ(p:Int×Int)=>V.bl (decide (p.1<p.2))) lz (λ_ _=>rfl) (λ_ _ _ _ _ h=>h) (λi x acc D H' hi hR c hP=>?_) (λD acc H' hD sm hDa hlen hP=>?_)⟩
   ·obtain⟨T,x1,y1,rfl,hT,h1,h2⟩:=hR
    obtain⟨m,k,rfl,rfl,hz⟩:=yY h1 h2
    refine⟨T,_,rfl,aG.of hT,rfl,_,_,rfl,_,_,rfl,rfl,((Wk.refl _).set (i:=0) rfl).set (i:=1) rfl,nZ ⟨_,rfl,_,rfl,_,_,rfl,rfl,c.yes (aA.refl _) ?_⟩⟩
    rw[sG hz,hP]
   ·refine⟨D,(ns.zip (ns.drop 1)).map λ(p:Int×Int)=>decide (p.1<p.2),rfl,aJ.of ?_,q _ sm⟩
    rw[hDa,hP,<- lz3,bl0,bv8];rfl
 ·refine⟨_,iE (l7 (pO (vT rfl) rfl B.all PyProof.Rows.boot_all (c9 (G4 (N:=["ahead","behind"]) (fr:=[none,none]) rfl (cT.of rfl rfl) (ay5 rfl B.zip (c9 (pv 0) (c9 (uQ C4 (pv 0) (uP jT) uO) cS)))
   ⟨λ_ _ _ _=>show PG _ _ (l9 K 2 (gG (cX 0) (gG (cX 1) l8))) from nF rfl (hG (eD (i:=0) tZ rfl (Or.inl rfl) (.inr rfl)) (hG (eD (i:=1) tZ rfl (Or.inl rfl) (.inr rfl)) nE)),λ_ _ _ _=>nV,λ_ _ _ _=>uH pK (pv 0) (pv 1) (fU _)⟩) cS))),?_⟩
  refine⟨_,rfl,_,rfl,1,rfl,a,_,rfl,hS,λp hp=>?_⟩
  have s1:=aW hp (.lst (dF (ns.map V.int) (some 1) none))
  have hb:aJ K (upd H p (.lst (dF (ns.map V.int) (some 1) none))) p ((ns.map V.int).drop 1):=aJ.of (by rw[aQ,vW])
  refine⟨a,p,_,_,rfl,s1.seq hS,hb,vV (ay6 (s1.seq hS) hb lz2) (λi acc _=>acc=((ns.zip (ns.drop 1)).take i).map λ(p:Int×Int)=>V.bl (decide (p.1<p.2))) lz (λ_ _=>rfl) (λ_ _ _ _ _ h=>h) (λi x acc D H' hi hR c hP=>?_) (λD acc H' hD sm hDa hlen hP=>?_)⟩
  ·obtain⟨T,x1,y1,rfl,hT,h1,h2⟩:=hR
   obtain⟨m,k,rfl,rfl,hz⟩:=yY h1 h2
   refine⟨T,_,rfl,aG.of hT,rfl,_,_,rfl,_,_,rfl,rfl,((Wk.refl _).set (i:=0) rfl).set (i:=1) rfl,nZ ⟨_,rfl,_,rfl,_,_,rfl,rfl,c.yes (aA.refl _) ?_⟩⟩
   rw[sG hz,hP]
  ·refine⟨D,(ns.zip (ns.drop 1)).map λ(p:Int×Int)=>decide (p.1<p.2),rfl,aJ.of ?_,q _ (s1.trans sm)⟩
   rw[hDa,hP,<- lz3,bl0,bv8];rfl
abbrev ag6:Stmt:=aV 7
theorem u0:FnScope ["web","around","one","other"] ["web"] (aN ag6):=.au
theorem bc6 (F:dR K "near_lists" "near_lists" ag6 f fd):cD P w K mg base cL 1 f fd ["web"] sO:=by
 refine F.ok u0 (λvs H Q E h=>?_) (λcdv A outer s H vs Q E hr h=>?_)
 ·obtain⟨v,ws,ls,rfl,_⟩:=h
  rfl
 obtain⟨v,ws,ls,rfl,W,hn,hm,hin,q⟩:=h
 refine⟨_,j5 (G5 (i:=1) (N:=["want"]) (fr:=[none]) rfl (cT.of rfl rfl) (pD (iH nN (pv 0) jT (λ_ _=>rfl)))
   ⟨λ_ _ _ _=>eD (i:=0) (bl8 _ _) rfl (Or.inl rfl) (.inr rfl),λ_ _ _ _=>nV,λ_ _ _ _=>uL cS⟩ u0.nd rfl rfl rfl)
  (j5 (pG PassesOwn.never rfl (pD (iH nN (pv 0) jT (λ_ _=>rfl))) (nF (n:=2) rfl (hG (eD (i:=2) u0.nd rfl (Or.inl rfl) (.inr rfl)) (hG (eD (i:=3) u0.nd rfl (Or.inl rfl) (.inr rfl)) nE)) )
   (j5 (j6 (lE br8 bu6 bu7 lH (iH nM (pv 1) (pv 2) (λ_ _=>rfl)) (c9 (pv 3) cS)))
   (iE (j6 (lE br8 bu6 bu7 lH (iH nM (pv 1) (pv 3) (λ_ _=>rfl)) (c9 (pv 2) cS))))))
  (iE (l7 (pv 1)))),?_⟩
 obtain⟨a,p,q',ys,rfl,ha,hp,hq,hL⟩:=W.at_
 have lw:(ws.map V.int).length=ws.length:=bi1 _
 refine⟨_,rfl,a,_,_,_,rfl,rfl,aG.of ha,rfl,p,rfl,⟨_,aG.of hp⟩,J1 (G9 (aG.of hp)) (λi acc H'=>∃bs:List Addr,acc=bs.map V.ref/\bs.length=i/\bs.Nodup/\∀b∈bs,H b=none/\H' b=some (.lst [])) (by rw[lw];exact br6 (v7 hn))
  (λD hD=>⟨[],rfl,rfl,List.nodup_nil,λ_ z=>nomatch z⟩) (λi x acc D H' hx c hPv=>?_) (λD acc H' hD sm hDa hlen hPv=>?_)⟩
 ·obtain⟨bs,rfl,hbl,nd,hb⟩:=hPv
  refine⟨K1 (n:=none),nZ ⟨bl4 _,λr hr'=>?_⟩⟩
  have hrD:r≠D:=λz=>by rw[z,c.acc]at hr';cases hr'
  have hrH:H r=none:=c.same.free hr'
  refine c.yes (aW hr' _) ⟨bs++[r],by simp,by simp[hbl],?_,λb hm=>?_⟩
  ·refine bv4.mpr ⟨nd,bl8 _ _,λb hb1 b' hb2 e=>?_⟩
   rw[bi6.mp hb2]at e
   rw[e]at hb1
   rw[(hb r hb1).2]at hr';cases hr'
  ·rcases bl5.mp hm with hm|hm
   ·have hbD:b≠D:=λz=>by
     rw[z]at hm
     have:=(hb D hm).2
     rw[c.acc]at this
     have:bs.map V.ref = []:=by injection this with e1;injection e1
     have:bs = []:=List.map_eq_nil_iff.mp this
     rw[this]at hm;simp at hm
    refine⟨(hb b hm).1,?_⟩
    rw[a8 hbD,a8 (bO (hb b hm).2 hr')]
    exact (hb b hm).2
   ·rw[bi6.mp hm]
    exact⟨hrH,by rw[a8 hrD,aQ]⟩
 ·obtain⟨bs,rfl,hbl,nd,hb⟩:=hPv
  rw[lw]at hbl
  have R0:gL H H' D bs (λk=>c7 (ls.take 0) k):=by
   refine⟨hD,λb hm=>⟨(hb b hm).1,λz=>?_⟩,nd,hDa,λk b hk=>(hb b (bj5 hk)).2,sm⟩
   rw[z]at hm
   have:=(hb D hm).2
   rw[hDa]at this
   have:bs.map V.ref = []:=by injection this with e1;injection e1
   have:bs = []:=List.map_eq_nil_iff.mp this
   rw[this]at hm;simp at hm
  have lL:=hL.length
  refine⟨_,rfl,a,_,_,_,rfl,rfl,aG.of (sm _ _ ha),rfl,q',rfl,⟨_,aG.of (sm _ _ hq)⟩,zT (K:=K) (a:=q') (xs:=ys) (λi σ H2=>∃x y:Option V,σ = [some (.ref a),some (.ref D),x,y]/\gL H H2 D bs (λk=>c7 (ls.take i) k))
   ⟨none,none,rfl,R0⟩ (λi σ H2 _ ⟨_,_,_,R⟩=>aG.of (R.same _ _ hq)) ?_ ?_⟩
  ·rintro i y σ H2 hi ⟨x1,x2,rfl,R⟩
   obtain⟨l,b,hl,rfl,hbt⟩:=hL.get hi
   have hlm:l∈ls:=bj5 hl
   obtain⟨⟨h1,h2⟩,h3,h4⟩:=hin l hlm
   have k1:l.1.toNat<bs.length:=by omega
   have k2:l.2.toNat<bs.length:=by omega
   have e1:bs[l.1.toNat]? = some (bs[l.1.toNat]):=bh5 k1
   have e2:bs[l.2.toNat]? = some (bs[l.2.toNat]):=bh5 k2
   refine⟨b,_,rfl,aG.of (R.same _ _ hbt),rfl,_,_,rfl,_,_,rfl,rfl,?_⟩
   refine⟨_,rfl,_,rfl,D,_,_,.ref bs[l.1.toNat],rfl,rfl,aJ.of R.row,k8 h1 (by rw[bi7,e1];rfl),k9 (aJ.of (R.rows _ _ e1)),_,rfl,_,_,_,rfl,rfl,R.rows _ _ e1,?_,?_⟩
   ·rw[bi1]
    have:=lP (ls.take i) (l.1.toNat:Nat)
    rw[bq2]at this
    exact g9 (by omega)
   ·have R1:=R.app e1 l.2
    refine⟨_,rfl,_,rfl,D,_,_,.ref bs[l.2.toNat],rfl,rfl,aJ.of R1.row,k8 h3 (by rw[bi7,e2];rfl),k9 (aJ.of (R1.rows _ _ e2)),_,rfl,_,_,_,rfl,rfl,R1.rows _ _ e2,?_,?_⟩
    ·rw[bi1]
     have:=lP (ls.take i) (l.2.toNat:Nat)
     rw[bq2]at this
     split
     ·rw[bj6,bn2];exact g9 (by omega)
     ·exact g9 (by omega)
    ·have R2:=R1.app e2 l.1
     refine⟨_,_,rfl,R2.congr λk hk=>?_⟩
     rw[K3 hl]
     have c1:(k=l.1.toNat)↔l.1=(k:Int):=by omega
     have c2:(k=l.2.toNat)↔l.2=(k:Int):=by omega
     by_cases d1:k=l.1.toNat
     ·by_cases d2:k=l.2.toNat
      ·rw[if_pos d2,if_pos d1,if_pos (c1.mp d1),if_pos (c2.mp d2)];simp
      ·rw[if_neg d2,if_pos d1,if_pos (c1.mp d1),if_neg (λz=>d2 (c2.mpr z))];simp
     ·by_cases d2:k=l.2.toNat
      ·rw[if_pos d2,if_neg d1,if_neg (λz=>d1 (c1.mpr z)),if_pos (c2.mp d2)];simp
      ·rw[if_neg d2,if_neg d1,if_neg (λz=>d1 (c1.mpr z)),if_neg (λz=>d2 (c2.mpr z))];simp
  ·
   rintro σ H2 ⟨x1,x2,rfl,R⟩
   refine⟨_,rfl,q D bs H2 hbl ?_⟩
   rw[lL,bl0]at R
   exact R
abbrev ag7:Stmt:=aV 35
theorem u5:FnScope ["web","beside","one","other"] ["web"] (aN ag7):=.au
theorem bc7 (F:dR K "_law_beside" "_law_beside" ag7 f fd):cD P w K mg base cL 1 f fd ["web"] sO:=by
 refine F.ok u5 (λvs H Q E h=>?_) (λcdv A outer s H vs Q E hr h=>?_)
 ·obtain⟨v,ws,ls,rfl,_⟩:=h
  rfl
 obtain⟨v,ws,ls,rfl,W,hn,hm,hin,q⟩:=h
 refine⟨_,j5 (G5 (i:=1) (N:=["hearth"]) (fr:=[none]) rfl (cT.of rfl rfl) (pD (iH nN (pv 0) jT (λ_ _=>rfl)))
   ⟨λ_ _ _ _=>eD (i:=0) (bl8 _ _) rfl (Or.inl rfl) (.inr rfl),λ_ _ _ _=>nV,λ_ _ _ _=>uL cS⟩ u5.nd rfl rfl rfl)
  (j5 (pG PassesOwn.never rfl (pD (iH nN (pv 0) jT (λ_ _=>rfl))) (nF (n:=2) rfl (hG (eD (i:=2) u5.nd rfl (Or.inl rfl) (.inr rfl)) (hG (eD (i:=3) u5.nd rfl (Or.inl rfl) (.inr rfl)) nE)) )
   (j5 (j6 (lE br8 bu6 bu7 lH (iH nM (pv 1) (pv 2) (λ_ _=>rfl)) (c9 (pv 3) cS)))
   (iE (j6 (lE br8 bu6 bu7 lH (iH nM (pv 1) (pv 3) (λ_ _=>rfl)) (c9 (pv 2) cS))))))
  (iE (l7 (pv 1)))),?_⟩
 obtain⟨a,p,q',ys,rfl,ha,hp,hq,hL⟩:=W.at_
 have lw:(ws.map V.int).length=ws.length:=bi1 _
 refine⟨_,rfl,a,_,_,_,rfl,rfl,aG.of ha,rfl,p,rfl,⟨_,aG.of hp⟩,J1 (G9 (aG.of hp)) (λi acc H'=>∃bs:List Addr,acc=bs.map V.ref/\bs.length=i/\bs.Nodup/\∀b∈bs,H b=none/\H' b=some (.lst [])) (by rw[lw];exact br6 (v7 hn))
  (λD hD=>⟨[],rfl,rfl,List.nodup_nil,λ_ z=>nomatch z⟩) (λi x acc D H' hx c hPv=>?_) (λD acc H' hD sm hDa hlen hPv=>?_)⟩
 ·obtain⟨bs,rfl,hbl,nd,hb⟩:=hPv
  refine⟨K1 (n:=none),nZ ⟨bl4 _,λr hr'=>?_⟩⟩
  have hrD:r≠D:=λz=>by rw[z,c.acc]at hr';cases hr'
  have hrH:H r=none:=c.same.free hr'
  refine c.yes (aW hr' _) ⟨bs++[r],by simp,by simp[hbl],?_,λb hm=>?_⟩
  ·refine bv4.mpr ⟨nd,bl8 _ _,λb hb1 b' hb2 e=>?_⟩
   rw[bi6.mp hb2]at e
   rw[e]at hb1
   rw[(hb r hb1).2]at hr';cases hr'
  ·rcases bl5.mp hm with hm|hm
   ·have hbD:b≠D:=λz=>by
     rw[z]at hm
     have:=(hb D hm).2
     rw[c.acc]at this
     have:bs.map V.ref = []:=by injection this with e1;injection e1
     have:bs = []:=List.map_eq_nil_iff.mp this
     rw[this]at hm;simp at hm
    refine⟨(hb b hm).1,?_⟩
    rw[a8 hbD,a8 (bO (hb b hm).2 hr')]
    exact (hb b hm).2
   ·rw[bi6.mp hm]
    exact⟨hrH,by rw[a8 hrD,aQ]⟩
 ·obtain⟨bs,rfl,hbl,nd,hb⟩:=hPv
  rw[lw]at hbl
  have R0:gL H H' D bs (λk=>c7 (ls.take 0) k):=by
   refine⟨hD,λb hm=>⟨(hb b hm).1,λz=>?_⟩,nd,hDa,λk b hk=>(hb b (bj5 hk)).2,sm⟩
   rw[z]at hm
   have:=(hb D hm).2
   rw[hDa]at this
   have:bs.map V.ref = []:=by injection this with e1;injection e1
   have:bs = []:=List.map_eq_nil_iff.mp this
   rw[this]at hm;simp at hm
  have lL:=hL.length
  refine⟨_,rfl,a,_,_,_,rfl,rfl,aG.of (sm _ _ ha),rfl,q',rfl,⟨_,aG.of (sm _ _ hq)⟩,zT (K:=K) (a:=q') (xs:=ys) (λi σ H2=>∃x y:Option V,σ = [some (.ref a),some (.ref D),x,y]/\gL H H2 D bs (λk=>c7 (ls.take i) k))
   ⟨none,none,rfl,R0⟩ (λi σ H2 _ ⟨_,_,_,R⟩=>aG.of (R.same _ _ hq)) ?_ ?_⟩
  ·rintro i y σ H2 hi ⟨x1,x2,rfl,R⟩
   obtain⟨l,b,hl,rfl,hbt⟩:=hL.get hi
   have hlm:l∈ls:=bj5 hl
   obtain⟨⟨h1,h2⟩,h3,h4⟩:=hin l hlm
   have k1:l.1.toNat<bs.length:=by omega
   have k2:l.2.toNat<bs.length:=by omega
   have e1:bs[l.1.toNat]? = some (bs[l.1.toNat]):=bh5 k1
   have e2:bs[l.2.toNat]? = some (bs[l.2.toNat]):=bh5 k2
   refine⟨b,_,rfl,aG.of (R.same _ _ hbt),rfl,_,_,rfl,_,_,rfl,rfl,?_⟩
   refine⟨_,rfl,_,rfl,D,_,_,.ref bs[l.1.toNat],rfl,rfl,aJ.of R.row,k8 h1 (by rw[bi7,e1];rfl),k9 (aJ.of (R.rows _ _ e1)),_,rfl,_,_,_,rfl,rfl,R.rows _ _ e1,?_,?_⟩
   ·rw[bi1]
    have:=lP (ls.take i) (l.1.toNat:Nat)
    rw[bq2]at this
    exact g9 (by omega)
   ·have R1:=R.app e1 l.2
    refine⟨_,rfl,_,rfl,D,_,_,.ref bs[l.2.toNat],rfl,rfl,aJ.of R1.row,k8 h3 (by rw[bi7,e2];rfl),k9 (aJ.of (R1.rows _ _ e2)),_,rfl,_,_,_,rfl,rfl,R1.rows _ _ e2,?_,?_⟩
    ·rw[bi1]
     have:=lP (ls.take i) (l.2.toNat:Nat)
     rw[bq2]at this
     split
     ·rw[bj6,bn2];exact g9 (by omega)
     ·exact g9 (by omega)
    ·have R2:=R1.app e2 l.1
     refine⟨_,_,rfl,R2.congr λk hk=>?_⟩
     rw[K3 hl]
     have c1:(k=l.1.toNat)↔l.1=(k:Int):=by omega
     have c2:(k=l.2.toNat)↔l.2=(k:Int):=by omega
     by_cases d1:k=l.1.toNat
     ·by_cases d2:k=l.2.toNat
      ·rw[if_pos d2,if_pos d1,if_pos (c1.mp d1),if_pos (c2.mp d2)];simp
      ·rw[if_neg d2,if_pos d1,if_pos (c1.mp d1),if_neg (λz=>d2 (c2.mpr z))];simp
     ·by_cases d2:k=l.2.toNat
      ·rw[if_pos d2,if_neg d1,if_neg (λz=>d1 (c1.mpr z)),if_pos (c2.mp d2)];simp
      ·rw[if_neg d2,if_neg d1,if_neg (λz=>d1 (c1.mpr z)),if_neg (λz=>d2 (c2.mpr z))];simp
  ·
   rintro σ H2 ⟨x1,x2,rfl,R⟩
   refine⟨_,rfl,q D bs H2 hbl ?_⟩
   rw[lL,bl0]at R
   exact R
theorem bc8:FnScope ["web"] ["web"] (aN (aV 6)):=.au
theorem bc9 (B:Bt mg)(F:FM K mg "hearths_in" 6 f fd) :Df P w K mg base 1 "hearths_in" ["web"] i6:=
 Df.au F bc8 (λcdv A outer s H E hr=>by
  exact⟨(U8),(aT (bM (dX B (a9 (cG (qv 0) aS) aI)))),aJ8⟩)
theorem ag8:FnScope ["hearths","chosen","hearth"] ["hearths"] (aN (aV 11)):=.au
theorem bd0 (B:Bt mg)(F:FM K mg "sets_among" 11 f fd) :Df P w K mg base 1 "sets_among" ["hearths"] t6:=
 Df.au F ag8 (λcdv A outer s H E hr=>by
  have nd:=ag8.nd
  exact⟨(Z9),(aR (bY (i:=1) nd (gS (a9 (kK aI) aI)))
   (aR (eM 2 nd (dN (qv 0))
    (aT (bY (i:=1) nd (X3 (qv 1) (oD (N:=["some","hearth"]) (fr:=[none,some 2]) (dN (qv 1)) (λ_ _ _ _=>(Y0 (qv 0) (kK (a9 (qv 1) aI)))))))))
   (aT (rH 1)))),aR6⟩)
theorem ag9:FnScope ["hearths","inside","hearth"] ["hearths"] (aN (aV 12)):=.au
theorem bd1 (B:Bt mg)(F:FM K mg "marked" 12 f fd) :Df P w K mg base 1 "marked" ["hearths"] jL:=
 Df.au F ag9 (λcdv A outer s H E hr=>by
  have nd:=ag9.nd
  have hu:=lK hr
  exact⟨(V4),(aR (gT (i:=1) nd aE7)
   (aR (eM 2 nd (dN (qv 0))
    (aT (aE9 hu (i:=1) (qv 2) iQ)))
   (aT (rH 1)))),aK5⟩)
theorem bd2:FnScope ["hearths","inside"] ["hearths","inside"] (aN (aV 13)):=.au
theorem bd3 (B:Bt mg)(F:FM K mg "count_inside" 13 f fd) :Df P w K mg base 1 "count_inside" ["hearths","inside"] sJ:=
 Df.au F bd2 (λcdv A outer s H E hr=>by
  have hu:=lK hr
  exact⟨(V5),(aT (bM (dX B (a9 (mB (N:=["hearth","inside"]) (fr:=[none,some 1]) (dN (qv 0)) (λ_ _ _ _=>(aE3 hu (qv 0) (qv 1))) (λ_ _ _ _=>(qv 0))) aI)))),aK6⟩)
theorem bd4:FnScope ["holds","place","some"] ["holds","place","some"] (aN (aV 24)):=.au
theorem bd5 (B:Bt mg)(F:FM K mg "holds_without_one" 24 f fd) :Df P w K mg base 1 "holds_without_one" ["holds","place","some"] mR:=
 Df.au F bd4 (λcdv A outer s H E hr=>by
  exact⟨(aa0),(aT (bM (aQ0 B rfl (a9 (oD (N:=["hearth","holds","place"]) (fr:=[none,some 0,some 1]) (dN (qv 2)) (λ_ _ _ _=>(cG (qv 1) (wQ (qv 2) (rC aS (qv 0)))))) aI)))),aR7⟩)
theorem bd6:FnScope ["most","free","blocks"] ["most","free","blocks"] (aN (aV 28)):=.au
theorem bd7 (B:Bt mg)(F:FM K mg "keep_longer" 28 f fd):mV P w K mg base 1 "keep_longer" ["most","free","blocks"]:=
 mV.of F.F F.m bd6 (λ_ _ _ _ _ _ us hl=>by obtain⟨_,_,_,rfl⟩:=xU hl;rfl) (λcdv A outer s H E hr=>by
  have hu:=lK hr
  exact iE (zL (m8 (m7 (O5 hu (qv 1) (qv 0)) (rE (wR (dX B (a9 (qv 2) aI)) (dX B (a9 (rG hu (qv 0) (qv 1)) aI)))))) (iE (F3 hu (pv 0) (pv 1) (pv 2) rfl)) zK))
theorem bd8:FnScope ["script","k"] ["script","k"] (aN (aV 30)):=.au
theorem bd9 (B:Bt mg)(F:FM K mg "_law_cell_at" 30 f fd) :Df P w K mg base 1 "_law_cell_at" ["script","k"] jM:=
 Df.au F bd8 (λcdv A outer s H E hr=>by
  exact⟨(V8),(aR (eL (O3 (qv 1) (dX B (a9 (qv 0) aI))) (aT (bM (cG (qv 0) (qv 1)))) eJ)
   (aT (bM aS))),aK8⟩)
theorem ah0:FnScope ["number","k","turn"] ["number","k"] (aN (aV 31)):=.au
theorem be0 (B:Bt mg)(F:FM K mg "_law_mixed" 31 f fd) :Df P w K mg base 1 "_law_mixed" ["number","k"] oX:=
 Df.au F ah0 (λcdv A outer s H E hr=>by
  have nd:=ah0.nd
  exact⟨(ab5),(aR (bY (i:=2) nd (gC (fE (fE (fE (gC (qv 0) aS) (o9 (o9 aS (qv 1)) (qv 1))) (o9 aS (qv 1))) aS) aS))
   (aR (bY (i:=2) nd (gC (o9 (qv 2) aS) aS))
   (aT (bM (gC (o9 (qv 2) (qv 2)) aS))))),aU3⟩)
theorem be1:FnScope ["found"] ["found"] (aN (aV 32)):=.au
theorem be2 (B:Bt mg)(F:FM K mg "_law_whole" 32 f fd) :Df P w K mg base 1 "_law_whole" ["found"] sL:=
 Df.au F be1 (λcdv A outer s H E hr=>by
  exact⟨(V9 K),(aT (bM (rF (aF8 B (qv 0)) (oB (aE6 (aF9 B (qv 0))))))),aK9 (sP K).ii (sP K).ib⟩)
theorem ah1:FnScope ["many","sets","hearth"] ["many"] (aN (aV 37)):=.au
theorem be3 (B:Bt mg)(F:FM K mg "_law_sets" 37 f fd) :Df P w K mg base 1 "_law_sets" ["many"] tJ:=
 Df.au F ah1 (λcdv A outer s H E hr=>by
  have nd:=ah1.nd
  have hu3:=yX hr
  exact⟨(ac8),(aR (bY (i:=1) nd (gS (a9 (kK aI) aI)))
   (aR (eM 2 nd (kL rfl B.range (qv 0))
    (aT (bY (i:=1) nd (X3 (qv 1) (oD (N:=["some","hearth"]) (fr:=[none,some 2]) (dN (qv 1)) (λ_ _ _ _=>(Y0 (qv 0) (kK (a9 (qv 1) aI)))))))))
   (aT (bM (aW0 B hu3 (a9 (qv 1) aI)))))),aW1⟩)
theorem be4:FnScope ["web","number"] ["web","number"] (aN (aV 8)):=.au
theorem be5 (B:Bt mg)(F:FM K mg "is_hearth" 8 f fd)(d_hearths_in:Df P w K mg base 1 "hearths_in" ["web"] i6):Df P w K mg base 2 "is_hearth" ["web","number"] sH:=
 Df.au F be4 (λcdv A outer s H E hr=>by
  exact⟨(U9),(aT (bM (rF (aE0 (qv 1) aS) (oB (aD9 (qv 1) (b9 d_hearths_in hr (a9 (qv 0) aI))))))),aJ9⟩)
theorem be6:FnScope ["hearths","inside"] ["hearths","inside"] (aN (aV 14)):=.au
theorem be7 (B:Bt mg)(F:FM K mg "count_outside" 14 f fd)(d_count_inside:Df P w K mg base 1 "count_inside" ["hearths","inside"] sJ):Df P w K mg base 2 "count_outside" ["hearths","inside"] mK:=
 Df.au F be6 (λcdv A outer s H E hr=>by
  exact⟨(Y1),(aT (bM (wQ (dX B (a9 (qv 0) aI)) (b9 d_count_inside hr (a9 (qv 0) (a9 (qv 1) aI)))))),aO8⟩)
theorem ah2:FnScope ["hearths","some","gone"] ["hearths","some"] (aN (aV 15)):=.au
theorem be8 (B:Bt mg)(F:FM K mg "without" 15 f fd)(d_marked:Df P w K mg base 1 "marked" ["hearths"] jL):Df P w K mg base 2 "without" ["hearths","some"] oT:=
 Df.au F ah2 (λcdv A outer s H E hr=>by
  have nd:=ah2.nd
  have hu:=lK hr
  exact⟨(Y2),(aR (bY (i:=2) nd (b9 d_marked hr (a9 (qv 1) aI)))
   (aT (bM (oC B (a9 (mB (N:=["hearth","gone"]) (fr:=[none,some 2]) (dN (qv 0)) (λ_ _ _ _=>(O5 hu (qv 0) (qv 1))) (λ_ _ _ _=>(qv 0))) aI))))),aO9⟩)
theorem be9:FnScope ["web"] ["web"] (aN (aV 22)):=.au
theorem bf0 (B:Bt mg)(F:FM K mg "searched_sets" 22 f fd)(d_hearths_in:Df P w K mg base 1 "hearths_in" ["web"] i6)(d_sets_among:Df P w K mg base 1 "sets_among" ["hearths"] t6)(x_TooMany:Xc K mg base "TooMany"){u_MOST_SEARCHED:Nat}(m_MOST_SEARCHED:mg "MOST_SEARCHED" = some (.int 12 u_MOST_SEARCHED)):cV P w K mg base 2 "searched_sets" ["web"] t7:=
 cV.au F be9 aa1 aR8 (λcdv A outer s H E Ep hr hX=>by
  exact (aR (eL (wR (b9 d_hearths_in hr (a9 (qv 0) aI)) (aO5 rfl m_MOST_SEARCHED)) (aT (Y8 hX x_TooMany (a9 O1 aI))) eJ)
   (aT (bM (b9 d_sets_among hr (a9 (aL1 B (b9 d_hearths_in hr (a9 (qv 0) aI))) aI))))))
theorem ah3:FnScope ["script","most","number"] ["script","most"] (aN (aV 33)):=.au
theorem bf1 (B:Bt mg)(F:FM K mg "_law_hearths" 33 f fd)(d__law_cell_at:Df P w K mg base 1 "_law_cell_at" ["script","k"] jM):Df P w K mg base 2 "_law_hearths" ["script","most"] tF:=
 Df.au F ah3 (λcdv A outer s H E hr=>by
  have nd:=ah3.nd
  exact⟨(ab6),(aR (bY (i:=2) nd (b9 d__law_cell_at hr (a9 (qv 0) (a9 aS aI))))
   (aR (eL (kJ (gC (qv 2) aS) aS) (aT (bM (P5 B rfl (a9 (qv 1) (a9 (P6 B rfl (a9 aS (a9 (wQ (dX B (a9 (qv 0) aI)) aS) aI))) aI))))) eJ)
   (aR (eL (kJ (gC (qv 2) aS) aS) (aT (bM (gC (fE (oA (qv 2) aS) aS) (fE (qv 1) aS)))) eJ)
   (aT (bM (gC (fE (oA (qv 2) aS) aS) (fE (P5 B rfl (a9 aS (a9 (qv 1) aI))) aS))))))),aU4⟩)
theorem ah4:FnScope ["web","block","beside","hearth"] ["web","block"] (aN (aV 36)):=.au
theorem bf2 (B:Bt mg)(F:FM K mg "_law_is_cold" 36 f fd)(d__law_beside:Df P w K mg base 1 "_law_beside" ["web"] ac1):Df P w K mg base 2 "_law_is_cold" ["web","block"] mU:=
 Df.au F ah4 (λcdv A outer s H E hr=>by
  have nd:=ah4.nd
  exact⟨(ad2),(aR (bY (i:=2) nd (b9 d__law_beside hr (a9 (qv 0) aI)))
   (aR (eM 3 nd (dN (qv 1))
    (aT (eL (O4 (dX B (a9 (mB (N:=["other","block"]) (fr:=[none,some 1]) (dN (cG (qv 2) (qv 3))) (λ_ _ _ _=>(aF5 (qv 0) (qv 1))) (λ_ _ _ _=>(qv 0))) aI)) (cG (cG (qv 0) aS) (qv 3))) (aT (bM iQ)) eJ)))
   (aT (bM iQ)))),aX3⟩)
theorem ah5:FnScope ["found","many","last","hearth"] ["found","many"] (aN (aV 38)):=.au
theorem bf3 (B:Bt mg)(F:FM K mg "_law_is_set" 38 f fd)(d__law_whole:Df P w K mg base 1 "_law_whole" ["found"] sL):Df P w K mg base 2 "_law_is_set" ["found","many"] tH:=
 Df.au F ah5 (λcdv A outer s H E hr=>by
  have nd:=ah5.nd
  exact⟨(ac2 K),(aR (eL (jJ (iR (aG0 B (qv 0)))) (aT (bM iQ)) eJ)
   (aR (bY (i:=2) nd (P7 aS))
   (aR (eM 3 nd (dN (qv 0))
    (aR (eL (m8 (m7 (jJ (iR (b9 d__law_whole hr (a9 (qv 3) aI)))) (m7 (aE1 (qv 3) (qv 2)) (rE (O4 (qv 3) (qv 1)))))) (aT (bM iQ)) eJ)
    (aT (bY (i:=2) nd (qv 3)))))
   (aT (bM iQ))))),aV1 (sP K).tt⟩)
theorem bf4:FnScope ["web","numbers"] ["web","numbers"] (aN (aV 9)):=.au
theorem bf5 (B:Bt mg)(F:FM K mg "is_set" 9 f fd)(d_rises:Df P w K mg base 1 "rises" ["things"] xE)(d_is_hearth:Df P w K mg base 2 "is_hearth" ["web","number"] sH):Df P w K mg base 3 "is_set" ["web","numbers"] sI:=
 Df.au F bf4 (λcdv A outer s H E hr=>by
  exact⟨(V0),(aT (bM (rF (b9 d_rises hr (a9 (qv 1) aI)) (oB (aF3 B rfl (a9 (oD (N:=["number","web"]) (fr:=[none,some 0]) (dN (qv 1)) (λ_ _ _ _=>(b9 d_is_hearth hr (a9 (qv 1) (a9 (qv 0) aI))))) aI)))))),aK0⟩)
theorem ah6:FnScope ["web","around","block","inside"] ["web","around","block"] (aN (aV 18)):=.au
theorem bf6 (B:Bt mg)(F:FM K mg "staying" 18 f fd)(d_marked:Df P w K mg base 1 "marked" ["hearths"] jL)(d_count_outside:Df P w K mg base 2 "count_outside" ["hearths","inside"] mK):Df P w K mg base 3 "staying" ["web","around","block"] sU:=
 Df.au F ah6 (λcdv A outer s H E hr=>by
  have nd:=ah6.nd
  exact⟨(Y3),(aR (bY (i:=3) nd (b9 d_marked hr (a9 (qv 2) aI)))
   (aT (bM (oC B (a9 (mB (N:=["hearth","inside","around","web"]) (fr:=[none,some 3,some 1,some 0]) (dN (qv 2)) (λ_ _ _ _=>(O3 (b9 d_count_outside hr (a9 (cG (qv 2) (qv 0)) (a9 (qv 1) aI))) (cG (cG (qv 3) aS) (qv 0)))) (λ_ _ _ _=>(qv 0))) aI))))),aP1⟩)
theorem ah7:FnScope ["most","hearth","blocks","later","free","inside","block"] ["most","hearth","blocks"] (aN (aV 27)):=.au
theorem bf7 (B:Bt mg)(F:FM K mg "passed_on" 27 f fd)(d_marked:Df P w K mg base 1 "marked" ["hearths"] jL)(d_keep_longer:mV P w K mg base 1 "keep_longer" ["most","free","blocks"] )(d_without:Df P w K mg base 2 "without" ["hearths","some"] oT)(d_count_outside:Df P w K mg base 2 "count_outside" ["hearths","inside"] mK):Df P w K mg base 3 "passed_on" ["most","hearth","blocks"] tV:=
 Df.au F ah7 (λcdv A outer s H E hr=>by
  have nd:=ah7.nd
  have hu:=lK hr
  exact⟨(af5),(aR (gT (i:=3) nd aE8)
   (aR (aY2 0 4 nd (λ_=>
    (aR (bY (i:=5) nd (b9 d_marked hr (a9 (qv 4) aI)))
    (aR (ae5 d_keep_longer hr 3 (b9 d_without hr (a9 (qv 4) (a9 (gS (a9 (qv 1) aI)) aI))) (rG hu (qv 0) (qv 4)))
    (aT (eM 6 nd (dN (qv 2))
     (aT (eL (kJ (b9 d_count_outside hr (a9 (qv 6) (a9 (qv 5) aI))) aS) (aT (ae5 d_keep_longer hr 3 (b9 d_without hr (a9 (qv 4) (a9 (qv 6) aI))) (ad9 (aZ1 (rG hu (qv 0) (qv 4)) (gS (a9 (qv 6) aI)))))) eJ))))))))
   (aT (rH 3)))),ba9⟩)
theorem ah8:FnScope ["script","most","many","sparse","digits","cells","k","links","counts","other","number","one","draw","wants"] ["script","most"] (aN (aV 34)):=.au
theorem bf8 (B:Bt mg)(F:FM K mg "_law_web" 34 f fd)(d__law_hearths:Df P w K mg base 2 "_law_hearths" ["script","most"] tF)(d__law_cell_at:Df P w K mg base 1 "_law_cell_at" ["script","k"] jM)(d__law_mixed:Df P w K mg base 1 "_law_mixed" ["number","k"] oX):Df P w K mg base 3 "_law_web" ["script","most"] tK:=
 Df.au F ah8 (λcdv A outer s H E hr=>by
  have nd:=ah8.nd
  exact⟨(ac9),(aR (bY (i:=2) nd (b9 d__law_hearths hr (a9 (qv 0) (a9 (qv 1) aI))))
   (aR (bY (i:=3) nd (fE aS (gC (b9 d__law_cell_at hr (a9 (qv 0) (a9 aS aI))) aS)))
   (aR (bY (i:=4) nd (O2 (gC (oA (b9 d__law_cell_at hr (a9 (qv 0) (a9 aS aI))) aS) aS) aS))
   (aR (gT (i:=5) nd (Q5 (qv 0) (wT aS) (wT (fE aS (qv 2)))))
   (aR (eM 6 nd (P3 rfl B.range (dX B (a9 (qv 5) aI)) (qv 2))
    (aT (rJ 5 (b9 d__law_mixed hr (a9 (b9 d__law_cell_at hr (a9 (qv 0) (a9 aS aI))) (a9 (qv 6) aI))))))
   (aR (gT (i:=7) nd (gS aI))
   (aR (gT (i:=8) nd (X8 (gS (a9 aS aI)) (qv 2)))
   (aR (eM 9 nd (kL rfl B.range (qv 2))
    (aR (bY (i:=10) nd (oA (cG (qv 5) (qv 9)) aS))
    (aT (eM 11 nd (kL rfl B.range (qv 9))
     (aR (bY (i:=12) nd (qv 10))
     (aR (bY (i:=10) nd (oA (qv 10) (qv 3)))
     (aR (eL (jJ (iR (qv 4))) (aT (bY (i:=12) nd (b9 d__law_mixed hr (a9 (cG (qv 5) (qv 9)) (a9 (fE (qv 11) aS) aI))))) eJ)
     (aT (eL (kJ (gC (qv 12) (qv 3)) aS) (aR (rJ 7 (kK (a9 (qv 11) (a9 (qv 9) aI))))
      (aR (wV (i:=8) (qv 11) (fE (cG (qv 8) (qv 11)) aS))
      (aT (wV (i:=8) (qv 9) (fE (cG (qv 8) (qv 9)) aS))))) eJ)))))))))
   (aR (aG5 (i:=13) nd (N:=["k","cells","counts"]) (fr:=[none,some 5,some 8]) (kL rfl B.range (qv 2)) (λ_ _ _ _=>(gC (cG (qv 1) (qv 0)) (fE (cG (qv 2) (qv 0)) aS))))
   (aT (bM (kK (a9 (oC B (a9 (qv 13) aI)) (a9 (oC B (a9 (aQ9 B (a9 (qv 7) aI)) aI)) aI)))))))))))))),aW2⟩)
theorem ah9:FnScope ["web","many","blocks","some","most","free","block"] ["web"] (aN (aV 39)):=.au
theorem bf9 (B:Bt mg)(F:FM K mg "_law_most_apart" 39 f fd)(d__law_sets:Df P w K mg base 1 "_law_sets" ["many"] tJ)(d__law_is_cold:Df P w K mg base 2 "_law_is_cold" ["web","block"] mU):Df P w K mg base 3 "_law_most_apart" ["web"] tX:=
 Df.au F ah9 (λcdv A outer s H E hr=>by
  have nd:=ah9.nd
  exact⟨(ag1),(aR (bY (i:=1) nd (dX B (a9 (cG (qv 0) aS) aI)))
   (aR (gT (i:=2) nd (gS aI))
   (aR (eM 3 nd (dN (b9 d__law_sets hr (a9 (qv 1) aI)))
    (aT (eL (m8 (O7 (wR (dX B (a9 (qv 3) aI)) aS) (O6 (iR (b9 d__law_is_cold hr (a9 (qv 0) (a9 (qv 3) aI))))))) (aT (rJ 2 (aP8 B rfl (a9 (oD (N:=["hearth"]) (fr:=[none]) (dN (qv 3)) (λ_ _ _ _=>(rC aS (qv 0)))) aI)))) eJ)))
   (aR (gT (i:=4) nd (X8 (gS (a9 aS aI)) (rC aS (qv 1))))
   (aR (O9 2 (eM 5 nd (kL rfl B.range (rC aS (qv 1)))
    (aT (eM 6 nd (dN (qv 2))
     (aT (eL (kJ (aU0 (qv 6) (qv 5)) (qv 6)) (aT (wV (i:=4) (qv 5) (P6 B rfl (a9 (cG (qv 4) (qv 5)) (a9 (fE aS (cG (qv 4) (bb1 (qv 5) (qv 6)))) aI))))) eJ))))))
   (aT (bM (cG (qv 4) (P7 aS))))))))),bc0⟩)
theorem bg0:FnScope ["web","hearths"] ["web","hearths"] (aN (aV 10)):=.au
theorem bg1 (B:Bt mg)(F:FM K mg "made_set" 10 f fd)(d_is_set:Df P w K mg base 3 "is_set" ["web","numbers"] sI)(x_BadSet:Xc K mg base "BadSet"):cV P w K mg base 4 "made_set" ["web","hearths"] sX:=
 cV.au F bg0 Z0 aQ6 (λcdv A outer s H E Ep hr hX=>by
  exact (aR (eL (jJ (iR (b9 d_is_set hr (a9 (qv 0) (a9 (qv 1) aI))))) (aT (Y8 hX x_BadSet (a9 O1 aI))) eJ)
   (aT (bM (oC B (a9 (qv 1) aI))))))
theorem ai0:FnScope ["web","block","chosen"] ["web","block"] (aN (aV 17)):=.au
theorem bg2 (B:Bt mg)(F:FM K mg "is_cold" 17 f fd)(d_made_set:cV P w K mg base 4 "made_set" ["web","hearths"] sX)(d_staying:Df P w K mg base 3 "staying" ["web","around","block"] sU)(d_near_lists:Df P w K mg base 1 "near_lists" ["web"] oP):cV P w K mg base 5 "is_cold" ["web","block"] t5:=
 cV.au F ai0 Z3 aR0 (λcdv A outer s H E Ep hr hX=>by
  have nd:=ai0.nd
  have hu3:=yX hr
  exact (aR (bY (i:=2) nd (sV hX d_made_set hr (a9 (qv 0) (a9 (qv 1) aI))))
   (aT (bM (Q4 hu3 (b9 d_staying hr (a9 (qv 0) (a9 (b9 d_near_lists hr (a9 (qv 0) aI)) (a9 (qv 2) aI)))) (qv 2))))))
theorem ai1:FnScope ["web","chosen","holds","place"] ["web","chosen"] (aN (aV 23)):=.au
theorem bg3 (B:Bt mg)(F:FM K mg "holding_cold" 23 f fd)(d_holds_without_one:Df P w K mg base 1 "holds_without_one" ["holds","place","some"] mR)(d_is_cold:cV P w K mg base 5 "is_cold" ["web","block"] t5):cV P w K mg base 6 "holding_cold" ["web","chosen"] t8:=
 cV.au F ai1 aa2 aR9 (λcdv A outer s H E Ep hr hX=>by
  have nd:=ai1.nd
  exact (aR (gT (i:=2) nd (gS (a9 iQ aI)))
   (aR (eM 3 (hp:=hX.own) nd (P3 rfl B.range aS (dX B (a9 (qv 1) aI)))
    (aT (rJ 2 (aE5 (b9 d_holds_without_one hr (a9 (qv 2) (a9 (qv 3) (a9 (cG (qv 1) (qv 3)) aI)))) (oB (sV hX d_is_cold hr (a9 (qv 0) (a9 (cG (qv 1) (qv 3)) aI))))))))
   (aT (rH 2)))))
theorem ai2:FnScope ["web","chosen","holds","found"] ["web"] (aN (aV 21)):=.au
theorem bg4 (B:Bt mg)(F:FM K mg "least_colds" 21 f fd)(d_searched_sets:cV P w K mg base 2 "searched_sets" ["web"] t7)(d_holding_cold:cV P w K mg base 6 "holding_cold" ["web","chosen"] t8)(d_holds_without_one:Df P w K mg base 1 "holds_without_one" ["holds","place","some"] mR):cV P w K mg base 7 "least_colds" ["web"] yD:=
 cV.au F ai2 ad0 aW5 (λcdv A outer s H E Ep hr hX=>by
  have nd:=ai2.nd
  exact (aR (bY (i:=1) nd (sV hX d_searched_sets hr (a9 (qv 0) aI)))
   (aR (bY (i:=2) nd (sV hX d_holding_cold hr (a9 (qv 0) (a9 (qv 1) aI))))
   (aR (aO3 (i:=3) nd (N:=["place","some","holds"]) (fr:=[none,none,some 2]) (aO1 rfl B.enum (qv 1)) (λ_ _ _ _=>(m8 (O7 (aE4 (cG (qv 2) (qv 0))) (O6 (jJ (iR (b9 d_holds_without_one hr (a9 (qv 2) (a9 (qv 0) (a9 (qv 1) aI)))))))))) (λ_ _ _ _=>(qv 1)))
   (aT (bM (aL4 B (a9 (qv 3) aI))))))))
theorem ai3:FnScope ["web","blocks","most","hearth"] ["web"] (aN (aV 26)):=.au
theorem bg5 (B:Bt mg)(F:FM K mg "blocks_apart" 26 f fd)(d_least_colds:cV P w K mg base 7 "least_colds" ["web"] yD)(d_hearths_in:Df P w K mg base 1 "hearths_in" ["web"] i6)(d_passed_on:Df P w K mg base 3 "passed_on" ["most","hearth","blocks"] tV):Df P w K mg base 8 "blocks_apart" ["web"] yO:=
 Df.au F ai3 (λcdv A outer s H E hr=>by
  have nd:=ai3.nd
  have hu:=lK hr
  exact⟨(af6),(aR (bY (i:=1) nd (aQ2 d_least_colds hr (a9 (qv 0) aI)))
   (aR (bY (i:=2) nd (aY9 hu (aU2 B (b9 d_hearths_in hr (a9 (qv 0) aI))) (ad9 (gS aI))))
   (aR (eM 3 nd (kL rfl B.range (b9 d_hearths_in hr (a9 (qv 0) aI)))
    (aT (bY (i:=2) nd (b9 d_passed_on hr (a9 (qv 2) (a9 (qv 3) (a9 (mB (N:=["block","hearth"]) (fr:=[none,some 3]) (dN (qv 1)) (λ_ _ _ _=>(kJ (cG (qv 0) aS) (qv 1))) (λ_ _ _ _=>(qv 0))) aI)))))))
   (aT (bM (rG hu (qv 2) (kK aI))))))),bb0⟩)
theorem ai4:FnScope ["script","web","found","met","block","kept"] ["script"] (aN (aV 40)):=.au
theorem bg6 (B:Bt mg)(F:dR K "law" "law" (aV 40) f fd)(d__law_web:Df P w K mg base 3 "_law_web" ["script","most"] tK)(d_blocks_apart:Df P w K mg base 8 "blocks_apart" ["web"] tY)(d__law_most_apart:Df P w K mg base 3 "_law_most_apart" ["web"] tX)(d__law_is_set:Df P w K mg base 2 "_law_is_set" ["found","many"] tH)(d__law_is_cold:Df P w K mg base 2 "_law_is_cold" ["web","block"] mU):cD P w K mg base cL 9 f fd ["script"] (jH K yW):=
 aM1 F ai4 (λxs Q h=>by unfold yW at h;repeat (first|(obtain⟨rfl,_⟩:=h;rfl)|(obtain⟨_,h⟩:=h))) (λcdv A outer s H E hr=>by
  have nd:=ai4.nd
  have hu3:=yX hr
  exact⟨(ag4 K),(aR (bY (i:=1) nd (b9 d__law_web hr (a9 (qv 0) (a9 aS aI))))
   (aR (gT (i:=2) nd (b9 d_blocks_apart hr (a9 (qv 1) aI)))
   (aR (eL (m8 (m7 (jJ (iR (aG1 B (qv 2)))) (rE (aE2 (dX B (a9 (qv 2) aI)) (b9 d__law_most_apart hr (a9 (qv 1) aI)))))) (aT (bM iQ)) eJ)
   (aR (gT (i:=3) nd (gS aI))
   (aR (O9 2 (eM 4 nd (dN (qv 2))
    (aR (eL (m8 (m7 (jJ (iR (b9 d__law_is_set hr (a9 (qv 4) (a9 (dX B (a9 (cG (qv 1) aS) aI)) aI))))) (m7 (kJ (dX B (a9 (qv 4) aI)) aS) (rE (jJ (iR (b9 d__law_is_cold hr (a9 (qv 1) (a9 (qv 4) aI))))))))) (aT (bM iQ)) eJ)
    (aT (aG7 3 (P4 B (a9 (qv 4) aI)))))))
   (aR (gT (i:=5) nd (P4 B (a9 (qv 2) aI)))
   (bb3 2 (aT (bM (rF (O2 (dX B (a9 (mB (N:=["k","met"]) (fr:=[none,some 3]) (kL rfl B.range (dX B (a9 (qv 3) aI))) (λ_ _ _ _=>(aF4 (cG (qv 1) (qv 0)) (Q5 (qv 1) aG4 (wT (qv 0))))) (λ_ _ _ _=>(qv 0))) aI)) aS) (oB (Q4 hu3 (b9 d_blocks_apart hr (a9 (qv 1) aI)) (qv 5))))))))))))),bc4 (sP K).ll⟩)
end
set_option autoImplicit true in
theorem bg7 {l:OpenLaw}{w:World}{K:Frag}{h:Heap}{mg:Str->Option Value}(X:K.In h)(G:h.Ns mainGlobals mg)(hfa:mg "law" = some (.ref fa))(h0:FK K "rises" 5 f0 d0)(h1:FK K "hearths_in" 6 f1 d1)(h2:FK K "near_lists" 7 f2 d2)(h3:FK K "sets_among" 11 f3 d3)(h4:FK K "marked" 12 f4 d4)(h5:FK K "count_inside" 13 f5 d5)(h6:FK K "holds_without_one" 24 f6 d6)(h7:FK K "keep_longer" 28 f7 d7)(h8:FK K "_law_cell_at" 30 f8 d8)(h9:FK K "_law_mixed" 31 f9 d9)(h10:FK K "_law_whole" 32 f10 d10)(h11:FK K "_law_beside" 35 f11 d11)(h12:FK K "_law_sets" 37 f12 d12)(h13:FK K "is_hearth" 8 f13 d13)(h14:FK K "count_outside" 14 f14 d14)(h15:FK K "without" 15 f15 d15)(h16:FK K "searched_sets" 22 f16 d16)(h17:FK K "_law_hearths" 33 f17 d17)(h18:FK K "_law_is_cold" 36 f18 d18)(h19:FK K "_law_is_set" 38 f19 d19)(h20:FK K "is_set" 9 f20 d20)(h21:FK K "staying" 18 f21 d21)(h22:FK K "passed_on" 27 f22 d22)(h23:FK K "_law_web" 34 f23 d23)(h24:FK K "_law_most_apart" 39 f24 d24)(h25:FK K "made_set" 10 f25 d25)(h26:FK K "is_cold" 17 f26 d26)(h27:FK K "holding_cold" 23 f27 d27)(h28:FK K "least_colds" 21 f28 d28)(h29:FK K "blocks_apart" 26 f29 d29)(a30:nsIn K mainGlobals "law" = some (some (.ref f30)))(l30:K.lookup f30=some ⟨oc30,od30,.func (fnOf "law" "law" (hJ (aV 40)) (dH (aV 40)) (aN (aV 40)) .none kV30 dc30 pm30 an30 cd30 ct30),sl30⟩)(c30:codeIn K cd30 "law" = true)(k30:keepIn K (.ref f30)=true)(z_len:nsIn K mainGlobals "len" = some none)(z_range:nsIn K mainGlobals "range" = some none)(z_tuple:nsIn K mainGlobals "tuple" = some none)(z_list:nsIn K mainGlobals "list" = some none)(z_sorted:nsIn K mainGlobals "sorted" = some none)(z_all:nsIn K mainGlobals "all" = some none)(z_any:nsIn K mainGlobals "any" = some none)(z_zip:nsIn K mainGlobals "zip" = some none)(z_min:nsIn K mainGlobals "min" = some none)(z_max:nsIn K mainGlobals "max" = some none)(z_sum:nsIn K mainGlobals "sum" = some none)(z_isinstance:nsIn K mainGlobals "isinstance" = some none)(z_int:nsIn K mainGlobals "int" = some none)(z_bool:nsIn K mainGlobals "bool" = some none)(z_enumerate:nsIn K mainGlobals "enumerate" = some none){u_MOST_SEARCHED:Nat}(z_MOST_SEARCHEDx:nsIn K mainGlobals "MOST_SEARCHED" = some (some (.int 12 u_MOST_SEARCHED))){C_HearthError C_BadSet C_TooMany:Addr}(aX_HE:nsIn K mainGlobals "HearthError" = some (some (.ref C_HearthError)))(aX_BS:nsIn K mainGlobals "BadSet" = some (some (.ref C_BadSet)))(aX_TM:nsIn K mainGlobals "TooMany" = some (some (.ref C_TooMany)))(zX_BW:nsIn K mainGlobals "BadWeb" = some none)(zX_BO:nsIn K mainGlobals "BadOrder" = some none)(zX_BP:nsIn K mainGlobals "BadPrices" = some none)(zX_BB:nsIn K mainGlobals "BadBoard" = some none)(zX_BD:nsIn K mainGlobals "BadDeed" = some none)(zX_NW:nsIn K mainGlobals "NotWood" = some none)(zX_NP:nsIn K mainGlobals "NoPaper" = some none)(zX_NS:nsIn K mainGlobals "NoSuch" = some none)(zX_NT:nsIn K mainGlobals "NoText" = some none)(zX_OR:nsIn K mainGlobals "OddRound" = some none)(y_fg:specialIn K (.builtin "object.__class__") "__get__" = some (some (.builtin "getset_descriptor.__get__")))(y_ft:takesIn K (.builtin "object.__class__")=some true)(z_VE:nsIn K mainGlobals "ValueError" = some none)(y1_HE:isClsIn K C_HearthError=true)(y2_HE:typeIn K (.ref C_HearthError)=some (.type "type"))(y3_HE:findIn K (.ref C_HearthError) "__getattribute__" = some (some (.builtin "BaseException.__getattribute__")))(y4_HE:findIn K (.ref C_HearthError) "__getattr__" = some none)(y5_HE:findIn K (.ref C_HearthError) "__class__" = some (some (.builtin "object.__class__")))(y6_HE:mroIn K C_HearthError (.type "object")=some true)(y7_HE:mroIn K C_HearthError (.type "BaseException")=some true)(y1_BS:isClsIn K C_BadSet=true)(y2_BS:typeIn K (.ref C_BadSet)=some (.type "type"))(y3_BS:findIn K (.ref C_BadSet) "__getattribute__" = some (some (.builtin "BaseException.__getattribute__")))(y4_BS:findIn K (.ref C_BadSet) "__getattr__" = some none)(y5_BS:findIn K (.ref C_BadSet) "__class__" = some (some (.builtin "object.__class__")))(y6_BS:mroIn K C_BadSet (.type "object")=some true)(y7_BS:mroIn K C_BadSet (.type "BaseException")=some true)(y1_TM:isClsIn K C_TooMany=true)(y2_TM:typeIn K (.ref C_TooMany)=some (.type "type"))(y3_TM:findIn K (.ref C_TooMany) "__getattribute__" = some (some (.builtin "BaseException.__getattribute__")))(y4_TM:findIn K (.ref C_TooMany) "__getattr__" = some none)(y5_TM:findIn K (.ref C_TooMany) "__class__" = some (some (.builtin "object.__class__")))(y6_TM:mroIn K C_TooMany (.type "object")=some true)(y7_TM:mroIn K C_TooMany (.type "BaseException")=some true)(q_BS:excIn K C_BadSet [.type "ValueError",.type "Exception",.type "BaseException",.type "object"] "ValueError.__new__" = true)(q_TM:excIn K C_TooMany [.type "ValueError",.type "Exception",.type "BaseException",.type "object"] "ValueError.__new__" = true)
 :∃fd:FuncData,(∀(s:Shared) (v:Value),BindsTo s fd ⟨[v],[]⟩ [("script",v)])/\∀base:Heap,K.In base->base.Ns mainGlobals mg->cD l.prog w K mg base cL 9 fa fd ["script"] (sQ K):=by
 have e:=hfa.symm.trans (mg_of X G a30)
 cases e
 have F30:=av3 (st:=aV 40) l30 c30 k30
 have m30:=mg_of X G a30
 have B:Bt mg:=⟨mg_none_of X G z_len,mg_none_of X G z_range,mg_none_of X G z_tuple,mg_none_of X G z_list,mg_none_of X G z_sorted,mg_none_of X G z_all,mg_none_of X G z_any,mg_none_of X G z_zip,mg_none_of X G z_min,mg_none_of X G z_max,mg_none_of X G z_sum,mg_none_of X G z_isinstance,mg_none_of X G z_int,mg_none_of X G z_bool,mg_none_of X G z_enumerate⟩
 have m_MOST_SEARCHED:=mg_of X G z_MOST_SEARCHEDx
 refine⟨fnOf "law" "law" (hJ (aV 40)) (dH (aV 40)) (aN (aV 40)) .none kV30 dc30 pm30 an30 cd30 ct30,λs v=>.of_eq rfl,λbase KB _=>?_⟩
 have XK_HearthError:xT K C_HearthError:=⟨y1_HE,y2_HE,y3_HE,y4_HE,y5_HE,y_fg,y_ft,y6_HE,y7_HE⟩
 have XK_BadSet:xT K C_BadSet:=⟨y1_BS,y2_BS,y3_BS,y4_BS,y5_BS,y_fg,y_ft,y6_BS,y7_BS⟩
 have XK_TooMany:xT K C_TooMany:=⟨y1_TM,y2_TM,y3_TM,y4_TM,y5_TM,y_fg,y_ft,y6_TM,y7_TM⟩
 have x_BadSet:Xc K mg base "BadSet":=⟨C_BadSet,_,_,_,_,Y9 KB (mg_of X G aX_BS) q_BS,PySem.F.excBase_ValueError,aX_BS⟩
 have x_TooMany:Xc K mg base "TooMany":=⟨C_TooMany,_,_,_,_,Y9 KB (mg_of X G aX_TM) q_TM,PySem.F.excBase_ValueError,aX_TM⟩
 have D0:=aL5 (bc5 (P:=l.prog) (w:=w) (base:=base) B h0.F) (h0.F.binds (ps:=["things"]) λ_ _ _ _ _ _ us hl=>by obtain⟨_,rfl⟩:=mO hl;rfl) h0.F.kp (mg_of X G h0.a)
 have D1:=bc9 (P:=l.prog) (w:=w) (base:=base) B (h1.M X G)
 have D2:=aL6 (bc6 (P:=l.prog) (w:=w) (mg:=mg) (base:=base) h2.F) (h2.F.binds (ps:=["web"]) λ_ _ _ _ _ _ us hl=>by obtain⟨_,rfl⟩:=mO hl;rfl) h2.F.kp (mg_of X G h2.a)
 have D3:=bd0 (P:=l.prog) (w:=w) (base:=base) B (h3.M X G)
 have D4:=bd1 (P:=l.prog) (w:=w) (base:=base) B (h4.M X G)
 have D5:=bd3 (P:=l.prog) (w:=w) (base:=base) B (h5.M X G)
 have D6:=bd5 (P:=l.prog) (w:=w) (base:=base) B (h6.M X G)
 have D7:=bd7 (P:=l.prog) (w:=w) (base:=base) B (h7.M X G)
 have D8:=bd9 (P:=l.prog) (w:=w) (base:=base) B (h8.M X G)
 have D9:=be0 (P:=l.prog) (w:=w) (base:=base) B (h9.M X G)
 have D10:=be2 (P:=l.prog) (w:=w) (base:=base) B (h10.M X G)
 have D11:=aV0 (bc7 (P:=l.prog) (w:=w) (mg:=mg) (base:=base) h11.F) (h11.F.binds (ps:=["web"]) λ_ _ _ _ _ _ us hl=>by obtain⟨_,rfl⟩:=mO hl;rfl) h11.F.kp (mg_of X G h11.a)
 have D12:=be3 (P:=l.prog) (w:=w) (base:=base) B (h12.M X G)
 have D13:=be5 (P:=l.prog) (w:=w) (base:=base) B (h13.M X G) D1
 have D14:=be7 (P:=l.prog) (w:=w) (base:=base) B (h14.M X G) D5
 have D15:=be8 (P:=l.prog) (w:=w) (base:=base) B (h15.M X G) D4
 have D16:=bf0 (P:=l.prog) (w:=w) (base:=base) B (h16.M X G) D1 D3 x_TooMany m_MOST_SEARCHED
 have D17:=bf1 (P:=l.prog) (w:=w) (base:=base) B (h17.M X G) D8
 have D18:=bf2 (P:=l.prog) (w:=w) (base:=base) B (h18.M X G) D11
 have D19:=bf3 (P:=l.prog) (w:=w) (base:=base) B (h19.M X G) D10
 have D20:=bf5 (P:=l.prog) (w:=w) (base:=base) B (h20.M X G) D0 D13
 have D21:=bf6 (P:=l.prog) (w:=w) (base:=base) B (h21.M X G) D4 D14
 have D22:=bf7 (P:=l.prog) (w:=w) (base:=base) B (h22.M X G) D4 D7 D15 D14
 have D23:=bf8 (P:=l.prog) (w:=w) (base:=base) B (h23.M X G) D17 D8 D9
 have D24:=bf9 (P:=l.prog) (w:=w) (base:=base) B (h24.M X G) D12 D18
 have D25:=bg1 (P:=l.prog) (w:=w) (base:=base) B (h25.M X G) D20 x_BadSet
 have D26:=bg2 (P:=l.prog) (w:=w) (base:=base) B (h26.M X G) D25 D21 D2
 have D27:=bg3 (P:=l.prog) (w:=w) (base:=base) B (h27.M X G) D6 D26
 have D28:=bg4 (P:=l.prog) (w:=w) (base:=base) B (h28.M X G) D16 D27 D6
 have D29:=bg5 (P:=l.prog) (w:=w) (base:=base) B (h29.M X G) D28 D1 D22
 exact aM2 (bg6 B F30 D23 (D29.fresh bc1) D24 D19 D18)
theorem bg8 {l:OpenLaw}{q:Program}{loose:List Str}{XP:(Str->Option Value)->Heap->Prop}{YP:World->Heap->Prop}{d:DefRec}{K:Params->Frag}(hn:l.most=some 63)(hdf:d.params.defaults = [])(hY:∀(w:World) (h:Heap),YP w h->(K w.params).In h)(F:∀(w:World) (mg:Str->Option Value) (fa:Addr) (h:Heap),(K w.params).In h->h.Ns mainGlobals mg->mg d.name=some (.ref fa)->
   ∃fd:FuncData,(∀(s:Shared) (u:Value),BindsTo s fd ⟨[u],[]⟩ [("script",u)])/\∀base:Heap,(K w.params).In base->base.Ns mainGlobals mg->cD l.prog w (K w.params) mg base cL 9 fa fd ["script"] (sQ (K w.params))) :
  WalkO q loose XP YP l.row.toRowW d [] (λf vs=>PySem.call f vs):=
 L2.av2 (n:=63) (k:=9) (x:="script") (CX:=λ_=>cL) (sp:=λw=>sQ (K w.params)) hn (by decide) hdf ⟨rfl,by decide,by decide⟩ hY F (λ_ _ a ns hl hO hS=>⟨a,ns,rfl,aM3 hO hS,hl,λ_=>rfl⟩) λ_ _ _ _ _ z=>z
end K_k38
open PySem PySem.W PyProof.Rows
theorem PySem.W.Fast.te13052408679150730464 : True := trivial
theorem PySem.W.Fast.te16555476440528808052 : True := trivial
theorem PySem.W.Fast.te5369427470323729400 : True := trivial
set_option maxRecDepth 100000 in
set_option maxHeartbeats 0 in
theorem PySem.Challenge.cw_kindleweb_k38_blocks_apart_holds : PySem.Challenge.rw_kindleweb_k38_blocks_apart.Holds := by
 w_on;o_law;k_head;(case hw => w_witness2)
 k_fill
 refine K_k38.bg8 (l := PySem.Challenge.rw_kindleweb_k38_blocks_apart) rfl rfl (λw h Y => PySem.W.kIn_of Y) ?F
 case F =>
  intro w mg fa h KX G hmg
  refine' K_k38.bg7 KX G hmg ?h0 ?h1 ?h2 ?h3 ?h4 ?h5 ?h6 ?h7 ?h8 ?h9 ?h10 ?h11 ?h12 ?h13 ?h14 ?h15 ?h16 ?h17 ?h18 ?h19 ?h20 ?h21 ?h22 ?h23 ?h24 ?h25 ?h26 ?h27 ?h28 ?h29 ?a30 ?l30 ?c30 ?k30 ?z_len ?z_range ?z_tuple ?z_list ?z_sorted ?z_all ?z_any ?z_zip ?z_min ?z_max ?z_sum ?z_isinstance ?z_int ?z_bool ?z_enumerate ?z_MOST_SEARCHEDx ?aX_HE ?aX_BS ?aX_TM ?zX_BW ?zX_BO ?zX_BP ?zX_BB ?zX_BD ?zX_NW ?zX_NP ?zX_NS ?zX_NT ?zX_OR ?y_fg ?y_ft ?z_VE ?y1_HE ?y2_HE ?y3_HE ?y4_HE ?y5_HE ?y6_HE ?y7_HE ?y1_BS ?y2_BS ?y3_BS ?y4_BS ?y5_BS ?y6_BS ?y7_BS ?y1_TM ?y2_TM ?y3_TM ?y4_TM ?y5_TM ?y6_TM ?y7_TM ?q_BS ?q_TM
  (case h0|h1|h2|h3|h4|h5|h6|h7|h8|h9|h10|h11|h12|h13|h14|h15|h16|h17|h18|h19|h20|h21|h22|h23|h24|h25|h26|h27|h28|h29 => exact⟨by k_is, ⟨⟨_, _, _, _, _, _, _, _, _, rfl, by k_is, by k_is⟩, by k_is⟩⟩)
  (case a30|l30|c30|k30|z_len|z_range|z_tuple|z_list|z_sorted|z_all|z_any|z_zip|z_min|z_max|z_sum|z_isinstance|z_int|z_bool|z_enumerate|z_MOST_SEARCHEDx|aX_HE|aX_BS|aX_TM|zX_BW|zX_BO|zX_BP|zX_BB|zX_BD|zX_NW|zX_NP|zX_NS|zX_NT|zX_OR|y_fg|y_ft|z_VE|y1_HE|y2_HE|y3_HE|y4_HE|y5_HE|y6_HE|y7_HE|y1_BS|y2_BS|y3_BS|y4_BS|y5_BS|y6_BS|y7_BS|y1_TM|y2_TM|y3_TM|y4_TM|y5_TM|y6_TM|y7_TM => k_is)
  (case q_BS|q_TM => k_exc)


