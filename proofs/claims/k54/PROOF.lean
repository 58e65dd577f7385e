import PyProof.Rows.All
import Wide.All
import OpenK.AllK
import Wide.FinOn
import Lean
import PyProof.EqAt
import PyProof.EqKinds
import PyProof.TupleCall
import PyProof.NeKinds
import PyProof.Draws
import PyProof.ZipIter
import PyProof.DictUpdate
import PyProof.AutoSeq1
import PyProof.ListRange
import PyProof.ListMulRoad
import PyProof.FactsAll.tuple_2
import PyProof.Rows.SortShell
import PyProof.EnumFor
import PyProof.EnumMake
import PyProof.EnumStmt
import PyProof.Rows.SortWalk
import KE.KDictList
import PyProof.SumAny
import PyProof.ConsumeWalk
import PyProof.WalksMore
import PyProof.Rows.TupAssign
import PyProof.ExcArgsOwn
import PySem.Challenge.RW_kindleweb_k54_whole_what_ledgers_mean
set_option Elab.async false
set_option linter.all false
set_option maxRecDepth 100000
set_option maxHeartbeats 4000000
section
open PySem PySem.Spec PyProof.Rows
def bm1:=@wpAny_bind
def bm2:=@List.mem_singleton
def bm3:=@List.mem_of_getElem?
def bm4:=@decide_eq_true
def bm5:=@Heap.get?_push_of_some
def bm6:=@List.getElem?_eq_getElem
def bm7:=@List.length_map
def bm8:=@List.mem_cons_self
def bm9:=@decide_eq_false
def bn0:=@List.mem_append
def bn1:=@Nat.le_refl
def bn2:=@List.getElem?_eq_some_iff
def bn3:=@List.mem_filter
def bn4:=@List.getElem?_map
def bn5:=@List.mem_cons_of_mem
def bn6:=@List.mem_map
def bn7:=@wpAny_pure
def bn8:=@List.mem_cons
def bn9:=@List.size_toArray
def bo0:=@wpS_bind
def bo1:=@List.getD_eq_getElem?_getD
def bo2:=@List.length_append
def bo3:=@List.mem_append_left
def bo4:=@Bool.false_ne_true
def bo5:=@List.length_cons
def bo6:=@Heap.lt_size
def bo7:=@Nat.lt_of_lt_of_le
def bo8:=@List.mem_append_right
def bo9:=@Option.some.inj
def bp0:=@wpS_pure
def bp1:=@List.getElem?_append_left
def bp2:=@List.map_cons
def bp3:=@Heap.get?_push_size
def bp5:=@List.map_append
def bp7:=@Bool.false_eq_true
def bp8:=@List.take_of_length_le
def bp9:=@Int.toNat_natCast
def bq1:=@decide_eq_true_eq
def bq2:=@List.pairwise_singleton
def bq3:=@of_decide_eq_true
def bq4:=@List.sum_cons
def bq5:=@List.getElem_of_mem
def bq6:=@List.append_assoc
def bq7:=@List.getElem?_set_ne
def bq9:=@List.not_mem_nil
def br0:=@List.map_map
def br1:=@List.take_add_one
def br2:=@List.take_append_drop
def br3:=@Bool.and_eq_true
def br4:=@List.take_length
def br5:=@Nat.zero_le
def br6:=@List.getElem?_append_right
def br7:=@Nat.ne_of_lt
def br8:=@Classical.byContradiction
def br9:=@List.filter_cons
def bs0:=@Nat.le_trans
def bs1:=@List.append_nil
def bs2:=@List.length_singleton
def bs3:=@List.pairwise_map
def bs4:=@List.nodup_cons
def bs5:=@List.length_set
def bs6:=@Int.le_refl
def bs7:=@decide_eq_false_iff_not
def bs8:=@List.length_filter_le
def bs9:=@List.replicate_succ
def bt0:=@List.length_take
def bt1:=@Array.getElem_mem
def bt2:=@Nat.lt_or_ge
def bt4:=@List.filter_cons_of_neg
def bt5:=@Nat.lt_irrefl
def bt6:=@List.pairwise_iff_getElem
def bt7:=@PySem.mem_of_lookup
def bt8:=@List.map_congr_left
def bt9:=@Nat.le_of_lt
def bu0:=@List.getElem?_set_self
def bu1:=@List.pairwise_append
def bu4:=@if_false
def bu5:=@PySem.F.plainAttrs_list
def bu6:=@List.filter_cons_of_pos
def bu7:=@Array.toList_append
def bv0:=@List.lookup_cons
def bv1:=@List.nodup_append
def bv2:=@List.pairwise_cons
def bv3:=@PyProof.Rows.callWith_type1
def bv4:=@List.mem_iff_getElem?
def bv6:=@Int.emod_nonneg
def bv7:=@wpAny_newObj_type
def bv8:=@List.mem_of_mem_take
def bv9:=@wpS_forRange
def bw0:=@Bool.eq_iff_iff
def bw2:=@wpAny_call_entry
def bw3:=@Nat.le_add_right
def bw4:=@Int.ne_of_lt
def bw5:=@wpAny_callSpecial?_slot
def bw6:=@List.getElem?_cons_succ
def bw8:=@wpAny_mono
def bw9:=@List.perm_ext_iff_of_nodup
def bx1:=@wpAny_field
def bx2:=@List.flatten_cons
def bx3:=@List.Pairwise.nil
def bx4:=@List.length_replicate
def bx5:=@Array.getElem?_toList
def bx8:=@Nat.ne_of_gt
def bx9:=@List.find?_cons
def by3:=@List.length_drop
def by4:=@List.all_eq_true
def by5:=@List.mem_singleton_self
def by6:=@wpAny_holding
def by7:=@wpAny_truthy_bool
def by9:=@or_false
def bz0:=@List.filter_eq_self
def bz1:=@Prod.mk.inj
def bz2:=@PyProof.Rows.slot_tuple_getitem
def bz3:=@List.getElem_mem
def bz4:=@of_decide_eq_false
def bz5:=@List.filter_append
def bz6:=@List.getElem?_take_of_lt
def bz7:=@List.any_cons
def bz9:=@PySem.F.slot_list_append
def bA0:=@PySem.F.type_list_append
def bA3:=@Bool.eq_false_iff
def bA5:=@PassesOwn.never
def bA7:=@Array.getD_eq_getD_getElem?
def bA8:=@List.filter_eq_nil_iff
def bA9:=@List.length_pos_of_mem
def bB0:=@Nat.le_of_not_lt
def bB1:=@List.mem_filterMap
def bB3:=@Bool.and_false
def bB4:=@List.Perm.refl
def bB5:=@wpAny_seqItems
def bB6:=@wpAny_setField_rec
def bB7:=@Nat.eq_or_lt_of_le
def bB8:=@Int.emod_lt_of_pos
def bB9:=@List.perm_append_comm
def bC0:=@List.getElem?_eq_none
def bC1:=@wpAny_passesOwn
def bC2:=@Int.le_of_lt
def bC3:=@wpS_mono
def bC4:=@Int.zero_add
def bC8:=@List.mem_range
def bC9:=@Heap.size_push
def bD1:=@List.drop_take
def bD2:=@wpAny_rule
end
abbrev aa:=List (Int×Int)
abbrev ad:=PySem.W.Frag
abbrev ae:=List (List Int)
abbrev af:=List Int
namespace L2
open PySem PySem.Spec PyProof.Rows
abbrev aK:=Sum Int Str
def mW:aK->Value->Bool
 |.inl k,v=>Value.isInt k v
 |.inr x,v=>Value.isStrOf x v
def an1 (w:World):aK->Int
 |.inl k=>hashInt k
 |.inr x=>hashStr w x
theorem iY:∀{k:aK}{v:Value},mW k v=true->(∃i t,k=Sum.inl i/\v=Value.int i t)∨(∃x t,k=Sum.inr x/\v=Value.str x t)
 |.inl i,v,h=>by
  obtain⟨t,e⟩:=Value.isInt_shape (k:=i) (v:=v) h
  exact .inl ⟨i,t,rfl,e⟩
 |.inr x,v,h=>by
  obtain⟨t,e⟩:=Value.isStrOf_shape (x:=x) (v:=v) h
  exact .inr ⟨x,t,rfl,e⟩
theorem an2 (i:Int)(t:Tok):mW (.inl i) (.int i t)=true:=by simp[mW,Value.isInt]
theorem an3 (x:Str)(t:Tok):mW (.inr x) (.str x t)=true:=by simp[mW,Value.isStrOf]
theorem an4 (a b:Int):decide ((Sum.inl a:aK)=Sum.inl b)=(a==b):=by
 by_cases e:a=b
 ·subst e;simp
 ·have h:¬(Sum.inl a:aK)=Sum.inl b:=λq=>e (Sum.inl.inj q)
  rw[bm9 h]
  exact (beq_eq_false_iff_ne.mpr e).symm
theorem an5 (a b:Str):decide ((Sum.inr a:aK)=Sum.inr b)=decide (a=b):=by
 by_cases e:a=b
 ·subst e;simp
 ·have h:¬(Sum.inr a:aK)=Sum.inr b:=λq=>e (Sum.inr.inj q)
  rw[bm9 h,bm9 e]
theorem an6 (a:Int)(b:Str):decide ((Sum.inl a:aK)=Sum.inr b)=false:=bm9 (λq=>nomatch q)
theorem an7 (a:Str)(b:Int):decide ((Sum.inr a:aK)=Sum.inl b)=false:=bm9 (λq=>nomatch q)
def fH (prog:Program)(w:World):PySem.KeyKind prog w aK where
 is:=mW
 hash:=an1 w
 inj:=λv a b ha hb=>by
  rcases iY ha with⟨i,t,rfl,rfl⟩|⟨x,t,rfl,rfl⟩
  ·rcases iY hb with⟨j,u,rfl,e⟩|⟨y,u,rfl,e⟩
   ·injection e with e1 _;rw[e1]
   ·exact nomatch e
  ·rcases iY hb with⟨j,u,rfl,e⟩|⟨y,u,rfl,e⟩
   ·exact nomatch e
   ·injection e with e1 _;rw[e1]
 byValue:=λk v h=>by
  rcases iY h with⟨i,t,rfl,rfl⟩|⟨x,t,rfl,rfl⟩<;>rfl
 pyHash:=λhv h=>by
  rcases iY hv with⟨i,t,rfl,rfl⟩|⟨x,t,rfl,rfl⟩
  ·exact wpAny_pyHash_int h
  ·exact wpAny_pyHash_str h
 eqBool:=λhu hv h=>by
  rcases iY hu with⟨i,t,rfl,rfl⟩|⟨x,t,rfl,rfl⟩
  ·rcases iY hv with⟨j,u,rfl,rfl⟩|⟨y,u,rfl,rfl⟩
   ·rw[an4]at h;exact wpAny_eqBool_int h
   ·rw[an6]at h;exact SeqAt.EqAt.int_str i t y u _ _ _ _ h
  ·rcases iY hv with⟨j,u,rfl,rfl⟩|⟨y,u,rfl,rfl⟩
   ·rw[an7]at h;exact SeqAt.EqAt.str_int x t j u _ _ _ _ h
   ·rw[an5]at h;exact wpAny_eqBool_str h
 «strs»:=λk x t v h=>by
  rcases iY h with⟨i,u,rfl,e⟩|⟨y,u,rfl,e⟩
  ·exact nomatch e
  ·injection e with e1 _
   subst e1
   cases v<;>rfl
theorem an8 (prog:Program)(w:World)(i:Int)(t:Tok):(fH prog w).is (.inl i) (.int i t)=true:=an2 i t
theorem an9 (prog:Program)(w:World)(x:Str)(t:Tok):(fH prog w).is (.inr x) (.str x t)=true:=an3 x t
inductive V where
 |non|bl (b:Bool)|int (i:Int)|str (x:Str)|byt (b:Array UInt8)|flt (b:UInt64)|ref (a:Addr)|ty (n:String)
 deriving DecidableEq
def b6:V->Value->Prop
 |.non,u=>u=Value.none
 |.bl b,u=>u=Value.bool b
 |.int i,u=>∃t,u=Value.int i t
 |.str x,u=>∃t,u=Value.str x t
 |.byt b,u=>∃t,u=Value.bytes b t
 |.flt b,u=>∃t,u=Value.float b t
 |.ref a,u=>u=Value.ref a
 |.ty n,u=>u=Value.type n
abbrev aN:List V->List Value->Prop:=Paired b6
theorem aN.length {xs:List V}{us:List Value}(r:aN xs us):xs.length=us.length:=Paired.length r
theorem aN.get:∀{xs:List V}{us:List Value}{i:Nat}{x:V},aN xs us->xs[i]? = some x->∃u,us[i]? = some u/\b6 x u
 |_,_,_,_,.nil,e=>by simp at e
 |_,_,0,_,.cons r _,e=>by simp at e;subst e;exact⟨_,rfl,r⟩
 |_,_,i+1,x,.cons _ t,e=>by
  obtain⟨u,h1,h2⟩:=aN.get (i:=i) (x:=x) t (by simpa using e)
  exact⟨u,by simpa using h1,h2⟩
theorem aN.set {x:V}{u:Value}(r:b6 x u):∀{xs:List V}{us:List Value} (i:Nat),aN xs us->aN (xs.set i x) (us.set i u)
 |_,_,_,.nil=>.nil
 |_,_,0,.cons _ t=>.cons r t
 |_,_,i+1,.cons q t=>.cons q (aN.set r i t)
theorem aN.append:∀{xs ys:List V}{us ws:List Value},aN xs us->aN ys ws->aN (xs++ys) (us++ws)
 |_,_,_,_,.nil,s=>s
 |_,_,_,_,.cons r t,s=>.cons r (aN.append t s)
theorem aN.take:∀{xs:List V}{us:List Value} (n:Nat),aN xs us->aN (xs.take n) (us.take n)
 |_,_,0,_=>.nil
 |_,_,_+1,.nil=>.nil
 |_,_,n+1,.cons r t=>.cons r (aN.take n t)
theorem aN.drop:∀{xs:List V}{us:List Value} (n:Nat),aN xs us->aN (xs.drop n) (us.drop n)
 |_,_,0,r=>r
 |_,_,_+1,.nil=>.nil
 |_,_,n+1,.cons _ t=>aN.drop n t
def mX:Option V->Option Value->Prop
 |some v,some u=>b6 v u
 |none,none=>True
 |_,_=>False
def KV {κ:Type}:List (κ×V)->List (κ×Value)->Prop:=Paired λ(p:κ×V) (q:κ×Value)=>p.1=q.1/\b6 p.2 q.2
def kV:aK->V
 |.inl i=>.int i
 |.inr x=>.str x
inductive HO where
 |lst (xs:List V)
 |tup (xs:List V)
 |dK (kvs:List (aK×V))|dT (kvs:List (List aK×V))
 |set (S:Int->Bool) (n:Nat)
 |ins (C dx:Addr) (fs:List (Str×V))
 |own (x:Addr)
 |xd (fs:List (Str×V))
 |met (f x:Addr)
 |rng (lo hi:Int)
 |frz (o:Obj) (u:HO)
 |tbl (ps:Array Value)
 |ext (φ:Heap->Prop)
abbrev Hp:=Addr->Option HO
def upd (H:Hp)(a:Addr)(o:HO):Hp:=λb=>if b=a then some o else H b
theorem bP {H:Hp}{a:Addr}{o:HO}:upd H a o a=some o:=by unfold upd;rw[if_pos rfl]
theorem bB {H:Hp}{a b:Addr}{o:HO}(h:b≠a):upd H a o b=H b:=by unfold upd;rw[if_neg h]
theorem ao0 {H:Hp}{a b:Addr}{o u:HO}(h:H a=some o)(h':H b=some u)(d:o≠u):a≠b:=by
 intro e;subst e;rw[h]at h';exact d (bo9 h')
theorem e9 {H:Hp}{a b:Addr}{o:HO}(h:H a=some o)(h':H b=none):a≠b:=by
 intro e;subst e;rw[h]at h';cases h'
def iZ (h:Heap)(a:Addr):Prop:=∀o,h.get? a=some o->o.dict=none
theorem iZ.new (h:Heap)(o:Obj)(d:o.dict=none)(s:o.isFreed=false:=by rfl):iZ (h.push o) h.objs.size:=λu e=>by
 rw[bp3 h (o:=o) s]at e
 cases e;exact d
theorem iZ.stay {h h':Heap}{a:Addr}{o:Obj}(n:iZ h a)(e:h.get? a=some o)(e':h'.get? a=some o):iZ h' a:=λu hu=>by
 rw[e']at hu;cases hu;exact n _ e
section
variable (P:Program)(w:World)
def cL (H:Hp)(h:Heap)(a:Addr):HO->Prop
 |.lst xs=>xs.length<=sizeLine/\∃(its:List Value) (n:Nat),aN xs its/\h.get? a=some { cls:=.type "list",data:=.seq its.toArray n }
 |.tup xs=>xs.length<=sizeLine/\∃its:List Value,aN xs its/\IsTup h a its.toArray/\iZ h a
 |.dK kvs=>kvs.length<=sizeLine/\(a==sysModules)=false/\∃vs,KV kvs vs/\h.DictOf (fH P w) a vs
 |.dT kvs=>kvs.length<=sizeLine/\(a==sysModules)=false/\∃xs:List (List aK×Addr×Value),
   Paired (λ(p:List aK×V) (q:List aK×Addr×Value)=>p.1=q.1/\H q.2.1=some (.tup (p.1.map kV))/\b6 p.2 q.2.2) kvs xs/\
   ∃o es ep,h.get? a=some o/\o.ExactDict/\o.data = .dict es ep/\es.toList=xs.map (entryOfKey (tupleKind (fH P w)))/\(xs.map (·.1)).Nodup
 |.set S n=>h.SetOf (intKind P w) a S n
 |.ins C dx fs=>H dx=some (.own a)/\fs.length<=1000/\dx≠a/\h.get? a=some (PySem.W.instObj C dx)/\
   ∃mA,h.Ns1 dx mA/\(∀f,mX (fs.lookup f) (mA f))/\PySem.Within mA (fs.map (·.1))
 |.own _=>∃o,h.get? a=some o
 |.xd fs=>∃mA,h.Ns1 a mA/\∀f,mX (fs.lookup f) (mA f)
 |.rng lo hi=>∃t u v,h.get? a=some { cls:=.type "range",data:=.fields #[.int lo t,.int hi u,.int 1 v] }
 |.frz o u=>h.get? a=some o/\cL H h a u
 |.tbl ps=>h.get? a=some { cls:=.none,data:=.fields ps }
 |.met f x=>h.get? a=some (PySem.W.methodObj (.ref f) (.ref x))
 |.ext φ=>φ h/\(∃o,h.get? a=some o)/\∀h1 h2:Heap,φ h1->(∀o,h1.get? a=some o->h2.get? a=some o)->φ h2
def bX (H:Hp)(h:Heap):Prop:=∀a o,H a=some o->cL P w H h a o
end
section
variable {P:Program}{w:World}{H H':Hp}{h h':Heap}{a:Addr}{o:HO}
theorem cL.lt (x:cL P w H h a o):a<h.objs.size:=by
 cases o with
 |lst xs=>obtain⟨_,_,_,_,e⟩:=x;exact bo6 e
 |tup xs=>obtain⟨_,_,_,p,_⟩:=x;exact p.lt
 |dK kvs=>obtain⟨_,_,_,_,o,_,_,e,_⟩:=x;exact bo6 e
 |dT kvs=>obtain⟨_,_,_,_,o,_,_,e,_⟩:=x;exact bo6 e
 |set S n=>obtain⟨o,_,_,_,e,_⟩:=x;exact bo6 e
 |ins C dx fs=>obtain⟨_,_,_,e,_⟩:=x;exact bo6 e
 |own y=>obtain⟨_,e⟩:=x;exact bo6 e
 |xd fs=>obtain⟨_,⟨_,_,_,e,_⟩,_⟩:=x;exact bo6 e
 |rng lo hi=>obtain⟨_,_,_,e⟩:=x;exact bo6 e
 |frz ob u=>obtain⟨e,_⟩:=x;exact bo6 e
 |tbl ps=>exact bo6 (show h.get? a=some _ from x)
 |met f y=>exact bo6 (show h.get? a=some _ from x)
 |ext φ=>obtain⟨_,⟨_,e⟩,_⟩:=x;exact bo6 e
theorem Paired.mapP {α β:Type}{F G:α->β->Prop}:∀{l₁:List α}{l₂:List β},Paired F l₁ l₂->(∀a b,F a b->G a b)->Paired G l₁ l₂
 |_,_,.nil,_=>.nil
 |_,_,.cons r t,f=>.cons (f _ _ r) (Paired.mapP t f)
theorem cL.stay (x:cL P w H h a o)(k:∀b u,(b=a∨H b=some (.own a))->h.get? b=some u->h'.get? b=some u)(ho:∀b,H b=some (.own a)->H' b=some (.own a))(ht:∀b xs,H b=some (.tup xs)->H' b=some (.tup xs)):cL P w H' h' a o:=by
 induction o with
 |lst xs=>obtain⟨z,its,n,r,e⟩:=x;exact⟨z,its,n,r,k _ _ (.inl rfl) e⟩
 |tup xs=>obtain⟨z,its,r,⟨ob,e,c⟩,nd⟩:=x;exact⟨z,its,r,⟨ob,k _ _ (.inl rfl) e,c⟩,nd.stay e (k _ _ (.inl rfl) e)⟩
 |dK kvs=>obtain⟨z,y,vs,r,ob,es,ep,e,c⟩:=x;exact⟨z,y,vs,r,ob,es,ep,k _ _ (.inl rfl) e,c⟩
 |dT kvs=>
  obtain⟨z,y,xs,r,ob,es,ep,e,c⟩:=x
  exact⟨z,y,xs,Paired.mapP r λp q z=>⟨z.1,ht _ _ z.2.1,z.2.2⟩,ob,es,ep,k _ _ (.inl rfl) e,c⟩
 |set S n=>obtain⟨ob,es,ep,t,e,c⟩:=x;exact⟨ob,es,ep,t,k _ _ (.inl rfl) e,c⟩
 |ins C dx fs=>
  obtain⟨d,z,ne,e,mA,⟨od,es,ep,e2,c⟩,r⟩:=x
  exact⟨ho _ d,z,ne,k _ _ (.inl rfl) e,mA,⟨od,es,ep,k _ _ (.inr d) e2,c⟩,r⟩
 |own y=>obtain⟨ob,e⟩:=x;exact⟨ob,k _ _ (.inl rfl) e⟩
 |xd fs=>obtain⟨mA,⟨od,es,ep,e,c⟩,r⟩:=x;exact⟨mA,⟨od,es,ep,k _ _ (.inl rfl) e,c⟩,r⟩
 |rng lo hi=>obtain⟨t,u,v,e⟩:=x;exact⟨t,u,v,k _ _ (.inl rfl) e⟩
 |frz ob u ih=>obtain⟨e,q⟩:=x;exact⟨k _ _ (.inl rfl) e,ih q⟩
 |tbl ps=>
  have e:h.get? a=some { cls:=.none,data:=.fields ps }:=x
  show h'.get? a=some { cls:=.none,data:=.fields ps }
  exact k a _ (.inl rfl) e
 |met f y=>
  have e:h.get? a=some (PySem.W.methodObj (.ref f) (.ref y)):=x
  show h'.get? a=some (PySem.W.methodObj (.ref f) (.ref y))
  exact k a _ (.inl rfl) e
 |ext φ=>obtain⟨p,⟨o,e⟩,st⟩:=x;exact⟨st _ _ p λo q=>k _ _ (.inl rfl) q,⟨o,k _ _ (.inl rfl) e⟩,st⟩
theorem bX.lt (x:bX P w H h)(e:H a=some o):a<h.objs.size:=(x a o e).lt
theorem bX.fresh (x:bX P w H h)(e:h.objs.size<=a):H a=none:=by
 cases q:H a with
 |none=>rfl
 |some u=>exact absurd (bo7 (x.lt q) e) (bt5 _)
theorem bX.kept (x:bX P w H h)(k:∀b u,h.get? b=some u->h'.get? b=some u):bX P w H h':=λa o e=>
 (x a o e).stay (λb u _ q=>k b u q) (λ_ q=>q) λ_ _ q=>q
theorem bX.laid (x:bX P w H h)(k:∀b u,h.get? b=some u->h'.get? b=some u)(hp:h.objs.size<=a)(new:cL P w (upd H a o) h' a o):bX P w (upd H a o) h':=λb u e=>by
 have hn:=x.fresh hp
 by_cases hb:b=a
 ·subst hb;rw[bP]at e;cases e;exact new
 ·rw[bB hb]at e
  exact (x b u e).stay (λc v _ q=>k c v q) (λc q=>by rw[bB (e9 q hn)];exact q) λc xs q=>by rw[bB (e9 q hn)];exact q
end
def Rd (H:Hp)(a:Addr)(u:HO):Prop:=H a=some u∨∃o,H a=some (.frz o u)
theorem Rd.ok {P:Program}{w:World}{H:Hp}{h:Heap}{a:Addr}{u:HO}(r:Rd H a u)(x:bX P w H h):cL P w H h a u:=by
 rcases r with r|⟨o,r⟩
 ·exact x a u r
 ·obtain⟨_,q⟩:=x a _ r
  exact q
def oK:Option HO->Prop
 |some (.lst _)=>True
 |some (.dK _)=>True
 |some (.dT _)=>True
 |some (.set _ _)=>True
 |some (.ins _ _ _)=>True
 |some (.ext _)=>True
 |_=>False
section
variable {P:Program}{w:World}{H:Hp}{h h':Heap}{x e:Addr}{o':HO}
theorem bX.write (ok:bX P w H h)(mu:oK (H x))(he:e=x∨H e=some (.own x))(k:∀b u,b≠e->h.get? b=some u->h'.get? b=some u)(heo:∃u,h'.get? e=some u)(new:cL P w (upd H x o') h' x o'):bX P w (upd H x o') h':=λb u q=>by
 have nown:∀c y,H c=some (.own y)->c≠x:=λc y r z=>by subst z;rw[r]at mu;exact mu
 have ntup:∀c xs,H c=some (.tup xs)->c≠x:=λc xs r z=>by subst z;rw[r]at mu;exact mu
 by_cases hb:b=x
 ·subst hb;rw[bP]at q;cases q;exact new
 ·rw[bB hb]at q
  by_cases hbe:b=e
  ·have q':H b=some (.own x):=by
    rcases he with z|z
    ·exact absurd (hbe.trans z) hb
    ·rw[hbe];exact z
   rw[q]at q';cases q'
   obtain⟨v,hv⟩:=heo
   exact⟨v,by rw[hbe];exact hv⟩
  ·refine (ok b u q).stay (λc v hc r=>k c v ?_ r) (λc r=>by rw[bB (nown c b r)];exact r) λc xs r=>by rw[bB (ntup c xs r)];exact r
   rcases hc with rfl|hc
   ·exact hbe
   ·rintro rfl
    rcases he with z|z
    ·exact nown c b hc z
    ·rw[hc]at z;cases z;exact hb rfl
end
structure Un (fs ex:List Addr)(H H':Hp)(h h':Heap):Prop where
 keep:∀b o,h.get? b=some o->H b=none->b∉fs->b∉ex->h'.get? b=some o
 slot:∀b o,h.get? b=some o->H b=none->b∈fs->b∉ex->∃sl,h'.get? b=some { o with slots:=sl }
 free:∀b o,h.get? b=some o->H b=none->b∉ex->H' b=none
 there:∀b o,h.get? b=some o->b∉ex->∃o',h'.get? b=some o'
 tups:∀b xs,H b=some (.tup xs)->H' b=some (.tup xs)
 frzs:∀b o u,H b=some (.frz o u)->H' b=some (.frz o u)
 tbls:∀b ps,H b=some (.tbl ps)->∃more,H' b=some (.tbl (ps++more))
section
variable {fs fs' ex ex':List Addr}{H H1 H2:Hp}{h h1 h2 h':Heap}{a x e:Addr}{o:HO}
theorem Un.any (u:Un fs ex H H1 h h1){b:Addr}{ob:Obj}(q:h.get? b=some ob)(n:H b=none)(hx:b∉ex):∃sl,h1.get? b=some { ob with slots:=sl }:=by
 by_cases hb:b∈fs
 ·exact u.slot b ob q n hb hx
 ·exact⟨ob.slots,u.keep b ob q n hb hx⟩
theorem Un.kept (k:∀b u,h.get? b=some u->h'.get? b=some u):Un fs ex H H h h':=
 ⟨λb ob q _ _ _=>k b ob q,λb ob q _ _ _=>⟨ob.slots,k b ob q⟩,λ_ _ _ n _=>n,λb ob q _=>⟨ob,k b ob q⟩,λ_ _ q=>q,λ_ _ _ q=>q,λ_ ps q=>⟨#[],by rw[q];simp⟩⟩
theorem Un.refl:Un fs ex H H h h:=Un.kept λ_ _ q=>q
theorem Un.laid (k:∀b u,h.get? b=some u->h'.get? b=some u)(hp:h.objs.size<=a)(hn:H a=none):Un fs ex H (upd H a o) h h' where
 keep:=λb u q _ _ _=>k b u q
 slot:=λb u q _ _ _=>⟨u.slots,k b u q⟩
 free:=λb u q n _=>by rw[bB (br7 (bo7 (bo6 q) hp))];exact n
 there:=λb u q _=>⟨u,k b u q⟩
 tups:=λb xs q=>by rw[bB (e9 q hn)];exact q
 frzs:=λb u xs q=>by rw[bB (e9 q hn)];exact q
 tbls:=λb ps q=>⟨#[],by rw[bB (e9 q hn),q];simp⟩
theorem Un.write (mu:oK (H x))(he:e=x∨H e=some (.own x))(k:∀b u,b≠e->h.get? b=some u->h'.get? b=some u)(heo:∃u,h'.get? e=some u):Un fs ex H (upd H x o) h h':=by
 have hx:∀b,H b=none->b≠x:=λb n z=>by subst z;rw[n]at mu;exact mu
 have hb:∀b,H b=none->b≠e:=λb n z=>by
  subst z
  rcases he with r|r
  ·exact hx b n r
  ·rw[n]at r;cases r
 have hm:∀b u,H b=some u->¬oK (some u)->b≠x:=λb u q nm z=>by subst z;rw[q]at mu;exact nm mu
 refine⟨λb u q n _ _=>k b u (hb b n) q,λb u q n _ _=>⟨u.slots,k b u (hb b n) q⟩,λb u q n _=>by rw[bB (hx b n)];exact n,λb u q _=>?_,
  λb xs q=>by rw[bB (hm b _ q λz=>z)];exact q,λb u xs q=>by rw[bB (hm b _ q λz=>z)];exact q,λb ps q=>⟨#[],by rw[bB (hm b _ q λz=>z),q];simp⟩⟩
 by_cases hbe:b=e
 ·subst hbe;exact heo
 ·exact⟨u,k b u hbe q⟩
end
def qW (h:Heap)(H:Hp):List Addr:=(List.range h.objs.size).filter λa=>(H a).isSome
def jM (h:Heap)(H:Hp):Heap:=PySem.W.hideAll h (qW h H)
theorem ao1 (h:Heap)(H:Hp):(jM h H).objs.size=h.objs.size:=PySem.W.hideAll_size _ _
theorem ao2 {h:Heap}{H:Hp}{b:Addr}{o:Obj}(e:h.get? b=some o)(n:H b=none):(jM h H).get? b=some o:=
 PySem.W.hideAll_get _ e λhm=>by
  have q:(H b).isSome=true:=(bn3.mp hm).2
  rw[n]at q;simp at q
theorem ao3 {h:Heap}{H:Hp}{b:Addr}{o:Obj}(e:(jM h H).get? b=some o):h.get? b=some o/\H b=none:=by
 have e':h.get? b=some o:=PySem.W.of_hideAll (qW h H) e
 refine⟨e',?_⟩
 cases q:H b with
 |none=>rfl
 |some x=>
  have hm:b∈qW h H:=bn3.mpr ⟨bC8.mpr (bo6 e'),by simp[q]⟩
  have z:(jM h H).get? b=none:=PySem.W.hideAll_none (qW h H) hm
  rw[z]at e;cases e
def oM (g h:Heap)(L:Addr):List (Addr×Obj):=(List.range h.objs.size).filterMap λa=>if a=L∨(g.get? a).isSome=true then none else (h.get? a).map λo=>(a,o)
theorem B3 {g h:Heap}{L a:Addr}{o:Obj}(h1:a≠L)(h2:g.get? a=none)(h3:h.get? a=some o):(a,o)∈oM g h L:=
 bB1.mpr ⟨a,bC8.mpr (bo6 h3),by simp[h1,h2,h3]⟩
theorem ao4 {g h:Heap}{L:Addr}{p:Addr×Obj}(hp:p∈oM g h L):p.1≠L/\g.get? p.1=none/\h.get? p.1=some p.2:=by
 obtain⟨b,_,e⟩:=bB1.mp hp
 split at e
 ·cases e
 ·rename_i hn
  cases q:h.get? b with
  |none=>rw[q]at e;simp at e
  |some u=>
   rw[q]at e
   simp only[Option.map_some,Option.some.injEq]at e
   subst e
   refine⟨λz=>hn (.inl z),?_,q⟩
   show g.get? b=none
   cases r:g.get? b with
   |none=>rfl
   |some v=>exact (hn (.inr (by simp[r]))).elim
def dI (g h:Heap)(L d:Addr):List (Addr×Obj):=(oM g h L).filter λp=>decide (p.1≠d)
theorem ao5 {g h:Heap}{L:Addr}:News g L h (oM g h L):=λp hp=>let ⟨a,b,c⟩:=ao4 hp;⟨c,a,b⟩
structure Mod (K:ad)(mg:Str->Option Value)(base:Heap):Prop where
 kin:K.In base
 glob:base.Ns mainGlobals mg
 blt:∃mb,base.Ns builtinsNs mb/\∀x:Str,x≠"__name__"->mb x=bootBuiltins x
 nolimit:base.NoLimit
structure Cx where
 prog:Program
 w:World
 K:ad
 mg:Str->Option Value
 base:Heap
 A:Around
 N:List Str
 s₀:Shared
 H₀:Hp
 env:Env
 outer:List Env
 stack:List Env
 ex:List Addr
 fn:Str->Bool
 calm:Bool
 pn:List (Addr×Obj)
 xe:Value->Shared->Prop
def c7 (l:List Env):List Addr:=l.filterMap (·.frame)
abbrev Cx.fs (X:Cx):List Addr:=c7 X.outer
def i6 (sc:Scope)(x:Str):Prop:=sc.names.lookup x=some .local∨sc.names.lookup x=some .cell∨sc.names.lookup x=some .free
def i7 (sc:Scope)(x:Str):Prop:=sc.names.lookup x=some .local∨sc.names.lookup x=some .cell
def ao6 (env:Env)(h:Heap)(m:Str->Option Value)(x:Str)(u:Value):Prop:=
 (env.kindOf x=some .local/\m x=some u)∨((env.kindOf x=some .cell∨env.kindOf x=some .free)/\∃c,env.cells.lookup x=some c/\h.IsCell c (some u))
structure Cx.Ok (X:Cx):Prop where
 mod:Mod X.K X.mg X.base
 kind:X.env.scope.kind = .function
 glob:X.env.globals=mainGlobals
 blt:X.env.builtins=builtinsNs
 above:X.s₀.heap.objs.size<=X.env.locals
 inj:∀x y c,X.env.cells.lookup x=some c->X.env.cells.lookup y=some c->x=y
 has:∀x,(X.env.kindOf x=some .cell∨X.env.kindOf x=some .free)->∃c,X.env.cells.lookup x=some c
 cab:∀x c,X.fn x=true->X.env.cells.lookup x=some c->X.s₀.heap.objs.size<=c
 hd:X.calm=true->X.A.handled=none
 frames:X.A.frames=some X.stack
 stk:X.stack=X.outer∨(X.stack=X.env::X.outer/\X.env.frame=some X.env.locals)
 exf:∀b∈X.ex,b≠X.env.locals/\∀x c,X.env.cells.lookup x=some c->c≠b
 bs:∀b o,X.base.get? b=some o->X.s₀.heap.get? b=some o/\X.H₀ b=none
 bsz:X.base.objs.size<=X.s₀.heap.objs.size
 noex:∀b o,X.base.get? b=some o->b∉X.ex
 exfs:∀b∈X.ex,b∉X.fs
 funs:X.s₀.heap.FunFrames X.base X.outer
 frf:∀b∈X.fs,X.H₀ b=none
structure a6 (X:Cx)(pins:List (Addr×Obj))(σ:List (Option V))(H:Hp)(s:Shared):Prop where
 ok:X.Ok
 os:s.os=X.s₀.os
 bare:AllBare s.gens
 base:Un X.fs X.ex X.H₀ H X.s₀.heap s.heap
 loc:∃m,s.heap.Ns X.env.locals m/\∀(i:Nat) (x:Str) (v:V),X.N[i]? = some x->σ[i]? = some (some v)->i6 X.env.scope x->∃u,b6 v u/\ao6 X.env s.heap m x u
 cell:∀x c,X.env.cells.lookup x=some c->∃v,s.heap.IsCell c v
 free:H X.env.locals=none
 freeC:∀x c,X.env.cells.lookup x=some c->H c=none
 pin:∀p∈X.pn++pins,s.heap.get? p.1=some p.2/\H p.1=none/\p.1≠X.env.locals/\p.1∉X.fs/\∀v,p.2.data≠.cell v
 hok:bX X.prog X.w H s.heap
 len:σ.length=X.N.length
section
variable {X:Cx}{pins:List (Addr×Obj)}{σ:List (Option V)}{H H':Hp}{s:Shared}{h':Heap}
theorem Cx.Ok.nofr (ok:X.Ok){b:Addr}{o:Obj}(e:X.base.get? b=some o):b∉X.fs:=λhb=>by
 have:=(ok.funs.mem hb).1
 rw[e]at this;cases this
theorem a6.bs (I:a6 X pins σ H s):∀b o,X.base.get? b=some o->s.heap.get? b=some o/\H b=none:=λb o e=>
 ⟨I.base.keep b o (I.ok.bs b o e).1 (I.ok.bs b o e).2 (I.ok.nofr e) (I.ok.noex b o e),I.base.free b o (I.ok.bs b o e).1 (I.ok.bs b o e).2 (I.ok.noex b o e)⟩
theorem a6.bk (I:a6 X pins σ H s):∀b o,X.base.get? b=some o->s.heap.get? b=some o:=λb o e=>(I.bs b o e).1
theorem a6.mod (I:a6 X pins σ H s):Mod X.K X.mg X.base:=I.ok.mod
theorem a6.kIn (I:a6 X pins σ H s):X.K.In s.heap:=I.ok.mod.kin.keeps I.bk
theorem a6.fr (I:a6 X pins σ H s):∃m,Fr X.base X.env.locals s.heap m:=
 let ⟨m,hn,_⟩:=I.loc
 ⟨m,hn,I.bk,bs0 I.ok.bsz I.ok.above⟩
theorem a6.lt (I:a6 X pins σ H s):X.env.locals<s.heap.objs.size:=let ⟨_,hn,_⟩:=I.loc;hn.lt
theorem a6.sz (I:a6 X pins σ H s):X.s₀.heap.objs.size<=s.heap.objs.size:=bs0 I.ok.above (bt9 I.lt)
theorem a6.nofs (I:a6 X pins σ H s){a:Addr}(h:s.heap.objs.size<=a):a∉X.fs:=λhb=>by
 obtain⟨_,o,ho,_⟩:=I.ok.funs.mem hb
 exact absurd (bo7 (bo6 ho) (bs0 I.sz h)) (bt5 _)
theorem a6.cne (I:a6 X pins σ H s):∀x c,X.env.cells.lookup x=some c->c≠X.env.locals:=λx c e z=>by
 obtain⟨v,o,ho,hd⟩:=I.cell x c e
 obtain⟨m,⟨o',es,ep,ho',hd',_⟩,_⟩:=I.loc
 rw[z,ho']at ho;cases ho;rw[hd']at hd;cases hd
theorem a6.funs (I:a6 X pins σ H s):s.heap.FunFrames X.base X.outer:=by
 have all:∀(l:List Env),(∀b∈c7 l,b∈X.fs)->X.s₀.heap.FunFrames X.base l->s.heap.FunFrames X.base l:=by
  intro l
  induction l with
  |nil=>intro _ _;trivial
  |cons env r ih=>
   intro hs hl
   obtain⟨hk,⟨L,o,hf,hn,ho,hd⟩,hr⟩:=hl
   have hL:L∈X.fs:=hs L (by unfold c7;rw[List.filterMap_cons,hf];exact bm8)
   obtain⟨sl,e⟩:=I.base.slot L o ho (I.ok.frf L hL) hL λz=>I.ok.exfs L z hL
   exact⟨hk,⟨L,_,hf,hn,e,hd⟩,ih (λb hb=>hs b (by unfold c7;rw[List.filterMap_cons,hf];exact bn5 _ hb)) hr⟩
 exact all X.outer (λ_ hb=>hb) I.ok.funs
theorem a6.stack (I:a6 X pins σ H s):s.heap.FunFrames X.base X.stack:=by
 rcases I.ok.stk with e|⟨e,hf⟩
 ·rw[e];exact I.funs
 ·rw[e]
  obtain⟨m,hn,_⟩:=I.loc
  refine .cons (by rw[I.ok.kind];decide) hf hn ?_ I.funs
  exact Heap.get?_none_of_le (bs0 I.ok.bsz I.ok.above)
theorem a6.stkSub (I:a6 X pins σ H s):∀b∈c7 X.stack,b∈X.env.locals::X.fs:=λb hb=>by
 rcases I.ok.stk with e|⟨e,hf⟩
 ·rw[e]at hb;exact bn5 _ hb
 ·rw[e]at hb
  unfold c7 at hb
  rw[List.filterMap_cons,hf]at hb
  exact hb
theorem a6.stkFree (I:a6 X pins σ H s):∀b∈c7 X.stack,H b=none:=λb hb=>by
 rcases bn8.mp (I.stkSub b hb) with e|hb
 ·rw[e];exact I.free
 ·obtain⟨_,o,ho,_⟩:=I.ok.funs.mem hb
  exact I.base.free b o ho (I.ok.frf b hb) λz=>I.ok.exfs b z hb
theorem a6.step {g':Array GenState}{t':Nat}{d':Drawn}{ch:List Addr}(I:a6 X pins σ H s)(hch:∀b∈ch,(b∈X.ex∨X.s₀.heap.objs.size<=b)/\b≠X.env.locals/\(∀x c,X.env.cells.lookup x=some c->c≠b)/\∀p∈X.pn++pins,p.1≠b)(keep:∀b o,b≠X.env.locals->b∉X.fs->b∉ch->s.heap.get? b=some o->H b=none->h'.get? b=some o)(slot:∀b o,b≠X.env.locals->b∈X.fs->b∉ch->s.heap.get? b=some o->H b=none->∃sl,h'.get? b=some { o with slots:=sl })(free:∀b o,b∉ch->s.heap.get? b=some o->H b=none->H' b=none)(there:∀b o,b∉ch->s.heap.get? b=some o->∃o',h'.get? b=some o')(tups:∀b xs,H b=some (.tup xs)->H' b=some (.tup xs))(frzs:∀b o u,H b=some (.frz o u)->H' b=some (.frz o u))(tbls:∀b ps,H b=some (.tbl ps)->∃more,H' b=some (.tbl (ps++more)))(ns:∀m,s.heap.Ns X.env.locals m->h'.Ns X.env.locals m)(hok:bX X.prog X.w H' h')(hg:AllBare g') :
  a6 X pins σ H' { s with heap:=h',gens:=g',drawn:=d',toks:=t' }:=by
 have neL:∀b o,X.s₀.heap.get? b=some o->b≠X.env.locals:=λb o e=>br7 (bo7 (bo6 e) I.ok.above)
 have neC:∀b o,X.s₀.heap.get? b=some o->b∉X.ex->b∉ch:=λb o e hx hb=>by
  rcases (hch b hb).1 with z|z
  ·exact hx z
  ·exact absurd (bo7 (bo6 e) z) (bt5 _)
 have cellK:∀x c,X.env.cells.lookup x=some c->∀v,s.heap.IsCell c v->h'.IsCell c v:=λx c e v ⟨o,ho,hd⟩=>by
  have nch:c∉ch:=λz=>(hch c z).2.2.1 x c e rfl
  by_cases hc:c∈X.fs
  ·obtain⟨sl,q⟩:=slot c o (I.cne x c e) hc nch ho (I.freeC x c e)
   exact⟨_,q,hd⟩
  ·exact⟨o,keep c o (I.cne x c e) hc nch ho (I.freeC x c e),hd⟩
 refine⟨I.ok,I.os,hg,⟨λb o e n hb hx=>?_,λb o e n hb hx=>?_,λb o e n hx=>?_,λb o e hx=>?_,λb xs e=>tups b xs (I.base.tups b xs e),λb o xs e=>frzs b o xs (I.base.frzs b o xs e),λb ps e=>?_⟩,?_,λx c e=>?_,?_,λx c e=>?_,λp hp=>?_,hok,I.len⟩
 ·exact keep b o (neL b o e) hb (neC b o e hx) (I.base.keep b o e n hb hx) (I.base.free b o e n hx)
 ·obtain⟨sl,e1⟩:=I.base.slot b o e n hb hx
  obtain⟨sl',e2⟩:=slot b _ (neL b o e) hb (neC b o e hx) e1 (I.base.free b o e n hx)
  exact⟨sl',e2⟩
 ·obtain⟨o',e1⟩:=I.base.there b o e hx
  exact free b o' (neC b o e hx) e1 (I.base.free b o e n hx)
 ·obtain⟨o',e1⟩:=I.base.there b o e hx
  exact there b o' (neC b o e hx) e1
 ·obtain⟨m1,e1⟩:=I.base.tbls b ps e
  obtain⟨m2,e2⟩:=tbls b _ e1
  exact⟨m1++m2,by rw[e2,Array.append_assoc]⟩
 ·obtain⟨m,hn,hl⟩:=I.loc
  refine⟨m,ns m hn,λi x v e1 e2 e3=>?_⟩
  obtain⟨u,r,l⟩:=hl i x v e1 e2 e3
  refine⟨u,r,?_⟩
  rcases l with l|⟨k,c,e,z⟩
  ·exact .inl l
  ·exact .inr ⟨k,c,e,cellK x c e _ z⟩
 ·obtain⟨v,z⟩:=I.cell x c e
  exact⟨v,cellK x c e v z⟩
 ·obtain⟨m,⟨o,_,_,ho,_⟩,_⟩:=I.loc
  exact free _ o (λz=>(hch _ z).2.1 rfl) ho I.free
 ·obtain⟨v,o,ho,hd⟩:=I.cell x c e
  exact free c o (λz=>(hch c z).2.2.1 x c e rfl) ho (I.freeC x c e)
 ·obtain⟨e,n,ne,nf,d⟩:=I.pin p hp
  have nch:p.1∉ch:=λz=>(hch p.1 z).2.2.2 p hp rfl
  exact⟨keep p.1 p.2 ne nf nch e n,free p.1 p.2 nch e n,ne,nf,d⟩
theorem a6.un {t':Nat}(I:a6 X pins σ H s)(u:Un X.fs [] H H' s.heap h')(hok:bX X.prog X.w H' h'):a6 X pins σ H' { s with heap:=h',toks:=t' }:=by
 obtain⟨m,⟨o,es,ep,ho,r⟩,_⟩:=id I.loc
 obtain⟨sl,hL⟩:=u.any ho I.free (by simp)
 exact I.step (g':=s.gens) (d':=s.drawn) (ch:=[]) (λ_ z=>nomatch z) (λb o _ hb _ e n=>u.keep b o e n hb (by simp)) (λb o _ hb _ e n=>u.slot b o e n hb (by simp)) (λb o _ e n=>u.free b o e n (by simp)) (λb o _ e=>u.there b o e (by simp)) u.tups u.frzs u.tbls (λm' hm=>by
  obtain⟨o',es',ep',ho',r'⟩:=hm
  rw[ho]at ho';cases ho'
  exact⟨_,es',ep',hL,r'⟩) hok I.bare
theorem a6.call {g':Array GenState}{t':Nat}{d':Drawn}{ch:List Addr}(I:a6 X pins σ H s)(u:Un (c7 X.stack) ch H H' s.heap h')(hok:bX X.prog X.w H' h')(hg:AllBare g')(hch:∀b∈ch,(b∈X.ex∨X.s₀.heap.objs.size<=b)/\b≠X.env.locals/\(∀x c,X.env.cells.lookup x=some c->c≠b)/\∀p∈X.pn++pins,p.1≠b) :
  a6 X pins σ H' { s with heap:=h',gens:=g',drawn:=d',toks:=t' }:=by
 obtain⟨m,⟨o,es,ep,ho,r⟩,_⟩:=id I.loc
 obtain⟨sl,hL⟩:=u.any ho I.free λz=>(hch _ z).2.1 rfl
 exact I.step (ch:=ch) hch (λb o hL hb hc e n=>u.keep b o e n (λz=>(bn8.mp (I.stkSub b z)).elim hL hb) hc) (λb o _ _ hc e n=>u.any e n hc) (λb o hc e n=>u.free b o e n hc) (λb o hc e=>u.there b o e hc) u.tups u.frzs u.tbls (λm' hm=>by
  obtain⟨o',es',ep',ho',r'⟩:=hm
  rw[ho]at ho';cases ho'
  exact⟨_,es',ep',hL,r'⟩) hok hg
theorem a6.turned {t':Nat}{it:Addr}(I:a6 X pins σ H s)(k:∀b o,b≠it->s.heap.get? b=some o->h'.get? b=some o)(hn:H it=none)(hL:it≠X.env.locals)(h1:it∈X.ex∨X.s₀.heap.objs.size<=it)(h2:∀x c,X.env.cells.lookup x=some c->c≠it)(h3:∀p∈X.pn++pins,p.1≠it):a6 X pins σ H { s with heap:=h',toks:=t' }:=by
 have nit:∀b u,H b=some u->b≠it:=λb u e z=>by rw[z,hn]at e;cases e
 refine I.step (g':=s.gens) (d':=s.drawn) (ch:=[it]) (λb hb=>?_) (λb o _ _ hc e _=>k b o (λz=>hc (by simp[z])) e) (λb o _ _ hc e _=>⟨o.slots,k b o (λz=>hc (by simp[z])) e⟩) (λ_ _ _ _ n=>n)
  (λb o hc e=>⟨o,k b o (λz=>hc (by simp[z])) e⟩) (λ_ _ e=>e) (λ_ _ _ e=>e) (λb ps e=>⟨#[],by rw[e];simp⟩) (λm hm=>?_) (λb u e=>?_) I.bare
 ·have e:b=it:=by simpa using hb
  subst e
  exact⟨h1,hL,h2,h3⟩
 ·obtain⟨o,es,ep,ho,r⟩:=hm
  exact⟨o,es,ep,k _ o (Ne.symm hL) ho,r⟩
 ·refine (I.hok b u e).stay (λc v hc q=>k c v ?_ q) (λ_ q=>q) λ_ _ q=>q
  rcases hc with z|z
  ·rw[z];exact nit b u e
  ·exact nit c _ z
theorem a6.tok (I:a6 X pins σ H s)(t:Nat):a6 X pins σ H { s with toks:=t }:=I.un (h':=s.heap) (t':=t) Un.refl I.hok
theorem a6.kept {t':Nat}(I:a6 X pins σ H s)(k:∀b u,s.heap.get? b=some u->h'.get? b=some u):a6 X pins σ H { s with heap:=h',toks:=t' }:=I.un (Un.kept k) (I.hok.kept k)
theorem a6.laid {a:Addr}{o:HO}{t':Nat}(I:a6 X pins σ H s)(k:∀b u,s.heap.get? b=some u->h'.get? b=some u)(hp:s.heap.objs.size<=a)(new:cL X.prog X.w (upd H a o) h' a o) :
  a6 X pins σ (upd H a o) { s with heap:=h',toks:=t' }:=I.un (Un.laid k hp (I.hok.fresh hp)) (I.hok.laid k hp new)
theorem a6.write {x e:Addr}{o:HO}{t':Nat}(I:a6 X pins σ H s)(mu:oK (H x))(he:e=x∨H e=some (.own x))(k:∀b u,b≠e->s.heap.get? b=some u->h'.get? b=some u)(heo:∃u,h'.get? e=some u)(new:cL X.prog X.w (upd H x o) h' x o):a6 X pins σ (upd H x o) { s with heap:=h',toks:=t' }:=I.un (Un.write mu he k heo) (I.hok.write mu he k heo new)
theorem a6.weak {σ':List (Option V)}(I:a6 X pins σ H s)(hl:σ'.length=σ.length)(w:∀(i:Nat) v,σ'[i]? = some (some v)->σ[i]? = some (some v)):a6 X pins σ' H s:=
 ⟨I.ok,I.os,I.bare,I.base,let ⟨m,hn,hl'⟩:=I.loc;⟨m,hn,λi x v e1 e2 e3=>hl' i x v e1 (w i v e2) e3⟩,I.cell,I.free,I.freeC,I.pin,I.hok,hl.trans I.len⟩
theorem a6.pins_of {pins':List (Addr×Obj)}(I:a6 X pins σ H s)(h:∀p∈pins',s.heap.get? p.1=some p.2/\H p.1=none/\p.1≠X.env.locals/\p.1∉X.fs/\∀v,p.2.data≠.cell v):a6 X pins' σ H s:=
 ⟨I.ok,I.os,I.bare,I.base,I.loc,I.cell,I.free,I.freeC,λp hp=>(bn0.mp hp).elim (λz=>I.pin p (bo3 _ z)) (h p),I.hok,I.len⟩
theorem B4 {N:List Str}(hN:N.Nodup){i j:Nat}{x:Str}(a:N[i]? = some x)(b:N[j]? = some x):i=j:=by
 obtain⟨h1,e1⟩:=bn2.mp a
 obtain⟨h2,e2⟩:=bn2.mp b
 exact (List.getElem_inj hN).mp (e1.trans e2.symm)
theorem v9 {M:Model}{A:Around}{E:Value->Shared->Prop}{i:Nat}{x:Str}{v:V}{u:Value}{Q:Unit->Shared->Prop}(I:a6 X pins σ H s)(hN:X.N.Nodup)(hi:X.N[i]? = some x)(hx:i7 X.env.scope x)(r:b6 v u)(h:∀s',a6 X pins (σ.set i (some v)) H s'->(∃a,Heap.SameBut a s.heap s'.heap/\(a=X.env.locals∨X.env.cells.lookup x=some a))->Q () s')(hf:X.fn x=true∨X.env.scope.names.lookup x=some .local:=by first|exact .inl rfl|exact .inr rfl|assumption):wpAny M A (storeName X.env x u) Q E s:=by
 obtain⟨m,hn,hl⟩:=id I.loc
 have hcls:(X.env.scope.kind==.class||(X.env.scope.kind==.module&&X.env.locals != X.env.globals))=false:=by rw[I.ok.kind];rfl
 have hiσ:i<σ.length:=by rw[I.len];exact (bn2.mp hi).1
 have cne:=I.cne
 have tracked:∀{a:Addr}{h':Heap},(∃o,s.heap.get? a=some o/\H a=none)->Heap.SameBut a s.heap h'->bX X.prog X.w H h':=λ{a h'} ha hs b ob e=>by
  obtain⟨_,_,hfree⟩:=ha
  refine (I.hok b ob e).stay (λc w' hc q=>(hs.2 c ?_).trans q) (λ_ q=>q) λ_ _ q=>q
  rintro rfl
  rcases hc with rfl|hc
  ·rw[hfree]at e;cases e
  ·rw[hfree]at hc;cases hc
 rcases hx with hk|hk
 ·refine wpAny_storeName_local hk hn (λh' hn' hs=>?_) hcls
  obtain⟨oL,_,_,hoL,_⟩:=id hn
  refine h _ ⟨I.ok,I.os,I.bare,⟨λb o e n hb hx=>?_,λb o e n hb hx=>?_,I.base.free,λb o e hx=>?_,I.base.tups,I.base.frzs,I.base.tbls⟩,⟨_,hn',λj y v' e1 e2 e3=>?_⟩,λy c e=>?_,I.free,I.freeC,λp hp=>?_,tracked ⟨oL,hoL,I.free⟩ hs,by simpa using I.len⟩ ⟨_,hs,.inl rfl⟩
  ·exact (hs.2 b (br7 (bo7 (bo6 e) I.ok.above))).trans (I.base.keep b o e n hb hx)
  ·obtain⟨sl,e1⟩:=I.base.slot b o e n hb hx
   exact⟨sl,(hs.2 b (br7 (bo7 (bo6 e) I.ok.above))).trans e1⟩
  ·obtain⟨o',e1⟩:=I.base.there b o e hx
   exact⟨o',(hs.2 b (br7 (bo7 (bo6 e) I.ok.above))).trans e1⟩
  ·by_cases hj:j=i
   ·subst hj
    rw[hi]at e1;cases e1
    rw[bu0 hiσ]at e2
    cases e2
    exact⟨u,r,.inl ⟨hk,by simp⟩⟩
   ·rw[bq7 (Ne.symm hj)]at e2
    obtain⟨u',r',q⟩:=hl j y v' e1 e2 e3
    refine⟨u',r',?_⟩
    rcases q with⟨k,e⟩|⟨k,c,e,z⟩
    ·refine .inl ⟨k,?_⟩
     have:y≠x:=λe=>hj (B4 hN e1 (e▸hi))
     simp[this,e]
    ·exact .inr ⟨k,c,e,z.sameBut hs (cne y c e)⟩
  ·obtain⟨w',z⟩:=I.cell y c e
   exact⟨w',z.sameBut hs (cne y c e)⟩
  ·obtain⟨e,n,ne,nf,d⟩:=I.pin p hp
   exact⟨(hs.2 p.1 ne).trans e,n,ne,nf,d⟩
 ·have hfn:X.fn x=true:=by
   rcases hf with z|z
   ·exact z
   ·rw[z]at hk;cases hk
  obtain⟨c,hc⟩:=I.ok.has x (.inl hk)
  obtain⟨w',z⟩:=I.cell x c hc
  refine wpAny_storeName_cell I.ok.kind hk hc z (λh' hc' hs=>?_)
  obtain⟨oc,hoc,hocd⟩:=id z
  refine h { s with heap:=h' } ⟨I.ok,I.os,I.bare,⟨λb o e n hb hx=>?_,λb o e n hb hx=>?_,I.base.free,λb o e hx=>?_,I.base.tups,I.base.frzs,I.base.tbls⟩,⟨m,hn.sameBut hs (Ne.symm (cne x c hc)),λj y v' e1 e2 e3=>?_⟩,λy c' e=>?_,I.free,I.freeC,λp hp=>?_,tracked ⟨oc,hoc,I.freeC x c hc⟩ hs,by simpa using I.len⟩ ⟨c,hs,.inr hc⟩
  ·exact (hs.2 b (br7 (bo7 (bo6 e) (I.ok.cab x c hfn hc)))).trans (I.base.keep b o e n hb hx)
  ·obtain⟨sl,e1⟩:=I.base.slot b o e n hb hx
   exact⟨sl,(hs.2 b (br7 (bo7 (bo6 e) (I.ok.cab x c hfn hc)))).trans e1⟩
  ·obtain⟨o',e1⟩:=I.base.there b o e hx
   exact⟨o',(hs.2 b (br7 (bo7 (bo6 e) (I.ok.cab x c hfn hc)))).trans e1⟩
  ·by_cases hj:j=i
   ·subst hj
    rw[hi]at e1;cases e1
    rw[bu0 hiσ]at e2
    cases e2
    exact⟨u,r,.inr ⟨.inl hk,c,hc,hc'⟩⟩
   ·rw[bq7 (Ne.symm hj)]at e2
    obtain⟨u',r',q⟩:=hl j y v' e1 e2 e3
    refine⟨u',r',?_⟩
    rcases q with q|⟨k,c',e,z'⟩
    ·exact .inl q
    ·refine .inr ⟨k,c',e,z'.sameBut hs ?_⟩
     rintro rfl
     exact hj (B4 hN e1 (I.ok.inj _ _ _ e hc▸hi))
  ·by_cases hcc:c'=c
   ·subst hcc;exact⟨_,hc'⟩
   ·obtain⟨w2,z2⟩:=I.cell y c' e
    exact⟨w2,z2.sameBut hs hcc⟩
  ·obtain⟨e,n,ne,nf,d⟩:=I.pin p hp
   refine⟨(hs.2 p.1 ?_).trans e,n,ne,nf,d⟩
   intro q
   rw[q,hoc]at e
   have q':oc=p.2:=bo9 e
   exact d w' (by rw[<- q'];exact hocd)
theorem B5 {M:Model}{A:Around}{E:Value->Shared->Prop}{i:Nat}{x:Str}{v:V}{u:Value}{Q:Unit->Shared->Prop}(I:a6 X pins σ H s)(hN:X.N.Nodup)(hi:X.N[i]? = some x)(hx:i7 X.env.scope x)(r:b6 v u)(h:∀s',a6 X pins (σ.set i (some v)) H s'->Q () s')(hf:X.fn x=true∨X.env.scope.names.lookup x=some .local:=by first|exact .inl rfl|exact .inr rfl|assumption):wpAny M A (storeName X.env x u) Q E s:=
 v9 I hN hi hx r (λs' I' _=>h s' I') hf
theorem a6.call' {s':Shared}{ch:List Addr}(I:a6 X pins σ H s)(ho:s'.os=s.os)(u:Un (c7 X.stack) ch H H' s.heap s'.heap)(hok:bX X.prog X.w H' s'.heap)(hg:AllBare s'.gens)(hch:∀b∈ch,(b∈X.ex∨X.s₀.heap.objs.size<=b)/\b≠X.env.locals/\(∀x c,X.env.cells.lookup x=some c->c≠b)/\∀p∈X.pn++pins,p.1≠b):a6 X pins σ H' s':=by
 obtain⟨h',g',d',t',o'⟩:=s'
 have e:o'=s.os:=ho
 subst e
 exact I.call (g':=g') (t':=t') (d':=d') u hok hg hch
end
abbrev XK:=Value->Option Addr->Hp->Prop
abbrev St:=List (Option V)
abbrev VK:=V->Hp->Prop
abbrev TE:=St->Hp->VK->Prop
abbrev TT:=St->Hp->(Bool->Hp->Prop)->Prop
abbrev TA:=St->Hp->(List V->Hp->Prop)->Prop
structure eR where
 nx:St->Hp->Prop
 rt:VK
 bk:St->Hp->Prop:=λ_ _=>False
 ct:St->Hp->Prop:=λ_ _=>False
abbrev TS:=eR->St->Hp->Prop
def EP (X:Cx)(pins:List (Addr×Obj))(σ:St)(Q:VK)(u:Value)(s':Shared):Prop:=∃v H',a6 X pins σ H' s'/\b6 v u/\Q v H'
def TP (X:Cx)(pins:List (Addr×Obj))(σ:St)(Q:Bool->Hp->Prop)(b:Bool)(s':Shared):Prop:=∃H',a6 X pins σ H' s'/\Q b H'
def AP (X:Cx)(pins:List (Addr×Obj))(σ:St)(Q:List V->Hp->Prop)(us:List Value)(s':Shared):Prop:=∃vs H',a6 X pins σ H' s'/\aN vs us/\Q vs H'
def SP (X:Cx)(pins:List (Addr×Obj))(D:eR)(f:Flow)(s':Shared):Prop:=
 match f with
 |.next=>∃σ' H',a6 X pins σ' H' s'/\D.nx σ' H'
 |.brk=>∃σ' H',a6 X pins σ' H' s'/\D.bk σ' H'
 |.cont=>∃σ' H',a6 X pins σ' H' s'/\D.ct σ' H'
 |.ret u=>∃v σ' H',a6 X pins σ' H' s'/\b6 v u/\D.rt v H'
def PE (X:Cx)(e:Expr)(t:TE):Prop:=
 ∀(pins:List (Addr×Obj)) (s:Shared) (σ:St) (H:Hp) (Q:VK),a6 X pins σ H s->t σ H Q->wpAny (model X.prog X.w) X.A (eval e X.env) (EP X pins σ Q) X.xe s
def PT (X:Cx)(e:Expr)(t:TT):Prop:=
 ∀(pins:List (Addr×Obj)) (s:Shared) (σ:St) (H:Hp) (Q:Bool->Hp->Prop),a6 X pins σ H s->t σ H Q->wpAny (model X.prog X.w) X.A (isTrue e X.env (eval e X.env)) (TP X pins σ Q) X.xe s
def PW (X:Cx)(e:Expr)(t:TT):Prop:=
 ∀(whole:Sem Value) (pins:List (Addr×Obj)) (s:Shared) (σ:St) (H:Hp) (Q:Bool->Hp->Prop),a6 X pins σ H s->t σ H Q->wpAny (model X.prog X.w) X.A (isTrue e X.env whole) (TP X pins σ Q) X.xe s
theorem PW.pt {X:Cx}{e:Expr}{t:TT}(h:PW X e t):PT X e t:=h _
def PA (X:Cx)(es:List Expr)(t:TA):Prop:=
 ∀(pos:Pos) (pins:List (Addr×Obj)) (s:Shared) (σ:St) (H:Hp) (Q:List V->Hp->Prop),a6 X pins σ H s->t σ H Q->wpAny (model X.prog X.w) X.A (spliced (backTo pos (starEach es X.env))) (AP X pins σ Q) X.xe s
def PS (X:Cx)(st:Stmt)(t:TS):Prop:=
 ∀(pins:List (Addr×Obj)) (s:Shared) (σ:St) (H:Hp) (D:eR),a6 X pins σ H s->t D σ H->wpAny (model X.prog X.w) X.A (exec st X.env) (SP X pins D) X.xe s
def eZ (X:Cx)(st:List Stmt)(t:TS):Prop:=
 ∀(pins:List (Addr×Obj)) (s:Shared) (σ:St) (H:Hp) (D:eR),a6 X pins σ H s->t D σ H->wpAny (model X.prog X.w) X.A (execs st X.env) (SP X pins D) X.xe s
theorem aR {α:Type}{t:Sem α}{Q Q':α->Shared->Prop}{M:Model}{A:Around}{E:Value->Shared->Prop}{s:Shared}(h:wpAny M A t Q E s)(hQ:∀a s,Q a s->Q' a s):wpAny M A t Q' E s:=bw8 h hQ λ_ _ x=>x
section
variable {X:Cx}
theorem bin {a b:Expr}{ta tb:TE}(ha:PE X a ta)(hb:PE X b tb){pins:List (Addr×Obj)}{s:Shared}{σ:St}{H:Hp}{R:V->V->Hp->Prop}(I:a6 X pins σ H s)(h:ta σ H λx H1=>tb σ H1 λy H2=>R x y H2){α:Type}{Q:α->Shared->Prop}{f:Value->Value->Sem α}(hf:∀v u s2 x y H2,a6 X pins σ H2 s2->b6 x v->b6 y u->R x y H2->wpAny (model X.prog X.w) X.A (f v u) Q X.xe s2) :
  wpAny (model X.prog X.w) X.A (eval a X.env) (λv s₁=>wpAny (model X.prog X.w) X.A (eval b X.env) (λu s₂=>wpAny (model X.prog X.w) X.A (f v u) Q X.xe s₂) X.xe s₁) X.xe s:=by
 refine aR (ha pins s σ H _ I h) λv s1 ⟨x,H1,I1,r1,q1⟩=>?_
 refine aR (hb pins s1 σ H1 _ I1 q1) λu s2 ⟨y,H2,I2,r2,q2⟩=>?_
 exact hf v u s2 x y H2 I2 r1 r2 q2
def j4 (i:Nat):TE:=λσ H Q=>∃v,σ[i]? = some (some v)/\Q v H
def tC (v:V):TE:=λ_ H Q=>Q v H
theorem jN {i:Nat}{x:Str}{pos:Pos}(hN:X.N[i]? = some x)(hv:i6 X.env.scope x)(hd:(x==("__debug__":Str))=false:=by decide)(hcd:(x==("__classdict__":Str))=false:=by decide):PE X (.Name x pos) (j4 i):=by
 intro pins s σ H Q I h
 obtain⟨v,e,h⟩:=h
 obtain⟨m,hn,hl⟩:=I.loc
 obtain⟨u,r,l⟩:=hl i x v hN e hv
 have fin:EP X pins σ Q u s:=⟨v,H,I,r,h⟩
 rcases l with⟨hk,hm⟩|⟨hk,c,hc,hcell⟩
 ·exact wpAny_Name (wpAny_loadName_local I.ok.kind hk hn hm fin) hd
 ·rcases hk with hk|hk
  ·exact wpAny_Name (wpAny_loadName_cell I.ok.kind hk hc hcell fin) hd
  ·exact wpAny_Name (wpAny_loadName_free I.ok.kind hk hc hcell fin hcd) hd
theorem lM {i j pos}:PE X (.Constant (.int i) j pos) (tC (.int i)):=λ_ _ _ H _ I h=>wpAny_Constant_int ⟨.int i,H,I.tok _,⟨_,rfl⟩,h⟩
theorem B6 {b j pos}:PE X (.Constant (.bool b) j pos) (tC (.bl b)):=λ_ _ _ H _ I h=>Constant_bool ⟨.bl b,H,I,rfl,h⟩
theorem ao7 {j pos}:PE X (.Constant .none j pos) (tC .non):=λ_ _ _ H _ I h=>Constant_none ⟨.non,H,I,rfl,h⟩
theorem ao8 {x j pos}:PE X (.Constant (.str x) j pos) (tC (.str x)):=λ_ _ _ H _ I h=>Calls.Constant_str ⟨.str x,H,I.tok _,⟨_,rfl⟩,h⟩
def Gl (X:Cx)(x:Str):Prop:=X.env.kindOf x=some .globalImplicit
theorem B7 {E:Value->Shared->Prop}{pins:List (Addr×Obj)}{s:Shared}{σ:St}{H:Hp}{x:Str}{u:Value}{pos:Pos}{Q:Value->Shared->Prop}(I:a6 X pins σ H s)(hg:Gl X x)(hm:X.mg x=some u)(h:Q u s)(hd:(x==("__debug__":Str))=false:=by decide):wpAny (model X.prog X.w) X.A (eval (.Name x pos) X.env) Q E s:=
 Calls.Name_function_global I.ok.kind hg (Calls.loadGlobal_global (by rw[I.ok.glob];exact I.mod.glob.keeps I.bk) hm h) hd
theorem kZ {E:Value->Shared->Prop}{pins:List (Addr×Obj)}{s:Shared}{σ:St}{H:Hp}{x:Str}{u:Value}{pos:Pos}{Q:Value->Shared->Prop}(I:a6 X pins σ H s)(hg:Gl X x)(hm:X.mg x=none)(hv:bootBuiltins x=some u)(h:Q u s)(hn:x≠"__name__":=by decide)(hd:(x==("__debug__":Str))=false:=by decide):wpAny (model X.prog X.w) X.A (eval (.Name x pos) X.env) Q E s:=by
 obtain⟨mb,h1,h2⟩:=I.mod.blt
 exact Calls.Name_function_global I.ok.kind hg (Calls.loadGlobal_builtin (by rw[I.ok.glob];exact I.mod.glob.keeps I.bk) hm (by rw[I.ok.blt];exact h1.keeps I.bk) ((h2 x hn).trans hv) h) hd
variable {a b:Expr}{ta tb:TE}{pos:Pos}
def PC (X:Cx)(op:CmpOp)(a b:Expr)(t:TE):Prop:=
 ∀(pins:List (Addr×Obj)) (s:Shared) (σ:St) (H:Hp) (Q:VK),a6 X pins σ H s->t σ H Q->
  wpAny (model X.prog X.w) X.A (eval a X.env) (λv s₁=>wpAny (model X.prog X.w) X.A (eval b X.env) (λu s₂=>wpAny (model X.prog X.w) X.A (compareOp op v u) (EP X pins σ Q) X.xe s₂) X.xe s₁) X.xe s
def tB (t:TE):TT:=λσ H Q=>t σ H λx H1=>∃c,x = .bl c/\Q c H1
theorem B8 {op:CmpOp}{t:TE}(h:PC X op a b t)(h1:behindInMarks op b=false:=by first|exact nobehind _ (by decide) (by decide)|rfl):PT X (.Compare a [op] [b] pos) (tB t):=by
 intro pins s σ H Q I hw
 refine wpAny_isTrue_Compare1 (aR (h pins s σ H _ I hw) λv s1 h1=>aR h1 λu s2 h2=>aR h2 λc s3 ⟨x,H1,I1,r1,q1⟩=>?_) h1
 obtain⟨d,rfl,q⟩:=q1
 cases r1
 exact by7 ⟨H1,I1,q⟩
theorem ao9 {e:Expr}{t:TE}(h:PE X e t)(he:∀whole,isTrue e X.env whole=(do let v <- whole;standAt e.pos;holding [v] (truthy v)):=by intro _;rfl):PT X e (tB t):=by
 intro pins s σ H Q I hw
 refine isTrue_plain (aR (h pins s σ H _ I hw) λv s1 ⟨x,H1,I1,r1,q1⟩=>?_) (he _)
 obtain⟨d,rfl,q⟩:=q1
 cases r1
 exact by7 ⟨H1,I1,q⟩
variable {tA tB':TT}{dI:List Expr}
def B9 (t u:TT):TT:=λσ H Q=>t σ H λc H1=>if c=true then u σ H1 Q else Q false H1
def C0 (t u:TT):TT:=λσ H Q=>t σ H λc H1=>if c=true then Q true H1 else u σ H1 Q
def C1 (t:TT):TT:=λσ H Q=>t σ H λc H1=>Q (!c) H1
theorem ap0 (ha:PT X a tA):PW X (.BoolOp .And [a] pos) tA:=by
 intro wh pins s σ H Q I h
 refine isTrue_and (aR (ha pins s σ H Q I h) λc s1 e=>?_)
 cases c with
 |true=>exact isTrue_and_nil e
 |false=>exact e
theorem ap1 (ha:PT X a tA):PW X (.BoolOp .Or [a] pos) tA:=by
 intro wh pins s σ H Q I h
 refine isTrue_or (aR (ha pins s σ H Q I h) λc s1 e=>?_)
 cases c with
 |false=>exact isTrue_or_nil e
 |true=>exact e
theorem ap2 (ha:PT X a tA)(hb:PW X (.BoolOp .And (b::dI) pos) tB'):PW X (.BoolOp .And (a::b::dI) pos) (B9 tA tB'):=by
 intro wh pins s σ H Q I h
 refine isTrue_and (aR (ha pins s σ H _ I h) λc s1 ⟨H1,I1,q1⟩=>?_)
 cases c with
 |true=>exact hb wh pins s1 σ H1 Q I1 q1
 |false=>exact⟨H1,I1,q1⟩
theorem ap3 (ha:PT X a tA)(hb:PW X (.BoolOp .Or (b::dI) pos) tB'):PW X (.BoolOp .Or (a::b::dI) pos) (C0 tA tB'):=by
 intro wh pins s σ H Q I h
 refine isTrue_or (aR (ha pins s σ H _ I h) λc s1 ⟨H1,I1,q1⟩=>?_)
 cases c with
 |true=>exact⟨H1,I1,q1⟩
 |false=>exact hb wh pins s1 σ H1 Q I1 q1
theorem ap4 (ha:PT X a tA):PT X (.UnaryOp .Not a pos) (C1 tA):=by
 intro pins s σ H Q I h
 exact isTrue_not (ha pins s σ H (λc H1=>Q (!c) H1) I h)
def C2 (ta tb:TE):TE:=λσ H Q=>ta σ H λx H1=>∃c,x = .bl c/\if c=true then tb σ H1 Q else Q (.bl false) H1
theorem ap5 {op}{t:TE}(h:PE X a t):PE X (.BoolOp op [a] pos) t:=λpins s σ H Q I hw=>BoolOp_one (h pins s σ H Q I hw)
theorem ap6 (ha:PE X a ta)(hb:PE X (.BoolOp .And (b::dI) pos) tb):PE X (.BoolOp .And (a::b::dI) pos) (C2 ta tb):=by
 intro pins s σ H Q I h
 refine BoolOp_and (aR (ha pins s σ H _ I h) λv s1 ⟨x,H1,I1,r1,q1⟩=>?_)
 obtain⟨c,rfl,q1⟩:=q1
 cases r1
 refine by7 ?_
 cases c with
 |true=>exact hb pins s1 σ H1 Q I1 q1
 |false=>exact⟨.bl false,H1,I1,rfl,q1⟩
end
def aM (K:ad)(H:Hp)(a:Addr)(xs:List V):Prop:=
 Rd H a (.lst xs) ∨
  ∃(o:Obj) (its:Array Value) (n:Nat),K.lookup a=some o/\o.cls = .type "list"/\o.dict=none/\o.data = .seq its n/\its.size<=sizeLine/\aN xs its.toList
def aO (K:ad)(H:Hp)(a:Addr)(xs:List V):Prop:=
 Rd H a (.tup xs) ∨
  ∃(o:Obj) (its:Array Value) (n:Nat),K.lookup a=some o/\o.cls = .type "tuple"/\o.data = .seq its n/\its.size<=sizeLine/\aN xs its.toList
def ap7:Value->Option V
 |.none=>some .non
 |.bool b=>some (.bl b)
 |.int i _=>some (.int i)
 |.str x _=>some (.str x)
 |.bytes b _=>some (.byt b)
 |.float b _=>some (.flt b)
 |.ref a=>some (.ref a)
 |.type n=>some (.ty n)
 |_=>none
theorem b6.abs {x:V}{u:Value}(r:b6 x u):ap7 u=some x:=by
 cases x with
 |non=>cases r;rfl
 |bl _=>cases r;rfl
 |int _=>obtain⟨t,rfl⟩:=r;rfl
 |str _=>obtain⟨t,rfl⟩:=r;rfl
 |byt _=>obtain⟨t,rfl⟩:=r;rfl
 |flt _=>obtain⟨t,rfl⟩:=r;rfl
 |ref _=>cases r;rfl
 |ty _=>cases r;rfl
theorem b6.inj {x y:V}{u:Value}(r:b6 x u)(q:b6 y u):x=y:=bo9 (r.abs.symm.trans q.abs)
theorem aN.inj:∀{xs ys:List V}{us:List Value},aN xs us->aN ys us->xs=ys
 |_,_,_,.nil,.nil=>rfl
 |_,_,_,.cons r t,.cons r' t'=>by rw[r.inj r',aN.inj t t']
section
variable {X:Cx}{pins:List (Addr×Obj)}{σ:St}{H:Hp}{s:Shared}{a:Addr}{xs ys:List V}
theorem aM.of {K:ad}(h:H a=some (.lst xs)):aM K H a xs:=.inl (.inl h)
theorem aO.of {K:ad}(h:H a=some (.tup xs)):aO K H a xs:=.inl (.inl h)
theorem a6.list (I:a6 X pins σ H s)(h:aM X.K H a xs):∃its:List Value,aN xs its/\PlainL s.heap a its.toArray/\xs.length<=sizeLine:=by
 rcases h with h|⟨o,its,n,hk,hc,hd,hs,hz,r⟩
 ·obtain⟨z,its,n,r,e⟩:=h.ok I.hok
  exact⟨its,r,⟨_,n,e,rfl,rfl,rfl⟩,z⟩
 ·refine⟨its.toList,r,⟨o,n,I.kIn a o hk,hc,hd,by simpa using hs⟩,?_⟩
  have e:=r.length
  simp only[Array.length_toList]at e
  omega
theorem a6.tuple (I:a6 X pins σ H s)(h:aO X.K H a xs):∃its:List Value,aN xs its/\IsTup s.heap a its.toArray/\xs.length<=sizeLine:=by
 rcases h with h|⟨o,its,n,hk,hc,hs,hz,r⟩
 ·obtain⟨z,its,r,p,_⟩:=h.ok I.hok
  exact⟨its,r,p,z⟩
 ·refine⟨its.toList,r,⟨o,I.kIn a o hk,hc,n,by simpa using hs⟩,?_⟩
  have e:=r.length
  simp only[Array.length_toList]at e
  omega
theorem a6.list_inj (I:a6 X pins σ H s)(h:aM X.K H a xs)(h':aM X.K H a ys):xs=ys:=by
 obtain⟨its,r,⟨o,n,e,_,_,d⟩,_⟩:=I.list h
 obtain⟨its',r',⟨o',n',e',_,_,d'⟩,_⟩:=I.list h'
 rw[e]at e';cases e'
 rw[d]at d'
 injection d' with d1 _
 have:its=its':=by simpa using congrArg Array.toList d1
 subst this
 exact r.inj r'
theorem a6.tuple_inj (I:a6 X pins σ H s)(h:aO X.K H a xs)(h':aO X.K H a ys):xs=ys:=by
 obtain⟨its,r,⟨o,e,_,n,d⟩,_⟩:=I.tuple h
 obtain⟨its',r',⟨o',e',_,n',d'⟩,_⟩:=I.tuple h'
 rw[e]at e';cases e'
 rw[d]at d'
 injection d' with d1 _
 have:its=its':=by simpa using congrArg Array.toList d1
 subst this
 exact r.inj r'
end
abbrev Cx.wish (X:Cx)(E:Value->Shared->Prop):Cx:={ X with xe:=E }
abbrev Cx.nox (X:Cx):Cx:=X.wish λ_ _=>False
theorem Cx.Ok.wish {X:Cx}(ok:X.Ok)(E:Value->Shared->Prop):(X.wish E).Ok:=
 ⟨ok.mod,ok.kind,ok.glob,ok.blt,ok.above,ok.inj,ok.has,ok.cab,ok.hd,ok.frames,ok.stk,ok.exf,ok.bs,ok.bsz,ok.noex,ok.exfs,ok.funs,ok.frf⟩
theorem Cx.Ok.unwish {X:Cx}{E:Value->Shared->Prop}(ok:(X.wish E).Ok):X.Ok:=
 ⟨ok.mod,ok.kind,ok.glob,ok.blt,ok.above,ok.inj,ok.has,ok.cab,ok.hd,ok.frames,ok.stk,ok.exf,ok.bs,ok.bsz,ok.noex,ok.exfs,ok.funs,ok.frf⟩
section
variable {X:Cx}{pins:List (Addr×Obj)}{σ:St}{H:Hp}{s:Shared}{E:Value→Shared→Prop}
theorem a6.wish (I:a6 X pins σ H s)(E:Value->Shared->Prop):a6 (X.wish E) pins σ H s:=⟨I.ok.wish E,I.os,I.bare,I.base,I.loc,I.cell,I.free,I.freeC,I.pin,I.hok,I.len⟩
theorem a6.unwish (I:a6 (X.wish E) pins σ H s):a6 X pins σ H s:=⟨I.ok.unwish,I.os,I.bare,I.base,I.loc,I.cell,I.free,I.freeC,I.pin,I.hok,I.len⟩
theorem SP.unwish {D:eR}{f:Flow}{s':Shared}(h:SP (X.wish E) pins D f s'):SP X pins D f s':=by
 cases f with
 |next=>obtain⟨σ',H',I,q⟩:=h;exact⟨σ',H',I.unwish,q⟩
 |brk=>obtain⟨σ',H',I,q⟩:=h;exact⟨σ',H',I.unwish,q⟩
 |cont=>obtain⟨σ',H',I,q⟩:=h;exact⟨σ',H',I.unwish,q⟩
 |ret u=>obtain⟨v,σ',H',I,r,q⟩:=h;exact⟨v,σ',H',I.unwish,r,q⟩
theorem eZ.nox {st:List Stmt}{t:TS}(h:eZ X.nox st t):eZ X st t:=λpins s σ H D I hw=>
 bw8 (h pins s σ H D (I.wish _) hw) (λ_ _ q=>q.unwish) λ_ _ z=>False.elim z
end
section
variable {X:Cx}{st:Stmt}{dI:List Stmt}{t u:TS}{e:Expr}{te:TE}{pos:Pos}
def C3:TS:=λD σ H=>D.nx σ H
def C4 (t u:TS):TS:=λD σ H=>t { D with nx:=u D } σ H
theorem ap8:eZ X [] C3:=λ_ _ σ H _ I h=>wpAny_execs_nil ⟨σ,H,I,h⟩
theorem lN (h1:PS X st t)(h2:eZ X dI u):eZ X (st::dI) (C4 t u):=by
 intro pins s σ H D I h
 refine wpAny_execs_cons (aR (h1 pins s σ H { D with nx:=u D } I h) λf s1 q=>?_)
 cases f with
 |next=>
  obtain⟨σ',H',I',q⟩:=q
  exact h2 pins s1 σ' H' D I' q
 |ret v=>exact q
 |brk=>exact q
 |cont=>exact q
theorem lO (h1:PS X st t):eZ X [st] t:=by
 intro pins s σ H D I h
 refine wpAny_execs_cons (aR (h1 pins s σ H D I h) λf s1 q=>?_)
 cases f with
 |next=>exact wpAny_execs_nil q
 |ret v=>exact q
 |brk=>exact q
 |cont=>exact q
theorem a6.quiet {pins:List (Addr×Obj)}{σ:St}{H:Hp}{s:Shared}(I:a6 X pins σ H s):interactive X.env=false:=by simp[interactive,I.ok.kind]
def qX (te:TE):TS:=λD σ H=>te σ H λ_ H1=>D.nx σ H1
theorem lP (he:PE X e te)(hs:swapsWith e none pos.line X.env=pure false:=by rfl):PS X (.Expr e pos) (qX te):=by
 intro pins s σ H D I h
 exact wpAny_Expr_any (aR (he pins s σ H _ I h) λv s1 ⟨x,H1,I1,r1,q1⟩=>⟨σ,H1,I1,q1⟩) I.quiet hs
def vA (te:TE):TS:=λD σ H=>te σ H D.rt
theorem mY (he:PE X e te):PS X (.Return (some e) pos) (vA te):=by
 intro pins s σ H D I h
 exact wpAny_Return_some (aR (he pins s σ H _ I h) λv s1 ⟨x,H1,I1,r1,q1⟩=>⟨x,σ,H1,I1,r1,q1⟩)
def C5 (c:TT)(t u:TS):TS:=λD σ H=>c σ H λb H1=>if b=true then t D σ H1 else u D σ H1
theorem ap9 {c:Expr}{a b:List Stmt}{tc:TT}(hc:PT X c tc)(ha:eZ X a t)(hb:eZ X b u):PS X (.If c a b pos) (C5 tc t u):=by
 intro pins s σ H D I h
 refine wpAny_If (aR (hc pins s σ H _ I h) λd s1 ⟨H1,I1,q1⟩=>?_)
 cases d with
 |true=>exact ha pins s1 σ H1 D I1 q1
 |false=>exact hb pins s1 σ H1 D I1 q1
def aq0:TS:=λ_ _ _=>False
theorem aq1:PS X st aq0:=λ_ _ _ _ _ _ h=>h.elim
end
abbrev TG:=V->St->Hp->(St->Hp->Prop)->Prop
abbrev lQ:=List V->St->Hp->(St->Hp->Prop)->Prop
def PG (X:Cx)(target:Expr)(t:TG):Prop:=
 ∀(pins:List (Addr×Obj)) (s:Shared) (σ:St) (H:Hp) (v:V) (u:Value) (Q:St->Hp->Prop),a6 X pins σ H s->b6 v u->t v σ H Q->
  wpAny (model X.prog X.w) X.A (assign target X.env u) (λ_ s'=>∃σ' H',a6 X pins σ' H' s'/\Q σ' H') X.xe s
def qY (X:Cx)(ts:List Expr)(t:lQ):Prop:=
 ∀(pins:List (Addr×Obj)) (s:Shared) (σ:St) (H:Hp) (vs:List V) (us:List Value) (Q:St->Hp->Prop),a6 X pins σ H s->aN vs us->t vs σ H Q->
  wpAny (model X.prog X.w) X.A (assignInOrder ((assignEach ts X.env).map (·.2)) us) (λ_ s'=>∃σ' H',a6 X pins σ' H' s'/\Q σ' H') X.xe s
abbrev vB:=V->V->V->Hp->(Hp->Prop)->Prop
def C6 (X:Cx)(t:vB):Prop:=
 ∀(pins:List (Addr×Obj)) (s:Shared) (σ:St) (H:Hp) (o i v:V) (ov iv u:Value) (Q:Hp->Prop),a6 X pins σ H s->b6 o ov->b6 i iv->b6 v u->t o i v H Q->
  wpAny (model X.prog X.w) X.A (setItem ov iv u) (λ_ s'=>∃H',a6 X pins σ H' s'/\Q H') X.xe s
section
variable {X:Cx}{pos:Pos}
def cD (i:Nat):TG:=λv σ H Q=>Q (σ.set i (some v)) H
theorem eS {i:Nat}{x:Str}(hN:X.N.Nodup)(hi:X.N[i]? = some x)(hx:i7 X.env.scope x)(hf:X.fn x=true∨X.env.scope.names.lookup x=some .local:=by first|exact .inl rfl|exact .inr rfl|assumption):PG X (.Name x pos) (cD i):=by
 intro pins s σ H v u Q I r h
 exact wpAny_assign_Name (B5 I hN hi hx r (λs' I'=>⟨_,H,I',h⟩) hf)
def jO:lQ:=λvs σ H Q=>vs = []/\Q σ H
def fA (t:TG)(u:lQ):lQ:=λvs σ H Q=>∃v r,vs=v::r/\t v σ H λσ' H'=>u r σ' H' Q
theorem lR:qY X [] jO:=by
 intro pins s σ H vs us Q I r h
 obtain⟨e,h⟩:=h
 subst e
 cases r
 exact assignInOrder_nil ⟨σ,H,I,h⟩
theorem gM {e:Expr}{es:List Expr}{t:TG}{u:lQ}(h1:PG X e t)(h2:qY X es u)(hs:(assignEach (e::es) X.env).map (·.2)=assign e X.env::(assignEach es X.env).map (·.2):=by rfl):qY X (e::es) (fA t u):=by
 intro pins s σ H vs us Q I r h
 obtain⟨v,vr,e1,h⟩:=h
 subst e1
 cases r with
 |cons r rr=>
  rw[hs]
  refine assignInOrder_cons (aR (h1 pins s σ H _ _ _ I r h) λ_ s1 ⟨σ1,H1,I1,q1⟩=>?_)
  exact h2 pins s1 σ1 H1 _ _ Q I1 rr q1
def jP (K:ad)(n:Nat)(t:lQ):TG:=λv σ H Q=>∃a xs,v = .ref a/\aO K H a xs/\xs.length=n/\t xs σ H Q
theorem lS {es:List Expr}{k:Nat}{t:lQ}{n:Nat}(hc:X.calm=true)(h:qY X es t)(hn:(assignEach es X.env).length=n:=by rfl)(hst:(assignEach es X.env).findIdx? (·.1)=none:=by rfl):PG X (.Tuple es k pos) (jP X.K n t):=by
 intro pins s σ H v u Q I r hw
 obtain⟨a,xs,e1,hq,hl,hw⟩:=hw
 subst e1
 cases r
 obtain⟨its,rv,ht,hz⟩:=I.tuple hq
 refine assign_Tuple_tuple (I.ok.hd hc) ht (by simp[hn,<- hl,rv.length]) hst λh' hx=>?_
 have I1:a6 X pins σ H { s with heap:=h' }:=I.kept (t':=s.toks) λb o e=>hx b o (br7 (bo6 e)) e
 exact h pins _ σ H xs _ Q I1 (by simpa using rv) hw
def vC (to ti:TE)(t:vB):TG:=λv σ H Q=>to σ H λo H1=>ti σ H1 λi H2=>t o i v H2 λH3=>Q σ H3
theorem aq2 {o i:Expr}{to ti:TE}{t:vB}(ho:PE X o to)(hi:PE X i ti)(hs:C6 X t)(ha:∀v,assign (.Subscript o i pos) X.env v=(do
   let ov <- holding [v] (eval o X.env)
   let iv <- holding [v,ov] (eval i X.env)
   standAt pos
   holding [v,ov,iv] (setItem ov iv v)
   release [v,ov,iv] []):=by intro _;rfl):PG X (.Subscript o i pos) (vC to ti t):=by
 intro pins s σ H v u Q I r h
 rw[ha]
 refine bm1 (by6 (aR (ho pins s σ H _ I h) λov s1 ⟨x,H1,I1,r1,q1⟩=>?_))
 refine bm1 (by6 (aR (hi pins s1 σ H1 _ I1 q1) λiv s2 ⟨y,H2,I2,r2,q2⟩=>?_))
 refine bm1 (wpAny_standAt (bm1 (by6 (aR (hs pins s2 σ H2 x y v ov iv u _ I2 r1 r2 r q2) λ_ s3 ⟨H3,I3,q3⟩=>?_))))
 exact wpAny_release ⟨σ,H3,I3,q3⟩
def jQ (te:TE)(g:TG):TS:=λD σ H=>te σ H λx H1=>g x σ H1 D.nx
theorem C7 {tg e:Expr}{te:TE}{g:TG}(he:PE X e te)(hg:PG X tg g)(hs:swapsWithSole [tg] e pos.line X.env=pure false:=by rfl)(hw:swappedStores [tg] e X.env=pure none:=by rfl)(h1:(assignEach [tg] X.env).map (·.2) = [assign tg X.env]:=by rfl):PS X (.Assign [tg] e pos) (jQ te g):=by
 intro pins s σ H D I h
 refine wpAny_Assign_stores (aR (he pins s σ H _ I h) λv s1 ⟨x,H1,I1,r1,q1⟩=>?_) hs hw
 rw[h1]
 exact aR (hg pins s1 σ H1 x v _ I1 r1 q1) λ_ s2 q=>q
theorem vD {i:Nat}{x:Str}{e:Expr}{te:TE}{pos':Pos}(hN:X.N.Nodup)(hi:X.N[i]? = some x)(hx:i7 X.env.scope x)(he:PE X e te)(hs:swapsWith e (some (.Name x pos')) pos.line X.env=pure false:=by rfl)(hf:X.fn x=true∨X.env.scope.names.lookup x=some .local:=by first|exact .inl rfl|exact .inr rfl|assumption) :
  PS X (.Assign [.Name x pos'] e pos) (jQ te (cD i)):=by
 intro pins s σ H D I h
 refine wpAny_Assign_Name (aR (he pins s σ H _ I h) λv s1 ⟨y,H1,I1,r1,q1⟩=>?_) hs
 exact B5 I1 hN hi hx r1 (λs2 I2=>⟨_,H1,I2,q1⟩) hf
end
section
variable {X:Cx}{pos:Pos}
def C8 (c:TT)(tb:TS):TS:=λD σ H=>∃W:Nat->St->Hp->Prop,(∃m,W m σ H)/\∀m σ H,W m σ H->
 c σ H λb H1=>if b=true then ∃N:St->Hp->Prop,(∀σ' H',N σ' H'->∃m',m'<m/\W m' σ' H')/\tb { D with nx:=N,ct:=N,bk:=D.nx } σ H1 else D.nx σ H1
theorem aq3 {c:Expr}{body:List Stmt}{tc:TT}{tb:TS}(hp:PassesOwn (model X.prog X.w) X.A X.env X.xe)(hc:PT X c tc)(hb:eZ X body tb):PS X (.While c body [] pos) (C8 tc tb):=by
 intro pins s σ H D I h
 obtain⟨W,⟨m0,w0⟩,turn⟩:=h
 refine wpAny_While (codeAny_whileLoop (λn s'=>∃σ' H',a6 X pins σ' H' s'/\W n σ' H') ?_ m0 ⟨σ,H,I,w0⟩)
 rintro n s1 ⟨σ1,H1,I1,w1⟩
 refine bC1 hp (aR (hc pins s1 σ1 H1 _ I1 (turn n σ1 H1 w1)) λb s2 ⟨H2,I2,q2⟩=>?_)
 cases b with
 |true=>
  obtain⟨N,hN,q2⟩:=q2
  rw[if_pos rfl]
  refine bC1 hp (aR (hb pins s2 σ1 H2 _ I2 q2) λf s3 q3=>?_)
  cases f with
  |next=>
   obtain⟨σ3,H3,I3,n3⟩:=q3
   obtain⟨m',hm,w3⟩:=hN σ3 H3 n3
   exact⟨m',hm,σ3,H3,I3,w3⟩
  |cont=>
   obtain⟨σ3,H3,I3,n3⟩:=q3
   obtain⟨m',hm,w3⟩:=hN σ3 H3 n3
   exact⟨m',hm,σ3,H3,I3,w3⟩
  |brk=>exact q3
  |ret v=>exact q3
 |false=>
  rw[if_neg bo4]
  exact wpAny_execs_nil ⟨σ1,H2,I2,q2⟩
end
structure It where
 go:Nat->Hp->Prop
 yld:Nat->Hp->V->Hp->Prop
 stop:Nat->Hp->Prop
def i8 (X:Cx)(pins:List (Addr×Obj))(H:Hp)(b:Addr):Prop:=
 H b=none/\b≠X.env.locals/\b∉X.fs/\(b∈X.ex∨X.s₀.heap.objs.size<=b)/\(∀x c,X.env.cells.lookup x=some c->c≠b)/\∀p∈X.pn++pins,p.1≠b
theorem a6.fpOk {X:Cx}{pins:List (Addr×Obj)}{σ:St}{H H':Hp}{s:Shared}{b:Addr}(I:a6 X pins σ H s)(hb:s.heap.objs.size<=b)(hn:H' b=none):i8 X pins H' b:=by
 refine⟨hn,bx8 (bo7 I.lt hb),I.nofs hb,.inr (bs0 I.sz hb),λx c e z=>?_,λp hp z=>?_⟩
 ·obtain⟨v,q⟩:=I.cell x c e
  exact absurd (bo7 q.lt (by rw[z];exact hb)) (bt5 _)
 ·exact absurd (bo7 (bo6 (I.pin p hp).1) (by rw[z];exact hb)) (bt5 _)
structure jR (P:Program)(w:World)(K:ad)(tg:Expr)(J:It)(fp:List Addr)(it:Addr)(tn:Nat->Heap->Prop):Prop where
 mem:it∈fp
 obj:∀i h,tn i h->∀b∈fp,∃o,h.get? b=some o/\∀v,o.data≠.cell v
 keep:∀i h h',tn i h->(∀b∈fp,∀o,h.get? b=some o->h'.get? b=some o)->tn i h'
 item:∀(X:Cx),X.prog=P->X.w=w->X.K=K->X.calm=true->∀(i:Nat) (pins:List (Addr×Obj)) (s:Shared) (σ:St) (H:Hp) (E:Value->Shared->Prop),a6 X pins σ H s->(∀b∈fp,i8 X pins H b)->tn i s.heap->J.go i H->
  wpAny (model P w) X.A (pyNext (.ref it)) (λr s1=>∃u,r=some u/\
   wpAny (model P w) X.A (letOwnedTupleGo tg (.ref it) u) (λ_ s2=>∃x H',a6 X pins σ H' s2/\b6 x u/\J.yld i H x H'/\tn (i+1) s2.heap/\∀b∈fp,H' b=none) E s1) E s
 done:∀(X:Cx),X.prog=P->X.w=w->X.K=K->X.calm=true->∀(i:Nat) (pins:List (Addr×Obj)) (s:Shared) (σ:St) (H:Hp) (E:Value->Shared->Prop),a6 X pins σ H s->(∀b∈fp,i8 X pins H b)->tn i s.heap->J.stop i H->
  wpAny (model P w) X.A (pyNext (.ref it)) (λr s1=>r=none/\a6 X pins σ H s1) E s
 self:∀(A:Around) (i:Nat) (s:Shared) (Q:Value->Shared->Prop) (E:Value->Shared->Prop),tn i s.heap->Q (.ref it) s->wpAny (model P w) A (pyIter (.ref it)) Q E s
abbrev TI:=St->Hp->(It->Hp->Prop)->Prop
def C9 (X:Cx)(pins:List (Addr×Obj))(σ:St)(tg:Expr)(R:It->Hp->Prop)(itv:Value)(s2:Shared):Prop:=
 ∃(it:Addr) (fp:List Addr) (tn:Nat->Heap->Prop) (J:It) (H':Hp),itv = .ref it/\a6 X pins σ H' s2/\jR X.prog X.w X.K tg J fp it tn/\tn 0 s2.heap/\(∀b∈fp,i8 X pins H' b)/\R J H'
def PI (X:Cx)(tg iter:Expr)(wi:TI):Prop:=
 ∀(pins:List (Addr×Obj)) (s:Shared) (σ:St) (H:Hp) (R:It->Hp->Prop),a6 X pins σ H s->wi σ H R->
  wpAny (model X.prog X.w) X.A (eval iter X.env) (λv s1=>wpAny (model X.prog X.w) X.A (pyIter v) (C9 X pins σ tg R) X.xe s1) X.xe s
theorem qZ {M:Model}{A:Around}{E:Value->Shared->Prop}{s:Shared}{tg:Expr}{it:Addr}{u:Value}{o:Obj}{n:String}{vs:Array Value}{Q:Unit->Shared->Prop}(ho:s.heap.get? it=some o)(hc:o.cls = .type n)(hd:o.data = .fields vs)(hn:["enumerate","zip","dict_itemiterator","dict_reverseitemiterator","odict_iterator","itertools.zip_longest","itertools.pairwise"].contains n=false)(hQ:Q () s):wpAny M A (letOwnedTupleGo tg (.ref it) u) Q E s:=by
  unfold letOwnedTupleGo
  cases tg<;>first
    |exact bn7 hQ
    |(cases u<;>first
        |exact bn7 hQ
        | (refine bm1 (wpAny_load ho ?_)
           rw[hc,hd]
           show wpAny M A (if (["enumerate","zip","dict_itemiterator","dict_reverseitemiterator","odict_iterator","itertools.zip_longest","itertools.pairwise"].contains n&&vs[0]?==some (rawInt _))=true then _ else _) Q E s
           rw[if_neg (by intro h;rw[hn,Bool.false_and]at h;cases h)]
           exact bn7 hQ))
def mZ (K:ad)(a:Addr):It:=
 ⟨λi H=>∃xs x,aM K H a xs/\xs[i]? = some x,λi H x H'=>H'=H/\∀xs,aM K H a xs->xs[i]? = some x,λi H=>∃xs,aM K H a xs/\xs.length<=i⟩
def l6 (K:ad)(a:Addr):It:=
 ⟨λi H=>∃xs x,aO K H a xs/\xs[i]? = some x,λi H x H'=>H'=H/\∀xs,aO K H a xs->xs[i]? = some x,λi H=>∃xs,aO K H a xs/\xs.length<=i⟩
def oN (lo:Int)(n:Nat):It:=⟨λi _=>i<n,λi H x H'=>H'=H/\x = .int (lo+i),λi _=>n<=i⟩
theorem aq4 {P:Program}{w:World}{K:ad}{tg:Expr}(a it:Addr):jR P w K tg (mZ K a) [it] it (λi h=>h.IsListIter it a i) where
 mem:=by simp
 obj:=λi h st b hb=>by
  have e:b=it:=by simpa using hb
  subst e
  obtain⟨o,e,c,d⟩:=st
  exact⟨o,e,λv z=>by rw[d]at z;cases z⟩
 keep:=λi h h' st k=>st.at λo e=>k it (by simp) o e
 item:=by
  intro X hP hw hK hc i pins s σ H E I hf st hg
  subst hP hw hK
  obtain⟨xs,x,hq,hx⟩:=hg
  obtain⟨its,rv,p,hz⟩:=I.list hq
  obtain⟨u,hu,ru⟩:=rv.get hx
  obtain⟨f0,f1,f2,f3,f4,f5⟩:=hf it (by simp)
  refine wpAny_pyNext_list_item st p.isList (x:=u) (by simpa using hu) λh' st' sb=>?_
  have I1:a6 X pins σ H { s with heap:=h' }:=I.turned (t':=s.toks) (λb o hb e=>(sb.2 b hb).trans e) f0 f1 f3 f4 f5
  obtain⟨o,e,c,d⟩:=id st'
  exact⟨u,rfl,qZ (s:={ s with heap:=h' }) e c d (by decide) ⟨x,H,I1,ru,⟨rfl,λys hy=>by rw[I.list_inj hy hq];exact hx⟩,st',λb hb=>(hf b hb).1⟩⟩
 done:=by
  intro X hP hw hK hc i pins s σ H E I hf st hg
  subst hP hw hK
  obtain⟨xs,hq,hx⟩:=hg
  obtain⟨its,rv,p,hz⟩:=I.list hq
  obtain⟨f0,f1,f2,f3,f4,f5⟩:=hf it (by simp)
  have hl:=rv.length
  exact wpAny_pyNext_list_end (I.ok.hd hc) st p.isList (by simp;omega) λh' eb=>⟨rfl,I.turned (t':=s.toks) (λb o hb e=>eb b o hb e) f0 f1 f3 f4 f5⟩
 self:=λ_ _ _ _ _ st h=>wpAny_pyIter_listiter st h
theorem E1 {P:Program}{w:World}{K:ad}{tg:Expr}(a it:Addr):jR P w K tg (l6 K a) [it] it (λi h=>h.IsTupleIter it a i) where
 mem:=by simp
 obj:=λi h st b hb=>by
  have e:b=it:=by simpa using hb
  subst e
  obtain⟨o,e,c,d⟩:=st
  exact⟨o,e,λv z=>by rw[d]at z;cases z⟩
 keep:=λi h h' st k=>st.at λo e=>k it (by simp) o e
 item:=by
  intro X hP hw hK hc i pins s σ H E I hf st hg
  subst hP hw hK
  obtain⟨xs,x,hq,hx⟩:=hg
  obtain⟨its,rv,p,hz⟩:=I.tuple hq
  obtain⟨u,hu,ru⟩:=rv.get hx
  obtain⟨f0,f1,f2,f3,f4,f5⟩:=hf it (by simp)
  refine wpAny_pyNext_tuple_item st (show s.heap.IsTuple a its.toArray from p) (x:=u) (by simpa using hu) λh' st' sb=>?_
  have I1:a6 X pins σ H { s with heap:=h' }:=I.turned (t':=s.toks) (λb o hb e=>(sb.2 b hb).trans e) f0 f1 f3 f4 f5
  obtain⟨o,e,c,d⟩:=id st'
  exact⟨u,rfl,qZ (s:={ s with heap:=h' }) e c d (by decide) ⟨x,H,I1,ru,⟨rfl,λys hy=>by rw[I.tuple_inj hy hq];exact hx⟩,st',λb hb=>(hf b hb).1⟩⟩
 done:=by
  intro X hP hw hK hc i pins s σ H E I hf st hg
  subst hP hw hK
  obtain⟨xs,hq,hx⟩:=hg
  obtain⟨its,rv,p,hz⟩:=I.tuple hq
  obtain⟨f0,f1,f2,f3,f4,f5⟩:=hf it (by simp)
  have hl:=rv.length
  exact wpAny_pyNext_tuple_end (I.ok.hd hc) st (show s.heap.IsTuple a its.toArray from p) (by simp;omega) λh' eb=>⟨rfl,I.turned (t':=s.toks) (λb o hb e=>eb b o hb e) f0 f1 f3 f4 f5⟩
 self:=λ_ _ _ _ _ st h=>wpAny_pyIter_tupleiter st h
theorem aq5 {P:Program}{w:World}{K:ad}{tg:Expr}(it:Addr)(lo:Int)(n:Nat):jR P w K tg (oN lo n) [it] it (λi h=>IsRangeIter h it (lo+(i:Nat)*1) ((n:Int)-(i:Nat)) 1) where
 mem:=by simp
 obj:=λi h st b hb=>by
  have e:b=it:=by simpa using hb
  subst e
  exact⟨_,st,λv z=>by
   have z':Data.fields _=Data.cell v:=z
   cases z'⟩
 keep:=λi h h' st k=>k it (by simp) _ st
 item:=by
  intro X hP hw hK hc i pins s σ H E I hf st hg
  subst hP hw hK
  obtain⟨f0,f1,f2,f3,f4,f5⟩:=hf it (by simp)
  have W:=Walks.range (prog:=X.prog) (w:=X.w) (I.ok.hd hc) it lo 1 n
  refine W.item i s _ _ hg st λv h' tk hv st' kk=>?_
  obtain⟨t,rfl⟩:=hv
  have I1:a6 X pins σ H { s with heap:=h',toks:=tk }:=I.turned (λb o hb e=>kk b o (by simpa using hb) e) f0 f1 f3 f4 f5
  refine⟨_,rfl,qZ (s:={ s with heap:=h',toks:=tk }) (n:="range_iterator") st' rfl rfl (by decide) ⟨.int (lo+i),H,I1,⟨t,?_⟩,⟨rfl,rfl⟩,st',λb hb=>(hf b hb).1⟩⟩
  rw[Int.mul_one]
 done:=by
  intro X hP hw hK hc i pins s σ H E I hf st hg
  subst hP hw hK
  obtain⟨f0,f1,f2,f3,f4,f5⟩:=hf it (by simp)
  exact wpAny_pyNext_range_end (I.ok.hd hc) st (by have:n<=i:=hg;omega) λh' eb=>⟨rfl,I.turned (t':=s.toks) (λb o hb e=>eb b o hb e) f0 f1 f3 f4 f5⟩
 self:=λ_ _ _ _ _ st h=>wpAny_pyIter_rangeiter st h
section
variable {X:Cx}{tg:Expr}
def aq6 (K:ad)(tl:TE):TI:=λσ H R=>tl σ H λx H1=>∃a,x = .ref a/\(∃xs,aO K H1 a xs)/\R (l6 K a) H1
theorem r6 {l:Expr}{tl:TE}(hl:PE X l tl):PI X tg l (aq6 X.K tl):=by
 intro pins s σ H R I h
 refine aR (hl pins s σ H _ I h) λv s1 ⟨x,H1,I1,r1,q1⟩=>?_
 obtain⟨a,e,⟨xs,hq⟩,q⟩:=q1
 subst e
 cases r1
 obtain⟨its,rv,p,hz⟩:=I1.tuple hq
 refine wpAny_pyIter_tuple (show s1.heap.IsTuple a its.toArray from p) ?_
 refine⟨s1.heap.objs.size,[s1.heap.objs.size],_,_,H1,rfl,I1.kept (t':=s1.toks) λb o e=>bm5 _ e,E1 a _,⟨_,bp3 _ rfl,rfl,rfl⟩,λb hb=>?_,q⟩
 have e:b=s1.heap.objs.size:=by simpa using hb
 subst e
 exact I1.fpOk (bn1 _) (I1.hok.fresh (bn1 _))
theorem E2 {pins:List (Addr×Obj)}{σ:St}{H:Hp}{s:Shared}{R:It->Hp->Prop}{E:Value->Shared->Prop}{lo hi:Int}{t u v:Tok}{tk:Nat}(I:a6 X pins σ H s)(h1:-(2^62)<=lo)(h2:lo<2^62)(h3:-(2^62)<=hi)(h4:hi<2^62)(q:R (oN lo (hi-lo).toNat) H):wpAny (model X.prog X.w) X.A (pyIter (.ref s.heap.objs.size)) (C9 X pins σ tg R) E { s with heap:=s.heap.push { cls:=.type "range",data:=.fields #[.int lo t,.int hi u,.int 1 v] },toks:=tk }:=by
 refine wpAny_pyIter_range (IsRange.new ..) (small_one h1 h2 h3 h4) ?_
 have I1:a6 X pins σ H { s with heap:=s.heap.push { cls:=.type "range",data:=.fields #[.int lo t,.int hi u,.int 1 v] },toks:=tk }:=I.kept λb o e=>bm5 _ e
 refine⟨(s.heap.push { cls:=.type "range",data:=.fields #[.int lo t,.int hi u,.int 1 v] }).objs.size,[(s.heap.push { cls:=.type "range",data:=.fields #[.int lo t,.int hi u,.int 1 v] }).objs.size],_,_,H,rfl,
  I1.kept (t':=tk) λb o e=>bm5 _ e,aq5 _ lo (hi-lo).toNat,?_,λb hb=>?_,q⟩
 ·have e1:lo+((0:Nat):Int)*1=lo:=by simp
  have e2:(((hi-lo).toNat:Nat):Int)-((0:Nat):Int)=Builtin.Range.rangeSize lo hi 1:=by rw[rangeSize_one];split<;>omega
  show IsRangeIter _ _ (lo+((0:Nat):Int)*1) ((((hi-lo).toNat:Nat):Int)-((0:Nat):Int)) 1
  rw[e1,e2]
  exact bp3 _ rfl
 ·have e:b=(s.heap.push { cls:=.type "range",data:=.fields #[.int lo t,.int hi u,.int 1 v] }).objs.size:=by simpa using hb
  subst e
  exact I1.fpOk (bn1 _) (I1.hok.fresh (bn1 _))
def E3 (ta:TA):TI:=λσ H R=>ta σ H λvs H1=>∃j:Int,vs = [.int j]/\-(2^62)<=j/\j<2^62/\R (oN 0 j.toNat) H1
def E4 (ta:TA):TI:=λσ H R=>ta σ H λvs H1=>∃i j:Int,vs = [.int i,.int j]/\(-(2^62)<=i/\i<2^62/\-(2^62)<=j/\j<2^62)/\R (oN i (j-i).toNat) H1
theorem aq7 {a:Expr}{ta:TA}{p pos:Pos}(hg:Gl X "range")(hm:X.mg "range" = none)(ha:PA X [a] ta)(hs:starEach [a] X.env = [(false,eval a X.env)]:=by rfl):PI X tg (.Call (.Name "range" p) [a] [] pos) (E3 ta):=by
 intro pins s σ H R I h
 refine Call_ (kZ I hg hm boot_range (bv3 (aR (ha pos pins s σ H _ I h) λus s1 ⟨vs,H1,I1,r1,q1⟩=>?_) hs rfl))
 obtain⟨j,e,q1,q2,q⟩:=q1
 subst e
 cases r1 with
 |cons r rr=>
  cases rr
  obtain⟨t,rfl⟩:=r
  exact call_range_1 (E2 I1 (by omega) (by omega) q1 q2 (by simpa using q))
theorem aq8 {a b:Expr}{ta:TA}{p pos:Pos}(hg:Gl X "range")(hm:X.mg "range" = none)(ha:PA X [a,b] ta)(hs:starEach [a,b] X.env = [(false,eval a X.env),(false,eval b X.env)]:=by rfl)(hs2:starEach [b] X.env = [(false,eval b X.env)]:=by rfl) :
  PI X tg (.Call (.Name "range" p) [a,b] [] pos) (E4 ta):=by
 intro pins s σ H R I h
 refine Call_ (kZ I hg hm boot_range (bv3 (aR (ha pos pins s σ H _ I h) λus s1 ⟨vs,H1,I1,r1,q1⟩=>?_) (by rw[hs,hs2]) (by rw[hs2];rfl)))
 obtain⟨i,j,e,⟨q1,q2,q3,q4⟩,q⟩:=q1
 subst e
 cases r1 with
 |cons r rr=>
  cases rr with
  |cons r' rr=>
   cases rr
   obtain⟨t,rfl⟩:=r
   obtain⟨t',rfl⟩:=r'
   exact call_range_2 (E2 I1 q1 q2 q3 q4 q)
def E5 (wi:TI)(g:TG)(tb:TS):TS:=λD σ H=>wi σ H λJ H1=>∃W:Nat->Nat->St->Hp->Prop,(∃m,W 0 m σ H1)/\∀i m σ H,W i m σ H->
 (J.stop i H/\D.nx σ H)∨(J.go i H/\∃N:St->Hp->Prop,(∀σ' H',N σ' H'->∃m',m'<m/\W (i+1) m' σ' H')/\∀x H',J.yld i H x H'->g x σ H' λσ2 H2=>tb { D with nx:=N,ct:=N,bk:=D.nx } σ2 H2)
def oO (fp:List Addr)(h:Heap):List (Addr×Obj):=fp.filterMap λb=>(h.get? b).map λo=>(b,o)
theorem r9 {fp:List Addr}{h:Heap}{b:Addr}{o:Obj}(hb:b∈fp)(e:h.get? b=some o):(b,o)∈oO fp h:=bB1.mpr ⟨b,hb,by rw[e];rfl⟩
theorem aq9 {fp:List Addr}{h:Heap}{p:Addr×Obj}(hp:p∈oO fp h):p.1∈fp/\h.get? p.1=some p.2:=by
 obtain⟨b,hb,e⟩:=bB1.mp hp
 cases q:h.get? b with
 |none=>rw[q]at e;cases e
 |some o=>
  rw[q]at e
  have e':(b,o)=p:=bo9 e
  subst e'
  exact⟨hb,q⟩
theorem a6.pinned {pins:List (Addr×Obj)}{σ:St}{H:Hp}{s:Shared}{fp:List Addr}(I:a6 X pins σ H s)(hf:∀b∈fp,i8 X pins H b)(ho:∀b∈fp,∃o,s.heap.get? b=some o/\∀v,o.data≠.cell v):a6 X (pins++oO fp s.heap) σ H s:=
 I.pins_of λp hp=>(bn0.mp hp).elim (λz=>I.pin p (bo8 _ z)) λz=>by
  obtain⟨hb,e⟩:=aq9 z
  obtain⟨f0,f1,f2,_⟩:=hf p.1 hb
  obtain⟨o,e',d⟩:=ho p.1 hb
  rw[e]at e';cases e'
  exact⟨e,f0,f1,f2,d⟩
theorem a6.unpinned {pins pl:List (Addr×Obj)}{σ:St}{H:Hp}{s:Shared}(I:a6 X (pins++pl) σ H s):a6 X pins σ H s:=I.pins_of λp hp=>I.pin p (bo8 _ (bo3 _ hp))
theorem vE {iter:Expr}{body:List Stmt}{wi:TI}{g:TG}{tb:TS}{pos:Pos}(hp:PassesOwn (model X.prog X.w) X.A X.env X.xe)(hc:X.calm=true)(hi:PI X tg iter wi)(hg:PG X tg g)(hb:eZ X body tb)(hs:∀x,foldedSetIterable iter X.env x=pure x:=by intro _;rfl):PS X (.For tg iter body [] pos) (E5 wi g tb):=by
 intro pins s σ H D I h
 refine wpAny_For (aR (hi pins s σ H _ I h) λv s1 h1=>aR h1 λitv s2 h2=>?_) hs
 obtain⟨it,fp,tn,J,H2,e,I2,T,st2,f2,W,⟨m0,w0⟩,turn⟩:=h2
 subst e
 have stat:∀{H':Hp},(∀b∈fp,H' b=none)->∀b∈fp,i8 X pins H' b:=λhn b hb=>⟨hn b hb,(f2 b hb).2⟩
 refine codeAny_forLoop_any (λn s'=>∃i σ' H',a6 X pins σ' H' s'/\tn i s'.heap/\(∀b∈fp,H' b=none)/\W i n σ' H') ?_ m0 ⟨0,σ,H2,I2,st2,λb hb=>(f2 b hb).1,w0⟩
 rintro n s3 ⟨i,σ3,H3,I3,st3,fr3,w3⟩
 rcases turn i n σ3 H3 w3 with⟨stop,qn⟩|⟨go,N,hN,step⟩
 ·refine bC1 hp (aR (T.done X rfl rfl rfl hc i pins s3 σ3 H3 X.xe I3 (stat fr3) st3 stop) λr s4 ⟨hr,I4⟩=>?_)
  subst hr
  exact wpAny_execs_nil ⟨σ3,H3,I4,qn⟩
 ·refine bC1 hp (aR (T.item X rfl rfl rfl hc i pins s3 σ3 H3 X.xe I3 (stat fr3) st3 go) λr s4 ⟨u,hr,h4⟩=>?_)
  subst hr
  refine bC1 hp (aR h4 λ_ s5 ⟨x,H5,I5,r5,y5,st5,fr5⟩=>?_)
  have I5':=I5.pinned (stat fr5) (T.obj _ _ st5)
  refine bC1 hp (aR (hg _ s5 σ3 H5 x u _ I5' r5 (step x H5 y5)) λ_ s6 ⟨σ6,H6,I6,q6⟩=>?_)
  refine bC1 hp (aR (hb _ s6 σ6 H6 _ I6 q6) λf s7 q7=>?_)
  have again:∀{σ7:St}{H7:Hp},a6 X (pins++oO fp s5.heap) σ7 H7 s7->N σ7 H7->∃m,m<n/\∃i σ' H',a6 X pins σ' H' s7/\tn i s7.heap/\(∀b∈fp,H' b=none)/\W i m σ' H':=λ{σ7 H7} I7 n7=>by
   obtain⟨m',hm,w7⟩:=hN σ7 H7 n7
   refine⟨m',hm,i+1,σ7,H7,I7.unpinned,T.keep _ _ _ st5 λb hb o e=>(I7.pin (b,o) (bo8 _ (bo8 _ (r9 hb e)))).1,λb hb=>?_,w7⟩
   obtain⟨o,e,d⟩:=T.obj _ _ st5 b hb
   exact (I7.pin (b,o) (bo8 _ (bo8 _ (r9 hb e)))).2.1
  cases f with
  |next=>obtain⟨σ7,H7,I7,n7⟩:=q7;exact again I7 n7
  |cont=>obtain⟨σ7,H7,I7,n7⟩:=q7;exact again I7 n7
  |brk=>obtain⟨σ7,H7,I7,q7⟩:=q7;exact⟨σ7,H7,I7.unpinned,q7⟩
  |ret v=>obtain⟨x7,σ7,H7,I7,r7,q7⟩:=q7;exact⟨x7,σ7,H7,I7.unpinned,r7,q7⟩
end
theorem bl5 {K:ad}{a:Addr}{xs:List V}{g:TG}{tb:TS}{D:eR}{σ:St}{H:Hp}(Pv:Nat->St->Hp->Prop)(h0:Pv 0 σ H)(hl:∀i σ H,i<=xs.length->Pv i σ H->aM K H a xs)(hs:∀i x σ H,xs[i]? = some x->Pv i σ H->g x σ H λσ2 H2=>tb { D with nx:=Pv (i+1),ct:=Pv (i+1),bk:=D.nx } σ2 H2)(hd:∀σ H,Pv xs.length σ H->D.nx σ H) :
  ∃W:Nat->Nat->St->Hp->Prop,(∃m,W 0 m σ H)/\∀i m σ H,W i m σ H->
   ((mZ K a).stop i H/\D.nx σ H)∨((mZ K a).go i H/\∃N:St->Hp->Prop,(∀σ' H',N σ' H'->∃m',m'<m/\W (i+1) m' σ' H')/\∀x H',(mZ K a).yld i H x H'->g x σ H' λσ2 H2=>tb { D with nx:=N,ct:=N,bk:=D.nx } σ2 H2):=by
 refine⟨λi m σ H=>m=xs.length-i/\i<=xs.length/\Pv i σ H,⟨xs.length,by simp,br5 _,h0⟩,?_⟩
 rintro i m σ H ⟨rfl,hi,p⟩
 have q:=hl i σ H hi p
 by_cases hlt:i<xs.length
 ·refine .inr ⟨⟨xs,xs[i],q,by simp[hlt]⟩,Pv (i+1),λσ' H' p'=>⟨xs.length-(i+1),by omega,rfl,hlt,p'⟩,λx H' y=>?_⟩
  obtain⟨e,y⟩:=y
  subst e
  exact hs i x σ _ (y xs q) p
 ·have e:i=xs.length:=by omega
  subst e
  exact .inl ⟨⟨xs,q,bn1 _⟩,hd σ H p⟩
theorem E6 {K:ad}{a:Addr}{xs:List V}{g:TG}{tb:TS}{D:eR}{σ:St}{H:Hp}(Pv:Nat->St->Hp->Prop)(h0:Pv 0 σ H)(hl:∀i σ H,i<=xs.length->Pv i σ H->aO K H a xs)(hs:∀i x σ H,xs[i]? = some x->Pv i σ H->g x σ H λσ2 H2=>tb { D with nx:=Pv (i+1),ct:=Pv (i+1),bk:=D.nx } σ2 H2)(hd:∀σ H,Pv xs.length σ H->D.nx σ H) :
  ∃W:Nat->Nat->St->Hp->Prop,(∃m,W 0 m σ H)/\∀i m σ H,W i m σ H->
   ((l6 K a).stop i H/\D.nx σ H)∨((l6 K a).go i H/\∃N:St->Hp->Prop,(∀σ' H',N σ' H'->∃m',m'<m/\W (i+1) m' σ' H')/\∀x H',(l6 K a).yld i H x H'->g x σ H' λσ2 H2=>tb { D with nx:=N,ct:=N,bk:=D.nx } σ2 H2):=by
 refine⟨λi m σ H=>m=xs.length-i/\i<=xs.length/\Pv i σ H,⟨xs.length,by simp,br5 _,h0⟩,?_⟩
 rintro i m σ H ⟨rfl,hi,p⟩
 have q:=hl i σ H hi p
 by_cases hlt:i<xs.length
 ·refine .inr ⟨⟨xs,xs[i],q,by simp[hlt]⟩,Pv (i+1),λσ' H' p'=>⟨xs.length-(i+1),by omega,rfl,hlt,p'⟩,λx H' y=>?_⟩
  obtain⟨e,y⟩:=y
  subst e
  exact hs i x σ _ (y xs q) p
 ·have e:i=xs.length:=by omega
  subst e
  exact .inl ⟨⟨xs,q,bn1 _⟩,hd σ H p⟩
abbrev R2:=V->V->Hp->VK->Prop
def cM (X:Cx)(f:Value->Value->Sem Value)(r:R2):Prop:=
 ∀(pins:List (Addr×Obj)) (s:Shared) (σ:St) (H:Hp) (x y:V) (v u:Value) (Q:VK),a6 X pins σ H s->b6 x v->b6 y u->r x y H Q->
  wpAny (model X.prog X.w) X.A (f v u) (EP X pins σ Q) X.xe s
def dQ (X:Cx)(f:Value)(r:List V->Hp->VK->Prop):Prop:=
 ∀(pins:List (Addr×Obj)) (s:Shared) (σ:St) (H:Hp) (xs:List V) (us:List Value) (Q:VK),a6 X pins σ H s->aN xs us->r xs H Q->
  wpAny (model X.prog X.w) X.A (call f us) (EP X pins σ Q) X.xe s
def ar0 (X:Cx)(r:V->Hp->(Bool->Hp->Prop)->Prop):Prop:=
 ∀(pins:List (Addr×Obj)) (s:Shared) (σ:St) (H:Hp) (x:V) (v:Value) (Q:Bool->Hp->Prop),a6 X pins σ H s->b6 x v->r x H Q->
  wpAny (model X.prog X.w) X.A (truthy v) (TP X pins σ Q) X.xe s
def oP (r:R2)(ta tb:TE):TE:=λσ H Q=>ta σ H λx H1=>tb σ H1 λy H2=>r x y H2 Q
def rI (C:Int->Int->Prop)(g:Int->Int->V):R2:=λx y H Q=>∃i j,x = .int i/\y = .int j/\C i j/\Q (g i j) H
def jS (g:Int->Int->V):R2:=λx y H Q=>∃i j,x = .int i/\y = .int j/\Q (g i j) H
section
variable {X:Cx}{a b c:Expr}{ta tb tc:TE}{pos:Pos}
theorem vF (ha:PE X a ta)(hb:PE X b tb){pins:List (Addr×Obj)}{s:Shared}{σ:St}{H:Hp}{R:V->V->Hp->Prop}(I:a6 X pins σ H s)(h:ta σ H λx H1=>tb σ H1 λy H2=>R x y H2){Q:Value->Shared->Prop}{f:Value->Value->Sem Value}(hf:∀v u s2 x y H2,a6 X pins σ H2 s2->b6 x v->b6 y u->R x y H2->wpAny (model X.prog X.w) X.A (f v u) Q X.xe s2) :
  wpAny (model X.prog X.w) X.A (eval a X.env) (λv s₁=>wpAny (model X.prog X.w) X.A (eval b X.env) (λu s₂=>wpAny (model X.prog X.w) X.A (f v u) Q X.xe s₂) X.xe s₁) X.xe s:=by
 refine aR (ha pins s σ H _ I h) λv s1 ⟨x,H1,I1,r1,q1⟩=>?_
 refine aR (hb pins s1 σ H1 _ I1 q1) λu s2 ⟨y,H2,I2,r2,q2⟩=>?_
 exact hf v u s2 x y H2 I2 r1 r2 q2
theorem ar1 {op:Operator}{r:R2}(ho:cM X (binaryOp op) r)(ha:PE X a ta)(hb:PE X b tb):PE X (.BinOp a op b pos) (oP r ta tb):=by
 intro pins s σ H Q I h
 exact wpAny_BinOp (vF ha hb I h λv u s2 x y H2 I2 rx ry q=>ho pins s2 σ H2 x y v u Q I2 rx ry q)
theorem rA {f:Value->Value->Sem Value}{C:Int->Int->Prop}{g:Int->Int->Int}(rule:∀(i j:Int) (t u:Tok) (s:Shared) (Q:Value->Shared->Prop) (E:Value->Shared->Prop),C i j->Q (.int (g i j) s.toks) { s with toks:=s.toks+1 }->wpAny (model X.prog X.w) X.A (f (.int i t) (.int j u)) Q E s) :
  cM X f (rI C λi j=>.int (g i j)):=by
 intro pins s σ H x y v u Q I rx ry h
 obtain⟨i,j,rfl,rfl,hc,q⟩:=h
 obtain⟨t,rfl⟩:=rx
 obtain⟨t',rfl⟩:=ry
 exact rule i j t t' s _ _ hc ⟨.int (g i j),H,I.tok _,⟨_,rfl⟩,q⟩
theorem E7 {f:Value->Value->Sem Value}{g:Int->Int->Int}(rule:∀(i j:Int) (t u:Tok) (s:Shared) (Q:Value->Shared->Prop) (E:Value->Shared->Prop),Q (.int (g i j) s.toks) { s with toks:=s.toks+1 }->wpAny (model X.prog X.w) X.A (f (.int i t) (.int j u)) Q E s) :
  cM X f (jS λi j=>.int (g i j)):=by
 intro pins s σ H x y v u Q I rx ry h
 obtain⟨i,j,rfl,rfl,q⟩:=h
 obtain⟨t,rfl⟩:=rx
 obtain⟨t',rfl⟩:=ry
 exact rule i j t t' s _ _ ⟨.int (g i j),H,I.tok _,⟨_,rfl⟩,q⟩
theorem vG {f:Value->Value->Sem Value}{g:Int->Int->Bool}(rule:∀(i j:Int) (t u:Tok) (s:Shared) (Q:Value->Shared->Prop) (E:Value->Shared->Prop),Q (.bool (g i j)) s->wpAny (model X.prog X.w) X.A (f (.int i t) (.int j u)) Q E s) :
  cM X f (jS λi j=>.bl (g i j)):=by
 intro pins s σ H x y v u Q I rx ry h
 obtain⟨i,j,rfl,rfl,q⟩:=h
 obtain⟨t,rfl⟩:=rx
 obtain⟨t',rfl⟩:=ry
 exact rule i j t t' s _ _ ⟨.bl (g i j),H,I,rfl,q⟩
def vH (i j:Int):Prop:=0<j/\j<1073741824
def vI (i j:Int):Prop:=0<=j/\j<=1000000/\i.natAbs<2^64
def oQ (i j:Int):Prop:=(-(2^64)<i/\i<2^64)∨(-(2^64)<j/\j<2^64)
theorem oQ.ok {i j:Int}(h:oQ i j):IntMulOk i j:=by
 rcases h with⟨h1,h2⟩|⟨h1,h2⟩
 ·exact .of_left (intBits_le_64 h1 h2)
 ·exact .of_right (intBits_le_64 h1 h2)
theorem ar2:cM X (binaryOp .Add) (jS λi j=>.int (i+j)):=E7 λ_ _ _ _ _ _ _ q=>add_int q
theorem ar3:cM X (binaryOp .Sub) (jS λi j=>.int (i-j)):=E7 λ_ _ _ _ _ _ _ q=>sub_int q
theorem ar4:cM X (binaryOp .Mult) (rI oQ λi j=>.int (i*j)):=rA λ_ _ _ _ _ _ _ hc q=>mul_int q hc.ok
theorem ar5:cM X (binaryOp .FloorDiv) (rI vH λi j=>.int (i/j)):=rA λi j _ _ _ _ _ hc q=>by
 have h1:(0:Int)<j:=hc.1
 have h2:j<1073741824:=hc.2
 exact floordiv_int (by omega) (by rw[Int.fdiv_eq_ediv_of_nonneg i (by omega)];exact q) (.inl (PyProof.noPylong_small (by omega)))
theorem ar6:cM X (binaryOp .Mod) (rI (λ_ j=>0<j) λi j=>.int (i%j)):=rA λi j _ _ _ _ _ hc q=>by
 have h1:(0:Int)<j:=hc
 exact mod_int' (by omega) (by rw[Int.fmod_eq_emod_of_nonneg i (by omega)];exact q)
theorem ar7:cM X (binaryOp .Pow) (rI vI λi j=>.int (i^j.toNat)):=rA λ_ _ _ _ _ _ _ hc q=>pow_int_small hc.1 hc.2.1 hc.2.2 q
end
def E8:V->V->Bool
 |.non,.non=>true|.non,.int _=>true|.int _,.non=>true|.non,.bl _=>true|.bl _,.non=>true|.non,.str _=>true|.str _,.non=>true
 |.int _,.int _=>true|.bl _,.bl _=>true|.str _,.str _=>true|.byt _,.byt _=>true
 |.int _,.str _=>true|.str _,.int _=>true|.bl _,.str _=>true|.str _,.bl _=>true
 |_,_=>false
def E9:R2:=λx y H Q=>E8 x y=true/\Q (.bl (decide (x=y))) H
def vJ:R2:=λx y H Q=>E8 x y=true/\Q (.bl (!decide (x=y))) H
theorem F0 {i j:Int}:decide (V.int i=V.int j)=(i==j):=by
 rw[bw0]
 simp
theorem F3 {i j:Bool}:decide (V.bl i=V.bl j)=(i==j):=by
 rw[bw0]
 simp
theorem F4 {i j:Str}:decide (V.str i=V.str j)=(i==j):=by
 rw[bw0]
 simp
theorem F5 {i j:Array UInt8}:decide (V.byt i=V.byt j)=(i.toList==j.toList):=by
 rw[bw0]
 cases i
 cases j
 simp
section
variable {X:Cx}{a b c:Expr}{ta tb tc:TE}{pos:Pos}
theorem bY {pins:List (Addr×Obj)}{σ:St}{H:Hp}{s:Shared}{Q:VK}{k k':Bool}(I:a6 X pins σ H s)(q:Q (.bl k) H)(e:k=k'):EP X pins σ Q (.bool k') s:=by
 subst e
 exact⟨.bl k,H,I,rfl,q⟩
theorem F6:cM X (compareOp .Eq) E9:=by
 intro pins s σ H x y v u Q I rx ry h
 obtain⟨hs,q⟩:=h
 cases x with
 |non=>
  cases rx
  cases y with
  |non=>cases ry;exact PySem.EqNone.eq_none_none (bY I q (by simp))
  |bl j=>cases ry;exact PySem.EqNone.eq_none_bool (bY I q (by simp))
  |int j=>obtain⟨t',rfl⟩:=ry;exact PySem.EqNone.eq_none_int (bY I q (by simp))
  |str j=>obtain⟨t',rfl⟩:=ry;exact PySem.EqNone.eq_none_str (bY I q (by simp))
  |_=>exact absurd (show false=true from hs) bo4
 |bl i=>
  cases rx
  cases y with
  |non=>cases ry;exact PySem.EqNone.eq_bool_none (bY I q (by simp))
  |bl j=>cases ry;exact eq_bool (bY I q F3)
  |str j=>obtain⟨t',rfl⟩:=ry;exact PySem.EqMixed.eq_bool_str (bY I q (by simp))
  |_=>exact absurd (show false=true from hs) bo4
 |int i=>
  obtain⟨t,rfl⟩:=rx
  cases y with
  |non=>cases ry;exact PySem.EqNone.eq_int_none (bY I q (by simp))
  |int j=>obtain⟨t',rfl⟩:=ry;exact eq_int (bY I q F0)
  |str j=>obtain⟨t',rfl⟩:=ry;exact PySem.EqMixed.eq_int_str (bY I q (by simp))
  |_=>exact absurd (show false=true from hs) bo4
 |str i=>
  obtain⟨t,rfl⟩:=rx
  cases y with
  |non=>cases ry;exact PySem.EqNone.eq_str_none (bY I q (by simp))
  |bl j=>cases ry;exact PySem.EqMixed.eq_str_bool (bY I q (by simp))
  |int j=>obtain⟨t',rfl⟩:=ry;exact PySem.EqMixed.eq_str_int (bY I q (by simp))
  |str j=>obtain⟨t',rfl⟩:=ry;exact eq_str (bY I q F4)
  |_=>exact absurd (show false=true from hs) bo4
 |byt i=>
  obtain⟨t,rfl⟩:=rx
  cases y with
  |byt j=>obtain⟨t',rfl⟩:=ry;exact PySem.W.eq_bytes (bY I q F5)
  |_=>exact absurd (show false=true from hs) bo4
 |_=>cases y<;>exact absurd (show false=true from hs) bo4
theorem F7:cM X (compareOp .NotEq) vJ:=by
 intro pins s σ H x y v u Q I rx ry h
 obtain⟨hs,q⟩:=h
 cases x with
 |non=>
  cases rx
  cases y with
  |non=>cases ry;exact PySem.EqNone.ne_none_none (bY I q (by simp))
  |bl j=>cases ry;exact PySem.EqNone.ne_none_bool (bY I q (by simp))
  |int j=>obtain⟨t',rfl⟩:=ry;exact PySem.EqNone.ne_none_int (bY I q (by simp))
  |str j=>obtain⟨t',rfl⟩:=ry;exact PySem.EqNone.ne_none_str (bY I q (by simp))
  |_=>exact absurd (show false=true from hs) bo4
 |bl i=>
  cases rx
  cases y with
  |non=>cases ry;exact PySem.EqNone.ne_bool_none (bY I q (by simp))
  |bl j=>cases ry;exact ne_bool (bY I q (congrArg not F3))
  |str j=>obtain⟨t',rfl⟩:=ry;exact PySem.EqMixed.ne_bool_str (bY I q (by simp))
  |_=>exact absurd (show false=true from hs) bo4
 |int i=>
  obtain⟨t,rfl⟩:=rx
  cases y with
  |non=>cases ry;exact PySem.EqNone.ne_int_none (bY I q (by simp))
  |int j=>obtain⟨t',rfl⟩:=ry;exact ne_int (bY I q (congrArg not F0))
  |str j=>obtain⟨t',rfl⟩:=ry;exact PySem.EqMixed.ne_int_str (bY I q (by simp))
  |_=>exact absurd (show false=true from hs) bo4
 |str i=>
  obtain⟨t,rfl⟩:=rx
  cases y with
  |non=>cases ry;exact PySem.EqNone.ne_str_none (bY I q (by simp))
  |bl j=>cases ry;exact PySem.EqMixed.ne_str_bool (bY I q (by simp))
  |int j=>obtain⟨t',rfl⟩:=ry;exact PySem.EqMixed.ne_str_int (bY I q (by simp))
  |str j=>obtain⟨t',rfl⟩:=ry;exact ne_str (bY I q (congrArg not F4))
  |_=>exact absurd (show false=true from hs) bo4
 |byt i=>
  obtain⟨t,rfl⟩:=rx
  cases y with
  |byt j=>obtain⟨t',rfl⟩:=ry;exact PySem.W.ne_bytes (bY I q (congrArg not F5))
  |_=>exact absurd (show false=true from hs) bo4
 |_=>cases y<;>exact absurd (show false=true from hs) bo4
theorem rB:cM X (compareOp .Lt) (jS λi j=>.bl (decide (i<j))):=vG λ_ _ _ _ _ _ _ q=>lt_int q
theorem ar8:cM X (compareOp .Gt) (jS λi j=>.bl (decide (j<i))):=vG λ_ _ _ _ _ _ _ q=>gt_int q
theorem F8:cM X (compareOp .GtE) (jS λi j=>.bl (decide (j<=i))):=vG λ_ _ _ _ _ _ _ q=>ge_int q
theorem ar9:cM X (compareOp .Is) (λx y H Q=>y = .non/\Q (.bl (decide (x = .non))) H):=by
 intro pins s σ H x y v u Q I rx ry h
 obtain⟨rfl,q⟩:=h
 cases ry
 refine is_none_gen (bY I q ?_)
 cases x<;>first
  |(cases rx;rfl)
  |(obtain⟨t,rfl⟩:=rx;rfl)
theorem i9 (b:Expr){op:CmpOp}(h:op≠.In:=by decide)(h2:op≠.NotIn:=by decide):behindInMarks op b=false:=by
 have e1:(op==CmpOp.In)=false:=by cases op<;>first|rfl|exact absurd rfl h
 have e2:(op==CmpOp.NotIn)=false:=by cases op<;>first|rfl|exact absurd rfl h2
 cases b<;>simp[behindInMarks,e1,e2]
theorem vK {op:CmpOp}{r:R2}(ho:cM X (compareOp op) r)(ha:PE X a ta)(hb:PE X b tb)(hm:behindInMarks op b=false):PE X (.Compare a [op] [b] pos) (oP r ta tb):=by
 intro pins s σ H Q I h
 exact wpAny_Compare1 (vF ha hb I h λv u s2 x y H2 I2 rx ry q=>ho pins s2 σ H2 x y v u Q I2 rx ry q) hm
def as0 (t:TE):TT:=λσ H Q=>t σ H λx H'=>∃k,x = .bl k/\Q k H'
theorem as1 {op:CmpOp}{r:R2}(ho:cM X (compareOp op) r)(ha:PE X a ta)(hb:PE X b tb)(hm:behindInMarks op b=false):PT X (.Compare a [op] [b] pos) (as0 (oP r ta tb)):=by
 intro pins s σ H Q I h
 refine wpAny_isTrue_Compare1 (aR (ha pins s σ H _ I h) λv s1 ⟨x,H1,I1,r1,q1⟩=>aR (hb pins s1 σ H1 _ I1 q1) λu s2 ⟨y,H2,I2,r2,q2⟩=>
  aR (ho pins s2 σ H2 x y v u _ I2 r1 r2 q2) λc s3 ⟨z,H3,I3,r3,k,e,q3⟩=>?_) hm
 subst e
 cases r3
 exact by7 ⟨H3,I3,q3⟩
def vL (K:ad)(x:V)(H:Hp)(k:Bool):Prop:=
 match x with
 |.non=>k=false
 |.bl b=>k=b
 |.int i=>k=(i != 0)
 |.str y=>y.length<=sizeLine/\k=((y.length:Int) != 0)
 |.byt y=>y.size<=sizeLine/\k=((y.size:Int) != 0)
 |.ref p=>(∃xs,aM K H p xs/\k = !xs.isEmpty)∨(∃xs,aO K H p xs/\k = !xs.isEmpty)∨∃kvs,H p=some (.dK kvs)/\k = !kvs.isEmpty
 |_=>False
theorem as2 {κ:Type}{kvs:List (κ×V)}{vs:List (κ×Value)}(r:KV kvs vs):(!vs.isEmpty) = !kvs.isEmpty:=by
 cases r<;>rfl
theorem F9 {xs:List V}{its:List Value}(r:aN xs its):(!its.toArray.isEmpty) = !xs.isEmpty:=by
 cases r<;>simp
theorem nA:(sizeLine:Nat)<2^63:=by rw[sizeLine_eq];decide
theorem as3:ar0 X (λx H Q=>∃k,vL X.K x H k/\Q k H):=by
 intro pins s σ H x v Q I rx h
 obtain⟨k,e,q⟩:=h
 have hl:=nA
 have hs:sizeLine=16777216:=sizeLine_eq
 cases x with
 |non=>
  cases rx
  have e':k=false:=e
  subst e'
  exact truthy_none ⟨H,I,q⟩
 |bl b=>
  cases rx
  have e':k=b:=e
  subst e'
  exact by7 ⟨H,I,q⟩
 |int i=>
  obtain⟨t,rfl⟩:=rx
  have e':k=(i != 0):=e
  subst e'
  exact PySem.P.truthy_int ⟨H,I,q⟩
 |str y=>
  obtain⟨t,rfl⟩:=rx
  obtain⟨hy,e'⟩:y.length<=sizeLine/\k=((y.length:Int) != 0):=e
  subst e'
  exact PySem.P.truthy_str (by omega) ⟨H,I.tok _,q⟩
 |byt y=>
  obtain⟨t,rfl⟩:=rx
  obtain⟨hy,e'⟩:y.size<=sizeLine/\k=((y.size:Int) != 0):=e
  subst e'
  exact PySem.W.truthy_bytes (by omega) ⟨H,I.tok _,q⟩
 |ref p=>
  cases rx
  have e':(∃xs,aM X.K H p xs/\k = !xs.isEmpty)∨(∃xs,aO X.K H p xs/\k = !xs.isEmpty)∨∃kvs,H p=some (.dK kvs)/\k = !kvs.isEmpty:=e
  rcases e' with⟨xs,hx,e'⟩|⟨xs,hx,e'⟩|⟨kvs,hx,e'⟩
  ·subst e'
   obtain⟨its,r,pl,hz⟩:=I.list hx
   have hlen:=r.length
   exact wpAny_truthy_list pl.isList (by simp only[bn9];omega) ⟨H,I.tok _,by rw[F9 r];exact q⟩
  ·subst e'
   obtain⟨its,r,pl,hz⟩:=I.tuple hx
   have hlen:=r.length
   exact truthy_tuple pl (by simp only[bn9];omega) ⟨H,I.tok _,by rw[F9 r];exact q⟩
  ·subst e'
   obtain⟨hz,hS,vs,r,m⟩:kvs.length<=sizeLine/\(p==sysModules)=false/\∃vs,KV kvs vs/\s.heap.DictOf (fH X.prog X.w) p vs:=I.hok p _ hx
   have hlen:kvs.length=vs.length:=Paired.length r
   exact wpAny_truthy_dict hS m (by omega) ⟨H,I.tok _,by rw[as2 r];exact q⟩
 |_=>exact (show False from e).elim
theorem as4 (ha:PE X a ta)(he:∀whole,isTrue a X.env whole=(do let v <- whole;standAt a.pos;holding [v] (truthy v))) :
  PT X a (λσ H Q=>ta σ H λx H'=>∃k,vL X.K x H' k/\Q k H'):=by
 intro pins s σ H Q I h
 exact isTrue_plain (aR (ha pins s σ H _ I h) λv s1 ⟨x,H1,I1,r1,q1⟩=>as3 pins s1 σ H1 x v Q I1 r1 q1) (he _)
theorem iA {x:V}{us:List Value}(r:aN [x] us):∃u,us = [u]/\b6 x u:=by
 cases r with
 |cons r1 r2=>cases r2;exact⟨_,rfl,r1⟩
theorem G0 {x y:V}{us:List Value}(r:aN [x,y] us):∃u w',us = [u,w']/\b6 x u/\b6 y w':=by
 cases r with
 |cons r1 r2=>
  cases r2 with
  |cons r3 r4=>cases r4;exact⟨_,_,rfl,r1,r3⟩
theorem as5 (hc:X.calm=true):dQ X (.builtin "max") (λxs H Q=>∃i j,xs = [.int i,.int j]/\Q (.int (if j>i then j else i)) H):=by
 intro pins s σ H xs us Q I r h
 obtain⟨i,j,rfl,q⟩:=h
 obtain⟨u,w',rfl,⟨t,rfl⟩,⟨t',rfl⟩⟩:=G0 r
 refine max_two_ints (I.ok.hd hc) λh' tk k=>⟨_,H,I.kept k,?_,q⟩
 by_cases hj:j>i
 ·rw[if_pos hj,if_pos hj];exact⟨_,rfl⟩
 ·rw[if_neg hj,if_neg hj];exact⟨_,rfl⟩
theorem as6 (hc:X.calm=true):dQ X (.builtin "min") (λxs H Q=>∃i j,xs = [.int i,.int j]/\Q (.int (if j<i then j else i)) H):=by
 intro pins s σ H xs us Q I r h
 obtain⟨i,j,rfl,q⟩:=h
 obtain⟨u,w',rfl,⟨t,rfl⟩,⟨t',rfl⟩⟩:=G0 r
 refine min_two_ints (I.ok.hd hc) λh' tk k=>⟨_,H,I.kept k,?_,q⟩
 by_cases hj:j<i
 ·rw[if_pos hj,if_pos hj];exact⟨_,rfl⟩
 ·rw[if_neg hj,if_neg hj];exact⟨_,rfl⟩
end
structure cJ (k:Nat)(A:Around):Prop where
 hd:A.handled=none
 dp:A.depth+3*k+5<recursionLimit
 un:A.units+16*k+200<cLine
theorem cJ.mono {j k:Nat}{A:Around}(r:cJ k A)(h:j<=k):cJ j A:=⟨r.hd,by have:=r.dp;omega,by have:=r.un;omega⟩
theorem cJ.deeper {k:Nat}{A:Around}(r:cJ (k+1) A)(env:Env):cJ k (A.deeper env):=
 ⟨r.hd,by have:=r.dp;show A.depth+1+3*k+5<_;omega,by have:=r.un;show A.units+3+16*k+200<_;omega⟩
theorem cJ.depth {k:Nat}{A:Around}(r:cJ k A):A.depth<recursionLimit:=by have:=r.dp;omega
theorem cJ.units {k:Nat}{A:Around}(r:cJ k A):A.units+64<cLine:=by have:=r.un;omega
def jT:TA:=λ_ H Q=>Q [] H
def iM (ta:TE)(tr:TA):TA:=λσ H Q=>ta σ H λx H1=>tr σ H1 λxs H2=>Q (x::xs) H2
section
variable {X:Cx}{e:Expr}{es:List Expr}{te:TE}{t:TA}{pos:Pos}
theorem eB:PA X [] jT:=λ_ _ _ _ H Q I h=>Calls.spliced_nil ⟨[],H,I,.nil,h⟩
theorem dJ (ha:PE X e te)(hr:PA X es t)(hs:starEach (e::es) X.env=(false,eval e X.env)::starEach es X.env:=by rfl):PA X (e::es) (iM te t):=by
 intro pos pins s σ H Q I h
 rw[hs]
 show wpAny _ _ (spliced ((false,eval e X.env)::backTo pos (starEach es X.env))) _ _ s
 refine Calls.spliced_cons (aR (ha pins s σ H _ I h) λu s1 ⟨x,H1,I1,r1,q1⟩=>?_)
 exact aR (hr pos pins s1 σ H1 _ I1 q1) λus s2 ⟨xs,H2,I2,r2,q2⟩=>⟨x::xs,H2,I2,.cons r1 r2,q2⟩
def vM (t:TA):TE:=λσ H Q=>t σ H λxs H1=>xs.length<=sizeLine/\∀p,H1 p=none->Q (.ref p) (upd H1 p (.tup xs))
def G1 (t:TA):TE:=λσ H Q=>t σ H λxs H1=>xs.length<=sizeLine/\∀p,H1 p=none->Q (.ref p) (upd H1 p (.lst xs))
theorem G2 {x1}(h:PA X es t):PE X (.Tuple es x1 pos) (vM t):=by
 intro pins s σ H Q I hq
 refine wpAny_Tuple_spliced (aR (h pos pins s σ H _ I hq) λus s1 ⟨xs,H1,I1,r,z,q⟩=>⟨by rw[<- r.length];exact z,?_⟩)
 have hf:H1 s1.heap.objs.size=none:=I1.hok.fresh (bn1 _)
 refine⟨.ref s1.heap.objs.size,upd H1 s1.heap.objs.size (.tup xs),I1.laid (t':=s1.toks) (λb u e=>bm5 _ e) (bn1 _) ?_,rfl,q _ hf⟩
 exact⟨z,us,r,⟨_,bp3 _ rfl,rfl,_,rfl⟩,iZ.new _ _ rfl⟩
theorem vN (h:PA X es t):PE X (.List es pos) (G1 t):=by
 intro pins s σ H Q I hq
 refine wpAny_List_spliced (aR (h pos pins s σ H _ I hq) λus s1 ⟨xs,H1,I1,r,z,q⟩=>⟨by rw[<- r.length];exact z,?_⟩)
 have hf:H1 s1.heap.objs.size=none:=I1.hok.fresh (bn1 _)
 refine⟨.ref s1.heap.objs.size,upd H1 s1.heap.objs.size (.lst xs),I1.laid (t':=s1.toks) (λb u e=>bm5 _ e) (bn1 _) ?_,rfl,q _ hf⟩
 exact⟨z,us,0,r,bp3 _ rfl⟩
end
abbrev Sp:=List V->Hp->VK->XK->Prop
abbrev iB:=List Env->Hp->Shared->XK->Value->Shared->Prop
structure rC (P:Program)(w:World)(K:ad)(mg:Str->Option Value)(base:Heap)(A:Around)(outer:List Env)(s:Shared)(H:Hp):Prop where
 frames:A.frames=some outer
 mod:Mod K mg base
 bs:∀b o,base.get? b=some o->s.heap.get? b=some o/\H b=none
 bsz:base.objs.size<=s.heap.objs.size
 funs:s.heap.FunFrames base outer
 frf:∀b∈c7 outer,H b=none
 hok:bX P w H s.heap
 bare:AllBare s.gens
def CE (outer:List Env)(P:Program)(w:World)(H:Hp)(s:Shared)(Q:VK)(u:Value)(s':Shared):Prop:=
 ∃v H',s'.os=s.os/\AllBare s'.gens/\Un (c7 outer) [] H H' s.heap s'.heap/\bX P w H' s'.heap/\b6 v u/\Q v H'
def CR (CX:iB)(outer:List Env)(P:Program)(w:World)(H:Hp)(s:Shared)(Q:VK)(E:XK)(r:Result)(s':Shared):Prop:=
 match r with
 |.ok (.ret u)=>CE outer P w H s Q u s'
 |.ok _=>False
 |.error e=>CX outer H s E e s'
structure cZ (P:Program)(w:World)(K:ad)(mg:Str->Option Value)(base:Heap)(CX:iB)(k:Nat)(f:Addr)(fd:FuncData)(ps:List Str)(sp:Sp):Prop where
 len:∀vs H Q E,sp vs H Q E->vs.length=ps.length
 run:∀(A:Around) (outer:List Env) (s:Shared) (H:Hp) (args:Args) (us:List Value) (vs:List V) (Q:VK) (E:XK),cJ k A->rC P w K mg base A outer s H->BindsTo s fd args (ps.zip us)->aN vs us->sp vs H Q E->
  codeAny (model P w) A (.call (.ref f) args) (CR CX outer P w H s Q E) s
theorem cZ.imp {P:Program}{w:World}{K:ad}{mg:Str->Option Value}{base:Heap}{CX:iB}{k:Nat}{f:Addr}{fd:FuncData}{ps:List Str}{sp sp':Sp}(F:cZ P w K mg base CX k f fd ps sp)(h:∀vs H Q E,sp' vs H Q E->sp vs H Q E):cZ P w K mg base CX k f fd ps sp':=
 ⟨λvs H Q E q=>F.len vs H Q E (h _ _ _ _ q),λA outer s H args us vs Q E hr he hb hv hs=>F.run A outer s H args us vs Q E hr he hb hv (h _ _ _ _ hs)⟩
section
variable {X:Cx}{pins:List (Addr×Obj)}{σ:St}{H:Hp}{s s':Shared}
theorem a6.env0 (I:a6 X pins σ H s):rC X.prog X.w X.K X.mg X.base X.A X.stack s H:=
 ⟨I.ok.frames,I.ok.mod,I.bs,bs0 I.ok.bsz I.sz,I.stack,I.stkFree,I.hok,I.bare⟩
theorem a6.after {Q:VK}{u:Value}(I:a6 X pins σ H s)(h:CE X.stack X.prog X.w H s Q u s'):EP X pins σ Q u s':=by
 obtain⟨v,H',os,bare,un,hok,r,q⟩:=h
 obtain⟨hh,g,d,t,os'⟩:=s'
 obtain rfl:os'=s.os:=os
 exact⟨v,H',I.call (h':=hh) (g':=g) (d':=d) (t':=t) (ch:=[]) un hok bare (λb z=>absurd z (by simp)),r,q⟩
end
def vO (sp:Sp)(dvs:List V)(E:XK)(t:TA):TE:=λσ H Q=>t σ H λvs H1=>sp (vs++dvs) H1 Q E
def j5 (K:ad)(fd:FuncData)(ps:List Str)(ds:List Value):Prop:=
 ∀(s:Shared) (us:List Value),K.In s.heap->(us++ds).length=ps.length->BindsTo s fd ⟨us,[]⟩ (ps.zip (us++ds))
theorem j5.all {K:ad}{fd:FuncData}{ps:List Str}(h:∀us:List Value,us.length=ps.length->bindArgs fd ⟨us,[]⟩=pure (ps.zip us)):j5 K fd ps []:=λs us _ hl=>by
 rw[bs1]at hl ⊢
 exact .of_eq (h us hl)
def oR (CX:iB)(X:Cx)(E:XK):Prop:=∀(pins:List (Addr×Obj)) (σ:St) (H:Hp) (s:Shared) (e:Value) (s':Shared),a6 X pins σ H s->CX X.stack H s E e s'->X.xe e s'
section
variable {X:Cx}{CX:iB}{k:Nat}{f C:Addr}{fd:FuncData}{ps:List Str}{sp:Sp}{dvs:List V}{ds:List Value}{E:XK}{x m:Str}{p pos apos:Pos}{e o:Expr}{es:List Expr}{ta:TE}{t:TA}
theorem as7 {pins:List (Addr×Obj)}{σ:St}{H:Hp}{s:Shared}{Q:VK}{us:List Value}{vs:List V}(F:cZ X.prog X.w X.K X.mg X.base CX k f fd ps sp)(hr:cJ k X.A)(hb:j5 X.K fd ps ds)(hd:aN dvs ds)(hx:oR CX X E)(I:a6 X pins σ H s)(r:aN vs us)(h:sp (vs++dvs) H Q E):wpAny (model X.prog X.w) X.A (call (.ref f) us) (EP X pins σ Q) X.xe s:=by
 have r2:aN (vs++dvs) (us++ds):=r.append hd
 have hl:(us++ds).length=ps.length:=by rw[<- r2.length];exact F.len _ _ _ _ h
 refine wpAny_call (codeAny_mono (F.run X.A X.stack s H ⟨us,[]⟩ (us++ds) (vs++dvs) Q E hr I.env0 (hb s us I.kIn hl) r2 h) λr s' hq=>?_)
 cases r with
 |error e=>exact hx pins σ H s e s' I hq
 |ok fl=>
  cases fl with
  |ret u=>exact I.after hq
  |next=>exact False.elim hq
  |brk=>exact False.elim hq
  |cont=>exact False.elim hq
theorem vP (F:cZ X.prog X.w X.K X.mg X.base CX k f fd ps sp)(hr:cJ k X.A)(hg:Gl X x)(hm:X.mg x=some (.ref f))(hk:PySem.W.keepIn X.K (.ref f)=true)(hb:j5 X.K fd ps ds)(hd:aN dvs ds)(hx:oR CX X E)(ha:PA X (e::es) t)(hdb:(x==("__debug__":Str))=false:=by decide)(he:starEach (e::es) X.env=(false,eval e X.env)::starEach es X.env:=by rfl)(hpl:(backTo pos (starEach es X.env)).any (·.1)=false:=by rfl) :
  PE X (.Call (.Name x p) (e::es) [] pos) (vO sp dvs E t):=by
 intro pins s σ H Q I h
 refine wpAny_Call_Name_kw (B7 I hg hm ?_ hdb)
 refine PySem.W.callWith_K (h₀:=X.base) I.ok.mod.kin hk (aR (ha pos pins s σ H _ I h) λus s1 ⟨vs,H1,I1,r,q⟩=>⟨I1.kIn,?_⟩) he hpl
 exact as7 F hr hb hd hx I1 r q
end
def PK (X:Cx)(kws:List Keyword)(t:TA):Prop:=
 ∀(pos:Pos) (pins:List (Addr×Obj)) (s:Shared) (σ:St) (H:Hp) (Q:List V->Hp->Prop),a6 X pins σ H s->t σ H Q->wpAny (model X.prog X.w) X.A (evalAll ((backToKw pos (keywordEach kws X.env)).map (·.2))) (AP X pins σ Q) X.xe s
structure FnScope (N P:List Str)(sc:Scope):Prop where
 kind:sc.kind = .function
 co:sc.isCoroutine=false
 gen:sc.isGenerator=false
 nd:N.Nodup
 pre:N.take P.length=P
 par:∀x∈P,sc.names.lookup x=some .local∨sc.names.lookup x=some .cell
 nofree:∀y∈sc.names,y.2≠.free
theorem G3 {kindOf:Str->Option NameKind}{x:Str}:∀{binds:List (Str×Value)}{m:Str->Option Value},(∀v,(x,v)∉binds)->bindL kindOf binds m x=m x
 |[],_,_=>rfl
 |(n,v)::r,m,h=>by
  unfold bindL
  rw[G3 λw hw=>h w (bn5 _ hw)]
  split
  ·have:x≠n:=by rintro rfl;exact h v bm8
   simp[this]
  ·rfl
theorem G4 {kindOf:Str->Option NameKind}{x:Str}:∀{binds:List (Str×Value)}{m:Str->Option Value},(∀v,(x,v)∉binds)->bindC kindOf binds m x=m x
 |[],_,_=>rfl
 |(n,v)::r,m,h=>by
  unfold bindC
  rw[G4 λw hw=>h w (bn5 _ hw)]
  split
  ·rfl
  ·have:x≠n:=by rintro rfl;exact h v bm8
   simp[this]
theorem G5 {kindOf:Str->Option NameKind}{x:Str}{v:Value}:∀{P:List Str}{vs:List Value}{i:Nat}{m:Str->Option Value},P.Nodup->P[i]? = some x->vs[i]? = some v->kindOf x=some .local->
  bindL kindOf (P.zip vs) m x=some v
 |[],_,_,_,_,h,_,_=>by simp at h
 |_::_,[],_,_,_,_,h,_=>by simp at h
 |p::P,w::vs,0,m,nd,h1,h2,hk=>by
  simp at h1 h2;subst h1;subst h2
  show bindL kindOf ((p,w)::P.zip vs) m p=_
  unfold bindL
  rw[G3 λv hv=>(bs4.mp nd).1 (List.of_mem_zip hv).1,if_pos hk]
  simp
 |p::P,w::vs,i+1,m,nd,h1,h2,hk=>by
  show bindL kindOf ((p,w)::P.zip vs) m x=_
  unfold bindL
  exact G5 (i:=i) (bs4.mp nd).2 (by simpa using h1) (by simpa using h2) hk
theorem G6 {kindOf:Str->Option NameKind}{x:Str}{v:Value}:∀{P:List Str}{vs:List Value}{i:Nat}{m:Str->Option Value},P.Nodup->P[i]? = some x->vs[i]? = some v->kindOf x≠some .local->
  bindC kindOf (P.zip vs) m x=some v
 |[],_,_,_,_,h,_,_=>by simp at h
 |_::_,[],_,_,_,_,h,_=>by simp at h
 |p::P,w::vs,0,m,nd,h1,h2,hk=>by
  simp at h1 h2;subst h1;subst h2
  show bindC kindOf ((p,w)::P.zip vs) m p=_
  unfold bindC
  rw[G4 λv hv=>(bs4.mp nd).1 (List.of_mem_zip hv).1,if_neg hk]
  simp
 |p::P,w::vs,i+1,m,nd,h1,h2,hk=>by
  show bindC kindOf ((p,w)::P.zip vs) m x=_
  unfold bindC
  exact G6 (i:=i) (bs4.mp nd).2 (by simpa using h1) (by simpa using h2) hk
def start (N:List Str)(vs:List V):St:=vs.map some++List.replicate (N.length-vs.length) none
def dR (CX:iB)(P:Program)(w:World)(K:ad)(mg:Str->Option Value)(base:Heap)(N:List Str)(qual:Str)(scope:Scope)(f:Addr)(cd:Value)(A:Around)(outer:List Env)(s:Shared)(H:Hp)(E:XK):Cx where
 prog:=P
 w:=w
 K:=K
 mg:=mg
 base:=base
 A:=A.deeper (envOfC qual scope s.heap.objs.size f cd)
 N:=N
 s₀:=s
 H₀:=H
 env:=envOfC qual scope s.heap.objs.size f cd
 outer:=outer
 stack:=envOfC qual scope s.heap.objs.size f cd::outer
 ex:=[]
 calm:=true
 fn:=λ_=>true
 pn:=[]
 xe:=λe s'=>wpAny (model P w) (A.deeper (envOfC qual scope s.heap.objs.size f cd)) (leaving (envOfC qual scope s.heap.objs.size f cd) e) (λ_ s''=>CX outer H s E e s'') (λe' s''=>CX outer H s E e' s'') s'
theorem G7 {sc:Scope}{n:Nat}{x:Str}(h:sc.names.lookup x=some .cell):∃c,(cellsFrom n sc.names []).lookup x=some c:=by
 have q:=PySem.W.cellsFrom_some sc.names n [] (.inl h)
 exact Option.isSome_iff_exists.mp q
theorem as8 {CX:iB}{P:Program}{w:World}{K:ad}{mg:Str->Option Value}{base:Heap}{N ps:List Str}{qual:Str}{scope:Scope}{f:Addr}{cd:Value}{A:Around}{outer:List Env}{s s1:Shared}{H:Hp}{E:XK}{us:List Value}{vs:List V}(S:FnScope N ps scope)(hd:A.handled=none)(e0:rC P w K mg base A outer s H)(hl:vs.length=ps.length)(r:aN vs us)(x:InCallC s s.heap.objs.size (bindL (envOfC qual scope s.heap.objs.size f cd).kindOf (ps.zip us) λ_=>none) (cellsFrom (s.heap.objs.size+1) scope.names []) (bindC (envOfC qual scope s.heap.objs.size f cd).kindOf (ps.zip us) λ_=>none) s1) :
  a6 (dR CX P w K mg base N qual scope f cd A outer s H E) [] (start N vs) H s1:=by
 have hpl:ps.length<=N.length:=by have:=congrArg List.length S.pre;rw[bt0]at this;omega
 obtain⟨h1,tk,rfl,hk⟩:=x.done
 have noA:∀b:Addr,b∉(dR CX P w K mg base N qual scope f cd A outer s H E).ex:=λb z=>absurd (show b∈([]:List Addr) from z) (by simp)
 refine⟨⟨e0.mod,S.kind,rfl,rfl,bn1 _,λy z c h1 h2=>?_,λy hy=>?_,λy c _ h=>?_,λ_=>hd,Around.frames_deeper e0.frames,.inr ⟨rfl,rfl⟩,λb z=>absurd z (noA b),e0.bs,e0.bsz,λb _ _=>noA b,λb z=>absurd z (noA b),e0.funs,e0.frf⟩,
  rfl,e0.bare,Un.kept hk,⟨_,x.toInCall.ns,λi y v h1 h2 h3=>?_⟩,λy c h=>⟨_,x.cell y c h⟩,e0.hok.fresh (bn1 _),λy c h=>?_,λp hp=>absurd (show p∈([]:List (Addr×Obj)) from hp) (by simp),e0.hok.kept hk,?_⟩
 ·exact name_of_addr x.apart (bt7 h1) (bt7 h2)
 ·have hy:scope.names.lookup y=some .cell∨scope.names.lookup y=some .free:=hy
  rcases hy with hy|hy
  ·exact G7 hy
  ·exact absurd rfl (S.nofree _ (bt7 hy))
 ·exact bt9 (x.above y c (bt7 h))
 ·have hi:i<vs.length:=by
   unfold start at h2
   by_cases hi:i<vs.length
   ·exact hi
   ·rw[br6 (by simpa using hi)]at h2
    rw[List.getElem?_replicate]at h2
    split at h2<;>cases h2
  have ha:vs[i]? = some v:=by
   unfold start at h2
   rw[bp1 (by simpa using hi),bn4]at h2
   cases e:vs[i]? with
   |none=>rw[e]at h2;cases h2
   |some a=>rw[e]at h2;cases h2;rfl
  obtain⟨u,hu,rv⟩:=r.get ha
  have hp:ps[i]? = some y:=by
   rw[<- S.pre,bz6 (by omega)];exact h1
  have ndP:ps.Nodup:=by rw[<- S.pre];exact S.nd.sublist (List.take_sublist _ _)
  refine⟨u,rv,?_⟩
  rcases S.par y (bm3 hp) with k|k
  ·exact .inl ⟨k,G5 ndP hp hu k⟩
  ·obtain⟨c,e⟩:=G7 (n:=s.heap.objs.size+1) k
   refine .inr ⟨.inl k,c,e,?_⟩
   have q:=x.cell y c e
   rw[G6 ndP hp hu (by show scope.names.lookup y≠_;rw[k];decide)]at q
   exact q
 ·exact e0.hok.fresh (bt9 (x.above y c (bt7 h)))
 ·unfold start
  show _=N.length
  rw[bo2,bm7,bx4]
  omega
theorem G8 {CX:iB}{P:Program}{w:World}{K:ad}{mg:Str->Option Value}{base:Heap}{k:Nat}{f:Addr}{name qual:Str}{params:Arguments}{body:List Stmt}{scope:Scope}{dV kV doc pm cdv ct oc:Value}{an od:Option Addr}{osl:Array (Option Value)}{N ps:List Str}{sp:Sp}(lk:K.lookup f=some ⟨oc,od,.func (PySem.W.fnOf name qual params body scope dV kV doc pm an cdv ct),osl⟩)(hcd:PySem.W.codeIn K cdv qual=true)(S:FnScope N ps scope)(len:∀vs H Q E,sp vs H Q E->vs.length=ps.length)(hbody:∀(A:Around) (outer:List Env) (s:Shared) (H:Hp) (vs:List V) (Q:VK) (E:XK),cJ k (A.deeper (envOfC qual scope s.heap.objs.size f cdv))->sp vs H Q E->
   ∃t,eZ (dR CX P w K mg base N qual scope f cdv A outer s H E) body t/\t { nx:=λ_ H'=>Q .non H',rt:=Q } (start N vs) H) :
  cZ P w K mg base CX (k+1) f (PySem.W.fnOf name qual params body scope dV kV doc pm an cdv ct) ps sp:=by
 refine⟨len,λA outer s H args us vs Q E hr e0 hb r hsp=>?_⟩
 have hl:=len _ _ _ _ hsp
 have KX:K.In s.heap:=e0.mod.kin.keeps λb o e=>(e0.bs b o e).1
 have lim:s.heap.NoLimit:=e0.mod.nolimit.keeps λb o e=>(e0.bs b o e).1
 have hkind:∀y∈ps.zip us,scope.names.lookup y.1=some .local∨(scope.names.lookup y.1=some .cell/\((cellsFrom (s.heap.objs.size+1) scope.names []).lookup y.1).isSome=true):=λ⟨n,v⟩ hy=>by
  rcases S.par n (List.of_mem_zip hy).1 with q|q
  ·exact .inl q
  ·exact .inr ⟨q,PySem.W.cellsFrom_some _ _ _ (.inl q)⟩
 refine codeAny_call_function hr.depth (KX _ _ lk) rfl S.co S.gen rfl (PySem.W.codeRec_of KX hcd) (hb _ _ _ _ ?_)
 refine wpAny_newFunctionEnv_cells S.kind hkind λenv he s1 x=>?_
 subst he
 refine⟨lim.keeps x.toInCall.keep,codeAny_func ?_⟩
 obtain⟨t,ht,hq⟩:=hbody A outer s H vs Q E (hr.deeper _) hsp
 have I:a6 (dR CX P w K mg base N qual scope f cdv A outer s H E) [] (start N vs) H s1:=as8 S hr.hd e0 hl r x
 refine bw8 (ht [] s1 (start N vs) H _ I hq) (λfl s' hs=>?_) λe s' hs=>hs
 have fin:∀{σ':St}{H':Hp}{v:V}{u:Value},a6 (dR CX P w K mg base N qual scope f cdv A outer s H E) [] σ' H' s'->b6 v u->Q v H'->CE outer P w H s Q u s':=
  λ{σ' H' v u} J rv q=>⟨v,H',J.os,J.bare,J.base,J.hok,rv,q⟩
 cases fl with
 |ret u=>
  obtain⟨v,σ',H',J,rv,q⟩:=hs
  exact fin J rv q
 |next=>
  obtain⟨σ',H',J,q⟩:=hs
  exact fin (v:=V.non) (u:=Value.none) J rfl q
 |brk=>
  obtain⟨_,_,_,q⟩:=hs
  exact False.elim q
 |cont=>
  obtain⟨_,_,_,q⟩:=hs
  exact False.elim q
section
variable {X:Cx}{x:Str}{p pos:Pos}{e:Expr}{es:List Expr}{t:TA}{id T:String}{r:List V→Hp→VK→Prop}
def vQ (r:List V->Hp->VK->Prop)(t:TA):TE:=λσ H Q=>t σ H λvs H1=>r vs H1 Q
theorem vR (hc:dQ X (.builtin id) r)(hg:Gl X x)(hm:X.mg x=none)(hv:bootBuiltins x=some (.builtin id))(ha:PA X (e::es) t)(hn:x≠"__name__":=by decide)(hdb:(x==("__debug__":Str))=false:=by decide)(he:starEach (e::es) X.env=(false,eval e X.env)::starEach es X.env:=by rfl)(hpl:(backTo pos (starEach es X.env)).any (·.1)=false:=by rfl):PE X (.Call (.Name x p) (e::es) [] pos) (vQ r t):=by
 intro pins s σ H Q I h
 refine wpAny_Call_Name_kw (kZ I hg hm hv ?_ hn hdb)
 exact PyProof.Rows.callWith_builtin1 (aR (ha pos pins s σ H _ I h) λus s1 ⟨vs,H1,I1,r1,q1⟩=>hc pins s1 σ H1 vs us Q I1 r1 q1) he hpl
theorem G9 (hc:dQ X (.type T) r)(hg:Gl X x)(hm:X.mg x=none)(hv:bootBuiltins x=some (.type T))(ha:PA X (e::es) t)(hn:x≠"__name__":=by decide)(hdb:(x==("__debug__":Str))=false:=by decide)(he:starEach (e::es) X.env=(false,eval e X.env)::starEach es X.env:=by rfl)(hpl:(backTo pos (starEach es X.env)).any (·.1)=false:=by rfl):PE X (.Call (.Name x p) (e::es) [] pos) (vQ r t):=by
 intro pins s σ H Q I h
 refine wpAny_Call_Name_kw (kZ I hg hm hv ?_ hn hdb)
 exact bv3 (aR (ha pos pins s σ H _ I h) λus s1 ⟨vs,H1,I1,r1,q1⟩=>hc pins s1 σ H1 vs us Q I1 r1 q1) he hpl
end
end L2
namespace HT
open PySem PyProof.Rows
def bR:af->af->Bool
 |[],[]=>false
 |[],_::_=>true
 |_::_,[]=>false
 |x::xs,y::ys=>if x=y then bR xs ys else decide (x<y)
theorem lT (x y:Int)(xs ys:af):bR (x::xs) (y::ys)=if x=y then bR xs ys else decide (x<y):=rfl
theorem as9:bR [] []=false:=rfl
theorem at0 (y:Int)(ys:af):bR [] (y::ys)=true:=rfl
theorem at2 (x:Int)(xs:af):bR (x::xs) []=false:=rfl
theorem at3 (A:Around)(s:Shared)(a:Int)(t:Tok)(c:Int)(u:Tok):∃e,SeqAt.EqAt A s (.int a t) (.int c u) e/\(e=true↔a=c):=
 ⟨(a==c),SeqAt.EqAt.int_int a t c u,by simp⟩
theorem at5 (A:Around)(s:Shared)(a:Int)(t:Tok)(c:Int)(u:Tok)(prog:Program)(w:World)(E:Value->Shared->Prop)(Q:Value->Shared->Prop)(h:Q (.bool (decide (a<c))) s) :
  wpAny (model prog w) A (richCompare .Lt (.int a t) (.int c u)) Q E s:=
 (PyProof.Rows.lt_int h:wpAny (model prog w) A (compareOp .Lt (.int a t) (.int c u)) Q E s)
section
open PySem.SeqAt
open PySem.AutoSeq1 (wpAny_loadPart')
open PySem.MeetsSeq PySem.MeetsSeq2 PySem.MeetsSeq3
theorem at6 (l b:Addr)(items items2:Array Value)(n n2:Nat)(dd dd2:Option Addr)(sl sl2:Array (Option Value))(ns ms:af)(hi:IntsAre items.toList ns)(hj:IntsAre items2.toList ms) :
  Meets (Builtin.«tuple.__lt__» ⟨[.ref l,.ref b],[]⟩)
   (λ_ R s=>s.heap.get? l=some { cls:=.type "tuple",dict:=dd,data:=.seq items n,slots:=sl }/\s.heap.get? b=some { cls:=.type "tuple",dict:=dd2,data:=.seq items2 n2,slots:=sl2 }/\
    R (.ok (.ret (.bool (bR ns ms)))) s):=
 .of_wp λprog w A R s h=>by
  obtain⟨hp,g,d,tk,os⟩:=s;obtain⟨hl,hb,h⟩:=h
  have f2:=AutoSeq1.sub_tuple_tuple
  have z1:items.size=ns.length:=by rw[<- hi.length];simp
  have z2:items2.size=ms.length:=by rw[<- hj.length];simp
  wp_walk using wpAny_loadPart' hl,wpAny_loadPart' hb,wpAny_forIn_list _ (λdI b s'=>b.1=none/\s'=⟨hp,g,d,tk,os⟩/\∃(vs ws:List Value) (ns' ms':af),dI=vs.zip ws/\
   IntsAre vs ns'/\IntsAre ws ms'/\ns'.length+items2.size=ms'.length+items.size/\R (.ok (.ret (.bool (bR ns' ms')))) ⟨hp,g,d,tk,os⟩) _
  case turn=>
   rintro⟨y,x⟩ dI b s' ⟨hb',rfl,vs,ws,ns',ms',hz,hvi,hwi,hlen,hR⟩
   cases hvi with
   |nil=>rw[List.zip_nil_left]at hz;cases hz
   |cons a t hvi'=>
    cases hwi with
    |nil=>rw[List.zip_nil_right]at hz;cases hz
    |cons c u hwi'=>
     rw[List.zip_cons_cons]at hz
     injection hz with hyx hrest
     injection hyx with hy hx
     subst hy hx
     rw[lT]at hR
     simp only[bo5]at hlen
     obtain⟨e,he,hiff⟩:=at3 A.in1 ⟨hp,g,d,tk,os⟩ a t c u
     refine bm1 (he prog w _ _ ?_)
     cases e with
     |true=>
      rw[if_pos (hiff.mp rfl)]at hR
      wp_walk
      exact⟨rfl,rfl,_,_,_,_,hrest,hvi',hwi',by omega,hR⟩
     |false=>
      rw[if_neg (λq=>absurd (hiff.mpr q) bo4)]at hR
      have hri:=at5 A.in1 ⟨hp,g,d,tk,os⟩ a t c u prog w
      wp_walk using hri
      exact⟨_,rfl,by simpa using hR⟩
  case fin=>
   rintro⟨b1,b2⟩ s' ⟨hb',rfl,vs,ws,ns',ms',hz,hvi,hwi,hlen,hR⟩
   simp only at hb'
   subst hb'
   have hv:bR ns' ms'=decide (items.size<items2.size):=by
    cases hvi with
    |nil=>
     cases hwi with
     |nil=>
      simp only[List.length_nil]at hlen
      rw[as9]
      exact (bm9 (by omega)).symm
     |cons c u hw=>
      simp only[List.length_nil,bo5]at hlen
      rw[at0]
      exact (bm4 (by omega)).symm
    |cons a t hv=>
     cases hwi with
     |nil=>
      simp only[List.length_nil,bo5]at hlen
      rw[at2]
      exact (bm9 (by omega)).symm
     |cons c u hw=>
      rw[List.zip_cons_cons]at hz
      cases hz
   rw[hv]at hR
   wp_walk
   exact⟨_,rfl,by simpa[Builtin.Tuple.tupleCompareSizes] using hR⟩
  case h=>
   exact⟨rfl,rfl,items.toList,items2.toList,ns,ms,rfl,hi,hj,by omega,h⟩
end
section
variable {prog:Program}{w:World}{A:Around}{E:Value→Shared→Prop}{s:Shared}
theorem at7 {t b:Addr}{vs ws:List Value}{Q:Value->Shared->Prop}(ht:IsTup s.heap t vs.toArray)(hb:IsTup s.heap b ws.toArray)(hv:vs≠[])(h1:ws = []->Q (.ref t) s)(h2:ws≠[]->Q (.ref s.heap.objs.size) { s with heap:=s.heap.push { cls:=.type "tuple",data:=.seq (vs++ws).toArray } })(hsz:vs.length+ws.length<=sizeLine):wpAny (model prog w) A (binaryOp .Add (.ref t) (.ref b)) Q E s:=by
 obtain⟨⟨cls,dd,data,sl⟩,ho,hc,n,hd⟩:=id ht
 obtain⟨⟨cls2,dd2,data2,sl2⟩,ho2,hc2,n2,hd2⟩:=id hb
 simp only at hc hd hc2 hd2
 subst hc hd hc2 hd2
 have e:vs.toArray++ws.toArray=(vs++ws).toArray:=by simp
 by_cases hw:ws = []
 ·exact concat_meets ⟨_,ho,rfl⟩ ⟨_,ho2,rfl⟩ noFill_tuple_add seq_tuple_add PySem.F.slot_tuple_add PySem.F.entry_tuple_add (PySem.F.args_tuple_add_2 _ _)
   (tuple_addW1 t b vs.toArray ws.toArray n n2 dd dd2 sl sl2 (by simpa using hv) (by simp[hw])) ⟨ho,ho2,h1 hw⟩
 ·refine concat_meets ⟨_,ho,rfl⟩ ⟨_,ho2,rfl⟩ noFill_tuple_add seq_tuple_add PySem.F.slot_tuple_add PySem.F.entry_tuple_add (PySem.F.args_tuple_add_2 _ _)
   (tuple_addW2 t b vs.toArray ws.toArray n n2 dd dd2 sl sl2 (by simpa using hv) (by simpa using hw) (by rw[bn9,bn9];exact hsz)) ⟨ho,ho2,?_⟩
  rw[e]
  exact h2 hw
def aY (n d:Nat):Option Int->Nat
 |none=>d
 |some v=>if v<0 then (v+(n:Int)).toNat else min v.toNat n
theorem at8 (n d:Nat):aY n d none=d:=rfl
theorem at9 (n d k:Nat):aY n d (some (k:Int))=min k n:=by
 show (if (k:Int)<0 then ((k:Int)+(n:Int)).toNat else min (k:Int).toNat n)=min k n
 rw[if_neg (by omega),bp9]
theorem au0 (n d:Nat)(hd:d<=n)(o:Option Int):aY n d o<=n:=by
 cases o with
 |none=>exact hd
 |some v=>
  show (if v<0 then (v+(n:Int)).toNat else min v.toNat n)<=n
  by_cases hv:v<0
  ·rw[if_pos hv];omega
  ·rw[if_neg hv];exact Nat.min_le_right _ _
theorem J0 (v:Int)(n d:Nat):(if v<0 then max (v+(n:Int)) 0 else min v (n:Int))=((aY n d (some v):Nat):Int):=by
 show (if v<0 then max (v+(n:Int)) 0 else min v (n:Int))=(((if v<0 then (v+(n:Int)).toNat else min v.toNat n):Nat):Int)
 by_cases hv:v<0
 ·simp only[if_pos hv];omega
 ·simp only[if_neg hv];omega
theorem au1 (lo hi:Option Int)(n:Nat):Builtin.Slice.sliceAdjust lo hi 1 (n:Int)=(((aY n 0 lo:Nat):Int),((aY n n hi:Nat):Int)):=by
 have h1:¬((1:Int)<0):=by omega
 unfold Builtin.Slice.sliceAdjust
 simp only[h1,bu4]
 refine Prod.ext ?_ ?_
 ·cases lo with
  |none=>rfl
  |some v=>exact J0 v n 0
 ·cases hi with
  |none=>rfl
  |some v=>exact J0 v n n
theorem au2 (i j:Nat):Builtin.Slice.slicePlaces (i:Int) (j:Int) 1=j-i:=by
 unfold Builtin.Slice.slicePlaces
 have h1:(1:Int)>0:=by omega
 simp only[h1,if_true,Int.ediv_one]
 split<;>omega
theorem J1 {v:Value}{o:Option Int}{Q:Option Int->Shared->Prop}(p:IsPart v o)(h:Q o s):wpAny (model prog w) A (Builtin.Slice.slicePartIndex v) Q E s:=by
 cases p with
 |none=>exact slicePart_none h
 |int i t=>exact slicePart_int h
theorem J2 {sl:Addr}{vl vu:Value}{lo hi:Option Int}{n:Nat}{Q:Int×Int×Nat->Shared->Prop}(hs:s.heap.IsSliceOf sl vl vu .none)(pl:IsPart vl lo)(pu:IsPart vu hi)(h:Q (((aY n 0 lo:Nat):Int),1,aY n n hi-aY n 0 lo) s):wpAny (model prog w) A (Builtin.Slice.sliceApplied (.ref sl) (pure (n:Int))) Q E s:=by
 obtain⟨os,hos,hcs,hds⟩:=id hs
 unfold Builtin.Slice.sliceApplied Builtin.Slice.sliceFields
 refine bm1 (bm1 (bx1 hos hds (x:=vl) rfl (bm1 (bx1 hos hds (x:=vu) rfl (bm1 (bx1 hos hds (x:=.none) rfl (bn7 ?_)))))))
 refine bm1 (slicePart_none ?_)
 show wpAny _ _ (if ((1:Int)==0)=true then _ else _) _ _ s
 rw[if_neg (by decide)]
 refine bm1 (J1 pl (bm1 (J1 pu (bm1 (bn7 ?_)))))
 show wpAny _ _ (match Builtin.Slice.sliceAdjust lo hi 1 (n:Int) with|(lo,hi)=>pure (lo,(1:Int),Builtin.Slice.slicePlaces lo hi 1)) _ _ s
 rw[au1 lo hi n]
 show wpAny _ _ (pure (((aY n 0 lo:Nat):Int),(1:Int),Builtin.Slice.slicePlaces ((aY n 0 lo:Nat):Int) ((aY n n hi:Nat):Int) 1)) _ _ s
 rw[au2]
 exact bn7 h
theorem au3 (xs:Array Value)(i k:Nat):((List.range k).filterMap λ(m:Nat)=>xs[((i:Int)+(m:Int)*1).toNat]?).toArray=((xs.toList.drop i).take k).toArray:=by
 have e:(λ(m:Nat)=>xs[((i:Int)+(m:Int)*1).toNat]?)=λm=>xs[i+m]?:=by
  funext m
  have:((i:Int)+(m:Int)*1).toNat=i+m:=by omega
  rw[this]
 rw[e]
 have:=pick_run xs i k
 rw[List.filterMap_map]at this
 have e2:((λx=>xs[x]?) ∘ λx=>i+x)=λm=>xs[i+m]?:=rfl
 rw[e2]at this
 rw[this]
theorem au4 {t sl:Addr}{items:Array Value}{vl vu:Value}{lo hi:Option Int}{Q:Value->Shared->Prop}(ht:IsTup s.heap t items)(hs:s.heap.IsSliceOf sl vl vu .none)(pl:IsPart vl lo)(pu:IsPart vu hi)(hw:¬(aY items.size 0 lo=0/\aY items.size items.size hi=items.size))(h:Q (.ref s.heap.objs.size) { s with heap:=s.heap.push { cls:=.type "tuple",data:=.seq ((items.toList.drop (aY items.size 0 lo)).take (aY items.size items.size hi-aY items.size 0 lo)).toArray } })(hsz:items.size<=sizeLine):wpAny (model prog w) A (getItem (.ref t) (.ref sl)) Q E s:=by
 have htake:sizeOk (.seq ((items.toList.drop (aY items.size 0 lo)).take (aY items.size items.size hi-aY items.size 0 lo)).toArray):=by
  show ((items.toList.drop (aY items.size 0 lo)).take (aY items.size items.size hi-aY items.size 0 lo)).toArray.size<=sizeLine
  rw[bn9,bt0,by3,Array.length_toList]
  omega
 have hj:aY items.size items.size hi<=items.size:=au0 _ _ (bn1 _) hi
 obtain⟨os,hos,hcs,hds⟩:=id hs
 have hTs:s.TypeIs (.ref sl) "slice":=⟨os,hos,hcs⟩
 unfold getItem
 try with_reducible refine by6 ?_
 first|refine bm1 (bn7 ?_)|skip
 refine bm1 (wpAny_sequenceKey ht.typeIs (by decide) ?_)
 refine bm1 (bw5 (name:=Str.ofString "__getitem__") ht.typeIs bz2
  (bw2 bz2 ht.typeIs entry_tuple_getitem ?_ (args_tuple_getitem _ _)))
 show wpAny _ _ (Builtin.Tuple.tupleItemsOf (.ref t) >>= _) _ _ s
 refine bm1 (tupleItemsOf_ ht ?_)
 refine bm1 (wpAny_typeOf hTs ?_)
 rw[if_pos (by decide)]
 refine bm1 (J2 hs pl pu ?_)
 have hno:¬((((aY items.size 0 lo:Nat):Int)==0&&(1:Int)==1&&(aY items.size items.size hi-aY items.size 0 lo)==items.size)=true):=by
  intro q
  rw[br3,br3]at q
  have q1:((aY items.size 0 lo:Nat):Int)=0:=eq_of_beq q.1.1
  have q2:aY items.size items.size hi-aY items.size 0 lo=items.size:=eq_of_beq q.2
  exact hw ⟨by omega,by omega⟩
 show wpAny _ _ (if (((aY items.size 0 lo:Nat):Int)==0&&(1:Int)==1&&(aY items.size items.size hi-aY items.size 0 lo)==items.size)=true then _ else _) _ _ s
 rw[if_neg hno,au3]
 first
  |exact bm1 (m:=Builtin.Tuple.tupleExact _) (bv7 (bn7 ⟨_,rfl,bn7 h⟩) htake)
  |exact bm1 (m:=Builtin.Tuple.tupleExact _) (bv7 (bm1 (bn7 (bn7 ⟨_,rfl,bn7 h⟩))) htake)
  |exact bm1 (bm1 (m:=Builtin.Tuple.tupleExact _) (bv7 (bn7 (bn7 ⟨_,rfl,bn7 h⟩)) htake))
  |exact bm1 (bm1 (m:=Builtin.Tuple.tupleExact _) (bv7 (bn7 ⟨_,rfl,bn7 h⟩) htake))
end
end HT
namespace L2
open PySem PySem.Spec PyProof.Rows
abbrev TO:=St->Hp->(Option Int->Hp->Prop)->Prop
def PO (X:Cx)(e:Option Expr)(t:TO):Prop:=
 ∀(pins:List (Addr×Obj)) (s:Shared) (σ:St) (H:Hp) (Q:Option Int->Hp->Prop),a6 X pins σ H s->t σ H Q->
  wpAny (model X.prog X.w) X.A (evalPart e X.env) (λu s'=>∃o H',a6 X pins σ H' s'/\IsPart u o/\Q o H') X.xe s
def au5:TO:=λ_ H Q=>Q none H
def au6 (t:TE):TO:=λσ H Q=>t σ H λx H1=>∃i,x = .int i/\Q (some i) H1
theorem nB {ns:af}:∀{us:List Value},aN (ns.map V.int) us->IntsAre us ns:=by
 induction ns with
 |nil=>intro us r;rw[List.map_nil]at r;cases r;exact .nil
 |cons n ns ih=>
  intro us r
  rw[bp2]at r
  cases r with
  |cons r1 r2=>
   obtain⟨t,e⟩:=r1
   subst e
   exact .cons n t (ih r2)
section
variable {X:Cx}{e:Expr}{te:TE}{lo hi:Option Expr}{tl th:TO}{pos p2:Pos}
theorem vS:PO X none au5:=by
 intro pins s σ H Q I h
 rw[evalPart_none]
 exact bn7 ⟨none,H,I,.none,h⟩
theorem vT (h:PE X e te):PO X (some e) (au6 te):=by
 intro pins s σ H Q I hw
 rw[evalPart_some]
 refine aR (h pins s σ H _ I hw) λu s1 ⟨x,H1,I1,r1,q1⟩=>?_
 obtain⟨i,rfl,q⟩:=q1
 obtain⟨t,rfl⟩:=r1
 exact⟨some i,H1,I1,.int i t,q⟩
def l7 (X:Cx)(r:V->Option Int->Option Int->Hp->VK->Prop):Prop:=
 ∀(pins:List (Addr×Obj)) (s:Shared) (σ:St) (H:Hp) (x:V) (v vl vu:Value) (lo hi:Option Int) (sl:Addr) (Q:VK),a6 X pins σ H s->b6 x v->s.heap.IsSliceOf sl vl vu .none->IsPart vl lo->IsPart vu hi->r x lo hi H Q->
  ∃T id,typeLookup (.type T) "__getitem__" = pure (some (.builtin id))/\s.TypeIs v T/\wpAny (model X.prog X.w) X.A (getItem v (.ref sl)) (EP X pins σ Q) X.xe s
theorem l7.or {r r':V->Option Int->Option Int->Hp->VK->Prop}(h:l7 X r)(h':l7 X r'):l7 X (λx lo hi H Q=>r x lo hi H Q∨r' x lo hi H Q):=by
 intro pins s σ H x v vl vu lo hi sl Q I rx hs pl pu q
 rcases q with q|q
 ·exact h pins s σ H x v vl vu lo hi sl Q I rx hs pl pu q
 ·exact h' pins s σ H x v vl vu lo hi sl Q I rx hs pl pu q
def tSl (r:V->Option Int->Option Int->Hp->VK->Prop)(te:TE)(tl th:TO):TE:=λσ H Q=>te σ H λx H1=>tl σ H1 λl H2=>th σ H2 λu H3=>r x l u H3 Q
theorem vU {r:V->Option Int->Option Int->Hp->VK->Prop}(hr:l7 X r)(he:PE X e te)(hl:PO X lo tl)(hu:PO X hi th):PE X (.Subscript e (.Slice lo hi none p2) pos) (tSl r te tl th):=by
 intro pins s σ H Q I h
 refine Subscript_ (aR (he pins s σ H _ I h) λv s1 ⟨x,H1,I1,r1,q1⟩=>?_)
 refine wpAny_Slice (aR (hl pins s1 σ H1 _ I1 q1) λvl s2 ⟨l,H2,I2,pl,q2⟩=>aR (hu pins s2 σ H2 _ I2 q2) λvu s3 ⟨u,H3,I3,pu,q3⟩=>?_)
 rw[evalPart_none]
 refine bn7 ?_
 have I4:a6 X pins σ H3 { s3 with heap:=s3.heap.push { cls:=.type "slice",data:=.fields #[vl,vu,.none] } }:=I3.kept (t':=s3.toks) λb ob q=>bm5 _ q
 obtain⟨T,id,hT,ht,hg⟩:=hr pins { s3 with heap:=s3.heap.push { cls:=.type "slice",data:=.fields #[vl,vu,.none] } } σ H3 x v vl vu l u s3.heap.objs.size Q I4 r1 (Heap.IsSliceOf.new ..) pl pu q3
 show wpAny (model X.prog X.w) X.A (subscriptTail e (.Slice lo hi none p2) v (.ref s3.heap.objs.size)) (EP X pins σ Q) X.xe { s3 with heap:=s3.heap.push { cls:=.type "slice",data:=.fields #[vl,vu,.none] } }
 exact tail_any (ops:=[.ref s3.heap.objs.size,v]) ht hT hg (by with_unfolding_all rfl)
def fB (xs:List V)(lo hi:Option Int):List V:=(xs.drop (HT.aY xs.length 0 lo)).take (HT.aY xs.length xs.length hi-HT.aY xs.length 0 lo)
theorem J3 (xs:List V)(lo hi:Option Int):(fB xs lo hi).length<=xs.length:=by
 unfold fB
 rw[bt0,by3]
 omega
def au7 (K:ad):V->Option Int->Option Int->Hp->VK->Prop:=λx lo hi H Q=>∃a xs,x = .ref a/\aO K H a xs/\
 ¬(HT.aY xs.length 0 lo=0/\HT.aY xs.length xs.length hi=xs.length)/\∀p,H p=none->Q (.ref p) (upd H p (.tup (fB xs lo hi)))
theorem au8:l7 X (au7 X.K):=by
 intro pins s σ H x v vl vu lo hi sl Q I rx hs pl pu h
 obtain⟨a,xs,rfl,hx,hw,q⟩:=h
 cases rx
 obtain⟨its,r,ht,hz⟩:=I.tuple hx
 have hlen:its.toArray.size=xs.length:=by rw[bn9];exact r.length.symm
 refine⟨"tuple",_,PyProof.Rows.slot_tuple_getitem.lookup,ht.typeIs,?_⟩
 refine HT.au4 ht hs pl pu (by rw[hlen];exact hw) ?_ (by rw[hlen];exact hz)
 rw[hlen]
 refine⟨.ref s.heap.objs.size,_,I.laid (t':=s.toks) (o:=.tup (fB xs lo hi)) (λb ob q=>bm5 _ q) (bn1 _) ?_,rfl,q _ (I.hok.fresh (bn1 _))⟩
 exact⟨bs0 (J3 xs lo hi) hz,_,(r.drop (HT.aY xs.length 0 lo)).take (HT.aY xs.length xs.length hi-HT.aY xs.length 0 lo),IsTup.new _ _,iZ.new _ _ rfl⟩
def au9 (K:ad):R2:=λx y H Q=>∃a b xs ys,x = .ref a/\y = .ref b/\aO K H a xs/\aO K H b ys/\xs≠[]/\xs.length+ys.length<=sizeLine/\
 (ys = []->Q (.ref a) H)/\(ys≠[]->∀p,H p=none->Q (.ref p) (upd H p (.tup (xs++ys))))
theorem aN.nil_iff {xs:List V}{us:List Value}(r:aN xs us):us = []↔xs = []:=by
 cases r with
 |nil=>simp
 |cons _ _=>simp
theorem av0:cM X (binaryOp .Add) (au9 X.K):=by
 intro pins s σ H x y v u Q I rx ry h
 obtain⟨a,b,xs,ys,rfl,rfl,ha,hb,hx,hz,q1,q2⟩:=h
 cases rx
 cases ry
 obtain⟨its,r1,p1,_⟩:=I.tuple ha
 obtain⟨its2,r2,p2,_⟩:=I.tuple hb
 refine HT.at7 p1 p2 (λz=>hx (r1.nil_iff.mp z)) (λz=>⟨.ref a,H,I,rfl,q1 (r2.nil_iff.mp z)⟩) (λz=>?_) (by rw[<- r1.length,<- r2.length];exact hz)
 refine⟨.ref s.heap.objs.size,_,I.laid (t':=s.toks) (o:=.tup (xs++ys)) (λb ob q=>bm5 _ q) (bn1 _) ?_,rfl,q2 (λw=>z (r2.nil_iff.mpr w)) _ (I.hok.fresh (bn1 _))⟩
 exact⟨by rw[bo2];exact hz,_,r1.append r2,IsTup.new _ _,iZ.new _ _ rfl⟩
end
def fX (n:Nat)(i:Int):Option Nat:=if 0<=i then (if i<n then some i.toNat else none) else if -(n:Int)<=i then some (i+n).toNat else none
def atI {α:Type}(xs:List α)(i:Int):Option α:=(fX xs.length i).bind λj=>xs[j]?
theorem J4 {n:Nat}{i:Int}{j:Nat}(h:fX n i=some j):seqIndex? i n=some j/\j<n/\-(n:Int)<=i/\i<n:=by
 unfold fX at h
 by_cases h0:0<=i
 ·rw[if_pos h0]at h
  by_cases h1:i<n
  ·rw[if_pos h1]at h
   have e:i.toNat=j:=bo9 h
   exact⟨by rw[seqIndex_of h0 h1,e],by omega,by omega,h1⟩
  ·rw[if_neg h1]at h;cases h
 ·rw[if_neg h0]at h
  by_cases h1:-(n:Int)<=i
  ·rw[if_pos h1]at h
   have e:(i+n).toNat=j:=bo9 h
   exact⟨by rw[seqIndex_neg (by omega) h1,e],by omega,h1,by omega⟩
  ·rw[if_neg h1]at h;cases h
theorem vV {α:Type}{xs:List α}{i:Int}{v:α}(h:atI xs i=some v):∃j,seqIndex? i xs.length=some j/\xs[j]? = some v/\j<xs.length/\-(xs.length:Int)<=i/\i<xs.length:=by
 unfold atI at h
 cases e:fX xs.length i with
 |none=>rw[e]at h;cases h
 |some j=>
  rw[e]at h
  obtain⟨h1,h2,h3,h4⟩:=J4 e
  exact⟨j,h1,h,h2,h3,h4⟩
theorem jU {α:Type}{xs:List α}{j:Nat}{v:α}(h:xs[j]? = some v):atI xs (j:Int)=some v:=by
 have hj:j<xs.length:=(bn2.mp h).1
 have e:fX xs.length (j:Int)=some j:=by
  unfold fX
  rw[if_pos (by omega),if_pos (by omega)];simp
 unfold atI;rw[e];exact h
def J5 (b:Expr):Prop:=∀o i,subscripted b false o i=operate [o,i] (getItem o i)
def jV (X:Cx)(r:R2):Prop:=
 ∀(value slice:Expr) (pins:List (Addr×Obj)) (s:Shared) (σ:St) (H:Hp) (x y:V) (v u:Value) (Q:VK),a6 X pins σ H s->b6 x v->b6 y u->r x y H Q->
  subscripted slice false v u=operate [v,u] (getItem v u)->wpAny (model X.prog X.w) X.A (subscriptTail value slice v u) (EP X pins σ Q) X.xe s
def J6 (X:Cx)(id:String)(r:V->List V->Hp->VK->Prop):Prop:=
 ∀(pins:List (Addr×Obj)) (s:Shared) (σ:St) (H:Hp) (x:V) (xs:List V) (v:Value) (us:List Value) (Q:VK),a6 X pins σ H s->b6 x v->aN xs us->r x xs H Q->
  wpAny (model X.prog X.w) X.A (call (.builtin id) (v::us)) (EP X pins σ Q) X.xe s
section
variable {X:Cx}{a b:Expr}{ta tb:TE}{pos:Pos}
theorem jV.or {r r':R2}(h:jV X r)(h':jV X r'):jV X (λx y H Q=>r x y H Q∨r' x y H Q):=by
 intro value slice pins s σ H x y v u Q I rx ry q hs
 rcases q with q|q
 ·exact h value slice pins s σ H x y v u Q I rx ry q hs
 ·exact h' value slice pins s σ H x y v u Q I rx ry q hs
theorem jW {r:R2}(hr:jV X r)(ha:PE X a ta)(hb:PE X b tb)(hs:J5 b):PE X (.Subscript a b pos) (oP r ta tb):=by
 intro pins s σ H Q I h
 exact Subscript_ (vF ha hb I h λv u s2 x y H2 I2 rx ry q=>hr a b pins s2 σ H2 x y v u Q I2 rx ry q (hs _ _))
def J7 (K:ad):R2:=λx y H Q=>∃p xs i v,x = .ref p/\y = .int i/\aM K H p xs/\atI xs i=some v/\Q v H
def J8 (K:ad):R2:=λx y H Q=>∃p xs i v,x = .ref p/\y = .int i/\aO K H p xs/\atI xs i=some v/\Q v H
def J9:R2:=λx y H Q=>∃z i c,x = .str z/\y = .int i/\z.length<=sizeLine/\atI z.cps.toList i=some c/\Q (.str ⟨#[c]⟩) H
theorem oS:jV X (J7 X.K):=by
 intro value slice pins s σ H x y v u Q I rx ry h hs
 obtain⟨p,xs,i,z,rfl,rfl,hq,he,q⟩:=h
 cases rx
 obtain⟨t,rfl⟩:=ry
 obtain⟨its,r,pl,hz⟩:=I.list hq
 obtain⟨j,h1,h2,h3,h4,h5⟩:=vV he
 obtain⟨w,ew,rw'⟩:=r.get h2
 have hl:=r.length
 have hn:=nA
 have fin:EP X pins σ Q w s:=⟨z,H,I,rw',q⟩
 by_cases h0:0<=i
 ·have hj:i.toNat=j:=by
   rw[seqIndex_of h0 h5]at h1
   exact bo9 h1
  exact item_listR pl.isList h0 (by omega) (by rw[hj];simpa using ew) fin hs
 ·have hj:(i+(its.toArray.size:Int)).toNat=j:=by
   rw[seqIndex_neg (by omega) h4]at h1
   rw[bn9,<- hl]
   exact bo9 h1
  exact subscriptTail_builtinR (x:=w) pl.isList.typeIs slot_list_getitem.lookup
   (wpAny_getItem_list_neg (Q:=λr s'=>r=w/\EP X pins σ Q r s') pl.isList (by omega) (by rw[bn9]<;>omega) (by omega) (by rw[hj];simpa using ew) ⟨rfl,fin⟩) hs
theorem oT:jV X (J8 X.K):=by
 intro value slice pins s σ H x y v u Q I rx ry h hs
 obtain⟨p,xs,i,z,rfl,rfl,hq,he,q⟩:=h
 cases rx
 obtain⟨t,rfl⟩:=ry
 obtain⟨its,r,pl,hz⟩:=I.tuple hq
 obtain⟨j,h1,h2,h3,h4,h5⟩:=vV he
 obtain⟨w,ew,rw'⟩:=r.get h2
 have hl:=r.length
 have hn:=nA
 have fin:EP X pins σ Q w s:=⟨z,H,I,rw',q⟩
 exact subscriptTail_builtinR (x:=w) pl.typeIs slot_tuple_getitem.lookup
  (getItem_tuple (j:=j) (Q:=λr s'=>r=w/\EP X pins σ Q r s') pl (by omega) (by omega) (by rw[bn9,<- hl];exact h1) (by simpa using ew) ⟨rfl,fin⟩) hs
theorem av1:jV X J9:=by
 intro value slice pins s σ H x y v u Q I rx ry h hs
 obtain⟨z,i,c,rfl,rfl,hz,he,q⟩:=h
 obtain⟨t,rfl⟩:=rx
 obtain⟨t',rfl⟩:=ry
 obtain⟨j,h1,h2,h3,h4,h5⟩:=vV he
 have hl:z.cps.toList.length=z.length:=by simp[Str.length]
 rw[hl]at h1 h4 h5
 have hn:=nA
 exact tail_any (typeIs_str s z t) slot_str_getitem.lookup (getItem_str (c:=c) (by
  have e1:decide (i < -(2^63:Int))=false:=bm9 (by omega)
  have e2:decide (i >= 2^63)=false:=bm9 (by omega)
  rw[e1,e2,Bool.or_false]) (by rw[h1];simpa using h2) ⟨.str ⟨#[c]⟩,H,I.tok _,⟨_,rfl⟩,q⟩) hs
def K0 (K:ad):R2:=λx y H Q=>J7 K x y H Q∨J8 K x y H Q∨J9 x y H Q
theorem av2:jV X (K0 X.K):=oS.or (oT.or av1)
theorem av3 (its:List Value)(n j:Nat)(u:Value):Obj.mapSeq (·.setIfInBounds j u) { cls:=.type "list",data:=.seq its.toArray n }={ cls:=.type "list",data:=.seq (its.set j u).toArray n }:=by
 simp[Obj.mapSeq]
theorem a6.lst {pins:List (Addr×Obj)}{σ:St}{H:Hp}{s:Shared}{p:Addr}{xs:List V}(I:a6 X pins σ H s)(h:H p=some (.lst xs)) :
  ∃(its:List Value) (n:Nat),aN xs its/\s.heap.get? p=some { cls:=.type "list",data:=.seq its.toArray n }/\xs.length<=sizeLine:=by
 obtain⟨z,its,n,r,e⟩:=I.hok p _ h
 exact⟨its,n,r,e,z⟩
theorem a6.lstUpd {pins:List (Addr×Obj)}{σ:St}{H:Hp}{s:Shared}{p:Addr}{xs ys:List V}{its its':List Value}{n n':Nat}{f:Obj->Obj}(I:a6 X pins σ H s)(h:H p=some (.lst xs))(ho:s.heap.get? p=some { cls:=.type "list",data:=.seq its.toArray n })(hf:f { cls:=.type "list",data:=.seq its.toArray n }={ cls:=.type "list",data:=.seq its'.toArray n' })(r:aN ys its')(hz:ys.length<=sizeLine)(t:Nat) :
  a6 X pins σ (upd H p (.lst ys)) { s with heap:=s.heap.update p f,toks:=t }:=by
 have e:(s.heap.update p f).get? p=some { cls:=.type "list",data:=.seq its'.toArray n' }:=by
  rw[Heap.get?_update_self f ho (by rw[hf]<;>rfl),hf]
 refine I.write (x:=p) (e:=p) (by rw[h];trivial) (.inl rfl) (λb u hb q=>(Heap.get?_update_other _ _ (Ne.symm hb)).trans q) ⟨_,e⟩ ?_
 exact⟨hz,its',n',r,e⟩
def vW:V->V->V->Hp->(Hp->Prop)->Prop:=λo i v H Q=>∃p xs k j,o = .ref p/\i = .int k/\H p=some (.lst xs)/\fX xs.length k=some j/\Q (upd H p (.lst (xs.set j v)))
theorem av4:C6 X vW:=by
 intro pins s σ H o i v ov iv u Q I ro ri rv h
 obtain⟨p,xs,k,j,rfl,rfl,hp,hj,q⟩:=h
 cases ro
 obtain⟨t,rfl⟩:=ri
 obtain⟨its,n,r,ho,hz⟩:=I.lst hp
 obtain⟨h1,h2,h3,h4⟩:=J4 hj
 have hl:=r.length
 have hn:=nA
 have I':a6 X pins σ (upd H p (.lst (xs.set j v))) { s with heap:=s.heap.update p (Obj.mapSeq (·.setIfInBounds j u)) }:=
  I.lstUpd hp ho (av3 its n j u) (r.set rv j) (by rw[bs5];exact hz) s.toks
 by_cases h0:0<=k
 ·have hk:k.toNat=j:=by
   rw[seqIndex_of h0 h4]at h1
   exact bo9 h1
  exact PySem.W.ki_setAt ho h0 (by omega) (by rw[bn9,<- hl];exact h4) (by rw[hk];exact⟨_,I',q⟩)
 ·have hk:(k+(its.toArray.size:Int)).toNat=j:=by
   rw[seqIndex_neg (by omega) h3]at h1
   rw[bn9,<- hl]
   exact bo9 h1
  exact PySem.W.ki_setBack ho (by omega) (by rw[bn9,<- hl];exact h3) (by omega) (by rw[hk];exact⟨_,I',q⟩)
theorem av5 (lo hi:Option Int)(n:Nat):(sliceBounds lo hi none n).1=((HT.aY n 0 lo:Nat):Int)/\(sliceBounds lo hi none n).2.1=((HT.aY n n hi:Nat):Int)/\(sliceBounds lo hi none n).2.2=1:=by
 refine⟨?_,?_,rfl⟩
 ·cases lo with
  |none=>simp[sliceBounds,HT.aY]
  |some i=>
   simp only[sliceBounds,HT.aY,Option.getD_none,show (1:Int)>0 by decide,if_true]
   by_cases h:i<0
   ·simp only[h,if_true]<;>omega
   ·simp only[h,bu4]<;>omega
 ·cases hi with
  |none=>simp[sliceBounds,HT.aY]
  |some i=>
   simp only[sliceBounds,HT.aY,Option.getD_none,show (1:Int)>0 by decide,if_true]
   by_cases h:i<0
   ·simp only[h,if_true]<;>omega
   ·simp only[h,bu4]<;>omega
theorem av6 (its:List Value)(lo hi:Option Int):slicePick its.toArray lo hi none=((its.drop (HT.aY its.length 0 lo)).take (HT.aY its.length its.length hi-HT.aY its.length 0 lo)).toArray:=by
 obtain⟨h1,h2,h3⟩:=av5 lo hi its.toArray.size
 unfold slicePick
 rw[h1,h2,h3]
 simp only[sliceRange_one,pick_run,bn9]<;>rfl
def av7 (K:ad):V->Option Int->Option Int->Hp->VK->Prop:=λx lo hi H Q=>∃a xs,x = .ref a/\aM K H a xs/\∀p,H p=none->Q (.ref p) (upd H p (.lst (fB xs lo hi)))
theorem K1:l7 X (av7 X.K):=by
 intro pins s σ H x v vl vu lo hi sl Q I rx hs pl pu h
 obtain⟨a,xs,rfl,hx,q⟩:=h
 cases rx
 obtain⟨its,r,ht,hz⟩:=I.list hx
 have hlen:=r.length
 refine⟨"list",_,slot_list_getitem.lookup,ht.isList.typeIs,?_⟩
 refine wpAny_getItem_list_slice ht.isList hs pl pu .none (by simp) ?_ (by rw[bn9]<;>omega)
 rw[av6,<- hlen]
 refine⟨.ref s.heap.objs.size,_,I.laid (t':=s.toks) (o:=.lst (fB xs lo hi)) (λb ob q=>bm5 _ q) (bn1 _) ?_,rfl,q _ (I.hok.fresh (bn1 _))⟩
 exact⟨bs0 (J3 xs lo hi) hz,_,0,(r.drop (HT.aY xs.length 0 lo)).take (HT.aY xs.length xs.length hi-HT.aY xs.length 0 lo),bp3 _ rfl⟩
def jX:V->Bool
 |.non=>true
 |.bl _=>true
 |.int _=>true
 |.str _=>true
 |_=>false
def iN:V->V->Bool
 |.non,.non=>true
 |.bl a,.bl b=>a==b
 |.bl a,.int b=>(if a then 1 else 0)==b
 |.int a,.bl b=>a==(if b then 1 else 0)
 |.int a,.int b=>a==b
 |.str a,.str b=>a==b
 |_,_=>false
theorem av8 {A:Around}{s:Shared}{y x:V}{u v:Value}(ry:b6 y u)(rx:b6 x v)(fy:jX y=true)(fx:jX x=true):SeqAt.EqAt A s u v (iN y x):=by
 cases y with
 |non=>
  cases ry
  cases x with
  |non=>cases rx;exact SeqAt.EqAt.same _
  |bl b=>cases rx;exact SeqAt.EqAt.none_bool b
  |int b=>obtain⟨t,rfl⟩:=rx;exact SeqAt.EqAt.none_int b t
  |str b=>obtain⟨t,rfl⟩:=rx;exact SeqAt.EqAt.none_str b t
  |_=>exact absurd (show false=true from fx) bo4
 |bl a=>
  cases ry
  cases x with
  |non=>cases rx;exact SeqAt.EqAt.bool_none a
  |bl b=>cases rx;exact SeqAt.EqAt.bool_bool a b
  |int b=>obtain⟨t,rfl⟩:=rx;exact SeqAt.EqAt.bool_int a b t
  |str b=>obtain⟨t,rfl⟩:=rx;exact SeqAt.EqAt.bool_str a b t
  |_=>exact absurd (show false=true from fx) bo4
 |int a=>
  obtain⟨t',rfl⟩:=ry
  cases x with
  |non=>cases rx;exact SeqAt.EqAt.int_none a t'
  |bl b=>cases rx;exact SeqAt.EqAt.int_bool a t' b
  |int b=>obtain⟨t,rfl⟩:=rx;exact SeqAt.EqAt.int_int a t' b t
  |str b=>obtain⟨t,rfl⟩:=rx;exact SeqAt.EqAt.int_str a t' b t
  |_=>exact absurd (show false=true from fx) bo4
 |str a=>
  obtain⟨t',rfl⟩:=ry
  cases x with
  |non=>cases rx;exact SeqAt.EqAt.str_none a t'
  |bl b=>cases rx;exact SeqAt.EqAt.str_bool a t' b
  |int b=>obtain⟨t,rfl⟩:=rx;exact SeqAt.EqAt.str_int a t' b t
  |str b=>obtain⟨t,rfl⟩:=rx;exact SeqAt.EqAt.str_str a t' b t
  |_=>exact absurd (show false=true from fx) bo4
 |_=>exact absurd (show false=true from fy) bo4
def fY (x:V)(u:Value):Bool:=match u with
 |.none=>iN .non x
 |.bool b=>iN (.bl b) x
 |.int i _=>iN (.int i) x
 |.str z _=>iN (.str z) x
 |_=>false
theorem K2 {x y:V}{u:Value}(r:b6 y u)(f:jX y=true):fY x u=iN y x:=by
 cases y with
 |non=>cases r;rfl
 |bl b=>cases r;rfl
 |int i=>obtain⟨t,rfl⟩:=r;rfl
 |str z=>obtain⟨t,rfl⟩:=r;rfl
 |_=>exact absurd (show false=true from f) bo4
theorem oU {x:V}:∀{xs:List V}{us:List Value},aN xs us->xs.all jX=true->us.any (fY x)=xs.any λy=>iN y x
 |_,_,.nil,_=>rfl
 |y::xs,u::us,.cons r t,f=>by
  rw[List.all_cons,br3]at f
  rw[bz7,bz7,K2 r f.1,oU t f.2]
theorem oV {A:Around}{s:Shared}{x:V}{v:Value}(rx:b6 x v)(fx:jX x=true):∀{xs:List V}{us:List Value},aN xs us->xs.all jX=true->∀u∈us,SeqAt.EqAt A s u v (fY x u)
 |_,_,.nil,_=>λu hu=>by cases hu
 |y::xs,u::us,.cons r t,f=>λu' hu=>by
  rw[List.all_cons,br3]at f
  rcases bn8.mp hu with rfl|hu
  ·rw[K2 r f.1];exact av8 r rx f.1 fx
  ·exact oV rx fx t f.2 u' hu
def lU (x:V)(xs:List V):Bool:=xs.any λy=>iN y x
def oW (K:ad)(neg:Bool):R2:=λx y H Q=>∃p xs,y = .ref p/\(aM K H p xs∨aO K H p xs)/\jX x=true/\xs.all jX=true/\Q (.bl (if neg then !lU x xs else lU x xs)) H
theorem vX:cM X (compareOp .In) (oW X.K false):=by
 intro pins s σ H x y v u Q I rx ry h
 obtain⟨p,xs,rfl,hq,fx,fs,q⟩:=h
 cases ry
 rcases hq with hq|hq
 ·obtain⟨its,r,pl,hz⟩:=I.list hq
  refine SeqAt.in_listAt (fY x) pl.isList (λw hw=>oV rx fx r fs w (by simpa using hw)) ⟨.bl _,H,I,rfl,?_⟩
  rw[show its.toArray.any (fY x)=its.any (fY x) by simp,oU r fs]
  exact q
 ·obtain⟨its,r,pl,hz⟩:=I.tuple hq
  refine SeqAt.in_tupleAt (fY x) pl (λw hw=>oV rx fx r fs w (by simpa using hw)) ⟨.bl _,H,I,rfl,?_⟩
  rw[show its.toArray.any (fY x)=its.any (fY x) by simp,oU r fs]
  exact q
theorem av9:cM X (compareOp .NotIn) (oW X.K true):=by
 intro pins s σ H x y v u Q I rx ry h
 obtain⟨p,xs,rfl,hq,fx,fs,q⟩:=h
 cases ry
 rcases hq with hq|hq
 ·obtain⟨its,r,pl,hz⟩:=I.list hq
  refine SeqAt.notIn_listAt (fY x) pl.isList (λw hw=>oV rx fx r fs w (by simpa using hw)) ⟨.bl _,H,I,rfl,?_⟩
  rw[show its.toArray.any (fY x)=its.any (fY x) by simp,oU r fs]
  exact q
 ·obtain⟨its,r,pl,hz⟩:=I.tuple hq
  refine SeqAt.notIn_tupleAt (fY x) pl (λw hw=>oV rx fx r fs w (by simpa using hw)) ⟨.bl _,H,I,rfl,?_⟩
  rw[show its.toArray.any (fY x)=its.any (fY x) by simp,oU r fs]
  exact q
theorem aw0:dQ X (.builtin "len") (λxs H Q=>∃p ys,xs = [.ref p]/\(aM X.K H p ys∨aO X.K H p ys)/\Q (.int ys.length) H):=by
 intro pins s σ H xs us Q I r h
 obtain⟨p,ys,rfl,hq,q⟩:=h
 obtain⟨u,rfl,rx⟩:=iA r
 cases rx
 have hn:=nA
 rcases hq with hq|hq
 ·obtain⟨its,r',pl,hz⟩:=I.list hq
  have hlen:=r'.length
  exact Calls.call_len_list pl.isList (by simp only[bn9]<;>omega) ⟨.int ys.length,H,I.tok _,⟨s.toks+1,by rw[bn9,hlen]⟩,q⟩
 ·obtain⟨its,r',pl,hz⟩:=I.tuple hq
  have hlen:=r'.length
  exact len_tuple pl (by simp only[bn9]<;>omega) ⟨.int ys.length,H,I.tok _,⟨s.toks+1,by rw[bn9,hlen]⟩,q⟩
theorem dQ.or {f:Value}{r r':List V->Hp->VK->Prop}(h:dQ X f r)(h':dQ X f r'):dQ X f (λxs H Q=>r xs H Q∨r' xs H Q):=by
 intro pins s σ H xs us Q I rs q
 rcases q with q|q
 ·exact h pins s σ H xs us Q I rs q
 ·exact h' pins s σ H xs us Q I rs q
theorem aw1:dQ X (.type "tuple") (λxs H Q=>∃p ys,xs = [.ref p]/\((aM X.K H p ys/\∀l,H l=none->Q (.ref l) (upd H l (.tup ys)))∨(aO X.K H p ys/\Q (.ref p) H))):=by
 intro pins s σ H xs us Q I r h
 obtain⟨p,ys,rfl,h⟩:=h
 obtain⟨u,rfl,rx⟩:=iA r
 cases rx
 rcases h with⟨hq,q⟩|⟨hq,q⟩
 ·obtain⟨its,r',pl,hz⟩:=I.list hq
  have hlen:=r'.length
  refine call_tuple_list pl.isList (λh' kp=>?_) (by simp only[bn9]<;>omega)
  have I1:a6 X pins σ H { s with heap:=h' }:=I.kept (t':=s.toks) kp
  have I2:a6 X pins σ (upd H h'.objs.size (.tup ys)) { s with heap:=h'.push { cls:=.type "tuple",data:=.seq its.toArray } }:=
   I1.laid (t':=s.toks) (λb o e=>bm5 _ e) (bn1 _) (show cL X.prog X.w _ _ _ (.tup ys) from ⟨hz,its,r',IsTup.new _ _,iZ.new _ _ rfl⟩)
  exact⟨.ref h'.objs.size,_,I2,rfl,q _ (I1.hok.fresh (bn1 _))⟩
 ·obtain⟨its,r',pl,hz⟩:=I.tuple hq
  exact call_tuple_same pl ⟨.ref p,H,I,rfl,q⟩
def oX (K:ad)(T:String)(x:V)(H:Hp):Prop:=match x with
 |.str _=>T="str"
 |.int _=>T="int"
 |.ref p=>(T="list"/\∃xs,aM K H p xs)∨(T="tuple"/\∃o,K.lookup p=some o/\o.cls = .type "tuple"/\o.dict=none) ∨
   (T="dict"/\((∃kvs,H p=some (.dK kvs))∨∃kvs,H p=some (.dT kvs)))∨(T="set"/\∃S n,H p=some (.set S n))
 |_=>False
theorem K3 {pins:List (Addr×Obj)}{σ:St}{H:Hp}{s:Shared}{T:String}{x:V}{v:Value}(I:a6 X pins σ H s)(r:b6 x v)(ty:oX X.K T x H) :
  s.TypeIs v T/\∀a,v = .ref a->∃ob,s.heap.get? a=some ob/\ob.dict=none:=by
 cases x with
 |str z=>
  obtain⟨t,rfl⟩:=r
  cases (show T="str" from ty)
  exact⟨typeIs_str s z t,λ_ e=>nomatch e⟩
 |int i=>
  obtain⟨t,rfl⟩:=r
  cases (show T="int" from ty)
  exact⟨typeIs_int s i t,λ_ e=>nomatch e⟩
 |ref p=>
  cases r
  rcases ty with⟨rfl,xs,hq⟩|⟨rfl,o,hk,hc,hd⟩|⟨rfl,hk⟩|⟨rfl,S,n,hk⟩
  ·obtain⟨its,_,pl,_⟩:=I.list hq
   refine⟨pl.isList.typeIs,λa e=>?_⟩
   cases e
   obtain⟨o,n,e,c,hd,_⟩:=pl
   exact⟨o,e,hd⟩
  ·refine⟨⟨o,I.kIn p o hk,hc⟩,λa e=>?_⟩
   cases e
   exact⟨o,I.kIn _ o hk,hd⟩
  ·have z:∃o,s.heap.get? p=some o/\o.ExactDict:=by
    rcases hk with⟨kvs,hk⟩|⟨kvs,hk⟩
    ·obtain⟨_,_,_,_,o,_,_,e,ex,_⟩:=I.hok p _ hk
     exact⟨o,e,ex⟩
    ·obtain⟨_,_,_,_,o,_,_,e,ex,_⟩:=I.hok p _ hk
     exact⟨o,e,ex⟩
   obtain⟨o,e,ex⟩:=z
   refine⟨⟨o,e,ex.1⟩,λa e2=>?_⟩
   cases e2
   exact⟨o,e,ex.2.1⟩
  ·obtain⟨o,_,_,_,e,ex,_⟩:=I.hok p _ hk
   refine⟨⟨o,e,ex.1⟩,λa e2=>?_⟩
   cases e2
   exact⟨o,e,ex.2.1⟩
 |_=>exact False.elim ty
def K4 (K:ad)(T:String)(r:V->List V->Hp->VK->Prop)(to:TE):TE:=λσ H Q=>to σ H λx H1=>oX K T x H1/\r x [] H1 Q
def oY (K:ad)(T:String)(r:V->List V->Hp->VK->Prop)(to:TE)(t:TA):TE:=λσ H Q=>to σ H λx H1=>oX K T x H1/\t σ H1 λxs H2=>r x xs H2 Q
variable {o e:Expr}{es:List Expr}{to:TE}{t:TA}{name:Str}{apos cpos:Pos}{T id:String}{r:V→List V→Hp→VK→Prop}
theorem aw2 (pa:PlainAttrs T)(slot:Slot T name id)(hty:typeOf (.builtin id)=pure (.type "method_descriptor"))(hm:J6 X id r)(ho:PE X o to)(hbase:attributeBase o name X.env (eval o X.env)=eval o X.env:=by rfl)(hline:(apos.endLine==cpos.line)=true:=by rfl):PE X (.Call (.Attribute o name apos) [] [] cpos) (K4 X.K T r to):=by
 intro pins s σ H Q I h
 refine wpAny_Call_method0_late hbase hline (aR (ho pins s σ H _ I h) λv s1 ⟨x,H1,I1,r1,ty,q1⟩=>?_)
 obtain⟨h1,h2⟩:=K3 I1 r1 ty
 exact⟨T,id,pa,slot,hty,h1,h2,Calls.callWith_builtin rfl (PySem.evalArgs_none (hm pins s1 σ H1 x [] v [] Q I1 r1 .nil q1))⟩
theorem l8 (pa:PlainAttrs T)(slot:Slot T name id)(hty:typeOf (.builtin id)=pure (.type "method_descriptor"))(hm:J6 X id r)(ho:PE X o to)(ha:PA X (e::es) t)(hbase:attributeBase o name X.env (eval o X.env)=eval o X.env:=by rfl)(hfew:((backTo cpos (starEach (e::es) X.env)).all (λx=>!x.1)&&(backToKw cpos (keywordEach [] X.env)).all (λx=>x.1.isSome)
  &&decide ((e::es).length+([]:List Keyword).length+(if ([]:List Keyword).isEmpty then 0 else 1)<30))=true:=by rfl)(hline:(apos.endLine==cpos.line)=true:=by rfl)(hs:starEach (e::es) X.env=(false,eval e X.env)::starEach es X.env:=by rfl)(hplain:(backTo cpos (starEach es X.env)).any (·.1)=false:=by rfl) :
  PE X (.Call (.Attribute o name apos) (e::es) [] cpos) (oY X.K T r to t):=by
 intro pins s σ H Q I h
 refine wpAny_Call_method_late hbase hfew hline rfl (aR (ho pins s σ H _ I h) λv s1 ⟨x,H1,I1,r1,ty,q1⟩=>?_)
 obtain⟨h1,h2⟩:=K3 I1 r1 ty
 refine⟨T,id,pa,slot,hty,h1,h2,?_⟩
 have hA:=ha cpos pins s1 σ H1 _ I1 q1
 rw[hs]at hA ⊢
 refine Calls.callWith_builtin (by show (false||(backTo cpos (starEach es X.env)).any (·.1))=false;rw[hplain]<;>rfl) (Calls.evalArgs_plain ?_)
 exact aR hA λus s2 ⟨vs,H2,I2,r2,q2⟩=>hm pins s2 σ H2 x vs v us Q I2 r1 r2 q2
end
def lV (X:Cx)(id:String)(r:V->List V->Hp->VK->Prop):Prop:=
 ∀(pins:List (Addr×Obj)) (s:Shared) (σ:St) (H:Hp) (x:V) (xs:List V) (v:Value) (us:List Value) (Q:VK),a6 X pins σ H s->b6 x v->aN xs us->r x xs H Q->
  wpAny (model X.prog X.w) X.A (call (.builtin id) (v::us)) (EP X pins σ Q) X.xe s
theorem aN.one {x:V}{us:List Value}(h:aN [x] us):∃u,us = [u]/\b6 x u:=by
 cases h with
 |cons r t=>
  cases t
  exact⟨_,rfl,r⟩
theorem aN.two {x y:V}{us:List Value}(h:aN [x,y] us):∃u v,us = [u,v]/\b6 x u/\b6 y v:=by
 cases h with
 |cons r t=>
  cases t with
  |cons q t=>
   cases t
   exact⟨_,_,rfl,r,q⟩
theorem aN.zero:∀{us:List Value},aN [] us->us = []
 |_,.nil=>rfl
theorem aN.dropLast {xs:List V}{us:List Value}(h:aN xs us):aN xs.dropLast us.dropLast:=by
 induction h with
 |nil=>exact .nil
 |cons r t ih=>
  cases t with
  |nil=>exact .nil
  |cons q t'=>exact .cons r ih
theorem aN.rep {xs:List V}{us:List Value}(h:aN xs us):∀k:Nat,aN (List.replicate k xs).flatten (List.replicate k us).flatten
 |0=>.nil
 |k+1=>by
  rw[bs9,bs9,bx2,bx2]
  exact aN.append h (aN.rep h k)
theorem aw3 {α:Type}(l:List α):l.eraseIdx (l.length-1)=l.dropLast:=by
 induction l with
 |nil=>rfl
 |cons a r ih=>
  cases r with
  |nil=>rfl
  |cons b r=>
   have e:(a::b::r).length-1=((b::r).length-1)+1:=by
    have h1:(a::b::r).length=r.length+2:=rfl
    have h2:(b::r).length=r.length+1:=rfl
    omega
   rw[e,List.eraseIdx_cons_succ,ih]
   all_goals rfl
theorem K5 (its:List Value):∀(k:Nat) (acc:List Value),
  List.foldl (λx1 x2=>x1++x2) acc.toArray (List.replicate k its.toArray)=(acc++(List.replicate k its).flatten).toArray
 |0,acc=>by simp
 |k+1,acc=>by
  have e:acc.toArray++its.toArray=(acc++its).toArray:=by simp
  have e2:(acc++its)++(List.replicate k its).flatten=acc++(List.replicate (k+1) its).flatten:=by
   rw[bs9,bx2,bq6]
  rw[<- e2,<- K5 its k (acc++its),<- e,bs9,List.foldl_cons]
section
variable {X:Cx}{pins:List (Addr×Obj)}{σ:St}{H:Hp}{s:Shared}{l b:Addr}{xs ys zs:List V}
theorem a6.lset {its its':List Value}{n:Nat}{f:Array Value->Array Value}{t':Nat}(I:a6 X pins σ H s)(hH:H l=some (.lst xs))(e:s.heap.get? l=some { cls:=.type "list",data:=.seq its.toArray n })(hf:f its.toArray=its'.toArray)(hv:aN ys its')(hz:ys.length<=sizeLine) :
  a6 X pins σ (upd H l (.lst ys)) { s with heap:=s.heap.update l (Obj.mapSeq f),toks:=t' }:=by
 have q:=PySem.IsL.update e f
 rw[hf]at q
 refine I.write (x:=l) (e:=l) (by rw[hH];exact trivial) (.inl rfl) (λb' u hb hu=>(Heap.get?_update_other s.heap (Obj.mapSeq f) (Ne.symm hb)).trans hu) ⟨_,q⟩ ?_
 exact⟨hz,its',_,hv,q⟩
theorem a6.lnew {its:List Value}{t':Nat}(I:a6 X pins σ H s)(hv:aN ys its)(hz:ys.length<=sizeLine) :
  a6 X pins σ (upd H s.heap.objs.size (.lst ys)) { s with heap:=s.heap.push { cls:=.type "list",data:=.seq its.toArray },toks:=t' }:=
 I.laid (λ_ _ q=>bm5 _ q) (bn1 _) ⟨hz,its,0,hv,bp3 _ rfl⟩
theorem a6.fresh (I:a6 X pins σ H s):H s.heap.objs.size=none:=I.hok.fresh (bn1 _)
theorem a6.lstM (I:a6 X pins σ H s)(hH:H l=some (.lst xs)):xs.length<=sizeLine/\∃(its:List Value) (n:Nat),aN xs its/\xs.length=its.length/\s.heap.get? l=some { cls:=.type "list",data:=.seq its.toArray n }:=by
 obtain⟨z,its,n,r,e⟩:=I.hok l _ hH
 exact⟨z,its,n,r,r.length,e⟩
theorem vY {n:Nat}(h:n<=sizeLine):Builtin.List.listTooLong n=false:=by
 unfold Builtin.List.listTooLong
 exact bm9 (by omega)
end
section
variable {X:Cx}
def K6:V->List V->Hp->VK->Prop:=λx vs H Q=>∃l xs y,x = .ref l/\vs = [y]/\H l=some (.lst xs)/\xs.length<sizeLine/\Q .non (upd H l (.lst (xs++[y])))
theorem nC:lV X "list.append" K6:=by
 intro pins s σ H x vs v us Q I rx rv h
 obtain⟨l,xs,y,rfl,rfl,hH,hz,q⟩:=h
 cases rx
 obtain⟨u,rfl,ru⟩:=rv.one
 obtain⟨z,its,n,r,hl,e⟩:=I.lstM hH
 refine call_meets F.slot_list_append ⟨_,e,rfl⟩ F.entry_list_append (F.args_list_append_2 _ _) (PySem.list_append l its.toArray n u (by rw[bn9];omega)) ⟨e,?_⟩
 refine⟨.non,_,I.lset (its':=its++[u]) hH e (by simp) (r.append (.cons ru .nil)) ?_,rfl,q⟩
 rw[bo2,bs2]
 omega
def K7:V->List V->Hp->VK->Prop:=λx vs H Q=>∃l b xs zs,x = .ref l/\vs = [.ref b]/\H l=some (.lst xs)/\H b=some (.lst zs)/\xs.length+zs.length<=sizeLine/\Q .non (upd H l (.lst (xs++zs)))
theorem aw4:lV X "list.extend" K7:=by
 intro pins s σ H x vs v us Q I rx rv h
 obtain⟨l,b,xs,zs,rfl,rfl,hH,hB,hz,q⟩:=h
 cases rx
 obtain⟨u,rfl,ru⟩:=rv.one
 cases ru
 obtain⟨z,its,n,r,hl,e⟩:=I.lstM hH
 obtain⟨z2,its2,n2,r2,hl2,e2⟩:=I.lstM hB
 have hsz:its.toArray.size+its2.toArray.size<=sizeLine:=by rw[bn9,bn9];omega
 have hlong:¬(!its.toArray.isEmpty&&Builtin.List.listTooLong (its.toArray.size+its2.toArray.size))=true:=by
  rw[vY hsz,bB3]
  exact bo4
 refine call_meets F.slot_list_extend ⟨_,e,rfl⟩ F.entry_list_extend (F.args_list_extend_2 _ _)
  (AutoSeq1.list_extend_list_list_0 l its.toArray n b its2.toArray n2 hlong (by rw[bn9];omega) (by omega)) ⟨e,e2,?_⟩
 refine⟨.non,_,I.lset (its':=its++its2) hH e (by simp) (r.append r2) ?_,rfl,q⟩
 rw[bo2]
 omega
def K8:V->List V->Hp->VK->Prop:=λx vs H Q=>∃l xs y,x = .ref l/\vs = []/\H l=some (.lst xs)/\xs[xs.length-1]? = some y/\Q y (upd H l (.lst xs.dropLast))
theorem aw5:lV X "list.pop" K8:=by
 intro pins s σ H x vs v us Q I rx rv h
 obtain⟨l,xs,y,rfl,rfl,hH,hy,q⟩:=h
 cases rx
 have hus:=rv.zero
 subst hus
 obtain⟨z,its,n,r,hl,e⟩:=I.lstM hH
 obtain⟨u,hu,ru⟩:=r.get hy
 have hy':its.toArray[its.toArray.size-1]? = some u:=by
  show its.toArray[its.length-1]? = some u
  rw[<- bx5,<- hl]
  exact hu
 refine call_meets F.slot_list_pop ⟨_,e,rfl⟩ F.entry_list_pop (F.args_list_pop_1 _) (MeetsSeq.list_pop_last l its.toArray n u hy' (by rw[bn9];omega)) ⟨e,?_⟩
 refine⟨y,_,I.lset (its':=its.dropLast) hH e ?_ r.dropLast ?_,ru,q⟩
 ·show its.toArray.eraseIdxIfInBounds (its.toArray.size-1)=its.dropLast.toArray
  rw[bn9,List.eraseIdxIfInBounds_toArray,aw3]
 ·rw[List.length_dropLast]
  omega
def K9:R2:=λx y H Q=>∃l b xs zs,x = .ref l/\y = .ref b/\H l=some (.lst xs)/\H b=some (.lst zs)/\xs.length+zs.length<=sizeLine/\∀p,H p=none->Q (.ref p) (upd H p (.lst (xs++zs)))
theorem aw6:cM X (binaryOp .Add) K9:=by
 intro pins s σ H x y v u Q I rx ry h
 obtain⟨l,b,xs,zs,rfl,rfl,hH,hB,hz,q⟩:=h
 cases rx
 cases ry
 obtain⟨z,its,n,r,hl,e⟩:=I.lstM hH
 obtain⟨z2,its2,n2,r2,hl2,e2⟩:=I.lstM hB
 refine PySem.P.add_list e e2 ?_ (by rw[bn9,bn9];omega)
 have ea:its.toArray++its2.toArray=(its++its2).toArray:=by simp
 rw[ea]
 exact⟨.ref _,_,I.lnew (t':=s.toks) (r.append r2) (by rw[bo2];omega),rfl,q _ I.fresh⟩
def L0:R2:=λx y H Q=>∃l k xs,x = .ref l/\y = .int k/\H l=some (.lst xs)/\-(2^63)<=k/\k<2^63/\xs.length*k.toNat<=sizeLine/\
 ∀p,H p=none->Q (.ref p) (upd H p (.lst (List.replicate k.toNat xs).flatten))
theorem aw7 {α:Type}(xs:List α)(k:Nat):(List.replicate k xs).flatten.length=k*xs.length:=by
 induction k with
 |zero=>simp
 |succ k ih=>rw[bs9,bx2,bo2,ih,Nat.succ_mul,Nat.add_comm]
theorem aw8:cM X (binaryOp .Mult) L0:=by
 intro pins s σ H x y v u Q I rx ry h
 obtain⟨l,k,xs,rfl,rfl,hH,h1,h2,hz,q⟩:=h
 cases rx
 obtain⟨t,rfl⟩:=ry
 obtain⟨z,its,n,r,hl,e⟩:=I.lstM hH
 have hlen:its.toArray.size*k.toNat<=sizeLine:=by rw[bn9,<- hl];exact hz
 have hcap:¬its.toArray.size*k.toNat>(2^63-1)/8:=by
  have:(sizeLine:Nat)<=(2^63-1)/8:=by decide
  omega
 have hfit:¬(!Builtin.List.listFitsIndex k)=true:=by
  rw[fitsIndex_both h1 h2]
  exact bo4
 have hlong:¬Builtin.List.listTooLong (its.toArray.size*k.toNat)=true:=by
  rw[vY hlen]
  exact bo4
 have hnew:List.foldl (λx1 x2=>x1++x2) #[] (List.replicate (if its.toArray.isEmpty=true then 0 else k.toNat) its.toArray)=(List.replicate k.toNat its).flatten.toArray:=by
  have f0:∀m:Nat,List.foldl (λx1 x2=>x1++x2) #[] (List.replicate m its.toArray)=(List.replicate m its).flatten.toArray:=λm=>by
   have:=K5 its m []
   rw[List.nil_append]at this
   exact this
  rw[f0]
  cases its with
  |nil=>simp
  |cons a r'=>rw[if_neg (by simp)]
 refine wpAny_binaryOp_repeat_ref (T:="list") (U:="int") (by decide) ⟨_,e,rfl⟩ (λs'=>typeIs_int s' k t) noFill_list_mul F.fills_int_mul F.slot_int_rmul repeat_list F.slot_int_index.lookup
  (call_meets F.slot_int_rmul (typeIs_int s k t) F.entry_int_rmul (F.args_int_rmul_2 _ _) (int___rmul___int_list k t l its.toArray n)
   ⟨e,rfl,⟨_,e,rfl⟩,call_meets F.slot_list_mul ⟨_,e,rfl⟩ F.entry_list_mul (F.args_list_mul_2 _ _) (AutoListH.list___mul___list_int_3 l its.toArray n k t hfit hcap hlong) ⟨e,?_⟩⟩)
 rw[hnew]
 exact⟨.ref _,_,I.lnew (t':=s.toks) (r.rep k.toNat) (by rw[aw7,Nat.mul_comm];exact hz),rfl,q _ I.fresh⟩
end
section
variable {κ:Type}[DecidableEq κ]
def fZ (kvs:List (κ×V))(k:κ):Option V:=(kvs.find? λkv=>decide (kv.1=k)).map (·.2)
def eU (kvs:List (κ×V))(k:κ)(v:V):List (κ×V):=
 if (kvs.any λkv=>decide (kv.1=k))=true then kvs.map (λkv=>if kv.1=k then (kv.1,v) else kv) else kvs++[(k,v)]
theorem vZ {p:κ×V}{r:List (κ×V)}{k:κ}(e:p.1=k):fZ (p::r) k=some p.2:=by simp[fZ,bx9,e]
theorem w4 {p:κ×V}{r:List (κ×V)}{k:κ}(e:¬p.1=k):fZ (p::r) k=fZ r k:=by simp[fZ,bx9,e]
theorem L1 (k:κ):∀kvs:List (κ×V),(kvs.any λkv=>decide (kv.1=k))=(fZ kvs k).isSome
 |[]=>rfl
 |p::r=>by
  rw[bz7]
  by_cases e:p.1=k
  ·simp only[vZ e,bm4 e,Bool.true_or,Option.isSome_some]
  ·rw[w4 e,bm9 e,Bool.false_or];exact L1 k r
theorem w5 (kvs:List (κ×V))(k:κ)(v:V):(eU kvs k v).length<=kvs.length+1:=by
 unfold eU
 split
 ·rw[bm7];omega
 ·rw[bo2,bo5,List.length_nil];omega
theorem mX.isSome_eq {o:Option V}{u:Option Value}(r:mX o u):o.isSome=u.isSome:=by
 cases o with
 |none=>cases u with
  |none=>rfl
  |some _=>exact (show False from r).elim
 |some _=>cases u with
  |none=>exact (show False from r).elim
  |some _=>rfl
theorem KV.val {kvs:List (κ×V)}{vs:List (κ×Value)}(r:KV kvs vs)(k:κ):mX (fZ kvs k) (valueAt vs k):=by
 unfold KV at r
 induction r with
 |nil=>exact True.intro
 |@cons p q ps qs h t ih=>
  obtain⟨h1,h2⟩:=h
  by_cases e:p.1=k
  ·have e':q.1=k:=h1.symm.trans e
   have b:valueAt (q::qs) k=some q.2:=by simp[valueAt,bx9,e']
   rw[vZ e,b];exact h2
  ·have e':¬q.1=k:=λz=>e (h1.trans z)
   have b:valueAt (q::qs) k=valueAt qs k:=by simp[valueAt,bx9,e']
   rw[w4 e,b];exact ih
theorem KV.any {kvs:List (κ×V)}{vs:List (κ×Value)}(r:KV kvs vs)(k:κ):(kvs.any λkv=>decide (kv.1=k))=vs.any λkv=>decide (kv.1=k):=by
 unfold KV at r
 induction r with
 |nil=>rfl
 |cons h t ih=>rw[bz7,bz7,ih,h.1]
theorem KV.repl {kvs:List (κ×V)}{vs:List (κ×Value)}(r:KV kvs vs)(k:κ){y:V}{u:Value}(ry:b6 y u) :
  KV (kvs.map λkv=>if kv.1=k then (kv.1,y) else kv) (vs.map λkv=>if kv.1=k then (kv.1,u) else kv):=by
 unfold KV at r ⊢
 induction r with
 |nil=>exact .nil
 |@cons p q ps qs h t ih=>
  rw[bp2,bp2]
  refine .cons ?_ ih
  obtain⟨h1,h2⟩:=h
  by_cases e:p.1=k
  ·rw[if_pos e,if_pos (h1.symm.trans e)];exact⟨h1,ry⟩
  ·rw[if_neg e,if_neg (λz=>e (h1.trans z))];exact⟨h1,h2⟩
theorem KV.put {kvs:List (κ×V)}{vs:List (κ×Value)}(r:KV kvs vs)(k:κ){y:V}{u:Value}(ry:b6 y u):KV (eU kvs k y) (stored vs k u):=by
 unfold eU stored
 rw[r.any k]
 by_cases e:(vs.any λkv=>decide (kv.1=k))=true
 ·rw[if_pos e,if_pos e];exact r.repl k ry
 ·rw[if_neg e,if_neg e];exact Paired.snoc r ⟨rfl,ry⟩
theorem KV.length {kvs:List (κ×V)}{vs:List (κ×Value)}(r:KV kvs vs):kvs.length=vs.length:=Paired.length r
end
theorem oZ {P:Program}{w:World}{k:aK}{u:Value}(r:b6 (kV k) u):(fH P w).is k u=true:=by
 cases k with
 |inl i=>obtain⟨t,e⟩:=(show ∃t,u=Value.int i t from r);subst e;exact an8 P w i t
 |inr x=>obtain⟨t,e⟩:=(show ∃t,u=Value.str x t from r);subst e;exact an9 P w x t
theorem L3 {P:Program}{w:World}:∀{ks:List aK}{us:List Value},aN (ks.map kV) us->ItemsAre (fH P w) ks us
 |[],_,r=>by rw[List.map_nil]at r;cases r;exact .nil
 |k::ks,_,r=>by
  rw[bp2]at r
  cases r with
  |cons h t=>exact .cons (oZ h) (L3 t)
abbrev KT (H:Hp):List (List aK×V)->List (List aK×Addr×Value)->Prop:=Paired λp q=>p.1=q.1/\H q.2.1=some (.tup (p.1.map kV))/\b6 p.2 q.2.2
theorem KT.val {H:Hp}{kvs:List (List aK×V)}{xs:List (List aK×Addr×Value)}(r:KT H kvs xs)(k:List aK):mX (fZ kvs k) ((atKey xs k).map (·.2)):=by
 induction r with
 |nil=>exact True.intro
 |@cons p q ps qs h t ih=>
  obtain⟨h1,_,h2⟩:=h
  by_cases e:p.1=k
  ·have e':q.1=k:=h1.symm.trans e
   have b:atKey (q::qs) k=some q.2:=by simp[atKey,bx9,e']
   rw[vZ e,b];exact h2
  ·have e':¬q.1=k:=λz=>e (h1.trans z)
   have b:atKey (q::qs) k=atKey qs k:=by simp[atKey,bx9,e']
   rw[w4 e,b];exact ih
theorem KT.repl {H:Hp}{kvs:List (List aK×V)}{xs:List (List aK×Addr×Value)}(r:KT H kvs xs)(k:List aK){y:V}{u:Value}(ry:b6 y u) :
  KT H (kvs.map λkv=>if kv.1=k then (kv.1,y) else kv) (xs.map (putAt k u)):=by
 induction r with
 |nil=>exact .nil
 |@cons p q ps qs h t ih=>
  rw[bp2,bp2]
  refine .cons ?_ ih
  obtain⟨h1,h2,h3⟩:=h
  unfold putAt
  by_cases e:p.1=k
  ·rw[if_pos e,if_pos (h1.symm.trans e)];exact⟨h1,h2,ry⟩
  ·rw[if_neg e,if_neg (λz=>e (h1.trans z))];exact⟨h1,h2,h3⟩
theorem KT.put {H:Hp}{kvs:List (List aK×V)}{xs:List (List aK×Addr×Value)}(r:KT H kvs xs)(k:List aK){b:Addr}{y:V}{u:Value}(hb:H b=some (.tup (k.map kV)))(ry:b6 y u) :
  KT H (eU kvs k y) (storedH xs k b u):=by
 have e:(kvs.any λkv=>decide (kv.1=k))=(atKey xs k).isSome:=by
  rw[L1,(r.val k).isSome_eq,Option.isSome_map]
 unfold eU storedH
 rw[e]
 by_cases q:(atKey xs k).isSome=true
 ·rw[if_pos q,if_pos q];exact r.repl k ry
 ·rw[if_neg q,if_neg q];exact Paired.snoc r ⟨rfl,hb,ry⟩
theorem KT.keeps {H H':Hp}{kvs:List (List aK×V)}{xs:List (List aK×Addr×Value)}(r:KT H kvs xs)(ht:∀b ys,H b=some (.tup ys)->H' b=some (.tup ys)):KT H' kvs xs:=
 Paired.mapP r λ_ _ z=>⟨z.1,ht _ _ z.2.1,z.2.2⟩
section
variable {P:Program}{w:World}{H:Hp}{h:Heap}{a:Addr}
theorem L4 {u:HO}(ok:bX P w H h)(e:Rd H a u):cL P w H h a u:=e.ok ok
theorem rD {kvs:List (aK×V)}(ok:bX P w H h)(e:Rd H a (.dK kvs)):kvs.length<=sizeLine/\(a==sysModules)=false/\∃vs,KV kvs vs/\h.DictOf (fH P w) a vs:=
 show cL P w H h a (.dK kvs) from L4 ok e
theorem L5 {kvs:List (aK×V)}(ok:bX P w H h)(e:H a=some (.dK kvs)):kvs.length<=sizeLine/\(a==sysModules)=false/\∃vs,KV kvs vs/\h.DictOf (fH P w) a vs:=rD ok (.inl e)
theorem rE {ks:List aK}(ok:bX P w H h)(e:H a=some (.tup (ks.map kV))):(tupleKind (fH P w)).is h ks a:=by
 obtain⟨_,its,r,⟨o,h1,h2,n,h3⟩,_⟩:=(show cL P w H h a (.tup (ks.map kV)) from ok a _ e)
 exact⟨o,its.toArray,n,h1,h2,h3,by simpa using L3 r⟩
theorem w6 {kvs:List (List aK×V)}(ok:bX P w H h)(e:Rd H a (.dT kvs)):kvs.length<=sizeLine/\(a==sysModules)=false/\
  ∃xs,KT H kvs xs/\h.DictOfH (tupleKind (fH P w)) a xs:=by
 obtain⟨z,y,xs,r,o,es,ep,h1,h2,h3,h4,h5⟩:=(show cL P w H h a (.dT kvs) from L4 ok e)
 refine⟨z,y,xs,r,o,es,ep,h1,h2,h3,h4,λx hx=>?_,h5⟩
 have all:∀{l:List (List aK×V)}{m:List (List aK×Addr×Value)},KT H l m->∀x∈m,(tupleKind (fH P w)).is h x.1 x.2.1:=by
  intro l m q
  induction q with
  |nil=>intro x hx;exact nomatch hx
  |@cons p q ps qs hq t ih=>
   intro x hx
   rcases bn8.mp hx with e|hx
   ·subst e
    exact rE ok (by rw[<- hq.1];exact hq.2.1)
   ·exact ih x hx
 exact all r x hx
theorem aw9 {kvs:List (List aK×V)}(ok:bX P w H h)(e:H a=some (.dT kvs)):kvs.length<=sizeLine/\(a==sysModules)=false/\
  ∃xs,KT H kvs xs/\h.DictOfH (tupleKind (fH P w)) a xs:=w6 ok (.inl e)
end
def iO (H:Hp)(a:Addr)(y:V)(r:Option V):Prop:=
 (∃kvs k,Rd H a (.dK kvs)/\y=kV k/\r=fZ kvs k)∨∃kvs k b,Rd H a (.dT kvs)/\y = .ref b/\H b=some (.tup (k.map kV))/\r=fZ kvs k
def p5 (H:Hp)(a:Addr)(y v:V)(H':Hp):Prop:=
 (∃kvs k,H a=some (.dK kvs)/\y=kV k/\kvs.length<sizeLine/\H'=upd H a (.dK (eU kvs k v))) ∨
 ∃kvs k b,H a=some (.dT kvs)/\y = .ref b/\H b=some (.tup (k.map kV))/\kvs.length<sizeLine/\H'=upd H a (.dT (eU kvs k v))
theorem iO.k {H:Hp}{a:Addr}{kvs:List (aK×V)}{k:aK}(e:H a=some (.dK kvs)):iO H a (kV k) (fZ kvs k):=.inl ⟨kvs,k,.inl e,rfl,rfl⟩
theorem iO.t {H:Hp}{a b:Addr}{kvs:List (List aK×V)}{k:List aK}(e:H a=some (.dT kvs))(eb:H b=some (.tup (k.map kV))):iO H a (.ref b) (fZ kvs k):=.inr ⟨kvs,k,b,.inl e,rfl,eb,rfl⟩
theorem p5.k {H:Hp}{a:Addr}{kvs:List (aK×V)}{k:aK}{v:V}(e:H a=some (.dK kvs))(hl:kvs.length<sizeLine):p5 H a (kV k) v (upd H a (.dK (eU kvs k v))):=.inl ⟨kvs,k,e,rfl,hl,rfl⟩
section
variable {X:Cx}{pins:List (Addr×Obj)}{σ:St}{H:Hp}{s:Shared}{a:Addr}{y v:V}{u r:Value}{o:Option V}{A:Around}{E:Value→Shared→Prop}
theorem a6.big (I:a6 X pins σ H s):sysModules<s.heap.objs.size:=by
 have h:mainGlobals<s.heap.objs.size:=(I.mod.glob.keeps I.bk).lt
 exact Nat.lt_trans (by decide) h
theorem ax0 {Q:Value->Shared->Prop}(hu:A.units+1<cLine)(I:a6 X pins σ H s)(g:iO H a y o)(ry:b6 y u)(h:∀s',a6 X pins σ H s'->Q (.bool o.isSome) s') :
  wpAny (model X.prog X.w) A (compareOp .In u (.ref a)) Q E s:=by
 rcases g with⟨kvs,k,e,ey,l⟩|⟨kvs,k,b,e,ey,eb,l⟩
 ·subst ey
  obtain⟨z,hd,vs,rel,dd⟩:=rD I.hok e
  refine wpAny_in_of (oZ ry) hd dd.mapOf ?_
  rw[<- (rel.val k).isSome_eq,<- l]
  exact h _ (I.tok _)
 ·subst ey
  cases (show u=Value.ref b from ry)
  obtain⟨z,hd,xs,rel,dd⟩:=w6 I.hok e
  refine wpAny_in_heap (tupleKind_room_in1 hu) (rE I.hok eb) hd dd ?_
  have q:=(rel.val k).isSome_eq
  rw[Option.isSome_map]at q
  rw[<- q,<- l]
  exact h _ (I.tok _)
theorem ax1 {Q:Value->Shared->Prop}(hu:A.units+1<cLine)(I:a6 X pins σ H s)(g:iO H a y o)(ry:b6 y u)(h:∀s',a6 X pins σ H s'->Q (.bool (!o.isSome)) s') :
  wpAny (model X.prog X.w) A (compareOp .NotIn u (.ref a)) Q E s:=by
 rcases g with⟨kvs,k,e,ey,l⟩|⟨kvs,k,b,e,ey,eb,l⟩
 ·subst ey
  obtain⟨z,hd,vs,rel,dd⟩:=rD I.hok e
  refine wpAny_notIn_of (oZ ry) hd dd.mapOf ?_
  rw[<- (rel.val k).isSome_eq,<- l]
  exact h _ (I.tok _)
 ·subst ey
  cases (show u=Value.ref b from ry)
  obtain⟨z,hd,xs,rel,dd⟩:=w6 I.hok e
  refine wpAny_notIn_heap (tupleKind_room_in1 hu) (rE I.hok eb) hd dd ?_
  have q:=(rel.val k).isSome_eq
  rw[Option.isSome_map]at q
  rw[<- q,<- l]
  exact h _ (I.tok _)
theorem w9 {h':Heap}{t':Nat}{ob:HO}(I:a6 X pins σ H s)(mu:oK (H a))(hs:Heap.SameBut a s.heap h')(he:∃q,h'.get? a=some q)(new:cL X.prog X.w (upd H a ob) h' a ob) :
  a6 X pins σ (upd H a ob) { s with heap:=h',toks:=t' }:=
 I.write (x:=a) (e:=a) mu (.inl rfl) (λb q hb z=>(hs.2 b hb).trans z) he new
theorem L6 {P:Program}{w:World}{H':Hp}{h':Heap}{kvs:List (aK×V)}{vs:List (aK×Value)}(z:kvs.length<=sizeLine)(hd:(a==sysModules)=false)(rel:KV kvs vs)(dd:h'.DictOf (fH P w) a vs) :
  cL P w H' h' a (.dK kvs):=⟨z,hd,vs,rel,dd⟩
theorem ax2 {H':Hp}{Q:Unit->Shared->Prop}(hu:A.units+1<cLine)(I:a6 X pins σ H s)(g:p5 H a y v H')(ry:b6 y u)(rv:b6 v r)(h:∀s',a6 X pins σ H' s'->Q () s') :
  wpAny (model X.prog X.w) A (setItem (.ref a) u r) Q E s:=by
 rcases g with⟨kvs,k,e,ey,l,eH⟩|⟨kvs,k,b,e,ey,eb,l,eH⟩
 ·subst ey eH
  obtain⟨z,hd,vs,rel,dd⟩:=L5 I.hok e
  have hz:vs.length<=sizeLine:=by rw[<- rel.length];exact z
  have hl:(eU kvs k v).length<=sizeLine:=by have:=w5 kvs k v;omega
  refine wpAny_setItem_pairs (hsz:=hz) (oZ ry) dd λh' dd' hs=>h _ ?_
  have he:∃q,h'.get? a=some q:=let ⟨q,_,_,hq,_⟩:=dd';⟨q,hq⟩
  exact w9 I (by rw[e];exact True.intro) hs he (L6 hl hd (rel.put k rv) dd')
 ·subst ey eH
  cases (show u=Value.ref b from ry)
  obtain⟨z,hd,xs,rel,dd⟩:=aw9 I.hok e
  have hz:xs.length<=sizeLine:=by rw[<- Paired.length rel];exact z
  have hl:(eU kvs k v).length<=sizeLine:=by have:=w5 kvs k v;omega
  refine wpAny_setItem_heap (hsz:=hz) (tupleKind_room_in1 hu) (rE I.hok eb) dd λh' dd' hs=>h _ ?_
  obtain⟨q,es,ep,hq,h2,h3,h4,_,h5⟩:=dd'
  refine w9 I (by rw[e];exact True.intro) hs ⟨q,hq⟩ ⟨hl,hd,_,(rel.put k eb rv).keeps λc ys ec=>?_,q,es,ep,hq,h2,h3,h4,h5⟩
  rw[bB (ao0 ec e (λz=>nomatch z))]
  exact ec
end
section
variable {X:Cx}{pins:List (Addr×Obj)}{σ:St}{H:Hp}{s:Shared}{a:Addr}{kvs:List (aK×V)}{k:aK}{u:Value}{A:Around}{E:Value→Shared→Prop}
theorem ax3 {Q:Value->Shared->Prop}(I:a6 X pins σ H s)(e:Rd H a (.dK kvs))(h:∀t s',a6 X pins σ H s'->Q (.int kvs.length t) s'):wpAny (model X.prog X.w) A (call (.builtin "len") [.ref a]) Q E s:=by
 obtain⟨z,hd,vs,rel,dd⟩:=rD I.hok e
 refine call_len_dict hd dd (by rw[<- rel.length];rw[sizeLine_eq]at z;omega) ?_
 rw[<- rel.length]
 exact h _ _ (I.tok _)
end
def L7 (ty td:TE):TE:=λσ H Q=>ty σ H λy H1=>td σ H1 λx H2=>∃a o,x = .ref a/\iO H2 a y o/\Q (.bl o.isSome) H2
def L8 (ty td:TE):TE:=λσ H Q=>ty σ H λy H1=>td σ H1 λx H2=>∃a o,x = .ref a/\iO H2 a y o/\Q (.bl (!o.isSome)) H2
def L9 (td ty tv:TE):TS:=λD σ H=>tv σ H λv H1=>td σ H1 λx H2=>ty σ H2 λy H3=>∃a H4,x = .ref a/\p5 H3 a y v H4/\D.nx σ H4
section
variable {X:Cx}{o i e value:Expr}{pos pos' tpos:Pos}{td ty tv:TE}
theorem ax4 (hu:X.A.units+1<cLine)(hi:PE X i ty)(ho:PE X o td):PC X .In i o (L7 ty td):=by
 intro pins s σ H Q I h
 refine aR (hi pins s σ H _ I h) λiv s1 ⟨y,H1,I1,ry,q1⟩=>aR (ho pins s1 σ H1 _ I1 q1) λu s2 ⟨x,H2,I2,rx,a,ov,ex,g,q2⟩=>?_
 subst ex
 obtain rfl:u=Value.ref a:=rx
 exact ax0 hu I2 g ry λs3 I3=>⟨.bl ov.isSome,H2,I3,rfl,q2⟩
theorem ax5 (hu:X.A.units+1<cLine)(hi:PE X i ty)(ho:PE X o td):PC X .NotIn i o (L8 ty td):=by
 intro pins s σ H Q I h
 refine aR (hi pins s σ H _ I h) λiv s1 ⟨y,H1,I1,ry,q1⟩=>aR (ho pins s1 σ H1 _ I1 q1) λu s2 ⟨x,H2,I2,rx,a,ov,ex,g,q2⟩=>?_
 subst ex
 obtain rfl:u=Value.ref a:=rx
 exact ax1 hu I2 g ry λs3 I3=>⟨.bl (!ov.isSome),H2,I3,rfl,q2⟩
theorem ax6 (hu:X.A.units+1<cLine)(ho:PE X o td)(hi:PE X i ty)(hv:PE X value tv)(hs:swapsWith value (some (.Subscript o i pos')) pos.line X.env=pure false) :
  PS X (.Assign [.Subscript o i pos'] value pos) (L9 td ty tv):=by
 intro pins s σ H D I h
 refine wpAny_Assign_Subscript (aR (hv pins s σ H _ I h) λr s1 ⟨v,H1,I1,rv,q1⟩=>aR (ho pins s1 σ H1 _ I1 q1) λu s2 ⟨x,H2,I2,rx,q2⟩=>aR (hi pins s2 σ H2 _ I2 q2) λiv s3 ⟨y,H3,I3,ry,a,H4,ex,g,q3⟩=>?_) hs
 subst ex
 obtain rfl:u=Value.ref a:=rx
 exact ax2 hu I3 g ry rv λs4 I4=>⟨σ,H4,I4,q3⟩
end
theorem M0 {P:Program}{w:World}{H:Hp}(h:Heap)(hb:sysModules<h.objs.size):cL P w H (h.push { cls:=.type "dict",data:=.dict #[] }) h.objs.size (.dK []):=
 ⟨br5 _,beq_eq_false_iff_ne.mpr (Ne.symm (br7 hb)),[],.nil,Heap.DictOf.new h⟩
def M1:TE:=λ_ H Q=>∀p,H p=none->Q (.ref p) (upd H p (.dK []))
section
variable {X:Cx}{pos:Pos}
theorem ax7:PE X (.Dict [] [] pos) M1:=λpins s σ H Q I h=>
 wpAny_Dict_empty ⟨.ref s.heap.objs.size,_,I.laid (a:=s.heap.objs.size) (o:=.dK []) (t':=s.toks) (λ_ _ q=>bm5 _ q) (bn1 _) (M0 s.heap I.big),rfl,h _ (I.hok.fresh (bn1 _))⟩
end
def wA:List (TE×TE)->St->Hp->(List (V×V)->Hp->Prop)->Prop
 |[],_,H,Q=>Q [] H
 |(tk,tv)::r,σ,H,Q=>tk σ H λx H1=>tv σ H1 λy H2=>wA r σ H2 λps H3=>Q ((x,y)::ps) H3
abbrev VV:List (V×V)->List (Value×Value)->Prop:=Paired λp q=>b6 p.1 q.1/\b6 p.2 q.2
def rF (X:Cx)(pos:Pos)(keys:List (Option Expr))(values:List Expr)(trs:List (TE×TE)):Prop:=
 ∀(pins:List (Addr×Obj)) (s:Shared) (σ:St) (H:Hp) (Q:List (V×V)->Hp->Prop),a6 X pins σ H s->wA trs σ H Q->
  wpAny (model X.prog X.w) X.A (evalPairs (pairTrees keys values X.env pos)) (λvs s'=>∃ps H',a6 X pins σ H' s'/\VV ps vs/\Q ps H') X.xe s
theorem ax8 {X:Cx}{pos:Pos}:rF X pos [] [] []:=λpins s σ H Q I h=>pairTrees_nil_walk ⟨[],H,I,.nil,h⟩
theorem ax9 {X:Cx}{pos:Pos}{k v:Expr}{ks:List (Option Expr)}{vs:List Expr}{tk tv:TE}{trs:List (TE×TE)}(hk:PE X k tk)(hv:PE X v tv)(hr:rF X pos ks vs trs) :
  rF X pos (some k::ks) (v::vs) ((tk,tv)::trs):=λpins s σ H Q I h=>
 pairTrees_cons_walk (aR (hk pins s σ H _ I h) λu s1 ⟨x,H1,I1,rx,q1⟩=>aR (hv pins s1 σ H1 _ I1 q1) λw2 s2 ⟨y,H2,I2,ry,q2⟩=>
  aR (hr pins s2 σ H2 _ I2 q2) λws s3 ⟨ps,H3,I3,rel,q3⟩=>⟨(x,y)::ps,H3,I3,.cons ⟨rx,ry⟩ rel,q3⟩)
def nD (kvs more:List (aK×V)):List (aK×V):=more.foldl (λacc kv=>eU acc kv.1 kv.2) kvs
theorem KV.merge:∀{more:List (aK×V)}{rs:List (aK×Value)}{kvs:List (aK×V)}{vs:List (aK×Value)},KV more rs->KV kvs vs->KV (nD kvs more) (merged vs rs):=by
 intro more rs kvs vs r
 unfold KV at r
 induction r generalizing kvs vs with
 |nil=>intro q;exact q
 |@cons p q ps qs h t ih=>
  intro r0
  have e:KV (eU kvs p.1 p.2) (stored vs q.1 q.2):=by
   have:=r0.put p.1 h.2
   rw[<- h.1];exact this
  exact ih e
theorem M3:∀(more kvs:List (aK×V)),(nD kvs more).length<=kvs.length+more.length
 |[],kvs=>by show kvs.length<=kvs.length+0;omega
 |p::r,kvs=>by
  have h1:=M3 r (eU kvs p.1 p.2)
  have h2:=w5 kvs p.1 p.2
  show (nD (eU kvs p.1 p.2) r).length<=_
  rw[bo5];omega
theorem M4 {P:Program}{w:World}:∀{kvs:List (aK×V)}{ws:List (Value×Value)},VV (kvs.map λkv=>(kV kv.1,kv.2)) ws->∃rs,Carries (fH P w) ws rs/\KV kvs rs
 |[],_,r=>by rw[List.map_nil]at r;cases r;exact⟨[],True.intro,.nil⟩
 |p::kvs,_,r=>by
  rw[bp2]at r
  cases r with
  |@cons a b as bs h t=>
   obtain⟨rs,c,q⟩:=M4 (P:=P) (w:=w) t
   obtain⟨b1,b2⟩:=b
   exact⟨(p.1,b2)::rs,⟨oZ h.1,rfl,c⟩,.cons ⟨rfl,h.2⟩ q⟩
def M5 (trs:List (TE×TE)):TE:=λσ H Q=>∀p,H p=none->wA trs σ (upd H p (.dK [])) λps H2=>H2 p=some (.dK [])/\∃kvs:List (aK×V),ps=kvs.map (λkv=>(kV kv.1,kv.2))/\kvs.length<=15/\Q (.ref p) (upd H2 p (.dK (nD [] kvs)))
theorem ay0 {X:Cx}{pos:Pos}{keys:List (Option Expr)}{values:List Expr}{trs:List (TE×TE)}(h:rF X pos keys values trs)(hall:keys.all (·.isSome)=true)(hl:keys.length=values.length)(h0:keys≠[])(h15:keys.length<=15):PE X (.Dict keys values pos) (M5 trs):=by
 intro pins s σ H Q I q
 have hn:=I.hok.fresh (bn1 s.heap.objs.size)
 have I1:=I.laid (a:=s.heap.objs.size) (o:=.dK []) (h':=s.heap.push { cls:=.type "dict",data:=.dict #[] }) (t':=s.toks) (λ_ _ q=>bm5 _ q) (bn1 _) (M0 s.heap I.big)
 refine wpAny_Dict_walk (knd:=fH X.prog X.w) hall hl h0 h15 (aR (h pins _ σ _ _ I1 (q _ hn)) λws s2 ⟨ps,H2,I2,rel,e,kvs,ep,lk,q2⟩=>?_)
 subst ep
 obtain⟨rs,c,rk⟩:=M4 (P:=X.prog) (w:=X.w) rel
 obtain⟨z,hd,vs0,r0,dd⟩:=L5 I2.hok e
 cases r0
 refine⟨rs,c,dd,λh' dd' hs=>⟨.ref s.heap.objs.size,_,?_,rfl,q2⟩⟩
 have hz:(nD [] kvs).length<=sizeLine:=by
  have h1:=M3 kvs []
  rw[List.length_nil]at h1
  rw[sizeLine_eq];omega
 have he:∃q,h'.get? s.heap.objs.size=some q:=let ⟨q,_,_,hq,_⟩:=dd';⟨q,hq⟩
 exact w9 I2 (by rw[e];exact True.intro) hs he (L6 hz hd (rk.merge .nil) dd')
structure M2 (X:Cx)(o:Expr)(m:Str)(apos:Pos)(e f:Expr)(cpos:Pos):Prop where
 base:attributeBase o m X.env (eval o X.env)=eval o X.env
 few:((backTo cpos (starEach [e,f] X.env)).all (λx=>!x.1)&&(backToKw cpos (keywordEach [] X.env)).all (λx=>x.1.isSome)
 &&decide (([e,f]:List Expr).length+([]:List Keyword).length+(if ([]:List Keyword).isEmpty then 0 else 1)<30))=true
 line:(apos.endLine==cpos.line)=true
 trees:backTo cpos (starEach [e,f] X.env) = [(false,eval e X.env),(false,eval f X.env)]
end L2
namespace Att
open PySem PySem.W PySem.Calls PyProof.Rows
theorem ay1 {P:Params}{h:Heap}:∀(ns:af) (vs:List Value),WellAll P h vs (ns.map WData.int)->IntsAre vs ns:=by
 intro ns
 induction ns with
 |nil=>
  intro vs w
  rw[List.map_nil]at w
  cases w
  exact .nil
 |cons n ns ih=>
  intro vs w
  rw[bp2]at w
  cases w with
  |cons a b=>
   cases a
   exact .cons _ _ (ih _ b)
theorem M6 {l:OpenLaw}{n:Nat}(hn:l.most=some n){P:Params}{h:Heap}{args:List WData}{vals:List Value}(hpre:l.row.toRowW.claim.pre args=true)(hwl:WellAll P h vals args) :
  ∃a vs ns,vals = [Value.ref a]/\args = [WData.list (ns.map WData.int)]/\h.get? a=some { cls:=.type "list",data:=.seq vs.toArray }/\IntsAre vs ns/\ns.length<=n:=by
 have hsh:WShape.hasAll [] args [.list .int]=true:=(pre_splitW hpre).1
 have hc:l.pre.holds [] { args:=args }=true:=(pre_splitW hpre).2
 obtain⟨d,r,rfl,h1,h2⟩:=hasAllW_cons hsh
 obtain rfl:=hasAllW_nil h2
 obtain⟨xs,rfl,h3⟩:=hasW_list h1
 obtain⟨ns,rfl⟩:=items_int h3
 have hlen:ns.length<=n:=by
  unfold OpenLaw.pre at hc
  have h4:(WTm.not (.lt (.lit (.int (n:Int))) (.len (.arg 0)))).holds [] { args:=[.list (ns.map .int)] }=true:=by
   have h4:=(holds_andW hc).1
   rw[hn]at h4
   exact h4
  have h5:=condW_of h4 (w_not (w_lt w_lit (w_len_list (w_arg rfl))))
  rw[bm7]at h5
  refine bB0 λq=>?_
  have q':(n:Int)<((ns.length:Nat):Int):=by omega
  first
   |(rw[bm4 q']at h5;exact absurd h5 (by decide))
   |(simp at h5;omega)
 cases hwl with
 |cons w1 w2=>
  cases w2
  cases w1 with
  |list ho hall=>exact⟨_,_,ns,rfl,rfl,ho,ay1 ns _ hall,hlen⟩
theorem M7 (l:OpenLaw)(args:List WData):l.row.toRowW.claim.post args (.bool true) args=true:=
 postW_of (r:=l.row.toRowW) (X:=(true==true))
  (show WShape.has [] (.bool true) .bool=true by first|rfl|decide|simp[WShape.has,WShape.arms,WShape.armsAll])
  (show (WTm.eq .res (.lit (.bool true))).value [] { args:=args,res:=some (.bool true),after:=args }=some (.bool (true==true)) from w_eq_bool (w_res rfl) w_lit) rfl
theorem bl6 {l:OpenLaw}{n:Nat}{q:Program}{loose:List Str}{XP:(Str->Option Value)->Heap->Prop}{YP:World->Heap->Prop}{d:DefRec}{x:Str}(hn:l.most=some n)(hdf:d.params.defaults = [])(hbind:∀pm cd doc v:Value,bindArgs (docDef d.name d.params d.body d.scope pm cd doc) ⟨[v],[]⟩=pure [(x,v)])(hx:d.scope.names.lookup x=some .local∨d.scope.names.lookup x=some .cell)(hk:d.scope.kind = .function)(hco:d.scope.isCoroutine=false)(hgen:d.scope.isGenerator=false)(body:∀(w:World) (s₀ s₁ s:Shared) (mg mb:Str->Option Value) (fa:Addr) (o:Obj) (pm cd doc:Value) (a:Addr) (vs:List Value) (ns:af),
   Ground q loose [] XP w s₀ mg mb s₁.heap->YP w s₁.heap->
   s₁.heap.get? fa=some o->o.data = .func (docDef d.name d.params d.body d.scope pm cd doc)->s₁.heap.CodeRec cd d.name->mg d.name=some (.ref fa)->
   s₁.heap.get? a=some { cls:=.type "list",data:=.seq vs.toArray }->IntsAre vs ns->ns.length<=n->
   s.gens = #[]->s.os=s₁.os->
   Fr s₁.heap s₁.heap.objs.size s.heap (bindL (envOfC d.name d.scope s₁.heap.objs.size fa cd).kindOf [(x,.ref a)] λ_=>none)->
   Cl s₁.heap.objs.size (cellsFrom (s₁.heap.objs.size+1) d.scope.names []) s.heap (bindC (envOfC d.name d.scope s₁.heap.objs.size fa cd).kindOf [(x,.ref a)] λ_=>none)->
   wpAny (model l.prog w) (callerA.deeper (envOfC d.name d.scope s₁.heap.objs.size fa cd)) (execs d.body (envOfC d.name d.scope s₁.heap.objs.size fa cd))
    (λf s'=>f = .ret (.bool true)/\OldK s₁.heap s'.heap/\s'.os=s₁.os/\AllBare s'.gens) (λ_ _=>False) s) :
  WalkO q loose XP YP l.row.toRowW d [] (λf vs=>PySem.call f vs):=by
 intro w s₀ s₁ mg mb G Y fa o pm cd doc dV kV ho hd hcd hD hmg hg args vals as hpre hlay hrd hwl hlo
 obtain rfl:dV = .none:=Dflts.none hD hdf
 obtain rfl:kV = .none:=Dflts.noKw hD
 obtain⟨a,vs,ns,rfl,rfl,hobj,hints,hlen⟩:=M6 hn hpre hwl
 refine enter_call ?_
 refine call_cells_ret (o:=o) (by rw[depth_caller];decide) ho (fd_plain hd) G.T.nolimit hcd (hbind pm cd doc (.ref a)) (λy hy=>?_) (λh₁ tk F X=>?_) hco hgen hk
 ·obtain rfl:y=(x,Value.ref a):=bm2.mp hy
  rcases hx with e|e
  ·exact .inl e
  ·exact .inr ⟨e,cellsFrom_some _ _ _ (.inl e)⟩
 ·refine bw8 (body w s₀ s₁ { s₁ with heap:=h₁,toks:=tk } mg mb fa o pm cd doc a vs ns G Y ho (fd_plain hd) hcd hmg hobj hints hlen hg rfl F X) (λf s' hq=>?_) (λ_ _ hq=>hq)
  obtain⟨rfl,h2,h3,h4⟩:=hq
  exact⟨.inl ⟨.bool true,.bool true,[],rfl,λ_=>rfl,.bool true,M7 l _,λ_=>⟨bx3,λ_ hm=>(nomatch hm)⟩⟩,h2,h3,h4⟩
theorem ay2 {l:OpenLaw}{n:Nat}{q:Program}{loose:List Str}{XP:(Str->Option Value)->Heap->Prop}{YP:World->Heap->Prop}{d:DefRec}(hn:l.most=some n)(hdf:d.params.defaults = [])(call:∀(w:World) (s₀ s₁:Shared) (mg mb:Str->Option Value) (fa:Addr) (o:Obj) (pm cd doc:Value) (a:Addr) (vs:List Value) (ns:af),
   Ground q loose [] XP w s₀ mg mb s₁.heap->YP w s₁.heap->
   s₁.heap.get? fa=some o->o.data = .func (docDef d.name d.params d.body d.scope pm cd doc)->s₁.heap.CodeRec cd d.name->mg d.name=some (.ref fa)->
   s₁.heap.get? a=some { cls:=.type "list",data:=.seq vs.toArray }->IntsAre vs ns->ns.length<=n->s₁.gens = #[]->
   codeAny (model l.prog w) callerA (.call (.ref fa) ⟨[.ref a],[]⟩) (λr s'=>r = .ok (.ret (.bool true))/\OldK s₁.heap s'.heap/\s'.os=s₁.os/\AllBare s'.gens) s₁) :
  WalkO q loose XP YP l.row.toRowW d [] (λf vs=>PySem.call f vs):=by
 intro w s₀ s₁ mg mb G Y fa o pm cd doc dV kV ho hd hcd hD hmg hg args vals as hpre hlay hrd hwl hlo
 obtain rfl:dV = .none:=Dflts.none hD hdf
 obtain rfl:kV = .none:=Dflts.noKw hD
 obtain⟨a,vs,ns,rfl,rfl,hobj,hints,hlen⟩:=M6 hn hpre hwl
 refine enter_call (codeAny_mono (call w s₀ s₁ mg mb fa o pm cd doc a vs ns G Y ho (fd_plain hd) hcd hmg hobj hints hlen hg) λr s' hq=>?_)
 obtain⟨rfl,h2,h3,h4⟩:=hq
 exact⟨.inl ⟨.bool true,.bool true,[],rfl,λ_=>rfl,.bool true,M7 l _,λ_=>⟨bx3,λ_ hm=>(nomatch hm)⟩⟩,h2,h3,h4⟩
section
variable {prog:Program}{w:World}{A:Around}{E:Value→Shared→Prop}{s:Shared}{K:Frag}
def bl7 (h:Heap)(L d:Addr):List (Addr×Obj):=(List.range h.objs.size).filterMap λa=>if a=L∨a=d then none else (h.get? a).map λo=>(a,o)
end
end Att
namespace L2
open PySem PySem.Spec PyProof.Rows
theorem rG:∀{vs:List Value}{ns:af},IntsAre vs ns->aN (ns.map V.int) vs
 |_,_,.nil=>.nil
 |_,_,.cons n t h=>.cons ⟨t,rfl⟩ (rG h)
def rH (H:Hp):Prop:=∀b,H b=none∨∃o xs,H b=some (.frz o (.lst xs))
theorem ay3 {P:Program}{w:World}{K:ad}{mg mb:Str->Option Value}{CX:iB}{k:Nat}{fa a:Addr}{fd:FuncData}{x:Str}{sp:Sp}{s₁:Shared}{vs:List Value}{ns:af}(KX:K.In s₁.heap)(hns:s₁.heap.Ns mainGlobals mg)(hb:s₁.heap.Ns builtinsNs mb)(hbb:∀x:Str,x≠"__name__"->mb x=bootBuiltins x)(hlim:s₁.heap.NoLimit)(hg:s₁.gens = #[])(ha:s₁.heap.get? a=some { cls:=.type "list",data:=.seq vs.toArray })(hi:IntsAre vs ns)(hl:ns.length<=sizeLine)(hr:cJ k callerA)(F:∀base:Heap,K.In base->base.Ns mainGlobals mg->cZ P w K mg base CX k fa fd [x] sp)(hbind:∀(s:Shared) (u:Value),BindsTo s fd ⟨[u],[]⟩ [(x,u)])(hsp:∀H:Hp,rH H->aM K H a (ns.map V.int)->sp [.ref a] H (λv _=>v = .bl true) λ_ _ _=>False)(hCX:∀H e s',CX [] H s₁ (λ_ _ _=>False) e s'->False) :
  codeAny (model P w) callerA (.call (.ref fa) ⟨[.ref a],[]⟩) (λr s'=>r = .ok (.ret (.bool true))/\OldK s₁.heap s'.heap/\s'.os=s₁.os/\AllBare s'.gens) s₁:=by
 have rv:=rG hi
 have lenV:=hi.length
 have core:∀H:Hp,rH H->aM K H a (ns.map V.int)->bX P w H s₁.heap->(∀b,H b≠none->b=a)->(H a≠none->K.lookup a=none)->
   codeAny (model P w) callerA (.call (.ref fa) ⟨[.ref a],[]⟩) (λr s'=>r = .ok (.ret (.bool true))/\OldK s₁.heap s'.heap/\s'.os=s₁.os/\AllBare s'.gens) s₁:=by
  intro H hO hS hok hA hK
  have base_of:∀{b:Addr}{o:Obj},s₁.heap.get? b=some o->H b=none->(jM s₁.heap H).get? b=some o:=λe n=>ao2 e n
  have noA:∀{b:Addr}{o:Obj}{es:Array DictEntry}{ep:Nat},s₁.heap.get? b=some o->o.data = .dict es ep->H b=none:=λ{b o es ep} e d=>by
   cases q:H b with
   |none=>rfl
   |some u=>
    have e':b=a:=hA b (by rw[q];simp)
    subst e'
    rw[ha]at e;cases e
    have d':Data.seq vs.toArray _=Data.dict es ep:=d
    cases d'
  have nsK:∀{b:Addr}{m:Str->Option Value},s₁.heap.Ns b m->(jM s₁.heap H).Ns b m:=λ{b m} ⟨o,es,ep,e,d,r⟩=>⟨o,es,ep,base_of e (noA e d),d,r⟩
  have hKb:K.In (jM s₁.heap H):=λb o e=>base_of (KX b o e) (by
   cases q:H b with
   |none=>rfl
   |some u=>
    have e':b=a:=hA b (by rw[q];simp)
    subst e'
    rw[hK (by rw[q];simp)]at e;cases e)
  have hM:Mod K mg (jM s₁.heap H):=⟨hKb,nsK hns,⟨mb,nsK hb,hbb⟩,let ⟨mc,h1,h2⟩:=hlim;⟨mc,nsK h1,h2⟩⟩
  have e0:rC P w K mg (jM s₁.heap H) callerA [] s₁ H:=⟨rfl,hM,λb o e=>ao3 e,Nat.le_of_eq (ao1 _ _),trivial,λb hb=>absurd (show b∈([]:List Addr) from hb) (by simp),hok,.of_eq hg⟩
  refine codeAny_mono ((F _ hKb (nsK hns)).run callerA [] s₁ H ⟨[.ref a],[]⟩ [.ref a] [.ref a] _ _ hr e0 (hbind s₁ (.ref a)) (.cons rfl .nil) (hsp H hO hS)) λr s' h=>?_
  cases r with
  |error e=>exact (hCX H e s' h).elim
  |ok fl=>
   cases fl with
   |next=>exact False.elim h
   |brk=>exact False.elim h
   |cont=>exact False.elim h
   |ret u=>
    obtain⟨v,H',os,bare,un,hok',r',q⟩:=h
    have q':v = .bl true:=q
    subst q'
    obtain rfl:u=Value.bool true:=r'
    refine⟨rfl,OldK.of_keep λb o e=>?_,os,bare⟩
    cases q:H b with
    |none=>exact un.keep b o e q (by intro z;exact absurd (show b∈([]:List Addr) from z) (by simp)) (by simp)
    |some u=>
     rcases hO b with z|⟨ob,xs,z⟩
     ·rw[q]at z;cases z
     ·have z2:=un.frzs b ob _ z
      obtain⟨e1,_⟩:=hok b _ z
      obtain⟨e2,_⟩:=hok' b _ z2
      rw[e]at e1;cases e1
      exact e2
 cases hk:K.lookup a with
 |some o=>
  have e:=KX a o hk
  rw[ha]at e
  cases e
  refine core (λ_=>none) (λ_=>.inl rfl) (.inr ⟨_,vs.toArray,_,hk,rfl,rfl,rfl,by rw[bn9,lenV];exact hl,by simpa using rv⟩) (λb u z=>by have z':(none:Option HO)=some u:=z;cases z') (λb z=>absurd rfl z) λz=>absurd rfl z
 |none=>
  refine core (λb=>if b=a then some (.frz { cls:=.type "list",data:=.seq vs.toArray } (.lst (ns.map V.int))) else none) (λb=>?_) (.inl (.inr ⟨{ cls:=.type "list",data:=.seq vs.toArray },if_pos rfl⟩)) (λb u z=>?_) (λb z=>?_) λ_=>hk
  ·by_cases hb:b=a
   ·exact .inr ⟨_,_,if_pos hb⟩
   ·exact .inl (if_neg hb)
  ·by_cases hb:b=a
   ·have z':=(if_pos hb).symm.trans z
    cases z'
    subst hb
    exact⟨ha,by rw[bm7];exact hl,vs,_,rv,ha⟩
   ·have z':=(if_neg hb).symm.trans z
    cases z'
  ·by_cases hb:b=a
   ·exact hb
   ·exact absurd (if_neg hb) z
theorem ay4 {l:PySem.W.OpenLaw}{n k:Nat}{q:Program}{loose:List Str}{XP:(Str->Option Value)->Heap->Prop}{YP:World->Heap->Prop}{d:DefRec}{K:Params->ad}{CX:World->iB}{sp:World->Sp}{x:Str}(hn:l.most=some n)(hn2:n<=sizeLine)(hdf:d.params.defaults = [])(hr:cJ k callerA)(hY:∀(w:World) (h:Heap),YP w h->(K w.params).In h)(F:∀(w:World) (mg:Str->Option Value) (fa:Addr) (h:Heap),(K w.params).In h->h.Ns mainGlobals mg->mg d.name=some (.ref fa)->
   ∃fd:FuncData,(∀(s:Shared) (u:Value),BindsTo s fd ⟨[u],[]⟩ [(x,u)])/\
    ∀base:Heap,(K w.params).In base->base.Ns mainGlobals mg->cZ l.prog w (K w.params) mg base (CX w) k fa fd [x] (sp w))(hsp:∀(w:World) (H:Hp) (a:Addr) (ns:af),ns.length<=n->rH H->aM (K w.params) H a (ns.map V.int)->sp w [.ref a] H (λv _=>v = .bl true) λ_ _ _=>False)(hCX:∀(w:World) (H:Hp) (s:Shared) (e:Value) (s':Shared),CX w [] H s (λ_ _ _=>False) e s'->False) :
  PySem.W.WalkO q loose XP YP l.row.toRowW d [] (λf vs=>PySem.call f vs):=by
 refine Att.ay2 hn hdf λw s₀ s₁ mg mb fa o pm cd doc a vs ns G Y ho hd hcd hmg hobj hints hlen hg=>?_
 have KX:=hY w _ Y
 obtain⟨fd,hb,hF⟩:=F w mg fa _ KX G.T.g hmg
 exact ay3 KX G.T.g G.T.b G.T.builtins G.T.nolimit hg hobj hints (bs0 hlen hn2) hr hF hb (λH hO hS=>hsp w H a ns hlen hO hS) λH e s'=>hCX w H s₁ e s'
def jY (s:Stmt):Arguments:=match s with
 |.FunctionDef _ a _ _ _ _ _ _ _ _=>a
 |_=>{ posonlyargs:=[],args:=[],vararg:=none,kwonlyargs:=[],kw_defaults:=[],kwarg:=none,defaults:=[] }
def fI (s:Stmt):List Stmt:=match s with
 |.FunctionDef _ _ b _ _ _ _ _ _ _=>b
 |_=>[]
def aX (s:Stmt):Scope:=match s with
 |.FunctionDef _ _ _ _ _ _ sc _ _ _=>sc
 |_=>{ kind:=.function,names:=[],isGenerator:=false,isCoroutine:=false }
abbrev eC:iB:=λ_ _ _ _ _ _=>False
abbrev E0:XK:=λ_ _ _=>False
theorem ay5 {X:Cx}:oR eC X E0:=λ_ _ _ _ _ _ _ h=>h.elim
structure fJ (K:ad)(x qual:Str)(st:Stmt)(f:Addr)(fd:FuncData):Prop where
 ex:∃(oc:Value) (od:Option Addr) (kV doc pm:Value) (an:Option Addr) (cdv ct:Value) (osl:Array (Option Value)),
  fd=PySem.W.fnOf x qual (jY st) (fI st) (aX st) .none kV doc pm an cdv ct/\K.lookup f=some ⟨oc,od,.func fd,osl⟩/\PySem.W.codeIn K cdv qual=true
 kp:PySem.W.keepIn K (.ref f)=true
section
variable {P:Program}{w:World}{K:ad}{mg:Str→Option Value}{base:Heap}
theorem fJ.ok {x qual:Str}{st:Stmt}{f:Addr}{fd:FuncData}{N ps:List Str}{k:Nat}{sp:Sp}(F:fJ K x qual st f fd)(S:FnScope N ps (aX st))(len:∀vs H Q E,sp vs H Q E->vs.length=ps.length)(hbody:∀(cdv:Value) (A:Around) (outer:List Env) (s:Shared) (H:Hp) (vs:List V) (Q:VK) (E:XK),cJ k (A.deeper (envOfC qual (aX st) s.heap.objs.size f cdv))->sp vs H Q E->
   ∃t,eZ (dR eC P w K mg base N qual (aX st) f cdv A outer s H E).nox (fI st) t/\t { nx:=λ_ H'=>Q .non H',rt:=Q } (start N vs) H):cZ P w K mg base eC (k+1) f fd ps sp:=by
 obtain⟨oc,od,kV,doc,pm,an,cdv,ct,osl,rfl,lk,hcd⟩:=F.ex
 refine G8 lk hcd S len λA outer s H vs Q E hr hsp=>?_
 obtain⟨t,h,q⟩:=hbody cdv A outer s H vs Q E hr hsp
 exact⟨t,h.nox,q⟩
theorem fJ.binds {x qual:Str}{st:Stmt}{f:Addr}{fd:FuncData}{ps:List Str}(F:fJ K x qual st f fd)(h:∀(kV doc pm:Value) (an:Option Addr) (cdv ct:Value) (us:List Value),us.length=ps.length->bindArgs (PySem.W.fnOf x qual (jY st) (fI st) (aX st) .none kV doc pm an cdv ct) ⟨us,[]⟩=pure (ps.zip us)):j5 K fd ps []:=by
 obtain⟨oc,od,kV,doc,pm,an,cdv,ct,osl,rfl,lk,hcd⟩:=F.ex
 exact .all (h kV doc pm an cdv ct)
theorem ay6 {x qual:Str}{st:Stmt}{f:Addr}{oc:Value}{od an:Option Addr}{osl:Array (Option Value)}{kV doc pm cdv ct:Value}(l:K.lookup f=some ⟨oc,od,.func (PySem.W.fnOf x qual (jY st) (fI st) (aX st) .none kV doc pm an cdv ct),osl⟩)(c:PySem.W.codeIn K cdv qual=true)(k:PySem.W.keepIn K (.ref f)=true):fJ K x qual st f (PySem.W.fnOf x qual (jY st) (fI st) (aX st) .none kV doc pm an cdv ct):=⟨⟨oc,od,kV,doc,pm,an,cdv,ct,osl,rfl,l,c⟩,k⟩
end
theorem wB {A:Around}{k:Nat}(hr:cJ k A):A.units+1<cLine:=Nat.lt_of_le_of_lt (Nat.add_le_add_left (by decide:1<=64) _) hr.units
theorem p6 {n:Nat}(h:n<=1000):n<sizeLine:=Nat.lt_of_le_of_lt h (by decide)
section
variable {X:Cx}
theorem pv (i:Nat){x:Str}{pos:Pos}(hN:X.N[i]? = some x:=by rfl)(hv:i6 X.env.scope x:=by first|exact Or.inl rfl|exact Or.inr (Or.inl rfl)|exact Or.inr (Or.inr rfl))(hd:(x==("__debug__":Str))=false:=by decide)(hcd:(x==("__classdict__":Str))=false:=by decide):PE X (.Name x pos) (j4 i):=jN hN hv hd hcd
theorem ay7:dQ X (.builtin "len") (λxs H Q=>∃a kvs,xs = [V.ref a]/\H a=some (.dK kvs)/\Q (.int kvs.length) H):=by
 intro pins s σ H xs us Q I r h
 obtain⟨a,kvs,rfl,ha,q⟩:=h
 obtain⟨u,rfl,ru⟩:=iA r
 cases ru
 exact ax3 I (.inl ha) λt s' I'=>⟨.int kvs.length,H,I',⟨t,rfl⟩,q⟩
end
theorem bG {A B:Prop}(h:B):if false=true then A else B:=by
 rw[if_neg bo4]
 exact h
theorem bJ {A B:Prop}(h:A):if true=true then A else B:=by
 rw[if_pos rfl]
 exact h
def aC (H H':Hp):Prop:=∀b o,H b=some o->H' b=some o
theorem aC.refl (H:Hp):aC H H:=λ_ _ h=>h
theorem aC.trans {H H1 H2:Hp}(a:aC H H1)(b:aC H1 H2):aC H H2:=λc o h=>b c o (a c o h)
theorem aC.free {H H':Hp}(e:aC H H'){l:Addr}(h:H' l=Option.none):H l=Option.none:=by
 cases q:H l with
 |none=>rfl
 |some o=>
  rw[e l o q]at h
  cases h
theorem aC.seq {K:ad}{H H':Hp}{a:Addr}{xs:List V}(e:aC H H')(h:aM K H a xs):aM K H' a xs:=by
 rcases h with (h|⟨o,h⟩)|h
 ·exact .inl (.inl (e _ _ h))
 ·exact .inl (.inr ⟨o,e _ _ h⟩)
 ·exact .inr h
def fC (cells:List (Str×Addr)):List (Str×NameKind)->List (Str×Addr)->List (Str×Addr)
 |[],cs=>cs
 |(n,k)::r,cs=>fC cells r (if k==.free then (n,(cells.lookup n).getD 0)::cs else cs)
theorem wC {env:Env}:∀(ns:List (Str×NameKind)) (cs:List (Str×Addr)),(∀x∈ns,x.2 = .free->∃c,env.cells.lookup x.1=some c)->
  (forIn ns cs (λ(x:Str×NameKind) r=>(match x with
   |(name,kind)=>if (kind==.free)=true then (do let y <- cellOf env name;pure (ForInStep.yield ((name,y)::r))) else pure (ForInStep.yield r)):_->_->Sem _))=(pure (fC env.cells ns cs):Sem (List (Str×Addr)))
 |[],cs,_=>by rw[List.forIn_nil];rfl
 |(n,k)::r,cs,h=>by
  rw[List.forIn_cons]
  have hr:∀x∈r,x.2 = .free->∃c,env.cells.lookup x.1=some c:=λx hx=>h x (bn5 _ hx)
  cases hk:(k==NameKind.free) with
  |true=>
   have e:k = .free:=by simpa using hk
   obtain⟨c,hc⟩:=h (n,k) bm8 e
   simp only[hk,if_true]
   have e1:cellOf env n=pure c:=by unfold cellOf;rw[hc]
   rw[e1]
   show ((pure c >>= λy=>pure (ForInStep.yield ((n,y)::cs))) >>= _:Sem _)=_
   rw[pure_bind,pure_bind]
   have:=wC (env:=env) r ((n,c)::cs) hr
   refine this.trans ?_
   unfold fC
   simp only[hk,if_true,hc,Option.getD_some]
   cases r<;>rfl
  |false=>
   simp only[hk,bp7,bu4]
   rw[pure_bind]
   have:=wC (env:=env) r cs hr
   refine this.trans ?_
   conv=>rhs;unfold fC
   simp only[hk,bp7,bu4]
theorem rJ {scope:Scope}{env:Env}(h:∀x∈scope.names,x.2 = .free->∃c,env.cells.lookup x.1=some c):closureFor scope env=pure (fC env.cells scope.names []):=by
 have e:=wC (env:=env) scope.names [] h
 unfold closureFor
 rw[show (pure (fC env.cells scope.names []):Sem (List (Str×Addr)))=(pure (fC env.cells scope.names []) >>= pure) by rw[pure_bind]]
 rw[<- e]
theorem rK {cells:List (Str×Addr)}:∀(ns:List (Str×NameKind)) (cs:List (Str×Addr)) {x:Str}{c:Addr},(∀y∈ns,y.2 = .free->∃c,cells.lookup y.1=some c)->
  (∀x c,cs.lookup x=some c->cells.lookup x=some c)->(fC cells ns cs).lookup x=some c->cells.lookup x=some c
 |[],cs,x,c,_,hc,h=>hc x c h
 |(n,k)::r,cs,x,c,hn,hc,h=>by
  unfold fC at h
  have hr:∀y∈r,y.2 = .free->∃c,cells.lookup y.1=some c:=λy hy=>hn y (bn5 _ hy)
  cases hk:(k==NameKind.free) with
  |false=>
   simp only[hk,bp7,bu4]at h
   exact rK r cs hr hc h
  |true=>
   simp only[hk,if_true]at h
   refine rK r _ hr (λy d e=>?_) h
   obtain⟨c0,h0⟩:=hn (n,k) bm8 (by simpa using hk)
   have h0:cells.lookup n=some c0:=h0
   rw[h0]at e
   rw[bv0]at e
   by_cases hyn:y=n
   ·subst hyn
    simp only[beq_self_eq_true,Option.getD_some]at e
    rw[h0];exact e
   ·have:(y==n)=false:=beq_eq_false_iff_ne.mpr hyn
    simp only[this]at e
    exact hc y d e
theorem wD {cells:List (Str×Addr)}:∀(ns:List (Str×NameKind)) (cs:List (Str×Addr)) {x:Str},((x,NameKind.free)∈ns∨∃c,cs.lookup x=some c)->∃c,(fC cells ns cs).lookup x=some c
 |[],cs,x,h=>by
  rcases h with h|h
  ·simp at h
  ·exact h
 |(n,k)::r,cs,x,h=>by
  unfold fC
  refine wD r _ ?_
  rcases h with h|⟨c,h⟩
  ·rcases bn8.mp h with e|e
   ·cases e
    exact .inr ⟨_,by simp[bv0];rfl⟩
   ·exact .inl e
  ·right
   cases hk:(k==NameKind.free) with
   |false=>exact⟨c,by simpa[hk] using h⟩
   |true=>
    simp only[if_true]
    rw[bv0]
    by_cases hxn:(x==n)=true
    ·simp only[hxn];exact⟨_,rfl⟩
    ·simp only[bA3.mpr hxn];exact⟨c,h⟩
theorem rL {env:Env}:∀{names:List (Str×NameKind)}{x:Str}{k:NameKind},(names.map λ(n,k)=>if (k==NameKind.free&&env.scope.kind==.function&&env.kindOf n==some .cell) then (n,NameKind.cell) else (n,k)).lookup x=some k->
  names.lookup x=some k∨(names.lookup x=some .free/\k = .cell)
 |[],_,_,h=>by simp at h
 |(n,q)::r,x,k,h=>by
  have ih:=@rL env r x k
  rw[bp2]at h
  by_cases hx:(x==n)=true
  ·have e:x=n:=by simpa using hx
   subst e
   by_cases hc:(q==NameKind.free&&env.scope.kind==.function&&env.kindOf x==some .cell)=true
   ·simp only[hc,if_true,bv0,beq_self_eq_true]at h
    have hq:q = .free:=by simp at hc;exact hc.1.1
    exact .inr ⟨by simp[bv0,hq],(bo9 h).symm⟩
   ·simp only[hc,bp7,bu4,bv0,beq_self_eq_true]at h
    exact .inl (by simp[bv0];exact bo9 h)
  ·have hx':(x==n)=false:=bA3.mpr hx
   have h':(r.map λ(n,k)=>if (k==NameKind.free&&env.scope.kind==.function&&env.kindOf n==some .cell) then (n,NameKind.cell) else (n,k)).lookup x=some k:=by
    by_cases hc:(q==NameKind.free&&env.scope.kind==.function&&env.kindOf n==some .cell)=true
    ·simp only[hc,if_true,bv0,hx']at h;exact h
    ·simp only[hc,bp7,bu4,bv0,hx']at h;exact h
   simp only[bv0,hx']
   exact ih h'
def gN (fr:List (Option Nat))(σ:St):St:=fr.map λo=>o.bind λj=>(σ[j]?).join
def Wk (σ₁ σ₂:St):Prop:=σ₁.length=σ₂.length/\∀(i:Nat) v,σ₁[i]? = some (some v)->σ₂[i]? = some (some v)
theorem Wk.refl (σ:St):Wk σ σ:=⟨rfl,λ_ _ h=>h⟩
theorem Wk.set {σ τ:St}{i:Nat}{v:V}(h:Wk σ τ)(hi:σ[i]? = some none):Wk σ (τ.set i (some v)):=by
 refine⟨by rw[bs5];exact h.1,λj w e=>?_⟩
 by_cases hj:j=i
 ·subst hj;rw[hi]at e;cases e
 ·rw[bq7 (Ne.symm hj)];exact h.2 j w e
theorem jZ:∀(ns:List (Str×NameKind)) (n:Nat) (cs:List (Str×Addr)),cellsFrom n ns cs=cellsFrom n ns []++cs
 |[],_,_=>rfl
 |(x,k)::r,n,cs=>by
  unfold cellsFrom
  split
  ·rw[jZ r (n+1) ((x,n)::cs),jZ r (n+1) [(x,n)]];simp
  ·exact jZ r n cs
theorem wE:∀(ns:List (Str×NameKind)) (n:Nat) {x:Str}{c:Addr},(x,c)∈cellsFrom n ns []->(x,NameKind.cell)∈ns
 |[],_,_,_,h=>by simp[cellsFrom]at h
 |(y,k)::r,n,x,c,h=>by
  unfold cellsFrom at h
  split at h
  ·rename_i hk
   rw[jZ]at h
   rcases bn0.mp h with z|z
   ·exact bn5 _ (wE r _ z)
   ·rw[bm2]at z
    cases z
    have:k = .cell:=by simpa using hk
    rw[this];exact bm8
  ·exact bn5 _ (wE r _ h)
theorem rM:∀(ns:List (Str×NameKind)) (n:Nat) {x:Str},(x,NameKind.cell)∈ns->∃c,(x,c)∈cellsFrom n ns []
 |(y,k)::r,n,x,h=>by
  unfold cellsFrom
  rcases bn8.mp h with z|z
  ·cases z
   rw[if_pos (by rfl),jZ]
   exact⟨n,bo8 _ (by simp)⟩
  ·split
   ·obtain⟨c,hc⟩:=rM r (n+1) z
    rw[jZ]
    exact⟨c,bo3 _ hc⟩
   ·exact rM r n z
theorem wF {α:Type}:∀{l:List (Str×α)}{x:Str}{c:α},(x,c)∈l->∃d,l.lookup x=some d
 |(y,v)::r,x,c,h=>by
  rw[bv0]
  cases hb:x==y with
  |true=>exact⟨v,rfl⟩
  |false=>
   rcases bn8.mp h with z|z
   ·cases z;simp at hb
   ·exact wF z
theorem rN {α:Type}{x:Str}:∀(l r:List (Str×α)),(l++r).lookup x=(match l.lookup x with|some v=>some v|none=>r.lookup x)
 |[],_=>rfl
 |(y,v)::l,r=>by
  rw[List.cons_append,bv0,bv0]
  cases hb:x==y with
  |true=>rfl
  |false=>exact rN l r
def iC (X:Cx)(scope:Scope)(C:Addr):List (Str×Addr):=cellsFrom (C+1) scope.names (fC X.env.cells scope.names [])
theorem lW {X:Cx}{scope:Scope}{C:Addr}{x:Str}{c:Addr}(h:(iC X scope C).lookup x=some c) :
  (x,c)∈cellsFrom (C+1) scope.names []∨((∀d,(x,d)∉cellsFrom (C+1) scope.names [])/\(fC X.env.cells scope.names []).lookup x=some c):=by
 unfold iC at h
 rw[jZ,rN]at h
 cases e:(cellsFrom (C+1) scope.names []).lookup x with
 |some v=>rw[e]at h;cases h;exact .inl (bt7 e)
 |none=>
  rw[e]at h
  refine .inr ⟨λd hd=>?_,h⟩
  obtain⟨d',z⟩:=wF hd
  rw[e]at z;cases z
theorem ay8 {X:Cx}{scope:Scope}{C:Addr}{x:Str}{c:Addr}(hn:(x,NameKind.cell)∉scope.names)(h:(fC X.env.cells scope.names []).lookup x=some c):(iC X scope C).lookup x=some c:=by
 unfold iC
 rw[jZ,rN]
 cases e:(cellsFrom (C+1) scope.names []).lookup x with
 |some v=>exact absurd (wE _ _ (bt7 e)) hn
 |none=>exact h
theorem M8 {X:Cx}{scope:Scope}{C:Addr}{x:Str}(h:(x,NameKind.cell)∈scope.names∨∃c,(fC X.env.cells scope.names []).lookup x=some c):∃c,(iC X scope C).lookup x=some c:=by
 unfold iC
 rw[jZ,rN]
 cases e:(cellsFrom (C+1) scope.names []).lookup x with
 |some v=>exact⟨v,rfl⟩
 |none=>
  rcases h with h|h
  ·obtain⟨c,hc⟩:=rM scope.names (C+1) h
   obtain⟨d,hd⟩:=wF hc
   rw[e]at hd;cases hd
  ·exact h
def bK (X:Cx)(scope:Scope)(N:List Str)(s:Shared)(H:Hp)(C:Addr)(fp:List Addr)(E:Value->Shared->Prop):Cx:=
 { X with N:=N,s₀:=s,H₀:=H,env:=compEnvC scope (iC X scope C) C X.env,outer:=X.stack,ex:=fp,fn:=λx=>scope.names.lookup x==some .cell,pn:=[],xe:=E }
structure cK (X:Cx)(scope:Scope)(N:List Str)(fr:List (Option Nat)):Prop where
 kind:scope.kind = .function
 own:∀y∈scope.names,y.2 = .cell->scope.names.lookup y.1=some .cell
 names:∀y∈scope.names,y.2 = .local->scope.names.lookup y.1=some .local
 free:∀y∈scope.names,y.2 = .free->X.env.scope.names.lookup y.1=some .cell∨X.env.scope.names.lookup y.1=some .free
 len:fr.length=N.length
 from_:∀(i j:Nat),fr[i]? = some (some j)->∃x,N[i]? = some x/\X.N[j]? = some x/\scope.names.lookup x=some .free
section
variable {X:Cx}{pins:List (Addr×Obj)}{σ:St}{H:Hp}{s:Shared}{scope:Scope}{N:List Str}{fr:List (Option Nat)}
theorem cK.cells (S:cK X scope N fr)(I:a6 X pins σ H s):∀y∈scope.names,y.2 = .free->∃c,X.env.cells.lookup y.1=some c:=λy hy hk=>I.ok.has y.1 (S.free y hy hk)
theorem ay9 {C D:Addr}{fp:List Addr}{E:Value->Shared->Prop}{h1:Heap}{tk:Nat}{m:Str->Option Value}(S:cK X scope N fr)(I:a6 X pins σ H s)(hf:∀b∈fp,i8 X pins H b)(hfl:∀b∈fp,b<s.heap.objs.size)(hD:s.heap.objs.size<=D)(hC:s.heap.objs.size<=C)(hDC:D<C)(old:∀b o,s.heap.get? b=some o->h1.get? b=some o)(hns:h1.Ns C m)(hacc:h1.get? D=some { cls:=.type "list",data:=.seq #[] 0 })(hco:CellsOk h1 (C+1) (cellsFrom (C+1) scope.names [])) :
  a6 (bK X scope N s H C fp E) [] (gN fr σ) (upd H D (.lst [])) { s with heap:=h1,toks:=tk }:=by
 have hHD:H D=none:=I.hok.fresh hD
 have cl:=S.cells I
 have cs:∀{x:Str}{c:Addr},(fC X.env.cells scope.names []).lookup x=some c->X.env.cells.lookup x=some c:=λ{x c} h=>rK scope.names [] cl (λ_ _ z=>by simp at z) h
 have clt:∀{x:Str}{c:Addr},X.env.cells.lookup x=some c->c<s.heap.objs.size:=λ{x c} h=>by obtain⟨v,z⟩:=I.cell x c h;exact z.lt
 have nge:∀{x:Str}{c:Addr},(x,c)∈cellsFrom (C+1) scope.names []->C<c:=λ{x c} h=>(hco.empty x c h).2
 refine⟨⟨I.ok.mod,?_,I.ok.glob,I.ok.blt,hC,?_,?_,?_,I.ok.hd,I.ok.frames,.inl rfl,?_,I.bs,bs0 I.ok.bsz I.sz,?_,?_,I.stack,I.stkFree⟩,rfl,I.bare,Un.laid old hD hHD,⟨m,hns,?_⟩,?_,?_,?_,λp hp=>absurd (show p∈([]:List (Addr×Obj)) from hp) (by simp),?_,?_⟩
 ·exact S.kind
 ·intro x y c h1 h2
  rcases lW h1 with a|⟨_,a⟩<;>rcases lW h2 with b|⟨_,b⟩
  ·exact name_of_addr hco.apart a b
  ·exact absurd (bo7 (Nat.lt_trans (nge a) (clt (cs b))) hC) (bt5 _)
  ·exact absurd (bo7 (Nat.lt_trans (nge b) (clt (cs a))) hC) (bt5 _)
  ·exact I.ok.inj x y c (cs a) (cs b)
 ·intro x hx
  have hx:(relabel scope X.env).names.lookup x=some .cell∨(relabel scope X.env).names.lookup x=some .free:=hx
  have fin:(x,NameKind.free)∈scope.names->∃c,(iC X scope C).lookup x=some c:=λz=>M8 (.inr (wD scope.names [] (.inl z)))
  rcases hx with hx|hx
  ·rcases rL hx with z|z
   ·exact M8 (.inl (bt7 z))
   ·exact fin (bt7 z.1)
  ·rcases rL hx with z|z
   ·exact fin (bt7 z)
   ·exact absurd z.2 (by decide)
 ·intro x c hx h
  have hx:(scope.names.lookup x==some NameKind.cell)=true:=hx
  have hx:scope.names.lookup x=some .cell:=by simpa using hx
  rcases lW h with a|⟨a,_⟩
  ·exact bs0 hC (bt9 (nge a))
  ·obtain⟨d,hd⟩:=rM scope.names (C+1) (bt7 hx)
   exact absurd hd (a d)
 ·intro b hb
  refine⟨br7 (bo7 (hfl b hb) hC),λx c e=>?_⟩
  rcases lW e with a|⟨_,a⟩
  ·exact bx8 (Nat.lt_trans (bo7 (hfl b hb) hC) (nge a))
  ·exact (hf b hb).2.2.2.2.1 x c (cs a)
 ·intro b o e hb
  rcases (hf b hb).2.2.2.1 with z|z
  ·exact I.ok.noex b o e z
  ·exact absurd (bo7 (bo6 e) (bs0 I.ok.bsz z)) (bt5 _)
 ·intro b hb z
  rcases bn8.mp (I.stkSub b z) with e|e
  ·exact (hf b hb).2.1 e
  ·exact (hf b hb).2.2.1 e
 ·intro i x v e1 e2 e3
  have e2:(fr.map λo=>o.bind λj=>(σ[j]?).join)[i]? = some (some v):=e2
  rw[bn4]at e2
  cases ef:fr[i]? with
  |none=>rw[ef]at e2;cases e2
  |some o=>
   rw[ef]at e2
   cases o with
   |none=>cases e2
   |some j=>
    have e2:some ((σ[j]?).join)=some (some v):=e2
    have ej:σ[j]? = some (some v):=by
     cases q:σ[j]? with
     |none=>rw[q]at e2;cases e2
     |some w=>rw[q]at e2;cases w with
      |none=>cases e2
      |some w=>cases e2;rfl
    obtain⟨y,a1,a2,a4⟩:=S.from_ i j ef
    have e1:N[i]? = some x:=e1
    rw[e1]at a1
    cases a1
    have a3:(x,NameKind.free)∈scope.names:=bt7 a4
    have vis:i6 X.env.scope x:=(S.free _ a3 rfl).elim (λz=>.inr (.inl z)) λz=>.inr (.inr z)
    obtain⟨m0,hn0,hl0⟩:=I.loc
    obtain⟨u,r,l⟩:=hl0 j x v a2 ej vis
    refine⟨u,r,.inr ⟨?_,?_⟩⟩
    ·have e3:(relabel scope X.env).names.lookup x=some .local∨(relabel scope X.env).names.lookup x=some .cell∨(relabel scope X.env).names.lookup x=some .free:=e3
     rcases e3 with z|z|z
     ·rcases rL z with y|y
      ·rw[a4]at y;cases y
      ·exact absurd y.2 (by decide)
     ·exact .inl z
     ·exact .inr z
    ·obtain⟨c,hc⟩:=wD (cells:=X.env.cells) scope.names [] (x:=x) (.inl a3)
     refine⟨c,ay8 (λz=>by have:=S.own _ z rfl;rw[a4]at this;cases this) hc,?_⟩
     have hc':=cs hc
     have S1:=S.free (x,.free) a3 rfl
     rcases l with⟨k,_⟩|⟨_,c2,hc2,z⟩
     ·have k:X.env.scope.names.lookup x=some .local:=k
      rcases S1 with q|q<;>(have q:X.env.scope.names.lookup x=_:=q;rw[k]at q;cases q)
     ·rw[hc']at hc2;cases hc2
      obtain⟨oc,ho,hd⟩:=z
      exact⟨oc,old c oc ho,hd⟩
 ·intro x c e
  rcases lW e with a|⟨_,a⟩
  ·exact⟨_,(hco.empty x c a).1⟩
  ·obtain⟨v,oc,ho,hd⟩:=I.cell x c (cs a)
   exact⟨v,oc,old c oc ho,hd⟩
 ·show upd H D (.lst []) C=none
  rw[bB (bx8 hDC)];exact I.hok.fresh hC
 ·intro x c e
  show upd H D (.lst []) c=none
  rcases lW e with a|⟨_,a⟩
  ·rw[bB (bx8 (Nat.lt_trans hDC (nge a)))];exact I.hok.fresh (bs0 hC (bt9 (nge a)))
  ·have q:=cs a
   rw[bB (br7 (bo7 (clt q) hD))]
   exact I.freeC x c q
 ·exact I.hok.laid old hD ⟨br5 _,[],0,.nil,hacc⟩
 ·show (gN fr σ).length=N.length
  unfold gN;rw[bm7];exact S.len
end
def l9 (X:Cx)(ifs:List Expr)(t:TT):Prop:=
 ∀(pins:List (Addr×Obj)) (s:Shared) (σ:St) (H:Hp) (Q:Bool->Hp->Prop),a6 X pins σ H s->t σ H Q->
  wpAny (model X.prog X.w) X.A (forIn ifs true λc r=>if r=true then do let ok <- isTrue c X.env (eval c X.env);pure (ForInStep.yield ok) else pure (ForInStep.yield r)) (TP X pins σ Q) X.xe s
def wG:TT:=λ_ H Q=>Q true H
theorem p7 {X:Cx}:l9 X [] wG:=λ_ _ _ H _ I h=>wpAny_tests_nil ⟨H,I,h⟩
theorem M9 {X:Cx}{c:Expr}{t:TT}(h:PT X c t):l9 X [c] t:=λpins s σ H Q I hq=>wpAny_tests_one (h pins s σ H Q I hq)
section
variable {prog:Program}{w:World}{A:Around}
def wH (prog:Program)(w:World)(A:Around)(elt tg:Expr)(ifs:List Expr)(it acc:Value)(env:Env)(lost:Value->Shared->Prop)(stop next:Shared->Prop)(s:Shared):Prop:=
 let M:=model prog w
 let tests:Sem Bool:=forIn ifs true λc r=>if r=true then do let ok <- isTrue c env (eval c env);pure (ForInStep.yield ok) else pure (ForInStep.yield r)
 let put:Shared->Prop:=wpAny M A (eval elt env) (λx=>wpAny M A (call (.builtin "list.append") [acc,x]) (λ_=>next) lost) lost
 let taken:Value->Shared->Prop:=λv=>wpAny M A (letOwnedTupleGo tg it v) (λ_=>wpAny M A (assign tg env v) (λ_=>wpAny M A tests (λok s'=>if ok=true then put s' else next s') lost) lost) lost
 wpAny M A (pyNext it) (λr s'=>match r with
  |none=>stop s'
  |some v=>taken v s') lost s
theorem az0 {R:Result->Shared->Prop}{s:Shared}{elt tg iter:Expr}{ifs:List Expr}{scope:Scope}{pos:Pos}{it acc:Value}{env:Env}(I:Nat->Shared->Prop)(turn:∀n s,I n s->wH prog w A elt tg ifs it acc env (notedBy (model prog w) A env λe=>R (.error e)) (R (.ok .next)) (λs'=>∃m,m<n/\I m s') s)(n:Nat)(h:I n s) :
  codeAny (model prog w) A (.compLoop (.ListComp elt [⟨tg,iter,ifs,0⟩] scope pos) 0 it acc env) R s:=by
 apply codeAny_loop rfl I _ n h
 intro k s1 h1
 change wpAny _ A ((compTurn _ 0 it acc env).onRaise (λx=>do noteFrame x env;theTreesLotGoes x)) _ _ s1
 apply wpAny_noted
 rw[compTurn_list]
 have t:=turn k s1 h1
 unfold wH at t
 apply bm1
 apply wpAny_standAt
 apply bm1
 refine bw8 t (λr s2 h2=>?_) λ_ _ z=>z
 cases r with
 |none=>exact bn7 h2
 |some v=>
  apply bm1
  refine bw8 h2 (λ_ s3 h3=>?_) λ_ _ z=>z
  apply bm1
  refine bw8 h3 (λ_ s4 h4=>?_) λ_ _ z=>z
  apply bm1
  refine bw8 h4 (λok s5 h5=>?_) λ_ _ z=>z
  cases ok with
  |false=>exact bn7 ⟨rfl,h5⟩
  |true=>
   apply bm1
   apply bm1
   refine bw8 h5 (λx s6 h6=>?_) λ_ _ z=>z
   apply bm1
   exact bw8 h6 (λ_ s7 h7=>bn7 (bn7 ⟨rfl,h7⟩)) λ_ _ z=>z
end
def p9 (g:TG)(tc:TT)(te:TE)(σ0:St)(J:It)(D:Addr)(Q:VK)(W:Nat->Nat->List V->Hp->Prop):Prop:=
 ∀i m acc H',W i m acc H'->H' D=some (.lst acc)/\((J.stop i H'/\Q (.ref D) H')∨(J.go i H'/\∀x H2,J.yld i H' x H2->g x σ0 H2 λσ2 H3=>Wk σ0 σ2/\tc σ2 H3 λb H4=>
  if b=true then te σ2 H4 λv H5=>H5 D=some (.lst acc)/\acc.length<sizeLine/\∃m',m'<m/\W (i+1) m' (acc++[v]) (upd H5 D (.lst (acc++[v]))) else ∃m',m'<m/\W (i+1) m' acc H4))
def N0 (wi:TI)(fr:List (Option Nat))(g:TG)(tc:TT)(te:TE):TE:=λσ H Q=>wi σ H λJ H1=>∀D,H1 D=none->
 ∃W:Nat->Nat->List V->Hp->Prop,(∃m,W 0 m [] (upd H1 D (.lst [])))/\p9 g tc te (gN fr σ) J D Q W
section
variable {M:Model}{A:Around}{E:Value→Shared→Prop}{s:Shared}
theorem az1 {scope:Scope}{globals:Addr}{cl:List (Str×Addr)}{qual:Str}{func:Option Addr}{code:Value}{builtins:Addr}{outer:Env}{Q:Env->Shared->Prop}(hQ:∀h',h'.Ns s.heap.objs.size (λ_=>none)->(∀b o,s.heap.get? b=some o->h'.get? b=some o)->CellsOk h' (s.heap.objs.size+1) (cellsFrom (s.heap.objs.size+1) scope.names [])->
   Q (newEnv scope s.heap.objs.size globals (cellsFrom (s.heap.objs.size+1) scope.names cl) qual func code (some outer) builtins) { s with heap:=h' }) :
  wpAny M A (newFunctionEnv scope globals cl [] qual func code (some outer) builtins) Q E s:=by
 simp only[newFunctionEnv,Option.isSome_some,if_true]
 refine bm1 (wpAny_alloc ?_)
 refine bm1 (wpAny_layCells _ (λname kind cells=>by cases hkc:kind==NameKind.cell<;>simp[hkc]) _ _ _ _ ?_)
 have ok:=cellsFrom_ok scope.names (s.heap.push { cls:=.type "dict",data:=.dict #[] }) (s.heap.objs.size+1) [] ⟨λ_ _ hm=>(nomatch hm),bx3⟩ (by rw[bC9];exact bn1 _)
 rw[bC9]at ok
 rw[show ({ s with heap:=s.heap.push { cls:=.type "dict",data:=.dict #[] } }:Shared).heap.objs.size=s.heap.objs.size+1 from bC9 ..]
 rw[List.forIn_nil]
 refine bm1 (bn7 (bn7 (hQ _ ((Heap.Ns.new s.heap (.type "dict")).keeps (pushCells_keeps _ _)) (λb o e=>pushCells_keeps _ _ b o (bm5 _ e)) ok)))
end
section
variable {X:Cx}{pins:List (Addr×Obj)}{σ:St}{H:Hp}{s:Shared}{scope:Scope}{N:List Str}{fr:List (Option Nat)}{tg iter elt:Expr}{ifs:List Expr}{pos:Pos}{wi:TI}{g:TG}{tc:TT}{te:TE}
structure nE (X:Cx)(scope:Scope)(N:List Str)(tg:Expr)(ifs:List Expr)(elt:Expr)(s:Shared)(H:Hp)(g:TG)(tc:TT)(te:TE):Prop where
 tg:∀(C:Addr) (fp:List Addr),PG (bK X scope N s H C fp λ_ _=>False) tg g
 ifs:∀(C:Addr) (fp:List Addr),l9 (bK X scope N s H C fp λ_ _=>False) ifs tc
 elt:∀(C:Addr) (fp:List Addr),PE (bK X scope N s H C fp λ_ _=>False) elt te
structure pA (X:Cx)(scope:Scope)(N:List Str)(tg:Expr)(ifs:List Expr)(elt:Expr)(g:TG)(tc:TT)(te:TE):Prop where
 tg:∀(s:Shared) (H:Hp) (C:Addr) (fp:List Addr),PG (bK X scope N s H C fp λ_ _=>False) tg g
 ifs:∀(s:Shared) (H:Hp) (C:Addr) (fp:List Addr),l9 (bK X scope N s H C fp λ_ _=>False) ifs tc
 elt:∀(s:Shared) (H:Hp) (C:Addr) (fp:List Addr),PE (bK X scope N s H C fp λ_ _=>False) elt te
theorem pA.at (B:pA X scope N tg ifs elt g tc te)(s:Shared)(H:Hp):nE X scope N tg ifs elt s H g tc te:=⟨B.tg s H,B.ifs s H,B.elt s H⟩
theorem az2 {C:Addr}{fp:List Addr}{E:Value->Shared->Prop}{pins':List (Addr×Obj)}{σ':St}{H':Hp}{s':Shared}(I:a6 X pins σ H s)(hf:∀b∈fp,i8 X pins H b)(I':a6 (bK X scope N s H C fp E) pins' σ' H' s'):a6 X pins σ H' s':=
 I.call' (ch:=fp) I'.os I'.base I'.hok I'.bare λb hb=>⟨(hf b hb).2.2.2.1,(hf b hb).2.1,(hf b hb).2.2.2.2.1,(hf b hb).2.2.2.2.2⟩
theorem rO {Rr:Value->Addr->Result->Shared->Prop}{J:It}{fp:List Addr}{it:Addr}{tn:Nat->Heap->Prop}{Q:VK}(hc:X.calm=true)(S:cK X scope N fr)(B:nE X scope N tg ifs elt s H g tc te)(I:a6 X pins σ H s)(T:jR X.prog X.w X.K tg J fp it tn)(hst:tn 0 s.heap)(hf:∀b∈fp,i8 X pins H b)(h:∀D,H D=none->∃W:Nat->Nat->List V->Hp->Prop,(∃m,W 0 m [] (upd H D (.lst [])))/\p9 g tc te (gN fr σ) J D Q W)(hend:∀(D C:Addr) (s':Shared) (H':Hp) (m:Str->Option Value),s.heap.objs.size<=C->s.heap.objs.size<=D->a6 X pins σ H' s'->s'.heap.Ns C m->H' C=none->Q (.ref D) H'->Rr (.ref D) C (.ok .next) s') :
  wpAny (model X.prog X.w) X.A (newList []) (λacc s₃=>wpAny (model X.prog X.w) X.A (newFunctionEnv scope X.env.globals (fC X.env.cells scope.names []) [] X.env.qual none .none (some X.env)) (λcenv s₄=>
   codeAny (model X.prog X.w) X.A (.compStart (.ListComp elt [⟨tg,iter,ifs,0⟩] scope pos) 0 (.ref it) acc { cenv with scope:=relabel scope X.env }) (Rr acc cenv.locals) s₄) X.xe s₃) X.xe s:=by
 refine bv7 (az1 (λh₁ hns₁ keep₁ hco₁=>?_))
 dsimp only at hns₁ keep₁ hco₁ ⊢
 generalize hH2:s.heap.push { cls:=.type "list",dict:=none,data:=.seq ([]:List Value).toArray }=H2 at hns₁ keep₁ hco₁ ⊢
 have hC:H2.objs.size=s.heap.objs.size+1:=by rw[<- hH2,bC9]
 have hDC:s.heap.objs.size<H2.objs.size:=by rw[hC];exact Nat.lt_succ_self _
 have hCle:s.heap.objs.size<=H2.objs.size:=by rw[hC];exact Nat.le_succ _
 have old:∀b o,s.heap.get? b=some o->h₁.get? b=some o:=λb o e=>keep₁ b o (hH2▸bm5 _ e)
 have hacc:h₁.get? s.heap.objs.size=some { cls:=.type "list",data:=.seq #[] 0 }:=keep₁ _ _ (hH2▸bp3 _ rfl)
 have hfl:∀b∈fp,b<s.heap.objs.size:=λb hb=>by obtain⟨o,e,_⟩:=T.obj _ _ hst b hb;exact bo6 e
 obtain⟨W,⟨m0,w0⟩,turn⟩:=h s.heap.objs.size (I.hok.fresh (bn1 _))
 have st1:tn 0 h₁:=T.keep _ _ _ hst λb _ o e=>old b o e
 have fr0:∀b∈fp,upd H s.heap.objs.size (.lst []) b=none:=λb hb=>by rw[bB (br7 (hfl b hb))];exact (hf b hb).1
 have stat:∀{H':Hp},(∀b∈fp,H' b=none)->∀b∈fp,i8 (bK X scope N s H H2.objs.size fp λ_ _=>False) [] H' b:=λ{H'} hn b hb=>by
  have f:=hf b hb
  refine⟨hn b hb,br7 (bo7 (hfl b hb) hCle),λz=>?_,.inl hb,λx c e=>(lW e).elim (λz=>bx8 (Nat.lt_trans (bo7 (hfl b hb) hCle) (hco₁.empty x c z).2)) λz=>f.2.2.2.2.1 x c (rK scope.names [] (S.cells I) (λ_ _ z=>by simp at z) z.2),λp hp=>absurd (show p∈([]:List (Addr×Obj)) from hp) (by simp)⟩
  rcases bn8.mp (I.stkSub b z) with e|e
  ·exact f.2.1 e
  ·exact f.2.2.1 e
 generalize hX:bK X scope N s H H2.objs.size fp (λ_ _=>False)=Y at stat
 have I0:a6 Y [] (gN fr σ) (upd H s.heap.objs.size (.lst [])) { s with heap:=h₁ }:=hX▸ay9 S I hf hfl (bn1 _) hCle hDC old hns₁ hacc hco₁
 have bt:PG Y tg g:=hX▸B.tg H2.objs.size fp
 have bi:l9 Y ifs tc:=hX▸B.ifs H2.objs.size fp
 have be:PE Y elt te:=hX▸B.elt H2.objs.size fp
 have eP:Y.prog=X.prog:=by rw[<- hX];rfl
 have ew:Y.w=X.w:=by rw[<- hX];rfl
 have eK:Y.K=X.K:=by rw[<- hX];rfl
 have eA:Y.A=X.A:=by rw[<- hX];rfl
 have eE:Y.env=compEnvC scope (iC X scope H2.objs.size) H2.objs.size X.env:=by rw[<- hX];rfl
 have eX:Y.xe=λ_ _=>False:=by rw[<- hX];rfl
 have ec:Y.calm=true:=by rw[<- hX];exact hc
 have never:∀{E:Value->Shared->Prop} (e:Value) (s':Shared),Y.xe e s'->E e s':=λ{E} e s' z=>by rw[eX]at z;exact z.elim
 have out:∀{pins' σ' H' s'},a6 Y pins' σ' H' s'->a6 X pins σ H' s':=λ{_ _ _ _} I'=>az2 (C:=H2.objs.size) (E:=λ_ _=>False) (scope:=scope) (N:=N) I hf (hX▸I')
 have loop:codeAny (model X.prog X.w) X.A (.compLoop (.ListComp elt [⟨tg,iter,ifs,0⟩] scope pos) 0 (.ref it) (.ref s.heap.objs.size) (compEnvC scope (iC X scope H2.objs.size) H2.objs.size X.env))
   (Rr (.ref s.heap.objs.size) H2.objs.size) { s with heap:=h₁ }:=by
  refine az0 (λn s'=>∃i acc H',a6 Y [] (gN fr σ) H' s'/\tn i s'.heap/\(∀b∈fp,H' b=none)/\W i n acc H') ?_ m0 ⟨0,[],_,I0,st1,fr0,w0⟩
  rintro n s3 ⟨i,acc,H3,I3,st3,fr3,w3⟩
  unfold wH
  dsimp only
  obtain⟨hD3,step⟩:=turn i n acc H3 w3
  rcases step with⟨stop,qn⟩|⟨go,step⟩
  ·have z:=T.done Y eP ew eK ec i [] s3 _ H3 (notedBy (model X.prog X.w) X.A (compEnvC scope (iC X scope H2.objs.size) H2.objs.size X.env) λe s'=>Rr (.ref s.heap.objs.size) H2.objs.size (.error e) s') I3 (stat fr3) st3 stop
   rw[eA]at z
   refine aR z λr s4 ⟨hr,I4⟩=>?_
   subst hr
   obtain⟨m4,hn4,_⟩:=I4.loc
   rw[eE]at hn4
   have f4:=I4.free
   rw[eE]at f4
   exact hend _ _ s4 H3 m4 hCle (bn1 _) (out I4) hn4 f4 qn
  ·have z:=T.item Y eP ew eK ec i [] s3 _ H3 (notedBy (model X.prog X.w) X.A (compEnvC scope (iC X scope H2.objs.size) H2.objs.size X.env) λe s'=>Rr (.ref s.heap.objs.size) H2.objs.size (.error e) s') I3 (stat fr3) st3 go
   rw[eA]at z
   refine aR z λr s4 ⟨u,hr,h4⟩=>?_
   subst hr
   refine aR h4 λ_ s5 ⟨x,H5,I5,r5,y5,st5,fr5⟩=>?_
   have I5':=I5.pinned (stat fr5) (T.obj _ _ st5)
   have q1:=bt _ s5 _ H5 x u _ I5' r5 (step x H5 y5)
   rw[eP,ew,eA,eE]at q1
   refine bw8 q1 (λ_ s6 ⟨σ6,H6,I6,wk,q6⟩=>?_) never
   have q2:=bi _ s6 σ6 H6 _ I6 q6
   rw[eP,ew,eA,eE]at q2
   refine bw8 q2 (λb s7 ⟨H7,I7,q7⟩=>?_) never
   have again:∀{H8:Hp}{s8:Shared}{acc':List V},a6 Y ([]++oO fp s5.heap) σ6 H8 s8->(∃m',m'<n/\W (i+1) m' acc' H8)->∃m,m<n/\∃i acc H',a6 Y [] (gN fr σ) H' s8/\tn i s8.heap/\(∀b∈fp,H' b=none)/\W i m acc H':=λ{H8 s8 acc'} I8 n8=>by
    obtain⟨m',hm,w8⟩:=n8
    refine⟨m',hm,i+1,acc',H8,(I8.unpinned).weak wk.1 wk.2,T.keep _ _ _ st5 λb hb o e=>(I8.pin (b,o) (bo8 _ (bo8 _ (r9 hb e)))).1,λb hb=>?_,w8⟩
    obtain⟨o,e,d⟩:=T.obj _ _ st5 b hb
    exact (I8.pin (b,o) (bo8 _ (bo8 _ (r9 hb e)))).2.1
   cases b with
   |false=>
    rw[if_neg bo4]at q7 ⊢
    exact again I7 q7
   |true=>
    rw[if_pos rfl]at q7 ⊢
    have q3:=be _ s7 σ6 H7 _ I7 q7
    rw[eP,ew,eA,eE]at q3
    refine bw8 q3 (λv s8 ⟨y,H8,I8,r8,hD8,hz8,q8⟩=>?_) never
    have q4:=nC _ s8 σ6 H8 (.ref s.heap.objs.size) [y] (.ref s.heap.objs.size) [v] (λ_ H9=>∃m',m'<n/\W (i+1) m' (acc++[y]) H9) I8 rfl (.cons r8 .nil) ⟨_,_,_,rfl,rfl,hD8,hz8,q8⟩
    rw[eP,ew,eA]at q4
    exact bw8 q4 (λ_ s9 ⟨_,H9,I9,_,q9⟩=>again I9 q9) never
 exact codeAny_compStart_list loop (T.self _ 0 _ _ _ st1 loop)
end
section
variable {X:Cx}{scope:Scope}{N:List Str}{fr:List (Option Nat)}{tg iter elt:Expr}{ifs:List Expr}{pos:Pos}{wi:TI}{g:TG}{tc:TT}{te:TE}
theorem a6.drop {pins:List (Addr×Obj)}{σ:St}{H H':Hp}{s s':Shared}{C:Addr}{h':Heap}(I0:a6 X pins σ H s)(hC:s.heap.objs.size<=C){σ':St}(I:a6 X pins σ' H' s')(hn:H' C=none)(sb:Heap.SameBut C s'.heap h'):a6 X pins σ' H' { s' with heap:=h' }:=by
 refine I.turned (t':=s'.toks) (it:=C) (λb o hb e=>(sb.2 b hb).trans e) hn (bx8 (bo7 I0.lt hC)) (.inr (bs0 I0.sz hC)) (λx c e z=>?_) λp hp z=>?_
 ·obtain⟨v,q⟩:=I0.cell x c e
  exact absurd (bo7 q.lt (by rw[z];exact hC)) (bt5 _)
 ·exact absurd (bo7 (bo6 (I0.pin p hp).1) (by rw[z];exact hC)) (bt5 _)
theorem N1 (hc:X.calm=true)(S:cK X scope N fr)(hi:PI X tg iter wi)(B:pA X scope N tg ifs elt g tc te)(hs:∀x,foldedSetIterable iter X.env x=pure x:=by intro _;rfl):PE X (.ListComp elt [⟨tg,iter,ifs,0⟩] scope pos) (N0 wi fr g tc te):=by
 intro pins s σ H Q I h
 rw[eval_ListComp]
 refine wpAny_comprehension_free (use:=none) rfl hs (rJ (S.cells I)) S.kind S.names (aR (hi pins s σ H _ I h) λv s1 h1=>aR h1 λitv s2 h2=>?_)
 obtain⟨it,fp,tn,J,H2,e,I2,T,st2,f2,hW⟩:=h2
 subst e
 refine rO (Rr:=λacc C=>compPost (model X.prog X.w) X.A X.xe none (EP X pins σ Q) acc C) hc S (B.at _ _) I2 T st2 f2 hW ?_
 intro D C s' H' m hC hD I' hns hHC q
 exact⟨m,hns,λh' sb=>⟨.ref D,H',I2.drop hC I' hHC sb,rfl,q⟩⟩
theorem N3 {i:Nat}{x:Str}{px spos:Pos}(hc:X.calm=true)(S:cK X scope N fr)(hi:PI X tg iter wi)(B:pA X scope N tg ifs elt g tc te)(hN:X.N.Nodup)(hix:X.N[i]? = some x)(hx:X.env.scope.names.lookup x=some .local)(hsw:swapsWith (.ListComp elt [⟨tg,iter,ifs,0⟩] scope pos) (some (.Name x px)) spos.line X.env=pure true)(hs:∀x,foldedSetIterable iter X.env x=pure x:=by intro _;rfl) :
  PS X (.Assign [.Name x px] (.ListComp elt [⟨tg,iter,ifs,0⟩] scope pos) spos) (jQ (N0 wi fr g tc te) (cD i)):=by
 intro pins s σ H D I h
 rw[exec_Assign_Name_used _ _ _ _ hsw]
 refine bm1 (wpAny_standAt (bm1 ?_))
 show wpAny _ _ (do let _ <- comprehension (.ListComp elt [⟨tg,iter,ifs,0⟩] scope pos) scope X.env _ (newList []) false (eval iter X.env) (some (assign (.Name x px) X.env))) _ _ s
 refine bm1 (bw8 (wpAny_comprehension_free (Q:=λ_ s'=>SP X pins D .next s') (use:=some (assign (.Name x px) X.env)) rfl hs (rJ (S.cells I)) S.kind S.names (aR (hi pins s σ H _ I h) λv s1 h1=>aR h1 λitv s2 h2=>?_))
  (λ_ s' hq=>bn7 (bn7 hq)) λ_ _ e=>e)
 obtain⟨it,fp,tn,J,H2,e,I2,T,st2,f2,hW⟩:=h2
 subst e
 refine rO (Rr:=λacc C=>compPost (model X.prog X.w) X.A X.xe (some (assign (.Name x px) X.env)) (λ_ s'=>SP X pins D .next s') acc C) hc S (B.at _ _) I2 T st2 f2 hW ?_
 intro D' C s' H' m hC hD I' hns hHC q
 refine wpAny_assign_Name (v9 I' hN hix (.inl hx) (v:=.ref D') rfl (λs'' I'' sb=>?_) (.inr hx))
 obtain⟨a,sb,ha⟩:=sb
 have hCa:C≠a:=by
  rcases ha with z|z
  ·rw[z];exact bx8 (bo7 I2.lt hC)
  ·intro e;subst e
   obtain⟨v,q⟩:=I2.cell x _ z
   exact absurd (bo7 q.lt hC) (bt5 _)
 exact⟨m,hns.sameBut sb hCa,λh' sb'=>⟨_,H',I2.drop hC I'' hHC sb',q⟩⟩
variable {gh:Hp→TG}{tch:Hp→TT}{teh:Hp→TE}
def wI (wi:TI)(fr:List (Option Nat))(gh:Hp->TG)(tch:Hp->TT)(teh:Hp->TE):TE:=λσ H Q=>wi σ H λJ H1=>∀D,H1 D=none->
 ∃W:Nat->Nat->List V->Hp->Prop,(∃m,W 0 m [] (upd H1 D (.lst [])))/\p9 (gh H1) (tch H1) (teh H1) (gN fr σ) J D Q W
theorem wJ (hc:X.calm=true)(S:cK X scope N fr)(hi:PI X tg iter wi)(B:∀(s:Shared) (H:Hp),nE X scope N tg ifs elt s H (gh H) (tch H) (teh H))(hs:∀x,foldedSetIterable iter X.env x=pure x:=by intro _;rfl):PE X (.ListComp elt [⟨tg,iter,ifs,0⟩] scope pos) (wI wi fr gh tch teh):=by
 intro pins s σ H Q I h
 rw[eval_ListComp]
 refine wpAny_comprehension_free (use:=none) rfl hs (rJ (S.cells I)) S.kind S.names (aR (hi pins s σ H _ I h) λv s1 h1=>aR h1 λitv s2 h2=>?_)
 obtain⟨it,fp,tn,J,H2,e,I2,T,st2,f2,hW⟩:=h2
 subst e
 refine rO (Rr:=λacc C=>compPost (model X.prog X.w) X.A X.xe none (EP X pins σ Q) acc C) hc S (B _ _) I2 T st2 f2 hW ?_
 intro D C s' H' m hC hD I' hns hHC q
 exact⟨m,hns,λh' sb=>⟨.ref D,H',I2.drop hC I' hHC sb,rfl,q⟩⟩
theorem rP {i:Nat}{x:Str}{px spos:Pos}(hc:X.calm=true)(S:cK X scope N fr)(hi:PI X tg iter wi)(B:∀(s:Shared) (H:Hp),nE X scope N tg ifs elt s H (gh H) (tch H) (teh H))(hN:X.N.Nodup)(hix:X.N[i]? = some x)(hx:X.env.scope.names.lookup x=some .local)(hsw:swapsWith (.ListComp elt [⟨tg,iter,ifs,0⟩] scope pos) (some (.Name x px)) spos.line X.env=pure true)(hs:∀x,foldedSetIterable iter X.env x=pure x:=by intro _;rfl) :
  PS X (.Assign [.Name x px] (.ListComp elt [⟨tg,iter,ifs,0⟩] scope pos) spos) (jQ (wI wi fr gh tch teh) (cD i)):=by
 intro pins s σ H D I h
 rw[exec_Assign_Name_used _ _ _ _ hsw]
 refine bm1 (wpAny_standAt (bm1 ?_))
 show wpAny _ _ (do let _ <- comprehension (.ListComp elt [⟨tg,iter,ifs,0⟩] scope pos) scope X.env _ (newList []) false (eval iter X.env) (some (assign (.Name x px) X.env))) _ _ s
 refine bm1 (bw8 (wpAny_comprehension_free (Q:=λ_ s'=>SP X pins D .next s') (use:=some (assign (.Name x px) X.env)) rfl hs (rJ (S.cells I)) S.kind S.names (aR (hi pins s σ H _ I h) λv s1 h1=>aR h1 λitv s2 h2=>?_))
  (λ_ s' hq=>bn7 (bn7 hq)) λ_ _ e=>e)
 obtain⟨it,fp,tn,J,H2,e,I2,T,st2,f2,hW⟩:=h2
 subst e
 refine rO (Rr:=λacc C=>compPost (model X.prog X.w) X.A X.xe (some (assign (.Name x px) X.env)) (λ_ s'=>SP X pins D .next s') acc C) hc S (B _ _) I2 T st2 f2 hW ?_
 intro D' C s' H' m hC hD I' hns hHC q
 refine wpAny_assign_Name (v9 I' hN hix (.inl hx) (v:=.ref D') rfl (λs'' I'' sb=>?_) (.inr hx))
 obtain⟨a,sb,ha⟩:=sb
 have hCa:C≠a:=by
  rcases ha with z|z
  ·rw[z];exact bx8 (bo7 I2.lt hC)
  ·intro e;subst e
   obtain⟨v,q⟩:=I2.cell x _ z
   exact absurd (bo7 q.lt hC) (bt5 _)
 exact⟨m,hns.sameBut sb hCa,λh' sb'=>⟨_,H',I2.drop hC I'' hHC sb',q⟩⟩
end
theorem bL {H:Hp}{p:Addr}(h:H p=none)(o:HO):aC H (upd H p o):=λb u q=>by rw[bB (e9 q h)];exact q
theorem aC.tup {K:ad}{H H':Hp}{a:Addr}{xs:List V}(e:aC H H')(h:aO K H a xs):aO K H' a xs:=by
 rcases h with (h|⟨o,h⟩)|h
 ·exact .inl (.inl (e _ _ h))
 ·exact .inl (.inr ⟨o,e _ _ h⟩)
 ·exact .inr h
structure N4 (H:Hp)(J:It)(xs:List V):Prop where
 go:∀i H',aC H H'->i<xs.length->J.go i H'
 yld:∀i H' x H2,aC H H'->J.yld i H' x H2->i<xs.length->xs[i]? = some x/\H2=H'
 stop:∀H',aC H H'->J.stop xs.length H'
theorem N5 {K:ad}{H:Hp}{a:Addr}{xs:List V}(h:aO K H a xs):N4 H (l6 K a) xs:=
 ⟨λi H' e hi=>⟨xs,xs[i],e.tup h,by simp[hi]⟩,λi H' x H2 e y hi=>⟨y.2 xs (e.tup h),y.1⟩,λH' e=>⟨xs,e.tup h,bn1 _⟩⟩
def k6 (lo:Int)(n:Nat):List V:=(List.range n).map λ(i:Nat)=>V.int (lo+(i:Int))
theorem wK (lo:Int)(n:Nat):(k6 lo n).length=n:=by unfold k6;rw[bm7,List.length_range]
def CW (H1:Hp)(D:Addr)(n:Nat)(Pv:Nat->List V->Hp->Prop):Nat->Nat->List V->Hp->Prop:=λi m acc H'=>m=n-i/\i<=n/\acc.length<=i/\aC H1 H'/\H' D=some (.lst acc)/\Pv i acc H'
def wL (H1:Hp)(D:Addr)(n:Nat)(Pv:Nat->List V->Hp->Prop)(i:Nat)(acc:List V)(v:V)(H5:Hp):Prop:=H5 D=some (.lst acc)/\acc.length<sizeLine/\∃m',m'<n-i/\CW H1 D n Pv (i+1) m' (acc++[v]) (upd H5 D (.lst (acc++[v])))
def N6 (H1:Hp)(D:Addr)(n:Nat)(Pv:Nat->List V->Hp->Prop)(i:Nat)(acc:List V)(H4:Hp):Prop:=∃m',m'<n-i/\CW H1 D n Pv (i+1) m' acc H4
structure rQ (H1:Hp)(D:Addr)(n i:Nat)(acc:List V)(H':Hp):Prop where
 lt:i<n
 few:acc.length<=i
 sz:n<=sizeLine
 same:aC H1 H'
 new:H1 D=none
 acc:H' D=some (.lst acc)
theorem rQ.yes {H1:Hp}{D:Addr}{n i:Nat}{acc:List V}{H' H5:Hp}{Pv:Nat->List V->Hp->Prop}{v:V}(c:rQ H1 D n i acc H')(s:aC H' H5)(p:Pv (i+1) (acc++[v]) (upd H5 D (.lst (acc++[v])))):wL H1 D n Pv i acc v H5:=by
 refine⟨s _ _ c.acc,Nat.lt_of_le_of_lt c.few (bo7 c.lt c.sz),_,?_,rfl,c.lt,?_,λb o e=>?_,bP,p⟩
 ·have:=c.lt;omega
 ·rw[bo2,bs2];exact Nat.succ_le_succ c.few
 ·rw[bB (e9 e c.new)];exact s _ _ (c.same _ _ e)
theorem N7 {H1:Hp}{J:It}{xs:List V}{g:TG}{tc:TT}{te:TE}{σ0:St}{Q:VK}(O:N4 H1 J xs)(Pv:Nat->List V->Hp->Prop)(hn:xs.length<=sizeLine)(h0:∀D,H1 D=none->Pv 0 [] (upd H1 D (.lst [])))(hs:∀i x acc D H',xs[i]? = some x->rQ H1 D xs.length i acc H'->Pv i acc H'->g x σ0 H' λσ2 H3=>Wk σ0 σ2/\tc σ2 H3 λb H4=>
   if b=true then te σ2 H4 λv H5=>wL H1 D xs.length Pv i acc v H5 else N6 H1 D xs.length Pv i acc H4)(hd:∀D acc H',H1 D=none->aC H1 H'->H' D=some (.lst acc)->acc.length<=xs.length->Pv xs.length acc H'->Q (.ref D) H') :
  ∀D,H1 D=none->∃W:Nat->Nat->List V->Hp->Prop,(∃m,W 0 m [] (upd H1 D (.lst [])))/\p9 g tc te σ0 J D Q W:=by
 intro D hD
 refine⟨CW H1 D xs.length Pv,⟨xs.length,rfl,br5 _,bn1 _,bL hD _,bP,h0 D hD⟩,?_⟩
 rintro i m acc H' ⟨rfl,hi,ha,sm,hDa,p⟩
 refine⟨hDa,?_⟩
 by_cases hlt:i<xs.length
 ·refine .inr ⟨O.go i H' sm hlt,λx H2 y=>?_⟩
  obtain⟨hx,e⟩:=O.yld i H' x H2 sm y hlt
  subst e
  exact hs i x acc D H2 hx ⟨hlt,ha,hn,sm,hD,hDa⟩ p
 ·have e:i=xs.length:=by omega
  subst e
  exact .inl ⟨O.stop H' sm,hd D acc H' hD sm hDa ha p⟩
end L2
namespace Srt
open PySem PySem.W PyProof.Rows
abbrev G (p:Array Nat)(i:Nat):Nat:=p.getD i 0
theorem pB {p q:Array Nat}{i j:Nat}(h:p[i]? = q[j]?):G p i=G q j:=by
 unfold G;rw[bA7,bA7,h]
theorem wM {p:Array Nat}{i j:Nat}(hj:j<=p.size)(k:Nat):G (kas_rev p i j) k=if i<=k/\k<j then G p (i+j-1-k) else G p k:=by
 have e:=getElem?_mirror_all (i:=i) hj k
 unfold kas_rev
 by_cases h1:i<=k/\k<j
 ·rw[if_pos h1]at e ⊢;exact pB e
 ·rw[if_neg h1]at e ⊢;exact pB e
theorem az3 {p:Array Nat}{src d:Nat}(hs:src<p.size)(hd:d<=src)(k:Nat):G (bubble p src d) k=if k=src-d then G p src else if src-d<k/\k<=src then G p (k-1) else G p k:=by
 have e:=getElem?_bubble hs d hd k
 by_cases h1:k=src-d
 ·rw[if_pos h1]at e ⊢;exact pB e
 ·rw[if_neg h1]at e ⊢
  by_cases h2:src-d<k/\k<=src
  ·rw[if_pos h2]at e ⊢;exact pB e
  ·rw[if_neg h2]at e ⊢;exact pB e
def PP (n:Nat)(p:Array Nat):Prop:=p.toList.Perm (List.range n)
theorem PP.size {n:Nat}{p:Array Nat}(h:PP n p):p.size=n:=by
 have:=h.length_eq
 rw[List.length_range]at this
 simpa using this
theorem PP.lt {n:Nat}{p:Array Nat}(h:PP n p){k:Nat}(hk:k<n):G p k<n:=by
 have hs:=h.size
 have hk':k<p.toList.length:=by simpa[hs] using hk
 have e:G p k=p.toList[k]:=by
  unfold G;rw[bA7];simp[hs,hk]
 have m:p.toList[k]∈p.toList:=bz3 hk'
 rw[e]
 exact bC8.mp (h.mem_iff.mp m)
theorem PP.of {n:Nat}{p q:Array Nat}(h:PP n p)(e:q.Perm p):PP n q:=(Array.perm_iff_toList_perm.mp e).trans h
theorem PP.rev {n:Nat}{p:Array Nat}(h:PP n p)(i j:Nat):PP n (kas_rev p i j):=h.of (mirror_perm _ _ _ _)
theorem PP.bub {n:Nat}{p:Array Nat}(h:PP n p)(i j:Nat):PP n (bubble p i j):=h.of (bubble_perm _ _ _)
structure wN (c:Nat->Nat->Bool):Prop where
 asym:∀{i j},c i j=true->c j i=false
 ntr:∀{i j k},c i j=false->c j k=false->c i k=false
section
variable {c:Nat→Nat→Bool}(O:wN c)
def Le (c:Nat->Nat->Bool)(i j:Nat):Prop:=c j i=false
include O
theorem le_refl (i:Nat):Le c i i:=by
 unfold Le
 cases h:c i i with
 |false=>rfl
 |true=>have:=O.asym h;rw[h]at this;exact this
theorem le_trans {i j k:Nat}(h1:Le c i j)(h2:Le c j k):Le c i k:=O.ntr h2 h1
theorem rR {i j:Nat}(h:c i j=true):Le c i j:=O.asym h
omit O
def gP (c:Nat->Nat->Bool)(p:Array Nat)(n:Nat):Prop:=∀a b,a<=b->b<n->Le c (G p a) (G p b)
def lA (c:Nat->Nat->Bool)(p:Array Nat)(n:Nat):Prop:=∀a b,a<=b->b<n->Le c (G p b) (G p a)
include O
theorem az4 {p:Array Nat}{n:Nat}(h:gP c p n)(h1:1<=n)(hl:Le c (G p (n-1)) (G p n)):gP c p (n+1):=λa b hab hb=>by
 by_cases hbn:b<n
 ·exact h a b hab hbn
 ·have e:b=n:=by omega
  subst e
  by_cases han:a=b
  ·subst han;exact le_refl O _
  ·exact le_trans O (h a (b-1) (by omega) (by omega)) hl
theorem rS {p:Array Nat}{n:Nat}(h:lA c p n)(h1:1<=n)(hl:Le c (G p n) (G p (n-1))):lA c p (n+1):=λa b hab hb=>by
 by_cases hbn:b<n
 ·exact h a b hab hbn
 ·have e:b=n:=by omega
  subst e
  by_cases han:a=b
  ·subst han;exact le_refl O _
  ·exact le_trans O hl (h a (b-1) (by omega) (by omega))
omit O
def c8 {α:Type}(n:Nat)(c:Nat->Nat->Bool)(R:α->Prop):KasT α->Prop
 |.ret a=>R a
 |.ask i j k=>i<n/\j<n/\c8 n c R (k (c i j))
theorem c8.mono {α:Type}{n:Nat}{R R':α->Prop}(h:∀a,R a->R' a):∀(t:KasT α),c8 n c R t->c8 n c R' t
 |.ret a,q=>h a q
 |.ask i j k,q=>⟨q.1,q.2.1,c8.mono h (k (c i j)) q.2.2⟩
theorem c8.bind {α β:Type}{n:Nat}{R:α->Prop}{R':β->Prop}{f:α->KasT β}(h:∀a,R a->c8 n c R' (f a)):∀(t:KasT α),c8 n c R t->c8 n c R' (t.bind f)
 |.ret a,q=>h a q
 |.ask i j k,q=>⟨q.1,q.2.1,c8.bind h (k (c i j)) q.2.2⟩
theorem c8.run {α:Type}{n:Nat}{R:α->Prop}{I:Shared->Prop}{cmp:Nat->Nat->(Bool->Shared->Prop)->Shared->Prop}{Q:α->Shared->Prop}(hc:∀i j C s,i<n->j<n->I s->(∀s',I s'->C (c i j) s')->cmp i j C s)(hQ:∀a s,R a->I s->Q a s):∀(t:KasT α) (s:Shared),I s->c8 n c R t->t.kasWp cmp Q s
 |.ret a,s,hI,q=>hQ a s q hI
 |.ask i j k,s,hI,q=>hc i j _ s q.1 q.2.1 hI λs' hI'=>c8.run hc hQ (k (c i j)) s' hI' q.2.2
include O
theorem wO {n:Nat}{p:Array Nat}(hp:PP n p):∀(f m:Nat),1<=m->m+f<=n->gP c p m->c8 n c (λr=>m<=r/\r<=m+f/\gP c p r/\(r<m+f->c (G p r) (G p (r-1))=true)) (kas_asc p f m)
 |0,m,_,_,h=>⟨bn1 _,bn1 _,h,λz=>absurd z (bt5 _)⟩
 |f+1,m,h1,h2,h=>by
  refine⟨hp.lt (by omega),hp.lt (by omega),?_⟩
  by_cases hc:c (p.getD m 0) (p.getD (m-1) 0)=true
  ·simp only[hc,if_true]
   exact⟨bn1 _,by omega,h,λ_=>hc⟩
  ·have hc':c (p.getD m 0) (p.getD (m-1) 0)=false:=bA3.mpr hc
   simp only[hc',bp7,bu4]
   refine c8.mono (λr q=>⟨by omega,by omega,q.2.2.1,λz=>q.2.2.2 (by omega)⟩) _ (wO hp f (m+1) (by omega) (by omega) (az4 O h h1 hc'))
omit O
def lX (c:Nat->Nat->Bool)(i j:Nat):Prop:=Le c i j/\Le c j i
include O
theorem wP {p q:Array Nat}{n:Nat}(h:lA c p n)(e:∀k,k<n->lX c (G q k) (G p k)):lA c q n:=λa b hab hb=>
 le_trans O (e b hb).1 (le_trans O (h a b hab hb) (e a (by omega)).2)
theorem N8 {n m i:Nat}{p:Array Nat}(hp:PP n p)(hm:m<=n)(h:∀a,i<=a->a<m->lX c (G p a) (G p (m-1))):∀k,lX c (G (kas_rev p i m) k) (G p k):=λk=>by
 rw[wM (by rw[hp.size];exact hm)]
 by_cases hk:i<=k/\k<m
 ·rw[if_pos hk]
  have h1:=h (i+m-1-k) (by omega) (by omega)
  have h2:=h k hk.1 hk.2
  exact⟨le_trans O h1.1 h2.2,le_trans O h2.1 h1.2⟩
 ·rw[if_neg hk];exact⟨le_refl O _,le_refl O _⟩
omit O
def DI (c:Nat->Nat->Bool)(n:Nat)(p:Array Nat)(m q:Nat):Prop:=PP n p/\1<=m/\m<=n/\lA c p m/\q+1<=m/\∀a,m-(q+1)<=a->a<m->lX c (G p a) (G p (m-1))
include O
theorem N9 {n m q:Nat}{p:Array Nat}(h:DI c n p m q):PP n (kas_rev p (m-(q+1)) m)/\∀k,lX c (G (kas_rev p (m-(q+1)) m) k) (G p k):=
 ⟨h.1.rev _ _,N8 O h.1 h.2.2.1 h.2.2.2.2.2⟩
theorem rT {n:Nat}:∀(f:Nat) (p:Array Nat) (m q:Nat),m+f<=n->DI c n p m q->c8 n c (λr=>DI c n r.1 r.2.1 r.2.2) (kas_desc f p m q)
 |0,p,m,q,_,h=>h
 |f+1,p,m,q,hf,h=>by
  have hp:=h.1
  have h1:=h.2.1
  refine⟨hp.lt (by omega),hp.lt (by omega),?_⟩
  by_cases hc:c (p.getD m 0) (p.getD (m-1) 0)=true
  ·simp only[hc,if_true]
   have dn:lA c p (m+1):=rS O h.2.2.2.1 h1 (rR O hc)
   by_cases hq:q>0
   ·simp only[hq,if_true]
    obtain⟨pr,er⟩:=N9 O h
    refine rT f _ (m+1) 0 (by omega) ⟨pr,by omega,by omega,wP O dn λk _=>er k,by omega,λa h1 h2=>?_⟩
    have e:a=m+1-1:=by omega
    rw[e];exact⟨le_refl O _,le_refl O _⟩
   ·simp only[hq,bu4]
    refine rT f p (m+1) 0 (by omega) ⟨hp,by omega,by omega,dn,by omega,λa h1 h2=>?_⟩
    have e:a=m+1-1:=by omega
    rw[e];exact⟨le_refl O _,le_refl O _⟩
  ·have hc':c (p.getD m 0) (p.getD (m-1) 0)=false:=bA3.mpr hc
   simp only[hc',bp7,bu4]
   refine⟨hp.lt (by omega),hp.lt (by omega),?_⟩
   by_cases hd:c (p.getD (m-1) 0) (p.getD m 0)=true
   ·simp only[hd,if_true]
    exact h
   ·have hd':c (p.getD (m-1) 0) (p.getD m 0)=false:=bA3.mpr hd
    simp only[hd',bp7,bu4]
    have ee:lX c (G p (m-1)) (G p m):=⟨hc',hd'⟩
    refine rT f p (m+1) (q+1) (by omega) ⟨hp,by omega,by omega,rS O h.2.2.2.1 h1 ee.2,by have:=h.2.2.2.2.1;omega,λa h1 h2=>?_⟩
    rw[Nat.add_sub_cancel]
    by_cases ha:a=m
    ·rw[ha];exact⟨le_refl O _,le_refl O _⟩
    ·have z:=h.2.2.2.2.2 a (by omega) (by omega)
     exact⟨le_trans O z.1 ee.1,le_trans O ee.2 z.2⟩
omit O
def CI (c:Nat->Nat->Bool)(n:Nat)(r:Nat×Array Nat):Prop:=PP n r.2/\1<=r.1/\r.1<=n/\gP c r.2 r.1
include O
theorem O0 {n m:Nat}{p:Array Nat}(hp:PP n p)(h1:1<=m)(hm:m<=n)(h:lA c p m):c8 n c (CI c n) (kas_tail3 m n p):=by
 have ha:gP c (kas_rev p 0 m) m:=λa b hab hb=>by
  rw[wM (by rw[hp.size];exact hm),wM (by rw[hp.size];exact hm),if_pos ⟨br5 _,by omega⟩,if_pos ⟨br5 _,hb⟩]
  exact h _ _ (by omega) (by omega)
 refine c8.bind (R:=λr=>m<=r/\r<=m+(n-m)/\gP c (kas_rev p 0 m) r/\_) (λr q=>?_) _ (wO O (hp.rev 0 m) (n-m) m h1 (by omega) ha)
 exact⟨hp.rev _ _,by have:=q.1;omega,by have:=q.2.1;omega,q.2.2.1⟩
theorem O1 {n m:Nat}{p:Array Nat}(hp:PP n p)(h1:1<=m)(hm:m+1<=n)(h:lA c p (m+1)):c8 n c (CI c n) (kas_descPart m n p):=by
 refine c8.bind (R:=λr=>DI c n r.1 r.2.1 r.2.2) (λr q=>?_) _ (rT O (n-(m+1)) p (m+1) 0 (by omega) ⟨hp,by omega,hm,h,by omega,λa h1 h2=>?_⟩)
 ·by_cases hq:r.2.2>0
  ·rw[if_pos hq]
   obtain⟨pr,er⟩:=N9 O q
   exact O0 O pr q.2.1 q.2.2.1 (wP O q.2.2.2.1 λk _=>er k)
  ·rw[if_neg hq]
   exact O0 O q.1 q.2.1 q.2.2.1 q.2.2.2.1
 ·have e:a=m+1-1:=by omega
  rw[e];exact⟨le_refl O _,le_refl O _⟩
theorem az5 {n:Nat}{p:Array Nat}(hp:PP n p)(hn:1<=n):c8 n c (CI c n) (kas_count n p):=by
 have a1:gP c p 1:=λa b hab hb=>by
  have e1:a=0:=by omega
  have e2:b=0:=by omega
  rw[e1,e2];exact le_refl O _
 refine c8.bind (R:=λr=>1<=r/\r<=1+(n-1)/\gP c p r/\(r<1+(n-1)->c (G p r) (G p (r-1))=true)) (λm q=>?_) _ (wO O hp (n-1) 1 (bn1 _) (by omega) a1)
 obtain⟨q1,q2,q3,q4⟩:=q
 by_cases hm:(m==n)=true
 ·rw[if_pos hm]
  exact⟨hp,q1,by omega,q3⟩
 ·rw[if_neg hm]
  have hne:m≠n:=by simpa using hm
  have hc:=q4 (by omega)
  by_cases h1:m>1
  ·rw[if_pos h1]
   refine⟨hp.lt (by omega),hp.lt (by omega),?_⟩
   by_cases hd:c (p.getD 0 0) (p.getD (m-1) 0)=true
   ·simp only[hd,if_true]
    exact⟨hp,q1,by omega,q3⟩
   ·have hd':c (p.getD 0 0) (p.getD (m-1) 0)=false:=bA3.mpr hd
    simp only[hd',bp7,bu4]
    have eq:∀a,0<=a->a<m->lX c (G p a) (G p (m-1)):=λa _ ha=>⟨q3 a (m-1) (by omega) (by omega),le_trans O hd' (q3 0 a (br5 _) ha)⟩
    have er:=N8 O hp (by omega:m<=n) eq
    refine O1 O (hp.rev 0 m) q1 (by omega) (wP O (p:=p) ?_ λk _=>er k)
    refine rS O (λa b hab hb=>?_) q1 (rR O hc)
    exact le_trans O (eq b (br5 _) hb).1 (eq a (br5 _) (by omega)).2
  ·rw[if_neg h1]
   have e:m=1:=by omega
   subst e
   refine O1 O hp (bn1 _) (by omega) (rS O (λa b hab hb=>?_) (bn1 _) (rR O hc))
   have e1:a=0:=by omega
   have e2:b=0:=by omega
   rw[e1,e2];exact le_refl O _
theorem wQ {n k:Nat}{p:Array Nat}(hp:PP n p)(hk:k<n)(ha:gP c p k):∀(f l r:Nat),l<=r->r<=k->r-l<=f->(∀a,a<l->Le c (G p a) (G p k))->(∀a,r<=a->a<k->Le c (G p k) (G p a))->
  c8 n c (λl=>l<=k/\(∀a,a<l->Le c (G p a) (G p k))/\∀a,l<=a->a<k->Le c (G p k) (G p a)) (kas_place p k f l r)
 |0,l,r,h1,h2,h3,hl,hr=>⟨by omega,hl,λa h4 h5=>hr a (by omega) h5⟩
 |f+1,l,r,h1,h2,h3,hl,hr=>by
  unfold kas_place
  by_cases hlr:l >= r
  ·rw[if_pos hlr]
   exact⟨by omega,hl,λa h4 h5=>hr a (by omega) h5⟩
  ·rw[if_neg hlr]
   refine⟨hp.lt hk,hp.lt (by omega),?_⟩
   by_cases hc:c (p.getD k 0) (p.getD ((l+r)/2) 0)=true
   ·simp only[hc,if_true]
    exact wQ hp hk ha f l ((l+r)/2) (by omega) (by omega) (by omega) hl λa h4 h5=>le_trans O (rR O hc) (ha _ _ h4 h5)
   ·have hc':c (p.getD k 0) (p.getD ((l+r)/2) 0)=false:=bA3.mpr hc
    simp only[hc',bp7,bu4]
    exact wQ hp hk ha f ((l+r)/2+1) r (by omega) h2 (by omega) (λa h4=>le_trans O (ha a ((l+r)/2) (by omega) (by omega)) hc') hr
theorem O3 {n:Nat}:∀(f:Nat) (p:Array Nat) (k:Nat),PP n p->k+f<=n->gP c p k->c8 n c (λq=>PP n q/\gP c q (k+f)) (kas_bin f p k)
 |0,p,k,hp,_,h=>⟨hp,h⟩
 |f+1,p,k,hp,hk,h=>by
  refine c8.bind (R:=λl=>l<=k/\(∀a,a<l->Le c (G p a) (G p k))/\∀a,l<=a->a<k->Le c (G p k) (G p a)) (λl q=>?_) _ (wQ O hp (by omega) h k 0 k (br5 _) (bn1 _) (by omega) (λa z=>absurd z (Nat.not_lt_zero _)) λa h1 h2=>absurd h2 (by omega))
  obtain⟨q1,q2,q3⟩:=q
  have e:∀a,G (bubble p k (k-l)) a=if a=l then G p k else if l<a/\a<=k then G p (a-1) else G p a:=λa=>by
   rw[az3 (by rw[hp.size];omega) (by omega),show k-(k-l)=l by omega]
  refine c8.mono (λr z=>⟨z.1,by rw[show k+(f+1)=k+1+f by omega];exact z.2⟩) _ (O3 f _ (k+1) (hp.bub _ _) (by omega) λa b hab hb=>?_)
  rw[e,e]
  by_cases ha:a=l
  ·rw[if_pos ha]
   by_cases hb':b=l
   ·rw[if_pos hb'];exact le_refl O _
   ·rw[if_neg hb',if_pos (by omega)];exact q3 _ (by omega) (by omega)
  ·rw[if_neg ha]
   by_cases ha2:l<a/\a<=k
   ·rw[if_pos ha2,if_neg (by omega),if_pos (by omega)]
    exact h _ _ (by omega) (by omega)
   ·rw[if_neg ha2]
    by_cases hb':b=l
    ·rw[if_pos hb'];exact q2 a (by omega)
    ·rw[if_neg hb']
     by_cases hb2:l<b/\b<=k
     ·rw[if_pos hb2];exact h _ _ (by omega) (by omega)
     ·rw[if_neg hb2];exact h _ _ hab (by omega)
theorem az6 {n:Nat}(hn:1<=n):c8 n c (λq=>PP n q/\gP c q n) (kas_sort n):=by
 have hp:PP n (List.toArray (List.range n)):=by unfold PP;simp
 refine c8.bind (R:=CI c n) (λr q=>?_) _ (az5 O hp hn)
 obtain⟨q1,q2,q3,q4⟩:=q
 by_cases h:r.1<n
 ·rw[if_pos h]
  have e:max r.1 1=r.1:=by omega
  rw[e]
  exact c8.mono (λp z=>⟨z.1,by rw[show r.1+(n-r.1)=n by omega]at z;exact z.2⟩) _ (O3 O (n-r.1) r.2 r.1 q1 (by omega) q4)
 ·rw[if_neg h]
  have e:r.1=n:=by omega
  exact⟨q1,by rw[e]at q4;exact q4⟩
end
end Srt
namespace L2
open PySem PySem.Spec PyProof.Rows
theorem cL.there {P:Program}{w:World}{H:Hp}{h:Heap}{a:Addr}{o:HO}(x:cL P w H h a o):∃u,h.get? a=some u:=by
 cases o with
 |lst xs=>obtain⟨_,_,_,_,e⟩:=x;exact⟨_,e⟩
 |tup xs=>obtain⟨_,_,_,⟨o,e,_⟩,_⟩:=x;exact⟨_,e⟩
 |dK kvs=>obtain⟨_,_,_,_,o,_,_,e,_⟩:=x;exact⟨_,e⟩
 |dT kvs=>obtain⟨_,_,_,_,o,_,_,e,_⟩:=x;exact⟨_,e⟩
 |set S n=>obtain⟨o,_,_,_,e,_⟩:=x;exact⟨_,e⟩
 |ins C dx fs=>obtain⟨_,_,_,e,_⟩:=x;exact⟨_,e⟩
 |own y=>exact x
 |xd fs=>obtain⟨_,⟨_,_,_,e,_⟩,_⟩:=x;exact⟨_,e⟩
 |rng lo hi=>obtain⟨_,_,_,e⟩:=x;exact⟨_,e⟩
 |frz ob u=>obtain⟨e,_⟩:=x;exact⟨_,e⟩
 |tbl ps=>exact⟨_,(show h.get? a=some _ from x)⟩
 |met f y=>exact⟨_,(show h.get? a=some _ from x)⟩
 |ext φ=>obtain⟨_,z,_⟩:=x;exact z
section
variable {X:Cx}{pins:List (Addr×Obj)}{σ:St}{H:Hp}{s:Shared}{h':Heap}{a:Addr}{o:HO}{t':Nat}
theorem a6.laidF (I:a6 X pins σ H s)(hn:s.heap.get? a=none)(k:∀b u,b≠X.env.locals->s.heap.get? b=some u->h'.get? b=some u)(ns:∀m,s.heap.Ns X.env.locals m->h'.Ns X.env.locals m)(new:cL X.prog X.w (upd H a o) h' a o):H a=none/\a6 X pins σ (upd H a o) { s with heap:=h',toks:=t' }:=by
 have hHn:H a=none:=by
  cases q:H a with
  |none=>rfl
  |some u=>obtain⟨z,e⟩:=(I.hok a u q).there;rw[hn]at e;cases e
 have ne:∀b u,s.heap.get? b=some u->b≠a:=λb u e z=>by rw[z,hn]at e;cases e
 have hL:=I.free
 refine⟨hHn,I.step (g':=s.gens) (d':=s.drawn) (ch:=[]) (λ_ z=>nomatch z) (λb o' h1 _ _ e _=>k b o' h1 e) (λb o' h1 _ _ e _=>⟨o'.slots,k b o' h1 e⟩) (λb o' _ e n=>by rw[bB (ne b o' e)];exact n) (λb o' _ e=>?_)
  (λb xs q=>by rw[bB (e9 q hHn)];exact q) (λb u xs q=>by rw[bB (e9 q hHn)];exact q) (λb ps q=>⟨#[],by rw[bB (e9 q hHn),q];simp⟩) ns (λb u q=>?_) I.bare⟩
 ·by_cases hb:b=X.env.locals
  ·obtain⟨m,hm,_⟩:=I.loc
   obtain⟨o2,_,_,e2,_⟩:=ns m hm
   exact⟨o2,by rw[hb];exact e2⟩
  ·exact⟨o',k b o' hb e⟩
 ·by_cases hb:b=a
  ·subst hb;rw[bP]at q;cases q;exact new
  ·rw[bB hb]at q
   refine (I.hok b u q).stay (λc v hc e=>k c v ?_ e) (λc e=>by rw[bB (e9 e hHn)];exact e) λc xs e=>by rw[bB (e9 e hHn)];exact e
   rcases hc with z|z
   ·rw[z];intro y;rw[y,hL]at q;cases q
   ·intro y;rw[y,hL]at z;cases z
theorem a6.newsAll (I:a6 X pins σ H s){news:List (Addr×Obj)}{m:Str->Option Value}(hs:∀p∈oM X.base s.heap X.env.locals,p∈news)(F:Fr X.base X.env.locals h' m)(N:News X.base X.env.locals h' news) :
  ∀b o,b≠X.env.locals->s.heap.get? b=some o->h'.get? b=some o:=λb o h1 e=>by
 cases q:X.base.get? b with
 |some u=>
  have:=I.bk b u q
  rw[e]at this;cases this
  exact F.keep b _ q
 |none=>exact (N (b,o) (hs _ (B3 h1 q e))).1
end
theorem az7 {α:Type}{d:α}(l:List α){p:List Nat}(h:p.Perm (List.range l.length)):(p.map λi=>l.getD i d).Perm l:=by
 have e:(List.range l.length).map (λi=>l.getD i d)=l:=by
  apply List.ext_getElem
  ·simp
  ·intro i h1 h2
   simp at h1
   simp[h1]
 have:=h.map λi=>l.getD i d
 rw[e]at this
 exact this
theorem pC:∀{xs:List V}{us:List Value} (i:Nat),i<xs.length->aN xs us->b6 (xs.getD i .non) (us.getD i Value.none)
 |_,_,_,h,.nil=>by simp at h
 |_,_,0,_,.cons r _=>by simpa using r
 |_,_,i+1,h,.cons _ t=>by
  have:=pC i (by simpa using h) t
  simpa using this
theorem O4 {xs:List V}{us:List Value}(r:aN xs us):∀{p:List Nat},(∀i∈p,i<xs.length)->aN (p.map λi=>xs.getD i .non) (p.map λi=>us.getD i Value.none)
 |[],_=>.nil
 |i::p,h=>.cons (pC i (h i bm8) r) (O4 r λj hj=>h j (bn5 _ hj))
theorem wR {α:Type}:∀l:List α,(l.zip l).map (·.2)=l
 |[]=>rfl
 |a::l=>by
  show a::((l.zip l).map (·.2))=a::l
  rw[wR l]
theorem az8 {prog:Program}{w:World}{A:Around}{E:Value->Shared->Prop}{s:Shared}{a:Addr}{vs:List Value}{n:Nat}{P:PySem.Fin->Shared->Prop}(e:s.heap.get? a=some (seqObj "list" vs.toArray n))(few:vs.length<2)(q:P (.done (.ret .none)) { s with heap:=sortedHeap s.heap a vs vs.toArray }):wpAny (model prog w) A (Builtin.«list.sort» ⟨[.ref a],[]⟩) P E s:=by
 have big:vs.length<=sizeLine:=bs0 (bt9 few) (by decide)
 have la:=bo6 e
 have c:vs.toArray.size<2:=by simpa using few
 have same:(arrOf (SortSt.mk' general' (vs.toArray.zip vs.toArray) #[] 7 none)).map (·.2)=vs.toArray:=by
  change (vs.toArray.zip vs.toArray).map (·.2)=vs.toArray
  apply Array.ext'
  simpa using wR vs
 obtain⟨k,ek⟩:∃k,(s.heap.update a (Obj.mapSeq λ_=>#[])).get? a=some (seqObj "list" #[] k):=⟨_,get?_update_seq e λ_=>#[]⟩
 have there:(((s.heap.update a (Obj.mapSeq λ_=>#[])).push (seqObj "tuple" vs.toArray 0)).push (seqObj "list" #[] 0)).get? a=some (seqObj "list" #[] k):=
  bm5 _ (bm5 _ ek)
 rw[list_sort_plain]
 apply bm1
 apply listItems_at e rfl
 apply bm1
 refine listUpdate_at e rfl ?_ (by simpa using big) (br5 _)
 apply bm1
 apply seqEpoch_at ek rfl
 apply bm1
 refine wpAny_newTuple ?_ big
 apply bm1
 refine wpAny_newList ?_ (br5 _)
 apply by6
 simp only[c,if_true,StateT.run_pure]
 apply bm1
 apply bn7
 apply bm1
 apply bn7
 apply bm1
 apply seqEpoch_at there rfl
 apply bm1
 refine listUpdate_at there rfl ?_ (br5 _) (by rw[same,bn9];exact Nat.le_succ_of_le big)
 rw[same]
 simp only[bne_self_eq_false,bp7,bu4]
 exact bn7 q
theorem O5 {prog:Program}{w:World}{A:Around}{E:Value->Shared->Prop}{s:Shared}{l:Addr}{vs:List Value}{Q:Value->Shared->Prop}(hl:s.heap.IsList l vs.toArray)(few:vs.length<2)(q:Q (.ref (s.heap.objs.size+1)) { s with heap:=sortedAll s.heap vs vs.toArray }):wpAny (model prog w) A (call (.builtin "sorted") [.ref l]) Q E s:=by
 have big:vs.length<=sizeLine:=bs0 (bt9 few) (by decide)
 apply Calls.call_function_entry kind_sorted plain_sorted entry_sorted (args_sorted1 _)
 simp only[Builtin.«sorted»]
 apply bm1 (m:=checkCount "sorted" 1 1 _)
 apply bn7
 apply bm1
 refine collect_list hl ?_ big
 apply bm1
 refine wpAny_newList ?_ big
 have one:((s.heap.push (seqObj "list" #[] 0)).update s.heap.objs.size (Obj.mapSeq (·++vs.toArray))).objs.size=s.heap.objs.size+1:=(Heap.size_update _ _ _).trans (size_push' _ _)
 have at1:(((s.heap.push (seqObj "list" #[] 0)).update s.heap.objs.size (Obj.mapSeq (·++vs.toArray))).push (seqObj "list" vs.toArray 0)).get? (s.heap.objs.size+1)=some (seqObj "list" vs.toArray 0):=one▸bp3 _ rfl
 change wpAny _ _ _ _ _ { s with heap:=((s.heap.push (seqObj "list" #[] 0)).update s.heap.objs.size (Obj.mapSeq (·++vs.toArray))).push (seqObj "list" vs.toArray 0) }
 rw[one]
 apply bm1
 apply by6
 refine bw2 slot_list_sort ⟨_,at1,rfl⟩ entry_list_sort ?_ (args_list_sort _)
 refine az8 at1 few ⟨_,rfl,?_⟩
 exact bn7 ⟨_,rfl,q⟩
def O6 (K:ad):List V->Hp->VK->Prop:=λxs H Q=>∃a ns,xs = [.ref a]/\aM K H a (ns.map V.int)/\ns.length<64/\∀l (ms:af),H l=none->ms.Perm ns->ms.Pairwise (· <= ·)->Q (.ref l) (upd H l (.lst (ms.map V.int)))
theorem az9 {X:Cx}:dQ X (.builtin "sorted") (O6 X.K):=by
 intro pins s σ H xs us Q I r h
 obtain⟨a,ns,rfl,hs,h64,q⟩:=h
 obtain⟨u,rfl,ru⟩:=iA r
 cases ru
 obtain⟨its,rv,p,hz⟩:=I.list hs
 have hl:=rv.length
 rw[bm7]at hl
 refine sorted_ints p.isList (nB rv) (by omega) λout ns' a1 a2 a3=>?_
 obtain⟨e,he⟩:=sortedAll_at s.heap its out
 have hn:s.heap.objs.size<=s.heap.objs.size+1:=Nat.le_succ _
 have hlen:ns'.length=ns.length:=a2.length_eq
 refine⟨.ref (s.heap.objs.size+1),upd H (s.heap.objs.size+1) (.lst (ns'.map V.int)),I.laid (t':=s.toks) (λ_ _=>sortedAll_old) hn ⟨?_,out.toList,e,rG a1,by simpa using he⟩,rfl,q _ ns' (I.hok.fresh hn) a2 a3⟩
 rw[bm7,hlen]
 exact bt9 (p6 (by omega))
theorem nF:∀{a b:af},HT.bR a b=true->HT.bR b a=false
 |[],[],h=>by cases h
 |[],_::_,_=>rfl
 |_::_,[],h=>by cases h
 |x::xs,y::ys,h=>by
  rw[HT.lT]at h ⊢
  by_cases e:x=y
  ·rw[if_pos e]at h;rw[if_pos e.symm];exact nF h
  ·rw[if_neg e]at h;rw[if_neg (Ne.symm e)]
   have:=bq3 h
   exact bm9 (by omega)
theorem rU:∀{a b c:af},HT.bR a b=false->HT.bR b c=false->HT.bR a c=false
 |[],[],c,_,h=>h
 |[],_::_,_,h,_=>by cases h
 |_::_,[],[],_,_=>rfl
 |_::_,[],_::_,_,h=>by cases h
 |_::_,_::_,[],_,_=>rfl
 |x::xs,y::ys,z::zs,h1,h2=>by
  rw[HT.lT]at h1 h2 ⊢
  by_cases e1:x=y
  ·rw[if_pos e1]at h1
   by_cases e2:y=z
   ·rw[if_pos e2]at h2;rw[if_pos (e1.trans e2)];exact rU h1 h2
   ·rw[if_neg e2]at h2;rw[if_neg (by rw[e1];exact e2)];rw[e1];exact h2
  ·rw[if_neg e1]at h1
   have k1:=bz4 h1
   by_cases e2:y=z
   ·rw[<- e2,if_neg e1];exact h1
   ·rw[if_neg e2]at h2
    have k2:=bz4 h2
    rw[if_neg (by omega)]
    exact bm9 (by omega)
theorem O7:∀{a b:af},HT.bR a b=false->HT.bR b a=false->a=b
 |[],[],_,_=>rfl
 |[],_::_,h,_=>by cases h
 |_::_,[],_,h=>by cases h
 |x::xs,y::ys,h1,h2=>by
  rw[HT.lT]at h1 h2
  by_cases e:x=y
  ·rw[if_pos e]at h1;rw[if_pos e.symm]at h2;rw[e,O7 h1 h2]
  ·rw[if_neg e]at h1;rw[if_neg (Ne.symm e)]at h2
   have:=bz4 h1
   have:=bz4 h2
   omega
section
variable {prog:Program}{w:World}{A:Around}{s:Shared}{Q:Bool→Shared→Prop}
theorem O8:∀{us ws:List Value}{xs ys:af} (i:Nat),IntsAre us xs->IntsAre ws ys->Q (HT.bR xs ys) s->PySem.W.KatLex prog w A true (decide (us.length<ws.length)) Q (us.zip ws) i s
 |_,_,_,_,_,.nil,.nil,h=>h
 |_,_,_,_,_,.nil,.cons _ _ _,h=>h
 |_,_,_,_,_,.cons _ _ _,.nil,h=>h
 |_,_,_,_,i,.cons (vs:=us) x t hx,.cons (vs:=ws) y u hy,h=>by
  refine PySem.W.kat_cons (wpAny_eqBool_int ?_)
  rw[HT.lT]at h
  by_cases e:x=y
  ·rw[if_pos e]at h
   have eb:(x==y)=true:=by simpa using e
   rw[eb]
   refine PySem.W.kat_yes ?_
   have e2:decide ((Value.int x t::us).length<(Value.int y u::ws).length)=decide (us.length<ws.length):=by simp
   rw[e2]
   exact O8 (i+1) hx hy h
  ·rw[if_neg e]at h
   have eb:(x==y)=false:=by simpa using e
   rw[eb]
   refine PySem.W.kat_no ?_
   cases hi:(true&&i==0) with
   |true=>exact PySem.W.kat_lt_int h
   |false=>exact PySem.W.kat_one _ _ (lt_int h)
end
def O9 (K:ad):List V->Hp->VK->Prop:=λxs H Q=>∃(a:Addr) (ys:List V) (key:V->af),xs = [.ref a]/\aM K H a ys/\ys.length<64/\(∀y∈ys,∃b,y = .ref b/\aO K H b ((key y).map V.int)/\key y≠[])/\
 ∀l (zs:List V),H l=none->zs.Perm ys->zs.Pairwise (λu v=>HT.bR (key v) (key u)=false)->Q (.ref l) (upd H l (.lst zs))
theorem aA0 {c:Nat->Nat->Bool}{R:V->V->Prop}{ys:List V}{p:Array Nat}{n:Nat}(hp:Srt.PP n p)(ha:Srt.gP c p n)(hR:∀i j,Srt.Le c i j->R (ys.getD i .non) (ys.getD j .non)) :
  (p.toList.map λi=>ys.getD i .non).Pairwise R:=by
 rw[bs3,bt6]
 intro i j hi hj hij
 have hs:=hp.size
 have h1:i<n:=by rw[<- hs];simpa using hi
 have h2:j<n:=by rw[<- hs];simpa using hj
 have q:=ha i j (bt9 hij) h2
 have e:∀k (hk:k<p.toList.length),Srt.G p k=p.toList[k]:=λk hk=>by
  have hk':k<p.size:=by simpa using hk
  unfold Srt.G;rw[bA7];simp[hk']
 rw[e i hi,e j hj]at q
 exact hR _ _ q
theorem aA1 {X:Cx}:dQ X (.builtin "sorted") (O9 X.K):=by
 intro pins s σ H xs us Q I r h
 obtain⟨a,ys,key,rfl,hs,h64,hk,q⟩:=h
 obtain⟨u,rfl,ru⟩:=iA r
 cases ru
 obtain⟨its,rv,p,hz⟩:=I.list hs
 have hl:=rv.length
 by_cases h2:its.length<2
 ·
  refine O5 p.isList h2 ?_
  obtain⟨e,he⟩:=sortedAll_at s.heap its its.toArray
  have hn:s.heap.objs.size<=s.heap.objs.size+1:=Nat.le_succ _
  refine⟨.ref (s.heap.objs.size+1),upd H (s.heap.objs.size+1) (.lst ys),I.laid (t':=s.toks) (λ_ _=>sortedAll_old) hn ⟨hz,its,e,rv,he⟩,rfl,q _ ys (I.hok.fresh hn) (bB4 _) ?_⟩
  match ys,hl with
  |[],_=>exact bx3
  |[_],_=>exact bq2 _ _
  |_::_::_,hl=>simp at hl;omega
 ·obtain⟨m,F⟩:=I.fr
  have hL:∀{b:Addr}{k:af},aO X.K H b (k.map V.int)->b≠X.env.locals:=λ{b k} z e=>by
   obtain⟨its',_,⟨ob,e1,c1,_⟩,_⟩:=I.tuple z
   obtain⟨m',⟨o',es',ep',e2,d2,_⟩,_⟩:=I.loc
   rcases z with (z|⟨_,z⟩)|⟨o3,its3,n3,z3,zc,zd,_⟩
   ·rw[e,I.free]at z;cases z
   ·rw[e,I.free]at z;cases z
   ·have:=I.kIn b o3 z3
    rw[e,e2]at this
    cases this
    rw[d2]at zd;cases zd
  refine PySem.W.kat_sorted F (ao5 (g:=X.base) (h:=s.heap) (L:=X.env.locals)) p.isList (by omega) (by omega) λD e1 h' F' N' hD=>?_
  have keep:=I.newsAll (λp hp=>bn5 _ hp) F' N'
  have look:∀i,i<ys.length->∃(b:Addr) (ob:Obj) (us:List Value) (n:Nat),its.getD i Value.none = .ref b/\h'.get? b=some ob/\ob.cls = .type "tuple"/\ob.data = .seq us.toArray n/\IntsAre us (key (ys.getD i .non))/\key (ys.getD i .non)≠[]:=λi hi=>by
   have hy:ys.getD i .non∈ys:=by
    rw[bo1,bm6 hi];exact bz3 hi
   obtain⟨b,eb,sq,ne⟩:=hk _ hy
   have rr:=pC i hi rv
   rw[eb]at rr
   have rr:its.getD i Value.none = .ref b:=rr
   obtain⟨us,ru,⟨ob,e1,c1,n1,d1⟩,_⟩:=I.tuple sq
   exact⟨b,ob,us,n1,rr,keep b ob (hL sq) e1,c1,d1,nB ru,ne⟩
  have firsts:∀{xs:List V}{vs:List Value},aN xs vs->(∀y∈xs,∃b,y = .ref b/\aO X.K H b ((key y).map V.int)/\key y≠[])->∃fs:List Value,PySem.W.KatTups h' vs fs/\fs.length=vs.length/\∀v∈fs,∃i t,v=Value.int i t:=by
   intro xs vs r
   induction r with
   |nil=>intro _;exact⟨[],PySem.W.KatTups.nil,rfl,λ_ z=>nomatch z⟩
   |@cons x v xs vs rx rt ih=>
    intro hh
    obtain⟨fs,t1,t2,t3⟩:=ih λy hy=>hh y (bn5 _ hy)
    obtain⟨b,eb,sq,ne⟩:=hh x bm8
    subst eb
    cases rx
    obtain⟨us,ru,⟨ob,e1,c1,n1,d1⟩,_⟩:=I.tuple sq
    have ia:=nB ru
    generalize key (V.ref b)=kk at ia ne
    cases ia with
    |nil=>exact absurd rfl ne
    |@cons n t vs0 ns0 ht=>
     exact⟨Value.int n t::fs,PySem.W.KatTups.cons (keep b ob (hL sq) e1) c1 d1 (by simp) t1,by simp[t2],λv hv=>(bn8.mp hv).elim (λz=>⟨n,t,z⟩) (t3 v)⟩
  obtain⟨fs,t1,t2,t3⟩:=firsts rv hk
  refine PySem.W.kat_kind (T:=.type "int") t1 (by omega) (λv hv=>?_) (by decide) ?_
  ·obtain⟨i,t,rfl⟩:=t3 v hv
   exact PySem.W.Looks.now
  let c:Nat->Nat->Bool:=λi j=>HT.bR (key (ys.getD i .non)) (key (ys.getD j .non))
  have O:Srt.wN c:=⟨λh=>nF h,λh1 h2=>rU h1 h2⟩
  have ok:=Srt.az6 (n:=its.length) O (by omega)
  refine Srt.c8.run (I:=λs'=>s'={ s with heap:=h' }) (λi j C s' hi hj hI hC=>?_) (λpa s' hR hI=>?_) _ _ rfl ok
  ·subst hI
   obtain⟨b1,o1,u1,n1,g1,g2,_,g4,g5,_⟩:=look i (by omega)
   obtain⟨b2,o2,u2,n2,k1,k2,_,k4,k5,_⟩:=look j (by omega)
   show wpAny _ _ (keyLt' (tuples' (Value.type "int" != Value.type "tuple")) (its.getD i Value.none) (its.getD j Value.none)) _ _ _
   rw[g1,k1]
   have eT:(Value.type "int" != Value.type "tuple")=true:=by decide
   rw[eT]
   refine PySem.W.kat_lt g2 g4 k2 k4 ?_
   have:=O8 (prog:=X.prog) (w:=X.w) (A:=X.A.in1.in1) (s:={ s with heap:=h' }) (Q:=C) 0 g5 k5 (hC _ rfl)
   simpa using this
  ·subst hI
   obtain⟨hp,hasc⟩:=hR
   refine PySem.W.KasFin.intro F' N' (PySem.W.UpdF.head λp hp=>br7 (hD p hp)) λh2 cc F2 N2=>?_
   have keep2:=I.newsAll (λp hp=>bn5 _ hp) F2 N2
   have hDn:s.heap.get? D=none:=by
    cases z:s.heap.get? D with
    |none=>rfl
    |some o=>
     obtain⟨_,n1,n2⟩:=N2 (D,_) bm8
     exact absurd (hD _ (B3 n1 n2 z)) (bt5 _)
   have hpl:∀i∈pa.toList,i<ys.length:=λi hi=>by
    have:=bC8.mp (hp.mem_iff.mp hi);omega
   have hp':pa.toList.Perm (List.range ys.length):=by rw[hl];exact hp
   have pm:=az7 (d:=V.non) ys hp'
   obtain⟨hDo,hDL,hDb⟩:=N2 (D,_) bm8
   obtain⟨hHD,I2⟩:=I.laidF (t':=s.toks) (a:=D) (o:=.lst (pa.toList.map λi=>ys.getD i .non)) hDn keep2 (λm' hm'=>by
     have e:m'=m:=funext λnm=>Heap.Ns.agree hm' F.ns nm
     rw[e];exact F2.ns) ⟨by rw[pm.length_eq];exact hz,_,cc,O4 rv hpl,hDo⟩
   exact⟨.ref D,_,I2,rfl,q D _ hHD pm (aA0 hp hasc λi j hle=>hle)⟩
end L2
namespace Raw
open PySem PySem.W PySem.Calls PyProof.Rows
def iD (h:Heap)(d:Addr)(es:Array DictEntry)(ep:Nat):Prop:=∃o,h.get? d=some o/\o.ExactDict/\o.data = .dict es ep
theorem iD.ty {s:Shared}{d:Addr}{es:Array DictEntry}{ep:Nat}(x:iD s.heap d es ep):s.TypeIs (.ref d) "dict":=x.elim λo y=>⟨o,y.1,y.2.1.1⟩
theorem iD.lt {h:Heap}{d:Addr}{es:Array DictEntry}{ep:Nat}(x:iD h d es ep):d<h.objs.size:=x.elim λ_ y=>bo6 y.1
theorem iD.keep {h h':Heap}{d:Addr}{es:Array DictEntry}{ep:Nat}(x:iD h d es ep)(k:∀o,h.get? d=some o->h'.get? d=some o):iD h' d es ep:=x.elim λo y=>⟨o,k o y.1,y.2⟩
section
variable {prog:Program}{w:World}{A:Around}{E:Value→Shared→Prop}{s:Shared}{d it:Addr}{es:Array DictEntry}{ep i:Nat}
theorem made (far:(d==sysModules)=false)(x:iD s.heap d es ep){Q:Value->Shared->Prop}(q:Q (.ref s.heap.objs.size) { s with heap:=s.heap.push { cls:=.type "dict_keyiterator",data:=.fields #[.ref d,.int 0 0,.int es.size 0,.int ep 0] } }):wpAny (model prog w) A (pyIter (.ref d)) Q E s:=by
 have T:=x.ty
 obtain⟨o,e1,e2,e3⟩:=x
 apply wpAny_pyIter_slot T PySem.F.slot_dict_iter
 apply bw2 PySem.F.slot_dict_iter T PySem.F.entry_dict_iter _ (PySem.F.args_dict_iter_1 _)
 simp only[Builtin.«dict.__iter__»,Builtin.Dict.dictSlotNone]
 apply bm1
 apply bm1
 apply wpAny_notOrdered_dict T
 apply bn7
 change wpAny _ _ (Builtin.Dict.showsAll d >>= _) _ _ s
 have far':Builtin.Dict.showsAll d=pure ():=by
  unfold Builtin.Dict.showsAll
  simp only[far,bp7,bu4]
 rw[far',pure_bind]
 apply bm1
 apply wpAny_dictEntries e1 e3
 apply bm1
 apply wpAny_dictEpoch e1 e3
 apply bm1
 refine bv7 (bn7 ?_)
 refine⟨.ref s.heap.objs.size,rfl,"dict_keyiterator",_,⟨_,bp3 _ rfl,rfl⟩,PySem.F.slot_dict_keyiterator_next.lookup,?_⟩
 simpa only[rawInt] using q
theorem turn (hh:A.handled=none)(hi:s.heap.IsKeyIter it d i es.size ep)(x:iD s.heap d es ep){Q:Option Value->Shared->Prop}(yes:∀(lt:i<es.size) h',h'.IsKeyIter it d (i+1) es.size ep->Heap.SameBut it s.heap h'->Q (some es[i].key) { s with heap:=h' })(no:es.size<=i->∀h',Heap.ExtBut it s.heap h'->Q none { s with heap:=h' }):wpAny (model prog w) A (pyNext (.ref it)) Q E s:=by
 have T:=hi.typeIs
 obtain⟨oi,f1,f2,f3⟩:=hi
 obtain⟨o,e1,e2,e3⟩:=x
 have slot:=PySem.F.slot_dict_keyiterator_next
 have plain:Builtin.Dict_items.ownsTuple "dict_keyiterator" = false:=by decide
 have isref:(Value.ref d==Value.none)=false:=rfl
 have nn:¬(i:Int)<0:=by omega
 unfold pyNext
 apply bm1
 apply wpAny_attempt
 apply bw5 (name:=Str.ofString "__next__") T slot
 apply bw2 slot T PySem.F.entry_dict_keyiterator_next _ (PySem.F.args_dict_keyiterator_next_1 _)
 apply bm1
 apply bn7
 apply bm1
 apply bm1
 apply bm1
 first
  |apply wpAny_typeNameOfWhole_keyiter T
  |apply wpAny_typeNameOf_keyiter T
 apply bn7
 apply bm1
 apply wpAny_fieldsOf f1 f3
 simp only[plain,bp7,bu4]
 change wpAny _ _ (if (Value.ref d==Value.none)=true then _ else _) _ _ s
 have adr:Builtin.Dict_items.addrOf (Value.ref d)=pure d:=rfl
 simp only[isref,bp7,bu4,adr,pure_bind]
 apply bm1
 apply wpAny_dictEntries e1 e3
 simp only[bne_self_eq_false,bp7,bu4]
 apply bm1
 apply wpAny_dictEpoch e1 e3
 simp only[bne_self_eq_false,bp7,bu4]
 apply bn7
 simp only[nn,bu4,bp9]
 by_cases lt:i<es.size
 ·simp only[Array.getElem?_eq_getElem lt]
  apply bm1
  apply bm1
  first
   |apply wpAny_typeNameOfWhole_keyiter T
   |apply wpAny_typeNameOf_keyiter T
  apply bn7
  apply bm1
  apply wpAny_isOneOf_keyiter T
  change wpAny _ _ (setField (.ref it) 1 (rawInt ((i:Int)+1)) >>= _) _ _ s
  apply bm1
  refine wpAny_setField f1 f3 (by simp) ?_
  have again:(s.heap.update it (Obj.mapFields (·.setIfInBounds 1 (rawInt ((i:Int)+1))))).IsKeyIter it d (i+1) es.size ep:=by
   refine⟨_,Heap.get?_update_self _ f1 (Obj.isFreed_of_fields (Obj.data_mapFields f3 _)),?_,?_⟩
   ·rw[Obj.cls_mapFields];exact f2
   ·rw[Obj.data_mapFields f3];simp[rawInt]
  apply bm1
  apply by6
  apply bm1
  refine wpAny_isOneOf_keyiter (s:={ s with heap:=s.heap.update it (Obj.mapFields (·.setIfInBounds 1 (rawInt ((i:Int)+1)))) }) again.typeIs ?_
  change wpAny _ _ (pure es[i].key) _ _ _
  apply bn7
  apply bn7
  exact⟨es[i].key,rfl,bn7 (yes lt _ again (Heap.SameBut.update ..))⟩
 ·have ge:es.size<=i:=bB0 lt
  simp only[Array.getElem?_eq_none ge]
  apply bm1
  apply bm1
  first
   |apply wpAny_typeNameOfWhole_keyiter T
   |apply wpAny_typeNameOf_keyiter T
  apply bn7
  change wpAny _ _ (setField (.ref it) 0 .none >>= _) _ _ s
  apply bm1
  refine wpAny_setField f1 f3 (by simp) ?_
  apply bm1
  simp only[newExc,newTuple]
  apply bm1
  refine bv7 ?_ (by size_fits)
  apply bm1
  refine wpAny_of_eq (a:=Value.none) (by first|rfl|(simp only[firstArgMember];rfl)) ?_
  refine bv7 ?_ (by size_fits)
  unfold raiseNew
  apply bm1
  apply wpAny_handled
  have quiet:A.in1.handled=none:=hh
  rw[quiet]
  refine wpAny_throw ?_
  apply bm1
  refine wpAny_isInstance (T:="StopIteration") (b:=true) ⟨_,bp3 _ rfl,rfl⟩ isSubtype_stop ?_
  exact bn7 (no ge _ (((Heap.SameBut.update ..).extBut.push _).push _))
theorem aA2 (hh:A.handled=none)(ne:d≠it):Walks prog w A it [it,d] [it] es.size (λi v=>∃lt:i<es.size,es[i].key=v) (λi h=>h.IsKeyIter it d i es.size ep/\iD h d es ep) where
 sub:=by intro b hb;rw[bm2.mp hb];exact bm8
 frame:=by
  intro i h h' st hk
  exact⟨st.1.at (hk it bm8),st.2.keep (hk d (bn5 _ bm8))⟩
 item:=by
  intro i s Q E lt st hQ
  refine turn hh st.1 st.2 (λlt' h' again sb=>?_) λge=>absurd lt (Nat.not_lt.mpr ge)
  exact hQ _ h' s.toks ⟨lt',rfl⟩ ⟨again,st.2.keep λo e=>sb.extBut d o ne e⟩ λb o hb e=>sb.extBut b o (λz=>hb (bm2.mpr z)) e
 done:=by
  intro s Q E st hQ
  refine turn hh st.1 st.2 (λlt=>absurd lt (bt5 _)) λ_ h' eb=>?_
  exact hQ h' s.toks λb o hb e=>eb b o (λz=>hb (bm2.mpr z)) e
 self:=by intro i s Q E st hQ;exact wpAny_pyIter_keyiter st.1 hQ
theorem aA3 (far:(d==sysModules)=false):KdlSrc prog w "dict" d d es.size (λi v=>∃lt:i<es.size,es[i].key=v) (λh=>iD h d es ep) where
 type:=λ_ x=>x.ty
 there:=λ_ x=>⟨x.lt,x.lt⟩
 keep:=λ_ _ x k=>x.keep (k d (.inl rfl))
 notList:=by decide
 notTuple:=by decide
 hint:=λ_ _ _ _ x q=>kdl_hint_dict x.ty q
 iter:=λ_ _ hh x=>⟨_,_,λ_ _ q=>made far x q,aA2 hh (br7 x.lt),⟨_,bp3 _ rfl,rfl,rfl⟩,x.keep λo e=>bm5 _ e⟩
end
end Raw
namespace L2
open PySem PySem.Spec PyProof.Rows
section
variable {X:Cx}{pins:List (Addr×Obj)}{σ:St}{H:Hp}{s:Shared}{a:Addr}
theorem aA4 {kvs:List (aK×V)}(I:a6 X pins σ H s)(h:H a=some (.dK kvs)):∃es ep,Raw.iD s.heap a es ep/\(a==sysModules)=false/\aN (kvs.map λp=>kV p.1) (es.toList.map (·.key))/\kvs.length<=sizeLine:=by
 obtain⟨z,far,vs,rel,o,es,ep,e1,e2,e3,kk,pr,nd⟩:=(show cL X.prog X.w H s.heap a (.dK kvs) from I.hok a _ h)
 refine⟨es,ep,⟨o,e1,e2,e3⟩,far,?_,z⟩
 clear z far e1 e2 e3 kk nd h
 generalize es.toList=l at pr
 induction pr generalizing kvs with
 |nil=>cases rel;exact .nil
 |@cons e k es' kvs' h1 h2 _ ih=>
  cases rel with
  |@cons p q ps qs r rs=>
   refine .cons ?_ (ih rs)
   obtain⟨r1,_⟩:=r
   show b6 (kV p.1) e.key
   rw[r1]
   rcases iY h1 with⟨n,t,e4,e5⟩|⟨x,t,e4,e5⟩
   ·rw[e4,e5];exact⟨t,rfl⟩
   ·rw[e4,e5];exact⟨t,rfl⟩
theorem aA5 {es:Array DictEntry}{acc:Array Value}(h:ItemsOf (λi v=>∃lt:i<es.size,es[i].key=v) acc es.size):acc.toList=es.toList.map (·.key):=by
 apply List.ext_getElem?
 intro j
 have h1:=h.1
 by_cases hj:j<es.size
 ·have hj':j<acc.size:=by rw[h1];exact hj
  obtain⟨_,e⟩:=h.2 j acc[j] (by simp[hj'])
  rw[bn4]
  simp[hj,hj',e]
 ·have hj':¬j<acc.size:=by rw[h1];exact hj
  rw[bn4]
  simp[bB0 hj,bB0 hj']
end
def P0 (outer:List (Str×NameKind))(XN:List Str)(names:List (Str×NameKind))(N:List Str)(fr:List (Option Nat)):Bool:=
 names.all (λy=>!(y.2==.cell)||names.lookup y.1==some .cell)&&names.all (λy=>!(y.2==.local)||names.lookup y.1==some .local) &&
 names.all (λy=>!(y.2==.free)||(outer.lookup y.1==some .cell||outer.lookup y.1==some .free))&&fr.length==N.length &&
 (fr.zip N).all (λp=>match p.1 with
  |none=>true
  |some j=>XN[j]?==some p.2&&names.lookup p.2==some .free)
theorem cK.of {X:Cx}{scope:Scope}{N:List Str}{fr:List (Option Nat)}(hk:scope.kind = .function)(h:P0 X.env.scope.names X.N scope.names N fr=true):cK X scope N fr:=by
 unfold P0 at h
 simp only[br3]at h
 obtain⟨⟨⟨⟨h1,h2⟩,h3⟩,h4⟩,h5⟩:=h
 refine⟨hk,λy hy e=>?_,λy hy e=>?_,λy hy e=>?_,by simpa using h4,λi j e=>?_⟩
 ·have:=by4.mp h1 y hy
  rw[e]at this;simpa using this
 ·have:=by4.mp h2 y hy
  rw[e]at this;simpa using this
 ·have:=by4.mp h3 y hy
  rw[e]at this;simpa using this
 ·have hl:fr.length=N.length:=by simpa using h4
  have hi:i<fr.length:=(bn2.mp e).1
  have m:(some j,N[i]'(by omega))∈fr.zip N:=by
   have:(fr.zip N)[i]? = some (some j,N[i]'(by omega)):=by
    rw[List.getElem?_zip_eq_some]
    exact⟨e,by simp⟩
   exact bm3 this
  have:=by4.mp h5 _ m
  simp only[br3,beq_iff_eq]at this
  exact⟨N[i]'(by omega),by simp,this.1,this.2⟩
theorem P3 {n:Option V}{r:St}{v:V}:Wk (none::r) (some v::r):=(Wk.refl (none::r)).set (i:=0) rfl
def pD (H:Hp)(ys:List V)(ls:aa):Prop:=Paired (λy l=>∃b,y = .ref b/\H b=some (.tup [.int l.1,.int l.2])) ys ls
structure P4 (H:Hp)(v:V)(ws:af)(ls:aa):Prop where
 at_:∃a p q ys,v = .ref a/\H a=some (.tup [.ref p,.ref q])/\H p=some (.tup (ws.map V.int))/\H q=some (.tup ys)/\pD H ys ls
theorem pD.get {H:Hp}:∀{ys:List V}{ls:aa}{i:Nat}{y:V},pD H ys ls->ys[i]? = some y->∃l b,ls[i]? = some l/\y = .ref b/\H b=some (.tup [.int l.1,.int l.2])
 |_,_,_,_,.nil,e=>by simp at e
 |_,_,0,_,.cons (b:=l) ⟨b,h1,h2⟩ _,e=>by simp at e;subst e;exact⟨l,b,rfl,h1,h2⟩
 |_,_,i+1,_,.cons _ t,e=>by
  obtain⟨l,b,h1,h2⟩:=pD.get (i:=i) t (by simpa using e)
  exact⟨l,b,by simpa using h1,h2⟩
def aJ (ls:aa)(k:Int):af:=ls.flatMap λl=>(if l.1=k then [l.2] else [])++(if l.2=k then [l.1] else [])
theorem aA6 (ls:aa)(l:Int×Int)(k:Int):aJ (ls++[l]) k=aJ ls k++((if l.1=k then [l.2] else [])++(if l.2=k then [l.1] else [])):=by
 unfold aJ;rw[List.flatMap_append];simp
theorem P5 {ls:aa}{i:Nat}{l:Int×Int}(h:ls[i]? = some l)(k:Int):aJ (ls.take (i+1)) k=aJ (ls.take i) k++((if l.1=k then [l.2] else [])++(if l.2=k then [l.1] else [])):=by
 rw[br1,h];exact aA6 _ _ _
structure iP (H H':Hp)(r:Addr)(bs:List Addr)(f:Nat->af):Prop where
 new:H r=none
 news:∀b∈bs,H b=none/\b≠r
 nd:bs.Nodup
 row:H' r=some (.lst (bs.map V.ref))
 rows:∀(k:Nat) (b:Addr),bs[k]? = some b->H' b=some (.lst ((f k).map V.int))
 same:aC H H'
theorem iP.congr {H H':Hp}{r:Addr}{bs:List Addr}{f g:Nat->af}(h:iP H H' r bs f)(e:∀k,k<bs.length->f k=g k):iP H H' r bs g:=
 ⟨h.new,h.news,h.nd,h.row,λk b hb=>by rw[<- e k (bn2.mp hb).1];exact h.rows k b hb,h.same⟩
theorem iP.app {H H':Hp}{r:Addr}{bs:List Addr}{f:Nat->af}(h:iP H H' r bs f){k:Nat}{b:Addr}(hb:bs[k]? = some b)(x:Int) :
  iP H (upd H' b (.lst ((f k).map V.int++[V.int x]))) r bs (λj=>if j=k then f j++[x] else f j):=by
 have hm:b∈bs:=bm3 hb
 refine⟨h.new,h.news,h.nd,by rw[bB (Ne.symm (h.news b hm).2)];exact h.row,λj c hc=>?_,λc o e=>by rw[bB (e9 e (h.news b hm).1)];exact h.same c o e⟩
 by_cases hj:j=k
 ·subst hj
  rw[hb]at hc;cases hc
  rw[bP,if_pos rfl];simp
 ·rw[if_neg hj]
  have ne:c≠b:=λz=>by
   subst z
   obtain⟨i1,e1⟩:=bn2.mp hb
   obtain⟨i2,e2⟩:=bn2.mp hc
   refine hj (Nat.le_antisymm (bB0 λz=>?_) (bB0 λz=>?_))
   ·exact bt6.mp h.nd _ _ i1 i2 z (e1.trans e2.symm)
   ·exact bt6.mp h.nd _ _ i2 i1 z (e2.trans e1.symm)
  rw[bB ne];exact h.rows j c hc
theorem pE (ls:aa)(k:Int):(aJ ls k).length<=2*ls.length:=by
 induction ls with
 |nil=>exact bn1 _
 |cons l r ih=>
  have e:aJ (l::r) k=((if l.1=k then [l.2] else [])++(if l.2=k then [l.1] else []))++aJ r k:=rfl
  rw[e,bo2,bo2,bo5]
  have h1:(if l.1=k then [l.2] else []).length<=1:=by split<;>simp
  have h2:(if l.2=k then [l.1] else []).length<=1:=by split<;>simp
  omega
theorem lY {α:Type}{xs:List α}{i:Int}{v:α}(h0:0<=i)(h:xs[i.toNat]? = some v):atI xs i=some v:=by
 have:=jU h
 rwa [show ((i.toNat:Nat):Int)=i by omega]at this
theorem iE {n:Nat}(h:n<=16000000):n<sizeLine:=by rw[sizeLine_eq];omega
theorem pF {σ:St}{H:Hp}{A B:Hp->Prop}(h:A H):wG σ H λb H4=>if b=true then A H4 else B H4:=by
 show if true=true then A H else B H
 rw[if_pos rfl];exact h
theorem k7 {K:ad}{H:Hp}{p:Addr}{xs:List V}(h:aM K H p xs):oX K "list" (.ref p) H:=.inl ⟨rfl,xs,h⟩
theorem wS {l:Int×Int}{k x:Int}:x∈(if l.1=k then [l.2] else [])++(if l.2=k then [l.1] else [])↔(l.1=k/\x=l.2)∨(l.2=k/\x=l.1):=by
 rw[bn0]
 by_cases h1:l.1=k<;>by_cases h2:l.2=k<;>simp[h1,h2]
theorem dL {ls:aa}{k x:Int}:x∈aJ ls k↔(k,x)∈ls∨(x,k)∈ls:=by
 unfold aJ
 rw[List.mem_flatMap]
 constructor
 ·rintro⟨l,hl,hx⟩
  rcases wS.mp hx with⟨h1,h2⟩|⟨h1,h2⟩
  ·left;rw[<- h1,h2];exact hl
  ·right;rw[<- h1,h2];exact hl
 ·rintro (h|h)
  ·exact⟨_,h,wS.mpr (.inl ⟨rfl,rfl⟩)⟩
  ·exact⟨_,h,wS.mpr (.inr ⟨rfl,rfl⟩)⟩
theorem k8 {ls:aa}{k x:Int}(h:x∈aJ ls k):k∈aJ ls x:=dL.mpr (dL.mp h).symm
end L2
namespace Zp
open PySem PyProof.Rows
section
variable {prog:Program}{w:World}{A:Around}{E:Value→Shared→Prop}{s:Shared}
theorem aA7 {it t:Addr}{i:Nat}{items:Array Value}{x:Value}{Q:Value->Shared->Prop}(hi:s.heap.IsTupleIter it t i)(ht:s.heap.IsTuple t items)(hx:items[i]? = some x)(q:∀h',h'.IsTupleIter it t (i+1)->Heap.SameBut it s.heap h'->Q x { s with heap:=h' }):wpAny (model prog w) A (Builtin.SmallTypes.nextOf (.ref it)) Q E s:=by
 have T:=hi.typeIs
 obtain⟨o,e1,e2,e3⟩:=hi
 obtain⟨u,f1,_,k,f3⟩:=ht
 have slot:=PySem.F.slot_tuple_iterator_next
 have isref:(Value.ref t==Value.none)=false:=rfl
 unfold Builtin.SmallTypes.nextOf
 apply bm1
 apply bw5 (name:=Str.ofString "__next__") T slot
 apply bw2 slot T PySem.F.entry_tuple_iterator_next _ (PySem.F.args_tuple_iterator_next_1 _)
 change wpAny _ _ (field (.ref it) 0 >>= _) _ _ s
 apply bm1
 refine bx1 e1 e3 (x:=.ref t) rfl ?_
 change wpAny _ _ (if (Value.ref t==Value.none)=true then _ else _) _ _ s
 simp only[isref,bp7,bu4]
 change wpAny _ _ (field (.ref it) 1 >>= _) _ _ s
 apply bm1
 refine bx1 e1 e3 (x:=.int i 0) rfl ?_
 change wpAny _ _ (seqItems? (.ref t) >>= _) _ _ s
 apply bm1
 apply bB5 f1 f3
 simp only[bp9,hx]
 apply bm1
 refine wpAny_setField e1 e3 (by simp) ?_
 apply bn7
 refine⟨x,rfl,bn7 (q _ ⟨_,Heap.get?_update_self _ e1 (Obj.isFreed_of_fields (Obj.data_mapFields e3 _)),?_,?_⟩ (Heap.SameBut.update ..))⟩
 ·rw[Obj.cls_mapFields];exact e2
 ·rw[Obj.data_mapFields e3];simp[rawInt]
theorem aA8 {it t:Addr}{i:Nat}{items:Array Value}{Q:Value->Shared->Prop}(hh:A.handled=none)(hi:s.heap.IsTupleIter it t i)(ht:s.heap.IsTuple t items)(hx:items[i]? = none)(q:∀h' e,Heap.ExtBut it s.heap h'->(∃o,h'.get? e=some o/\o.cls = .type "StopIteration")->E (.ref e) { s with heap:=h' }):wpAny (model prog w) A (Builtin.SmallTypes.nextOf (.ref it)) Q E s:=by
 have T:=hi.typeIs
 obtain⟨o,e1,e2,e3⟩:=hi
 obtain⟨u,f1,_,k,f3⟩:=ht
 have slot:=PySem.F.slot_tuple_iterator_next
 have isref:(Value.ref t==Value.none)=false:=rfl
 unfold Builtin.SmallTypes.nextOf
 apply bm1
 apply bw5 (name:=Str.ofString "__next__") T slot
 apply bw2 slot T PySem.F.entry_tuple_iterator_next _ (PySem.F.args_tuple_iterator_next_1 _)
 change wpAny _ _ (field (.ref it) 0 >>= _) _ _ s
 apply bm1
 refine bx1 e1 e3 (x:=.ref t) rfl ?_
 change wpAny _ _ (if (Value.ref t==Value.none)=true then _ else _) _ _ s
 simp only[isref,bp7,bu4]
 change wpAny _ _ (field (.ref it) 1 >>= _) _ _ s
 apply bm1
 refine bx1 e1 e3 (x:=.int i 0) rfl ?_
 change wpAny _ _ (seqItems? (.ref t) >>= _) _ _ s
 apply bm1
 apply bB5 f1 f3
 simp only[bp9,hx]
 apply bm1
 apply bD2
 apply bm1
 refine wpAny_setField e1 e3 (by simp) ?_
 apply bm1
 simp only[newExc,newTuple]
 apply bm1
 refine bv7 ?_ (by size_fits)
 apply bm1
 refine wpAny_of_eq (a:=Value.none) (by first|rfl|(simp only[firstArgMember];rfl)) ?_
 refine bv7 ?_ (by size_fits)
 unfold raiseNew
 apply bm1
 apply wpAny_handled
 have quiet:A.in1.handled=none:=hh
 rw[quiet]
 refine wpAny_throw ?_
 exact q _ _ (((Heap.SameBut.update ..).extBut.push _).push _) ⟨_,bp3 _ rfl,rfl⟩
theorem aA9 (hh:A.handled=none)(it t:Addr)(ne:t≠it)(items:Array Value):Draws prog w A it [it,t] items.size (λi v=>items[i]? = some v) (λi h=>h.IsTupleIter it t i/\h.IsTuple t items) where
 live:=λ_ _ st=>st.1.elim λo y=>⟨o,y.1⟩
 frame:=λ_ _ _ st k=>⟨st.1.at λo e=>k it bm8 o e,st.2.elim λo y=>⟨o,k t (bn5 _ bm8) o y.1,y.2⟩⟩
 item:=λi s Q E lt st q=>aA7 st.1 st.2 (Array.getElem?_eq_getElem lt) λh' again sb=>q _ h' s.toks (Array.getElem?_eq_getElem lt) ⟨again,st.2.elim λo y=>⟨o,sb.extBut t o ne y.1,y.2⟩⟩ sb
 done:=λs Q E st q=>aA8 hh st.1 st.2 (Array.getElem?_eq_none (bn1 _)) q
end
structure Ap (z TI TO i1 i2:Addr)(fp1 fp2:List Addr):Prop where
 TIz:TI≠z
 TOz:TO≠z
 TITO:TI≠TO
 z1:z∉fp1
 z2:z∉fp2
 o1:TO∉fp1
 o2:TO∉fp2
 t1:TI∉fp1
 t2:TI∉fp2
 m1:i1∈fp1
 m2:i2∈fp2
 n1:i1∉fp2
 n2:i2∉fp1
structure wT (z TI TO i1 i2:Addr)(St1 St2:Nat->Heap->Prop)(f0:Value)(i j:Nat)(h:Heap):Prop where
 zz:IsZip h z TI TO f0
 ti:IsPair h TI (.ref i1) (.ref i2)
 to_:∃a b,IsPair h TO a b
 s1:St1 i h
 s2:St2 j h
section
variable {prog:Program}{w:World}{A:Around}{E:Value→Shared→Prop}{s:Shared}{z TI TO i1 i2:Addr}{fp1 fp2:List Addr}{n1 n2:Nat}{P1 P2:Nat→Value→Prop}{St1 St2:Nat→Heap→Prop}
theorem nG (ap:Ap z TI TO i1 i2 fp1 fp2){b:Addr}(h:b∉fp1):b≠i1:=λe=>h (e▸ap.m1)
theorem rV (ap:Ap z TI TO i1 i2 fp1 fp2){b:Addr}(h:b∉fp2):b≠i2:=λe=>h (e▸ap.m2)
theorem item (D1:Draws prog w A.in1 i1 fp1 n1 P1 St1)(D2:Draws prog w A.in1 i2 fp2 n2 P2 St2)(ap:Ap z TI TO i1 i2 fp1 fp2){i:Nat}(l1:i<n1)(l2:i<n2)(st:wT z TI TO i1 i2 St1 St2 .none i i s.heap){Q:Option Value->Shared->Prop}(q:∀x y h' tk,P1 i x->P2 i y->wT z TI TO i1 i2 St1 St2 (rawInt s.heap.objs.size) (i+1) (i+1) h'->IsPair h' s.heap.objs.size x y->(∀c o,c≠z->c≠TO->c≠i1->c≠i2->s.heap.get? c=some o->h'.get? c=some o)->
   h'.objs.size=s.heap.objs.size+1->Q (some (.ref s.heap.objs.size)) { s with heap:=h',toks:=tk }):wpAny (model prog w) A (pyNext (.ref z)) Q E s:=by
 obtain⟨hz,hti,⟨a,b,hto⟩,h1,h2⟩:=st
 have T:s.TypeIs (.ref z) "zip":=⟨_,hz,rfl⟩
 have slot:=PySem.F.slot_zip_next
 unfold pyNext
 apply bm1
 apply wpAny_attempt
 apply bw5 (name:=Str.ofString "__next__") T slot
 apply bw2 slot T PySem.F.entry_zip_next _ (PySem.F.args_zip_next_1 _)
 change wpAny _ _ (field (.ref z) 2 >>= _) _ _ _
 apply bm1
 refine bx1 hz rfl (x:=.bool false) rfl ?_
 change wpAny _ _ (field (.ref z) 3 >>= _) _ _ _
 apply bm1
 refine bx1 hz rfl (x:=.ref TI) rfl ?_
 apply bm1
 apply bB5 hti rfl
 change wpAny _ _ (Builtin.SmallTypes.ownedTupleIsFree (.ref z) >>= _) _ _ _
 apply bm1
 unfold Builtin.SmallTypes.ownedTupleIsFree
 apply bm1
 refine bx1 hz rfl (x:=.none) rfl (bn7 ?_)
 simp only[if_true]
 apply bm1
 apply bD2
 apply bm1
 refine bx1 hz rfl (x:=.ref TO) rfl ?_
 apply bm1
 refine bB6 hz (by simp) λg1 hz1 sb1=>?_
 have k1:∀c o,c≠z->s.heap.get? c=some o->g1.get? c=some o:=λc o c1 e=>sb1.extBut c o c1 e
 apply bm1
 simp only[List.zipIdx_cons,List.zipIdx_nil,List.forIn_cons,List.forIn_nil]
 apply bm1
 apply bm1
 apply wpAny_onRaise
 change wpAny _ _ (Builtin.SmallTypes.nextOf (.ref i1) >>= _) _ _ _
 apply bm1
 refine D1.item i { s with heap:=g1 } _ _ l1 (D1.frame _ _ _ h1 λc hc o e=>k1 c o (λy=>ap.z1 (y▸hc)) e) λx g2 tk2 px st1 sb2=>bn7 ?_
 have k2:∀c o,c≠z->c≠i1->s.heap.get? c=some o->g2.get? c=some o:=λc o c1 c2 e=>sb2.extBut c o c2 (k1 c o c1 e)
 have to2:IsPair g2 TO a b:=k2 _ _ ap.TOz (nG ap ap.o1) hto
 apply bm1
 apply bB5 to2 rfl
 apply bm1
 refine wpAny_updateSeq_pair to2 λg3 to3 sb3=>?_
 have to3:IsPair g3 TO x b:=to3
 apply bm1
 apply wpAny_letGo
 apply bn7
 apply bm1
 apply bm1
 apply wpAny_onRaise
 change wpAny _ _ (Builtin.SmallTypes.nextOf (.ref i2) >>= _) _ _ _
 apply bm1
 have k3:∀c o,c≠z->c≠i1->c≠TO->s.heap.get? c=some o->g3.get? c=some o:=λc o c1 c2 c3 e=>sb3.extBut c o c3 (k2 c o c1 c2 e)
 refine D2.item i { s with heap:=g3,toks:=tk2 } _ _ l2 (D2.frame _ _ _ h2 λc hc o e=>k3 c o (λy=>ap.z2 (y▸hc)) (λy=>ap.n1 (y▸hc)) (λy=>ap.o2 (y▸hc)) e) λy g4 tk4 py st2 sb4=>bn7 ?_
 have to4:IsPair g4 TO x b:=sb4.extBut _ _ (rV ap ap.o2) to3
 apply bm1
 apply bB5 to4 rfl
 apply bm1
 refine wpAny_updateSeq_pair to4 λg5 to5 sb5=>?_
 have to5:IsPair g5 TO x y:=to5
 apply bm1
 apply wpAny_letGo
 apply bn7
 apply bn7
 apply bm1
 apply bB5 to5 rfl
 apply bm1
 refine wpAny_newTuple ?_ (by show 2<=sizeLine;decide)
 have size:g5.objs.size=s.heap.objs.size:=by rw[sb5.1,sb4.1,sb3.1,sb2.1,sb1.1]
 have k5:∀c o,c≠z->c≠TO->c≠i1->c≠i2->s.heap.get? c=some o->g5.get? c=some o:=λc o c1 c2 c3 c4 e=>sb5.extBut c o c2 (sb4.extBut c o c4 (k3 c o c1 c3 c2 e))
 have z5:IsZip g5 z TI TO .ellipsis:=sb5.extBut _ _ (Ne.symm ap.TOz) (sb4.extBut _ _ (rV ap ap.z2) (sb3.extBut _ _ (Ne.symm ap.TOz) (sb2.extBut _ _ (nG ap ap.z1) hz1)))
 change wpAny _ _ (Builtin.SmallTypes.ownedTupleHandOut (.ref z) (.ref g5.objs.size) >>= _) _ _ _
 apply bm1
 unfold Builtin.SmallTypes.ownedTupleHandOut
 apply bm1
 have z6:IsZip (g5.push { cls:=.type "tuple",data:=.seq #[x,y] }) z TI TO .ellipsis:=bm5 _ z5
 refine bB6 z6 (by simp) λg7 z7 sb7=>?_
 have z7:IsZip g7 z TI TO (rawInt g5.objs.size):=z7
 refine bB6 z7 (by simp) λg8 z8 sb8=>?_
 have z8:IsZip g8 z TI TO (rawInt g5.objs.size):=z8
 have zlt:z<g5.objs.size:=bo6 z5
 have up:∀c o,c≠z->g5.get? c=some o->g8.get? c=some o:=λc o c1 e=>sb8.extBut c o c1 (sb7.extBut c o c1 (bm5 _ e))
 have p8:IsPair g8 g5.objs.size x y:=sb8.extBut _ _ (bx8 zlt) (sb7.extBut _ _ (bx8 zlt) (bp3 _ rfl))
 have s8:g8.objs.size=g5.objs.size+1:=by rw[sb8.1,sb7.1,bC9]
 have f1:St1 (i+1) g8:=D1.frame _ _ _ st1 λc hc o e=>up c o (λy=>ap.z1 (y▸hc)) (sb5.extBut c o (λy=>ap.o1 (y▸hc)) (sb4.extBut c o (λy=>ap.n2 (y▸hc)) (sb3.extBut c o (λy=>ap.o1 (y▸hc)) e)))
 have f2:St2 (i+1) g8:=D2.frame _ _ _ st2 λc hc o e=>up c o (λy=>ap.z2 (y▸hc)) (sb5.extBut c o (λy=>ap.o2 (y▸hc)) e)
 have ti8:IsPair g8 TI (.ref i1) (.ref i2):=up _ _ ap.TIz (k5 _ _ ap.TIz ap.TITO (nG ap ap.t1) (rV ap ap.t2) hti)
 rw[size]at z8 p8 s8
 apply bn7
 refine⟨_,rfl,bn7 ?_⟩
 change Q (some (.ref g5.objs.size)) _
 rw[size]
 exact q x y g8 tk4 px py ⟨z8,ti8,⟨x,y,up _ _ ap.TOz to5⟩,f1,f2⟩ p8 (λc o c1 c2 c3 c4 e=>up c o c1 (k5 c o c1 c2 c3 c4 e)) s8
theorem fin (D1:Draws prog w A.in1 i1 fp1 n1 P1 St1)(D2:Draws prog w A.in1 i2 fp2 n2 P2 St2)(ap:Ap z TI TO i1 i2 fp1 fp2){i:Nat}(le:i=n1∨(i<n1/\i=n2))(st:wT z TI TO i1 i2 St1 St2 .none i i s.heap){Q:Option Value->Shared->Prop}(q:∀h' tk,(∀c o,c≠z->c≠TO->c≠i1->c≠i2->s.heap.get? c=some o->h'.get? c=some o)->Q none { s with heap:=h',toks:=tk }):wpAny (model prog w) A (pyNext (.ref z)) Q E s:=by
 obtain⟨hz,hti,⟨a,b,hto⟩,h1,h2⟩:=st
 have T:s.TypeIs (.ref z) "zip":=⟨_,hz,rfl⟩
 have slot:=PySem.F.slot_zip_next
 unfold pyNext
 apply bm1
 apply wpAny_attempt
 apply bw5 (name:=Str.ofString "__next__") T slot
 apply bw2 slot T PySem.F.entry_zip_next _ (PySem.F.args_zip_next_1 _)
 change wpAny _ _ (field (.ref z) 2 >>= _) _ _ _
 apply bm1
 refine bx1 hz rfl (x:=.bool false) rfl ?_
 change wpAny _ _ (field (.ref z) 3 >>= _) _ _ _
 apply bm1
 refine bx1 hz rfl (x:=.ref TI) rfl ?_
 apply bm1
 apply bB5 hti rfl
 change wpAny _ _ (Builtin.SmallTypes.ownedTupleIsFree (.ref z) >>= _) _ _ _
 apply bm1
 unfold Builtin.SmallTypes.ownedTupleIsFree
 apply bm1
 refine bx1 hz rfl (x:=.none) rfl (bn7 ?_)
 simp only[if_true]
 apply bm1
 apply bD2
 apply bm1
 refine bx1 hz rfl (x:=.ref TO) rfl ?_
 apply bm1
 refine bB6 hz (by simp) λg1 hz1 sb1=>?_
 have k1:∀c o,c≠z->s.heap.get? c=some o->g1.get? c=some o:=λc o c1 e=>sb1.extBut c o c1 e
 apply bm1
 simp only[List.zipIdx_cons,List.zipIdx_nil,List.forIn_cons,List.forIn_nil]
 apply bm1
 apply bm1
 apply wpAny_onRaise
 change wpAny _ _ (Builtin.SmallTypes.nextOf (.ref i1) >>= _) _ _ _
 apply bm1
 have z1:IsZip g1 z TI TO .ellipsis:=hz1
 rcases le with rfl|⟨lt,rfl⟩
 ·refine D1.done { s with heap:=g1 } _ _ (D1.frame _ _ _ h1 λc hc o e=>k1 c o (λy=>ap.z1 (y▸hc)) e) λg2 e eb ex=>?_
  have z2:IsZip g2 z TI TO .ellipsis:=eb _ _ (nG ap ap.z1) z1
  refine bB6 z2 (by simp) λg3 z3 sb3=>?_
  obtain⟨oe,eo,co⟩:=ex
  have ne:e≠z:=λy=>by
   rw[y,z2]at eo
   have:=bo9 eo
   rw[<- this]at co;exact absurd (show Value.type "zip" = Value.type "StopIteration" from co) (by decide)
  apply bm1
  refine wpAny_isInstance (T:="StopIteration") (b:=true) ⟨oe,sb3.extBut _ _ ne eo,co⟩ isSubtype_stop ?_
  exact bn7 (q g3 s.toks λc o c1 _ c3 _ e=>sb3.extBut c o c1 (eb c o c3 (k1 c o c1 e)))
 ·refine D1.item i { s with heap:=g1 } _ _ lt (D1.frame _ _ _ h1 λc hc o e=>k1 c o (λy=>ap.z1 (y▸hc)) e) λx g2 tk2 px st1 sb2=>bn7 ?_
  have k2:∀c o,c≠z->c≠i1->s.heap.get? c=some o->g2.get? c=some o:=λc o c1 c2 e=>sb2.extBut c o c2 (k1 c o c1 e)
  have to2:IsPair g2 TO a b:=k2 _ _ ap.TOz (nG ap ap.o1) hto
  apply bm1
  apply bB5 to2 rfl
  apply bm1
  refine wpAny_updateSeq_pair to2 λg3 to3 sb3=>?_
  apply bm1
  apply wpAny_letGo
  apply bn7
  apply bm1
  apply bm1
  apply wpAny_onRaise
  change wpAny _ _ (Builtin.SmallTypes.nextOf (.ref i2) >>= _) _ _ _
  apply bm1
  have k3:∀c o,c≠z->c≠i1->c≠TO->s.heap.get? c=some o->g3.get? c=some o:=λc o c1 c2 c3 e=>sb3.extBut c o c3 (k2 c o c1 c2 e)
  refine D2.done { s with heap:=g3,toks:=tk2 } _ _ (D2.frame _ _ _ h2 λc hc o e=>k3 c o (λy=>ap.z2 (y▸hc)) (λy=>ap.n1 (y▸hc)) (λy=>ap.o2 (y▸hc)) e) λg4 e eb ex=>?_
  have z4:IsZip g4 z TI TO .ellipsis:=eb _ _ (rV ap ap.z2) (sb3.extBut _ _ (Ne.symm ap.TOz) (sb2.extBut _ _ (nG ap ap.z1) z1))
  refine bB6 z4 (by simp) λg5 z5 sb5=>?_
  obtain⟨oe,eo,co⟩:=ex
  have ne:e≠z:=λy=>by
   rw[y,z4]at eo
   have:=bo9 eo
   rw[<- this]at co;exact absurd (show Value.type "zip" = Value.type "StopIteration" from co) (by decide)
  apply bm1
  refine wpAny_isInstance (T:="StopIteration") (b:=true) ⟨oe,sb5.extBut _ _ ne eo,co⟩ isSubtype_stop ?_
  exact bn7 (q g5 tk2 λc o c1 c2 c3 c4 e=>sb5.extBut c o c1 (eb c o c4 (k3 c o c1 c3 c2 e)))
end
def hG (h:Heap)(t u:Addr):Heap:=
 ((((h.push { cls:=.type "tuple_iterator",data:=.fields #[.ref t,.int 0 0] }).push { cls:=.type "tuple_iterator",data:=.fields #[.ref u,.int 0 0] }).push { cls:=.type "tuple",data:=.seq #[.ref h.objs.size,.ref (h.objs.size+1)] }).push
  { cls:=.type "tuple",data:=.seq #[.none,.none] }).push { cls:=.type "zip",data:=.fields #[.none,.bool false,.bool false,.ref (h.objs.size+2),.ref (h.objs.size+3)] }
theorem aB0 (t u:Addr)(xs ys:Array Value):Meets (Builtin.«zip.__new__» ⟨[.type "zip",.ref t,.ref u],[]⟩) (λ_ R s=>s.heap.IsTuple t xs/\s.heap.IsTuple u ys/\R (.ok (.ret (.ref (s.heap.objs.size+4)))) { s with heap:=hG s.heap t u }):=
 .of_wp λprog w A R s h=>by
  obtain⟨hp,g,d,tk,os⟩:=s
  obtain⟨ht,hu,h⟩:=h
  have sub:=sub_zip
  have a1:Heap.IsTuple (Shared.heap ⟨hp,g,d,tk,os⟩) t xs:=ht
  have a2:Heap.IsTuple (Shared.heap ⟨hp.push { cls:=.type "tuple_iterator",data:=.fields #[.ref t,.int 0 0] },g,d,tk,os⟩) u ys:=hu.elim λo y=>⟨o,bm5 _ y.1,y.2⟩
  wp_walk using wpAny_pyIter_tuple a1,wpAny_pyIter_tuple a2
  have e:∀(o:Obj) (k:Heap),(k.push o).objs.size=k.objs.size+1:=λo k=>bC9 ..
  refine⟨_,rfl,?_⟩
  simp only[hG,e]at h ⊢
  exact h
section
variable {prog:Program}{w:World}{A:Around}{E:Value→Shared→Prop}{s:Shared}
theorem aB1 {t u:Addr}{xs ys:Array Value}{Q:Value->Shared->Prop}(ht:s.heap.IsTuple t xs)(hu:s.heap.IsTuple u ys)(q:∀h',IsZip h' (s.heap.objs.size+4) (s.heap.objs.size+2) (s.heap.objs.size+3) .none->IsPair h' (s.heap.objs.size+2) (.ref s.heap.objs.size) (.ref (s.heap.objs.size+1))->
   IsPair h' (s.heap.objs.size+3) .none .none->h'.IsTupleIter s.heap.objs.size t 0->h'.IsTupleIter (s.heap.objs.size+1) u 0->(∀c o,s.heap.get? c=some o->h'.get? c=some o)->Q (.ref (s.heap.objs.size+4)) { s with heap:=h' }) :
  wpAny (model prog w) A (call (.type "zip") [.ref t,.ref u]) Q E s:=by
 refine callType_new PySem.F.called_zip (by decide) (PySem.F.typeCall_zip_2 _ _) (PySem.F.newCall_zip_2 _ _) (λobj=>PySem.F.args_object_init_3 obj _ _) PySem.F.entry_zip_new (aB0 t u xs ys) ⟨ht,hu,?_⟩
 have e:∀(o:Obj) (k:Heap),(k.push o).objs.size=k.objs.size+1:=λo k=>bC9 ..
 have p0:∀(k:Heap) (o:Obj) (m:Nat),o.isFreed=false->m=k.objs.size->(k.push o).get? m=some o:=λk o m f z=>by rw[z];exact bp3 _ f
 have g0:(hG s.heap t u).get? s.heap.objs.size=some { cls:=.type "tuple_iterator",data:=.fields #[.ref t,.int 0 0] }:=by
  unfold hG
  exact bm5 _ (bm5 _ (bm5 _ (bm5 _ (p0 _ _ _ rfl rfl))))
 have g1:(hG s.heap t u).get? (s.heap.objs.size+1)=some { cls:=.type "tuple_iterator",data:=.fields #[.ref u,.int 0 0] }:=by
  unfold hG
  exact bm5 _ (bm5 _ (bm5 _ (p0 _ _ _ rfl (by simp only[e]))))
 have g2:(hG s.heap t u).get? (s.heap.objs.size+2)=some { cls:=.type "tuple",data:=.seq #[.ref s.heap.objs.size,.ref (s.heap.objs.size+1)] }:=by
  unfold hG
  exact bm5 _ (bm5 _ (p0 _ _ _ rfl (by simp only[e])))
 have g3:(hG s.heap t u).get? (s.heap.objs.size+3)=some { cls:=.type "tuple",data:=.seq #[.none,.none] }:=by
  unfold hG
  exact bm5 _ (p0 _ _ _ rfl (by simp only[e]))
 have g4:(hG s.heap t u).get? (s.heap.objs.size+4)=some { cls:=.type "zip",data:=.fields #[.none,.bool false,.bool false,.ref (s.heap.objs.size+2),.ref (s.heap.objs.size+3)] }:=by
  unfold hG
  exact p0 _ _ _ rfl (by simp only[e])
 refine⟨⟨_,g4,rfl⟩,q _ g4 g2 g3 ⟨_,g0,rfl,rfl⟩ ⟨_,g1,rfl,rfl⟩ λc o z=>?_⟩
 unfold hG
 exact bm5 _ (bm5 _ (bm5 _ (bm5 _ (bm5 _ z))))
end
end Zp
namespace L2
open PySem PySem.Spec PyProof.Rows
def wU (K:ad)(a b:Addr):It:=
  ⟨λi H=>∃xs ys x y,aO K H a xs/\aO K H b ys/\xs[i]? = some x/\ys[i]? = some y,
   λi H v H'=>∃T x y,H T=none/\v = .ref T/\H'=upd H T (.tup [x,y])/\∀xs ys,aO K H a xs->aO K H b ys->xs[i]? = some x/\ys[i]? = some y,
   λi H=>∃xs ys,aO K H a xs/\aO K H b ys/\(i=xs.length∨(i<xs.length/\i=ys.length))⟩
def Sq (t:Bool)(K:ad)(H:Hp)(a:Addr)(xs:List V):Prop:=match t with
 |true=>aO K H a xs
 |false=>aM K H a xs
def hJ (t:Bool)(h:Heap)(i a:Addr)(n:Nat):Prop:=match t with
 |true=>h.IsTupleIter i a n
 |false=>h.IsListIter i a n
def P6 (t:Bool)(h:Heap)(a:Addr)(xs:Array Value):Prop:=match t with
 |true=>h.IsTuple a xs
 |false=>h.IsList a xs
theorem hJ.at {h h':Heap}{i a:Addr}{n:Nat}:∀{t:Bool},hJ t h i a n->(∀o,h.get? i=some o->h'.get? i=some o)->hJ t h' i a n
 |true,x,k=>Heap.IsTupleIter.at x k
 |false,x,k=>Heap.IsListIter.at x k
theorem hJ.ob {h:Heap}{i a:Addr}{n:Nat}:∀{t:Bool},hJ t h i a n->∃o,h.get? i=some o/\∀v,o.data≠.cell v
 |true,⟨o,f,_,d⟩=>⟨o,f,λv q=>by rw[d]at q;cases q⟩
 |false,⟨o,f,_,d⟩=>⟨o,f,λv q=>by rw[d]at q;cases q⟩
theorem hJ.draws {prog:Program}{w:World}{A:Around}:∀(t:Bool) (hh:A.handled=none) (it a:Addr) (ne:a≠it) (items:Array Value),Draws prog w A it [it,a] items.size (λi v=>items[i]? = some v) (λi h=>hJ t h it a i/\P6 t h a items)
 |true,hh,it,a,ne,items=>Zp.aA9 hh it a ne items
 |false,hh,it,a,ne,items=>Draws.list hh it a ne items
section
variable {X:Cx}{pins:List (Addr×Obj)}{σ:St}{H:Hp}{s:Shared}{a:Addr}{xs ys:List V}
theorem Sq.get (I:a6 X pins σ H s):∀{t:Bool},Sq t X.K H a xs->∃us,aN xs us/\P6 t s.heap a us.toArray
 |true,h=>by obtain⟨us,r,p,_⟩:=I.tuple h;exact⟨us,r,p⟩
 |false,h=>by obtain⟨us,r,p,_⟩:=I.list h;exact⟨us,r,p.isList⟩
theorem Sq.inj (I:a6 X pins σ H s):∀{t:Bool},Sq t X.K H a xs->Sq t X.K H a ys->xs=ys
 |true,h,g=>I.tuple_inj h g
 |false,h,g=>I.list_inj h g
theorem Sq.off (I:a6 X pins σ H s)(he:H a=none)(hb:X.base.get? a=none):∀{t:Bool},Sq t X.K H a xs->False
 |true,h=>by
  rcases h with (h|⟨_,h⟩)|⟨o,_,_,h,_⟩
  ·rw[he]at h;cases h
  ·rw[he]at h;cases h
  ·have:=I.ok.mod.kin a o h
   rw[hb]at this;cases this
 |false,h=>by
  rcases h with (h|⟨_,h⟩)|⟨o,_,_,h,_⟩
  ·rw[he]at h;cases h
  ·rw[he]at h;cases h
  ·have:=I.ok.mod.kin a o h
   rw[hb]at this;cases this
end
def aB2 (t1 t2:Bool)(K:ad)(a b:Addr):It:=
  ⟨λi H=>∃xs ys x y,Sq t1 K H a xs/\Sq t2 K H b ys/\xs[i]? = some x/\ys[i]? = some y,
   λi H v H'=>∃T x y,H T=none/\v = .ref T/\H'=upd H T (.tup [x,y])/\∀xs ys,Sq t1 K H a xs->Sq t2 K H b ys->xs[i]? = some x/\ys[i]? = some y,
   λi H=>∃xs ys,Sq t1 K H a xs/\Sq t2 K H b ys/\(i=xs.length∨(i<xs.length/\i=ys.length))⟩
structure wV (t1 t2:Bool)(z TI TO i1 i2 a b:Addr)(i:Nat)(h:Heap):Prop where
 zz:IsZip h z TI TO .none
 ti:IsPair h TI (.ref i1) (.ref i2)
 to_:∃x y,IsPair h TO x y
 s1:hJ t1 h i1 a i
 s2:hJ t2 h i2 b i
theorem P7 (t1 t2:Bool){P:Program}{w:World}{K:ad}{elts:List Expr}{k:Nat}{pos:Pos}(a b z TI TO i1 i2:Addr)(d:[z,TI,TO,i1,i2].Nodup) :
  jR P w K (.Tuple elts k pos) (aB2 t1 t2 K a b) [z,TI,TO,i1,i2] z (wV t1 t2 z TI TO i1 i2 a b):=by
 have nd:z≠TI/\z≠TO/\z≠i1/\z≠i2/\TI≠TO/\TI≠i1/\TI≠i2/\TO≠i1/\TO≠i2/\i1≠i2:=by
  simp only[bs4,bn8,bq9,by9,not_or]at d
  obtain⟨⟨a1,a2,a3,a4⟩,⟨b1,b2,b3⟩,⟨c1,c2⟩,e1,_⟩:=d
  exact⟨a1,a2,a3,a4,b1,b2,b3,c1,c2,e1⟩
 obtain⟨n1,n2,n3,n4,n5,n6,n7,n8,n9,n10⟩:=nd
 have offBase:∀{X:Cx}{pins:List (Addr×Obj)}{σ:St}{H:Hp}{s:Shared},a6 X pins σ H s->(∀c∈[z,TI,TO,i1,i2],i8 X pins H c)->∀c∈[z,TI,TO,i1,i2],X.base.get? c=none:=by
  intro X pins σ H s I hf c hc
  cases q:X.base.get? c with
  |none=>rfl
  |some o=>
   rcases (hf c hc).2.2.2.1 with h|h
   ·exact absurd h (I.ok.noex c o q)
   ·exact absurd (bo7 (bo6 q) (bs0 I.ok.bsz h)) (bt5 _)
 have off:∀{t:Bool}{X:Cx}{pins:List (Addr×Obj)}{σ:St}{H:Hp}{s:Shared}{c:Addr}{zs:List V},a6 X pins σ H s->(∀c∈[z,TI,TO,i1,i2],i8 X pins H c)->Sq t X.K H c zs->c∉[z,TI,TO,i1,i2]:=by
  intro t X pins σ H s c zs I hf hc hm
  exact Sq.off I (hf c hm).1 (offBase I hf c hm) hc
 have ap:∀{c e:Addr},c∉[z,TI,TO,i1,i2]->e∉[z,TI,TO,i1,i2]->Zp.Ap z TI TO i1 i2 [i1,c] [i2,e]:=λ{c e} hc he=>by
  simp only[bn8,bq9,by9,not_or]at hc he
  obtain⟨c1,c2,c3,c4,c5⟩:=hc
  obtain⟨e1,e2,e3,e4,e5⟩:=he
  have two:∀{q u v:Addr},q≠u->q≠v->q∉[u,v]:=λ{q u v} h1 h2 hm=>by
   simp only[bn8,bq9,by9]at hm
   exact hm.elim h1 h2
  exact⟨n1.symm,n2.symm,n5,two n3 (Ne.symm c1),two n4 (Ne.symm e1),two n8 (Ne.symm c3),two n9 (Ne.symm e3),two n6 (Ne.symm c2),two n7 (Ne.symm e2),bm8,bm8,two n10 (Ne.symm e4),two n10.symm (Ne.symm c5)⟩
 refine⟨by simp,λi h st c hc=>?_,λi h h' st kp=>?_,?_,?_,λA i s Q E st q=>wpAny_pyIter_zip st.zz q⟩
 ·simp only[bn8,bq9,by9]at hc
  obtain⟨x,y,to⟩:=st.to_
  rcases hc with rfl|rfl|rfl|rfl|rfl
  ·exact⟨_,st.zz,λv q=>by cases q⟩
  ·exact⟨_,st.ti,λv q=>by cases q⟩
  ·exact⟨_,to,λv q=>by cases q⟩
  ·exact st.s1.ob
  ·exact st.s2.ob
 ·obtain⟨x,y,to⟩:=st.to_
  exact⟨kp z (by simp) _ st.zz,kp TI (by simp) _ st.ti,⟨x,y,kp TO (by simp) _ to⟩,st.s1.at λo e=>kp i1 (by simp) o e,st.s2.at λo e=>kp i2 (by simp) o e⟩
 ·
  intro X hP hw hK hc i pins s σ H E I hf st hg
  subst hP hw hK
  obtain⟨xs,ys,x,y,ha,hb,hx,hy⟩:=hg
  obtain⟨us,ru,pu⟩:=Sq.get I ha
  obtain⟨vs,rv,pv'⟩:=Sq.get I hb
  obtain⟨ux,eux,rux⟩:=ru.get hx
  obtain⟨vy,evy,rvy⟩:=rv.get hy
  have fa:=off I hf ha
  have fb:=off I hf hb
  have hh:X.A.in1.handled=none:=I.ok.hd hc
  have l1:i<us.toArray.size:=by simpa using (bn2.mp eux).1
  have l2:i<vs.toArray.size:=by simpa using (bn2.mp evy).1
  have fa':a≠i1:=λq=>fa (by rw[q];simp)
  have fb':b≠i2:=λq=>fb (by rw[q];simp)
  have D1:=hJ.draws t1 (prog:=X.prog) (w:=X.w) hh i1 a fa' us.toArray
  have D2:=hJ.draws t2 (prog:=X.prog) (w:=X.w) hh i2 b fb' vs.toArray
  refine Zp.item D1 D2 (ap fa fb) l1 l2 ⟨st.zz,st.ti,st.to_,⟨st.s1,pu⟩,⟨st.s2,pv'⟩⟩ λp q h' tk hp hq st' pr kp sz=>⟨_,rfl,?_⟩
  obtain rfl:p=ux:=by
   have:us.toArray[i]? = some ux:=by simpa using eux
   rw[this]at hp;exact (bo9 hp).symm
  obtain rfl:q=vy:=by
   have:vs.toArray[i]? = some vy:=by simpa using evy
   rw[this]at hq;exact (bo9 hq).symm
  refine wpAny_letOwnedTupleGo_zip (s:={ s with heap:=h',toks:=tk }) st'.zz λg zz sb=>?_
  have hzl:z<s.heap.objs.size:=bo6 st.zz
  have up:∀c o,c≠z->c≠TO->c≠i1->c≠i2->s.heap.get? c=some o->g.get? c=some o:=λc o c1 c2 c3 c4 e=>sb.extBut c o c1 (kp c o c1 c2 c3 c4 e)
  have hT:H s.heap.objs.size=none:=I.hok.fresh (bn1 _)
  have prG:IsPair g s.heap.objs.size p q:=sb.extBut _ _ (bx8 hzl) pr
  have fpn:∀c u,H c=some u->c∉[z,TI,TO,i1,i2]:=λc u e hm=>by rw[(hf c hm).1]at e;cases e
  have upH:∀c o u,H c=some u->s.heap.get? c=some o->g.get? c=some o:=λc o u e z=>by
   have:=fpn c u e
   simp only[bn8,bq9,by9,not_or]at this
   exact up c o this.1 this.2.2.1 this.2.2.2.1 this.2.2.2.2 z
  have ns:∀m,s.heap.Ns X.env.locals m->g.Ns X.env.locals m:=λm hm=>by
   obtain⟨o,es,ep,e1,e2⟩:=hm
   exact⟨o,es,ep,up _ o (Ne.symm (hf z (by simp)).2.1) (Ne.symm (hf TO (by simp)).2.1) (Ne.symm (hf i1 (by simp)).2.1) (Ne.symm (hf i2 (by simp)).2.1) e1,e2⟩
  have I2:a6 X pins σ (upd H s.heap.objs.size (.tup [x,y])) { s with heap:=g,toks:=tk }:=by
   refine I.step (g':=s.gens) (d':=s.drawn) (ch:=[z,TO,i1,i2]) (λc hc'=>?_) (λc o _ _ hc' e _=>?_) (λc o _ _ hc' e _=>⟨o.slots,?_⟩) (λc o _ e n=>?_) (λc o hc' e=>⟨o,?_⟩)
    (λc zs e=>by rw[bB (e9 e hT)];exact e) (λc u zs e=>by rw[bB (e9 e hT)];exact e) (λc ps e=>⟨#[],by rw[bB (e9 e hT),e];simp⟩) ns (λc u e=>?_) I.bare
   ·have hm:c∈[z,TI,TO,i1,i2]:=by
     simp only[bn8,bq9,by9]at hc' ⊢
     rcases hc' with h|h|h|h<;>simp[h]
    exact⟨(hf c hm).2.2.2.1,(hf c hm).2.1,(hf c hm).2.2.2.2.1,(hf c hm).2.2.2.2.2⟩
   ·simp only[bn8,bq9,by9,not_or]at hc'
    exact up c o hc'.1 hc'.2.1 hc'.2.2.1 hc'.2.2.2 e
   ·simp only[bn8,bq9,by9,not_or]at hc'
    exact up c o hc'.1 hc'.2.1 hc'.2.2.1 hc'.2.2.2 e
   ·rw[bB (br7 (bo6 e))];exact n
   ·simp only[bn8,bq9,by9,not_or]at hc'
    exact up c o hc'.1 hc'.2.1 hc'.2.2.1 hc'.2.2.2 e
   ·by_cases hcT:c=s.heap.objs.size
    ·subst hcT
     rw[bP]at e;cases e
     exact⟨by show 2<=sizeLine;decide,[p,q],.cons rux (.cons rvy .nil),⟨_,prG,rfl,_,rfl⟩,λu e=>by rw[prG]at e;cases e;rfl⟩
    ·rw[bB hcT]at e
     refine (I.hok c u e).stay (λc' o' hc2 q'=>?_) (λc' q'=>by rw[bB (e9 q' hT)];exact q') λc' zs q'=>by rw[bB (e9 q' hT)];exact q'
     rcases hc2 with rfl|hc2
     ·exact upH _ _ _ e q'
     ·exact upH _ _ _ hc2 q'
  obtain⟨x',y',to'⟩:=st'.to_
  refine⟨.ref s.heap.objs.size,_,I2,rfl,⟨_,x,y,hT,rfl,rfl,λxs' ys' ha' hb'=>?_⟩,⟨zz,sb.extBut _ _ n1.symm st'.ti,⟨x',y',sb.extBut _ _ n2.symm to'⟩,st'.s1.1.at λo e=>sb.extBut _ o n3.symm e,st'.s2.1.at λo e=>sb.extBut _ o n4.symm e⟩,λc hc'=>?_⟩
  ·rw[Sq.inj I ha' ha,Sq.inj I hb' hb];exact⟨hx,hy⟩
  ·obtain⟨o,e,_⟩:∃o,s.heap.get? c=some o/\True:=by
    simp only[bn8,bq9,by9]at hc'
    obtain⟨x2,y2,to2⟩:=st.to_
    obtain⟨o1,f1,_⟩:=st.s1.ob
    obtain⟨o2,f2,_⟩:=st.s2.ob
    rcases hc' with rfl|rfl|rfl|rfl|rfl
    ·exact⟨_,st.zz,trivial⟩
    ·exact⟨_,st.ti,trivial⟩
    ·exact⟨_,to2,trivial⟩
    ·exact⟨_,f1,trivial⟩
    ·exact⟨_,f2,trivial⟩
   rw[bB (br7 (bo6 e))];exact (hf c hc').1
 ·
  intro X hP hw hK hc i pins s σ H E I hf st hg
  subst hP hw hK
  obtain⟨xs,ys,ha,hb,hi⟩:=hg
  obtain⟨us,ru,pu⟩:=Sq.get I ha
  obtain⟨vs,rv,pv'⟩:=Sq.get I hb
  have fa:=off I hf ha
  have fb:=off I hf hb
  have hh:X.A.in1.handled=none:=I.ok.hd hc
  have fa':a≠i1:=λq=>fa (by rw[q];simp)
  have fb':b≠i2:=λq=>fb (by rw[q];simp)
  have D1:=hJ.draws t1 (prog:=X.prog) (w:=X.w) hh i1 a fa' us.toArray
  have D2:=hJ.draws t2 (prog:=X.prog) (w:=X.w) hh i2 b fb' vs.toArray
  have e1:=ru.length
  have e2:=rv.length
  refine Zp.fin D1 D2 (ap fa fb) (by simp only[bn9];omega) ⟨st.zz,st.ti,st.to_,⟨st.s1,pu⟩,⟨st.s2,pv'⟩⟩ λg tk kp=>⟨rfl,?_⟩
  have fpn:∀c u,H c=some u->c∉[z,TI,TO,i1,i2]:=λc u e hm=>by rw[(hf c hm).1]at e;cases e
  have upH:∀c o u,H c=some u->s.heap.get? c=some o->g.get? c=some o:=λc o u e z=>by
   have:=fpn c u e
   simp only[bn8,bq9,by9,not_or]at this
   exact kp c o this.1 this.2.2.1 this.2.2.2.1 this.2.2.2.2 z
  have ns:∀m,s.heap.Ns X.env.locals m->g.Ns X.env.locals m:=λm hm=>by
   obtain⟨o,es,ep,e1,e2⟩:=hm
   exact⟨o,es,ep,kp _ o (Ne.symm (hf z (by simp)).2.1) (Ne.symm (hf TO (by simp)).2.1) (Ne.symm (hf i1 (by simp)).2.1) (Ne.symm (hf i2 (by simp)).2.1) e1,e2⟩
  refine I.step (g':=s.gens) (d':=s.drawn) (ch:=[z,TO,i1,i2]) (λc hc'=>?_) (λc o _ _ hc' e _=>?_) (λc o _ _ hc' e _=>⟨o.slots,?_⟩) (λc o _ e n=>n) (λc o hc' e=>⟨o,?_⟩)
   (λc zs e=>e) (λc u zs e=>e) (λc ps e=>⟨#[],by rw[e];simp⟩) ns (λc u e=>?_) I.bare
  ·have hm:c∈[z,TI,TO,i1,i2]:=by
    simp only[bn8,bq9,by9]at hc' ⊢
    rcases hc' with h|h|h|h<;>simp[h]
   exact⟨(hf c hm).2.2.2.1,(hf c hm).2.1,(hf c hm).2.2.2.2.1,(hf c hm).2.2.2.2.2⟩
  ·simp only[bn8,bq9,by9,not_or]at hc'
   exact kp c o hc'.1 hc'.2.1 hc'.2.2.1 hc'.2.2.2 e
  ·simp only[bn8,bq9,by9,not_or]at hc'
   exact kp c o hc'.1 hc'.2.1 hc'.2.2.1 hc'.2.2.2 e
  ·simp only[bn8,bq9,by9,not_or]at hc'
   exact kp c o hc'.1 hc'.2.1 hc'.2.2.1 hc'.2.2.2 e
  ·refine (I.hok c u e).stay (λc' o' hc2 q'=>?_) (λ_ q'=>q') λ_ _ q'=>q'
   rcases hc2 with rfl|hc2
   ·exact upH _ _ _ e q'
   ·exact upH _ _ _ hc2 q'
abbrev aB3:=wV true true
theorem aB4 {P:Program}{w:World}{K:ad}{elts:List Expr}{k:Nat}{pos:Pos}(a b z TI TO i1 i2:Addr)(d:[z,TI,TO,i1,i2].Nodup) :
  jR P w K (.Tuple elts k pos) (wU K a b) [z,TI,TO,i1,i2] z (aB3 z TI TO i1 i2 a b):=P7 true true a b z TI TO i1 i2 d
section
variable {X:Cx}
def aB5 (K:ad)(ta:TA):TI:=λσ H R=>ta σ H λvs H1=>∃a b xs ys,vs = [.ref a,.ref b]/\aO K H1 a xs/\aO K H1 b ys/\R (wU K a b) H1
theorem aB6 {elts:List Expr}{kt:Nat}{pt:Pos}{a b:Expr}{ta:TA}{p pos:Pos}(hg:Gl X "zip")(hm:X.mg "zip" = none)(ha:PA X [a,b] ta)(hs:starEach [a,b] X.env = [(false,eval a X.env),(false,eval b X.env)]:=by rfl)(hs2:starEach [b] X.env = [(false,eval b X.env)]:=by rfl) :
  PI X (.Tuple elts kt pt) (.Call (.Name "zip" p) [a,b] [] pos) (aB5 X.K ta):=by
 intro pins s σ H R I h
 refine Call_ (kZ I hg hm PyProof.Rows.boot_zip (bv3 (aR (ha pos pins s σ H _ I h) λus s1 ⟨vs,H1,I1,r1,q1⟩=>?_) (by rw[hs,hs2]) (by rw[hs2];rfl)))
 obtain⟨a',b',xs,ys,e,h1,h2,q⟩:=q1
 subst e
 cases r1 with
 |cons r rr=>
  cases rr with
  |cons r' rr=>
   cases rr
   cases r
   cases r'
   obtain⟨us,_,p1,_⟩:=I1.tuple h1
   obtain⟨ws,_,p2,_⟩:=I1.tuple h2
   refine Zp.aB1 p1 p2 λh' z ti to s1' s2' kp=>wpAny_pyIter_zip z ?_
   have fresh:∀k,H1 (s1.heap.objs.size+k)=none:=λk=>I1.hok.fresh (bw3 _ _)
   refine⟨s1.heap.objs.size+4,[s1.heap.objs.size+4,s1.heap.objs.size+2,s1.heap.objs.size+3,s1.heap.objs.size,s1.heap.objs.size+1],_,_,H1,rfl,I1.kept (t':=s1.toks) kp,
    aB4 a' b' _ _ _ _ _ (by simp),⟨z,ti,⟨_,_,to⟩,s1',s2'⟩,λc hc=>?_,q⟩
   simp only[bn8,bq9,by9]at hc
   rcases hc with rfl|rfl|rfl|rfl|rfl
   ·exact I1.fpOk (bw3 _ _) (fresh 4)
   ·exact I1.fpOk (bw3 _ _) (fresh 2)
   ·exact I1.fpOk (bw3 _ _) (fresh 3)
   ·exact I1.fpOk (bn1 _) (fresh 0)
   ·exact I1.fpOk (bw3 _ _) (fresh 1)
theorem wW (hc:X.calm=true):dQ X (.builtin "all") (λxs H Q=>∃(a:Addr) (bs:List Bool),xs = [.ref a]/\aM X.K H a (bs.map V.bl)/\Q (.bl (bs.all id)) H):=by
 intro pins s σ H xs us Q I r h
 obtain⟨a,bs,rfl,hq,q⟩:=h
 obtain⟨u,rfl,ru⟩:=iA r
 cases ru
 obtain⟨its,rv,p,hz⟩:=I.list hq
 have hl:=rv.length
 rw[bm7]at hl
 have hlt:a<s.heap.objs.size:=by obtain⟨o,e,_⟩:=p.isList;exact bo6 e
 refine call_all_walk (wpAny_pyIter_list p.isList ?_)
 have hh:X.A.in1.handled=none:=I.ok.hd hc
 refine⟨s.heap.objs.size,_,_,_,_,_,λi=>bs.getD i false,rfl,Walks.list hh s.heap.objs.size a (br7 hlt) its.toArray,⟨⟨_,bp3 _ rfl,rfl,rfl⟩,p.isList.push _⟩,?_,λh' tk kp=>?_⟩
 ·intro i v s' Q' E' hP hQ'
  have hi:its[i]? = some v:=by simpa using hP
  have hil:i<bs.length:=by rw[hl];exact (bn2.mp hi).1
  obtain⟨u,e1,e2⟩:=rv.get (i:=i) (x:=.bl bs[i]) (by simp[hil])
  rw[hi]at e1;cases e1
  cases e2
  have:bs.getD i false=bs[i]:=by rw[bo1,bm6 hil];rfl
  have hQ2:Q' (bs.getD i false) s':=hQ'
  rw[this]at hQ2
  exact by7 hQ2
 ·have all_eq:(List.range its.toArray.size).all (λi=>bs.getD i false)=bs.all id:=by
   rw[bn9,<- hl]
   clear q rv hz hl hq hlt p hh kp
   induction bs with
   |nil=>rfl
   |cons b r ih=>
    rw[bo5,List.range_succ_eq_map,List.all_cons,List.all_map,List.all_cons,<- ih]
    rfl
  rw[all_eq]
  refine⟨.bl (bs.all id),H,I.kept (t':=tk) (h':=h') λb o e=>kp b o (λz=>?_) (bm5 _ e),rfl,q⟩
  rw[bm2.mp z]at e
  exact absurd (bo6 e) (bt5 _)
end
structure wX (H:Hp)(J:It)(n:Nat)(R:Nat->V->Hp->Prop):Prop where
 go:∀i H',aC H H'->i<n->J.go i H'
 yld:∀i H' x H2,aC H H'->J.yld i H' x H2->i<n->aC H' H2/\R i x H2
 stop:∀H',aC H H'->J.stop n H'
theorem wY {H1:Hp}{J:It}{n:Nat}{R:Nat->V->Hp->Prop}{g:TG}{tc:TT}{te:TE}{σ0:St}{Q:VK}(O:wX H1 J n R)(Pv:Nat->List V->Hp->Prop)(hn:n<=sizeLine)(h0:∀D,H1 D=none->Pv 0 [] (upd H1 D (.lst [])))(mono:∀i acc H' H2,aC H' H2->Pv i acc H'->Pv i acc H2)(hs:∀i x acc D H',i<n->R i x H'->rQ H1 D n i acc H'->Pv i acc H'->g x σ0 H' λσ2 H3=>Wk σ0 σ2/\tc σ2 H3 λb H4=>
   if b=true then te σ2 H4 λv H5=>wL H1 D n Pv i acc v H5 else N6 H1 D n Pv i acc H4)(hd:∀D acc H',H1 D=none->aC H1 H'->H' D=some (.lst acc)->acc.length<=n->Pv n acc H'->Q (.ref D) H') :
  ∀D,H1 D=none->∃W:Nat->Nat->List V->Hp->Prop,(∃m,W 0 m [] (upd H1 D (.lst [])))/\p9 g tc te σ0 J D Q W:=by
 intro D hD
 refine⟨CW H1 D n Pv,⟨n,rfl,br5 _,bn1 _,bL hD _,bP,h0 D hD⟩,?_⟩
 rintro i m acc H' ⟨rfl,hi,ha,sm,hDa,p⟩
 refine⟨hDa,?_⟩
 by_cases hlt:i<n
 ·refine .inr ⟨O.go i H' sm hlt,λx H2 y=>?_⟩
  obtain⟨s2,r2⟩:=O.yld i H' x H2 sm y hlt
  exact hs i x acc D H2 hlt r2 ⟨hlt,ha,hn,sm.trans s2,hD,s2 _ _ hDa⟩ (mono i acc H' H2 s2 p)
 ·have e:i=n:=by omega
  subst e
  exact .inl ⟨O.stop H' sm,hd D acc H' hD sm hDa ha p⟩
theorem P8 {K:ad}{H:Hp}{a b:Addr}{xs ys:List V}(ha:aO K H a xs)(hb:aO K H b ys)(hl:ys.length<=xs.length) :
  wX H (wU K a b) ys.length (λi v H2=>∃T x y,v = .ref T/\H2 T=some (.tup [x,y])/\xs[i]? = some x/\ys[i]? = some y):=by
 refine⟨λi H' sm hi=>⟨xs,ys,xs[i]'(by omega),ys[i],sm.tup ha,sm.tup hb,by simp,by simp⟩,λi H' v H2 sm y hi=>?_,λH' sm=>⟨xs,ys,sm.tup ha,sm.tup hb,by omega⟩⟩
 obtain⟨T,x,y',hT,hv,e,hxy⟩:=y
 subst e
 obtain⟨h1,h2⟩:=hxy xs ys (sm.tup ha) (sm.tup hb)
 exact⟨bL hT _,T,x,y',hv,bP,h1,h2⟩
end L2
namespace HT
open PySem PyProof.Rows
section
variable {prog:Program}{w:World}{A:Around}{E:Value→Shared→Prop}{s:Shared}
theorem aB7 {t sl:Addr}{items:Array Value}{vl vu:Value}{lo hi:Option Int}{Q:Value->Shared->Prop}(ht:IsTup s.heap t items)(hs:s.heap.IsSliceOf sl vl vu .none)(pl:IsPart vl lo)(pu:IsPart vu hi)(h1:aY items.size 0 lo=0)(h2:aY items.size items.size hi=items.size)(h:Q (.ref t) s):wpAny (model prog w) A (getItem (.ref t) (.ref sl)) Q E s:=by
 obtain⟨o,e1,e2,e3⟩:=id hs
 have T:s.TypeIs (.ref sl) "slice":=⟨o,e1,e2⟩
 unfold getItem
 try with_reducible refine by6 ?_
 first|refine bm1 (bn7 ?_)|skip
 apply bm1
 apply wpAny_sequenceKey ht.typeIs (by decide)
 apply bm1
 apply bw5 (name:=Str.ofString "__getitem__") ht.typeIs bz2
 apply bw2 bz2 ht.typeIs entry_tuple_getitem _ (args_tuple_getitem _ _)
 change wpAny _ _ (Builtin.Tuple.tupleItemsOf (.ref t) >>= _) _ _ s
 apply bm1
 apply tupleItemsOf_ ht
 apply bm1
 apply wpAny_typeOf T
 rw[if_pos (by decide)]
 apply bm1
 apply J2 hs pl pu
 rw[h1,h2]
 have yes:((((0:Nat):Int)==0&&(1:Int)==1&&(items.size-0)==items.size)=true):=by simp
 change wpAny _ _ (if ((((0:Nat):Int)==0&&(1:Int)==1&&(items.size-0)==items.size)=true) then _ else _) _ _ s
 rw[if_pos yes]
 apply bm1
 unfold Builtin.Tuple.tupleIsExact
 apply bm1
 apply wpAny_typeOf ht.typeIs
 apply bn7
 change wpAny _ _ (rule "tuple.getitem.whole" >>= λ_=>ret (Value.ref t)) _ _ s
 apply bm1
 apply bD2
 exact bn7 ⟨_,rfl,bn7 h⟩
end
end HT
namespace L2
open PySem PySem.Spec PyProof.Rows
section
variable {X:Cx}
def aB8 (K:ad):V->Option Int->Option Int->Hp->VK->Prop:=λx lo hi H Q=>∃a xs,x = .ref a/\aO K H a xs/\(∀p,H p=none->Q (.ref p) (upd H p (.tup (fB xs lo hi))))/\(fB xs lo hi=xs->Q (.ref a) H)
theorem P9:l7 X (aB8 X.K):=by
 intro pins s σ H x v vl vu lo hi sl Q I rx hs pl pu h
 obtain⟨a,xs,ex,hx,q1,q2⟩:=h
 by_cases hw:HT.aY xs.length 0 lo=0/\HT.aY xs.length xs.length hi=xs.length
 ·subst ex
  cases rx
  obtain⟨its,r,ht,hz⟩:=I.tuple hx
  have hlen:its.toArray.size=xs.length:=by rw[bn9];exact r.length.symm
  refine⟨"tuple",_,PyProof.Rows.slot_tuple_getitem.lookup,ht.typeIs,?_⟩
  refine HT.aB7 ht hs pl pu (by rw[hlen];exact hw.1) (by rw[hlen];exact hw.2) ⟨.ref a,H,I,rfl,q2 ?_⟩
  unfold fB
  rw[hw.1,hw.2]
  simp
 ·exact au8 pins s σ H x v vl vu lo hi sl Q I rx hs pl pu ⟨a,xs,ex,hx,hw,q1⟩
end
theorem wZ (xs:List V):fB xs (some 1) none=xs.drop 1:=by
 unfold fB
 have e1:HT.aY xs.length 0 (some 1)=min 1 xs.length:=HT.at9 xs.length 0 1
 have e2:HT.aY xs.length xs.length none=xs.length:=rfl
 rw[e1,e2]
 cases xs with
 |nil=>rfl
 |cons x r=>
  have:min 1 (x::r).length=1:=by simp
  rw[this]
  simp
def x3 (K:ad)(a b:Addr):It:=
  ⟨λi H=>∃xs ys x y,aM K H a xs/\aM K H b ys/\xs[i]? = some x/\ys[i]? = some y,
   λi H v H'=>∃T x y,H T=none/\v = .ref T/\H'=upd H T (.tup [x,y])/\∀xs ys,aM K H a xs->aM K H b ys->xs[i]? = some x/\ys[i]? = some y,
   λi H=>∃xs ys,aM K H a xs/\aM K H b ys/\(i=xs.length∨(i<xs.length/\i=ys.length))⟩
abbrev aB9:=wV false false
theorem aC0 {P:Program}{w:World}{K:ad}{elts:List Expr}{k:Nat}{pos:Pos}(a b z TI TO i1 i2:Addr)(d:[z,TI,TO,i1,i2].Nodup) :
  jR P w K (.Tuple elts k pos) (x3 K a b) [z,TI,TO,i1,i2] z (aB9 z TI TO i1 i2 a b):=P7 false false a b z TI TO i1 i2 d
section
variable {X:Cx}
def aC1 (K:ad)(ta:TA):TI:=λσ H R=>ta σ H λvs H1=>∃a b xs ys,vs = [.ref a,.ref b]/\aM K H1 a xs/\aM K H1 b ys/\R (x3 K a b) H1
theorem aC2 {elts:List Expr}{kt:Nat}{pt:Pos}{a b:Expr}{ta:TA}{p pos:Pos}(hg:Gl X "zip")(hm:X.mg "zip" = none)(ha:PA X [a,b] ta)(hs:starEach [a,b] X.env = [(false,eval a X.env),(false,eval b X.env)]:=by rfl)(hs2:starEach [b] X.env = [(false,eval b X.env)]:=by rfl) :
  PI X (.Tuple elts kt pt) (.Call (.Name "zip" p) [a,b] [] pos) (aC1 X.K ta):=by
 intro pins s σ H R I h
 refine Call_ (kZ I hg hm PyProof.Rows.boot_zip (bv3 (aR (ha pos pins s σ H _ I h) λus s1 ⟨vs,H1,I1,r1,q1⟩=>?_) (by rw[hs,hs2]) (by rw[hs2];rfl)))
 obtain⟨a',b',xs,ys,e,h1,h2,q⟩:=q1
 subst e
 cases r1 with
 |cons r rr=>
  cases rr with
  |cons r' rr=>
   cases rr
   cases r
   cases r'
   obtain⟨us,_,p1,_⟩:=I1.list h1
   obtain⟨ws,_,p2,_⟩:=I1.list h2
   refine call_zip_2 p1.isList p2.isList λh' z ti to s1' s2' _ kp=>wpAny_pyIter_zip z ?_
   have fresh:∀k,H1 (s1.heap.objs.size+k)=none:=λk=>I1.hok.fresh (bw3 _ _)
   refine⟨s1.heap.objs.size+4,[s1.heap.objs.size+4,s1.heap.objs.size+2,s1.heap.objs.size+3,s1.heap.objs.size,s1.heap.objs.size+1],_,_,H1,rfl,I1.kept (t':=s1.toks) kp,
    aC0 a' b' _ _ _ _ _ (by simp),⟨z,ti,⟨_,_,to⟩,s1',s2'⟩,λc hc=>?_,q⟩
   simp only[bn8,bq9,by9]at hc
   rcases hc with rfl|rfl|rfl|rfl|rfl
   ·exact I1.fpOk (bw3 _ _) (fresh 4)
   ·exact I1.fpOk (bw3 _ _) (fresh 2)
   ·exact I1.fpOk (bw3 _ _) (fresh 3)
   ·exact I1.fpOk (bn1 _) (fresh 0)
   ·exact I1.fpOk (bw3 _ _) (fresh 1)
end
theorem aC3 {K:ad}{H:Hp}{a b:Addr}{xs ys:List V}(ha:aM K H a xs)(hb:aM K H b ys)(hl:ys.length<=xs.length) :
  wX H (x3 K a b) ys.length (λi v H2=>∃T x y,v = .ref T/\H2 T=some (.tup [x,y])/\xs[i]? = some x/\ys[i]? = some y):=by
 refine⟨λi H' sm hi=>⟨xs,ys,xs[i]'(by omega),ys[i],sm.seq ha,sm.seq hb,by simp,by simp⟩,λi H' v H2 sm y hi=>?_,λH' sm=>⟨xs,ys,sm.seq ha,sm.seq hb,by omega⟩⟩
 obtain⟨T,x,y',hT,hv,e,hxy⟩:=y
 subst e
 obtain⟨h1,h2⟩:=hxy xs ys (sm.seq ha) (sm.seq hb)
 exact⟨bL hT _,T,x,y',hv,bP,h1,h2⟩
theorem aC4 (l:Addr)(items:Array Value)(n:Nat)(b:Addr)(items2:Array Value)(n2:Nat)(dd:Option Addr)(ss:Array (Option Value))(h0:¬(!items.isEmpty&&Builtin.List.listTooLong (items.size+items2.size))=true)(h1:items.size<=sizeLine)(h2:items.size+items2.size<=sizeLine+1) :
  Meets (Builtin.«list.extend» ⟨[.ref l,.ref b],[]⟩) (λ_ R s=>s.heap.get? l=some { cls:=.type "list",dict:=none,data:=.seq items n,slots:=#[] }/\s.heap.get? b=some { cls:=.type "tuple",dict:=dd,data:=.seq items2 n2,slots:=ss }/\R (.ok (.ret Value.none)) { s with heap:=s.heap.update l (Obj.mapSeq λx=>x++items2),toks:=s.toks }):=
 .of_wp λprog w A R s h=>by
  obtain⟨hp,g,d,tk,os⟩:=s;obtain⟨hl,hb,h⟩:=h;have f2:=AutoSeq1.sub_tuple_tuple;have f3:=AutoSeq1.sub_list_list;have f4:=AutoSeq1.sub_tuple_list;have f5:=AutoSeq1.sub_list_tuple
  have hz':(items++items2).size<=sizeLine+1:=by rw[Array.size_append];exact h2
  wp_walk using (wpAny_updateSeq hl rfl (hz:=h1) (_hz':=hz')),AutoSeq1.wpAny_loadPart' hl,AutoSeq1.wpAny_loadPart' hb
  exact⟨_,rfl,h⟩
def Q0 (K:ad):V->List V->Hp->VK->Prop:=λx vs H Q=>∃(l b:Addr) (xs zs:List V),x = .ref l/\vs = [.ref b]/\H l=some (.lst xs)/\aO K H b zs/\xs.length+zs.length<=sizeLine/\Q .non (upd H l (.lst (xs++zs)))
theorem aC5 {X:Cx}:lV X "list.extend" (Q0 X.K):=by
 intro pins s σ H x vs v us Q I rx rv h
 obtain⟨l,b,xs,zs,rfl,rfl,hH,hB,hz,q⟩:=h
 cases rx
 obtain⟨u,rfl,ru⟩:=rv.one
 cases ru
 obtain⟨z,its,n,r,hl,e⟩:=I.lstM hH
 obtain⟨its2,r2,⟨⟨cls,dd,data,ss⟩,e2,hc,n2,hd⟩,z2⟩:=I.tuple hB
 cases hc
 cases hd
 have hl2:=r2.length
 have hsz:its.toArray.size+its2.toArray.size<=sizeLine:=by rw[bn9,bn9];omega
 have hlong:¬(!its.toArray.isEmpty&&Builtin.List.listTooLong (its.toArray.size+its2.toArray.size))=true:=by
  rw[vY hsz,bB3]
  exact bo4
 refine call_meets F.slot_list_extend ⟨_,e,rfl⟩ F.entry_list_extend (F.args_list_extend_2 _ _)
  (aC4 l its.toArray n b its2.toArray n2 dd ss hlong (by rw[bn9];omega) (by omega)) ⟨e,e2,?_⟩
 refine⟨.non,_,I.lset (its':=its++its2) hH e (by simp) (r.append r2) ?_,rfl,q⟩
 rw[bo2]
 omega
end L2
namespace PP
open PySem L2
inductive PV where
 |non|bl (b:Bool)|int (i:Int)|str (x:Str)|tup (xs:List PV)|lst (xs:List PV)
 |dK (kvs:List (aK×PV))|dT (kvs:List (List aK×PV))|scr (ns:af)|kt (xs:List PV)|exc (c:Str)|fK (kvs:List (aK×PV))|fT (kvs:List (List aK×PV))
mutual
def flat:PV->Bool
 |.tup xs=>flats xs
 |.lst _=>false
 |.dK _=>false
 |.dT _=>false
 |.non=>true
 |.bl _=>true
 |.int _=>true
 |.str _=>true
 |.scr _=>true
 |.kt xs=>flats xs
 |.exc _=>true
 |.fK _=>false
 |.fT _=>false
def flats:List PV->Bool
 |[]=>true
 |x::r=>flat x&&flats r
end
def k9 (K:ad)(H:Hp)(a:Addr)(ns:af):Prop:=(∃o,H a=some (.frz o (.lst (ns.map V.int)))) ∨
  ∃(o:Obj) (its:Array Value) (n:Nat),K.lookup a=some o/\o.cls = .type "list"/\o.dict=none/\o.data = .seq its n/\its.size<=sizeLine/\aN (ns.map V.int) its.toList
def aC6 (K:ad)(a:Addr)(us:List V):Prop:=∃(o:Obj) (its:Array Value) (n:Nat),K.lookup a=some o/\o.cls = .type "tuple"/\o.data = .seq its n/\its.size<=sizeLine/\aN us its.toList
mutual
inductive aQ (K:ad)(M:Addr->Prop)(H:Hp):V->PV->Prop
 |non:aQ K M H .non .non
 |bl (b:Bool):aQ K M H (.bl b) (.bl b)
 |int (i:Int):aQ K M H (.int i) (.int i)
 |str (x:Str):aQ K M H (.str x) (.str x)
 |tup {a:Addr}{us:List V}{xs:List PV}:H a=some (.tup us)->Reps K M H us xs->aQ K M H (.ref a) (.tup xs)
 |lst {a:Addr}{us:List V}{xs:List PV}:M a->H a=some (.lst us)->Reps K M H us xs->aQ K M H (.ref a) (.lst xs)
 |dK {a:Addr}{kvs:List (aK×V)}{ps:List (aK×PV)}:M a->H a=some (.dK kvs)->kvs.map (·.1)=ps.map (·.1)->Reps K M H (kvs.map (·.2)) (ps.map (·.2))->aQ K M H (.ref a) (.dK ps)
 |dT {a:Addr}{kvs:List (List aK×V)}{ps:List (List aK×PV)}:M a->H a=some (.dT kvs)->kvs.map (·.1)=ps.map (·.1)->Reps K M H (kvs.map (·.2)) (ps.map (·.2))->aQ K M H (.ref a) (.dT ps)
 |scr {a:Addr}{ns:af}:k9 K H a ns->aQ K M H (.ref a) (.scr ns)
 |kt {a:Addr}{us:List V}{xs:List PV}:aC6 K a us->Reps K M H us xs->aQ K M H (.ref a) (.kt xs)
 |exc {a C:Addr}{o:Obj}{c:Str}:H a=some (.frz o (.own a))->PySem.W.nsIn K mainGlobals c=some (some (.ref C))->o.cls = .ref C->aQ K M H (.ref a) (.exc c)
 |fK {a:Addr}{o:Obj}{kvs:List (aK×V)}{ps:List (aK×PV)}:H a=some (.frz o (.dK kvs))->kvs.map (·.1)=ps.map (·.1)->Reps K M H (kvs.map (·.2)) (ps.map (·.2))->aQ K M H (.ref a) (.fK ps)
 |fT {a:Addr}{o:Obj}{kvs:List (List aK×V)}{ps:List (List aK×PV)}:H a=some (.frz o (.dT kvs))->kvs.map (·.1)=ps.map (·.1)->Reps K M H (kvs.map (·.2)) (ps.map (·.2))->aQ K M H (.ref a) (.fT ps)
inductive Reps (K:ad)(M:Addr->Prop)(H:Hp):List V->List PV->Prop
 |nil:Reps K M H [] []
 |cons {v:V}{x:PV}{vs:List V}{xs:List PV}:aQ K M H v x->Reps K M H vs xs->Reps K M H (v::vs) (x::xs)
end
structure iQ (M M':Addr->Prop)(H H':Hp):Prop where
 lst:∀a us,M a->H a=some (.lst us)->M' a/\H' a=some (.lst us)
 dK:∀a kvs,M a->H a=some (.dK kvs)->M' a/\H' a=some (.dK kvs)
 dT:∀a kvs,M a->H a=some (.dT kvs)->M' a/\H' a=some (.dT kvs)
 tup:∀a us,H a=some (.tup us)->H' a=some (.tup us)
 frz:∀a o u,H a=some (.frz o u)->H' a=some (.frz o u)
theorem k9.keep {K:ad}{H H':Hp}{a:Addr}{ns:af}(k:∀a o u,H a=some (.frz o u)->H' a=some (.frz o u))(h:k9 K H a ns):k9 K H' a ns:=
 h.elim (λ⟨o,e⟩=>.inl ⟨o,k _ _ _ e⟩) .inr
mutual
theorem aQ.keep {K:ad}{M M':Addr->Prop}{H H':Hp}(k:iQ M M' H H'):∀{v:V}{x:PV},aQ K M H v x->aQ K M' H' v x
 |_,_,.non=>.non
 |_,_,.bl b=>.bl b
 |_,_,.int i=>.int i
 |_,_,.str x=>.str x
 |_,_,.tup h r=>.tup (k.tup _ _ h) (Reps.keep k r)
 |_,_,.lst m h r=>.lst (k.lst _ _ m h).1 (k.lst _ _ m h).2 (Reps.keep k r)
 |_,_,.dK m h e r=>.dK (k.dK _ _ m h).1 (k.dK _ _ m h).2 e (Reps.keep k r)
 |_,_,.dT m h e r=>.dT (k.dT _ _ m h).1 (k.dT _ _ m h).2 e (Reps.keep k r)
 |_,_,.scr h=>.scr (h.keep k.frz)
 |_,_,.kt h r=>.kt h (Reps.keep k r)
 |_,_,.exc h e c=>.exc (k.frz _ _ _ h) e c
 |_,_,.fK h e r=>.fK (k.frz _ _ _ h) e (Reps.keep k r)
 |_,_,.fT h e r=>.fT (k.frz _ _ _ h) e (Reps.keep k r)
theorem Reps.keep {K:ad}{M M':Addr->Prop}{H H':Hp}(k:iQ M M' H H'):∀{vs:List V}{xs:List PV},Reps K M H vs xs->Reps K M' H' vs xs
 |_,_,.nil=>.nil
 |_,_,.cons r t=>.cons (aQ.keep k r) (Reps.keep k t)
end
mutual
theorem aQ.flat {K:ad}{M M':Addr->Prop}{H:Hp}{v:V}{x:PV}(f:flat x=true)(r:aQ K M H v x):aQ K M' H v x:=by
 cases r with
 |non=>exact .non
 |bl b=>exact .bl b
 |int i=>exact .int i
 |str x=>exact .str x
 |tup h r=>exact .tup h (Reps.flat (by unfold PP.flat at f;exact f) r)
 |lst m h r=>unfold PP.flat at f;cases f
 |dK m h e r=>unfold PP.flat at f;cases f
 |dT m h e r=>unfold PP.flat at f;cases f
 |scr h=>exact .scr h
 |kt h r=>exact .kt h (Reps.flat (by unfold PP.flat at f;exact f) r)
 |exc h e c=>exact .exc h e c
 |fK h e r=>unfold PP.flat at f;cases f
 |fT h e r=>unfold PP.flat at f;cases f
theorem Reps.flat {K:ad}{M M':Addr->Prop}{H:Hp}{vs:List V}{xs:List PV}(f:flats xs=true)(r:Reps K M H vs xs):Reps K M' H vs xs:=by
 cases r with
 |nil=>exact .nil
 |cons r t=>
  unfold PP.flats at f
  rw[br3]at f
  exact .cons (aQ.flat f.1 r) (Reps.flat f.2 t)
end
theorem iQ.same {M M':Addr->Prop}{H H':Hp}(s:aC H H')(m:∀a,M a->M' a):iQ M M' H H':=
 ⟨λa _ h e=>⟨m a h,s _ _ e⟩,λa _ h e=>⟨m a h,s _ _ e⟩,λa _ h e=>⟨m a h,s _ _ e⟩,λ_ _ e=>s _ _ e,λ_ _ _ e=>s _ _ e⟩
theorem aQ.same {K:ad}{M M':Addr->Prop}{H H':Hp}{v:V}{x:PV}(r:aQ K M H v x)(s:aC H H')(m:∀a,M a->M' a):aQ K M' H' v x:=r.keep (.same s m)
theorem Reps.same {K:ad}{M M':Addr->Prop}{H H':Hp}{v:List V}{x:List PV}(r:Reps K M H v x)(s:aC H H')(m:∀a,M a->M' a):Reps K M' H' v x:=r.keep (.same s m)
def kA:HO->Bool
 |.lst _=>true
 |.dK _=>true
 |.dT _=>true
 |_=>false
theorem iQ.upd {M M':Addr->Prop}{H:Hp}{a:Addr}{o o':HO}(h:H a=some o')(mu:kA o'=true)(m:∀b,M b->b≠a/\M' b):iQ M M' H (upd H a o):=
 ⟨λb _ hb e=>⟨(m b hb).2,by rw[bB (m b hb).1];exact e⟩,λb _ hb e=>⟨(m b hb).2,by rw[bB (m b hb).1];exact e⟩,λb _ hb e=>⟨(m b hb).2,by rw[bB (m b hb).1];exact e⟩,
  λb _ e=>by rw[bB (λz=>by rw[z,h]at e;cases e;cases mu)];exact e,
  λb _ _ e=>by rw[bB (λz=>by rw[z,h]at e;cases e;cases mu)];exact e⟩
theorem Reps.length {K:ad}{M:Addr->Prop}{H:Hp}:∀{vs:List V}{xs:List PV},Reps K M H vs xs->vs.length=xs.length
 |_,_,.nil=>rfl
 |_,_,.cons _ t=>congrArg (·+1) t.length
theorem Reps.get {K:ad}{M:Addr->Prop}{H:Hp}:∀{vs:List V}{xs:List PV}{i:Nat}{v:V},Reps K M H vs xs->vs[i]? = some v->∃x,xs[i]? = some x/\aQ K M H v x
 |_,_,_,_,.nil,e=>by simp at e
 |_,_,0,_,.cons r _,e=>by simp at e;subst e;exact⟨_,rfl,r⟩
 |_,_,i+1,v,.cons _ t,e=>by
  rw[bw6]at e
  obtain⟨x,h1,h2⟩:=t.get e
  exact⟨x,by rw[bw6];exact h1,h2⟩
theorem Reps.at {K:ad}{M:Addr->Prop}{H:Hp}:∀{vs:List V}{xs:List PV}{i:Nat}{x:PV},Reps K M H vs xs->xs[i]? = some x->∃v,vs[i]? = some v/\aQ K M H v x
 |_,_,_,_,.nil,e=>by simp at e
 |_,_,0,_,.cons r _,e=>by simp at e;subst e;exact⟨_,rfl,r⟩
 |_,_,i+1,v,.cons _ t,e=>by
  rw[bw6]at e
  obtain⟨x,h1,h2⟩:=t.at e
  exact⟨x,by rw[bw6];exact h1,h2⟩
theorem Reps.append {K:ad}{M:Addr->Prop}{H:Hp}:∀{vs:List V}{xs:List PV}{us:List V}{ys:List PV},Reps K M H vs xs->Reps K M H us ys->Reps K M H (vs++us) (xs++ys)
 |_,_,_,_,.nil,s=>s
 |_,_,_,_,.cons r t,s=>.cons r (t.append s)
theorem Reps.set {K:ad}{M:Addr->Prop}{H:Hp}{v:V}{x:PV}(q:aQ K M H v x):∀(i:Nat) {vs:List V}{xs:List PV},Reps K M H vs xs->Reps K M H (vs.set i v) (xs.set i x)
 |_,_,_,.nil=>.nil
 |0,_,_,.cons r t=>.cons q t
 |i+1,_,_,.cons r t=>.cons r (Reps.set q i t)
theorem Reps.take {K:ad}{M:Addr->Prop}{H:Hp}:∀(n:Nat) {vs:List V}{xs:List PV},Reps K M H vs xs->Reps K M H (vs.take n) (xs.take n)
 |0,_,_,_=>by simp;exact .nil
 |_+1,_,_,.nil=>.nil
 |n+1,_,_,.cons r t=>.cons r (Reps.take n t)
theorem Reps.drop {K:ad}{M:Addr->Prop}{H:Hp}:∀(n:Nat) {vs:List V}{xs:List PV},Reps K M H vs xs->Reps K M H (vs.drop n) (xs.drop n)
 |0,_,_,r=>r
 |_+1,_,_,.nil=>.nil
 |n+1,_,_,.cons _ t=>Reps.drop n t
abbrev intz (ns:af):List PV:=ns.map PV.int
theorem Reps.intz {K:ad}{M:Addr->Prop}{H:Hp}:∀(ns:af),Reps K M H (ns.map V.int) (intz ns)
 |[]=>.nil
 |n::r=>.cons (.int n) (Reps.intz r)
theorem Reps.ofInts {K:ad}{M:Addr->Prop}{H:Hp}:∀{ns:af}{us:List V},Reps K M H us (PP.intz ns)->us=ns.map V.int
 |[],_,.nil=>rfl
 |n::r,_,.cons q t=>by
  cases q
  rw[Reps.ofInts t];rfl
theorem eD:∀(ns:af),flats (intz ns)=true
 |[]=>rfl
 |n::r=>by show (flat (.int n)&&flats (intz r))=true;rw[eD r];rfl
inductive Tg|rd|sh|nw|fr
inductive Slot|sh (g:Bool) (x:PV)|own (x:PV)
def Slot.val:Slot->PV
 |.sh _ x=>x
 |.own x=>x
def Slot.tag:Slot->Tg
 |.sh true _=>.nw
 |.sh false _=>.sh
 |.own _=>.rd
abbrev bN:=List (Option Slot)
def Ms (H0:Hp)(W:Addr->Prop):Bool->Addr->Prop
 |false,a=>¬W a
 |true,a=>¬W a/\H0 a=none
def Mg (H0:Hp)(W:Addr->Prop)(Hs:Hp):Tg->Addr->Prop
 |.rd,_=>True
 |.sh,a=>¬W a
 |.nw,a=>¬W a/\H0 a=none
 |.fr,a=>Hs a=none
def iR (K:ad)(M:Addr->Prop)(H:Hp)(a:Addr):PV->Prop
 |.lst xs=>∃us,H a=some (.lst us)/\Reps K M H us xs
 |.dK ps=>∃kvs,H a=some (.dK kvs)/\kvs.map (·.1)=ps.map (·.1)/\Reps K M H (kvs.map (·.2)) (ps.map (·.2))
 |.dT ps=>∃kvs,H a=some (.dT kvs)/\kvs.map (·.1)=ps.map (·.1)/\Reps K M H (kvs.map (·.2)) (ps.map (·.2))
 |_=>False
def Q2 (K:ad)(H0:Hp)(W:Addr->Prop)(H:Hp)(v:V):Slot->Prop
 |.sh g x=>aQ K (Ms H0 W g) H v x
 |.own x=>∃a,v = .ref a/\W a/\iR K (Ms H0 W true) H a x
structure PX (K:ad)(H0:Hp)(W:Addr->Prop)(σ:St)(ρ:bN)(H:Hp):Prop where
 len:ρ.length=σ.length
 same:aC H0 H
 wm:∀a,W a->H0 a=none/\∃o,H a=some o/\kA o=true
 sl:∀(i:Nat) (m:Slot),ρ[i]? = some (some m)->∃v,σ[i]? = some (some v)/\Q2 K H0 W H v m
 dis:∀(i j:Nat) (x y:PV) (a:Addr),ρ[i]? = some (some (.own x))->ρ[j]? = some (some (.own y))->σ[i]? = some (some (.ref a))->σ[j]? = some (some (.ref a))->i=j
theorem iR.keep {K:ad}{M M':Addr->Prop}{H H':Hp}{a:Addr}(k:iQ M M' H H')(ha:∀o,H a=some o->H' a=some o):∀{x:PV},iR K M H a x->iR K M' H' a x
 |.lst _,⟨us,e,r⟩=>⟨us,ha _ e,r.keep k⟩
 |.dK _,⟨us,e,q,r⟩=>⟨us,ha _ e,q,r.keep k⟩
 |.dT _,⟨us,e,q,r⟩=>⟨us,ha _ e,q,r.keep k⟩
theorem iR.at {K:ad}{M:Addr->Prop}{H:Hp}{a:Addr}:∀{x:PV},iR K M H a x->∃o,H a=some o/\kA o=true
 |.lst _,⟨us,e,r⟩=>⟨_,e,rfl⟩
 |.dK _,⟨us,e,q,r⟩=>⟨_,e,rfl⟩
 |.dT _,⟨us,e,q,r⟩=>⟨_,e,rfl⟩
theorem iR.rep {K:ad}{M M':Addr->Prop}{H:Hp}{a:Addr}(m:∀b,M b->M' b)(ha:M' a):∀{x:PV},iR K M H a x->aQ K M' H (.ref a) x
 |.lst _,⟨us,e,r⟩=>.lst ha e (r.same (aC.refl _) m)
 |.dK _,⟨us,e,q,r⟩=>.dK ha e q (r.same (aC.refl _) m)
 |.dT _,⟨us,e,q,r⟩=>.dT ha e q (r.same (aC.refl _) m)
section
variable {K:ad}{H0:Hp}{W W':Addr→Prop}{σ:St}{ρ:bN}{H H':Hp}
theorem PX.mono (p:PX K H0 W σ ρ H)(s:aC H H'):PX K H0 W σ ρ H':=by
 refine⟨p.len,p.same.trans s,λa h=>⟨(p.wm a h).1,let ⟨o,e,m⟩:=(p.wm a h).2;⟨o,s _ _ e,m⟩⟩,λi m h=>?_,p.dis⟩
 obtain⟨v,e,r⟩:=p.sl i m h
 refine⟨v,e,?_⟩
 cases m with
 |sh g x=>exact aQ.same r s λ_ z=>z
 |own x=>
  obtain⟨a,e1,e2,r⟩:=r
  exact⟨a,e1,e2,r.keep (.same s λ_ z=>z) λ_ z=>s _ _ z⟩
theorem PX.new (p:PX K H0 W σ ρ H){a:Addr}(h:H a=none):¬W a/\H0 a=none:=
 ⟨λz=>(by obtain⟨_,o,e,_⟩:=p.wm a z;rw[h]at e;cases e),p.same.free h⟩
theorem Mg.back {g:Tg}{H1:Hp}(s:aC H H1){a:Addr}(h:Mg H0 W H1 g a):Mg H0 W H g a:=by
 cases g with
 |fr=>exact s.free h
 |rd=>exact h
 |sh=>exact h
 |nw=>exact h
end
abbrev PK:=PV->Tg->Prop
abbrev aH:=bN->PK->Prop
abbrev cN:=bN->(Bool->Prop)->Prop
abbrev cU:=bN->(List (PV×Tg)->Prop)->Prop
inductive iF (K:ad)(H0:Hp)(W:Addr->Prop)(Hs H:Hp):List V->List (PV×Tg)->Prop
 |nil:iF K H0 W Hs H [] []
 |cons {v:V}{x:PV}{g:Tg}{vs:List V}{xs:List (PV×Tg)}:aQ K (Mg H0 W Hs g) H v x->iF K H0 W Hs H vs xs->iF K H0 W Hs H (v::vs) ((x,g)::xs)
def rW (K:ad)(H0:Hp)(W:Addr->Prop)(H:Hp)(Q:PK)(Q':VK):Prop:=∀v H' x g,aC H H'->aQ K (Mg H0 W H g) H' v x->Q x g->Q' v H'
def LE (X:Cx)(t:aH):TE:=λσ H Q'=>∃(W:Addr->Prop) (ρ:bN) (Q:PK),PX X.K X.H₀ W σ ρ H/\t ρ Q/\rW X.K X.H₀ W H Q Q'
def LT (X:Cx)(t:cN):TT:=λσ H Q'=>∃(W:Addr->Prop) (ρ:bN) (Q:Bool->Prop),PX X.K X.H₀ W σ ρ H/\t ρ Q/\∀b H',aC H H'->Q b->Q' b H'
def LA (X:Cx)(t:cU):TA:=λσ H Q'=>∃(W:Addr->Prop) (ρ:bN) (Q:List (PV×Tg)->Prop),PX X.K X.H₀ W σ ρ H/\t ρ Q/\∀vs H' xs,aC H H'->iF X.K X.H₀ W H H' vs xs->Q xs->Q' vs H'
theorem iF.same {K:ad}{H0:Hp}{W:Addr->Prop}{Hs Hs' H H':Hp}(s:aC H H')(b:aC Hs' Hs):∀{vs:List V}{xs:List (PV×Tg)},iF K H0 W Hs H vs xs->iF K H0 W Hs' H' vs xs
 |_,_,.nil=>.nil
 |_,_,.cons r t=>.cons (r.same s λ_ z=>Mg.back b z) (t.same s b)
theorem iF.any {K:ad}{H0:Hp}{W:Addr->Prop}{Hs H:Hp}:∀{vs:List V}{xs:List (PV×Tg)},iF K H0 W Hs H vs xs->Reps K (λ_=>True) H vs (xs.map (·.1))
 |_,_,.nil=>.nil
 |_,_,.cons r t=>.cons (r.same (aC.refl _) λ_ _=>trivial) t.any
def Nw:Tg->PV->Prop
 |.fr,_=>True
 |.nw,_=>True
 |_,x=>flat x=true
def nH (xs:List (PV×Tg)):Prop:=∀p∈xs,Nw p.2 p.1
section
variable {K:ad}{H0 Hs H:Hp}{W:Addr→Prop}{σ:St}{ρ:bN}
theorem Nw.rep {g:Tg}{x:PV}{v:V}(px:PX K H0 W σ ρ Hs)(n:Nw g x)(r:aQ K (Mg H0 W Hs g) H v x):aQ K (Ms H0 W true) H v x:=by
 cases g with
 |fr=>exact r.same (aC.refl _) λa z=>px.new z
 |nw=>exact r.same (aC.refl _) λa z=>z
 |sh=>exact r.flat n
 |rd=>exact r.flat n
theorem nH.reps {vs:List V}:∀{xs:List (PV×Tg)}{vs:List V},PX K H0 W σ ρ Hs->nH xs->iF K H0 W Hs H vs xs->Reps K (Ms H0 W true) H vs (xs.map (·.1))
 |_,_,px,n,.nil=>.nil
 |_,_,px,n,.cons r t=>.cons (Nw.rep px (n _ bm8) r) (nH.reps (vs:=vs) px (λp hp=>n p (bn5 _ hp)) t)
theorem Q3 {v:V}{m:Slot}(r:Q2 K H0 W H v m):aQ K (Mg H0 W Hs m.tag) H v m.val:=by
 cases m with
 |sh g x=>
  cases g with
  |true=>exact aQ.same r (aC.refl _) λ_ z=>z
  |false=>exact aQ.same r (aC.refl _) λ_ z=>z
 |own x=>
  obtain⟨a,rfl,_,r⟩:=r
  exact r.rep (λ_ _=>trivial) trivial
end
section
variable {X:Cx}{σ:St}{H:Hp}{Q':VK}{ta tb:aH}
def a5 (i:Nat):aH:=λρ Q=>∃m,ρ[i]? = some (some m)/\Q m.val m.tag
def qC (x:PV):aH:=λ_ Q=>Q x .fr
theorem aC7 {i:Nat}(h:LE X (a5 i) σ H Q'):j4 i σ H Q':=by
 obtain⟨W,ρ,Q,px,⟨m,e,q⟩,k⟩:=h
 obtain⟨v,ev,r⟩:=px.sl i m e
 exact⟨v,ev,k v H _ _ (aC.refl _) (Q3 r) q⟩
theorem rX {x:PV}{v:V}(hr:∀M,aQ X.K M H v x)(h:LE X (qC x) σ H Q'):tC v σ H Q':=by
 obtain⟨W,ρ,Q,px,q,k⟩:=h
 exact k v H _ _ (aC.refl _) (hr _) q
def eV (X:Cx)(R:PV->Tg->PV->Tg->PK->Prop)(r:R2):Prop:=∀(W:Addr->Prop) (Hs H:Hp) (u v:V) (x y:PV) (g g':Tg) (Q:PK) (Q':VK),aC Hs H->
 (∀a,Hs a=none->¬W a/\X.H₀ a=none)->aQ X.K (Mg X.H₀ W Hs g) H u x->aQ X.K (Mg X.H₀ W Hs g') H v y->R x g y g' Q->(∀w H' z gz,aC H H'->aQ X.K (Mg X.H₀ W Hs gz) H' w z->Q z gz->Q' w H')->r u v H Q'
def q2 (R:PV->Tg->PV->Tg->PK->Prop)(ta tb:aH):aH:=λρ Q=>ta ρ λx g=>tb ρ λy g'=>R x g y g' Q
theorem rY {R:PV->Tg->PV->Tg->PK->Prop}{r:R2}(c:eV X R r)(h:LE X (q2 R ta tb) σ H Q'):oP r (LE X ta) (LE X tb) σ H Q':=by
 obtain⟨W,ρ,Q,px,q,k⟩:=h
 refine⟨W,ρ,_,px,q,λu H1 x g s1 r1 q1=>⟨W,ρ,_,px.mono s1,q1,λv H2 y g' s2 r2 q2=>?_⟩⟩
 exact c W H H2 u v x y g g' Q Q' (s1.trans s2) (λa z=>px.new z) (r1.same s2 λ_ z=>z) (r2.same (aC.refl _) λ_ z=>Mg.back s1 z) q2 λw H' z gz s3 r3 q3=>k w H' z gz ((s1.trans s2).trans s3) r3 q3
def RI (C:Int->Int->Prop)(f:Int->Int->PV):PV->Tg->PV->Tg->PK->Prop:=λx _ y _ Q=>∃i j,x = .int i/\y = .int j/\C i j/\Q (f i j) .fr
def gQ (f:Int->Int->PV):PV->Tg->PV->Tg->PK->Prop:=λx _ y _ Q=>∃i j,x = .int i/\y = .int j/\Q (f i j) .fr
theorem rZ {C:Int->Int->Prop}{f:Int->Int->Int}:eV X (RI C λi j=>.int (f i j)) (rI C λi j=>.int (f i j)):=by
 rintro W Hs H u v x y g g' Q Q' s n r1 r2 ⟨i,j,rfl,rfl,c,q⟩ k
 cases r1;cases r2
 exact⟨i,j,rfl,rfl,c,k _ _ _ _ (aC.refl _) (.int _) q⟩
theorem Q4 {f:Int->Int->Int}:eV X (gQ λi j=>.int (f i j)) (jS λi j=>.int (f i j)):=by
 rintro W Hs H u v x y g g' Q Q' s n r1 r2 ⟨i,j,rfl,rfl,q⟩ k
 cases r1;cases r2
 exact⟨i,j,rfl,rfl,k _ _ _ _ (aC.refl _) (.int _) q⟩
theorem pG {f:Int->Int->Bool}:eV X (gQ λi j=>.bl (f i j)) (jS λi j=>.bl (f i j)):=by
 rintro W Hs H u v x y g g' Q Q' s n r1 r2 ⟨i,j,rfl,rfl,q⟩ k
 cases r1;cases r2
 exact⟨i,j,rfl,rfl,k _ _ _ _ (aC.refl _) (.bl _) q⟩
def lZ (neg:Bool):PV->Tg->PV->Tg->PK->Prop:=λx _ y _ Q=>(∃i j,x = .int i/\y = .int j/\Q (.bl (if neg=true then !decide (i=j) else decide (i=j))) .fr)∨(∃i j,x = .bl i/\y = .bl j/\Q (.bl (if neg=true then !decide (i=j) else decide (i=j))) .fr)
theorem Q5 (i j:Int):decide (V.int i=V.int j)=decide (i=j):=by
 rw[bw0,bq1,bq1];exact⟨λz=>V.int.inj z,λz=>congrArg V.int z⟩
theorem Q6 (i j:Bool):decide (V.bl i=V.bl j)=decide (i=j):=by
 rw[bw0,bq1,bq1];exact⟨λz=>V.bl.inj z,λz=>congrArg V.bl z⟩
theorem Q7:eV X (lZ false) E9:=by
 rintro W Hs H u v x y g g' Q Q' s n r1 r2 (⟨i,j,rfl,rfl,q⟩|⟨i,j,rfl,rfl,q⟩) k
 ·cases r1;cases r2
  exact⟨rfl,by rw[Q5];exact k _ _ _ _ (aC.refl _) (.bl _) q⟩
 ·cases r1;cases r2
  exact⟨rfl,by rw[Q6];exact k _ _ _ _ (aC.refl _) (.bl _) q⟩
theorem aC8:eV X (lZ true) vJ:=by
 rintro W Hs H u v x y g g' Q Q' s n r1 r2 (⟨i,j,rfl,rfl,q⟩|⟨i,j,rfl,rfl,q⟩) k
 ·cases r1;cases r2
  exact⟨rfl,by rw[Q5];exact k _ _ _ _ (aC.refl _) (.bl _) q⟩
 ·cases r1;cases r2
  exact⟨rfl,by rw[Q6];exact k _ _ _ _ (aC.refl _) (.bl _) q⟩
def bH (t:aH):cN:=λρ Q=>t ρ λx _=>∃b,x = .bl b/\Q b
theorem sA {t:aH}{Q':Bool->Hp->Prop}(h:LT X (bH t) σ H Q'):LE X t σ H λx H'=>∃k,x = .bl k/\Q' k H':=by
 obtain⟨W,ρ,Q,px,q,k⟩:=h
 refine⟨W,ρ,_,px,q,?_⟩
 rintro v H1 x g s r ⟨b,rfl,q⟩
 cases r
 exact⟨b,rfl,k _ _ s q⟩
def nI (t u:cN):cN:=λρ Q=>t ρ λc=>if c=true then u ρ Q else Q false
def sB (t u:cN):cN:=λρ Q=>t ρ λc=>if c=true then Q true else u ρ Q
def nJ (t:cN):cN:=λρ Q=>t ρ λc=>Q (!c)
variable {t u:cN}{Qb:Bool→Hp→Prop}
theorem aC9 (h:LT X (nI t u) σ H Qb):B9 (LT X t) (LT X u) σ H Qb:=by
 obtain⟨W,ρ,Q,px,q,k⟩:=h
 refine⟨W,ρ,_,px,q,λb H1 s1 q1=>?_⟩
 cases b with
 |true=>exact bJ ⟨W,ρ,Q,px.mono s1,by simpa using q1,λb H2 s2 q2=>k _ _ (s1.trans s2) q2⟩
 |false=>exact bG (k _ _ s1 (by simpa using q1))
theorem aD0 (h:LT X (sB t u) σ H Qb):C0 (LT X t) (LT X u) σ H Qb:=by
 obtain⟨W,ρ,Q,px,q,k⟩:=h
 refine⟨W,ρ,_,px,q,λb H1 s1 q1=>?_⟩
 cases b with
 |false=>exact bG ⟨W,ρ,Q,px.mono s1,by simpa using q1,λb H2 s2 q2=>k _ _ (s1.trans s2) q2⟩
 |true=>exact bJ (k _ _ s1 (by simpa using q1))
theorem aD1 (h:LT X (nJ t) σ H Qb):C1 (LT X t) σ H Qb:=by
 obtain⟨W,ρ,Q,px,q,k⟩:=h
 exact⟨W,ρ,_,px,q,λb H1 s1 q1=>k _ _ s1 q1⟩
def sC (ta tb:aH):aH:=λρ Q=>ta ρ λx _=>∃c,x = .bl c/\if c=true then tb ρ Q else Q (.bl false) .fr
theorem rW.back {K:ad}{H0:Hp}{W:Addr->Prop}{H H1:Hp}{Q:PK}(k:rW K H0 W H Q Q')(s:aC H H1):rW K H0 W H1 Q Q':=λv H' x g s' r q=>k v H' x g (s.trans s') (r.same (aC.refl _) λ_ z=>Mg.back s z) q
theorem aD2 (h:LE X (sC ta tb) σ H Q'):C2 (LE X ta) (LE X tb) σ H Q':=by
 obtain⟨W,ρ,Q,px,q,k⟩:=h
 refine⟨W,ρ,_,px,q,?_⟩
 rintro v H1 x g s1 r ⟨c,rfl,q⟩
 cases r
 refine⟨c,rfl,?_⟩
 cases c with
 |true=>exact bJ ⟨W,ρ,Q,px.mono s1,by simpa using q,k.back s1⟩
 |false=>exact bG (k _ _ _ _ s1 (.bl _) (by simpa using q))
def a9:cU:=λ_ Q=>Q []
def a7 (te:aH)(tr:cU):cU:=λρ Q=>te ρ λx g=>tr ρ λxs=>Q ((x,g)::xs)
variable {Qa:List V→Hp→Prop}{tr:cU}
theorem aD3 (h:LA X a9 σ H Qa):jT σ H Qa:=by
 obtain⟨W,ρ,Q,px,q,k⟩:=h
 exact k _ _ _ (aC.refl _) .nil q
theorem aD4 (h:LA X (a7 ta tr) σ H Qa):iM (LE X ta) (LA X tr) σ H Qa:=by
 obtain⟨W,ρ,Q,px,q,k⟩:=h
 refine⟨W,ρ,_,px,q,λv H1 x g s1 r1 q1=>⟨W,ρ,_,px.mono s1,q1,λvs H2 xs s2 r2 q2=>?_⟩⟩
 exact k _ _ _ (s1.trans s2) (.cons (r1.same s2 λ_ z=>z) (r2.same (aC.refl _) s1)) q2
def x4 (t:cU):aH:=λρ Q=>t ρ λxs=>xs.length<=1000/\nH xs/\Q (.tup (xs.map (·.1))) .nw
def gR (t:cU):aH:=λρ Q=>t ρ λxs=>xs.length<=1000/\flats (xs.map (·.1))=true/\Q (.tup (xs.map (·.1))) .fr
def eW (t:cU):aH:=λρ Q=>t ρ λxs=>xs.length<=1000/\flats (xs.map (·.1))=true/\Q (.lst (xs.map (·.1))) .fr
theorem iF.length {K:ad}{H0:Hp}{W:Addr->Prop}{Hs H:Hp}:∀{vs:List V}{xs:List (PV×Tg)},iF K H0 W Hs H vs xs->vs.length=xs.length
 |_,_,.nil=>rfl
 |_,_,.cons _ t=>congrArg (·+1) t.length
theorem sD {n:Nat}(h:n<=1000):n<=sizeLine:=bt9 (p6 h)
theorem aD5 (h:LE X (x4 tr) σ H Q'):vM (LA X tr) σ H Q':=by
 obtain⟨W,ρ,Q,px,q,k⟩:=h
 refine⟨W,ρ,_,px,q,?_⟩
 rintro vs H1 xs s1 r ⟨hl,n,q⟩
 refine⟨by rw[r.length];exact sD hl,λp hp=>k _ _ _ .nw (s1.trans (bL hp _)) (.tup bP ?_) q⟩
 exact (nH.reps (vs:=vs) px n r).same (bL hp _) λ_ z=>z
theorem aD6 (h:LE X (gR tr) σ H Q'):vM (LA X tr) σ H Q':=by
 obtain⟨W,ρ,Q,px,q,k⟩:=h
 refine⟨W,ρ,_,px,q,?_⟩
 rintro vs H1 xs s1 r ⟨hl,n,q⟩
 refine⟨by rw[r.length];exact sD hl,λp hp=>k _ _ _ .fr (s1.trans (bL hp _)) (.tup bP ?_) q⟩
 exact (r.any.flat n).same (bL hp _) λ_ z=>z
theorem aD7 (h:LE X (eW tr) σ H Q'):G1 (LA X tr) σ H Q':=by
 obtain⟨W,ρ,Q,px,q,k⟩:=h
 refine⟨W,ρ,_,px,q,?_⟩
 rintro vs H1 xs s1 r ⟨hl,n,q⟩
 refine⟨by rw[r.length];exact sD hl,λp hp=>k _ _ _ .fr (s1.trans (bL hp _)) (.lst (s1.free hp) bP ?_) q⟩
 exact (r.any.flat n).same (bL hp _) λ_ z=>z
def gS (X:Cx)(R:List PV->(PV->Prop)->Prop)(r:List V->Hp->VK->Prop):Prop:=∀(H:Hp) (vs:List V) (xs:List PV) (Q:PV->Prop) (Q':VK),Reps X.K (λ_=>True) H vs xs->R xs Q->
 (∀w H' z,aC H H'->aQ X.K (λa=>H a=none) H' w z->Q z->Q' w H')->r vs H Q'
def aB (R:List PV->(PV->Prop)->Prop)(t:cU):aH:=λρ Q=>t ρ λxs=>R (xs.map (·.1)) λz=>Q z .fr
theorem Q8 {R:List PV->(PV->Prop)->Prop}{r:List V->Hp->VK->Prop}(c:gS X R r)(h:LE X (aB R tr) σ H Q'):vQ r (LA X tr) σ H Q':=by
 obtain⟨W,ρ,Q,px,q,k⟩:=h
 refine⟨W,ρ,_,px,q,λvs H1 xs s1 r1 q1=>c H1 vs _ _ Q' r1.any q1 λw H' z s2 r2 q2=>k w H' z .fr (s1.trans s2) (r2.same (aC.refl _) λ_ z=>s1.free z) q2⟩
end
structure kB where
 nx:bN->Prop
 rt:PV->Prop
 bk:bN->Prop:=λ_=>False
 ct:bN->Prop:=λ_=>False
abbrev aT:=kB->bN->Prop
def Ev (W:Addr->Prop)(H:Hp)(W':Addr->Prop)(H':Hp):Prop:=∀b o,H b=some o->¬W b->H' b=some o/\¬W' b
theorem Ev.trans {W W1 W2:Addr->Prop}{H H1 H2:Hp}(a:Ev W H W1 H1)(b:Ev W1 H1 W2 H2):Ev W H W2 H2:=λc o h n=>let ⟨h1,n1⟩:=a c o h n;b c o h1 n1
theorem Ev.same {W:Addr->Prop}{H H':Hp}(s:aC H H'):Ev W H W H':=λc o h n=>⟨s _ _ h,n⟩
theorem Ev.refl (W:Addr->Prop)(H:Hp):Ev W H W H:=Ev.same (aC.refl _)
structure sE (X:Cx)(W:Addr->Prop)(H:Hp)(D':kB)(D:eR):Prop where
 nx:∀W' σ' H' ρ',Ev W H W' H'->PX X.K X.H₀ W' σ' ρ' H'->D'.nx ρ'->D.nx σ' H'
 rt:∀v H' x,aC X.H₀ H'->aQ X.K (λa=>X.H₀ a=none) H' v x->D'.rt x->D.rt v H'
 bk:∀W' σ' H' ρ',Ev W H W' H'->PX X.K X.H₀ W' σ' ρ' H'->D'.bk ρ'->D.bk σ' H'
 ct:∀W' σ' H' ρ',Ev W H W' H'->PX X.K X.H₀ W' σ' ρ' H'->D'.ct ρ'->D.ct σ' H'
theorem sE.step {X:Cx}{W W1:Addr->Prop}{H H1:Hp}{D':kB}{D:eR}(k:sE X W H D' D)(e:Ev W H W1 H1):sE X W1 H1 D' D:=
 ⟨λW' σ' H' ρ' e'=>k.nx W' σ' H' ρ' (e.trans e'),k.rt,λW' σ' H' ρ' e'=>k.bk W' σ' H' ρ' (e.trans e'),λW' σ' H' ρ' e'=>k.ct W' σ' H' ρ' (e.trans e')⟩
def LS (X:Cx)(t:aT):TS:=λD σ H=>∃(W:Addr->Prop) (ρ:bN) (D':kB),PX X.K X.H₀ W σ ρ H/\t D' ρ/\sE X W H D' D
theorem hV {α:Type}{l:List α}{i j:Nat}{a b:α}(h:(l.set i a)[j]? = some b):(j=i/\i<l.length/\b=a)∨(j≠i/\l[j]? = some b):=by
 by_cases e:j=i
 ·subst e
  have hl:j<(l.set j a).length:=(bn2.mp h).1
  rw[bs5]at hl
  rw[bu0 hl]at h
  exact .inl ⟨rfl,hl,(bo9 h).symm⟩
 ·rw[bq7 (Ne.symm e)]at h
  exact .inr ⟨e,h⟩
section
variable {K:ad}{H0:Hp}{W W':Addr→Prop}{σ:St}{ρ:bN}{H H' Hs:Hp}
theorem PX.setSh {i:Nat}{v:V}{g:Bool}{x:PV}(p:PX K H0 W σ ρ H)(r:aQ K (Ms H0 W g) H v x):PX K H0 W (σ.set i (some v)) (ρ.set i (some (.sh g x))) H:=by
 refine⟨by rw[bs5,bs5];exact p.len,p.same,p.wm,λj m h=>?_,λj k y z a h1 h2 h3 h4=>?_⟩
 ·rcases hV h with⟨rfl,hl,e⟩|⟨hne,h⟩
  ·cases e
   rw[p.len]at hl
   exact⟨v,bu0 hl,r⟩
  ·obtain⟨u,e,q⟩:=p.sl j m h
   exact⟨u,by rw[bq7 (Ne.symm hne)];exact e,q⟩
 ·rcases hV h1 with⟨_,_,e⟩|⟨n1,h1⟩
  ·cases e
  ·rcases hV h2 with⟨_,_,e⟩|⟨n2,h2⟩
   ·cases e
   ·rw[bq7 (Ne.symm n1)]at h3
    rw[bq7 (Ne.symm n2)]at h4
    exact p.dis j k y z a h1 h2 h3 h4
def nK (W:Addr->Prop)(a:Addr):Addr->Prop:=λb=>W b∨b=a
theorem x5 {g:Bool}{a b:Addr}(n:b≠a)(h:Ms H0 W g b):Ms H0 (nK W a) g b:=by
 cases g with
 |true=>exact⟨λz=>z.elim h.1 n,h.2⟩
 |false=>exact λz=>z.elim h n
theorem PX.setOwn {i:Nat}{a:Addr}{x:PV}(p:PX K H0 W σ ρ Hs)(s:aC Hs H)(ha:Hs a=none)(r:iR K (Ms H0 (nK W a) true) H a x):PX K H0 (nK W a) (σ.set i (some (.ref a))) (ρ.set i (some (.own x))) H:=by
 have old:∀b o,Hs b=some o->b≠a:=λb o e z=>by rw[z,ha]at e;cases e
 have kp:∀g,iQ (Ms H0 W g) (Ms H0 (nK W a) g) Hs H:=λg=>⟨λb _ m e=>⟨x5 (old _ _ e) m,s _ _ e⟩,λb _ m e=>⟨x5 (old _ _ e) m,s _ _ e⟩,λb _ m e=>⟨x5 (old _ _ e) m,s _ _ e⟩,λ_ _ e=>s _ _ e,λ_ _ _ e=>s _ _ e⟩
 have wa:¬W a:=(p.new ha).1
 refine⟨by rw[bs5,bs5];exact p.len,p.same.trans s,λb z=>?_,λj m h=>?_,λj k y z b h1 h2 h3 h4=>?_⟩
 ·rcases z with z|rfl
  ·obtain⟨h1,o,h2,h3⟩:=p.wm b z
   exact⟨h1,o,s _ _ h2,h3⟩
  ·exact⟨(p.new ha).2,r.at⟩
 ·rcases hV h with⟨rfl,hl,e⟩|⟨hne,h⟩
  ·cases e
   rw[p.len]at hl
   exact⟨_,bu0 hl,a,rfl,.inr rfl,r⟩
  ·obtain⟨u,e,q⟩:=p.sl j m h
   refine⟨u,by rw[bq7 (Ne.symm hne)];exact e,?_⟩
   cases m with
   |sh g y=>exact aQ.keep (kp g) q
   |own y=>
    obtain⟨b,e1,e2,q⟩:=q
    exact⟨b,e1,.inl e2,q.keep (kp true) λo z=>s _ _ z⟩
 ·have ne:∀{j:Nat}{y:PV},ρ[j]? = some (some (.own y))->σ[j]?≠some (some (.ref a)):=λ{j y} h1 h2=>by
   obtain⟨u,e,c,e1,e2,_⟩:=p.sl j _ h1
   rw[h2]at e
   cases e
   cases e1
   exact wa e2
  rcases hV h1 with⟨e1,l1,_⟩|⟨n1,h1⟩
  ·rcases hV h2 with⟨e2,_,_⟩|⟨n2,h2⟩
   ·rw[e1,e2]
   ·rw[e1,bu0 (by rw[<- p.len];exact l1)]at h3
    rw[bq7 (Ne.symm n2)]at h4
    cases h3
    exact absurd h4 (ne h2)
  ·rw[bq7 (Ne.symm n1)]at h3
   rcases hV h2 with⟨e2,l2,_⟩|⟨n2,h2⟩
   ·rw[e2,bu0 (by rw[<- p.len];exact l2)]at h4
    cases h4
    exact absurd h3 (ne h1)
   ·rw[bq7 (Ne.symm n2)]at h4
    exact p.dis j k y z b h1 h2 h3 h4
theorem Ev.own {a:Addr}(s:aC Hs H)(ha:Hs a=none):Ev W Hs (nK W a) H:=λb o e n=>⟨s _ _ e,λz=>z.elim n λz=>by rw[z,ha]at e;cases e⟩
theorem m3 {g:Bool}{a b:Addr}(wa:W a)(h:Ms H0 W g b):b≠a:=by
 cases g with
 |true=>exact λz=>h.1 (by rw[z];exact wa)
 |false=>exact λz=>h (by rw[z];exact wa)
theorem PX.updOwn {i:Nat}{a:Addr}{x y:PV}{o:HO}(p:PX K H0 W σ ρ H)(hi:ρ[i]? = some (some (.own x)))(ha:σ[i]? = some (some (.ref a)))(wa:W a)(mu:kA o=true)(r:iR K (Ms H0 W true) (upd H a o) a y) :
  PX K H0 W σ (ρ.set i (some (.own y))) (upd H a o):=by
 obtain⟨w0,o',e',mu'⟩:=p.wm a wa
 have kp:∀g,iQ (Ms H0 W g) (Ms H0 W g) H (upd H a o):=λg=>.upd e' mu' λb m=>⟨m3 wa m,m⟩
 refine⟨by rw[bs5];exact p.len,λb u e=>by rw[bB (λz=>by rw[z,w0]at e;cases e)];exact p.same _ _ e,λb z=>?_,λj m h=>?_,λj k y' z b h1 h2 h3 h4=>?_⟩
 ·by_cases e:b=a
  ·subst e;exact⟨w0,o,bP,mu⟩
  ·obtain⟨h1,o2,h2,h3⟩:=p.wm b z
   exact⟨h1,o2,by rw[bB e];exact h2,h3⟩
 ·rcases hV h with⟨rfl,hl,e⟩|⟨hne,h⟩
  ·cases e
   exact⟨_,ha,a,rfl,wa,r⟩
  ·obtain⟨u,e,q⟩:=p.sl j m h
   refine⟨u,e,?_⟩
   cases m with
   |sh g y=>exact aQ.keep (kp g) q
   |own y=>
    obtain⟨b,e1,e2,q⟩:=q
    have hb:b≠a:=λz=>by
     subst e1
     rw[z]at e
     exact hne (p.dis j i _ _ a h hi e ha)
    exact⟨b,e1,e2,q.keep (kp true) λo z=>by rw[bB hb];exact z⟩
 ·have g1:∃y,ρ[j]? = some (some (.own y)):=by
   rcases hV h1 with⟨e,_,_⟩|⟨_,h⟩
   ·exact⟨x,by rw[e];exact hi⟩
   ·exact⟨_,h⟩
  have g2:∃y,ρ[k]? = some (some (.own y)):=by
   rcases hV h2 with⟨e,_,_⟩|⟨_,h⟩
   ·exact⟨x,by rw[e];exact hi⟩
   ·exact⟨_,h⟩
  obtain⟨y1,g1⟩:=g1
  obtain⟨y2,g2⟩:=g2
  exact p.dis j k y1 y2 b g1 g2 h3 h4
theorem Ev.upd {a:Addr}{o:HO}(wa:W a):Ev W H W (upd H a o):=λb u e n=>⟨by rw[bB (λz=>n (by rw[z];exact wa))];exact e,n⟩
def pH (W:Addr->Prop)(a:Addr):Addr->Prop:=λb=>W b/\b≠a
theorem x6 {g:Bool}{a b:Addr}(h:Ms H0 W g b):Ms H0 (pH W a) g b:=by
 cases g with
 |true=>exact⟨λz=>h.1 z.1,h.2⟩
 |false=>exact λz=>h z.1
theorem PX.freeze {i:Nat}{a:Addr}{x:PV}(p:PX K H0 W σ ρ H)(hi:ρ[i]? = some (some (.own x)))(ha:σ[i]? = some (some (.ref a))):PX K H0 (pH W a) σ (ρ.set i (some (.sh true x))) H:=by
 obtain⟨v,ev,a',e1,wa,r⟩:=p.sl i _ hi
 rw[ha]at ev
 cases ev
 cases e1
 refine⟨by rw[bs5];exact p.len,p.same,λb z=>p.wm b z.1,λj m h=>?_,λj k y' z b h1 h2 h3 h4=>?_⟩
 ·rcases hV h with⟨rfl,hl,e⟩|⟨hne,h⟩
  ·cases e
   exact⟨_,ha,r.rep (M':=Ms H0 (pH W a) true) (λb m=>x6 (g:=true) m) (show Ms H0 (pH W a) true a from ⟨λz=>z.2 rfl,(p.wm a wa).1⟩)⟩
  ·obtain⟨u,e,q⟩:=p.sl j m h
   refine⟨u,e,?_⟩
   cases m with
   |sh g y=>exact aQ.same q (aC.refl _) λ_ m=>x6 m
   |own y=>
    obtain⟨b,e1,e2,q⟩:=q
    have hb:b≠a:=λz=>by
     subst e1
     rw[z]at e
     exact hne (p.dis j i _ _ a h hi e ha)
    exact⟨b,e1,⟨e2,hb⟩,q.keep (.same (aC.refl _) λ_ m=>x6 m) λ_ z=>z⟩
 ·rcases hV h1 with⟨_,_,e⟩|⟨_,h1⟩
  ·cases e
  ·rcases hV h2 with⟨_,_,e⟩|⟨_,h2⟩
   ·cases e
   ·exact p.dis j k _ _ b h1 h2 h3 h4
theorem Ev.off {a:Addr}:Ev W H (pH W a) H:=λb u e n=>⟨e,λz=>n z.1⟩
end
section
variable {X:Cx}{σ:St}{H:Hp}{D:eR}{te:aH}{t u:aT}
def dA:aT:=λD ρ=>D.nx ρ
def aE (t u:aT):aT:=λD ρ=>t { D with nx:=u D } ρ
theorem aD8 (h:LS X dA D σ H):C3 D σ H:=by
 obtain⟨W,ρ,D',px,q,k⟩:=h
 exact k.nx W σ H ρ (Ev.refl _ _) px q
theorem aD9 (h:LS X (aE t u) D σ H):C4 (LS X t) (LS X u) D σ H:=by
 obtain⟨W,ρ,D',px,q,k⟩:=h
 exact⟨W,ρ,_,px,q,λW' σ' H' ρ' e px' q'=>⟨W',ρ',D',px',q',k.step e⟩,k.rt,k.bk,k.ct⟩
def x8:Tg->PV->Bool
 |.fr,_=>true
 |.nw,_=>true
 |_,x=>flat x
def sF:Tg->PV->Prop
 |.rd,x=>flat x=true
 |_,_=>True
theorem Q9 {K:ad}{H0 Hs H:Hp}{W:Addr->Prop}{σ:St}{ρ:bN}{g:Tg}{x:PV}{v:V}(px:PX K H0 W σ ρ Hs)(n:sF g x)(r:aQ K (Mg H0 W Hs g) H v x):aQ K (Ms H0 W (x8 g x)) H v x:=by
 cases g with
 |fr=>exact Nw.rep (g:=.fr) px trivial r
 |nw=>exact Nw.rep (g:=.nw) px trivial r
 |sh=>
  show aQ K (Ms H0 W (flat x)) H v x
  cases e:flat x with
  |true=>exact r.flat e
  |false=>exact r.same (aC.refl _) λ_ z=>z
 |rd=>exact r.flat n
def b8 (i:Nat)(te:aH):aT:=λD ρ=>te ρ λx g=>sF g x/\D.nx (ρ.set i (some (.sh (x8 g x) x)))
theorem sG {i:Nat}(h:LS X (b8 i te) D σ H):jQ (LE X te) (cD i) D σ H:=by
 obtain⟨W,ρ,D',px,q,k⟩:=h
 refine⟨W,ρ,_,px,q,?_⟩
 rintro v H1 x g s r ⟨n,q⟩
 exact k.nx W _ H1 _ (Ev.same s) ((px.mono s).setSh (Q9 px n r)) q
def R3:PV->Bool
 |.lst xs=>flats xs
 |.dK ps=>flats (ps.map (·.2))
 |.dT ps=>flats (ps.map (·.2))
 |_=>false
theorem aE0 {K:ad}{M:Addr->Prop}{H:Hp}{v:V}{x:PV}(r:aQ K M H v x)(o:R3 x=true):∃a,v = .ref a/\M a/\∀M',iR K M' H a x:=by
 cases r with
 |lst m e r=>exact⟨_,rfl,m,λ_=>⟨_,e,r.flat o⟩⟩
 |dK m e q r=>exact⟨_,rfl,m,λ_=>⟨_,e,q,r.flat o⟩⟩
 |dT m e q r=>exact⟨_,rfl,m,λ_=>⟨_,e,q,r.flat o⟩⟩
 |_=>cases o
def dS (i:Nat)(te:aH):aT:=λD ρ=>te ρ λx g=>g = .fr/\R3 x=true/\D.nx (ρ.set i (some (.own x)))
theorem R4 {i:Nat}(h:LS X (dS i te) D σ H):jQ (LE X te) (cD i) D σ H:=by
 obtain⟨W,ρ,D',px,q,k⟩:=h
 refine⟨W,ρ,_,px,q,?_⟩
 rintro v H1 x g s r ⟨rfl,o,q⟩
 obtain⟨a,rfl,m,w⟩:=aE0 r o
 exact k.nx _ _ H1 _ (Ev.own s m) (px.setOwn s m (w _)) q
def pI (i:Nat)(t:aT):aT:=λD ρ=>∃x,ρ[i]? = some (some (.own x))/\t D (ρ.set i (some (.sh true x)))
theorem aE1 {i:Nat}(h:LS X (pI i t) D σ H):LS X t D σ H:=by
 obtain⟨W,ρ,D',px,⟨x,hi,q⟩,k⟩:=h
 obtain⟨v,ev,a,rfl,wa,r⟩:=px.sl i _ hi
 exact⟨_,_,D',px.freeze hi ev,q,k.step Ev.off⟩
def bV (te:aH):aT:=λD ρ=>te ρ λx g=>Nw g x/\D.rt x
theorem aE2 (h:LS X (bV te) D σ H):vA (LE X te) D σ H:=by
 obtain⟨W,ρ,D',px,q,k⟩:=h
 refine⟨W,ρ,_,px,q,?_⟩
 rintro v H1 x g s r ⟨n,q⟩
 exact k.rt v H1 x (px.same.trans s) ((Nw.rep px n r).same (aC.refl _) λ_ z=>z.2) q
def Slot.nw:Slot->Prop
 |.own _=>True
 |.sh true _=>True
 |.sh false x=>flat x=true
def j6 (i:Nat):aT:=λD ρ=>∃m,ρ[i]? = some (some m)/\m.nw/\D.rt m.val
theorem aE3 {i:Nat}(h:LS X (j6 i) D σ H):vA (j4 i) D σ H:=by
 obtain⟨W,ρ,D',px,⟨m,hi,n,q⟩,k⟩:=h
 obtain⟨v,ev,r⟩:=px.sl i _ hi
 refine⟨v,ev,k.rt v H _ px.same ?_ q⟩
 cases m with
 |own x=>
  obtain⟨a,rfl,wa,r⟩:=r
  exact r.rep (λ_ z=>z.2) (px.wm a wa).1
 |sh g x=>
  cases g with
  |true=>exact aQ.same r (aC.refl _) λ_ z=>z.2
  |false=>exact aQ.flat n r
def dB (c:cN)(t u:aT):aT:=λD ρ=>c ρ λb=>if b=true then t D ρ else u D ρ
theorem aE4 {c:cN}(h:LS X (dB c t u) D σ H):C5 (LT X c) (LS X t) (LS X u) D σ H:=by
 obtain⟨W,ρ,D',px,q,k⟩:=h
 refine⟨W,ρ,_,px,q,λb H1 s q1=>?_⟩
 cases b with
 |true=>exact bJ ⟨W,ρ,D',px.mono s,by simpa using q1,k.step (Ev.same s)⟩
 |false=>exact bG ⟨W,ρ,D',px.mono s,by simpa using q1,k.step (Ev.same s)⟩
def m5 (c:cN)(tb:aT):aT:=λD ρ=>∃I:Nat->bN->Prop,(∃m,I m ρ)/\∀m ρ',I m ρ'->c ρ' λb=>if b=true then tb { D with nx:=λρ2=>∃m',m'<m/\I m' ρ2,ct:=λρ2=>∃m',m'<m/\I m' ρ2,bk:=D.nx } ρ' else D.nx ρ'
theorem aE5 {c:cN}{tb:aT}(h:LS X (m5 c tb) D σ H):C8 (LT X c) (LS X tb) D σ H:=by
 obtain⟨W,ρ,D',px,⟨I,⟨m0,i0⟩,turn⟩,k⟩:=h
 refine⟨λm σ2 H2=>∃W2 ρ2,PX X.K X.H₀ W2 σ2 ρ2 H2/\Ev W H W2 H2/\I m ρ2,⟨m0,W,ρ,px,Ev.refl _ _,i0⟩,?_⟩
 rintro m σ2 H2 ⟨W2,ρ2,px2,e2,i2⟩
 refine⟨W2,ρ2,_,px2,turn m ρ2 i2,λb H3 s3 q3=>?_⟩
 cases b with
 |true=>
  refine bJ ⟨λσ4 H4=>∃W4 ρ4,PX X.K X.H₀ W4 σ4 ρ4 H4/\Ev W H W4 H4/\∃m',m'<m/\I m' ρ4,λσ4 H4 ⟨W4,ρ4,a,b,m',c,d⟩=>⟨m',c,W4,ρ4,a,b,d⟩,W2,ρ2,_,px2.mono s3,by simpa using q3,?_⟩
  have e3:Ev W H W2 H3:=e2.trans (Ev.same s3)
  exact⟨λW' σ' H' ρ' e p q=>⟨W',ρ',p,e3.trans e,q⟩,k.rt,λW' σ' H' ρ' e p q=>k.nx W' σ' H' ρ' (e3.trans e) p q,λW' σ' H' ρ' e p q=>⟨W',ρ',p,e3.trans e,q⟩⟩
 |false=>exact bG (k.nx W2 σ2 H3 ρ2 (e2.trans (Ev.same s3)) (px2.mono s3) (by simpa using q3))
end
theorem lim {n:Nat}(h:n<=16000000):n<=sizeLine:=bt9 (iE h)
theorem aQ.sqT {K:ad}{M:Addr->Prop}{H:Hp}{v:V}{xs:List PV}(r:aQ K M H v (.tup xs)):∃a us,v = .ref a/\H a=some (.tup us)/\Reps K M H us xs:=by
 cases r with
 |tup e r=>exact⟨_,_,rfl,e,r⟩
theorem aQ.sqL {K:ad}{M:Addr->Prop}{H:Hp}{v:V}{xs:List PV}(r:aQ K M H v (.lst xs)):∃a us,v = .ref a/\M a/\H a=some (.lst us)/\Reps K M H us xs:=by
 cases r with
 |lst m e r=>exact⟨_,_,rfl,m,e,r⟩
theorem k9.sqL {K:ad}{H:Hp}{a:Addr}{ns:af}(h:k9 K H a ns):aM K H a (ns.map V.int):=h.elim (λz=>.inl (.inr z)) .inr
def j7:PV->Option (List PV)
 |.tup xs=>some xs
 |.lst xs=>some xs
 |.scr ns=>some (intz ns)
 |.kt xs=>some xs
 |_=>none
theorem aQ.seq {K:ad}{M:Addr->Prop}{H:Hp}{v:V}{x:PV}{xs:List PV}(r:aQ K M H v x)(e:j7 x=some xs):∃a us,v = .ref a/\(aM K H a us∨aO K H a us)/\Reps K M H us xs:=by
 cases r with
 |tup h r=>cases e;exact⟨_,_,rfl,.inr (aO.of h),r⟩
 |lst m h r=>cases e;exact⟨_,_,rfl,.inl (aM.of h),r⟩
 |scr h=>cases e;exact⟨_,_,rfl,.inl h.sqL,Reps.intz _⟩
 |kt h r=>cases e;exact⟨_,_,rfl,.inr (.inr h),r⟩
 |_=>cases e
section
variable {X:Cx}{σ:St}{H:Hp}{D:eR}{te ti to:aH}{t u:aT}{Q':VK}
theorem _root_.PP.PX.updL {K:ad}{H0:Hp}{W:Addr->Prop}{σ:St}{ρ:bN}{H:Hp}{i:Nat}{a:Addr}{x:PV}{us:List V}{ys:List PV}(p:PX K H0 W σ ρ H)(hi:ρ[i]? = some (some (.own x)))(ha:σ[i]? = some (some (.ref a)))(wa:W a)(r:Reps K (Ms H0 W true) (upd H a (.lst us)) us ys) :
  PX K H0 W σ (ρ.set i (some (.own (.lst ys)))) (upd H a (.lst us)):=p.updOwn hi ha wa rfl (y:=.lst ys) ⟨us,bP,r⟩
def gT (i:Nat)(te:aH):aT:=λD ρ=>∃xs,ρ[i]? = some (some (.own (.lst xs)))/\te ρ λx g=>Nw g x/\xs.length<16000000/\D.nx (ρ.set i (some (.own (.lst (xs++[x])))))
theorem aE6 {i:Nat}(h:LS X (gT i te) D σ H):qX (oY X.K "list" K6 (j4 i) (iM (LE X te) jT)) D σ H:=by
 obtain⟨W,ρ,D',px,⟨xs,hi,q⟩,k⟩:=h
 obtain⟨v,ev,a,rfl,wa,us,ea,r⟩:=px.sl i _ hi
 refine⟨_,ev,k7 (aM.of ea),W,ρ,_,px,q,?_⟩
 rintro w H1 x g s rx ⟨n,hl,q⟩
 have ea1:=s _ _ ea
 refine⟨a,us,w,rfl,rfl,ea1,iE (by rw[r.length];omega),?_⟩
 refine k.nx W σ _ _ ((Ev.same s).trans (Ev.upd wa)) ((px.mono s).updL hi ev wa ?_) q
 exact ((r.same s λ_ z=>z).append (.cons (Nw.rep px n rx) .nil)).keep (.upd ea1 rfl λb m=>⟨m3 wa m,m⟩)
def R5 (K:ad):V->List V->Hp->VK->Prop:=λx vs H Q=>K7 x vs H Q∨Q0 K x vs H Q
def x9 (i:Nat)(te:aH):aT:=λD ρ=>∃xs,ρ[i]? = some (some (.own (.lst xs)))/\te ρ λy g=>∃ys,(y = .tup ys∨y = .lst ys)/\(Nw g y∨flats ys=true)/\xs.length+ys.length<=16000000/\D.nx (ρ.set i (some (.own (.lst (xs++ys)))))
theorem aE7 {i:Nat}(h:LS X (x9 i te) D σ H):qX (oY X.K "list" (R5 X.K) (j4 i) (iM (LE X te) jT)) D σ H:=by
 obtain⟨W,ρ,D',px,⟨xs,hi,q⟩,k⟩:=h
 obtain⟨v,ev,a,rfl,wa,us,ea,r⟩:=px.sl i _ hi
 refine⟨_,ev,k7 (aM.of ea),W,ρ,_,px,q,?_⟩
 rintro w H1 y g s ry ⟨ys,hy,n,hl,q⟩
 have ea1:=s _ _ ea
 have key:∀(zs:List V),Reps X.K (Ms X.H₀ W true) H1 zs ys->D.nx σ (upd H1 a (.lst (us++zs))):=λzs rz=>by
  refine k.nx W σ _ _ ((Ev.same s).trans (Ev.upd wa)) ((px.mono s).updL hi ev wa ?_) q
  exact ((r.same s λ_ z=>z).append rz).keep (.upd ea1 rfl λb m=>⟨m3 wa m,m⟩)
 have lr:=r.length
 rcases hy with rfl|rfl
 ·obtain⟨b,zs,rfl,eb,rz⟩:=ry.sqT
  have lz:=rz.length
  refine .inr ⟨a,b,us,zs,rfl,rfl,ea1,aO.of eb,lim (by omega),key zs ?_⟩
  rcases n with n|n
  ·obtain⟨b',zs',e1,e2,rz'⟩:=(Nw.rep px n ry).sqT
   cases e1;rw[eb]at e2;cases e2;exact rz'
  ·exact rz.flat n
 ·obtain⟨b,zs,rfl,_,eb,rz⟩:=ry.sqL
  have lz:=rz.length
  refine .inl ⟨a,b,us,zs,rfl,rfl,ea1,eb,lim (by omega),key zs ?_⟩
  rcases n with n|n
  ·obtain⟨b',zs',e1,_,e2,rz'⟩:=(Nw.rep px n ry).sqL
   cases e1;rw[eb]at e2;cases e2;exact rz'
  ·exact rz.flat n
def lB (i:Nat)(tk te:aH):aT:=λD ρ=>te ρ λx g=>∃xs,ρ[i]? = some (some (.own (.lst xs)))/\tk ρ λy _=>∃n j,y = .int n/\fX xs.length n=some j/\Nw g x/\D.nx (ρ.set i (some (.own (.lst (xs.set j x)))))
theorem aE8 {i:Nat}{tk:aH}(h:LS X (lB i tk te) D σ H):jQ (LE X te) (vC (j4 i) (LE X tk) vW) D σ H:=by
 obtain⟨W,ρ,D',px,q,k⟩:=h
 refine⟨W,ρ,_,px,q,?_⟩
 rintro w H1 x g s rx ⟨xs,hi,q1⟩
 obtain⟨v,ev,a,rfl,wa,us,ea,r⟩:=(px.mono s).sl i _ hi
 refine⟨_,ev,W,ρ,_,px.mono s,q1,?_⟩
 rintro kv H2 y gy s2 ry ⟨n,j,rfl,hj,nw,q2⟩
 cases ry
 have ea2:=s2 _ _ ea
 refine⟨a,us,n,j,rfl,rfl,ea2,by rw[r.length];exact hj,?_⟩
 refine k.nx W σ _ _ ((Ev.same (s.trans s2)).trans (Ev.upd wa)) ((px.mono (s.trans s2)).updL hi ev wa ?_) q2
 exact (Reps.set ((Nw.rep px nw rx).same s2 λ_ z=>z) j (r.same s2 λ_ z=>z)).keep (.upd ea2 rfl λb m=>⟨m3 wa m,m⟩)
def xA (i j:Nat):aT:=λD ρ=>∃xs y,ρ[i]? = some (some (.own (.lst (xs++[y]))))/\D.nx ((ρ.set i (some (.own (.lst xs)))).set j (some (.sh true y)))
theorem Reps.snoc_inv {K:ad}{M:Addr->Prop}{H:Hp}{us:List V}{xs:List PV}{y:PV}(r:Reps K M H us (xs++[y])):∃vs v,us=vs++[v]/\Reps K M H vs xs/\aQ K M H v y:=by
 have l:=r.length
 have h1:=r.take xs.length
 have h2:=r.drop xs.length
 rw[List.take_left]at h1
 rw[List.drop_left]at h2
 generalize hd:us.drop xs.length=ds at h2
 cases h2 with
 |cons q t=>
  cases t
  exact⟨_,_,by rw[<- hd,br2],h1,q⟩
theorem aE9 {i j:Nat}(h:LS X (xA i j) D σ H):jQ (K4 X.K "list" K8 (j4 i)) (cD j) D σ H:=by
 obtain⟨W,ρ,D',px,⟨xs,y,hi,q⟩,k⟩:=h
 obtain⟨v,ev,a,rfl,wa,us,ea,r⟩:=px.sl i _ hi
 obtain⟨vs,w,rfl,r1,ry⟩:=r.snoc_inv
 refine⟨_,ev,k7 (aM.of ea),a,_,w,rfl,rfl,ea,by simp,?_⟩
 rw[List.dropLast_concat]
 have kp:iQ (Ms X.H₀ W true) (Ms X.H₀ W true) H (upd H a (.lst vs)):=.upd ea rfl λb m=>⟨m3 wa m,m⟩
 exact k.nx W _ _ _ (Ev.upd wa) ((px.updL hi ev wa (r1.keep kp)).setSh (ry.keep kp)) q
end
theorem Reps.atI {K:ad}{M:Addr->Prop}{H:Hp}{us:List V}{xs:List PV}{i:Int}{z:PV}(r:Reps K M H us xs)(h:L2.atI xs i=some z):∃v,L2.atI us i=some v/\aQ K M H v z:=by
 unfold L2.atI at h ⊢
 rw[r.length]
 cases e:fX xs.length i with
 |none=>rw[e]at h;cases h
 |some j=>rw[e]at h;exact r.at h
section
variable {X:Cx}{σ:St}{H:Hp}{Q':VK}{ta tb te:aH}{tr:cU}
def xB:PV->Tg->PV->Tg->PK->Prop:=λx g y _ Q=>∃xs i z,j7 x=some xs/\y = .int i/\L2.atI xs i=some z/\Q z g
theorem aF0:eV X xB (K0 X.K):=by
 rintro W Hs H u v x y g g' Q Q' s n r1 r2 ⟨xs,i,z,e,rfl,hz,q⟩ k
 cases r2
 obtain⟨a,us,rfl,hs,r⟩:=r1.seq e
 obtain⟨v,hv,rv⟩:=r.atI hz
 rcases hs with hs|hs
 ·exact .inl ⟨a,us,i,v,rfl,rfl,hs,hv,k v H z g (aC.refl _) rv q⟩
 ·exact .inr (.inl ⟨a,us,i,v,rfl,rfl,hs,hv,k v H z g (aC.refl _) rv q⟩)
def xC:PV->Option Nat
 |.tup xs=>some xs.length
 |.lst xs=>some xs.length
 |.scr ns=>some ns.length
 |.dK ps=>some ps.length
 |.kt xs=>some xs.length
 |_=>none
def dM:List PV->(PV->Prop)->Prop:=λxs Q=>∃x n,xs = [x]/\xC x=some n/\Q (.int n)
theorem Reps.one {K:ad}{M:Addr->Prop}{H:Hp}{vs:List V}{x:PV}(r:Reps K M H vs [x]):∃v,vs = [v]/\aQ K M H v x:=by
 cases r with
 |cons r t=>cases t;exact⟨_,rfl,r⟩
theorem Reps.two {K:ad}{M:Addr->Prop}{H:Hp}{vs:List V}{x y:PV}(r:Reps K M H vs [x,y]):∃v w,vs = [v,w]/\aQ K M H v x/\aQ K M H w y:=by
 cases r with
 |cons r t=>
  obtain⟨w,rfl,q⟩:=t.one
  exact⟨_,_,rfl,r,q⟩
theorem aF1:gS X dM (λxs H Q=>(∃p ys,xs = [.ref p]/\(aM X.K H p ys∨aO X.K H p ys)/\Q (.int ys.length) H)∨∃a kvs,xs = [V.ref a]/\H a=some (.dK kvs)/\Q (.int kvs.length) H):=by
 rintro H vs xs Q Q' r ⟨x,n,rfl,e,q⟩ k
 obtain⟨v,rfl,r1⟩:=r.one
 have fin:∀{m:Nat},m=n->Q' (.int m) H:=λ{m} z=>by rw[z];exact k _ _ _ (aC.refl _) (.int _) q
 cases r1 with
 |tup h r2=>cases e;exact .inl ⟨_,_,rfl,.inr (aO.of h),fin r2.length⟩
 |lst m h r2=>cases e;exact .inl ⟨_,_,rfl,.inl (aM.of h),fin r2.length⟩
 |scr h=>cases e;exact .inl ⟨_,_,rfl,.inl h.sqL,fin (by rw[bm7])⟩
 |kt h r2=>cases e;exact .inl ⟨_,_,rfl,.inr (.inr h),fin r2.length⟩
 |dK m h e' r=>
  cases e
  refine .inr ⟨_,_,rfl,h,fin ?_⟩
  have:=congrArg List.length e'
  rw[bm7,bm7]at this
  exact this
 |_=>cases e
def seqT:PV->Option (List PV)
 |.kt _=>none
 |x=>j7 x
def R6:List PV->(PV->Prop)->Prop:=λxs Q=>∃x ys,xs = [x]/\seqT x=some ys/\flats ys=true/\Q (.tup ys)
theorem aF2:gS X (λxs Q=>R6 xs Q/\∀ns,xs≠[.scr ns]) (λxs H Q=>∃p ys,xs = [.ref p]/\((aM X.K H p ys/\∀l,H l=none->Q (.ref l) (upd H l (.tup ys)))∨(aO X.K H p ys/\Q (.ref p) H))):=by
 rintro H vs xs Q Q' r ⟨⟨x,ys,rfl,e,f,q⟩,nsc⟩ k
 obtain⟨v,rfl,r1⟩:=r.one
 cases r1 with
 |tup h r2=>cases e;exact⟨_,_,rfl,.inr ⟨aO.of h,k _ _ _ (aC.refl _) (.tup h (r2.flat f)) q⟩⟩
 |lst m h r2=>cases e;exact⟨_,_,rfl,.inl ⟨aM.of h,λl hl=>k _ _ _ (bL hl _) (.tup bP ((r2.flat f).same (bL hl _) λ_ z=>z)) q⟩⟩
 |scr h=>exact absurd rfl (nsc _)
 |_=>cases e
def sH:List PV->(PV->Prop)->Prop:=λxs Q=>∃ns,xs = [.lst (intz ns)]/\ns.length<64/\∀ms:af,ms.Perm ns->ms.Pairwise (· <= ·)->Q (.lst (intz ms))
theorem aF3:gS X sH (O6 X.K):=by
 rintro H vs xs Q Q' r ⟨ns,rfl,hl,q⟩ k
 obtain⟨v,rfl,r1⟩:=r.one
 obtain⟨a,us,rfl,_,h,r2⟩:=r1.sqL
 obtain rfl:=r2.ofInts
 exact⟨a,ns,rfl,aM.of h,hl,λl ms hl' p o=>k _ _ _ (bL hl' _) (.lst hl' bP (Reps.intz ms)) (q ms p o)⟩
def xD:List PV->(PV->Prop)->Prop:=λxs Q=>∃bs:List Bool,xs = [.lst (bs.map PV.bl)]/\Q (.bl (bs.all id))
theorem Reps.ofBls {K:ad}{M:Addr->Prop}{H:Hp}:∀{ns:List Bool}{us:List V},Reps K M H us (ns.map PV.bl)->us=ns.map V.bl
 |[],_,.nil=>rfl
 |n::r,_,.cons q t=>by
  cases q
  rw[Reps.ofBls t];rfl
theorem aF4:gS X xD (λxs H Q=>∃(a:Addr) (bs:List Bool),xs = [.ref a]/\aM X.K H a (bs.map V.bl)/\Q (.bl (bs.all id)) H):=by
 rintro H vs xs Q Q' r ⟨bs,rfl,q⟩ k
 obtain⟨v,rfl,r1⟩:=r.one
 obtain⟨a,us,rfl,_,h,r2⟩:=r1.sqL
 obtain rfl:=r2.ofBls
 exact⟨a,bs,rfl,aM.of h,k _ _ _ (aC.refl _) (.bl _) q⟩
def nL:List PV->(PV->Prop)->Prop:=λxs Q=>∃i j,xs = [.int i,.int j]/\Q (.int (if j<i then j else i))
def m6:List PV->(PV->Prop)->Prop:=λxs Q=>∃i j,xs = [.int i,.int j]/\Q (.int (if j>i then j else i))
theorem aF5:gS X nL (λxs H Q=>∃i j,xs = [.int i,.int j]/\Q (.int (if j<i then j else i)) H):=by
 rintro H vs xs Q Q' r ⟨i,j,rfl,q⟩ k
 obtain⟨v,w,rfl,r1,r2⟩:=r.two
 cases r1;cases r2
 exact⟨i,j,rfl,k _ _ _ (aC.refl _) (.int _) q⟩
theorem aF6:gS X m6 (λxs H Q=>∃i j,xs = [.int i,.int j]/\Q (.int (if j>i then j else i)) H):=by
 rintro H vs xs Q Q' r ⟨i,j,rfl,q⟩ k
 obtain⟨v,w,rfl,r1,r2⟩:=r.two
 cases r1;cases r2
 exact⟨i,j,rfl,k _ _ _ (aC.refl _) (.int _) q⟩
abbrev bI:=List PV->(PV->Prop)->Prop
def pJ (K:ad)(p:bI):Sp:=λvs H Q _=>∃xs Qp,Reps K (λ_=>True) H vs xs/\p xs Qp/\∀v H' x,aC H H'->aQ K (λa=>H a=none) H' v x->Qp x->Q v H'
theorem aF7 {p:bI}{E:XK}(h:LE X (aB p tr) σ H Q'):vO (pJ X.K p) [] E (LA X tr) σ H Q':=by
 obtain⟨W,ρ,Q,px,q,k⟩:=h
 refine⟨W,ρ,_,px,q,λvs H1 xs s1 r1 q1=>⟨_,_,by rw[bs1];exact r1.any,q1,λv H' x s2 r2 q2=>k v H' x .fr (s1.trans s2) (r2.same (aC.refl _) λ_ z=>s1.free z) q2⟩⟩
def aF8:PV->Option Bool
 |.non=>some false
 |.bl b=>some b
 |.int i=>some (i != 0)
 |.tup xs=>some (!xs.isEmpty)
 |.lst xs=>some (!xs.isEmpty)
 |.dK ps=>some (!ps.isEmpty)
 |_=>none
def kC (t:aH):cN:=λρ Q=>t ρ λx _=>∃b,aF8 x=some b/\Q b
theorem xE {α β:Type}:∀{l:List α}{m:List β},l.length=m.length->l.isEmpty=m.isEmpty
 |[],[],_=>rfl
 |_::_,_::_,_=>rfl
theorem aF9 {t:aH}{Qb:Bool->Hp->Prop}(h:LT X (kC t) σ H Qb):LE X t σ H λx H'=>∃k,vL X.K x H' k/\Qb k H':=by
 obtain⟨W,ρ,Q,px,q,k⟩:=h
 refine⟨W,ρ,_,px,q,?_⟩
 rintro v H1 x g s r ⟨b,e,q⟩
 refine⟨b,?_,k _ _ s q⟩
 cases r with
 |non=>cases e;rfl
 |bl b=>cases e;rfl
 |int i=>cases e;rfl
 |str x=>cases e
 |tup h r=>cases e;exact .inr (.inl ⟨_,aO.of h,by rw[xE r.length]⟩)
 |lst m h r=>cases e;exact .inl ⟨_,aM.of h,by rw[xE r.length]⟩
 |dK m h e' r=>
  cases e
  refine .inr (.inr ⟨_,h,?_⟩)
  have:=congrArg List.length e'
  rw[bm7,bm7]at this
  rw[xE this]
 |dT m h e' r=>cases e
 |scr h=>cases e
 |kt h r=>cases e
 |exc h e' c=>cases e
 |fK h e' r=>cases e
 |fT h e' r=>cases e
def sI:PV->Bool
 |.non=>true
 |_=>false
def xF (neg:Bool):PV->Tg->PV->Tg->PK->Prop:=λx _ y _ Q=>y = .non/\Q (.bl (if neg=true then !sI x else sI x)) .fr
theorem aG0 {K:ad}{M:Addr->Prop}{H:Hp}{v:V}{x:PV}(r:aQ K M H v x):decide (v = .non)=sI x:=by
 cases r<;>rfl
theorem aG1:eV X (xF false) (λx y H Q=>y = .non/\Q (.bl (decide (x = .non))) H):=by
 rintro W Hs H u v x y g g' Q Q' s n r1 r2 ⟨rfl,q⟩ k
 cases r2
 exact⟨rfl,by rw[aG0 r1];exact k _ _ _ _ (aC.refl _) (.bl _) q⟩
end
structure sJ (K:ad)(H0:Hp)(W:Addr->Prop)(g:Bool)(H1:Hp)(J:It)(xs:List PV):Prop where
 go:∀W' H' i,Ev W H1 W' H'->i<xs.length->J.go i H'
 yld:∀W' H' i v H2,Ev W H1 W' H'->J.yld i H' v H2->i<xs.length->aC H' H2/\∃x,xs[i]? = some x/\aQ K (Ms H0 W' g) H2 v x
 stop:∀W' H',Ev W H1 W' H'->J.stop xs.length H'
abbrev g6:=bN->(List PV->Bool->Prop)->Prop
def LI (X:Cx)(t:g6):TI:=λσ H R=>∃(W:Addr->Prop) (ρ:bN) (Q:List PV->Bool->Prop),PX X.K X.H₀ W σ ρ H/\t ρ Q/\∀J H1 xs g,aC H H1->sJ X.K X.H₀ W g H1 J xs->Q xs g->R J H1
theorem Ev.keep {H0:Hp}{W W':Addr->Prop}{H H':Hp}{g:Bool}(e:Ev W H W' H')(tw:∀a,W a->∃o,H a=some o/\kA o=true):iQ (Ms H0 W g) (Ms H0 W' g) H H':=by
 have m:∀{a:Addr}{o:HO},Ms H0 W g a->H a=some o->Ms H0 W' g a/\H' a=some o:=λ{a o} z h=>by
  cases g with
  |true=>
   obtain⟨h1,h2⟩:=e a _ h z.1
   exact⟨⟨h2,z.2⟩,h1⟩
  |false=>
   obtain⟨h1,h2⟩:=e a _ h z
   exact⟨h2,h1⟩
 refine⟨λa _ z h=>m z h,λa _ z h=>m z h,λa _ z h=>m z h,λa _ h=>(e a _ h λz=>?_).1,λa _ _ h=>(e a _ h λz=>?_).1⟩
 ·obtain⟨o,h',mu⟩:=tw a z;rw[h]at h';cases h';cases mu
 ·obtain⟨o,h',mu⟩:=tw a z;rw[h]at h';cases h';cases mu
section
variable {X:Cx}{σ:St}{H:Hp}{te:aH}{tr:cU}{R:It→Hp→Prop}
def R7 (K:ad)(tl:TE):TI:=λσ H R=>tl σ H λx H1=>∃a,x = .ref a/\((∃xs,aM K H1 a xs/\R (mZ K a) H1)∨(∃xs,aO K H1 a xs/\R (l6 K a) H1))
def xG:Tg->List PV->Bool
 |.fr,_=>true
 |.nw,_=>true
 |_,xs=>flats xs
def cO (te:aH):g6:=λρ Q=>te ρ λx g=>∃xs,j7 x=some xs/\(g = .rd->flat x=true)/\Q xs (xG g xs)
theorem R8 {K:ad}{H0:Hp}{W:Addr->Prop}{g:Bool}{H1:Hp}{a:Addr}{us:List V}{xs:List PV}(tw:∀a,W a->∃o,H1 a=some o/\kA o=true)(ha:∀W' H',Ev W H1 W' H'->aM K H' a us)(r:Reps K (Ms H0 W g) H1 us xs):sJ K H0 W g H1 (mZ K a) xs:=by
 have lr:=r.length
 refine⟨λW' H' i e hi=>⟨us,us[i]'(by omega),ha W' H' e,by simp⟩,λW' H' i v H2 e y hi=>?_,λW' H' e=>⟨us,ha W' H' e,by omega⟩⟩
 obtain⟨rfl,y⟩:=y
 obtain⟨x,hx,rx⟩:=r.get (y us (ha W' _ e))
 exact⟨aC.refl _,x,hx,rx.keep (e.keep tw)⟩
theorem R9 {K:ad}{H0:Hp}{W:Addr->Prop}{g:Bool}{H1:Hp}{a:Addr}{us:List V}{xs:List PV}(tw:∀a,W a->∃o,H1 a=some o/\kA o=true)(ha:∀W' H',Ev W H1 W' H'->aO K H' a us)(r:Reps K (Ms H0 W g) H1 us xs):sJ K H0 W g H1 (l6 K a) xs:=by
 have lr:=r.length
 refine⟨λW' H' i e hi=>⟨us,us[i]'(by omega),ha W' H' e,by simp⟩,λW' H' i v H2 e y hi=>?_,λW' H' e=>⟨us,ha W' H' e,by omega⟩⟩
 obtain⟨rfl,y⟩:=y
 obtain⟨x,hx,rx⟩:=r.get (y us (ha W' _ e))
 exact⟨aC.refl _,x,hx,rx.keep (e.keep tw)⟩
theorem pK {K:ad}{H0 Hs H:Hp}{W:Addr->Prop}{σ:St}{ρ:bN}{g:Tg}{us:List V}{xs:List PV}(px:PX K H0 W σ ρ Hs)(hg:g = .rd->flats xs=true)(r:Reps K (Mg H0 W Hs g) H us xs):Reps K (Ms H0 W (xG g xs)) H us xs:=by
 cases g with
 |fr=>exact r.same (aC.refl _) λ_ z=>px.new z
 |nw=>exact r.same (aC.refl _) λ_ z=>z
 |sh=>
  show Reps K (Ms H0 W (flats xs)) H us xs
  cases e:flats xs with
  |true=>exact r.flat e
  |false=>exact r.same (aC.refl _) λ_ z=>z
 |rd=>exact r.flat (hg rfl)
theorem aG2 (h:LI X (cO te) σ H R):R7 X.K (LE X te) σ H R:=by
 obtain⟨W,ρ,Q,px,q,k⟩:=h
 refine⟨W,ρ,_,px,q,?_⟩
 rintro v H1 x g s r ⟨xs,e,hg,q⟩
 have px1:=px.mono s
 have tw:∀a,W a->∃o,H1 a=some o/\kA o=true:=λa z=>(px1.wm a z).2
 cases r with
 |tup h r=>
  cases e
  refine⟨_,rfl,.inr ⟨_,aO.of h,k _ _ _ _ s (R9 tw (λW' H' e=>aO.of (e _ _ h λz=>?_).1) (pK px (λz=>by have:=hg z;unfold flat at this;exact this) r)) q⟩⟩
  obtain⟨o,h',mu⟩:=tw _ z;rw[h]at h';cases h';cases mu
 |@lst a us xs' m h r=>
  cases e
  have wa:¬W a:=by
   cases g with
   |fr=>exact (px.new m).1
   |nw=>exact m.1
   |sh=>exact m
   |rd=>have:=hg rfl;unfold flat at this;cases this
  exact⟨_,rfl,.inl ⟨_,aM.of h,k _ _ _ _ s (R8 tw (λW' H' e=>aM.of (e _ _ h wa).1) (pK px (λz=>by have:=hg z;unfold flat at this;cases this) r)) q⟩⟩
 |scr h=>
  cases e
  refine⟨_,rfl,.inl ⟨_,h.sqL,k _ _ _ _ s (R8 tw (λW' H' e=>(k9.keep (λa o u hz=>(e _ _ hz λz=>?_).1) h).sqL) (pK (g:=g) px (λz=>eD _) (Reps.intz _))) q⟩⟩
  obtain⟨o,h',mu⟩:=tw _ z;rw[hz]at h';cases h';cases mu
 |kt h r=>
  cases e
  exact⟨_,rfl,.inr ⟨_,.inr h,k _ _ _ _ s (R9 tw (λW' H' e=>.inr h) (pK px (λz=>by have:=hg z;unfold flat at this;exact this) r)) q⟩⟩
 |_=>cases e
def fL (lo:Int)(n:Nat):List PV:=(List.range n).map λ(i:Nat)=>PV.int (lo+(i:Int))
theorem gU (lo:Int)(n:Nat):(fL lo n).length=n:=by unfold fL;rw[bm7,List.length_range]
theorem xH {lo:Int}{n i:Nat}(h:i<n):(fL lo n)[i]? = some (.int (lo+i)):=by unfold fL;rw[bn4,List.getElem?_range h];rfl
def kD (te:aH):g6:=λρ Q=>te ρ λx _=>∃j:Int,x = .int j/\-1000000<=j/\j<=1000000/\Q (fL 0 j.toNat) true
def sK (ta tb:aH):g6:=λρ Q=>ta ρ λx _=>tb ρ λy _=>∃i j:Int,x = .int i/\y = .int j/\(-1000000<=i/\i<=1000000/\-1000000<=j/\j<=1000000)/\Q (fL i (j-i).toNat) true
theorem S2 {K:ad}{H0:Hp}{W:Addr->Prop}{H1:Hp}(lo:Int)(n:Nat):sJ K H0 W true H1 (oN lo n) (fL lo n):=by
 refine⟨λW' H' i e hi=>by rw[gU]at hi;exact hi,λW' H' i v H2 e y hi=>?_,λW' H' e=>by show n<=(fL lo n).length;rw[gU];exact bn1 _⟩
 rw[gU]at hi
 obtain⟨rfl,rfl⟩:=y
 exact⟨aC.refl _,_,xH hi,.int _⟩
theorem aG3 (h:LI X (kD te) σ H R):E3 (iM (LE X te) jT) σ H R:=by
 obtain⟨W,ρ,Q,px,q,k⟩:=h
 refine⟨W,ρ,_,px,q,?_⟩
 rintro v H1 x g s r ⟨j,rfl,h1,h2,q⟩
 cases r
 exact⟨j,rfl,by omega,by omega,k _ _ _ _ s (S2 0 j.toNat) q⟩
theorem aG4 {ta tb:aH}(h:LI X (sK ta tb) σ H R):E4 (iM (LE X ta) (iM (LE X tb) jT)) σ H R:=by
 obtain⟨W,ρ,Q,px,q,k⟩:=h
 refine⟨W,ρ,_,px,q,λv H1 x g s r q=>⟨W,ρ,_,px.mono s,q,?_⟩⟩
 rintro w H2 y g' s2 r2 ⟨i,j,rfl,rfl,h,q⟩
 cases r;cases r2
 exact⟨i,j,rfl,by omega,k _ _ _ _ (s.trans s2) (S2 i (j-i).toNat) q⟩
end
abbrev j8:=PV->Bool->bN->(bN->Prop)->Prop
def nM (K:ad)(own:Nat->Prop)(p:j8)(t:TG):Prop:=∀(H0:Hp) (W:Addr->Prop) (σ:St) (ρ:bN) (H:Hp) (v:V) (x:PV) (g:Bool) (Q:bN->Prop) (Q':St->Hp->Prop),
 PX K H0 W σ ρ H->aQ K (Ms H0 W g) H v x->p x g ρ Q->(∀σ' ρ',PX K H0 W σ' ρ' H->(∀i,¬own i->σ'[i]? = σ[i]?)->σ'.length=σ.length->Q ρ'->Q' σ' H)->t v σ H Q'
def bQ (i:Nat):j8:=λx g ρ Q=>Q (ρ.set i (some (.sh (g||flat x) x)))
theorem sL {K:ad}{H0 H:Hp}{W:Addr->Prop}{v:V}{x:PV}{g:Bool}(r:aQ K (Ms H0 W g) H v x):aQ K (Ms H0 W (g||flat x)) H v x:=by
 cases g with
 |true=>exact r
 |false=>
  show aQ K (Ms H0 W (flat x)) H v x
  cases e:flat x with
  |true=>exact r.flat e
  |false=>exact r
theorem pL (K:ad)(i:Nat):nM K (· = i) (bQ i) (cD i):=by
 intro H0 W σ ρ H v x g Q Q' px r q k
 exact k _ _ (px.setSh (sL r)) (λj hj=>by rw[bq7 (Ne.symm hj)]) (bs5 ..) q
def gV (i j:Nat):j8:=λx g ρ Q=>∃y z,x = .tup [y,z]/\Q ((ρ.set i (some (.sh (g||flat y) y))).set j (some (.sh (g||flat z) z)))
theorem pM (K:ad)(i j:Nat):nM K (λk=>k=i∨k=j) (gV i j) (jP K 2 (fA (cD i) (fA (cD j) jO))):=by
 intro H0 W σ ρ H v x g Q Q' px r q k
 obtain⟨y,z,rfl,q⟩:=q
 obtain⟨a,us,rfl,h,r⟩:=r.sqT
 obtain⟨u1,u2,rfl,r1,r2⟩:=r.two
 refine⟨a,_,rfl,aO.of h,rfl,u1,_,rfl,u2,_,rfl,rfl,k _ _ ((px.setSh (sL r1)).setSh (sL r2)) (λk hk=>?_) (by rw[bs5,bs5]) q⟩
 rw[bq7 (λe=>hk (.inr e.symm)),bq7 (λe=>hk (.inl e.symm))]
section
variable {X:Cx}{σ:St}{H:Hp}{D:eR}
def dU (ti:g6)(p:j8)(tb:aT):aT:=λD ρ=>ti ρ λxs g=>∃I:Nat->bN->Prop,I 0 ρ/\(∀i x ρ',xs[i]? = some x->I i ρ'->p x g ρ' λρ2=>tb { D with nx:=I (i+1),ct:=I (i+1),bk:=D.nx } ρ2)/\∀ρ',I xs.length ρ'->D.nx ρ'
theorem aG5 {ti:g6}{p:j8}{g:TG}{tb:aT}{own:Nat->Prop}(hg:nM X.K own p g)(h:LS X (dU ti p tb) D σ H):E5 (LI X ti) g (LS X tb) D σ H:=by
 obtain⟨W,ρ,D',px,q,k⟩:=h
 refine⟨W,ρ,_,px,q,?_⟩
 rintro J H1 xs gb s it ⟨I,i0,turn,fin⟩
 refine⟨λi m σ2 H2=>m=xs.length-i/\i<=xs.length/\∃W2 ρ2,PX X.K X.H₀ W2 σ2 ρ2 H2/\Ev W H1 W2 H2/\I i ρ2,⟨xs.length,by omega,br5 _,W,ρ,px.mono s,Ev.refl _ _,i0⟩,?_⟩
 rintro i m σ2 H2 ⟨rfl,hi,W2,ρ2,px2,e2,i2⟩
 have e0:Ev W H W2 H2:=(Ev.same s).trans e2
 by_cases hlt:i<xs.length
 ·refine .inr ⟨it.go W2 H2 i e2 hlt,λσ3 H3=>∃W3 ρ3,PX X.K X.H₀ W3 σ3 ρ3 H3/\Ev W H1 W3 H3/\I (i+1) ρ3,λσ3 H3 ⟨W3,ρ3,a,b,c⟩=>⟨xs.length-(i+1),by omega,rfl,hlt,W3,ρ3,a,b,c⟩,λv H3 y=>?_⟩
  obtain⟨s3,x,hx,rx⟩:=it.yld W2 H2 i v H3 e2 y hlt
  refine hg X.H₀ W2 σ2 ρ2 H3 v x gb _ _ (px2.mono s3) rx (turn i x ρ2 hx i2) λσ4 ρ4 px4 _ _ q4=>?_
  have e3:Ev W H1 W2 H3:=e2.trans (Ev.same s3)
  have e3':Ev W H W2 H3:=e0.trans (Ev.same s3)
  exact⟨W2,ρ4,_,px4,q4,λW' σ' H' ρ' e p q=>⟨W',ρ',p,e3.trans e,q⟩,k.rt,λW' σ' H' ρ' e p q=>k.nx W' σ' H' ρ' (e3'.trans e) p q,λW' σ' H' ρ' e p q=>⟨W',ρ',p,e3.trans e,q⟩⟩
 ·have e:i=xs.length:=by omega
  subst e
  exact .inl ⟨it.stop W2 H2 e2,k.nx W2 σ2 H2 ρ2 e0 px2 (fin ρ2 i2)⟩
end
def nN (fr:List (Option Nat))(ρ:bN):bN:=fr.map λo=>o.bind λj=>(ρ[j]?).join.map λm=>Slot.sh false m.val
def m7 (D:Addr):Addr->Prop:=λa=>a=D
theorem aG6 {K:ad}{H0:Hp}{W:Addr->Prop}{σ:St}{ρ:bN}{H1 H':Hp}{D:Addr}{acc:List V}{fr:List (Option Nat)}(px:PX K H0 W σ ρ H1)(hD:H1 D=none)(s:aC H1 H')(ha:H' D=some (.lst acc)) :
  PX K H1 (m7 D) (gN fr σ) (nN fr ρ) H':=by
 have old:∀{a:Addr}{o:HO},H1 a=some o->a≠D:=λ{a o} e z=>by rw[z,hD]at e;cases e
 refine⟨by unfold gN nN;rw[bm7,bm7],s,λa z=>by cases z;exact⟨hD,_,ha,rfl⟩,λi m h=>?_,λi j x y a h1=>?_⟩
 ·unfold nN at h
  rw[bn4]at h
  cases ef:fr[i]? with
  |none=>rw[ef]at h;cases h
  |some o=>
   rw[ef]at h
   cases o with
   |none=>cases h
   |some j=>
    have h:some ((ρ[j]?).join.map λm=>Slot.sh false m.val)=some (some m):=h
    cases er:ρ[j]? with
    |none=>rw[er]at h;cases h
    |some o=>
     rw[er]at h
     cases o with
     |none=>cases h
     |some m0=>
      cases h
      obtain⟨v,ev,r⟩:=px.sl j m0 er
      refine⟨v,?_,?_⟩
      ·unfold gN
       rw[bn4,ef]
       show some ((σ[j]?).join)=_
       rw[ev];rfl
      ·have r':aQ K (λ_=>True) H1 v m0.val:=(Q3 (Hs:=H1) r).same (aC.refl _) λ_ _=>trivial
       exact r'.keep ⟨λa _ _ e=>⟨old e,s _ _ e⟩,λa _ _ e=>⟨old e,s _ _ e⟩,λa _ _ e=>⟨old e,s _ _ e⟩,λ_ _ e=>s _ _ e,λ_ _ _ e=>s _ _ e⟩
 ·unfold nN at h1
  rw[bn4]at h1
  cases ef:fr[i]? with
  |none=>rw[ef]at h1;cases h1
  |some o=>
   rw[ef]at h1
   cases o with
   |none=>cases h1
   |some j=>
    have h1:some ((ρ[j]?).join.map λm=>Slot.sh false m.val)=some (some (Slot.own x)):=h1
    cases er:ρ[j]? with
    |none=>rw[er]at h1;cases h1
    |some o=>
     rw[er]at h1
     cases o with
     |none=>cases h1
     |some m0=>cases h1
section
variable {X:Cx}{σ:St}{H:Hp}{Q':VK}
abbrev _root_.L2.Cx.frm (X:Cx)(H1:Hp):Cx:={ X with H₀:=H1 }
def cT (ti:g6)(fr:List (Option Nat))(p:j8)(tc:cN)(te:aH):aH:=λρ Q=>ti ρ λxs g=>xs.length<=16000000/\∃I:Nat->List PV->Prop,I 0 []/\
 (∀i x acc,xs[i]? = some x->I i acc->p x false (nN fr ρ) λρ2=>tc ρ2 λb=>if b=true then te ρ2 λy gy=>Nw gy y/\I (i+1) (acc++[y]) else I (i+1) acc)/\∀acc,I xs.length acc->Q (.lst acc) .fr
theorem m8 {ti:g6}{fr:List (Option Nat)}{p:j8}{g:TG}{tc:cN}{te:aH}{own:Nat->Prop}(hg:nM X.K own p g)(ho:∀i,own i->fr[i]? = some none)(h:LE X (cT ti fr p tc te) σ H Q') :
  wI (LI X ti) fr (λ_=>g) (λH1=>LT (X.frm H1) tc) (λH1=>LE (X.frm H1) te) σ H Q':=by
 obtain⟨W,ρ,Q,px,q,k⟩:=h
 refine⟨W,ρ,_,px,q,?_⟩
 rintro J H1 xs gb s it ⟨hl,I,i0,turn,fin⟩ D hD
 have px1:=px.mono s
 refine⟨λi m acc H'=>m=xs.length-i/\i<=xs.length/\aC H1 H'/\H' D=some (.lst acc)/\∃ys,Reps X.K (Ms H1 (m7 D) true) H' acc ys/\ys.length<=i/\I i ys,⟨xs.length,by omega,br5 _,bL hD _,bP,[],.nil,bn1 _,i0⟩,?_⟩
 rintro i m acc H' ⟨rfl,hi,sm,ha,ys,ry,hy,iy⟩
 refine⟨ha,?_⟩
 have ev:Ev W H1 (nK W D) H':=Ev.own sm hD
 by_cases hlt:i<xs.length
 ·refine .inr ⟨it.go _ H' i ev hlt,λv H2 y=>?_⟩
  obtain⟨s2,x,hx,rx⟩:=it.yld _ H' i v H2 ev y hlt
  have ha2:=s2 _ _ ha
  have pxb:PX X.K H1 (m7 D) (gN fr σ) (nN fr ρ) H2:=aG6 px1 hD (sm.trans s2) ha2
  have rx':aQ X.K (Ms H1 (m7 D) false) H2 v x:=rx.same (aC.refl _) λa z=>by
   cases gb with
   |true=>exact λe=>z.1 (.inr e)
   |false=>exact λe=>z (.inr e)
  refine hg H1 (m7 D) _ _ H2 v x false _ _ pxb rx' (turn i x ys hx iy) λσ2 ρ2 px2 hown hlen q2=>⟨⟨hlen.symm,λj w e=>?_⟩,?_⟩
  ·by_cases oj:own j
   ·have:=ho j oj
    unfold gN at e
    rw[bn4,this]at e
    cases e
   ·rw[hown j oj];exact e
  ·refine⟨m7 D,ρ2,_,px2,q2,λb H4 s4 q4=>?_⟩
   have ha4:=s4 _ _ ha2
   have sm4:=(sm.trans s2).trans s4
   cases b with
   |false=>
    refine bG ⟨xs.length-(i+1),by omega,rfl,hlt,sm4,ha4,ys,ry.same (s2.trans s4) λ_ z=>z,by omega,by simpa using q4⟩
   |true=>
    refine bJ ⟨m7 D,ρ2,_,px2.mono s4,by simpa using q4,?_⟩
    rintro w H5 y gy s5 ryy ⟨nw,q5⟩
    have ha5:=s5 _ _ ha4
    have lr:=ry.length
    refine⟨ha5,iE (by omega),xs.length-(i+1),by omega,rfl,hlt,λb o e=>?_,bP,ys++[y],?_,by rw[bo2,bs2];omega,q5⟩
    ·rw[bB (λz=>by rw[z,hD]at e;cases e)]
     exact s5 _ _ (sm4 _ _ e)
    ·exact ((ry.same ((s2.trans s4).trans s5) λ_ z=>z).append (.cons (Nw.rep (px2.mono s4) nw ryy) .nil)).keep (.upd ha5 rfl λb m=>⟨m.1,m⟩)
 ·have e:i=xs.length:=by omega
  subst e
  refine .inl ⟨it.stop _ H' ev,k _ H' _ .fr (s.trans sm) (.lst (s.free hD) ha (ry.same (aC.refl _) λ_ z=>s.free z.2)) (fin ys iy)⟩
def cV:cN:=λ_ Q=>Q true
theorem aG7 {Qb:Bool->Hp->Prop}(h:LT X cV σ H Qb):wG σ H Qb:=by
 obtain⟨W,ρ,Q,px,q,k⟩:=h
 exact k _ _ (aC.refl _) q
end
section
variable {κ:Type}[DecidableEq κ]
def cW (ps:List (κ×PV))(k:κ):Option PV:=(ps.find? λp=>decide (p.1=k)).map (·.2)
def g9 (ps:List (κ×PV))(k:κ)(x:PV):List (κ×PV):=if (ps.any λp=>decide (p.1=k))=true then ps.map (λp=>if p.1=k then (p.1,x) else p) else ps++[(k,x)]
variable {K:ad}{M:Addr→Prop}{H:Hp}
theorem kE (k:κ):∀{kvs:List (κ×V)}{ps:List (κ×PV)},kvs.map (·.1)=ps.map (·.1)->Reps K M H (kvs.map (·.2)) (ps.map (·.2))->(cW ps k=none->fZ kvs k=none)/\∀x,cW ps k=some x->∃v,fZ kvs k=some v/\aQ K M H v x
 |[],[],_,_=>⟨λ_=>rfl,λx h=>by cases h⟩
 |[],_::_,e,_=>by cases e
 |_::_,[],e,_=>by cases e
 |(k1,v)::kvs,(k2,x)::ps,e,r=>by
  injection e with e1 e2
  have e1:k1=k2:=e1
  subst e1
  cases r with
  |cons r t=>
   obtain⟨h1,h2⟩:=kE k e2 t
   unfold cW fZ at h1 h2 ⊢
   by_cases e:k1=k
   ·simp only[bx9,e,decide_true,Option.map_some]
    exact⟨λz=>(by cases z),λy z=>(by cases z;exact⟨v,rfl,r⟩)⟩
   ·simp only[bx9,e,decide_false]
    exact⟨h1,h2⟩
theorem aG8 (k:κ){kvs:List (κ×V)}{ps:List (κ×PV)}(e:kvs.map (·.1)=ps.map (·.1)):(kvs.any λp=>decide (p.1=k))=ps.any λp=>decide (p.1=k):=by
 have h1:(kvs.any λp=>decide (p.1=k))=(kvs.map (·.1)).any λz=>decide (z=k):=by rw[List.any_map];rfl
 have h2:(ps.any λp=>decide (p.1=k))=(ps.map (·.1)).any λz=>decide (z=k):=by rw[List.any_map];rfl
 rw[h1,h2,e]
theorem S3 (k:κ){w:V}{y:PV}(q:aQ K M H w y):∀{kvs:List (κ×V)}{ps:List (κ×PV)},kvs.map (·.1)=ps.map (·.1)->Reps K M H (kvs.map (·.2)) (ps.map (·.2))->
  (kvs.map λkv=>if kv.1=k then (kv.1,w) else kv).map (·.1)=(ps.map λkv=>if kv.1=k then (kv.1,y) else kv).map (·.1)/\Reps K M H ((kvs.map λkv=>if kv.1=k then (kv.1,w) else kv).map (·.2)) ((ps.map λkv=>if kv.1=k then (kv.1,y) else kv).map (·.2))
 |[],[],_,_=>⟨rfl,.nil⟩
 |[],_::_,e,_=>by cases e
 |_::_,[],e,_=>by cases e
 |(k1,v)::kvs,(k2,x)::ps,e,r=>by
  injection e with e1 e2
  have e1:k1=k2:=e1
  subst e1
  cases r with
  |cons r t=>
   obtain⟨h1,h2⟩:=S3 k q e2 t
   by_cases e:k1=k
   ·simp only[bp2,e,if_true]
    exact⟨by rw[h1],.cons q h2⟩
   ·simp only[bp2,e,bu4]
    exact⟨by rw[h1],.cons r h2⟩
theorem aG9 (k:κ){w:V}{y:PV}(q:aQ K M H w y){kvs:List (κ×V)}{ps:List (κ×PV)}(e:kvs.map (·.1)=ps.map (·.1))(r:Reps K M H (kvs.map (·.2)) (ps.map (·.2))) :
  (eU kvs k w).map (·.1)=(g9 ps k y).map (·.1)/\Reps K M H ((eU kvs k w).map (·.2)) ((g9 ps k y).map (·.2)):=by
 unfold eU g9
 rw[aG8 k e]
 split
 ·exact S3 k q e r
 ·rw[bp5,bp5,bp5,bp5,e]
  exact⟨rfl,r.append (.cons q .nil)⟩
end
def kP:aK->PV
 |.inl i=>.int i
 |.inr x=>.str x
theorem xI {K:ad}{M:Addr->Prop}{H:Hp}{v:V}{k:aK}(r:aQ K M H v (kP k)):v=kV k:=by
 cases k with
 |inl i=>cases r;rfl
 |inr x=>cases r;rfl
theorem S4 {K:ad}{M:Addr->Prop}{H:Hp}:∀{ks:List aK}{us:List V},Reps K M H us (ks.map kP)->us=ks.map kV
 |[],_,.nil=>rfl
 |k::r,_,.cons q t=>by rw[xI q,S4 t];rfl
def S5:PV->PV
 |.fK ps=>.dK ps
 |.fT ps=>.dT ps
 |x=>x
def S6 (x y:PV)(o:Option PV):Prop:=(∃ps k,S5 x = .dK ps/\y=kP k/\o=cW ps k)∨(∃ps k,S5 x = .dT ps/\y = .tup (k.map kP)/\o=cW ps k)
theorem S7 {K:ad}{M M2:Addr->Prop}{H:Hp}{v w:V}{x y:PV}{o:Option PV}(h:S6 x y o)(rx:aQ K M H v x)(ry:aQ K M2 H w y):∃a o',v = .ref a/\iO H a w o'/\(o=none->o'=none)/\∀z,o=some z->∃u,o'=some u/\aQ K M H u z:=by
 rcases h with⟨ps,k,ex,rfl,rfl⟩|⟨ps,k,ex,rfl,rfl⟩
 ·obtain rfl:=xI ry
  cases rx with
  |dK m h e r=>cases ex;exact⟨_,_,rfl,iO.k h,(kE k e r).1,(kE k e r).2⟩
  |fK h e r=>cases ex;exact⟨_,_,rfl,.inl ⟨_,k,.inr ⟨_,h⟩,rfl,rfl⟩,(kE k e r).1,(kE k e r).2⟩
  |_=>cases ex
 ·obtain⟨b,us,rfl,hb,rb⟩:=ry.sqT
  obtain rfl:=S4 rb
  cases rx with
  |dT m h e r=>cases ex;exact⟨_,_,rfl,iO.t h hb,(kE k e r).1,(kE k e r).2⟩
  |fT h e r=>cases ex;exact⟨_,_,rfl,.inr ⟨_,k,b,.inr ⟨_,h⟩,rfl,hb,rfl⟩,(kE k e r).1,(kE k e r).2⟩
  |_=>cases ex
section
variable {X:Cx}{σ:St}{H:Hp}{D:eR}{tk td te:aH}{Q':VK}
def m9 (neg:Bool)(tk td:aH):aH:=λρ Q=>tk ρ λy _=>td ρ λx _=>∃o,S6 x y o/\Q (.bl (if neg=true then !o.isSome else o.isSome)) .fr
theorem S8 {α β:Type}{o:Option α}{o':Option β}{P:β->α->Prop}(h1:o=none->o'=none)(h2:∀z,o=some z->∃u,o'=some u/\P u z):o'.isSome=o.isSome:=by
 cases o with
 |none=>rw[h1 rfl];rfl
 |some z=>obtain⟨u,e,_⟩:=h2 z rfl;rw[e];rfl
theorem aH0 (h:LE X (m9 false tk td) σ H Q'):L7 (LE X tk) (LE X td) σ H Q':=by
 obtain⟨W,ρ,Q,px,q,k⟩:=h
 refine⟨W,ρ,_,px,q,λw H1 y g s r q=>⟨W,ρ,_,px.mono s,q,?_⟩⟩
 rintro v H2 x g' s2 r2 ⟨o,ak,q⟩
 obtain⟨a,o',rfl,dg,h1,h2⟩:=S7 ak r2 (r.same s2 λ_ z=>z)
 refine⟨a,o',rfl,dg,?_⟩
 rw[S8 h1 h2]
 exact k _ _ _ .fr (s.trans s2) (.bl _) q
theorem aH1 (h:LE X (m9 true tk td) σ H Q'):L8 (LE X tk) (LE X td) σ H Q':=by
 obtain⟨W,ρ,Q,px,q,k⟩:=h
 refine⟨W,ρ,_,px,q,λw H1 y g s r q=>⟨W,ρ,_,px.mono s,q,?_⟩⟩
 rintro v H2 x g' s2 r2 ⟨o,ak,q⟩
 obtain⟨a,o',rfl,dg,h1,h2⟩:=S7 ak r2 (r.same s2 λ_ z=>z)
 refine⟨a,o',rfl,dg,?_⟩
 rw[S8 h1 h2]
 exact k _ _ _ .fr (s.trans s2) (.bl _) q
theorem PX.updD {K:ad}{H0:Hp}{W:Addr->Prop}{σ:St}{ρ:bN}{H:Hp}{i:Nat}{a:Addr}{x:PV}{kvs:List (aK×V)}{ps:List (aK×PV)}(p:PX K H0 W σ ρ H)(hi:ρ[i]? = some (some (.own x)))(ha:σ[i]? = some (some (.ref a)))(wa:W a)(r:kvs.map (·.1)=ps.map (·.1)/\Reps K (Ms H0 W true) (upd H a (.dK kvs)) (kvs.map (·.2)) (ps.map (·.2))):PX K H0 W σ (ρ.set i (some (.own (.dK ps)))) (upd H a (.dK kvs)):=p.updOwn hi ha wa rfl (y:=.dK ps) ⟨kvs,bP,r⟩
theorem aH2 {κ α β:Type}{l:List (κ×α)}{m:List (κ×β)}(e:l.map (·.1)=m.map (·.1)):l.length=m.length:=by
 have:=congrArg List.length e
 rw[bm7,bm7]at this
 exact this
def sM (i:Nat)(tk te:aH):aT:=λD ρ=>te ρ λz g=>∃ps,ρ[i]? = some (some (.own (.dK ps)))/\tk ρ λy _=>∃k,y=kP k/\Nw g z/\ps.length<16000000/\D.nx (ρ.set i (some (.own (.dK (g9 ps k z)))))
theorem aH3 {i:Nat}(h:LS X (sM i tk te) D σ H):L9 (j4 i) (LE X tk) (LE X te) D σ H:=by
 obtain⟨W,ρ,D',px,q,k⟩:=h
 refine⟨W,ρ,_,px,q,?_⟩
 rintro w H1 z g s rz ⟨ps,hi,q⟩
 obtain⟨v,ev,a,rfl,wa,kvs,ea,e1,r⟩:=(px.mono s).sl i _ hi
 refine⟨_,ev,W,ρ,_,px.mono s,q,?_⟩
 rintro kv H2 y g' s2 ry ⟨kk,rfl,nw,hl,q⟩
 obtain rfl:=xI ry
 have ea2:=s2 _ _ ea
 refine⟨a,_,rfl,p5.k ea2 (iE (by rw[aH2 e1];omega)),?_⟩
 refine k.nx W σ _ _ ((Ev.same (s.trans s2)).trans (Ev.upd wa)) ((px.mono (s.trans s2)).updD hi ev wa ?_) q
 obtain⟨h1,h2⟩:=aG9 kk ((Nw.rep px nw rz).same s2 λ_ z=>z) e1 (r.same s2 λ_ z=>z)
 exact⟨h1,h2.keep (.upd ea2 rfl λb m=>⟨m3 wa m,m⟩)⟩
theorem aH4 (h:LE X (qC (.dK [])) σ H Q'):M1 σ H Q':=by
 obtain⟨W,ρ,Q,px,q,k⟩:=h
 exact λp hp=>k _ _ _ .fr (bL hp _) (.dK hp bP rfl .nil) q
end
def j9 (neg:Bool):PV->Tg->PV->Tg->PK->Prop:=λx _ y _ Q=>∃i ns,x = .int i/\j7 y=some (intz ns)/\Q (.bl (if neg=true then !decide (i∈ns) else decide (i∈ns))) .fr
abbrev nO:=bN->(Option Int->Prop)->Prop
def jA (xs:List PV)(lo hi:Option Int):List PV:=(xs.drop (HT.aY xs.length 0 lo)).take (HT.aY xs.length xs.length hi-HT.aY xs.length 0 lo)
def aH5:PV->List PV->PV
 |.tup _,ys=>.tup ys
 |.kt _,ys=>.tup ys
 |_,ys=>.lst ys
def S9:nO:=λ_ Q=>Q none
def sN (te:aH):nO:=λρ Q=>te ρ λx _=>∃i,x = .int i/\Q (some i)
def xJ (te:aH)(tl th:nO):aH:=λρ Q=>te ρ λx _=>tl ρ λlo=>th ρ λhi=>∃xs,seqT x=some xs/\flats xs=true/\Q (aH5 x (jA xs lo hi)) .fr
def gW (N:List Str)(xs:List PV):bN:=xs.map (λx=>some (.sh (flat x) x))++List.replicate (N.length-xs.length) none
abbrev cP (ta tb:aH):aH:=q2 (gQ λi j=>.int (i+j)) ta tb
abbrev kF (ta tb:aH):aH:=q2 (gQ λi j=>.int (i-j)) ta tb
abbrev pN (ta tb:aH):aH:=q2 (RI oQ λi j=>.int (i*j)) ta tb
abbrev iS (ta tb:aH):aH:=q2 (RI vH λi j=>.int (i/j)) ta tb
abbrev cQ (ta tb:aH):aH:=q2 (RI (λ_ j=>0<j) λi j=>.int (i%j)) ta tb
abbrev sO (ta tb:aH):aH:=q2 (RI vI λi j=>.int (i^j.toNat)) ta tb
abbrev mB (ta tb:aH):aH:=q2 (gQ λi j=>.bl (decide (i<j))) ta tb
abbrev qGt (ta tb:aH):aH:=q2 (gQ λi j=>.bl (decide (j<i))) ta tb
abbrev xK (ta tb:aH):aH:=q2 (gQ λi j=>.bl (decide (j<=i))) ta tb
abbrev kG (ta tb:aH):aH:=q2 (lZ false) ta tb
abbrev T0 (ta tb:aH):aH:=q2 (lZ true) ta tb
abbrev aH6 (ta tb:aH):aH:=q2 (xF false) ta tb
abbrev bD (ta tb:aH):aH:=q2 xB ta tb
def jB:List PV->(PV->Prop)->Prop:=λxs Q=>R6 xs Q/\∀ns,xs≠[.scr ns]
def sP:aT:=λ_ _=>False
def QE (X:Cx)(e:Expr)(t:aH):Prop:=PE X e (LE X t)
def QT (X:Cx)(e:Expr)(t:cN):Prop:=PT X e (LT X t)
def QW (X:Cx)(e:Expr)(t:cN):Prop:=PW X e (LT X t)
def QA (X:Cx)(es:List Expr)(t:cU):Prop:=PA X es (LA X t)
def QS (X:Cx)(st:Stmt)(t:aT):Prop:=PS X st (LS X t)
def gA (X:Cx)(st:List Stmt)(t:aT):Prop:=eZ X st (LS X t)
def QI (X:Cx)(tg iter:Expr)(t:g6):Prop:=PI X tg iter (LI X t)
section
variable {X:Cx}
theorem cX {e:Expr}{t t':TE}(h:PE X e t)(m:∀σ H Q,t' σ H Q->t σ H Q):PE X e t':=λpins s σ H Q I q=>h pins s σ H Q I (m σ H Q q)
theorem nP {e:Expr}{t t':TT}(h:PT X e t)(m:∀σ H Q,t' σ H Q->t σ H Q):PT X e t':=λpins s σ H Q I q=>h pins s σ H Q I (m σ H Q q)
theorem T1 {e:Expr}{t t':TT}(h:PW X e t)(m:∀σ H Q,t' σ H Q->t σ H Q):PW X e t':=λwh pins s σ H Q I q=>h wh pins s σ H Q I (m σ H Q q)
theorem T4 {e:List Expr}{t t':TA}(h:PA X e t)(m:∀σ H Q,t' σ H Q->t σ H Q):PA X e t':=λpos pins s σ H Q I q=>h pos pins s σ H Q I (m σ H Q q)
theorem dW {e:Stmt}{t t':TS}(h:PS X e t)(m:∀D σ H,t' D σ H->t D σ H):PS X e t':=λpins s σ H D I q=>h pins s σ H D I (m D σ H q)
theorem T5 {e:List Stmt}{t t':TS}(h:eZ X e t)(m:∀D σ H,t' D σ H->t D σ H):eZ X e t':=λpins s σ H D I q=>h pins s σ H D I (m D σ H q)
theorem sQ {tg e:Expr}{t t':TI}(h:PI X tg e t)(m:∀σ H R,t' σ H R->t σ H R):PI X tg e t':=λpins s σ H R I q=>h pins s σ H R I (m σ H R q)
variable {a b c e o:Expr}{es dI:List Expr}{ta tb te to tk:aH}{tr:cU}{tA tB' tc:cN}{pos p2 px:Pos}{st:Stmt}{sts:List Stmt}{t u:aT}
theorem qv (i:Nat){x:Str}{pos:Pos}(hN:X.N[i]? = some x:=by rfl)(hv:i6 X.env.scope x:=by first|exact Or.inl rfl|exact Or.inr (Or.inl rfl)|exact Or.inr (Or.inr rfl))(hd:(x==("__debug__":Str))=false:=by decide)(hcd:(x==("__classdict__":Str))=false:=by decide):QE X (.Name x pos) (a5 i):=cX (jN hN hv hd hcd) λ_ _ _=>aC7
theorem aG {i j}:QE X (.Constant (.int i) j pos) (qC (.int i)):=cX lM λ_ _ _=>rX λ_=>.int i
theorem lC {i j}:QE X (.Constant (.bool i) j pos) (qC (.bl i)):=cX B6 λ_ _ _=>rX λ_=>.bl i
theorem sR {j}:QE X (.Constant .none j pos) (qC .non):=cX ao7 λ_ _ _=>rX λ_=>.non
theorem aH7 {i j}:QE X (.Constant (.str i) j pos) (qC (.str i)):=cX ao8 λ_ _ _=>rX λ_=>.str i
theorem kH {op:Operator}{R:PV->Tg->PV->Tg->PK->Prop}{r:R2}(ho:cM X (binaryOp op) r)(cv:eV X R r)(ha:QE X a ta)(hb:QE X b tb):QE X (.BinOp a op b pos) (q2 R ta tb):=cX (ar1 ho ha hb) λ_ _ _=>rY cv
theorem dE (ha:QE X a ta)(hb:QE X b tb):QE X (.BinOp a .Add b pos) (q2 (gQ λi j=>.int (i+j)) ta tb):=kH ar2 Q4 ha hb
theorem kI (ha:QE X a ta)(hb:QE X b tb):QE X (.BinOp a .Sub b pos) (q2 (gQ λi j=>.int (i-j)) ta tb):=kH ar3 Q4 ha hb
theorem pO (ha:QE X a ta)(hb:QE X b tb):QE X (.BinOp a .Mult b pos) (q2 (RI oQ λi j=>.int (i*j)) ta tb):=kH ar4 rZ ha hb
theorem jC (ha:QE X a ta)(hb:QE X b tb):QE X (.BinOp a .FloorDiv b pos) (q2 (RI vH λi j=>.int (i/j)) ta tb):=kH ar5 rZ ha hb
theorem dX (ha:QE X a ta)(hb:QE X b tb):QE X (.BinOp a .Mod b pos) (q2 (RI (λ_ j=>0<j) λi j=>.int (i%j)) ta tb):=kH ar6 rZ ha hb
theorem T6 (ha:QE X a ta)(hb:QE X b tb):QE X (.BinOp a .Pow b pos) (q2 (RI vI λi j=>.int (i^j.toNat)) ta tb):=kH ar7 rZ ha hb
theorem sT {op:CmpOp}{R:PV->Tg->PV->Tg->PK->Prop}{r:R2}(ho:cM X (compareOp op) r)(cv:eV X R r)(ha:QE X a ta)(hb:QE X b tb)(hm:behindInMarks op b=false):QE X (.Compare a [op] [b] pos) (q2 R ta tb):=cX (vK ho ha hb hm) λ_ _ _=>rY cv
theorem jD {op:CmpOp}{R:PV->Tg->PV->Tg->PK->Prop}{r:R2}(ho:cM X (compareOp op) r)(cv:eV X R r)(ha:QE X a ta)(hb:QE X b tb)(hm:behindInMarks op b=false):QT X (.Compare a [op] [b] pos) (bH (q2 R ta tb)):=nP (as1 ho ha hb hm) λ_ _ _ h=>rY cv (sA h)
theorem T7 (ha:QE X a ta)(hb:QE X b tb):QE X (.Compare a [.Lt] [b] pos) (q2 (gQ λi j=>.bl (decide (i<j))) ta tb):=sT rB pG ha hb (i9 _)
theorem aH8 (ha:QE X a ta)(hb:QE X b tb):QE X (.Compare a [.GtE] [b] pos) (q2 (gQ λi j=>.bl (decide (j<=i))) ta tb):=sT F8 pG ha hb (i9 _)
theorem xM (ha:QE X a ta)(hb:QE X b tb):QE X (.Compare a [.Eq] [b] pos) (q2 (lZ false) ta tb):=sT F6 Q7 ha hb (i9 _)
theorem pP (ha:QE X a ta)(hb:QE X b tb):QT X (.Compare a [.Lt] [b] pos) (bH (q2 (gQ λi j=>.bl (decide (i<j))) ta tb)):=jD rB pG ha hb (i9 _)
theorem aH9 (ha:QE X a ta)(hb:QE X b tb):QT X (.Compare a [.Gt] [b] pos) (bH (q2 (gQ λi j=>.bl (decide (j<i))) ta tb)):=jD ar8 pG ha hb (i9 _)
theorem T8 (ha:QE X a ta)(hb:QE X b tb):QT X (.Compare a [.GtE] [b] pos) (bH (q2 (gQ λi j=>.bl (decide (j<=i))) ta tb)):=jD F8 pG ha hb (i9 _)
theorem nQ (ha:QE X a ta)(hb:QE X b tb):QT X (.Compare a [.Eq] [b] pos) (bH (q2 (lZ false) ta tb)):=jD F6 Q7 ha hb (i9 _)
theorem T9 (ha:QE X a ta)(hb:QE X b tb):QT X (.Compare a [.NotEq] [b] pos) (bH (q2 (lZ true) ta tb)):=jD F7 aC8 ha hb (i9 _)
theorem aI0 (ha:QE X a ta)(hb:QE X b tb):QT X (.Compare a [.Is] [b] pos) (bH (q2 (xF false) ta tb)):=jD ar9 aG1 ha hb (i9 _)
theorem aI1 (hu:X.A.units+1<cLine)(hk:QE X a tk)(hd:QE X b te)(hm:behindInMarks .In b=false:=by rfl):QT X (.Compare a [.In] [b] pos) (bH (m9 false tk te)):=nP (B8 (ax4 hu hk hd) hm) λ_ _ _ h=>aH0 (sA h)
theorem U0 (hu:X.A.units+1<cLine)(hk:QE X a tk)(hd:QE X b te)(hm:behindInMarks .NotIn b=false:=by rfl):QT X (.Compare a [.NotIn] [b] pos) (bH (m9 true tk te)):=nP (B8 (ax5 hu hk hd) hm) λ_ _ _ h=>aH1 (sA h)
theorem pQ (h:QE X e te)(he:∀whole,isTrue e X.env whole=(do let v <- whole;standAt e.pos;holding [v] (truthy v)):=by intro _;rfl):QT X e (bH te):=nP (ao9 h he) λ_ _ _ h=>sA h
theorem mC (h:QE X e te)(he:∀whole,isTrue e X.env whole=(do let v <- whole;standAt e.pos;holding [v] (truthy v)):=by intro _;rfl):QT X e (kC te):=nP (as4 h he) λ_ _ _ h=>aF9 h
theorem sV (ha:QT X a tA):QW X (.BoolOp .And [a] pos) tA:=ap0 ha
theorem U1 (ha:QT X a tA):QW X (.BoolOp .Or [a] pos) tA:=ap1 ha
theorem sW (ha:QT X a tA)(hb:QW X (.BoolOp .And (b::dI) pos) tB'):QW X (.BoolOp .And (a::b::dI) pos) (nI tA tB'):=T1 (ap2 ha hb) λ_ _ _=>aC9
theorem U2 (ha:QT X a tA)(hb:QW X (.BoolOp .Or (b::dI) pos) tB'):QW X (.BoolOp .Or (a::b::dI) pos) (sB tA tB'):=T1 (ap3 ha hb) λ_ _ _=>aD0
theorem nR (h:QW X e tA):QT X e tA:=PW.pt h
theorem sX (ha:QT X a tA):QT X (.UnaryOp .Not a pos) (nJ tA):=nP (ap4 ha) λ_ _ _=>aD1
theorem U3 {op}(h:QE X a ta):QE X (.BoolOp op [a] pos) ta:=ap5 h
theorem U4 (ha:QE X a ta)(hb:QE X (.BoolOp .And (b::dI) pos) tb):QE X (.BoolOp .And (a::b::dI) pos) (sC ta tb):=cX (ap6 ha hb) λ_ _ _=>aD2
theorem aA:QA X [] a9:=T4 eB λ_ _ _=>aD3
theorem a8 (ha:QE X e te)(hr:QA X es tr)(hs:starEach (e::es) X.env=(false,eval e X.env)::starEach es X.env:=by rfl):QA X (e::es) (a7 te tr):=T4 (dJ ha hr hs) λ_ _ _=>aD4
theorem iG {x1}(h:QA X es tr):QE X (.Tuple es x1 pos) (gR tr):=cX (G2 h) λ_ _ _=>aD6
theorem aI2 {x1}(h:QA X es tr):QE X (.Tuple es x1 pos) (x4 tr):=cX (G2 h) λ_ _ _=>aD5
theorem gC (h:QA X es tr):QE X (.List es pos) (eW tr):=cX (vN h) λ_ _ _=>aD7
theorem bE (ha:QE X a ta)(hb:QE X b tb)(hs:J5 b:=by exact λ_ _=>rfl):QE X (.Subscript a b pos) (q2 xB ta tb):=cX (jW av2 ha hb hs) λ_ _ _=>rY aF0
theorem aI3:QE X (.Dict [] [] pos) (qC (.dK [])):=cX ax7 λ_ _ _=>aH4
theorem jE {x:Str}{id:String}{R:List PV->(PV->Prop)->Prop}{r:List V->Hp->VK->Prop}(hc:dQ X (.builtin id) r)(cv:gS X R r)(hg:Gl X x)(hm:X.mg x=none)(hv:bootBuiltins x=some (.builtin id))(ha:QA X (e::es) tr)(hn:x≠"__name__":=by decide)(hdb:(x==("__debug__":Str))=false:=by decide)(he:starEach (e::es) X.env=(false,eval e X.env)::starEach es X.env:=by rfl)(hpl:(backTo pos (starEach es X.env)).any (·.1)=false:=by rfl):QE X (.Call (.Name x p2) (e::es) [] pos) (aB R tr):=cX (vR hc hg hm hv ha hn hdb he hpl) λ_ _ _=>Q8 cv
theorem aI4 {x:Str}{T:String}{R:List PV->(PV->Prop)->Prop}{r:List V->Hp->VK->Prop}(hc:dQ X (.type T) r)(cv:gS X R r)(hg:Gl X x)(hm:X.mg x=none)(hv:bootBuiltins x=some (.type T))(ha:QA X (e::es) tr)(hn:x≠"__name__":=by decide)(hdb:(x==("__debug__":Str))=false:=by decide)(he:starEach (e::es) X.env=(false,eval e X.env)::starEach es X.env:=by rfl)(hpl:(backTo pos (starEach es X.env)).any (·.1)=false:=by rfl):QE X (.Call (.Name x p2) (e::es) [] pos) (aB R tr):=cX (G9 hc hg hm hv ha hn hdb he hpl) λ_ _ _=>Q8 cv
theorem dN:gA X [] dA:=T5 ap8 λ_ _ _=>aD8
theorem aI (h1:QS X st t)(h2:gA X sts u):gA X (st::sts) (aE t u):=T5 (lN h1 h2) λ_ _ _=>aD9
theorem aV (h1:QS X st t):gA X [st] t:=lO h1
theorem xN:QS X st sP:=dW aq1 λ_ _ _ ⟨_,_,_,_,h,_⟩=>h
theorem bF {i:Nat}{x:Str}(hN:X.N.Nodup)(he:QE X e te)(hi:X.N[i]? = some x:=by rfl)(hx:i7 X.env.scope x:=by first|exact Or.inl rfl|exact Or.inr rfl)(hs:swapsWith e (some (.Name x p2)) pos.line X.env=pure false:=by rfl)(hf:X.fn x=true∨X.env.scope.names.lookup x=some .local:=by first|exact .inl rfl|exact .inr rfl) :
  QS X (.Assign [.Name x p2] e pos) (b8 i te):=dW (vD hN hi hx he hs hf) λ_ _ _=>sG
theorem fD {i:Nat}{x:Str}(hN:X.N.Nodup)(he:QE X e te)(hi:X.N[i]? = some x:=by rfl)(hx:i7 X.env.scope x:=by first|exact Or.inl rfl|exact Or.inr rfl)(hs:swapsWith e (some (.Name x p2)) pos.line X.env=pure false:=by rfl)(hf:X.fn x=true∨X.env.scope.names.lookup x=some .local:=by first|exact .inl rfl|exact .inr rfl) :
  QS X (.Assign [.Name x p2] e pos) (dS i te):=dW (vD hN hi hx he hs hf) λ_ _ _=>R4
theorem xO (i:Nat)(h:QS X st t):QS X st (pI i t):=dW h λ_ _ _=>aE1
theorem cE (he:QE X e te):QS X (.Return (some e) pos) (bV te):=dW (mY he) λ_ _ _=>aE2
theorem mD (i:Nat){x:Str}(hN:X.N[i]? = some x:=by rfl)(hv:i6 X.env.scope x:=by first|exact Or.inl rfl|exact Or.inr (Or.inl rfl)|exact Or.inr (Or.inr rfl))(hd:(x==("__debug__":Str))=false:=by decide)(hcd:(x==("__classdict__":Str))=false:=by decide) :
  QS X (.Return (some (.Name x p2)) pos) (j6 i):=dW (mY (jN hN hv hd hcd)) λ_ _ _=>aE3
theorem dO {sa sb:List Stmt}(hc:QT X c tc)(ha:gA X sa t)(hb:gA X sb u):QS X (.If c sa sb pos) (dB tc t u):=dW (ap9 hc ha hb) λ_ _ _=>aE4
theorem pR {body:List Stmt}(hp:PassesOwn (model X.prog X.w) X.A X.env X.xe)(hc:QT X c tc)(hb:gA X body t):QS X (.While c body [] pos) (m5 tc t):=dW (aq3 hp hc hb) λ_ _ _=>aE5
theorem kJ (i:Nat){x:Str}{apos cpos xpos:Pos}(he:QE X e te)(hN:X.N[i]? = some x:=by rfl)(hv:i6 X.env.scope x:=by first|exact Or.inl rfl|exact Or.inr (Or.inl rfl)|exact Or.inr (Or.inr rfl))(hd:(x==("__debug__":Str))=false:=by decide)(hcd:(x==("__classdict__":Str))=false:=by decide)(hbase:attributeBase (.Name x xpos) "append" X.env (eval (.Name x xpos) X.env)=eval (.Name x xpos) X.env:=by rfl)(hfew:((backTo cpos (starEach [e] X.env)).all (λx=>!x.1)&&(backToKw cpos (keywordEach [] X.env)).all (λx=>x.1.isSome)&&decide (([e]:List Expr).length+([]:List Keyword).length+(if ([]:List Keyword).isEmpty then 0 else 1)<30))=true:=by rfl)(hline:(apos.endLine==cpos.line)=true:=by rfl)(hs:starEach [e] X.env=(false,eval e X.env)::starEach [] X.env:=by rfl)(hplain:(backTo cpos (starEach [] X.env)).any (·.1)=false:=by rfl)(hsw:swapsWith (.Call (.Attribute (.Name x xpos) "append" apos) [e] [] cpos) none pos.line X.env=pure false:=by rfl) :
  QS X (.Expr (.Call (.Attribute (.Name x xpos) "append" apos) [e] [] cpos) pos) (gT i te):=
 dW (lP (l8 bu5 bz9 bA0 nC (jN hN hv hd hcd) (dJ he eB hs) hbase hfew hline hs hplain) hsw) λ_ _ _=>aE6
theorem U5 {i:Nat}{x:Str}{xpos tpos:Pos}(hu:X.A.units+1<cLine)(hk:QE X a tk)(he:QE X e te)(hN:X.N[i]? = some x:=by rfl)(hv:i6 X.env.scope x:=by first|exact Or.inl rfl|exact Or.inr (Or.inl rfl)|exact Or.inr (Or.inr rfl))(hd:(x==("__debug__":Str))=false:=by decide)(hcd:(x==("__classdict__":Str))=false:=by decide)(hs:swapsWith e (some (.Subscript (.Name x xpos) a tpos)) pos.line X.env=pure false:=by rfl):QS X (.Assign [.Subscript (.Name x xpos) a tpos] e pos) (sM i tk te):=dW (ax6 hu (jN hN hv hd hcd) hk he hs) λ_ _ _=>aH3
theorem aI5 {tg l:Expr}{tl:TE}(hl:PE X l tl):PI X tg l (R7 X.K tl):=by
 intro pins s σ H R I h
 refine aR (hl pins s σ H _ I h) λv s1 ⟨x,H1,I1,r1,q1⟩=>?_
 obtain⟨a,e,q⟩:=q1
 subst e
 cases r1
 rcases q with⟨xs,hq,q⟩|⟨xs,hq,q⟩
 ·obtain⟨its,rv,p,hz⟩:=I1.list hq
  refine wpAny_pyIter_list p.isList ?_
  refine⟨s1.heap.objs.size,[s1.heap.objs.size],_,_,H1,rfl,I1.kept (t':=s1.toks) λb o e=>bm5 _ e,aq4 a _,⟨_,bp3 _ rfl,rfl,rfl⟩,λb hb=>?_,q⟩
  have e:b=s1.heap.objs.size:=by simpa using hb
  subst e
  exact I1.fpOk (bn1 _) (I1.hok.fresh (bn1 _))
 ·obtain⟨its,rv,p,hz⟩:=I1.tuple hq
  refine wpAny_pyIter_tuple (show s1.heap.IsTuple a its.toArray from p) ?_
  refine⟨s1.heap.objs.size,[s1.heap.objs.size],_,_,H1,rfl,I1.kept (t':=s1.toks) λb o e=>bm5 _ e,E1 a _,⟨_,bp3 _ rfl,rfl,rfl⟩,λb hb=>?_,q⟩
  have e:b=s1.heap.objs.size:=by simpa using hb
  subst e
  exact I1.fpOk (bn1 _) (I1.hok.fresh (bn1 _))
theorem dC {tg l:Expr}(hl:QE X l te):QI X tg l (cO te):=sQ (aI5 hl) λ_ _ _=>aG2
theorem mE {tg:Expr}(hg:Gl X "range")(hm:X.mg "range" = none)(ha:QE X a ta)(hs:starEach [a] X.env = [(false,eval a X.env)]:=by rfl):QI X tg (.Call (.Name "range" p2) [a] [] pos) (kD ta):=sQ (aq7 hg hm (dJ ha eB hs) hs) λ_ _ _=>aG3
theorem U6 {tg:Expr}(hg:Gl X "range")(hm:X.mg "range" = none)(ha:QE X a ta)(hb:QE X b tb)(hs:starEach [a,b] X.env = [(false,eval a X.env),(false,eval b X.env)]:=by rfl)(hs2:starEach [b] X.env = [(false,eval b X.env)]:=by rfl) :
  QI X tg (.Call (.Name "range" p2) [a,b] [] pos) (sK ta tb):=sQ (aq8 hg hm (dJ ha (dJ hb eB hs2) (by rw[hs,hs2])) hs hs2) λ_ _ _=>aG4
theorem U7 {tg:Expr}{body:List Stmt}{ti:g6}{p:j8}{g:TG}{own:Nat->Prop}(hp:PassesOwn (model X.prog X.w) X.A X.env X.xe)(hc:X.calm=true)(hi:QI X tg e ti)(hg:PG X tg g)(ht:nM X.K own p g)(hb:gA X body t)(hs:∀x,foldedSetIterable e X.env x=pure x:=by intro _;rfl):QS X (.For tg e body [] pos) (dU ti p t):=dW (vE hp hc hi hg hb hs) λ_ _ _=>aG5 ht
end
structure Bt (mg:Str->Option Value):Prop where
 len:mg "len" = none
 range:mg "range" = none
 tuple:mg "tuple" = none
 list:mg "list" = none
 sorted:mg "sorted" = none
 all:mg "all" = none
 any:mg "any" = none
 zip:mg "zip" = none
 min:mg "min" = none
 max:mg "max" = none
 sum:mg "sum" = none
 isinst:mg "isinstance" = none
 int:mg "int" = none
 bool:mg "bool" = none
 enum:mg "enumerate" = none
section
variable {X:Cx}{a b c e o:Expr}{es dI:List Expr}{ta tb te to tk:aH}{tr:cU}{tA tB' tc:cN}{pos p2 px:Pos}{st:Stmt}{sts:List Stmt}{t u:aT}
theorem eF (B:Bt X.mg)(ha:QA X [e] tr)(hg:Gl X "len":=by rfl)(he:starEach [e] X.env=(false,eval e X.env)::starEach [] X.env:=by rfl)(hpl:(backTo pos (starEach [] X.env)).any (·.1)=false:=by rfl):QE X (.Call (.Name "len" p2) [e] [] pos) (aB dM tr):=
 jE (aw0.or ay7) aF1 hg B.len PySem.boot_len ha (he:=he) (hpl:=hpl)
theorem kK (B:Bt X.mg)(ha:QA X [e] tr)(hg:Gl X "tuple":=by rfl)(he:starEach [e] X.env=(false,eval e X.env)::starEach [] X.env:=by rfl)(hpl:(backTo pos (starEach [] X.env)).any (·.1)=false:=by rfl):QE X (.Call (.Name "tuple" p2) [e] [] pos) (aB jB tr):=
 aI4 aw1 aF2 hg B.tuple PyProof.Rows.boot_tuple ha (he:=he) (hpl:=hpl)
theorem U8 (B:Bt X.mg)(ha:QA X [e] tr)(hg:Gl X "sorted":=by rfl)(he:starEach [e] X.env=(false,eval e X.env)::starEach [] X.env:=by rfl)(hpl:(backTo pos (starEach [] X.env)).any (·.1)=false:=by rfl):QE X (.Call (.Name "sorted" p2) [e] [] pos) (aB sH tr):=
 jE az9 aF3 hg B.sorted PyProof.Rows.boot_sorted ha (he:=he) (hpl:=hpl)
theorem aI6 (B:Bt X.mg)(hc:X.calm=true)(ha:QA X [e] tr)(hg:Gl X "all":=by rfl)(he:starEach [e] X.env=(false,eval e X.env)::starEach [] X.env:=by rfl)(hpl:(backTo pos (starEach [] X.env)).any (·.1)=false:=by rfl):QE X (.Call (.Name "all" p2) [e] [] pos) (aB xD tr):=
 jE (wW hc) aF4 hg B.all PyProof.Rows.boot_all ha (he:=he) (hpl:=hpl)
theorem sY (B:Bt X.mg)(hc:X.calm=true)(ha:QA X [a,b] tr)(hg:Gl X "min":=by rfl)(he:starEach [a,b] X.env=(false,eval a X.env)::starEach [b] X.env:=by rfl)(hpl:(backTo pos (starEach [b] X.env)).any (·.1)=false:=by rfl):QE X (.Call (.Name "min" p2) [a,b] [] pos) (aB nL tr):=
 jE (as6 hc) aF5 hg B.min PyProof.Rows.boot_min ha (he:=he) (hpl:=hpl)
theorem pS (B:Bt X.mg)(hc:X.calm=true)(ha:QA X [a,b] tr)(hg:Gl X "max":=by rfl)(he:starEach [a,b] X.env=(false,eval a X.env)::starEach [b] X.env:=by rfl)(hpl:(backTo pos (starEach [b] X.env)).any (·.1)=false:=by rfl):QE X (.Call (.Name "max" p2) [a,b] [] pos) (aB m6 tr):=
 jE (as5 hc) aF6 hg B.max PyProof.Rows.boot_max ha (he:=he) (hpl:=hpl)
theorem U9 (x:Int):∀(xs:af),lU (.int x) (xs.map V.int)=decide (x∈xs)
 |[]=>by simp[lU]
 |y::r=>by
  have ih:=U9 x r
  unfold lU at ih ⊢
  rw[bp2,bz7,ih]
  by_cases e:y=x
  ·subst e;simp[iN]
  ·have:iN (.int y) (.int x)=false:=by simpa[iN] using e
   rw[this,Bool.false_or,bw0]
   simp[Ne.symm e]
theorem xP:∀(xs:af),(xs.map V.int).all jX=true
 |[]=>rfl
 |_::r=>by rw[bp2,List.all_cons,xP r];rfl
theorem sZ (neg:Bool):eV X (j9 neg) (oW X.K neg):=by
 rintro W Hs H u v x y g g' Q Q' s n r1 r2 ⟨i,ns,rfl,e,q⟩ k
 cases r1
 obtain⟨a,us,rfl,hs,r⟩:=r2.seq e
 obtain rfl:=r.ofInts
 refine⟨a,_,rfl,hs,rfl,xP ns,?_⟩
 have:=k _ _ _ .fr (aC.refl _) (.bl _) q
 rw[U9]
 cases neg<;>exact this
theorem aI7 (ha:QE X a ta)(hb:QE X b tb)(hm:behindInMarks .In b=false:=by rfl):QE X (.Compare a [.In] [b] pos) (q2 (j9 false) ta tb):=sT vX (sZ false) ha hb hm
theorem V0 (ha:QE X a ta)(hb:QE X b tb)(hm:behindInMarks .In b=false:=by rfl):QT X (.Compare a [.In] [b] pos) (bH (q2 (j9 false) ta tb)):=jD vX (sZ false) ha hb hm
theorem V1 (ha:QE X a ta)(hb:QE X b tb)(hm:behindInMarks .NotIn b=false:=by rfl):QT X (.Compare a [.NotIn] [b] pos) (bH (q2 (j9 true) ta tb)):=jD av9 (sZ true) ha hb hm
end
end PP
namespace PP
open PySem L2 PyProof.Rows
def LO (X:Cx)(t:nO):TO:=λσ H Q'=>∃(W:Addr->Prop) (ρ:bN) (Q:Option Int->Prop),PX X.K X.H₀ W σ ρ H/\t ρ Q/\∀o H',aC H H'->Q o->Q' o H'
def QO (X:Cx)(e:Option Expr)(t:nO):Prop:=PO X e (LO X t)
theorem Reps.cut {K:ad}{M:Addr->Prop}{H:Hp}{us:List V}{xs:List PV}(r:Reps K M H us xs)(lo hi:Option Int):Reps K M H (fB us lo hi) (jA xs lo hi):=by
 unfold fB jA
 rw[r.length]
 exact (r.drop _).take _
section
variable {X:Cx}{a b c e o:Expr}{es dI:List Expr}{ta tb te to tk:aH}{tr:cU}{tA tB' tc:cN}{pos p2 px:Pos}{st:Stmt}{sts:List Stmt}{t u:aT}
theorem aI8:QO X none S9:=λpins s σ H Q I h=>vS pins s σ H Q I (by
 obtain⟨W,ρ,Q1,px,q,k⟩:=h
 exact k _ _ (aC.refl _) q)
theorem xQ (h:QE X e te):QO X (some e) (sN te):=λpins s σ H Q I hq=>vT h pins s σ H Q I (by
 obtain⟨W,ρ,Q1,px,q,k⟩:=hq
 refine⟨W,ρ,_,px,q,?_⟩
 rintro v H1 x g s r ⟨i,rfl,q⟩
 cases r
 exact⟨i,rfl,k _ _ s q⟩)
theorem V2 {lo hi:Option Expr}{tl th:nO}{sp:Pos}(he:QE X e te)(hl:QO X lo tl)(hh:QO X hi th):QE X (.Subscript e (.Slice lo hi none sp) pos) (xJ te tl th):=cX (vU (K1.or P9) he hl hh) λσ H Q' h=>by
 obtain⟨W,ρ,Q,px,q,k⟩:=h
 refine⟨W,ρ,_,px,q,λv H1 x g s1 r1 q1=>⟨W,ρ,_,px.mono s1,q1,λlo H2 s2 q2=>⟨W,ρ,_,px.mono (s1.trans s2),q2,?_⟩⟩⟩
 rintro hi H3 s3 ⟨xs,e,f,q3⟩
 have S:=(s1.trans s2).trans s3
 have r3:=r1.same (M':=Mg X.H₀ W H g) (s2.trans s3) λ_ z=>z
 cases r3 with
 |tup h r=>
  cases e
  refine .inr ⟨_,_,rfl,aO.of h,λp hp=>k _ _ _ .fr (S.trans (bL hp _)) (.tup bP (((r.flat f).cut lo hi).same (bL hp _) λ_ z=>z)) q3,λec=>k _ _ _ .fr S (.tup h ?_) q3⟩
  have:=(r.flat (M':=Mg X.H₀ W H .fr) f).cut lo hi
  rw[ec]at this
  exact this
 |lst m h r=>
  cases e
  exact .inl ⟨_,_,rfl,aM.of h,λp hp=>k _ _ _ .fr (S.trans (bL hp _)) (.lst (S.free hp) bP (((r.flat f).cut lo hi).same (bL hp _) λ_ z=>z)) q3⟩
 |scr h=>
  cases e
  exact .inl ⟨_,_,rfl,h.sqL,λp hp=>k _ _ _ .fr (S.trans (bL hp _)) (.lst (S.free hp) bP (((Reps.intz _).cut lo hi).same (bL hp _) λ_ z=>z)) q3⟩
 |_=>cases e
structure Df (P:Program)(w:World)(K:ad)(mg:Str->Option Value)(base:Heap)(k:Nat)(x:Str)(ps:List Str)(p:bI):Prop where
 ex:∃f fd,cZ P w K mg base eC k f fd ps (pJ K p)/\j5 K fd ps []/\PySem.W.keepIn K (.ref f)=true/\mg x=some (.ref f)
theorem bC {k j:Nat}{x:Str}{ps:List Str}{p:bI}(d:Df X.prog X.w X.K X.mg X.base k x ps p)(hr:cJ j X.A)(ha:QA X (e::es) tr)(hkj:k<=j:=by decide)(hg:Gl X x:=by rfl)(hdb:(x==("__debug__":Str))=false:=by decide)(he:starEach (e::es) X.env=(false,eval e X.env)::starEach es X.env:=by rfl)(hpl:(backTo pos (starEach es X.env)).any (·.1)=false:=by rfl):QE X (.Call (.Name x p2) (e::es) [] pos) (aB p tr):=by
 obtain⟨f,fd,F,b,kp,m⟩:=d.ex
 exact cX (vP F (hr.mono hkj) hg m kp b .nil ay5 ha hdb he hpl) λ_ _ _=>aF7
theorem xR {K:ad}{H:Hp}{N:List Str}{vs:List V}{xs:List PV}(r:Reps K (λ_=>True) H vs xs):PX K H (λ_=>False) (L2.start N vs) (gW N xs) H:=by
 have lr:=r.length
 have own:∀{i:Nat}{m:Slot},(gW N xs)[i]? = some (some m)->∃x,xs[i]? = some x/\m = .sh (flat x) x:=λ{i m} h=>by
  unfold gW at h
  by_cases hi:i<xs.length
  ·rw[bp1 (by simpa using hi),bn4]at h
   rw[bm6 hi]at h ⊢
   cases h
   exact⟨_,rfl,rfl⟩
  ·rw[br6 (by simpa using hi),List.getElem?_replicate]at h
   split at h<;>cases h
 refine⟨by unfold L2.start gW;simp[lr],aC.refl _,λa z=>z.elim,λi m h=>?_,λi j x y a h1=>?_⟩
 ·obtain⟨x,hx,rfl⟩:=own h
  obtain⟨v,hv,rx⟩:=r.at hx
  refine⟨v,?_,sL (g:=false) (rx.same (aC.refl _) λ_ _ z=>z)⟩
  have hi:i<vs.length:=(bn2.mp hv).1
  unfold L2.start
  rw[bp1 (by simpa using hi),bn4,hv];rfl
 ·obtain⟨x,_,e⟩:=own h1
  cases e
theorem Df.of {P:Program}{w:World}{K:ad}{mg:Str->Option Value}{base:Heap}{k:Nat}{x:Str}{ps N:List Str}{p:bI}{st:Stmt}{f:Addr}{fd:FuncData}(F:fJ K x x st f fd)(m:mg x=some (.ref f))(S:FnScope N ps (aX st))(hb:∀(kV doc pm:Value) (an:Option Addr) (cdv ct:Value) (us:List Value),us.length=ps.length->bindArgs (PySem.W.fnOf x x (jY st) (fI st) (aX st) .none kV doc pm an cdv ct) ⟨us,[]⟩=pure (ps.zip us))(len:∀xs Q,p xs Q->xs.length=ps.length)(body:∀(cdv:Value) (A:Around) (outer:List Env) (s:Shared) (H:Hp) (E:XK),cJ k (A.deeper (envOfC x (aX st) s.heap.objs.size f cdv))->
   ∃t,gA (dR eC P w K mg base N x (aX st) f cdv A outer s H E).nox (fI st) t/\∀xs Q,p xs Q->t { nx:=λ_=>Q .non,rt:=Q } (gW N xs)):Df P w K mg base (k+1) x ps p:=by
 refine⟨f,fd,F.ok S (λvs H Q E h=>?_) (λcdv A outer s H vs Q E hr h=>?_),F.binds hb,F.kp,m⟩
 ·obtain⟨xs,Qp,r,q,_⟩:=h
  rw[r.length];exact len xs Qp q
 ·obtain⟨xs,Qp,r,q,k⟩:=h
  obtain⟨t,ht,hq⟩:=body cdv A outer s H E hr
  refine⟨_,ht,λ_=>False,gW N xs,_,xR r,hq xs Qp q,?_,?_,?_,?_⟩
  ·exact λW' σ' H' ρ' e px q=>k _ _ _ px.same .non q
  ·exact λv H' x s r q=>k _ _ _ s r q
  ·exact λW' σ' H' ρ' e px q=>q
  ·exact λW' σ' H' ρ' e px q=>q
theorem fM (i:Nat){x:Str}{tp:Pos}{body:List Stmt}{ti:g6}(hN:X.N.Nodup)(hi:QI X (.Name x tp) e ti)(hb:gA X body t)(hx:X.N[i]? = some x:=by rfl)(hl:i7 X.env.scope x:=by first|exact Or.inl rfl|exact Or.inr rfl)(hf:X.fn x=true∨X.env.scope.names.lookup x=some .local:=by first|exact .inl rfl|exact .inr rfl)(hp:PassesOwn (model X.prog X.w) X.A X.env X.xe:=by exact bA5)(hc:X.calm=true:=by rfl)(hs:∀x,foldedSetIterable e X.env x=pure x:=by intro _;rfl):QS X (.For (.Name x tp) e body [] pos) (dU ti (bQ i) t):=
 U7 hp hc hi (eS hN hx hl hf) (pL _ i) hb hs
theorem aI9 (i j:Nat){x y:Str}{tp xp yp:Pos}{kt:Nat}{body:List Stmt}{ti:g6}(hN:X.N.Nodup)(hi:QI X (.Tuple [.Name x xp,.Name y yp] kt tp) e ti)(hb:gA X body t)(hx:X.N[i]? = some x:=by rfl)(hy:X.N[j]? = some y:=by rfl)(hlx:i7 X.env.scope x:=by first|exact Or.inl rfl|exact Or.inr rfl)(hly:i7 X.env.scope y:=by first|exact Or.inl rfl|exact Or.inr rfl)(hfx:X.fn x=true∨X.env.scope.names.lookup x=some .local:=by first|exact .inl rfl|exact .inr rfl)(hfy:X.fn y=true∨X.env.scope.names.lookup y=some .local:=by first|exact .inl rfl|exact .inr rfl)(hp:PassesOwn (model X.prog X.w) X.A X.env X.xe:=by exact bA5)(hc:X.calm=true:=by rfl)(hs:∀x,foldedSetIterable e X.env x=pure x:=by intro _;rfl):QS X (.For (.Tuple [.Name x xp,.Name y yp] kt tp) e body [] pos) (dU ti (gV i j) t):=
 U7 hp hc hi (lS hc (gM (eS hN hx hlx hfx) (gM (eS hN hy hly hfy) lR))) (pM _ i j) hb hs
abbrev c9:Value->Shared->Prop:=λ_ _=>False
section
variable {scope:Scope}{N:List Str}{fr:List (Option Nat)}{x y:Str}{tp xp yp:Pos}{kt:Nat}{iter elt:Expr}{ti:g6}
theorem t5 {ifs:List Expr}{tcs:cN}(he:∀(s:Shared) (H:Hp) (C:Addr) (fp:List Addr),QE (bK X scope N s H C fp c9) elt te)(hi:∀(s:Shared) (H:Hp) (C:Addr) (fp:List Addr),l9 (bK X scope N s H C fp c9) ifs (LT (bK X scope N s H C fp c9) tcs))(hN:N.Nodup)(h0:N[0]? = some x)(hl:∀(s:Shared) (H:Hp) (C:Addr) (fp:List Addr),(bK X scope N s H C fp c9).env.scope.names.lookup x=some .local)(s:Shared)(H:Hp) :
  nE X scope N (.Name x tp) ifs elt s H (cD 0) (LT (X.frm H) tcs) (LE (X.frm H) te):=
 ⟨λC fp=>eS (X:=bK X scope N s H C fp c9) hN h0 (.inl (hl s H C fp)) (.inr (hl s H C fp)),λC fp=>hi s H C fp,λC fp=>he s H C fp⟩
theorem pT {Y:Cx}:l9 Y [] (LT Y cV):=λpins s σ H Q I h=>p7 pins s σ H Q I (aG7 h)
theorem nS (hi:QI X (.Name x tp) iter ti)(he:∀(s:Shared) (H:Hp) (C:Addr) (fp:List Addr),QE (bK X scope N s H C fp c9) elt te)(hc:X.calm=true:=by rfl)(S:cK X scope N fr:=by exact cK.of rfl rfl)(hN:N.Nodup:=by decide +kernel)(h0:N[0]? = some x:=by rfl)(hl:∀(s:Shared) (H:Hp) (C:Addr) (fp:List Addr),(bK X scope N s H C fp c9).env.scope.names.lookup x=some .local:=by intro _ _ _ _;rfl)(hf:fr[0]? = some none:=by rfl)(hs:∀x,foldedSetIterable iter X.env x=pure x:=by intro _;rfl):QE X (.ListComp elt [⟨.Name x tp,iter,[],0⟩] scope pos) (cT ti fr (bQ 0) cV te):=
 cX (wJ (gh:=λ_=>cD 0) (tch:=λH=>LT (X.frm H) cV) (teh:=λH=>LE (X.frm H) te) hc S hi (t5 he (λ_ _ _ _=>pT) hN h0 hl) hs) λ_ _ _=>m8 (pL _ 0) (λi e=>by subst e;exact hf)
theorem t6 {c:Expr}{tcs:cN}(hi:QI X (.Name x tp) iter ti)(ht:∀(s:Shared) (H:Hp) (C:Addr) (fp:List Addr),QT (bK X scope N s H C fp c9) c tcs)(he:∀(s:Shared) (H:Hp) (C:Addr) (fp:List Addr),QE (bK X scope N s H C fp c9) elt te)(hc:X.calm=true:=by rfl)(S:cK X scope N fr:=by exact cK.of rfl rfl)(hN:N.Nodup:=by decide +kernel)(h0:N[0]? = some x:=by rfl)(hl:∀(s:Shared) (H:Hp) (C:Addr) (fp:List Addr),(bK X scope N s H C fp c9).env.scope.names.lookup x=some .local:=by intro _ _ _ _;rfl)(hf:fr[0]? = some none:=by rfl)(hs:∀x,foldedSetIterable iter X.env x=pure x:=by intro _;rfl):QE X (.ListComp elt [⟨.Name x tp,iter,[c],0⟩] scope pos) (cT ti fr (bQ 0) tcs te):=
 cX (wJ (gh:=λ_=>cD 0) (tch:=λH=>LT (X.frm H) tcs) (teh:=λH=>LE (X.frm H) te) hc S hi (t5 he (λs H C fp=>M9 (ht s H C fp)) hN h0 hl) hs) λ_ _ _=>m8 (pL _ 0) (λi e=>by subst e;exact hf)
theorem V3 {i:Nat}{z:Str}{zp:Pos}(nd:X.N.Nodup)(hi:QI X (.Name x tp) iter ti)(he:∀(s:Shared) (H:Hp) (C:Addr) (fp:List Addr),QE (bK X scope N s H C fp c9) elt te)(hz:X.N[i]? = some z:=by rfl)(hzl:X.env.scope.names.lookup z=some .local:=by rfl)(hsw:swapsWith (.ListComp elt [⟨.Name x tp,iter,[],0⟩] scope p2) (some (.Name z zp)) pos.line X.env=pure true:=by rfl)(hc:X.calm=true:=by rfl)(S:cK X scope N fr:=by exact cK.of rfl rfl)(hN:N.Nodup:=by decide +kernel)(h0:N[0]? = some x:=by rfl)(hl:∀(s:Shared) (H:Hp) (C:Addr) (fp:List Addr),(bK X scope N s H C fp c9).env.scope.names.lookup x=some .local:=by intro _ _ _ _;rfl)(hf:fr[0]? = some none:=by rfl)(hs:∀x,foldedSetIterable iter X.env x=pure x:=by intro _;rfl):QS X (.Assign [.Name z zp] (.ListComp elt [⟨.Name x tp,iter,[],0⟩] scope p2) pos) (b8 i (cT ti fr (bQ 0) cV te)):=
 dW (rP (gh:=λ_=>cD 0) (tch:=λH=>LT (X.frm H) cV) (teh:=λH=>LE (X.frm H) te) hc S hi (t5 he (λ_ _ _ _=>pT) hN h0 hl) nd hz hzl hsw hs) λD σ H h=>m8 (pL _ 0) (λi e=>by subst e;exact hf) (sG h)
theorem aJ0 {i:Nat}{z:Str}{zp:Pos}(nd:X.N.Nodup)(hi:QI X (.Name x tp) iter ti)(he:∀(s:Shared) (H:Hp) (C:Addr) (fp:List Addr),QE (bK X scope N s H C fp c9) elt te)(hz:X.N[i]? = some z:=by rfl)(hzl:X.env.scope.names.lookup z=some .local:=by rfl)(hsw:swapsWith (.ListComp elt [⟨.Name x tp,iter,[],0⟩] scope p2) (some (.Name z zp)) pos.line X.env=pure true:=by rfl)(hc:X.calm=true:=by rfl)(S:cK X scope N fr:=by exact cK.of rfl rfl)(hN:N.Nodup:=by decide +kernel)(h0:N[0]? = some x:=by rfl)(hl:∀(s:Shared) (H:Hp) (C:Addr) (fp:List Addr),(bK X scope N s H C fp c9).env.scope.names.lookup x=some .local:=by intro _ _ _ _;rfl)(hf:fr[0]? = some none:=by rfl)(hs:∀x,foldedSetIterable iter X.env x=pure x:=by intro _;rfl):QS X (.Assign [.Name z zp] (.ListComp elt [⟨.Name x tp,iter,[],0⟩] scope p2) pos) (dS i (cT ti fr (bQ 0) cV te)):=
 dW (rP (gh:=λ_=>cD 0) (tch:=λH=>LT (X.frm H) cV) (teh:=λH=>LE (X.frm H) te) hc S hi (t5 he (λ_ _ _ _=>pT) hN h0 hl) nd hz hzl hsw hs) λD σ H h=>m8 (pL _ 0) (λi e=>by subst e;exact hf) (R4 h)
end
theorem aJ1:lV X "list.extend" (R5 X.K):=λpins s σ H x xs v us Q I rx rs h=>h.elim (aw4 pins s σ H x xs v us Q I rx rs) (aC5 pins s σ H x xs v us Q I rx rs)
theorem aJ2 (i:Nat){x:Str}{apos cpos xpos:Pos}(he:QE X e te)(hN:X.N[i]? = some x:=by rfl)(hv:i6 X.env.scope x:=by first|exact Or.inl rfl|exact Or.inr (Or.inl rfl)|exact Or.inr (Or.inr rfl))(hd:(x==("__debug__":Str))=false:=by decide)(hcd:(x==("__classdict__":Str))=false:=by decide)(hbase:attributeBase (.Name x xpos) "extend" X.env (eval (.Name x xpos) X.env)=eval (.Name x xpos) X.env:=by rfl)(hfew:((backTo cpos (starEach [e] X.env)).all (λx=>!x.1)&&(backToKw cpos (keywordEach [] X.env)).all (λx=>x.1.isSome)&&decide (([e]:List Expr).length+([]:List Keyword).length+(if ([]:List Keyword).isEmpty then 0 else 1)<30))=true:=by rfl)(hline:(apos.endLine==cpos.line)=true:=by rfl)(hs:starEach [e] X.env=(false,eval e X.env)::starEach [] X.env:=by rfl)(hplain:(backTo cpos (starEach [] X.env)).any (·.1)=false:=by rfl)(hsw:swapsWith (.Call (.Attribute (.Name x xpos) "extend" apos) [e] [] cpos) none pos.line X.env=pure false:=by rfl) :
  QS X (.Expr (.Call (.Attribute (.Name x xpos) "extend" apos) [e] [] cpos) pos) (x9 i te):=
 dW (lP (l8 bu5 PySem.F.slot_list_extend PySem.F.type_list_extend aJ1 (jN hN hv hd hcd) (dJ he eB hs) hbase hfew hline hs hplain) hsw) λ_ _ _=>aE7
theorem nU {i:Nat}{x:Str}{xpos tpos:Pos}(hk:QE X a tk)(he:QE X e te)(hN:X.N[i]? = some x:=by rfl)(hv:i6 X.env.scope x:=by first|exact Or.inl rfl|exact Or.inr (Or.inl rfl)|exact Or.inr (Or.inr rfl))(hd:(x==("__debug__":Str))=false:=by decide)(hcd:(x==("__classdict__":Str))=false:=by decide)(hp:∀(tx:TE) (tg:TE),PE X (.Name x xpos) tx->PE X a tg->PG X (.Subscript (.Name x xpos) a tpos) (vC tx tg vW):=by intro _ _ h1 h2;exact aq2 h1 h2 av4)(hs:swapsWithSole [.Subscript (.Name x xpos) a tpos] e pos.line X.env=pure false:=by rfl)(hw:swappedStores [.Subscript (.Name x xpos) a tpos] e X.env=pure none:=by rfl) :
  QS X (.Assign [.Subscript (.Name x xpos) a tpos] e pos) (lB i tk te):=dW (C7 he (hp _ _ (jN hN hv hd hcd) hk) hs hw) λ_ _ _=>aE8
end
end PP
namespace SO
open PySem PyProof.Rows
section
variable (rk:Keyed→Int)
def Kr (xs:Array Keyed)(i:Nat):Int:=((xs[i]?).map rk).getD 0
def Up (xs:Array Keyed)(lo hi:Nat):Prop:=∀i j,lo<=i->i<=j->j<hi->Kr rk xs i<=Kr rk xs j
def Dn (xs:Array Keyed)(lo hi:Nat):Prop:=∀i j,lo<=i->i<=j->j<hi->Kr rk xs j<=Kr rk xs i
end
variable {rk:Keyed→Int}
theorem mF {xs ys:Array Keyed}{i j:Nat}(h:xs[i]? = ys[j]?):Kr rk xs i=Kr rk ys j:=by unfold Kr;rw[h]
theorem t7 {xs:Array Keyed}{i j:Nat}(hj:j<=xs.size)(k:Nat):Kr rk (mirror xs i j ((j-i)/2)) k=Kr rk xs (if i<=k/\k<j then i+j-1-k else k):=by
 refine mF ?_
 rw[getElem?_mirror_all hj]
 split<;>rfl
theorem xS {xs:Array Keyed}{i j:Nat}(hj:j<=xs.size)(e:∀k,i<=k->k<j->Kr rk xs k=Kr rk xs (j-1))(k:Nat):Kr rk (mirror xs i j ((j-i)/2)) k=Kr rk xs k:=by
 rw[t7 hj]
 split
 ·rename_i h;rw[e k h.1 h.2,e _ (by omega) (by omega)]
 ·rfl
theorem aJ3 {xs:Array Keyed}{src d:Nat}(hs:src<xs.size)(hd:d<=src)(k:Nat):Kr rk (bubble xs src d) k=Kr rk xs (if k=src-d then src else if src-d<k/\k<=src then k-1 else k):=by
 refine mF ?_
 rw[getElem?_bubble hs d hd]
 repeat' split
 all_goals rfl
structure SB (κ:SortKind)(a0:Array Keyed)(pd:Array (Nat×Nat×Nat))(st:SortSt):Prop where
 pm:(arrOf st).Perm a0
 kd:kindOf st=κ
 ok:failedOf st=none
 pd:pendingOf st=pd
section
variable {κ:SortKind}{a0:Array Keyed}{pd:Array (Nat×Nat×Nat)}{st:SortSt}{prog:Program}{w:World}{A:Around}{E:Value→Shared→Prop}{s:Shared}{Ok:Keyed→Prop}
theorem SB.sz (h:SB κ a0 pd st):(arrOf st).size=a0.size:=h.pm.size_eq
theorem SB.put (h:SB κ a0 pd st){xs:Array Keyed}(hp:xs.Perm (arrOf st)):SB κ a0 pd (setArr st xs):=⟨hp.trans h.pm,h.kd,h.ok,h.pd⟩
def cR (prog:Program)(w:World)(A:Around)(E:Value->Shared->Prop)(s:Shared)(κ:SortKind)(Ok:Keyed->Prop)(rk:Keyed->Int):Prop:=
 ∀(x y:Keyed),Ok x->Ok y->∀(st:SortSt) (Q:Option Bool->SortSt->Prop),kindOf st=κ->Q (some (decide (rk x<rk y))) st->wpS (model prog w) A E s (lt' x y) Q st
def bT (Ok:Keyed->Prop)(xs:Array Keyed):Prop:=∀x∈xs,Ok x
theorem SB.all (h:SB κ a0 pd st)(o:bT Ok a0):bT Ok (arrOf st):=λx hx=>o x (h.pm.mem_iff.mp hx)
theorem dF {xs:Array Keyed}{i:Nat}{Q:Keyed->SortSt->Prop}(hi:i<xs.size)(h:Q xs[i] st):wpS (model prog w) A E s (elem' xs i) Q st:=by
 rw[elem'_eq,getElem?_pos xs i hi];exact bp0 h
theorem cA {xs:Array Keyed}{i:Nat}(hi:i<xs.size):Kr rk xs i=rk xs[i]:=by unfold Kr;rw[getElem?_pos xs i hi];rfl
theorem pU (c:cR prog w A E s κ Ok rk)(o:bT Ok a0)(b:SB κ a0 pd st){i j:Nat}{Q:Option Bool->SortSt->Prop}(hi:i<a0.size)(hj:j<a0.size)(h:Q (some (decide (Kr rk (arrOf st) i<Kr rk (arrOf st) j))) st):wpS (model prog w) A E s (ltAt' i j) Q st:=by
 have hi':i<(arrOf st).size:=by rw[b.sz];exact hi
 have hj':j<(arrOf st).size:=by rw[b.sz];exact hj
 rw[ltAt'_eq]
 refine bo0 (wpS_get (bo0 (dF hi' (bo0 (dF hj' ?_)))))
 refine c _ _ (b.all o _ (bt1 hi')) (b.all o _ (bt1 hj')) st Q b.kd ?_
 rw[<- cA (rk:=rk) hi',<- cA (rk:=rk) hj'];exact h
theorem t8 {i j:Nat}{Q:Unit->SortSt->Prop}(h:Q () (setArr st (mirror (arrOf st) i j ((j-i)/2)))):wpS (model prog w) A E s (reverseSlice' i j) Q st:=by
 rw[reverseSlice'_eq];exact wpS_modify h
abbrev CS:=Option (Option Nat)×Nat
abbrev DS:=Option (Option Nat)×Nat×Nat
def pV (lo b nrem:Nat):StateT SortSt Sem CS:=forIn [b:nrem] ((none,b):CS) λ_ r=>do
 match <- ltAt' (lo+r.2) (lo+r.2-1) with
 |some q=>if q=true then pure (ForInStep.done (none,r.2)) else pure (ForInStep.yield (none,r.2+1))
 |_=>pure (ForInStep.done (some none,r.2))
def xT (lo b nrem:Nat):StateT SortSt Sem DS:=forIn [b:nrem] ((none,b,0):DS) λ_ r=>do
 match <- ltAt' (lo+r.2.1) (lo+r.2.1-1) with
 |some q=>
  if q=true then (if r.2.2>0 then do reverseSlice' (lo+r.2.1-(r.2.2+1)) (lo+r.2.1);pure (ForInStep.yield (none,r.2.1+1,0)) else pure (ForInStep.yield (none,r.2.1+1,0)))
  else do
   match <- ltAt' (lo+r.2.1-1) (lo+r.2.1) with
   |some q=>if q=true then pure (ForInStep.done (none,r.2.1,r.2.2)) else pure (ForInStep.yield (none,r.2.1+1,r.2.2+1))
   |_=>pure (ForInStep.done (some none,r.2.1,r.2.2))
 |_=>pure (ForInStep.done (some none,r.2.1,r.2.2))
theorem V4 (c:cR prog w A E s κ Ok rk)(o:bT Ok a0)(b:SB κ a0 pd st){lo n nrem:Nat}{Q:CS->SortSt->Prop}(hz:lo+nrem<=a0.size)(h1:1<=n)(hn:n<=nrem)(u:Up rk (arrOf st) lo (lo+n))(h:∀m,n<=m->m<=nrem->Up rk (arrOf st) lo (lo+m)->(m=nrem∨Kr rk (arrOf st) (lo+m)<Kr rk (arrOf st) (lo+m-1))->Q (none,m) st):wpS (model prog w) A E s (pV lo n nrem) Q st:=by
 unfold pV
 refine bv9 (I:=λx r st'=>st'=st/\r=(none,x)/\Up rk (arrOf st) lo (lo+x)) ?_ ?_ ⟨rfl,rfl,u⟩
 ·rintro x r st' hx hx' ⟨rfl,rfl,u'⟩
  refine bo0 (pU c o b (by omega) (by omega) ?_)
  by_cases hq:Kr rk (arrOf st') (lo+x)<Kr rk (arrOf st') (lo+x-1)
  ·rw[bm4 hq]
   exact bp0 (h x hx (by omega) u' (.inr hq))
  ·rw[bm9 hq]
   refine bp0 ⟨rfl,rfl,λi j hi hij hj=>?_⟩
   rcases bt2 j (lo+x) with z|z
   ·exact u' i j hi hij z
   ·have ej:j=lo+x:=by omega
    subst ej
    rcases bB7 hij with z|z
    ·rw[z];exact bs6 _
    ·have:=u' i (lo+x-1) hi (by omega) (by omega)
     omega
 ·rintro r st' ⟨rfl,rfl,u'⟩
  have em:max n nrem=nrem:=by omega
  rw[em]at u' ⊢
  exact h nrem hn (bn1 _) u' (.inl rfl)
structure pW (rk:Keyed->Int)(xs ys:Array Keyed)(lo m q:Nat):Prop where
 dn:Dn rk ys lo (lo+m)
 le:q+1<=m
 eq:∀i,lo+m-(q+1)<=i->i<lo+m->Kr rk ys i=Kr rk ys (lo+m-1)
 low:∀i,i<lo->Kr rk ys i=Kr rk xs i
theorem aJ4 (c:cR prog w A E s κ Ok rk)(o:bT Ok a0)(b:SB κ a0 pd st){lo n nrem:Nat}{xs:Array Keyed}{Q:DS->SortSt->Prop}(hz:lo+nrem<=a0.size)(h1:1<=n)(hn:n<=nrem)(u:pW rk xs (arrOf st) lo n 0)(h:∀m q st',SB κ a0 pd st'->n<=m->m<=nrem->pW rk xs (arrOf st') lo m q->Q (none,m,q) st'):wpS (model prog w) A E s (xT lo n nrem) Q st:=by
 unfold xT
 refine bv9 (I:=λx r st'=>∃q,r=(none,x,q)/\SB κ a0 pd st'/\pW rk xs (arrOf st') lo x q) ?_ ?_ ⟨0,rfl,b,u⟩
 ·rintro x r st' hx hx' ⟨q,rfl,b',f⟩
  have sz:=b'.sz
  dsimp only
  refine bo0 (pU c o b' (by omega) (by omega) ?_)
  by_cases hq:Kr rk (arrOf st') (lo+x)<Kr rk (arrOf st') (lo+x-1)
  ·rw[bm4 hq]
   have nx:∀ys:Array Keyed,(∀k,Kr rk ys k=Kr rk (arrOf st') k)->pW rk xs ys lo (x+1) 0:=λys e=>by
    refine⟨λi j hi hij hj=>?_,by omega,λi h1 h2=>by rw[show i=lo+(x+1)-1 by omega],λi hi=>(e i).trans (f.low i hi)⟩
    rw[e,e]
    rcases bt2 j (lo+x) with z|z
    ·exact f.dn i j hi hij z
    ·have ej:j=lo+x:=by omega
     subst ej
     rcases bB7 hij with z|z
     ·rw[z];exact bs6 _
     ·have:=f.dn i (lo+x-1) hi (by omega) (by omega)
      omega
   dsimp only
   rw[if_pos rfl]
   by_cases hp:q>0
   ·rw[if_pos hp]
    exact bo0 (t8 (bp0 ⟨0,rfl,b'.put (mirror_perm _ _ _ _),nx _ (xS (by omega) f.eq)⟩))
   ·rw[if_neg hp]
    exact bp0 ⟨0,rfl,b',nx _ λ_=>rfl⟩
  ·rw[bm9 hq]
   dsimp only
   rw[if_neg bo4]
   refine bo0 (pU c o b' (by omega) (by omega) ?_)
   by_cases hl:Kr rk (arrOf st') (lo+x-1)<Kr rk (arrOf st') (lo+x)
   ·rw[bm4 hl]
    exact bp0 (h x q st' b' hx (by omega) f)
   ·rw[bm9 hl]
    have ex:Kr rk (arrOf st') (lo+x)=Kr rk (arrOf st') (lo+x-1):=by omega
    refine bp0 ⟨q+1,rfl,b',λi j hi hij hj=>?_,by have:=f.le;omega,λi h1 h2=>?_,f.low⟩
    ·rcases bt2 j (lo+x) with z|z
     ·exact f.dn i j hi hij z
     ·have ej:j=lo+x:=by omega
      subst ej
      rcases bB7 hij with z|z
      ·rw[z];exact bs6 _
      ·rw[ex];exact f.dn i (lo+x-1) hi (by omega) (by omega)
    ·rw[show lo+(x+1)-1=lo+x by omega]
     rcases bt2 i (lo+x) with z|z
     ·rw[ex];exact f.eq i (by omega) z
     ·rw[show i=lo+x by omega]
 ·rintro r st' ⟨q,rfl,b',f⟩
  have em:max n nrem=nrem:=by omega
  rw[em]at f ⊢
  exact h nrem q st' b' hn (bn1 _) f
theorem V5 (c:cR prog w A E s κ Ok rk)(o:bT Ok a0)(b:SB κ a0 pd st){lo nrem:Nat}(n:Nat){xs:Array Keyed}{Q:Option Nat->SortSt->Prop}{K:DS->StateT SortSt Sem (Option Nat)}{k:CS->StateT SortSt Sem (Option Nat)}(hz:lo+nrem<=a0.size)(hn:n+1<=nrem)(hK:∀m q,K (none,m,q)=if q>0 then reverseSlice' (lo+m-(q+1)) (lo+m) >>= λ_=>reverseSlice' lo (lo+m) >>= λ_=>pV lo m nrem >>= k else reverseSlice' lo (lo+m) >>= λ_=>pV lo m nrem >>= k)(hk:∀m,k (none,m)=pure (some m))(u:pW rk xs (arrOf st) lo (n+1) 0)(h:∀m st',SB κ a0 pd st'->1<=m->m<=nrem->Up rk (arrOf st') lo (lo+m)->(∀i,i<lo->Kr rk (arrOf st') i=Kr rk xs i)->Q (some m) st'):wpS (model prog w) A E s (liftM (rule "list.sort.descending-run") >>= λ_=>xT lo (n+1) nrem >>= K) Q st:=by
 refine bo0 (wpS_lift (bD2 ⟨rfl,?_⟩))
 refine bo0 (aJ4 c o b hz (by omega) hn u λm q st1 b1 m1 m2 f=>?_)
 have fin:∀st2:SortSt,SB κ a0 pd st2->(∀k,Kr rk (arrOf st2) k=Kr rk (arrOf st1) k)->
   wpS (model prog w) A E s (reverseSlice' lo (lo+m) >>= λ_=>pV lo m nrem >>= k) Q st2:=λst2 b2 e=>by
  have sz:=b2.sz
  have low:∀i,i<lo->Kr rk (mirror (arrOf st2) lo (lo+m) ((lo+m-lo)/2)) i=Kr rk xs i:=λi hi=>by
   rw[t7 (by omega),if_neg (by omega),e]
   exact f.low i hi
  refine bo0 (t8 (bo0 (V4 (κ:=κ) c o (b2.put (mirror_perm _ _ _ _)) hz (by omega) m2 ?_ λm' h1 h2 up _=>by rw[hk];exact bp0 (h m' _ (b2.put (mirror_perm _ _ _ _)) (by omega) h2 up low))))
  ·intro i j hi hij hj
   show Kr rk (mirror (arrOf st2) lo (lo+m) _) i<=Kr rk (mirror (arrOf st2) lo (lo+m) _) j
   rw[t7 (by omega),t7 (by omega),if_pos (by omega),if_pos (by omega),e,e]
   exact f.dn _ _ (by omega) (by omega) (by omega)
 rw[hK]
 by_cases hp:q>0
 ·rw[if_pos hp]
  have sz:=b1.sz
  exact bo0 (t8 (fin _ (b1.put (mirror_perm _ _ _ _)) (xS (by omega) f.eq)))
 ·rw[if_neg hp]
  exact fin st1 b1 λ_=>rfl
theorem aJ5 (c:cR prog w A E s κ Ok rk)(o:bT Ok a0)(b:SB κ a0 pd st){lo nrem:Nat}{Q:Option Nat->SortSt->Prop}(hz:lo+nrem<=a0.size)(h1:1<=nrem)(h:∀m st',SB κ a0 pd st'->1<=m->m<=nrem->Up rk (arrOf st') lo (lo+m)->(∀i,i<lo->Kr rk (arrOf st') i=Kr rk (arrOf st) i)->Q (some m) st'):wpS (model prog w) A E s (countRun' lo nrem) Q st:=by
 rw[countRun'_eq]
 refine bo0 (V4 (n:=1) c o b hz (bn1 _) h1 (λi j hi hij hj=>by rw[show i=j by omega];exact bs6 _) λn n1 n2 un on=>?_)
 dsimp only
 by_cases en:(n==nrem)=true
 ·rw[if_pos en]
  exact bp0 (h n st b n1 n2 un λ_ _=>rfl)
 ·rw[if_neg en]
  have en':n≠nrem:=by simpa using en
  have lt:=on.resolve_left en'
  have sz:=b.sz
  by_cases g:n>1
  ·rw[if_pos g]
   refine bo0 (pU c o b (by omega) (by omega) ?_)
   by_cases hq:Kr rk (arrOf st) lo<Kr rk (arrOf st) (lo+n-1)
   ·rw[bm4 hq]
    exact bp0 (h n st b n1 n2 un λ_ _=>rfl)
   ·rw[bm9 hq]
    dsimp only
    rw[if_neg bo4]
    have all:∀k,lo<=k->k<lo+n->Kr rk (arrOf st) k=Kr rk (arrOf st) (lo+n-1):=λk k1 k2=>by
     have a1:=un lo k (bn1 _) k1 k2
     have a2:=un k (lo+n-1) k1 (by omega) (by omega)
     omega
    have sm:=xS (rk:=rk) (xs:=arrOf st) (i:=lo) (j:=lo+n) (by omega) all
    refine bo0 (t8 (V5 (xs:=arrOf st) (κ:=κ) c o (b.put (mirror_perm _ _ _ _)) n hz (by omega) (λ_ _=>rfl) (λ_=>rfl) ⟨λi j hi hij hj=>?_,by omega,λi h1 h2=>by rw[show i=lo+(n+1)-1 by omega],λi _=>sm i⟩ h))
    show Kr rk (mirror (arrOf st) lo (lo+n) _) j<=Kr rk (mirror (arrOf st) lo (lo+n) _) i
    rw[sm,sm]
    rcases bt2 j (lo+n) with z|z
    ·rw[all i hi (by omega),all j (by omega) z];exact bs6 _
    ·have ej:j=lo+n:=by omega
     subst ej
     rcases bB7 hij with z|z
     ·rw[z];exact bs6 _
     ·rw[all i hi (by omega)];exact bC2 lt
  ·rw[if_neg g]
   have e1:n=1:=by omega
   subst e1
   refine V5 (xs:=arrOf st) c o b 1 hz (by omega) (λ_ _=>rfl) (λ_=>rfl) ⟨λi j hi hij hj=>?_,by omega,λi h1 h2=>by rw[show i=lo+(1+1)-1 by omega],λi _=>rfl⟩ h
   rcases bB7 hij with z|z
   ·rw[z];exact bs6 _
   ·have ei:i=lo+1-1:=by omega
    have ej:j=lo+1:=by omega
    rw[ei,ej];exact bC2 lt
theorem aJ6 (c:cR prog w A E s κ Ok rk)(o:bT Ok a0)(b:SB κ a0 pd st){lo n q:Nat}{Q:Bool->SortSt->Prop}(hz:lo+n<=a0.size)(hq:q<=n)(u:Up rk (arrOf st) lo (lo+q))(h:∀st',SB κ a0 pd st'->Up rk (arrOf st') lo (lo+n)->(∀i,i<lo->Kr rk (arrOf st') i=Kr rk (arrOf st) i)->Q true st'):wpS (model prog w) A E s (binarySort' lo n q) Q st:=by
 rw[binarySort'_eq]
 refine bo0 (bC3 (bv9 (I:=λk r st'=>r=(none,())/\SB κ a0 pd st'/\Up rk (arrOf st') lo (lo+min k n)/\∀i,i<lo->Kr rk (arrOf st') i=Kr rk (arrOf st) i)
  (Q:=λr st'=>r=(none,())/\SB κ a0 pd st'/\Up rk (arrOf st') lo (lo+n)/\∀i,i<lo->Kr rk (arrOf st') i=Kr rk (arrOf st) i) ?_ ?_ ?_) ?_)
 ·rintro k r st1 hk hkn ⟨rfl,b1,u1,l1⟩
  rw[show min k n=k by omega]at u1
  have hk0:lo+k<a0.size:=by omega
  have sz:=b1.sz
  refine bo0 (bC3 (bv9 (I:=λx r st'=>st'=st1/\∃l g,r=(none,l,g)/\l<=g/\g<=k/\g-l<=k-x/\(∀i,i<l->Kr rk (arrOf st1) (lo+i)<=Kr rk (arrOf st1) (lo+k))/\∀i,g<=i->i<k->Kr rk (arrOf st1) (lo+k)<Kr rk (arrOf st1) (lo+i))
   (Q:=λr st'=>st'=st1/\∃l g,r=(none,l,g)/\l<=k/\(∀i,i<l->Kr rk (arrOf st1) (lo+i)<=Kr rk (arrOf st1) (lo+k))/\∀i,l<=i->i<k->Kr rk (arrOf st1) (lo+k)<Kr rk (arrOf st1) (lo+i)) ?_ ?_ ?_) ?_)
  ·rintro x r st2 _ hx ⟨rfl,l,g,rfl,d1,d2,d3,f1,f2⟩
   dsimp only
   by_cases hlg:l >= g
   ·rw[if_pos hlg]
    have e:g=l:=by omega
    subst e
    exact bp0 ⟨rfl,g,g,rfl,d2,f1,f2⟩
   ·rw[if_neg hlg]
    refine bo0 (pU c o b1 hk0 (by omega) ?_)
    by_cases hc:Kr rk (arrOf st2) (lo+k)<Kr rk (arrOf st2) (lo+(l+g)/2)
    ·rw[bm4 hc]
     refine bp0 ⟨rfl,l,(l+g)/2,rfl,by omega,by omega,by omega,f1,λi i1 i2=>?_⟩
     have:=u1 (lo+(l+g)/2) (lo+i) (by omega) (by omega) (by omega)
     omega
    ·rw[bm9 hc]
     refine bp0 ⟨rfl,(l+g)/2+1,g,rfl,by omega,d2,by omega,λi i1=>?_,f2⟩
     have:=u1 (lo+i) (lo+(l+g)/2) (by omega) (by omega) (by omega)
     omega
  ·rintro r st2 ⟨rfl,l,g,rfl,d1,d2,d3,f1,f2⟩
   have e:g=l:=by omega
   subst e
   exact⟨rfl,g,g,rfl,d2,f1,f2⟩
  ·exact⟨rfl,0,k,rfl,by omega,by omega,by omega,λi hi=>absurd hi (by omega),λi i1 i2=>absurd i1 (by omega)⟩
  ·rintro r st2 ⟨rfl,l,g,rfl,d,f1,f2⟩
   dsimp only
   rw[moveDown'_eq]
   have kb:∀i,Kr rk (bubble (arrOf st2) (lo+k) (lo+k-(lo+l))) i=Kr rk (arrOf st2) (if i=lo+l then lo+k else if lo+l<i/\i<=lo+k then i-1 else i):=λi=>by
    rw[aJ3 (by omega) (by omega),show lo+k-(lo+k-(lo+l))=lo+l by omega]
   refine bo0 (wpS_modify (bp0 ⟨rfl,b1.put (bubble_perm _ _ _),λi j hi hij hj=>?_,λi hi=>?_⟩))
   ·show Kr rk (bubble (arrOf st2) (lo+k) (lo+k-(lo+l))) i<=Kr rk (bubble (arrOf st2) (lo+k) (lo+k-(lo+l))) j
    rw[kb,kb]
    rw[show min (k+1) n=k+1 by omega]at hj
    have v1:∀p,lo<=p->p<lo+l->Kr rk (arrOf st2) p<=Kr rk (arrOf st2) (lo+k):=λp p1 p2=>by have:=f1 (p-lo) (by omega);rwa [show lo+(p-lo)=p by omega]at this
    have v2:∀p,lo+l<=p->p<lo+k->Kr rk (arrOf st2) (lo+k)<Kr rk (arrOf st2) p:=λp p1 p2=>by have:=f2 (p-lo) (by omega) (by omega);rwa [show lo+(p-lo)=p by omega]at this
    repeat' split
    all_goals first
     |(exfalso;omega)
     |exact bs6 _
     |exact v1 _ (by omega) (by omega)
     |exact bC2 (v2 _ (by omega) (by omega))
     |exact u1 _ _ (by omega) (by omega) (by omega)
   ·show Kr rk (bubble (arrOf st2) (lo+k) (lo+k-(lo+l))) i=_
    rw[kb,if_neg (by omega),if_neg (by omega)]
    exact l1 i hi
 ·rintro r st1 ⟨rfl,b1,u1,l1⟩
  rw[show min (max (max q 1) n) n=n by omega]at u1
  exact⟨rfl,b1,u1,l1⟩
 ·refine⟨rfl,b,λi j hi hij hj=>?_,λ_ _=>rfl⟩
  rcases bt2 j (lo+q) with z|z
  ·exact u i j hi hij z
  ·rw[show i=j by omega];exact bs6 _
 ·rintro r st1 ⟨rfl,b1,u1,l1⟩
  exact bp0 (h st1 b1 u1 l1)
end
def lD:Bool->Keyed->Array Keyed->Nat->Nat->Nat->StateT SortSt Sem (Option Nat):=sortPriv% PySem.Builtin.gallop
def mG (lf:Bool)(key:Keyed)(xs:Array Keyed)(bs i:Nat):StateT SortSt Sem (Option Bool):=do
 let z <- elem' xs (bs+i)
 if lf then lt' z key else return (<- lt' key z).map (!·)
theorem aJ7 (lf:Bool)(key:Keyed)(xs:Array Keyed)(bs n h:Nat):lD lf key xs bs n h=(do
 let mut la:=0
 let mut of:=1
 let mut l:=0
 let mut g:=0
 let some rt <- mG lf key xs bs h|return none
 if rt then
  let mx:=n-h
  for _ in [0:n] do
   if of >= mx then break
   let some mr <- mG lf key xs bs (h+of)|return none
   if !mr then break
   la:=of
   of:=2*of+1
  l:=h+la+1
  g:=h+min of mx
 else
  let mx:=h+1
  for _ in [0:n] do
   if of >= mx then break
   let some fd <- mG lf key xs bs (h-of)|return none
   if fd then break
   la:=of
   of:=2*of+1
  l:=h+1-min of mx
  g:=h-la
 for _ in [0:n] do
  if l >= g then break
  let m:=l+(g-l)/2
  let some mr <- mG lf key xs bs m|return none
  if mr then l:=m+1 else g:=m
 return some g):=rfl
section
variable {rk:Keyed→Int}{κ:SortKind}{st:SortSt}{prog:Program}{w:World}{A:Around}{E:Value→Shared→Prop}{s:Shared}{Ok:Keyed→Prop}
def bZ (rk:Keyed->Int)(lf:Bool)(key:Keyed)(xs:Array Keyed)(bs i:Nat):Bool:=if lf then decide (Kr rk xs (bs+i)<rk key) else decide (Kr rk xs (bs+i)<=rk key)
theorem t9 (c:cR prog w A E s κ Ok rk)(hk:kindOf st=κ){lf:Bool}{key:Keyed}{xs:Array Keyed}{bs i:Nat}{Q:Option Bool->SortSt->Prop}(ok:Ok key)(o:bT Ok xs)(hi:bs+i<xs.size)(h:Q (some (bZ rk lf key xs bs i)) st):wpS (model prog w) A E s (mG lf key xs bs i) Q st:=by
 unfold mG
 refine bo0 (dF hi ?_)
 unfold bZ at h
 rw[cA hi]at h
 cases lf with
 |true=>
  simp only[if_true]at h ⊢
  exact c _ _ (o _ (bt1 hi)) ok st Q hk h
 |false=>
  simp only[bp7,bu4]at h ⊢
  refine bo0 (c _ _ ok (o _ (bt1 hi)) st _ hk (bp0 ?_))
  have e:(!decide (rk key<rk xs[bs+i]))=decide (rk xs[bs+i]<=rk key):=by
   by_cases z:rk xs[bs+i]<=rk key
   ·rw[bm4 z,bm9 (by omega)];rfl
   ·rw[bm9 z,bm4 (by omega)];rfl
  show Q (some (!decide (rk key<rk xs[bs+i]))) st
  rw[e];exact h
abbrev GS:=Option (Option Nat)×Nat×Nat
def V6 (lf:Bool)(key:Keyed)(xs:Array Keyed)(bs n l g:Nat):StateT SortSt Sem GS:=forIn [0:n] ((none,l,g):GS) λ_ r=>
 if r.2.1 >= r.2.2 then pure (ForInStep.done (none,r.2.1,r.2.2)) else do
  match <- mG lf key xs bs (r.2.1+(r.2.2-r.2.1)/2) with
  |some q=>if q=true then pure (ForInStep.yield (none,r.2.1+(r.2.2-r.2.1)/2+1,r.2.2)) else pure (ForInStep.yield (none,r.2.1,r.2.1+(r.2.2-r.2.1)/2))
  |_=>pure (ForInStep.done (some none,r.2.1,r.2.2))
theorem V7 (c:cR prog w A E s κ Ok rk)(hk:kindOf st=κ){lf:Bool}{key:Keyed}{xs:Array Keyed}{bs n l g:Nat}{Q:GS->SortSt->Prop}(ok:Ok key)(o:bT Ok xs)(hz:bs+n<=xs.size)(mono:∀i j,i<=j->j<n->bZ rk lf key xs bs j=true->bZ rk lf key xs bs i=true)(hlg:l<=g)(hg:g<=n)(h1:∀i,i<l->bZ rk lf key xs bs i=true)(h2:∀i,g<=i->i<n->bZ rk lf key xs bs i=false)(hq:∀k,k<=n->(∀i,i<k->bZ rk lf key xs bs i=true)->(∀i,k<=i->i<n->bZ rk lf key xs bs i=false)->Q (none,k,k) st):wpS (model prog w) A E s (V6 lf key xs bs n l g) Q st:=by
 unfold V6
 refine bv9 (I:=λx r st'=>st'=st/\∃l g,r=(none,l,g)/\l<=g/\g<=n/\g-l<=n-x/\(∀i,i<l->bZ rk lf key xs bs i=true)/\∀i,g<=i->i<n->bZ rk lf key xs bs i=false) ?_ ?_ ⟨rfl,l,g,rfl,hlg,hg,by omega,h1,h2⟩
 ·rintro x r st' _ hx ⟨rfl,l,g,rfl,d1,d2,d3,f1,f2⟩
  dsimp only
  by_cases hc:l >= g
  ·rw[if_pos hc]
   have e:g=l:=by omega
   subst e
   exact bp0 (hq g d2 f1 f2)
  ·rw[if_neg hc]
   refine bo0 (t9 c hk ok o (by omega) ?_)
   cases z:bZ rk lf key xs bs (l+(g-l)/2) with
   |true=>exact bp0 ⟨rfl,_,_,rfl,by omega,d2,by omega,λi hi=>mono i (l+(g-l)/2) (by omega) (by omega) z,f2⟩
   |false=>
    refine bp0 ⟨rfl,_,_,rfl,by omega,by omega,by omega,f1,λi i1 i2=>?_⟩
    cases y:bZ rk lf key xs bs i with
    |false=>rfl
    |true=>rw[mono _ i i1 i2 y]at z;cases z
 ·rintro r st' ⟨rfl,l,g,rfl,d1,d2,d3,f1,f2⟩
  have e:g=l:=by omega
  subst e
  exact hq g d2 f1 f2
theorem nV (c:cR prog w A E s κ Ok rk)(hk:kindOf st=κ){lf:Bool}{key:Keyed}{xs:Array Keyed}{bs n h:Nat}{Q:Option Nat->SortSt->Prop}(ok:Ok key)(o:bT Ok xs)(hh:h<n)(hz:bs+n<=xs.size)(u:Up rk xs bs (bs+n))(hq:∀k,k<=n->(∀i,i<k->bZ rk lf key xs bs i=true)->(∀i,k<=i->i<n->bZ rk lf key xs bs i=false)->Q (some k) st):wpS (model prog w) A E s (lD lf key xs bs n h) Q st:=by
 have mono:∀i j,i<=j->j<n->bZ rk lf key xs bs j=true->bZ rk lf key xs bs i=true:=λi j hij hj e=>by
  have:=u (bs+i) (bs+j) (by omega) (by omega) (by omega)
  unfold bZ at e ⊢
  cases lf with
  |true=>simp only[if_true,bq1]at e ⊢;omega
  |false=>simp only[bp7,bu4,bq1]at e ⊢;omega
 have monf:∀i j,i<=j->j<n->bZ rk lf key xs bs i=false->bZ rk lf key xs bs j=false:=λi j hij hj e=>by
  cases z:bZ rk lf key xs bs j with
  |false=>rfl
  |true=>rw[mono i j hij hj z]at e;cases e
 rw[aJ7]
 refine bo0 (t9 c hk ok o (by omega) ?_)
 dsimp only
 cases z:bZ rk lf key xs bs h with
 |true=>
  rw[if_pos rfl]
  refine bo0 (bC3 (bv9 (I:=λx r st'=>st'=st/\∃la of,r=(none,la,of)/\la<of/\x<of/\h+la<n/\bZ rk lf key xs bs (h+la)=true)
   (Q:=λr st'=>st'=st/\∃la of,r=(none,la,of)/\la<of/\h+la<n/\bZ rk lf key xs bs (h+la)=true/\(of<n-h->bZ rk lf key xs bs (h+of)=false)) ?_ ?_ ⟨rfl,0,1,rfl,by omega,by omega,by omega,z⟩) ?_)
  ·rintro x r st' _ hx ⟨rfl,la,of,rfl,d1,d2,d3,f⟩
   dsimp only
   by_cases hc:of >= n-h
   ·rw[if_pos hc]
    exact bp0 ⟨rfl,la,of,rfl,d1,d3,f,λy=>absurd y (by omega)⟩
   ·rw[if_neg hc]
    refine bo0 (t9 c hk ok o (by omega) ?_)
    cases y:bZ rk lf key xs bs (h+of) with
    |true=>exact bp0 ⟨rfl,of,2*of+1,rfl,by omega,by omega,by omega,y⟩
    |false=>exact bp0 ⟨rfl,la,of,rfl,d1,d3,f,λ_=>y⟩
  ·rintro r st' ⟨rfl,la,of,rfl,d1,d2,d3,f⟩
   exact⟨rfl,la,of,rfl,d1,d3,f,λy=>absurd y (by omega)⟩
  ·rintro r st' ⟨rfl,la,of,rfl,d1,d3,f,ft⟩
   dsimp only
   refine bo0 (V7 (l:=h+la+1) (g:=h+min of (n-h)) c hk ok o hz mono (by omega) (by omega) (λi hi=>mono i (h+la) (by omega) d3 f) (λi i1 i2=>?_) λk k1 k2 k3=>bp0 (hq k k1 k2 k3))
   rcases bt2 of (n-h) with y|y
   ·exact monf (h+of) i (by omega) i2 (ft y)
   ·exact absurd i1 (by omega)
 |false=>
  rw[if_neg bo4]
  refine bo0 (bC3 (bv9 (I:=λx r st'=>st'=st/\∃la of,r=(none,la,of)/\la<of/\x<of/\la<=h/\bZ rk lf key xs bs (h-la)=false)
   (Q:=λr st'=>st'=st/\∃la of,r=(none,la,of)/\la<of/\la<=h/\bZ rk lf key xs bs (h-la)=false/\(of<h+1->bZ rk lf key xs bs (h-of)=true)) ?_ ?_ ⟨rfl,0,1,rfl,by omega,by omega,by omega,z⟩) ?_)
  ·rintro x r st' _ hx ⟨rfl,la,of,rfl,d1,d2,d3,f⟩
   dsimp only
   by_cases hc:of >= h+1
   ·rw[if_pos hc]
    exact bp0 ⟨rfl,la,of,rfl,d1,d3,f,λy=>absurd y (by omega)⟩
   ·rw[if_neg hc]
    refine bo0 (t9 c hk ok o (by omega) ?_)
    cases y:bZ rk lf key xs bs (h-of) with
    |false=>exact bp0 ⟨rfl,of,2*of+1,rfl,by omega,by omega,by omega,y⟩
    |true=>exact bp0 ⟨rfl,la,of,rfl,d1,d3,f,λ_=>y⟩
  ·rintro r st' ⟨rfl,la,of,rfl,d1,d2,d3,f⟩
   exact⟨rfl,la,of,rfl,d1,d3,f,λy=>absurd y (by omega)⟩
  ·rintro r st' ⟨rfl,la,of,rfl,d1,d3,f,ft⟩
   dsimp only
   refine bo0 (V7 (l:=h+1-min of (h+1)) (g:=h-la) c hk ok o hz mono (by omega) (by omega) (λi hi=>?_) (λi i1 i2=>monf (h-la) i i1 i2 f) λk k1 k2 k3=>bp0 (hq k k1 k2 k3))
   rcases bt2 of (h+1) with y|y
   ·exact mono i (h-of) (by omega) (by omega) (ft y)
   ·exact absurd hi (by omega)
end
def nW:Nat->StateT SortSt Sem Unit:=sortPriv% PySem.Builtin.setMinGallop
def xV:Array Keyed->Array Keyed->StateT SortSt Sem (Array Keyed):=sortPriv% PySem.Builtin.mergeLo
theorem aJ8 (g:Nat):nW g=modify (λst=>SortSt.mk' (kindOf st) (arrOf st) (pendingOf st) g (failedOf st)):=rfl
abbrev LS:=Option (Array Keyed)×Array Keyed×Nat×Nat×Nat×Nat×Nat
abbrev xW:=Option (Array Keyed)×Array Keyed×Nat×Nat×Nat×Nat
abbrev LO:=Option (Array Keyed)×Array Keyed×Nat×Nat×Nat
def tD (x y o:Array Keyed)(i j mg p q:Nat):StateT SortSt Sem (ForInStep LS):=do
 let v <- elem' x i
 if (i+1+1==x.size)=true then pure (.done (some (o.push v++y.extract j y.size++x.extract (i+1) x.size),o.push v,i+1,j,mg,p,q))
 else if (decide (p<7)&&decide (q<7))=true then pure (.done (none,o.push v,i+1,j,mg,p,q)) else pure (.yield (none,o.push v,i+1,j,mg,p,q))
def tE (x y o:Array Keyed)(i j mg p q:Nat):StateT SortSt Sem (ForInStep LS):=do
 let v <- elem' y j
 if (j+1==y.size)=true then pure (.done (some (o.push v++x.extract i x.size++y.extract (j+1) y.size),o.push v,i,j+1,mg,p,q)) else do
  let u <- elem' x i
  match <- lD true u y (j+1) (y.size-(j+1)) 0 with
  |some k=>
   if k>0 then
    if (j+1+k==y.size)=true then pure (.done (some (o.push v++y.extract (j+1) (j+1+k)++x.extract i x.size++y.extract (j+1+k) y.size),o.push v++y.extract (j+1) (j+1+k),i,j+1+k,mg,p,k))
    else tD x y (o.push v++y.extract (j+1) (j+1+k)) i (j+1+k) mg p k
   else tD x y (o.push v) i (j+1) mg p k
  |_=>pure (.done (some (o.push v++x.extract i x.size++y.extract (j+1) y.size),o.push v,i,j+1,mg,p,q))
def tF (x y o:Array Keyed)(i j mg p q:Nat):StateT SortSt Sem (ForInStep LS):=do
 nW mg
 let v <- elem' y j
 match <- lD false v x i (x.size-i) 0 with
 |some k=>
  if k>0 then
   if (i+k+1==x.size)=true then pure (.done (some (o++x.extract i (i+k)++y.extract j y.size++x.extract (i+k) x.size),o++x.extract i (i+k),i+k,j,mg,k,q))
   else if (i+k==x.size)=true then pure (.done (some (o++x.extract i (i+k)++x.extract (i+k) x.size++y.extract j y.size),o++x.extract i (i+k),i+k,j,mg,k,q))
   else tE x y (o++x.extract i (i+k)) (i+k) j mg k q
  else tE x y o i j mg k q
 |_=>pure (.done (some (o++x.extract i x.size++y.extract j y.size),o,i,j,mg,p,q))
def xX (x y o:Array Keyed)(i j mg p q:Nat):StateT SortSt Sem LS:=forIn [0:x.size+y.size] ((none,o,i,j,mg,p,q):LS) λ_ r=>
 if r.2.2.2.2.1>1 then tF x y r.2.1 r.2.2.1 r.2.2.2.1 (r.2.2.2.2.1-1) r.2.2.2.2.2.1 r.2.2.2.2.2.2 else tF x y r.2.1 r.2.2.1 r.2.2.2.1 r.2.2.2.2.1 r.2.2.2.2.2.1 r.2.2.2.2.2.2
def xY (x y o:Array Keyed)(i j mg:Nat):StateT SortSt Sem xW:=forIn [0:x.size+y.size] ((none,o,i,j,0,0):xW) λ_ r=>do
 let v <- elem' y r.2.2.2.1
 let u <- elem' x r.2.2.1
 match <- lt' v u with
 |some q=>
  if q=true then do
   let v <- elem' y r.2.2.2.1
   if (r.2.2.2.1+1==y.size)=true then pure (.done (some (r.2.1.push v++x.extract r.2.2.1 x.size++y.extract (r.2.2.2.1+1) y.size),r.2.1.push v,r.2.2.1,r.2.2.2.1+1,0,r.2.2.2.2.2+1))
   else if r.2.2.2.2.2+1 >= mg then pure (.done (none,r.2.1.push v,r.2.2.1,r.2.2.2.1+1,0,r.2.2.2.2.2+1)) else pure (.yield (none,r.2.1.push v,r.2.2.1,r.2.2.2.1+1,0,r.2.2.2.2.2+1))
  else do
   let u <- elem' x r.2.2.1
   if (r.2.2.1+1+1==x.size)=true then pure (.done (some (r.2.1.push u++y.extract r.2.2.2.1 y.size++x.extract (r.2.2.1+1) x.size),r.2.1.push u,r.2.2.1+1,r.2.2.2.1,r.2.2.2.2.1+1,0))
   else if r.2.2.2.2.1+1 >= mg then pure (.done (none,r.2.1.push u,r.2.2.1+1,r.2.2.2.1,r.2.2.2.2.1+1,0)) else pure (.yield (none,r.2.1.push u,r.2.2.1+1,r.2.2.2.1,r.2.2.2.2.1+1,0))
 |_=>pure (.done (some (r.2.1++x.extract r.2.2.1 x.size++y.extract r.2.2.2.1 y.size),r.2.1,r.2.2.1,r.2.2.2.1,r.2.2.2.2.1,r.2.2.2.2.2))
def V8 (x y o:Array Keyed)(i j mg:Nat):StateT SortSt Sem LO:=forIn [0:x.size+y.size] ((none,o,i,j,mg):LO) λ_ r=>do
 let u <- xY x y r.2.1 r.2.2.1 r.2.2.2.1 r.2.2.2.2
 match u.1 with
 |some z=>pure (.done (some z,u.2.1,u.2.2.1,u.2.2.2.1,r.2.2.2.2))
 |none=>do
  liftM (rule "list.sort.gallop")
  let v <- xX x y u.2.1 u.2.2.1 u.2.2.2.1 (r.2.2.2.2+1) u.2.2.2.2.1 u.2.2.2.2.2
  match v.1 with
  |some z=>pure (.done (some z,v.2.1,v.2.2.1,v.2.2.2.1,v.2.2.2.2.1))
  |none=>do
   nW (v.2.2.2.2.1+1)
   pure (.yield (none,v.2.1,v.2.2.1,v.2.2.2.1,v.2.2.2.2.1+1))
theorem aJ9 (x y:Array Keyed):xV x y=(do
 liftM (rule "list.sort.merge-lo")
 let v <- elem' y 0
 if (1==y.size)=true then pure (#[v]++x.extract 0 x.size++y.extract 1 y.size)
 else if (0+1==x.size)=true then pure (#[v]++y.extract 1 y.size++x.extract 0 x.size)
 else do
  let z <- get
  let r <- V8 x y #[v] 0 1 (gallopOf z)
  match r.1 with
  |some z=>pure z
  |none=>unsupported "internal:list.sort.merge-bound"):=by kernel_rfl
section
variable (rk:Keyed→Int)
def Sd (l:List Keyed):Prop:=l.Pairwise λa b=>rk a<=rk b
structure MI (xs ys o:List Keyed)(i j:Nat):Prop where
 pm:o.Perm (xs.take i++ys.take j)
 sx:Sd rk (o++xs.drop i)
 sy:Sd rk (o++ys.drop j)
end
variable {rk:Keyed→Int}{xs ys o:List Keyed}{i j:Nat}
theorem Sd.ins {o a b d:List Keyed}(h1:Sd rk (o++a))(h2:Sd rk (o++(b++d)))(h:∀u∈b,∀t∈a,rk u<=rk t):Sd rk ((o++b)++a):=by
 unfold Sd at *
 rw[bq6]
 obtain⟨p1,p2,p3⟩:=bu1.mp h1
 obtain⟨q1,q2,q3⟩:=bu1.mp h2
 obtain⟨r1,r2,r3⟩:=bu1.mp q2
 refine bu1.mpr ⟨p1,bu1.mpr ⟨r1,p2,h⟩,λu hu t ht=>?_⟩
 rcases bn0.mp ht with z|z
 ·exact q3 u hu t (bo3 _ z)
 ·exact p3 u hu t z
theorem MI.ofy (m:MI rk xs ys o i j)(k:Nat)(h:∀u∈(ys.drop j).take k,∀t∈xs.drop i,rk u<=rk t):MI rk xs ys (o++(ys.drop j).take k) i (j+k):=by
 have e:(ys.drop j).take k++ys.drop (j+k)=ys.drop j:=by rw[<- List.drop_drop];exact br2 k _
 refine⟨?_,Sd.ins m.sx (d:=ys.drop (j+k)) (by rw[e];exact m.sy) h,by rw[bq6,e];exact m.sy⟩
 rw[List.take_add,<- bq6]
 exact m.pm.append_right _
theorem MI.ofx (m:MI rk xs ys o i j)(k:Nat)(h:∀u∈(xs.drop i).take k,∀t∈ys.drop j,rk u<=rk t):MI rk xs ys (o++(xs.drop i).take k) (i+k) j:=by
 have e:(xs.drop i).take k++xs.drop (i+k)=xs.drop i:=by rw[<- List.drop_drop];exact br2 k _
 refine⟨?_,by rw[bq6,e];exact m.sx,Sd.ins m.sy (d:=xs.drop (i+k)) (by rw[e];exact m.sx) h⟩
 rw[List.take_add]
 refine (m.pm.append_right _).trans ?_
 rw[bq6,bq6]
 exact (bB9).append_left _
theorem MI.fin (m:MI rk xs ys o i j)(h:xs.length<=i∨ys.length<=j):(o++xs.drop i++ys.drop j).Perm (xs++ys)/\Sd rk (o++xs.drop i++ys.drop j):=by
 refine⟨?_,?_⟩
 ·rw[bq6]
  refine (m.pm.append_right _).trans ?_
  have e1:xs=xs.take i++xs.drop i:=(br2 i xs).symm
  have e2:ys=ys.take j++ys.drop j:=(br2 j ys).symm
  conv=>rhs;rw[e1,e2]
  rw[bq6,bq6]
  refine List.Perm.append_left _ ?_
  rw[<- bq6,<- bq6]
  exact (bB9).append_right _
 ·rcases h with h|h
  ·rw[List.drop_eq_nil_of_le h,bs1];exact m.sy
  ·rw[List.drop_eq_nil_of_le h,bs1];exact m.sx
theorem MI.lst (m:MI rk xs ys o i j)(h:∀u∈ys,∀t∈xs.drop i,rk u<=rk t):(o++ys.drop j++xs.drop i).Perm (xs++ys)/\Sd rk (o++ys.drop j++xs.drop i):=by
 have m2:=m.ofy ys.length λu hu t ht=>h u (List.mem_of_mem_drop (bv8 hu)) t ht
 have e:(ys.drop j).take ys.length=ys.drop j:=bp8 (by simp)
 rw[e]at m2
 have f:=m2.fin (.inr (by omega))
 rw[List.drop_eq_nil_of_le (as:=ys) (i:=j+ys.length) (by omega),bs1]at f
 exact f
theorem V9 {x:Array Keyed}{i k:Nat}{u:Keyed}(h:u∈(x.toList.drop i).take k):∃t,t<k/\i+t<x.size/\rk u=Kr rk x (i+t):=by
 obtain⟨t,ht,e⟩:=bq5 h
 have h1:t<k/\i+t<x.size:=by simp at ht;omega
 refine⟨t,h1.1,h1.2,?_⟩
 rw[cA h1.2,<- e]
 simp
theorem pX {x:Array Keyed}{i:Nat}{u:Keyed}(h:u∈x.toList.drop i):∃t,i+t<x.size/\rk u=Kr rk x (i+t):=by
 obtain⟨t,ht,e⟩:=bq5 h
 have h1:i+t<x.size:=by simp at ht;omega
 refine⟨t,h1,?_⟩
 rw[cA h1,<- e]
 simp
theorem Sd.up {x:Array Keyed}(h:Sd rk x.toList)(lo hi:Nat)(hh:hi<=x.size):Up rk x lo hi:=λi j _ hij hj=>by
 rw[cA (by omega:i<x.size),cA (by omega:j<x.size)]
 rcases bB7 hij with z|z
 ·subst z;exact bs6 _
 ·have:=bt6.mp h i j (by simp;omega) (by simp;omega) z
  simpa using this
theorem W0 (x:Array Keyed)(i k:Nat):(x.extract i (i+k)).toList=(x.toList.drop i).take k:=by
 simp[List.extract]
theorem tG (x:Array Keyed)(i:Nat):(x.extract i x.size).toList=x.toList.drop i:=by
 simp[List.extract]
 exact bp8 (by simp)
theorem mH {x:Array Keyed}{i:Nat}(h:i<x.size):[x[i]]=(x.toList.drop i).take 1:=by
 rw[List.drop_eq_getElem_cons (by simpa using h)];simp
structure Gq (st st':SortSt):Prop where
 kd:kindOf st'=kindOf st
 ar:arrOf st'=arrOf st
 pd:pendingOf st'=pendingOf st
 ok:failedOf st'=failedOf st
theorem Gq.refl (st:SortSt):Gq st st:=⟨rfl,rfl,rfl,rfl⟩
section
variable {κ:SortKind}{st:SortSt}{prog:Program}{w:World}{A:Around}{E:Value→Shared→Prop}{s:Shared}{Ok:Keyed→Prop}
theorem tH {st0:SortSt}{g:Nat}{Q:Unit->SortSt->Prop}(q:Gq st0 st)(h:∀st',Gq st0 st'->Q () st'):wpS (model prog w) A E s (nW g) Q st:=by
 rw[aJ8];exact wpS_modify (h _ ⟨q.kd,q.ar,q.pd,q.ok⟩)
def eY (rk:Keyed->Int)(x y r:Array Keyed):Prop:=r.toList.Perm (x.toList++y.toList)/\Sd rk r.toList
theorem MI.y1 {x y o:Array Keyed}(m:MI rk x.toList y.toList o.toList i j)(hj:j<y.size)(h:∀t,i+t<x.size->rk y[j]<=Kr rk x (i+t)):MI rk x.toList y.toList (o.push y[j]).toList i (j+1):=by
 have:=m.ofy 1 λu hu t ht=>?_
 ·rw[<- mH hj]at this;simpa using this
 ·rw[<- mH hj,bm2]at hu
  subst hu
  obtain⟨q,q1,q2⟩:=pX (rk:=rk) ht
  rw[q2];exact h q q1
theorem MI.x1 {x y o:Array Keyed}(m:MI rk x.toList y.toList o.toList i j)(hi:i<x.size)(h:∀t,j+t<y.size->rk x[i]<=Kr rk y (j+t)):MI rk x.toList y.toList (o.push x[i]).toList (i+1) j:=by
 have:=m.ofx 1 λu hu t ht=>?_
 ·rw[<- mH hi]at this;simpa using this
 ·rw[<- mH hi,bm2]at hu
  subst hu
  obtain⟨q,q1,q2⟩:=pX (rk:=rk) ht
  rw[q2];exact h q q1
theorem MI.yk {x y o:Array Keyed}(m:MI rk x.toList y.toList o.toList i j)(k:Nat)(h:∀p t,p<k->j+p<y.size->i+t<x.size->Kr rk y (j+p)<=Kr rk x (i+t)):MI rk x.toList y.toList (o++y.extract j (j+k)).toList i (j+k):=by
 have:=m.ofy k λu hu t ht=>?_
 ·rw[<- W0]at this;rw[bu7];exact this
 ·obtain⟨p,p1,p2,p3⟩:=V9 (rk:=rk) hu
  obtain⟨q,q1,q2⟩:=pX (rk:=rk) ht
  rw[q2,p3];exact h p q p1 p2 q1
theorem MI.xk {x y o:Array Keyed}(m:MI rk x.toList y.toList o.toList i j)(k:Nat)(h:∀p t,p<k->i+p<x.size->j+t<y.size->Kr rk x (i+p)<=Kr rk y (j+t)):MI rk x.toList y.toList (o++x.extract i (i+k)).toList (i+k) j:=by
 have:=m.ofx k λu hu t ht=>?_
 ·rw[<- W0]at this;rw[bu7];exact this
 ·obtain⟨p,p1,p2,p3⟩:=V9 (rk:=rk) hu
  obtain⟨q,q1,q2⟩:=pX (rk:=rk) ht
  rw[q2,p3];exact h p q p1 p2 q1
theorem nX {key:Keyed}{xs:Array Keyed}{bs i:Nat}:bZ rk false key xs bs i=decide (Kr rk xs (bs+i)<=rk key):=rfl
theorem nY {key:Keyed}{xs:Array Keyed}{bs i:Nat}:bZ rk true key xs bs i=decide (Kr rk xs (bs+i)<rk key):=rfl
def GI (rk:Keyed->Int)(x y:Array Keyed)(lb:Nat)(st:SortSt)(c:LS)(st':SortSt):Prop:=Gq st st'/\∃o i j mg p q,c=(none,o,i,j,mg,p,q)/\MI rk x.toList y.toList o.toList i j/\i+1<x.size/\j<y.size/\lb<=i+j
def GQ (rk:Keyed->Int)(x y:Array Keyed)(lb:Nat)(st:SortSt)(c:LS)(st':SortSt):Prop:=Gq st st'/\((∃r o i j mg p q,c=(some r,o,i,j,mg,p,q)/\eY rk x y r)∨∃o i j mg p q,c=(none,o,i,j,mg,p,q)/\MI rk x.toList y.toList o.toList i j/\i+1<x.size/\j<y.size/\lb<=i+j)
def GR (rk:Keyed->Int)(x y:Array Keyed)(lb:Nat)(st:SortSt)(r:ForInStep LS)(st':SortSt):Prop:=match r with|.done c=>GQ rk x y lb st c st'|.yield c=>GI rk x y lb st c st'
theorem MI.done {x y o:Array Keyed}(m:MI rk x.toList y.toList o.toList i j)(hh:x.size<=i∨y.size<=j):eY rk x y (o++x.extract i x.size++y.extract j y.size):=by
 unfold eY
 rw[bu7,bu7,tG,tG]
 exact m.fin (by simpa using hh)
theorem MI.last {x y o:Array Keyed}(m:MI rk x.toList y.toList o.toList i j)(x0:0<x.size)(hl:∀u∈y.toList,rk u<=rk x[x.size-1])(hh:i+1=x.size):eY rk x y (o++y.extract j y.size++x.extract i x.size):=by
 unfold eY
 rw[bu7,bu7,tG,tG]
 refine m.lst λu hu t ht=>?_
 obtain⟨q,q1,q2⟩:=pX (rk:=rk) ht
 have e:i+q=x.size-1:=by omega
 rw[q2,e,cA (by omega)]
 exact hl u hu
theorem W5 {st0:SortSt}{x y o:Array Keyed}{mg p q lb:Nat}(x0:0<x.size)(hl:∀u∈y.toList,rk u<=rk x[x.size-1])(g:Gq st0 st)(m:MI rk x.toList y.toList o.toList i j)(hi:i+1<x.size)(hj:j<y.size)(hb:lb<=i+j)(hm:∀t,j+t<y.size->rk x[i]<=Kr rk y (j+t)):wpS (model prog w) A E s (tD x y o i j mg p q) (GR rk x y lb st0) st:=by
 unfold tD
 have hi':i<x.size:=by omega
 have m':=m.x1 hi' hm
 refine bo0 (dF hi' ?_)
 by_cases he:(i+1+1==x.size)=true
 ·rw[if_pos he]
  have he:i+1+1=x.size:=by simpa using he
  exact bp0 ⟨g,.inl ⟨_,_,_,_,_,_,_,rfl,m'.last x0 hl he⟩⟩
 ·rw[if_neg he]
  have he:i+1+1≠x.size:=by simpa using he
  split
  ·exact bp0 ⟨g,.inr ⟨_,_,_,_,_,_,rfl,m',by omega,hj,by omega⟩⟩
  ·exact bp0 ⟨g,_,_,_,_,_,_,rfl,m',by omega,hj,by omega⟩
theorem W6 (c:cR prog w A E s κ Ok rk){st0:SortSt}(hk:kindOf st0=κ){x y o:Array Keyed}{mg p q lb:Nat}(ox:bT Ok x)(oy:bT Ok y)(sx:Sd rk x.toList)(sy:Sd rk y.toList)(x0:0<x.size)(hl:∀u∈y.toList,rk u<=rk x[x.size-1])(g:Gq st0 st)(m:MI rk x.toList y.toList o.toList i j)(hi:i+1<x.size)(hj:j<y.size)(hb:lb<=i+j)(hm:∀t,i+t<x.size->rk y[j]<=Kr rk x (i+t)):wpS (model prog w) A E s (tE x y o i j mg p q) (GR rk x y lb st0) st:=by
 unfold tE
 have hi':i<x.size:=by omega
 have m':=m.y1 hj hm
 refine bo0 (dF hj ?_)
 by_cases he:(j+1==y.size)=true
 ·rw[if_pos he]
  have he:j+1=y.size:=by simpa using he
  exact bp0 ⟨g,.inl ⟨_,_,_,_,_,_,_,rfl,m'.done (.inr (by omega))⟩⟩
 ·rw[if_neg he]
  have he:j+1≠y.size:=by simpa using he
  refine bo0 (dF hi' (bo0 (nV c (g.kd.trans hk) (ox _ (bt1 hi')) oy (by omega) (by omega) (sy.up _ _ (by omega)) λk k1 k2 k3=>?_)))
  dsimp only
  have ux:=sx.up 0 _ (bn1 x.size)
  have mk:=m'.yk k λp t hp _ ht=>by
   have a1:=k2 p hp
   rw[nY,bq1]at a1
   have a2:=ux i (i+t) (by omega) (by omega) ht
   rw[cA hi']at a2
   omega
  have km:∀t,j+1+k+t<y.size->rk x[i]<=Kr rk y (j+1+k+t):=λt ht=>by
   have a1:=k3 (k+t) (by omega) (by omega)
   rw[nY,bs7,<- Nat.add_assoc]at a1
   omega
  by_cases hk0:k>0
  ·rw[if_pos hk0]
   by_cases hf:(j+1+k==y.size)=true
   ·rw[if_pos hf]
    have hf:j+1+k=y.size:=by simpa using hf
    exact bp0 ⟨g,.inl ⟨_,_,_,_,_,_,_,rfl,mk.done (.inr (by omega))⟩⟩
   ·rw[if_neg hf]
    have hf:j+1+k≠y.size:=by simpa using hf
    exact W5 x0 hl g mk hi (by omega) (by omega) km
  ·rw[if_neg hk0]
   have e0:k=0:=by omega
   subst e0
   exact W5 x0 hl g m' hi (by omega) (by omega) km
theorem W7 (c:cR prog w A E s κ Ok rk){st0:SortSt}(hk:kindOf st0=κ){x y o:Array Keyed}{mg p q lb:Nat}(ox:bT Ok x)(oy:bT Ok y)(sx:Sd rk x.toList)(sy:Sd rk y.toList)(x0:0<x.size)(hl:∀u∈y.toList,rk u<=rk x[x.size-1])(g:Gq st0 st)(m:MI rk x.toList y.toList o.toList i j)(hi:i+1<x.size)(hj:j<y.size)(hb:lb<=i+j) :
  wpS (model prog w) A E s (tF x y o i j mg p q) (GR rk x y lb st0) st:=by
 unfold tF
 refine bo0 (tH g λst4 q4=>bo0 (dF hj (bo0 (nV c (q4.kd.trans hk) (oy _ (bt1 hj)) ox (by omega) (by omega) (sx.up _ _ (by omega)) λk k1 k2 k3=>?_))))
 dsimp only
 have uy:=sy.up 0 _ (bn1 y.size)
 have mk:=m.xk k λp t hp _ ht=>by
  have a1:=k2 p hp
  rw[nX,bq1]at a1
  have a2:=uy j (j+t) (by omega) (by omega) ht
  rw[cA hj]at a2
  omega
 have km:∀t,i+k+t<x.size->rk y[j]<=Kr rk x (i+k+t):=λt ht=>by
  have a1:=k3 (k+t) (by omega) (by omega)
  rw[nX,bs7,<- Nat.add_assoc]at a1
  omega
 by_cases hk0:k>0
 ·rw[if_pos hk0]
  by_cases he:(i+k+1==x.size)=true
  ·rw[if_pos he]
   exact bp0 ⟨q4,.inl ⟨_,_,_,_,_,_,_,rfl,mk.last x0 hl (by simpa using he)⟩⟩
  ·rw[if_neg he]
   have he:i+k+1≠x.size:=by simpa using he
   by_cases hf:(i+k==x.size)=true
   ·rw[if_pos hf]
    have hf:i+k=x.size:=by simpa using hf
    exact bp0 ⟨q4,.inl ⟨_,_,_,_,_,_,_,rfl,mk.done (.inl (by omega))⟩⟩
   ·rw[if_neg hf]
    have hf:i+k≠x.size:=by simpa using hf
    exact W6 c hk ox oy sx sy x0 hl q4 mk (by omega) hj (by omega) km
 ·rw[if_neg hk0]
  have e0:k=0:=by omega
  subst e0
  exact W6 c hk ox oy sx sy x0 hl q4 m hi hj hb km
theorem aK0 (c:cR prog w A E s κ Ok rk){st0:SortSt}(hk:kindOf st0=κ){x y o:Array Keyed}{mg p q lb:Nat}(ox:bT Ok x)(oy:bT Ok y)(sx:Sd rk x.toList)(sy:Sd rk y.toList)(x0:0<x.size)(hl:∀u∈y.toList,rk u<=rk x[x.size-1])(g:Gq st0 st)(m:MI rk x.toList y.toList o.toList i j)(hi:i+1<x.size)(hj:j<y.size)(hb:lb<=i+j) :
  wpS (model prog w) A E s (xX x y o i j mg p q) (GQ rk x y lb st0) st:=by
 unfold xX
 refine bv9 (I:=λ_=>GI rk x y lb st0) ?_ ?_ ⟨g,o,i,j,_,p,q,rfl,m,hi,hj,hb⟩
 ·rintro t c3 st3 _ _ ⟨q3,o,i,j,mg,p,q,rfl,m,hi,hj,pr3⟩
  dsimp only
  split
  ·exact bC3 (W7 c hk ox oy sx sy x0 hl q3 m hi hj pr3) λr _ hr=>by cases r<;>exact hr
  ·exact bC3 (W7 c hk ox oy sx sy x0 hl q3 m hi hj pr3) λr _ hr=>by cases r<;>exact hr
 ·rintro c3 st3 ⟨q3,o,i,j,mg,p,q,rfl,m,hi,hj,pr3⟩
  exact⟨q3,.inr ⟨_,_,_,_,_,_,rfl,m,hi,hj,pr3⟩⟩
theorem aK1 (c:cR prog w A E s κ Ok rk){st0:SortSt}(hk:kindOf st0=κ){x y o:Array Keyed}{mg:Nat}{Q:xW->SortSt->Prop}(ox:bT Ok x)(oy:bT Ok y)(sx:Sd rk x.toList)(sy:Sd rk y.toList)(x0:0<x.size)(hl:∀u∈y.toList,rk u<=rk x[x.size-1])(g:Gq st0 st)(m:MI rk x.toList y.toList o.toList i j)(hi:i+1<x.size)(hj:j<y.size)(h1:∀r o' i' j' p q st',Gq st0 st'->eY rk x y r->Q (some r,o',i',j',p,q) st')(h2:∀o' i' j' p q st',Gq st0 st'->MI rk x.toList y.toList o'.toList i' j'->i'+1<x.size->j'<y.size->i+j+1<=i'+j'->Q (none,o',i',j',p,q) st') :
  wpS (model prog w) A E s (xY x y o i j mg) Q st:=by
 have ux:Up rk x 0 x.size:=sx.up 0 _ (bn1 _)
 have uy:Up rk y 0 y.size:=sy.up 0 _ (bn1 _)
 unfold xY
 refine bv9 (I:=λt c st'=>Gq st0 st'/\∃o i' j' p q,c=(none,o,i',j',p,q)/\MI rk x.toList y.toList o.toList i' j'/\i'+1<x.size/\j'<y.size/\i+j+t<=i'+j') ?_ ?_ ⟨g,o,i,j,0,0,rfl,m,hi,hj,by omega⟩
 ·rintro t c2 st2 _ ht ⟨q2,o,i',j',p,q,rfl,m,hi,hj,pr2⟩
  dsimp only
  have hi':i'<x.size:=by omega
  refine bo0 (dF hj (bo0 (dF hi' (bo0 (c _ _ (oy _ (bt1 hj)) (ox _ (bt1 hi')) st2 _ (q2.kd.trans hk) ?_)))))
  by_cases hc:rk y[j']<rk x[i']
  ·rw[bm4 hc]
   dsimp only
   rw[if_pos rfl]
   have m':=m.y1 hj λt ht=>by
    have:=ux i' (i'+t) (by omega) (by omega) ht
    rw[cA hi']at this
    omega
   refine bo0 (dF hj ?_)
   by_cases he:(j'+1==y.size)=true
   ·rw[if_pos he]
    have he:j'+1=y.size:=by simpa using he
    exact bp0 (h1 _ _ _ _ _ _ _ q2 (m'.done (.inr (by omega))))
   ·rw[if_neg he]
    have he:j'+1≠y.size:=by simpa using he
    split
    ·exact bp0 (h2 _ _ _ _ _ _ q2 m' hi (by omega) (by omega))
    ·exact bp0 ⟨q2,_,_,_,_,_,rfl,m',hi,by omega,by omega⟩
  ·rw[bm9 hc]
   dsimp only
   rw[if_neg bo4]
   have m':=m.x1 hi' λt ht=>by
    have:=uy j' (j'+t) (by omega) (by omega) ht
    rw[cA hj]at this
    omega
   refine bo0 (dF hi' ?_)
   by_cases he:(i'+1+1==x.size)=true
   ·rw[if_pos he]
    exact bp0 (h1 _ _ _ _ _ _ _ q2 (m'.last x0 hl (by simpa using he)))
   ·rw[if_neg he]
    have he:i'+1+1≠x.size:=by simpa using he
    split
    ·exact bp0 (h2 _ _ _ _ _ _ q2 m' (by omega) hj (by omega))
    ·exact bp0 ⟨q2,_,_,_,_,_,rfl,m',by omega,hj,by omega⟩
 ·rintro c2 st2 ⟨q2,o,i',j',p,q,rfl,m,hi,hj,pr2⟩
  exact h2 _ _ _ _ _ _ q2 m hi hj (by omega)
theorem aK2 (c:cR prog w A E s κ Ok rk)(hk:kindOf st=κ){x y:Array Keyed}{Q:Array Keyed->SortSt->Prop}(ox:bT Ok x)(oy:bT Ok y)(sx:Sd rk x.toList)(sy:Sd rk y.toList)(x0:0<x.size)(y0:0<y.size)(hf:∀t∈x.toList,rk y[0]<=rk t)(hl:∀u∈y.toList,rk u<=rk x[x.size-1])(h:∀r st',Gq st st'->eY rk x y r->Q r st'):wpS (model prog w) A E s (xV x y) Q st:=by
 rw[aJ9]
 refine bo0 (wpS_lift (bD2 ⟨rfl,bo0 (dF y0 ?_)⟩))
 have m0:MI rk x.toList y.toList (#[y[0]]:Array Keyed).toList 0 1:=by
  have mm:MI rk x.toList y.toList [] 0 0:=⟨by simp,sx,sy⟩
  have:=mm.ofy 1 λu hu t ht=>?_
  ·rw[<- mH y0]at this;exact this
  ·rw[<- mH y0,bm2]at hu
   subst hu
   exact hf t ht
 by_cases e1:(1==y.size)=true
 ·rw[if_pos e1]
  have e1:1=y.size:=by simpa using e1
  exact bp0 (h _ st (Gq.refl st) (m0.done (.inr (by omega))))
 ·rw[if_neg e1]
  have e1:1≠y.size:=by simpa using e1
  by_cases e2:(0+1==x.size)=true
  ·rw[if_pos e2]
   exact bp0 (h _ st (Gq.refl st) (m0.last x0 hl (by simpa using e2)))
  ·rw[if_neg e2]
   have e2:0+1≠x.size:=by simpa using e2
   refine bo0 (wpS_get ?_)
   unfold V8
   refine bo0 (bC3 (bv9
    (I:=λn c st'=>Gq st st'/\∃o i j mg,c=(none,o,i,j,mg)/\MI rk x.toList y.toList o.toList i j/\i+1<x.size/\j<y.size/\n+1<=i+j)
    (Q:=λc st'=>Gq st st'/\∃r o i j mg,c=(some r,o,i,j,mg)/\eY rk x y r) ?_ ?_ ⟨Gq.refl st,_,0,1,_,rfl,m0,by omega,by omega,by omega⟩) ?_)
   ·rintro n c1 st1 _ hn ⟨q1,o,i,j,mg,rfl,m,hi,hj,pr⟩
    dsimp only
    refine bo0 (aK1 c hk ox oy sx sy x0 hl q1 m hi hj (λr o' i' j' p q st' g md=>bp0 ⟨g,r,_,_,_,_,rfl,md⟩) λo' i' j' p q st' g m' hi' hj' pr'=>?_)
    refine bo0 (wpS_lift (bD2 ⟨rfl,?_⟩))
    refine bo0 (bC3 (aK0 c hk ox oy sx sy x0 hl g m' hi' hj' pr') ?_)
    rintro c3 st3 ⟨q3,⟨r,o,i3,j3,mg,p,q,rfl,md⟩|⟨o,i3,j3,mg,p,q,rfl,m,hi,hj,pr3⟩⟩
    ·exact bp0 ⟨q3,r,_,_,_,_,rfl,md⟩
    ·exact bo0 (tH q3 λst4 q4=>bp0 ⟨q4,o,i3,j3,_,rfl,m,hi,hj,by omega⟩)
   ·rintro c1 st1 ⟨q1,o,i,j,mg,rfl,m,hi,hj,pr⟩
    exact absurd pr (by omega)
   ·rintro c1 st1 ⟨q1,r,o,i,j,mg,rfl,md⟩
    exact bp0 (h r _ q1 md)
end
def xZ:Array Keyed->Array Keyed->StateT SortSt Sem (Array Keyed):=sortPriv% PySem.Builtin.mergeHi
abbrev LH:=Option (Array Keyed)×Nat×Nat×Array Keyed×Nat×Nat×Nat
abbrev yA:=Option (Array Keyed)×Nat×Nat×Array Keyed×Nat×Nat
abbrev LP:=Option (Array Keyed)×Nat×Nat×Array Keyed×Nat
def tI (x y o:Array Keyed)(i j mg p q:Nat):StateT SortSt Sem (ForInStep LH):=do
 let v <- elem' x (i-1)
 if (i-1==0)=true then pure (.done (some (x.extract 0 (i-1)++y.extract 0 j++(o.push v).reverse),i-1,j,o.push v,mg,p,q))
 else if (decide (p<7)&&decide (q<7))=true then pure (.done (none,i-1,j,o.push v,mg,p,q)) else pure (.yield (none,i-1,j,o.push v,mg,p,q))
def tJ (x y o:Array Keyed)(i j mg p q:Nat):StateT SortSt Sem (ForInStep LH):=do
 let v <- elem' y (j-1)
 if (j-1==1)=true then pure (.done (some (y.extract 0 (j-1)++x.extract 0 i++(o.push v).reverse),i,j-1,o.push v,mg,p,q)) else do
  let u <- elem' x (i-1)
  match <- lD true u y 0 (j-1) (j-1-1) with
  |some z=>
   if j-1-z>0 then
    if (z==1)=true then pure (.done (some (y.extract 0 z++x.extract 0 i++(o.push v++(y.extract z (j-1)).reverse).reverse),i,z,o.push v++(y.extract z (j-1)).reverse,mg,p,j-1-z))
    else if (z==0)=true then pure (.done (some (x.extract 0 i++y.extract 0 z++(o.push v++(y.extract z (j-1)).reverse).reverse),i,z,o.push v++(y.extract z (j-1)).reverse,mg,p,j-1-z))
    else tI x y (o.push v++(y.extract z (j-1)).reverse) i z mg p (j-1-z)
   else tI x y (o.push v) i (j-1) mg p (j-1-z)
  |_=>pure (.done (some (x.extract 0 i++y.extract 0 (j-1)++(o.push v).reverse),i,j-1,o.push v,mg,p,q))
def tK (x y o:Array Keyed)(i j mg p q:Nat):StateT SortSt Sem (ForInStep LH):=do
 nW mg
 let v <- elem' y (j-1)
 match <- lD false v x 0 i (i-1) with
 |some z=>
  if i-z>0 then
   if (z==0)=true then pure (.done (some (x.extract 0 z++y.extract 0 j++(o++(x.extract z i).reverse).reverse),z,j,o++(x.extract z i).reverse,mg,i-z,q))
   else tJ x y (o++(x.extract z i).reverse) z j mg (i-z) q
  else tJ x y o i j mg (i-z) q
 |_=>pure (.done (some (x.extract 0 i++y.extract 0 j++o.reverse),i,j,o,mg,p,q))
def yB (x y o:Array Keyed)(i j mg p q:Nat):StateT SortSt Sem LH:=forIn [0:x.size+y.size] ((none,i,j,o,mg,p,q):LH) λ_ r=>
 if r.2.2.2.2.1>1 then tK x y r.2.2.2.1 r.2.1 r.2.2.1 (r.2.2.2.2.1-1) r.2.2.2.2.2.1 r.2.2.2.2.2.2 else tK x y r.2.2.2.1 r.2.1 r.2.2.1 r.2.2.2.2.1 r.2.2.2.2.2.1 r.2.2.2.2.2.2
def yC (x y o:Array Keyed)(i j mg:Nat):StateT SortSt Sem yA:=forIn [0:x.size+y.size] ((none,i,j,o,0,0):yA) λ_ r=>do
 let v <- elem' y (r.2.2.1-1)
 let u <- elem' x (r.2.1-1)
 match <- lt' v u with
 |some q=>
  if q=true then do
   let u <- elem' x (r.2.1-1)
   if (r.2.1-1==0)=true then pure (.done (some (x.extract 0 (r.2.1-1)++y.extract 0 r.2.2.1++(r.2.2.2.1.push u).reverse),r.2.1-1,r.2.2.1,r.2.2.2.1.push u,r.2.2.2.2.1+1,0))
   else if r.2.2.2.2.1+1 >= mg then pure (.done (none,r.2.1-1,r.2.2.1,r.2.2.2.1.push u,r.2.2.2.2.1+1,0)) else pure (.yield (none,r.2.1-1,r.2.2.1,r.2.2.2.1.push u,r.2.2.2.2.1+1,0))
  else do
   let v <- elem' y (r.2.2.1-1)
   if (r.2.2.1-1==1)=true then pure (.done (some (y.extract 0 (r.2.2.1-1)++x.extract 0 r.2.1++(r.2.2.2.1.push v).reverse),r.2.1,r.2.2.1-1,r.2.2.2.1.push v,0,r.2.2.2.2.2+1))
   else if r.2.2.2.2.2+1 >= mg then pure (.done (none,r.2.1,r.2.2.1-1,r.2.2.2.1.push v,0,r.2.2.2.2.2+1)) else pure (.yield (none,r.2.1,r.2.2.1-1,r.2.2.2.1.push v,0,r.2.2.2.2.2+1))
 |_=>pure (.done (some (x.extract 0 r.2.1++y.extract 0 r.2.2.1++r.2.2.2.1.reverse),r.2.1,r.2.2.1,r.2.2.2.1,r.2.2.2.2.1,r.2.2.2.2.2))
def W8 (x y o:Array Keyed)(i j mg:Nat):StateT SortSt Sem LP:=forIn [0:x.size+y.size] ((none,i,j,o,mg):LP) λ_ r=>do
 let u <- yC x y r.2.2.2.1 r.2.1 r.2.2.1 r.2.2.2.2
 match u.1 with
 |some z=>pure (.done (some z,u.2.1,u.2.2.1,u.2.2.2.1,r.2.2.2.2))
 |none=>do
  liftM (rule "list.sort.gallop")
  let v <- yB x y u.2.2.2.1 u.2.1 u.2.2.1 (r.2.2.2.2+1) u.2.2.2.2.1 u.2.2.2.2.2
  match v.1 with
  |some z=>pure (.done (some z,v.2.1,v.2.2.1,v.2.2.2.1,v.2.2.2.2.1))
  |none=>do
   nW (v.2.2.2.2.1+1)
   pure (.yield (none,v.2.1,v.2.2.1,v.2.2.2.1,v.2.2.2.2.1+1))
theorem aK3 (x y:Array Keyed):xZ x y=(do
 liftM (rule "list.sort.merge-hi")
 let v <- elem' x (x.size-1)
 if (x.size-1==0)=true then pure (x.extract 0 (x.size-1)++y.extract 0 y.size++(#[v]:Array Keyed).reverse)
 else if (y.size==1)=true then pure (y.extract 0 y.size++x.extract 0 (x.size-1)++(#[v]:Array Keyed).reverse)
 else do
  let z <- get
  let r <- W8 x y #[v] (x.size-1) y.size (gallopOf z)
  match r.1 with
  |some z=>pure z
  |none=>unsupported "internal:list.sort.merge-bound"):=by kernel_rfl
structure MH (rk:Keyed->Int)(xs ys o:List Keyed)(i j:Nat):Prop where
 pm:o.Perm (xs.drop i++ys.drop j)
 sx:Sd rk (xs.take i++o)
 sy:Sd rk (ys.take j++o)
variable {rk:Keyed→Int}{xs ys o:List Keyed}{i j:Nat}
theorem Sd.insR {o a b d:List Keyed}(h1:Sd rk (a++o))(h2:Sd rk ((d++b)++o))(h:∀t∈a,∀u∈b,rk t<=rk u):Sd rk (a++(b++o)):=by
 unfold Sd at *
 obtain⟨p1,p2,p3⟩:=bu1.mp h1
 obtain⟨q1,q2,q3⟩:=bu1.mp h2
 obtain⟨r1,r2,r3⟩:=bu1.mp q1
 refine bu1.mpr ⟨p1,bu1.mpr ⟨r2,p2,λu hu t ht=>q3 u (bo8 _ hu) t ht⟩,λu hu t ht=>?_⟩
 rcases bn0.mp ht with z|z
 ·exact h u hu t z
 ·exact p3 u hu t z
theorem tL (l:List Keyed){z j:Nat}(h:z<=j):l.take z++(l.take j).drop z=l.take j:=by
 have e:l.take z=(l.take j).take z:=by rw[List.take_take,Nat.min_eq_left h]
 rw[e];exact br2 z _
theorem yD (l:List Keyed){z j:Nat}(h:z<=j):(l.take j).drop z++l.drop j=l.drop z:=by
 rw[bD1,show l.drop j=(l.drop z).drop (j-z) by rw[List.drop_drop,Nat.add_sub_cancel' h]]
 exact br2 _ _
theorem MH.ofy (m:MH rk xs ys o i j){z:Nat}(hz:z<=j)(h:∀t∈xs.take i,∀u∈(ys.take j).drop z,rk t<=rk u):MH rk xs ys ((ys.take j).drop z++o) i z:=by
 refine⟨?_,Sd.insR m.sx (d:=ys.take z) (by rw[tL _ hz];exact m.sy) h,by rw[<- bq6,tL _ hz];exact m.sy⟩
 rw[<- yD ys hz]
 refine (m.pm.append_left _).trans ?_
 rw[<- bq6,<- bq6]
 exact (bB9).append_right _
theorem MH.ofx (m:MH rk xs ys o i j){z:Nat}(hz:z<=i)(h:∀t∈ys.take j,∀u∈(xs.take i).drop z,rk t<=rk u):MH rk xs ys ((xs.take i).drop z++o) z j:=by
 refine⟨?_,by rw[<- bq6,tL _ hz];exact m.sx,Sd.insR m.sy (d:=xs.take z) (by rw[tL _ hz];exact m.sx) h⟩
 rw[<- yD xs hz,bq6]
 exact m.pm.append_left _
theorem MH.fin (m:MH rk xs ys o i j)(h:i=0∨j=0):(xs.take i++ys.take j++o).Perm (xs++ys)/\Sd rk (xs.take i++ys.take j++o):=by
 refine⟨?_,?_⟩
 ·have e1:xs=xs.take i++xs.drop i:=(br2 i xs).symm
  have e2:ys=ys.take j++ys.drop j:=(br2 j ys).symm
  conv=>rhs;rw[e1,e2]
  rw[bq6,bq6]
  refine List.Perm.append_left _ ((m.pm.append_left _).trans ?_)
  rw[<- bq6,<- bq6]
  exact (bB9).append_right _
 ·rcases h with h|h
  ·subst h;simpa using m.sy
  ·subst h;simpa using m.sx
theorem MH.fst (m:MH rk xs ys o i j)(h:∀t∈ys.take j,∀u∈xs,rk t<=rk u):(ys.take j++xs.take i++o).Perm (xs++ys)/\Sd rk (ys.take j++xs.take i++o):=by
 have m2:=m.ofx (br5 i) λt ht u hu=>h t ht u (bv8 (List.mem_of_mem_drop hu))
 have f:=m2.fin (.inl rfl)
 simpa using f
theorem pY {x:Array Keyed}{i:Nat}{u:Keyed}(h:u∈x.toList.take i):∃t,t<i/\t<x.size/\rk u=Kr rk x t:=by
 obtain⟨t,ht,e⟩:=bq5 h
 have h1:t<i/\t<x.size:=by simp at ht;omega
 refine⟨t,h1.1,h1.2,?_⟩
 rw[cA h1.2,<- e]
 simp
theorem pZ {x:Array Keyed}{z i:Nat}{u:Keyed}(h:u∈(x.toList.take i).drop z):∃t,z<=t/\t<i/\t<x.size/\rk u=Kr rk x t:=by
 obtain⟨t,ht,e⟩:=bq5 h
 have h1:z+t<i/\z+t<x.size:=by simp at ht;omega
 refine⟨z+t,by omega,h1.1,h1.2,?_⟩
 rw[cA h1.2,<- e]
 simp
theorem mI (x:Array Keyed)(z i:Nat):(x.extract z i).toList=(x.toList.take i).drop z:=by
 rw[bD1];simp[List.extract]
theorem tM (x:Array Keyed)(i:Nat):(x.extract 0 i).toList=x.toList.take i:=by
 simp[List.extract]
theorem qA {x:Array Keyed}{i:Nat}(h:i<x.size):[x[i]]=(x.toList.take (i+1)).drop i:=by
 rw[bD1,mH h,show i+1-i=1 by omega]
section
variable {κ:SortKind}{st:SortSt}{prog:Program}{w:World}{A:Around}{E:Value→Shared→Prop}{s:Shared}{Ok:Keyed→Prop}
theorem MH.y1 {x y o:Array Keyed}(m:MH rk x.toList y.toList o.toList.reverse i (j+1))(hj:j<y.size)(h:∀t,t<i->t<x.size->Kr rk x t<=rk y[j]):MH rk x.toList y.toList (o.push y[j]).toList.reverse i j:=by
 have:=m.ofy (Nat.le_succ j) λt ht u hu=>?_
 ·rw[<- qA hj]at this;simpa using this
 ·rw[<- qA hj,bm2]at hu
  subst hu
  obtain⟨q,q1,q2,q3⟩:=pY (rk:=rk) ht
  rw[q3];exact h q q1 q2
theorem MH.x1 {x y o:Array Keyed}(m:MH rk x.toList y.toList o.toList.reverse (i+1) j)(hi:i<x.size)(h:∀t,t<j->t<y.size->Kr rk y t<=rk x[i]):MH rk x.toList y.toList (o.push x[i]).toList.reverse i j:=by
 have:=m.ofx (Nat.le_succ i) λt ht u hu=>?_
 ·rw[<- qA hi]at this;simpa using this
 ·rw[<- qA hi,bm2]at hu
  subst hu
  obtain⟨q,q1,q2,q3⟩:=pY (rk:=rk) ht
  rw[q3];exact h q q1 q2
theorem MH.yk {x y o:Array Keyed}(m:MH rk x.toList y.toList o.toList.reverse i j){z:Nat}(hz:z<=j)(h:∀t p,t<i->t<x.size->z<=p->p<j->p<y.size->Kr rk x t<=Kr rk y p):MH rk x.toList y.toList (o++(y.extract z j).reverse).toList.reverse i z:=by
 have:=m.ofy hz λt ht u hu=>?_
 ·rw[<- mI]at this;simpa using this
 ·obtain⟨q,q1,q2,q3⟩:=pY (rk:=rk) ht
  obtain⟨p,p1,p2,p3,p4⟩:=pZ (rk:=rk) hu
  rw[q3,p4];exact h q p q1 q2 p1 p2 p3
theorem MH.xk {x y o:Array Keyed}(m:MH rk x.toList y.toList o.toList.reverse i j){z:Nat}(hz:z<=i)(h:∀t p,t<j->t<y.size->z<=p->p<i->p<x.size->Kr rk y t<=Kr rk x p):MH rk x.toList y.toList (o++(x.extract z i).reverse).toList.reverse z j:=by
 have:=m.ofx hz λt ht u hu=>?_
 ·rw[<- mI]at this;simpa using this
 ·obtain⟨q,q1,q2,q3⟩:=pY (rk:=rk) ht
  obtain⟨p,p1,p2,p3,p4⟩:=pZ (rk:=rk) hu
  rw[q3,p4];exact h q p q1 q2 p1 p2 p3
theorem MH.done {x y o:Array Keyed}(m:MH rk x.toList y.toList o.toList.reverse i j)(hh:i=0∨j=0):eY rk x y (x.extract 0 i++y.extract 0 j++o.reverse):=by
 unfold eY
 rw[bu7,bu7,tM,tM,Array.toList_reverse]
 exact m.fin hh
theorem MH.frst {x y o:Array Keyed}(m:MH rk x.toList y.toList o.toList.reverse i j)(y0:0<y.size)(hf:∀t∈x.toList,rk y[0]<=rk t)(hh:j=1):eY rk x y (y.extract 0 j++x.extract 0 i++o.reverse):=by
 unfold eY
 rw[bu7,bu7,tM,tM,Array.toList_reverse]
 refine m.fst λt ht u hu=>?_
 subst hh
 obtain⟨q,q1,q2,q3⟩:=pY (rk:=rk) ht
 have e:q=0:=by omega
 subst e
 rw[q3,cA y0]
 exact hf u hu
structure HB (rk:Keyed->Int)(x y:Array Keyed)(lb i j:Nat)(o:Array Keyed):Prop where
 m:MH rk x.toList y.toList o.toList.reverse i j
 i0:0<i
 i1:i<x.size
 j0:1<j
 j1:j<=y.size
 pr:i+j+lb<=x.size+y.size
def HI (rk:Keyed->Int)(x y:Array Keyed)(lb:Nat)(st:SortSt)(c:LH)(st':SortSt):Prop:=Gq st st'/\∃i j o mg p q,c=(none,i,j,o,mg,p,q)/\HB rk x y lb i j o
def HQ (rk:Keyed->Int)(x y:Array Keyed)(lb:Nat)(st:SortSt)(c:LH)(st':SortSt):Prop:=Gq st st'/\((∃r i j o mg p q,c=(some r,i,j,o,mg,p,q)/\eY rk x y r)∨∃i j o mg p q,c=(none,i,j,o,mg,p,q)/\HB rk x y lb i j o)
def HR (rk:Keyed->Int)(x y:Array Keyed)(lb:Nat)(st:SortSt)(r:ForInStep LH)(st':SortSt):Prop:=match r with|.done c=>HQ rk x y lb st c st'|.yield c=>HI rk x y lb st c st'
theorem W9 {st0:SortSt}{x y o:Array Keyed}{i j mg p q lb:Nat}(g:Gq st0 st)(b:HB rk x y lb (i+1) j o)(hm:∀(hi:i<x.size) t,t<j->t<y.size->Kr rk y t<=rk x[i]):wpS (model prog w) A E s (tI x y o (i+1) j mg p q) (HR rk x y lb st0) st:=by
 unfold tI
 obtain⟨m,i0,i1,j0,j1,pr⟩:=b
 have hi':i<x.size:=by omega
 have m':=m.x1 hi' (hm hi')
 simp only[Nat.add_sub_cancel]
 refine bo0 (dF hi' ?_)
 by_cases he:(i==0)=true
 ·rw[if_pos he]
  have he:i=0:=by simpa using he
  exact bp0 ⟨g,.inl ⟨_,_,_,_,_,_,_,rfl,m'.done (.inl he)⟩⟩
 ·rw[if_neg he]
  have he:i≠0:=by simpa using he
  split
  ·exact bp0 ⟨g,.inr ⟨_,_,_,_,_,_,rfl,m',by omega,by omega,j0,j1,by omega⟩⟩
  ·exact bp0 ⟨g,_,_,_,_,_,_,rfl,m',by omega,by omega,j0,j1,by omega⟩
theorem X0 (c:cR prog w A E s κ Ok rk){st0:SortSt}(hk:kindOf st0=κ){x y o:Array Keyed}{i j mg p q lb:Nat}(ox:bT Ok x)(oy:bT Ok y)(sx:Sd rk x.toList)(sy:Sd rk y.toList)(y0:0<y.size)(hf:∀t∈x.toList,rk y[0]<=rk t)(g:Gq st0 st)(b:HB rk x y lb (i+1) (j+1) o)(hm:∀(hj:j<y.size) t,t<i+1->t<x.size->Kr rk x t<=rk y[j]):wpS (model prog w) A E s (tJ x y o (i+1) (j+1) mg p q) (HR rk x y lb st0) st:=by
 unfold tJ
 obtain⟨m,i0,i1,j0,j1,pr⟩:=b
 have hi':i<x.size:=by omega
 have hj:j<y.size:=by omega
 have m':=m.y1 hj (hm hj)
 simp only[Nat.add_sub_cancel]
 refine bo0 (dF hj ?_)
 by_cases he:(j==1)=true
 ·rw[if_pos he]
  have he:j=1:=by simpa using he
  exact bp0 ⟨g,.inl ⟨_,_,_,_,_,_,_,rfl,m'.frst y0 hf he⟩⟩
 ·rw[if_neg he]
  have he:j≠1:=by simpa using he
  refine bo0 (dF hi' (bo0 (nV c (g.kd.trans hk) (ox _ (bt1 hi')) oy (by omega) (by omega) (sy.up _ _ (by omega)) λz k1 k2 k3=>?_)))
  dsimp only
  have ux:=sx.up 0 _ (bn1 x.size)
  have mk:=m'.yk k1 λt p ht ht' hp hp' _=>by
   have a1:=k3 p hp hp'
   rw[nY,bs7,Nat.zero_add]at a1
   have a2:=ux t i (by omega) (by omega) hi'
   rw[cA (i:=i) hi']at a2
   omega
  have km:∀(hi:i<x.size) t,t<z->t<y.size->Kr rk y t<=rk x[i]:=λ_ t ht _=>by
   have a1:=k2 t ht
   rw[nY,bq1,Nat.zero_add]at a1
   omega
  by_cases hk0:j-z>0
  ·rw[if_pos hk0]
   by_cases h1:(z==1)=true
   ·rw[if_pos h1]
    have h1:z=1:=by simpa using h1
    exact bp0 ⟨g,.inl ⟨_,_,_,_,_,_,_,rfl,mk.frst y0 hf h1⟩⟩
   ·rw[if_neg h1]
    have h1:z≠1:=by simpa using h1
    by_cases h0:(z==0)=true
    ·rw[if_pos h0]
     have h0:z=0:=by simpa using h0
     exact bp0 ⟨g,.inl ⟨_,_,_,_,_,_,_,rfl,mk.done (.inr h0)⟩⟩
    ·rw[if_neg h0]
     have h0:z≠0:=by simpa using h0
     exact W9 g ⟨mk,by omega,i1,by omega,by omega,by omega⟩ km
  ·rw[if_neg hk0]
   have e0:z=j:=by omega
   subst e0
   exact W9 g ⟨m',by omega,i1,by omega,by omega,by omega⟩ km
theorem X1 (c:cR prog w A E s κ Ok rk){st0:SortSt}(hk:kindOf st0=κ){x y o:Array Keyed}{i j mg p q lb:Nat}(ox:bT Ok x)(oy:bT Ok y)(sx:Sd rk x.toList)(sy:Sd rk y.toList)(y0:0<y.size)(hf:∀t∈x.toList,rk y[0]<=rk t)(g:Gq st0 st)(b:HB rk x y lb i (j+1) o) :
  wpS (model prog w) A E s (tK x y o i (j+1) mg p q) (HR rk x y lb st0) st:=by
 unfold tK
 obtain⟨m,i0,i1,j0,j1,pr⟩:=b
 have hj:j<y.size:=by omega
 simp only[Nat.add_sub_cancel]
 refine bo0 (tH g λst4 q4=>bo0 (dF hj (bo0 (nV c (q4.kd.trans hk) (oy _ (bt1 hj)) ox (by omega) (by omega) (sx.up _ _ (by omega)) λz k1 k2 k3=>?_))))
 dsimp only
 have uy:=sy.up 0 _ (bn1 y.size)
 have mk:=m.xk k1 λt p ht ht' hp hp' _=>by
  have a1:=k3 p hp hp'
  rw[nX,bs7,Nat.zero_add]at a1
  have a2:=uy t j (by omega) (by omega) hj
  rw[cA (i:=j) hj]at a2
  omega
 have km:∀(hj:j<y.size) t,t<z->t<x.size->Kr rk x t<=rk y[j]:=λ_ t ht _=>by
  have a1:=k2 t ht
  rw[nX,bq1,Nat.zero_add]at a1
  exact a1
 by_cases hk0:i-z>0
 ·rw[if_pos hk0]
  by_cases he:(z==0)=true
  ·rw[if_pos he]
   exact bp0 ⟨q4,.inl ⟨_,_,_,_,_,_,_,rfl,mk.done (.inl (by simpa using he))⟩⟩
  ·rw[if_neg he]
   have he:z≠0:=by simpa using he
   obtain⟨z2,rfl⟩:∃z2,z=z2+1:=⟨z-1,by omega⟩
   exact X0 c hk ox oy sx sy y0 hf q4 ⟨mk,by omega,by omega,j0,j1,by omega⟩ km
 ·rw[if_neg hk0]
  have e0:z=i:=by omega
  subst e0
  obtain⟨z2,rfl⟩:∃z2,z=z2+1:=⟨z-1,by omega⟩
  exact X0 c hk ox oy sx sy y0 hf q4 ⟨m,i0,i1,j0,j1,pr⟩ km
theorem aK4 (c:cR prog w A E s κ Ok rk){st0:SortSt}(hk:kindOf st0=κ){x y o:Array Keyed}{i j mg p q lb:Nat}(ox:bT Ok x)(oy:bT Ok y)(sx:Sd rk x.toList)(sy:Sd rk y.toList)(y0:0<y.size)(hf:∀t∈x.toList,rk y[0]<=rk t)(g:Gq st0 st)(b:HB rk x y lb i j o) :
  wpS (model prog w) A E s (yB x y o i j mg p q) (HQ rk x y lb st0) st:=by
 unfold yB
 refine bv9 (I:=λ_=>HI rk x y lb st0) ?_ ?_ ⟨g,i,j,o,_,p,q,rfl,b⟩
 ·rintro t c3 st3 _ _ ⟨q3,i,j,o,mg,p,q,rfl,b3⟩
  obtain⟨j3,rfl⟩:∃j3,j=j3+1:=⟨j-1,by have:=b3.j0;omega⟩
  dsimp only
  split
  ·exact bC3 (X1 c hk ox oy sx sy y0 hf q3 b3) λr _ hr=>by cases r<;>exact hr
  ·exact bC3 (X1 c hk ox oy sx sy y0 hf q3 b3) λr _ hr=>by cases r<;>exact hr
 ·rintro c3 st3 ⟨q3,i,j,o,mg,p,q,rfl,b3⟩
  exact⟨q3,.inr ⟨_,_,_,_,_,_,rfl,b3⟩⟩
theorem aK5 (c:cR prog w A E s κ Ok rk){st0:SortSt}(hk:kindOf st0=κ){x y o:Array Keyed}{i j mg n:Nat}{Q:yA->SortSt->Prop}(ox:bT Ok x)(oy:bT Ok y)(sx:Sd rk x.toList)(sy:Sd rk y.toList)(y0:0<y.size)(hf:∀t∈x.toList,rk y[0]<=rk t)(g:Gq st0 st)(b:HB rk x y n i j o)(h1:∀r i' j' o' p q st',Gq st0 st'->eY rk x y r->Q (some r,i',j',o',p,q) st')(h2:∀i' j' o' p q st',Gq st0 st'->HB rk x y (n+1) i' j' o'->Q (none,i',j',o',p,q) st') :
  wpS (model prog w) A E s (yC x y o i j mg) Q st:=by
 have ux:Up rk x 0 x.size:=sx.up 0 _ (bn1 _)
 have uy:Up rk y 0 y.size:=sy.up 0 _ (bn1 _)
 unfold yC
 refine bv9 (I:=λt c st'=>Gq st0 st'/\∃i j o p q,c=(none,i,j,o,p,q)/\HB rk x y (n+t) i j o) ?_ ?_ ⟨g,i,j,o,0,0,rfl,b⟩
 ·rintro t c2 st2 _ ht ⟨q2,i',j',o,p,q,rfl,m,i0,i1,j0,j1,pr⟩
  obtain⟨i2,rfl⟩:∃i2,i'=i2+1:=⟨i'-1,by omega⟩
  obtain⟨j2,rfl⟩:∃j2,j'=j2+1:=⟨j'-1,by omega⟩
  simp only[Nat.add_sub_cancel]
  have hi:i2<x.size:=by omega
  have hj:j2<y.size:=by omega
  refine bo0 (dF hj (bo0 (dF hi (bo0 (c _ _ (oy _ (bt1 hj)) (ox _ (bt1 hi)) st2 _ (q2.kd.trans hk) ?_)))))
  by_cases hc:rk y[j2]<rk x[i2]
  ·rw[bm4 hc]
   dsimp only
   rw[if_pos rfl]
   have m':=m.x1 hi λt ht _=>by
    have:=uy t j2 (by omega) (by omega) hj
    rw[cA hj]at this
    omega
   refine bo0 (dF hi ?_)
   by_cases he:(i2==0)=true
   ·rw[if_pos he]
    exact bp0 (h1 _ _ _ _ _ _ _ q2 (m'.done (.inl (by simpa using he))))
   ·rw[if_neg he]
    have he:i2≠0:=by simpa using he
    split
    ·exact bp0 (h2 _ _ _ _ _ _ q2 ⟨m',by omega,by omega,j0,j1,by omega⟩)
    ·exact bp0 ⟨q2,_,_,_,_,_,rfl,m',by omega,by omega,j0,j1,by omega⟩
  ·rw[bm9 hc]
   dsimp only
   rw[if_neg bo4]
   have m':=m.y1 hj λt ht _=>by
    have:=ux t i2 (by omega) (by omega) hi
    rw[cA hi]at this
    omega
   refine bo0 (dF hj ?_)
   by_cases he:(j2==1)=true
   ·rw[if_pos he]
    exact bp0 (h1 _ _ _ _ _ _ _ q2 (m'.frst y0 hf (by simpa using he)))
   ·rw[if_neg he]
    have he:j2≠1:=by simpa using he
    split
    ·exact bp0 (h2 _ _ _ _ _ _ q2 ⟨m',i0,i1,by omega,by omega,by omega⟩)
    ·exact bp0 ⟨q2,_,_,_,_,_,rfl,m',i0,i1,by omega,by omega,by omega⟩
 ·rintro c2 st2 ⟨q2,i',j',o,p,q,rfl,m,i0,i1,j0,j1,pr⟩
  exact h2 _ _ _ _ _ _ q2 ⟨m,i0,i1,j0,j1,by omega⟩
theorem aK6 (c:cR prog w A E s κ Ok rk)(hk:kindOf st=κ){x y:Array Keyed}{Q:Array Keyed->SortSt->Prop}(ox:bT Ok x)(oy:bT Ok y)(sx:Sd rk x.toList)(sy:Sd rk y.toList)(x0:0<x.size)(y0:0<y.size)(hf:∀t∈x.toList,rk y[0]<=rk t)(hl:∀u∈y.toList,rk u<=rk x[x.size-1])(h:∀r st',Gq st st'->eY rk x y r->Q r st'):wpS (model prog w) A E s (xZ x y) Q st:=by
 rw[aK3]
 refine bo0 (wpS_lift (bD2 ⟨rfl,bo0 (dF (by omega:x.size-1<x.size) ?_)⟩))
 have m0:MH rk x.toList y.toList (#[x[x.size-1]]:Array Keyed).toList.reverse (x.size-1) y.size:=by
  have mm:MH rk x.toList y.toList [] x.size y.size:=⟨by simp,by rw[bp8 (by simp),bs1];exact sx,by rw[bp8 (by simp),bs1];exact sy⟩
  have e:=qA (x:=x) (i:=x.size-1) (by omega)
  rw[show x.size-1+1=x.size by omega]at e
  have:=mm.ofx (Nat.sub_le x.size 1) λt ht u hu=>?_
  ·rw[<- e]at this;simpa using this
  ·rw[<- e,bm2]at hu
   subst hu
   exact hl t (bv8 ht)
 by_cases e1:(x.size-1==0)=true
 ·rw[if_pos e1]
  exact bp0 (h _ st (Gq.refl st) (m0.done (.inl (by simpa using e1))))
 ·rw[if_neg e1]
  have e1:x.size-1≠0:=by simpa using e1
  by_cases e2:(y.size==1)=true
  ·rw[if_pos e2]
   exact bp0 (h _ st (Gq.refl st) (m0.frst y0 hf (by simpa using e2)))
  ·rw[if_neg e2]
   have e2:y.size≠1:=by simpa using e2
   refine bo0 (wpS_get ?_)
   unfold W8
   refine bo0 (bC3 (bv9
    (I:=λn c st'=>Gq st st'/\∃i j o mg,c=(none,i,j,o,mg)/\HB rk x y (n+1) i j o)
    (Q:=λc st'=>Gq st st'/\∃r i j o mg,c=(some r,i,j,o,mg)/\eY rk x y r) ?_ ?_ ⟨Gq.refl st,_,_,_,_,rfl,m0,by omega,by omega,by omega,by omega,by omega⟩) ?_)
   ·rintro n c1 st1 _ hn ⟨q1,i,j,o,mg,rfl,b⟩
    dsimp only
    refine bo0 (aK5 c hk ox oy sx sy y0 hf q1 b (λr o' i' j' p q st' g md=>bp0 ⟨g,r,_,_,_,_,rfl,md⟩) λi' j' o' p q st' g b'=>?_)
    refine bo0 (wpS_lift (bD2 ⟨rfl,?_⟩))
    refine bo0 (bC3 (aK4 c hk ox oy sx sy y0 hf g b') ?_)
    rintro c3 st3 ⟨q3,⟨r,i3,j3,o,mg,p,q,rfl,md⟩|⟨i3,j3,o,mg,p,q,rfl,b3⟩⟩
    ·exact bp0 ⟨q3,r,_,_,_,_,rfl,md⟩
    ·exact bo0 (tH q3 λst4 q4=>bp0 ⟨q4,i3,j3,o,_,rfl,b3⟩)
   ·rintro c1 st1 ⟨q1,i,j,o,mg,rfl,b⟩
    have:=b.pr
    exact absurd this (by omega)
   ·rintro c1 st1 ⟨q1,r,i,j,o,mg,rfl,md⟩
    exact bp0 (h r _ q1 md)
end
theorem aK7 (i:Nat):mergeAt' i=(do
 let z <- get
 let (some (sa,na,pw),some (sb,nb,_)):=((pendingOf z)[i]?,(pendingOf z)[i+1]?)|unsupported "internal:list.sort.pending"
 set (SortSt.mk' (kindOf z) (arrOf z) (((pendingOf z).setIfInBounds i (sa,na+nb,pw)).eraseIdxIfInBounds (i+1)) (gallopOf z) (failedOf z))
 let some k <- lD false (<- elem' (arrOf z) sb) (arrOf z) sa na 0|return false
 let (sa,na):=(sa+k,na-k)
 if na==0 then return true
 let some nb <- lD true (<- elem' (arrOf z) (sa+na-1)) (arrOf z) sb nb (nb-1)|return false
 if nb==0 then return true
 let x:=(arrOf z).extract sa sb
 let y:=(arrOf z).extract sb (sb+nb)
 let m <- if na<=nb then xV x y else xZ x y
 modify λz=>setArr z (m.toList.zipIdx.foldl (λa (p,j)=>a.setIfInBounds (sa+j) p) (arrOf z))
 return (failedOf (<- get)).isNone):=rfl
variable {rk:Keyed→Int}
theorem aK8 {σ:Type}{M:Model}{A:Around}{E:Value->Shared->Prop}{s:Shared}{a b:σ}{Q:PUnit->σ->Prop}(h:Q ⟨⟩ a):wpS M A E s (set a:StateT σ Sem PUnit) Q b:=by
 unfold wpS;rw[StateT.run_set];exact bn7 ⟨rfl,h⟩
theorem X2 (o:Nat):∀(m:List Keyed) (n:Nat) (a:Array Keyed) (t:Nat),o+n+m.length<=a.size->
  ((m.zipIdx n).foldl (λa (p,j)=>a.setIfInBounds (o+j) p) a)[t]? = if o+n<=t/\t<o+n+m.length then m[t-(o+n)]? else a[t]?
 |[],n,a,t,_=>by
  show a[t]? = _
  rw[if_neg (λz=>Nat.not_lt_of_ge z.1 z.2)]
 |p::m,n,a,t,h=>by
  rw[List.zipIdx_cons,List.foldl_cons]
  have h':o+(n+1)+m.length<=(a.setIfInBounds (o+n) p).size:=by rw[Array.size_setIfInBounds];simp at h;omega
  have ih:=X2 o m (n+1) (a.setIfInBounds (o+n) p) t h'
  refine ih.trans ?_
  have hs:o+n<a.size:=by simp at h;omega
  rw[Array.getElem?_setIfInBounds]
  by_cases e:o+n=t
  ·subst e
   rw[if_neg (by omega),if_pos rfl,if_pos hs,if_pos (by simp),Nat.sub_self];rfl
  ·rw[if_neg e]
   by_cases c:o+n<=t/\t<o+n+(p::m).length
   ·rw[if_pos c,if_pos (by simp at c;omega)]
    rw[show t-(o+n)=(t-(o+(n+1)))+1 by omega];rfl
   ·rw[if_neg c,if_neg (by simp at c ⊢;omega)]
theorem X3 {a:Array Keyed}{lo hi:Nat}(u:Up rk a lo hi)(hh:hi<=a.size):Sd rk (a.extract lo hi).toList:=by
 unfold Sd
 rw[bt6]
 intro i j hi' hj hij
 have h2:lo+j<hi:=by simp at hj;omega
 have:=u (lo+i) (lo+j) (by omega) (by omega) h2
 rw[cA (by omega:lo+i<a.size),cA (by omega:lo+j<a.size)]at this
 simpa using this
theorem X4 {a:Array Keyed}{lo mid hi:Nat}(u:Up rk a lo mid)(v:Up rk a mid hi)(h0:lo<mid)(h1:mid<hi)(h:Kr rk a (mid-1)<=Kr rk a mid):Up rk a lo hi:=λi j hi' hij hj=>by
 rcases bt2 j mid with z|z
 ·exact u i j hi' hij z
 ·rcases bt2 i mid with y|y
  ·have a1:=u i (mid-1) hi' (by omega) (by omega)
   have a2:=v mid j (bn1 _) z hj
   omega
  ·exact v i j y hij hj
theorem X5 {a:Array Keyed}{lo hi t:Nat}(h:t<hi-lo)(hh:hi<=a.size):Kr rk (a.extract lo hi) t=Kr rk a (lo+t):=by
 refine mF ?_
 rw[Array.getElem?_extract_of_lt (by omega)]
 exact (getElem?_pos a (lo+t) (by omega)).symm
section
variable {κ:SortKind}{a0:Array Keyed}{pd:Array (Nat×Nat×Nat)}{st:SortSt}{prog:Program}{w:World}{A:Around}{E:Value→Shared→Prop}{s:Shared}{Ok:Keyed→Prop}
theorem aK9 {a m:Array Keyed}{p x e:Nat}(hpx:p<=x)(hxe:x<=e)(he:e<=a.size)(md:eY rk (a.extract p x) (a.extract x e) m) :
  let r:=m.toList.zipIdx.foldl (λa (q,j)=>a.setIfInBounds (p+j) q) a
  r.Perm a/\(∀t,(t<p∨e<=t)->Kr rk r t=Kr rk a t)/\(∀t t',p<=t->t<=t'->t'<e->Kr rk r t<=Kr rk r t')/\∀t,p<=t->t<e->∃t',p<=t'/\t'<e/\Kr rk r t=Kr rk a t':=by
 intro r
 have ml:m.toList.length=e-p:=by
  rw[md.1.length_eq];simp;omega
 have g:∀t,r[t]? = if p<=t/\t<e then m[t-p]? else a[t]?:=λt=>by
  have:=X2 p m.toList 0 a t (by omega)
  rw[show r=(m.toList.zipIdx 0).foldl (λa (q,j)=>a.setIfInBounds (p+j) q) a from rfl,this]
  simp only[Nat.add_zero,ml,show p+(e-p)=e by omega,bx5]
 have ex:(a.extract p x).toList++(a.extract x e).toList=(a.toList.take e).drop p:=by
  rw[mI,mI,bD1,bD1,bD1]
  rw[show x=p+(x-p) by omega,<- List.drop_drop,show p+(x-p)-p=x-p by omega,show e-(p+(x-p))=(e-p)-(x-p) by omega]
  have:=br2 (x-p) ((a.toList.drop p).take (e-p))
  rw[List.take_take,bD1,Nat.min_eq_left (by omega)]at this
  exact this
 have rl:r.toList=a.toList.take p++(m.toList++a.toList.drop e):=by
  apply List.ext_getElem?
  intro t
  rw[bx5,g]
  rcases bt2 t p with z|z
  ·rw[if_neg (by omega),bp1 (by simp;omega),bz6 z,bx5]
  ·rw[br6 (by simp;omega)]
   have lp:(a.toList.take p).length=p:=by simp;omega
   rw[lp]
   rcases bt2 t e with y|y
   ·rw[if_pos ⟨z,y⟩,bp1 (by omega),bx5]
   ·rw[if_neg (by omega),br6 (by omega),ml,List.getElem?_drop,bx5]
    congr 1;omega
 have mp:m.toList.Perm ((a.toList.take e).drop p):=ex▸md.1
 refine⟨?_,λt ht=>mF (by rw[g,if_neg (by omega)]),λt t' h1 h2 h3=>?_,λt h1 h2=>?_⟩
 ·refine Array.perm_iff_toList_perm.mpr ?_
  rw[rl]
  have:a.toList=a.toList.take p++((a.toList.take e).drop p++a.toList.drop e):=by
   rw[yD _ (by omega:p<=e)];exact (br2 p _).symm
  conv=>rhs;rw[this]
  exact (mp.append_right _).append_left _
 ·have e1:Kr rk r t=Kr rk m (t-p):=mF (by rw[g,if_pos (by omega)])
  have e2:Kr rk r t'=Kr rk m (t'-p):=mF (by rw[g,if_pos (by omega)])
  rw[e1,e2]
  have ms:m.size=e-p:=by rw[<- ml];simp
  exact md.2.up 0 m.size (bn1 _) (t-p) (t'-p) (by omega) (by omega) (by omega)
 ·have e1:Kr rk r t=Kr rk m (t-p):=mF (by rw[g,if_pos (by omega)])
  have ms:m.size=e-p:=by rw[<- ml];simp
  have hm:t-p<m.size:=by omega
  have mm:m[t-p]∈(a.toList.take e).drop p:=mp.mem_iff.mp (by simp)
  obtain⟨t',q1,q2,q3,q4⟩:=pZ (rk:=rk) mm
  exact⟨t',q1,q2,by rw[e1,cA hm];exact q4⟩
theorem aL0 (c:cR prog w A E s κ Ok rk)(o:bT Ok a0)(b:SB κ a0 pd st){i sa na pw sb nb pw':Nat}{Q:Bool->SortSt->Prop}(e1:pd[i]? = some (sa,na,pw))(e2:pd[i+1]? = some (sb,nb,pw'))(hs:sb=sa+na)(n0:0<na)(m0:0<nb)(hz:sb+nb<=a0.size)(u:Up rk (arrOf st) sa sb)(v:Up rk (arrOf st) sb (sb+nb))(h:∀st',SB κ a0 ((pd.setIfInBounds i (sa,na+nb,pw)).eraseIdxIfInBounds (i+1)) st'->Up rk (arrOf st') sa (sb+nb)->(∀t,(t<sa∨sb+nb<=t)->Kr rk (arrOf st') t=Kr rk (arrOf st) t)->Q true st'):wpS (model prog w) A E s (mergeAt' i) Q st:=by
 have sz:=b.sz
 rw[aK7]
 refine bo0 (wpS_get ?_)
 rw[b.pd,e1,e2]
 dsimp only
 refine bo0 (aK8 ?_)
 generalize hst:SortSt.mk' (kindOf st) (arrOf st) ((pd.setIfInBounds i (sa,na+nb,pw)).eraseIdxIfInBounds (i+1)) (gallopOf st) (failedOf st)=st1
 have b1:SB κ a0 ((pd.setIfInBounds i (sa,na+nb,pw)).eraseIdxIfInBounds (i+1)) st1:=by rw[<- hst];exact⟨b.pm,b.kd,b.ok,rfl⟩
 have ar:arrOf st1=arrOf st:=by rw[<- hst]
 have oa:=b.all o
 have hsb:sb<(arrOf st).size:=by omega
 refine bo0 (dF hsb (bo0 (nV c b1.kd (oa _ (bt1 hsb)) oa n0 (by omega) (hs▸u) λk k1 k2 k3=>?_)))
 dsimp only
 have k2':∀t,sa<=t->t<sa+k->Kr rk (arrOf st) t<=Kr rk (arrOf st) sb:=λt t1 t2=>by
  have:=k2 (t-sa) (by omega)
  rw[nX,bq1,show sa+(t-sa)=t by omega]at this
  rw[cA hsb];exact this
 have k3':∀t,sa+k<=t->t<sb->Kr rk (arrOf st) sb<Kr rk (arrOf st) t:=λt t1 t2=>by
  have:=k3 (t-sa) (by omega) (by omega)
  rw[nX,bs7,show sa+(t-sa)=t by omega]at this
  rw[cA hsb];omega
 by_cases ek:(na-k==0)=true
 ·rw[if_pos ek]
  have ek:na-k=0:=by simpa using ek
  refine bp0 (h st1 b1 ?_ λt _=>by rw[ar])
  rw[ar]
  exact X4 u v (by omega) (by omega) (k2' (sb-1) (by omega) (by omega))
 ·rw[if_neg ek]
  have ek:na-k≠0:=by simpa using ek
  have el:sa+k+(na-k)-1=sb-1:=by omega
  rw[el]
  have hsl:sb-1<(arrOf st).size:=by omega
  refine bo0 (dF hsl (bo0 (nV c b1.kd (oa _ (bt1 hsl)) oa (by omega) (by omega) v λl l1 l2 l3=>?_)))
  dsimp only
  have l2':∀t,sb<=t->t<sb+l->Kr rk (arrOf st) t<Kr rk (arrOf st) (sb-1):=λt t1 t2=>by
   have:=l2 (t-sb) (by omega)
   rw[nY,bq1,show sb+(t-sb)=t by omega]at this
   rw[cA hsl];exact this
  have l3':∀t,sb+l<=t->t<sb+nb->Kr rk (arrOf st) (sb-1)<=Kr rk (arrOf st) t:=λt t1 t2=>by
   have:=l3 (t-sb) (by omega) (by omega)
   rw[nY,bs7,show sb+(t-sb)=t by omega]at this
   rw[cA hsl];omega
  by_cases en:(l==0)=true
  ·rw[if_pos en]
   have en:l=0:=by simpa using en
   subst en
   refine bp0 (h st1 b1 ?_ λt _=>by rw[ar])
   rw[ar]
   exact X4 u v (by omega) (by omega) (l3' sb (by omega) (by omega))
  ·rw[if_neg en]
   have en:l≠0:=by simpa using en
   have sub:∀p e,bT Ok ((arrOf st).extract p e):=λp e z hz=>oa z (by
    have:z∈((arrOf st).extract p e).toList:=Array.mem_toList_iff.mpr hz
    rw[mI]at this
    exact Array.mem_toList_iff.mp (bv8 (List.mem_of_mem_drop this)))
   have sx:Sd rk ((arrOf st).extract (sa+k) sb).toList:=X3 (λi j h1 h2 h3=>u i j (by omega) h2 h3) (by omega)
   have sy:Sd rk ((arrOf st).extract sb (sb+l)).toList:=X3 (λi j h1 h2 h3=>v i j h1 h2 (by omega)) (by omega)
   have x0:0<((arrOf st).extract (sa+k) sb).size:=by simp;omega
   have y0:0<((arrOf st).extract sb (sb+l)).size:=by simp;omega
   have hf:∀t∈((arrOf st).extract (sa+k) sb).toList,rk ((arrOf st).extract sb (sb+l))[0]<=rk t:=λt ht=>by
    rw[mI]at ht
    obtain⟨t',q1,q2,q3,q4⟩:=pZ (rk:=rk) ht
    rw[q4,<- cA (rk:=rk) y0,X5 (by omega) (by omega)]
    exact bC2 (k3' t' q1 q2)
   have hl:∀t∈((arrOf st).extract sb (sb+l)).toList,rk t<=rk ((arrOf st).extract (sa+k) sb)[((arrOf st).extract (sa+k) sb).size-1]:=λt ht=>by
    rw[mI]at ht
    obtain⟨t',q1,q2,q3,q4⟩:=pZ (rk:=rk) ht
    have e:((arrOf st).extract (sa+k) sb).size=sb-(sa+k):=by simp;omega
    rw[q4,<- cA (rk:=rk) (by omega),X5 (by omega) (by omega),e,show sa+k+(sb-(sa+k)-1)=sb-1 by omega]
    exact bC2 (l2' t' q1 q2)
   have fin:∀(m:Array Keyed) (st2:SortSt),Gq st1 st2->eY rk ((arrOf st).extract (sa+k) sb) ((arrOf st).extract sb (sb+l)) m->
     wpS (model prog w) A E s (do modify (λz=>setArr z (m.toList.zipIdx.foldl (λa (p,j)=>a.setIfInBounds (sa+k+j) p) (arrOf z)));return (failedOf (<- get)).isNone) Q st2:=λm st2 g md=>by
    have b2:SB κ a0 ((pd.setIfInBounds i (sa,na+nb,pw)).eraseIdxIfInBounds (i+1)) st2:=⟨by rw[g.ar];exact b1.pm,g.kd.trans b1.kd,g.ok.trans b1.ok,g.pd.trans b1.pd⟩
    have a2:arrOf st2=arrOf st:=g.ar.trans ar
    obtain⟨r1,r2,r3,r4⟩:=aK9 (by omega) (by omega) (by omega) md
    generalize hr:m.toList.zipIdx.foldl (λa (q,j)=>a.setIfInBounds (sa+k+j) q) (arrOf st)=r at r1 r2 r3 r4
    refine bo0 (wpS_modify (bo0 (wpS_get (bp0 ?_))))
    have b3:=b2.put (xs:=m.toList.zipIdx.foldl (λa (q,j)=>a.setIfInBounds (sa+k+j) q) (arrOf st2)) (by rw[a2,hr];exact r1)
    have er:arrOf (setArr st2 (m.toList.zipIdx.foldl (λa (q,j)=>a.setIfInBounds (sa+k+j) q) (arrOf st2)))=r:=by rw[<- hr,a2]
    have tr:(failedOf (setArr st2 (m.toList.zipIdx.foldl (λa (q,j)=>a.setIfInBounds (sa+k+j) q) (arrOf st2)))).isNone=true:=by rw[b3.ok];rfl
    rw[tr]
    refine h _ b3 (λi j hi hij hj=>?_) λt ht=>?_
    ·rw[er]
     have bl:∀t,sa<=t->t<sa+k->∀t',sa+k<=t'->t'<sb+l->Kr rk (arrOf st) t<=Kr rk (arrOf st) t':=λt t1 t2 t' t3 t4=>by
      rcases bt2 t' sb with z|z
      ·exact u t t' t1 (by omega) z
      ·have a1:=k2' t t1 t2
       have a2:=v sb t' (bn1 _) z (by omega)
       omega
     have br:∀t,sb+l<=t->t<sb+nb->∀t',sa+k<=t'->t'<sb+l->Kr rk (arrOf st) t'<=Kr rk (arrOf st) t:=λt t1 t2 t' t3 t4=>by
      rcases bt2 t' sb with z|z
      ·have a1:=u t' (sb-1) (by omega) (by omega) (by omega)
       have a2:=l3' t t1 t2
       omega
      ·exact v t' t z (by omega) t2
     have blr:∀t,sa<=t->t<sa+k->∀t',sb+l<=t'->t'<sb+nb->Kr rk (arrOf st) t<=Kr rk (arrOf st) t':=λt t1 t2 t' t3 t4=>by
      have a1:=bl t t1 t2 (sb-1) (by omega) (by omega)
      have a2:=l3' t' t3 t4
      omega
     rcases bt2 i (sa+k) with z|z
     ·rw[r2 i (.inl z)]
      rcases bt2 j (sa+k) with y|y
      ·rw[r2 j (.inl y)];exact u i j hi hij (by omega)
      ·rcases bt2 j (sb+l) with x|x
       ·obtain⟨t',q1,q2,q3⟩:=r4 j y x
        rw[q3];exact bl i hi z t' q1 q2
       ·rw[r2 j (.inr x)];exact blr i hi z j x hj
     ·rcases bt2 j (sb+l) with x|x
      ·exact r3 i j z hij x
      ·rw[r2 j (.inr x)]
       rcases bt2 i (sb+l) with y|y
       ·obtain⟨t',q1,q2,q3⟩:=r4 i z y
        rw[q3];exact br j x hj t' q1 q2
       ·rw[r2 i (.inr y)];exact v i j (by omega) hij hj
    ·rw[er];exact r2 t (by omega)
   by_cases hle:na-k<=l
   ·rw[if_pos hle]
    exact bo0 (aK2 c b1.kd (sub _ _) (sub _ _) sx sy x0 y0 hf hl λm st2 g md=>fin m st2 g md)
   ·rw[if_neg hle]
    exact bo0 (aK6 c b1.kd (sub _ _) (sub _ _) sx sy x0 y0 hf hl λm st2 g md=>fin m st2 g md)
end
def Ch:Nat->List (Nat×Nat)->Nat->Prop
 |a,[],b=>a=b
 |a,(p,n)::r,b=>p=a/\0<n/\Ch (a+n) r b
theorem Ch.split:∀{l l':List (Nat×Nat)}{a b:Nat},Ch a (l++l') b->∃m,Ch a l m/\Ch m l' b
 |[],_,a,_,h=>⟨a,rfl,h⟩
 |(p,n)::l,l',a,b,h=>by
  obtain⟨h1,h2,h3⟩:=h
  obtain⟨m,q1,q2⟩:=Ch.split h3
  exact⟨m,⟨h1,h2,q1⟩,q2⟩
theorem Ch.join:∀{l l':List (Nat×Nat)}{a m b:Nat},Ch a l m->Ch m l' b->Ch a (l++l') b
 |[],_,a,m,_,h,h'=>by cases (show a=m from h);exact h'
 |(p,n)::l,l',a,m,b,h,h'=>⟨h.1,h.2.1,Ch.join h.2.2 h'⟩
theorem Ch.len:∀{l:List (Nat×Nat)}{a b:Nat},Ch a l b->a+l.length<=b
 |[],a,b,h=>by cases (show a=b from h);simp
 |(p,n)::l,a,b,h=>by
  have:=Ch.len h.2.2
  have:=h.2.1
  simp;omega
theorem Ch.mem:∀{l:List (Nat×Nat)}{a b:Nat}{r:Nat×Nat},Ch a l b->r∈l->a<=r.1/\r.1+r.2<=b/\0<r.2
 |(p,n)::l,a,b,r,h,hr=>by
  obtain⟨h1,h2,h3⟩:=h
  have hb:=Ch.len h3
  rcases bn8.mp hr with e|e
  ·subst e
   have h1:p=a:=h1
   refine⟨?_,?_,h2⟩
   ·show a<=p;omega
   ·show p+n<=b;omega
  ·have:=Ch.mem h3 e
   exact⟨by omega,this.2.1,this.2.2⟩
def sk (pd:Array (Nat×Nat×Nat)):List (Nat×Nat):=pd.toList.map λr=>(r.1,r.2.1)
theorem tN (pd:Array (Nat×Nat×Nat)):(sk pd).length=pd.size:=by simp[sk]
structure Rn (rk:Keyed->Int)(a:Array Keyed)(l:List (Nat×Nat))(lo:Nat):Prop where
 ch:Ch 0 l lo
 up:∀r∈l,Up rk a r.1 (r.1+r.2)
variable {rk:Keyed→Int}{κ:SortKind}{a0:Array Keyed}{pd:Array (Nat×Nat×Nat)}{st:SortSt}{prog:Program}{w:World}{A:Around}{E:Value→Shared→Prop}{s:Shared}{Ok:Keyed→Prop}
theorem Rn.same {a b:Array Keyed}{l:List (Nat×Nat)}{lo:Nat}(h:Rn rk a l lo)(e:∀t,t<lo->Kr rk b t=Kr rk a t):Rn rk b l lo:=⟨h.ch,λr hr i j hi hij hj=>by
 have:=(h.ch.mem hr).2.1
 rw[e i (by omega),e j (by omega)]
 exact h.up r hr i j hi hij hj⟩
theorem X6 (c:cR prog w A E s κ Ok rk)(o:bT Ok a0)(b:SB κ a0 pd st){i lo:Nat}{Q:Bool->SortSt->Prop}(hi:i+1<pd.size)(hz:lo<=a0.size)(rn:Rn rk (arrOf st) (sk pd) lo)(h:∀pd' st',SB κ a0 pd' st'->pd'.size+1=pd.size->Rn rk (arrOf st') (sk pd') lo->(∀t,lo<=t->Kr rk (arrOf st') t=Kr rk (arrOf st) t)->Q true st'):wpS (model prog w) A E s (mergeAt' i) Q st:=by
 obtain⟨⟨sa,na,pw⟩,e1⟩:∃r,pd[i]? = some r:=⟨pd[i],getElem?_pos pd i (by omega)⟩
 obtain⟨⟨sb,nb,pw'⟩,e2⟩:∃r,pd[i+1]? = some r:=⟨pd[i+1],getElem?_pos pd (i+1) hi⟩
 have d1:pd.toList=pd.toList.take i++(sa,na,pw)::(sb,nb,pw')::pd.toList.drop (i+2):=by
  have hl:i<pd.toList.length:=by simp;omega
  have hl2:i+1<pd.toList.length:=by simpa using hi
  have g1:pd.toList[i]=(sa,na,pw):=by rw[getElem?_pos pd i (by omega)]at e1;simpa using e1
  have g2:pd.toList[i+1]=(sb,nb,pw'):=by rw[getElem?_pos pd (i+1) hi]at e2;simpa using e2
  have:=br2 i pd.toList
  rw[List.drop_eq_getElem_cons hl,List.drop_eq_getElem_cons hl2,g1,g2]at this
  exact this.symm
 have li:(pd.toList.take i).length=i:=by simp;omega
 have d2:((pd.setIfInBounds i (sa,na+nb,pw)).eraseIdxIfInBounds (i+1)).toList=pd.toList.take i++(sa,na+nb,pw)::pd.toList.drop (i+2):=by
  have e:((pd.setIfInBounds i (sa,na+nb,pw)).eraseIdxIfInBounds (i+1)).toList=(pd.toList.set i (sa,na+nb,pw)).eraseIdx (i+1):=by
   unfold Array.eraseIdxIfInBounds
   rw[dif_pos (by rw[Array.size_setIfInBounds];exact hi),Array.toList_eraseIdx,Array.toList_setIfInBounds]
  rw[e]
  conv=>lhs;rw[d1]
  rw[List.set_append_right _ _ (by omega),li,Nat.sub_self,List.set_cons_zero,List.eraseIdx_append_of_length_le (by omega),li,show i+1-i=1 by omega]
  rfl
 have k1:sk pd=(pd.toList.take i).map (λr=>(r.1,r.2.1))++(sa,na)::(sb,nb)::(pd.toList.drop (i+2)).map (λr=>(r.1,r.2.1)):=by
  unfold sk;conv=>lhs;rw[d1]
  simp
 have k2:sk ((pd.setIfInBounds i (sa,na+nb,pw)).eraseIdxIfInBounds (i+1))=(pd.toList.take i).map (λr=>(r.1,r.2.1))++(sa,na+nb)::(pd.toList.drop (i+2)).map (λr=>(r.1,r.2.1)):=by
  unfold sk;rw[d2]
  simp
 have ch:=rn.ch
 rw[k1]at ch
 obtain⟨m,c1,c2⟩:=ch.split
 obtain⟨f1,f2,f3,f4,f5⟩:=c2
 have f1:sa=m:=f1
 have f3:sb=m+na:=f3
 have up:=rn.up
 rw[k1]at up
 have lo2:=f5.len
 refine aL0 c o b e1 e2 (by omega) f2 f4 (by omega) (by have:=up (sa,na) (by simp);rw[f3,<- f1];exact this) (up (sb,nb) (by simp)) λst' b' u' fr=>h _ st' b' ?_ ⟨?_,?_⟩ λt ht=>fr t (by omega)
 ·rw[<- tN,<- tN,k1,k2];simp;omega
 ·rw[k2]
  refine c1.join ⟨f1,by omega,?_⟩
  rw[<- Nat.add_assoc];exact f5
 ·intro r hr
  rw[k2]at hr
  rcases bn0.mp hr with z|z
  ·intro p q h1 h2 h3
   have:=(c1.mem z).2.1
   rw[fr p (by omega),fr q (by omega)]
   exact up r (bo3 _ z) p q h1 h2 h3
  ·rcases bn8.mp z with z|z
   ·subst z
    show Up rk (arrOf st') sa (sa+(na+nb))
    rw[show sa+(na+nb)=sb+nb by omega];exact u'
   ·intro p q h1 h2 h3
    have:=(f5.mem z).1
    rw[fr p (by omega),fr q (by omega)]
    exact up r (bo8 _ (bn5 _ (bn5 _ z))) p q h1 h2 h3
abbrev RS:=Option Unit×Nat
def X7 (sz pw:Nat):StateT SortSt Sem (Option Unit×Unit):=forIn [0:sz] ((none,()):Option Unit×Unit) λ_ _=>do
 let z <- get
 match (if (pendingOf z).size>1 then (pendingOf z)[(pendingOf z).size-2]? else none) with
 |some (_,_,o)=>if o<=pw then pure (.done (none,())) else do
   let q <- mergeAt' ((pendingOf z).size-2)
   if (!q)=true then pure (.done (some (),())) else pure (.yield (none,()))
 |_=>pure (.done (none,()))
def jn (sz lo n:Nat):StateT SortSt Sem (ForInStep RS):=do
 let z <- get
 match (pendingOf z).back? with
 |some (s1,n1,_)=>do
  let r <- X7 sz (power' sz (2*s1+n1) (2*s1+n1+n1+n) sz)
  match r.1 with
  |some u=>pure (.done (some u,lo))
  |none=>do
   modify λs=>setPending s ((pendingOf s).modify ((pendingOf s).size-1) λx=>(x.1,x.2.1,power' sz (2*s1+n1) (2*s1+n1+n1+n) sz))
   modify λs=>setPending s ((pendingOf s).push (lo,n,0))
   pure (.yield (none,lo+n))
 |_=>do
  modify λs=>setPending s ((pendingOf s).push (lo,n,0))
  pure (.yield (none,lo+n))
def X8 (sz mr lo:Nat):StateT SortSt Sem (ForInStep RS):=if lo >= sz then pure (.done (none,lo)) else do
 match <- countRun' lo (sz-lo) with
 |some n=>
  if n<mr then
   liftM (rule "list.sort.binary-insertion")
   let q <- binarySort' lo (min (sz-lo) mr) n
   if (!q)=true then pure (.done (some (),lo)) else jn sz lo (min (sz-lo) mr)
  else jn sz lo n
 |_=>pure (.done (some (),lo))
def X9 (sz:Nat):StateT SortSt Sem (Option Unit×Unit):=forIn [0:sz] ((none,()):Option Unit×Unit) λ_ _=>do
 let z <- get
 if (pendingOf z).size<=1 then pure (.done (none,())) else do
  let q <- mergeAt' (if ((if (pendingOf z).size-2>0 then (pendingOf z)[(pendingOf z).size-2-1]?.map (·.2.1) else none).any (·<((pendingOf z)[(pendingOf z).size-2+1]?.elim 0 (·.2.1))))=true then (pendingOf z).size-2-1 else (pendingOf z).size-2)
  if (!q)=true then pure (.done (some (),())) else pure (.yield (none,()))
theorem aL1:sortRuns'=(do
 let z <- get
 let r <- (forIn [0:(arrOf z).size] ((none,0):RS) λ_ r=>X8 (arrOf z).size (minRun' (arrOf z).size (arrOf z).size 0) r.2)
 match r.1 with
 |some u=>pure u
 |none=>do
  let q <- X9 (arrOf z).size
  match q.1 with
  |some u=>pure u
  |none=>pure ()):=by kernel_rfl
theorem Y0 {lo nn:Nat}(n1:0<nn){pd:Array (Nat×Nat×Nat)}{a:Array Keyed}(r:Rn rk a (sk pd) lo)(u:Up rk a lo (lo+nn)):Rn rk a (sk (pd.push (lo,nn,0))) (lo+nn):=by
 have e:sk (pd.push (lo,nn,0))=sk pd++[(lo,nn)]:=by simp[sk]
 refine⟨by rw[e];exact r.ch.join ⟨rfl,n1,rfl⟩,λq hq=>?_⟩
 rw[e]at hq
 rcases bn0.mp hq with z|z
 ·exact r.up q z
 ·rw[bm2]at z
  subst z
  exact u
theorem Y1 (c:cR prog w A E s κ Ok rk)(o:bT Ok a0)(b:SB κ a0 pd st){lo n:Nat}{Q:ForInStep RS->SortSt->Prop}(n1:1<=n)(n2:lo+n<=a0.size)(rn:Rn rk (arrOf st) (sk pd) lo)(u:Up rk (arrOf st) lo (lo+n))(h:∀pd' st',SB κ a0 pd' st'->Rn rk (arrOf st') (sk pd') (lo+n)->Q (.yield (none,lo+n)) st'):wpS (model prog w) A E s (jn a0.size lo n) Q st:=by
 unfold jn
 refine bo0 (wpS_get ?_)
 rw[b.pd]
 cases hb:pd.back? with
 |none=>exact bo0 (wpS_modify (bp0 (h (pd.push (lo,n,0)) _ ⟨b.pm,b.kd,b.ok,by show (pendingOf st).push _=_;rw[b.pd]⟩ (Y0 n1 rn u))))
 |some q=>
  obtain⟨s1,m1,q3⟩:=q
  dsimp only
  generalize power' a0.size (2*s1+m1) (2*s1+m1+m1+n) a0.size=pw
  unfold X7
  refine bo0 (bC3 (bv9
   (I:=λ_ r st'=>r=(none,())/\∃pd,SB κ a0 pd st'/\Rn rk (arrOf st') (sk pd) lo/\Up rk (arrOf st') lo (lo+n))
   (Q:=λr st'=>r=(none,())/\∃pd,SB κ a0 pd st'/\Rn rk (arrOf st') (sk pd) lo/\Up rk (arrOf st') lo (lo+n)) ?_ (λ_ _ z=>z) ⟨rfl,pd,b,rn,u⟩) ?_)
  ·rintro t r st4 _ ht ⟨rfl,pd4,b4,r4,u4⟩
   refine bo0 (wpS_get ?_)
   rw[b4.pd]
   cases ho:(if pd4.size>1 then pd4[pd4.size-2]? else none) with
   |none=>exact bp0 ⟨rfl,pd4,b4,r4,u4⟩
   |some z=>
    obtain⟨z1,z2,z3⟩:=z
    have h1:pd4.size>1:=by
     by_cases y:pd4.size>1
     ·exact y
     ·rw[if_neg y]at ho;cases ho
    dsimp only
    by_cases hp:z3<=pw
    ·rw[if_pos hp]
     exact bp0 ⟨rfl,pd4,b4,r4,u4⟩
    ·rw[if_neg hp]
     refine bo0 (X6 c o b4 (by omega) (by omega) r4 λpd5 st5 b5 _ r5 f5=>?_)
     exact bp0 ⟨rfl,pd5,b5,r5,λi j hi hij hj=>by rw[f5 i hi,f5 j (by omega)];exact u4 i j hi hij hj⟩
  ·rintro r st4 ⟨rfl,pd4,b4,r4,u4⟩
   refine bo0 (wpS_modify (bo0 (wpS_modify (bp0 ?_))))
   have e:sk (pd4.modify (pd4.size-1) λx=>(x.1,x.2.1,pw))=sk pd4:=by
    unfold sk
    rw[Array.toList_modify]
    apply List.ext_getElem?
    intro t
    rw[bn4,bn4,List.getElem?_modify]
    cases pd4.toList[t]? with
    |none=>simp
    |some v=>by_cases y:pd4.size-1=t<;>simp[y]
   refine h ((pd4.modify (pd4.size-1) λx=>(x.1,x.2.1,pw)).push (lo,n,0)) _ ⟨b4.pm,b4.kd,b4.ok,?_⟩ (Y0 n1 (by rw[e];exact r4) u4)
   show ((pendingOf st4).modify ((pendingOf st4).size-1) λx=>(x.1,x.2.1,pw)).push _=_
   rw[b4.pd]
theorem aL2 (c:cR prog w A E s κ Ok rk)(o:bT Ok a0)(b:SB κ a0 #[] st){Q:Unit->SortSt->Prop}(h2:1<=a0.size)(h:∀st',(arrOf st').Perm a0->failedOf st'=none->Up rk (arrOf st') 0 a0.size->Q () st'):wpS (model prog w) A E s sortRuns' Q st:=by
 rw[aL1]
 refine bo0 (wpS_get ?_)
 rw[b.sz]
 generalize minRun' a0.size a0.size 0=mr
 refine bo0 (bC3 (bv9
  (I:=λx r st'=>∃lo pd,r=(none,lo)/\x<=lo/\lo<=a0.size/\SB κ a0 pd st'/\Rn rk (arrOf st') (sk pd) lo)
  (Q:=λr st'=>∃pd,r=(none,a0.size)/\SB κ a0 pd st'/\Rn rk (arrOf st') (sk pd) a0.size) ?_ ?_ ⟨0,#[],rfl,bn1 _,br5 _,b,⟨rfl,λr hr=>absurd hr (by simp[sk])⟩⟩) ?_)
 ·rintro x r st1 _ hx ⟨lo,pd,rfl,xl,lz,b1,rn⟩
  unfold X8
  dsimp only
  by_cases hd:lo >= a0.size
  ·rw[if_pos hd]
   have e:lo=a0.size:=by omega
   subst e
   exact bp0 ⟨pd,rfl,b1,rn⟩
  ·rw[if_neg hd]
   refine bo0 (aJ5 c o b1 (by omega) (by omega) λn st2 b2 n1 n2 u2 l2=>?_)
   have rn2:=rn.same l2
   dsimp only
   by_cases hmr:n<mr
   ·rw[if_pos hmr]
    refine bo0 (wpS_lift (bD2 ⟨rfl,?_⟩))
    refine bo0 (aJ6 c o b2 (by omega) (by omega) u2 λst3 b3 u3 l3=>?_)
    rw[if_neg (by decide)]
    exact Y1 c o b3 (by omega) (by omega) (rn2.same l3) u3 λpd' st' b' r'=>⟨_,pd',rfl,by omega,by omega,b',r'⟩
   ·rw[if_neg hmr]
    exact Y1 c o b2 n1 (by omega) rn2 u2 λpd' st' b' r'=>⟨lo+n,pd',rfl,by omega,by omega,b',r'⟩
 ·rintro r st1 ⟨lo,pd,rfl,xl,lz,b1,rn⟩
  have e:lo=a0.size:=by omega
  subst e
  exact⟨pd,rfl,b1,rn⟩
 ·rintro r st1 ⟨pd,rfl,b1,rn⟩
  dsimp only
  unfold X9
  refine bo0 (bC3 (bv9
   (I:=λt r st'=>r=(none,())/\∃pd,SB κ a0 pd st'/\Rn rk (arrOf st') (sk pd) a0.size/\(pd.size+t<=a0.size∨pd.size<=1))
   (Q:=λr st'=>r=(none,())/\∃pd,SB κ a0 pd st'/\Rn rk (arrOf st') (sk pd) a0.size/\pd.size<=1) ?_ ?_ ⟨rfl,pd,b1,rn,.inl (by have:=rn.ch.len;rw[tN]at this;omega)⟩) ?_)
  ·rintro t r st2 _ ht ⟨rfl,pd,b2,rn2,pr⟩
   refine bo0 (wpS_get ?_)
   rw[b2.pd]
   by_cases h1:pd.size<=1
   ·rw[if_pos h1]
    exact bp0 ⟨rfl,pd,b2,rn2,h1⟩
   ·rw[if_neg h1]
    refine bo0 (X6 c o b2 ?_ (bn1 _) rn2 λpd' st3 b3 sz3 rn3 _=>?_)
    ·split<;>split<;>omega
    ·exact bp0 ⟨rfl,pd',b3,rn3,by omega⟩
  ·rintro r st2 ⟨rfl,pd,b2,rn2,pr⟩
   exact⟨rfl,pd,b2,rn2,by omega⟩
  ·rintro r st2 ⟨rfl,pd,b2,rn2,pr⟩
   refine bp0 (h st2 b2.pm b2.ok ?_)
   have ch:=rn2.ch
   have up:=rn2.up
   rw[<- tN]at pr
   cases e:sk pd with
   |nil=>rw[e]at ch;exact absurd (show 0=a0.size from ch) (by omega)
   |cons r l=>
    rw[e]at ch up pr
    have el:l = []:=List.eq_nil_of_length_eq_zero (by have:=pr;rw[bo5]at this;omega)
    subst el
    obtain⟨p,n⟩:=r
    obtain⟨q1,q2,q3⟩:=ch
    have q1:p=0:=q1
    have q3:0+n=a0.size:=q3
    subst q1
    have:=up (0,n) (by simp)
    rw[<- q3];exact this
end SO
namespace L2
open PySem PySem.Spec PyProof.Rows SO
abbrev fN (h:Heap)(a:Addr)(vs:List Value):Heap:=((h.update a (Obj.mapSeq λ_=>#[])).push (seqObj "tuple" vs.toArray 0)).push (seqObj "list" #[] 0)
abbrev gD (h:Heap)(vs:List Value):Heap:=((h.push (seqObj "list" #[] 0)).update h.objs.size (Obj.mapSeq (·++vs.toArray))).push (seqObj "list" vs.toArray 0)
theorem aL3 {h:Heap}{vs:List Value}{b:Addr}{o:Obj}(e:h.get? b=some o):(gD h vs).get? b=some o:=by
 have l:=bo6 e
 refine bm5 _ ?_
 rw[Heap.get?_update_ne _ _ _ _ (br7 l)]
 exact bm5 _ e
theorem aL4 {h:Heap}{vs:List Value}{a b:Addr}{o:Obj}(hb:b≠a)(e:h.get? b=some o):(fN h a vs).get? b=some o:=by
 refine bm5 _ (bm5 _ ?_)
 rw[Heap.get?_update_ne _ _ _ _ hb];exact e
theorem aL5 {prog:Program}{w:World}{A:Around}{E:Value->Shared->Prop}{s:Shared}{a:Addr}{vs:List Value}{n:Nat}{P:PySem.Fin->Shared->Prop}{κ:SortKind}{Ok:Keyed->Prop}{rk:Keyed->Int}(e:s.heap.get? a=some (seqObj "list" vs.toArray n))(h2:2<=vs.length)(big:vs.length<=sizeLine)(hk:∀Q:SortKind->Shared->Prop,Q κ { s with heap:=fN s.heap a vs }->wpAny (model prog w) A (keyKind' vs.toArray) Q E { s with heap:=fN s.heap a vs })(c:cR prog w A E { s with heap:=fN s.heap a vs } κ Ok rk)(o:∀v∈vs,Ok (v,v))(q:∀out:List Value,out.Perm vs->out.Pairwise (λu v=>rk (u,u)<=rk (v,v))->P (.done (.ret .none)) { s with heap:=sortedHeap s.heap a vs out.toArray }):wpAny (model prog w) A (Builtin.«list.sort» ⟨[.ref a],[]⟩) P E s:=by
 have la:=bo6 e
 have cc:¬vs.toArray.size<2:=by simpa using h2
 obtain⟨k,ek⟩:∃k,(s.heap.update a (Obj.mapSeq λ_=>#[])).get? a=some (seqObj "list" #[] k):=⟨_,get?_update_seq e λ_=>#[]⟩
 have there:(fN s.heap a vs).get? a=some (seqObj "list" #[] k):=bm5 _ (bm5 _ ek)
 rw[list_sort_plain]
 apply bm1
 apply listItems_at e rfl
 apply bm1
 refine listUpdate_at e rfl ?_ (by simpa using big) (br5 _)
 apply bm1
 apply seqEpoch_at ek rfl
 apply bm1
 refine wpAny_newTuple ?_ big
 apply bm1
 refine wpAny_newList ?_ (br5 _)
 apply by6
 simp only[cc,bu4]
 apply bm1
 refine hk _ ?_
 have zl:(vs.toArray.zip vs.toArray).toList=vs.zip vs:=by simp
 apply bm1
 refine bw8 (aL2 (a0:=vs.toArray.zip vs.toArray) (Q:=λ_ st'=>(arrOf st').Perm (vs.toArray.zip vs.toArray)/\failedOf st'=none/\Up rk (arrOf st') 0 (vs.toArray.zip vs.toArray).size) c (λx hx=>?_) ⟨Array.Perm.refl _,rfl,rfl,rfl⟩ (by simp;omega) λst' a1 a2 a3=>⟨a1,a2,a3⟩) ?_ λ_ _ z=>z
 ·have hx':x∈vs.zip vs:=by rw[<- zl];exact Array.mem_toList_iff.mpr hx
  obtain⟨y1,y2⟩:=mem_zip_self hx'
  have:=o x.1 y2
  have ex:x=(x.1,x.1):=Prod.ext rfl y1.symm
  rw[ex];exact this
 ·rintro⟨⟨⟩,st'⟩ s' ⟨rfl,pm,ok,up⟩
  have lp:(arrOf st').toList.Perm (vs.zip vs):=by rw[<- zl];exact Array.perm_iff_toList_perm.mp pm
  have out:(arrOf st').map (·.2)=((arrOf st').toList.map (·.2)).toArray:=by apply Array.toList_inj.mp;rw[Array.toList_map]
  have op:((arrOf st').toList.map (·.2)).Perm vs:=by
   have:=lp.map (·.2)
   rw[wR]at this;exact this
  have sz:(arrOf st').size=vs.length:=by rw[pm.size_eq];simp
  dsimp only
  apply bm1
  apply seqEpoch_at there rfl
  apply bm1
  refine listUpdate_at there rfl ?_ (br5 _) (by rw[Array.size_map,sz];exact Nat.le_succ_of_le big)
  rw[ok]
  simp only[bne_self_eq_false,bp7,bu4]
  refine bn7 ?_
  have hq:=q _ op ?_
  ·rw[<- out]at hq;exact hq
  ·rw[bs3,bt6]
   intro i j hi hj hij
   have hi':i<(arrOf st').size:=by simpa using hi
   have hj':j<(arrOf st').size:=by simpa using hj
   have h1:=up i j (br5 _) (bt9 hij) (by simp;omega)
   rw[cA hi',cA hj']at h1
   have dg:∀x∈(arrOf st').toList,(x.2,x.2)=x:=λx hx=>Prod.ext (mem_zip_self (lp.mem_iff.mp hx)).1.symm rfl
   rw[dg _ (bz3 hi),dg _ (bz3 hj)]
   simpa using h1
theorem aL6 {vs vs':List Value}(h:vs.Perm vs'):∀{xs:List V},aN xs vs->∃xs',xs'.Perm xs/\aN xs' vs':=by
 induction h with
 |nil=>intro xs r;exact⟨xs,bB4 _,r⟩
 |cons v _ ih=>
  intro xs r
  cases r with
  |cons r t=>
   obtain⟨xs',p,r'⟩:=ih t
   exact⟨_::xs',p.cons _,.cons r r'⟩
 |swap u v l=>
  intro xs r
  cases r with
  |cons r t=>cases t with
   |cons r2 t2=>exact⟨_,List.Perm.swap _ _ _,.cons r2 (.cons r t2)⟩
 |trans _ _ ih1 ih2=>
  intro xs r
  obtain⟨x1,p1,r1⟩:=ih1 r
  obtain⟨x2,p2,r2⟩:=ih2 r1
  exact⟨x2,p2.trans p1,r2⟩
end L2
namespace L2
open PySem PySem.Spec PyProof.Rows
theorem cL.at {P:Program}{w:World}{H:Hp}{h:Heap}{a:Addr}{o:HO}(x:cL P w H h a o):∃ob,h.get? a=some ob:=by
 cases o with
 |lst xs=>obtain⟨_,_,_,_,e⟩:=x;exact⟨_,e⟩
 |tup xs=>obtain⟨_,_,_,⟨_,e,_⟩,_⟩:=x;exact⟨_,e⟩
 |dK kvs=>obtain⟨_,_,_,_,_,_,_,e,_⟩:=x;exact⟨_,e⟩
 |dT kvs=>obtain⟨_,_,_,_,_,_,_,e,_⟩:=x;exact⟨_,e⟩
 |set S n=>obtain⟨_,_,_,_,e,_⟩:=x;exact⟨_,e⟩
 |ins C dx fs=>obtain⟨_,_,_,e,_⟩:=x;exact⟨_,e⟩
 |own y=>exact x
 |xd fs=>obtain⟨_,⟨_,_,_,e,_⟩,_⟩:=x;exact⟨_,e⟩
 |rng lo hi=>obtain⟨_,_,_,e⟩:=x;exact⟨_,e⟩
 |frz ob u=>obtain⟨e,_⟩:=x;exact⟨_,e⟩
 |tbl ps=>exact⟨_,x⟩
 |met f y=>exact⟨_,x⟩
 |ext φ=>exact x.2.1
structure yE (P:Program)(w:World)(outer:List Env)(H:Hp)(s:Shared)(H':Hp)(B:Heap)(a C:Addr)(s':Shared):Prop where
 os:s'.os=s.os
 bare:AllBare s'.gens
 un:Un (c7 outer) [] H H' s.heap s'.heap
 hok:bX P w H' s'.heap
 fly:∃a0,Heap.FlyingW B outer a (.ref C) a0 s'.heap
 b0:∀b o,s.heap.get? b=some o->b∉c7 outer->∃o',B.get? b=some o'
 b1:∀b o,s.heap.get? b=some o->H b=none->b∉c7 outer->B.get? b=some o
 b2:∀b u o,H' b=some u->s'.heap.get? b=some o->B.get? b=some o
def fO (P:Program)(w:World):iB:=λouter H s E e s'=>∃(H':Hp) (B:Heap) (a C:Addr),e = .ref a/\yE P w outer H s H' B a C s'/\E (.ref C) none H'
section
variable {P:Program}{w:World}{outer:List Env}{H H':Hp}{s s':Shared}{B h2:Heap}{a C:Addr}
theorem yE.hok2 (f:yE P w outer H s H' B a C s')(k:B.StaysIn h2):bX P w H' h2:=λb u e=>
 (f.hok b u e).stay (λc v hc q=>by
  rcases hc with z|z
  ·subst z;exact k _ _ (f.b2 _ _ _ e q)
  ·exact k _ _ (f.b2 _ _ _ z q)) (λ_ q=>q) λ_ _ q=>q
end
section
variable {P:Program}{w:World}{K:ad}{mg:Str→Option Value}{base:Heap}{N:List Str}{qual:Str}{scope:Scope}{f:Addr}{cd:Value}{A:Around}{outer:List Env}{s₀:Shared}{H₀:Hp}{E₀ E₁:XK}
theorem tO {pins:List (Addr×Obj)}{σ:St}{H:Hp}{s:Shared}(I:a6 (dR (fO P w) P w K mg base N qual scope f cd A outer s₀ H₀ E₀) pins σ H s){b:Addr}{o:Obj}(e:s₀.heap.get? b=some o)(n:b∉c7 outer) :
  b∉c7 (envOfC qual scope s₀.heap.objs.size f cd::outer):=λz=>by
 rcases bn8.mp (I.stkSub b z) with y|y
 ·have l:=bo6 e
  have y:b=s₀.heap.objs.size:=y
  exact absurd l (by rw[y];exact bt5 _)
 ·exact n y
theorem aL7 (hE:∀c d H',E₁ c d H'->E₀ c d H'):oR (fO P w) (dR (fO P w) P w K mg base N qual scope f cd A outer s₀ H₀ E₀) E₁:=by
 intro pins σ H s e s' I hx
 obtain⟨H',B,a,C,e1,fl,q⟩:=hx
 subst e1
 have I':=I.call' fl.os fl.un fl.hok fl.bare (ch:=[]) (λb z=>absurd z (by simp))
 obtain⟨a0,fly⟩:=fl.fly
 refine wpAny_leaves_onW I.ok.frames rfl fly λh' fly' up=>?_
 have slot:∀b o,s₀.heap.get? b=some o->b∈c7 outer->∃sl,h'.get? b=some { o with slots:=sl }:=λb o e hb=>by
  obtain⟨sl,e1⟩:=I'.base.slot b o e (I.ok.frf b hb) hb (λz=>nomatch z)
  obtain⟨_,o2,e2,nf⟩:=I.ok.funs.mem hb
  rw[show (dR (fO P w) P w K mg base N qual scope f cd A outer s₀ H₀ E₀).s₀=s₀ from rfl,e]at e2
  cases e2
  obtain⟨sl',e3⟩:=up b _ e1 nf
  exact⟨sl',e3⟩
 have old:∀b o,s₀.heap.get? b=some o->H₀ b=none->b∉c7 outer->B.get? b=some o:=λb o e n hb=>
  fl.b1 b o (I.base.keep b o e n hb (λz=>nomatch z)) (I.base.free b o e n (λz=>nomatch z)) (tO I e hb)
 have old0:∀b o,s₀.heap.get? b=some o->b∉c7 outer->∃o',B.get? b=some o':=λb o e hb=>by
  obtain⟨o1,e1⟩:=I.base.there b o e (λz=>nomatch z)
  exact fl.b0 b o1 e1 (tO I e hb)
 refine⟨H',B,a,C,rfl,⟨I'.os,I'.bare,⟨λb o e n hb _=>fly'.1 _ _ (old b o e n hb),λb o e n hb _=>slot b o e hb,λb o e n hx=>I'.base.free b o e n hx,λb o e _=>?_,I'.base.tups,I'.base.frzs,I'.base.tbls⟩,fl.hok2 fly'.1,⟨a0,fly'⟩,old0,old,λb u o e h=>?_⟩,hE _ _ _ q⟩
 ·by_cases hb:b∈c7 outer
  ·obtain⟨sl,e1⟩:=slot b o e hb
   exact⟨_,e1⟩
  ·obtain⟨o',e1⟩:=old0 b o e hb
   exact⟨o',fly'.1 _ _ e1⟩
 ·obtain⟨ob,e1⟩:=(fl.hok b u e).at
  have e2:=fl.b2 b u ob e e1
  have e3:=fly'.1 _ _ e2
  have h:h'.get? b=some o:=h
  rw[h]at e3;cases e3;exact e2
theorem aL8 {pins:List (Addr×Obj)}{σ:St}{H:Hp}{s:Shared}{h':Heap}{e C:Addr}{args:List Value}(I:a6 (dR (fO P w) P w K mg base N qual scope f cd A outer s₀ H₀ E₀) pins σ H s)(mx:Heap.MadeExcOf s.heap h' e (.ref C) args)(q:E₀ (.ref C) none H) :
  (dR (fO P w) P w K mg base N qual scope f cd A outer s₀ H₀ E₀).xe (.ref e) { s with heap:=h' }:=by
 have tr:∀b u,H b=some u->b∉c7 (envOfC qual scope s₀.heap.objs.size f cd::outer):=λb u z n=>by
  rw[I.stkFree b n]at z;cases z
 have inB:∀b o,s.heap.get? b=some o->b∉c7 (envOfC qual scope s₀.heap.objs.size f cd::outer)->(PySem.W.hideAll s.heap (c7 (envOfC qual scope s₀.heap.objs.size f cd::outer))).get? b=some o:=λb o z n=>PySem.W.hideAll_get _ z n
 refine wpAny_leaves_madeW (base:=PySem.W.hideAll s.heap (c7 (envOfC qual scope s₀.heap.objs.size f cd::outer))) I.ok.frames rfl (λb o z=>PySem.W.of_hideAll _ z) (PySem.W.funFrames_hide I.stack λenv he b hb=>bB1.mpr ⟨env,he,hb⟩) mx λh'' t fly _ _ up=>?_
 have slot:∀b o,s₀.heap.get? b=some o->b∈c7 outer->∃sl,h''.get? b=some { o with slots:=sl }:=λb o e hb=>by
  obtain⟨sl,e1⟩:=I.base.slot b o e (I.ok.frf b hb) hb (λz=>nomatch z)
  obtain⟨_,o2,e2,nf⟩:=I.ok.funs.mem hb
  rw[show (dR (fO P w) P w K mg base N qual scope f cd A outer s₀ H₀ E₀).s₀=s₀ from rfl,e]at e2
  cases e2
  obtain⟨sl',e3⟩:=up b _ (mx.keeps _ _ e1) nf
  exact⟨sl',e3⟩
 have old:∀b o,s₀.heap.get? b=some o->H₀ b=none->b∉c7 outer->(PySem.W.hideAll s.heap (c7 (envOfC qual scope s₀.heap.objs.size f cd::outer))).get? b=some o:=λb o e n hb=>
  inB b o (I.base.keep b o e n hb (λz=>nomatch z)) (tO I e hb)
 have old0:∀b o,s₀.heap.get? b=some o->b∉c7 outer->∃o',(PySem.W.hideAll s.heap (c7 (envOfC qual scope s₀.heap.objs.size f cd::outer))).get? b=some o':=λb o e hb=>by
  obtain⟨o1,e1⟩:=I.base.there b o e (λz=>nomatch z)
  exact⟨o1,inB b o1 e1 (tO I e hb)⟩
 refine⟨H,_,e,C,rfl,⟨I.os,I.bare,⟨λb o e n hb _=>fly.1 _ _ (old b o e n hb),λb o e n hb _=>slot b o e hb,λb o e n hx=>I.base.free b o e n hx,λb o e _=>?_,I.base.tups,I.base.frzs,I.base.tbls⟩,λb u z=>?_,⟨_,fly⟩,old0,old,λb u o z h=>?_⟩,q⟩
 ·by_cases hb:b∈c7 outer
  ·obtain⟨sl,e1⟩:=slot b o e hb
   exact⟨_,e1⟩
  ·obtain⟨o',e1⟩:=old0 b o e hb
   exact⟨o',fly.1 _ _ e1⟩
 ·refine (I.hok b u z).stay (λc v hc y=>?_) (λ_ y=>y) λ_ _ y=>y
  rcases hc with z'|z'
  ·subst z';exact fly.1 _ _ (inB _ _ y (tr _ _ z))
  ·exact fly.1 _ _ (inB _ _ y (tr _ _ z'))
 ·obtain⟨ob,e1⟩:=(I.hok b u z).at
  have e2:=inB b ob e1 (tr b u z)
  have e3:=fly.1 _ _ e2
  have h:h''.get? b=some o:=h
  rw[h]at e3;cases e3;exact e2
end
structure nZ (X:Cx)(E:XK):Prop where
 pass:oR (fO X.prog X.w) X E
 made:∀(pins:List (Addr×Obj)) (σ:St) (H:Hp) (s:Shared) (h':Heap) (e C:Addr) (args:List Value),a6 X pins σ H s->Heap.MadeExcOf s.heap h' e (.ref C) args->E (.ref C) none H->X.xe (.ref e) { s with heap:=h' }
 own:PassesOwn (model X.prog X.w) X.A X.env X.xe
theorem aL9 {P:Program}{w:World}{K:ad}{mg:Str->Option Value}{base:Heap}{N:List Str}{qual:Str}{scope:Scope}{f:Addr}{cd:Value}{A:Around}{outer:List Env}{s₀:Shared}{H₀:Hp}{E₀ E₁:XK}(hE:∀c d H',E₁ c d H'->E₀ c d H') :
  nZ (dR (fO P w) P w K mg base N qual scope f cd A outer s₀ H₀ E₀) E₁:=
 ⟨aL7 hE,λ_ _ _ _ _ _ _ _ I mx q=>aL8 I mx (hE _ _ _ q),PassesOwn.leaving⟩
def Y2 (E:XK)(C:Addr)(t:TA):TS:=λ_ σ H=>t σ H λvs H1=>vs.length<=sizeLine/\E (.ref C) none H1
theorem aM0 {X:Cx}{E:XK}{x:Str}{C:Addr}{bm:List Value}{B newId initId:String}{np cpos pos:Pos}{e:Expr}{es:List Expr}{t:TA}(hX:nZ X E)(hc:X.calm=true)(O:OwnCls x C bm newId X.mg X.base)(FB:ExcBaseFacts B newId initId bm)(ha:PA X (e::es) t)(hg:Gl X x)(hd:(x==("__debug__":Str))=false:=by decide)(he:starEach (e::es) X.env=(false,eval e X.env)::starEach es X.env:=by rfl)(hpl:(backTo cpos (starEach es X.env)).any (·.1)=false:=by rfl) :
  PS X (.Raise (some (.Call (.Name x np) (e::es) [] cpos)) none pos) (Y2 E C t):=by
 intro pins s σ H D I h
 obtain⟨tl,Na,nm,qn,bs,hx,sn,sub,ab,col,dd,k0,k1,k2,k3,k5,mN,hC,hN,hni,T⟩:=O.obj
 refine wpAny_Raise_call_subT (nm:=nm) (q:=qn) (N:=Na) (bs:=bs) (bm:=tl) (hdct:=hx) (sn:=sn) (sub:=sub) (ab:=ab) (col:=col) (dd:=dd) (k0:=k0) (k1:=k1) (k2:=k2) (k3:=k3) (k5:=k5) FB (C:=C) (mN:=mN) (T.hasType FB.hasBase) (I.ok.hd hc) (by rw[he];show (false||(backTo cpos (starEach es X.env)).any (·.1))=false;rw[hpl];rfl) hni (B7 I hg O.bound ⟨rfl,?_⟩ hd)
 have h1:=ha cpos pins s σ H _ I h
 rw[he]at h1 ⊢
 refine Calls.evalArgs_plain (bw8 h1 (λus s2 h2=>?_) λ_ _ y=>y)
 obtain⟨vs,H2,I2,r,hl,q⟩:=h2
 have r:aN vs us:=r
 exact⟨rfl,by show us.length<=sizeLine;rw[<- r.length];exact hl,I2.bk _ _ hC,hN.keeps I2.bk,T.keeps I2.bk,λh' e' mx=>hX.made pins σ H2 s2 h' e' C _ I2 mx q⟩
theorem fJ.okX {P:Program}{w:World}{K:ad}{mg:Str->Option Value}{base:Heap}{x qual:Str}{st:Stmt}{f:Addr}{fd:FuncData}{N ps:List Str}{k:Nat}{sp:Sp}(F:fJ K x qual st f fd)(S:FnScope N ps (aX st))(len:∀vs H Q E,sp vs H Q E->vs.length=ps.length)(hbody:∀(cdv:Value) (A:Around) (outer:List Env) (s:Shared) (H:Hp) (vs:List V) (Q:VK) (E:XK),cJ k (A.deeper (envOfC qual (aX st) s.heap.objs.size f cdv))->sp vs H Q E->
   ∃t,eZ (dR (fO P w) P w K mg base N qual (aX st) f cdv A outer s H E) (fI st) t/\t { nx:=λ_ H'=>Q .non H',rt:=Q } (start N vs) H):cZ P w K mg base (fO P w) (k+1) f fd ps sp:=by
 obtain⟨oc,od,kV,doc,pm,an,cdv,ct,osl,rfl,lk,hcd⟩:=F.ex
 exact G8 lk hcd S len λA outer s H vs Q E hr hsp=>hbody cdv A outer s H vs Q E hr hsp
section
variable {X:Cx}{pins:List (Addr×Obj)}{σ:St}{H H1 H':Hp}{s s1 s':Shared}{B h2:Heap}{a C:Addr}
abbrev Cx.suite (X:Cx)(a:Addr):Cx:={ X with A:=X.A.mark (some (.ref a)),calm:=false,xe:=λ_ _=>False }
end
abbrev TB:=eR->XK->St->Hp->Prop
section
variable {X:Cx}
def Y3:V->List V->Hp->VK->Prop:=λx vs H Q=>∃l xs y,∃k:Nat,x = .ref l/\vs = [.int k,y]/\H l=some (.lst xs)/\k<=xs.length/\xs.length<sizeLine/\Q .non (upd H l (.lst (xs.take k++y::xs.drop k)))
theorem aM1:lV X "list.insert" Y3:=by
 intro pins s σ H x vs v us Q I rx rv h
 obtain⟨l,xs,y,k,rfl,rfl,hH,hk,hz,q⟩:=h
 obtain⟨u1,u2,rfl,⟨t,rfl⟩,r2⟩:=rv.two
 obtain rfl:v=Value.ref l:=rx
 obtain⟨z,its,n,r,hl,e⟩:=I.lstM hH
 have hs:sizeLine=16777216:=sizeLine_eq
 obtain⟨x,hx⟩:∃x:Int,x=(k:Int):=⟨_,rfl⟩
 rw[<- hx]
 have hf:¬(!Builtin.List.listFitsIndex x)=true:=by
  have h1:Builtin.List.listFitsIndex x=true:=by
   unfold Builtin.List.listFitsIndex
   rw[br3]
   exact⟨bm4 (by omega),bm4 (by omega)⟩
  rw[h1];exact bo4
 have hz2:its.toArray.size<=sizeLine:=by rw[bn9];omega
 refine call_meets PySem.F.slot_list_insert ⟨_,e,rfl⟩ PySem.F.entry_list_insert (PySem.F.args_list_insert_3 _ _ _) (AutoSeq1.list_insert_list_int_val_1 l its.toArray n x t u2 hf hz2) ⟨e,.non,_,?_,rfl,q⟩
 refine I.lset (its':=its.take k++u2::its.drop k) hH e ?_ ((r.take k).append (.cons r2 (r.drop k))) ?_
 ·have e1:(if x<0 then (x+(its.toArray.size:Int)).toNat else min x.toNat its.toArray.size)=k:=by
   rw[if_neg (by omega),bn9]
   omega
  dsimp only
  rw[e1]
  apply Array.toList_inj.mp
  simp only[bu7,Array.toList_push,Array.toList_extract,List.extract_eq_drop_take]
  simp
  rw[bp8 (by rw[by3];omega)]
 ·rw[bo2,bo5,bt0,by3]
  omega
end
end L2
namespace Core
open PySem L2 PP
def iT (ns:af):Bool:=((ns.zip (ns.drop 1)).map λp=>decide (p.1<p.2)).all id
theorem lE {α β:Type}{l:List α}{f:α->β}{i:Nat}{x:α}(h:l[i]? = some x):(l.take (i+1)).map f=(l.take i).map f++[f x]:=by
 rw[br1,h];simp
theorem gE:∀{ns:af},iT ns=true->ns.Pairwise (·<·)
 |[],_=>.nil
 |[x],_=>bq2 _ _
 |x::y::r,h=>by
  have e:iT (x::y::r)=(decide (x<y)&&iT (y::r)):=rfl
  rw[e,br3]at h
  have ih:=gE h.2
  refine bv2.mpr ⟨λz hz=>?_,ih⟩
  rcases bn8.mp hz with rfl|hz
  ·exact bq3 h.1
  ·exact Int.lt_trans (bq3 h.1) (List.rel_of_pairwise_cons ih hz)
theorem tP:∀{ns:af},ns.Pairwise (·<·)->iT ns=true
 |[],_=>rfl
 |[x],_=>rfl
 |x::y::r,h=>by
  have e:iT (x::y::r)=(decide (x<y)&&iT (y::r)):=rfl
  have h':=bv2.mp h
  rw[e,tP h'.2,Bool.and_true]
  exact bm4 (h'.1 y bm8)
def kin (ws:af)(ls:aa)(S:af)(h:Int):Bool:=!decide (h∈S)&&decide (ws.getD h.toNat 0<=(((aJ ls h).filter λx=>decide (x∈S)).length:Int))
def nextOf (ws:af)(ls:aa)(S:af):af:=((List.range ws.length).map λ(i:Nat)=>(i:Int)).filter (kin ws ls S)
def qB (ws:af)(ls:aa)(S:af):Nat->af
 |0=>S
 |k+1=>qB ws ls S k++nextOf ws ls (qB ws ls S k)
def Y4 (ws:af)(S:af):Nat:=(((List.range ws.length).map λ(i:Nat)=>(i:Int)).filter λx=>!decide (x∈S)).length
theorem Y5 {α:Type}(p q:α->Bool)(h:∀x,q x=true->p x=false):∀L:List α,(L.filter λx=>!p x&&!q x).length+(L.filter q).length=(L.filter λx=>!p x).length
 |[]=>rfl
 |x::r=>by
  have ih:=Y5 p q h r
  cases e1:p x with
  |true=>
   have e2:q x=false:=by
    cases e:q x with
    |false=>rfl
    |true=>have:=h x e;rw[e1]at this;cases this
   simp only[br9,e1,e2,Bool.not_true,Bool.false_and,bp7,bu4]
   exact ih
  |false=>
   cases e2:q x with
   |true=>
    simp only[br9,e1,e2,Bool.not_true,Bool.not_false,bB3,bp7,bu4,if_true,bo5]
    omega
   |false=>
    simp only[br9,e1,e2,Bool.not_false,Bool.and_true,bp7,bu4,if_true,bo5]
    omega
theorem aM2 {ws:af}{ls:aa}{S:af}{x:Int}(h:kin ws ls S x=true):decide (x∈S)=false:=by
 unfold kin at h
 cases e:decide (x∈S) with
 |false=>rfl
 |true=>rw[e]at h;cases h
def after (ws:af)(ls:aa)(S:af)(m:Nat):ae:=(List.range m).map λk=>nextOf ws ls (qB ws ls S k)
theorem aM3 {ws ns:af}(hu:ns.Pairwise (·<·))(hin:∀x∈ns,0<=x/\x<(ws.length:Int)):ns.length+Y4 ws ns<=ws.length:=by
 have nd:ns.Nodup:=hu.imp λh=>bw4 h
 have sub:ns ⊆ ((List.range ws.length).map λ(i:Nat)=>(i:Int)).filter λx=>decide (x∈ns):=λx hx=>by
  refine bn3.mpr ⟨bn6.mpr ⟨x.toNat,bC8.mpr ?_,?_⟩,bm4 hx⟩
  ·have:=hin x hx;omega
  ·have:=hin x hx;omega
 have h1:=nd.length_le_of_subset sub
 have h2:=Y5 (λ_=>false) (λx=>decide (x∈ns)) (λ_ _=>rfl) ((List.range ws.length).map λ(i:Nat)=>(i:Int))
 have h3:(((List.range ws.length).map λ(i:Nat)=>(i:Int)).filter λx=>!false&&!decide (x∈ns)).length=Y4 ws ns:=rfl
 have h4:(((List.range ws.length).map λ(i:Nat)=>(i:Int)).filter λx=>!false).length<=ws.length:=by
  refine bs0 (bs8 _ _) ?_
  rw[bm7,List.length_range];exact bn1 _
 rw[h3]at h2
 omega
def eR (ws:af)(ls:aa)(ns:af)(m:Nat):Prop:=(∀k<m,nextOf ws ls (qB ws ls ns k)≠[])/\nextOf ws ls (qB ws ls ns m) = []
theorem fP {ns:af}{i:Nat}{x:PV}(h:(intz ns)[i]? = some x):∃n,x = .int n/\ns[i]? = some n:=by
 rw[bn4]at h
 cases e:ns[i]? with
 |none=>rw[e]at h;cases h
 |some n=>rw[e]at h;exact⟨n,(bo9 h).symm,rfl⟩
theorem kL {lo:Int}{n i:Nat}{x:PV}(h:(fL lo n)[i]? = some x):x = .int (lo+i)/\i<n:=by
 have hi:i<n:=by
  have:=(bn2.mp h).1
  rwa [gU]at this
 rw[xH hi]at h
 exact⟨(bo9 h).symm,hi⟩
def rng (n:Nat):af:=(List.range n).map λ(i:Nat)=>(i:Int)
theorem cF (n:Nat):(rng n).length=n:=by unfold rng;rw[bm7,List.length_range]
theorem qD {n i:Nat}(h:i<n):(rng n)[i]? = some (i:Int):=by unfold rng;rw[bn4,List.getElem?_range h];rfl
theorem bM {n:Nat}{x:Int}:x∈rng n↔0<=x/\x<(n:Int):=by
 unfold rng
 rw[bn6]
 constructor
 ·rintro⟨i,hi,rfl⟩
  have:=bC8.mp hi
  omega
 ·intro h
  exact⟨x.toNat,bC8.mpr (by omega),by omega⟩
theorem qE {α:Type}{l:List α}{p:α->Bool}{i:Nat}{x:α}(h:l[i]? = some x):(l.take (i+1)).filter p=(l.take i).filter p++(if p x=true then [x] else []):=by
 rw[br1,h,bz5]
 congr 1
 cases e:p x<;>simp[e]
theorem fE (a b:af):intz (a++b)=intz a++intz b:=bp5
theorem bA (a:af):(intz a).length=a.length:=bm7 _
def b9 (ws:af)(ls:aa):PV:=.tup [.tup (intz ws),.tup (ls.map λl=>.tup [.int l.1,.int l.2])]
structure Wb (ws:af)(ls:aa):Prop where
 few:ws.length<=40
 most:ls.length<=1700
 links:∀l∈ls,(0<=l.1/\l.1<ws.length)/\0<=l.2/\l.2<ws.length
def dY (x:PV)(ns:af):Prop:=x = .tup (intz ns)∨x = .lst (intz ns)
theorem dY.seq {x:PV}{ns:af}(h:dY x ns):j7 x=some (intz ns):=by rcases h with rfl|rfl<;>rfl
theorem dY.seqT {x:PV}{ns:af}(h:dY x ns):seqT x=some (intz ns):=by rcases h with rfl|rfl<;>rfl
theorem mJ:∀(ls:aa),flats (ls.map λl=>PV.tup [.int l.1,.int l.2])=true
 |[]=>rfl
 |l::r=>by
  show (flat (.tup [.int l.1,.int l.2])&&flats (r.map λl=>PV.tup [.int l.1,.int l.2]))=true
  rw[mJ r];rfl
theorem aM4 (ws:af)(ls:aa):flat (b9 ws ls)=true:=by
 show flats [.tup (intz ws),.tup (ls.map λl=>PV.tup [.int l.1,.int l.2])]=true
 show (flat (.tup (intz ws))&&(flat (.tup (ls.map λl=>PV.tup [.int l.1,.int l.2]))&&true))=true
 show (flats (intz ws)&&(flats (ls.map λl=>PV.tup [.int l.1,.int l.2])&&true))=true
 rw[eD,mJ];rfl
theorem Y6 (ns:af):flat (.tup (intz ns))=true:=eD ns
def iU:bI:=λxs Q=>∃ws ls,xs = [b9 ws ls]/\Q (.int ws.length)
def Y7:aT:=(bV (aB dM (a7 (bD (a5 0) (qC (.int 0))) a9)))
abbrev c6 (t:aT)(N:List Str)(p:bI):Prop:=∀xs Q,p xs Q->t { nx:=λ_=>Q .non,rt:=Q } (gW N xs)
theorem aM5:c6 Y7 ["web"] iU:=by
 rintro xs Q ⟨ws,ls,rfl,q⟩
 refine⟨_,rfl,_,_,_,rfl,rfl,rfl,_,_,rfl,rfl,trivial,?_⟩
 rw[bA];exact q
def yF:bI:=λxs Q=>∃x ns,xs = [x]/\dY x ns/\ns.length<=1000/\Q (.bl (iT ns))
def inB (n:Nat)(x:Int):Bool:=decide (0<=x)&&decide (x<(n:Int))
def tQ:bI:=λxs Q=>∃ws ls n,xs = [b9 ws ls,.int n]/\Q (.bl (inB ws.length n))
def Y8:aT:=(bV (sC (xK (a5 1) (qC (.int 0))) (mB (a5 1) (aB iU (a7 (a5 0) a9)))))
theorem aM6:c6 Y8 ["web","number"] tQ:=by
 rintro xs Q ⟨ws,ls,n,rfl,q⟩
 refine⟨_,rfl,_,_,rfl,rfl,_,rfl,?_⟩
 unfold inB at q
 by_cases h:(0:Int)<=n
 ·rw[bm4 h]at q ⊢
  refine bJ ⟨_,rfl,_,rfl,ws,ls,rfl,_,_,rfl,rfl,trivial,?_⟩
  simpa using q
 ·rw[bm9 h]at q ⊢
  exact bG ⟨trivial,by simpa using q⟩
def aZ (n:Nat)(ns:af):Bool:=iT ns&&(ns.map (inB n)).all id
def tR:bI:=λxs Q=>∃ws ls x ns,xs = [b9 ws ls,x]/\dY x ns/\ns.length<=1000/\Q (.bl (aZ ws.length ns))
def Y9:aT:=(bV (sC (aB yF (a7 (a5 1) a9)) (aB xD (a7 (cT (cO (a5 1)) [none,some 0] (bQ 0) cV (aB tQ (a7 (a5 1) (a7 (a5 0) a9)))) a9))))
theorem tS {x:PV}{ns:af}(h:dY x ns):(Slot.sh (flat x) x).tag = .rd->flat x=true:=by
 cases flat x<;>intro z<;>cases z
theorem aM7:c6 Y9 ["web","numbers"] tR:=by
 rintro xs Q ⟨ws,ls,x,ns,rfl,hx,hl,q⟩
 refine⟨_,rfl,x,ns,rfl,hx,hl,_,rfl,?_⟩
 unfold aZ at q
 cases h:iT ns with
 |false=>rw[h]at q;exact bG ⟨trivial,q⟩
 |true=>
  rw[h]at q
  refine bJ ⟨_,rfl,_,hx.seq,tS hx,by rw[bA];omega,λi acc=>acc=(((ns.take i).map (inB ws.length)).map PV.bl),rfl,?_,?_⟩
  ·rintro i y acc hy rfl
   obtain⟨n,rfl,hn⟩:=fP hy
   have tk:((ns.take (i+1)).map (inB ws.length)).map PV.bl=((ns.take i).map (inB ws.length)).map PV.bl++[PV.bl (inB ws.length n)]:=by rw[lE hn,bp5];rfl
   exact⟨_,rfl,_,rfl,ws,ls,n,rfl,trivial,tk.symm⟩
  ·rintro acc rfl
   rw[bA,br4]
   exact⟨_,rfl,trivial,by simpa using q⟩
theorem dY.noscr {x:PV}{ns:af}(h:dY x ns):∀ms,([x]:List PV)≠[.scr ms]:=by
 rcases h with rfl|rfl<;>intro ms z<;>cases z
structure DS (ps:List (aK×PV))(S:af):Prop where
 has:∀i:Int,(cW ps (Sum.inl i:aK)).isSome=decide (i∈S)
 len:ps.length<=S.length
 fl:flats (ps.map (·.2))=true
theorem DS.nil:DS [] []:=⟨λi=>rfl,bn1 _,rfl⟩
section
variable {κ:Type}[DecidableEq κ]
theorem kM {p:κ×PV}{r:List (κ×PV)}{k:κ}(e:p.1=k):cW (p::r) k=some p.2:=by simp[cW,bx9,e]
theorem kN {p:κ×PV}{r:List (κ×PV)}{k:κ}(e:¬p.1=k):cW (p::r) k=cW r k:=by simp[cW,bx9,e]
theorem tT (k:κ):∀kvs:List (κ×PV),(kvs.any λkv=>decide (kv.1=k))=(cW kvs k).isSome
 |[]=>rfl
 |p::r=>by
  rw[bz7]
  by_cases e:p.1=k
  ·simp only[kM e,bm4 e,Bool.true_or,Option.isSome_some]
  ·rw[kN e,bm9 e,Bool.false_or];exact tT k r
theorem Z0 (k j:κ)(y:PV):∀kvs:List (κ×PV),cW (kvs.map λkv=>if kv.1=k then (kv.1,y) else kv) j=(cW kvs j).map λx=>if j=k then y else x
 |[]=>rfl
 |p::r=>by
  have ih:=Z0 k j y r
  rw[bp2]
  by_cases h:p.1=k
  ·rw[if_pos h]
   by_cases e:p.1=j
   ·rw[kM (p:=(p.1,y)) e,kM e,Option.map_some,if_pos (e.symm.trans h)]
   ·rw[kN (p:=(p.1,y)) e,kN e,ih]
  ·rw[if_neg h]
   by_cases e:p.1=j
   ·rw[kM (p:=p) e,kM e,Option.map_some,if_neg (λz=>h (e.trans z))]
   ·rw[kN (p:=p) e,kN e,ih]
theorem Z1 (k j:κ)(y:PV):∀kvs:List (κ×PV),cW kvs k=none->cW (kvs++[(k,y)]) j=if j=k then some y else cW kvs j
 |[],_=>by
  by_cases e:k=j
  ·rw[if_pos e.symm];exact kM (p:=(k,y)) e
  ·rw[if_neg (λz=>e z.symm)];exact kN (p:=(k,y)) e
 |p::r,hn=>by
  rw[List.cons_append]
  have hk:¬p.1=k:=λz=>by rw[kM z]at hn;cases hn
  rw[kN hk]at hn
  have ih:=Z1 k j y r hn
  by_cases e:p.1=j
  ·rw[kM e,kM e,if_neg (λz=>hk (e.trans z))]
  ·rw[kN e,kN e,ih]
theorem aM8 (kvs:List (κ×PV))(k j:κ)(y:PV):cW (g9 kvs k y) j=if j=k then some y else cW kvs j:=by
 unfold g9
 by_cases a:(kvs.any λkv=>decide (kv.1=k))=true
 ·rw[if_pos a,Z0]
  rw[tT]at a
  by_cases e:j=k
  ·obtain⟨x,hx⟩:=Option.isSome_iff_exists.mp a
   rw[if_pos e,e,hx,Option.map_some,if_pos rfl]
  ·rw[if_neg e]
   cases cW kvs j with
   |none=>rfl
   |some x=>rw[Option.map_some,if_neg e]
 ·rw[if_neg a]
  refine Z1 k j y kvs ?_
  rw[tT]at a
  cases q:cW kvs k with
  |none=>rfl
  |some x=>rw[q]at a;exact (a rfl).elim
theorem aM9 (kvs:List (κ×PV))(k:κ)(v:PV):(g9 kvs k v).length<=kvs.length+1:=by
 unfold g9
 split
 ·rw[bm7];omega
 ·rw[bo2,bo5,List.length_nil];omega
end
theorem yG:∀(xs:List PV),flats xs=true↔∀x∈xs,flat x=true
 |[]=>by simp[flats]
 |x::r=>by
  unfold flats
  rw[br3,yG r];simp
theorem aN0 {κ:Type}[DecidableEq κ]{ps:List (κ×PV)}{k:κ}{v:PV}{p:κ×PV}(h:p∈g9 ps k v):p.2=v∨p∈ps:=by
 unfold g9 at h
 split at h
 ·obtain⟨q,hq,e⟩:=bn6.mp h
  split at e
  ·subst e;exact .inl rfl
  ·subst e;exact .inr hq
 ·rcases bn0.mp h with h|h
  ·exact .inr h
  ·rw[bm2.mp h];exact .inl rfl
theorem aN1 {κ:Type}[DecidableEq κ]{ps:List (κ×PV)}{k:κ}{v:PV}(h:flats (ps.map (·.2))=true)(hv:flat v=true):flats ((g9 ps k v).map (·.2))=true:=by
 rw[yG]at h ⊢
 intro x hx
 obtain⟨p,hp,rfl⟩:=bn6.mp hx
 rcases aN0 hp with e|e
 ·rw[e];exact hv
 ·exact h _ (bn6.mpr ⟨p,e,rfl⟩)
theorem DS.put {ps:List (aK×PV)}{S:af}(h:DS ps S)(x:Int)(v:PV)(hv:flat v=true):DS (g9 ps (Sum.inl x:aK) v) (S++[x]):=by
 refine⟨λi=>?_,?_,aN1 h.fl hv⟩
 ·rw[aM8]
  by_cases e:i=x
  ·subst e;rw[if_pos rfl];simp
  ·rw[if_neg (λz=>e (Sum.inl.inj z)),h.has]
   simp[e]
 ·have:=aM9 ps (Sum.inl x:aK) v
  have:=h.len
  rw[bo2,bs2];omega
def o0:bI:=λxs Q=>∃x ns,xs = [x]/\dY x ns/\ns.length<=1000/\∀ps,DS ps ns->Q (.dK ps)
def Z2:aT:=(aE (dS 1 (qC (.dK [])))
 (aE (dU (cO (a5 0)) (bQ 2)
  (sM 1 (a5 2) (qC (.bl true))))
 (j6 1)))
theorem aN2:c6 Z2 ["hearths","inside","hearth"] o0:=by
 rintro xs Q ⟨x,ns,rfl,hx,hl,q⟩
 refine⟨rfl,rfl,_,rfl,_,hx.seq,tS hx,λi ρ=>∃y ps,ρ = [some (.sh (flat x) x),some (.own (.dK ps)),y]/\DS ps (ns.take i),⟨none,[],rfl,DS.nil⟩,?_,?_⟩
 ·rintro i y ρ hy ⟨y0,ps,rfl,d⟩
  obtain⟨n,rfl,hn⟩:=fP hy
  have hlen:=d.len
  rw[bt0]at hlen
  refine⟨_,rfl,_,rfl,Sum.inl n,rfl,trivial,by omega,_,_,rfl,?_⟩
  rw[br1,hn]
  exact d.put n _ rfl
 ·rintro ρ ⟨y,ps,rfl,d⟩
  rw[bA,br4]at d
  exact⟨_,rfl,trivial,q ps d⟩
def cS (n:Nat)(ls:aa):List PV:=(List.range n).map λ(k:Nat)=>PV.lst (intz (aJ ls k))
def kO:bI:=λxs Q=>∃ws ls,xs = [b9 ws ls]/\Wb ws ls/\Q (.lst (cS ws.length ls))
theorem tU {n:Nat}{ls:aa}{h:Int}(h0:0<=h)(h1:h<(n:Int)):atI (cS n ls) h=some (.lst (intz (aJ ls h))):=by
 refine lY h0 ?_
 unfold cS
 rw[bn4,List.getElem?_range (by omega)]
 show some (PV.lst (intz (aJ ls ((h.toNat:Nat):Int))))=_
 rw[show ((h.toNat:Nat):Int)=h by omega]
theorem Z3 {ws:af}{h:Int}(h0:0<=h)(h1:h<(ws.length:Int)):atI (intz ws) h=some (.int (ws.getD h.toNat 0)):=by
 refine lY h0 ?_
 have:h.toNat<ws.length:=by omega
 rw[bn4,bo1,bm6 this];rfl
def tups (rs:ae):List PV:=rs.map λr=>PV.tup (intz r)
theorem Z4 {rs:ae}{i:Nat}{x:PV}(h:(tups rs)[i]? = some x):∃r,x = .tup (intz r)/\rs[i]? = some r:=by
 unfold tups at h
 rw[bn4]at h
 cases e:rs[i]? with
 |none=>rw[e]at h;cases h
 |some n=>rw[e]at h;exact⟨n,(bo9 h).symm,rfl⟩
theorem kQ (rs:ae):(tups rs).length=rs.length:=bm7 _
theorem yH:∀(rs:ae),flats (tups rs)=true
 |[]=>rfl
 |r::t=>by
  show (flat (.tup (intz r))&&flats (tups t))=true
  rw[Y6,yH t];rfl
theorem eN {n:Nat}{ns:af}(h:aZ n ns=true):iT ns=true/\∀x∈ns,0<=x/\x<(n:Int):=by
 unfold aZ at h
 rw[br3,by4]at h
 refine⟨h.1,λx hx=>?_⟩
 have:=h.2 _ (bn6.mpr ⟨x,hx,rfl⟩)
 unfold inB at this
 simpa using this
theorem o4 {n:Nat}{ns:af}(h:aZ n ns=true):ns.length<=n:=by
 obtain⟨h1,h2⟩:=eN h
 have:=aM3 (ws:=List.replicate n (0:Int)) (gE h1) (by rw[bx4];exact h2)
 rw[bx4]at this
 omega
end Core
namespace PP
open PySem L2
def yI (te:aH):aH:=λρ Q=>te ρ λx _=>∃n:Int,x = .int n/\0<=n/\n<=1000000/\Q (.lst (fL 0 n.toNat)) .fr
def tV:List PV->(PV->Prop)->Prop:=λxs Q=>∃ys:ae,xs = [.lst (ys.map λr=>PV.tup (intz r))]/\ys.length<64/\(∀y∈ys,y≠[])/\∀zs:ae,zs.Perm ys->zs.Pairwise (λu v=>HT.bR v u=false)->Q (.lst (zs.map λr=>PV.tup (intz r)))
end PP
namespace Core
open PySem L2 PP
theorem qF (g:Tg)(n:Int):Nw g (.int n):=by cases g<;>first|exact trivial|rfl
def qG (x:PV)(ns:af):Prop:=x = .scr ns∨x = .lst (intz ns)
theorem qG.seq {x:PV}{ns:af}(h:qG x ns):j7 x=some (intz ns):=by rcases h with rfl|rfl<;>rfl
theorem qG.len {x:PV}{ns:af}(h:qG x ns):xC x=some ns.length:=by
 rcases h with rfl|rfl
 ·rfl
 ·show some (intz ns).length=_
  rw[bA]
def gF:bI:=λxs Q=>∃x ns k,xs = [x,.int k]/\qG x ns/\0<=k/\Q (.int (ns.getD k.toNat 0))
def Z5:aT:=(aE (dB (bH (mB (a5 1) (aB dM (a7 (a5 0) a9)))) (bV (bD (a5 0) (a5 1))) dA)
 (bV (qC (.int 0))))
theorem aN3:c6 Z5 ["script","k"] gF:=by
 rintro xs Q ⟨x,ns,k,rfl,hx,h0,q⟩
 refine⟨_,rfl,_,rfl,_,_,rfl,hx.len,_,_,rfl,rfl,_,rfl,?_⟩
 by_cases h:k<(ns.length:Int)
 ·rw[bm4 h]
  exact bJ ⟨_,rfl,_,rfl,_,_,_,hx.seq,rfl,Z3 h0 h,qF _ _,q⟩
 ·rw[bm9 h]
  rw[bo1,bC0 (by omega)]at q
  exact bG ⟨trivial,q⟩
def b7 (ls:aa):List PV:=ls.map λl=>PV.tup [.int l.1,.int l.2]
theorem qH (ls:aa):(b7 ls).length=ls.length:=bm7 _
def jF (l m:Int×Int):Prop:=l.1<m.1∨(l.1=m.1/\l.2<m.2)
abbrev si (n:Int):Option Slot:=some (.sh true (.int n))
theorem dY.len {x:PV}{ns:af}(h:dY x ns):xC x=some ns.length:=by
 rcases h with rfl|rfl<;>(show some (intz ns).length=_;rw[bA])
theorem Z6 {ls:aa}{i:Nat}{x:PV}(h:(b7 ls)[i]? = some x):∃l,x = .tup [.int l.1,.int l.2]/\ls[i]? = some l:=by
 unfold b7 at h
 rw[bn4]at h
 cases e:ls[i]? with
 |none=>rw[e]at h;cases h
 |some n=>rw[e]at h;exact⟨n,(bo9 h).symm,rfl⟩
end Core
namespace PP
open PySem L2 PyProof.Rows
theorem Reps.rep {K:ad}{M:Addr->Prop}{H:Hp}{us:List V}{xs:List PV}(r:Reps K M H us xs):∀k:Nat,Reps K M H (List.replicate k us).flatten (List.replicate k xs).flatten
 |0=>.nil
 |k+1=>by rw[bs9,bs9,bx2,bx2];exact r.append (Reps.rep r k)
section
variable {X:Cx}{a b e:Expr}{ta tb te:aH}{tr:cU}{pos p2 p3 pos2:Pos}
theorem aN4 {tA:TA}(hg:Gl X "range")(hm:X.mg "range" = none)(ha:PA X [a] tA)(hs:starEach [a] X.env = [(false,eval a X.env)]:=by rfl) :
  PE X (.Call (.Name "range" p2) [a] [] pos) (λσ H Q=>tA σ H λvs H1=>∃j:Int,vs = [.int j]/\∀r,H1 r=none->Q (.ref r) (upd H1 r (.rng 0 j))):=by
 intro pins s σ H Q I h
 refine Call_ (kZ I hg hm boot_range (bv3 (aR (ha pos pins s σ H _ I h) λus s1 ⟨vs,H1,I1,r1,q1⟩=>?_) hs rfl))
 obtain⟨j,e,q⟩:=q1
 subst e
 cases r1 with
 |cons r rr=>
  cases rr
  obtain⟨t,rfl⟩:=r
  refine call_range_1 ?_
  exact⟨.ref s1.heap.objs.size,_,I1.laid (o:=.rng 0 j) (λb ob q=>bm5 _ q) (bn1 _) ⟨_,_,_,bp3 _ rfl⟩,rfl,q _ (I1.hok.fresh (bn1 _))⟩
theorem Z7:∀{xs:List V}{us:List Value},xs.length=us.length->(∀(i:Nat) x u,xs[i]? = some x->us[i]? = some u->b6 x u)->aN xs us
 |[],[],_,_=>.nil
 |x::xs,u::us,hl,h=>.cons (h 0 x u rfl rfl) (Z7 (by simpa using hl) λi y w h1 h2=>h (i+1) y w (by rw[bw6];exact h1) (by rw[bw6];exact h2))
theorem aN5 {n:Nat}{acc:Array Value}(h:ItemsOf (λi v=>∃t,v = .int (0+(i:Int)*1) t) acc n):aN (k6 0 n) acc.toList:=by
 obtain⟨h1,h2⟩:=h
 refine Z7 (by rw[wK];simp[h1]) λi x u hx hu=>?_
 have hi:i<n:=by
  have:=(bn2.mp hx).1
  rwa [wK]at this
 unfold k6 at hx
 rw[bn4,List.getElem?_range hi]at hx
 cases hx
 obtain⟨t,rfl⟩:=h2 i u (by rw[<- bx5];exact hu)
 exact⟨t,by congr 1;omega⟩
theorem aN6 (hc:X.calm=true):dQ X (.type "list") (λxs H Q=>∃r j,xs = [.ref r]/\H r=some (.rng 0 j)/\0<=j/\j<=1000000/\∀l,H l=none->Q (.ref l) (upd H l (.lst (k6 0 j.toNat)))):=by
 intro pins s σ H xs us Q I r h
 obtain⟨p,j,rfl,hq,h0,h1,q⟩:=h
 obtain⟨u,rfl,rx⟩:=iA r
 cases rx
 obtain⟨t,u,v,ho⟩:=(show cL X.prog X.w H s.heap p (.rng 0 j) from I.hok p _ hq)
 refine PySem.call_list_range (a:=0) (b:=j) (c:=1) (n:=j.toNat) (I.ok.hd hc) ho (small_one (by decide) (by decide) (by omega) (by omega)) (by rw[rangeSize_one];split<;>omega) (by omega) λh' tk acc' c' kp e it=>?_
 have vv:=aN5 it
 have eq:acc'.toList.toArray=acc':=by simp
 exact⟨.ref s.heap.objs.size,_,I.laid (t':=tk) (o:=.lst (k6 0 j.toNat)) kp (bn1 _) ⟨by rw[wK];exact lim (by omega),acc'.toList,c',vv,by rw[eq];exact e⟩,rfl,q _ (I.hok.fresh (bn1 _))⟩
theorem aN7 {K:ad}{M:Addr->Prop}{H:Hp}(lo:Int)(n:Nat):Reps K M H (k6 lo n) (fL lo n):=by
 unfold k6 fL
 generalize List.range n=l
 induction l with
 |nil=>exact .nil
 |cons a r ih=>exact .cons (.int _) ih
theorem Z8 (B:Bt X.mg)(ha:QE X a ta)(hc:X.calm=true:=by rfl)(hg:Gl X "list":=by rfl)(hgr:Gl X "range":=by rfl)(hs:starEach [a] X.env = [(false,eval a X.env)]:=by rfl)(he:starEach [.Call (.Name "range" p3) [a] [] pos2] X.env=(false,eval (.Call (.Name "range" p3) [a] [] pos2) X.env)::starEach [] X.env:=by rfl)(hpl:(backTo pos (starEach [] X.env)).any (·.1)=false:=by rfl) :
  QE X (.Call (.Name "list" p2) [.Call (.Name "range" p3) [a] [] pos2] [] pos) (yI ta):=
 cX (G9 (aN6 hc) hg B.list PyProof.Rows.boot_list (dJ (aN4 hgr B.range (dJ ha eB hs) hs) eB he) (he:=he) (hpl:=hpl)) λσ H Q' h=>by
  obtain⟨W,ρ,Q,px,q,k⟩:=h
  refine⟨W,ρ,_,px,q,?_⟩
  rintro v H1 x g s r ⟨n,rfl,h0,h1,q⟩
  cases r
  refine⟨n,rfl,λr hr=>⟨r,n,rfl,bP,h0,h1,λl hl=>?_⟩⟩
  have S:aC H (upd (upd H1 r (.rng 0 n)) l (.lst (k6 0 n.toNat))):=(s.trans (bL hr _)).trans (bL hl _)
  exact k _ _ _ .fr S (.lst (((s.trans (bL hr _))).free hl) bP (aN7 0 n.toNat)) q
def yJ:V->Int
 |.int i=>i
 |_=>0
def kR (H:Hp):V->af
 |.ref a=>match H a with
  |some (.tup us)=>us.map yJ
  |_=>[]
 |_=>[]
theorem aN8 {H:Hp}{a:Addr}{ns:af}(h:H a=some (.tup (ns.map V.int))):kR H (.ref a)=ns:=by
 show (match H a with|some (.tup us)=>us.map yJ|_=>[])=ns
 rw[h]
 show (ns.map V.int).map yJ=ns
 rw[br0]
 exact List.map_id _
theorem yK {K:ad}{M:Addr->Prop}{H:Hp}:∀{us:List V}{ys:ae},Reps K M H us (ys.map λr=>PV.tup (intz r))->us.map (kR H)=ys/\∀u∈us,∃b,u = .ref b/\H b=some (.tup ((kR H u).map V.int))
 |_,[],.nil=>⟨rfl,λu h=>nomatch h⟩
 |_,y::ys,.cons r t=>by
  obtain⟨a,us,rfl,h,r1⟩:=r.sqT
  obtain rfl:=r1.ofInts
  obtain⟨h1,h2⟩:=yK t
  have hk:=aN8 h
  refine⟨by rw[bp2,h1,hk],λu hu=>?_⟩
  rcases bn8.mp hu with rfl|hu
  ·exact⟨a,rfl,by rw[hk];exact h⟩
  ·exact h2 u hu
theorem yM {K:ad}{M:Addr->Prop}{H:Hp}:∀{us:List V},(∀u∈us,∃b,u = .ref b/\H b=some (.tup ((kR H u).map V.int)))->Reps K M H us ((us.map (kR H)).map λr=>PV.tup (intz r))
 |[],_=>.nil
 |u::us,h=>by
  obtain⟨b,rfl,hb⟩:=h u bm8
  exact .cons (.tup hb (Reps.intz _)) (yM λv hv=>h v (bn5 _ hv))
theorem aN9:gS X tV (O9 X.K):=by
 rintro H vs xs Q Q' r ⟨ys,rfl,hl,hne,q⟩ k
 obtain⟨v,rfl,r1⟩:=r.one
 obtain⟨a,us,rfl,_,h,r2⟩:=r1.sqL
 obtain⟨h1,h2⟩:=yK r2
 have lr:=r2.length
 rw[bm7]at lr
 refine⟨a,us,kR H,rfl,aM.of h,by omega,λy hy=>?_,λl zs hl' pm so=>?_⟩
 ·obtain⟨b,rfl,hb⟩:=h2 y hy
  refine⟨b,rfl,aO.of hb,hne _ ?_⟩
  rw[<- h1];exact bn6.mpr ⟨_,hy,rfl⟩
 ·have hz:∀u∈zs,∃b,u = .ref b/\H b=some (.tup ((kR H u).map V.int)):=λu hu=>h2 u (pm.mem_iff.mp hu)
  refine k _ _ _ (bL hl' _) (.lst hl' bP ((yM hz).same (bL hl' _) λ_ z=>z)) (q _ ?_ ?_)
  ·rw[<- h1];exact pm.map _
  ·rw[bs3];exact so
theorem aO0 (B:Bt X.mg)(ha:QA X [e] tr)(hg:Gl X "sorted":=by rfl)(he:starEach [e] X.env=(false,eval e X.env)::starEach [] X.env:=by rfl)(hpl:(backTo pos (starEach [] X.env)).any (·.1)=false:=by rfl):QE X (.Call (.Name "sorted" p2) [e] [] pos) (aB tV tr):=
 jE aA1 aN9 hg B.sorted PyProof.Rows.boot_sorted ha (he:=he) (hpl:=hpl)
end
def Z9 (K:ad):Sp:=λvs H Q _=>∃(a:Addr) (ns:af),vs = [.ref a]/\(aO K H a (ns.map V.int)∨aM K H a (ns.map V.int))/\ns.length<=1000/\∀H',aC H H'->Q (.bl (Core.iT ns)) H'
def tW:Sp:=λvs H Q _=>∃v ws ls,vs = [v]/\P4 H v ws ls/\ws.length<=1000/\ls.length<=2000/\(∀l∈ls,(0<=l.1/\l.1<ws.length)/\0<=l.2/\l.2<ws.length)/\
 ∀(r:Addr) (bs:List Addr) (H':Hp),bs.length=ws.length->iP H H' r bs (λk=>aJ ls k)->Q (.ref r) H'
section
variable {P:Program}{w:World}{K:ad}{mg:Str→Option Value}{base:Heap}{f:Addr}{fd:FuncData}{k:Nat}
theorem aO1 (F:cZ P w K mg base eC k f fd ["things"] (Z9 K))(b:j5 K fd ["things"] [])(kp:PySem.W.keepIn K (.ref f)=true)(m:mg "rises" = some (.ref f)):Df P w K mg base k "rises" ["things"] Core.yF:=by
 refine⟨f,fd,F.imp λvs H Q E h=>?_,b,kp,m⟩
 obtain⟨xs,Qp,r,⟨x,ns,rfl,hx,hl,q⟩,k⟩:=h
 obtain⟨v,rfl,r1⟩:=r.one
 rcases hx with rfl|rfl
 ·obtain⟨a,us,rfl,h,r2⟩:=r1.sqT
  obtain rfl:=r2.ofInts
  exact⟨a,ns,rfl,.inl (aO.of h),hl,λH' s=>k _ H' _ s (.bl _) q⟩
 ·obtain⟨a,us,rfl,_,h,r2⟩:=r1.sqL
  obtain rfl:=r2.ofInts
  exact⟨a,ns,rfl,.inr (aM.of h),hl,λH' s=>k _ H' _ s (.bl _) q⟩
theorem aa0 {M:Addr->Prop}{H:Hp}:∀{us:List V}{ls:aa},Reps K M H us (ls.map λl=>PV.tup [.int l.1,.int l.2])->pD H us ls
 |_,[],.nil=>.nil
 |_,l::ls,.cons r t=>by
  obtain⟨a,us,rfl,h,r1⟩:=r.sqT
  obtain⟨u1,u2,rfl,q1,q2⟩:=r1.two
  cases q1;cases q2
  exact .cons ⟨a,rfl,h⟩ (aa0 t)
theorem aa1 {M:Addr->Prop}{H:Hp}{v:V}{ws:af}{ls:aa}(r:aQ K M H v (Core.b9 ws ls)):P4 H v ws ls:=by
 obtain⟨a,us,rfl,h,r1⟩:=aQ.sqT r
 obtain⟨u1,u2,rfl,q1,q2⟩:=r1.two
 obtain⟨p,up,rfl,hp,rp⟩:=q1.sqT
 obtain⟨q,uq,rfl,hq,rq⟩:=q2.sqT
 obtain rfl:=rp.ofInts
 exact⟨a,p,q,uq,rfl,h,hp,hq,aa0 rq⟩
theorem yN {M:Addr->Prop}{H:Hp}:∀{bs:List Addr}{ls:aa} (off:Nat),(∀b∈bs,M b)->(∀(k:Nat) b,bs[k]? = some b->H b=some (.lst ((aJ ls ((off+k:Nat):Int)).map V.int)))->Reps K M H (bs.map V.ref) ((List.range' off bs.length).map λ(k:Nat)=>PV.lst (intz (aJ ls k)))
 |[],_,_,_,_=>.nil
 |b::bs,ls,off,hm,h=>by
  refine .cons (.lst (hm b bm8) (h 0 b rfl) (Reps.intz _)) (yN (off+1) (λc hc=>hm c (bn5 _ hc)) λk c hk=>?_)
  have:=h (k+1) c (by rw[bw6];exact hk)
  rw[show off+1+k=off+(k+1) by omega];exact this
theorem aO2 (F:cZ P w K mg base eC k f fd ["web"] tW)(b:j5 K fd ["web"] [])(kp:PySem.W.keepIn K (.ref f)=true)(m:mg "near_lists" = some (.ref f)):Df P w K mg base k "near_lists" ["web"] Core.kO:=by
 refine⟨f,fd,F.imp λvs H Q E h=>?_,b,kp,m⟩
 obtain⟨xs,Qp,r,⟨ws,ls,rfl,wb,q⟩,k⟩:=h
 obtain⟨v,rfl,r1⟩:=r.one
 have:=wb.few
 have:=wb.most
 refine⟨v,ws,ls,rfl,aa1 r1,by omega,by omega,wb.links,λt bs H' hb R=>k _ H' _ R.same (.lst R.new R.row ?_) q⟩
 have:=yN (K:=K) (M:=λa=>H a=none) (H:=H') (bs:=bs) (ls:=ls) 0 (λb hb=>(R.news b hb).1) λk b hk=>by rw[Nat.zero_add];exact R.rows k b hk
 rw[hb,<- List.range_eq_range']at this
 exact this
end
end PP
namespace Core
open PySem L2 PP
theorem aO3 (n:Nat):fL 0 n=intz (rng n):=by
 unfold fL rng
 show _=List.map PV.int (List.map (λ(i:Nat)=>(i:Int)) (List.range n))
 rw[br0]
 refine bt8 λi _=>?_
 show PV.int (0+(i:Int))=PV.int (i:Int)
 rw[bC4]
theorem aO4 (n:Nat):(rng n).Nodup:=by
 unfold rng
 rw[List.nodup_iff_pairwise_ne,bs3]
 exact (List.nodup_range (n:=n)).imp λh e=>h (by omega)
def two (l:Int×Int):af:=[l.1,l.2]
def qI (r:af):Int×Int:=(r.getD 0 0,r.getD 1 0)
theorem aa2 (ls:aa):b7 ls=(ls.map two).map λr=>PV.tup (intz r):=by
 unfold b7
 rw[br0];rfl
theorem aO5 {zs:ae}{ls:aa}(h:zs.Perm (ls.map two)):∃ls':aa,zs=ls'.map two/\ls'.Perm ls:=by
 refine⟨zs.map qI,?_,?_⟩
 ·rw[br0]
  have:∀z∈zs,(two ∘ qI) z=z:=λz hz=>by
   obtain⟨l,_,rfl⟩:=bn6.mp (h.mem_iff.mp hz)
   rfl
  rw[bt8 this,List.map_id']
 ·have:=h.map qI
  rw[br0]at this
  have e:ls.map (qI ∘ two)=ls:=by
   have:∀l∈ls,(qI ∘ two) l=id l:=λl _=>rfl
   rw[bt8 this,List.map_id]
  rw[e]at this
  exact this
theorem aO6 {ls:aa}(so:(ls.map two).Pairwise λu v=>HT.bR v u=false)(nd:ls.Nodup):ls.Pairwise jF:=by
 rw[bs3]at so
 refine (List.pairwise_and_iff.mpr ⟨so,nd⟩).imp λ{a b} h=>?_
 obtain⟨h1,h2⟩:=h
 unfold two at h1
 rw[HT.lT]at h1
 unfold jF
 by_cases e:b.1=a.1
 ·rw[if_pos e,HT.lT]at h1
  by_cases e2:b.2=a.2
  ·exact absurd (Prod.ext e.symm e2.symm) h2
  ·rw[if_neg e2]at h1
   have:=bz4 h1
   omega
 ·rw[if_neg e]at h1
  have:=bz4 h1
  omega
structure lF (i:Int)(ms:af):Prop where
 up:ms.Pairwise (·<·)
 inn:∀x∈ms,0<=x/\x<i
 len:(ms.length:Int)<=i
theorem lF.set {n:Nat}{ms:af}(h:lF (n:Int) ms):aZ n ms=true:=by
 unfold aZ
 rw[tP h.up,Bool.true_and,by4]
 intro b hb
 obtain⟨x,hx,rfl⟩:=bn6.mp hb
 have:=h.inn x hx
 unfold inB
 simp[this]
def fF (n:Nat)(S:af):List PV:=(rng n).map λi=>PV.bl (decide (i∈S))
theorem o5 (n:Nat)(S:af):(fF n S).length=n:=by unfold fF;rw[bm7,cF]
theorem aa3 {n:Nat}{S:af}{x:Int}(h0:0<=x)(h1:x<(n:Int)):atI (fF n S) x=some (.bl (decide (x∈S))):=by
 refine lY h0 ?_
 unfold fF
 rw[bn4,qD (by omega)]
 show some (PV.bl (decide (((x.toNat:Nat):Int)∈S)))=_
 rw[show ((x.toNat:Nat):Int)=x by omega]
theorem aO7 {n:Nat}{S:af}{x:Int}(h0:0<=x)(h1:x<(n:Int)):(fF n S).set x.toNat (.bl true)=fF n (S++[x]):=by
 refine List.ext_getElem? λi=>?_
 by_cases hi:i<n
 ·have e1:(fF n (S++[x]))[i]? = some (.bl (decide ((i:Int)∈S++[x]))):=by unfold fF;rw[bn4,qD hi];rfl
  rw[e1]
  by_cases e:i=x.toNat
  ·subst e
   rw[bu0 (by rw[o5];exact hi)]
   have:(((x.toNat:Nat):Int)∈S++[x]):=by rw[show ((x.toNat:Nat):Int)=x by omega];simp
   rw[bm4 this]
  ·rw[bq7 (Ne.symm e)]
   unfold fF
   rw[bn4,qD hi]
   have:decide ((i:Int)∈S++[x])=decide ((i:Int)∈S):=by
    rw[bw0];simp;omega
   rw[this];rfl
 ·rw[bC0 (by rw[bs5,o5];omega),bC0 (by rw[o5];omega)]
theorem yO:∀{a b:af},a.Perm b->a.Pairwise (· <= ·)->b.Pairwise (· <= ·)->a=b:=by
 intro a b h ha hb
 exact h.eq_of_pairwise (λx y _ _ h1 h2=>Int.le_antisymm h1 h2) ha hb
def aa4:bI:=λxs Q=>∃ns:af,xs = [.scr ns]/\ns.length<=63/\Q (.bl true)
end Core
namespace PP
open PySem L2 PyProof.Rows
theorem aO8 {P:Program}{w:World}{K:ad}{mg:Str->Option Value}{base:Heap}{k:Nat}{x:Str}{ps N:List Str}{p:bI}{st:Stmt}{f:Addr}{fd:FuncData}(F:fJ K x x st f fd)(S:FnScope N ps (aX st))(len:∀xs Q,p xs Q->xs.length=ps.length)(body:∀(cdv:Value) (A:Around) (outer:List Env) (s:Shared) (H:Hp) (E:XK),cJ k (A.deeper (envOfC x (aX st) s.heap.objs.size f cdv))->
   ∃t,gA (dR eC P w K mg base N x (aX st) f cdv A outer s H E).nox (fI st) t/\∀xs Q,p xs Q->t { nx:=λ_=>Q .non,rt:=Q } (gW N xs)):cZ P w K mg base eC (k+1) f fd ps (pJ K p):=by
 refine F.ok S (λvs H Q E h=>?_) (λcdv A outer s H vs Q E hr h=>?_)
 ·obtain⟨xs,Qp,r,q,_⟩:=h
  rw[r.length];exact len xs Qp q
 ·obtain⟨xs,Qp,r,q,k⟩:=h
  obtain⟨t,ht,hq⟩:=body cdv A outer s H E hr
  refine⟨_,ht,λ_=>False,gW N xs,_,xR r,hq xs Qp q,?_,?_,?_,?_⟩
  ·exact λW' σ' H' ρ' e px q=>k _ _ _ px.same .non q
  ·exact λv H' x s r q=>k _ _ _ s r q
  ·exact λW' σ' H' ρ' e px q=>q
  ·exact λW' σ' H' ρ' e px q=>q
def tX (K:ad):Sp:=λvs H Q _=>∃(a:Addr) (ns:af),vs = [.ref a]/\k9 K H a ns/\ns.length<=63/\∀H',Q (.bl true) H'
theorem aO9 {P:Program}{w:World}{K:ad}{mg:Str->Option Value}{base:Heap}{k:Nat}{f:Addr}{fd:FuncData}(F:cZ P w K mg base eC k f fd ["script"] (pJ K Core.aa4)):cZ P w K mg base eC k f fd ["script"] (tX K):=
 F.imp λvs H Q E h=>by
  obtain⟨a,ns,rfl,hs,hl,q⟩:=h
  refine⟨[.scr ns],λz=>z = .bl true,.cons (.scr hs) .nil,⟨ns,rfl,hl,rfl⟩,?_⟩
  rintro v H' x _ r rfl
  cases r
  exact q H'
theorem aP0 {K:ad}{H:Hp}{a:Addr}{ns:af}(hO:rH H)(h:aM K H a (ns.map V.int)):k9 K H a ns:=by
 rcases h with (h|⟨o,h⟩)|h
 ·rcases hO a with e|⟨o,xs,e⟩<;>(rw[h]at e;cases e)
 ·exact .inl ⟨o,h⟩
 ·exact .inr h
end PP
namespace PyProof.Rows
open PySem
end PyProof.Rows
namespace PP
open PySem L2 PyProof.Rows
section
variable {X:Cx}{a b e:Expr}{ta tb te:aH}{tr:cU}{pos p2:Pos}
def aa5:PV->Tg->PV->Tg->PK->Prop:=λx _ y _ Q=>∃xs ys,x = .lst xs/\y = .lst ys/\flats xs=true/\flats ys=true/\xs.length+ys.length<=16000000/\Q (.lst (xs++ys)) .fr
abbrev aa6 (ta tb:aH):aH:=q2 aa5 ta tb
theorem aP1:eV X aa5 K9:=by
 rintro W Hs H u v x y g g' Q Q' s n r1 r2 ⟨xs,ys,rfl,rfl,f1,f2,hl,q⟩ k
 obtain⟨a,us,rfl,_,h1,q1⟩:=r1.sqL
 obtain⟨b,ws,rfl,_,h2,q2⟩:=r2.sqL
 have l1:=q1.length
 have l2:=q2.length
 refine⟨a,b,us,ws,rfl,rfl,h1,h2,lim (by omega),λp hp=>k _ _ _ .fr (bL hp _) (.lst (s.free hp) bP (((q1.flat f1).append (q2.flat f2)).same (bL hp _) λ_ z=>z)) q⟩
theorem aP2 (ha:QE X a ta)(hb:QE X b tb):QE X (.BinOp a .Add b pos) (aa6 ta tb):=kH aw6 aP1 ha hb
end
end PP
namespace Zp
open PySem PyProof.Rows
theorem aP3 (t b:Addr)(xs ys:Array Value)(n n2:Nat)(dd dd2:Option Addr)(sl sl2:Array (Option Value))(hx:xs.isEmpty=true):Meets (Builtin.«tuple.__add__» ⟨[.ref t,.ref b],[]⟩)
  (λ_ R s=>s.heap.get? t=some { cls:=.type "tuple",dict:=dd,data:=.seq xs n,slots:=sl }/\s.heap.get? b=some { cls:=.type "tuple",dict:=dd2,data:=.seq ys n2,slots:=sl2 }/\R (.ok (.ret (.ref b))) s):=
 .of_wp λprog w A R s h=>by
  obtain⟨h1,h2,h⟩:=h
  have sub:isSubtype (Value.type "tuple") (Value.type "tuple")=pure true:=rfl
  wp_walk
  exact⟨_,rfl,h⟩
end Zp
namespace L2
open PySem PySem.Spec PyProof.Rows
section
variable {X:Cx}
def aa7 (K:ad):R2:=λx y H Q=>∃a b xs ys,x = .ref a/\y = .ref b/\aO K H a xs/\aO K H b ys/\xs.length+ys.length<=sizeLine/\
 (xs = []->Q (.ref b) H)/\(xs≠[]->ys = []->Q (.ref a) H)/\(xs≠[]->ys≠[]->∀p,H p=none->Q (.ref p) (upd H p (.tup (xs++ys))))
theorem aP4:cM X (binaryOp .Add) (aa7 X.K):=by
 intro pins s σ H x y v u Q I rx ry h
 obtain⟨a,b,xs,ys,ex,ey,ha,hb,hz,q0,q1,q2⟩:=h
 by_cases hx:xs = []
 ·subst ex ey
  cases rx
  cases ry
  obtain⟨its,r1,p1,_⟩:=I.tuple ha
  obtain⟨its2,r2,p2,_⟩:=I.tuple hb
  have hi:its = []:=r1.nil_iff.mpr hx
  obtain⟨⟨cls,dd,data,sl⟩,ho,hc,n,hd⟩:=id p1
  obtain⟨⟨cls2,dd2,data2,sl2⟩,ho2,hc2,n2,hd2⟩:=id p2
  simp only at hc hd hc2 hd2
  subst hc hd hc2 hd2
  exact concat_meets ⟨_,ho,rfl⟩ ⟨_,ho2,rfl⟩ noFill_tuple_add seq_tuple_add PySem.F.slot_tuple_add PySem.F.entry_tuple_add (PySem.F.args_tuple_add_2 _ _)
   (Zp.aP3 a b its.toArray its2.toArray n n2 dd dd2 sl sl2 (by simp[hi])) ⟨ho,ho2,⟨.ref b,H,I,rfl,q0 hx⟩⟩
 ·exact av0 pins s σ H x y v u Q I rx ry ⟨a,b,xs,ys,ex,ey,ha,hb,hx,hz,q1 hx,q2 hx⟩
end
end L2
namespace PP
open PySem L2 PyProof.Rows
section
variable {X:Cx}{e:Expr}{te:aH}{pos p2:Pos}{scope:Scope}{N:List Str}{fr:List (Option Nat)}{x y:Str}{tp xp yp:Pos}{kt:Nat}{iter elt:Expr}{ti:g6}
abbrev kS (x y:Str)(xp yp:Pos)(kt:Nat)(tp:Pos):Expr:=.Tuple [.Name x xp,.Name y yp] kt tp
theorem yQ {ifs:List Expr}{tcs:cN}(hc:X.calm=true)(he:∀(s:Shared) (H:Hp) (C:Addr) (fp:List Addr),QE (bK X scope N s H C fp c9) elt te)(hi:∀(s:Shared) (H:Hp) (C:Addr) (fp:List Addr),l9 (bK X scope N s H C fp c9) ifs (LT (bK X scope N s H C fp c9) tcs))(hN:N.Nodup)(h0:N[0]? = some x)(h1:N[1]? = some y)(hl:∀(s:Shared) (H:Hp) (C:Addr) (fp:List Addr),(bK X scope N s H C fp c9).env.scope.names.lookup x=some .local)(hl2:∀(s:Shared) (H:Hp) (C:Addr) (fp:List Addr),(bK X scope N s H C fp c9).env.scope.names.lookup y=some .local)(s:Shared)(H:Hp) :
  nE X scope N (kS x y xp yp kt tp) ifs elt s H (jP X.K 2 (fA (cD 0) (fA (cD 1) jO))) (LT (X.frm H) tcs) (LE (X.frm H) te):=
 ⟨λC fp=>lS (X:=bK X scope N s H C fp c9) hc (gM (eS hN h0 (.inl (hl s H C fp)) (.inr (hl s H C fp))) (gM (eS hN h1 (.inl (hl2 s H C fp)) (.inr (hl2 s H C fp))) lR)),λC fp=>hi s H C fp,λC fp=>he s H C fp⟩
theorem aa8 (hi:QI X (kS x y xp yp kt tp) iter ti)(he:∀(s:Shared) (H:Hp) (C:Addr) (fp:List Addr),QE (bK X scope N s H C fp c9) elt te)(hc:X.calm=true:=by rfl)(S:cK X scope N fr:=by exact cK.of rfl rfl)(hN:N.Nodup:=by decide +kernel)(h0:N[0]? = some x:=by rfl)(h1:N[1]? = some y:=by rfl)(hl:∀(s:Shared) (H:Hp) (C:Addr) (fp:List Addr),(bK X scope N s H C fp c9).env.scope.names.lookup x=some .local:=by intro _ _ _ _;rfl)(hl2:∀(s:Shared) (H:Hp) (C:Addr) (fp:List Addr),(bK X scope N s H C fp c9).env.scope.names.lookup y=some .local:=by intro _ _ _ _;rfl)(hf:fr[0]? = some none:=by rfl)(hf2:fr[1]? = some none:=by rfl)(hs:∀x,foldedSetIterable iter X.env x=pure x:=by intro _;rfl):QE X (.ListComp elt [⟨kS x y xp yp kt tp,iter,[],0⟩] scope pos) (cT ti fr (gV 0 1) cV te):=
 cX (wJ (gh:=λ_=>jP X.K 2 (fA (cD 0) (fA (cD 1) jO))) (tch:=λH=>LT (X.frm H) cV) (teh:=λH=>LE (X.frm H) te) hc S hi (yQ hc he (λ_ _ _ _=>pT) hN h0 h1 hl hl2) hs) λ_ _ _=>m8 (pM _ 0 1) (λi e=>by rcases e with e|e<;>(subst e;assumption))
theorem aP5 {i:Nat}{z:Str}{zp:Pos}(nd:X.N.Nodup)(hi:QI X (kS x y xp yp kt tp) iter ti)(he:∀(s:Shared) (H:Hp) (C:Addr) (fp:List Addr),QE (bK X scope N s H C fp c9) elt te)(hz:X.N[i]? = some z:=by rfl)(hzl:X.env.scope.names.lookup z=some .local:=by rfl)(hsw:swapsWith (.ListComp elt [⟨kS x y xp yp kt tp,iter,[],0⟩] scope p2) (some (.Name z zp)) pos.line X.env=pure true:=by rfl)(hc:X.calm=true:=by rfl)(S:cK X scope N fr:=by exact cK.of rfl rfl)(hN:N.Nodup:=by decide +kernel)(h0:N[0]? = some x:=by rfl)(h1:N[1]? = some y:=by rfl)(hl:∀(s:Shared) (H:Hp) (C:Addr) (fp:List Addr),(bK X scope N s H C fp c9).env.scope.names.lookup x=some .local:=by intro _ _ _ _;rfl)(hl2:∀(s:Shared) (H:Hp) (C:Addr) (fp:List Addr),(bK X scope N s H C fp c9).env.scope.names.lookup y=some .local:=by intro _ _ _ _;rfl)(hf:fr[0]? = some none:=by rfl)(hf2:fr[1]? = some none:=by rfl)(hs:∀x,foldedSetIterable iter X.env x=pure x:=by intro _;rfl):QS X (.Assign [.Name z zp] (.ListComp elt [⟨kS x y xp yp kt tp,iter,[],0⟩] scope p2) pos) (b8 i (cT ti fr (gV 0 1) cV te)):=
 dW (rP (gh:=λ_=>jP X.K 2 (fA (cD 0) (fA (cD 1) jO))) (tch:=λH=>LT (X.frm H) cV) (teh:=λH=>LE (X.frm H) te) hc S hi (yQ hc he (λ_ _ _ _=>pT) hN h0 h1 hl hl2) nd hz hzl hsw hs) λD σ H h=>m8 (pM _ 0 1) (λi e=>by rcases e with e|e<;>(subst e;assumption)) (sG h)
theorem aP6 {c:Expr}{tcs:cN}{i:Nat}{z:Str}{zp:Pos}(nd:X.N.Nodup)(hi:QI X (kS x y xp yp kt tp) iter ti)(ht:∀(s:Shared) (H:Hp) (C:Addr) (fp:List Addr),QT (bK X scope N s H C fp c9) c tcs)(he:∀(s:Shared) (H:Hp) (C:Addr) (fp:List Addr),QE (bK X scope N s H C fp c9) elt te)(hz:X.N[i]? = some z:=by rfl)(hzl:X.env.scope.names.lookup z=some .local:=by rfl)(hsw:swapsWith (.ListComp elt [⟨kS x y xp yp kt tp,iter,[c],0⟩] scope p2) (some (.Name z zp)) pos.line X.env=pure true:=by rfl)(hc:X.calm=true:=by rfl)(S:cK X scope N fr:=by exact cK.of rfl rfl)(hN:N.Nodup:=by decide +kernel)(h0:N[0]? = some x:=by rfl)(h1:N[1]? = some y:=by rfl)(hl:∀(s:Shared) (H:Hp) (C:Addr) (fp:List Addr),(bK X scope N s H C fp c9).env.scope.names.lookup x=some .local:=by intro _ _ _ _;rfl)(hl2:∀(s:Shared) (H:Hp) (C:Addr) (fp:List Addr),(bK X scope N s H C fp c9).env.scope.names.lookup y=some .local:=by intro _ _ _ _;rfl)(hf:fr[0]? = some none:=by rfl)(hf2:fr[1]? = some none:=by rfl)(hs:∀x,foldedSetIterable iter X.env x=pure x:=by intro _;rfl):QS X (.Assign [.Name z zp] (.ListComp elt [⟨kS x y xp yp kt tp,iter,[c],0⟩] scope p2) pos) (b8 i (cT ti fr (gV 0 1) tcs te)):=
 dW (rP (gh:=λ_=>jP X.K 2 (fA (cD 0) (fA (cD 1) jO))) (tch:=λH=>LT (X.frm H) tcs) (teh:=λH=>LE (X.frm H) te) hc S hi (yQ hc he (λs H C fp=>M9 (ht s H C fp)) hN h0 h1 hl hl2) nd hz hzl hsw hs) λD σ H h=>m8 (pM _ 0 1) (λi e=>by rcases e with e|e<;>(subst e;assumption)) (sG h)
end
section
variable {X:Cx}{a b e o f:Expr}{ta tb te td tk tx:aH}{pos p2 apos cpos:Pos}{σ:L2.St}{H:Hp}{Q':VK}
def aa9:PV->Tg->PV->Tg->PK->Prop:=λx _ y _ Q=>∃xs n,x = .lst xs/\y = .int n/\flats xs=true/\-1000000<=n/\n<=1000000/\xs.length<=10/\Q (.lst (List.replicate n.toNat xs).flatten) .fr
abbrev qJ (ta tb:aH):aH:=q2 aa9 ta tb
theorem aP7:eV X aa9 L0:=by
 rintro W Hs H u v x y g g' Q Q' s n r1 r2 ⟨xs,m,rfl,rfl,f,h1,h2,hl,q⟩ k
 cases r2
 obtain⟨a,us,rfl,mm,h,r⟩:=r1.sqL
 have lr:=r.length
 refine⟨a,m,us,rfl,rfl,h,by omega,by omega,lim ?_,λp hp=>k _ _ _ .fr (bL hp _) (.lst (s.free hp) bP (((r.flat f).rep m.toNat).same (bL hp _) λ_ z=>z)) q⟩
 have h3:us.length<=10:=by omega
 have h4:m.toNat<=1000000:=by omega
 calc us.length*m.toNat<=10*1000000:=Nat.mul_le_mul h3 h4
  _<=16000000:=by decide
theorem tY (ha:QE X a ta)(hb:QE X b tb):QE X (.BinOp a .Mult b pos) (qJ ta tb):=kH aw8 aP7 ha hb
end
section
variable {X:Cx}{a b:Expr}{ta tb:aH}{pos:Pos}
def ab0:PV->Tg->PV->Tg->PK->Prop:=λx _ y _ Q=>∃xs ys,x = .tup xs/\y = .tup ys/\flats xs=true/\flats ys=true/\xs.length+ys.length<=16000000/\Q (.tup (xs++ys)) .fr
abbrev ab1 (ta tb:aH):aH:=q2 ab0 ta tb
theorem aP8:eV X ab0 (aa7 X.K):=by
 rintro W Hs H u v x y g g' Q Q' s n r1 r2 ⟨xs,ys,rfl,rfl,f1,f2,hl,q⟩ k
 obtain⟨a,us,rfl,h1,q1⟩:=r1.sqT
 obtain⟨b,ws,rfl,h2,q2⟩:=r2.sqT
 have l1:=q1.length
 have l2:=q2.length
 refine⟨a,b,us,ws,rfl,rfl,aO.of h1,aO.of h2,lim (by omega),λz=>?_,λ_ z=>?_,λ_ _ p hp=>k _ _ _ .fr (bL hp _) (.tup bP (((q1.flat f1).append (q2.flat f2)).same (bL hp _) λ_ z=>z)) q⟩
 ·obtain rfl:xs = []:=by cases xs with
   |nil=>rfl
   |cons _ _=>rw[z]at l1;cases l1
  exact k _ _ _ .fr (aC.refl _) (.tup h2 (q2.flat f2)) q
 ·obtain rfl:ys = []:=by cases ys with
   |nil=>rfl
   |cons _ _=>rw[z]at l2;cases l2
  rw[bs1]at q
  exact k _ _ _ .fr (aC.refl _) (.tup h1 (q1.flat f1)) q
theorem aP9 (ha:QE X a ta)(hb:QE X b tb):QE X (.BinOp a .Add b pos) (ab1 ta tb):=kH aP4 aP8 ha hb
end
end PP
namespace Core
open PySem L2 PP
section
variable (ws:af)(ls:aa)(os ns:af)
def mK:Nat->af
 |0=>[]
 |k+1=>mK k++(os.find? (kin ws ls (ns++mK k))).toList
def yR (k:Nat):Option Int:=os.find? (kin ws ls (ns++mK ws ls os ns k))
end
section
variable {ws:af}{ls:aa}{os ns:af}
theorem bl8 {k:Nat}{h:Int}(e:yR ws ls os ns k=some h):mK ws ls os ns (k+1)=mK ws ls os ns k++[h]:=by
 show mK ws ls os ns k++(yR ws ls os ns k).toList=_
 rw[e];rfl
theorem aQ0 {S T:af}{h:Int}(hk:kin ws ls S h=true)(st:∀x∈S,x∈T)(hn:h∉T):kin ws ls T h=true:=by
 unfold kin at hk ⊢
 rw[br3]at hk ⊢
 refine⟨by rw[bm9 hn];rfl,bm4 ?_⟩
 have h1:=bq3 hk.2
 have h2:((aJ ls h).filter λx=>decide (x∈S)).length<=((aJ ls h).filter λx=>decide (x∈T)).length:=by
  rw[<- List.countP_eq_length_filter,<- List.countP_eq_length_filter]
  exact List.countP_mono_left λx _ hx=>bm4 (st x (bq3 hx))
 omega
def iH (ws:af)(ls:aa)(T:af):Prop:=∀h∈rng ws.length,kin ws ls T h=false
theorem aQ1 (n:Nat):(rng n).Nodup:=aO4 n
theorem bl9 {k:Nat}{h:Int}(e:yR ws ls os ns k=some h):h∈os/\h∉ns++mK ws ls os ns k:=
 ⟨List.mem_of_find?_eq_some e,bz4 (aM2 (List.find?_some e))⟩
end
def gG:Option Int->PV
 |none=>.non
 |some h=>.int h
theorem gX {i:Nat}{h:Int}{g:Bool}{ρ:bN}{Q:bN->Prop}(q:Q (ρ.set i (some (.sh true (.int h))))):bQ i (.int h) g ρ Q:=by
 show Q (ρ.set i (some (.sh (g||true) (.int h))))
 rw[Bool.or_true];exact q
def aQ2 (ns S:af):Int:=(ns.length:Int)-(((ns.filter λx=>decide (x∈S)).length:Nat):Int)
def o6:bI:=λxs Q=>∃x ns y ms,xs = [x,y]/\dY x ns/\dY y ms/\ns.length<=10000/\ms.length<=1000/\Q (.tup (intz (ns.filter λz=>!decide (z∈ms))))
def ab2:aT:=(aE (b8 2 (aB o0 (a7 (a5 1) a9)))
 (bV (aB jB (a7 (cT (cO (a5 0)) [none,some 2] (bQ 0) (bH (m9 true (a5 0) (a5 1))) (a5 0)) a9))))
theorem aQ3:c6 ab2 ["hearths","some","gone"] o6:=by
 rintro xs Q ⟨x,ns,y,ms,rfl,hx,hy,hl,hm,q⟩
 refine⟨_,rfl,y,ms,rfl,hy,hm,λps d=>⟨trivial,?_⟩⟩
 refine⟨_,rfl,_,hx.seq,tS hx,by rw[bA];omega,λi acc=>acc=intz ((ns.take i).filter λz=>!decide (z∈ms)),rfl,?_,?_⟩
 ·rintro i z acc hz rfl
  obtain⟨n,rfl,hn⟩:=fP hz
  have tk:=qE (p:=λz=>!decide (z∈ms)) hn
  refine⟨_,rfl,_,rfl,_,.inl ⟨ps,Sum.inl n,rfl,rfl,rfl⟩,_,rfl,?_⟩
  show if (!(cW ps (Sum.inl n:aK)).isSome)=true then _ else _
  rw[d.has n]
  by_cases h:n∈ms
  ·rw[bm4 h]at tk ⊢
   refine bG ?_
   show _=intz (List.filter _ (List.take (i+1) ns))
   rw[tk];exact congrArg intz (bs1 _).symm
  ·rw[bm9 h]at tk ⊢
   refine bJ ⟨_,rfl,trivial,?_⟩
   show _=intz (List.filter _ (List.take (i+1) ns))
   rw[tk,fE];rfl
 ·rintro acc rfl
  rw[bA,br4]
  exact⟨⟨_,_,rfl,rfl,eD _,trivial,q⟩,λns z=>by cases z⟩
def aQ4 (ws:af)(ls:aa)(S:af)(h:Int):Bool:=decide (aQ2 (aJ ls h) S<ws.getD h.toNat 0)
def stay (ws:af)(ls:aa)(S:af):af:=S.filter (aQ4 ws ls S)
theorem qK {n:Nat}{S:af}(h:aZ n S=true)(p:Int->Bool):aZ n (S.filter p)=true:=by
 obtain⟨h1,h2⟩:=eN h
 have u:lF (n:Int) (S.filter p):=⟨(gE h1).filter p,λx hx=>h2 x (bn3.mp hx).1,by
  have:=o4 h
  have:=bs8 p S
  omega⟩
 exact u.set
section
variable {ws:af}{ls:aa}{S T:af}
theorem yT {n:Nat}{A B:af}(ha:aZ n A=true)(hb:aZ n B=true)(h:∀x,x∈A↔x∈B):A=B:=by
 have ua:=gE (eN ha).1
 have ub:=gE (eN hb).1
 have p:A.Perm B:=(bw9 (ua.imp λz=>bw4 z) (ub.imp λz=>bw4 z)).mpr h
 exact yO p (ua.imp λz=>bC2 z) (ub.imp λz=>bC2 z)
end
section
variable {ws:af}{ls:aa}{ns:af}
theorem aQ5 (wb:Wb ws ls){h x:Int}(hx:x∈aJ ls h):x∈rng ws.length:=by
 unfold aJ at hx
 obtain⟨l,hl,hx⟩:=List.mem_flatMap.mp hx
 have:=wb.links l hl
 rcases bn0.mp hx with hx|hx
 ·split at hx
  ·rw[bm2.mp hx];exact bM.mpr this.2
  ·cases hx
 ·split at hx
  ·rw[bm2.mp hx];exact bM.mpr this.1
  ·cases hx
def lG (n:Nat)(S:af):af:=(rng n).filter λx=>!decide (x∈S)
theorem aQ6 {n:Nat}{S:af}{x:Int}:x∈lG n S↔x∈rng n/\x∉S:=by
 unfold lG;rw[bn3];simp
theorem aQ7 (n:Nat)(S:af):aZ n (lG n S)=true:=by
 have u:lF (n:Int) (lG n S):=⟨by
   refine List.Pairwise.filter _ ?_
   unfold rng
   rw[bs3]
   exact List.pairwise_lt_range.imp λh=>by omega,λx hx=>bM.mp (aQ6.mp hx).1,by
   have:=bs8 (λx=>!decide (x∈S)) (rng n)
   rw[cF]at this
   show ((List.filter (λx=>!decide (x∈S)) (rng n)).length:Int)<=_
   omega⟩
 exact u.set
end
end Core
namespace Raw
open PySem PySem.W PyProof.Rows
section
variable {prog:Program}{w:World}{A:Around}{E:Value→Shared→Prop}{s:Shared}{T:String}{r d:Addr}{n:Nat}{P:Nat→Value→Prop}{OK:Heap→Prop}
theorem aQ8 {R:Result->Shared->Prop}(K:KdlSrc prog w T r d n P OK)(hh:A.handled=none)(hok:OK s.heap)(hn:n<=sizeLine)(hR:∀h' tk acc c,(∀b o,b≠s.heap.objs.size->(s.heap.push { cls:=.type "list",data:=.seq ([]:List Value).toArray }).get? b=some o->h'.get? b=some o)->h'.get? s.heap.objs.size=some { cls:=.type "list",dict:=none,data:=.seq acc c,slots:=#[] }->ItemsOf P acc n->R (.ok (.ret (.ref s.heap.objs.size))) { s with heap:=h',toks:=tk }) :
  codeAny (model prog w) A (.builtin "proto.collect" ⟨[.ref r],[]⟩) R s:=by
 have lt:=K.there _ hok
 refine codeAny_builtin PySem.F.entry_proto_collect ?_
 rw[Around.under_plainId PySem.F.plain_proto_collect _]
 show wpAny _ A.in1 (newList [] >>= λl=>again (.builtin "list.__iadd__" ⟨[l,.ref r],[]⟩)) _ _ s
 refine bm1 (bv7 ?_)
 refine bn7 ⟨plainId_quiet PySem.F.plain_list_iadd _,codeAny_builtin PySem.F.entry_list_iadd ?_⟩
 rw[Around.under_plainId PySem.F.plain_list_iadd _]
 show wpAny _ A.in1 (Builtin.List.listExtendWith (.ref s.heap.objs.size) (.ref r) (.ref s.heap.objs.size)) _ _ _
 exact kdl_extend (s:={ s with heap:=s.heap.push { cls:=.type "list",data:=.seq ([]:List Value).toArray } }) (R:=R) K hh (K.keep _ _ hok λb _ o e=>bm5 _ e) s.heap.objs.size (bx8 lt.1) (bx8 lt.2) _ 0 (bp3 _ rfl) hR hn
theorem aQ9 {Q:List Value->Shared->Prop}(K:KdlSrc prog w T r d n P OK)(hh:A.handled=none)(hok:OK s.heap)(hn:n<=sizeLine)(hQ:∀h' tk acc,(∀b o,s.heap.get? b=some o->h'.get? b=some o)->s.heap.objs.size<=h'.objs.size->ItemsOf P acc n->Q acc.toList { s with heap:=h',toks:=tk }) :
  wpAny (model prog w) A (collect (.ref r)) Q E s:=by
 unfold collect
 refine bm1 (wpAny_runValue (aQ8 (s:=s) K hh hok hn λh' tk acc c kp at1 it=>?_))
 show wpAny _ A (load s.heap.objs.size >>= _) _ _ _
 refine bm1 (wpAny_load at1 ?_)
 exact bn7 (hQ h' tk acc (λb o e=>kp b o (br7 (bo6 e)) (bm5 _ e)) (bt9 (bo6 at1)) it)
theorem aR0 {Q:Value->Shared->Prop}{G:af->Prop}(K:KdlSrc prog w T r d n P OK)(hh:A.handled=none)(hok:OK s.heap)(hn:n<64)(hI:∀acc,ItemsOf P acc n->∃ns,IntsAre acc.toList ns/\G ns)(h:∀h' tk a (out:Array Value) (ns ns':af) e,(∀b o,s.heap.get? b=some o->h'.get? b=some o)->s.heap.objs.size<=a->h'.get? a=some (seqObj "list" out e)->IntsAre out.toList ns'->G ns->ns'.Perm ns->ns'.Pairwise (· <= ·)->Q (.ref a) { s with heap:=h',toks:=tk }) :
  wpAny (model prog w) A (call (.builtin "sorted") [.ref r]) Q E s:=by
 have hsl:n<=sizeLine:=bs0 (bt9 hn) (by decide)
 refine Calls.call_function_entry kind_sorted plain_sorted entry_sorted (args_sorted1 _) ?_
 unfold Builtin.«sorted»
 refine bm1 (m:=checkCount "sorted" 1 1 _) (bn7 ?_)
 refine bm1 (aQ9 (s:=s) K hh hok hsl λh' tk acc kp hs it=>?_)
 obtain⟨ns,hi,g⟩:=hI acc it
 have hz:acc.toList.length<64:=by rw[Array.length_toList,it.1];exact hn
 refine bm1 (wpAny_newList ?_ (bs0 (bt9 hz) (by decide)))
 have hoL:(h'.push (seqObj "list" acc.toList.toArray 0)).get? h'.objs.size=some (seqObj "list" acc.toList.toArray 0):=bp3 _ rfl
 show wpAny _ _ _ _ _ { s with heap:=h'.push (seqObj "list" acc.toList.toArray 0),toks:=tk }
 refine bm1 (by6 (bw2 slot_list_sort ⟨_,hoL,rfl⟩ entry_list_sort (list_sort_tree hoL hi hz λout ns' a1 a2 a3=>⟨_,rfl,?_⟩) (args_list_sort _)))
 obtain⟨e,he⟩:=sortedHeap_at (vs:=acc.toList) (out:=out) hoL
 refine bn7 ⟨_,rfl,h _ tk h'.objs.size out ns ns' e (λb o hb=>?_) hs he a1 g a2 a3⟩
 have lt:=bo6 (kp b o hb)
 rw[sortedHeap_old (br7 lt) (by rw[size_push'];exact Nat.lt_succ_of_lt lt)]
 exact bm5 _ (kp b o hb)
end
end Raw
namespace L2
open PySem PySem.Spec PyProof.Rows
section
variable {X:Cx}
theorem aR1 (hc:X.calm=true):dQ X (.builtin "sorted") (λxs H Q=>∃a kvs ns,xs = [.ref a]/\H a=some (.dK kvs)/\kvs.map (·.1)=ns.map Sum.inl/\ns.length<64/\∀l (ms:af),H l=none->ms.Perm ns->ms.Pairwise (· <= ·)->Q (.ref l) (upd H l (.lst (ms.map V.int)))):=by
 intro pins s σ H xs us Q I r h
 obtain⟨a,kvs,ns,rfl,ha,hk,h64,q⟩:=h
 obtain⟨u,rfl,ru⟩:=iA r
 cases ru
 obtain⟨es,ep,rd,far,vk,z⟩:=aA4 I ha
 have hl:=vk.length
 have hl2:=congrArg List.length hk
 rw[bm7,bm7]at hl hl2
 have hsz:es.toList.length=es.size:=Array.length_toList
 have e1:(kvs.map λp=>kV p.1)=ns.map V.int:=by
  have:(kvs.map λp=>kV p.1)=(kvs.map (·.1)).map kV:=by rw[br0];rfl
  rw[this,hk,br0];rfl
 rw[e1]at vk
 refine Raw.aR0 (G:=λms=>ms=ns) (Raw.aA3 far) (I.ok.hd hc) rd (by omega) (λacc it=>⟨ns,by rw[aA5 it];exact nB vk,rfl⟩) λh' tk l out ns1 ns' e kp hn he a1 g a2 a3=>?_
 subst g
 have hlen:ns'.length=ns1.length:=a2.length_eq
 refine⟨.ref l,upd H l (.lst (ns'.map V.int)),I.laid (t':=tk) kp hn ⟨?_,out.toList,e,rG a1,by simpa using he⟩,rfl,q _ ns' (I.hok.fresh hn) a2 a3⟩
 rw[bm7,hlen]
 exact bt9 (p6 (by omega))
end
end L2
namespace PP
open PySem L2 PyProof.Rows
section
variable {X:Cx}{a b e:Expr}{ta tb te:aH}{tr:cU}{pos p2:Pos}
def yU:List PV->(PV->Prop)->Prop:=λxs Q=>∃(ps:List (aK×PV)) (ns:af),xs = [.dK ps]/\ps.map (·.1)=ns.map Sum.inl/\ns.length<64/\∀ms:af,ms.Perm ns->ms.Pairwise (· <= ·)->Q (.lst (intz ms))
theorem aR2:gS X yU (λxs H Q=>∃a kvs ns,xs = [.ref a]/\H a=some (.dK kvs)/\kvs.map (·.1)=ns.map Sum.inl/\ns.length<64/\∀l (ms:af),H l=none->ms.Perm ns->ms.Pairwise (· <= ·)->Q (.ref l) (upd H l (.lst (ms.map V.int)))):=by
 rintro H vs xs Q Q' r ⟨ps,ns,rfl,e,hl,q⟩ k
 obtain⟨v,rfl,r1⟩:=r.one
 cases r1 with
 |@dK a kvs _ m h e2 r2=>
  exact⟨a,kvs,ns,rfl,h,e2.trans e,hl,λl ms hl' p o=>k _ _ _ (bL hl' _) (.lst hl' bP (Reps.intz ms)) (q ms p o)⟩
theorem aR3 (B:Bt X.mg)(hc:X.calm=true)(ha:QA X [e] tr)(hg:Gl X "sorted":=by rfl)(he:starEach [e] X.env=(false,eval e X.env)::starEach [] X.env:=by rfl)(hpl:(backTo pos (starEach [] X.env)).any (·.1)=false:=by rfl):QE X (.Call (.Name "sorted" p2) [e] [] pos) (aB yU tr):=
 jE (aR1 hc) aR2 hg B.sorted PyProof.Rows.boot_sorted ha (he:=he) (hpl:=hpl)
end
end PP
namespace Core
open PySem L2 PP
theorem aR4 {ps:List (aK×PV)}{h:Int}{v:PV}{S:af}(e:ps.map (·.1)=S.map Sum.inl)(hn:h∉S):g9 ps (Sum.inl h:aK) v=ps++[(Sum.inl h,v)]:=by
 unfold g9
 rw[if_neg]
 intro z
 rw[List.any_eq_true]at z
 obtain⟨p,hp,hq⟩:=z
 have:p.1∈ps.map (·.1):=bn6.mpr ⟨p,hp,rfl⟩
 rw[e,bq3 hq]at this
 obtain⟨y,hy,e2⟩:=bn6.mp this
 exact hn (Sum.inl.inj e2▸hy)
theorem aR5 {xs:List PV}{w:Int}(h:0<=w):jA xs none (some w)=xs.take w.toNat:=by
 unfold jA
 rw[HT.at8,List.drop_zero,Nat.sub_zero]
 have:HT.aY xs.length xs.length (some w)=min w.toNat xs.length:=by
  show (if w<0 then (w+(xs.length:Int)).toNat else min w.toNat xs.length)=_
  rw[if_neg (by omega)]
 rw[this,<- List.take_take,br4]
theorem aR6 (g:Tg)(n:Int):sF g (.int n):=by cases g<;>first|exact trivial|rfl
theorem dL {ls:aa}{h x:Int}:x∈aJ ls h↔∃l∈ls,(l.1=h/\l.2=x)∨(l.2=h/\l.1=x):=by
 unfold aJ
 rw[List.mem_flatMap]
 constructor
 ·rintro⟨l,hl,hx⟩
  refine⟨l,hl,?_⟩
  rcases bn0.mp hx with hx|hx
  ·split at hx
   ·rename_i e;exact .inl ⟨e,(bm2.mp hx).symm⟩
   ·cases hx
  ·split at hx
   ·rename_i e;exact .inr ⟨e,(bm2.mp hx).symm⟩
   ·cases hx
 ·rintro⟨l,hl,⟨e1,e2⟩|⟨e1,e2⟩⟩
  ·exact⟨l,hl,bo3 _ (by rw[if_pos e1,e2];exact by5 _)⟩
  ·exact⟨l,hl,bo8 _ (by rw[if_pos e1,e2];exact by5 _)⟩
theorem ab3 {h:Int}:∀{ls:aa},(∀l∈ls,l.1<l.2)->ls.Pairwise jF->(aJ ls h).Nodup
 |[],_,_=>.nil
 |l::r,hl,hp=>by
  have ih:=ab3 (h:=h) (ls:=r) (λm hm=>hl m (bn5 _ hm)) (bv2.mp hp).2
  have h0:=hl l bm8
  have e:aJ (l::r) h=((if l.1=h then [l.2] else [])++(if l.2=h then [l.1] else []))++aJ r h:=rfl
  rw[e]
  refine bv1.mpr ⟨?_,ih,λx hx y hy q=>?_⟩
  ·by_cases e1:l.1=h
   ·rw[if_pos e1,if_neg (by omega),bs1];exact bq2 _ _
   ·rw[if_neg e1]
    split
    ·exact bq2 _ _
    ·exact .nil
  ·subst q
   obtain⟨m,hm,c⟩:=dL.mp hy
   have h1:=hl m (bn5 _ hm)
   have h2:=(bv2.mp hp).1 m hm
   have c':(l.1=h/\l.2=x)∨(l.2=h/\l.1=x):=by
    rcases bn0.mp hx with hx|hx
    ·split at hx
     ·rename_i e;exact .inl ⟨e,(bm2.mp hx).symm⟩
     ·cases hx
    ·split at hx
     ·rename_i e;exact .inr ⟨e,(bm2.mp hx).symm⟩
     ·cases hx
   unfold jF at h2
   omega
end Core
namespace L2
open PySem PySem.Spec PyProof.Rows
theorem ab4:∀(n:Nat) (ns:af),n<=ns.length->preSum (λi=>ns.getD i 0) n=(ns.take n).sum
 |0,_,_=>by simp[preSum]
 |n+1,ns,h=>by
  show preSum (λi=>ns.getD i 0) n+ns.getD n 0=_
  have h1:ns[n]? = some (ns[n]'(by omega)):=bm6 (by omega)
  have h2:ns.take (n+1)=ns.take n++[ns[n]'(by omega)]:=by rw[br1,h1];rfl
  have h3:ns.getD n 0=ns[n]'(by omega):=by rw[bo1,h1];rfl
  rw[ab4 n ns (by omega),h2,h3,List.sum_append,bq4,List.sum_nil]
  omega
section
variable {X:Cx}
theorem aR7 (hc:X.calm=true):dQ X (.builtin "sum") (λxs H Q=>∃(a:Addr) (ns:af),xs = [.ref a]/\(aM X.K H a (ns.map V.int)∨aO X.K H a (ns.map V.int))/\Q (.int ns.sum) H):=by
 intro pins s σ H xs us Q I r h
 obtain⟨a,ns,rfl,hq,q⟩:=h
 obtain⟨u,rfl,ru⟩:=iA r
 cases ru
 have hh:X.A.in1.handled=none:=I.ok.hd hc
 have fin:∀(its:List Value) (o:Obj) (wr:List Addr) (hw:∀b∈wr,s.heap.objs.size<=b),aN (ns.map V.int) its->∀s' t',Moved wr (λa b=>b=a) { s with heap:=s.heap.push o } s'->
   ∃x H',a6 X pins σ H' s'/\b6 x (.int (preSum (λi=>ns.getD i 0) its.toArray.size) t')/\Q x H':=λits o wr hw rv s' t' hm=>by
  have hl:=rv.length
  rw[bm7]at hl
  have e:=Moved.eq_with hm
  have e2:preSum (λi=>ns.getD i 0) its.toArray.size=ns.sum:=by rw[bn9,<- hl,ab4 _ _ (bn1 _),br4]
  rw[e2,e]
  refine⟨.int ns.sum,H,I.kept (t':=s'.toks) (h':=s'.heap) λb o' eb=>hm.heap b o' (λz=>?_) (bm5 _ eb),⟨t',rfl⟩,q⟩
  exact absurd (bo6 eb) (Nat.not_lt.mpr (hw b z))
 have val:∀(its:List Value),aN (ns.map V.int) its->∀(i:Nat) (v:Value),its.toArray[i]? = some v->∃t,v = .int (ns.getD i 0) t:=λits rv i v hv=>by
  have hi:its[i]? = some v:=by simpa using hv
  have hl:=rv.length
  rw[bm7]at hl
  have hil:i<ns.length:=by rw[hl];exact (bn2.mp hi).1
  obtain⟨u,e1,e2⟩:=rv.get (i:=i) (x:=.int ns[i]) (by simp[hil])
  rw[hi]at e1;cases e1
  obtain⟨t,rfl⟩:=e2
  exact⟨t,by rw[bo1,bm6 hil];rfl⟩
 rcases hq with hq|hq
 ·obtain⟨its,rv,p,hz⟩:=I.list hq
  have hlt:a<s.heap.objs.size:=by obtain⟨o,e,_⟩:=p.isList;exact bo6 e
  refine call_sum_walkAnyS (wpAny_pyIter_list p.isList ?_)
  refine⟨s.heap.objs.size,_,_,_,_,_,_,λi=>ns.getD i 0,rfl,(Walks.list hh s.heap.objs.size a (br7 hlt) its.toArray).toS,⟨⟨_,bp3 _ rfl,rfl,rfl⟩,p.isList.push _⟩,?_,val its rv,λs' t' hm=>fin its _ _ ?_ rv s' t' hm⟩
  ·intro b hb
   have hs:(s.heap.push { cls:=.type "list_iterator",data:=.fields #[.ref a,.int 0 0] }).objs.size=s.heap.objs.size+1:=size_push' _ _
   show b<(s.heap.push _).objs.size
   rw[size_push']
   rcases bn8.mp hb with rfl|hb
   ·exact Nat.lt_succ_self _
   ·rw[bm2.mp hb];exact Nat.lt_succ_of_lt hlt
  ·intro b hb
   rw[bm2.mp hb];exact bn1 _
 ·obtain⟨its,rv,p,hz⟩:=I.tuple hq
  have hlt:a<s.heap.objs.size:=by obtain⟨o,e,_⟩:=p;exact bo6 e
  refine call_sum_walkAnyS (wpAny_pyIter_tuple p ?_)
  refine⟨s.heap.objs.size,_,_,_,_,_,_,λi=>ns.getD i 0,rfl,(Walks.tuple hh s.heap.objs.size a (br7 hlt) its.toArray).toS,⟨⟨_,bp3 _ rfl,rfl,rfl⟩,?_⟩,?_,val its rv,λs' t' hm=>fin its _ _ ?_ rv s' t' hm⟩
  ·obtain⟨o,e,h⟩:=p
   exact⟨o,bm5 _ e,h⟩
  ·intro b hb
   show b<(s.heap.push _).objs.size
   rw[size_push']
   rcases bn8.mp hb with rfl|hb
   ·exact Nat.lt_succ_self _
   ·rw[bm2.mp hb];exact Nat.lt_succ_of_lt hlt
  ·intro b hb
   rw[bm2.mp hb];exact bn1 _
theorem aR8 (hc:X.calm=true):dQ X (.builtin "any") (λxs H Q=>∃(a:Addr) (bs:List Bool),xs = [.ref a]/\aM X.K H a (bs.map V.bl)/\Q (.bl (bs.any id)) H):=by
 intro pins s σ H xs us Q I r h
 obtain⟨a,bs,rfl,hq,q⟩:=h
 obtain⟨u,rfl,ru⟩:=iA r
 cases ru
 obtain⟨its,rv,p,hz⟩:=I.list hq
 have hl:=rv.length
 rw[bm7]at hl
 have hlt:a<s.heap.objs.size:=by obtain⟨o,e,_⟩:=p.isList;exact bo6 e
 refine call_any_walk (wpAny_pyIter_list p.isList ?_)
 have hh:X.A.in1.handled=none:=I.ok.hd hc
 refine⟨s.heap.objs.size,_,_,_,_,_,λi=>bs.getD i false,rfl,Walks.list hh s.heap.objs.size a (br7 hlt) its.toArray,⟨⟨_,bp3 _ rfl,rfl,rfl⟩,p.isList.push _⟩,?_,λh' tk kp=>?_⟩
 ·intro i v s' Q' E' hP hQ'
  have hi:its[i]? = some v:=by simpa using hP
  have hil:i<bs.length:=by rw[hl];exact (bn2.mp hi).1
  obtain⟨u,e1,e2⟩:=rv.get (i:=i) (x:=.bl bs[i]) (by simp[hil])
  rw[hi]at e1;cases e1
  cases e2
  have:bs.getD i false=bs[i]:=by rw[bo1,bm6 hil];rfl
  have hQ2:Q' (bs.getD i false) s':=hQ'
  rw[this]at hQ2
  exact by7 hQ2
 ·have any_eq:(List.range its.toArray.size).any (λi=>bs.getD i false)=bs.any id:=by
   rw[bn9,<- hl]
   clear q rv hz hl hq hlt p hh kp
   induction bs with
   |nil=>rfl
   |cons b r ih=>
    rw[bo5,List.range_succ_eq_map,bz7,List.any_map,bz7,<- ih]
    rfl
  rw[any_eq]
  refine⟨.bl (bs.any id),H,I.kept (t':=tk) (h':=h') λb o e=>kp b o (λz=>?_) (bm5 _ e),rfl,q⟩
  rw[bm2.mp z]at e
  exact absurd (bo6 e) (bt5 _)
end
end L2
namespace PP
open PySem L2 PyProof.Rows
section
variable {X:Cx}{a b e:Expr}{ta tb te:aH}{tr:cU}{pos p2:Pos}
def o7:List PV->(PV->Prop)->Prop:=λxs Q=>∃x ns,xs = [x]/\j7 x=some (intz ns)/\Q (.int ns.sum)
theorem aR9:gS X o7 (λxs H Q=>∃(a:Addr) (ns:af),xs = [.ref a]/\(aM X.K H a (ns.map V.int)∨aO X.K H a (ns.map V.int))/\Q (.int ns.sum) H):=by
 rintro H vs xs Q Q' r ⟨x,ns,rfl,e,q⟩ k
 obtain⟨v,rfl,r1⟩:=r.one
 obtain⟨a,us,rfl,hs,r2⟩:=r1.seq e
 obtain rfl:=r2.ofInts
 exact⟨a,ns,rfl,hs,k _ _ _ (aC.refl _) (.int _) q⟩
theorem yV (B:Bt X.mg)(hc:X.calm=true)(ha:QA X [e] tr)(hg:Gl X "sum":=by rfl)(he:starEach [e] X.env=(false,eval e X.env)::starEach [] X.env:=by rfl)(hpl:(backTo pos (starEach [] X.env)).any (·.1)=false:=by rfl):QE X (.Call (.Name "sum" p2) [e] [] pos) (aB o7 tr):=
 jE (aR7 hc) aR9 hg B.sum PyProof.Rows.boot_sum ha (he:=he) (hpl:=hpl)
def yW:List PV->(PV->Prop)->Prop:=λxs Q=>∃bs:List Bool,xs = [.lst (bs.map PV.bl)]/\Q (.bl (bs.any id))
theorem aS0:gS X yW (λxs H Q=>∃(a:Addr) (bs:List Bool),xs = [.ref a]/\aM X.K H a (bs.map V.bl)/\Q (.bl (bs.any id)) H):=by
 rintro H vs xs Q Q' r ⟨bs,rfl,q⟩ k
 obtain⟨v,rfl,r1⟩:=r.one
 obtain⟨a,us,rfl,_,h,r2⟩:=r1.sqL
 obtain rfl:=r2.ofBls
 exact⟨a,bs,rfl,aM.of h,k _ _ _ (aC.refl _) (.bl _) q⟩
theorem aS1 (B:Bt X.mg)(hc:X.calm=true)(ha:QA X [e] tr)(hg:Gl X "any":=by rfl)(he:starEach [e] X.env=(false,eval e X.env)::starEach [] X.env:=by rfl)(hpl:(backTo pos (starEach [] X.env)).any (·.1)=false:=by rfl):QE X (.Call (.Name "any" p2) [e] [] pos) (aB yW tr):=
 jE (aR8 hc) aS0 hg B.any PyProof.Rows.boot_any ha (he:=he) (hpl:=hpl)
end
end PP
namespace Core
open PySem L2 PP
def tZ:bI:=λxs Q=>∃(x:PV) (ns:af) (m:Nat),xs = [x,.int m]/\dY x ns/\ns.length=m/\m<=1000000/\(∀w∈ns,0<=w)/\Q (.tup (intz ns))
def ab5:aT:=(aE (dB (bH (T0 (aB dM (a7 (a5 0) a9)) (a5 1))) sP dA)
 (aE (dB (bH (aB yW (a7 (cT (cO (a5 0)) [none] (bQ 0) cV (mB (a5 0) (qC (.int 0)))) a9))) sP dA)
 (bV (aB jB (a7 (a5 0) a9)))))
theorem aS2:c6 ab5 ["prices","many"] tZ:=by
 rintro xs Q ⟨x,ns,m,rfl,hx,hl,hm,hp,q⟩
 refine⟨_,rfl,_,_,rfl,hx.len,_,rfl,.inl ⟨_,_,rfl,rfl,_,rfl,?_⟩⟩
 show if (!decide ((ns.length:Int)=(m:Int)))=true then _ else _
 rw[bm4 (by omega)]
 refine bG ⟨_,rfl,_,hx.seq,tS hx,by rw[bA];omega,λi acc=>acc=List.replicate i (PV.bl false),rfl,?_,?_⟩
 ·rintro i y acc hy rfl
  obtain⟨n,rfl,hn⟩:=fP hy
  refine⟨_,rfl,_,_,rfl,rfl,trivial,?_⟩
  dsimp only
  rw[bm9 (by have:=hp n (bm3 hn);omega),List.replicate_succ']
 ·rintro acc rfl
  refine⟨List.replicate (intz ns).length false,by rw[List.map_replicate];rfl,_,rfl,?_⟩
  have:(List.replicate (intz ns).length false).any id=false:=by
   rw[List.any_eq_false];intro x hx;rw[(List.mem_replicate.mp hx).2];decide
  rw[this]
  exact bG ⟨_,rfl,⟨_,_,rfl,hx.seqT,eD _,trivial,q⟩,hx.noscr⟩
theorem mL {l l':af}(p:l.Perm l'):l.sum=l'.sum:=by
 induction p with
 |nil=>rfl
 |cons x _ ih=>rw[bq4,bq4,ih]
 |swap x y l=>simp only[bq4];omega
 |trans _ _ h1 h2=>exact h1.trans h2
theorem yX:∀{l:af},(∀x∈l,0<=x)->0<=l.sum
 |[],_=>by simp
 |x::r,h=>by
  have h1:=h x bm8
  have h2:=yX λy hy=>h y (bn5 _ hy)
  rw[bq4];omega
theorem ab6 {l:af}{i:Nat}(h:i<l.length):(l.take (i+1)).sum=(l.take i).sum+l[i]:=by
 rw[br1,bm6 h,List.sum_append];simp
theorem aS3 {zs t:af}(so:zs.Pairwise (· <= ·))(sub:t.Sublist zs):(zs.take t.length).sum<=t.sum:=by
 induction sub with
 |slnil=>simp
 |@cons t zs a sub ih=>
  have so':=(bv2.mp so)
  have ih:=ih so'.2
  cases t with
  |nil=>simp
  |cons b t=>
   have hl:=sub.length_le
   rw[bo5]at hl ih ⊢
   rw[List.take_succ_cons,bq4]
   rw[ab6 (by omega)]at ih
   have:=so'.1 _ (bz3 (show t.length<zs.length by omega))
   omega
 |@cons_cons t zs a sub ih=>
  have ih:=ih (bv2.mp so).2
  rw[bo5,List.take_succ_cons,bq4,bq4]
  omega
theorem ab7 {zs:af}(hp:∀x∈zs,0<=x){i j:Nat}(h:i<=j):(zs.take i).sum<=(zs.take j).sum:=by
 induction h with
 |refl=>exact bs6 _
 |@step k _ ih=>
  by_cases hk:k<zs.length
  ·rw[ab6 hk]
   have:=hp _ (bz3 hk)
   omega
  ·have e1:zs.take (k+1)=zs:=bp8 (by omega)
   have e2:zs.take k=zs:=bp8 (by omega)
   rw[e1];rw[e2]at ih;exact ih
theorem aS4 {hs zs t:af}(p:zs.Perm hs)(so:zs.Pairwise (· <= ·))(sub:t.Sublist hs)(hp:∀x∈hs,0<=x){k:Nat}(hk:k<=t.length):(zs.take k).sum<=t.sum:=by
 obtain⟨t',p',sub'⟩:=List.exists_perm_sublist sub p.symm
 have h1:=aS3 so sub'
 rw[mL p']at h1
 refine Int.le_trans (ab7 (λx hx=>hp x (p.mem_iff.mp hx)) ?_) h1
 rw[p'.length_eq];exact hk
theorem u0 (n:Nat):(rng n).Pairwise (·<·):=by
 unfold rng
 rw[bs3]
 exact (List.pairwise_lt_range (n:=n)).imp λh=>by omega
theorem aS5 (n:Nat)(p:Int->Bool):aZ n ((rng n).filter p)=true:=by
 refine lF.set ⟨(u0 n).sublist List.filter_sublist,λx hx=>?_,?_⟩
 ·have:=bM.mp (bn3.mp hx).1
  exact this
 ·have:=bs8 p (rng n)
  rw[cF]at this
  omega
end Core
namespace PP
open PySem L2 PyProof.Rows
section
variable {X:Cx}{a b e:Expr}{ta tb te:aH}{pos p2:Pos}
def ab8 (neg:Bool):PV->Tg->PV->Tg->PK->Prop:=λx _ y _ Q=>∃ns,x = .non/\j7 y=some (intz ns)/\Q (.bl neg) .fr
theorem ab9:∀ns:af,lU .non (ns.map V.int)=false
 |[]=>rfl
 |n::r=>by
  have ih:=ab9 r
  unfold lU at ih ⊢
  rw[bp2,bz7,ih];rfl
theorem aS6 (neg:Bool):eV X (ab8 neg) (oW X.K neg):=by
 rintro W Hs H u v x y g g' Q Q' s n r1 r2 ⟨ns,rfl,e,q⟩ k
 cases r1
 obtain⟨a,us,rfl,hs,r⟩:=r2.seq e
 obtain rfl:=r.ofInts
 refine⟨a,_,rfl,hs,rfl,xP ns,?_⟩
 have:=k _ _ _ .fr (aC.refl _) (.bl _) q
 rw[ab9]
 cases neg<;>exact this
end
end PP
namespace Core
open PySem L2 PP
section
variable {ws:af}{ls:aa}{ns wts:af}{m:Nat}
def loose (ls:aa)(wts ns:af):List ((Int×Int)×Int):=(ls.zip wts).filter λz=>!(decide (z.1.1∈ns)&&decide (z.1.2∈ns))
end
end Core
namespace PP
open PySem L2 PyProof.Rows
section
variable {X:Cx}{a b e:Expr}{ta tb te:aH}{D:eR}{σ:L2.St}{H:Hp}{pos p2:Pos}
def yY (p:j8)(te:aH):aT:=λD ρ=>te ρ λx g=>sF g x/\p x (x8 g x) ρ λρ2=>D.nx ρ2
theorem aS7 {p:j8}{g:TG}{own:Nat->Prop}(hg:nM X.K own p g)(h:LS X (yY p te) D σ H):jQ (LE X te) g D σ H:=by
 obtain⟨W,ρ,D',px,q,k⟩:=h
 refine⟨W,ρ,_,px,q,?_⟩
 rintro v H1 x gt s r ⟨st,q⟩
 refine hg X.H₀ W σ ρ H1 v x _ _ _ (px.mono s) (Q9 px st r) q λσ' ρ' px' _ _ q'=>?_
 exact k.nx W σ' H1 ρ' (Ev.same s) px' q'
theorem aS8 (i j:Nat){x y:Str}{tp xp yp:Pos}{kt:Nat}(hN:X.N.Nodup)(he:QE X e te)(hx:X.N[i]? = some x:=by rfl)(hy:X.N[j]? = some y:=by rfl)(hlx:i7 X.env.scope x:=by first|exact Or.inl rfl|exact Or.inr rfl)(hly:i7 X.env.scope y:=by first|exact Or.inl rfl|exact Or.inr rfl)(hfx:X.fn x=true∨X.env.scope.names.lookup x=some .local:=by first|exact .inl rfl|exact .inr rfl)(hfy:X.fn y=true∨X.env.scope.names.lookup y=some .local:=by first|exact .inl rfl|exact .inr rfl)(hc:X.calm=true:=by rfl)(hs:swapsWithSole [.Tuple [.Name x xp,.Name y yp] kt tp] e pos.line X.env=pure false:=by rfl)(hw:swappedStores [.Tuple [.Name x xp,.Name y yp] kt tp] e X.env=pure none:=by rfl):QS X (.Assign [.Tuple [.Name x xp,.Name y yp] kt tp] e pos) (yY (gV i j) te):=by
 have g:PG X (.Tuple [.Name x xp,.Name y yp] kt tp) (jP X.K 2 (fA (cD i) (fA (cD j) jO))):=lS hc (gM (eS hN hx hlx hfx) (gM (eS hN hy hly hfy) lR))
 exact dW (C7 he g hs hw) λ_ _ _=>aS7 (pM _ i j)
end
abbrev iI:=(Str->Prop)->bI
def EX (K:ad)(H0:Hp)(Ep:Str->Prop):XK:=λc d H'=>d=none/\aC H0 H'/\∃n C,c = .ref C/\PySem.W.nsIn K mainGlobals n=some (some (.ref C))/\Ep n
def spX (K:ad)(p:iI):Sp:=λvs H Q E=>∃xs Qp Ep,Reps K (λ_=>True) H vs xs/\p Ep xs Qp/\(∀v H' x,aC H H'->aQ K (λa=>H a=none) H' v x->Qp x->Q v H')/\
 ∀n C H',aC H H'->PySem.W.nsIn K mainGlobals n=some (some (.ref C))->Ep n->E (.ref C) none H'
structure hZ (P:Program)(w:World)(K:ad)(mg:Str->Option Value)(base:Heap)(k:Nat)(x:Str)(ps:List Str)(p:iI):Prop where
 ex:∃f fd,cZ P w K mg base (fO P w) k f fd ps (spX K p)/\j5 K fd ps []/\PySem.W.keepIn K (.ref f)=true/\mg x=some (.ref f)
section
variable {X:Cx}{σ:L2.St}{H:Hp}{D:eR}{tr:cU}{Q':VK}{a b c e:Expr}{es:List Expr}{pos p2 cp np hp:Pos}{t:aT}{te:aH}{tc:cN}
def yZ (Ep:Str->Prop)(p:iI)(t:cU):aH:=aB (p Ep) t
theorem ac0 {p:iI}{Ep:Str->Prop}(h:LE X (yZ Ep p tr) σ H Q'):vO (spX X.K p) [] (EX X.K X.H₀ Ep) (LA X tr) σ H Q':=by
 obtain⟨W,ρ,Q,px,q,k⟩:=h
 refine⟨W,ρ,_,px,q,λvs H1 xs s1 r1 q1=>⟨_,_,Ep,by rw[bs1];exact r1.any,q1,λv H' x s2 r2 q2=>k v H' x .fr (s1.trans s2) (r2.same (aC.refl _) λ_ z=>s1.free z) q2,λn C H' s2 z1 z2=>⟨rfl,(px.same.trans s1).trans s2,n,C,rfl,z1,z2⟩⟩⟩
theorem aS9 {Ep:Str->Prop}{k j:Nat}{x:Str}{ps:List Str}{p:iI}(hX:nZ X (EX X.K X.H₀ Ep))(d:hZ X.prog X.w X.K X.mg X.base k x ps p)(hr:cJ j X.A)(ha:QA X (e::es) tr)(hkj:k<=j:=by decide)(hg:Gl X x:=by rfl)(hdb:(x==("__debug__":Str))=false:=by decide)(he:starEach (e::es) X.env=(false,eval e X.env)::starEach es X.env:=by rfl)(hpl:(backTo pos (starEach es X.env)).any (·.1)=false:=by rfl):QE X (.Call (.Name x p2) (e::es) [] pos) (yZ Ep p tr):=by
 obtain⟨f,fd,F,b,kp,m⟩:=d.ex
 exact cX (vP F (hr.mono hkj) hg m kp b .nil hX.pass ha hdb he hpl) λ_ _ _=>ac0
theorem aT0 {k j:Nat}{x:Str}{ps:List Str}{p:iI}(d:hZ X.prog X.w X.K X.mg X.base k x ps p)(hr:cJ j X.A)(ha:QA X (e::es) tr)(hkj:k<=j:=by decide)(hg:Gl X x:=by rfl)(hdb:(x==("__debug__":Str))=false:=by decide)(he:starEach (e::es) X.env=(false,eval e X.env)::starEach es X.env:=by rfl)(hpl:(backTo pos (starEach es X.env)).any (·.1)=false:=by rfl):QE X (.Call (.Name x p2) (e::es) [] pos) (aB (p λ_=>False) tr):=by
 obtain⟨f,fd,F,b,kp,m⟩:=d.ex
 refine cX (vP F (E:=EX X.K X.H₀ λ_=>False) (hr.mono hkj) hg m kp b .nil (λ_ _ _ _ _ _ _ h=>?_) ha hdb he hpl) λ_ _ _ h=>ac0 (Ep:=λ_=>False) h
 obtain⟨_,_,_,_,_,_,_,_,_,_,_,_,z⟩:=h
 exact z.elim
def z9 (Ep:Str->Prop)(n:Str)(t:cU):aT:=λ_ ρ=>t ρ λxs=>xs.length<=1000/\Ep n
theorem aT1 {Ep:Str->Prop}{n:Str}{C:Addr}(hn:PySem.W.nsIn X.K mainGlobals n=some (some (.ref C)))(h:LS X (z9 Ep n tr) D σ H):Y2 (EX X.K X.H₀ Ep) C (LA X tr) D σ H:=by
 obtain⟨W,ρ,D',px,q,k⟩:=h
 exact⟨W,ρ,_,px,q,λvs H1 xs s1 r z=>⟨by rw[r.length];exact sD z.1,rfl,px.same.trans s1,n,C,rfl,hn,z.2⟩⟩
structure Xc (K:ad)(mg:Str->Option Value)(base:Heap)(n:Str):Prop where
 ex:∃C B newId initId bm,OwnCls n C bm newId mg base/\ExcBaseFacts B newId initId bm/\PySem.W.nsIn K mainGlobals n=some (some (.ref C))
theorem aT2 {Ep:Str->Prop}{n:Str}(hX:nZ X (EX X.K X.H₀ Ep))(x:Xc X.K X.mg X.base n)(ha:QA X (e::es) tr)(hc:X.calm=true:=by rfl)(hg:Gl X n:=by rfl)(hd:(n==("__debug__":Str))=false:=by decide)(he:starEach (e::es) X.env=(false,eval e X.env)::starEach es X.env:=by rfl)(hpl:(backTo cp (starEach es X.env)).any (·.1)=false:=by rfl):QS X (.Raise (some (.Call (.Name n np) (e::es) [] cp)) none pos) (z9 Ep n tr):=by
 obtain⟨C,B,newId,initId,bm,O,FB,hn⟩:=x.ex
 exact dW (aM0 hX hc O FB ha hg hd he hpl) λ_ _ _=>aT1 hn
def oX:V->Value
 |.ref a=>.ref a
 |.ty n=>.type n
 |_=>.none
end
structure u5 (K:ad)(C:Addr):Prop where
 cls:PySem.W.isClsIn K C=true
 ty:PySem.W.typeIn K (.ref C)=some (.type "type")
 ga:PySem.W.findIn K (.ref C) "__getattribute__" = some (some (.builtin "BaseException.__getattribute__"))
 gt:PySem.W.findIn K (.ref C) "__getattr__" = some none
 fc:PySem.W.findIn K (.ref C) "__class__" = some (some (.builtin "object.__class__"))
 fg:PySem.W.specialIn K (.builtin "object.__class__") "__get__" = some (some (.builtin "getset_descriptor.__get__"))
 ft:PySem.W.takesIn K (.builtin "object.__class__")=some true
 ob:PySem.W.mroIn K C (.type "object")=some true
 be:PySem.W.mroIn K C (.type "BaseException")=some true
theorem aT3 {K:ad}{h₀:Heap}{mg:Str->Option Value}{x:Str}{C:Addr}{bmB:List Value}{newId:String}(X:K.In h₀)(m:mg x=some (.ref C))(q:PySem.W.excIn K C bmB newId=true):OwnCls x C bmB newId mg h₀:=by
 refine⟨m,?_⟩
 unfold PySem.W.excIn at q
 split at q
 case h_2=>cases q
 rename_i dd cd sl ho
 split at q
 case h_2=>cases q
 rename_i C' bm k0 k1 k2 k3 n k5 hm hs
 simp only[br3,beq_iff_eq,Bool.not_eq_true']at q
 obtain⟨⟨⟨⟨⟨rfl,rfl⟩,dl⟩,ht⟩,hok⟩,hni⟩:=q
 obtain⟨nm,bs,mro,ns,qn,hd,sn,sub,ab,col,del⟩:=cd
 dsimp only at hm dl hok hni
 subst hm dl
 obtain rfl:sl = #[k0,k1,k2,k3,some (.builtin n),k5]:=by
  obtain⟨l⟩:=sl
  exact congrArg Array.mk hs
 exact⟨bm,ns,nm,qn,bs,hd,sn,sub,ab,col,dd,k0,k1,k2,k3,k5,_,X _ _ ho,.of_isNs (PySem.W.isNs_of_in X hok),PySem.W.nsMap_none_of_in X hok hni,PySem.W.tail_of_in X ht⟩
theorem hZ.of {P:Program}{w:World}{K:ad}{mg:Str->Option Value}{base:Heap}{k:Nat}{x:Str}{ps N:List Str}{p:iI}{st:Stmt}{f:Addr}{fd:FuncData}(F:fJ K x x st f fd)(m:mg x=some (.ref f))(S:FnScope N ps (aX st))(hb:∀(kV doc pm:Value) (an:Option Addr) (cdv ct:Value) (us:List Value),us.length=ps.length->bindArgs (PySem.W.fnOf x x (jY st) (fI st) (aX st) .none kV doc pm an cdv ct) ⟨us,[]⟩=pure (ps.zip us))(t:(Str->Prop)->aT)(len:∀Ep xs Q,p Ep xs Q->xs.length=ps.length)(rd:∀Ep xs Q,p Ep xs Q->t Ep { nx:=λ_=>Q .non,rt:=Q } (gW N xs))(body:∀(cdv:Value) (A:Around) (outer:List Env) (s:Shared) (H:Hp) (E:XK) (Ep:Str->Prop),cJ k (A.deeper (envOfC x (aX st) s.heap.objs.size f cdv))->nZ (dR (fO P w) P w K mg base N x (aX st) f cdv A outer s H E) (EX K H Ep)->
   gA (dR (fO P w) P w K mg base N x (aX st) f cdv A outer s H E) (fI st) (t Ep)):hZ P w K mg base (k+1) x ps p:=by
 refine⟨f,fd,F.okX S (λvs H Q E h=>?_) (λcdv A outer s H vs Q E hr h=>?_),F.binds hb,F.kp,m⟩
 ·obtain⟨xs,Qp,Ep,r,q,_⟩:=h
  rw[r.length];exact len Ep xs Qp q
 ·obtain⟨xs,Qp,Ep,r,q,k,ke⟩:=h
  have ht:=body cdv A outer s H E Ep hr (aL9 λc d H' z=>?_)
  ·refine⟨_,ht,λ_=>False,gW N xs,_,xR r,rd Ep xs Qp q,?_,?_,?_,?_⟩
   ·exact λW' σ' H' ρ' e px q=>k _ _ _ px.same .non q
   ·exact λv H' x s r q=>k _ _ _ s r q
   ·exact λW' σ' H' ρ' e px q=>q
   ·exact λW' σ' H' ρ' e px q=>q
  ·obtain⟨rfl,s1,n,C,rfl,z1,z2⟩:=z
   exact ke n C H' s1 z1 z2
end PP
namespace Core
open PySem L2 PP
abbrev RdX (t:(Str->Prop)->aT)(N:List Str)(p:iI):Prop:=∀Ep xs Q,p Ep xs Q->t Ep { nx:=λ_=>Q .non,rt:=Q } (gW N xs)
def u6:iI:=λEp xs Q=>∃ws ls x ns,xs = [b9 ws ls,x]/\dY x ns/\ns.length<=1000/\(aZ ws.length ns=true->Q (.tup (intz ns)))/\(aZ ws.length ns=false->Ep "BadSet")
def ac1 (Ep:Str->Prop):aT:=(aE (dB (nJ (bH (aB tR (a7 (a5 0) (a7 (a5 1) a9))))) (z9 Ep "BadSet" (a7 (qC (.str "a set is of rising hearths of the web")) a9)) dA)
 (bV (aB jB (a7 (a5 1) a9))))
theorem aT4:RdX ac1 ["web","hearths"] u6:=by
 rintro Ep xs Q ⟨ws,ls,x,ns,rfl,hx,hl,q1,q2⟩
 refine⟨_,rfl,_,rfl,ws,ls,x,ns,rfl,hx,hl,_,rfl,?_⟩
 cases h:aZ ws.length ns with
 |true=>exact bG ⟨_,rfl,⟨_,_,rfl,hx.seqT,eD _,trivial,q1 h⟩,hx.noscr⟩
 |false=>exact bJ ⟨by decide,q2 h⟩
end Core
namespace PP
open PySem L2
theorem o8 {us:List Value}(h:us.length=1):∃a,us = [a]:=List.length_eq_one_iff.mp h
theorem zA {us:List Value}(h:us.length=2):∃a b,us = [a,b]:=by
 cases us with
 |nil=>cases h
 |cons a r=>
  obtain⟨b,rfl⟩:=o8 (us:=r) (by simpa using h)
  exact⟨a,b,rfl⟩
theorem zB {us:List Value}(h:us.length=3):∃a b c,us = [a,b,c]:=by
 cases us with
 |nil=>cases h
 |cons a r=>
  obtain⟨b,c,rfl⟩:=zA (us:=r) (by simpa using h)
  exact⟨a,b,c,rfl⟩
theorem us4 {us:List Value}(h:us.length=4):∃a b c d,us = [a,b,c,d]:=by
 cases us with
 |nil=>cases h
 |cons a r=>
  obtain⟨b,c,d,rfl⟩:=zB (us:=r) (by simpa using h)
  exact⟨a,b,c,d,rfl⟩
end PP
namespace Core
open PySem L2 PP
def NN (zs:af):Prop:=∀z∈zs,(0:Int)<=z
theorem NN.set {zs:af}{z:Int}(h:NN zs)(hz:0<=z)(j:Nat):NN (zs.set j z):=λy hy=>by
 rcases List.mem_or_eq_of_mem_set hy with hy|rfl
 ·exact h y hy
 ·exact hz
def zC (i:Nat)(S:af):Prop:=S.Pairwise (·<·)/\∀x∈S,0<=x/\x<(i:Int)
theorem zC.set {i:Nat}{S:af}(h:zC i S):aZ i S=true:=by
 unfold aZ
 rw[tP h.1,Bool.true_and,by4]
 intro b hb
 obtain⟨x,hx,rfl⟩:=bn6.mp hb
 have:=h.2 x hx
 unfold inB
 simp only[id,br3,bq1]
 exact this
end Core
namespace PP
open PySem L2
section
variable {X:Cx}{a b e:Expr}{ta tb:aH}{tr:cU}{D:eR}{σ:St}{H:Hp}{pos p2 p3 p4:Pos}
def u7 (i:Nat)(ta tb:aH):aT:=λD ρ=>∃xs,ρ[i]? = some (some (.own (.lst xs)))/\ta ρ λx _=>∃k:Nat,x = .int k/\k<=xs.length/\xs.length<16000000/\tb ρ λy g=>Nw g y/\D.nx (ρ.set i (some (.own (.lst (xs.take k++y::xs.drop k)))))
theorem aT5 {i:Nat}(h:LS X (u7 i ta tb) D σ H):qX (oY X.K "list" Y3 (j4 i) (iM (LE X ta) (iM (LE X tb) jT))) D σ H:=by
 obtain⟨W,ρ,D',px,⟨xs,hi,q⟩,k⟩:=h
 obtain⟨v,ev,a,rfl,wa,us,ea,r⟩:=px.sl i _ hi
 refine⟨_,ev,k7 (aM.of ea),W,ρ,_,px,q,?_⟩
 rintro w H1 x g s rx ⟨j,rfl,hj,hl,q⟩
 cases rx
 refine⟨W,ρ,_,px.mono s,q,?_⟩
 rintro w H2 y g s2 ry ⟨n,q⟩
 have ea2:=s2 _ _ (s _ _ ea)
 have s3:=s.trans s2
 refine⟨a,us,w,j,rfl,rfl,ea2,by rw[r.length];exact hj,iE (by rw[r.length];omega),?_⟩
 refine k.nx W σ _ _ ((Ev.same s3).trans (Ev.upd wa)) ((px.mono s3).updL hi ev wa ?_) q
 have r2:=r.same s3 λ_ z=>z
 exact ((r2.take j).append (.cons (Nw.rep (px.mono s) n ry) (r2.drop j))).keep (.upd ea2 rfl λb m=>⟨m3 wa m,m⟩)
theorem aT6 (i:Nat){x:Str}{apos cpos xpos:Pos}(ha:QE X a ta)(hb:QE X b tb)(hN:X.N[i]? = some x:=by rfl)(hv:i6 X.env.scope x:=by first|exact Or.inl rfl|exact Or.inr (Or.inl rfl)|exact Or.inr (Or.inr rfl))(hd:(x==("__debug__":Str))=false:=by decide)(hcd:(x==("__classdict__":Str))=false:=by decide)(hbase:attributeBase (.Name x xpos) "insert" X.env (eval (.Name x xpos) X.env)=eval (.Name x xpos) X.env:=by rfl)(hfew:((backTo cpos (starEach [a,b] X.env)).all (λx=>!x.1)&&(backToKw cpos (keywordEach [] X.env)).all (λx=>x.1.isSome)&&decide (([a,b]:List Expr).length+([]:List Keyword).length+(if ([]:List Keyword).isEmpty then 0 else 1)<30))=true:=by rfl)(hline:(apos.endLine==cpos.line)=true:=by rfl)(hs:starEach [a,b] X.env=(false,eval a X.env)::starEach [b] X.env:=by rfl)(hs2:starEach [b] X.env=(false,eval b X.env)::starEach [] X.env:=by rfl)(hplain:(backTo cpos (starEach [b] X.env)).any (·.1)=false:=by rfl)(hsw:swapsWith (.Call (.Attribute (.Name x xpos) "insert" apos) [a,b] [] cpos) none pos.line X.env=pure false:=by rfl) :
  QS X (.Expr (.Call (.Attribute (.Name x xpos) "insert" apos) [a,b] [] cpos) pos) (u7 i ta tb):=
 dW (lP (l8 bu5 PySem.F.slot_list_insert PySem.F.type_list_insert aM1 (jN hN hv hd hcd) (dJ ha (dJ hb eB hs2) hs) hbase hfew hline hs hplain) hsw) λ_ _ _=>aT5
end
end PP
namespace Core
open PySem L2 PP
structure WL (n:Int)(ws:af)(ls:aa):Prop where
 many:(ws.length:Int)=n
 inn:∀l∈ls,0<=l.1/\l.1<l.2/\l.2<n
 most:ls.length<=1700
 ord:ls.Pairwise jF
 pos:∀w∈ws,0<=w
theorem WL.perm {n:Int}{ws:af}{ls ls':aa}(h1:(ws.length:Int)=n)(h2:∀l∈ls,0<=l.1/\l.1<l.2/\l.2<n)(h3:ls.length<=1700)(nd:ls.Nodup)(h4:∀w∈ws,0<=w)(p:ls'.Perm ls)(so:(ls'.map two).Pairwise λu v=>HT.bR v u=false):WL n ws ls':=
 ⟨h1,λl hl=>h2 l (p.mem_iff.mp hl),by rw[p.length_eq];exact h3,aO6 so (p.nodup_iff.mpr nd),h4⟩
theorem WL.wb {n:Int}{ws:af}{ls:aa}(h:WL n ws ls)(hn:n<=40):Wb ws ls:=
 ⟨by have:=h.many;omega,h.most,λl hl=>by have:=h.inn l hl;have:=h.many;omega⟩
def aT7 (f:af->aa->af->(PV->Prop)->Prop):iI:=λEp xs Q=>∃ws ls x ns,xs = [b9 ws ls,x]/\Wb ws ls/\dY x ns/\ns.length<=1000/\(aZ ws.length ns=true->f ws ls ns Q)/\(aZ ws.length ns=false->Ep "BadSet")
def u8:bI:=λxs Q=>∃ws ls y ms,xs = [b9 ws ls,y]/\dY y ms/\ms.length<=1000/\ws.length<=1000/\Q (.tup (intz (lG ws.length ms)))
def ac2:aT:=(bV (aB o6 (a7 (yI (aB iU (a7 (a5 0) a9))) (a7 (a5 1) a9))))
theorem aT8:c6 ac2 ["web","some"] u8:=by
 rintro xs Q ⟨ws,ls,y,ms,rfl,hy,hm,hw,q⟩
 refine⟨_,rfl,ws,ls,rfl,_,rfl,by omega,by omega,?_⟩
 rw[aO3]
 refine⟨_,rfl,_,rng ws.length,y,ms,rfl,.inr rfl,hy,by rw[cF];omega,hm,trivial,q⟩
end Core
namespace PP
open PySem L2
section
variable {X:Cx}{a:Expr}{tk:aH}{σ:St}{H:Hp}{Q':VK}{pos p2:Pos}
def zD (tk:aH):aH:=λρ Q=>tk ρ λx _=>∃n:Int,x = .int n/\Q (.dK [(Sum.inl n,.bl true)]) .fr
theorem aT9 (h:LE X (zD tk) σ H Q'):M5 [(LE X tk,tC (.bl true))] σ H Q':=by
 obtain⟨W,ρ,Q,px,q,k⟩:=h
 intro p hp
 refine⟨W,ρ,_,px.mono (bL hp _),q,?_⟩
 rintro v H1 x g s r ⟨n,rfl,q1⟩
 cases r
 have hp1:H1 p=some (.dK []):=s p _ bP
 refine⟨hp1,[((Sum.inl n:aK),V.bl true)],rfl,by show 1<=15;decide,?_⟩
 have sm:aC H (upd H1 p (.dK (nD [] [((Sum.inl n:aK),V.bl true)]))):=λb o e=>by
  have nb:b≠p:=λz=>by rw[z,hp]at e;cases e
  rw[bB nb]
  exact s b o (by rw[bB nb];exact e)
 exact k _ _ _ .fr sm (.dK hp bP rfl (.cons (.bl true) .nil)) q1
theorem aU0 {j:Nat}(ha:QE X a tk):QE X (.Dict [some a] [.Constant (.bool true) j p2] pos) (zD tk):=
 cX (ay0 (ax9 ha B6 ax8) rfl rfl (by simp) (by show 1<=15;decide)) λ_ _ _=>aT9
theorem aU1 (hN:X.N.Nodup)(i j:Nat){x y:Str}{apos cpos xpos:Pos}(hi:X.N[i]? = some x:=by rfl)(hj:X.N[j]? = some y:=by rfl)(hv:i6 X.env.scope x:=by first|exact Or.inl rfl|exact Or.inr (Or.inl rfl)|exact Or.inr (Or.inr rfl))(hd:(x==("__debug__":Str))=false:=by decide)(hcd:(x==("__classdict__":Str))=false:=by decide)(hbase:attributeBase (.Name x xpos) "pop" X.env (eval (.Name x xpos) X.env)=eval (.Name x xpos) X.env:=by rfl)(hline:(apos.endLine==cpos.line)=true:=by rfl)(hx:i7 X.env.scope y:=by first|exact Or.inl rfl|exact Or.inr rfl)(hs:swapsWith (.Call (.Attribute (.Name x xpos) "pop" apos) [] [] cpos) (some (.Name y p2)) pos.line X.env=pure false:=by rfl)(hf:X.fn y=true∨X.env.scope.names.lookup y=some .local:=by first|exact .inl rfl|exact .inr rfl) :
  QS X (.Assign [.Name y p2] (.Call (.Attribute (.Name x xpos) "pop" apos) [] [] cpos) pos) (xA i j):=
 dW (vD hN hj hx (aw2 bu5 PySem.F.slot_list_pop PySem.F.type_list_pop aw5 (jN hi hv hd hcd) hbase hline) hs hf) λ_ _ _=>aE9
end
end PP
namespace Core
open PySem L2 PP
def i4 (R:af):List (aK×PV):=R.map λx=>((Sum.inl x:aK),PV.bl true)
theorem ac3 (R:af):(i4 R).map (·.1)=R.map (Sum.inl:Int->aK):=by unfold i4;rw[br0];rfl
theorem aU2 (R:af):(i4 R).length=R.length:=by unfold i4;rw[bm7]
theorem aU3 (R:af)(n:Int):(cW (i4 R) (Sum.inl n:aK)).isSome=decide (n∈R):=by
 rw[<- tT,bw0,List.any_eq_true,bq1]
 unfold i4
 refine⟨λ⟨p,hp,e⟩=>?_,λh=>⟨_,bn6.mpr ⟨n,h,rfl⟩,bm4 rfl⟩⟩
 obtain⟨x,hx,rfl⟩:=bn6.mp hp
 have e:(Sum.inl x:aK)=Sum.inl n:=bq3 e
 rw[<- Sum.inl.inj e];exact hx
theorem aU4 {R:af}{y:Int}(h:y∉R):g9 (i4 R) (Sum.inl y:aK) (.bl true)=i4 (R++[y]):=by
 rw[aR4 (ac3 R) h]
 unfold i4
 rw[bp5];rfl
structure zE (n:Nat)(ls:aa)(S P:af):Prop where
 set:aZ n P=true
 ne:P≠[]
 sub:∀x∈P,x∈S
 shut:∀x∈P,∀y∈aJ ls x,y∈S->y∈P
 got:∀h∈S.head?,h∈P
 least:∀U:af,(∀x∈U,∀y∈aJ ls x,y∈S->y∈U)->(∀h∈S.head?,h∈U)->∀x∈P,x∈U
def u9:bI:=λxs Q=>∃ws ls S,xs = [.lst (cS ws.length ls),.tup (intz S)]/\Wb ws ls/\aZ ws.length S=true/\S≠[]/\∀P,zE ws.length ls S P->Q (.tup (intz P))
def ac4:aT:=(aE (b8 2 (aB o0 (a7 (a5 1) a9)))
 (aE (dS 3 (zD (bD (a5 1) (qC (.int 0)))))
 (aE (dS 4 (eW (a7 (bD (a5 1) (qC (.int 0))) a9)))
 (aE (m5 (kC (a5 4))
  (aE (xA 4 5)
  (dU (cO (bD (a5 0) (a5 5))) (bQ 6)
   (dB (nI (bH (m9 false (a5 6) (a5 2))) (bH (m9 true (a5 6) (a5 3)))) (aE (sM 3 (a5 6) (qC (.bl true)))
    (gT 4 (a5 6))) dA))))
 (bV (aB jB (a7 (aB yU (a7 (a5 3) a9)) a9)))))))
structure Way (ls:aa)(S R W:af)(E:Int->Prop):Prop where
 nd:R.Nodup
 ne:R≠[]
 sub:∀x∈R,x∈S
 wait:∀x∈W,x∈R
 shut:∀x∈R,x∉W->¬E x->∀y∈aJ ls x,y∈S->y∈R
 got:∀h∈S.head?,h∈R
 least:∀U:af,(∀x∈U,∀y∈aJ ls x,y∈S->y∈U)->(∀h∈S.head?,h∈U)->∀x∈R,x∈U
theorem aU5:c6 ac4 ["around","hearths","inside","reached","waiting","hearth","other"] u9:=by
 rintro xs Q ⟨ws,ls,S,rfl,wb,hS,hne,q⟩
 have few:=wb.few
 have most:=wb.most
 have sl:=o4 hS
 have snd:S.Nodup:=(gE (eN hS).1).imp λh=>bw4 h
 obtain⟨s0,sr,rfl⟩:∃s0 sr,S=s0::sr:=by
  cases S with
  |nil=>exact absurd rfl hne
  |cons a r=>exact⟨a,r,rfl⟩
 have i0:L2.atI (intz (s0::sr)) (0:Int)=some (.int s0):=jU (xs:=intz (s0::sr)) (j:=0) rfl
 generalize hSS:s0::sr=S at *
 have m0:s0∈S:=by rw[<- hSS];exact bm8
 have hd:∀h,h∈S.head?↔h=s0:=λh=>by rw[<- hSS];exact⟨λz=>by cases z;rfl,λz=>by rw[z];rfl⟩
 refine⟨_,rfl,_,S,rfl,.inl rfl,by omega,λpm dm=>⟨trivial,?_⟩⟩
 refine⟨_,rfl,_,_,_,rfl,rfl,i0,s0,rfl,rfl,rfl,?_⟩
 refine⟨_,rfl,_,_,_,rfl,rfl,i0,by show 1<=1000;decide,rfl,rfl,rfl,?_⟩
 refine⟨λn ρ=>∃(R W:af) (y5 y6:Option Slot),ρ = [some (.sh (flat (.lst (cS ws.length ls))) (.lst (cS ws.length ls))),some (.sh (flat (.tup (intz S))) (.tup (intz S))),some (.sh true (.dK pm)),some (.own (.dK (i4 R))),some (.own (.lst (intz W))),y5,y6]/\
   n=2*(S.length-R.length)+W.length/\n<=2*S.length/\Way ls S R W λ_=>False,⟨_,[s0],[s0],none,none,rfl,rfl,by rw[<- hSS];simp;omega,bq2 _ _,(λz=>nomatch z),(λx hx=>by rw[bm2.mp hx];exact m0),λ_ h=>h,λx hx hw=>absurd hx hw,λh hh=>bm2.mpr ((hd h).mp hh),λU _ hU x hx=>by rw[bm2.mp hx];exact hU s0 ((hd s0).mpr rfl)⟩,?_⟩
 rintro n ρ ⟨R,W,y5,y6,rfl,rfl,bd,wy⟩
 refine⟨_,rfl,_,rfl,?_⟩
 have rl:R.length<=S.length:=wy.nd.length_le_of_subset wy.sub
 rcases List.eq_nil_or_concat W with hW|⟨W',h,hW⟩
 ·subst hW
  refine bG ⟨_,rfl,_,R,rfl,ac3 R,by omega,λms pm so=>⟨⟨_,_,rfl,rfl,eD _,trivial,q ms ⟨?_,?_,?_,?_,λh hh=>pm.mem_iff.mpr (wy.got h hh),λU hU hh x hx=>wy.least U hU hh x (pm.mem_iff.mp hx)⟩⟩,λns z=>by cases z⟩⟩
  ·have nd:ms.Nodup:=pm.nodup_iff.mpr wy.nd
   have up:ms.Pairwise (·<·):=(List.Pairwise.and so nd).imp λz=>Int.lt_iff_le_and_ne.mpr ⟨z.1,z.2⟩
   have u:lF (ws.length:Int) ms:=⟨up,λx hx=>(eN hS).2 x (wy.sub x (pm.mem_iff.mp hx)),by rw[pm.length_eq];omega⟩
   exact u.set
  ·intro z;rw[z]at pm;exact wy.ne (List.nil_perm.mp pm)
  ·exact λx hx=>wy.sub x (pm.mem_iff.mp hx)
  ·exact λx hx y hy hyS=>pm.mem_iff.mpr (wy.shut x (pm.mem_iff.mp hx) (λz=>nomatch z) (λz=>z) y hy hyS)
 ·have hW:W=W'++[h]:=by rw[hW];simp
  subst hW
  have hR:h∈R:=wy.wait h (by simp)
  have hb:=(eN hS).2 h (wy.sub h hR)
  have nz:(!(intz (W'++[h])).isEmpty)=true:=by rw[fE];cases W'<;>rfl
  show if (!(intz (W'++[h])).isEmpty)=true then _ else _
  rw[nz]
  refine bJ ⟨intz W',.int h,by rw[fE];rfl,?_⟩
  refine⟨_,rfl,_,rfl,_,_,_,rfl,rfl,tU hb.1 hb.2,_,rfl,(λz=>by cases z),λj ρ=>∃(R2 W2:af) (y6:Option Slot),ρ = [some (.sh (flat (.lst (cS ws.length ls))) (.lst (cS ws.length ls))),some (.sh (flat (.tup (intz S))) (.tup (intz S))),some (.sh true (.dK pm)),some (.own (.dK (i4 R2))),some (.own (.lst (intz W2))),si h,y6]/\
    2*(S.length-R2.length)+W2.length<2*(S.length-R.length)+(W'++[h]).length/\Way ls S R2 W2 (λx=>x=h)/\h∈R2/\∀y∈(aJ ls h).take j,y∈S->y∈R2,
    ⟨R,W',y6,rfl,by rw[bo2,bs2];omega,⟨wy.nd,wy.ne,wy.sub,λx hx=>wy.wait x (bo3 _ hx),λx hx hw he=>wy.shut x hx (λz=>(bn0.mp z).elim hw λz=>he (bm2.mp z)) λz=>z,wy.got,wy.least⟩,hR,λy hy=>by rw[List.take_zero]at hy;cases hy⟩,?_,?_⟩
  ·rintro j y ρ hy ⟨R2,W2,y6,rfl,lt,wy2,hR2,seen⟩
   obtain⟨o,rfl,ho⟩:=fP hy
   have rl2:R2.length<=S.length:=wy2.nd.length_le_of_subset wy2.sub
   have tk:∀y,y∈(aJ ls h).take (j+1)->y∈(aJ ls h).take j∨y=o:=λy z=>by
    rw[br1,ho]at z
    rcases bn0.mp z with z|z
    ·exact .inl z
    ·exact .inr (by simpa using z)
   refine gX ?_
   refine⟨_,rfl,_,rfl,_,.inl ⟨pm,Sum.inl o,rfl,rfl,rfl⟩,_,rfl,?_⟩
   show if (cW pm (Sum.inl o:aK)).isSome=true then _ else _
   rw[dm.has o]
   by_cases h1:o∈S
   ·rw[bm4 h1]
    refine bJ ⟨_,rfl,_,rfl,_,.inl ⟨i4 R2,Sum.inl o,rfl,rfl,rfl⟩,_,rfl,?_⟩
    show if (!(cW (i4 R2) (Sum.inl o:aK)).isSome)=true then _ else _
    rw[aU3]
    by_cases h2:o∈R2
    ·rw[bm4 h2]
     exact bG ⟨R2,W2,si o,rfl,lt,wy2,hR2,λy z zS=>(tk y z).elim (λz=>seen y z zS) λe=>by rw[e];exact h2⟩
    ·rw[bm9 h2]
     have nd3:(R2++[o]).Nodup:=bv1.mpr ⟨wy2.nd,bq2 _ _,λa ha b hb e=>h2 (by rw[bm2.mp hb]at e;rw[<- e];exact ha)⟩
     have sub3:∀x∈R2++[o],x∈S:=λx hx=>(bn0.mp hx).elim (wy2.sub x) λz=>by rw[bm2.mp z];exact h1
     have l3:(R2++[o]).length<=S.length:=nd3.length_le_of_subset sub3
     rw[bo2,bs2]at l3
     refine bJ ⟨_,rfl,_,rfl,Sum.inl o,rfl,trivial,by rw[aU2];omega,?_⟩
     rw[aU4 h2]
     refine⟨_,rfl,_,rfl,trivial,by rw[bA];omega,R2++[o],W2++[o],si o,?_,?_,⟨nd3,(λz=>by simp at z),sub3,λx hx=>?_,λx hx hw he y hy yS=>?_,λh hh=>bo3 _ (wy2.got h hh),λU hU hh x hx=>(bn0.mp hx).elim (wy2.least U hU hh x) λz=>by rw[bm2.mp z];exact hU h (wy2.least U hU hh h hR2) o (bm3 ho) h1⟩,bo3 _ hR2,λy z zS=>?_⟩
     ·rw[fE];rfl
     ·simp only[bo2,bs2]at lt ⊢;omega
     ·rcases bn0.mp hx with z|z
      ·exact bo3 _ (wy2.wait x z)
      ·exact bo8 _ z
     ·rcases bn0.mp hx with z|z
      ·exact bo3 _ (wy2.shut x z (λz=>hw (bo3 _ z)) he y hy yS)
      ·exact absurd (bo8 _ z) hw
     ·rcases tk y z with z|e
      ·exact bo3 _ (seen y z zS)
      ·rw[e];exact bo8 _ (bm2.mpr rfl)
   ·rw[bm9 h1]
    exact bG (bG ⟨R2,W2,si o,rfl,lt,wy2,hR2,λy z zS=>(tk y z).elim (λz=>seen y z zS) λe=>absurd (e▸zS) h1⟩)
  ·rintro ρ ⟨R2,W2,y6,rfl,lt,wy2,hR2,seen⟩
   rw[bA,br4]at seen
   refine⟨_,lt,R2,W2,si h,y6,rfl,rfl,by omega,wy2.nd,wy2.ne,wy2.sub,wy2.wait,λx hx hw _ y hy yS=>?_,wy2.got,wy2.least⟩
   by_cases e:x=h
   ·subst e;exact seen y hy yS
   ·exact wy2.shut x hx hw e y hy yS
def ac5 (Ep:Str->Prop):aT:=(aE (b8 2 (aB kO (a7 (a5 0) a9)))
 (aE (b8 3 (yZ Ep u6 (a7 (a5 0) (a7 (a5 1) a9))))
 (aE (dS 4 (eW a9))
 (aE (m5 (kC (a5 3))
  (aE (b8 5 (aB u9 (a7 (a5 2) (a7 (a5 3) a9))))
  (aE (gT 4 (a5 5))
  (b8 3 (aB o6 (a7 (a5 3) (a7 (a5 5) a9)))))))
 (j6 4)))))
def dZ (hs:af):ae:=hs.foldl (λacc h=>acc++acc.map λp=>p++[h]) [[]]
theorem mM (hs:af)(h:Int):dZ (hs++[h])=dZ hs++(dZ hs).map λp=>p++[h]:=by
 unfold dZ;rw[List.foldl_append];rfl
theorem mO (n:Nat):rng (n+1)=rng n++[(n:Int)]:=by
 unfold rng;rw[List.range_succ,bp5];rfl
theorem aU6:∀hs:af,∀k,(dZ (hs.take k)).length=2^min k hs.length:=by
 intro hs k
 induction k with
 |zero=>simp[dZ]
 |succ k ih=>
  by_cases h:k<hs.length
  ·have tk:hs.take (k+1)=hs.take k++[hs[k]]:=by rw[br1,bm6 h];rfl
   rw[tk,mM,bo2,bm7,ih,show min (k+1) hs.length=min k hs.length+1 by omega,Nat.pow_succ]
   omega
  ·rw[bp8 (by omega),show min (k+1) hs.length=min k hs.length by omega,<- ih,bp8 (by omega)]
theorem zF (n:Nat):(dZ (rng n)).length=2^n:=by
 have:=aU6 (rng n) n
 rw[bp8 (by rw[cF];exact bn1 _),cF,Nat.min_self]at this
 exact this
theorem aU7 (n:Nat):∀(p:Nat) (S:af),(dZ (rng n))[p]? = some S->(∀x∈S,0<=x/\x<(n:Int))/\(p=0↔S = [])/\∀h∈S,2^h.toNat<=p/\(dZ (rng n))[p-2^h.toNat]? = some (S.filter λz=>!decide (z=h)):=by
 induction n with
 |zero=>
  intro p S e
  have e0:dZ (rng 0) = [[]]:=rfl
  rw[e0]at e
  cases p with
  |zero=>cases e;exact⟨(λ_ h=>by cases h),⟨λ_=>rfl,λ_=>rfl⟩,(λ_ h=>by cases h)⟩
  |succ p=>cases e
 |succ n ih=>
  intro p S e
  rw[mO,mM]at e
  have ln:=zF n
  rcases bt2 p (2^n) with hp|hp
  ·rw[bp1 (by omega)]at e
   obtain⟨h1,h2,h3⟩:=ih p S e
   refine⟨λx hx=>by have:=h1 x hx;omega,h2,λh hh=>⟨(h3 h hh).1,?_⟩⟩
   rw[mO,mM,bp1 (by rw[ln];exact Nat.lt_of_le_of_lt (Nat.sub_le _ _) hp)]
   exact (h3 h hh).2
  ·rw[br6 (by omega),ln,bn4]at e
   cases e2:(dZ (rng n))[p-2^n]? with
   |none=>rw[e2]at e;cases e
   |some T=>
    rw[e2]at e
    have e:T++[(n:Int)]=S:=bo9 e
    subst e
    obtain⟨h1,h2,h3⟩:=ih _ T e2
    have nT:(n:Int)∉T:=λz=>by have:=h1 _ z;omega
    have p0:0<2^n:=Nat.pow_pos (by decide)
    refine⟨λx hx=>?_,⟨λz=>absurd z (by omega),λz=>by simp at z⟩,λh hh=>?_⟩
    ·rcases bn0.mp hx with z|z
     ·have:=h1 x z;omega
     ·rw[bm2.mp z];omega
    ·rcases bn0.mp hh with z|z
     ·have hb:=h1 h z
      obtain⟨a1,a2⟩:=h3 h z
      refine⟨by omega,?_⟩
      rw[mO,mM,br6 (by omega),ln,bn4,show p-2^h.toNat-2^n=p-2^n-2^h.toNat by omega,a2,bz5]
      have:([(n:Int)]:af).filter (λz=>!decide (z=h)) = [(n:Int)]:=by
       rw[br9,bm9 (by omega:¬(n:Int)=h)];rfl
      rw[this];rfl
     ·have hn:h=(n:Int):=bm2.mp z
      subst hn
      rw[show ((n:Int)).toNat=n from rfl]
      refine⟨hp,?_⟩
      have lt:p-2^n<2^n:=by
       have:=(bn2.mp e2).1
       omega
      rw[mO,mM,bp1 (by omega),e2,bz5]
      have a1:T.filter (λz=>!decide (z=(n:Int)))=T:=bz0.mpr λx hx=>by
       rw[bm9 (λz:x=(n:Int)=>nT (by rw[<- z];exact hx))];rfl
      have a2:([(n:Int)]:af).filter (λz=>!decide (z=(n:Int))) = []:=by
       rw[br9,bm4 rfl];rfl
      rw[a1,a2,bs1]
theorem ac6 (n:Nat):∀S:af,S∈dZ (rng n)↔S.Sublist (rng n):=by
 induction n with
 |zero=>
  intro S
  show S∈[[]]↔S.Sublist []
  rw[bm2,List.sublist_nil]
 |succ n ih=>
  intro S
  rw[mO,mM,bn0]
  refine⟨λh=>?_,λh=>?_⟩
  ·rcases h with h|h
   ·exact ((ih S).mp h).trans (List.sublist_append_left _ _)
   ·obtain⟨T,hT,rfl⟩:=bn6.mp h
    exact ((ih T).mp hT).append (List.Sublist.refl _)
  ·obtain⟨p1,p2,rfl,s1,s2⟩:=List.sublist_append_iff.mp h
   cases s2 with
   |cons _ s3=>rw[List.sublist_nil.mp s3,bs1];exact .inl ((ih p1).mpr s1)
   |cons_cons _ s3=>rw[List.sublist_nil.mp s3];exact .inr (bn6.mpr ⟨p1,(ih p1).mpr s1,rfl⟩)
theorem aU8 {n:Nat}{S:af}:S.Sublist (rng n)↔aZ n S=true:=by
 refine⟨λh=>?_,λh=>?_⟩
 ·have up:(rng n).Pairwise (·<·):=by
   unfold rng
   rw[bs3]
   exact List.pairwise_lt_range.imp λh=>by omega
  have u:lF (n:Int) S:=⟨up.sublist h,λx hx=>bM.mp (h.subset hx),by have:=h.length_le;rw[cF]at this;omega⟩
  exact u.set
 ·have e:S=(rng n).filter λx=>decide (x∈S):=by
   refine yT h ?_ λx=>?_
   ·exact qK (show aZ n (rng n)=true by have:=aQ7 n [];unfold lG at this;rwa [bz0.mpr λx _=>by simp]at this) _
   ·rw[bn3,bq1]
    exact⟨λz=>⟨bM.mpr ((eN h).2 x z),z⟩,λz=>z.2⟩
  rw[e];exact List.filter_sublist
theorem uA (n:Nat)(a:Int):(List.replicate n [PV.int a]).flatten=intz (List.replicate n a):=by
 induction n with
 |zero=>rfl
 |succ n ih=>rw[bs9,bs9,bx2,ih];rfl
section
variable {ws:af}{ls:aa}
def cne (ws:af)(ls:aa)(S:af):Bool:=!decide (S = [])&&decide (stay ws ls S=S)
end
theorem uB {b:Bool}{A B:Prop}(a:A)(c:B):if b=true then A else B:=by
 cases b with
 |true=>exact bJ a
 |false=>exact bG c
def far (ns S:af):Bool:=decide (((S.filter λx=>decide (x∈ns)).length:Int)=0)
def eG (ls:aa)(S U:af):Prop:=∀x∈U,∀y∈aJ ls x,y∈S->y∈U
noncomputable def comp (ls:aa)(S:af)(h:Int):af:=S.filter λx=>@decide (∀U:af,eG ls S U->h∈U->x∈U) (Classical.propDecidable _)
section
variable {ws:af}{ls:aa}{S:af}{n:Nat}{h x:Int}
theorem gY:x∈comp ls S h↔x∈S/\∀U,eG ls S U->h∈U->x∈U:=by
 unfold comp
 rw[bn3]
 exact⟨λz=>⟨z.1,@bq3 _ (Classical.propDecidable _) z.2⟩,λz=>⟨z.1,@bm4 _ (Classical.propDecidable _) z.2⟩⟩
theorem qL:∀x∈comp ls S h,x∈S:=λx hx=>(gY.mp hx).1
theorem fQ (hh:h∈S):h∈comp ls S h:=gY.mpr ⟨hh,λ_ _ z=>z⟩
theorem iJ:eG ls S (comp ls S h):=λx hx y hy yS=>gY.mpr ⟨yS,λU hU z=>hU x ((gY.mp hx).2 U hU z) y hy yS⟩
theorem gZ (hS:aZ n S=true):aZ n (comp ls S h)=true:=qK hS _
theorem aU9 {P:af}(hS:aZ n S=true)(hP:aZ n P=true)(hs:∀x∈P,x∈S)(hh:h∈P)(sh:eG ls S P)(le:∀U,eG ls S U->h∈U->∀x∈P,x∈U):P=comp ls S h:=
 yT hP (gZ hS) λx=>⟨λhx=>gY.mpr ⟨hs x hx,λU hU z=>le U hU z x hx⟩,λhx=>(gY.mp hx).2 P sh hh⟩
theorem kT (hS:aZ n S=true)(hx:x∈comp ls S h)(hh:h∈S):comp ls S x=comp ls S h:=by
 have back:h∈comp ls S x:=by
  refine gY.mpr ⟨hh,λU hU xU=>?_⟩
  refine br8 λhn=>?_
  have sv:eG ls S (S.filter λz=>!decide (z∈U)):=λa ha b hb bS=>by
   rw[bn3]at ha ⊢
   refine⟨bS,?_⟩
   by_cases bU:b∈U
   ·have:=hU b bU a (k8 hb) ha.1
    rw[bm4 this]at ha;exact absurd ha.2 (by decide)
   ·rw[bm9 bU];rfl
  have:=(gY.mp hx).2 _ sv (bn3.mpr ⟨hh,by rw[bm9 hn];rfl⟩)
  rw[bn3,bm4 xU]at this
  exact absurd this.2 (by decide)
 exact yT (gZ hS) (gZ hS) λy=>⟨λhy=>(gY.mp hy).2 _ iJ hx,λhy=>(gY.mp hy).2 _ iJ back⟩
theorem jG {L:af}{a:Int}(hL:aZ n L=true)(ha:L.head? = some a):a∈L/\∀x∈L,a=x∨a<x:=by
 cases L with
 |nil=>cases ha
 |cons b r=>
  cases ha
  refine⟨bm8,λx hx=>?_⟩
  rcases bn8.mp hx with e|hx
  ·exact .inl e.symm
  ·exact .inr ((bv2.mp (gE (eN hL).1)).1 x hx)
theorem zG {L:af}{a:Int}(hL:aZ n L=true)(ha:a∈L)(hl:∀x∈L,a<=x):L.head? = some a:=by
 cases L with
 |nil=>cases ha
 |cons b r=>
  rcases bn8.mp ha with e|e
  ·rw[e];rfl
  ·have h1:=(bv2.mp (gE (eN hL).1)).1 a e
   have h2:=hl b bm8
   omega
noncomputable def qM (ls:aa)(S:af)(h:Int):Bool:=decide ((comp ls S h).head? = some h)
noncomputable def aW (ls:aa)(S:af):af:=S.filter (qM ls S)
theorem ac7 {A B:af}(ua:A.Pairwise (·<·))(ub:B.Pairwise (·<·))(h:∀x,x∈A↔x∈B):A=B:=
 yO ((bw9 (ua.imp λz=>bw4 z) (ub.imp λz=>bw4 z)).mpr h) (ua.imp λz=>bC2 z) (ub.imp λz=>bC2 z)
theorem aV0 {L:af}{a:Int}(hS:aZ n S=true)(hL:aZ n L=true)(sub:∀x∈L,x∈S)(ha:L.head? = some a)(pl:∀x∈comp ls S a,x∈L)(lt:∀h∈(aW ls S).filter (λz=>!decide (z∈L)),∀x∈L,h<x) :
  (aW ls S).filter (λz=>!decide (z∈L.filter λz=>!decide (z∈comp ls S a)))=(aW ls S).filter (λz=>!decide (z∈L))++[a]:=by
 obtain⟨aL,al⟩:=jG hL ha
 have aS:=sub a aL
 have hu:(aW ls S).Pairwise (·<·):=gE (eN (qK hS (qM ls S))).1
 have hd:(comp ls S a).head? = some a:=zG (gZ hS) (fQ aS) λx hx=>by rcases al x (pl x hx) with e|e<;>omega
 refine ac7 (hu.sublist List.filter_sublist) (bu1.mpr ⟨hu.sublist List.filter_sublist,bq2 _ _,λx hx y hy=>by rw[bm2.mp hy];exact lt x hx a aL⟩) λx=>?_
 simp only[bn0,bm2,bn3,Bool.not_eq_true',bs7,not_and,Decidable.not_not]
 constructor
 ·rintro⟨hx,hn⟩
  by_cases xL:x∈L
  ·refine .inr ?_
   have xc:=hn xL
   have h1:(comp ls S x).head? = some x:=bq3 (bn3.mp hx).2
   rw[kT hS xc aS,hd]at h1
   cases h1;rfl
  ·exact .inl ⟨hx,xL⟩
 ·rintro (⟨hx,xL⟩|rfl)
  ·exact⟨hx,λz=>absurd z xL⟩
  ·exact⟨bn3.mpr ⟨aS,bm4 hd⟩,λ_=>fQ aS⟩
theorem zE.comp {L P:af}{a:Int}(hS:aZ n S=true)(sub:∀x∈L,x∈S)(sh:eG ls S L)(ha:L.head? = some a)(pc:zE n ls L P):P=comp ls S a:=by
 have ea:∀z,z∈L.head?->z=a:=λz hz=>by rw[ha]at hz;cases hz;rfl
 exact aU9 hS pc.set (λx hx=>sub x (pc.sub x hx)) (pc.got a ha) (λx hx y hy yS=>pc.shut x hx y hy (sh x (pc.sub x hx) y hy yS))
  λU hU aU=>pc.least U (λx hx y hy yL=>hU x hx y hy (sub y yL)) λz hz=>by rw[ea z hz];exact aU
end
abbrev aV1:=ac5
noncomputable def iV (ls:aa)(S:af):ae:=(aW ls S).map (comp ls S)
def uC:iI:=aT7 λws ls S Q=>Q (.lst (tups (iV ls S)))
theorem aV2:RdX ac5 ["web","block","around","left","pieces","piece"] uC:=by
 rintro Ep xs Q ⟨ws,ls,x,S,rfl,wb,hx,hl,q,qe⟩
 have few:=wb.few
 refine⟨_,rfl,ws,ls,rfl,wb,trivial,?_⟩
 refine⟨_,rfl,_,rfl,ws,ls,x,S,rfl,hx,hl,λhs=>⟨trivial,?_⟩,qe⟩
 have q:Q (.lst (tups (iV ls S))):=q hs
 have sl:=o4 hs
 refine⟨by decide,rfl,rfl,rfl,?_⟩
 refine⟨λn ρ=>∃(L:af) (Ps:ae) (y5:Option Slot),ρ = [some (.sh (flat (b9 ws ls)) (b9 ws ls)),some (.sh (flat x) x),some (.sh true (.lst (cS ws.length ls))),some (.sh true (.tup (intz L))),some (.own (.lst (tups Ps))),y5]/\
   n=L.length/\aZ ws.length L=true/\Ps.length+L.length<=S.length/\(∀x∈L,x∈S)/\eG ls S L/\Ps=((aW ls S).filter λz=>!decide (z∈L)).map (comp ls S)/\∀h∈(aW ls S).filter (λz=>!decide (z∈L)),∀x∈L,h<x,⟨_,S,[],none,rfl,rfl,hs,by simp,λ_ h=>h,λ_ _ _ _ h=>h,?_,?_⟩,?_⟩
 ·rw[bA8.mpr λz hz=>?_];rfl
  rw[bm4 (bn3.mp hz).1];decide
 ·intro h hh
  have:=bn3.mp hh
  rw[bm4 (bn3.mp this.1).1]at this
  exact absurd this.2 (by decide)
 rintro n ρ ⟨L,Ps,y5,rfl,rfl,lset,bd,sub,sh,eP,lt⟩
 refine⟨_,rfl,_,rfl,?_⟩
 cases hL:L with
 |nil=>
  refine bG ⟨_,rfl,trivial,?_⟩
  have e:(aW ls S).filter (λz=>!decide (z∈L))=aW ls S:=bz0.mpr λz _=>by rw[hL];rfl
  rw[e]at eP
  rw[eP];exact q
 |cons a r=>
  rw[<- hL]
  have ne:(!(intz L).isEmpty)=true:=by rw[hL];rfl
  have nl:L≠[]:=by rw[hL];exact λz=>nomatch z
  have hd:L.head? = some a:=by rw[hL];rfl
  show if (!(intz L).isEmpty)=true then _ else _
  rw[ne]
  refine bJ ?_
  have ll:=o4 lset
  refine⟨_,rfl,_,rfl,ws,ls,L,rfl,wb,lset,nl,λP pc=>⟨trivial,?_⟩⟩
  have pn:P.Nodup:=(gE (eN pc.set).1).imp λh=>bw4 h
  have pl:P.length<=L.length:=pn.length_le_of_subset pc.sub
  refine⟨_,rfl,_,rfl,trivial,by rw[kQ];omega,?_⟩
  refine⟨_,rfl,_,rfl,_,L,_,P,rfl,.inl rfl,.inl rfl,by omega,by omega,trivial,?_⟩
  have aP:=pc.got a hd
  obtain⟨aL,al⟩:=jG lset hd
  have lt2:(L.filter λz=>!decide (z∈P)).length<L.length:=by
   rcases bt2 (L.filter λz=>!decide (z∈P)).length L.length with z|z
   ·exact z
   ·have:=bz0.mp (List.filter_sublist.eq_of_length_le z) a aL
    rw[bm4 aP]at this;cases this
  have ec:=pc.comp hs sub sh hd
  have hn:=aV0 hs lset sub hd (λx hx=>pc.sub x (by rw[ec];exact hx)) lt
  rw[<- ec]at hn
  refine⟨_,lt2,L.filter (λz=>!decide (z∈P)),Ps++[P],some (.sh true (.tup (intz P))),?_,rfl,qK lset _,by rw[bo2,bs2];omega,λx hx=>sub x (bn3.mp hx).1,?_,?_,?_⟩
  ·unfold tups
   rw[bp5];rfl
  ·intro x hx y hy yS
   rw[bn3]at hx ⊢
   refine⟨sh x hx.1 y hy yS,?_⟩
   by_cases yP:y∈P
   ·have:=pc.shut y yP x (k8 hy) hx.1
    rw[bm4 this]at hx;exact absurd hx.2 (by decide)
   ·rw[bm9 yP];rfl
  ·rw[hn,bp5,<- eP,ec];rfl
  ·rw[hn]
   intro h hh x hx
   rw[bn3]at hx
   rcases bn0.mp hh with hh|hh
   ·exact lt h hh x hx.1
   ·rw[bm2.mp hh]
    rcases al x hx.1 with e|e
    ·rw[<- e,bm4 aP]at hx;exact absurd hx.2 (by decide)
    ·exact e
end Core
namespace PP
open PySem L2
section
variable {X:Cx}{a b:Expr}{ta tb:aH}{pos:Pos}
def zH:PV->Tg->PV->Tg->PK->Prop:=λx _ y _ Q=>∃(i:Int) (o:Option Int),x = .int i/\y=Core.gG o/\Q (.bl (!decide (o=some i))) .fr
theorem aV3:eV X zH vJ:=by
 rintro W Hs H u v x y g g' Q Q' s n r1 r2 ⟨i,o,rfl,rfl,q⟩ k
 cases r1
 cases o with
 |none=>
  cases r2
  exact⟨rfl,k _ _ _ .fr (aC.refl _) (.bl true) q⟩
 |some j=>
  cases r2
  have e:decide (V.int i=V.int j)=decide (some j=some i):=decide_eq_decide.mpr ⟨λz=>by cases z;rfl,λz=>by cases z;rfl⟩
  refine⟨rfl,?_⟩
  rw[e]
  exact k _ _ _ .fr (aC.refl _) (.bl _) q
theorem aV4 (ha:QE X a ta)(hb:QE X b tb):QT X (.Compare a [.NotEq] [b] pos) (bH (q2 zH ta tb)):=jD F7 aV3 ha hb (i9 _)
end
end PP
namespace Core
open PySem L2 PP
def ac8 (ws:af)(ls:aa):af->af->Bool
 |_,[]=>true
 |B,h::R=>inB ws.length h&&(kin ws ls B h&&ac8 ws ls (B++[h]) R)
theorem aV5 {n:Nat}{ks:af}(up:ks.Pairwise (·<·))(inn:∀x∈ks,0<=x/\x<(n:Int)):aZ n ks=true:=by
 have nd:ks.Nodup:=up.imp λh=>bw4 h
 have:=nd.length_le_of_subset λx hx=>bM.mpr (inn x hx)
 rw[cF]at this
 have u:lF (n:Int) ks:=⟨up,inn,by omega⟩
 exact u.set
def kU:bI:=λxs Q=>∃a k:Int,xs = [.int a,.int k]/\0<=k/\k<=1000/\∀z,0<=z->Q (.int z)
def ac9:aT:=(aE (b8 2 (cQ (cP (cP (cP (cQ (a5 0) (qC (.int 2147483647))) (pN (pN (qC (.int 69621)) (a5 1)) (a5 1))) (pN (qC (.int 40692)) (a5 1))) (qC (.int 1))) (qC (.int 2147483647))))
 (aE (b8 2 (cQ (pN (a5 2) (qC (.int 48271))) (qC (.int 2147483647))))
 (bV (cQ (pN (a5 2) (a5 2)) (qC (.int 2147483647))))))
theorem aV6:c6 ac9 ["number","k","turn"] kU:=by
 rintro xs Q ⟨a,k,rfl,k0,k1,q⟩
 have big:(0:Int)<2147483647:=by decide
 refine⟨_,rfl,_,_,rfl,rfl,big,_,rfl,_,_,rfl,rfl,.inl ⟨by decide,by decide⟩,_,rfl,_,_,rfl,rfl,.inr ⟨by show -(2^64)<k;omega,by show k<2^64;omega⟩,_,_,rfl,rfl,_,rfl,_,_,rfl,rfl,.inl ⟨by decide,by decide⟩,_,_,rfl,rfl,_,_,rfl,rfl,_,_,rfl,rfl,big,trivial,?_⟩
 refine⟨_,rfl,_,_,rfl,rfl,.inr ⟨by decide,by decide⟩,_,_,rfl,rfl,big,trivial,?_⟩
 dsimp only
 have t0:0<=(a%2147483647+69621*k*k+40692*k+1)%2147483647*48271%2147483647:=bv6 _ (by decide)
 have t1:(a%2147483647+69621*k*k+40692*k+1)%2147483647*48271%2147483647<2147483647:=bB8 _ (by decide)
 generalize (a%2147483647+69621*k*k+40692*k+1)%2147483647*48271%2147483647=t at t0 t1
 exact⟨_,rfl,_,rfl,_,_,rfl,rfl,.inl ⟨by show -(2^64)<t;omega,by show t<2^64;omega⟩,_,_,rfl,rfl,big,trivial,q _ (bv6 _ (by decide))⟩
def uD:bI:=λxs Q=>∃(ns:af) (most:Int),xs = [.scr ns,.int most]/\0<=most/\∀z,0<=z->z<=most->Q (.int z)
def ad0:aT:=(aE (b8 2 (aB gF (a7 (a5 0) (a7 (qC (.int 0)) a9))))
 (aE (dB (bH (kG (cQ (a5 2) (qC (.int 3))) (qC (.int 0)))) (bV (aB nL (a7 (a5 1) (a7 (aB m6 (a7 (qC (.int 0)) (a7 (kF (aB dM (a7 (a5 0) a9)) (qC (.int 4))) a9))) a9)))) dA)
 (aE (dB (bH (kG (cQ (a5 2) (qC (.int 8))) (qC (.int 1)))) (bV (cQ (cP (iS (a5 2) (qC (.int 24))) (qC (.int 5))) (cP (a5 1) (qC (.int 1))))) dA)
 (bV (cQ (cP (iS (a5 2) (qC (.int 3))) (qC (.int 2))) (cP (aB nL (a7 (qC (.int 6)) (a7 (a5 1) a9))) (qC (.int 1))))))))
theorem aV7:c6 ad0 ["script","most","number"] uD:=by
 rintro xs Q ⟨ns,most,rfl,hm,q⟩
 refine⟨_,rfl,_,ns,0,rfl,.inl rfl,by decide,trivial,?_⟩
 generalize ns.getD (0:Int).toNat 0=c
 refine⟨_,rfl,_,_,rfl,rfl,(by show (0:Int)<3;decide),.inl ⟨_,_,rfl,rfl,_,rfl,uB ?_ ?_⟩⟩
 ·refine⟨_,rfl,_,rfl,_,_,rfl,rfl,_,_,rfl,rfl,_,_,rfl,_,_,rfl,trivial,q _ ?_ ?_⟩<;>split<;>split<;>omega
 refine⟨_,rfl,_,_,rfl,rfl,(by show (0:Int)<8;decide),.inl ⟨_,_,rfl,rfl,_,rfl,uB ?_ ?_⟩⟩
 ·have hp:0<most+1:=by omega
  refine⟨_,rfl,_,_,rfl,rfl,⟨by decide,by decide⟩,_,_,rfl,rfl,_,rfl,_,_,rfl,rfl,_,_,rfl,rfl,hp,trivial,q _ (bv6 _ (by omega)) ?_⟩
  have:=bB8 (c/24+5) hp
  omega
 ·have hp:0<(if most<6 then most else 6)+1:=by split<;>omega
  refine⟨_,rfl,_,_,rfl,rfl,⟨by decide,by decide⟩,_,_,rfl,rfl,_,rfl,_,_,rfl,_,_,rfl,rfl,_,_,rfl,rfl,hp,trivial,q _ (bv6 _ (by omega)) ?_⟩
  have:=bB8 (c/3+2) hp
  have hm:(if most<6 then most else 6)<=most:=by split<;>omega
  omega
theorem kW {ws:af}{j:Nat}(h:j<ws.length):L2.atI (intz ws) (j:Int)=some (.int (ws.getD j 0)):=by
 have gw:ws[j]? = some (ws.getD j 0):=by rw[bo1,bm6 h];rfl
 exact jU (by rw[bn4,gw];rfl)
theorem jH {ws:af}(h:NN ws)(j:Nat):0<=ws.getD j 0:=by
 rw[bo1]
 cases hj:ws[j]? with
 |none=>exact bs6 0
 |some w=>exact h w (bm3 hj)
theorem aV8 (ns:af)(lo hi:Option Int):∃zs:af,jA (intz ns) lo hi=intz zs/\zs.length<=ns.length:=by
 refine⟨(ns.drop (HT.aY (intz ns).length 0 lo)).take (HT.aY (intz ns).length (intz ns).length hi-HT.aY (intz ns).length 0 lo),?_,?_⟩
 ·unfold jA intz;rw[List.map_take,List.map_drop]
 ·rw[bt0,by3];omega
end Core
namespace PP
open PySem L2
section
variable {P:Program}{w:World}{K:ad}{mg:Str→Option Value}{base:Heap}{k:Nat}{f:Addr}{fd:FuncData}
theorem aV9 (F:cZ P w K mg base eC k f fd ["web"] tW)(b:j5 K fd ["web"] [])(kp:PySem.W.keepIn K (.ref f)=true)(m:mg "_law_beside" = some (.ref f)):Df P w K mg base k "_law_beside" ["web"] Core.kO:=by
 refine⟨f,fd,F.imp λvs H Q E h=>?_,b,kp,m⟩
 obtain⟨xs,Qp,r,⟨ws,ls,rfl,wb,q⟩,k⟩:=h
 obtain⟨v,rfl,r1⟩:=r.one
 have:=wb.few
 have:=wb.most
 refine⟨v,ws,ls,rfl,aa1 r1,by omega,by omega,wb.links,λt bs H' hb R=>k _ H' _ R.same (.lst R.new R.row ?_) q⟩
 have:=yN (K:=K) (M:=λa=>H a=none) (H:=H') (bs:=bs) (ls:=ls) 0 (λb hb=>(R.news b hb).1) λk b hk=>by rw[Nat.zero_add];exact R.rows k b hk
 rw[hb,<- List.range_eq_range']at this
 exact this
end
end PP
namespace Core
open PySem L2 PP
noncomputable def dG (ws:af)(ls:aa)(C:af):Bool:=@decide (∀U:af,iH ws ls U->(∀x∈C,x∈U)->∀h∈rng ws.length,h∈U) (Classical.propDecidable _)
section
variable {ws:af}{ls:aa}{C D:af}
theorem o9:dG ws ls C=true↔∀U:af,iH ws ls U->(∀x∈C,x∈U)->∀h∈rng ws.length,h∈U:=
 ⟨λz=>@bq3 _ (Classical.propDecidable _) z,λz=>@bm4 _ (Classical.propDecidable _) z⟩
theorem aW0 (h:∀x∈C,x∈D)(f:dG ws ls C=true):dG ws ls D=true:=
 o9.mpr λU sU hU=>o9.mp f U sU λx hx=>hU x (h x hx)
theorem aW1 {T:af}(sh:iH ws ls T)(sub:∀x∈C,x∈T)(le:∀U,iH ws ls U->(∀x∈C,x∈U)->∀x∈T,x∈U):dG ws ls C=true↔∀h∈rng ws.length,h∈T:=
 ⟨λf=>o9.mp f T sh sub,λa=>o9.mpr λU sU hU h hh=>le U sU hU h (a h hh)⟩
end
abbrev uE:bI:=kO
def uF:bI:=λxs Q=>∃ws ls x ns,xs = [b9 ws ls,x]/\Wb ws ls/\dY x ns/\(∀x∈ns,x∈rng ws.length)/\∀T,iH ws ls T->(∀x∈ns,x∈T)->(∀U,iH ws ls U->(∀x∈ns,x∈U)->∀x∈T,x∈U)->Q (.lst (fF ws.length T))
def ad1:aT:=(aE (b8 2 (aB uE (a7 (a5 0) a9)))
 (aE (dS 3 (cT (kD (aB dM (a7 (bD (a5 0) (qC (.int 0))) a9))) [none,some 1] (bQ 0) cV (q2 (j9 false) (a5 0) (a5 1))))
 (aE (b8 4 (qC (.bl true)))
 (aE (m5 (bH (a5 4))
  (aE (b8 4 (qC (.bl false)))
  (dU (kD (aB dM (a7 (bD (a5 0) (qC (.int 0))) a9))) (bQ 5)
   (aE (b8 6 (aB dM (a7 (cT (cO (bD (a5 2) (a5 5))) [none,some 3] (bQ 0) (kC (bD (a5 1) (a5 0))) (a5 0)) a9)))
   (dB (nI (nJ (kC (bD (a5 3) (a5 5)))) (bH (xK (a5 6) (bD (bD (a5 0) (qC (.int 0))) (a5 5))))) (aE (lB 3 (a5 5) (qC (.bl true)))
    (b8 4 (qC (.bl true)))) dA)))))
 (j6 3)))))
theorem aW2:c6 ad1 ["web","seeds","beside","burning","left","hearth","count"] uF:=by
 rintro xs Q ⟨ws,ls,x,ns,rfl,wb,hx,inn,q⟩
 have few:=wb.few
 refine⟨_,rfl,ws,ls,rfl,wb,trivial,?_⟩
 refine⟨_,rfl,_,_,_,rfl,rfl,rfl,_,_,rfl,rfl,_,rfl,by rw[bA];omega,by rw[bA];omega,by rw[gU,bA];omega,λi acc=>acc=((rng ws.length).take i).map λi=>PV.bl (decide (i∈ns)),rfl,?_,?_⟩
 ·rintro i y acc hy rfl
  obtain⟨rfl,hi⟩:=kL hy
  rw[bA]at hi
  have hi:i<ws.length:=by omega
  refine⟨_,rfl,_,rfl,_,ns,rfl,hx.seq,trivial,?_⟩
  have tk:=lE (f:=λ(i:Int)=>PV.bl (decide (i∈ns))) (qD hi)
  show _=List.map _ (List.take (i+1) _)
  rw[tk,bC4];rfl
 rintro bu rfl
 rw[gU,bA,bp8 (by rw[cF];omega)]
 have flb:∀S,flats (fF ws.length S)=true:=λS=>by
  rw[yG]
  intro x hx
  unfold fF at hx
  obtain⟨i,_,rfl⟩:=bn6.mp hx
  rfl
 refine⟨rfl,flb ns,?_⟩
 refine⟨trivial,?_⟩
 refine⟨λn ρ=>∃(T:af) (g:Bool) (y5 y6:Option Slot),ρ = [some (.sh (flat (b9 ws ls)) (b9 ws ls)),some (.sh (flat x) x),some (.sh true (.lst (cS ws.length ls))),some (.own (.lst (fF ws.length T))),some (.sh true (.bl g)),y5,y6]/\
   (∀x∈ns,x∈T)/\(∀U,iH ws ls U->(∀x∈ns,x∈U)->∀x∈T,x∈U)/\(g=false->iH ws ls T)/\n=2*((rng ws.length).filter λz=>!decide (z∈T)).length+(if g=true then 1 else 0),⟨_,ns,true,none,none,rfl,λ_ h=>h,λ_ _ h=>h,(λz=>by cases z),rfl⟩,?_⟩
 rintro n ρ ⟨T,g,y5,y6,rfl,sub,le,sh,rfl⟩
 refine⟨_,rfl,_,rfl,?_⟩
 cases g with
 |false=>exact bG ⟨_,rfl,trivial,q T (sh rfl) sub le⟩
 |true=>
  refine bJ ⟨trivial,?_⟩
  refine⟨_,rfl,_,_,_,rfl,rfl,rfl,_,_,rfl,rfl,_,rfl,by rw[bA];omega,by rw[bA];omega,λi ρ=>∃(T2:af) (g2:Bool) (y5 y6:Option Slot),ρ = [some (.sh (flat (b9 ws ls)) (b9 ws ls)),some (.sh (flat x) x),some (.sh true (.lst (cS ws.length ls))),some (.own (.lst (fF ws.length T2))),some (.sh true (.bl g2)),y5,y6]/\
   (∀x∈ns,x∈T2)/\(∀U,iH ws ls U->(∀x∈ns,x∈U)->∀x∈T2,x∈U)/\(g2=false->T2=T/\∀j:Nat,j<i->kin ws ls T j=false)/\(g2=true->((rng ws.length).filter λz=>!decide (z∈T2)).length<((rng ws.length).filter λz=>!decide (z∈T)).length),⟨T,false,y5,y6,rfl,sub,le,(λ_=>⟨rfl,λj hj=>absurd hj (Nat.not_lt_zero _)⟩),λz=>by cases z⟩,?_,?_⟩
  ·rintro i y ρ hy ⟨T2,g2,y5,y6,rfl,sub2,le2,h0,h1⟩
   obtain⟨rfl,hi⟩:=kL hy
   have hi:i<ws.length:=by rw[bA,bp9]at hi;exact hi
   refine gX ?_
   rw[bC4]
   have hr:(i:Int)∈rng ws.length:=bM.mpr ⟨by omega,by omega⟩
   refine⟨_,rfl,_,rfl,_,_,_,rfl,rfl,tU (by omega) (by omega),_,rfl,(λz=>by cases z),?_,λj acc=>acc=intz (((aJ ls (i:Int)).take j).filter λz=>decide (z∈T2)),rfl,?_,?_⟩
   ·rw[bA];have:=pE ls (i:Int);have:=wb.most;omega
   ·rintro j z acc hz rfl
    obtain⟨o,rfl,ho⟩:=fP hz
    have tk:=qE (p:=λz=>decide (z∈T2)) ho
    have om:=bM.mp (aQ5 wb (bm3 ho))
    refine⟨_,rfl,_,rfl,_,_,_,rfl,rfl,aa3 om.1 om.2,_,rfl,?_⟩
    show if decide (o∈T2)=true then _ else _
    cases hm:decide (o∈T2) with
    |true=>
     rw[hm]at tk
     refine bJ ⟨_,rfl,trivial,?_⟩
     dsimp only
     rw[tk,fE];rfl
    |false=>
     rw[hm]at tk
     refine bG ?_
     dsimp only
     rw[tk];exact congrArg intz (bs1 _).symm
   rintro acc rfl
   rw[bA,br4]
   have ix:L2.atI (intz ws) (i:Int)=some (.int (ws.getD (i:Int).toNat 0)):=Z3 (by omega) (by omega)
   refine⟨_,_,rfl,rfl,trivial,?_⟩
   refine⟨_,rfl,_,rfl,_,_,_,rfl,rfl,aa3 (by omega) (by omega),_,rfl,?_⟩
   show if (!decide ((i:Int)∈T2))=true then _ else _
   have stay:kin ws ls T2 (i:Int)=false->∃(T3:af) (g3:Bool) (y5 y6':Option Slot),[some (Slot.sh (flat (b9 ws ls)) (b9 ws ls)),some (.sh (flat x) x),some (.sh true (.lst (cS ws.length ls))),some (.own (.lst (fF ws.length T2))),some (.sh true (.bl g2)),si (i:Int),some (.sh true (.int (((aJ ls (i:Int)).filter λz=>decide (z∈T2)).length:Nat)))] = [some (.sh (flat (b9 ws ls)) (b9 ws ls)),some (.sh (flat x) x),some (.sh true (.lst (cS ws.length ls))),some (.own (.lst (fF ws.length T3))),some (.sh true (.bl g3)),y5,y6']/\
     (∀x∈ns,x∈T3)/\(∀U,iH ws ls U->(∀x∈ns,x∈U)->∀x∈T3,x∈U)/\(g3=false->T3=T/\∀j:Nat,j<i+1->kin ws ls T j=false)/\(g3=true->((rng ws.length).filter λz=>!decide (z∈T3)).length<((rng ws.length).filter λz=>!decide (z∈T)).length):=λhk=>by
    refine⟨T2,g2,_,_,rfl,sub2,le2,λz=>?_,h1⟩
    obtain⟨e,a⟩:=h0 z
    refine⟨e,λj hj=>?_⟩
    by_cases je:j=i
    ·rw[je,<- e];exact hk
    ·exact a j (by omega)
   by_cases hm:(i:Int)∈T2
   ·have hk:kin ws ls T2 (i:Int)=false:=by unfold kin;rw[bm4 hm];rfl
    rw[bm4 hm]
    have:=stay hk
    refine bG (bG ?_)
    dsimp only
    rw[bA]
    exact this
   ·rw[bm9 hm]
    refine bJ ⟨_,rfl,_,rfl,_,_,_,rfl,rfl,rfl,_,rfl,_,_,_,rfl,rfl,ix,_,_,rfl,rfl,_,rfl,?_⟩
    have ek:kin ws ls T2 (i:Int)=decide ((((aJ ls (i:Int)).filter λz=>decide (z∈T2)).length:Int) >= ws.getD (i:Int).toNat 0):=by unfold kin;rw[bm9 hm];rfl
    dsimp only
    rw[bA]
    rw[<- ek]
    cases hk:kin ws ls T2 (i:Int) with
    |false=>exact bG (stay hk)
    |true=>
     refine bJ ⟨_,rfl,_,rfl,_,i,rfl,?_,trivial,?_⟩
     ·unfold fX
      rw[o5,if_pos (by omega),if_pos (by omega),bp9]
     have bs:=aO7 (n:=ws.length) (S:=T2) (x:=(i:Int)) (by omega) (by omega)
     rw[bp9]at bs
     rw[bs]
     refine⟨trivial,T2++[(i:Int)],true,_,_,rfl,λx hx=>bo3 _ (sub2 x hx),λU sU hU x hx=>?_,(λz=>by cases z),λ_=>?_⟩
     ·rcases bn0.mp hx with hx|hx
      ·exact le2 U sU hU x hx
      ·rw[bm2.mp hx]
       refine br8 λhn=>?_
       have:=aQ0 hk (le2 U sU hU) hn
       rw[sU (i:Int) hr]at this;cases this
     ·have lt:((rng ws.length).filter λz=>!decide (z∈T2++[(i:Int)])).length<((rng ws.length).filter λz=>!decide (z∈T2)).length:=by
       have n1:((rng ws.length).filter λz=>!decide (z∈T2++[(i:Int)])).Nodup:=(aQ1 _).filter _
       have n2:(i:Int)∉(rng ws.length).filter λz=>!decide (z∈T2++[(i:Int)]):=λz=>by
        have:=(bn3.mp z).2
        rw[bm4 (bo8 _ (by5 _))]at this;cases this
       have:=(bs4.mpr ⟨n2,n1⟩).length_le_of_subset (l₂:=(rng ws.length).filter λz=>!decide (z∈T2)) λz hz=>by
        rcases bn8.mp hz with e|hz
        ·rw[e];exact bn3.mpr ⟨hr,by rw[bm9 hm];rfl⟩
        ·have h2:=bn3.mp hz
         refine bn3.mpr ⟨h2.1,?_⟩
         rw[bm9 λw=>?_];rfl
         rw[bm4 (bo3 _ w)]at h2;exact absurd h2.2 (by decide)
       rw[bo5]at this
       omega
      cases g2 with
      |true=>have:=h1 rfl;omega
      |false=>have e:=(h0 rfl).1;rw[e]at lt ⊢;exact lt
  ·rintro ρ ⟨T2,g2,y5,y6,rfl,sub2,le2,h0,h1⟩
   rw[gU,bA,bp9]at h0
   cases g2 with
   |true=>exact⟨_,by have:=h1 rfl;rw[if_pos rfl];omega,T2,true,y5,y6,rfl,sub2,le2,(λz=>by cases z),rfl⟩
   |false=>
    obtain⟨e,sh2⟩:=h0 rfl
    subst e
    refine⟨_,by rw[if_pos rfl,if_neg (by decide)];omega,T2,false,y5,y6,rfl,sub2,le2,(λ_ h hh=>?_),rfl⟩
    have hm:=bM.mp hh
    have:=sh2 h.toNat (by omega)
    rwa [show ((h.toNat:Nat):Int)=h by omega]at this
def qN:bI:=λxs Q=>∃ws ls x ns,xs = [b9 ws ls,x]/\Wb ws ls/\dY x ns/\(∀x∈ns,x∈rng ws.length)/\Q (.bl (dG ws ls ns))
def ad2:aT:=(bV (kG (aB dM (a7 (cT (cO (aB uF (a7 (a5 0) (a7 (a5 1) a9)))) [none] (bQ 0) (nJ (kC (a5 0))) (a5 0)) a9)) (qC (.int 0))))
theorem aW3:c6 ad2 ["web","seeds"] qN:=by
 rintro xs Q ⟨ws,ls,x,ns,rfl,wb,hx,inn,q⟩
 have few:=wb.few
 refine⟨_,rfl,_,rfl,ws,ls,x,ns,rfl,wb,hx,inn,λT sh sub le=>?_⟩
 refine⟨_,rfl,(λz=>by cases z),by rw[o5];omega,λi acc=>acc.length=(((rng ws.length).take i).filter λz=>!decide (z∈T)).length,rfl,?_,?_⟩
 ·rintro i y acc hy e
  unfold fF at hy
  rw[bn4]at hy
  cases hz:(rng ws.length)[i]? with
  |none=>rw[hz]at hy;cases hy
  |some z=>
   rw[hz]at hy
   cases hy
   have tk:=qE (p:=λz=>!decide (z∈T)) hz
   refine⟨_,rfl,_,rfl,?_⟩
   show if (!decide (z∈T))=true then _ else _
   cases hm:decide (z∈T) with
   |true=>
    rw[hm]at tk
    refine bG ?_
    dsimp only
    rw[tk,e];exact congrArg List.length (bs1 _).symm
   |false=>
    rw[hm]at tk
    refine bJ ⟨_,rfl,trivial,?_⟩
    dsimp only
    rw[tk,bo2,bo2,e];rfl
 ·intro acc e
  rw[o5,bp8 (by rw[cF];exact bn1 _)]at e
  refine⟨_,_,rfl,rfl,.inl ⟨_,_,rfl,rfl,trivial,?_⟩⟩
  have ef:dG ws ls ns=decide ((acc.length:Int)=0):=by
   rw[bw0,bq1,aW1 sh sub le,e]
   constructor
   ·intro a
    rw[bA8.mpr λz hz=>by rw[bm4 (a z hz)];decide];rfl
   ·intro z h hh
    have nl:(rng ws.length).filter (λz=>!decide (z∈T)) = []:=List.eq_nil_of_length_eq_zero (by omega)
    have:=bA8.mp nl h hh
    simpa using this
  rw[ef]at q
  exact q
section
variable {ws:af}{ls:aa}{ns S:af}
def eI (S:af)(h:Int):af:=S.filter λz=>!decide (z∈[h])
theorem mP {h x:Int}:x∈eI S h↔x∈S/\x≠h:=by unfold eI;rw[bn3];simp
theorem uG {n:Nat}{h:Int}(hs:aZ n S=true):aZ n (eI S h)=true:=qK hs _
end
theorem aW4 (n:Nat):aZ n (rng n)=true:=zC.set ⟨u0 n,λx hx=>bM.mp hx⟩
end Core
namespace L2
open PySem PySem.Spec PyProof.Rows
theorem aW5 {a b c:af}(h1:HT.bR a b=true)(h2:HT.bR b c=true):HT.bR a c=true:=by
 cases e:HT.bR a c with
 |true=>rfl
 |false=>
  have ca:=rU (nF h2) (nF h1)
  have:=O7 e ca
  subst this
  have:=nF h1
  rw[h2]at this;cases this
theorem zI {α:Type}{p q:α->Bool}:∀{l:List α},(∀x∈l,p x=true->q x=true)->(l.filter p).length<=(l.filter q).length
 |[],_=>bn1 _
 |x::l,h=>by
  have ih:=zI (l:=l) λy hy=>h y (bn5 _ hy)
  have hx:=h x bm8
  rw[br9,br9]
  cases ep:p x with
  |false=>cases q x<;>simp<;>omega
  |true=>rw[hx ep];simp;omega
theorem ad3 {α:Type}{p q:α->Bool}:∀{l:List α},(∀x∈l,p x=true->q x=true)->(∃x∈l,q x=true/\p x=false)->(l.filter p).length<(l.filter q).length
 |[],_,e=>by obtain⟨_,z,_⟩:=e;cases z
 |x::l,h,e=>by
  have hx:=h x bm8
  have h':∀y∈l,p y=true->q y=true:=λy hy=>h y (bn5 _ hy)
  have le:=zI h'
  rw[br9,br9]
  obtain⟨y,hy,qy,py⟩:=e
  rcases bn8.mp hy with rfl|hy
  ·rw[qy,py];simp;omega
  ·have ih:=ad3 h' ⟨y,hy,qy,py⟩
   cases ep:p x with
   |false=>cases q x<;>simp<;>omega
   |true=>rw[hx ep];simp;omega
def mQ (ys:ae)(x:af):Nat:=(ys.filter λy=>HT.bR y x).length
theorem ad4 {ys:ae}{u v:af}(hu:u∈ys)(hv:v∈ys):HT.bR u v=decide ((mQ ys u:Int)<(mQ ys v:Int)):=by
 have irr:∀a:af,HT.bR a a=false:=λa=>by
  cases e:HT.bR a a with
  |false=>rfl
  |true=>have:=nF e;rw[e]at this;cases this
 cases e:HT.bR u v with
 |true=>
  have:mQ ys u<mQ ys v:=ad3 (λx _ h=>aW5 h e) ⟨u,hu,e,irr u⟩
  exact (bm4 (by omega)).symm
 |false=>
  have:mQ ys v<=mQ ys u:=zI λx _ h=>by
   cases e2:HT.bR x u with
   |true=>rfl
   |false=>have:=rU e2 e;rw[h]at this;cases this
  exact (bm9 (by omega)).symm
end L2
namespace L2
open PySem PySem.Spec PyProof.Rows SO
section
variable {prog:Program}{w:World}{A:Around}{E:Value→Shared→Prop}{s:Shared}
theorem aW6 {l b:Addr}{items items2:Array Value}{ns ms:af}{Q:Bool->Shared->Prop}(hl:IsTup s.heap l items)(hb:IsTup s.heap b items2)(hi:IntsAre items.toList ns)(hj:IntsAre items2.toList ms)(hu:A.units<cLine)(h:Q (HT.bR ns ms) s):wpAny (model prog w) A (oneLt' true (.ref l) (.ref b)) Q E s:=by
 obtain⟨⟨cls,dd,data,sl⟩,ho,hc,n,hd⟩:=id hl
 obtain⟨⟨cls2,dd2,data2,sl2⟩,ho2,hc2,n2,hd2⟩:=id hb
 simp only at hc hd hc2 hd2
 subst hc hd hc2 hd2
 rw[oneLt'_eq]
 simp only[if_true]
 refine bm1 (wpAny_cRoomFor hu ?_)
 refine bm1 (wpAny_callSpecialIfBound?_slot (T:="tuple") ⟨_,ho,rfl⟩ PySem.F.slot_tuple_lt (call_meets PySem.F.slot_tuple_lt ⟨_,ho,rfl⟩ PySem.F.entry_tuple_lt (PySem.F.args_tuple_lt_2 _ _) (HT.at6 l b items items2 n n2 dd dd2 sl sl2 ns ms hi hj) ⟨ho,ho2,?_⟩))
 exact by7 h
structure gH (h:Heap)(v:Value)(ns:af):Prop where
 at_:∃b ob us n,v = .ref b/\h.get? b=some ob/\ob.cls = .type "tuple"/\ob.data = .seq (List.toArray us) n/\IntsAre us ns
def zJ (h:Heap)(v:Value):af:=match v with
 |.ref b=>match h.get? b with
  |some ob=>match ob.data with
   |.seq us _=>us.toList.map numOf
   |_=>[]
  |none=>[]
 |_=>[]
theorem ad5:∀{us:List Value}{ns:af},IntsAre us ns->us.map numOf=ns
 |_,_,.nil=>rfl
 |_,_,.cons _ _ h=>by rw[bp2,ad5 h];rfl
theorem gH.ints {h:Heap}{v:Value}{ns:af}(z:gH h v ns):zJ h v=ns:=by
 obtain⟨b,ob,us,n,rfl,e2,_,e4,e5⟩:=z.at_
 unfold zJ
 dsimp only
 rw[e2];dsimp only
 rw[e4];exact ad5 e5
def uH (h:Heap)(ys:ae)(x:Keyed):Int:=(mQ ys (zJ h x.1):Int)
theorem aW7 (ys:ae)(hu:A.units<cLine):cR prog w A E s oneType' (λx=>∃ns∈ys,gH s.heap x.1 ns) (uH s.heap ys):=by
 rintro x y ⟨ns,m1,z⟩ ⟨ms,m2,z'⟩ st Q hk hq
 unfold uH at hq
 rw[z.ints,z'.ints,<- ad4 m1 m2]at hq
 obtain⟨b,ob,us,n,e1,e2,e3,e4,e5⟩:=z.at_
 obtain⟨b',ob',us',n',e1',e2',e3',e4',e5'⟩:=z'.at_
 rw[lt'_eq]
 refine bo0 (wpS_get ?_)
 rw[hk,e1,e1',keyLt'_oneType]
 refine bo0 (wpS_lift (wpAny_attempt (aW6 (items:=us.toArray) (items2:=us'.toArray) ⟨_,e2,e3,_,e4⟩ ⟨_,e2',e3',_,e4'⟩ (by simpa using e5) (by simpa using e5') hu ?_)))
 exact⟨rfl,bp0 hq⟩
def oA (h:Heap)(v:Value):Option Value:=match v with
 |.ref b=>match h.get? b with
  |some ob=>match ob.data with
   |.seq us _=>us[0]?
   |_=>none
  |none=>none
 |_=>none
theorem gH.first {h:Heap}{v:Value}(z:gH h v []):oA h v=none:=by
 obtain⟨b,ob,us,n,rfl,e2,_,e4,e5⟩:=z.at_
 cases e5
 unfold oA
 dsimp only
 rw[e2];dsimp only
 rw[e4];rfl
end
section
variable {M:Model}{A:Around}{E:Value→Shared→Prop}{s:Shared}
theorem ad6:∀(vs:List Value) {Q:List (Option Value)->Shared->Prop},(∀v∈vs,∃ns,gH s.heap v ns)->Q (vs.map (oA s.heap)) s->wpAny M A (vs.mapM firstOfTuple') Q E s
 |[],_,_,h=>by rw[List.mapM_nil];exact bn7 h
 |v::vs,Q,t,h=>by
  obtain⟨ns,z⟩:=t v bm8
  obtain⟨b,ob,us,n,rfl,e2,e3,e4,e5⟩:=z.at_
  have ef:oA s.heap (.ref b)=us.toArray[0]?:=by
   unfold oA
   dsimp only
   rw[e2];dsimp only
   rw[e4]
  rw[List.mapM_cons]
  refine bm1 ?_
  rw[PySem.W.kas_first_eq]
  refine bm1 (PySem.W.Looks.here (show PySem.W.Looks M s.heap (typeOf (.ref b)) ob.cls from (PySem.W.Looks.ld e2).andThen .now) ?_)
  rw[e3,if_neg (by first|decide|simp)]
  refine bm1 (listItems_at e2 e4 (bn7 ?_))
  rw[<- ef]
  exact bm1 (ad6 vs (Q:=λbs s'=>wpAny M A (pure (oA s.heap (.ref b)::bs)) Q E s') (λy hy=>t y (bn5 _ hy)) (bn7 h))
theorem aW8 {v:Value}{vs:List Value}{Q:SortKind->Shared->Prop}(t:∀y∈v::vs,∃ns,gH s.heap y ns)(t0:gH s.heap v [])(h:Q oneType' s):wpAny M A (keyKind' (v::vs).toArray) Q E s:=by
 rw[keyKind'_eq,List.mapM_toArray,map_eq_pure_bind]
 refine bm1 (bm1 (ad6 _ t (bn7 ?_)))
 rw[bp2,t0.first,if_neg (by simp),if_neg (by simp)]
 rw[oneTypeOnly'_eq,List.mapM_toArray,map_eq_pure_bind]
 refine bm1 (bm1 (bm1 (PySem.W.kas_mapM (r:=Value.type "tuple") _ (λy hy Q' hq=>?_) (bn7 ?_))))
 ·obtain⟨ns,z⟩:=t y (by simpa using hy)
  obtain⟨b,ob,us,n,rfl,e2,e3,e4,e5⟩:=z.at_
  refine PySem.W.Looks.here (show PySem.W.Looks M s.heap (typeOf (.ref b)) ob.cls from (PySem.W.Looks.ld e2).andThen .now) ?_
  rw[e3];exact hq
 ·have hall2:((List.map (λ_=>Value.type "tuple") (v::vs)).toArray.all λx=>x==Value.type "tuple")=true:=by
   simp only[List.all_toArray,List.all_map,by4]
   intro _ _
   rfl
  have h0:(List.map (λ_=>Value.type "tuple") (v::vs)).toArray[0]? = some (Value.type "tuple"):=by simp
  rw[h0]
  simp only[hall2,if_true]
  exact bn7 (bn7 h)
end
theorem aW9 {prog:Program}{w:World}{A:Around}{E:Value->Shared->Prop}{s:Shared}{l:Addr}{vs:List Value}{Q:Value->Shared->Prop}{κ:SortKind}{Ok:Keyed->Prop}{rk:Keyed->Int}(hl:s.heap.IsList l vs.toArray)(h2:2<=vs.length)(big:vs.length<=sizeLine)(hk:∀(A:Around) (E:Value->Shared->Prop) (Q:SortKind->Shared->Prop),Q κ { s with heap:=fN (gD s.heap vs) (s.heap.objs.size+1) vs }->wpAny (model prog w) A (keyKind' vs.toArray) Q E { s with heap:=fN (gD s.heap vs) (s.heap.objs.size+1) vs })(hu:A.units+3<cLine)(c:∀(A:Around) (E:Value->Shared->Prop),A.units<cLine->cR prog w A E { s with heap:=fN (gD s.heap vs) (s.heap.objs.size+1) vs } κ Ok rk)(o:∀v∈vs,Ok (v,v))(q:∀out:List Value,out.Perm vs->out.Pairwise (λu v=>rk (u,u)<=rk (v,v))->Q (.ref (s.heap.objs.size+1)) { s with heap:=sortedAll s.heap vs out.toArray }):wpAny (model prog w) A (call (.builtin "sorted") [.ref l]) Q E s:=by
 apply Calls.call_function_entry kind_sorted plain_sorted entry_sorted (args_sorted1 _)
 simp only[Builtin.«sorted»]
 apply bm1 (m:=checkCount "sorted" 1 1 _)
 apply bn7
 apply bm1
 refine collect_list hl ?_ big
 apply bm1
 refine wpAny_newList ?_ big
 have one:((s.heap.push (seqObj "list" #[] 0)).update s.heap.objs.size (Obj.mapSeq (·++vs.toArray))).objs.size=s.heap.objs.size+1:=(Heap.size_update _ _ _).trans (size_push' _ _)
 have at1:(gD s.heap vs).get? (s.heap.objs.size+1)=some (seqObj "list" vs.toArray 0):=one▸bp3 _ rfl
 change wpAny _ _ _ _ _ { s with heap:=gD s.heap vs }
 rw[one]
 apply bm1
 apply by6
 refine bw2 slot_list_sort ⟨_,at1,rfl⟩ entry_list_sort ?_ (args_list_sort _)
 exact aL5 (s:={ s with heap:=gD s.heap vs }) at1 h2 big (hk _ _) (c _ _ (by show A.units+2<cLine;omega)) o λout a1 a2=>⟨_,rfl,bn7 ⟨_,rfl,q out a1 a2⟩⟩
def ad7 (K:ad):List V->Hp->VK->Prop:=λxs H Q=>∃(a:Addr) (ys:List V) (key:V->af),xs = [.ref a]/\aM K H a ys/\ys.length<=4096/\(∀y∈ys,∃b,y = .ref b/\aO K H b ((key y).map V.int))/\(∀y,ys.head? = some y->key y = [])/\
 ∀l (zs:List V),H l=none->zs.Perm ys->zs.Pairwise (λu v=>HT.bR (key v) (key u)=false)->Q (.ref l) (upd H l (.lst zs))
theorem aX0 {X:Cx}(hu:X.A.units+3<cLine):dQ X (.builtin "sorted") (ad7 X.K):=by
 intro pins s σ H xs us Q I r h
 obtain⟨a,ys,key,rfl,hs,hz4,hk,h0,q⟩:=h
 obtain⟨u,rfl,ru⟩:=iA r
 cases ru
 obtain⟨its,rv,p,hz⟩:=I.list hs
 have hl:=rv.length
 have hn:s.heap.objs.size<=s.heap.objs.size+1:=Nat.le_succ _
 by_cases h2:its.length<2
 ·refine O5 p.isList h2 ?_
  obtain⟨e,he⟩:=sortedAll_at s.heap its its.toArray
  refine⟨.ref (s.heap.objs.size+1),upd H (s.heap.objs.size+1) (.lst ys),I.laid (t':=s.toks) (λ_ _=>sortedAll_old) hn ⟨hz,its,e,rv,he⟩,rfl,q _ ys (I.hok.fresh hn) (bB4 _) ?_⟩
  match ys,hl with
  |[],_=>exact bx3
  |[_],_=>exact bq2 _ _
  |_::_::_,hl=>simp at hl;omega
 ·have pv:∀{y:V}{v:Value},b6 y v->y∈ys->gH (fN (gD s.heap its) (s.heap.objs.size+1) its) v (key y):=λ{y v} ry hy=>by
   obtain⟨b,rfl,sq⟩:=hk y hy
   cases ry
   obtain⟨us,ru,⟨ob,e1,c1,n1,d1⟩,_⟩:=I.tuple sq
   exact⟨b,ob,us,n1,rfl,aL4 (br7 (Nat.lt_succ_of_lt (bo6 e1))) (aL3 e1),c1,d1,nB ru⟩
  have pvs:∀{xs:List V}{vs:List Value},aN xs vs->(∀y∈xs,y∈ys)->∀v∈vs,∃ns∈ys.map key,gH (fN (gD s.heap its) (s.heap.objs.size+1) its) v ns:=by
   intro xs vs r
   induction r with
   |nil=>intro _ v hv;cases hv
   |cons rx rt ih=>
    intro hh v hv
    rcases bn8.mp hv with z|z
    ·subst z
     exact⟨_,bn6.mpr ⟨_,hh _ bm8,rfl⟩,pv rx (hh _ bm8)⟩
    ·exact ih (λy hy=>hh y (bn5 _ hy)) v z
  have allp:=pvs rv λ_ h=>h
  obtain⟨v0,vr,ev⟩:∃v0 vr,its=v0::vr:=by
   cases its with
   |nil=>simp at h2
   |cons v0 vr=>exact⟨v0,vr,rfl⟩
  have t0:gH (fN (gD s.heap its) (s.heap.objs.size+1) its) v0 []:=by
   cases rv with
   |nil=>cases ev
   |cons rx rt=>
    cases ev
    have:=pv rx bm8
    rwa [h0 _ rfl]at this
  refine aW9 (κ:=oneType') (Ok:=λx=>∃ns∈ys.map key,gH (fN (gD s.heap its) (s.heap.objs.size+1) its) x.1 ns) (rk:=uH (fN (gD s.heap its) (s.heap.objs.size+1) its) (ys.map key)) p.isList (by omega) (by rw[<- hl];exact hz)
   (λA E Q hQ=>?_) hu (λA E hA=>aW7 (s:={ s with heap:=fN (gD s.heap its) (s.heap.objs.size+1) its }) (ys.map key) hA) (λv hv=>allp v hv) λout pm so=>?_
  ·have tt:∀y∈its,∃ns,gH (fN (gD s.heap its) (s.heap.objs.size+1) its) y ns:=λy hy=>(allp y hy).imp λ_ z=>z.2
   have:=aW8 (M:=model X.prog X.w) (A:=A) (E:=E) (s:={ s with heap:=fN (gD s.heap its) (s.heap.objs.size+1) its }) (v:=v0) (vs:=vr) (Q:=Q) (by rw[<- ev];exact tt) t0 hQ
   rw[<- ev]at this
   exact this
  ·obtain⟨zs,pz,rz⟩:=aL6 pm.symm rv
   obtain⟨e,he⟩:=sortedAll_at s.heap its out.toArray
   refine⟨.ref (s.heap.objs.size+1),upd H (s.heap.objs.size+1) (.lst zs),I.laid (t':=s.toks) (λ_ _=>sortedAll_old) hn ⟨by rw[pz.length_eq];exact hz,out,e,rz,he⟩,rfl,q _ zs (I.hok.fresh hn) pz ?_⟩
   have lz:=rz.length
   rw[bt6]
   intro i j hi hj hij
   have s1:=bt6.mp so i j (by omega) (by omega) hij
   have gi:=pC i hi rz
   have gj:=pC j hj rz
   simp only[bo1,bm6 hi,bm6 hj,bm6 (show i<out.length by omega),bm6 (show j<out.length by omega),Option.getD_some]at gi gj
   have mi:=pz.mem_iff.mp (bz3 hi)
   have mj:=pz.mem_iff.mp (bz3 hj)
   have vi:=pv gi mi
   have vj:=pv gj mj
   unfold uH at s1
   rw[gH.ints vi,gH.ints vj]at s1
   rw[ad4 (bn6.mpr ⟨_,mj,rfl⟩) (bn6.mpr ⟨_,mi,rfl⟩)]
   exact bm9 (by omega)
end L2
namespace PP
open PySem L2
section
variable {X:Cx}{e:Expr}{tr:cU}{pos p2:Pos}
def zK:List PV->(PV->Prop)->Prop:=λxs Q=>∃ys:ae,xs = [.lst (ys.map λr=>PV.tup (intz r))]/\ys.length<=4096/\(∀y,ys.head? = some y->y = [])/\∀zs:ae,zs.Perm ys->zs.Pairwise (λu v=>HT.bR v u=false)->Q (.lst (zs.map λr=>PV.tup (intz r)))
theorem aX1:gS X zK (ad7 X.K):=by
 rintro H vs xs Q Q' r ⟨ys,rfl,hl,hne,q⟩ k
 obtain⟨v,rfl,r1⟩:=r.one
 obtain⟨a,us,rfl,_,h,r2⟩:=r1.sqL
 obtain⟨h1,h2⟩:=yK r2
 have lr:=r2.length
 rw[bm7]at lr
 refine⟨a,us,kR H,rfl,aM.of h,by omega,λy hy=>?_,λy hy=>?_,λl zs hl' pm so=>?_⟩
 ·obtain⟨b,rfl,hb⟩:=h2 y hy
  exact⟨b,rfl,aO.of hb⟩
 ·refine hne _ ?_
  rw[<- h1,List.head?_map,hy];rfl
 ·have hz:∀u∈zs,∃b,u = .ref b/\H b=some (.tup ((kR H u).map V.int)):=λu hu=>h2 u (pm.mem_iff.mp hu)
  refine k _ _ _ (bL hl' _) (.lst hl' bP ((yM hz).same (bL hl' _) λ_ z=>z)) (q _ ?_ ?_)
  ·rw[<- h1];exact pm.map _
  ·rw[bs3];exact so
theorem aX2 (B:Bt X.mg)(hu:X.A.units+3<cLine)(ha:QA X [e] tr)(hg:Gl X "sorted":=by rfl)(he:starEach [e] X.env=(false,eval e X.env)::starEach [] X.env:=by rfl)(hpl:(backTo pos (starEach [] X.env)).any (·.1)=false:=by rfl):QE X (.Call (.Name "sorted" p2) [e] [] pos) (aB zK tr):=
 jE (aX0 hu) aX1 hg B.sorted PyProof.Rows.boot_sorted ha (he:=he) (hpl:=hpl)
end
end PP
namespace Core
open PySem L2 PP
def uI:bI:=λxs Q=>∃n:Nat,xs = [.int n]/\n<=12/\∀Z:ae,Z.Perm (dZ (rng n))->Z.Pairwise (λu v=>HT.bR v u=false)->Q (.lst (tups Z))
def ad8:aT:=(aE (b8 1 (eW (a7 (gR a9) a9)))
 (aE (dU (kD (a5 0)) (bQ 2)
  (b8 1 (aa6 (a5 1) (cT (cO (a5 1)) [none,some 2] (bQ 0) cV (ab1 (a5 0) (gR (a7 (a5 1) a9)))))))
 (bV (aB zK (a7 (a5 1) a9)))))
theorem aX3:c6 ad8 ["many","sets","hearth"] uI:=by
 rintro xs Q ⟨n,rfl,hn,q⟩
 have ln:=zF n
 have l12:2^n<=4096:=bs0 (Nat.pow_le_pow_right (by decide) hn) (by decide)
 refine⟨by decide,rfl,by show 1<=1000;decide,rfl,trivial,?_⟩
 refine⟨_,rfl,(n:Int),rfl,by omega,by omega,λi ρ=>∃y,ρ = [some (.sh true (.int (n:Int))),some (.sh true (.lst (tups (dZ (rng i))))),y] , ⟨none,rfl⟩,?_,?_⟩
 ·rintro i y ρ hy ⟨y2,rfl⟩
  obtain⟨rfl,hi⟩:=kL hy
  have hi:i<n:=by omega
  have li:=zF i
  have l12i:2^i<=4096:=bs0 (Nat.pow_le_pow_right (by decide) (show i<=12 by omega)) (by decide)
  refine gX ?_
  rw[bC4]
  have sh:∀S∈dZ (rng i),S.length<=12:=λS hS=>by
   have:=o4 (n:=i) (aU8.mp ((ac6 i S).mp hS))
   omega
  have nx:dZ (rng (i+1))=dZ (rng i)++(dZ (rng i)).map λp=>p++[(i:Int)]:=by rw[mO,mM]
  generalize dZ (rng i)=A at *
  refine⟨_,rfl,_,rfl,_,rfl,(λz=>by cases z),by rw[kQ];omega,λj acc=>acc=tups ((A.take j).map λp=>p++[(i:Int)]),rfl,?_,?_⟩
  ·rintro j z acc hz rfl
   obtain⟨S,rfl,hS⟩:=Z4 hz
   have sl:=sh S (bm3 hS)
   refine⟨_,rfl,_,rfl,by show 1<=1000;decide,rfl,intz S,intz [(i:Int)],rfl,rfl,eD _,eD _,by rw[bA];show S.length+1<=_;omega,?_⟩
   rw[<- fE]
   refine⟨trivial,?_⟩
   dsimp only
   rw[br1,hS,bp5]
   unfold tups
   rw[bp5];rfl
  rintro acc rfl
  rw[kQ,br4]
  refine⟨_,_,rfl,rfl,yH _,yH _,by rw[kQ,kQ,bm7];omega,trivial,?_⟩
  refine⟨si i,?_⟩
  rw[nx]
  unfold tups
  rw[bp5];rfl
 ·rintro ρ ⟨y,rfl⟩
  rw[gU,bp9]
  refine⟨_,rfl,dZ (rng n),rfl,by omega,λy hy=>?_,λZ pz so=>⟨trivial,q Z pz so⟩⟩
  have h0:(dZ (rng n))[0]? = some y:=by rw[<- List.head?_eq_getElem?];exact hy
  exact ((aU7 n 0 y h0).2.1).mp rfl
end Core
namespace PP
open PySem L2
section
variable {X:Cx}{a b e o:Expr}{ta tb te to:aH}{tr:cU}{pos p2 apos cpos:Pos}{σ:St}{H:Hp}{Q':VK}
open Classical in
def ad9 (K:ad):V->List V->Hp->VK->Prop:=λx vs H Q=>∃(p:Addr) (ns:af) (i:Int),x = .ref p/\vs = [.int i]/\aM K H p (ns.map V.int)/\i∈ns/\ns.length<=16000000/\Q (.int (ns.idxOf i:Nat)) H
theorem aX4:lV X "list.index" (ad9 X.K):=by
 intro pins s σ H x vs v us Q I rx rv h
 obtain⟨p,ns,i,rfl,rfl,hp,hi,hl,q⟩:=h
 cases rx
 obtain⟨u,rfl,t,rfl⟩:=iA rv
 obtain⟨its,r,pl,hz⟩:=I.list hp
 have ia:=nB r
 have hlen:=ia.length
 have hj:ns.idxOf i<ns.length:=List.idxOf_lt_length_iff.mpr hi
 obtain⟨⟨cls,dd,data,sl⟩,ho,hc,n,hd⟩:=id pl.isList
 simp only at hc hd
 subst hc hd
 refine call_meets PySem.F.slot_list_index ⟨_,ho,rfl⟩ PySem.F.entry_list_index (PySem.F.args_list_index_2 _ _)
  (SeqAt.list_indexAt p its.toArray n dd sl (.int i t) (PyProof.Rows.isInt i) (ns.idxOf i) (by simpa[hlen] using hj) (by omega) ?_ ?_) ⟨ho,λy hy=>(PyProof.Rows.eq_isInt i t ia y (by simpa using hy)).at _ _,⟨.int _,H,I.tok _,⟨_,rfl⟩,q⟩⟩
 ·show PyProof.Rows.isInt i its[ns.idxOf i]=true
  rw[PyProof.Rows.isInt_at i ia _ (by omega) hj]
  simpa using List.getElem_idxOf hj
 ·intro j hjs hlt
  show PyProof.Rows.isInt i its[j]=false
  rw[PyProof.Rows.isInt_at i ia j (by simpa using hjs) (by omega)]
  exact PyProof.Rows.ne_of_lt_idxOf hlt _
def uJ (to te:aH):aH:=λρ Q=>to ρ λx _=>∃ns:af,x = .lst (intz ns)/\te ρ λy _=>∃i:Int,y = .int i/\i∈ns/\ns.length<=16000000/\Q (.int (ns.idxOf i:Nat)) .fr
theorem aX5 (h:LE X (uJ to te) σ H Q'):oY X.K "list" (ad9 X.K) (LE X to) (iM (LE X te) jT) σ H Q':=by
 obtain⟨W,ρ,Q,px,q,k⟩:=h
 refine⟨W,ρ,_,px,q,?_⟩
 rintro v H1 x g s1 r1 ⟨ns,rfl,q1⟩
 obtain⟨a,us,rfl,m,ea,r⟩:=r1.sqL
 obtain rfl:=r.ofInts
 refine⟨k7 (aM.of ea),W,ρ,_,px.mono s1,q1,?_⟩
 rintro w H2 y gy s2 r2 ⟨i,rfl,hi,hl,q2⟩
 cases r2
 exact⟨a,ns,i,rfl,rfl,aM.of (s2 _ _ ea),hi,hl,k _ _ _ .fr (s1.trans s2) (.int _) q2⟩
theorem ae0 (ho:QE X o to)(he:QE X e te)(hbase:attributeBase o "index" X.env (eval o X.env)=eval o X.env:=by rfl)(hfew:((backTo cpos (starEach [e] X.env)).all (λx=>!x.1)&&(backToKw cpos (keywordEach [] X.env)).all (λx=>x.1.isSome)&&decide (([e]:List Expr).length+([]:List Keyword).length+(if ([]:List Keyword).isEmpty then 0 else 1)<30))=true:=by rfl)(hline:(apos.endLine==cpos.line)=true:=by rfl)(hs:starEach [e] X.env=(false,eval e X.env)::starEach [] X.env:=by rfl)(hplain:(backTo cpos (starEach [] X.env)).any (·.1)=false:=by rfl) :
  QE X (.Call (.Attribute o "index" apos) [e] [] cpos) (uJ to te):=
 cX (l8 bu5 PySem.F.slot_list_index PySem.F.type_list_index aX4 ho (dJ he eB hs) hbase hfew hline hs hplain) λ_ _ _=>aX5
end
end PP
namespace L2
open PySem PySem.Spec PyProof.Rows
def ae1 (K:ad)(a:Addr)(n:Nat):It:=
 ⟨λi H=>(∃xs,aM K H a xs/\xs.length=n)/\i<n,λi H x H'=>H'=H/\∀xs,aM K H a xs->xs[n-1-i]? = some x,λi H=>i=n⟩
theorem aX6 {P:Program}{w:World}{K:ad}{tg:Expr}(a it:Addr)(n:Nat):jR P w K tg (ae1 K a n) [it] it (λi h=>h.IsRevIter it a ((n:Int)-1-(i:Int))):=by
 refine⟨by simp,λi h st b hb=>?_,λi h h' st k=>st.at λo e=>k it (by simp) o e,?_,?_,λ_ _ _ _ _ st q=>wpAny_pyIter_revIter st q⟩
 ·obtain rfl:b=it:=by simpa using hb
  obtain⟨o,e,c,d⟩:=st
  exact⟨o,e,λv z=>by rw[d]at z;cases z⟩
 ·intro X hP hw hK hc i pins s σ H E I hf st hg
  subst hP hw hK
  obtain⟨⟨xs,hq,hl⟩,hi⟩:=hg
  obtain⟨its,rv,p,hz⟩:=I.list hq
  have lv:=rv.length
  have hx:xs[n-1-i]? = some (xs[n-1-i]'(by omega)):=bm6 (by omega)
  obtain⟨u,hu,ru⟩:=rv.get hx
  obtain⟨f0,f1,f2,f3,f4,f5⟩:=hf it (by simp)
  have e0:(n:Int)-1-(i:Int)=((n-1-i:Nat):Int):=by omega
  rw[e0]at st
  refine wpAny_pyNext_rev_item st p.isList (x:=u) (by simpa using hu) λh' st' sb=>?_
  have I1:a6 X pins σ H { s with heap:=h' }:=I.turned (t':=s.toks) (λb o hb e=>(sb.2 b hb).trans e) f0 f1 f3 f4 f5
  have e1:((n-1-i:Nat):Int)-1=(n:Int)-1-((i+1:Nat):Int):=by omega
  rw[e1]at st'
  obtain⟨o,e,c,d⟩:=id st'
  exact⟨u,rfl,qZ (s:={ s with heap:=h' }) e c d (by decide) ⟨_,H,I1,ru,⟨rfl,λys hy=>by rw[I.list_inj hy hq];exact hx⟩,st',λb hb=>(hf b hb).1⟩⟩
 ·intro X hP hw hK hc i pins s σ H E I hf st hg
  subst hP hw hK
  have hg:i=n:=hg
  subst hg
  obtain⟨f0,f1,f2,f3,f4,f5⟩:=hf it (by simp)
  rw[show (i:Int)-1-(i:Int) = -1 by omega]at st
  exact wpAny_pyNext_rev_end (I.ok.hd hc) st λh' eb=>⟨rfl,I.turned (t':=s.toks) (λb o hb e=>eb b o hb e) f0 f1 f3 f4 f5⟩
section
variable {X:Cx}
def ae2 (K:ad)(ta:TA):TI:=λσ H R=>ta σ H λvs H1=>∃a xs,vs = [.ref a]/\aM K H1 a xs/\R (ae1 K a xs.length) H1
theorem aX7 {tg:Expr}{a:Expr}{ta:TA}{p pos:Pos}(hg:Gl X "reversed")(hm:X.mg "reversed" = none)(ha:PA X [a] ta)(hs:starEach [a] X.env = [(false,eval a X.env)]:=by rfl) :
  PI X tg (.Call (.Name "reversed" p) [a] [] pos) (ae2 X.K ta):=by
 intro pins s σ H R I h
 refine Call_ (kZ I hg hm PyProof.Rows.boot_reversed (bv3 (aR (ha pos pins s σ H _ I h) λus s1 ⟨vs,H1,I1,r1,q1⟩=>?_) (by rw[hs];rfl) (by rfl)))
 obtain⟨a',xs,e,h1,q⟩:=q1
 subst e
 cases r1 with
 |cons r rr=>
  cases rr
  cases r
  obtain⟨us,rv,p1,_⟩:=I1.list h1
  have lv:=rv.length
  refine call_reversed_list p1.isList ?_
  have st:∀t:Nat,(s1.heap.push (revObj a' ((us.toArray.size:Int)-1))).IsRevIter s1.heap.objs.size a' ((xs.length:Int)-1-(0:Nat)):=λ_=>by
   rw[bn9,<- lv]
   exact⟨_,bp3 _ rfl,rfl,by rw[show (xs.length:Int)-1-(0:Nat)=(xs.length:Int)-1 by omega];rfl⟩
  refine wpAny_pyIter_revIter (st 0) ?_
  refine⟨s1.heap.objs.size,[s1.heap.objs.size],_,_,H1,rfl,I1.kept (t':=s1.toks) λb o e=>bm5 _ e,aX6 a' _ xs.length,st 0,λc hc=>?_,q⟩
  obtain rfl:c=s1.heap.objs.size:=by simpa using hc
  exact I1.fpOk (bn1 _) (I1.hok.fresh (bn1 _))
end
end L2
namespace PP
open PySem L2
section
variable {X:Cx}{σ:St}{H:Hp}{te:aH}{R:It→Hp→Prop}{a:Expr}{p2 pos:Pos}
def zL (te:aH):g6:=λρ Q=>te ρ λx g=>∃xs,x = .lst xs/\g≠.rd/\Q xs.reverse (xG g xs)
theorem aX8 (h:LI X (zL te) σ H R):ae2 X.K (iM (LE X te) jT) σ H R:=by
 obtain⟨W,ρ,Q,px,q,k⟩:=h
 refine⟨W,ρ,_,px,q,?_⟩
 rintro v H1 x g s r ⟨xs,rfl,hg,q⟩
 have px1:=px.mono s
 have tw:∀a,W a->∃o,H1 a=some o/\kA o=true:=λa z=>(px1.wm a z).2
 obtain⟨a,us,rfl,m,ea,r⟩:=r.sqL
 have wa:¬W a:=by
  cases g with
  |fr=>exact (px.new m).1
  |nw=>exact m.1
  |sh=>exact m
  |rd=>exact absurd rfl hg
 have lr:=r.length
 have ha:∀W' H',Ev W H1 W' H'->aM X.K H' a us:=λW' H' e=>aM.of (e _ _ ea wa).1
 have rr:=pK px (λz=>absurd z hg) r
 refine⟨a,us,rfl,aM.of ea,k _ _ _ _ s ⟨λW' H' i e hi=>⟨⟨us,ha W' H' e,rfl⟩,?_⟩,λW' H' i v H2 e y hi=>?_,λW' H' e=>?_⟩ q⟩
 ·rw[List.length_reverse]at hi;omega
 ·rw[List.length_reverse]at hi
  obtain⟨rfl,y⟩:=y
  obtain⟨x,hx,rx⟩:=rr.get (y us (ha W' _ e))
  refine⟨aC.refl _,x,?_,rx.keep (e.keep tw)⟩
  rw[List.getElem?_reverse hi,<- lr]
  exact hx
 ·show xs.reverse.length=us.length
  rw[List.length_reverse];omega
theorem aX9 {tg:Expr}(hm:X.mg "reversed" = none)(ha:QE X a te)(hg:Gl X "reversed":=by rfl)(hs:starEach [a] X.env = [(false,eval a X.env)]:=by rfl):QI X tg (.Call (.Name "reversed" p2) [a] [] pos) (zL te):=sQ (aX7 hg hm (dJ ha eB hs) hs) λ_ _ _=>aX8
end
end PP
namespace Core
open PySem L2 PP
def qO (n:Nat)(ps:af):Prop:=ps.length=n/\∀w∈ps,0<=w
def uK:bI:=λxs Q=>∃(ns:af) (m:Nat),xs = [.scr ns,.int m]/\ns.length<=63/\m<=40/\∀ps,qO m ps->Q (.lst (intz ps))
def ae3:aT:=(aE (dS 2 (eW a9))
 (aE (dU (kD (a5 1)) (bQ 3)
  (aE (b8 4 (aB kU (a7 (aB gF (a7 (a5 0) (a7 (qC (.int 2)) a9))) (a7 (cP (a5 3) (qC (.int 30))) a9))))
  (aE (dB (bH (mB (cP (qC (.int 4)) (a5 3)) (aB dM (a7 (a5 0) a9)))) (b8 4 (cP (iS (bD (a5 0) (cP (qC (.int 4)) (a5 3))) (qC (.int 11))) (aB gF (a7 (a5 0) (a7 (qC (.int 2)) a9))))) dA)
  (gT 2 (bD (eW (a7 (cQ (a5 4) (qC (.int 3))) (a7 (cP (qC (.int 1)) (cQ (a5 4) (qC (.int 9)))) (a7 (cQ (a5 4) (sO (qC (.int 10)) (qC (.int 9)))) (a7 (cP (sO (qC (.int 10)) (qC (.int 20))) (cQ (a5 4) (qC (.int 7)))) a9))))) (cQ (iS (a5 4) (qC (.int 10))) (qC (.int 4))))))))
 (j6 2)))
theorem aY0:c6 ae3 ["script","many","prices","k","number"] uK:=by
 rintro xs Q ⟨ns,m,rfl,hl,hm,q⟩
 refine⟨by decide,rfl,rfl,rfl,?_⟩
 refine⟨_,rfl,(m:Int),rfl,by omega,by omega,λi ρ=>∃(ps:af) (y3 y4:Option Slot),ρ = [some (.sh (flat (.scr ns)) (.scr ns)),some (.sh (flat (.int (m:Int))) (.int (m:Int))),some (.own (.lst (intz ps))),y3,y4]/\qO i ps,⟨[],none,none,rfl,rfl,by simp⟩,?_,?_⟩
 ·rintro i y ρ hy ⟨ps,y3,y4,rfl,gp⟩
  obtain⟨rfl,hi⟩:=kL hy
  rw[bp9]at hi
  refine gX ?_
  rw[bC4]
  refine⟨_,rfl,_,ns,2,rfl,.inl rfl,by decide,_,rfl,_,_,rfl,rfl,_,_,rfl,by omega,by omega,λz z0=>⟨trivial,?_⟩⟩
  have tail:∀c:Int,(gT 2 (bD (eW (a7 (cQ (a5 4) (qC (.int 3))) (a7 (cP (qC (.int 1)) (cQ (a5 4) (qC (.int 9)))) (a7 (cQ (a5 4) (sO (qC (.int 10)) (qC (.int 9)))) (a7 (cP (sO (qC (.int 10)) (qC (.int 20))) (cQ (a5 4) (qC (.int 7)))) a9))))) (cQ (iS (a5 4) (qC (.int 10))) (qC (.int 4)))))
    { nx:=λρ=>∃(ps:af) (y3 y4:Option Slot),ρ = [some (.sh (flat (.scr ns)) (.scr ns)),some (.sh (flat (.int (m:Int))) (.int (m:Int))),some (.own (.lst (intz ps))),y3,y4]/\qO (i+1) ps,rt:=Q,ct:=λρ=>∃(ps:af) (y3 y4:Option Slot),ρ = [some (.sh (flat (.scr ns)) (.scr ns)),some (.sh (flat (.int (m:Int))) (.int (m:Int))),some (.own (.lst (intz ps))),y3,y4]/\qO (i+1) ps,bk:=(j6 2) { nx:=λ_=>Q .non,rt:=Q } }
    [some (.sh (flat (.scr ns)) (.scr ns)),some (.sh (flat (.int (m:Int))) (.int (m:Int))),some (.own (.lst (intz ps))),si i,si c]:=λc=>by
   have j0:0<=c/10%4:=bv6 _ (by decide)
   have j1:c/10%4<4:=bB8 _ (by decide)
   have odd:∃p:Int,0<=p/\L2.atI [PV.int (c%3),.int (1+c%9),.int (c%10^(9:Int).toNat),.int (10^(20:Int).toNat+c%7)] (c/10%4)=some (.int p):=by
    generalize c/10%4=j at j0 j1
    have e1:0<=c%3:=bv6 _ (by decide)
    have e2:0<=c%9:=bv6 _ (by decide)
    have e3:0<=c%10^(9:Int).toNat:=bv6 _ (by decide)
    have e4:0<=c%7:=bv6 _ (by decide)
    have e5:(0:Int)<=10^(20:Int).toNat:=by decide
    rcases (show j=0∨j=1∨j=2∨j=3 by omega) with rfl|rfl|rfl|rfl
    ·exact⟨_,e1,rfl⟩
    ·exact⟨_,by omega,rfl⟩
    ·exact⟨_,e3,rfl⟩
    ·exact⟨_,Int.add_nonneg e5 e4,rfl⟩
   obtain⟨p,p0,at4⟩:=odd
   refine⟨_,rfl,_,rfl,_,_,rfl,rfl,(by show (0:Int)<3;decide),_,rfl,_,_,rfl,rfl,(by show (0:Int)<9;decide),_,_,rfl,rfl,_,rfl,_,_,rfl,rfl,⟨by decide,by decide,by decide⟩,_,_,rfl,rfl,(by show (0:Int)<10^(9:Int).toNat;decide),
    _,_,rfl,rfl,⟨by decide,by decide,by decide⟩,_,rfl,_,_,rfl,rfl,(by show (0:Int)<7;decide),_,_,rfl,rfl,by show 4<=1000;decide,rfl,_,rfl,_,_,rfl,rfl,⟨by decide,by decide⟩,_,_,rfl,rfl,(by show (0:Int)<4;decide),?_⟩
   refine⟨_,_,_,rfl,rfl,at4,trivial,by rw[bA,gp.1];omega,ps++[p],si i,si c,?_,?_⟩
   ·rw[fE];rfl
   ·refine⟨by rw[bo2,gp.1];rfl,λw hw=>?_⟩
    rcases bn0.mp hw with hw|hw
    ·exact gp.2 w hw
    ·rw[bm2]at hw;omega
  refine⟨_,rfl,_,_,rfl,rfl,_,rfl,_,_,rfl,rfl,_,_,rfl,rfl,_,rfl,?_⟩
  show if decide (4+(i:Int)<(ns.length:Int))=true then _ else _
  by_cases h4:4+(i:Int)<(ns.length:Int)
  ·rw[bm4 h4]
   have hl4:4+i<ns.length:=by omega
   have ix:L2.atI (intz ns) (4+(i:Int))=some (.int ns[4+i]):=by
    have:=jU (xs:=intz ns) (j:=4+i) (v:=.int ns[4+i]) (by show (List.map PV.int ns)[_]? = _;rw[bn4,bm6 hl4];rfl)
    exact this
   exact bJ ⟨_,rfl,_,rfl,_,_,rfl,rfl,_,_,_,rfl,rfl,ix,_,_,rfl,rfl,⟨by decide,by decide⟩,_,rfl,_,ns,2,rfl,.inl rfl,by decide,_,_,rfl,rfl,trivial,tail _⟩
  ·rw[bm9 h4]
   exact bG (tail z)
 ·rintro ρ ⟨ps,y3,y4,rfl,gp⟩
  rw[gU,bp9]at gp
  exact⟨_,rfl,trivial,q ps gp⟩
def mR (h:Int):af->af
 |[]=>[h]
 |a::r=>if h<=a then h::a::r else a::mR h r
theorem zM (h:Int):∀A:af,(mR h A).Perm (A++[h])
 |[]=>bB4 _
 |a::r=>by
  show (if h<=a then h::a::r else a::mR h r).Perm _
  split
  ·exact bB9 (l₁:=[h]) (l₂:=a::r)
  ·exact (zM h r).cons a
theorem ae4 (h:Int):∀{A:af},A.Pairwise (· <= ·)->(mR h A).Pairwise (· <= ·)
 |[],_=>bq2 _ _
 |a::r,p=>by
  have p':=bv2.mp p
  show (if h<=a then h::a::r else a::mR h r).Pairwise _
  split
  ·rename_i z
   exact bv2.mpr ⟨λx hx=>by
    rcases bn8.mp hx with rfl|hx
    ·exact z
    ·exact Int.le_trans z (p'.1 x hx),p⟩
  ·rename_i z
   exact bv2.mpr ⟨λx hx=>by
    rcases bn0.mp ((zM h r).mem_iff.mp hx) with hx|hx
    ·exact p'.1 x hx
    ·rw[bm2]at hx;omega,ae4 h p'.2⟩
theorem aY1 {motive:af->Prop}(z:motive [])(sn:∀L x,motive L->motive (L++[x])):∀L,motive L:=λL=>by
 have:∀R:af,motive R.reverse:=by
  intro R
  induction R with
  |nil=>exact z
  |cons x r ih=>rw[List.reverse_cons];exact sn _ _ ih
 have:=this L.reverse
 rwa [List.reverse_reverse]at this
theorem aY2 {ps:aa}{i:Nat}{y:PV}(h:(b7 ps)[i]? = some y):∃p:Int×Int,y = .tup [.int p.1,.int p.2]/\ps[i]? = some p:=by
 unfold b7 at h
 rw[bn4]at h
 cases e:ps[i]? with
 |none=>rw[e]at h;cases h
 |some p=>rw[e]at h;cases h;exact⟨p,rfl,rfl⟩
def dD (O:af):af:=O.foldl (λA h=>mR h A) []
theorem aY3 (O:af)(h:Int):dD (O++[h])=mR h (dD O):=by unfold dD;rw[List.foldl_append];rfl
theorem mS:∀O:af,(dD O).Perm O/\(dD O).Pairwise (· <= ·):=by
 refine aY1 ⟨bB4 _,.nil⟩ ?_
 rintro O h ⟨i1,i2⟩
 rw[aY3]
 exact⟨(zM h _).trans (i1.append_right [h]),ae4 h i2⟩
theorem aY4 {O ms:af}(p:ms.Perm O)(s:ms.Pairwise (· <= ·)):ms=dD O:=yO (p.trans (mS O).1.symm) s (mS O).2
def wN (ws:af)(ls:aa)(ns R:af):Prop:=ac8 ws ls ns R=true/\iH ws ls (ns++R)
end Core
namespace L2
open PySem PySem.Spec PyProof.Rows PP
section
variable {prog:Program}{w:World}{A:Around}{R:Result→Shared→Prop}{I S:Addr}{n:Nat}{l:Addr}{its:Array Value}{s0:Shared}{bt:Nat→Nat→Bool}
abbrev at_ (s:Shared)(h:Heap)(k:Nat):Shared:={ s with heap:=h,toks:=k }
abbrev aY5 (g h:Heap):Prop:=∀b o,g.get? b=some o->h.get? b=some o
def cR (prog:Program)(w:World)(A:Around)(s0:Shared)(its:Array Value)(bt:Nat->Nat->Bool):Prop:=
 ∀(i j:Nat) (v u:Value) (h:Heap) (k:Nat) (Q E:Value->Shared->Prop),its[i]? = some v->its[j]? = some u->aY5 s0.heap h->Q (.bool (bt i j)) (at_ s0 h k)->wpAny (model prog w) A (richCompare .Lt v u) Q E (at_ s0 h k)
end
end L2
namespace Core
open PySem L2 PP
def FB (L:ae)(f:af->Int)(r:af):Prop:=∃i,L[i]? = some r/\(∀(j:Nat) (s:af),j<i->L[j]? = some s->f s<f r)/\∀s∈L,f s<=f r
def e6 (n:Nat)(ls:aa):Prop:=(∀l∈ls,0<=l.1/\l.1<l.2/\l.2<(n:Int))/\ls.length<=1700/\ls.Pairwise jF
def gI (S:af)(l:Int×Int):Bool:=decide (l.1∈S)&&decide (l.2∈S)
structure Moved (ws os ws':af):Prop where
 len:ws'.length=ws.length
 at_:∀h:Nat,h<ws.length->ws'[(os.getD h 0).toNat]? = ws[h]?
theorem aY6 {ls:aa}(h:ls.Pairwise jF):ls.Nodup:=h.imp λ{a b} z e=>by subst e;unfold jF at z;omega
def zN (S:af)(l:Int×Int):Bool:=decide (l.1∈S)&&decide (l.2∈S)
def zO (r c:Int)(l:Int×Int):Bool:=decide (0<=l.1)&&(decide (l.1<r)&&(decide (0<=l.2)&&decide (l.2<c)))
def aY7 (l:Int×Int):aa:=[(l.1-1,l.2),(l.1,l.2-1),(l.1,l.2+1),(l.1+1,l.2)]
def zP (r c:Int)(l:Int×Int):aa:=(aY7 l).filter (zO r c)
theorem e7:∀{l m:af},l.Nodup->(∀x∈l,x∈m)->l.length<=m.length
 |[],_,_,_=>br5 _
 |a::r,m,nd,h=>by
  have hm:=h a bm8
  have:=e7 (l:=r) (m:=m.erase a) (bs4.mp nd).2 λx hx=>(List.mem_erase_of_ne (show x≠a from λe=>(bs4.mp nd).1 (by rw[<- e];exact hx))).mpr (h x (bn5 _ hx))
  rw[List.length_erase_of_mem hm]at this
  have:=bA9 hm
  rw[bo5];omega
section
variable {ls:aa}{n:Nat}{B:af}
def ins (ls:aa)(S:af)(h:Int):Nat:=((aJ ls h).filter λx=>decide (x∈S)).length
def Two (ls:aa)(S:af):Prop:=∀h∈S,2<=ins ls S h
theorem aY8 {S:af}{h:Int}(nd:(aJ ls h).Nodup)(t:2<=ins ls S h):∃a b,a∈aJ ls h/\b∈aJ ls h/\a∈S/\b∈S/\a≠b:=by
 unfold ins at t
 have n2:=nd.filter (λx=>decide (x∈S))
 have mem:∀x∈(aJ ls h).filter λx=>decide (x∈S),x∈aJ ls h/\x∈S:=λx hx=>⟨(bn3.mp hx).1,bq3 (bn3.mp hx).2⟩
 cases e:(aJ ls h).filter λx=>decide (x∈S) with
 |nil=>rw[e]at t;simp at t
 |cons x r=>
  cases r with
  |nil=>rw[e]at t;simp at t
  |cons y z=>
   rw[e]at n2 mem
   have h1:=mem x bm8
   have h2:=mem y (bn5 _ bm8)
   exact⟨x,y,h1.1,h2.1,h1.2,h2.2,λz=>(bs4.mp n2).1 (by rw[z];exact bm8)⟩
end
section
variable {ls:aa}{B:af}
structure cG (ls:aa):Prop where
 lt:∀l∈ls,l.1<l.2
 ord:ls.Pairwise jF
theorem cG.nnd (f:cG ls)(h:Int):(aJ ls h).Nodup:=ab3 f.lt f.ord
theorem cG.irr (f:cG ls)(h:Int):h∉aJ ls h:=λz=>by
 rcases L2.dL.mp z with z|z<;>exact absurd (f.lt _ z) (Int.lt_irrefl _)
end
def uL (d:Int):Int:=if d-1>0 then d-1 else 0
def zQ (ls:aa)(S:af):Prop:=∀U,Two ls U->(∀x∈U,x∈S)->U = []
theorem e6.fit {n:Nat}{ls:aa}(lk:e6 n ls):cG ls:=⟨λl hl=>(lk.1 l hl).2.1,lk.2.2⟩
def oB (L:af)(h:Int)(l:Int×Int):Bool:=decide (h∈[l.1,l.2])&&(decide (l.1∈L)&&decide (l.2∈L))
theorem ae5 {L:af}{h:Int}(hh:h∈L):∀{ls:aa},(∀l∈ls,l.1≠l.2)->(ls.filter (oB L h)).length=ins ls L h
 |[],_=>rfl
 |l::r,ne=>by
  have ih:=ae5 hh (ls:=r) λm hm=>ne m (bn5 _ hm)
  have e:aJ (l::r) h=((if l.1=h then [l.2] else [])++(if l.2=h then [l.1] else []))++aJ r h:=rfl
  have n0:=ne l bm8
  unfold ins at ih ⊢
  rw[e,bz5,bo2,<- ih]
  by_cases a:l.1=h
  ·have b:¬l.2=h:=λz=>n0 (a.trans z.symm)
   have a1:l.1∈L:=by rw[a];exact hh
   have a2:h∈[l.1,l.2]:=by rw[a];exact bm8
   rw[if_pos a,if_neg b,bs1]
   by_cases c:l.2∈L
   ·rw[bu6 (by unfold oB;rw[bm4 a2,bm4 a1,bm4 c];rfl),bu6 (by simpa using c),bo5]
    show _=1+_
    omega
   ·rw[bt4 (by unfold oB;rw[bm9 c,bB3,bB3];decide),bt4 (by simpa using c)]
    show _=0+_
    omega
  ·by_cases b:l.2=h
   ·have a1:l.2∈L:=by rw[b];exact hh
    have a2:h∈[l.1,l.2]:=by rw[b];exact bn5 _ bm8
    rw[if_neg a,if_pos b,List.nil_append]
    by_cases c:l.1∈L
    ·rw[bu6 (by unfold oB;rw[bm4 a2,bm4 a1,bm4 c];rfl),bu6 (by simpa using c),bo5]
     show _=1+_
     omega
    ·rw[bt4 (by unfold oB;rw[bm9 c,Bool.false_and,bB3];decide),bt4 (by simpa using c)]
     show _=0+_
     omega
   ·have a2:h∉[l.1,l.2]:=λz=>by
     simp only[bn8,bq9,by9]at z
     rcases z with z|z
     ·exact a z.symm
     ·exact b z.symm
    rw[if_neg a,if_neg b,bt4 (by unfold oB;rw[bm9 a2,Bool.false_and];decide)]
    show _=0+_
    omega
def keep2 (ls:aa)(L:af):af:=L.filter λh=>decide (2<=ins ls L h)
end Core
namespace L2
open PySem PySem.Spec PyProof.Rows SO
abbrev kk (l:Int×Int):List aK:=[Sum.inl l.1,Sum.inl l.2]
end L2
namespace Core
open PySem L2 PP
inductive qP (r c:Int)(S:aa):Int×Int->Prop
 |seed {x:Int×Int}:x∈S->qP r c S x
 |kin {x a b:Int×Int}:zO r c x=true->a∈zP r c x->b∈zP r c x->a≠b->qP r c S a->qP r c S b->qP r c S x
def nbC (r c:Int)(P:aa)(x:Int×Int):Nat:=(P.filter λp=>decide (x∈zP r c p)).length
structure Wk (r c:Int)(S K P:aa):Prop where
 nd:K.Nodup
 ndP:P.Nodup
 sub:∀x∈P,x∈K
 brn:∀x∈K,qP r c S x
 sd:∀x∈S,x∈K
 bd:∀x∈K,zO r c x=true
 low:∀x,x∉K->nbC r c P x<2
theorem aY9 {α:Type}{l:List α}{i:Nat}{x:α}(nd:l.Nodup)(h:l[i]? = some x):x∉l.take i:=λz=>by
 have:(l.take (i+1)).Nodup:=nd.sublist (List.take_sublist _ _)
 rw[br1,h]at this
 exact (bv1.mp this).2.2 x z x (by simp) rfl
end Core
namespace L2
open PySem PySem.Spec PyProof.Rows SO
abbrev kn (ns:af):List aK:=ns.map Sum.inl
end L2
namespace Core
open PySem L2 PP
structure Bx where
 t:Int
 l:Int
 b:Int
 r:Int
deriving DecidableEq
def Bx.k (x:Bx):af:=[x.t,x.l,x.b,x.r]
def okX (x:Bx):Prop:=x.t<=x.b/\x.l<=x.r
def inX (x:Bx)(p:Int×Int):Prop:=x.t<=p.1/\p.1<=x.b/\x.l<=p.2/\p.2<=x.r
def ae6 (x a:Int×Int):Prop:=(a.1=x.1/\(a.2=x.2-1∨a.2=x.2+1))∨(a.2=x.2/\(a.1=x.1-1∨a.1=x.1+1))
def Clo (B:Bx)(U:Int×Int->Prop):Prop:=∀x a b,inX B x->ae6 x a->ae6 x b->a≠b->U a->U b->U x
section
variable {B:Bx}{U:Int×Int→Prop}
variable {t l b r:Int}
section
variable (cl:Clo B U){p1 p2:Int}(u:U (p1, p2))(ip:inX B (p1, p2))
include cl u ip
end
end
abbrev aZ0:=Int×Int
theorem aZ1 {i:Nat}{x:PV}{g:Bool}{ρ:bN}{Q:bN->Prop}(f:flat x=true)(q:Q (ρ.set i (some (.sh true x)))):bQ i x g ρ Q:=by
 unfold bQ
 rw[f,Bool.or_true]
 exact q
theorem qQ {b:Bool}{x:PV}{P:Prop}(h:(Slot.sh b x).tag = .rd):P:=by cases b<;>cases h
abbrev bxP (x:Bx):PV:=.tup (intz x.k)
theorem aZ2 (a b:List aZ0):b7 a++b7 b=b7 (a++b):=by unfold b7;rw[bp5]
theorem zR {i j:Nat}{a b:Int}{g:Bool}{ρ:bN}{Q:bN->Prop}(q:Q ((ρ.set i (si a)).set j (si b))):gV i j (.tup [.int a,.int b]) g ρ Q:=by
 refine⟨_,_,rfl,?_⟩
 rw[show flat (.int a)=true from rfl,show flat (.int b)=true from rfl,Bool.or_true]
 exact q
section
variable {ns:af}{a r c z t l:Int}{Q:PV→Prop}(q:∀x:Bx, Q (bxP x))
include q
end
theorem ae7 {α:Type}(p q:α->Bool):∀l:List α,(l.filter p).length=(l.filter λx=>p x&&!q x).length+(l.filter λx=>q x&&p x).length
 |[]=>rfl
 |a::r=>by
  have ih:=ae7 p q r
  rw[br9,br9,br9]
  cases p a<;>cases q a<;>simp<;>omega
section
variable {ls:aa}{n:Nat}{U:af}{v:Int}
theorem aZ3 (hv:v∈U)(ne:∀l∈ls,l.1≠l.2):(ls.filter (gI U)).length=(ls.filter (gI (eI U v))).length+ins ls U v:=by
 rw[<- ae5 hv ne,ae7 (gI U) (λl=>decide (v∈[l.1,l.2])) ls]
 congr 2
 refine List.filter_congr λl _=>?_
 unfold gI
 rw[bw0]
 simp only[br3,Bool.not_eq_true',bq1,bs7,mP,bn8,bq9,by9,not_or]
 constructor
 ·rintro⟨⟨a,b⟩,c,d⟩;exact⟨⟨a,λz=>c z.symm⟩,b,λz=>d z.symm⟩
 ·rintro⟨⟨a,c⟩,b,d⟩;exact⟨⟨a,b⟩,λz=>c z.symm,λz=>d z.symm⟩
theorem ae8 {h:Int}(x:Int)(hx:x∈comp ls (eI U v) h):x∈comp ls U h:=by
 obtain⟨h1,h2⟩:=gY.mp hx
 exact gY.mpr ⟨(mP.mp h1).1,λW hW hh=>h2 W (λa ha b hb bS=>hW a ha b hb (mP.mp bS).1) hh⟩
theorem eJ {S:af}{h:Int}:h∈aW ls S↔h∈S/\(comp ls S h).head? = some h:=by
 unfold aW qM
 rw[bn3]
 exact⟨λz=>⟨z.1,@bq3 _ _ z.2⟩,λz=>⟨z.1,@bm4 _ _ z.2⟩⟩
theorem zT (hU:aZ n U=true){h:Int}(hh:h∈aW ls U)(ne:h≠v):h∈aW ls (eI U v):=by
 obtain⟨h1,h2⟩:=eJ.mp hh
 have hb:h∈eI U v:=mP.mpr ⟨h1,ne⟩
 refine eJ.mpr ⟨hb,zG (gZ (uG hU)) (fQ hb) λx hx=>?_⟩
 have:=(jG (gZ hU) h2).2 x (ae8 x hx)
 omega
theorem uM (hU:aZ n U=true):(aW ls U).Nodup:=by
 have:U.Nodup:=(gE (eN hU).1).imp λh=>bw4 h
 exact this.filter _
theorem aZ4 (f:cG ls)(hU:aZ n U=true)(hv:v∈U):(aW ls U).length<=(aW ls (eI U v)).length+(if ins ls U v=0 then 1 else 0):=by
 have nd:=uM (ls:=ls) hU
 by_cases hh:v∈aW ls U
 ·by_cases i0:ins ls U v=0
  ·rw[if_pos i0]
   have:=e7 nd (m:=v::aW ls (eI U v)) λx hx=>by
    by_cases e:x=v
    ·rw[e];exact bm8
    ·exact bn5 _ (zT hU hx e)
   rw[bo5]at this
   exact this
  ·rw[if_neg i0]
   obtain⟨w,hw⟩:∃w,w∈(aJ ls v).filter λx=>decide (x∈U):=by
    cases e:(aJ ls v).filter λx=>decide (x∈U) with
    |nil=>exact absurd (show ins ls U v=0 by unfold ins;rw[e];rfl) i0
    |cons a r=>exact⟨a,bm8⟩
   obtain⟨w1,w2⟩:=bn3.mp hw
   have w2:w∈U:=bq3 w2
   have wv:w≠v:=λe=>f.irr v (e▸w1)
   have wb:w∈eI U v:=mP.mpr ⟨w2,wv⟩
   have cs:=gZ (ls:=ls) (h:=w) (uG (h:=v) hU)
   obtain⟨a,ha⟩:∃a,(comp ls (eI U v) w).head? = some a:=by
    cases e:comp ls (eI U v) w with
    |nil=>have:=fQ (ls:=ls) wb;rw[e]at this;cases this
    |cons a r=>exact⟨a,rfl⟩
   have am:=(jG cs ha).1
   have ab:=qL a am
   have ahd:a∈aW ls (eI U v):=eJ.mpr ⟨ab,by rw[kT (uG hU) am wb];exact ha⟩
   have wc:w∈comp ls U v:=iJ v (fQ hv) w w1 w2
   have ac:a∈comp ls U v:=by rw[<- kT hU wc hv];exact ae8 a am
   have an:a∉aW ls U:=λz=>by
    have h1:=(eJ.mp z).2
    rw[kT hU ac hv,(eJ.mp hh).2]at h1
    exact (mP.mp ab).2 (bo9 h1).symm
   have nd2:(a::(aW ls U).erase v).Nodup:=bs4.mpr ⟨λz=>an (List.mem_of_mem_erase z),nd.erase v⟩
   have:=e7 nd2 (m:=aW ls (eI U v)) λx hx=>by
    rcases bn8.mp hx with rfl|hx
    ·exact ahd
    ·have h2:=(nd.mem_erase_iff).mp hx
     exact zT hU h2.2 h2.1
   rw[bo5,List.length_erase_of_mem hh]at this
   have:=bA9 hh
   omega
 ·have:=e7 nd (m:=aW ls (eI U v)) λx hx=>zT hU hx λe=>hh (e▸hx)
  omega
noncomputable def mu (ls:aa)(U:af):Int:=((ls.filter (gI U)).length:Int)-(U.length:Int)+((aW ls U).length:Int)
theorem ae9 (nd:U.Nodup)(hv:v∈U):(eI U v).length+1=U.length:=by
 have e:eI U v=U.erase v:=by
  unfold eI
  rw[nd.erase_eq_filter]
  refine List.filter_congr λx _=>?_
  by_cases h:x=v<;>simp[h]
 rw[e,List.length_erase_of_mem hv]
 have:=bA9 hv
 omega
theorem aZ5 (f:cG ls)(hU:aZ n U=true)(hv:v∈U):mu ls U<=mu ls (eI U v)+uL (ins ls U v:Int):=by
 have a:=aZ3 hv (λl hl=>bw4 (f.lt l hl))
 have b:=aZ4 f hU hv
 have c:=ae9 ((gE (eN hU).1).imp λh=>bw4 h) hv
 unfold mu uL
 by_cases i0:ins ls U v=0
 ·rw[if_pos i0]at b
  rw[if_neg (by omega)];omega
 ·rw[if_neg i0]at b
  by_cases i1:(ins ls U v:Int)-1>0
  ·rw[if_pos i1];omega
  ·rw[if_neg i1];omega
theorem zU (f:cG ls):∀(k:Nat) (T:af),T.length<=k->aZ n T=true->zQ ls T->mu ls T<=0
 |0,T,hl,_,_=>by
  have:T = []:=List.length_eq_zero_iff.mp (by omega)
  subst this
  have:ls.filter (gI []) = []:=bA8.mpr λl _=>by simp[gI]
  unfold mu
  rw[this]
  show (0:Int)-0+((([]:af).filter _).length:Int)<=0
  simp
 |k+1,T,hl,hT,no=>by
  by_cases e:T = []
  ·exact zU f k T (by rw[e];simp) hT no
  ·obtain⟨v,hv,hi⟩:∃v,v∈T/\ins ls T v<2:=br8 λz=>e (no T (λh hh=>bB0 λq=>z ⟨h,hh,q⟩) λ_ h=>h)
   have nd:T.Nodup:=(gE (eN hT).1).imp λh=>bw4 h
   have bl:=ae9 nd hv
   have ih:=zU f k (eI T v) (by omega) (uG hT) λU hU sub=>no U hU λx hx=>(mP.mp (sub x hx)).1
   have st:=aZ5 f hT hv
   have:uL (ins ls T v:Int)=0:=by unfold uL;rw[if_neg (by omega)]
   omega
end
def oC:bI:=λxs Q=>∃ws ls,xs = [b9 ws ls]/\Wb ws ls/\Q (.lst (tups (iV ls (rng ws.length))))
def af0:aT:=(bV (aB (uC λ_=>False) (a7 (a5 0) (a7 (aB u8 (a7 (a5 0) (a7 (gR a9) a9))) a9))))
theorem aZ6:c6 af0 ["web"] oC:=by
 rintro xs Q ⟨ws,ls,rfl,wb,q⟩
 have few:=wb.few
 have e:lG ws.length []=rng ws.length:=bz0.mpr λx _=>by simp
 have rs:=aW4 ws.length
 refine⟨_,rfl,_,rfl,by show 0<=1000;decide,rfl,ws,ls,_,[],rfl,.inl rfl,by decide,by omega,ws,ls,_,lG ws.length [],rfl,wb,.inl rfl,?_,λ_=>⟨trivial,?_⟩,λz=>?_⟩
 ·rw[e,cF];omega
 ·rw[e];exact q
 ·rw[e,rs]at z;cases z
abbrev Wys:=List (Int×af)
section
variable {ls:aa}{l:Int×Int}{n:Nat}{S U:af}{h x y:Int}
theorem zV:y∈aJ (l::ls) x↔y∈aJ ls x∨l=(x,y)∨l=(y,x):=by
 rw[L2.dL,L2.dL,bn8,bn8]
 constructor
 ·rintro ((e|e)|(e|e))
  ·exact .inr (.inl e.symm)
  ·exact .inl (.inl e)
  ·exact .inr (.inr e.symm)
  ·exact .inl (.inr e)
 ·rintro ((e|e)|(e|e))
  ·exact .inl (.inr e)
  ·exact .inr (.inr e)
  ·exact .inl (.inl e.symm)
  ·exact .inr (.inl e.symm)
theorem qR (hS:aZ n S=true)(hh:h∈S)(hU:eG ls S U)(hu:h∈U)(le:∀x∈U,x∈S->h<=x):h∈aW ls S:=
 eJ.mpr ⟨hh,zG (gZ hS) (fQ hh) λx hx=>le x ((gY.mp hx).2 U hU hu) (qL x hx)⟩
theorem zW (hS:aZ n S=true)(hh:h∈aW ls S)(no:h∉aW (l::ls) S):gI S l=true/\(l.1∈comp ls S h∨l.2∈comp ls S h):=by
 obtain⟨h1,h2⟩:=eJ.mp hh
 have le:=(jG (gZ hS) h2).2
 refine br8 λhn=>no (qR hS h1 (U:=comp ls S h) (λx hx y hy yS=>?_) (fQ h1) λx hx _=>by have:=le x hx;omega)
 rcases zV.mp hy with e|e|e
 ·exact iJ x hx y e yS
 ·refine absurd ⟨?_,.inl (by rw[e];exact hx)⟩ hn
  unfold gI;rw[e,br3];exact⟨bm4 (qL x hx),bm4 yS⟩
 ·refine absurd ⟨?_,.inr (by rw[e];exact hx)⟩ hn
  unfold gI;rw[e,br3];exact⟨bm4 yS,bm4 (qL x hx)⟩
theorem uN (hS:aZ n S=true){a b z:Int}(ha:a∈aW ls S)(hb:b∈aW ls S)(za:z∈comp ls S a)(zb:z∈comp ls S b):a=b:=by
 obtain⟨a1,a2⟩:=eJ.mp ha
 obtain⟨b1,b2⟩:=eJ.mp hb
 rw[<- kT hS za a1]at a2
 rw[<- kT hS zb b1,a2]at b2
 exact bo9 b2
theorem af1 (hS:aZ n S=true){a b:Int}(ha:a∈aW ls S)(hb:b∈aW ls S)(la:l.1∈comp ls S a)(lb:l.2∈comp ls S b)(lt:a<=b):a∈aW (l::ls) S:=by
 obtain⟨a1,a2⟩:=eJ.mp ha
 obtain⟨b1,b2⟩:=eJ.mp hb
 have lea:=(jG (gZ hS) a2).2
 have leb:=(jG (gZ hS) b2).2
 refine qR hS a1 (U:=comp ls S a++comp ls S b) (λx hx y hy yS=>?_) (bn0.mpr (.inl (fQ a1))) λx hx _=>?_
 ·rcases zV.mp hy with e|e|e
  ·rcases bn0.mp hx with z|z
   ·exact bn0.mpr (.inl (iJ x z y e yS))
   ·exact bn0.mpr (.inr (iJ x z y e yS))
  ·rw[e]at lb;exact bn0.mpr (.inr lb)
  ·rw[e]at la;exact bn0.mpr (.inl la)
 ·rcases bn0.mp hx with z|z
  ·have:=lea x z;omega
  ·have:=leb x z;omega
theorem af2 (hS:aZ n S=true){a b:Int}(ha:a∈aW ls S)(hb:b∈aW ls S)(la:l.1∈comp ls S a)(lb:l.2∈comp ls S b)(lt:b<=a):b∈aW (l::ls) S:=by
 obtain⟨a1,a2⟩:=eJ.mp ha
 obtain⟨b1,b2⟩:=eJ.mp hb
 have lea:=(jG (gZ hS) a2).2
 have leb:=(jG (gZ hS) b2).2
 refine qR hS b1 (U:=comp ls S a++comp ls S b) (λx hx y hy yS=>?_) (bn0.mpr (.inr (fQ b1))) λx hx _=>?_
 ·rcases zV.mp hy with e|e|e
  ·rcases bn0.mp hx with z|z
   ·exact bn0.mpr (.inl (iJ x z y e yS))
   ·exact bn0.mpr (.inr (iJ x z y e yS))
  ·rw[e]at lb;exact bn0.mpr (.inr lb)
  ·rw[e]at la;exact bn0.mpr (.inl la)
 ·rcases bn0.mp hx with z|z
  ·have:=lea x z;omega
  ·have:=leb x z;omega
theorem aZ7 (hS:aZ n S=true){a b:Int}(ha:a∈aW ls S)(na:a∉aW (l::ls) S)(hb:b∈aW ls S)(nb:b∉aW (l::ls) S):a=b:=by
 rcases (zW hS ha na).2 with la|la<;>rcases (zW hS hb nb).2 with lb|lb
 ·exact uN hS ha hb la lb
 ·rcases Int.le_total a b with z|z
  ·exact absurd (af1 hS ha hb la lb z) na
  ·exact absurd (af2 hS ha hb la lb z) nb
 ·rcases Int.le_total a b with z|z
  ·exact absurd (af2 hS hb ha lb la z) na
  ·exact absurd (af1 hS hb ha lb la z) nb
 ·exact uN hS ha hb la lb
theorem aZ8 (hS:aZ n S=true):(aW ls S).length<=(aW (l::ls) S).length+(if gI S l=true then 1 else 0):=by
 have nd:=uM (ls:=ls) hS
 by_cases ex:∃a,a∈aW ls S/\a∉aW (l::ls) S
 ·obtain⟨a,ha,na⟩:=ex
  rw[if_pos (zW hS ha na).1]
  have:=e7 nd (m:=a::aW (l::ls) S) λx hx=>by
   by_cases nx:x∈aW (l::ls) S
   ·exact bn5 _ nx
   ·rw[aZ7 hS hx nx ha na];exact bm8
  rwa [bo5]at this
 ·have:=e7 nd (m:=aW (l::ls) S) λx hx=>br8 λz=>ex ⟨x,hx,z⟩
  omega
theorem uO (hS:aZ n S=true):S.Nodup:=(gE (eN hS).1).imp λh=>bw4 h
theorem zX (hS:aZ n S=true):∀ls:aa,S.length<=(aW ls S).length+(ls.filter (gI S)).length
 |[]=>by
  refine bs0 (e7 (uO hS) (m:=aW [] S) λx hx=>qR hS hx (U:=[x]) (λa _ b hb _=>?_) bm8 λy hy _=>?_) (bw3 _ _)
  ·rcases L2.dL.mp hb with e|e<;>cases e
  ·rw[bm2.mp hy];exact bs6 _
 |l::ls=>by
  have ih:=zX hS ls
  have:=aZ8 (ls:=ls) (l:=l) hS
  rw[br9]
  split<;>rename_i e
  ·rw[if_pos e]at this;rw[bo5];omega
  ·rw[if_neg e]at this;omega
def gJ (ls:aa)(l:Int×Int):aa:=ls.filter λm=>!decide (m=l)
theorem oD {m:Int×Int}:m∈gJ ls l↔m∈ls/\m≠l:=by
 unfold gJ;rw[bn3,Bool.not_eq_true',bs7]
theorem af3:∀{ls:aa},l∈ls->ls.Nodup->(gJ ls l).length+1<=ls.length
 |m::r,hl,nd=>by
  unfold gJ
  rw[br9]
  rcases bn8.mp hl with e|e
  ·subst e
   rw[bm4 rfl]
   have:=bs8 (λm=>!decide (m=l)) r
   simp only[bo5,Bool.not_true,bp7,bu4]
   omega
  ·have ih:=af3 e (bs4.mp nd).2
   unfold gJ at ih
   split
   ·rw[bo5,bo5];omega
   ·rw[bo5];omega
theorem aZ9 (t:l.1∈U↔l.2∈U)(c:eG (gJ ls l) S U):eG ls S U:=λx hx y hy yS=>by
 by_cases e:l=(x,y)
 ·rw[e]at t;exact t.mp hx
 ·by_cases e2:l=(y,x)
  ·rw[e2]at t;exact t.mpr hx
  ·refine c x hx y ?_ yS
   rcases L2.dL.mp hy with z|z
   ·exact L2.dL.mpr (.inl (oD.mpr ⟨z,λq=>e q.symm⟩))
   ·exact L2.dL.mpr (.inr (oD.mpr ⟨z,λq=>e2 q.symm⟩))
theorem zY (c:eG ls S U):eG (gJ ls l) S U:=λx hx y hy yS=>by
 refine c x hx y ?_ yS
 rcases L2.dL.mp hy with z|z
 ·exact L2.dL.mpr (.inl (oD.mp z).1)
 ·exact L2.dL.mpr (.inr (oD.mp z).1)
theorem ba0 (t:∀U,eG (gJ ls l) S U->(l.1∈U↔l.2∈U)):aW (gJ ls l) S=aW ls S:=by
 have e:∀h,comp (gJ ls l) S h=comp ls S h:=λh=>by
  refine List.filter_congr λx _=>?_
  rw[bw0]
  constructor
  ·intro z;exact @bm4 _ (Classical.propDecidable _) λU hU hh=>(@bq3 _ (Classical.propDecidable _) z) U (zY hU) hh
  ·intro z;exact @bm4 _ (Classical.propDecidable _) λU hU hh=>(@bq3 _ (Classical.propDecidable _) z) U (aZ9 (t U hU) hU) hh
 unfold aW qM
 refine List.filter_congr λx _=>?_
 rw[e]
def e8 (n:Nat)(ls:aa):Prop:=ls.length+(aW ls (rng n)).length=n
theorem jI (n:Nat):aZ n (rng n)=true:=by
 have:=aS5 n λ_=>true
 rwa [bz0.mpr λ_ _=>rfl]at this
theorem ba1 (w:e8 n ls)(nd:ls.Nodup)(hl:l∈ls):¬ ∀U,eG (gJ ls l) (rng n) U->(l.1∈U↔l.2∈U):=λt=>by
 have h1:=zX (jI n) (gJ ls l)
 rw[ba0 t,cF]at h1
 have h2:=bs8 (gI (rng n)) (gJ ls l)
 have h3:=af3 hl nd
 unfold e8 at w
 omega
end
abbrev bO:=List (Int×Option Int)
def aF (ls:aa)(h:Int)(e:Option Int):af:=(aJ ls h).filter λx=>!decide (some x=e)
theorem fR {ls:aa}{h x:Int}{e:Option Int}:x∈aF ls h e↔x∈aJ ls h/\some x≠e:=by
 unfold aF;rw[bn3,Bool.not_eq_true',bs7]
structure gK (n:Nat)(ls:aa)(P:bO)(t:Nat):Prop where
 nd:(P.map (·.1)).Nodup
 inn:∀p∈P,p.1∈rng n
 par:∀(i:Nat) (h e:Int),P[i]? = some (h,some e)->∃(j:Nat) (q:Option Int),j<i/\j<t/\P[j]? = some (e,q)/\e∈aJ ls h
 done:∀(i:Nat) (h:Int) (e:Option Int),i<t->P[i]? = some (h,e)->∀x∈aJ ls h,e=some x∨(x,some h)∈P
 root:∀h,(h,none)∈P↔h∈aW ls (rng n)
structure Rt0 (n:Nat)(ls:aa)(P:bO):Prop where
 nd:(P.map (·.1)).Nodup
 mem:∀h,h∈P.map (·.1)↔h∈rng n
 par:∀(i:Nat) (h e:Int),P[i]? = some (h,some e)->∃(j:Nat) (q:Option Int),j<i/\P[j]? = some (e,q)/\e∈aJ ls h
 done:∀h e,(h,e)∈P->∀x∈aJ ls h,e=some x∨(x,some h)∈P
structure Rt (n:Nat)(ls:aa)(P:bO):Prop extends Rt0 n ls P where
 root:∀h,(h,none)∈P↔h∈aW ls (rng n)
theorem dH {P:bO}(nd:(P.map (·.1)).Nodup){i j:Nat}{h:Int}{e e':Option Int}(hi:P[i]? = some (h,e))(hj:P[j]? = some (h,e')):i=j/\e=e':=by
 have h1:(P.map (·.1))[i]? = some h:=by rw[bn4,hi];rfl
 have h2:(P.map (·.1))[j]? = some h:=by rw[bn4,hj];rfl
 have hl:i<(P.map (·.1)).length:=(bn2.mp h1).1
 have e0:i=j:=(List.getElem?_inj hl nd).mp (h1.trans h2.symm)
 subst e0
 rw[hi]at hj
 exact⟨rfl,by cases hj;rfl⟩
theorem eO {P:bO}{p:Int×Option Int}(h:p∈P):∃i:Nat,P[i]? = some p:=bv4.mp h
theorem lH {P:bO}(nd:(P.map (·.1)).Nodup){h:Int}{e e':Option Int}(hi:(h,e)∈P)(hj:(h,e')∈P):e=e':=by
 obtain⟨i,hi⟩:=eO hi
 obtain⟨j,hj⟩:=eO hj
 exact (dH nd hi hj).2
section
variable {n:Nat}{ls:aa}{P:bO}{t:Nat}
theorem gK.root_of (B:gK n ls P t){l:Int×Int}(lm:∀(i:Nat) (h e:Int),P[i]? = some (h,some e)->l≠(h,e)/\l≠(e,h)):∀(i:Nat) (x:Int) (q:Option Int),P[i]? = some (x,q)->∃r,r∈aW ls (rng n)/\∀U,eG (gJ ls l) (rng n) U->(x∈U↔r∈U):=by
 intro i
 induction i using Nat.strongRecOn with
 |ind i ih=>
  intro x q hi
  cases q with
  |none=>exact⟨x,(B.root x).mp (bm3 hi),λ_ _=>Iff.rfl⟩
  |some e=>
   obtain⟨j,q,ji,_,hj,ee⟩:=B.par i x e hi
   obtain⟨r,hr,hu⟩:=ih j ji e q hj
   obtain⟨l1,l2⟩:=lm i x e hi
   have en:e∈aJ (gJ ls l) x:=by
    rcases L2.dL.mp ee with z|z
    ·exact L2.dL.mpr (.inl (oD.mpr ⟨z,λq=>l1 q.symm⟩))
    ·exact L2.dL.mpr (.inr (oD.mpr ⟨z,λq=>l2 q.symm⟩))
   refine⟨r,hr,λU hU=>(Iff.intro (λz=>hU x z e en (B.inn _ (bm3 hj))) λz=>hU e z x (k8 en) (B.inn _ (bm3 hi))).trans (hu U hU)⟩
theorem gK.fresh (B:gK n ls P t)(w:e8 n ls)(f:cG ls){h:Int}{e:Option Int}(ht:P[t]? = some (h,e)){c:Int}(hc:c∈aF ls h e):c∉P.map (·.1):=by
 intro hin
 obtain⟨cn,ce⟩:=fR.mp hc
 obtain⟨⟨c',q⟩,hm,rfl⟩:=bn6.mp hin
 obtain⟨i,hi⟩:=eO hm
 have hc':h∈aJ ls c':=k8 cn
 have no1:∀(i:Nat) (g:Int),P[i]? = some (g,some c')->g≠h:=λi g hg z=>by
  subst z
  exact ce (dH B.nd hg ht).2
 have no2:∀(i:Nat) (g:Int),P[i]? = some (g,some h)->g≠c':=λi g hg z=>by
  obtain⟨j,q,_,jt,hj,_⟩:=B.par i g h hg
  have:=(dH B.nd hj ht).1
  omega
 obtain⟨l,hl,hlc⟩:∃l,l∈ls/\(l=(h,c')∨l=(c',h)):=by
  rcases L2.dL.mp cn with z|z
  ·exact⟨_,z,.inl rfl⟩
  ·exact⟨_,z,.inr rfl⟩
 have lm:∀(i:Nat) (g e:Int),P[i]? = some (g,some e)->l≠(g,e)/\l≠(e,g):=λi g e hg=>by
  constructor<;>intro z<;>rcases hlc with y|y<;>rw[z]at y<;>cases y
  ·exact no1 i _ hg rfl
  ·exact no2 i _ hg rfl
  ·exact no2 i _ hg rfl
  ·exact no1 i _ hg rfl
 obtain⟨r1,hr1,u1⟩:=B.root_of lm i c' q hi
 obtain⟨r2,hr2,u2⟩:=B.root_of lm t h e ht
 have hS:=jI n
 have hh:h∈rng n:=B.inn _ (bm3 ht)
 have cc:c'∈comp ls (rng n) h:=iJ h (fQ hh) c' cn (B.inn _ hm)
 have k1:=(u1 _ (zY iJ)).mp cc
 have k2:=(u2 _ (zY (iJ (ls:=ls) (S:=rng n) (h:=h)))).mp (fQ hh)
 have e1:r1=r2:=by
  have c1:=kT hS k1 hh
  have c2:=kT hS k2 hh
  refine uN hS hr1 hr2 (z:=r1) (fQ (eJ.mp hr1).1) ?_
  rw[c2];exact k1
 refine ba1 w (aY6 f.ord) hl λU hU=>?_
 have:=(u1 U hU).trans ((by rw[e1]:r1∈U↔r2∈U).trans (u2 U hU).symm)
 rcases hlc with y|y<;>rw[y]
 ·exact this.symm
 ·exact this
theorem gK.step (B:gK n ls P t)(w:e8 n ls)(f:cG ls)(ir:∀h x,x∈aJ ls h->x∈rng n){h:Int}{e:Option Int}(ht:P[t]? = some (h,e)):gK n ls (P++(aF ls h e).map λc=>(c,some h)) (t+1):=by
 have tl:t<P.length:=(bn2.mp ht).1
 have km:∀p∈(aF ls h e).map (λc=>(c,some h)),∃c∈aF ls h e,p=(c,some h):=λp hp=>let ⟨c,h1,h2⟩:=bn6.mp hp;⟨c,h1,h2.symm⟩
 refine⟨?_,λp hp=>?_,λi g e' hi=>?_,λi g e' it hi x hx=>?_,λg=>?_⟩
 ·rw[bp5,br0,bv1]
  have e0:(aF ls h e).map ((λp:Int×Option Int=>p.1) ∘ λc=>(c,some h))=aF ls h e:=List.map_id'' (λ_=>rfl) _
  rw[e0]
  exact⟨B.nd,(f.nnd h).filter _,λa ha b hb z=>B.fresh w f ht hb (by rw[<- z];exact ha)⟩
 ·rcases bn0.mp hp with z|z
  ·exact B.inn p z
  ·obtain⟨c,hc,rfl⟩:=km p z
   exact ir h c (fR.mp hc).1
 ·by_cases il:i<P.length
  ·rw[bp1 il]at hi
   obtain⟨j,q,ji,jt,hj,en⟩:=B.par i g e' hi
   exact⟨j,q,ji,by omega,by rw[bp1 (by omega)];exact hj,en⟩
  ·rw[br6 (by omega)]at hi
   obtain⟨c,hc,z⟩:=km _ (bm3 hi)
   cases z
   exact⟨t,e,by omega,by omega,by rw[bp1 tl];exact ht,k8 (fR.mp hc).1⟩
 ·rw[bp1 (by omega)]at hi
  by_cases e1:i=t
  ·subst e1
   rw[ht]at hi
   cases hi
   by_cases z:some x=e
   ·exact .inl z.symm
   ·exact .inr (bn0.mpr (.inr (bn6.mpr ⟨x,fR.mpr ⟨hx,z⟩,rfl⟩)))
  ·exact (B.done i g e' (by omega) hi x hx).imp id λz=>bn0.mpr (.inl z)
 ·rw[<- B.root g]
  refine⟨λz=>?_,λz=>bn0.mpr (.inl z)⟩
  rcases bn0.mp z with z|z
  ·exact z
  ·obtain⟨c,_,z⟩:=km _ z
   cases z
theorem gK.start:gK n ls ((aW ls (rng n)).map λh=>(h,none)) 0:=by
 have hS:=jI n
 refine⟨?_,λp hp=>?_,λi g e hi=>?_,λi g e it=>absurd it (by omega),λg=>?_⟩
 ·rw[br0,show (aW ls (rng n)).map ((λp:Int×Option Int=>p.1) ∘ λh=>(h,none))=aW ls (rng n) from List.map_id'' (λ_=>rfl) _]
  exact uM hS
 ·obtain⟨h,hh,rfl⟩:=bn6.mp hp
  exact (eJ.mp hh).1
 ·obtain⟨h,_,z⟩:=bn6.mp (bm3 hi)
  cases z
 ·refine⟨λz=>?_,λz=>bn6.mpr ⟨g,z,rfl⟩⟩
  obtain⟨h,hh,z⟩:=bn6.mp z
  cases z
  exact hh
theorem gK.len (B:gK n ls P t):P.length<=n:=by
 have:=e7 B.nd (m:=rng n) λx hx=>by
  obtain⟨p,hp,rfl⟩:=bn6.mp hx
  exact B.inn p hp
 rwa [bm7,cF]at this
theorem gK.all (B:gK n ls P P.length):Rt n ls P:=by
 have hS:=jI n
 have par:∀(i:Nat) (h e:Int),P[i]? = some (h,some e)->∃(j:Nat) (q:Option Int),j<i/\P[j]? = some (e,q)/\e∈aJ ls h:=λi h e hi=>let ⟨j,q,a,_,b,c⟩:=B.par i h e hi;⟨j,q,a,b,c⟩
 have done:∀(h:Int) (e:Option Int),(h,e)∈P->∀x∈aJ ls h,e=some x∨(x,some h)∈P:=λh e hm=>by
  obtain⟨i,hi⟩:=eO hm
  exact B.done i h e (bn2.mp hi).1 hi
 refine⟨⟨B.nd,λh=>⟨λz=>?_,λz=>?_⟩,par,done⟩,B.root⟩
 ·obtain⟨p,hp,rfl⟩:=bn6.mp z
  exact B.inn p hp
 ·have sh:eG ls (rng n) (P.map (·.1)):=λx hx y hy _=>by
   obtain⟨⟨x',e⟩,hp,rfl⟩:=bn6.mp hx
   rcases done x' e hp y hy with z|z
   ·subst z
    obtain⟨i,hi⟩:=eO hp
    obtain⟨j,q,_,hj,_⟩:=par i x' y hi
    exact bn6.mpr ⟨_,bm3 hj,rfl⟩
   ·exact bn6.mpr ⟨_,z,rfl⟩
  obtain⟨r,hr⟩:∃r,(comp ls (rng n) h).head? = some r:=by
   cases e:comp ls (rng n) h with
   |nil=>have:=fQ (ls:=ls) z;rw[e]at this;cases this
   |cons a r=>exact⟨a,rfl⟩
  have rm:=(jG (gZ hS) hr).1
  have rs:=kT hS rm z
  have hd:r∈aW ls (rng n):=eJ.mpr ⟨qL _ rm,by rw[rs];exact hr⟩
  have hc:h∈comp ls (rng n) r:=by rw[rs];exact fQ z
  exact (gY.mp hc).2 _ sh (bn6.mpr ⟨_,(B.root r).mpr hd,rfl⟩)
end
theorem e6.inr {n:Nat}{ls:aa}(lk:e6 n ls)(x y:Int)(hy:y∈aJ ls x):y∈rng n:=by
 rcases L2.dL.mp hy with z|z
 ·have:=lk.1 _ z;exact bM.mpr ⟨by dsimp only at this;omega,by dsimp only at this;omega⟩
 ·have:=lk.1 _ z;exact bM.mpr ⟨by dsimp only at this;omega,by dsimp only at this;omega⟩
theorem e6.nlen {n:Nat}{ls:aa}(lk:e6 n ls)(x:Int):(aJ ls x).length<=n:=by
 have:=e7 (lk.fit.nnd x) (m:=rng n) λy hy=>lk.inr x y hy
 rwa [cF]at this
def uP:bI:=λxs Q=>∃ws ls,xs = [b9 ws ls]/\Wb ws ls/\(e8 ws.length ls->Q (.bl true))/\(¬e8 ws.length ls->Q (.bl false))
def af4:aT:=(bV (kG (aB dM (a7 (bD (a5 0) (qC (.int 1))) a9)) (kF (aB iU (a7 (a5 0) a9)) (aB dM (a7 (aB oC (a7 (a5 0) a9)) a9)))))
theorem ba2:c6 af4 ["web"] uP:=by
 rintro xs Q ⟨ws,ls,rfl,wb,q1,q2⟩
 refine⟨_,rfl,_,_,_,rfl,rfl,rfl,_,_,rfl,rfl,_,rfl,ws,ls,rfl,_,rfl,ws,ls,rfl,wb,_,_,rfl,rfl,_,_,rfl,rfl,.inl ⟨_,_,rfl,rfl,trivial,?_⟩⟩
 have a:(b7 ls).length=ls.length:=bm7 _
 have b:(tups (iV ls (rng ws.length))).length=(aW ls (rng ws.length)).length:=by rw[kQ];unfold iV;rw[bm7]
 show Q (.bl (decide (((b7 ls).length:Int)=(ws.length:Int)-((tups (iV ls (rng ws.length))).length:Int))))
 rw[a,b]
 by_cases w:e8 ws.length ls
 ·have:=q1 w
  unfold e8 at w
  rw[bm4 (by omega)];exact this
 ·have:=q2 w
  unfold e8 at w
  rw[bm9 (by omega)];exact this
def oE:bI:=λxs Q=>∃(n:Nat) (ls:aa) (h:Int) (e:Option Int),xs = [.lst (cS n ls),.int h,gG e]/\0<=h/\h<(n:Int)/\(aJ ls h).length<=1000/\Q (.lst (intz (aF ls h e)))
def af5:aT:=(bV (cT (cO (bD (a5 0) (a5 1))) [none,some 2] (bQ 0) (bH (q2 zH (a5 0) (a5 1))) (a5 0)))
theorem ba3:c6 af5 ["around","hearth","elder"] oE:=by
 rintro xs Q ⟨n,ls,h,e,rfl,h0,h1,hl,q⟩
 refine⟨_,rfl,_,rfl,_,_,_,rfl,rfl,tU h0 h1,intz (aJ ls h),rfl,(λz=>by cases z),by rw[bA];omega,λi acc=>acc=intz (((aJ ls h).take i).filter λx=>!decide (some x=e)),rfl,?_,?_⟩
 ·rintro i y acc hy rfl
  obtain⟨x,rfl,hx⟩:=fP hy
  have tk:=qE (p:=λx=>!decide (some x=e)) hx
  refine⟨_,rfl,_,rfl,x,e,rfl,rfl,_,rfl,?_⟩
  by_cases z:some x=e
  ·rw[bm4 z.symm]
   refine bG ?_
   dsimp only
   rw[tk,bm4 z];exact (bs1 _).symm▸rfl
  ·rw[bm9 λy=>z y.symm]
   refine bJ ⟨_,rfl,trivial,?_⟩
   dsimp only
   rw[tk,bm9 z,fE];rfl
 ·rintro acc rfl
  rw[bA,bp8 (bn1 _)]
  exact⟨trivial,q⟩
def uQ (p:Int×Option Int):PV:=.tup [.int p.1,gG p.2]
def eQ (P:bO):List PV:=P.map uQ
theorem mT (P:bO):(eQ P).length=P.length:=bm7 _
theorem af6 {P:bO}{i:Nat}{p:Int×Option Int}(h:P[i]? = some p):L2.atI (eQ P) (i:Int)=some (uQ p):=jU (by unfold eQ;rw[bn4,h];rfl)
def uR:bI:=λxs Q=>∃ws ls,xs = [b9 ws ls]/\Wb ws ls/\e6 ws.length ls/\e8 ws.length ls/\∀P,Rt ws.length ls P->Q (.lst (eQ P))
def af7:aT:=(m5 (bH (mB (a5 3) (aB dM (a7 (a5 2) a9))))
  (aE (b8 4 (bD (bD (a5 2) (a5 3)) (qC (.int 0))))
  (aE (x9 2 (cT (cO (aB oE (a7 (a5 1) (a7 (a5 4) (a7 (bD (bD (a5 2) (a5 3)) (qC (.int 1))) a9))))) [none,some 4] (bQ 0) cV (gR (a7 (a5 0) (a7 (a5 1) a9)))))
  (b8 3 (cP (a5 3) (qC (.int 1)))))))
def af8:aT:=(aE (dB (nJ (bH (aB uP (a7 (a5 0) a9)))) sP dA)
 (aE (b8 1 (aB kO (a7 (a5 0) a9)))
 (aE (dS 2 (cT (cO (aB oC (a7 (a5 0) a9))) [none] (bQ 0) cV (gR (a7 (bD (a5 0) (qC (.int 0))) (a7 (qC .non) a9)))))
 (aE (b8 3 (qC (.int 0)))
 (aE af7
 (j6 2))))))
section
variable {ws:af}{ls:aa}{E:kB}{s0:Option Slot}{n:Nat}
theorem af9 (P:bO):flats (eQ P)=true:=by
 induction P with
 |nil=>rfl
 |cons p P ih=>
  show (flat (uQ p)&&flats (eQ P))=true
  rw[ih,Bool.and_true]
  obtain⟨h,e⟩:=p
  cases e<;>rfl
theorem ba4 (n40:n<=40)(lk:e6 n ls)(w:e8 n ls)(k:∀P y3 y4,Rt n ls P->E.nx [s0,some (.sh true (.lst (cS n ls))),some (.own (.lst (eQ P))),y3,y4]){y4:Option Slot} :
  af7 E [s0,some (.sh true (.lst (cS n ls))),some (.own (.lst (eQ ((aW ls (rng n)).map λh=>(h,none))))),si 0,y4]:=by
 refine⟨λm ρ=>∃(P:bO) (t:Nat) (y4:Option Slot),ρ = [s0,some (.sh true (.lst (cS n ls))),some (.own (.lst (eQ P))),si t,y4]/\gK n ls P t/\t<=P.length/\m=n-t,⟨_,_,0,y4,rfl,gK.start,br5 _,rfl⟩,?_⟩
 rintro m ρ ⟨P,t,y4,rfl,B,tl,rfl⟩
 have pl:=B.len
 refine⟨_,rfl,_,rfl,_,_,rfl,rfl,_,_,rfl,rfl,_,rfl,?_⟩
 rw[mT]
 by_cases lt:t<P.length
 ·rw[bm4 (by omega)]
  obtain⟨⟨h,e⟩,ht⟩:∃p,P[t]? = some p:=⟨_,bm6 lt⟩
  have hr:=bM.mp (B.inn _ (bm3 ht))
  dsimp only at hr
  have nl:=lk.nlen h
  refine bJ ⟨_,rfl,_,rfl,_,_,_,rfl,rfl,af6 ht,_,_,_,rfl,rfl,rfl,rfl,?_⟩
  refine⟨eQ P,rfl,_,rfl,_,rfl,_,rfl,_,rfl,_,_,_,rfl,rfl,af6 ht,_,_,_,rfl,rfl,rfl,n,ls,h,e,rfl,hr.1,hr.2,by omega,intz (aF ls h e),rfl,(λz=>by cases z),?_,λi acc=>acc=eQ (((aF ls h e).take i).map λc=>(c,some h)),rfl,?_,?_⟩
  ·rw[bA];have:=bs8 (λx=>!decide (some x=e)) (aJ ls h);unfold aF;omega
  ·rintro i y acc hy rfl
   obtain⟨c,rfl,hc⟩:=fP hy
   refine⟨_,rfl,_,rfl,by show 2<=1000;decide,rfl,trivial,?_⟩
   dsimp only
   rw[br1,hc,bp5]
   unfold eQ
   rw[bp5]
   rfl
  ·rintro acc rfl
   rw[bA,bp8 (bn1 _)]
   have kl:(aF ls h e).length<=n:=by have:=bs8 (λx=>!decide (some x=e)) (aJ ls h);unfold aF;omega
   refine⟨_,.inr rfl,.inr (af9 _),by rw[mT,mT,bm7];omega,_,rfl,_,_,rfl,rfl,trivial,n-(t+1),by omega,P++(aF ls h e).map (λc=>(c,some h)),t+1,si h,?_,B.step w lk.fit (λh x=>lk.inr h x) ht,by rw[bo2];omega,rfl⟩
   unfold eQ
   rw[<- bp5]
   rfl
 ·rw[bm9 (by omega)]
  have:t=P.length:=by omega
  subst this
  exact bG (k P _ _ B.all)
end
theorem ba5:c6 af8 ["web","around","pairs","turn","hearth"] uR:=by
 rintro xs Q ⟨ws,ls,rfl,wb,lk,w,q⟩
 have few:=wb.few
 have hS:=jI ws.length
 refine⟨_,rfl,ws,ls,rfl,wb,λ_=>?_,λz=>absurd w z⟩
 refine⟨_,rfl,bG ?_⟩
 refine⟨_,rfl,ws,ls,rfl,wb,trivial,?_⟩
 refine⟨_,rfl,ws,ls,rfl,wb,tups (iV ls (rng ws.length)),rfl,(λz=>by cases z),?_,λi acc=>acc=eQ (((aW ls (rng ws.length)).take i).map λh=>(h,none)),rfl,?_,?_⟩
 ·rw[kQ];unfold iV;rw[bm7]
  have:=bs8 (qM ls (rng ws.length)) (rng ws.length)
  rw[cF]at this
  unfold aW;omega
 ·rintro i y acc hy rfl
  unfold tups iV at hy
  rw[br0,bn4]at hy
  cases hz:(aW ls (rng ws.length))[i]? with
  |none=>rw[hz]at hy;cases hy
  |some h=>
   rw[hz]at hy
   cases hy
   obtain⟨h1,h2⟩:=eJ.mp (bm3 hz)
   have h3:L2.atI (intz (comp ls (rng ws.length) h)) 0=some (.int h):=by
    cases e:comp ls (rng ws.length) h with
    |nil=>rw[e]at h2;cases h2
    |cons a r=>rw[e]at h2;cases h2;exact jU (j:=0) rfl
   refine⟨_,rfl,_,_,_,rfl,rfl,h3,by show 2<=1000;decide,rfl,trivial,?_⟩
   dsimp only
   rw[br1,hz,bp5]
   unfold eQ
   rw[bp5]
   rfl
 ·rintro acc rfl
  rw[show (tups (iV ls (rng ws.length))).length=(aW ls (rng ws.length)).length by rw[kQ];unfold iV;rw[bm7],bp8 (bn1 _)]
  refine⟨rfl,af9 _,trivial,?_⟩
  refine ba4 few lk w λP y3 y4 R=>?_
  exact⟨_,rfl,trivial,q P R⟩
structure TL (k:Nat)(lks:aa):Prop where
 inn:∀l∈lks,0<=l.1/\l.1<l.2/\l.2<(k:Int)
 nd:(lks.map (·.2)).Nodup
 few:lks.length<=k
theorem TL.same {k:Nat}{lks:aa}(h:TL k lks):TL (k+1) lks:=⟨λl hl=>by have:=h.inn l hl;omega,h.nd,by have:=h.few;omega⟩
theorem TL.app {k:Nat}{lks:aa}(h:TL k lks){e:Int}(e0:0<=e)(e1:e<(k:Int)):TL (k+1) (lks++[(e,(k:Int))]):=by
 refine⟨λl hl=>?_,?_,by rw[bo2,bs2];have:=h.few;omega⟩
 ·rcases bn0.mp hl with z|z
  ·have:=h.inn l z;omega
  ·rw[bm2.mp z];dsimp only;omega
 ·rw[bp5,bv1]
  refine⟨h.nd,bq2 _ _,λa ha b hb e=>?_⟩
  obtain⟨l,hl,rfl⟩:=bn6.mp ha
  rw[List.map_singleton,bm2]at hb
  have:=h.inn l hl
  omega
theorem TL.snd {k:Nat}{lks:aa}(h:TL k lks){a b c:Int}(ha:(a,c)∈lks)(hb:(b,c)∈lks):a=b:=by
 obtain⟨i,hi⟩:=bv4.mp ha
 obtain⟨j,hj⟩:=bv4.mp hb
 have h1:(lks.map (·.2))[i]? = some c:=by rw[bn4,hi];rfl
 have h2:(lks.map (·.2))[j]? = some c:=by rw[bn4,hj];rfl
 have:=(List.getElem?_inj (bn2.mp h1).1 h.nd).mp (h1.trans h2.symm)
 subst this
 rw[hi]at hj
 exact (bz1 (bo9 hj)).1
theorem TL.ndl {k:Nat}{lks:aa}(h:TL k lks):lks.Nodup:=(bs3.mp h.nd).imp λz e=>z (by rw[e])
structure Pl (m:Nat)(p:Int->Int):Prop where
 inn:∀i,0<=i->i<(m:Int)->0<=p i/\p i<(m:Int)
 inj:∀i j,0<=i->i<(m:Int)->0<=j->j<(m:Int)->p i=p j->i=j
 onto:∀x,x∈rng m->∃i,0<=i/\i<(m:Int)/\p i=x
def fU (p:Int->Int)(l:Int×Int):Int×Int:=(min (p l.1) (p l.2),max (p l.1) (p l.2))
theorem ba6 {m:Nat}{p:Int->Int}{lks:aa}(P:Pl m p)(T:TL m lks):∀l∈lks.map (fU p),0<=l.1/\l.1<l.2/\l.2<(m:Int):=by
 intro l0 hl0
 obtain⟨l,hl,rfl⟩:=bn6.mp hl0
 have h:=T.inn l hl
 have a:=P.inn l.1 (by omega) (by omega)
 have b:=P.inn l.2 (by omega) (by omega)
 have c:p l.1≠p l.2:=λe=>by have:=P.inj _ _ (by omega) (by omega) (by omega) (by omega) e;omega
 unfold fU
 dsimp only
 omega
theorem zZ {p:Int->Int}{l:Int×Int}{x y:Int}(e:fU p l=(x,y)∨fU p l=(y,x)):(p l.1=x/\p l.2=y)∨(p l.1=y/\p l.2=x):=by
 unfold fU at e
 rcases e with e|e<;>(have e1:=(bz1 e).1;have e2:=(bz1 e).2;omega)
theorem ba7 {m:Nat}{p:Int->Int}{lks:aa}(P:Pl m p)(T:TL m lks):(lks.map (fU p)).Nodup:=by
 refine bs3.mpr (T.ndl.imp_of_mem λ{a b} ha hb hab e=>hab ?_)
 have h1:=T.inn a ha
 have h2:=T.inn b hb
 rcases zZ (x:=(fU p b).1) (y:=(fU p b).2) (.inl e) with⟨c,d⟩|⟨c,d⟩<;>rcases zZ (p:=p) (l:=b) (x:=(fU p b).1) (y:=(fU p b).2) (.inl rfl) with⟨c',d'⟩|⟨c',d'⟩
 ·exact Prod.ext (P.inj _ _ (by omega) (by omega) (by omega) (by omega) (c.trans c'.symm)) (P.inj _ _ (by omega) (by omega) (by omega) (by omega) (d.trans d'.symm))
 ·have e1:=P.inj a.1 b.2 (by omega) (by omega) (by omega) (by omega) (c.trans d'.symm)
  have e2:=P.inj a.2 b.1 (by omega) (by omega) (by omega) (by omega) (d.trans c'.symm)
  omega
 ·have e1:=P.inj a.1 b.2 (by omega) (by omega) (by omega) (by omega) (c.trans d'.symm)
  have e2:=P.inj a.2 b.1 (by omega) (by omega) (by omega) (by omega) (d.trans c'.symm)
  omega
 ·exact Prod.ext (P.inj _ _ (by omega) (by omega) (by omega) (by omega) (c.trans c'.symm)) (P.inj _ _ (by omega) (by omega) (by omega) (by omega) (d.trans d'.symm))
theorem ag0 {f:Int->Int->Prop}:∀{U:af},U≠[]->(∀x∈U,∃i,f x i)->∃x∈U,∃i,f x i/\∀y∈U,∃j,f y j/\j<=i
 |[x],_,h=>by
  obtain⟨i,hi⟩:=h x bm8
  exact⟨x,bm8,i,hi,λy hy=>by rw[bm2.mp hy];exact⟨i,hi,bs6 _⟩⟩
 |x::z::r,_,h=>by
  obtain⟨i,hi⟩:=h x bm8
  obtain⟨y,hy,j,hj,m⟩:=ag0 (U:=z::r) (by simp) λy hy=>h y (bn5 _ hy)
  by_cases le:i<=j
  ·refine⟨y,bn5 _ hy,j,hj,λw hw=>?_⟩
   rcases bn8.mp hw with e|e
   ·rw[e];exact⟨i,hi,le⟩
   ·exact m w e
  ·refine⟨x,bm8,i,hi,λw hw=>?_⟩
   rcases bn8.mp hw with e|e
   ·rw[e];exact⟨i,hi,bs6 _⟩
   ·obtain⟨k,hk,kl⟩:=m w e;exact⟨k,hk,by omega⟩
theorem ba8 {m:Nat}{p:Int->Int}{lks ls:aa}(P:Pl m p)(T:TL m lks)(pm:ls.Perm (lks.map (fU p)))(f:cG ls):zQ ls (rng m):=by
 intro U two sub
 refine br8 λne=>?_
 obtain⟨x,hx,i,⟨i0,i1,hi⟩,mx⟩:=ag0 (f:=λx i=>0<=i/\i<(m:Int)/\p i=x) ne λx hx=>P.onto x (sub x hx)
 obtain⟨a,b,na,nb,ua,ub,ab⟩:=aY8 (f.nnd x) (two x hx)
 have up:∀y,y∈aJ ls x->y∈U->∃j,(j,i)∈lks/\p j=y:=λy hy hu=>by
  obtain⟨j,⟨j0,j1,hj⟩,ji⟩:=mx y hu
  obtain⟨l,hl,e⟩:∃l∈lks,fU p l=(x,y)∨fU p l=(y,x):=by
   rcases L2.dL.mp hy with z|z
   ·obtain⟨l,hl,e⟩:=bn6.mp (pm.mem_iff.mp z);exact⟨l,hl,.inl e⟩
   ·obtain⟨l,hl,e⟩:=bn6.mp (pm.mem_iff.mp z);exact⟨l,hl,.inr e⟩
  have h:=T.inn l hl
  rcases zZ e with⟨c,d⟩|⟨c,d⟩
  ·have e1:=P.inj l.1 i (by omega) (by omega) i0 i1 (c.trans hi.symm)
   have e2:=P.inj l.2 j (by omega) (by omega) j0 j1 (d.trans hj.symm)
   omega
  ·have e1:=P.inj l.2 i (by omega) (by omega) i0 i1 (d.trans hi.symm)
   exact⟨l.1,by rw[<- e1];exact hl,c⟩
 obtain⟨j,hj,ej⟩:=up a na ua
 obtain⟨k,hk,ek⟩:=up b nb ub
 exact ab (by rw[<- ej,<- ek,T.snd hj hk])
theorem ba9 {n:Nat}{ls:aa}(lk:e6 n ls)(no:zQ ls (rng n)):e8 n ls:=by
 have h1:=zU lk.fit n (rng n) (by rw[cF];exact bn1 _) (jI n) no
 have h2:=zX (jI n) ls
 have e:ls.filter (gI (rng n))=ls:=bz0.mpr λl hl=>by
  have:=lk.1 l hl
  unfold gI
  rw[bm4 (bM.mpr ⟨by omega,by omega⟩),bm4 (bM.mpr ⟨by omega,by omega⟩)];rfl
 unfold mu at h1
 rw[e,cF]at h1
 rw[e,cF]at h2
 unfold e8
 omega
def uS:bI:=λxs Q=>∃(ns:af) (m:Nat) (dg:Bool),xs = [.scr ns,.int m,.bl dg]/\ns.length<=63/\m<=40/\∀ps:af,ps.Perm (rng m)->Q (.lst (intz ps))
def ag1:aT:=(aE (b8 6 (aB kU (a7 (aB gF (a7 (a5 0) (a7 (qC (.int 3)) a9))) (a7 (cP (a5 5) (qC (.int 5))) a9))))
   (aE (dB (kC (a5 2)) (aE (b8 6 (a5 4))
    (b8 4 (iS (a5 4) (cP (a5 5) (qC (.int 1)))))) dA)
   (u7 3 (cQ (a5 6) (cP (a5 5) (qC (.int 1)))) (a5 5))))
def ag2:aT:=(aE (dS 3 (yI (a5 1)))
 (aE (b8 4 (aB gF (a7 (a5 0) (a7 (qC (.int 3)) a9))))
 (aE (dB (bH (kG (cQ (iS (aB gF (a7 (a5 0) (a7 (qC (.int 1)) a9))) (qC (.int 3))) (qC (.int 2))) (qC (.int 1)))) (aE (dS 3 (eW a9))
  (dU (kD (a5 1)) (bQ 5)
   ag1)) dA)
 (j6 3))))
theorem bb0 {ns:af}{s1 y6:Option Slot}{dg:Bool}{ps:af}{nb:Int}{k:Nat}{E:kB}(k40:k<40)(hp:ps.Perm (rng k))(nx:∀(ps:af) (nb:Int) (y6:Option Slot),ps.Perm (rng (k+1))->E.nx [some (.sh true (.scr ns)),s1,some (.sh true (.bl dg)),some (.own (.lst (intz ps))),si nb,si k,y6]) :
  ag1 E [some (.sh true (.scr ns)),s1,some (.sh true (.bl dg)),some (.own (.lst (intz ps))),si nb,si k,y6]:=by
 have pl:=hp.length_eq
 rw[cF]at pl
 have fin:∀(sp nb:Int),(u7 3 (cQ (a5 6) (cP (a5 5) (qC (.int 1)))) (a5 5)) E [some (.sh true (.scr ns)),s1,some (.sh true (.bl dg)),some (.own (.lst (intz ps))),si nb,si k,si sp]:=λsp nb=>by
  have h0:=bv6 sp (show (k:Int)+1≠0 by omega)
  have h1:=bB8 sp (show (0:Int)<(k:Int)+1 by omega)
  refine⟨intz ps,rfl,_,rfl,_,rfl,_,_,rfl,rfl,_,_,rfl,rfl,by show (0:Int)<(k:Int)+1;omega,(sp%((k:Int)+1)).toNat,by show PV.int (sp%((k:Int)+1))=_;rw[Int.toNat_of_nonneg h0],by rw[bA];omega,by rw[bA];omega,_,rfl,trivial,?_⟩
  have e:(intz ps).take (sp%((k:Int)+1)).toNat++PV.int k::(intz ps).drop (sp%((k:Int)+1)).toNat=intz (ps.take (sp%((k:Int)+1)).toNat++(k:Int)::ps.drop (sp%((k:Int)+1)).toNat):=by
   unfold intz;rw[bp5,List.map_take,bp2,List.map_drop]
  have:=nx (ps.take (sp%((k:Int)+1)).toNat++(k:Int)::ps.drop (sp%((k:Int)+1)).toNat) nb (si sp) (by
   rw[mO]
   refine (List.perm_middle).trans ?_
   rw[br2]
   exact (List.Perm.cons _ hp).trans (List.perm_append_singleton _ _).symm)
  rw[<- e]at this
  exact this
 refine⟨_,rfl,_,ns,3,rfl,.inl rfl,by decide,_,rfl,_,_,rfl,rfl,_,_,rfl,by omega,by omega,λz _=>⟨trivial,?_⟩⟩
 refine⟨_,rfl,_,rfl,?_⟩
 cases dg with
 |false=>exact bG (fin z nb)
 |true=>exact bJ ⟨_,rfl,trivial,_,rfl,_,rfl,_,_,rfl,rfl,_,_,rfl,rfl,⟨by show (0:Int)<(k:Int)+1;omega,by omega⟩,trivial,fin nb _⟩
theorem ag3 (n:Nat):fL 0 n=intz (rng n):=by
 refine List.ext_getElem? λi=>?_
 by_cases h:i<n
 ·rw[xH h]
  unfold intz
  rw[bn4,qD h,bC4];rfl
 ·rw[bC0 (by rw[gU];omega),bC0 (by rw[bA,cF];omega)]
theorem bb1:c6 ag2 ["script","many","digits","places","number","k","spot"] uS:=by
 rintro xs Q ⟨ns,m,dg,rfl,hl,m40,q⟩
 refine⟨_,rfl,m,rfl,by omega,by omega,rfl,?_,?_⟩
 ·show flats (fL 0 (m:Int).toNat)=true
  rw[ag3];exact eD _
 rw[ag3,bp9]
 refine⟨_,rfl,_,ns,3,rfl,.inl rfl,by decide,trivial,?_⟩
 dsimp only
 generalize ns.getD (3:Int).toNat 0=nb
 refine⟨_,rfl,_,ns,1,rfl,.inl rfl,by decide,_,_,rfl,rfl,⟨by decide,by decide⟩,_,_,rfl,rfl,(by show (0:Int)<2;decide),.inl ⟨_,_,rfl,rfl,_,rfl,?_⟩⟩
 generalize (if false=true then _ else _:Bool)=b
 cases b with
 |false=>exact bG ⟨_,rfl,trivial,q _ (bB4 _)⟩
 |true=>
  refine bJ ⟨by decide,rfl,rfl,rfl,?_⟩
  refine⟨_,rfl,m,rfl,by omega,by omega,λk ρ=>∃(ps:af) (nb:Int) (y5 y6:Option Slot),ρ = [some (.sh true (.scr ns)),si m,some (.sh true (.bl dg)),some (.own (.lst (intz ps))),si nb,y5,y6]/\ps.Perm (rng k),⟨[],nb,none,none,rfl,bB4 _⟩,?_,?_⟩
  ·rintro k y ρ hy ⟨ps,nb,y5,y6,rfl,hp⟩
   obtain⟨rfl,hk⟩:=kL hy
   have hk:k<m:=by omega
   refine gX ?_
   rw[bC4]
   exact bb0 (by omega) hp λps nb y6 h=>⟨ps,nb,si k,y6,rfl,h⟩
  ·rintro ρ ⟨ps,nb,y5,y6,rfl,hp⟩
   rw[gU,bp9]at hp
   exact⟨_,rfl,trivial,q ps hp⟩
def ag4 (mx:Int):bI:=λxs Q=>∃(ns:af) (most:Int),xs = [.scr ns,.int most]/\ns.length<=63/\0<=most/\most<=mx/\∀(n:Nat) ws ls,(n:Int)<=most->WL n ws ls->e6 n ls->e8 n ls->Q (b9 ws ls)
def ag5 (R:List PV->(PV->Prop)->Prop):Prop:=∀(ls:aa) (Q:PV->Prop),ls.length<64->(∀ls':aa,ls'.Perm ls->(ls'.map two).Pairwise (λu v=>HT.bR v u=false)->Q (.lst (b7 ls')))->R [.lst (b7 ls)] Q
theorem bb2:ag5 tV:=λls Q few q=>by
 refine⟨ls.map two,by rw[aa2],by rw[bm7];exact few,λy hy=>by obtain⟨l,_,rfl⟩:=bn6.mp hy;exact List.cons_ne_nil _ _,λZ pz so=>?_⟩
 obtain⟨ls',rfl,pl⟩:=aO5 pz
 have:=q ls' pl so
 rw[aa2]at this
 exact this
def ag6:aT:=(aE (gT 4 (gR (a7 (a5 9) (a7 (a5 7) a9))))
   (aE (lB 5 (a5 9) (cP (bD (a5 5) (a5 9)) (qC (.int 1))))
   (lB 5 (a5 7) (cP (bD (a5 5) (a5 7)) (qC (.int 1))))))
def ag7:aT:=(dB (bH (qGt (cQ (a5 8) (qC (.int 8))) (qC (.int 0)))) (aE (b8 9 (cQ (iS (a5 8) (qC (.int 8))) (a5 7)))
   (aE (dB (bH (kG (cQ (aB gF (a7 (a5 0) (a7 (qC (.int 1)) a9))) (qC (.int 3))) (qC (.int 1)))) (b8 9 (aB m6 (a7 (qC (.int 0)) (a7 (kF (kF (a5 7) (qC (.int 1))) (cQ (iS (a5 8) (qC (.int 8))) (qC (.int 3)))) a9)))) dA)
   ag6)) dA)
def ag8:aT:=(aE (b8 8 (aB kU (a7 (bD (a5 6) (a5 7)) (a7 (a5 7) a9))))
  (aE (dB (kC (a5 3)) (b8 8 (iS (bD (a5 6) (a5 7)) (qC (.int 64)))) dA)
  ag7))
def ag9 (R:List PV->(PV->Prop)->Prop):aT:=(aE (pI 4 (b8 12 (cT (cO (a5 4)) [none,none,some 10] (gV 0 1) cV (gR (a7 (aB nL (a7 (bD (a5 2) (a5 0)) (a7 (bD (a5 2) (a5 1)) a9))) (a7 (aB m6 (a7 (bD (a5 2) (a5 0)) (a7 (bD (a5 2) (a5 1)) a9))) a9))))))
 (bV (gR (a7 (aB jB (a7 (a5 11) a9)) (a7 (aB jB (a7 (aB R (a7 (a5 12) a9)) a9)) a9)))))
def ah0:aT:=(aE (b8 10 (aB uS (a7 (a5 0) (a7 (a5 2) (a7 (a5 3) a9)))))
 (aE (dS 11 (qJ (eW (a7 (qC (.int 0)) a9)) (a5 2)))
 (aE (dU (kD (a5 2)) (bQ 7)
  (lB 11 (bD (a5 10) (a5 7)) (cQ (bD (a5 6) (a5 7)) (cP (bD (a5 5) (a5 7)) (qC (.int 2))))))
 (ag9 tV))))
def ah1:aT:=(aE (b8 2 (aB uD (a7 (a5 0) (a7 (a5 1) a9))))
 (aE (b8 3 (kG (cQ (iS (aB gF (a7 (a5 0) (a7 (qC (.int 1)) a9))) (qC (.int 8))) (qC (.int 2))) (qC (.int 1))))
 (aE (dS 4 (eW a9))
 (aE (dS 5 (qJ (eW (a7 (qC (.int 0)) a9)) (a5 2)))
 (aE (dS 6 (xJ (a5 0) (sN (qC (.int 4))) (sN (cP (qC (.int 4)) (a5 2)))))
 (aE (dU (sK (aB dM (a7 (a5 6) a9)) (a5 2)) (bQ 7)
  (gT 6 (aB kU (a7 (aB gF (a7 (a5 0) (a7 (qC (.int 1)) a9))) (a7 (a5 7) a9)))))
 (aE (dU (sK (qC (.int 1)) (a5 2)) (bQ 7)
  ag8)
 ah0)))))))
section
variable {ns:af}{m k:Nat}{dg:Bool}{cs cts:af}{lks:aa}{s1 y8 y9 y10 y11 y12:Option Slot}{E:kB}
theorem ah2 {e nb:Int}(hc:m<=cs.length)(hk:k<m)(m40:m<=40)(T:TL k lks)(cl:cts.length=m)(nn:NN cts)(e0:0<=e)(e1:e<(k:Int)){s0 s3 s6:Option Slot}(nx:∀(lks':aa) (cts':af),TL (k+1) lks'->cts'.length=m->NN cts'->E.nx [s0,s1,si m,s3,some (.own (.lst (b7 lks'))),some (.own (.lst (intz cts'))),s6,si k,si nb,si e,y10,y11,y12]) :
  ag6 E [s0,s1,si m,s3,some (.own (.lst (b7 lks))),some (.own (.lst (intz cts))),s6,si k,si nb,si e,y10,y11,y12]:=by
 have pl:(b7 lks).length=lks.length:=bm7 _
 have fw:=T.few
 obtain⟨j,rfl⟩:∃j:Nat,e=j:=⟨e.toNat,by omega⟩
 refine⟨_,rfl,_,rfl,_,rfl,by show 2<=1000;decide,rfl,trivial,by rw[pl];omega,?_⟩
 have a1:=kW (ws:=cts) (j:=j) (by omega)
 refine⟨_,rfl,_,rfl,_,_,_,rfl,rfl,a1,_,_,rfl,rfl,_,rfl,_,rfl,j,j,rfl,?_,trivial,?_⟩
 ·rw[bA];unfold fX;rw[if_pos (by omega),if_pos (by omega)];rfl
 have q1:(intz cts).set j (.int (cts.getD j 0+1))=intz (cts.set j (cts.getD j 0+1)):=(List.map_set ..).symm
 have n1:NN (cts.set j (cts.getD j 0+1)):=nn.set (by have:=jH nn j;omega) _
 dsimp only
 rw[q1]
 have l1:(cts.set j (cts.getD j 0+1)).length=m:=by rw[bs5];exact cl
 generalize cts.set j (cts.getD j 0+1)=ct2 at n1 l1
 have a2:=kW (ws:=ct2) (j:=k) (by omega)
 refine⟨_,rfl,_,rfl,_,_,_,rfl,rfl,a2,_,_,rfl,rfl,_,rfl,_,rfl,k,k,rfl,?_,trivial,?_⟩
 ·rw[bA];unfold fX;rw[if_pos (by omega),if_pos (by omega)];rfl
 have q2:(intz ct2).set k (.int (ct2.getD k 0+1))=intz (ct2.set k (ct2.getD k 0+1)):=(List.map_set ..).symm
 have n2:NN (ct2.set k (ct2.getD k 0+1)):=n1.set (by have:=jH n1 k;omega) _
 dsimp only
 rw[q2]
 have:=nx (lks++[((j:Int),(k:Int))]) (ct2.set k (ct2.getD k 0+1)) (T.app e0 e1) (by rw[bs5];exact l1) n2
 unfold b7 at this ⊢
 rw[bp5]at this
 exact this
theorem ah3 {nb:Int}(hc:m<=cs.length)(k1:1<=k)(hk:k<m)(m40:m<=40)(T:TL k lks)(cl:cts.length=m)(nn:NN cts){s3 s6:Option Slot}(nx:∀(y9:Option Slot) (lks':aa) (cts':af),TL (k+1) lks'->cts'.length=m->NN cts'->E.nx [some (.sh true (.scr ns)),s1,si m,s3,some (.own (.lst (b7 lks'))),some (.own (.lst (intz cts'))),s6,si k,si nb,y9,y10,y11,y12]) :
  ag7 E [some (.sh true (.scr ns)),s1,si m,s3,some (.own (.lst (b7 lks))),some (.own (.lst (intz cts))),s6,si k,si nb,y9,y10,y11,y12]:=by
 refine⟨_,rfl,_,_,rfl,rfl,(by show (0:Int)<8;decide),_,_,rfl,rfl,_,rfl,uB ?_ (nx y9 lks cts T.same cl nn)⟩
 have e0:=bv6 (nb/8) (show (k:Int)≠0 by omega)
 have e1:=bB8 (nb/8) (show (0:Int)<(k:Int) by omega)
 refine⟨_,rfl,_,_,rfl,rfl,⟨by decide,by decide⟩,_,rfl,_,_,rfl,rfl,(by show (0:Int)<(k:Int);omega),trivial,?_⟩
 refine⟨_,rfl,_,ns,1,rfl,.inl rfl,by decide,_,_,rfl,rfl,(by show (0:Int)<3;decide),.inl ⟨_,_,rfl,rfl,_,rfl,uB ?_ (ah2 hc hk m40 T cl nn e0 e1 λl c a b d=>nx _ l c a b d)⟩⟩
 refine⟨_,rfl,_,_,rfl,rfl,_,rfl,_,_,rfl,rfl,⟨by decide,by decide⟩,_,_,rfl,rfl,(by show (0:Int)<3;decide),_,_,rfl,rfl,_,_,rfl,trivial,?_⟩
 have h0:=bv6 (nb/8) (show (3:Int)≠0 by decide)
 dsimp only
 generalize hz:(if (k:Int)-1-nb/8%3>0 then (k:Int)-1-nb/8%3 else 0)=z
 have z0:0<=z:=by rw[<- hz];split<;>omega
 have z1:z<(k:Int):=by rw[<- hz];split<;>omega
 exact ah2 hc hk m40 T cl nn z0 z1 λl c a b d=>nx _ l c a b d
theorem bb3 (hc:m<=cs.length)(k1:1<=k)(hk:k<m)(m40:m<=40)(T:TL k lks)(cl:cts.length=m)(nn:NN cts)(nx:∀(y8 y9:Option Slot) (lks':aa) (cts':af),TL (k+1) lks'->cts'.length=m->NN cts'->E.nx [some (.sh true (.scr ns)),s1,si m,some (.sh true (.bl dg)),some (.own (.lst (b7 lks'))),some (.own (.lst (intz cts'))),some (.own (.lst (intz cs))),si k,y8,y9,y10,y11,y12]) :
  ag8 E [some (.sh true (.scr ns)),s1,si m,some (.sh true (.bl dg)),some (.own (.lst (b7 lks))),some (.own (.lst (intz cts))),some (.own (.lst (intz cs))),si k,y8,y9,y10,y11,y12]:=by
 have a0:=kW (ws:=cs) (j:=k) (by omega)
 refine⟨_,rfl,_,rfl,_,_,_,rfl,rfl,a0,_,rfl,_,_,rfl,by omega,by omega,λz _=>⟨trivial,?_⟩⟩
 refine⟨_,rfl,_,rfl,?_⟩
 cases dg with
 |false=>exact bG (ah3 hc k1 hk m40 T cl nn λy9 l c a b d=>nx _ y9 l c a b d)
 |true=>exact bJ ⟨_,rfl,_,rfl,_,_,_,rfl,rfl,a0,_,_,rfl,rfl,⟨by decide,by decide⟩,trivial,ah3 hc k1 hk m40 T cl nn λy9 l c a b d=>nx _ y9 l c a b d⟩
theorem ah4 {m:Nat}{ps:af}(hp:ps.Perm (rng m)):Pl m λi=>ps.getD i.toNat 0:=by
 have pl:=hp.length_eq
 rw[cF]at pl
 have nd:ps.Nodup:=hp.nodup_iff.mpr (uO (jI m))
 have gt:∀i:Int,0<=i->i<(m:Int)->ps[i.toNat]? = some (ps.getD i.toNat 0):=λi h0 h1=>by
  rw[bo1,bm6 (by omega)];rfl
 refine⟨λi h0 h1=>bM.mp (hp.mem_iff.mp (bm3 (gt i h0 h1))),λi j h0 h1 g0 g1 e=>?_,λx hx=>?_⟩
 ·have:=(List.getElem?_inj (bn2.mp (gt i h0 h1)).1 nd).mp ((gt i h0 h1).trans (by rw[gt j g0 g1];exact congrArg some e))
  omega
 ·obtain⟨i,hi⟩:=bv4.mp (hp.mem_iff.mpr hx)
  have il:=(bn2.mp hi).1
  refine⟨i,by omega,by omega,?_⟩
  show ps.getD (i:Int).toNat 0=x
  rw[bp9,bo1,hi];rfl
theorem bb4 {R:List PV->(PV->Prop)->Prop}(hR:ag5 R){ps ws:af}{s0 s3 s5 s6 y7:Option Slot}{Q:PV->Prop}(m40:m<=40)(T:TL m lks)(hp:ps.Perm (rng m))(wl:ws.length=m)(wn:NN ws)(q:∀ls,WL m ws ls->e6 m ls->e8 m ls->Q (b9 ws ls)) :
  ag9 R { nx:=λ_=>Q .non,rt:=Q } [s0,s1,si m,s3,some (.own (.lst (b7 lks))),s5,s6,y7,y8,y9,some (.sh true (.lst (intz ps))),some (.own (.lst (intz ws))),y12]:=by
 have P:=ah4 hp
 have pl:=hp.length_eq
 rw[cF]at pl
 have fw:=T.few
 have pgl:(b7 lks).length=lks.length:=bm7 _
 refine⟨_,rfl,_,rfl,b7 lks,rfl,(λz=>by cases z),by rw[pgl];omega,λi acc=>acc=b7 ((lks.take i).map (fU λi=>ps.getD i.toNat 0)),rfl,?_,?_⟩
 ·rintro i y acc hy rfl
  unfold b7 at hy
  rw[bn4]at hy
  cases hz:lks[i]? with
  |none=>rw[hz]at hy;cases hy
  |some l=>
   rw[hz]at hy
   cases hy
   have h:=T.inn l (bm3 hz)
   obtain⟨a,ea⟩:∃a:Nat,l.1=a:=⟨l.1.toNat,by omega⟩
   obtain⟨b,eb⟩:∃b:Nat,l.2=b:=⟨l.2.toNat,by omega⟩
   have a1:L2.atI (intz ps) l.1=some (.int (ps.getD l.1.toNat 0)):=by rw[ea,bp9];exact kW (by omega)
   have a2:L2.atI (intz ps) l.2=some (.int (ps.getD l.2.toNat 0)):=by rw[eb,bp9];exact kW (by omega)
   refine⟨_,_,rfl,?_⟩
   refine⟨_,rfl,_,rfl,_,_,_,rfl,rfl,a1,_,rfl,_,rfl,_,_,_,rfl,rfl,a2,_,_,rfl,_,rfl,_,rfl,_,_,_,rfl,rfl,a1,_,rfl,_,rfl,_,_,_,rfl,rfl,a2,_,_,rfl,by show 2<=1000;decide,rfl,trivial,?_⟩
   dsimp only
   rw[br1,hz,bp5]
   unfold b7
   rw[bp5]
   have e1:(if ps.getD l.2.toNat 0<ps.getD l.1.toNat 0 then ps.getD l.2.toNat 0 else ps.getD l.1.toNat 0)=min (ps.getD l.1.toNat 0) (ps.getD l.2.toNat 0):=by split<;>omega
   have e2:(if ps.getD l.2.toNat 0>ps.getD l.1.toNat 0 then ps.getD l.2.toNat 0 else ps.getD l.1.toNat 0)=max (ps.getD l.1.toNat 0) (ps.getD l.2.toNat 0):=by split<;>omega
   show _++[PV.tup [.int (if ps.getD l.2.toNat 0<ps.getD l.1.toNat 0 then ps.getD l.2.toNat 0 else ps.getD l.1.toNat 0),.int (if ps.getD l.2.toNat 0>ps.getD l.1.toNat 0 then ps.getD l.2.toNat 0 else ps.getD l.1.toNat 0)]]=_
   rw[e1,e2];rfl
 ·rintro acc rfl
  rw[pgl,bp8 (bn1 _)]
  have inn:=ba6 P T
  have nd:=ba7 P T
  have ml:(lks.map (fU λi=>ps.getD i.toNat 0)).length=lks.length:=bm7 _
  have fp:∀ls:aa,flats (b7 ls)=true:=mJ
  refine⟨trivial,?_⟩
  refine⟨_,rfl,⟨_,_,rfl,rfl,eD _,?_⟩,(λns e=>by cases e)⟩
  refine⟨_,rfl,?_⟩
  refine hR (lks.map (fU λi=>ps.getD i.toNat 0)) _ (by rw[ml];omega) (λls' pm so=>?_)
  have W:=WL.perm (n:=m) (ws:=ws) (by omega) inn (by rw[ml];omega) nd wn pm so
  have lk:e6 m ls':=⟨λl hl=>W.inn l hl,W.most,W.ord⟩
  refine⟨⟨_,_,rfl,rfl,fp _,by show 2<=1000;decide,?_,trivial,?_⟩,(λns e=>by cases e)⟩
  ·show (flats (intz ws)&&(flats (b7 ls')&&true))=true
   rw[eD,fp];rfl
  ·exact q ls' W lk (ba9 lk (ba8 P T pm lk.fit))
theorem bb5 {s7:Option Slot}{Q:PV->Prop}(hn:ns.length<=63)(hc:m<=cs.length)(m40:m<=40)(T:TL m lks)(cl:cts.length=m)(nn:NN cts)(q:∀ws ls,WL m ws ls->e6 m ls->e8 m ls->Q (b9 ws ls)) :
  ah0 { nx:=λ_=>Q .non,rt:=Q } [some (.sh true (.scr ns)),s1,si m,some (.sh true (.bl dg)),some (.own (.lst (b7 lks))),some (.own (.lst (intz cts))),some (.own (.lst (intz cs))),s7,y8,y9,none,none,none]:=by
 refine⟨_,rfl,_,rfl,_,rfl,ns,m,dg,rfl,hn,m40,λps hp=>⟨trivial,?_⟩⟩
 have pl:=hp.length_eq
 rw[cF]at pl
 refine⟨by show 1<=1000;decide,rfl,_,rfl,_,_,rfl,rfl,rfl,by omega,by omega,by show 1<=10;decide,rfl,?_,?_⟩
 ·show flats (List.replicate (m:Int).toNat [PV.int 0]).flatten=true
  rw[uA];exact eD _
 show (aE _ _) _ [_,_,_,_,_,_,_,_,_,_,_,some (Slot.own (.lst (List.replicate (m:Int).toNat [PV.int 0]).flatten)),_]
 rw[uA,bp9]
 refine⟨_,rfl,m,rfl,by omega,by omega,λi ρ=>∃(ws:af) (y7:Option Slot),ρ = [some (.sh true (.scr ns)),s1,si m,some (.sh true (.bl dg)),some (.own (.lst (b7 lks))),some (.own (.lst (intz cts))),some (.own (.lst (intz cs))),y7,y8,y9,some (.sh true (.lst (intz ps))),some (.own (.lst (intz ws))),none]/\ws.length=m/\NN ws,⟨_,s7,rfl,bx4,λz hz=>by rw[List.eq_of_mem_replicate hz];exact bs6 0⟩,?_,?_⟩
 ·rintro i y ρ hy ⟨ws,y7,rfl,wl,wn⟩
  obtain⟨rfl,hi⟩:=kL hy
  have hi:i<m:=by omega
  refine gX ?_
  rw[bC4]
  have a1:=kW (ws:=cs) (j:=i) (by omega)
  have a2:=kW (ws:=cts) (j:=i) (by omega)
  have a3:=kW (ws:=ps) (j:=i) (by omega)
  have p1:=jH nn i
  have pr:=(ah4 hp).inn i (by omega) (by omega)
  rw[bp9]at pr
  obtain⟨z,ez⟩:∃z:Nat,ps.getD i 0=z:=⟨(ps.getD i 0).toNat,by omega⟩
  refine⟨_,rfl,_,rfl,_,_,_,rfl,rfl,a1,_,rfl,_,rfl,_,_,_,rfl,rfl,a2,_,_,rfl,rfl,_,_,rfl,rfl,by show 0<cts.getD i 0+2;omega,_,rfl,_,rfl,_,rfl,_,_,_,rfl,rfl,a3,_,z,rfl,?_,trivial,ws.set z (cs.getD i 0%(cts.getD i 0+2)),si i,?_,by rw[bs5];exact wl,wn.set (bv6 _ (by omega)) _⟩
  ·rw[bA,ez];unfold fX;rw[if_pos (by omega),if_pos (by omega)];rfl
  ·show _ = [_,_,_,_,_,_,_,_,_,_,_,some (Slot.own (.lst (intz (ws.set z (cs.getD i 0%(cts.getD i 0+2)))))),_]
   have:(intz ws).set z (.int (cs.getD i 0%(cts.getD i 0+2)))=intz (ws.set z (cs.getD i 0%(cts.getD i 0+2))):=(List.map_set ..).symm
   rw[<- this];rfl
 ·rintro ρ ⟨ws,y7,rfl,wl,wn⟩
  exact bb4 bb2 m40 T hp wl wn λls a b c=>q ws ls a b c
end
theorem bb6 {mx:Int}(mx40:mx<=40):c6 ah1 ["script","most","many","digits","links","counts","cells","k","number","elder","places","wants","pairs"] (ag4 mx):=by
 rintro xs Q ⟨ns,most,rfl,hl,h0,h1,q⟩
 refine⟨_,rfl,_,rfl,ns,most,rfl,h0,λz z0 z1=>⟨trivial,?_⟩⟩
 obtain⟨m,rfl⟩:∃m:Nat,z=m:=⟨z.toNat,by omega⟩
 refine⟨_,rfl,_,ns,1,rfl,.inl rfl,by decide,_,_,rfl,rfl,⟨by decide,by decide⟩,_,_,rfl,rfl,(by show (0:Int)<2;decide),.inl ⟨_,_,rfl,rfl,trivial,?_⟩⟩
 generalize (if false=true then !decide (ns.getD (1:Int).toNat 0/8%2=1) else decide (ns.getD (1:Int).toNat 0/8%2=1))=dg
 refine⟨by decide,rfl,rfl,rfl,?_⟩
 refine⟨by show 1<=1000;decide,rfl,_,rfl,_,_,rfl,rfl,rfl,by omega,by omega,by show 1<=10;decide,rfl,?_,?_⟩
 ·show flats (List.replicate (m:Int).toNat [PV.int 0]).flatten=true
  rw[uA];exact eD _
 show (aE _ _) _ [_,_,_,_,_,some (Slot.own (.lst (List.replicate (m:Int).toNat [PV.int 0]).flatten)),_,_,_,_,_,_,_]
 rw[uA,bp9]
 obtain⟨zs,ez,zl⟩:=aV8 ns (some 4) (some (4+(m:Int)))
 refine⟨_,rfl,_,rfl,_,rfl,_,_,rfl,rfl,_,rfl,_,rfl,eD _,rfl,?_,?_⟩
 ·show flats (jA (intz ns) (some 4) (some (4+(m:Int))))=true
  rw[ez];exact eD _
 show (aE _ _) _ [_,_,_,_,_,_,some (Slot.own (.lst (jA (intz ns) (some 4) (some (4+(m:Int)))))),_,_,_,_,_,_]
 rw[ez]
 refine⟨_,rfl,_,_,rfl,rfl,_,rfl,(zs.length:Int),(m:Int),by rw[bA],rfl,⟨by omega,by omega,by omega,by omega⟩,λi ρ=>∃(cs:af) (y7:Option Slot),ρ = [some (.sh true (.scr ns)),si most,si m,some (.sh true (.bl dg)),some (.own (.lst (b7 []))),some (.own (.lst (intz (List.replicate m 0)))),some (.own (.lst (intz cs))),y7,none,none,none,none,none]/\cs.length=zs.length+i,⟨zs,none,rfl,rfl⟩,?_,?_⟩
 ·rintro i y ρ hy ⟨cs,y7,rfl,cl⟩
  obtain⟨rfl,hi⟩:=kL hy
  refine gX ?_
  refine⟨_,rfl,_,rfl,_,ns,1,rfl,.inl rfl,by decide,_,rfl,_,_,rfl,by omega,by omega,λz _=>⟨trivial,by rw[bA];omega,cs++[z],_,by rw[fE];rfl,by rw[bo2,cl];rfl⟩⟩
 rintro ρ ⟨cs,y7,rfl,cl⟩
 rw[gU]at cl
 have hc:m<=cs.length:=by omega
 refine⟨_,rfl,(1:Int),(m:Int),rfl,rfl,⟨by omega,by omega,by omega,by omega⟩,λi ρ=>∃(lks:aa) (cts:af) (y7 y8 y9:Option Slot),ρ = [some (.sh true (.scr ns)),si most,si m,some (.sh true (.bl dg)),some (.own (.lst (b7 lks))),some (.own (.lst (intz cts))),some (.own (.lst (intz cs))),y7,y8,y9,none,none,none]/\TL (i+1) lks/\cts.length=m/\NN cts,⟨[],_,y7,none,none,rfl,⟨(λl hl=>by cases hl),bx3,br5 _⟩,bx4,λz hz=>by rw[List.eq_of_mem_replicate hz];exact bs6 0⟩,?_,?_⟩
 ·rintro i y ρ hy ⟨lks,cts,y7,y8,y9,rfl,T,cl,nn⟩
  obtain⟨rfl,hi⟩:=kL hy
  refine gX ?_
  rw[show (1:Int)+(i:Int)=((i+1:Nat):Int) by omega]
  exact bb3 hc (by omega) (by omega) (by omega) T cl nn λy8 y9 l c a b d=>⟨l,c,si ((i+1:Nat):Int),y8,y9,rfl,a,b,d⟩
 ·rintro ρ ⟨lks,cts,y7,y8,y9,rfl,T,cl,nn⟩
  rw[gU]at T
  have T':TL m lks:=by
   by_cases m0:m=0
   ·subst m0
    have e:lks = []:=by
     cases lks with
     |nil=>rfl
     |cons l r=>have:=T.inn l bm8;omega
    subst e
    exact⟨(λl hl=>by cases hl),bx3,br5 _⟩
   ·rwa [show ((m:Int)-1).toNat+1=m by omega]at T
  exact bb5 hl hc (by omega) T' cl nn λws ls a b c=>q m ws ls z1 a b c
abbrev A0:=List (Int×af)
def ksB (W:A0):af:=W.map (·.1)
section
variable {ws:af}{n:Nat}{ls:aa}{P:bO}{W T:A0}{D B:af}{h x y c:Int}{e:Option Int}
theorem Rt0.kid (R:Rt0 n ls P)(f:cG ls)(hp:(h,e)∈P):c∈aF ls h e↔(c,some h)∈P:=by
 constructor
 ·intro z
  obtain⟨z1,z2⟩:=fR.mp z
  exact (R.done h e hp c z1).resolve_left λq=>z2 q.symm
 ·intro z
  obtain⟨i,hi⟩:=eO z
  obtain⟨j,q,ji,hj,hn⟩:=R.par i c h hi
  refine fR.mpr ⟨k8 hn,λec=>?_⟩
  rw[<- ec]at hp
  obtain⟨i2,hi2⟩:=eO hp
  obtain⟨j2,q2,ji2,hj2,_⟩:=R.par i2 h c hi2
  have e1:=(dH R.nd hj2 hi).1
  have e2:=(dH R.nd hj hi2).1
  omega
structure pA (P:bO)(W:A0)(D:af)(x:Int)(B:af):Prop where
 self:x∈B
 nd:B.Nodup
 up:∀y∈B,y=x∨(y∈ksB W/\∃e,(y,some e)∈P/\e∈B)
 dn:∀y∈B,∀c,(c,some y)∈P->c∈ksB W->c∈B
 inn:∀y∈B,y∈D
theorem ah5 {U L:af}(sh:iH ws ls U)(hy:y∈rng ws.length)(nd:L.Nodup)(sub:∀z∈L,z∈aJ ls y/\z∈U)(en:ws.getD y.toNat 0<=(L.length:Int)):y∈U:=by
 refine br8 λno=>?_
 have k:=sh y hy
 unfold kin at k
 rw[bm9 no,Bool.not_false,Bool.true_and,bs7]at k
 have:=e7 nd (m:=(aJ ls y).filter λx=>decide (x∈U)) λz hz=>bn3.mpr ⟨(sub z hz).1,bm4 (sub z hz).2⟩
 omega
theorem bb7 (nd:B.Nodup)(so:B.Pairwise (· <= ·))(inn:∀x∈B,x∈rng n):aZ n B=true:=by
 have up:B.Pairwise (·<·):=(List.Pairwise.and so nd).imp λz=>Int.lt_iff_le_and_ne.mpr ⟨z.1,z.2⟩
 unfold aZ
 rw[br3,by4]
 refine⟨tP up,λb hb=>?_⟩
 obtain⟨x,hx,rfl⟩:=bn6.mp hb
 have:=bM.mp (inn x hx)
 show inB n x=true
 unfold inB
 simp only[br3,bq1]
 omega
end
abbrev uT:bI:=ag4 40
abbrev ah6:aT:=ah1
theorem bb8:c6 ah6 ["script","most","many","digits","links","counts","cells","k","number","elder","places","wants","pairs"] uT:=bb6 (by decide)
abbrev cB:=aa
def cH (bl:cB):af:=bl.map λp=>p.2-p.1
def eL (w p:Int)(bl:cB):Int:=(bl.map (·.1)).sum+(if w<=(bl.length:Int) then min p ((dD (cH bl)).take w.toNat).sum else p)
def gL (w p:Int)(bl:cB):Int×Int:=(eL (max 0 (w-1)) p bl,eL w p bl)
def uU:bI:=λxs Q=>∃w:Int,xs = [.int w]/\Q (.int (max 0 (w-1)))
def ah7:aT:=(bV (aB m6 (a7 (qC (.int 0)) (a7 (kF (a5 0) (qC (.int 1))) a9))))
theorem bb9:c6 ah7 ["want"] uU:=by
 rintro xs Q ⟨w,rfl,q⟩
 refine⟨_,rfl,_,_,rfl,rfl,_,_,rfl,trivial,?_⟩
 have e:(if w-1>0 then w-1 else 0)=max 0 (w-1):=by split<;>omega
 show Q (.int (if w-1>0 then w-1 else 0))
 rw[e];exact q
def qS:bI:=λxs Q=>∃(w p:Int) (bl:cB),xs = [.int w,.int p,.lst (b7 bl)]/\0<=w/\bl.length<64/\Q (.int (eL w p bl))
def ah8:aT:=(aE (b8 3 (aB sH (a7 (cT (cO (a5 2)) [none,none] (gV 0 1) cV (kF (a5 1) (a5 0))) a9)))
 (aE (b8 4 (a5 1))
 (aE (dB (bH (xK (aB dM (a7 (a5 3) a9)) (a5 0))) (b8 4 (aB nL (a7 (a5 1) (a7 (aB o7 (a7 (xJ (a5 3) S9 (sN (a5 0))) a9)) a9)))) dA)
 (bV (cP (aB o7 (a7 (cT (cO (a5 2)) [none,none] (gV 0 1) cV (a5 0)) a9)) (a5 4))))))
section
variable {w p d:Int}{bl:cB}{Q:PV→Prop}{s0 s1 s3:Option Slot}
theorem ah9 {g:Bool}(hl:bl.length<64)(q:Q (.int ((bl.map (·.1)).sum+d))) :
  (bV (cP (aB o7 (a7 (cT (cO (a5 2)) [none,none] (gV 0 1) cV (a5 0)) a9)) (a5 4))) { nx:=λ_=>Q .non,rt:=Q } [s0,s1,some (.sh g (.lst (b7 bl))),s3,si d]:=by
 refine⟨_,rfl,b7 bl,rfl,(λz=>by cases g<;>cases z),by rw[qH];omega,λi acc=>acc=intz ((bl.take i).map (·.1)),rfl,?_,?_⟩
 ·rintro i y acc hy rfl
  obtain⟨r,rfl,hr⟩:=Z6 hy
  refine zR ?_
  refine⟨_,rfl,trivial,?_⟩
  dsimp only
  rw[br1,hr,bp5,fE];rfl
 ·rintro acc rfl
  rw[qH,bp8 (bn1 _)]
  exact⟨_,_,rfl,rfl,_,rfl,_,_,rfl,rfl,trivial,q⟩
end
theorem bc0:c6 ah8 ["want","price","below","gaps","dearer"] qS:=by
 rintro xs Q ⟨w,p,bl,rfl,w0,hl,q⟩
 refine⟨_,rfl,b7 bl,rfl,(λz=>by cases z),by rw[qH];omega,λi acc=>acc=intz (cH (bl.take i)),rfl,?_,?_⟩
 ·rintro i y acc hy rfl
  obtain⟨r,rfl,hr⟩:=Z6 hy
  refine zR ?_
  refine⟨_,rfl,_,rfl,_,_,rfl,rfl,trivial,?_⟩
  dsimp only
  unfold cH
  rw[br1,hr,bp5,fE];rfl
 rintro acc rfl
 rw[qH,bp8 (bn1 _)]
 have gl:(cH bl).length=bl.length:=bm7 _
 refine⟨cH bl,rfl,by omega,λms pm so=>⟨trivial,?_⟩⟩
 cases aY4 pm so
 have sl:=pm.length_eq
 refine⟨_,rfl,trivial,?_⟩
 refine⟨_,rfl,_,_,rfl,rfl,_,rfl,_,_,rfl,rfl,_,rfl,?_⟩
 rw[bA]
 unfold eL at q
 by_cases c:w<=(bl.length:Int)
 ·rw[if_pos c]at q
  rw[bm4 (by omega)]
  refine bJ ⟨_,rfl,_,rfl,_,rfl,_,rfl,intz (dD (cH bl)),rfl,eD _,_,(dD (cH bl)).take w.toNat,rfl,?_,_,_,rfl,trivial,?_⟩
  ·show some (jA (intz (dD (cH bl))) none (some w))=_
   rw[aR5 w0];unfold intz;rw[List.map_take]
  ·have e:(if ((dD (cH bl)).take w.toNat).sum<p then ((dD (cH bl)).take w.toNat).sum else p)=min p ((dD (cH bl)).take w.toNat).sum:=by split<;>omega
   dsimp only
   rw[e]
   exact ah9 hl q
 ·rw[if_neg c]at q
  rw[bm9 (by omega)]
  exact bG (ah9 hl q)
def uV:bI:=λxs Q=>∃(w p:Int) (bl:cB),xs = [.int w,.int p,.lst (b7 bl)]/\0<=w/\bl.length<64/\Q (.tup [.int (gL w p bl).1,.int (gL w p bl).2])
def ai0:aT:=(bV (gR (a7 (aB qS (a7 (aB uU (a7 (a5 0) a9)) (a7 (a5 1) (a7 (a5 2) a9)))) (a7 (aB qS (a7 (a5 0) (a7 (a5 1) (a7 (a5 2) a9)))) a9))))
theorem bc1:c6 ai0 ["want","price","below"] uV:=by
 rintro xs Q ⟨w,p,bl,rfl,w0,hl,q⟩
 exact⟨_,rfl,w,rfl,_,rfl,_,rfl,_,p,bl,rfl,by omega,hl,_,rfl,_,rfl,_,rfl,w,p,bl,rfl,w0,hl,by show 2<=1000;decide,rfl,trivial,q⟩
def aD (L:cB)(h:Int):Int×Int:=L.getD h.toNat (0,0)
def jJ (ws ps:af)(ls:aa)(L:cB)(h:Int)(e:Option Int):Prop:=aD L h=gL (ws.getD h.toNat 0) (ps.getD h.toNat 0) ((aF ls h e).map (aD L))
def mU (ws ps:af)(ls:aa)(P:bO)(L:cB):Prop:=L.length=ws.length/\∀h e,(h,e)∈P->jJ ws ps ls L h e
def uW:bI:=λxs Q=>∃ws ls x ps,xs = [b9 ws ls,x]/\Wb ws ls/\e6 ws.length ls/\e8 ws.length ls/\NN ws/\dY x ps/\qO ws.length ps/\∀P L,Rt ws.length ls P->mU ws ps ls P L->Q (.tup (b7 L))
def ai1:aT:=(aE (b8 8 (cT (cO (aB oE (a7 (a5 4) (a7 (a5 6) (a7 (a5 7) a9))))) [none,some 5] (bQ 0) cV (bD (a5 1) (a5 0))))
  (lB 5 (a5 6) (aB uV (a7 (bD (bD (a5 0) (qC (.int 0))) (a5 6)) (a7 (bD (a5 3) (a5 6)) (a7 (a5 8) a9))))))
def ai2:aT:=(aE (b8 2 (aB uR (a7 (a5 0) a9)))
 (aE (b8 3 (aB tZ (a7 (a5 1) (a7 (aB iU (a7 (a5 0) a9)) a9))))
 (aE (b8 4 (aB kO (a7 (a5 0) a9)))
 (aE (dS 5 (qJ (eW (a7 (gR (a7 (qC (.int 0)) (a7 (qC (.int 0)) a9))) a9)) (aB iU (a7 (a5 0) a9))))
 (aE (dU (zL (a5 2)) (gV 6 7)
  ai1)
 (bV (aB jB (a7 (a5 5) a9))))))))
theorem ai3 {L:cB}{h:Int}(h0:0<=h)(h1:h<(L.length:Int)):L2.atI (b7 L) h=some (.tup [.int (aD L h).1,.int (aD L h).2]):=by
 obtain⟨j,rfl⟩:∃j:Nat,h=j:=⟨h.toNat,by omega⟩
 refine jU ?_
 unfold b7 aD
 rw[bp9,bn4,bo1,bm6 (by omega)];rfl
theorem qT {ns:af}{h:Int}(h0:0<=h)(h1:h<(ns.length:Int)):L2.atI (intz ns) h=some (.int (ns.getD h.toNat 0)):=by
 obtain⟨j,rfl⟩:∃j:Nat,h=j:=⟨h.toNat,by omega⟩
 rw[bp9];exact kW (by omega)
theorem ai4 {L:cB}{h x:Int}{v:Int×Int}(h0:0<=h)(x0:0<=x)(ne:x≠h):aD (L.set h.toNat v) x=aD L x:=by
 unfold aD
 rw[bo1,bo1,bq7 (by omega)]
theorem bc2 {L:cB}{h:Int}{v:Int×Int}(h0:0<=h)(h1:h<(L.length:Int)):aD (L.set h.toNat v) h=v:=by
 unfold aD
 rw[bo1,bu0 (by omega)];rfl
section
variable {ws ps:af}{ls:aa}{P:bO}{L:cB}{h:Int}{e:Option Int}{E:kB}{s1 s2 y8:Option Slot}
theorem bc3 (lk:e6 ws.length ls)(n40:ws.length<=40)(nn:NN ws)(pl:ps.length=ws.length)(ll:L.length=ws.length)(hr:h∈rng ws.length)(nx:∀y8,E.nx [some (.sh true (b9 ws ls)),s1,s2,some (.sh true (.tup (intz ps))),some (.sh true (.lst (cS ws.length ls))),some (.own (.lst (b7 (L.set h.toNat (gL (ws.getD h.toNat 0) (ps.getD h.toNat 0) ((aF ls h e).map (aD L))))))),si h,some (.sh true (gG e)),y8]) :
  ai1 E [some (.sh true (b9 ws ls)),s1,s2,some (.sh true (.tup (intz ps))),some (.sh true (.lst (cS ws.length ls))),some (.own (.lst (b7 L))),si h,some (.sh true (gG e)),y8]:=by
 have hm:=bM.mp hr
 have nl:=lk.nlen h
 have kl:(aF ls h e).length<=ws.length:=by have:=bs8 (λx=>!decide (some x=e)) (aJ ls h);unfold aF;omega
 refine⟨_,rfl,_,rfl,_,rfl,ws.length,ls,h,e,rfl,hm.1,hm.2,by omega,intz (aF ls h e),rfl,(λz=>by cases z),by rw[bA];omega,λi acc=>acc=b7 (((aF ls h e).take i).map (aD L)),rfl,?_,?_⟩
 ·rintro i y acc hy rfl
  obtain⟨c,rfl,hc⟩:=fP hy
  have cr:=bM.mp (lk.inr h c (fR.mp (bm3 hc)).1)
  refine⟨_,rfl,_,rfl,_,_,_,rfl,rfl,ai3 cr.1 (by omega),rfl,?_⟩
  dsimp only
  unfold b7
  rw[br1,hc,bp5,bp5];rfl
 ·rintro acc rfl
  rw[bA,bp8 (bn1 _)]
  have wp:0<=ws.getD h.toNat 0:=jH nn _
  refine⟨trivial,?_⟩
  refine⟨_,rfl,_,_,_,rfl,rfl,rfl,_,rfl,_,_,_,rfl,rfl,qT hm.1 hm.2,_,rfl,_,rfl,_,_,_,rfl,rfl,qT hm.1 (by omega),_,rfl,_,_,(aF ls h e).map (aD L),rfl,wp,by rw[bm7];omega,b7 L,rfl,_,rfl,h,h.toNat,rfl,?_,trivial,?_⟩
  ·rw[qH];unfold fX;rw[if_pos (by omega),if_pos (by omega)]
  ·have:=nx (some (.sh true (.lst (b7 ((aF ls h e).map (aD L))))))
   have q:b7 (L.set h.toNat (gL (ws.getD h.toNat 0) (ps.getD h.toNat 0) ((aF ls h e).map (aD L))))=(b7 L).set h.toNat (.tup [.int (gL (ws.getD h.toNat 0) (ps.getD h.toNat 0) ((aF ls h e).map (aD L))).1,.int (gL (ws.getD h.toNat 0) (ps.getD h.toNat 0) ((aF ls h e).map (aD L))).2]):=by unfold b7;rw[List.map_set]
   rw[q]at this
   exact this
end
structure iW (P:bO)(i:Nat)(D:af):Prop where
 mem:∀y,y∈D↔∃(j:Nat) (q:Option Int),P[j]? = some (y,q)/\P.length<=j+i
theorem iW.nil {P:bO}:iW P 0 []:=⟨λy=>⟨(λz=>by cases z),λ⟨j,q,hj,hl⟩=>by have:=(bn2.mp hj).1;omega⟩⟩
theorem iW.next {P:bO}{i:Nat}{D:af}{h:Int}{e:Option Int}(S:iW P i D)(il:i<P.length)(hk:P[P.length-1-i]? = some (h,e)):iW P (i+1) (h::D):=⟨λy=>by
 constructor
 ·intro z
  rcases bn8.mp z with z|z
  ·rw[z];exact⟨_,e,hk,by omega⟩
  ·obtain⟨j,q,hj,hl⟩:=(S.mem y).mp z
   exact⟨j,q,hj,by omega⟩
 ·rintro⟨j,q,hj,hl⟩
  by_cases ej:j=P.length-1-i
  ·subst ej
   rw[hk]at hj
   cases hj
   exact bm8
  ·exact bn5 _ ((S.mem y).mpr ⟨j,q,hj,by omega⟩)⟩
theorem iW.notin {n:Nat}{ls:aa}{P:bO}{i:Nat}{D:af}{h:Int}{e:Option Int}(S:iW P i D)(R:Rt n ls P)(il:i<P.length)(hk:P[P.length-1-i]? = some (h,e)):h∉D:=λz=>by
 obtain⟨j,q,hj,hl⟩:=(S.mem h).mp z
 have:=(dH R.nd hj hk).1
 omega
theorem iW.elder {n:Nat}{ls:aa}{P:bO}{i:Nat}{D:af}{h:Int}{e:Option Int}(S:iW P i D)(R:Rt n ls P)(il:i<P.length)(hk:P[P.length-1-i]? = some (h,e)):∀y∈D,(h,some y)∉P:=λy hy z=>by
 obtain⟨j,q,hj,hl⟩:=(S.mem y).mp hy
 cases lH R.nd z (bm3 hk)
 obtain⟨j',q',jk,hj',_⟩:=R.par _ h y hk
 have:=(dH R.nd hj hj').1
 omega
theorem bc4 {n:Nat}{ls:aa}{P:bO}(R:Rt n ls P):P.length<=n:=by
 have:=e7 R.nd (m:=rng n) λx hx=>(R.mem x).mp hx
 rwa [bm7,cF]at this
theorem bc5 {P:bO}{i:Nat}{y:PV}(hy:(eQ P).reverse[i]? = some y):i<P.length/\∃h e,P[P.length-1-i]? = some (h,e)/\y=uQ (h,e):=by
 have il:i<P.length:=by have:=(bn2.mp hy).1;rwa [List.length_reverse,mT]at this
 rw[List.getElem?_reverse (by rw[mT];exact il),mT]at hy
 unfold eQ at hy
 rw[bn4]at hy
 obtain⟨⟨h,e⟩,hk⟩:∃p,P[P.length-1-i]? = some p:=⟨_,bm6 (by omega)⟩
 rw[hk]at hy
 cases hy
 exact⟨il,h,e,hk,rfl⟩
theorem ai5 (n:Nat)(a b:Int):(List.replicate n [PV.tup [.int a,.int b]]).flatten=b7 (List.replicate n (a,b)):=by
 induction n with
 |zero=>rfl
 |succ n ih=>rw[bs9,bx2,ih,bs9];rfl
theorem bc6:c6 ai2 ["web","prices","pairs","known","around","ledger","hearth","elder","below"] uW:=by
 rintro xs Q ⟨ws,ls,x,ps,rfl,wb,lk,w,nn,hx,⟨gl,gn⟩,q⟩
 have few:=wb.few
 refine⟨_,rfl,ws,ls,rfl,wb,lk,w,λP R=>⟨trivial,?_⟩⟩
 have pl:=bc4 R
 refine⟨_,rfl,_,rfl,ws,ls,rfl,x,ps,ws.length,rfl,hx,gl,by omega,gn,trivial,?_⟩
 refine⟨_,rfl,ws,ls,rfl,wb,trivial,?_⟩
 refine⟨by show 2<=1000;decide,rfl,by show 1<=1000;decide,rfl,_,rfl,ws,ls,rfl,_,_,rfl,rfl,rfl,by omega,by omega,by show 1<=10;decide,rfl,?_,?_⟩
 ·show flats (List.replicate (ws.length:Int).toNat [PV.tup [.int 0,.int 0]]).flatten=true
  rw[ai5];exact mJ _
 show (aE _ _) _ [some (Slot.sh (flat (b9 ws ls)) (b9 ws ls)),some (Slot.sh (flat x) x),_,_,_,some (Slot.own (.lst (List.replicate (ws.length:Int).toNat [PV.tup [.int 0,.int 0]]).flatten)),_,_,_]
 rw[ai5,bp9,aM4]
 refine⟨_,rfl,eQ P,rfl,(λz=>by cases z),λi ρ=>∃(L:cB) (D:af) (y6 y7 y8:Option Slot),ρ = [some (.sh true (b9 ws ls)),some (Slot.sh (flat x) x),some (.sh true (.lst (eQ P))),some (.sh true (.tup (intz ps))),some (.sh true (.lst (cS ws.length ls))),some (.own (.lst (b7 L))),y6,y7,y8]/\L.length=ws.length/\iW P i D/\∀h e,(h,e)∈P->h∈D->jJ ws ps ls L h e,⟨_,[],none,none,none,rfl,bx4,iW.nil,λ_ _ _ z=>by cases z⟩,?_,?_⟩
 ·rintro i y ρ hy ⟨L,D,y6,y7,y8,rfl,ll,S,ok⟩
  obtain⟨il,h,e,hk,rfl⟩:=bc5 hy
  have hp:=bm3 hk
  have hr:=(R.mem h).mp (bn6.mpr ⟨_,hp,rfl⟩)
  have hm:=bM.mp hr
  refine⟨_,_,rfl,?_⟩
  refine bc3 lk few nn gl ll hr λy8=>⟨_,h::D,_,_,y8,rfl,by rw[bs5];exact ll,S.next il hk,λg e' hg gd=>?_⟩
  have hD:=S.notin R il hk
  have kid:∀c∈aF ls g e',c≠h/\0<=c:=λc hc=>by
   have cp:=(R.kid lk.fit hg).mp hc
   have cr:=bM.mp ((R.mem c).mp (bn6.mpr ⟨_,cp,rfl⟩))
   refine⟨λz=>?_,cr.1⟩
   subst z
   rcases bn8.mp gd with z|z
   ·subst z
    exact lk.fit.irr g (fR.mp hc).1
   ·exact S.elder R il hk g z cp
  unfold jJ
  rw[bt8 (g:=aD L) λc hc=>ai4 hm.1 (kid c hc).2 (kid c hc).1]
  rcases bn8.mp gd with z|z
  ·subst z
   cases lH R.nd hg hp
   rw[bc2 hm.1 (by omega)]
  ·have gr:=bM.mp ((R.mem g).mp (bn6.mpr ⟨_,hg,rfl⟩))
   rw[ai4 hm.1 gr.1 λz'=>hD (by rw[<- z'];exact z)]
   exact ok g e' hg z
 ·rintro ρ ⟨L,D,y6,y7,y8,rfl,ll,S,ok⟩
  refine⟨_,rfl,⟨_,_,rfl,rfl,mJ _,trivial,q P L R ⟨ll,λh e he=>ok h e he ?_⟩⟩,λns z=>by cases z⟩
  rw[List.length_reverse,mT]at S
  obtain⟨j,hj⟩:=eO he
  exact (S.mem h).mpr ⟨j,e,hj,by omega⟩
section
variable {n:Nat}{ls:aa}{P P':bO}
theorem Rt0.pair (R:Rt0 n ls P){h:Int}(hh:h∈rng n):∃e,(h,e)∈P:=by
 obtain⟨⟨h',e⟩,hp,rfl⟩:=bn6.mp ((R.mem h).mpr hh)
 exact⟨e,hp⟩
theorem Rt0.inr (R:Rt0 n ls P){h:Int}{e:Option Int}(hp:(h,e)∈P):h∈rng n:=(R.mem h).mp (bn6.mpr ⟨_,hp,rfl⟩)
theorem ai6 (R:Rt n ls P)(R':Rt n ls P'):∀(i:Nat) (h:Int) (e':Option Int),P'[i]? = some (h,e')->(h,e')∈P:=by
 intro i
 induction i using Nat.strongRecOn with
 |ind i ih=>
  intro h e' hi
  cases e' with
  |none=>exact (R.root h).mpr ((R'.root h).mp (bm3 hi))
  |some g=>
   obtain⟨j,q,ji,hj,gn⟩:=R'.par i h g hi
   obtain⟨e,he⟩:=R.pair (R'.inr (bm3 hi))
   rcases R.done h e he g gn with z|z
   ·rw[<- z];exact he
   ·have:=lH R.nd (ih j ji g q hj) z
    subst this
    obtain⟨k,q2,kj,hk,_⟩:=R'.par j g h hj
    have:=(dH R'.nd hk hi).1
    omega
theorem bc7 (R:Rt n ls P)(R':Rt n ls P'){h:Int}{e:Option Int}:(h,e)∈P↔(h,e)∈P':=by
 constructor
 ·intro z;obtain⟨i,hi⟩:=eO z;exact ai6 R' R i h e hi
 ·intro z;obtain⟨i,hi⟩:=eO z;exact ai6 R R' i h e hi
theorem Rt0.leaf (R:Rt0 n ls P)(f:cG ls){C:Int->Option Int->Prop}(step:∀h e,(h,e)∈P->(∀c∈aF ls h e,C c (some h))->C h e):∀h e,(h,e)∈P->C h e:=by
 have key:∀(k i:Nat) (h:Int) (e:Option Int),i+k=P.length->P[i]? = some (h,e)->C h e:=by
  intro k
  induction k using Nat.strongRecOn with
  |ind k ih=>
   intro i h e ik hi
   refine step h e (bm3 hi) λc hc=>?_
   obtain⟨j,hj⟩:=eO ((R.kid f (bm3 hi)).mp hc)
   obtain⟨i',q,ij,hi',_⟩:=R.par j c h hj
   have:=(dH R.nd hi' hi).1
   have jl:=(bn2.mp hj).1
   exact ih (P.length-j) (by omega) j c (some h) (by omega) hj
 intro h e hp
 obtain⟨i,hi⟩:=eO hp
 have il:=(bn2.mp hi).1
 exact key (P.length-i) i h e (by omega) hi
def lI:Int×Option Int->Option (Int×Int)
 |(_,none)=>none
 |(h,some g)=>some (min h g,max h g)
theorem A1:∀P:bO,P.length=(P.filterMap lI).length+(P.filter λp=>p.2.isNone).length
 |[]=>rfl
 |(h,none)::P=>by
  have ih:=A1 P
  rw[List.filterMap_cons_none (f:=lI) (a:=(h,none)) rfl,bu6 rfl,bo5,bo5];omega
 |(h,some g)::P=>by
  have ih:=A1 P
  rw[List.filterMap_cons_some (f:=lI) (a:=(h,some g)) (b:=(min h g,max h g)) rfl,bt4 (by simp),bo5,bo5];omega
theorem ai7 {P:bO}{l:Int×Int}:l∈P.filterMap lI↔∃h g,(h,some g)∈P/\l=(min h g,max h g):=by
 rw[bB1]
 constructor
 ·rintro⟨⟨h,e⟩,hp,z⟩
  cases e with
  |none=>cases z
  |some g=>exact⟨h,g,hp,(bo9 z).symm⟩
 ·rintro⟨h,g,hp,rfl⟩
  exact⟨_,hp,rfl⟩
theorem Rt.of_tree (w:e8 n ls)(f:cG ls)(nd:(P.map (·.1)).Nodup)(mem:∀h,h∈P.map (·.1)↔h∈rng n)(par:∀(i:Nat) (h e:Int),P[i]? = some (h,some e)->∃(j:Nat) (q:Option Int),j<i/\P[j]? = some (e,q)/\e∈aJ ls h)(root:∀h,(h,none)∈P->h∈aW ls (rng n)):Rt n ls P:=by
 have hS:=jI n
 have inr:∀{h e},(h,e)∈P->h∈rng n:=λ{h e} hp=>(mem h).mp (bn6.mpr ⟨_,hp,rfl⟩)
 have conn:∀(i:Nat) (h:Int) (e:Option Int),P[i]? = some (h,e)->∃r,(r,none)∈P/\h∈comp ls (rng n) r:=by
  intro i
  induction i using Nat.strongRecOn with
  |ind i ih=>
   intro h e hi
   cases e with
   |none=>exact⟨h,bm3 hi,fQ (inr (bm3 hi))⟩
   |some g=>
    obtain⟨j,q,ji,hj,gn⟩:=par i h g hi
    obtain⟨r,hr,hc⟩:=ih j ji g q hj
    exact⟨r,hr,iJ g hc h (k8 gn) (inr (bm3 hi))⟩
 have rt:∀h,(h,none)∈P↔h∈aW ls (rng n):=λh=>⟨root h,λhh=>by
  obtain⟨⟨h',e⟩,hp,rfl⟩:=bn6.mp ((mem h).mpr (eJ.mp hh).1)
  obtain⟨i,hi⟩:=eO hp
  obtain⟨r,hr,hc⟩:=conn i _ _ hi
  have:=uN hS hh (root r hr) (z:=h') (fQ (eJ.mp hh).1) hc
  dsimp only at this ⊢
  rw[this];exact hr⟩
 have order:∀h g,(h,some g)∈P->(g,some h)∈P->False:=λh g a b=>by
  obtain⟨i,hi⟩:=eO a
  obtain⟨j,hj⟩:=eO b
  obtain⟨i',q,l1,hi',_⟩:=par i h g hi
  obtain⟨j',q',l2,hj',_⟩:=par j g h hj
  have e1:=(dH nd hi' hj).1
  have e2:=(dH nd hj' hi).1
  omega
 have tsub:∀l∈P.filterMap lI,l∈ls:=λl hl=>by
  obtain⟨h,g,hp,rfl⟩:=ai7.mp hl
  obtain⟨i,hi⟩:=eO hp
  obtain⟨_,_,_,_,gn⟩:=par i h g hi
  rcases L2.dL.mp gn with z|z
  ·have:=f.lt _ z
   dsimp only at this
   rw[show min h g=h by omega,show max h g=g by omega];exact z
  ·have:=f.lt _ z
   dsimp only at this
   rw[show min h g=g by omega,show max h g=h by omega];exact z
 have pnd:P.Nodup:=(bs3.mp nd).imp λz e=>z (by rw[e])
 have tnd:(P.filterMap lI).Nodup:=by
  refine List.Pairwise.filterMap lI (R:=λp q:Int×Option Int=>p∈P/\q∈P/\p.1≠q.1) (λp q hpq l hl l' hl' e=>?_) ?_
  ·obtain⟨hp,hq,ne⟩:=hpq
   obtain⟨h,a⟩:=p
   obtain⟨g,b⟩:=q
   cases a with
   |none=>cases hl
   |some a=>
    cases b with
    |none=>cases hl'
    |some b=>
     cases hl
     cases hl'
     have e1:=(bz1 e).1
     have e2:=(bz1 e).2
     dsimp only at ne
     have x1:a=g:=by omega
     have x2:b=h:=by omega
     subst x1 x2
     exact order _ _ hp hq
  ·exact (bs3.mp nd).imp_of_mem λ{a b} ha hb z=>⟨ha,hb,z⟩
 have hl:(P.filter λp=>p.2.isNone).length=(aW ls (rng n)).length:=by
  have a:((P.filter λp=>p.2.isNone).map (·.1)).Nodup:=(List.Pairwise.sublist (List.filter_sublist.map _) nd)
  have m:∀h,h∈(P.filter λp=>p.2.isNone).map (·.1)↔h∈aW ls (rng n):=λh=>by
   rw[<- rt h,bn6]
   constructor
   ·rintro⟨⟨h',e⟩,hp,rfl⟩
    obtain⟨h1,h2⟩:=bn3.mp hp
    cases e with
    |none=>exact h1
    |some _=>cases h2
   ·intro z;exact⟨_,bn3.mpr ⟨z,rfl⟩,rfl⟩
  have l1:=e7 a λx hx=>(m x).mp hx
  have l2:=e7 (uM (ls:=ls) hS) λx hx=>(m x).mpr hx
  rw[bm7]at l1 l2
  omega
 have pl:P.length=n:=by
  have l1:=e7 nd (m:=rng n) λx hx=>(mem x).mp hx
  have l2:=e7 (uO hS) λx hx=>(mem x).mpr hx
  rw[bm7,cF]at l1 l2
  omega
 have all:∀l∈ls,l∈P.filterMap lI:=λl hl'=>br8 λno=>by
  have l1:=(bs4.mpr ⟨no,tnd⟩).length_le_of_subset (l₂:=ls) λx hx=>(bn8.mp hx).elim (λz=>z▸hl') (tsub x)
  have:=A1 P
  unfold e8 at w
  rw[bo5]at l1
  omega
 refine⟨⟨nd,mem,par,λh e hp x hx=>?_⟩,rt⟩
 have key:∀l,l∈ls->(l=(h,x)∨l=(x,h))->e=some x∨(x,some h)∈P:=λl hl' hlx=>by
  obtain⟨a,b,hab,e1⟩:=ai7.mp (all l hl')
  have lt:=f.lt l hl'
  have c:(a=h/\b=x)∨(a=x/\b=h):=by
   rcases hlx with z|z<;>rw[z]at e1 lt<;>(have e2:=(bz1 e1).1;have e3:=(bz1 e1).2;dsimp only at lt;omega)
  rcases c with⟨rfl,rfl⟩|⟨rfl,rfl⟩
  ·exact .inl (lH nd hp hab)
  ·exact .inr hab
 rcases L2.dL.mp hx with z|z
 ·exact key _ z (.inl rfl)
 ·exact key _ z (.inr rfl)
end
def cI (els:List (Option Int)):List PV:=els.map gG
def bW (els:List (Option Int))(h:Int):Option Int:=els.getD h.toNat none
structure EI (n:Nat)(ls:aa)(O:af)(els:List (Option Int)):Prop where
 nd:O.Nodup
 inn:∀x∈O,x∈rng n
 len:els.length=n
 par:∀(i:Nat) (h g:Int),O[i]? = some h->bW els h=some g->∃j:Nat,j<i/\O[j]? = some g/\g∈aJ ls h
 root:∀h∈O,bW els h=none->h∈aW ls (rng n)
 out:∀h∈rng n,h∉O->bW els h=none
section
variable {n:Nat}{ls:aa}{O:af}{els:List (Option Int)}{x g:Int}
theorem bc8 (h0:0<=x){y:Int}(y0:0<=y)(ne:y≠x){v:Option Int}:bW (els.set x.toNat v) y=bW els y:=by
 unfold bW
 rw[bo1,bo1,bq7 (by omega)]
theorem bc9 (h0:0<=x)(h1:x<(els.length:Int)){v:Option Int}:bW (els.set x.toNat v) x=v:=by
 unfold bW
 rw[bo1,bu0 (by omega)];rfl
theorem EI.put (e:EI n ls O els)(hx:x∉O)(xr:x∈rng n)(hg:g∈O)(gn:g∈aJ ls x):EI n ls (O++[x]) (els.set x.toNat (some g)):=by
 have xm:=bM.mp xr
 have ps:∀y∈rng n,y≠x->bW (els.set x.toNat (some g)) y=bW els y:=λy hy ne=>bc8 xm.1 (bM.mp hy).1 ne
 have self:bW (els.set x.toNat (some g)) x=some g:=bc9 xm.1 (by rw[e.len];exact xm.2)
 refine⟨bv1.mpr ⟨e.nd,bq2 _ _,λa ha b hb z=>hx (by rw[<- bm2.mp hb,<- z];exact ha)⟩,λy hy=>?_,by rw[bs5];exact e.len,λi h g' hi hel=>?_,λh hh hel=>?_,λh hr hh=>?_⟩
 ·rcases bn0.mp hy with z|z
  ·exact e.inn y z
  ·rw[bm2.mp z];exact xr
 ·by_cases il:i<O.length
  ·rw[bp1 il]at hi
   have hm:=bm3 hi
   rw[ps h (e.inn h hm) λz=>hx (z▸hm)]at hel
   obtain⟨j,ji,hj,gn⟩:=e.par i h g' hi hel
   exact⟨j,ji,by rw[bp1 (by omega)];exact hj,gn⟩
  ·rw[br6 (by omega)]at hi
   have:h=x:=bm2.mp (bm3 hi)
   subst this
   rw[self]at hel
   cases hel
   obtain⟨j,hj⟩:=bv4.mp hg
   have jl:=(bn2.mp hj).1
   exact⟨j,by omega,by rw[bp1 jl];exact hj,gn⟩
 ·rcases bn0.mp hh with z|z
  ·rw[ps h (e.inn h z) λq=>hx (q▸z)]at hel
   exact e.root h z hel
  ·rw[bm2.mp z,self]at hel;cases hel
 ·rw[ps h hr λz=>hh (by rw[z];exact bo8 _ (by5 _))]
  exact e.out h hr λz=>hh (bo3 _ z)
theorem EI.rt (e:EI n ls O els)(hx:x∉O)(xh:x∈aW ls (rng n)):EI n ls (O++[x]) els:=by
 have xr:=(eJ.mp xh).1
 refine⟨bv1.mpr ⟨e.nd,bq2 _ _,λa ha b hb z=>hx (by rw[<- bm2.mp hb,<- z];exact ha)⟩,λy hy=>?_,e.len,λi h g' hi hel=>?_,λh hh hel=>?_,λh hr hh=>e.out h hr λz=>hh (bo3 _ z)⟩
 ·rcases bn0.mp hy with z|z
  ·exact e.inn y z
  ·rw[bm2.mp z];exact xr
 ·by_cases il:i<O.length
  ·rw[bp1 il]at hi
   obtain⟨j,ji,hj,gn⟩:=e.par i h g' hi hel
   exact⟨j,ji,by rw[bp1 (by omega)];exact hj,gn⟩
  ·rw[br6 (by omega)]at hi
   have:h=x:=bm2.mp (bm3 hi)
   subst this
   rw[e.out h xr hx]at hel;cases hel
 ·rcases bn0.mp hh with z|z
  ·exact e.root h z hel
  ·rw[bm2.mp z];exact xh
theorem EI.le (e:EI n ls O els):O.length<=n:=by
 have:=e7 e.nd (m:=rng n) e.inn
 rwa [cF]at this
theorem EI.head (e:EI n ls O els)(sh:eG ls (rng n) O)(hx:x∉O)(xr:x∈rng n)(low:∀y∈rng n,y<x->y∈O):x∈aW ls (rng n):=by
 refine qR (jI n) xr (U:=(rng n).filter λy=>!decide (y∈O)) (λa ha b hb br=>?_) (bn3.mpr ⟨xr,by rw[bm9 hx];rfl⟩) λy hy yr=>?_
 ·obtain⟨a1,a2⟩:=bn3.mp ha
  refine bn3.mpr ⟨br,?_⟩
  have:b∉O:=λz=>by
   have:=sh b z a (k8 hb) a1
   rw[bm4 this]at a2;cases a2
  rw[bm9 this];rfl
 ·have y2:=(bn3.mp hy).2
  refine br8 λno=>?_
  rw[bm4 (low y yr (by omega))]at y2;cases y2
def fG (O:af)(els:List (Option Int)):bO:=O.map λh=>(h,bW els h)
theorem EI.all (e:EI n ls O els)(w:e8 n ls)(f:cG ls)(all:∀y∈rng n,y∈O):Rt n ls (fG O els):=by
 have m1:(fG O els).map (·.1)=O:=by unfold fG;rw[br0];exact List.map_id'' (λ_=>rfl) _
 have at_:∀(i:Nat) (h:Int) (q:Option Int),(fG O els)[i]? = some (h,q)↔O[i]? = some h/\q=bW els h:=λi h q=>by
  unfold fG
  rw[bn4]
  cases z:O[i]? with
  |none=>simp
  |some y=>
   constructor
   ·intro q';cases q';exact⟨rfl,rfl⟩
   ·rintro⟨q1,q2⟩;cases q1;rw[q2];rfl
 refine Rt.of_tree w f (by rw[m1];exact e.nd) (λh=>by rw[m1];exact⟨e.inn h,all h⟩) (λi h g hi=>?_) λh hh=>?_
 ·obtain⟨h1,h2⟩:=(at_ i h _).mp hi
  obtain⟨j,ji,hj,gn⟩:=e.par i h g h1 h2.symm
  exact⟨j,bW els g,ji,(at_ j g _).mpr ⟨hj,rfl⟩,gn⟩
 ·obtain⟨i,hi⟩:=eO hh
  obtain⟨h1,h2⟩:=(at_ i h _).mp hi
  exact e.root h (bm3 h1) h2.symm
end
structure oF (n:Nat)(ls:aa)(els:List (Option Int))(O:af):Prop where
 len:els.length=n
 rt:Rt n ls (fG O els)
def uX:bI:=λxs Q=>∃ws ls,xs = [b9 ws ls]/\Wb ws ls/\e6 ws.length ls/\e8 ws.length ls/\∀els O,oF ws.length ls els O->Q (.tup [.lst (cI els),.lst (intz O)])
def ai8:aT:=(dU (cO (bD (a5 1) (bD (a5 3) (a5 5)))) (bQ 6)
     (dB (bH (q2 (j9 true) (a5 6) (a5 3))) (aE (lB 2 (a5 6) (bD (a5 3) (a5 5)))
      (gT 3 (a5 6))) dA))
def A2:aT:=(m5 (bH (mB (a5 5) (aB dM (a7 (a5 3) a9))))
    (aE ai8
    (b8 5 (cP (a5 5) (qC (.int 1))))))
def ai9:aT:=(aE (b8 1 (aB uE (a7 (a5 0) a9)))
 (aE (dS 2 (qJ (eW (a7 (qC .non) a9)) (aB dM (a7 (bD (a5 0) (qC (.int 0))) a9))))
 (aE (dS 3 (eW a9))
 (aE (dU (kD (aB dM (a7 (bD (a5 0) (qC (.int 0))) a9))) (bQ 4)
  (dB (bH (q2 (j9 true) (a5 4) (a5 3))) (aE (gT 3 (a5 4))
   (aE (b8 5 (kF (aB dM (a7 (a5 3) a9)) (qC (.int 1))))
   A2)) dA))
 (pI 2 (pI 3 (bV (x4 (a7 (a5 2) (a7 (a5 3) a9))))))))))
section
variable {n:Nat}{ls:aa}{O:af}{els:List (Option Int)}{E:kB}{s0 s4 y6:Option Slot}{t:Nat}{cur:Int}
theorem bd0 (n40:n<=40)(lk:e6 n ls)(e:EI n ls O els)(hc:O[t]? = some cur)(sh:∀(i:Nat) (h:Int),i<t->O[i]? = some h->∀y∈aJ ls h,y∈O)(nx:∀O' els' y6,EI n ls O' els'->(∀(i:Nat) (h:Int),O[i]? = some h->O'[i]? = some h)->(∀y∈aJ ls cur,y∈O')->E.nx [s0,some (.sh true (.lst (cS n ls))),some (.own (.lst (cI els'))),some (.own (.lst (intz O'))),s4,si t,y6]) :
  ai8 E [s0,some (.sh true (.lst (cS n ls))),some (.own (.lst (cI els))),some (.own (.lst (intz O))),s4,si t,y6]:=by
 have cm:=bm3 hc
 have cr:=bM.mp (e.inn cur cm)
 have atc:∀O':af,O'[t]? = some cur->L2.atI (intz O') (t:Int)=some (.int cur):=λO' h=>jU (by unfold intz;rw[bn4,h];rfl)
 refine⟨_,rfl,_,rfl,_,rfl,_,_,_,rfl,rfl,atc O hc,_,_,_,rfl,rfl,tU cr.1 cr.2,intz (aJ ls cur),rfl,(λz=>by cases z),λj ρ=>∃(O':af) (els':List (Option Int)) (y6:Option Slot),ρ = [s0,some (.sh true (.lst (cS n ls))),some (.own (.lst (cI els'))),some (.own (.lst (intz O'))),s4,si t,y6]/\EI n ls O' els'/\(∀(i:Nat) (h:Int),O[i]? = some h->O'[i]? = some h)/\∀y∈(aJ ls cur).take j,y∈O',⟨O,els,y6,rfl,e,λ_ _ z=>z,λy hy=>by rw[List.take_zero]at hy;cases hy⟩,?_,?_⟩
 ·rintro j y ρ hy ⟨O',els',y6,rfl,e',kp,dn⟩
  obtain⟨x,rfl,hx⟩:=fP hy
  have xn:=bm3 hx
  have xr:=lk.inr cur x xn
  have xm:=bM.mp xr
  have tk:(aJ ls cur).take (j+1)=(aJ ls cur).take j++[x]:=by rw[br1,hx];rfl
  have ol:=e'.le
  refine gX ?_
  refine⟨_,rfl,_,rfl,x,O',rfl,rfl,_,rfl,?_⟩
  show if (!decide (x∈O'))=true then _ else _
  by_cases z:x∈O'
  ·rw[bm4 z]
   refine bG ⟨O',els',_,rfl,e',kp,λy hy=>?_⟩
   rw[tk]at hy
   rcases bn0.mp hy with q|q
   ·exact dn y q
   ·rw[bm2.mp q];exact z
  ·rw[bm9 z]
   have lo:(cI els').length=n:=by unfold cI;rw[bm7];exact e'.len
   refine bJ ⟨_,rfl,_,rfl,_,_,_,rfl,rfl,atc O' (kp t cur hc),cI els',rfl,_,rfl,x,x.toNat,rfl,?_,rfl,?_⟩
   ·rw[lo];unfold fX;rw[if_pos (by omega),if_pos (by omega)]
   refine⟨_,rfl,_,rfl,trivial,by rw[bA];omega,O'++[x],els'.set x.toNat (some cur),si x,?_,e'.put z xr (bm3 (kp t cur hc)) (k8 xn),λi h hi=>by rw[bp1 (bn2.mp (kp i h hi)).1];exact kp i h hi,λy hy=>?_⟩
   ·have q1:cI (els'.set x.toNat (some cur))=(cI els').set x.toNat (.int cur):=by unfold cI;rw[List.map_set];rfl
    show _ = [_,_,some (Slot.own (.lst (cI (els'.set x.toNat (some cur))))),some (Slot.own (.lst (intz (O'++[x])))),_,_,_]
    rw[q1,fE];rfl
   ·rw[tk]at hy
    rcases bn0.mp hy with q|q
    ·exact bo3 _ (dn y q)
    ·rw[bm2.mp q];exact bo8 _ (by5 _)
 ·rintro ρ ⟨O',els',y6,rfl,e',kp,dn⟩
  rw[bA,bp8 (bn1 _)]at dn
  exact nx O' els' y6 e' kp dn
theorem bd1 (n40:n<=40)(lk:e6 n ls)(e:EI n ls O els)(tl:t<=O.length)(sh:∀(i:Nat) (h:Int),i<t->O[i]? = some h->∀y∈aJ ls h,y∈O)(nx:∀O' els' y5 y6,EI n ls O' els'->eG ls (rng n) O'->(∀x∈O,x∈O')->E.nx [s0,some (.sh true (.lst (cS n ls))),some (.own (.lst (cI els'))),some (.own (.lst (intz O'))),s4,y5,y6]) :
  A2 E [s0,some (.sh true (.lst (cS n ls))),some (.own (.lst (cI els))),some (.own (.lst (intz O))),s4,si t,y6]:=by
 refine⟨λm ρ=>∃(O':af) (els':List (Option Int)) (t:Nat) (y6:Option Slot),ρ = [s0,some (.sh true (.lst (cS n ls))),some (.own (.lst (cI els'))),some (.own (.lst (intz O'))),s4,si t,y6]/\EI n ls O' els'/\t<=O'.length/\(∀(i:Nat) (h:Int),i<t->O'[i]? = some h->∀y∈aJ ls h,y∈O')/\(∀x∈O,x∈O')/\m=n-t,⟨_,O,els,t,y6,rfl,e,tl,sh,λ_ z=>z,rfl⟩,?_⟩
 rintro m ρ ⟨O',els',t,y6,rfl,e',tl,sh,sub,rfl⟩
 have ol:=e'.le
 refine⟨_,rfl,_,rfl,_,_,rfl,rfl,_,_,rfl,rfl,_,rfl,?_⟩
 rw[bA]
 by_cases lt:t<O'.length
 ·rw[bm4 (by omega)]
  obtain⟨cur,hc⟩:∃c,O'[t]? = some c:=⟨_,bm6 lt⟩
  refine bJ (bd0 n40 lk e' hc sh λO2 els2 y6 e2 kp dn=>?_)
  refine⟨_,rfl,_,_,rfl,rfl,trivial,n-(t+1),by omega,O2,els2,t+1,y6,rfl,e2,?_,λi h it hi y hy=>?_,λx hx=>?_,rfl⟩
  ·have:=(bn2.mp (kp t cur hc)).1;omega
  ·have i2:=(bn2.mp (kp t cur hc)).1
   by_cases e1:i=t
   ·subst e1
    rw[kp i cur hc]at hi
    cases hi
    exact dn y hy
   ·obtain⟨h',hh'⟩:∃c,O'[i]? = some c:=⟨_,bm6 (by omega)⟩
    rw[kp i h' hh']at hi
    cases hi
    obtain⟨k,hk⟩:=bv4.mp (sh i h (by omega) hh' y hy)
    exact bm3 (kp k y hk)
  ·obtain⟨k,hk⟩:=bv4.mp (sub x hx)
   exact bm3 (kp k x hk)
 ·rw[bm9 (by omega)]
  refine bG (nx O' els' _ _ e' (λx hx y hy _=>?_) sub)
  obtain⟨i,hi⟩:=bv4.mp hx
  have il:=(bn2.mp hi).1
  exact sh i x (by omega) hi y hy
end
theorem bd2 {a b:PV×Tg}(ha:Nw a.2 a.1)(hb:Nw b.2 b.1):nH [a,b]:=by
 intro p hp
 simp only[bn8,bq9,by9]at hp
 rcases hp with rfl|rfl
 ·exact ha
 ·exact hb
theorem aj0 (n:Nat):(List.replicate n [PV.non]).flatten=cI (List.replicate n none):=by
 induction n with
 |zero=>rfl
 |succ n ih=>rw[bs9,bx2,ih,bs9];rfl
theorem bd3 (els:List (Option Int)):flats (cI els)=true:=by
 induction els with
 |nil=>rfl
 |cons e r ih=>
  show (flat (gG e)&&flats (cI r))=true
  rw[ih];cases e<;>rfl
theorem bd4:c6 ai9 ["web","beside","elders","order","root","at","other"] uX:=by
 rintro xs Q ⟨ws,ls,rfl,wb,lk,w,q⟩
 have few:=wb.few
 refine⟨_,rfl,ws,ls,rfl,wb,trivial,?_⟩
 refine⟨by show 1<=1000;decide,rfl,_,rfl,_,_,_,rfl,rfl,rfl,_,_,rfl,rfl,_,_,rfl,by rw[bA],rfl,by omega,by omega,by show 1<=10;decide,rfl,?_,?_⟩
 ·show flats (List.replicate (ws.length:Int).toNat [PV.non]).flatten=true
  rw[aj0];exact bd3 _
 show (aE _ _) _ [_,_,some (Slot.own (.lst (List.replicate (ws.length:Int).toNat [PV.non]).flatten)),_,_,_,_]
 rw[aj0,bp9]
 refine⟨by decide,rfl,rfl,rfl,?_⟩
 refine⟨_,rfl,_,_,_,rfl,rfl,rfl,_,_,rfl,rfl,ws.length,by rw[bA],by omega,by omega,λr ρ=>∃(O:af) (els:List (Option Int)) (y4 y5 y6:Option Slot),ρ = [some (.sh (flat (b9 ws ls)) (b9 ws ls)),some (.sh true (.lst (cS ws.length ls))),some (.own (.lst (cI els))),some (.own (.lst (intz O))),y4,y5,y6]/\EI ws.length ls O els/\eG ls (rng ws.length) O/\∀y∈rng ws.length,y<(r:Int)->y∈O,⟨[],_,none,none,none,rfl,⟨bx3,(λ_ z=>by cases z),bx4,(λi h g hi=>by cases hi),(λ_ z=>by cases z),λh hr _=>?_⟩,(λ_ z=>by cases z),λy hy lt=>?_⟩,?_,?_⟩
 ·unfold bW
  rw[bo1,List.getElem?_replicate]
  split<;>rfl
 ·have:=(bM.mp hy).1;omega
 ·rintro r y ρ hy ⟨O,els,y4,y5,y6,rfl,e,sh,low⟩
  obtain⟨rfl,hr⟩:=kL hy
  have hr:r<ws.length:=by omega
  have rr:(r:Int)∈rng ws.length:=bM.mpr ⟨by omega,by omega⟩
  have ol:=e.le
  refine gX ?_
  rw[bC4]
  refine⟨_,rfl,_,rfl,(r:Int),O,rfl,rfl,_,rfl,?_⟩
  show if (!decide ((r:Int)∈O))=true then _ else _
  by_cases z:(r:Int)∈O
  ·rw[bm4 z]
   refine bG ⟨O,els,_,_,_,rfl,e,sh,λy hy lt=>?_⟩
   by_cases q:y=r
   ·rw[q];exact z
   ·exact low y hy (by omega)
  ·rw[bm9 z]
   have e2:=e.rt z (e.head sh z rr low)
   refine bJ ⟨_,rfl,_,rfl,trivial,by rw[bA];omega,?_⟩
   refine⟨_,rfl,_,_,rfl,rfl,_,_,rfl,rfl,trivial,?_⟩
   have q1:intz O++[PV.int (r:Int)]=intz (O++[(r:Int)]):=by rw[fE];rfl
   show A2 _ [_,_,_,some (Slot.own (.lst (intz O++[PV.int (r:Int)]))),_,si (((intz O++[PV.int (r:Int)]).length:Int)-1),_]
   rw[q1,bA,bo2,show ((O.length+[(r:Int)].length:Nat):Int)-1=(O.length:Int) by show ((O.length+1:Nat):Int)-1=_;omega]
   refine bd1 few lk e2 (by rw[bo2];omega) (λi h it hi y hy=>?_) λO' els' y5 y6 e' sh' sub=>⟨O',els',_,y5,y6,rfl,e',sh',λy hy lt=>?_⟩
   ·rw[bp1 it]at hi
    exact bo3 _ (sh h (bm3 hi) y hy (lk.inr h y hy))
   ·by_cases q:y=r
    ·rw[q];exact sub _ (bo8 _ (by5 _))
    ·exact sub y (bo3 _ (low y hy (by omega)))
 ·rintro ρ ⟨O,els,y4,y5,y6,rfl,e,sh,low⟩
  rw[gU,bp9]at low
  exact⟨_,rfl,_,rfl,_,rfl,_,rfl,by show 2<=1000;decide,bd2 trivial trivial,trivial,q els O ⟨e.len,e.all w lk.fit λy hy=>low y hy (bM.mp hy).2⟩⟩
theorem bd5 {els:List (Option Int)}{h:Int}(h0:0<=h)(h1:h<(els.length:Int)):L2.atI (cI els) h=some (gG (bW els h)):=by
 obtain⟨j,rfl⟩:∃j:Nat,h=j:=⟨h.toNat,by omega⟩
 refine jU ?_
 unfold cI bW
 rw[bp9,bn4,bo1,bm6 (by omega)];rfl
section
variable {ws ps:af}{ls:aa}{P:bO}{L:cB}{S O:af}{n:Nat}
structure A3 (ws:af)(ls:aa)(S O:af):Prop where
 nd:O.Nodup
 inn:∀x∈O,x∈rng ws.length
 kin:∀(i:Nat) (h:Int),O[i]? = some h->h∈S∨ws.getD h.toNat 0<=(((aJ ls h).filter λx=>decide (x∈O.take i)).length:Int)
theorem bd6 (sub:∀s∈S,s∈rng ws.length)(f:dG ws ls S=true):∀(k:Nat) (O:af),A3 ws ls S O->ws.length<=O.length+k->∃O',A3 ws ls S O'/\∀h∈rng ws.length,h∈O':=by
 intro k
 induction k with
 |zero=>
  intro O K hl
  refine⟨O,K,λh hh=>br8 λno=>?_⟩
  have:=e7 (bs4.mpr ⟨no,K.nd⟩) (m:=rng ws.length) λx hx=>(bn8.mp hx).elim (λz=>z▸hh) (K.inn x)
  rw[bo5,cF]at this
  omega
 |succ k ih=>
  intro O K hl
  by_cases ex:∃h∈rng ws.length,h∉O/\(h∈S∨ws.getD h.toNat 0<=(((aJ ls h).filter λx=>decide (x∈O)).length:Int))
  ·obtain⟨h,hr,hO,hk⟩:=ex
   refine ih (O++[h]) ⟨bv1.mpr ⟨K.nd,bq2 _ _,λa ha b hb z=>hO (by rw[<- bm2.mp hb,<- z];exact ha)⟩,λx hx=>?_,λi g hi=>?_⟩ (by rw[bo2,bs2];omega)
   ·rcases bn0.mp hx with z|z
    ·exact K.inn x z
    ·rw[bm2.mp z];exact hr
   ·by_cases il:i<O.length
    ·rw[bp1 il]at hi
     rw[List.take_append_of_le_length (by omega)]
     exact K.kin i g hi
    ·have il2:=(bn2.mp hi).1
     rw[bo2,bs2]at il2
     have e:i=O.length:=by omega
     subst e
     rw[br6 (bn1 _)]at hi
     have:g=h:=bm2.mp (bm3 hi)
     subst this
     rw[List.take_left' rfl]
     exact hk
  ·refine⟨O,K,λh hh=>o9.mp f O (λg hg=>?_) (λs hs=>br8 λno=>ex ⟨s,sub s hs,no,.inl hs⟩) h hh⟩
   unfold kin
   by_cases gO:g∈O
   ·rw[bm4 gO];rfl
   ·rw[Bool.and_eq_false_iff]
    exact .inr (bm9 λz=>ex ⟨g,hg,gO,.inr z⟩)
def oG (ws ps:af)(ls:aa)(L:cB)(h:Int)(e:Option Int):Prop:=0<=(aD L h).1/\(aD L h).1<=(aD L h).2/\(aD L h).1<=(gL (ws.getD h.toNat 0) (ps.getD h.toNat 0) ((aF ls h e).map (aD L))).1/\(aD L h).2<=(gL (ws.getD h.toNat 0) (ps.getD h.toNat 0) ((aF ls h e).map (aD L))).2
def dP (O:af)(h:Int):af:=O.take (O.idxOf h)
def eM (L:cB)(O:af)(h:Int):Option Int->Int
 |none=>(aD L h).2
 |some g=>if g∈dP O h then (aD L h).1 else (aD L h).2
theorem aj1 {e:Option Int}{h:Int}(r:oG ws ps ls L h e)(e':Option Int):(aD L h).1<=eM L O h e':=by
 obtain⟨_,r2,_⟩:=r
 cases e' with
 |none=>exact r2
 |some g=>unfold eM;split<;>omega
theorem bd7 {e:Option Int}{h:Int}(r:oG ws ps ls L h e)(e':Option Int):eM L O h e'<=(aD L h).2:=by
 obtain⟨_,r2,_⟩:=r
 cases e' with
 |none=>exact bs6 _
 |some g=>unfold eM;split<;>omega
theorem bd8 (nd:O.Nodup){a b:Int}(ha:a∈O)(h:b∈dP O a):a∉dP O b:=λz=>by
 unfold dP at h z
 obtain⟨i,hi,e1⟩:=List.mem_take_iff_getElem.mp h
 obtain⟨j,hj,e2⟩:=List.mem_take_iff_getElem.mp z
 have k1:O.idxOf b=i:=by rw[<- e1];exact nd.idxOf_getElem i (by omega)
 have k2:O.idxOf a=j:=by rw[<- e2];exact nd.idxOf_getElem j (by omega)
 omega
theorem aj2 {f g:Int->Int}:∀{l:af},(∀x∈l,f x<=g x)->(l.map f).sum<=(l.map g).sum
 |[],_=>bs6 _
 |x::r,h=>by
  rw[bp2,bp2,bq4,bq4]
  have:=aj2 (l:=r) λy hy=>h y (bn5 _ hy)
  have:=h x bm8
  omega
theorem aj3 {a b v:Int->Int}(q:Int->Bool):∀{l:af},(∀x∈l,a x<=v x)->(∀x∈l,q x=true->v x=b x)->(l.map a).sum+((l.filter q).map λx=>b x-a x).sum<=(l.map v).sum
 |[],_,_=>bs6 _
 |x::r,h1,h2=>by
  have ih:=aj3 q (l:=r) (λy hy=>h1 y (bn5 _ hy)) λy hy=>h2 y (bn5 _ hy)
  have k1:=h1 x bm8
  rw[bp2,bp2,bq4,bq4,br9]
  cases hq:q x with
  |true=>
   have:=h2 x bm8 hq
   rw[if_pos rfl,bp2,bq4];omega
  |false=>rw[if_neg (by simp)];omega
theorem bd9 (R:Rt0 ws.length ls P)(f:cG ls)(K:A3 ws ls S O)(all:∀h∈rng ws.length,h∈O)(nn:NN ws)(right:∀h e,(h,e)∈P->oG ws ps ls L h e){h:Int}{e:Option Int}(hp:(h,e)∈P) :
  eM L O h e<=((aF ls h e).map λc=>eM L O c (some h)).sum+(if h∈S then ps.getD h.toNat 0 else 0):=by
 have hO:=all h (R.inr hp)
 have rh:=right h e hp
 have rc:∀c∈aF ls h e,oG ws ps ls L c (some h):=λc hc=>right c (some h) ((R.kid f hp).mp hc)
 have w0:=jH nn h.toNat
 have e1:((aF ls h e).map (aD L)).map (·.1)=(aF ls h e).map λc=>(aD L c).1:=br0 ..
 have e2:cH ((aF ls h e).map (aD L))=(aF ls h e).map λc=>(aD L c).2-(aD L c).1:=by unfold cH;rw[br0];rfl
 have low:=aj2 (l:=aF ls h e) (f:=λc=>(aD L c).1) (g:=λc=>eM L O c (some h)) λc hc=>aj1 (rc c hc) _
 have mle:∀w p (bl:cB),eL w p bl<=(bl.map (·.1)).sum+p:=λw p bl=>by unfold eL;split<;>omega
 by_cases hS:h∈S
 ·rw[if_pos hS]
  have v1:=bd7 (O:=O) rh e
  obtain⟨_,_,_,r4⟩:=rh
  have:=mle (ws.getD h.toNat 0) (ps.getD h.toNat 0) ((aF ls h e).map (aD L))
  rw[e1]at this
  have r4:(aD L h).2<=eL (ws.getD h.toNat 0) (ps.getD h.toNat 0) ((aF ls h e).map (aD L)):=r4
  omega
 ·rw[if_neg hS]
  obtain⟨i,hi⟩:=bv4.mp hO
  have ix:O.idxOf h=i:=by
   obtain⟨il,ee⟩:=bn2.mp hi
   rw[<- ee];exact K.nd.idxOf_getElem i il
  have kn:=(K.kin i h hi).resolve_left hS
  have bo:dP O h=O.take i:=by unfold dP;rw[ix]
  rw[<- bo]at kn
  have gp:=aj3 (λc=>decide (c∈dP O h)) (l:=aF ls h e) (a:=λc=>(aD L c).1) (b:=λc=>(aD L c).2) (v:=λc=>eM L O c (some h)) (λc hc=>aj1 (rc c hc) _) λc hc q=>by
   have cb:=bq3 q
   show (if h∈dP O c then (aD L c).1 else (aD L c).2)=_
   rw[if_neg (bd8 K.nd hO cb)]
  have key:∀w:Int,0<=w->w<=(((aF ls h e).filter λc=>decide (c∈dP O h)).length:Int)->eL w (ps.getD h.toNat 0) ((aF ls h e).map (aD L))<=((aF ls h e).map λc=>eM L O c (some h)).sum:=λw wp wl=>by
   have ll:=aS4 (mS (cH ((aF ls h e).map (aD L)))).1 (mS (cH ((aF ls h e).map (aD L)))).2 (t:=((aF ls h e).filter λc=>decide (c∈dP O h)).map λc=>(aD L c).2-(aD L c).1) (by rw[e2];exact List.filter_sublist.map _) (λx hx=>by
    rw[e2]at hx
    obtain⟨c,hc,rfl⟩:=bn6.mp hx
    have:=(rc c hc).2.1
    omega) (k:=w.toNat) (by rw[bm7];omega)
   have fl:=bs8 (λc=>decide (c∈dP O h)) (aF ls h e)
   unfold eL
   rw[if_pos (by rw[bm7];omega),e1]
   have gp:((aF ls h e).map λc=>(aD L c).1).sum+(((aF ls h e).filter λc=>decide (c∈dP O h)).map λc=>(aD L c).2-(aD L c).1).sum<=((aF ls h e).map λc=>eM L O c (some h)).sum:=gp
   omega
  have cnt:∀g,e=some g->((aJ ls h).filter λx=>decide (x∈dP O h)).length<=(if g∈dP O h then 1 else 0)+((aF ls h e).filter λc=>decide (c∈dP O h)).length:=λg eg=>by
   by_cases gb:g∈dP O h
   ·rw[if_pos gb]
    have:=e7 ((f.nnd h).filter _) (m:=g::(aF ls h e).filter λc=>decide (c∈dP O h)) λx hx=>by
     obtain⟨x1,x2⟩:=bn3.mp hx
     by_cases xg:x=g
     ·rw[xg];exact bm8
     ·exact bn5 _ (bn3.mpr ⟨fR.mpr ⟨x1,by rw[eg];exact λz=>xg (bo9 z)⟩,x2⟩)
    rw[bo5]at this
    omega
   ·rw[if_neg gb]
    have:=e7 ((f.nnd h).filter _) (m:=(aF ls h e).filter λc=>decide (c∈dP O h)) λx hx=>by
     obtain⟨x1,x2⟩:=bn3.mp hx
     exact bn3.mpr ⟨fR.mpr ⟨x1,by rw[eg];exact λz=>gb (by rw[<- bo9 z];exact bq3 x2)⟩,x2⟩
    omega
  obtain⟨_,_,r3,r4⟩:=rh
  have r3:(aD L h).1<=eL (max 0 (ws.getD h.toNat 0-1)) (ps.getD h.toNat 0) ((aF ls h e).map (aD L)):=r3
  have r4:(aD L h).2<=eL (ws.getD h.toNat 0) (ps.getD h.toNat 0) ((aF ls h e).map (aD L)):=r4
  cases e with
  |none=>
   have c0:=e7 ((f.nnd h).filter λx=>decide (x∈dP O h)) (m:=(aF ls h none).filter λc=>decide (c∈dP O h)) λx hx=>by
    obtain⟨x1,x2⟩:=bn3.mp hx
    exact bn3.mpr ⟨fR.mpr ⟨x1,λz=>by cases z⟩,x2⟩
   have:=key _ w0 (by omega)
   show (aD L h).2<=_
   omega
  |some g=>
   have c0:=cnt g rfl
   show (if g∈dP O h then (aD L h).1 else (aD L h).2)<=_
   by_cases gb:g∈dP O h
   ·rw[if_pos gb]at c0 ⊢
    have:=key (max 0 (ws.getD h.toNat 0-1)) (by omega) (by omega)
    omega
   ·rw[if_neg gb]at c0 ⊢
    have:=key _ w0 (by omega)
    omega
def i5 (P:bO):af:=(P.filter λp=>p.2.isNone).map (·.1)
theorem A4 {α:Type}(f:Int->Int)(g:α->af):∀l:List α,((l.flatMap g).map f).sum=(l.map λp=>((g p).map f).sum).sum
 |[]=>rfl
 |x::r=>by rw[List.flatMap_cons,bp5,List.sum_append,A4 f g r,bp2,bq4]
theorem aj4 {α:Type}{f g:α->Int}:∀{l:List α},(∀x∈l,f x<=g x)->(l.map f).sum<=(l.map g).sum
 |[],_=>bs6 _
 |x::r,h=>by
  rw[bp2,bp2,bq4,bq4]
  have:=aj4 (l:=r) λy hy=>h y (bn5 _ hy)
  have:=h x bm8
  omega
theorem A5 {α:Type}(f g:α->Int):∀l:List α,(l.map λx=>f x+g x).sum=(l.map f).sum+(l.map g).sum
 |[]=>rfl
 |x::r=>by rw[bp2,bp2,bp2,bq4,bq4,bq4,A5 f g r];omega
theorem aj5 (R:Rt0 n ls P)(f:cG ls):(P.flatMap λp=>aF ls p.1 p.2).Perm ((P.filter λp=>p.2.isSome).map (·.1)):=by
 refine (bw9 ?_ (List.Pairwise.sublist (List.filter_sublist.map _) R.nd)).mpr λc=>?_
 ·refine List.pairwise_flatMap.mpr ⟨λp _=>(f.nnd p.1).filter _,?_⟩
  refine (bs3.mp R.nd).imp_of_mem λ{p q} hp hq ne x hx y hy e=>ne ?_
  subst e
  have a:=(R.kid f (h:=p.1) (e:=p.2) hp).mp hx
  have b:=(R.kid f (h:=q.1) (e:=q.2) hq).mp hy
  exact bo9 (lH R.nd a b)
 ·rw[List.mem_flatMap,bn6]
  constructor
  ·rintro⟨p,hp,hc⟩
   exact⟨(c,some p.1),bn3.mpr ⟨(R.kid f (h:=p.1) (e:=p.2) hp).mp hc,rfl⟩,rfl⟩
  ·rintro⟨⟨c',e⟩,hq,rfl⟩
   obtain⟨h1,h2⟩:=bn3.mp hq
   cases e with
   |none=>cases h2
   |some g=>
    obtain⟨i,hi⟩:=eO h1
    obtain⟨j,q,_,hj,_⟩:=R.par i c' g hi
    exact⟨(g,q),bm3 hj,(R.kid f (bm3 hj)).mpr h1⟩
theorem uY (F:Int×Option Int->Int):∀P:bO,(P.map F).sum=((P.filter λp=>p.2.isSome).map F).sum+((P.filter λp=>p.2.isNone).map F).sum
 |[]=>rfl
 |(h,none)::P=>by
  rw[bt4 (by simp),bu6 rfl,bp2,bp2,bq4,bq4,uY F P];omega
 |(h,some g)::P=>by
  rw[bu6 rfl,bt4 (by simp),bp2,bp2,bq4,bq4,uY F P];omega
theorem be0 (R:Rt0 ws.length ls P)(f:cG ls)(nn:NN ws)(hS:aZ ws.length S=true)(full:dG ws ls S=true)(right:∀h e,(h,e)∈P->oG ws ps ls L h e):((i5 P).map λr=>(aD L r).2).sum<=(S.map λs=>ps.getD s.toNat 0).sum:=by
 have sub:∀s∈S,s∈rng ws.length:=λs hs=>bM.mpr ((eN hS).2 s hs)
 obtain⟨O,K,all⟩:=bd6 sub full ws.length [] ⟨bx3,(λ_ z=>by cases z),λi h hi=>by cases hi⟩ (by omega)
 have l1:=aj4 (l:=P) (f:=λp=>eM L O p.1 p.2) (g:=λp=>((aF ls p.1 p.2).map λc=>eM L O c (some p.1)).sum+(if p.1∈S then ps.getD p.1.toNat 0 else 0)) λp hp=>bd9 R f K all nn right (h:=p.1) (e:=p.2) hp
 rw[A5]at l1
 let F:Int->Int:=λc=>((P.find? λp=>decide (p.1=c)).map λp=>eM L O p.1 p.2).getD 0
 have Fp:∀c e,(c,e)∈P->F c=eM L O c e:=λc e hp=>by
  show ((P.find? λp=>decide (p.1=c)).map λp=>eM L O p.1 p.2).getD 0=_
  cases z:P.find? λp=>decide (p.1=c) with
  |none=>have:=List.find?_eq_none.mp z _ hp;simp at this
  |some p=>
   have a:=List.find?_some z
   have b:=List.mem_of_find?_eq_some z
   have a:p.1=c:=by simpa using a
   obtain⟨c',e'⟩:=p
   dsimp only at a
   subst a
   cases lH R.nd b hp
   rfl
 have l2:(P.map λp=>((aF ls p.1 p.2).map λc=>eM L O c (some p.1)).sum).sum=((P.filter λp=>p.2.isSome).map λp=>eM L O p.1 p.2).sum:=by
  have a:(P.map λp=>((aF ls p.1 p.2).map λc=>eM L O c (some p.1)).sum)=P.map λp=>((aF ls p.1 p.2).map F).sum:=bt8 λp hp=>by
   rw[bt8 λc hc=>(Fp c (some p.1) ((R.kid f (h:=p.1) (e:=p.2) hp).mp hc)).symm]
  rw[a,<- A4 F (λp:Int×Option Int=>aF ls p.1 p.2) P,mL ((aj5 R f).map F),br0]
  congr 1
  exact bt8 λp hp=>Fp p.1 p.2 (bn3.mp hp).1
 have l3:(P.map λp=>if p.1∈S then ps.getD p.1.toNat 0 else 0).sum=(S.map λs=>ps.getD s.toNat 0).sum:=by
  have a:∀l:af,(l.map λh=>if h∈S then ps.getD h.toNat 0 else 0).sum=((l.filter λh=>decide (h∈S)).map λs=>ps.getD s.toNat 0).sum:=λl=>by
   induction l with
   |nil=>rfl
   |cons x r ih=>
    rw[bp2,bq4,ih,br9]
    by_cases z:x∈S
    ·rw[if_pos z,if_pos (bm4 z),bp2,bq4]
    ·rw[if_neg z,if_neg (by simpa using z)];omega
  have b:=a (P.map (·.1))
  rw[br0]at b
  rw[show (P.map λp=>if p.1∈S then ps.getD p.1.toNat 0 else 0)=P.map ((λh=>if h∈S then ps.getD h.toNat 0 else 0) ∘ λp:Int×Option Int=>p.1) from rfl,b]
  refine mL (List.Perm.map _ ((bw9 (R.nd.filter _) (uO hS)).mpr λx=>?_))
  rw[bn3,bq1]
  exact⟨λz=>z.2,λz=>⟨(R.mem x).mpr (sub x z),z⟩⟩
 have l4:=uY (λp=>eM L O p.1 p.2) P
 have l5:((P.filter λp=>p.2.isNone).map λp=>eM L O p.1 p.2).sum=((i5 P).map λr=>(aD L r).2).sum:=by
  unfold i5
  rw[br0]
  congr 1
  refine bt8 λp hp=>?_
  obtain⟨h,e⟩:=p
  obtain⟨_,z⟩:=bn3.mp hp
  cases e with
  |none=>rfl
  |some g=>cases z
 rw[l2,l3]at l1
 omega
end
def IsL (y:PV)(L:cB):Prop:=y = .tup (b7 L)∨y = .lst (b7 L)
theorem be1 {bl:cB}{p:Int}(p0:0<=p)(ok:∀r∈bl,0<=r.1/\r.1<=r.2):(∀w:Int,0<=w->0<=eL w p bl)/\∀w w':Int,0<=w->w<=w'->eL w p bl<=eL w' p bl:=by
 have s0:0<=(bl.map (·.1)).sum:=yX λx hx=>by obtain⟨r,hr,rfl⟩:=bn6.mp hx;exact (ok r hr).1
 have g0:∀x∈dD (cH bl),0<=x:=λx hx=>by
  have:=(mS (cH bl)).1.mem_iff.mp hx
  obtain⟨r,hr,rfl⟩:=bn6.mp this
  have:=(ok r hr).2
  omega
 have t0:∀k,0<=((dD (cH bl)).take k).sum:=λk=>yX λx hx=>g0 x (bv8 hx)
 refine⟨λw w0=>?_,λw w' w0 le=>?_⟩
 ·have:=t0 w.toNat
  unfold eL
  split<;>omega
 ·have:=ab7 g0 (show w.toNat<=w'.toNat by omega)
  have:=t0 w.toNat
  unfold eL
  split<;>split<;>omega
abbrev kX (L:cB)(c:Int):Int:=(aD L c).2-(aD L c).1
def cY (ws:af)(A:af)(h:Int)(e:Option Int):Int:=if e.isSome=true/\h∉A then max 0 (ws.getD h.toNat 0-1) else ws.getD h.toNat 0
def fV (L:cB)(A:af)(h:Int)(e:Option Int):Int:=if e.isSome=true/\h∉A then (aD L h).1 else (aD L h).2
structure ChM (ws ps:af)(ls:aa)(L:cB)(A:af)(h:Int)(e:Option Int)(M:af):Prop where
 nd:M.Nodup
 sub:∀c∈M,c∈aF ls h e
 len:(M.length:Int)=cY ws A h e
 sum:(M.map (kX L)).sum=((dD (cH ((aF ls h e).map (aD L)))).take M.length).sum
 le:(M.map (kX L)).sum<=ps.getD h.toNat 0
 mem:∀c∈aF ls h e,c∈A↔c∈M
def lJ (ws ps:af)(ls:aa)(L:cB)(A S:af)(h:Int)(e:Option Int):Prop:=
 (h∈S/\(∀c∈aF ls h e,c∉A)/\¬(cY ws A h e<=((aF ls h e).length:Int)/\((dD (cH ((aF ls h e).map (aD L)))).take (cY ws A h e).toNat).sum<=ps.getD h.toNat 0))∨(h∉S/\∃M,ChM ws ps ls L A h e M)
section
variable {ws ps:af}{ls:aa}{P:bO}{L:cB}{A S:af}{h:Int}{e:Option Int}
theorem aj6 (nn:NN ws):0<=cY ws A h e:=by
 have:=jH nn h.toNat
 unfold cY;split<;>omega
theorem be2 (k:jJ ws ps ls L h e):fV L A h e=eL (cY ws A h e) (ps.getD h.toNat 0) ((aF ls h e).map (aD L)):=by
 unfold jJ at k
 unfold fV cY
 rw[k]
 by_cases z:e.isSome=true/\h∉A
 ·rw[if_pos z,if_pos z];rfl
 ·rw[if_neg z,if_neg z];rfl
theorem aj7 (g:Int):∀l:af,(l.map λc=>fV L A c (some g)).sum=(l.map λc=>(aD L c).1).sum+((l.filter λc=>decide (c∈A)).map (kX L)).sum
 |[]=>rfl
 |x::r=>by
  rw[bp2,bq4,aj7 g r,bp2,bq4,br9]
  by_cases z:x∈A
  ·rw[if_pos (bm4 z),bp2,bq4,show fV L A x (some g)=(aD L x).2 from if_neg λq=>q.2 z]
   show _=_+((aD L x).2-(aD L x).1+_)
   omega
  ·rw[if_neg (by simpa using z),show fV L A x (some g)=(aD L x).1 from if_pos ⟨rfl,z⟩];omega
theorem be3 (f:cG ls)(nn:NN ws)(k:jJ ws ps ls L h e)(c:lJ ws ps ls L A S h e):fV L A h e=((aF ls h e).map λc=>fV L A c (some h)).sum+(if h∈S then ps.getD h.toNat 0 else 0):=by
 have k0:0<=cY ws A h e:=aj6 nn
 rw[be2 k,aj7]
 unfold eL
 rw[br0,bm7]
 show (((aF ls h e).map λc=>(aD L c).1).sum)+_=_
 rcases c with⟨hS,no,big⟩|⟨hS,M,m⟩
 ·rw[bA8.mpr λc hc=>by simpa using no c hc,if_pos hS]
  show _=_+0+_
  by_cases z:cY ws A h e<=((aF ls h e).length:Int)
  ·rw[if_pos z]
   have:¬((dD (cH ((aF ls h e).map (aD L)))).take (cY ws A h e).toNat).sum<=ps.getD h.toNat 0:=λq=>big ⟨z,q⟩
   omega
  ·rw[if_neg z];omega
 ·have pm:((aF ls h e).filter λc=>decide (c∈A)).Perm M:=(bw9 (((f.nnd h).filter _).filter _) m.nd).mpr λc=>by
   rw[bn3,bq1]
   exact⟨λz=>(m.mem c z.1).mp z.2,λz=>⟨m.sub c z,(m.mem c (m.sub c z)).mpr z⟩⟩
  have ml:M.length<=(aF ls h e).length:=e7 m.nd m.sub
  rw[mL (pm.map (kX L)),if_neg hS,if_pos (by have:=m.len;omega),<- m.len,bp9,<- m.sum]
  have:=m.le
  omega
theorem be4 (R:Rt0 ws.length ls P)(f:cG ls)(nn:NN ws)(k:mU ws ps ls P L)(nd:S.Nodup)(sub:∀s∈S,s∈rng ws.length)(ch:∀h e,(h,e)∈P->lJ ws ps ls L A S h e):(S.map λs=>ps.getD s.toNat 0).sum=((i5 P).map λr=>(aD L r).2).sum:=by
 have l1:(P.map λp=>fV L A p.1 p.2)=P.map λp=>((aF ls p.1 p.2).map λc=>fV L A c (some p.1)).sum+(if p.1∈S then ps.getD p.1.toNat 0 else 0):=bt8 λp hp=>be3 f nn (k.2 p.1 p.2 hp) (ch p.1 p.2 hp)
 have l1:=congrArg List.sum l1
 rw[A5]at l1
 have l2:(P.map λp=>((aF ls p.1 p.2).map λc=>fV L A c (some p.1)).sum).sum=((P.filter λp=>p.2.isSome).map λp=>fV L A p.1 p.2).sum:=by
  have a:(P.map λp=>((aF ls p.1 p.2).map λc=>fV L A c (some p.1)).sum)=P.map λp=>((aF ls p.1 p.2).map λc=>fV L A c (some 0)).sum:=rfl
  rw[a,<- A4 (λc=>fV L A c (some 0)) (λp:Int×Option Int=>aF ls p.1 p.2) P,mL ((aj5 R f).map _),br0]
  congr 1
  refine bt8 λp hp=>?_
  obtain⟨h,e⟩:=p
  obtain⟨_,z⟩:=bn3.mp hp
  cases e with
  |none=>cases z
  |some g=>rfl
 have l3:(P.map λp=>if p.1∈S then ps.getD p.1.toNat 0 else 0).sum=(S.map λs=>ps.getD s.toNat 0).sum:=by
  have a:∀l:af,(l.map λh=>if h∈S then ps.getD h.toNat 0 else 0).sum=((l.filter λh=>decide (h∈S)).map λs=>ps.getD s.toNat 0).sum:=λl=>by
   induction l with
   |nil=>rfl
   |cons x r ih=>
    rw[bp2,bq4,ih,br9]
    by_cases z:x∈S
    ·rw[if_pos z,if_pos (bm4 z),bp2,bq4]
    ·rw[if_neg z,if_neg (by simpa using z)];omega
  have b:=a (P.map (·.1))
  rw[br0]at b
  rw[show (P.map λp=>if p.1∈S then ps.getD p.1.toNat 0 else 0)=P.map ((λh=>if h∈S then ps.getD h.toNat 0 else 0) ∘ λp:Int×Option Int=>p.1) from rfl,b]
  refine mL (List.Perm.map _ ((bw9 (R.nd.filter _) nd).mpr λx=>?_))
  rw[bn3,bq1]
  exact⟨λz=>z.2,λz=>⟨(R.mem x).mpr (sub x z),z⟩⟩
 have l4:=uY (λp=>fV L A p.1 p.2) P
 have l5:((P.filter λp=>p.2.isNone).map λp=>fV L A p.1 p.2).sum=((i5 P).map λr=>(aD L r).2).sum:=by
  unfold i5
  rw[br0]
  congr 1
  refine bt8 λp hp=>?_
  obtain⟨h,e⟩:=p
  obtain⟨_,z⟩:=bn3.mp hp
  cases e with
  |none=>exact if_neg λq=>by cases q.1
  |some g=>cases z
 rw[l2,l3]at l1
 omega
theorem be5 (R:Rt0 ws.length ls P)(f:cG ls)(nn:NN ws)(ch:∀h e,(h,e)∈P->lJ ws ps ls L A S h e):dG ws ls S=true:=by
 refine o9.mpr λU sh sub=>?_
 have one:∀h e,(h,e)∈P->(e=none∨h∈A∨h∈S)->h∈U:=R.leaf f (C:=λh e=>(e=none∨h∈A∨h∈S)->h∈U) λh e hp ih c=>by
  rcases ch h e hp with⟨hS,_⟩|⟨hS,M,m⟩
  ·exact sub h hS
  ·refine ah5 sh (R.inr hp) m.nd (λz hz=>⟨(fR.mp (m.sub z hz)).1,ih z (m.sub z hz) (.inr (.inl ((m.mem z (m.sub z hz)).mpr hz)))⟩) ?_
   rw[m.len]
   unfold cY
   rw[if_neg λq=>?_]
   ·exact bs6 _
   ·rcases c with c|c|c
    ·rw[c]at q;cases q.1
    ·exact q.2 c
    ·exact hS c
 have two:∀(i:Nat) (h:Int) (e:Option Int),P[i]? = some (h,e)->h∈U:=by
  intro i
  induction i using Nat.strongRecOn with
  |ind i ih=>
   intro h e hi
   have hp:=bm3 hi
   by_cases c:e=none∨h∈A∨h∈S
   ·exact one h e hp c
   cases e with
   |none=>exact absurd (.inl rfl) c
   |some g=>
    obtain⟨j,q,ji,hj,gn⟩:=R.par i h g hi
    rcases ch h _ hp with⟨hS,_⟩|⟨hS,M,m⟩
    ·exact sub h hS
    ·refine ah5 sh (R.inr hp) (L:=g::M) (bs4.mpr ⟨λz=>(fR.mp (m.sub g z)).2 rfl,m.nd⟩) (λz hz=>?_) ?_
     ·rcases bn8.mp hz with y|y
      ·rw[y];exact⟨gn,ih j ji g q hj⟩
      ·exact⟨(fR.mp (m.sub z y)).1,one z (some h) ((R.kid f hp).mp (m.sub z y)) (.inr (.inl ((m.mem z (m.sub z y)).mpr y)))⟩
     ·rw[bo5]
      have:=m.len
      unfold cY at this
      split at this<;>omega
 intro h hh
 obtain⟨⟨h',e⟩,hp,rfl⟩:=bn6.mp ((R.mem h).mpr hh)
 obtain⟨i,hi⟩:=eO hp
 exact two i h' e hi
end
structure iX (ws ps:af)(ls:aa)(P:bO)(L:cB)(i:Nat)(A S:af):Prop where
 ina:∀a∈A,∃(j:Nat) (g:Int) (q:Option Int),j<i/\P[j]? = some (g,q)/\a∈aF ls g q
 ins:∀s∈S,∃(j:Nat) (q:Option Int),j<i/\P[j]? = some (s,q)
 nd:S.Nodup
 ok:∀(j:Nat) (h:Int) (e:Option Int),j<i->P[j]? = some (h,e)->lJ ws ps ls L A S h e
section
variable {ws ps:af}{ls:aa}{P:bO}{L:cB}{A A' S S' M:af}{h:Int}{e:Option Int}{i:Nat}
theorem iX.start:iX ws ps ls P L 0 [] []:=⟨(λ_ z=>by cases z),(λ_ z=>by cases z),List.nodup_nil,λj h e z=>by omega⟩
theorem aj8 (R:Rt0 ws.length ls P)(f:cG ls){j:Nat}{g c:Int}{q:Option Int}(hi:P[i]? = some (h,e))(hj:P[j]? = some (g,q))(h1:c∈aF ls h e)(h2:c∈aF ls g q):i=j:=by
 have a:=(R.kid f (bm3 hi)).mp h1
 have b:=(R.kid f (bm3 hj)).mp h2
 cases lH R.nd a b
 exact (dH R.nd hi hj).1
theorem be6 (R:Rt0 ws.length ls P)(f:cG ls){j:Nat}{c:Int}{q:Option Int}(hi:P[i]? = some (h,e))(hj:P[j]? = some (c,q))(h1:c∈aF ls h e):i<j:=by
 have a:=(R.kid f (bm3 hi)).mp h1
 cases lH R.nd a (bm3 hj)
 obtain⟨j',q',jj,hj',_⟩:=R.par j c h hj
 have:=(dH R.nd hi hj').1
 omega
theorem aj9 (z:h∈A↔h∈A'):cY ws A h e=cY ws A' h e:=by unfold cY;simp only[z]
theorem lJ.congr (z:h∈A↔h∈A')(zs:h∈S↔h∈S')(k:∀c∈aF ls h e,c∈A↔c∈A')(c:lJ ws ps ls L A S h e):lJ ws ps ls L A' S' h e:=by
 have ek:=aj9 (ws:=ws) (e:=e) z
 rcases c with⟨a,b,c⟩|⟨a,M,m⟩
 ·exact .inl ⟨zs.mp a,λx hx y=>b x hx ((k x hx).mpr y),by rw[<- ek];exact c⟩
 ·exact .inr ⟨λy=>a (zs.mpr y),M,m.nd,m.sub,by rw[<- ek];exact m.len,m.sum,m.le,λx hx=>(k x hx).symm.trans (m.mem x hx)⟩
theorem iX.fresh (I:iX ws ps ls P L i A S)(R:Rt0 ws.length ls P)(f:cG ls)(hi:P[i]? = some (h,e)):∀c∈aF ls h e,c∉A:=λc hc ca=>by
 obtain⟨j,g,q,ji,hj,hk⟩:=I.ina c ca
 have:=aj8 R f hi hj hc hk
 omega
theorem iX.mark (I:iX ws ps ls P L i A S)(R:Rt0 ws.length ls P)(f:cG ls)(hi:P[i]? = some (h,e))(nd:M.Nodup)(sub:∀c∈M,c∈aF ls h e)(len:(M.length:Int)=cY ws A h e)(sum:(M.map (kX L)).sum=((dD (cH ((aF ls h e).map (aD L)))).take M.length).sum)(le:(M.map (kX L)).sum<=ps.getD h.toNat 0):iX ws ps ls P L (i+1) (A++M) S:=by
 have hM:h∉M:=λz=>f.irr h (fR.mp (sub h z)).1
 refine⟨λa ha=>?_,λs hs=>?_,I.nd,λj g q ji hj=>?_⟩
 ·rcases bn0.mp ha with z|z
  ·obtain⟨j,g,q,ji,hj,hk⟩:=I.ina a z
   exact⟨j,g,q,by omega,hj,hk⟩
  ·exact⟨i,h,e,by omega,hi,sub a z⟩
 ·obtain⟨j,q,ji,hj⟩:=I.ins s hs
  exact⟨j,q,by omega,hj⟩
 ·by_cases ej:j=i
  ·subst ej
   rw[hi]at hj
   cases hj
   refine .inr ⟨λz=>?_,M,nd,sub,?_,sum,le,λc hc=>?_⟩
   ·obtain⟨j',q',jj,hj'⟩:=I.ins h z
    have:=(dH R.nd hi hj').1
    omega
   ·rw[len];exact aj9 ⟨λz=>bo3 _ z,λz=>(bn0.mp z).resolve_right hM⟩
   ·exact⟨λz=>(bn0.mp z).resolve_left (I.fresh R f hi c hc),λz=>bo8 _ z⟩
  ·refine (I.ok j g q (by omega) hj).congr ?_ Iff.rfl λc hc=>?_
   ·refine⟨λz=>bo3 _ z,λz=>(bn0.mp z).resolve_right λy=>?_⟩
    have:=be6 R f hi hj (sub g y)
    omega
   ·refine⟨λz=>bo3 _ z,λz=>(bn0.mp z).resolve_right λy=>?_⟩
    have:=aj8 R f hi hj (sub c y) hc
    omega
theorem iX.seed (I:iX ws ps ls P L i A S)(R:Rt0 ws.length ls P)(f:cG ls)(hi:P[i]? = some (h,e))(big:¬(cY ws A h e<=((aF ls h e).length:Int)/\((dD (cH ((aF ls h e).map (aD L)))).take (cY ws A h e).toNat).sum<=ps.getD h.toNat 0)):iX ws ps ls P L (i+1) A (S++[h]):=by
 have hS:h∉S:=λz=>by
  obtain⟨j',q',jj,hj'⟩:=I.ins h z
  have:=(dH R.nd hi hj').1
  omega
 refine⟨λa ha=>?_,λs hs=>?_,?_,λj g q ji hj=>?_⟩
 ·obtain⟨j,g,q,ji,hj,hk⟩:=I.ina a ha
  exact⟨j,g,q,by omega,hj,hk⟩
 ·rcases bn0.mp hs with z|z
  ·obtain⟨j,q,ji,hj⟩:=I.ins s z
   exact⟨j,q,by omega,hj⟩
  ·rw[bm2.mp z];exact⟨i,e,by omega,hi⟩
 ·exact bv1.mpr ⟨I.nd,bs4.mpr ⟨(λz=>by cases z),List.nodup_nil⟩,λa ha b hb=>by rw[bm2.mp hb];exact λz=>hS (z▸ha)⟩
 ·by_cases ej:j=i
  ·subst ej
   rw[hi]at hj
   cases hj
   exact .inl ⟨bo8 _ (bm2.mpr rfl),I.fresh R f hi,big⟩
  ·refine (I.ok j g q (by omega) hj).congr Iff.rfl ?_ λc hc=>Iff.rfl
   refine⟨λz=>bo3 _ z,λz=>(bn0.mp z).resolve_right λy=>?_⟩
   rw[bm2.mp y]at hj
   exact ej (dH R.nd hj hi).1
end
end Core
namespace PP
open PySem L2
abbrev Cau:=Option (Int×af)
end PP
namespace Core
open PySem L2 PP
section
variable {ws:af}{ls:aa}{ns:af}{cs:List Cau}{m:Nat}
theorem qU:∀{A B:af},A.Nodup->(∀x∈A,x∈B)->A.length<=B.length
 |[],_,_,_=>br5 _
 |a::A,B,nd,sub=>by
  have ha:=sub a bm8
  have n:=bs4.mp nd
  have ih:=qU (A:=A) (B:=B.erase a) n.2 λx hx=>(List.mem_erase_of_ne λ(e:x=a)=>n.1 (e▸hx)).mpr (sub x (bn5 _ hx))
  have:=List.length_erase_of_mem ha
  have:=bA9 ha
  rw[bo5]
  omega
end
section
variable {ws ps:af}{ls:aa}{P:bO}{L:cB}
theorem be7 (R:Rt0 ws.length ls P)(f:cG ls)(nn:NN ws)(pp:∀k,0<=ps.getD k 0)(k:mU ws ps ls P L):∀h e,(h,e)∈P->oG ws ps ls L h e:=by
 have base:∀h e,(h,e)∈P->(0<=(aD L h).1/\(aD L h).1<=(aD L h).2):=R.leaf f λh e hp kk=>by
  have at_:=k.2 h e hp
  unfold jJ at at_
  have w0:0<=ws.getD h.toNat 0:=jH nn _
  obtain⟨n1,n2⟩:=be1 (bl:=(aF ls h e).map (aD L)) (pp h.toNat) λr hr=>by
   obtain⟨c,hc,rfl⟩:=bn6.mp hr
   exact kk c hc
  rw[at_]
  unfold gL
  exact⟨n1 _ (by omega),n2 _ _ (by omega) (by omega)⟩
 intro h e hp
 obtain⟨b1,b2⟩:=base h e hp
 have at_:=k.2 h e hp
 unfold jJ at at_
 exact⟨b1,b2,by rw[<- at_];exact bs6 _,by rw[<- at_];exact bs6 _⟩
theorem ak0 {f:Int->Int}:∀{zs K:af},zs.Perm (K.map f)->∃K':af,K'.Perm K/\zs=K'.map f
 |[],K,h=>by
  have:=h.length_eq
  rw[bm7]at this
  cases K with
  |nil=>exact⟨[],bB4 _,rfl⟩
  |cons _ _=>cases this
 |z::zs,K,h=>by
  obtain⟨a,ha,rfl⟩:=bn6.mp (h.mem_iff.mp bm8)
  have p:=List.perm_cons_erase ha
  have h2:(f a::zs).Perm (f a::(K.erase a).map f):=h.trans (p.map f)
  obtain⟨K',p',e⟩:=ak0 (List.Perm.cons_inv h2)
  exact⟨a::K',(List.Perm.cons a p').trans p.symm,by rw[e];rfl⟩
theorem be8 (R:Rt0 ws.length ls P)(f:cG ls)(nn:NN ws):∀i,i<=P.length->∃A S,iX ws ps ls P L i A S:=by
 intro i
 induction i with
 |zero=>intro _;exact⟨[],[],.start⟩
 |succ i ih=>
  intro hi
  obtain⟨A,S,I⟩:=ih (by omega)
  obtain⟨⟨h,e⟩,hp⟩:∃p,P[i]? = some p:=⟨_,bm6 (by omega)⟩
  by_cases c:cY ws A h e<=((aF ls h e).length:Int)/\((dD (cH ((aF ls h e).map (aD L)))).take (cY ws A h e).toNat).sum<=ps.getD h.toNat 0
  ·have k0:=aj6 (A:=A) (h:=h) (e:=e) nn
   have g:cH ((aF ls h e).map (aD L))=(aF ls h e).map (kX L):=by unfold cH;rw[br0];rfl
   obtain⟨K',pk,ek⟩:=ak0 (f:=kX L) (zs:=dD (cH ((aF ls h e).map (aD L)))) (K:=aF ls h e) (g▸(mS (cH ((aF ls h e).map (aD L)))).1)
   have kl:=pk.length_eq
   have ml:(K'.take (cY ws A h e).toNat).length=(cY ws A h e).toNat:=by rw[bt0];omega
   have ms:((K'.take (cY ws A h e).toNat).map (kX L)).sum=((dD (cH ((aF ls h e).map (aD L)))).take (cY ws A h e).toNat).sum:=by rw[ek,List.map_take]
   refine⟨_,_,I.mark R f hp (M:=K'.take (cY ws A h e).toNat) ?_ (λc hc=>pk.mem_iff.mp (bv8 hc)) (by rw[ml];omega) (by rw[ml];exact ms) (by rw[ms];exact c.2)⟩
   exact (pk.nodup_iff.mpr ((f.nnd h).filter _)).sublist (List.take_sublist _ _)
  ·exact⟨_,_,I.seed R f hp c⟩
theorem be9 (R:Rt0 ws.length ls P)(f:cG ls)(nn:NN ws)(pp:∀k,0<=ps.getD k 0)(k:mU ws ps ls P L) :
  (∀S,aZ ws.length S=true->dG ws ls S=true->((i5 P).map λr=>(aD L r).2).sum<=(S.map λs=>ps.getD s.toNat 0).sum)/\
  ∃S,aZ ws.length S=true/\dG ws ls S=true/\(S.map λs=>ps.getD s.toNat 0).sum=((i5 P).map λr=>(aD L r).2).sum:=by
 refine⟨λS hS full=>be0 R f nn hS full (be7 R f nn pp k),?_⟩
 obtain⟨A,S,I⟩:=be8 (ps:=ps) (L:=L) R f nn P.length (bn1 _)
 have ch:∀h e,(h,e)∈P->lJ ws ps ls L A S h e:=λh e hp=>by
  obtain⟨j,hj,e1⟩:=bq5 hp
  exact I.ok j h e hj (by rw[bm6 hj,e1])
 have sub:∀s∈S,s∈rng ws.length:=λs hs=>by
  obtain⟨j,q,_,hj⟩:=I.ins s hs
  exact R.inr (bm3 hj)
 obtain⟨pm,so⟩:=mS S
 refine⟨dD S,bb7 (pm.nodup_iff.mpr I.nd) so λx hx=>sub x (pm.mem_iff.mp hx),aW0 (λx hx=>pm.mem_iff.mpr hx) (be5 R f nn ch),?_⟩
 rw[mL (pm.map _),be4 R f nn k I.nd sub ch]
end
structure oH (n:Nat)(P:bO)(h:Int)(B:af):Prop where
 up:B.Pairwise (·<·)
 top:h∈B
 inn:∀x∈B,x∈rng n
 dn:∀x g,(x,some g)∈P->g∈B->x∈B
 eld:∀x∈B,x≠h->∃g∈B,(x,some g)∈P
 no:∀g,(h,some g)∈P->g∉B
def ix (B:af)(x:Int):Int:=(B.idxOf x:Nat)
section
variable {B:af}{x y:Int}
theorem kY (hx:x∈B):B.idxOf x<B.length:=List.idxOf_lt_length_iff.mpr hx
theorem oI (hx:x∈B):B[B.idxOf x]? = some x:=by
 rw[bm6 (kY hx)]
 exact congrArg some (List.getElem_idxOf (kY hx))
theorem qV (hx:x∈B)(hy:y∈B)(e:ix B x=ix B y):x=y:=by
 have e:B.idxOf x=B.idxOf y:=by unfold ix at e;omega
 have:=oI hx
 rw[e,oI hy]at this
 exact (bo9 this).symm
theorem A6 (up:B.Pairwise (·<·))(hx:x∈B)(hy:y∈B)(lt:x<y):ix B x<ix B y:=by
 unfold ix
 have gx:=List.getElem_idxOf (kY hx)
 have gy:=List.getElem_idxOf (kY hy)
 rcases Nat.lt_trichotomy (B.idxOf x) (B.idxOf y) with z|z|z
 ·omega
 ·have:=qV hx hy (by unfold ix;omega);omega
 ·have:=bt6.mp up _ _ (kY hy) (kY hx) z
  rw[gx,gy]at this
  omega
theorem bf0 (up:B.Pairwise (·<·)){i:Nat}(hi:B[i]? = some x):ix B x=(i:Nat):=by
 have hx:=bm3 hi
 have hl:=(bn2.mp hi).1
 have nd:B.Nodup:=up.imp λh=>bw4 h
 have:B.idxOf x=i:=(List.getElem?_inj (kY hx) nd).mp ((oI hx).trans hi.symm)
 unfold ix;omega
end
def cC (ls:aa)(B:af):aa:=(ls.filter λl=>decide (l.1∈B)&&decide (l.2∈B)).map λl=>(ix B l.1,ix B l.2)
theorem ak1 (l:Int×Int)(r:aa)(h:Int):aJ (l::r) h=((if l.1=h then [l.2] else [])++(if l.2=h then [l.1] else []))++aJ r h:=rfl
theorem uZ {B:af}{x:Int}(hx:x∈B):∀ls:aa,aJ (cC ls B) (ix B x)=((aJ ls x).filter λy=>decide (y∈B)).map (ix B)
 |[]=>rfl
 |l::ls=>by
  have ih:=uZ hx ls
  rw[ak1,bz5,bp5,<- ih]
  by_cases h1:l.1∈B
  ·by_cases h2:l.2∈B
   ·have e:cC (l::ls) B=(ix B l.1,ix B l.2)::cC ls B:=by
     unfold cC
     rw[bu6 (by rw[bm4 h1,bm4 h2];rfl)];rfl
    rw[e,ak1]
    congr 1
    have i1:(ix B l.1=ix B x)↔l.1=x:=⟨qV h1 hx,λe=>by rw[e]⟩
    have i2:(ix B l.2=ix B x)↔l.2=x:=⟨qV h2 hx,λe=>by rw[e]⟩
    simp only[i1,i2]
    by_cases a:l.1=x<;>by_cases b:l.2=x<;>simp[a,b,h1,h2,hx]
   ·have e:cC (l::ls) B=cC ls B:=by
     unfold cC
     rw[bt4 (by rw[bm9 h2,bB3];decide)]
    rw[e]
    have b:l.2≠x:=λz=>h2 (z▸hx)
    have:((if l.1=x then [l.2] else [])++(if l.2=x then [l.1] else [])).filter (λy=>decide (y∈B)) = []:=by
     rw[if_neg b]
     by_cases a:l.1=x<;>simp[a,h2]
    rw[this];rfl
  ·have e:cC (l::ls) B=cC ls B:=by
    unfold cC
    rw[bt4 (by rw[bm9 h1,Bool.false_and];decide)]
   rw[e]
   have a:l.1≠x:=λz=>h1 (z▸hx)
   have:((if l.1=x then [l.2] else [])++(if l.2=x then [l.1] else [])).filter (λy=>decide (y∈B)) = []:=by
    rw[if_neg a]
    by_cases b:l.2=x<;>simp[b,h1]
   rw[this];rfl
theorem ak2 {n:Nat}{ls:aa}{B:af}(lk:e6 n ls)(up:B.Pairwise (·<·)):e6 B.length (cC ls B):=by
 have mem:∀l∈ls.filter λl=>decide (l.1∈B)&&decide (l.2∈B),l∈ls/\l.1∈B/\l.2∈B:=λl hl=>by
  obtain⟨h1,h2⟩:=bn3.mp hl
  rw[br3,bq1,bq1]at h2
  exact⟨h1,h2⟩
 refine⟨λl hl=>?_,?_,?_⟩
 ·unfold cC at hl
  obtain⟨m,hm,rfl⟩:=bn6.mp hl
  obtain⟨h1,h2,h3⟩:=mem m hm
  have:=lk.1 m h1
  have lt:=A6 up h2 h3 (by omega)
  have:=kY h3
  refine⟨by show 0<=ix B m.1;unfold ix;omega,lt,?_⟩
  show ix B m.2<_
  unfold ix;omega
 ·unfold cC
  rw[bm7]
  exact bs0 (bs8 _ _) lk.2.1
 ·unfold cC
  refine bs3.mpr ((lk.2.2.filter _).imp_of_mem λ{a b} ha hb h=>?_)
  obtain⟨_,a1,a2⟩:=mem a ha
  obtain⟨_,b1,b2⟩:=mem b hb
  unfold jF at h ⊢
  rcases h with h|⟨h1,h2⟩
  ·exact .inl (A6 up a1 b1 h)
  ·exact .inr ⟨by show ix B a.1=ix B b.1;rw[h1],A6 up a2 b2 h2⟩
def jK (B:af)(h:Int)(p:Int×Option Int):Int×Option Int:=(ix B p.1,if p.1=h then none else p.2.map (ix B))
def fW (P:bO)(B:af)(h:Int):bO:=(P.filter λp=>decide (p.1∈B)).map (jK B h)
section
variable {n:Nat}{ls:aa}{P:bO}{h:Int}{B:af}
theorem lK {q:Int×Option Int}:q∈fW P B h↔∃p∈P,p.1∈B/\q=jK B h p:=by
 unfold fW
 rw[bn6]
 constructor
 ·rintro⟨p,hp,rfl⟩
  obtain⟨h1,h2⟩:=bn3.mp hp
  exact⟨p,h1,bq3 h2,rfl⟩
 ·rintro⟨p,h1,h2,rfl⟩
  exact⟨p,bn3.mpr ⟨h1,bm4 h2⟩,rfl⟩
theorem bf1:(fW P B h).map (·.1)=((P.filter λp=>decide (p.1∈B)).map (·.1)).map (ix B):=by
 unfold fW;rw[br0,br0];rfl
theorem ak3 {α:Type}{f:α->Bool}{P:List α}{i:Nat}{x:α}(hi:P[i]? = some x)(fx:f x=true):(P.filter f)[((P.take i).filter f).length]? = some x:=by
 have e:P=P.take i++x::P.drop (i+1):=by
  obtain⟨hl,e⟩:=bn2.mp hi
  rw[<- e,<- List.drop_eq_getElem_cons hl,br2]
 have:P.filter f=(P.take i).filter f++x::(P.drop (i+1)).filter f:=by
  conv=>lhs;rw[e]
  rw[bz5,bu6 fx]
 rw[this,br6 (bn1 _),Nat.sub_self];rfl
theorem ak4 (R:Rt0 n ls P)(b:oH n P h B):Rt0 B.length (cC ls B) (fW P B h):=by
 have ndP:=R.nd
 have one:∀p q:Int×Option Int,p∈P->q∈P->p.1=q.1->p=q:=λp q hp hq e=>by
  obtain⟨i,hi,ei⟩:=bq5 hp
  obtain⟨j,hj,ej⟩:=bq5 hq
  have e1:P[i]? = some (p.1,p.2):=by rw[bm6 hi,ei]
  have e2:P[j]? = some (p.1,q.2):=by rw[bm6 hj,ej,e]
  have:=(dH ndP e1 e2).2
  exact Prod.ext e this
 have ndf:((P.filter λp=>decide (p.1∈B)).map (·.1)).Nodup:=ndP.sublist (List.filter_sublist.map _)
 have nd:((fW P B h).map (·.1)).Nodup:=by
  rw[bf1]
  refine bs3.mpr (ndf.imp_of_mem λ{x y} hx hy ne e=>ne ?_)
  obtain⟨p,hp,rfl⟩:=bn6.mp hx
  obtain⟨q,hq,rfl⟩:=bn6.mp hy
  exact qV (bq3 (bn3.mp hp).2) (bq3 (bn3.mp hq).2) e
 refine⟨nd,λx'=>?_,λi hx ex hi=>?_,λhx ex hq y' hy=>?_⟩
 ·rw[bn6]
  constructor
  ·rintro⟨q,hq,rfl⟩
   obtain⟨p,_,hb,rfl⟩:=lK.mp hq
   have:=kY hb
   exact bM.mpr ⟨by show 0<=ix B p.1;unfold ix;omega,by show ix B p.1<_;unfold ix;omega⟩
  ·intro hr
   obtain⟨r0,r1⟩:=bM.mp hr
   obtain⟨x,hx⟩:∃x,B[x'.toNat]? = some x:=⟨_,bm6 (by omega)⟩
   have xb:=bm3 hx
   obtain⟨e,he⟩:=R.pair (b.inn x xb)
   refine⟨jK B h (x,e),lK.mpr ⟨_,he,xb,rfl⟩,?_⟩
   show ix B x=x'
   rw[bf0 b.up hx];omega
 ·have hm:=bm3 hi
  obtain⟨p,hp,hb,e⟩:=lK.mp hm
  obtain⟨x,q⟩:=p
  have e1:hx=ix B x:=(bz1 e).1
  have e2:some ex=if x=h then none else q.map (ix B):=(bz1 e).2
  have xh:x≠h:=λz=>by rw[if_pos z]at e2;cases e2
  rw[if_neg xh]at e2
  cases q with
  |none=>cases e2
  |some g=>
  have e3:ex=ix B g:=bo9 e2
  subst e1 e3
  obtain⟨i',hi',ei'⟩:=bq5 hp
  have gi:P[i']? = some (x,some g):=by rw[bm6 hi',ei']
  obtain⟨j',q',lt,gj,gn⟩:=R.par i' x g gi
  have gB:g∈B:=by
   obtain⟨g',hg',hpg⟩:=b.eld x hb xh
   have:=one _ _ hp hpg rfl
   cases this;exact hg'
  have F1:=ak3 (f:=λp:Int×Option Int=>decide (p.1∈B)) gi (bm4 hb)
  have F2:=ak3 (f:=λp:Int×Option Int=>decide (p.1∈B)) gj (bm4 gB)
  have l12:((P.take j').filter λp=>decide (p.1∈B)).length<((P.take i').filter λp=>decide (p.1∈B)).length:=by
   have mem:(g,q')∈(P.take i').filter λp=>decide (p.1∈B):=bn3.mpr ⟨bm3 (i:=j') (by rw[bz6 lt];exact gj),bm4 gB⟩
   have e:P.take i'=P.take j'++(P.take i').drop j':=by
    conv=>lhs;rw[<- br2 j' (P.take i')]
    rw[List.take_take,Nat.min_eq_left (bt9 lt)]
   have:(g,q')∈(P.take i').drop j':=bm3 (i:=0) (by rw[List.getElem?_drop,Nat.add_zero,bz6 lt];exact gj)
   rw[e,bz5,bo2]
   have:=bA9 (bn3 (p:=λp:Int×Option Int=>decide (p.1∈B)) |>.mpr ⟨this,bm4 gB⟩)
   omega
  have F1':(fW P B h)[((P.take i').filter λp=>decide (p.1∈B)).length]? = some (ix B x,some (ix B g)):=by
   unfold fW
   rw[bn4,F1]
   show some (jK B h (x,some g))=_
   unfold jK
   rw[if_neg xh];rfl
  have F2':(fW P B h)[((P.take j').filter λp=>decide (p.1∈B)).length]? = some (jK B h (g,q')):=by
   unfold fW
   rw[bn4,F2];rfl
  have ie:=(dH nd F1' hi).1
  refine⟨_,_,by rw[<- ie];exact l12,F2',?_⟩
  rw[uZ hb]
  exact bn6.mpr ⟨g,bn3.mpr ⟨gn,bm4 gB⟩,rfl⟩
 ·obtain⟨p,hp,hb,e⟩:=lK.mp hq
  obtain⟨x,q⟩:=p
  have e1:hx=ix B x:=(bz1 e).1
  have e2:ex=if x=h then none else q.map (ix B):=(bz1 e).2
  subst e1
  rw[uZ hb]at hy
  obtain⟨y,hy',rfl⟩:=bn6.mp hy
  obtain⟨yn,yb⟩:=bn3.mp hy'
  have yb:=bq3 yb
  rcases R.done x q hp y yn with z|z
  ·have xh:x≠h:=λw=>by
    rw[w,z]at hp
    exact b.no y hp yb
   rw[if_neg xh,z]at e2
   exact .inl e2
  ·have yh:y≠h:=λw=>by
    rw[w]at z
    exact b.no x z hb
   refine .inr (lK.mpr ⟨_,z,yb,?_⟩)
   unfold jK
   rw[if_neg yh];rfl
theorem bf2 (R:Rt0 n ls P)(b:oH n P h B){p:Int×Option Int}(hp:p∈P)(hb:p.1∈B):aF (cC ls B) (jK B h p).1 (jK B h p).2=(aF ls p.1 p.2).map (ix B):=by
 obtain⟨x,q⟩:=p
 show (aJ (cC ls B) (ix B x)).filter _=_
 rw[uZ hb,List.filter_map]
 unfold aF
 rw[List.filter_filter]
 refine congrArg (List.map (ix B)) (List.filter_congr λy hy=>?_)
 show (!decide (some (ix B y)=if x=h then none else q.map (ix B))&&decide (y∈B)) = !decide (some y=q)
 rcases R.done x q hp y hy with z|z
 ·have e3:decide (some y=q)=true:=bm4 z.symm
  rw[e3]
  by_cases xh:x=h
  ·have nb:decide (y∈B)=false:=bm9 λw=>by rw[xh,z]at hp;exact b.no y hp w
   rw[nb,bB3];rfl
  ·have:decide (some (ix B y)=if x=h then none else q.map (ix B))=true:=by rw[if_neg xh,z];exact bm4 rfl
   rw[this];rfl
 ·have yb:=b.dn y x z hb
  have e3:some y≠q:=λw=>by
   obtain⟨i,hi,ei⟩:=bq5 hp
   have gi:P[i]? = some (x,some y):=by rw[bm6 hi,ei,w]
   obtain⟨j,hj,ej⟩:=bq5 z
   have gj:P[j]? = some (y,some x):=by rw[bm6 hj,ej]
   obtain⟨k,q2,lt,gk,_⟩:=R.par i x y gi
   obtain⟨k',q3,lt',gk',_⟩:=R.par j y x gj
   have a1:=(dH R.nd gk gj).1
   have a2:=(dH R.nd gk' gi).1
   omega
  rw[bm9 e3,bm4 yb,Bool.and_true]
  have:¬(some (ix B y)=if x=h then none else q.map (ix B)):=λw=>by
   by_cases xh:x=h
   ·rw[if_pos xh]at w;cases w
   ·rw[if_neg xh]at w
    cases q with
    |none=>cases w
    |some g=>
     obtain⟨g',hg',hpg⟩:=b.eld x hb xh
     obtain⟨i,hi,ei⟩:=bq5 hp
     obtain⟨j,hj,ej⟩:=bq5 hpg
     have:=(dH R.nd (show P[i]? = some (x,some g) by rw[bm6 hi,ei]) (show P[j]? = some (x,some g') by rw[bm6 hj,ej])).2
     have gg:=bo9 this
     exact e3 (congrArg some (qV yb (gg▸hg') (bo9 w)))
  rw[bm9 this]
theorem bf3 (R:Rt0 n ls P)(b:oH n P h B):i5 (fW P B h) = [ix B h]:=by
 have R':=ak4 R b
 have nd:(i5 (fW P B h)).Nodup:=R'.nd.sublist (List.filter_sublist.map _)
 have mem:∀r,r∈i5 (fW P B h)↔r=ix B h:=λr=>by
  unfold i5
  rw[bn6]
  constructor
  ·rintro⟨q,hq,rfl⟩
   obtain⟨hm,hn⟩:=bn3.mp hq
   obtain⟨⟨x,e⟩,hp,hb,rfl⟩:=lK.mp hm
   by_cases xh:x=h
   ·rw[xh];rfl
   ·obtain⟨g,hg,hpg⟩:=b.eld x hb xh
    obtain⟨i,hi,ei⟩:=bq5 hp
    obtain⟨j,hj,ej⟩:=bq5 hpg
    have:=(dH R.nd (show P[i]? = some (x,e) by rw[bm6 hi,ei]) (show P[j]? = some (x,some g) by rw[bm6 hj,ej])).2
    rw[this]at hn
    have hn:(if x=h then none else (some g).map (ix B)).isNone=true:=hn
    rw[if_neg xh]at hn;cases hn
  ·rintro rfl
   obtain⟨e,he⟩:=R.pair (b.inn h b.top)
   refine⟨jK B h (h,e),bn3.mpr ⟨lK.mpr ⟨_,he,b.top,rfl⟩,?_⟩,rfl⟩
   show (if h=h then none else e.map (ix B)).isNone=true
   rw[if_pos rfl];rfl
 generalize i5 (fW P B h)=rs at nd mem
 match rs,nd,mem with
 |[],_,mem=>exact absurd ((mem (ix B h)).mpr rfl) bq9
 |[a],_,mem=>rw[(mem a).mp bm8]
 |a::c::_,nd,mem=>
  have e1:=(mem a).mp bm8
  have e2:=(mem c).mp (bn5 _ bm8)
  exact absurd (e1.trans e2.symm) λe=>(bs4.mp nd).1 (e▸bm8)
end
section
variable {ws ps:af}{ls:aa}{P:bO}{L:cB}{h:Int}{B:af}
def iK (ws:af)(B:af)(h d:Int):af:=B.map λx=>if x=h then max 0 (ws.getD x.toNat 0-d) else ws.getD x.toNat 0
def jL (ps:af)(B:af):af:=B.map λx=>ps.getD x.toNat 0
theorem A7 {α:Type}{x:Int}(f:Int->α)(d:α)(hx:x∈B):(B.map f).getD (ix B x).toNat d=f x:=by
 rw[bo1,bn4]
 have:(ix B x).toNat=B.idxOf x:=by unfold ix;omega
 rw[this,oI hx];rfl
theorem bf4 (lk:e6 ws.length ls)(R:Rt0 ws.length ls P)(nn:NN ws)(pp:∀k,0<=ps.getD k 0)(k:mU ws ps ls P L)(b:oH ws.length P h B){d:Int}(hd:d=0∨d=1) :
  (∀S,aZ B.length S=true->dG (iK ws B h d) (cC ls B) S=true->(if d=0 then (aD L h).2 else (aD L h).1)<=(S.map λs=>(jL ps B).getD s.toNat 0).sum)/\
  ∃S,aZ B.length S=true/\dG (iK ws B h d) (cC ls B) S=true/\(S.map λs=>(jL ps B).getD s.toNat 0).sum=(if d=0 then (aD L h).2 else (aD L h).1):=by
 have wl:(iK ws B h d).length=B.length:=bm7 _
 have R':=ak4 R b
 have lk':=ak2 lk b.up
 obtain⟨e,he⟩:=R.pair (b.inn h b.top)
 have w0:0<=ws.getD h.toNat 0:=jH nn _
 let top:Int×Int:=gL (max 0 (ws.getD h.toNat 0-d)) (ps.getD h.toNat 0) ((aF ls h e).map (aD L))
 let L':cB:=B.map λx=>if x=h then top else aD L x
 have val:∀x∈B,aD L' (ix B x)=if x=h then top else aD L x:=λx hx=>A7 (λx=>if x=h then top else aD L x) (0,0) hx
 have nn':NN (iK ws B h d):=λz hz=>by
  obtain⟨x,_,rfl⟩:=bn6.mp hz
  have:=jH nn x.toNat
  split<;>omega
 have pp':∀j,0<=(jL ps B).getD j 0:=λj=>by
  rw[bo1]
  unfold jL
  rw[bn4]
  cases B[j]? with
  |none=>exact bs6 _
  |some x=>exact pp _
 have k':mU (iK ws B h d) (jL ps B) (cC ls B) (fW P B h) L':=by
  refine⟨by rw[wl];exact bm7 _,λhx ex hm=>?_⟩
  obtain⟨p,hp,hb,ep⟩:=lK.mp hm
  obtain⟨x,q⟩:=p
  have e1:hx=ix B x:=(bz1 ep).1
  have kp:=bf2 R b hp hb
  rw[<- ep]at kp
  unfold jJ
  rw[kp,br0]
  have km:(aF ls x q).map (aD L' ∘ ix B)=(aF ls x q).map (aD L):=bt8 λc hc=>by
   obtain⟨c1,c2⟩:=fR.mp hc
   have cp:(c,some x)∈P:=(R.done x q hp c c1).resolve_left λz=>c2 z.symm
   have cb:=b.dn c x cp hb
   have ch:c≠h:=λz=>b.no x (z▸cp) hb
   show aD L' (ix B c)=aD L c
   rw[val c cb,if_neg ch]
  show aD L' hx=gL ((iK ws B h d).getD hx.toNat 0) ((jL ps B).getD hx.toNat 0) ((aF ls x q).map (aD L' ∘ ix B))
  rw[km,e1,val x hb]
  unfold iK jL
  rw[A7 (λx=>if x=h then max 0 (ws.getD x.toNat 0-d) else ws.getD x.toNat 0) 0 hb,A7 (λx=>ps.getD x.toNat 0) 0 hb]
  by_cases xh:x=h
  ·subst xh
   rw[if_pos rfl,if_pos rfl]
   have eq:e=q:=by
    obtain⟨i,hi,ei⟩:=bq5 he
    obtain⟨j,hj,ej⟩:=bq5 hp
    exact (dH R.nd (show P[i]? = some (x,e) by rw[bm6 hi,ei]) (show P[j]? = some (x,q) by rw[bm6 hj,ej])).2
   show gL (max 0 (ws.getD x.toNat 0-d)) (ps.getD x.toNat 0) ((aF ls x e).map (aD L))=_
   rw[eq]
  ·rw[if_neg xh,if_neg xh]
   exact k.2 x q hp
 have R'':Rt0 (iK ws B h d).length (cC ls B) (fW P B h):=by rw[wl];exact R'
 have main:=be9 R'' lk'.fit nn' pp' k'
 rw[bf3 R b,wl]at main
 have ev:(([ix B h]).map λr=>(aD L' r).2).sum=if d=0 then (aD L h).2 else (aD L h).1:=by
  show (aD L' (ix B h)).2+0=_
  rw[val h b.top,if_pos rfl,Int.add_zero]
  have at_:=k.2 h e he
  unfold jJ at at_
  show (gL (max 0 (ws.getD h.toNat 0-d)) (ps.getD h.toNat 0) ((aF ls h e).map (aD L))).2=_
  rw[at_]
  unfold gL
  rcases hd with rfl|rfl
  ·rw[if_pos rfl]
   show eL _ _ _=eL _ _ _
   rw[Int.sub_zero,Int.max_eq_right w0]
  ·rw[if_neg (by decide)]
 rw[ev]at main
 exact main
end
end Core
namespace PP
open PySem L2 PyProof.Rows
section
variable {X:Cx}{a b e:Expr}{ta tb te:aH}{pos p2:Pos}
def v3:PV->Tg->PV->Tg->PK->Prop:=λx g y g' Q=>j9 false x g y g' Q∨ab8 false x g y g' Q
theorem bf5:eV X v3 (oW X.K false):=by
 rintro W Hs H u v x y g g' Q Q' s n r1 r2 h k
 rcases h with h|h
 ·exact sZ false W Hs H u v x y g g' Q Q' s n r1 r2 h k
 ·exact aS6 false W Hs H u v x y g g' Q Q' s n r1 r2 h k
theorem bf6 (ha:QE X a ta)(hb:QE X b tb)(hm:behindInMarks .In b=false:=by rfl):QT X (.Compare a [.In] [b] pos) (bH (q2 v3 ta tb)):=jD vX bf5 ha hb hm
end
end PP
namespace Core
open PySem L2 PP
def oJ (G:af):Option Int->Bool
 |none=>false
 |some g=>decide (g∈G)
theorem bf7 {G:af}{o:Option Int}{g g':Tg}{Q:PK}{y:PV}(hy:j7 y=some (intz G))(q:Q (.bl (oJ G o)) .fr):v3 (gG o) g y g' Q:=by
 cases o with
 |none=>exact .inr ⟨G,rfl,hy,q⟩
 |some i=>exact .inl ⟨i,G,rfl,hy,q⟩
section
variable {n:Nat}{ls:aa}{els:List (Option Int)}{O:af}{h:Int}
theorem A8 (E:oF n ls els O){j:Nat}{x g:Int}(hj:O[j]? = some x)(e:bW els x=some g):g∈O.take j:=by
 have gj:(fG O els)[j]? = some (x,some g):=by unfold fG;rw[bn4,hj];show some (x,bW els x)=_;rw[e]
 obtain⟨k,q,lt,gk,_⟩:=E.rt.par j x g gj
 unfold fG at gk
 rw[bn4]at gk
 cases ek:O[k]? with
 |none=>rw[ek]at gk;cases gk
 |some y=>
  rw[ek]at gk
  have:y=g:=(bz1 (bo9 gk)).1
  subst this
  exact bm3 (i:=k) (by rw[bz6 lt];exact ek)
theorem A9 (E:oF n ls els O):O.Nodup:=by
 have:=E.rt.nd
 unfold fG at this
 rw[br0]at this
 exact (show O.map (λx=>x)=O from List.map_id _)▸this
structure mV (els:List (Option Int))(O:af)(h:Int)(i:Nat)(G:af):Prop where
 nd:G.Nodup
 sub:∀x∈G,x∈O.take i
 iff:∀x∈O.take i,x∈G↔(x=h∨∃g,bW els x=some g/\g∈G)
theorem mV.step (E:oF n ls els O){i:Nat}{G:af}{x:Int}(I:mV els O h i G)(hx:O[i]? = some x):mV els O h (i+1) (if (decide (x=h)||oJ G (bW els x))=true then G++[x] else G):=by
 have nx:x∉O.take i:=aY9 (A9 E) hx
 have tk:O.take (i+1)=O.take i++[x]:=by rw[br1,hx];rfl
 have xg:x∉G:=λz=>nx (I.sub x z)
 have c:(decide (x=h)||oJ G (bW els x))=true↔(x=h∨∃g,bW els x=some g/\g∈G):=by
  rw[Bool.or_eq_true,bq1]
  refine or_congr Iff.rfl ?_
  cases bW els x with
  |none=>exact⟨(λz=>by cases z),λ⟨g,e,_⟩=>by cases e⟩
  |some g=>exact⟨λz=>⟨g,rfl,bq3 z⟩,λ⟨g',e,z⟩=>by cases e;exact bm4 z⟩
 have bef:∀y∈O.take i,∀g,bW els y=some g->g≠x:=λy hy g e z=>by
  obtain⟨j,hj,ej⟩:=bq5 hy
  rw[bt0]at hj
  have oj:O[j]? = some y:=by rw[<- ej,List.getElem_take,bm6 (by omega)]
  have:=A8 E oj e
  rw[z]at this
  exact nx (by
   have s:O.take j=(O.take i).take j:=by rw[List.take_take,Nat.min_eq_left (by omega)]
   rw[s]at this
   exact bv8 this)
 by_cases cc:(decide (x=h)||oJ G (bW els x))=true
 ·rw[if_pos cc]
  refine⟨bv1.mpr ⟨I.nd,bs4.mpr ⟨(λz=>by cases z),List.nodup_nil⟩,λa ha b hb e=>xg (by rw[<- bm2.mp hb,<- e];exact ha)⟩,λy hy=>?_,λy hy=>?_⟩
  ·rw[tk]
   rcases bn0.mp hy with z|z
   ·exact bo3 _ (I.sub y z)
   ·exact bo8 _ z
  ·rw[tk]at hy
   rcases bn0.mp hy with z|z
   ·have yx:y≠x:=λw=>nx (w▸z)
    have m:∀w,w≠x->(w∈G++[x]↔w∈G):=λw hw=>⟨λq=>(bn0.mp q).resolve_right λq=>hw (bm2.mp q),bo3 _⟩
    rw[m y yx,I.iff y z]
    refine or_congr Iff.rfl ⟨λ⟨g,e,q⟩=>⟨g,e,bo3 _ q⟩,λ⟨g,e,q⟩=>⟨g,e,(m g (bef y z g e)).mp q⟩⟩
   ·rw[bm2.mp z]
    refine⟨λ_=>?_,λ_=>bo8 _ (bm2.mpr rfl)⟩
    rcases c.mp cc with q|⟨g,e,q⟩
    ·exact .inl q
    ·exact .inr ⟨g,e,bo3 _ q⟩
 ·rw[if_neg cc]
  refine⟨I.nd,λy hy=>by rw[tk];exact bo3 _ (I.sub y hy),λy hy=>?_⟩
  rw[tk]at hy
  rcases bn0.mp hy with z|z
  ·exact I.iff y z
  ·rw[bm2.mp z]
   exact⟨λq=>absurd q xg,λq=>absurd (c.mpr q) cc⟩
theorem mV.bgh (E:oF n ls els O)(hh:h∈O){G B:af}(I:mV els O h O.length G)(pm:B.Perm G)(so:B.Pairwise (· <= ·)):oH n (fG O els) h B:=by
 have sub:∀x∈G,x∈O:=λx hx=>by have:=I.sub x hx;rwa [br4]at this
 have iff_:∀x∈O,x∈G↔(x=h∨∃g,bW els x=some g/\g∈G):=λx hx=>I.iff x (by rw[br4];exact hx)
 have mem:∀x q,(x,q)∈fG O els↔x∈O/\q=bW els x:=λx q=>by
  unfold fG
  rw[bn6]
  exact⟨λ⟨y,hy,e⟩=>by cases e;exact⟨hy,rfl⟩,λ⟨hx,e⟩=>⟨x,hx,by rw[e]⟩⟩
 have inO:∀x∈O,x∈rng n:=λx hx=>E.rt.inr ((mem x _).mpr ⟨hx,rfl⟩)
 refine⟨?_,pm.mem_iff.mpr ((iff_ h hh).mpr (.inl rfl)),λx hx=>inO x (sub x (pm.mem_iff.mp hx)),λx g hp hg=>?_,λx hx xh=>?_,λg hp hg=>?_⟩
 ·refine (List.pairwise_and_iff.mpr ⟨so,pm.nodup_iff.mpr I.nd⟩).imp λ{a b} z=>?_
  have z1:=z.1
  have z2:a≠b:=z.2
  omega
 ·obtain⟨xo,e⟩:=(mem x _).mp hp
  exact pm.mem_iff.mpr ((iff_ x xo).mpr (.inr ⟨g,e.symm,pm.mem_iff.mp hg⟩))
 ·have xg:=pm.mem_iff.mp hx
  rcases (iff_ x (sub x xg)).mp xg with z|⟨g,e,q⟩
  ·exact absurd z xh
  ·exact⟨g,pm.mem_iff.mpr q,(mem x _).mpr ⟨sub x xg,e.symm⟩⟩
 ·have hg:=pm.mem_iff.mp hg
  obtain⟨_,e⟩:=(mem h _).mp hp
  have ndO:=A9 E
  have key:∀(k:Nat) (x:Int),O[k]? = some x->x∈G->O.idxOf h<=k:=by
   intro k
   induction k using Nat.strongRecOn with
   |ind k ih=>
    intro x hk xg
    rcases (iff_ x (sub x xg)).mp xg with z|⟨g',e',q'⟩
    ·subst z
     have hx:=bm3 hk
     have:=(List.getElem?_inj (List.idxOf_lt_length_iff.mpr hx) ndO).mp ((oI hx).trans hk.symm)
     omega
    ·obtain⟨j,hj,ej⟩:=bq5 (A8 E hk e')
     rw[bt0]at hj
     have oj:O[j]? = some g':=by rw[<- ej,List.getElem_take,bm6 (by omega)]
     have:=ih j (by omega) g' oj q'
     omega
  have hp0:=oI hh
  obtain⟨j,hj,ej⟩:=bq5 (A8 E hp0 e.symm)
  rw[bt0]at hj
  have oj:O[j]? = some g:=by rw[<- ej,List.getElem_take,bm6 (by omega)]
  have:=key j g oj hg
  omega
end
def v4:bI:=λxs Q=>∃(n:Nat) (ls:aa) (els:List (Option Int)) (O:af) (h:Int),xs = [.lst (cI els),.lst (intz O),.int h]/\n<=40/\oF n ls els O/\h∈O/\∀B,oH n (fG O els) h B->B.length<=40->Q (.lst (intz B))
def ak5:aT:=(aE (dS 3 (eW a9))
 (aE (dU (cO (a5 1)) (bQ 4)
  (dB (sB (bH (kG (a5 4) (a5 2))) (bH (q2 v3 (bD (a5 0) (a5 4)) (a5 3)))) (gT 3 (a5 4)) dA))
 (bV (aB sH (a7 (a5 3) a9)))))
theorem bf8:c6 ak5 ["elders","order","hearth","bough","other"] v4:=by
 rintro xs Q ⟨n,ls,els,O,h,rfl,n40,E,hh,q⟩
 have inO:∀x∈O,x∈rng n:=λx hx=>E.rt.inr (show (x,bW els x)∈fG O els from bn6.mpr ⟨x,hx,rfl⟩)
 have ol:O.length<=n:=by
  have:=qU (A9 E) inO
  rwa [cF]at this
 refine⟨by show 0<=1000;decide,rfl,rfl,rfl,?_⟩
 refine⟨_,rfl,_,rfl,qQ,λi ρ=>∃G y,mV els O h i G/\ρ = [some (.sh (flat (.lst (cI els))) (.lst (cI els))),some (.sh (flat (.lst (intz O))) (.lst (intz O))),some (.sh (flat (.int h)) (.int h)),some (.own (.lst (intz G))),y],⟨[],none,⟨List.nodup_nil,(λ_ z=>by cases z),λx hx=>by rw[List.take_zero]at hx;cases hx⟩,rfl⟩,?_,?_⟩
 ·rintro i y ρ hy ⟨G,y0,I,rfl⟩
  obtain⟨x,rfl,hx⟩:=fP hy
  have xr:=bM.mp (inO x (bm3 hx))
  have gl:G.length<=40:=by
   have:=qU I.nd λx hx=>bv8 (I.sub x hx)
   omega
  have st:=I.step E hx
  refine gX ?_
  refine⟨_,rfl,_,rfl,.inl ⟨_,_,rfl,rfl,_,rfl,?_⟩⟩
  show if decide (x=h)=true then _ else _
  have yes:(decide (x=h)||oJ G (bW els x))=true->gT 3 (a5 4) { nx:=λρ=>∃G y,mV els O h (i+1) G/\ρ = [some (.sh (flat (.lst (cI els))) (.lst (cI els))),some (.sh (flat (.lst (intz O))) (.lst (intz O))),some (.sh (flat (.int h)) (.int h)),some (.own (.lst (intz G))),y],rt:=Q } [some (.sh (flat (.lst (cI els))) (.lst (cI els))),some (.sh (flat (.lst (intz O))) (.lst (intz O))),some (.sh (flat (.int h)) (.int h)),some (.own (.lst (intz G))),si x]:=λc=>by
   rw[if_pos c]at st
   exact⟨_,rfl,_,rfl,qF _ _,by rw[bA];omega,G++[x],si x,st,by rw[fE];rfl⟩
  by_cases e:x=h
  ·rw[bm4 e]
   exact bJ (bJ (yes (by rw[bm4 e];rfl)))
  ·rw[bm9 e]
   refine bG ⟨_,rfl,_,rfl,_,_,_,rfl,rfl,bd5 xr.1 (by rw[E.len];exact xr.2),_,rfl,bf7 rfl ⟨_,rfl,?_⟩⟩
   cases c:oJ G (bW els x) with
   |true=>exact bJ (yes (by rw[c,Bool.or_true]))
   |false=>
    rw[if_neg (by rw[bm9 e,c];decide)]at st
    exact bG ⟨G,si x,st,rfl⟩
 ·rintro ρ ⟨G,y,I,rfl⟩
  rw[bA]at I
  have gl:G.length<=40:=by
   have:=qU I.nd λx hx=>bv8 (I.sub x hx)
   omega
  refine⟨_,rfl,G,rfl,by omega,λB pm so=>⟨trivial,q B (I.bgh E hh pm so) (by rw[pm.length_eq];exact gl)⟩⟩
def v5:bI:=λxs Q=>∃(ws:af) (ls:aa) (B:af) (h d:Int),xs = [b9 ws ls,.lst (intz B),.int h,.int d]/\Wb ws ls/\(∀x∈B,x∈rng ws.length)/\B.length<=40/\Q (b9 (iK ws B h d) (cC ls B))
def ak6:aT:=(aE (dS 4 (eW a9))
 (aE (dU (cO (a5 1)) (bQ 5)
  (aE (b8 6 (bD (bD (a5 0) (qC (.int 0))) (a5 5)))
  (aE (dB (bH (kG (a5 5) (a5 2))) (b8 6 (aB m6 (a7 (qC (.int 0)) (a7 (kF (a5 6) (a5 3)) a9)))) dA)
  (gT 4 (a5 6)))))
 (aE (b8 7 (cT (cO (bD (a5 0) (qC (.int 1)))) [none,none,some 1] (gV 0 1) (nI (bH (q2 (j9 false) (a5 0) (a5 2))) (bH (q2 (j9 false) (a5 1) (a5 2)))) (gR (a7 (uJ (a5 2) (a5 0)) (a7 (uJ (a5 2) (a5 1)) a9)))))
 (bV (gR (a7 (aB jB (a7 (a5 4) a9)) (a7 (aB jB (a7 (a5 7) a9)) a9)))))))
theorem bf9 {ls:aa}{B:af}{i:Nat}{l:Int×Int}(hl:ls[i]? = some l):cC (ls.take (i+1)) B=cC (ls.take i) B++(if (decide (l.1∈B)&&decide (l.2∈B))=true then [(ix B l.1,ix B l.2)] else []):=by
 unfold cC
 rw[qE (p:=λl:Int×Int=>decide (l.1∈B)&&decide (l.2∈B)) hl,bp5]
 cases decide (l.1∈B)&&decide (l.2∈B)<;>rfl
theorem bg0:c6 ak6 ["web","bough","hearth","less","wants","other","want","links"] v5:=by
 rintro xs Q ⟨ws,ls,B,h,d,rfl,wb,inn,bl,q⟩
 let f:Int->Int:=λx=>if x=h then max 0 (ws.getD x.toNat 0-d) else ws.getD x.toNat 0
 refine⟨by show 0<=1000;decide,rfl,rfl,rfl,?_⟩
 refine⟨_,rfl,_,rfl,qQ,λi ρ=>∃y5 y6,ρ = [some (.sh (flat (b9 ws ls)) (b9 ws ls)),some (.sh (flat (.lst (intz B))) (.lst (intz B))),si h,si d,some (.own (.lst (intz ((B.take i).map f)))),y5,y6,none],⟨none,none,rfl⟩,?_,?_⟩
 ·rintro i y ρ hy ⟨y5,y6,rfl⟩
  obtain⟨x,rfl,hx⟩:=fP hy
  have xr:=bM.mp (inn x (bm3 hx))
  refine gX ?_
  refine⟨_,rfl,_,_,_,rfl,rfl,rfl,_,rfl,_,_,_,rfl,rfl,qT xr.1 xr.2,aR6 _ _,?_⟩
  have app:∀g,gT 4 (a5 6) { nx:=λρ=>∃y5 y6,ρ = [some (.sh (flat (b9 ws ls)) (b9 ws ls)),some (.sh (flat (.lst (intz B))) (.lst (intz B))),si h,si d,some (.own (.lst (intz ((B.take (i+1)).map f)))),y5,y6,none],rt:=Q } [some (.sh (flat (b9 ws ls)) (b9 ws ls)),some (.sh (flat (.lst (intz B))) (.lst (intz B))),si h,si d,some (.own (.lst (intz ((B.take i).map f)))),si x,some (.sh g (.int (f x))),none]:=λg=>by
   refine⟨_,rfl,_,rfl,qF _ _,?_,si x,some (.sh g (.int (f x))),?_⟩
   ·rw[bA,bm7,bt0];omega
   ·rw[lE hx,fE];rfl
  refine⟨_,rfl,_,rfl,.inl ⟨_,_,rfl,rfl,_,rfl,?_⟩⟩
  show if decide (x=h)=true then _ else _
  by_cases e:x=h
  ·rw[bm4 e]
   refine bJ ⟨_,rfl,_,rfl,_,_,rfl,rfl,_,_,rfl,trivial,?_⟩
   have ev:(if ws.getD x.toNat 0-d>0 then ws.getD x.toNat 0-d else 0)=f x:=by
    show _=if x=h then max 0 (ws.getD x.toNat 0-d) else _
    rw[if_pos e]
    split<;>omega
   rw[ev]
   exact app true
  ·rw[bm9 e]
   have ev:ws.getD x.toNat 0=f x:=by show _=if x=h then _ else ws.getD x.toNat 0;rw[if_neg e]
   rw[ev]
   exact bG (app _)
 ·rintro ρ ⟨y5,y6,rfl⟩
  rw[bA,br4]
  refine⟨_,rfl,_,_,_,rfl,rfl,rfl,_,rfl,qQ,by rw[bm7];exact bs0 wb.most (by decide),λj acc=>acc=b7 (cC (ls.take j) B),rfl,?_,?_⟩
  ·rintro j y acc hy rfl
   obtain⟨l,rfl,hl⟩:=aY2 hy
   have tk:=bf9 (B:=B) hl
   refine zR ?_
   refine⟨_,rfl,_,rfl,l.1,B,rfl,rfl,_,rfl,?_⟩
   show if decide (l.1∈B)=true then _ else _
   by_cases h1:l.1∈B
   ·rw[bm4 h1]at tk ⊢
    refine bJ ⟨_,rfl,_,rfl,l.2,B,rfl,rfl,_,rfl,?_⟩
    show if decide (l.2∈B)=true then _ else _
    by_cases h2:l.2∈B
    ·rw[bm4 h2]at tk ⊢
     refine bJ ⟨_,rfl,B,rfl,_,rfl,l.1,rfl,h1,by omega,_,rfl,B,rfl,_,rfl,l.2,rfl,h2,by omega,by show 2<=1000;decide,rfl,trivial,?_⟩
     show _=_
     rw[tk,if_pos (show (true&&true)=true from rfl),<- aZ2];rfl
    ·rw[bm9 h2]at tk ⊢
     refine bG ?_
     show _=_
     rw[tk,if_neg (by decide),bs1]
   ·rw[bm9 h1]at tk ⊢
    refine bG (bG ?_)
    show _=_
    rw[tk,if_neg (by simp),bs1]
  ·rintro acc rfl
   rw[bm7,br4]
   refine⟨trivial,?_⟩
   refine⟨_,rfl,⟨⟨_,_,rfl,rfl,eD _,_,rfl,⟨⟨_,_,rfl,rfl,mJ _,by show 2<=1000;decide,?_,trivial,q⟩,λns z=>by cases z⟩⟩,λns z=>by cases z⟩⟩
   show (flats (intz (B.map f))&&(flats (b7 (cC ls B))&&true))=true
   rw[eD,show flats (b7 (cC ls B))=true from mJ _];rfl
abbrev iL (ps S:af):Int:=(S.map λs=>ps.getD s.toNat 0).sum
def v6:bI:=λxs Q=>∃(ws:af) (ls:aa) (ps:af) (v:Int),xs = [b9 ws ls,.lst (intz ps)]/\Wb ws ls/\ws.length<=12/\ps.length=ws.length/\(∀S,aZ ws.length S=true->dG ws ls S=true->v<=iL ps S)/\(∃S,aZ ws.length S=true/\dG ws ls S=true/\iL ps S=v)/\Q (.int v)
def ak7:aT:=(aE (b8 2 (qC .non))
 (aE (dU (cO (aB uI (a7 (aB dM (a7 (bD (a5 0) (qC (.int 0))) a9)) a9))) (bQ 3)
  (aE (b8 4 (aB o7 (a7 (cT (cO (a5 3)) [none,some 1] (bQ 0) cV (bD (a5 1) (a5 0))) a9)))
  (dB (nI (sB (bH (aH6 (a5 2) (qC .non))) (bH (mB (a5 4) (a5 2)))) (bH (aB qN (a7 (a5 0) (a7 (a5 3) a9))))) (b8 2 (a5 4)) dA)))
 (j6 2)))
theorem bg1 {n:Nat}{S:af}:aZ n S=true↔S.Sublist (rng n):=by
 constructor
 ·intro h
  obtain⟨h1,h2⟩:=eN h
  have:S=(rng n).filter λx=>decide (x∈S):=ac7 (gE h1) ((u0 n).filter _) λx=>by
   rw[bn3,bq1]
   exact⟨λz=>⟨bM.mpr (h2 x z),z⟩,λz=>z.2⟩
  rw[this]
  exact List.filter_sublist
 ·intro h
  exact aV5 ((u0 n).sublist h) λx hx=>bM.mp (h.subset hx)
structure B0 (ws:af)(ls:aa)(ps:af)(Z:ae)(b:Option Int):Prop where
 le:∀S∈Z,dG ws ls S=true->∃m,b=some m/\m<=iL ps S
 at_:∀m,b=some m->∃S∈Z,dG ws ls S=true/\iL ps S=m
theorem bg2:c6 ak7 ["web","prices","best","some","price"] v6:=by
 rintro xs Q ⟨ws,ls,ps,v,rfl,wb,n12,pl,lo,⟨S0,z1,z2,z3⟩,q⟩
 refine⟨trivial,?_⟩
 refine⟨_,rfl,_,_,_,rfl,rfl,rfl,_,_,rfl,rfl,ws.length,by rw[bA];rfl,n12,λZ pz so=>⟨_,rfl,(λz=>by cases z),?_⟩⟩
 have mem:∀S,S∈Z↔aZ ws.length S=true:=λS=>by rw[pz.mem_iff,ac6,bg1]
 refine⟨λi ρ=>∃b y3 y4,B0 ws ls ps (Z.take i) b/\ρ = [some (.sh (flat (b9 ws ls)) (b9 ws ls)),some (.sh (flat (.lst (intz ps))) (.lst (intz ps))),some (.sh true (gG b)),y3,y4],⟨none,none,none,⟨(λS h=>by rw[List.take_zero]at h;cases h),λm e=>by cases e⟩,rfl⟩,?_,?_⟩
 ·rintro i y ρ hy ⟨b,y3,y4,I,rfl⟩
  obtain⟨S,rfl,hS⟩:=Z4 hy
  have sS:=(mem S).mp (bm3 hS)
  have sl:=o4 sS
  have zN:∀x∈S,0<=x/\x<(ws.length:Int):=(eN sS).2
  have tk:Z.take (i+1)=Z.take i++[S]:=by rw[br1,hS];rfl
  refine aZ1 (Y6 S) ?_
  refine⟨_,rfl,_,rfl,qQ,by rw[bA];omega,λj acc=>acc=intz ((S.take j).map λs=>ps.getD s.toNat 0),rfl,?_,?_⟩
  ·rintro j y acc hy rfl
   obtain⟨x,rfl,hx⟩:=fP hy
   have xr:=zN x (bm3 hx)
   refine⟨_,rfl,_,rfl,_,_,_,rfl,rfl,qT xr.1 (by rw[pl];exact xr.2),qF _ _,?_⟩
   show _=_
   rw[lE hx,fE];rfl
  ·rintro acc rfl
   rw[bA,br4]
   refine⟨_,_,rfl,rfl,trivial,?_⟩
   have keep:(∀m,dG ws ls S=true->b=some m->m<=iL ps S)->(dG ws ls S=true->∃m,b=some m)->∃b' y3 y4,B0 ws ls ps (Z.take (i+1)) b'/\[some (Slot.sh (flat (b9 ws ls)) (b9 ws ls)),some (.sh (flat (.lst (intz ps))) (.lst (intz ps))),some (.sh true (gG b)),some (.sh true (.tup (intz S))),si (iL ps S)] = [some (Slot.sh (flat (b9 ws ls)) (b9 ws ls)),some (.sh (flat (.lst (intz ps))) (.lst (intz ps))),some (.sh true (gG b')),y3,y4]:=λh1 h2=>by
    refine⟨b,_,_,⟨λT hT fT=>?_,λm e=>?_⟩,rfl⟩
    ·rw[tk]at hT
     rcases bn0.mp hT with z|z
     ·exact I.le T z fT
     ·rw[bm2.mp z]at fT ⊢
      obtain⟨m,e⟩:=h2 fT
      exact⟨m,e,h1 m fT e⟩
    ·obtain⟨T,hT,r⟩:=I.at_ m e
     exact⟨T,by rw[tk];exact bo3 _ hT,r⟩
   have take:dG ws ls S=true->(∀m,b=some m->iL ps S<=m)->∃b' y3 y4,B0 ws ls ps (Z.take (i+1)) b'/\[some (Slot.sh (flat (b9 ws ls)) (b9 ws ls)),some (.sh (flat (.lst (intz ps))) (.lst (intz ps))),some (.sh true (.int (iL ps S))),some (.sh true (.tup (intz S))),si (iL ps S)] = [some (Slot.sh (flat (b9 ws ls)) (b9 ws ls)),some (.sh (flat (.lst (intz ps))) (.lst (intz ps))),some (.sh true (gG b')),y3,y4]:=λfS h1=>by
    refine⟨some (iL ps S),_,_,⟨λT hT fT=>?_,λm e=>?_⟩,rfl⟩
    ·rw[tk]at hT
     rcases bn0.mp hT with z|z
     ·obtain⟨m,e,le⟩:=I.le T z fT
      have:=h1 m e
      exact⟨_,rfl,by omega⟩
     ·rw[bm2.mp z]
      exact⟨_,rfl,bs6 _⟩
    ·cases e
     exact⟨S,by rw[tk];exact bo8 _ (bm2.mpr rfl),fS,rfl⟩
   have look:∀K:Bool->Prop,(dG ws ls S=true->K true)->(dG ws ls S=false->K false)->bH (aB qN (a7 (a5 0) (a7 (a5 3) a9))) [some (.sh (flat (b9 ws ls)) (b9 ws ls)),some (.sh (flat (.lst (intz ps))) (.lst (intz ps))),some (.sh true (gG b)),some (.sh true (.tup (intz S))),si (iL ps S)] K:=λK k1 k2=>by
    refine⟨_,rfl,_,rfl,ws,ls,_,S,rfl,wb,.inl rfl,λx hx=>bM.mpr (zN x hx),_,rfl,?_⟩
    cases fS:dG ws ls S with
    |true=>exact k1 fS
    |false=>exact k2 fS
   refine⟨_,rfl,rfl,_,rfl,?_⟩
   show if sI (gG b)=true then _ else _
   cases hb:b with
   |none=>
    rw[hb]at look take keep
    exact bJ (bJ (look _ (λfS=>bJ ⟨_,rfl,trivial,take fS λm e=>by cases e⟩) λfS=>bG (keep (λm z=>by rw[fS]at z;cases z) λz=>by rw[fS]at z;cases z)))
   |some m=>
    rw[hb]at look take keep
    refine bG ⟨_,rfl,_,rfl,_,_,rfl,rfl,_,rfl,?_⟩
    by_cases lt:iL ps S<m
    ·rw[bm4 lt]
     exact bJ (look _ (λfS=>bJ ⟨_,rfl,trivial,take fS λm' e=>by cases e;omega⟩) λfS=>bG (keep (λm z=>by rw[fS]at z;cases z) λz=>by rw[fS]at z;cases z))
    ·rw[bm9 lt]
     exact bG (bG (keep (λm' _ e=>by cases e;omega) λ_=>⟨m,rfl⟩))
 ·rintro ρ ⟨b,y3,y4,I,rfl⟩
  rw[kQ,br4]at I
  obtain⟨m,e,le⟩:=I.le S0 ((mem S0).mpr z1) z2
  obtain⟨T,hT,fT,eT⟩:=I.at_ m e
  have:=lo T ((mem T).mp hT) fT
  have ev:m=v:=by omega
  subst e ev
  exact⟨_,rfl,trivial,q⟩
def B1:bI:=aa4
def ak8:aT:=(aE (b8 1 (aB uT (a7 (a5 0) (a7 (qC (.int 7)) a9))))
 (aE (b8 2 (aB uK (a7 (a5 0) (a7 (aB dM (a7 (bD (a5 1) (qC (.int 0))) a9)) a9))))
 (aE (yY (gV 3 4) (aB uX (a7 (a5 1) a9)))
 (aE (b8 5 (aB uW (a7 (a5 1) (a7 (a5 2) a9))))
 (aE (dU (cO (a5 4)) (bQ 6)
  (aE (b8 7 (aB v4 (a7 (a5 3) (a7 (a5 4) (a7 (a5 6) a9)))))
  (aE (b8 8 (cT (cO (a5 7)) [none,some 2] (bQ 0) cV (bD (a5 1) (a5 0))))
  (dU (cO (eW (a7 (qC (.int 0)) (a7 (qC (.int 1)) a9)))) (bQ 9)
   (dB (bH (T0 (bD (bD (a5 5) (a5 6)) (kF (qC (.int 1)) (a5 9))) (aB v6 (a7 (aB v5 (a7 (a5 1) (a7 (a5 7) (a7 (a5 6) (a7 (a5 9) a9))))) (a7 (a5 8) a9))))) (bV (qC (.bl false))) dA)))))
 (bV (qC (.bl true))))))))
theorem bg3:c6 ak8 ["script","web","prices","elders","order","ledger","hearth","bough","mine","less"] B1:=by
 rintro xs Q ⟨ns,rfl,hl,q⟩
 refine⟨_,rfl,ns,7,rfl,hl,by decide,by decide,λn ws ls n1 w lk wd=>⟨trivial,?_⟩⟩
 have wl:=w.many
 have wb:Wb ws ls:=w.wb (by omega)
 have en:ws.length=n:=by omega
 subst en
 have nn:NN ws:=w.pos
 refine⟨_,rfl,_,rfl,_,_,_,rfl,rfl,rfl,_,_,rfl,rfl,ns,ws.length,by rw[bA];rfl,hl,by omega,λps gp=>⟨trivial,?_⟩⟩
 have pp:∀k,0<=ps.getD k 0:=jH gp.2
 refine⟨_,rfl,ws,ls,rfl,wb,lk,wd,λels O E=>⟨trivial,_,_,rfl,?_⟩⟩
 refine⟨_,rfl,_,rfl,ws,ls,_,ps,rfl,wb,lk,wd,nn,.inr rfl,gp,λP L R k=>⟨trivial,?_⟩⟩
 have k2:mU ws ps ls (fG O els) L:=⟨k.1,λh e he=>k.2 h e ((bc7 R E.rt).mpr he)⟩
 have inO:∀x∈O,x∈rng ws.length:=λx hx=>E.rt.inr (show (x,bW els x)∈fG O els from bn6.mpr ⟨x,hx,rfl⟩)
 refine⟨_,rfl,_,rfl,qQ,λi ρ=>∃y6 y7 y8 y9 g3 g4,ρ = [some (.sh true (.scr ns)),some (.sh true (b9 ws ls)),some (.sh true (.lst (intz ps))),some (.sh g3 (.lst (cI els))),some (.sh g4 (.lst (intz O))),some (.sh true (.tup (b7 L))),y6,y7,y8,y9],⟨none,none,none,none,_,_,rfl⟩,?_,?_⟩
 ·rintro i y ρ hy ⟨y6,y7,y8,y9,g3,g4,rfl⟩
  obtain⟨h,rfl,hh⟩:=fP hy
  have hO:=bm3 hh
  have hr:=bM.mp (inO h hO)
  refine gX ?_
  refine⟨_,rfl,_,rfl,_,rfl,ws.length,ls,els,O,h,rfl,by omega,E,hO,λB b bl=>⟨trivial,?_⟩⟩
  refine⟨_,rfl,_,rfl,(λz=>by cases z),by rw[bA];omega,λj acc=>acc=intz ((B.take j).map λx=>ps.getD x.toNat 0),rfl,?_,?_⟩
  ·rintro j y acc hy rfl
   obtain⟨x,rfl,hx⟩:=fP hy
   have xr:=bM.mp (b.inn x (bm3 hx))
   refine⟨_,rfl,_,rfl,_,_,_,rfl,rfl,qT xr.1 (by rw[gp.1];exact xr.2),qF _ _,?_⟩
   show _=_
   rw[lE hx,fE];rfl
  ·rintro acc rfl
   rw[bA,br4]
   refine⟨trivial,?_⟩
   have bn:B.length<=ws.length:=by
    have:=qU (b.up.imp λh=>bw4 h) b.inn
    rwa [cF]at this
   refine⟨by show 2<=1000;decide,rfl,intz [0,1],rfl,(λz=>by cases z),λj ρ=>∃y9,ρ = [some (.sh true (.scr ns)),some (.sh true (b9 ws ls)),some (.sh true (.lst (intz ps))),some (.sh g3 (.lst (cI els))),some (.sh g4 (.lst (intz O))),some (.sh true (.tup (b7 L))),si h,some (.sh true (.lst (intz B))),some (.sh true (.lst (intz (jL ps B)))),y9],⟨y9,rfl⟩,?_,?_⟩
   ·rintro j y ρ hy ⟨y9,rfl⟩
    obtain⟨d,rfl,hd⟩:=fP hy
    have hd01:d=0∨d=1:=by
     have:=bm3 hd
     rcases bn8.mp this with z|z
     ·exact .inl z
     ·exact .inr (bm2.mp z)
    refine gX ?_
    have lkP:=ak2 lk b.up
    have wlen:(iK ws B h d).length=B.length:=bm7 _
    have wbP:Wb (iK ws B h d) (cC ls B):=⟨by rw[wlen];omega,lkP.2.1,λl hl=>by have:=lkP.1 l hl;rw[wlen];omega⟩
    obtain⟨lo,ex⟩:=bf4 (ps:=ps) lk E.rt.toRt0 nn pp k2 b hd01
    have led:L2.atI [PV.int (aD L h).1,.int (aD L h).2] (1-d)=some (.int (if d=0 then (aD L h).2 else (aD L h).1)):=by
     rcases hd01 with rfl|rfl<;>rfl
    refine⟨_,rfl,_,rfl,_,_,_,rfl,rfl,ai3 hr.1 (by rw[k.1];exact hr.2),_,rfl,_,_,rfl,rfl,_,_,_,rfl,rfl,led,_,rfl,_,rfl,_,rfl,_,rfl,ws,ls,B,h,d,rfl,wb,b.inn,bl,_,rfl,iK ws B h d,cC ls B,jL ps B,_,rfl,wbP,by rw[wlen];omega,by rw[wlen];exact bm7 _,by rw[wlen];exact lo,by rw[wlen];exact ex,.inl ⟨_,_,rfl,rfl,_,rfl,?_⟩⟩
    show if (!decide (_=_))=true then _ else _
    rw[bm4 rfl]
    exact bG ⟨si d,rfl⟩
   ·rintro ρ ⟨y9,rfl⟩
    exact⟨si h,some (.sh true (.lst (intz B))),some (.sh true (.lst (intz (jL ps B)))),y9,g3,g4,rfl⟩
 ·rintro ρ ⟨y6,y7,y8,y9,g3,g4,rfl⟩
  exact⟨trivial,q⟩
end Core
namespace K_k54
open PySem PySem.W L2 PP Core
theorem _root_.L2.FnScope.au {N P:List Str}{s:Scope}(a:s.kind=.function:=by rfl)(b:s.isCoroutine=false:=by rfl)(c:s.isGenerator=false:=by rfl)(d:N.Nodup:=by decide +kernel)(e:N.take P.length=P:=by rfl)(f:∀x∈P,s.names.lookup x=some .local∨s.names.lookup x=some .cell:=by decide +kernel)(g:∀y∈s.names,y.2≠.free:=by decide +kernel):FnScope N P s:=⟨a,b,c,d,e,f,g⟩
def top (i:Nat):Stmt:=PySem.Challenge.pw_kindleweb_k54_whole_what_ledgers_mean.main.body.getD i (.Pass ⟨0,0,0,0⟩)
structure FK (K:Frag)(n:Str)(i:Nat)(f:Addr)(d:FuncData):Prop where
 a:nsIn K mainGlobals n=some (some (.ref f))
 F:fJ K n n (top i) f d
structure FM (K:Frag)(mg:Str->Option Value)(n:Str)(i:Nat)(f:Addr)(d:FuncData):Prop where
 F:fJ K n n (top i) f d
 m:mg n=some (.ref f)
theorem FK.M {K:Frag}{mg:Str->Option Value}{n:Str}{i:Nat}{f:Addr}{d:FuncData}{h:Heap}(z:FK K n i f d)(X:K.In h)(G:h.Ns mainGlobals mg):FM K mg n i f d:=⟨z.F,mg_of X G z.a⟩
abbrev Hb (x:Str)(ps:List Str)(i:Nat):Prop:=∀(kV doc pm:Value) (an:Option Addr) (cdv ct:Value) (us:List Value),us.length=ps.length->bindArgs (fnOf x x (jY (top i)) (fI (top i)) (aX (top i)) .none kV doc pm an cdv ct) ⟨us,[]⟩=pure (ps.zip us)
theorem bg4 {A:Around}{k:Nat}(hr:cJ k A):A.units+3<cLine:=by have:=hr.units;omega
section
variable {P:Program}{w:World}{K:Frag}{mg:Str→Option Value}{base:Heap}{f:Addr}{fd:FuncData}{k i:Nat}{x:Str}{ps N:List Str}
theorem Df.au {p:bI}(F:FM K mg x i f fd)(S:FnScope N ps (aX (top i)))(body:∀(cdv:Value) (A:Around) (outer:List Env) (s:Shared) (H:Hp) (E:XK),cJ k (A.deeper (PyProof.Rows.envOfC x (aX (top i)) s.heap.objs.size f cdv))->∃t,gA (dR eC P w K mg base N x (aX (top i)) f cdv A outer s H E).nox (fI (top i)) t/\∀xs Q,p xs Q->t { nx:=λ_=>Q .non,rt:=Q } (gW N xs))(hb:Hb x ps i:=by intro _ _ _ _ _ _ us hl;first|(obtain⟨_,rfl⟩:=o8 hl;rfl)|(obtain⟨_,_,rfl⟩:=zA hl;rfl)|(obtain⟨_,_,_,rfl⟩:=zB hl;rfl)|(obtain⟨_,_,_,_,rfl⟩:=us4 hl;rfl)|(obtain⟨_,_,_,_,_,rfl⟩:=us5 hl;rfl))(len:∀xs Q,p xs Q->xs.length=ps.length:=by intro xs Q h;repeat (first|(obtain⟨rfl,_⟩:=h;rfl)|(obtain⟨_,h⟩:=h))):Df P w K mg base (k+1) x ps p:=
 Df.of F.F F.m S hb len body
theorem hZ.au {p:iI}(F:FM K mg x i f fd)(S:FnScope N ps (aX (top i)))(t:(Str->Prop)->aT)(rd:∀Ep xs Q,p Ep xs Q->t Ep { nx:=λ_=>Q .non,rt:=Q } (gW N xs))(body:∀(cdv:Value) (A:Around) (outer:List Env) (s:Shared) (H:Hp) (E:XK) (Ep:Str->Prop),cJ k (A.deeper (PyProof.Rows.envOfC x (aX (top i)) s.heap.objs.size f cdv))->nZ (dR (fO P w) P w K mg base N x (aX (top i)) f cdv A outer s H E) (EX K H Ep)->gA (dR (fO P w) P w K mg base N x (aX (top i)) f cdv A outer s H E) (fI (top i)) (t Ep))(hb:Hb x ps i:=by intro _ _ _ _ _ _ us hl;first|(obtain⟨_,rfl⟩:=o8 hl;rfl)|(obtain⟨_,_,rfl⟩:=zA hl;rfl)|(obtain⟨_,_,_,rfl⟩:=zB hl;rfl)|(obtain⟨_,_,_,_,rfl⟩:=us4 hl;rfl)|(obtain⟨_,_,_,_,_,rfl⟩:=us5 hl;rfl))(len:∀Ep xs Q,p Ep xs Q->xs.length=ps.length:=by intro Ep xs Q h;repeat (first|(obtain⟨rfl,_⟩:=h;rfl)|(obtain⟨_,h⟩:=h))):hZ P w K mg base (k+1) x ps p:=
 hZ.of F.F F.m S hb t len rd body
end
section
variable {P:Program}{w:World}{K:Frag}{mg:Str→Option Value}{base:Heap}{f:Addr}{fd:FuncData}
theorem nd2:(["ahead","behind"]:List Str).Nodup:=by decide +kernel
abbrev ak9:Stmt:=top 8
theorem scR:FnScope ["things"] ["things"] (aX ak9):=.au
theorem B2 {ns:af}{i:Nat}{x y:V}(h1:(ns.map V.int)[i]? = some x)(h2:((ns.map V.int).drop 1)[i]? = some y):∃p q:Int,x = .int p/\y = .int q/\(ns.zip (ns.drop 1))[i]? = some (p,q):=by
 rw[bn4]at h1
 rw[<- List.map_drop,bn4]at h2
 cases e1:ns[i]? with
 |none=>rw[e1]at h1;cases h1
 |some p=>
  cases e2:(ns.drop 1)[i]? with
  |none=>rw[e2]at h2;cases h2
  |some q=>
   rw[e1]at h1;rw[e2]at h2
   exact⟨p,q,(bo9 h1).symm,(bo9 h2).symm,List.getElem?_zip_eq_some.mpr ⟨e1,e2⟩⟩
theorem bg5 (B:Bt mg)(F:fJ K "rises" "rises" ak9 f fd):cZ P w K mg base eC 1 f fd ["things"] (Z9 K):=by
 refine F.ok scR (λvs H Q E h=>?_) (λcdv A outer s H vs Q E hr h=>?_)
 ·obtain⟨a,ns,rfl,_⟩:=h
  rfl
 obtain⟨a,ns,rfl,hS,hn,q⟩:=h
 have lz:((ns.map V.int).drop 1).length<=sizeLine:=bt9 (iE (by rw[by3,bm7];omega))
 have lz2:((ns.map V.int).drop 1).length<=(ns.map V.int).length:=by rw[by3];omega
 have lz3:(ns.zip (ns.drop 1)).length=((ns.map V.int).drop 1).length:=by rw[List.length_zip,by3,by3,bm7];omega
 rcases hS with hS|hS
 ·refine⟨_,lO (mY (vR (wW rfl) rfl B.all PyProof.Rows.boot_all (dJ (N1 (N:=["ahead","behind"]) (fr:=[none,none]) rfl (cK.of rfl rfl) (aB6 rfl B.zip (dJ (pv 0) (dJ (vU P9 (pv 0) (vT lM) vS) eB)))
   ⟨λ_ _ _ _=>show PG _ _ (jP K 2 (fA (cD 0) (fA (cD 1) jO))) from lS rfl (gM (eS (i:=0) nd2 rfl (Or.inl rfl) (.inr rfl)) (gM (eS (i:=1) nd2 rfl (Or.inl rfl) (.inr rfl)) lR)),λ_ _ _ _=>p7,λ_ _ _ _=>vK rB (pv 0) (pv 1) (i9 _)⟩) eB))),?_⟩
  refine⟨_,rfl,_,rfl,1,rfl,a,_,rfl,hS,λp hp=>?_,λe=>?_⟩
  ·have s1:=bL hp (.tup (fB (ns.map V.int) (some 1) none))
   have hb:aO K (upd H p (.tup (fB (ns.map V.int) (some 1) none))) p ((ns.map V.int).drop 1):=aO.of (by rw[bP,wZ])
   refine⟨a,p,_,_,rfl,s1.tup hS,hb,wY (P8 (s1.tup hS) hb lz2) (λi acc _=>acc=((ns.zip (ns.drop 1)).take i).map λ(p:Int×Int)=>V.bl (decide (p.1<p.2))) lz (λ_ _=>rfl) (λ_ _ _ _ _ h=>h) (λi x acc D H' hi hR c hP=>?_) (λD acc H' hD sm hDa hlen hP=>?_)⟩
   ·obtain⟨T,x1,y1,rfl,hT,h1,h2⟩:=hR
    obtain⟨m,k,rfl,rfl,hz⟩:=B2 h1 h2
    refine⟨T,_,rfl,aO.of hT,rfl,_,_,rfl,_,_,rfl,rfl,((Wk.refl _).set (i:=0) rfl).set (i:=1) rfl,pF ⟨_,rfl,_,rfl,_,_,rfl,rfl,c.yes (aC.refl _) ?_⟩⟩
    rw[lE hz,hP]
   ·refine⟨D,(ns.zip (ns.drop 1)).map λ(p:Int×Int)=>decide (p.1<p.2),rfl,aM.of ?_,q _ (s1.trans sm)⟩
    rw[hDa,hP,<- lz3,br4,br0];rfl
  ·have hb:aO K H a ((ns.map V.int).drop 1):=by
    have:(ns.map V.int).drop 1=ns.map V.int:=by rw[<- wZ];exact e
    rw[this];exact hS
   refine⟨a,a,_,_,rfl,hS,hb,wY (P8 hS hb lz2) (λi acc _=>acc=((ns.zip (ns.drop 1)).take i).map λ(p:Int×Int)=>V.bl (decide (p.1<p.2))) lz (λ_ _=>rfl) (λ_ _ _ _ _ h=>h) (λi x acc D H' hi hR c hP=>?_) (λD acc H' hD sm hDa hlen hP=>?_)⟩
   ·obtain⟨T,x1,y1,rfl,hT,h1,h2⟩:=hR
    obtain⟨m,k,rfl,rfl,hz⟩:=B2 h1 h2
    refine⟨T,_,rfl,aO.of hT,rfl,_,_,rfl,_,_,rfl,rfl,((Wk.refl _).set (i:=0) rfl).set (i:=1) rfl,pF ⟨_,rfl,_,rfl,_,_,rfl,rfl,c.yes (aC.refl _) ?_⟩⟩
    rw[lE hz,hP]
   ·refine⟨D,(ns.zip (ns.drop 1)).map λ(p:Int×Int)=>decide (p.1<p.2),rfl,aM.of ?_,q _ sm⟩
    rw[hDa,hP,<- lz3,br4,br0];rfl
 ·refine⟨_,lO (mY (vR (wW rfl) rfl B.all PyProof.Rows.boot_all (dJ (N1 (N:=["ahead","behind"]) (fr:=[none,none]) rfl (cK.of rfl rfl) (aC2 rfl B.zip (dJ (pv 0) (dJ (vU K1 (pv 0) (vT lM) vS) eB)))
   ⟨λ_ _ _ _=>show PG _ _ (jP K 2 (fA (cD 0) (fA (cD 1) jO))) from lS rfl (gM (eS (i:=0) nd2 rfl (Or.inl rfl) (.inr rfl)) (gM (eS (i:=1) nd2 rfl (Or.inl rfl) (.inr rfl)) lR)),λ_ _ _ _=>p7,λ_ _ _ _=>vK rB (pv 0) (pv 1) (i9 _)⟩) eB))),?_⟩
  refine⟨_,rfl,_,rfl,1,rfl,a,_,rfl,hS,λp hp=>?_⟩
  have s1:=bL hp (.lst (fB (ns.map V.int) (some 1) none))
  have hb:aM K (upd H p (.lst (fB (ns.map V.int) (some 1) none))) p ((ns.map V.int).drop 1):=aM.of (by rw[bP,wZ])
  refine⟨a,p,_,_,rfl,s1.seq hS,hb,wY (aC3 (s1.seq hS) hb lz2) (λi acc _=>acc=((ns.zip (ns.drop 1)).take i).map λ(p:Int×Int)=>V.bl (decide (p.1<p.2))) lz (λ_ _=>rfl) (λ_ _ _ _ _ h=>h) (λi x acc D H' hi hR c hP=>?_) (λD acc H' hD sm hDa hlen hP=>?_)⟩
  ·obtain⟨T,x1,y1,rfl,hT,h1,h2⟩:=hR
   obtain⟨m,k,rfl,rfl,hz⟩:=B2 h1 h2
   refine⟨T,_,rfl,aO.of hT,rfl,_,_,rfl,_,_,rfl,rfl,((Wk.refl _).set (i:=0) rfl).set (i:=1) rfl,pF ⟨_,rfl,_,rfl,_,_,rfl,rfl,c.yes (aC.refl _) ?_⟩⟩
   rw[lE hz,hP]
  ·refine⟨D,(ns.zip (ns.drop 1)).map λ(p:Int×Int)=>decide (p.1<p.2),rfl,aM.of ?_,q _ (s1.trans sm)⟩
   rw[hDa,hP,<- lz3,br4,br0];rfl
abbrev al0:Stmt:=top 10
theorem v7:FnScope ["web","around","one","other"] ["web"] (aX al0):=.au
theorem bg6 (F:fJ K "near_lists" "near_lists" al0 f fd):cZ P w K mg base eC 1 f fd ["web"] tW:=by
 refine F.ok v7 (λvs H Q E h=>?_) (λcdv A outer s H vs Q E hr h=>?_)
 ·obtain⟨v,ws,ls,rfl,_⟩:=h
  rfl
 obtain⟨v,ws,ls,rfl,W,hn,hm,hin,q⟩:=h
 refine⟨_,lN (N3 (i:=1) (N:=["want"]) (fr:=[none]) rfl (cK.of rfl rfl) (r6 (jW oT (pv 0) lM (λ_ _=>rfl)))
   ⟨λ_ _ _ _=>eS (i:=0) (bq2 _ _) rfl (Or.inl rfl) (.inr rfl),λ_ _ _ _=>p7,λ_ _ _ _=>vN eB⟩ v7.nd rfl rfl rfl)
  (lN (vE bA5 rfl (r6 (jW oT (pv 0) lM (λ_ _=>rfl))) (lS (n:=2) rfl (gM (eS (i:=2) v7.nd rfl (Or.inl rfl) (.inr rfl)) (gM (eS (i:=3) v7.nd rfl (Or.inl rfl) (.inr rfl)) lR)) )
   (lN (lP (l8 bu5 bz9 bA0 nC (jW oS (pv 1) (pv 2) (λ_ _=>rfl)) (dJ (pv 3) eB)))
   (lO (lP (l8 bu5 bz9 bA0 nC (jW oS (pv 1) (pv 3) (λ_ _=>rfl)) (dJ (pv 2) eB))))))
  (lO (mY (pv 1)))),?_⟩
 obtain⟨a,p,q',ys,rfl,ha,hp,hq,hL⟩:=W.at_
 have lw:(ws.map V.int).length=ws.length:=bm7 _
 refine⟨_,rfl,a,_,_,_,rfl,rfl,aO.of ha,rfl,p,rfl,⟨_,aO.of hp⟩,N7 (N5 (aO.of hp)) (λi acc H'=>∃bs:List Addr,acc=bs.map V.ref/\bs.length=i/\bs.Nodup/\∀b∈bs,H b=none/\H' b=some (.lst [])) (by rw[lw];exact bt9 (p6 hn))
  (λD hD=>⟨[],rfl,rfl,List.nodup_nil,λ_ z=>nomatch z⟩) (λi x acc D H' hx c hPv=>?_) (λD acc H' hD sm hDa hlen hPv=>?_)⟩
 ·obtain⟨bs,rfl,hbl,nd,hb⟩:=hPv
  refine⟨P3 (n:=none),pF ⟨br5 _,λr hr'=>?_⟩⟩
  have hrD:r≠D:=λz=>by rw[z,c.acc]at hr';cases hr'
  have hrH:H r=none:=c.same.free hr'
  refine c.yes (bL hr' _) ⟨bs++[r],by simp,by simp[hbl],?_,λb hm=>?_⟩
  ·refine bv1.mpr ⟨nd,bq2 _ _,λb hb1 b' hb2 e=>?_⟩
   rw[bm2.mp hb2]at e
   rw[e]at hb1
   rw[(hb r hb1).2]at hr';cases hr'
  ·rcases bn0.mp hm with hm|hm
   ·have hbD:b≠D:=λz=>by
     rw[z]at hm
     have:=(hb D hm).2
     rw[c.acc]at this
     have:bs.map V.ref = []:=by injection this with e1;injection e1
     have:bs = []:=List.map_eq_nil_iff.mp this
     rw[this]at hm;simp at hm
    refine⟨(hb b hm).1,?_⟩
    rw[bB hbD,bB (e9 (hb b hm).2 hr')]
    exact (hb b hm).2
   ·rw[bm2.mp hm]
    exact⟨hrH,by rw[bB hrD,bP]⟩
 ·obtain⟨bs,rfl,hbl,nd,hb⟩:=hPv
  rw[lw]at hbl
  have R0:iP H H' D bs (λk=>aJ (ls.take 0) k):=by
   refine⟨hD,λb hm=>⟨(hb b hm).1,λz=>?_⟩,nd,hDa,λk b hk=>(hb b (bm3 hk)).2,sm⟩
   rw[z]at hm
   have:=(hb D hm).2
   rw[hDa]at this
   have:bs.map V.ref = []:=by injection this with e1;injection e1
   have:bs = []:=List.map_eq_nil_iff.mp this
   rw[this]at hm;simp at hm
  have lL:=hL.length
  refine⟨_,rfl,a,_,_,_,rfl,rfl,aO.of (sm _ _ ha),rfl,q',rfl,⟨_,aO.of (sm _ _ hq)⟩,E6 (K:=K) (a:=q') (xs:=ys) (λi σ H2=>∃x y:Option V,σ = [some (.ref a),some (.ref D),x,y]/\iP H H2 D bs (λk=>aJ (ls.take i) k))
   ⟨none,none,rfl,R0⟩ (λi σ H2 _ ⟨_,_,_,R⟩=>aO.of (R.same _ _ hq)) ?_ ?_⟩
  ·rintro i y σ H2 hi ⟨x1,x2,rfl,R⟩
   obtain⟨l,b,hl,rfl,hbt⟩:=hL.get hi
   have hlm:l∈ls:=bm3 hl
   obtain⟨⟨h1,h2⟩,h3,h4⟩:=hin l hlm
   have k1:l.1.toNat<bs.length:=by omega
   have k2:l.2.toNat<bs.length:=by omega
   have e1:bs[l.1.toNat]? = some (bs[l.1.toNat]):=bm6 k1
   have e2:bs[l.2.toNat]? = some (bs[l.2.toNat]):=bm6 k2
   refine⟨b,_,rfl,aO.of (R.same _ _ hbt),rfl,_,_,rfl,_,_,rfl,rfl,?_⟩
   refine⟨_,rfl,_,rfl,D,_,_,.ref bs[l.1.toNat],rfl,rfl,aM.of R.row,lY h1 (by rw[bn4,e1];rfl),k7 (aM.of (R.rows _ _ e1)),_,rfl,_,_,_,rfl,rfl,R.rows _ _ e1,?_,?_⟩
   ·rw[bm7]
    have:=pE (ls.take i) (l.1.toNat:Nat)
    rw[bt0]at this
    exact iE (by omega)
   ·have R1:=R.app e1 l.2
    refine⟨_,rfl,_,rfl,D,_,_,.ref bs[l.2.toNat],rfl,rfl,aM.of R1.row,lY h3 (by rw[bn4,e2];rfl),k7 (aM.of (R1.rows _ _ e2)),_,rfl,_,_,_,rfl,rfl,R1.rows _ _ e2,?_,?_⟩
    ·rw[bm7]
     have:=pE (ls.take i) (l.2.toNat:Nat)
     rw[bt0]at this
     split
     ·rw[bo2,bs2];exact iE (by omega)
     ·exact iE (by omega)
    ·have R2:=R1.app e2 l.1
     refine⟨_,_,rfl,R2.congr λk hk=>?_⟩
     rw[P5 hl]
     have c1:(k=l.1.toNat)↔l.1=(k:Int):=by omega
     have c2:(k=l.2.toNat)↔l.2=(k:Int):=by omega
     by_cases d1:k=l.1.toNat
     ·by_cases d2:k=l.2.toNat
      ·rw[if_pos d2,if_pos d1,if_pos (c1.mp d1),if_pos (c2.mp d2)];simp
      ·rw[if_neg d2,if_pos d1,if_pos (c1.mp d1),if_neg (λz=>d2 (c2.mpr z))];simp
     ·by_cases d2:k=l.2.toNat
      ·rw[if_pos d2,if_neg d1,if_neg (λz=>d1 (c1.mpr z)),if_pos (c2.mp d2)];simp
      ·rw[if_neg d2,if_neg d1,if_neg (λz=>d1 (c1.mpr z)),if_neg (λz=>d2 (c2.mpr z))];simp
  ·
   rintro σ H2 ⟨x1,x2,rfl,R⟩
   refine⟨_,rfl,q D bs H2 hbl ?_⟩
   rw[lL,br4]at R
   exact R
abbrev al1:Stmt:=top 36
theorem v8:FnScope ["web","beside","one","other"] ["web"] (aX al1):=.au
theorem bg7 (F:fJ K "_law_beside" "_law_beside" al1 f fd):cZ P w K mg base eC 1 f fd ["web"] tW:=by
 refine F.ok v8 (λvs H Q E h=>?_) (λcdv A outer s H vs Q E hr h=>?_)
 ·obtain⟨v,ws,ls,rfl,_⟩:=h
  rfl
 obtain⟨v,ws,ls,rfl,W,hn,hm,hin,q⟩:=h
 refine⟨_,lN (N3 (i:=1) (N:=["hearth"]) (fr:=[none]) rfl (cK.of rfl rfl) (r6 (jW oT (pv 0) lM (λ_ _=>rfl)))
   ⟨λ_ _ _ _=>eS (i:=0) (bq2 _ _) rfl (Or.inl rfl) (.inr rfl),λ_ _ _ _=>p7,λ_ _ _ _=>vN eB⟩ v8.nd rfl rfl rfl)
  (lN (vE bA5 rfl (r6 (jW oT (pv 0) lM (λ_ _=>rfl))) (lS (n:=2) rfl (gM (eS (i:=2) v8.nd rfl (Or.inl rfl) (.inr rfl)) (gM (eS (i:=3) v8.nd rfl (Or.inl rfl) (.inr rfl)) lR)) )
   (lN (lP (l8 bu5 bz9 bA0 nC (jW oS (pv 1) (pv 2) (λ_ _=>rfl)) (dJ (pv 3) eB)))
   (lO (lP (l8 bu5 bz9 bA0 nC (jW oS (pv 1) (pv 3) (λ_ _=>rfl)) (dJ (pv 2) eB))))))
  (lO (mY (pv 1)))),?_⟩
 obtain⟨a,p,q',ys,rfl,ha,hp,hq,hL⟩:=W.at_
 have lw:(ws.map V.int).length=ws.length:=bm7 _
 refine⟨_,rfl,a,_,_,_,rfl,rfl,aO.of ha,rfl,p,rfl,⟨_,aO.of hp⟩,N7 (N5 (aO.of hp)) (λi acc H'=>∃bs:List Addr,acc=bs.map V.ref/\bs.length=i/\bs.Nodup/\∀b∈bs,H b=none/\H' b=some (.lst [])) (by rw[lw];exact bt9 (p6 hn))
  (λD hD=>⟨[],rfl,rfl,List.nodup_nil,λ_ z=>nomatch z⟩) (λi x acc D H' hx c hPv=>?_) (λD acc H' hD sm hDa hlen hPv=>?_)⟩
 ·obtain⟨bs,rfl,hbl,nd,hb⟩:=hPv
  refine⟨P3 (n:=none),pF ⟨br5 _,λr hr'=>?_⟩⟩
  have hrD:r≠D:=λz=>by rw[z,c.acc]at hr';cases hr'
  have hrH:H r=none:=c.same.free hr'
  refine c.yes (bL hr' _) ⟨bs++[r],by simp,by simp[hbl],?_,λb hm=>?_⟩
  ·refine bv1.mpr ⟨nd,bq2 _ _,λb hb1 b' hb2 e=>?_⟩
   rw[bm2.mp hb2]at e
   rw[e]at hb1
   rw[(hb r hb1).2]at hr';cases hr'
  ·rcases bn0.mp hm with hm|hm
   ·have hbD:b≠D:=λz=>by
     rw[z]at hm
     have:=(hb D hm).2
     rw[c.acc]at this
     have:bs.map V.ref = []:=by injection this with e1;injection e1
     have:bs = []:=List.map_eq_nil_iff.mp this
     rw[this]at hm;simp at hm
    refine⟨(hb b hm).1,?_⟩
    rw[bB hbD,bB (e9 (hb b hm).2 hr')]
    exact (hb b hm).2
   ·rw[bm2.mp hm]
    exact⟨hrH,by rw[bB hrD,bP]⟩
 ·obtain⟨bs,rfl,hbl,nd,hb⟩:=hPv
  rw[lw]at hbl
  have R0:iP H H' D bs (λk=>aJ (ls.take 0) k):=by
   refine⟨hD,λb hm=>⟨(hb b hm).1,λz=>?_⟩,nd,hDa,λk b hk=>(hb b (bm3 hk)).2,sm⟩
   rw[z]at hm
   have:=(hb D hm).2
   rw[hDa]at this
   have:bs.map V.ref = []:=by injection this with e1;injection e1
   have:bs = []:=List.map_eq_nil_iff.mp this
   rw[this]at hm;simp at hm
  have lL:=hL.length
  refine⟨_,rfl,a,_,_,_,rfl,rfl,aO.of (sm _ _ ha),rfl,q',rfl,⟨_,aO.of (sm _ _ hq)⟩,E6 (K:=K) (a:=q') (xs:=ys) (λi σ H2=>∃x y:Option V,σ = [some (.ref a),some (.ref D),x,y]/\iP H H2 D bs (λk=>aJ (ls.take i) k))
   ⟨none,none,rfl,R0⟩ (λi σ H2 _ ⟨_,_,_,R⟩=>aO.of (R.same _ _ hq)) ?_ ?_⟩
  ·rintro i y σ H2 hi ⟨x1,x2,rfl,R⟩
   obtain⟨l,b,hl,rfl,hbt⟩:=hL.get hi
   have hlm:l∈ls:=bm3 hl
   obtain⟨⟨h1,h2⟩,h3,h4⟩:=hin l hlm
   have k1:l.1.toNat<bs.length:=by omega
   have k2:l.2.toNat<bs.length:=by omega
   have e1:bs[l.1.toNat]? = some (bs[l.1.toNat]):=bm6 k1
   have e2:bs[l.2.toNat]? = some (bs[l.2.toNat]):=bm6 k2
   refine⟨b,_,rfl,aO.of (R.same _ _ hbt),rfl,_,_,rfl,_,_,rfl,rfl,?_⟩
   refine⟨_,rfl,_,rfl,D,_,_,.ref bs[l.1.toNat],rfl,rfl,aM.of R.row,lY h1 (by rw[bn4,e1];rfl),k7 (aM.of (R.rows _ _ e1)),_,rfl,_,_,_,rfl,rfl,R.rows _ _ e1,?_,?_⟩
   ·rw[bm7]
    have:=pE (ls.take i) (l.1.toNat:Nat)
    rw[bt0]at this
    exact iE (by omega)
   ·have R1:=R.app e1 l.2
    refine⟨_,rfl,_,rfl,D,_,_,.ref bs[l.2.toNat],rfl,rfl,aM.of R1.row,lY h3 (by rw[bn4,e2];rfl),k7 (aM.of (R1.rows _ _ e2)),_,rfl,_,_,_,rfl,rfl,R1.rows _ _ e2,?_,?_⟩
    ·rw[bm7]
     have:=pE (ls.take i) (l.2.toNat:Nat)
     rw[bt0]at this
     split
     ·rw[bo2,bs2];exact iE (by omega)
     ·exact iE (by omega)
    ·have R2:=R1.app e2 l.1
     refine⟨_,_,rfl,R2.congr λk hk=>?_⟩
     rw[P5 hl]
     have c1:(k=l.1.toNat)↔l.1=(k:Int):=by omega
     have c2:(k=l.2.toNat)↔l.2=(k:Int):=by omega
     by_cases d1:k=l.1.toNat
     ·by_cases d2:k=l.2.toNat
      ·rw[if_pos d2,if_pos d1,if_pos (c1.mp d1),if_pos (c2.mp d2)];simp
      ·rw[if_neg d2,if_pos d1,if_pos (c1.mp d1),if_neg (λz=>d2 (c2.mpr z))];simp
     ·by_cases d2:k=l.2.toNat
      ·rw[if_pos d2,if_neg d1,if_neg (λz=>d1 (c1.mpr z)),if_pos (c2.mp d2)];simp
      ·rw[if_neg d2,if_neg d1,if_neg (λz=>d1 (c1.mpr z)),if_neg (λz=>d2 (c2.mpr z))];simp
  ·
   rintro σ H2 ⟨x1,x2,rfl,R⟩
   refine⟨_,rfl,q D bs H2 hbl ?_⟩
   rw[lL,br4]at R
   exact R
theorem bg8:FnScope ["prices","many"] ["prices","many"] (aX (top 6)):=.au
theorem bg9 (B:Bt mg)(F:FM K mg "made_prices" 6 f fd) :Df P w K mg base 1 "made_prices" ["prices","many"] tZ:=
 Df.au F bg8 (λcdv A outer s H E hr=>by
  exact⟨(ab5),(aI (dO (T9 (eF B (a8 (qv 0) aA)) (qv 1)) (aV xN) dN)
   (aI (dO (pQ (aS1 B rfl (a8 (nS (N:=["price"]) (fr:=[none]) (dC (qv 0)) (λ_ _ _ _=>(T7 (qv 0) aG))) aA))) (aV xN) dN)
   (aV (cE (kK B (a8 (qv 0) aA)))))),aS2⟩)
theorem bh0:FnScope ["web"] ["web"] (aX (top 9)):=.au
theorem bh1 (B:Bt mg)(F:FM K mg "hearths_in" 9 f fd) :Df P w K mg base 1 "hearths_in" ["web"] iU:=
 Df.au F bh0 (λcdv A outer s H E hr=>by
  exact⟨(Y7),(aV (cE (eF B (a8 (bE (qv 0) aG) aA)))),aM5⟩)
theorem al2:FnScope ["hearths","inside","hearth"] ["hearths"] (aX (top 14)):=.au
theorem bh2 (B:Bt mg)(F:FM K mg "marked" 14 f fd) :Df P w K mg base 1 "marked" ["hearths"] o0:=
 Df.au F al2 (λcdv A outer s H E hr=>by
  have nd:=al2.nd
  have hu:=wB hr
  exact⟨(Z2),(aI (fD (i:=1) nd aI3)
   (aI (fM 2 nd (dC (qv 0))
    (aV (U5 hu (i:=1) (qv 2) lC)))
   (aV (mD 1)))),aN2⟩)
theorem bh3:FnScope ["around","hearth","elder"] ["around","hearth","elder"] (aX (top 24)):=.au
theorem bh4 (B:Bt mg)(F:FM K mg "children_of" 24 f fd) :Df P w K mg base 1 "children_of" ["around","hearth","elder"] oE:=
 Df.au F bh3 (λcdv A outer s H E hr=>by
  exact⟨(af5),(aV (cE (t6 (N:=["other","elder"]) (fr:=[none,some 2]) (dC (bE (qv 0) (qv 1))) (λ_ _ _ _=>(aV4 (qv 0) (qv 1))) (λ_ _ _ _=>(qv 0))))),ba3⟩)
theorem bh5:FnScope ["want"] ["want"] (aX (top 28)):=.au
theorem bh6 (B:Bt mg)(F:FM K mg "one_less" 28 f fd) :Df P w K mg base 1 "one_less" ["want"] uU:=
 Df.au F bh5 (λcdv A outer s H E hr=>by
  exact⟨(ah7),(aV (cE (pS B rfl (a8 aG (a8 (kI (qv 0) aG) aA))))),bb9⟩)
theorem al3:FnScope ["want","price","below","gaps","dearer"] ["want","price","below"] (aX (top 29)):=.au
theorem bh7 (B:Bt mg)(F:FM K mg "most_for" 29 f fd) :Df P w K mg base 1 "most_for" ["want","price","below"] qS:=
 Df.au F al3 (λcdv A outer s H E hr=>by
  have nd:=al3.nd
  exact⟨(ah8),(aI (bF (i:=3) nd (U8 B (a8 (aa8 (N:=["a","b"]) (fr:=[none,none]) (dC (qv 2)) (λ_ _ _ _=>(kI (qv 1) (qv 0)))) aA)))
   (aI (bF (i:=4) nd (qv 1))
   (aI (dO (T8 (eF B (a8 (qv 3) aA)) (qv 0)) (aV (bF (i:=4) nd (sY B rfl (a8 (qv 1) (a8 (yV B rfl (a8 (V2 (qv 3) aI8 (xQ (qv 0))) aA)) aA))))) dN)
   (aV (cE (dE (yV B rfl (a8 (aa8 (N:=["a","b"]) (fr:=[none,none]) (dC (qv 2)) (λ_ _ _ _=>(qv 0))) aA)) (qv 4))))))),bc0⟩)
theorem bh8:FnScope ["script","k"] ["script","k"] (aX (top 31)):=.au
theorem bh9 (B:Bt mg)(F:FM K mg "_law_cell_at" 31 f fd) :Df P w K mg base 1 "_law_cell_at" ["script","k"] gF:=
 Df.au F bh8 (λcdv A outer s H E hr=>by
  exact⟨(Z5),(aI (dO (pP (qv 1) (eF B (a8 (qv 0) aA))) (aV (cE (bE (qv 0) (qv 1)))) dN)
   (aV (cE aG))),aN3⟩)
theorem al4:FnScope ["number","k","turn"] ["number","k"] (aX (top 32)):=.au
theorem bi0 (B:Bt mg)(F:FM K mg "_law_mixed" 32 f fd) :Df P w K mg base 1 "_law_mixed" ["number","k"] kU:=
 Df.au F al4 (λcdv A outer s H E hr=>by
  have nd:=al4.nd
  exact⟨(ac9),(aI (bF (i:=2) nd (dX (dE (dE (dE (dX (qv 0) aG) (pO (pO aG (qv 1)) (qv 1))) (pO aG (qv 1))) aG) aG))
   (aI (bF (i:=2) nd (dX (pO (qv 2) aG) aG))
   (aV (cE (dX (pO (qv 2) (qv 2)) aG))))),aV6⟩)
theorem al5:FnScope ["many","sets","hearth"] ["many"] (aX (top 39)):=.au
theorem bi1 (B:Bt mg)(F:FM K mg "_law_sets" 39 f fd) :Df P w K mg base 1 "_law_sets" ["many"] uI:=
 Df.au F al5 (λcdv A outer s H E hr=>by
  have nd:=al5.nd
  have hu3:=bg4 hr
  exact⟨(ad8),(aI (bF (i:=1) nd (gC (a8 (iG aA) aA)))
   (aI (fM 2 nd (mE rfl B.range (qv 0))
    (aV (bF (i:=1) nd (aP2 (qv 1) (nS (N:=["some","hearth"]) (fr:=[none,some 2]) (dC (qv 1)) (λ_ _ _ _=>(aP9 (qv 0) (iG (a8 (qv 1) aA)))))))))
   (aV (cE (aX2 B hu3 (a8 (qv 1) aA)))))),aX3⟩)
theorem al6:FnScope ["elders","order","hearth","bough","other"] ["elders","order","hearth"] (aX (top 42)):=.au
theorem bi2 (B:Bt mg)(F:FM K mg "_law_bough" 42 f fd) :Df P w K mg base 1 "_law_bough" ["elders","order","hearth"] v4:=
 Df.au F al6 (λcdv A outer s H E hr=>by
  have nd:=al6.nd
  exact⟨(ak5),(aI (fD (i:=3) nd (gC aA))
   (aI (fM 4 nd (dC (qv 1))
    (aV (dO (nR (U2 (nQ (qv 4) (qv 2)) (U1 (bf6 (bE (qv 0) (qv 4)) (qv 3))))) (aV (kJ 3 (qv 4))) dN)))
   (aV (cE (U8 B (a8 (qv 3) aA)))))),bf8⟩)
theorem al7:FnScope ["web","bough","hearth","less","wants","other","want","links"] ["web","bough","hearth","less"] (aX (top 43)):=.au
theorem bi3 (B:Bt mg)(F:FM K mg "_law_part" 43 f fd) :Df P w K mg base 1 "_law_part" ["web","bough","hearth","less"] v5:=
 Df.au F al7 (λcdv A outer s H E hr=>by
  have nd:=al7.nd
  exact⟨(ak6),(aI (fD (i:=4) nd (gC aA))
   (aI (fM 5 nd (dC (qv 1))
    (aI (bF (i:=6) nd (bE (bE (qv 0) aG) (qv 5)))
    (aI (dO (nQ (qv 5) (qv 2)) (aV (bF (i:=6) nd (pS B rfl (a8 aG (a8 (kI (qv 6) (qv 3)) aA))))) dN)
    (aV (kJ 4 (qv 6))))))
   (aI (aP6 (i:=7) nd (N:=["one","other","bough"]) (fr:=[none,none,some 1]) (dC (bE (qv 0) aG)) (λ_ _ _ _=>(nR (sW (V0 (qv 0) (qv 2)) (sV (V0 (qv 1) (qv 2)))))) (λ_ _ _ _=>(iG (a8 (ae0 (qv 2) (qv 0)) (a8 (ae0 (qv 2) (qv 1)) aA)))))
   (aV (cE (iG (a8 (kK B (a8 (qv 4) aA)) (a8 (kK B (a8 (qv 7) aA)) aA)))))))),bg0⟩)
theorem bi4:FnScope ["web","number"] ["web","number"] (aX (top 11)):=.au
theorem bi5 (B:Bt mg)(F:FM K mg "is_hearth" 11 f fd)(d_hearths_in:Df P w K mg base 1 "hearths_in" ["web"] iU):Df P w K mg base 2 "is_hearth" ["web","number"] tQ:=
 Df.au F bi4 (λcdv A outer s H E hr=>by
  exact⟨(Y8),(aV (cE (U4 (aH8 (qv 1) aG) (U3 (T7 (qv 1) (bC d_hearths_in hr (a8 (qv 0) aA))))))),aM6⟩)
theorem al8:FnScope ["hearths","some","gone"] ["hearths","some"] (aX (top 15)):=.au
theorem bi6 (B:Bt mg)(F:FM K mg "without" 15 f fd)(d_marked:Df P w K mg base 1 "marked" ["hearths"] o0):Df P w K mg base 2 "without" ["hearths","some"] o6:=
 Df.au F al8 (λcdv A outer s H E hr=>by
  have nd:=al8.nd
  have hu:=wB hr
  exact⟨(ab2),(aI (bF (i:=2) nd (bC d_marked hr (a8 (qv 1) aA)))
   (aV (cE (kK B (a8 (t6 (N:=["hearth","gone"]) (fr:=[none,some 2]) (dC (qv 0)) (λ_ _ _ _=>(U0 hu (qv 0) (qv 1))) (λ_ _ _ _=>(qv 0))) aA))))),aQ3⟩)
theorem al9:FnScope ["around","hearths","inside","reached","waiting","hearth","other"] ["around","hearths"] (aX (top 19)):=.au
theorem bi7 (B:Bt mg)(F:FM K mg "first_piece" 19 f fd)(d_marked:Df P w K mg base 1 "marked" ["hearths"] o0):Df P w K mg base 2 "first_piece" ["around","hearths"] u9:=
 Df.au F al9 (λcdv A outer s H E hr=>by
  have nd:=al9.nd
  have hu:=wB hr
  exact⟨(ac4),(aI (bF (i:=2) nd (bC d_marked hr (a8 (qv 1) aA)))
   (aI (fD (i:=3) nd (aU0 (bE (qv 1) aG)))
   (aI (fD (i:=4) nd (gC (a8 (bE (qv 1) aG) aA)))
   (aI (pR bA5 (mC (qv 4))
    (aI (aU1 nd 4 5)
    (aV (fM 6 nd (dC (bE (qv 0) (qv 5)))
     (aV (dO (nR (sW (aI1 hu (qv 6) (qv 2)) (sV (U0 hu (qv 6) (qv 3))))) (aI (U5 hu (i:=3) (qv 6) lC)
      (aV (kJ 4 (qv 6)))) dN))))))
   (aV (cE (kK B (a8 (aR3 B rfl (a8 (qv 3) aA)) aA)))))))),aU5⟩)
theorem bi8:FnScope ["want","price","below"] ["want","price","below"] (aX (top 27)):=.au
theorem bi9 (B:Bt mg)(F:FM K mg "most_pair" 27 f fd)(d_most_for:Df P w K mg base 1 "most_for" ["want","price","below"] qS)(d_one_less:Df P w K mg base 1 "one_less" ["want"] uU):Df P w K mg base 2 "most_pair" ["want","price","below"] uV:=
 Df.au F bi8 (λcdv A outer s H E hr=>by
  exact⟨(ai0),(aV (cE (iG (a8 (bC d_most_for hr (a8 (bC d_one_less hr (a8 (qv 0) aA)) (a8 (qv 1) (a8 (qv 2) aA)))) (a8 (bC d_most_for hr (a8 (qv 0) (a8 (qv 1) (a8 (qv 2) aA)))) aA))))),bc1⟩)
theorem am0:FnScope ["script","most","number"] ["script","most"] (aX (top 33)):=.au
theorem bj0 (B:Bt mg)(F:FM K mg "_law_hearths" 33 f fd)(d__law_cell_at:Df P w K mg base 1 "_law_cell_at" ["script","k"] gF):Df P w K mg base 2 "_law_hearths" ["script","most"] uD:=
 Df.au F am0 (λcdv A outer s H E hr=>by
  have nd:=am0.nd
  exact⟨(ad0),(aI (bF (i:=2) nd (bC d__law_cell_at hr (a8 (qv 0) (a8 aG aA))))
   (aI (dO (nQ (dX (qv 2) aG) aG) (aV (cE (sY B rfl (a8 (qv 1) (a8 (pS B rfl (a8 aG (a8 (kI (eF B (a8 (qv 0) aA)) aG) aA))) aA))))) dN)
   (aI (dO (nQ (dX (qv 2) aG) aG) (aV (cE (dX (dE (jC (qv 2) aG) aG) (dE (qv 1) aG)))) dN)
   (aV (cE (dX (dE (jC (qv 2) aG) aG) (dE (sY B rfl (a8 aG (a8 (qv 1) aA))) aG))))))),aV7⟩)
theorem am1:FnScope ["script","many","digits","places","number","k","spot"] ["script","many","digits"] (aX (top 34)):=.au
theorem bj1 (B:Bt mg)(F:FM K mg "_law_places" 34 f fd)(d__law_cell_at:Df P w K mg base 1 "_law_cell_at" ["script","k"] gF)(d__law_mixed:Df P w K mg base 1 "_law_mixed" ["number","k"] kU):Df P w K mg base 2 "_law_places" ["script","many","digits"] uS:=
 Df.au F am1 (λcdv A outer s H E hr=>by
  have nd:=am1.nd
  exact⟨(ag2),(aI (fD (i:=3) nd (Z8 B (qv 1)))
   (aI (bF (i:=4) nd (bC d__law_cell_at hr (a8 (qv 0) (a8 aG aA))))
   (aI (dO (nQ (dX (jC (bC d__law_cell_at hr (a8 (qv 0) (a8 aG aA))) aG) aG) aG) (aI (fD (i:=3) nd (gC aA))
    (aV (fM 5 nd (mE rfl B.range (qv 1))
     (aI (bF (i:=6) nd (bC d__law_mixed hr (a8 (bC d__law_cell_at hr (a8 (qv 0) (a8 aG aA))) (a8 (dE (qv 5) aG) aA))))
     (aI (dO (mC (qv 2)) (aI (bF (i:=6) nd (qv 4))
      (aV (bF (i:=4) nd (jC (qv 4) (dE (qv 5) aG))))) dN)
     (aV (aT6 3 (dX (qv 6) (dE (qv 5) aG)) (qv 5)))))))) dN)
   (aV (mD 3))))),bb1⟩)
theorem am2:FnScope ["web","seeds","beside","burning","left","hearth","count"] ["web","seeds"] (aX (top 37)):=.au
theorem bj2 (B:Bt mg)(F:FM K mg "_law_burning" 37 f fd)(d__law_beside:Df P w K mg base 1 "_law_beside" ["web"] uE):Df P w K mg base 2 "_law_burning" ["web","seeds"] uF:=
 Df.au F am2 (λcdv A outer s H E hr=>by
  have nd:=am2.nd
  exact⟨(ad1),(aI (bF (i:=2) nd (bC d__law_beside hr (a8 (qv 0) aA)))
   (aI (fD (i:=3) nd (nS (N:=["hearth","seeds"]) (fr:=[none,some 1]) (mE rfl B.range (eF B (a8 (bE (qv 0) aG) aA))) (λ_ _ _ _=>(aI7 (qv 0) (qv 1)))))
   (aI (bF (i:=4) nd lC)
   (aI (pR bA5 (pQ (qv 4))
    (aI (bF (i:=4) nd lC)
    (aV (fM 5 nd (mE rfl B.range (eF B (a8 (bE (qv 0) aG) aA)))
     (aI (bF (i:=6) nd (eF B (a8 (t6 (N:=["other","burning"]) (fr:=[none,some 3]) (dC (bE (qv 2) (qv 5))) (λ_ _ _ _=>(mC (bE (qv 1) (qv 0)))) (λ_ _ _ _=>(qv 0))) aA)))
     (aV (dO (nR (sW (sX (mC (bE (qv 3) (qv 5)))) (sV (T8 (qv 6) (bE (bE (qv 0) aG) (qv 5)))))) (aI (nU (i:=3) (qv 5) lC)
      (aV (bF (i:=4) nd lC))) dN)))))))
   (aV (mD 3)))))),aW2⟩)
theorem am3:FnScope ["web","beside","elders","order","root","at","other"] ["web"] (aX (top 40)):=.au
theorem bj3 (B:Bt mg)(F:FM K mg "_law_elders" 40 f fd)(d__law_beside:Df P w K mg base 1 "_law_beside" ["web"] uE):Df P w K mg base 2 "_law_elders" ["web"] uX:=
 Df.au F am3 (λcdv A outer s H E hr=>by
  have nd:=am3.nd
  exact⟨(ai9),(aI (bF (i:=1) nd (bC d__law_beside hr (a8 (qv 0) aA)))
   (aI (fD (i:=2) nd (tY (gC (a8 sR aA)) (eF B (a8 (bE (qv 0) aG) aA))))
   (aI (fD (i:=3) nd (gC aA))
   (aI (fM 4 nd (mE rfl B.range (eF B (a8 (bE (qv 0) aG) aA)))
    (aV (dO (V1 (qv 4) (qv 3)) (aI (kJ 3 (qv 4))
     (aI (bF (i:=5) nd (kI (eF B (a8 (qv 3) aA)) aG))
     (aV (pR bA5 (pP (qv 5) (eF B (a8 (qv 3) aA)))
      (aI (fM 6 nd (dC (bE (qv 1) (bE (qv 3) (qv 5))))
       (aV (dO (V1 (qv 6) (qv 3)) (aI (nU (i:=2) (qv 6) (bE (qv 3) (qv 5)))
        (aV (kJ 3 (qv 6)))) dN)))
      (aV (bF (i:=5) nd (dE (qv 5) aG)))))))) dN)))
   (aV (xO 2 (xO 3 (cE (aI2 (a8 (qv 2) (a8 (qv 3) aA))))))))))),bd4⟩)
theorem am4:FnScope ["script","many","prices","k","number"] ["script","many"] (aX (top 41)):=.au
theorem bj4 (B:Bt mg)(F:FM K mg "_law_prices" 41 f fd)(d__law_mixed:Df P w K mg base 1 "_law_mixed" ["number","k"] kU)(d__law_cell_at:Df P w K mg base 1 "_law_cell_at" ["script","k"] gF):Df P w K mg base 2 "_law_prices" ["script","many"] uK:=
 Df.au F am4 (λcdv A outer s H E hr=>by
  have nd:=am4.nd
  exact⟨(ae3),(aI (fD (i:=2) nd (gC aA))
   (aI (fM 3 nd (mE rfl B.range (qv 1))
    (aI (bF (i:=4) nd (bC d__law_mixed hr (a8 (bC d__law_cell_at hr (a8 (qv 0) (a8 aG aA))) (a8 (dE (qv 3) aG) aA))))
    (aI (dO (pP (dE aG (qv 3)) (eF B (a8 (qv 0) aA))) (aV (bF (i:=4) nd (dE (jC (bE (qv 0) (dE aG (qv 3))) aG) (bC d__law_cell_at hr (a8 (qv 0) (a8 aG aA)))))) dN)
    (aV (kJ 2 (bE (gC (a8 (dX (qv 4) aG) (a8 (dE aG (dX (qv 4) aG)) (a8 (dX (qv 4) (T6 aG aG)) (a8 (dE (T6 aG aG) (dX (qv 4) aG)) aA))))) (dX (jC (qv 4) aG) aG)))))))
   (aV (mD 2)))),aY0⟩)
theorem bj5:FnScope ["web","numbers"] ["web","numbers"] (aX (top 12)):=.au
theorem bj6 (B:Bt mg)(F:FM K mg "is_set" 12 f fd)(d_rises:Df P w K mg base 1 "rises" ["things"] yF)(d_is_hearth:Df P w K mg base 2 "is_hearth" ["web","number"] tQ):Df P w K mg base 3 "is_set" ["web","numbers"] tR:=
 Df.au F bj5 (λcdv A outer s H E hr=>by
  exact⟨(Y9),(aV (cE (U4 (bC d_rises hr (a8 (qv 1) aA)) (U3 (aI6 B rfl (a8 (nS (N:=["number","web"]) (fr:=[none,some 0]) (dC (qv 1)) (λ_ _ _ _=>(bC d_is_hearth hr (a8 (qv 1) (a8 (qv 0) aA))))) aA)))))),aM7⟩)
theorem bj7:FnScope ["web","some"] ["web","some"] (aX (top 16)):=.au
theorem bj8 (B:Bt mg)(F:FM K mg "all_but" 16 f fd)(d_without:Df P w K mg base 2 "without" ["hearths","some"] o6)(d_hearths_in:Df P w K mg base 1 "hearths_in" ["web"] iU):Df P w K mg base 3 "all_but" ["web","some"] u8:=
 Df.au F bj7 (λcdv A outer s H E hr=>by
  exact⟨(ac2),(aV (cE (bC d_without hr (a8 (Z8 B (bC d_hearths_in hr (a8 (qv 0) aA))) (a8 (qv 1) aA))))),aT8⟩)
theorem am5:FnScope ["script","most","many","digits","links","counts","cells","k","number","elder","places","wants","pairs"] ["script","most"] (aX (top 35)):=.au
theorem bj9 (B:Bt mg)(F:FM K mg "_law_wood" 35 f fd)(d__law_hearths:Df P w K mg base 2 "_law_hearths" ["script","most"] uD)(d__law_cell_at:Df P w K mg base 1 "_law_cell_at" ["script","k"] gF)(d__law_mixed:Df P w K mg base 1 "_law_mixed" ["number","k"] kU)(d__law_places:Df P w K mg base 2 "_law_places" ["script","many","digits"] uS):Df P w K mg base 3 "_law_wood" ["script","most"] uT:=
 Df.au F am5 (λcdv A outer s H E hr=>by
  have nd:=am5.nd
  exact⟨(ah6),(aI (bF (i:=2) nd (bC d__law_hearths hr (a8 (qv 0) (a8 (qv 1) aA))))
   (aI (bF (i:=3) nd (xM (dX (jC (bC d__law_cell_at hr (a8 (qv 0) (a8 aG aA))) aG) aG) aG))
   (aI (fD (i:=4) nd (gC aA))
   (aI (fD (i:=5) nd (tY (gC (a8 aG aA)) (qv 2)))
   (aI (fD (i:=6) nd (V2 (qv 0) (xQ aG) (xQ (dE aG (qv 2)))))
   (aI (fM 7 nd (U6 rfl B.range (eF B (a8 (qv 6) aA)) (qv 2))
    (aV (kJ 6 (bC d__law_mixed hr (a8 (bC d__law_cell_at hr (a8 (qv 0) (a8 aG aA))) (a8 (qv 7) aA))))))
   (aI (fM 7 nd (U6 rfl B.range aG (qv 2))
    (aI (bF (i:=8) nd (bC d__law_mixed hr (a8 (bE (qv 6) (qv 7)) (a8 (qv 7) aA))))
    (aI (dO (mC (qv 3)) (aV (bF (i:=8) nd (jC (bE (qv 6) (qv 7)) aG))) dN)
    (aV (dO (aH9 (dX (qv 8) aG) aG) (aI (bF (i:=9) nd (dX (jC (qv 8) aG) (qv 7)))
     (aI (dO (nQ (dX (bC d__law_cell_at hr (a8 (qv 0) (a8 aG aA))) aG) aG) (aV (bF (i:=9) nd (pS B rfl (a8 aG (a8 (kI (kI (qv 7) aG) (dX (jC (qv 8) aG) aG)) aA))))) dN)
     (aI (kJ 4 (iG (a8 (qv 9) (a8 (qv 7) aA))))
     (aI (nU (i:=5) (qv 9) (dE (bE (qv 5) (qv 9)) aG))
     (aV (nU (i:=5) (qv 7) (dE (bE (qv 5) (qv 7)) aG))))))) dN)))))
   (aI (bF (i:=10) nd (bC d__law_places hr (a8 (qv 0) (a8 (qv 2) (a8 (qv 3) aA)))))
   (aI (fD (i:=11) nd (tY (gC (a8 aG aA)) (qv 2)))
   (aI (fM 7 nd (mE rfl B.range (qv 2))
    (aV (nU (i:=11) (bE (qv 10) (qv 7)) (dX (bE (qv 6) (qv 7)) (dE (bE (qv 5) (qv 7)) aG)))))
   (aI (xO 4 (aP5 (i:=12) nd (N:=["one","other","places"]) (fr:=[none,none,some 10]) (dC (qv 4)) (λ_ _ _ _=>(iG (a8 (sY B rfl (a8 (bE (qv 2) (qv 0)) (a8 (bE (qv 2) (qv 1)) aA))) (a8 (pS B rfl (a8 (bE (qv 2) (qv 0)) (a8 (bE (qv 2) (qv 1)) aA))) aA))))))
   (aV (cE (iG (a8 (kK B (a8 (qv 11) aA)) (a8 (kK B (a8 (aO0 B (a8 (qv 12) aA)) aA)) aA)))))))))))))))),bb8⟩)
theorem bk0:FnScope ["web","seeds"] ["web","seeds"] (aX (top 38)):=.au
theorem bk1 (B:Bt mg)(F:FM K mg "_law_lights" 38 f fd)(d__law_burning:Df P w K mg base 2 "_law_burning" ["web","seeds"] uF):Df P w K mg base 3 "_law_lights" ["web","seeds"] qN:=
 Df.au F bk0 (λcdv A outer s H E hr=>by
  exact⟨(ad2),(aV (cE (xM (eF B (a8 (t6 (N:=["fire"]) (fr:=[none]) (dC (bC d__law_burning hr (a8 (qv 0) (a8 (qv 1) aA)))) (λ_ _ _ _=>(sX (mC (qv 0)))) (λ_ _ _ _=>(qv 0))) aA)) aG))),aW3⟩)
theorem bk2:FnScope ["web","hearths"] ["web","hearths"] (aX (top 13)):=.au
theorem bk3 (B:Bt mg)(F:FM K mg "made_set" 13 f fd)(d_is_set:Df P w K mg base 3 "is_set" ["web","numbers"] tR)(x_BadSet:Xc K mg base "BadSet"):hZ P w K mg base 4 "made_set" ["web","hearths"] u6:=
 hZ.au F bk2 ac1 aT4 (λcdv A outer s H E Ep hr hX=>by
  exact (aI (dO (sX (pQ (bC d_is_set hr (a8 (qv 0) (a8 (qv 1) aA))))) (aV (aT2 hX x_BadSet (a8 aH7 aA))) dN)
   (aV (cE (kK B (a8 (qv 1) aA))))))
theorem am6:FnScope ["web","prices","best","some","price"] ["web","prices"] (aX (top 44)):=.au
theorem bk4 (B:Bt mg)(F:FM K mg "_law_least_price" 44 f fd)(d__law_sets:Df P w K mg base 1 "_law_sets" ["many"] uI)(d__law_lights:Df P w K mg base 3 "_law_lights" ["web","seeds"] qN):Df P w K mg base 4 "_law_least_price" ["web","prices"] v6:=
 Df.au F am6 (λcdv A outer s H E hr=>by
  have nd:=am6.nd
  exact⟨(ak7),(aI (bF (i:=2) nd sR)
   (aI (fM 3 nd (dC (bC d__law_sets hr (a8 (eF B (a8 (bE (qv 0) aG) aA)) aA)))
    (aI (bF (i:=4) nd (yV B rfl (a8 (nS (N:=["hearth","prices"]) (fr:=[none,some 1]) (dC (qv 3)) (λ_ _ _ _=>(bE (qv 1) (qv 0)))) aA)))
    (aV (dO (nR (sW (nR (U2 (aI0 (qv 2) sR) (U1 (pP (qv 4) (qv 2))))) (sV (pQ (bC d__law_lights hr (a8 (qv 0) (a8 (qv 3) aA))))))) (aV (bF (i:=2) nd (qv 4))) dN))))
   (aV (mD 2)))),bg2⟩)
theorem am7:FnScope ["web","block","around","left","pieces","piece"] ["web","block"] (aX (top 18)):=.au
theorem bk5 (B:Bt mg)(F:FM K mg "cold_pieces" 18 f fd)(d_near_lists:Df P w K mg base 1 "near_lists" ["web"] kO)(d_made_set:hZ P w K mg base 4 "made_set" ["web","hearths"] u6)(d_first_piece:Df P w K mg base 2 "first_piece" ["around","hearths"] u9)(d_without:Df P w K mg base 2 "without" ["hearths","some"] o6):hZ P w K mg base 5 "cold_pieces" ["web","block"] uC:=
 hZ.au F am7 aV1 aV2 (λcdv A outer s H E Ep hr hX=>by
  have nd:=am7.nd
  exact (aI (bF (i:=2) nd (bC d_near_lists hr (a8 (qv 0) aA)))
   (aI (bF (i:=3) nd (aS9 hX d_made_set hr (a8 (qv 0) (a8 (qv 1) aA))))
   (aI (fD (i:=4) nd (gC aA))
   (aI (pR hX.own (mC (qv 3))
    (aI (bF (i:=5) nd (bC d_first_piece hr (a8 (qv 2) (a8 (qv 3) aA))))
    (aI (kJ 4 (qv 5))
    (aV (bF (i:=3) nd (bC d_without hr (a8 (qv 3) (a8 (qv 5) aA))))))))
   (aV (mD 4)))))))
theorem bk6:FnScope ["web"] ["web"] (aX (top 22)):=.au
theorem bk7 (B:Bt mg)(F:FM K mg "all_pieces" 22 f fd)(d_cold_pieces:hZ P w K mg base 5 "cold_pieces" ["web","block"] uC)(d_all_but:Df P w K mg base 3 "all_but" ["web","some"] u8):Df P w K mg base 6 "all_pieces" ["web"] oC:=
 Df.au F bk6 (λcdv A outer s H E hr=>by
  exact⟨(af0),(aV (cE (aT0 d_cold_pieces hr (a8 (qv 0) (a8 (bC d_all_but hr (a8 (qv 0) (a8 (iG aA) aA))) aA))))),aZ6⟩)
theorem bk8:FnScope ["web"] ["web"] (aX (top 21)):=.au
theorem bk9 (B:Bt mg)(F:FM K mg "is_wood" 21 f fd)(d_hearths_in:Df P w K mg base 1 "hearths_in" ["web"] iU)(d_all_pieces:Df P w K mg base 6 "all_pieces" ["web"] oC):Df P w K mg base 7 "is_wood" ["web"] uP:=
 Df.au F bk8 (λcdv A outer s H E hr=>by
  exact⟨(af4),(aV (cE (xM (eF B (a8 (bE (qv 0) aG) aA)) (kI (bC d_hearths_in hr (a8 (qv 0) aA)) (eF B (a8 (bC d_all_pieces hr (a8 (qv 0) aA)) aA)))))),ba2⟩)
theorem am8:FnScope ["web","around","pairs","turn","hearth"] ["web"] (aX (top 23)):=.au
theorem bl0 (B:Bt mg)(F:FM K mg "from_roots" 23 f fd)(d_is_wood:Df P w K mg base 7 "is_wood" ["web"] uP)(d_near_lists:Df P w K mg base 1 "near_lists" ["web"] kO)(d_all_pieces:Df P w K mg base 6 "all_pieces" ["web"] oC)(d_children_of:Df P w K mg base 1 "children_of" ["around","hearth","elder"] oE):Df P w K mg base 8 "from_roots" ["web"] uR:=
 Df.au F am8 (λcdv A outer s H E hr=>by
  have nd:=am8.nd
  exact⟨(af8),(aI (dO (sX (pQ (bC d_is_wood hr (a8 (qv 0) aA)))) (aV xN) dN)
   (aI (bF (i:=1) nd (bC d_near_lists hr (a8 (qv 0) aA)))
   (aI (aJ0 (i:=2) nd (N:=["piece"]) (fr:=[none]) (dC (bC d_all_pieces hr (a8 (qv 0) aA))) (λ_ _ _ _=>(iG (a8 (bE (qv 0) aG) (a8 sR aA)))))
   (aI (bF (i:=3) nd aG)
   (aI (pR bA5 (pP (qv 3) (eF B (a8 (qv 2) aA)))
    (aI (bF (i:=4) nd (bE (bE (qv 2) (qv 3)) aG))
    (aI (aJ2 2 (nS (N:=["child","hearth"]) (fr:=[none,some 4]) (dC (bC d_children_of hr (a8 (qv 1) (a8 (qv 4) (a8 (bE (bE (qv 2) (qv 3)) aG) aA))))) (λ_ _ _ _=>(iG (a8 (qv 0) (a8 (qv 1) aA))))))
    (aV (bF (i:=3) nd (dE (qv 3) aG))))))
   (aV (mD 2))))))),ba5⟩)
theorem am9:FnScope ["web","prices","pairs","known","around","ledger","hearth","elder","below"] ["web","prices"] (aX (top 26)):=.au
theorem bl1 (B:Bt mg)(F:FM K mg "best_ledger" 26 f fd)(d_from_roots:Df P w K mg base 8 "from_roots" ["web"] uR)(d_made_prices:Df P w K mg base 1 "made_prices" ["prices","many"] tZ)(d_hearths_in:Df P w K mg base 1 "hearths_in" ["web"] iU)(d_near_lists:Df P w K mg base 1 "near_lists" ["web"] kO)(d_children_of:Df P w K mg base 1 "children_of" ["around","hearth","elder"] oE)(d_most_pair:Df P w K mg base 2 "most_pair" ["want","price","below"] uV)(rv:mg "reversed" = none):Df P w K mg base 9 "best_ledger" ["web","prices"] uW:=
 Df.au F am9 (λcdv A outer s H E hr=>by
  have nd:=am9.nd
  exact⟨(ai2),(aI (bF (i:=2) nd (bC d_from_roots hr (a8 (qv 0) aA)))
   (aI (bF (i:=3) nd (bC d_made_prices hr (a8 (qv 1) (a8 (bC d_hearths_in hr (a8 (qv 0) aA)) aA))))
   (aI (bF (i:=4) nd (bC d_near_lists hr (a8 (qv 0) aA)))
   (aI (fD (i:=5) nd (tY (gC (a8 (iG (a8 aG (a8 aG aA))) aA)) (bC d_hearths_in hr (a8 (qv 0) aA))))
   (aI (aI9 6 7 nd (aX9 rv (qv 2))
    (aI (V3 (i:=8) nd (N:=["child","ledger"]) (fr:=[none,some 5]) (dC (bC d_children_of hr (a8 (qv 4) (a8 (qv 6) (a8 (qv 7) aA))))) (λ_ _ _ _=>(bE (qv 1) (qv 0))))
    (aV (nU (i:=5) (qv 6) (bC d_most_pair hr (a8 (bE (bE (qv 0) aG) (qv 6)) (a8 (bE (qv 3) (qv 6)) (a8 (qv 8) aA))))))))
   (aV (cE (kK B (a8 (qv 5) aA))))))))),bc6⟩)
theorem an0:FnScope ["script","web","prices","elders","order","ledger","hearth","bough","mine","less"] ["script"] (aX (top 45)):=.au
theorem bl2 (B:Bt mg)(F:fJ K "law" "law" (top 45) f fd)(d__law_wood:Df P w K mg base 3 "_law_wood" ["script","most"] uT)(d__law_prices:Df P w K mg base 2 "_law_prices" ["script","many"] uK)(d__law_elders:Df P w K mg base 2 "_law_elders" ["web"] uX)(d_best_ledger:Df P w K mg base 9 "best_ledger" ["web","prices"] uW)(d__law_bough:Df P w K mg base 1 "_law_bough" ["elders","order","hearth"] v4)(d__law_least_price:Df P w K mg base 4 "_law_least_price" ["web","prices"] v6)(d__law_part:Df P w K mg base 1 "_law_part" ["web","bough","hearth","less"] v5):cZ P w K mg base eC 10 f fd ["script"] (pJ K B1):=
 aO8 F an0 (λxs Q h=>by unfold B1 at h;repeat (first|(obtain⟨rfl,_⟩:=h;rfl)|(obtain⟨_,h⟩:=h))) (λcdv A outer s H E hr=>by
  have nd:=an0.nd
  exact⟨(ak8),(aI (bF (i:=1) nd (bC d__law_wood hr (a8 (qv 0) (a8 aG aA))))
   (aI (bF (i:=2) nd (bC d__law_prices hr (a8 (qv 0) (a8 (eF B (a8 (bE (qv 1) aG) aA)) aA))))
   (aI (aS8 3 4 nd (bC d__law_elders hr (a8 (qv 1) aA)))
   (aI (bF (i:=5) nd (bC d_best_ledger hr (a8 (qv 1) (a8 (qv 2) aA))))
   (aI (fM 6 nd (dC (qv 4))
    (aI (bF (i:=7) nd (bC d__law_bough hr (a8 (qv 3) (a8 (qv 4) (a8 (qv 6) aA)))))
    (aI (V3 (i:=8) nd (N:=["other","prices"]) (fr:=[none,some 2]) (dC (qv 7)) (λ_ _ _ _=>(bE (qv 1) (qv 0))))
    (aV (fM 9 nd (dC (gC (a8 aG (a8 aG aA))))
     (aV (dO (T9 (bE (bE (qv 5) (qv 6)) (kI aG (qv 9))) (bC d__law_least_price hr (a8 (bC d__law_part hr (a8 (qv 1) (a8 (qv 7) (a8 (qv 6) (a8 (qv 9) aA))))) (a8 (qv 8) aA)))) (aV (cE lC)) dN)))))))
   (aV (cE lC))))))),bg3⟩)
end
set_option autoImplicit true in
theorem bl3 {l:OpenLaw}{w:World}{K:Frag}{h:Heap}{mg:Str->Option Value}(X:K.In h)(G:h.Ns mainGlobals mg)(hfa:mg "law" = some (.ref fa))(h0:FK K "made_prices" 6 f0 d0)(h1:FK K "rises" 8 f1 d1)(h2:FK K "hearths_in" 9 f2 d2)(h3:FK K "near_lists" 10 f3 d3)(h4:FK K "marked" 14 f4 d4)(h5:FK K "children_of" 24 f5 d5)(h6:FK K "one_less" 28 f6 d6)(h7:FK K "most_for" 29 f7 d7)(h8:FK K "_law_cell_at" 31 f8 d8)(h9:FK K "_law_mixed" 32 f9 d9)(h10:FK K "_law_beside" 36 f10 d10)(h11:FK K "_law_sets" 39 f11 d11)(h12:FK K "_law_bough" 42 f12 d12)(h13:FK K "_law_part" 43 f13 d13)(h14:FK K "is_hearth" 11 f14 d14)(h15:FK K "without" 15 f15 d15)(h16:FK K "first_piece" 19 f16 d16)(h17:FK K "most_pair" 27 f17 d17)(h18:FK K "_law_hearths" 33 f18 d18)(h19:FK K "_law_places" 34 f19 d19)(h20:FK K "_law_burning" 37 f20 d20)(h21:FK K "_law_elders" 40 f21 d21)(h22:FK K "_law_prices" 41 f22 d22)(h23:FK K "is_set" 12 f23 d23)(h24:FK K "all_but" 16 f24 d24)(h25:FK K "_law_wood" 35 f25 d25)(h26:FK K "_law_lights" 38 f26 d26)(h27:FK K "made_set" 13 f27 d27)(h28:FK K "_law_least_price" 44 f28 d28)(h29:FK K "cold_pieces" 18 f29 d29)(h30:FK K "all_pieces" 22 f30 d30)(h31:FK K "is_wood" 21 f31 d31)(h32:FK K "from_roots" 23 f32 d32)(h33:FK K "best_ledger" 26 f33 d33)(a34:nsIn K mainGlobals "law" = some (some (.ref f34)))(l34:K.lookup f34=some ⟨oc34,od34,.func (fnOf "law" "law" (jY (top 45)) (fI (top 45)) (aX (top 45)) .none kV34 dc34 pm34 an34 cd34 ct34),sl34⟩)(c34:codeIn K cd34 "law" = true)(k34:keepIn K (.ref f34)=true)(z_len:nsIn K mainGlobals "len" = some none)(z_range:nsIn K mainGlobals "range" = some none)(z_tuple:nsIn K mainGlobals "tuple" = some none)(z_list:nsIn K mainGlobals "list" = some none)(z_sorted:nsIn K mainGlobals "sorted" = some none)(z_all:nsIn K mainGlobals "all" = some none)(z_any:nsIn K mainGlobals "any" = some none)(z_zip:nsIn K mainGlobals "zip" = some none)(z_min:nsIn K mainGlobals "min" = some none)(z_max:nsIn K mainGlobals "max" = some none)(z_sum:nsIn K mainGlobals "sum" = some none)(z_isinstance:nsIn K mainGlobals "isinstance" = some none)(z_int:nsIn K mainGlobals "int" = some none)(z_bool:nsIn K mainGlobals "bool" = some none)(z_enumerate:nsIn K mainGlobals "enumerate" = some none)(z_reversed:nsIn K mainGlobals "reversed" = some none){C_HearthError C_BadSet C_BadPrices C_NotWood:Addr}(aX_HE:nsIn K mainGlobals "HearthError" = some (some (.ref C_HearthError)))(aX_BS:nsIn K mainGlobals "BadSet" = some (some (.ref C_BadSet)))(aX_BP:nsIn K mainGlobals "BadPrices" = some (some (.ref C_BadPrices)))(aX_NW:nsIn K mainGlobals "NotWood" = some (some (.ref C_NotWood)))(zX_BW:nsIn K mainGlobals "BadWeb" = some none)(zX_BO:nsIn K mainGlobals "BadOrder" = some none)(zX_BB:nsIn K mainGlobals "BadBoard" = some none)(zX_BD:nsIn K mainGlobals "BadDeed" = some none)(zX_NP:nsIn K mainGlobals "NoPaper" = some none)(zX_NS:nsIn K mainGlobals "NoSuch" = some none)(zX_TM:nsIn K mainGlobals "TooMany" = some none)(zX_NT:nsIn K mainGlobals "NoText" = some none)(zX_OR:nsIn K mainGlobals "OddRound" = some none)(y_fg:specialIn K (.builtin "object.__class__") "__get__" = some (some (.builtin "getset_descriptor.__get__")))(y_ft:takesIn K (.builtin "object.__class__")=some true)(z_VE:nsIn K mainGlobals "ValueError" = some none)(y1_HE:isClsIn K C_HearthError=true)(y2_HE:typeIn K (.ref C_HearthError)=some (.type "type"))(y3_HE:findIn K (.ref C_HearthError) "__getattribute__" = some (some (.builtin "BaseException.__getattribute__")))(y4_HE:findIn K (.ref C_HearthError) "__getattr__" = some none)(y5_HE:findIn K (.ref C_HearthError) "__class__" = some (some (.builtin "object.__class__")))(y6_HE:mroIn K C_HearthError (.type "object")=some true)(y7_HE:mroIn K C_HearthError (.type "BaseException")=some true)(y1_BS:isClsIn K C_BadSet=true)(y2_BS:typeIn K (.ref C_BadSet)=some (.type "type"))(y3_BS:findIn K (.ref C_BadSet) "__getattribute__" = some (some (.builtin "BaseException.__getattribute__")))(y4_BS:findIn K (.ref C_BadSet) "__getattr__" = some none)(y5_BS:findIn K (.ref C_BadSet) "__class__" = some (some (.builtin "object.__class__")))(y6_BS:mroIn K C_BadSet (.type "object")=some true)(y7_BS:mroIn K C_BadSet (.type "BaseException")=some true)(y1_BP:isClsIn K C_BadPrices=true)(y2_BP:typeIn K (.ref C_BadPrices)=some (.type "type"))(y3_BP:findIn K (.ref C_BadPrices) "__getattribute__" = some (some (.builtin "BaseException.__getattribute__")))(y4_BP:findIn K (.ref C_BadPrices) "__getattr__" = some none)(y5_BP:findIn K (.ref C_BadPrices) "__class__" = some (some (.builtin "object.__class__")))(y6_BP:mroIn K C_BadPrices (.type "object")=some true)(y7_BP:mroIn K C_BadPrices (.type "BaseException")=some true)(y1_NW:isClsIn K C_NotWood=true)(y2_NW:typeIn K (.ref C_NotWood)=some (.type "type"))(y3_NW:findIn K (.ref C_NotWood) "__getattribute__" = some (some (.builtin "BaseException.__getattribute__")))(y4_NW:findIn K (.ref C_NotWood) "__getattr__" = some none)(y5_NW:findIn K (.ref C_NotWood) "__class__" = some (some (.builtin "object.__class__")))(y6_NW:mroIn K C_NotWood (.type "object")=some true)(y7_NW:mroIn K C_NotWood (.type "BaseException")=some true)(q_BS:excIn K C_BadSet [.type "ValueError",.type "Exception",.type "BaseException",.type "object"] "ValueError.__new__" = true)
 :∃fd:FuncData,(∀(s:Shared) (v:Value),BindsTo s fd ⟨[v],[]⟩ [("script",v)])/\∀base:Heap,K.In base->base.Ns mainGlobals mg->cZ l.prog w K mg base eC 10 fa fd ["script"] (tX K):=by
 have e:=hfa.symm.trans (mg_of X G a34)
 cases e
 have F34:=ay6 (st:=top 45) l34 c34 k34
 have m34:=mg_of X G a34
 have B:Bt mg:=⟨mg_none_of X G z_len,mg_none_of X G z_range,mg_none_of X G z_tuple,mg_none_of X G z_list,mg_none_of X G z_sorted,mg_none_of X G z_all,mg_none_of X G z_any,mg_none_of X G z_zip,mg_none_of X G z_min,mg_none_of X G z_max,mg_none_of X G z_sum,mg_none_of X G z_isinstance,mg_none_of X G z_int,mg_none_of X G z_bool,mg_none_of X G z_enumerate⟩
 have rv:=mg_none_of X G z_reversed
 refine⟨fnOf "law" "law" (jY (top 45)) (fI (top 45)) (aX (top 45)) .none kV34 dc34 pm34 an34 cd34 ct34,λs v=>.of_eq rfl,λbase KB _=>?_⟩
 have XK_HearthError:u5 K C_HearthError:=⟨y1_HE,y2_HE,y3_HE,y4_HE,y5_HE,y_fg,y_ft,y6_HE,y7_HE⟩
 have XK_BadSet:u5 K C_BadSet:=⟨y1_BS,y2_BS,y3_BS,y4_BS,y5_BS,y_fg,y_ft,y6_BS,y7_BS⟩
 have XK_BadPrices:u5 K C_BadPrices:=⟨y1_BP,y2_BP,y3_BP,y4_BP,y5_BP,y_fg,y_ft,y6_BP,y7_BP⟩
 have XK_NotWood:u5 K C_NotWood:=⟨y1_NW,y2_NW,y3_NW,y4_NW,y5_NW,y_fg,y_ft,y6_NW,y7_NW⟩
 have x_BadSet:Xc K mg base "BadSet":=⟨C_BadSet,_,_,_,_,aT3 KB (mg_of X G aX_BS) q_BS,PySem.F.excBase_ValueError,aX_BS⟩
 have D0:=bg9 (P:=l.prog) (w:=w) (base:=base) B (h0.M X G)
 have D1:=aO1 (bg5 (P:=l.prog) (w:=w) (base:=base) B h1.F) (h1.F.binds (ps:=["things"]) λ_ _ _ _ _ _ us hl=>by obtain⟨_,rfl⟩:=o8 hl;rfl) h1.F.kp (mg_of X G h1.a)
 have D2:=bh1 (P:=l.prog) (w:=w) (base:=base) B (h2.M X G)
 have D3:=aO2 (bg6 (P:=l.prog) (w:=w) (mg:=mg) (base:=base) h3.F) (h3.F.binds (ps:=["web"]) λ_ _ _ _ _ _ us hl=>by obtain⟨_,rfl⟩:=o8 hl;rfl) h3.F.kp (mg_of X G h3.a)
 have D4:=bh2 (P:=l.prog) (w:=w) (base:=base) B (h4.M X G)
 have D5:=bh4 (P:=l.prog) (w:=w) (base:=base) B (h5.M X G)
 have D6:=bh6 (P:=l.prog) (w:=w) (base:=base) B (h6.M X G)
 have D7:=bh7 (P:=l.prog) (w:=w) (base:=base) B (h7.M X G)
 have D8:=bh9 (P:=l.prog) (w:=w) (base:=base) B (h8.M X G)
 have D9:=bi0 (P:=l.prog) (w:=w) (base:=base) B (h9.M X G)
 have D10:=aV9 (bg7 (P:=l.prog) (w:=w) (mg:=mg) (base:=base) h10.F) (h10.F.binds (ps:=["web"]) λ_ _ _ _ _ _ us hl=>by obtain⟨_,rfl⟩:=o8 hl;rfl) h10.F.kp (mg_of X G h10.a)
 have D11:=bi1 (P:=l.prog) (w:=w) (base:=base) B (h11.M X G)
 have D12:=bi2 (P:=l.prog) (w:=w) (base:=base) B (h12.M X G)
 have D13:=bi3 (P:=l.prog) (w:=w) (base:=base) B (h13.M X G)
 have D14:=bi5 (P:=l.prog) (w:=w) (base:=base) B (h14.M X G) D2
 have D15:=bi6 (P:=l.prog) (w:=w) (base:=base) B (h15.M X G) D4
 have D16:=bi7 (P:=l.prog) (w:=w) (base:=base) B (h16.M X G) D4
 have D17:=bi9 (P:=l.prog) (w:=w) (base:=base) B (h17.M X G) D7 D6
 have D18:=bj0 (P:=l.prog) (w:=w) (base:=base) B (h18.M X G) D8
 have D19:=bj1 (P:=l.prog) (w:=w) (base:=base) B (h19.M X G) D8 D9
 have D20:=bj2 (P:=l.prog) (w:=w) (base:=base) B (h20.M X G) D10
 have D21:=bj3 (P:=l.prog) (w:=w) (base:=base) B (h21.M X G) D10
 have D22:=bj4 (P:=l.prog) (w:=w) (base:=base) B (h22.M X G) D9 D8
 have D23:=bj6 (P:=l.prog) (w:=w) (base:=base) B (h23.M X G) D1 D14
 have D24:=bj8 (P:=l.prog) (w:=w) (base:=base) B (h24.M X G) D15 D2
 have D25:=bj9 (P:=l.prog) (w:=w) (base:=base) B (h25.M X G) D18 D8 D9 D19
 have D26:=bk1 (P:=l.prog) (w:=w) (base:=base) B (h26.M X G) D20
 have D27:=bk3 (P:=l.prog) (w:=w) (base:=base) B (h27.M X G) D23 x_BadSet
 have D28:=bk4 (P:=l.prog) (w:=w) (base:=base) B (h28.M X G) D11 D26
 have D29:=bk5 (P:=l.prog) (w:=w) (base:=base) B (h29.M X G) D3 D27 D16 D15
 have D30:=bk7 (P:=l.prog) (w:=w) (base:=base) B (h30.M X G) D29 D24
 have D31:=bk9 (P:=l.prog) (w:=w) (base:=base) B (h31.M X G) D2 D30
 have D32:=bl0 (P:=l.prog) (w:=w) (base:=base) B (h32.M X G) D31 D3 D30 D5
 have D33:=bl1 (P:=l.prog) (w:=w) (base:=base) B (h33.M X G) D32 D0 D2 D3 D5 D17 rv
 exact aO9 (bl2 B F34 D25 D22 D21 D33 D12 D28 D13)
theorem bl4 {l:OpenLaw}{q:Program}{loose:List Str}{XP:(Str->Option Value)->Heap->Prop}{YP:World->Heap->Prop}{d:DefRec}{K:Params->Frag}(hn:l.most=some 63)(hdf:d.params.defaults = [])(hY:∀(w:World) (h:Heap),YP w h->(K w.params).In h)(F:∀(w:World) (mg:Str->Option Value) (fa:Addr) (h:Heap),(K w.params).In h->h.Ns mainGlobals mg->mg d.name=some (.ref fa)->
   ∃fd:FuncData,(∀(s:Shared) (u:Value),BindsTo s fd ⟨[u],[]⟩ [("script",u)])/\∀base:Heap,(K w.params).In base->base.Ns mainGlobals mg->cZ l.prog w (K w.params) mg base eC 10 fa fd ["script"] (tX (K w.params))) :
  WalkO q loose XP YP l.row.toRowW d [] (λf vs=>PySem.call f vs):=
 L2.ay4 (n:=63) (k:=10) (x:="script") (CX:=λ_=>eC) (sp:=λw=>tX (K w.params)) hn (by decide) hdf ⟨rfl,by decide,by decide⟩ hY F (λ_ _ a ns hl hO hS=>⟨a,ns,rfl,aP0 hO hS,hl,λ_=>rfl⟩) λ_ _ _ _ _ z=>z
end K_k54
open PySem PySem.W PyProof.Rows
theorem PySem.W.Fast.te13052408679150730464 : True := trivial
theorem PySem.W.Fast.te16555476440528808052 : True := trivial
theorem PySem.W.Fast.te5369427470323729400 : True := trivial
set_option maxRecDepth 100000 in
set_option maxHeartbeats 0 in
theorem PySem.Challenge.cw_kindleweb_k54_whole_what_ledgers_mean_holds : PySem.Challenge.rw_kindleweb_k54_whole_what_ledgers_mean.Holds := by
 w_on;o_law;k_head;(case hw => w_witness2)
 k_fill
 refine K_k54.bl4 (l := PySem.Challenge.rw_kindleweb_k54_whole_what_ledgers_mean) rfl rfl (λw h Y => PySem.W.kIn_of Y) ?F
 case F =>
  intro w mg fa h KX G hmg
  refine' K_k54.bl3 KX G hmg ?h0 ?h1 ?h2 ?h3 ?h4 ?h5 ?h6 ?h7 ?h8 ?h9 ?h10 ?h11 ?h12 ?h13 ?h14 ?h15 ?h16 ?h17 ?h18 ?h19 ?h20 ?h21 ?h22 ?h23 ?h24 ?h25 ?h26 ?h27 ?h28 ?h29 ?h30 ?h31 ?h32 ?h33 ?a34 ?l34 ?c34 ?k34 ?z_len ?z_range ?z_tuple ?z_list ?z_sorted ?z_all ?z_any ?z_zip ?z_min ?z_max ?z_sum ?z_isinstance ?z_int ?z_bool ?z_enumerate ?z_reversed ?aX_HE ?aX_BS ?aX_BP ?aX_NW ?zX_BW ?zX_BO ?zX_BB ?zX_BD ?zX_NP ?zX_NS ?zX_TM ?zX_NT ?zX_OR ?y_fg ?y_ft ?z_VE ?y1_HE ?y2_HE ?y3_HE ?y4_HE ?y5_HE ?y6_HE ?y7_HE ?y1_BS ?y2_BS ?y3_BS ?y4_BS ?y5_BS ?y6_BS ?y7_BS ?y1_BP ?y2_BP ?y3_BP ?y4_BP ?y5_BP ?y6_BP ?y7_BP ?y1_NW ?y2_NW ?y3_NW ?y4_NW ?y5_NW ?y6_NW ?y7_NW ?q_BS
  (case h0|h1|h2|h3|h4|h5|h6|h7|h8|h9|h10|h11|h12|h13|h14|h15|h16|h17|h18|h19|h20|h21|h22|h23|h24|h25|h26|h27|h28|h29|h30|h31|h32|h33 => exact⟨by k_is, ⟨⟨_, _, _, _, _, _, _, _, _, rfl, by k_is, by k_is⟩, by k_is⟩⟩)
  (case a34|l34|c34|k34|z_len|z_range|z_tuple|z_list|z_sorted|z_all|z_any|z_zip|z_min|z_max|z_sum|z_isinstance|z_int|z_bool|z_enumerate|z_reversed|aX_HE|aX_BS|aX_BP|aX_NW|zX_BW|zX_BO|zX_BB|zX_BD|zX_NP|zX_NS|zX_TM|zX_NT|zX_OR|y_fg|y_ft|z_VE|y1_HE|y2_HE|y3_HE|y4_HE|y5_HE|y6_HE|y7_HE|y1_BS|y2_BS|y3_BS|y4_BS|y5_BS|y6_BS|y7_BS|y1_BP|y2_BP|y3_BP|y4_BP|y5_BP|y6_BP|y7_BP|y1_NW|y2_NW|y3_NW|y4_NW|y5_NW|y6_NW|y7_NW => k_is)
  (case q_BS => k_exc)


