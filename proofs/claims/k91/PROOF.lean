import PyProof.Rows.All
import Wide.All
import OpenK.AllK
import Wide.FinOn
import Lean
import PyProof.EqAt
import PyProof.EqKinds
import PyProof.TupleCall
import PyProof.NeKinds
import PyProof.Draws
import PyProof.ZipIter
import PyProof.DictUpdate
import PyProof.AutoSeq1
import PyProof.ListRange
import PyProof.ListMulRoad
import PyProof.FactsAll.tuple_2
import PyProof.Rows.SortShell
import PyProof.EnumFor
import PyProof.EnumMake
import PyProof.EnumStmt
import PyProof.Rows.SortWalk
import KE.KDictList
import PyProof.SumAny
import PyProof.ConsumeWalk
import PyProof.WalksMore
import PyProof.Rows.TupAssign
import PyProof.ExcArgsOwn
import PySem.Challenge.RW_kindleweb_k91_whole_what_helps
set_option Elab.async false
set_option linter.all false
set_option maxRecDepth 100000
set_option maxHeartbeats 4000000
section
open PySem PySem.Spec PyProof.Rows
def bk5:=@wpAny_bind
def bk6:=@Heap.get?_push_of_some
def bk7:=@List.size_toArray
def bk8:=@List.getElem?_eq_getElem
def bk9:=@Nat.le_refl
def bl0:=@wpAny_pure
def bl1:=@List.length_map
def bl2:=@List.mem_cons
def bl3:=@List.mem_singleton
def bl4:=@List.length_append
def bl5:=@wpS_bind
def bl6:=@Option.some.inj
def bl7:=@List.getElem?_eq_some_iff
def bl8:=@Heap.lt_size
def bm0:=@Heap.get?_push_size
def bm1:=@List.not_mem_nil
def bm2:=@decide_eq_true_eq
def bm3:=@decide_eq_false
def bm4:=@wpS_pure
def bm5:=@Nat.lt_of_lt_of_le
def bm6:=@Bool.false_ne_true
def bm7:=@List.getElem?_map
def bm8:=@List.mem_cons_self
def bm9:=@List.mem_cons_of_mem
def bn0:=@decide_eq_true
def bn1:=@List.append_assoc
def bn2:=@List.getElem?_set_ne
def bn3:=@List.pairwise_singleton
def bn4:=@Bool.and_eq_true
def bn5:=@Bool.false_eq_true
def bn6:=@Nat.ne_of_lt
def bn7:=@List.getD_eq_getElem?_getD
def bn9:=@List.mem_append
def bo0:=@Nat.zero_le
def bo1:=@List.length_cons
def bo2:=@List.take_append_drop
def bo3:=@Nat.le_trans
def bo4:=@List.append_nil
def bo5:=@List.mem_append_right
def bo6:=@List.length_singleton
def bo8:=@decide_eq_false_iff_not
def bo9:=@List.mem_map
def bp1:=@or_false
def bp2:=@Array.getElem_mem
def bp3:=@List.map_cons
def bp5:=@PySem.mem_of_lookup
def bp7:=@List.pairwise_append
def bp8:=@List.lookup_cons
def bp9:=@Nat.le_add_right
def bq0:=@Bool.eq_iff_iff
def bq1:=@List.map_append
def bq2:=@of_decide_eq_false
def bq3:=@Nat.lt_or_ge
def bq4:=@wpAny_field
def bq5:=@wpAny_callSpecial?_slot
def bq7:=@wpAny_call_entry
def bq8:=@List.length_set
def bq9:=@List.take_length
def br0:=@Nat.le_of_lt
def br1:=@List.getElem?_set_self
def br2:=@Nat.lt_irrefl
def br3:=@wpAny_setField_rec
def br4:=@Array.toList_append
def br6:=@List.length_take
def br7:=@wpAny_newObj_type
def br8:=@List.getElem?_append_left
def br9:=@List.pairwise_iff_getElem
def bs1:=@wpS_forRange
def bs2:=@Heap.size_push
def bs3:=@beq_self_eq_true
def bs4:=@beq_eq_false_iff_ne
def bs5:=@wpAny_mono
def bs6:=@Nat.ne_of_gt
def bs7:=@PyProof.Rows.callWith_type1
def bs8:=@if_false
def bt0:=@List.mem_of_getElem?
def bt1:=@Int.le_refl
def bt2:=@List.all_eq_true
def bt5:=@List.length_range
def bt6:=@List.nodup_append
def bt8:=@List.find?_cons
def bt9:=@List.mem_append_left
def bu0:=@List.length_drop
def bu2:=@List.getElem?_cons_succ
def bu3:=@List.getElem_mem
def bu6:=@List.getElem?_append_right
def bu7:=@of_decide_eq_true
def bu8:=@List.take_add_one
def bu9:=@List.take_of_length_le
def bv2:=@List.mem_filter
def bv3:=@Int.emod_nonneg
def bv4:=@PyProof.Rows.slot_tuple_getitem
def bv5:=@Array.getElem?_toList
def bv6:=@List.length_filter_le
def bv7:=@wpAny_pyIter_tuple
def bv9:=@List.filter_cons
def bw0:=@Array.eq_empty_of_size_eq_zero
def bw4:=@PySem.F.slot_list_append
def bw5:=@PySem.F.type_list_append
def bw7:=@List.getElem?_of_mem
def bw8:=@Bool.or_eq_false_iff
def bw9:=@wpAny_truthy_bool
def bx0:=@PySem.F.plainAttrs_list
def bx4:=@Calls.callWith_builtin
def bx5:=@List.map_map
def bx6:=@List.all_cons
def bx9:=@wpAny_seqItems
def by0:=@Nat.eq_or_lt_of_le
def by1:=@Int.emod_lt_of_pos
def by2:=@List.perm_append_comm
def by3:=@wpAny_passesOwn
def by5:=@Nat.le_succ
def by8:=@Calls.evalArgs_plain
def by9:=@wpS_mono
def bz0:=@List.mem_of_mem_take
def bz1:=@wpAny_holding
def bz4:=@wpAny_rule
def bz6:=@List.drop_take
end
abbrev aa:=List (Int×Int)
abbrev ac:=PySem.W.Frag
abbrev ae:=List (List Int)
abbrev af:=List Int
namespace L2
open PySem PySem.Spec PyProof.Rows
abbrev aD:=Sum Int Str
def lV:aD->Value->Bool
 |.inl k,v=>Value.isInt k v
 |.inr x,v=>Value.isStrOf x v
def ak2 (w:World):aD->Int
 |.inl k=>hashInt k
 |.inr x=>hashStr w x
theorem iB:∀{k:aD}{v:Value},lV k v=true->(∃i t,k=Sum.inl i/\v=Value.int i t)∨(∃x t,k=Sum.inr x/\v=Value.str x t)
 |.inl i,v,h=>by
  obtain⟨t,e⟩:=Value.isInt_shape (k:=i) (v:=v) h
  exact .inl ⟨i,t,rfl,e⟩
 |.inr x,v,h=>by
  obtain⟨t,e⟩:=Value.isStrOf_shape (x:=x) (v:=v) h
  exact .inr ⟨x,t,rfl,e⟩
theorem ak3 (i:Int)(t:Tok):lV (.inl i) (.int i t)=true:=by simp[lV,Value.isInt]
theorem A5 (x:Str)(t:Tok):lV (.inr x) (.str x t)=true:=by simp[lV,Value.isStrOf]
theorem ak4 (a b:Int):decide ((Sum.inl a:aD)=Sum.inl b)=(a==b):=by
 by_cases e:a=b
 ·subst e;simp
 ·have h:¬(Sum.inl a:aD)=Sum.inl b:=λq=>e (Sum.inl.inj q)
  rw[bm3 h]
  exact (bs4.mpr e).symm
theorem ak5 (a b:Str):decide ((Sum.inr a:aD)=Sum.inr b)=decide (a=b):=by
 by_cases e:a=b
 ·subst e;simp
 ·have h:¬(Sum.inr a:aD)=Sum.inr b:=λq=>e (Sum.inr.inj q)
  rw[bm3 h,bm3 e]
theorem ak6 (a:Int)(b:Str):decide ((Sum.inl a:aD)=Sum.inr b)=false:=bm3 (λq=>nomatch q)
theorem ak7 (a:Str)(b:Int):decide ((Sum.inr a:aD)=Sum.inl b)=false:=bm3 (λq=>nomatch q)
def dA (prog:Program)(w:World):PySem.KeyKind prog w aD where
 is:=lV
 hash:=ak2 w
 inj:=λv a b ha hb=>by
  rcases iB ha with⟨i,t,rfl,rfl⟩|⟨x,t,rfl,rfl⟩
  ·rcases iB hb with⟨j,u,rfl,e⟩|⟨y,u,rfl,e⟩
   ·injection e with e1 _;rw[e1]
   ·exact nomatch e
  ·rcases iB hb with⟨j,u,rfl,e⟩|⟨y,u,rfl,e⟩
   ·exact nomatch e
   ·injection e with e1 _;rw[e1]
 byValue:=λk v h=>by
  rcases iB h with⟨i,t,rfl,rfl⟩|⟨x,t,rfl,rfl⟩<;>rfl
 pyHash:=λhv h=>by
  rcases iB hv with⟨i,t,rfl,rfl⟩|⟨x,t,rfl,rfl⟩
  ·exact wpAny_pyHash_int h
  ·exact wpAny_pyHash_str h
 eqBool:=λhu hv h=>by
  rcases iB hu with⟨i,t,rfl,rfl⟩|⟨x,t,rfl,rfl⟩
  ·rcases iB hv with⟨j,u,rfl,rfl⟩|⟨y,u,rfl,rfl⟩
   ·rw[ak4]at h;exact wpAny_eqBool_int h
   ·rw[ak6]at h;exact SeqAt.EqAt.int_str i t y u _ _ _ _ h
  ·rcases iB hv with⟨j,u,rfl,rfl⟩|⟨y,u,rfl,rfl⟩
   ·rw[ak7]at h;exact SeqAt.EqAt.str_int x t j u _ _ _ _ h
   ·rw[ak5]at h;exact wpAny_eqBool_str h
 «strs»:=λk x t v h=>by
  rcases iB h with⟨i,u,rfl,e⟩|⟨y,u,rfl,e⟩
  ·exact nomatch e
  ·injection e with e1 _
   subst e1
   cases v<;>rfl
theorem ak8 (prog:Program)(w:World)(i:Int)(t:Tok):(dA prog w).is (.inl i) (.int i t)=true:=ak3 i t
theorem ak9 (prog:Program)(w:World)(x:Str)(t:Tok):(dA prog w).is (.inr x) (.str x t)=true:=A5 x t
inductive V where
 |non|bl (b:Bool)|int (i:Int)|str (x:Str)|byt (b:Array UInt8)|flt (b:UInt64)|ref (a:Addr)|ty (n:String)
 deriving DecidableEq
def aT:V->Value->Prop
 |.non,u=>u=Value.none
 |.bl b,u=>u=Value.bool b
 |.int i,u=>∃t,u=Value.int i t
 |.str x,u=>∃t,u=Value.str x t
 |.byt b,u=>∃t,u=Value.bytes b t
 |.flt b,u=>∃t,u=Value.float b t
 |.ref a,u=>u=Value.ref a
 |.ty n,u=>u=Value.type n
abbrev aQ:List V->List Value->Prop:=Paired aT
theorem aQ.length {xs:List V}{us:List Value}(r:aQ xs us):xs.length=us.length:=Paired.length r
theorem aQ.get:∀{xs:List V}{us:List Value}{i:Nat}{x:V},aQ xs us->xs[i]? = some x->∃u,us[i]? = some u/\aT x u
 |_,_,_,_,.nil,e=>by simp at e
 |_,_,0,_,.cons r _,e=>by simp at e;subst e;exact⟨_,rfl,r⟩
 |_,_,i+1,x,.cons _ t,e=>by
  obtain⟨u,h1,h2⟩:=aQ.get (i:=i) (x:=x) t (by simpa using e)
  exact⟨u,by simpa using h1,h2⟩
theorem aQ.append:∀{xs ys:List V}{us ws:List Value},aQ xs us->aQ ys ws->aQ (xs++ys) (us++ws)
 |_,_,_,_,.nil,s=>s
 |_,_,_,_,.cons r t,s=>.cons r (aQ.append t s)
theorem aQ.take:∀{xs:List V}{us:List Value} (n:Nat),aQ xs us->aQ (xs.take n) (us.take n)
 |_,_,0,_=>.nil
 |_,_,_+1,.nil=>.nil
 |_,_,n+1,.cons r t=>.cons r (aQ.take n t)
theorem aQ.drop:∀{xs:List V}{us:List Value} (n:Nat),aQ xs us->aQ (xs.drop n) (us.drop n)
 |_,_,0,r=>r
 |_,_,_+1,.nil=>.nil
 |_,_,n+1,.cons _ t=>aQ.drop n t
def eS:Option V->Option Value->Prop
 |some v,some u=>aT v u
 |none,none=>True
 |_,_=>False
def KV {κ:Type}:List (κ×V)->List (κ×Value)->Prop:=Paired λ(p:κ×V) (q:κ×Value)=>p.1=q.1/\aT p.2 q.2
def kV:aD->V
 |.inl i=>.int i
 |.inr x=>.str x
inductive HO where
 |lst (xs:List V)
 |tup (xs:List V)
 |dK (kvs:List (aD×V))|dT (kvs:List (List aD×V))
 |set (S:Int->Bool) (n:Nat)
 |ins (C dx:Addr) (fs:List (Str×V))
 |own (x:Addr)
 |xd (fs:List (Str×V))
 |met (f x:Addr)
 |rng (lo hi:Int)
 |frz (o:Obj) (u:HO)
 |tbl (ps:Array Value)
 |ext (φ:Heap->Prop)
abbrev Hp:=Addr->Option HO
def upd (H:Hp)(a:Addr)(o:HO):Hp:=λb=>if b=a then some o else H b
theorem aU {H:Hp}{a:Addr}{o:HO}:upd H a o a=some o:=by unfold upd;rw[if_pos rfl]
theorem aF {H:Hp}{a b:Addr}{o:HO}(h:b≠a):upd H a o b=H b:=by unfold upd;rw[if_neg h]
theorem iM {H:Hp}{a:Addr}{o u:HO}:upd (upd H a o) a u=upd H a u:=by
 funext b;unfold upd;split<;>rfl
theorem al0 {H:Hp}{a b:Addr}{o u:HO}(h:H a=some o)(h':H b=some u)(d:o≠u):a≠b:=by
 intro e;subst e;rw[h]at h';exact d (bl6 h')
theorem cX {H:Hp}{a b:Addr}{o:HO}(h:H a=some o)(h':H b=none):a≠b:=by
 intro e;subst e;rw[h]at h';cases h'
def iC (h:Heap)(a:Addr):Prop:=∀o,h.get? a=some o->o.dict=none
theorem iC.new (h:Heap)(o:Obj)(d:o.dict=none)(s:o.isFreed=false:=by rfl):iC (h.push o) h.objs.size:=λu e=>by
 rw[bm0 h (o:=o) s]at e
 cases e;exact d
theorem iC.stay {h h':Heap}{a:Addr}{o:Obj}(n:iC h a)(e:h.get? a=some o)(e':h'.get? a=some o):iC h' a:=λu hu=>by
 rw[e']at hu;cases hu;exact n _ e
section
variable (P:Program)(w:World)
def cF (H:Hp)(h:Heap)(a:Addr):HO->Prop
 |.lst xs=>xs.length<=sizeLine/\∃(its:List Value) (n:Nat),aQ xs its/\h.get? a=some { cls:=.type "list",data:=.seq its.toArray n }
 |.tup xs=>xs.length<=sizeLine/\∃its:List Value,aQ xs its/\IsTup h a its.toArray/\iC h a
 |.dK kvs=>kvs.length<=sizeLine/\(a==sysModules)=false/\∃vs,KV kvs vs/\h.DictOf (dA P w) a vs
 |.dT kvs=>kvs.length<=sizeLine/\(a==sysModules)=false/\∃xs:List (List aD×Addr×Value),
   Paired (λ(p:List aD×V) (q:List aD×Addr×Value)=>p.1=q.1/\H q.2.1=some (.tup (p.1.map kV))/\aT p.2 q.2.2) kvs xs/\
   ∃o es ep,h.get? a=some o/\o.ExactDict/\o.data = .dict es ep/\es.toList=xs.map (entryOfKey (tupleKind (dA P w)))/\(xs.map (·.1)).Nodup
 |.set S n=>h.SetOf (intKind P w) a S n
 |.ins C dx fs=>H dx=some (.own a)/\fs.length<=1000/\dx≠a/\h.get? a=some (PySem.W.instObj C dx)/\
   ∃mA,h.Ns1 dx mA/\(∀f,eS (fs.lookup f) (mA f))/\PySem.Within mA (fs.map (·.1))
 |.own _=>∃o,h.get? a=some o
 |.xd fs=>∃mA,h.Ns1 a mA/\∀f,eS (fs.lookup f) (mA f)
 |.rng lo hi=>∃t u v,h.get? a=some { cls:=.type "range",data:=.fields #[.int lo t,.int hi u,.int 1 v] }
 |.frz o u=>h.get? a=some o/\cF H h a u
 |.tbl ps=>h.get? a=some { cls:=.none,data:=.fields ps }
 |.met f x=>h.get? a=some (PySem.W.methodObj (.ref f) (.ref x))
 |.ext φ=>φ h/\(∃o,h.get? a=some o)/\∀h1 h2:Heap,φ h1->(∀o,h1.get? a=some o->h2.get? a=some o)->φ h2
def bV (H:Hp)(h:Heap):Prop:=∀a o,H a=some o->cF P w H h a o
end
section
variable {P:Program}{w:World}{H H':Hp}{h h':Heap}{a:Addr}{o:HO}
theorem cF.lt (x:cF P w H h a o):a<h.objs.size:=by
 cases o with
 |lst xs=>obtain⟨_,_,_,_,e⟩:=x;exact bl8 e
 |tup xs=>obtain⟨_,_,_,p,_⟩:=x;exact p.lt
 |dK kvs=>obtain⟨_,_,_,_,o,_,_,e,_⟩:=x;exact bl8 e
 |dT kvs=>obtain⟨_,_,_,_,o,_,_,e,_⟩:=x;exact bl8 e
 |set S n=>obtain⟨o,_,_,_,e,_⟩:=x;exact bl8 e
 |ins C dx fs=>obtain⟨_,_,_,e,_⟩:=x;exact bl8 e
 |own y=>obtain⟨_,e⟩:=x;exact bl8 e
 |xd fs=>obtain⟨_,⟨_,_,_,e,_⟩,_⟩:=x;exact bl8 e
 |rng lo hi=>obtain⟨_,_,_,e⟩:=x;exact bl8 e
 |frz ob u=>obtain⟨e,_⟩:=x;exact bl8 e
 |tbl ps=>exact bl8 (show h.get? a=some _ from x)
 |met f y=>exact bl8 (show h.get? a=some _ from x)
 |ext φ=>obtain⟨_,⟨_,e⟩,_⟩:=x;exact bl8 e
theorem Paired.mapP {α β:Type}{F G:α->β->Prop}:∀{l₁:List α}{l₂:List β},Paired F l₁ l₂->(∀a b,F a b->G a b)->Paired G l₁ l₂
 |_,_,.nil,_=>.nil
 |_,_,.cons r t,f=>.cons (f _ _ r) (Paired.mapP t f)
theorem cF.stay (x:cF P w H h a o)(k:∀b u,(b=a∨H b=some (.own a))->h.get? b=some u->h'.get? b=some u)(ho:∀b,H b=some (.own a)->H' b=some (.own a))(ht:∀b xs,H b=some (.tup xs)->H' b=some (.tup xs)):cF P w H' h' a o:=by
 induction o with
 |lst xs=>obtain⟨z,its,n,r,e⟩:=x;exact⟨z,its,n,r,k _ _ (.inl rfl) e⟩
 |tup xs=>obtain⟨z,its,r,⟨ob,e,c⟩,nd⟩:=x;exact⟨z,its,r,⟨ob,k _ _ (.inl rfl) e,c⟩,nd.stay e (k _ _ (.inl rfl) e)⟩
 |dK kvs=>obtain⟨z,y,vs,r,ob,es,ep,e,c⟩:=x;exact⟨z,y,vs,r,ob,es,ep,k _ _ (.inl rfl) e,c⟩
 |dT kvs=>
  obtain⟨z,y,xs,r,ob,es,ep,e,c⟩:=x
  exact⟨z,y,xs,Paired.mapP r λp q z=>⟨z.1,ht _ _ z.2.1,z.2.2⟩,ob,es,ep,k _ _ (.inl rfl) e,c⟩
 |set S n=>obtain⟨ob,es,ep,t,e,c⟩:=x;exact⟨ob,es,ep,t,k _ _ (.inl rfl) e,c⟩
 |ins C dx fs=>
  obtain⟨d,z,ne,e,mA,⟨od,es,ep,e2,c⟩,r⟩:=x
  exact⟨ho _ d,z,ne,k _ _ (.inl rfl) e,mA,⟨od,es,ep,k _ _ (.inr d) e2,c⟩,r⟩
 |own y=>obtain⟨ob,e⟩:=x;exact⟨ob,k _ _ (.inl rfl) e⟩
 |xd fs=>obtain⟨mA,⟨od,es,ep,e,c⟩,r⟩:=x;exact⟨mA,⟨od,es,ep,k _ _ (.inl rfl) e,c⟩,r⟩
 |rng lo hi=>obtain⟨t,u,v,e⟩:=x;exact⟨t,u,v,k _ _ (.inl rfl) e⟩
 |frz ob u ih=>obtain⟨e,q⟩:=x;exact⟨k _ _ (.inl rfl) e,ih q⟩
 |tbl ps=>
  have e:h.get? a=some { cls:=.none,data:=.fields ps }:=x
  show h'.get? a=some { cls:=.none,data:=.fields ps }
  exact k a _ (.inl rfl) e
 |met f y=>
  have e:h.get? a=some (PySem.W.methodObj (.ref f) (.ref y)):=x
  show h'.get? a=some (PySem.W.methodObj (.ref f) (.ref y))
  exact k a _ (.inl rfl) e
 |ext φ=>obtain⟨p,⟨o,e⟩,st⟩:=x;exact⟨st _ _ p λo q=>k _ _ (.inl rfl) q,⟨o,k _ _ (.inl rfl) e⟩,st⟩
theorem bV.lt (x:bV P w H h)(e:H a=some o):a<h.objs.size:=(x a o e).lt
theorem bV.fresh (x:bV P w H h)(e:h.objs.size<=a):H a=none:=by
 cases q:H a with
 |none=>rfl
 |some u=>exact absurd (bm5 (x.lt q) e) (br2 _)
theorem bV.kept (x:bV P w H h)(k:∀b u,h.get? b=some u->h'.get? b=some u):bV P w H h':=λa o e=>
 (x a o e).stay (λb u _ q=>k b u q) (λ_ q=>q) λ_ _ q=>q
theorem bV.laid (x:bV P w H h)(k:∀b u,h.get? b=some u->h'.get? b=some u)(hp:h.objs.size<=a)(new:cF P w (upd H a o) h' a o):bV P w (upd H a o) h':=λb u e=>by
 have hn:=x.fresh hp
 by_cases hb:b=a
 ·subst hb;rw[aU]at e;cases e;exact new
 ·rw[aF hb]at e
  exact (x b u e).stay (λc v _ q=>k c v q) (λc q=>by rw[aF (cX q hn)];exact q) λc xs q=>by rw[aF (cX q hn)];exact q
end
def Rd (H:Hp)(a:Addr)(u:HO):Prop:=H a=some u∨∃o,H a=some (.frz o u)
theorem Rd.ok {P:Program}{w:World}{H:Hp}{h:Heap}{a:Addr}{u:HO}(r:Rd H a u)(x:bV P w H h):cF P w H h a u:=by
 rcases r with r|⟨o,r⟩
 ·exact x a u r
 ·obtain⟨_,q⟩:=x a _ r
  exact q
def nR:Option HO->Prop
 |some (.lst _)=>True
 |some (.dK _)=>True
 |some (.dT _)=>True
 |some (.set _ _)=>True
 |some (.ins _ _ _)=>True
 |some (.ext _)=>True
 |_=>False
section
variable {P:Program}{w:World}{H:Hp}{h h':Heap}{x e:Addr}{o':HO}
theorem bV.write (ok:bV P w H h)(mu:nR (H x))(he:e=x∨H e=some (.own x))(k:∀b u,b≠e->h.get? b=some u->h'.get? b=some u)(heo:∃u,h'.get? e=some u)(new:cF P w (upd H x o') h' x o'):bV P w (upd H x o') h':=λb u q=>by
 have nown:∀c y,H c=some (.own y)->c≠x:=λc y r z=>by subst z;rw[r]at mu;exact mu
 have ntup:∀c xs,H c=some (.tup xs)->c≠x:=λc xs r z=>by subst z;rw[r]at mu;exact mu
 by_cases hb:b=x
 ·subst hb;rw[aU]at q;cases q;exact new
 ·rw[aF hb]at q
  by_cases hbe:b=e
  ·have q':H b=some (.own x):=by
    rcases he with z|z
    ·exact absurd (hbe.trans z) hb
    ·rw[hbe];exact z
   rw[q]at q';cases q'
   obtain⟨v,hv⟩:=heo
   exact⟨v,by rw[hbe];exact hv⟩
  ·refine (ok b u q).stay (λc v hc r=>k c v ?_ r) (λc r=>by rw[aF (nown c b r)];exact r) λc xs r=>by rw[aF (ntup c xs r)];exact r
   rcases hc with rfl|hc
   ·exact hbe
   ·rintro rfl
    rcases he with z|z
    ·exact nown c b hc z
    ·rw[hc]at z;cases z;exact hb rfl
end
structure Un (fs ex:List Addr)(H H':Hp)(h h':Heap):Prop where
 keep:∀b o,h.get? b=some o->H b=none->b∉fs->b∉ex->h'.get? b=some o
 slot:∀b o,h.get? b=some o->H b=none->b∈fs->b∉ex->∃sl,h'.get? b=some { o with slots:=sl }
 free:∀b o,h.get? b=some o->H b=none->b∉ex->H' b=none
 there:∀b o,h.get? b=some o->b∉ex->∃o',h'.get? b=some o'
 tups:∀b xs,H b=some (.tup xs)->H' b=some (.tup xs)
 frzs:∀b o u,H b=some (.frz o u)->H' b=some (.frz o u)
 tbls:∀b ps,H b=some (.tbl ps)->∃more,H' b=some (.tbl (ps++more))
section
variable {fs fs' ex ex':List Addr}{H H1 H2:Hp}{h h1 h2 h':Heap}{a x e:Addr}{o:HO}
theorem Un.any (u:Un fs ex H H1 h h1){b:Addr}{ob:Obj}(q:h.get? b=some ob)(n:H b=none)(hx:b∉ex):∃sl,h1.get? b=some { ob with slots:=sl }:=by
 by_cases hb:b∈fs
 ·exact u.slot b ob q n hb hx
 ·exact⟨ob.slots,u.keep b ob q n hb hx⟩
theorem Un.kept (k:∀b u,h.get? b=some u->h'.get? b=some u):Un fs ex H H h h':=
 ⟨λb ob q _ _ _=>k b ob q,λb ob q _ _ _=>⟨ob.slots,k b ob q⟩,λ_ _ _ n _=>n,λb ob q _=>⟨ob,k b ob q⟩,λ_ _ q=>q,λ_ _ _ q=>q,λ_ ps q=>⟨#[],by rw[q];simp⟩⟩
theorem Un.refl:Un fs ex H H h h:=Un.kept λ_ _ q=>q
theorem Un.laid (k:∀b u,h.get? b=some u->h'.get? b=some u)(hp:h.objs.size<=a)(hn:H a=none):Un fs ex H (upd H a o) h h' where
 keep:=λb u q _ _ _=>k b u q
 slot:=λb u q _ _ _=>⟨u.slots,k b u q⟩
 free:=λb u q n _=>by rw[aF (bn6 (bm5 (bl8 q) hp))];exact n
 there:=λb u q _=>⟨u,k b u q⟩
 tups:=λb xs q=>by rw[aF (cX q hn)];exact q
 frzs:=λb u xs q=>by rw[aF (cX q hn)];exact q
 tbls:=λb ps q=>⟨#[],by rw[aF (cX q hn),q];simp⟩
theorem Un.write (mu:nR (H x))(he:e=x∨H e=some (.own x))(k:∀b u,b≠e->h.get? b=some u->h'.get? b=some u)(heo:∃u,h'.get? e=some u):Un fs ex H (upd H x o) h h':=by
 have hx:∀b,H b=none->b≠x:=λb n z=>by subst z;rw[n]at mu;exact mu
 have hb:∀b,H b=none->b≠e:=λb n z=>by
  subst z
  rcases he with r|r
  ·exact hx b n r
  ·rw[n]at r;cases r
 have hm:∀b u,H b=some u->¬nR (some u)->b≠x:=λb u q nm z=>by subst z;rw[q]at mu;exact nm mu
 refine⟨λb u q n _ _=>k b u (hb b n) q,λb u q n _ _=>⟨u.slots,k b u (hb b n) q⟩,λb u q n _=>by rw[aF (hx b n)];exact n,λb u q _=>?_,
  λb xs q=>by rw[aF (hm b _ q λz=>z)];exact q,λb u xs q=>by rw[aF (hm b _ q λz=>z)];exact q,λb ps q=>⟨#[],by rw[aF (hm b _ q λz=>z),q];simp⟩⟩
 by_cases hbe:b=e
 ·subst hbe;exact heo
 ·exact⟨u,k b u hbe q⟩
end
def qK (h:Heap)(H:Hp):List Addr:=(List.range h.objs.size).filter λa=>(H a).isSome
def iN (h:Heap)(H:Hp):Heap:=PySem.W.hideAll h (qK h H)
theorem al1 (h:Heap)(H:Hp):(iN h H).objs.size=h.objs.size:=PySem.W.hideAll_size _ _
theorem al2 {h:Heap}{H:Hp}{b:Addr}{o:Obj}(e:h.get? b=some o)(n:H b=none):(iN h H).get? b=some o:=
 PySem.W.hideAll_get _ e λhm=>by
  have q:(H b).isSome=true:=(bv2.mp hm).2
  rw[n]at q;simp at q
theorem al3 {h:Heap}{H:Hp}{b:Addr}{o:Obj}(e:(iN h H).get? b=some o):h.get? b=some o/\H b=none:=by
 have e':h.get? b=some o:=PySem.W.of_hideAll (qK h H) e
 refine⟨e',?_⟩
 cases q:H b with
 |none=>rfl
 |some x=>
  have hm:b∈qK h H:=bv2.mpr ⟨List.mem_range.mpr (bl8 e'),by simp[q]⟩
  have z:(iN h H).get? b=none:=PySem.W.hideAll_none (qK h H) hm
  rw[z]at e;cases e
def al4 (g h:Heap)(L:Addr):List (Addr×Obj):=(List.range h.objs.size).filterMap λa=>if a=L∨(g.get? a).isSome=true then none else (h.get? a).map λo=>(a,o)
def bW (g h:Heap)(L d:Addr):List (Addr×Obj):=(al4 g h L).filter λp=>decide (p.1≠d)
structure Mod (K:ac)(mg:Str->Option Value)(base:Heap):Prop where
 kin:K.In base
 glob:base.Ns mainGlobals mg
 blt:∃mb,base.Ns builtinsNs mb/\∀x:Str,x≠"__name__"->mb x=bootBuiltins x
 nolimit:base.NoLimit
structure Cx where
 prog:Program
 w:World
 K:ac
 mg:Str->Option Value
 base:Heap
 A:Around
 N:List Str
 s₀:Shared
 H₀:Hp
 env:Env
 outer:List Env
 stack:List Env
 ex:List Addr
 fn:Str->Bool
 calm:Bool
 pn:List (Addr×Obj)
 xe:Value->Shared->Prop
def bO (l:List Env):List Addr:=l.filterMap (·.frame)
abbrev Cx.fs (X:Cx):List Addr:=bO X.outer
def cS (sc:Scope)(x:Str):Prop:=sc.names.lookup x=some .local∨sc.names.lookup x=some .cell∨sc.names.lookup x=some .free
def gJ (sc:Scope)(x:Str):Prop:=sc.names.lookup x=some .local∨sc.names.lookup x=some .cell
def al5 (env:Env)(h:Heap)(m:Str->Option Value)(x:Str)(u:Value):Prop:=
 (env.kindOf x=some .local/\m x=some u)∨((env.kindOf x=some .cell∨env.kindOf x=some .free)/\∃c,env.cells.lookup x=some c/\h.IsCell c (some u))
structure Cx.Ok (X:Cx):Prop where
 mod:Mod X.K X.mg X.base
 kind:X.env.scope.kind = .function
 glob:X.env.globals=mainGlobals
 blt:X.env.builtins=builtinsNs
 above:X.s₀.heap.objs.size<=X.env.locals
 inj:∀x y c,X.env.cells.lookup x=some c->X.env.cells.lookup y=some c->x=y
 has:∀x,(X.env.kindOf x=some .cell∨X.env.kindOf x=some .free)->∃c,X.env.cells.lookup x=some c
 cab:∀x c,X.fn x=true->X.env.cells.lookup x=some c->X.s₀.heap.objs.size<=c
 hd:X.calm=true->X.A.handled=none
 frames:X.A.frames=some X.stack
 stk:X.stack=X.outer∨(X.stack=X.env::X.outer/\X.env.frame=some X.env.locals)
 exf:∀b∈X.ex,b≠X.env.locals/\∀x c,X.env.cells.lookup x=some c->c≠b
 bs:∀b o,X.base.get? b=some o->X.s₀.heap.get? b=some o/\X.H₀ b=none
 bsz:X.base.objs.size<=X.s₀.heap.objs.size
 noex:∀b o,X.base.get? b=some o->b∉X.ex
 exfs:∀b∈X.ex,b∉X.fs
 funs:X.s₀.heap.FunFrames X.base X.outer
 frf:∀b∈X.fs,X.H₀ b=none
structure a8 (X:Cx)(pins:List (Addr×Obj))(σ:List (Option V))(H:Hp)(s:Shared):Prop where
 ok:X.Ok
 os:s.os=X.s₀.os
 bare:AllBare s.gens
 base:Un X.fs X.ex X.H₀ H X.s₀.heap s.heap
 loc:∃m,s.heap.Ns X.env.locals m/\∀(i:Nat) (x:Str) (v:V),X.N[i]? = some x->σ[i]? = some (some v)->cS X.env.scope x->∃u,aT v u/\al5 X.env s.heap m x u
 cell:∀x c,X.env.cells.lookup x=some c->∃v,s.heap.IsCell c v
 free:H X.env.locals=none
 freeC:∀x c,X.env.cells.lookup x=some c->H c=none
 pin:∀p∈X.pn++pins,s.heap.get? p.1=some p.2/\H p.1=none/\p.1≠X.env.locals/\p.1∉X.fs/\∀v,p.2.data≠.cell v
 hok:bV X.prog X.w H s.heap
 len:σ.length=X.N.length
section
variable {X:Cx}{pins:List (Addr×Obj)}{σ:List (Option V)}{H H':Hp}{s:Shared}{h':Heap}
theorem Cx.Ok.nofr (ok:X.Ok){b:Addr}{o:Obj}(e:X.base.get? b=some o):b∉X.fs:=λhb=>by
 have:=(ok.funs.mem hb).1
 rw[e]at this;cases this
theorem a8.bs (I:a8 X pins σ H s):∀b o,X.base.get? b=some o->s.heap.get? b=some o/\H b=none:=λb o e=>
 ⟨I.base.keep b o (I.ok.bs b o e).1 (I.ok.bs b o e).2 (I.ok.nofr e) (I.ok.noex b o e),I.base.free b o (I.ok.bs b o e).1 (I.ok.bs b o e).2 (I.ok.noex b o e)⟩
theorem a8.bk (I:a8 X pins σ H s):∀b o,X.base.get? b=some o->s.heap.get? b=some o:=λb o e=>(I.bs b o e).1
theorem a8.mod (I:a8 X pins σ H s):Mod X.K X.mg X.base:=I.ok.mod
theorem a8.kIn (I:a8 X pins σ H s):X.K.In s.heap:=I.ok.mod.kin.keeps I.bk
theorem a8.fr (I:a8 X pins σ H s):∃m,Fr X.base X.env.locals s.heap m:=
 let ⟨m,hn,_⟩:=I.loc
 ⟨m,hn,I.bk,bo3 I.ok.bsz I.ok.above⟩
theorem a8.lt (I:a8 X pins σ H s):X.env.locals<s.heap.objs.size:=let ⟨_,hn,_⟩:=I.loc;hn.lt
theorem a8.sz (I:a8 X pins σ H s):X.s₀.heap.objs.size<=s.heap.objs.size:=bo3 I.ok.above (br0 I.lt)
theorem a8.nofs (I:a8 X pins σ H s){a:Addr}(h:s.heap.objs.size<=a):a∉X.fs:=λhb=>by
 obtain⟨_,o,ho,_⟩:=I.ok.funs.mem hb
 exact absurd (bm5 (bl8 ho) (bo3 I.sz h)) (br2 _)
theorem a8.cne (I:a8 X pins σ H s):∀x c,X.env.cells.lookup x=some c->c≠X.env.locals:=λx c e z=>by
 obtain⟨v,o,ho,hd⟩:=I.cell x c e
 obtain⟨m,⟨o',es,ep,ho',hd',_⟩,_⟩:=I.loc
 rw[z,ho']at ho;cases ho;rw[hd']at hd;cases hd
theorem a8.funs (I:a8 X pins σ H s):s.heap.FunFrames X.base X.outer:=by
 have all:∀(l:List Env),(∀b∈bO l,b∈X.fs)->X.s₀.heap.FunFrames X.base l->s.heap.FunFrames X.base l:=by
  intro l
  induction l with
  |nil=>intro _ _;trivial
  |cons env r ih=>
   intro hs hl
   obtain⟨hk,⟨L,o,hf,hn,ho,hd⟩,hr⟩:=hl
   have hL:L∈X.fs:=hs L (by unfold bO;rw[List.filterMap_cons,hf];exact bm8)
   obtain⟨sl,e⟩:=I.base.slot L o ho (I.ok.frf L hL) hL λz=>I.ok.exfs L z hL
   exact⟨hk,⟨L,_,hf,hn,e,hd⟩,ih (λb hb=>hs b (by unfold bO;rw[List.filterMap_cons,hf];exact bm9 _ hb)) hr⟩
 exact all X.outer (λ_ hb=>hb) I.ok.funs
theorem a8.stack (I:a8 X pins σ H s):s.heap.FunFrames X.base X.stack:=by
 rcases I.ok.stk with e|⟨e,hf⟩
 ·rw[e];exact I.funs
 ·rw[e]
  obtain⟨m,hn,_⟩:=I.loc
  refine .cons (by rw[I.ok.kind];decide) hf hn ?_ I.funs
  exact Heap.get?_none_of_le (bo3 I.ok.bsz I.ok.above)
theorem a8.stkSub (I:a8 X pins σ H s):∀b∈bO X.stack,b∈X.env.locals::X.fs:=λb hb=>by
 rcases I.ok.stk with e|⟨e,hf⟩
 ·rw[e]at hb;exact bm9 _ hb
 ·rw[e]at hb
  unfold bO at hb
  rw[List.filterMap_cons,hf]at hb
  exact hb
theorem a8.stkFree (I:a8 X pins σ H s):∀b∈bO X.stack,H b=none:=λb hb=>by
 rcases bl2.mp (I.stkSub b hb) with e|hb
 ·rw[e];exact I.free
 ·obtain⟨_,o,ho,_⟩:=I.ok.funs.mem hb
  exact I.base.free b o ho (I.ok.frf b hb) λz=>I.ok.exfs b z hb
theorem a8.step {g':Array GenState}{t':Nat}{d':Drawn}{ch:List Addr}(I:a8 X pins σ H s)(hch:∀b∈ch,(b∈X.ex∨X.s₀.heap.objs.size<=b)/\b≠X.env.locals/\(∀x c,X.env.cells.lookup x=some c->c≠b)/\∀p∈X.pn++pins,p.1≠b)(keep:∀b o,b≠X.env.locals->b∉X.fs->b∉ch->s.heap.get? b=some o->H b=none->h'.get? b=some o)(slot:∀b o,b≠X.env.locals->b∈X.fs->b∉ch->s.heap.get? b=some o->H b=none->∃sl,h'.get? b=some { o with slots:=sl })(free:∀b o,b∉ch->s.heap.get? b=some o->H b=none->H' b=none)(there:∀b o,b∉ch->s.heap.get? b=some o->∃o',h'.get? b=some o')(tups:∀b xs,H b=some (.tup xs)->H' b=some (.tup xs))(frzs:∀b o u,H b=some (.frz o u)->H' b=some (.frz o u))(tbls:∀b ps,H b=some (.tbl ps)->∃more,H' b=some (.tbl (ps++more)))(ns:∀m,s.heap.Ns X.env.locals m->h'.Ns X.env.locals m)(hok:bV X.prog X.w H' h')(hg:AllBare g') :
  a8 X pins σ H' { s with heap:=h',gens:=g',drawn:=d',toks:=t' }:=by
 have neL:∀b o,X.s₀.heap.get? b=some o->b≠X.env.locals:=λb o e=>bn6 (bm5 (bl8 e) I.ok.above)
 have neC:∀b o,X.s₀.heap.get? b=some o->b∉X.ex->b∉ch:=λb o e hx hb=>by
  rcases (hch b hb).1 with z|z
  ·exact hx z
  ·exact absurd (bm5 (bl8 e) z) (br2 _)
 have cellK:∀x c,X.env.cells.lookup x=some c->∀v,s.heap.IsCell c v->h'.IsCell c v:=λx c e v ⟨o,ho,hd⟩=>by
  have nch:c∉ch:=λz=>(hch c z).2.2.1 x c e rfl
  by_cases hc:c∈X.fs
  ·obtain⟨sl,q⟩:=slot c o (I.cne x c e) hc nch ho (I.freeC x c e)
   exact⟨_,q,hd⟩
  ·exact⟨o,keep c o (I.cne x c e) hc nch ho (I.freeC x c e),hd⟩
 refine⟨I.ok,I.os,hg,⟨λb o e n hb hx=>?_,λb o e n hb hx=>?_,λb o e n hx=>?_,λb o e hx=>?_,λb xs e=>tups b xs (I.base.tups b xs e),λb o xs e=>frzs b o xs (I.base.frzs b o xs e),λb ps e=>?_⟩,?_,λx c e=>?_,?_,λx c e=>?_,λp hp=>?_,hok,I.len⟩
 ·exact keep b o (neL b o e) hb (neC b o e hx) (I.base.keep b o e n hb hx) (I.base.free b o e n hx)
 ·obtain⟨sl,e1⟩:=I.base.slot b o e n hb hx
  obtain⟨sl',e2⟩:=slot b _ (neL b o e) hb (neC b o e hx) e1 (I.base.free b o e n hx)
  exact⟨sl',e2⟩
 ·obtain⟨o',e1⟩:=I.base.there b o e hx
  exact free b o' (neC b o e hx) e1 (I.base.free b o e n hx)
 ·obtain⟨o',e1⟩:=I.base.there b o e hx
  exact there b o' (neC b o e hx) e1
 ·obtain⟨m1,e1⟩:=I.base.tbls b ps e
  obtain⟨m2,e2⟩:=tbls b _ e1
  exact⟨m1++m2,by rw[e2,Array.append_assoc]⟩
 ·obtain⟨m,hn,hl⟩:=I.loc
  refine⟨m,ns m hn,λi x v e1 e2 e3=>?_⟩
  obtain⟨u,r,l⟩:=hl i x v e1 e2 e3
  refine⟨u,r,?_⟩
  rcases l with l|⟨k,c,e,z⟩
  ·exact .inl l
  ·exact .inr ⟨k,c,e,cellK x c e _ z⟩
 ·obtain⟨v,z⟩:=I.cell x c e
  exact⟨v,cellK x c e v z⟩
 ·obtain⟨m,⟨o,_,_,ho,_⟩,_⟩:=I.loc
  exact free _ o (λz=>(hch _ z).2.1 rfl) ho I.free
 ·obtain⟨v,o,ho,hd⟩:=I.cell x c e
  exact free c o (λz=>(hch c z).2.2.1 x c e rfl) ho (I.freeC x c e)
 ·obtain⟨e,n,ne,nf,d⟩:=I.pin p hp
  have nch:p.1∉ch:=λz=>(hch p.1 z).2.2.2 p hp rfl
  exact⟨keep p.1 p.2 ne nf nch e n,free p.1 p.2 nch e n,ne,nf,d⟩
theorem a8.un {t':Nat}(I:a8 X pins σ H s)(u:Un X.fs [] H H' s.heap h')(hok:bV X.prog X.w H' h'):a8 X pins σ H' { s with heap:=h',toks:=t' }:=by
 obtain⟨m,⟨o,es,ep,ho,r⟩,_⟩:=id I.loc
 obtain⟨sl,hL⟩:=u.any ho I.free (by simp)
 exact I.step (g':=s.gens) (d':=s.drawn) (ch:=[]) (λ_ z=>nomatch z) (λb o _ hb _ e n=>u.keep b o e n hb (by simp)) (λb o _ hb _ e n=>u.slot b o e n hb (by simp)) (λb o _ e n=>u.free b o e n (by simp)) (λb o _ e=>u.there b o e (by simp)) u.tups u.frzs u.tbls (λm' hm=>by
  obtain⟨o',es',ep',ho',r'⟩:=hm
  rw[ho]at ho';cases ho'
  exact⟨_,es',ep',hL,r'⟩) hok I.bare
theorem a8.call {g':Array GenState}{t':Nat}{d':Drawn}{ch:List Addr}(I:a8 X pins σ H s)(u:Un (bO X.stack) ch H H' s.heap h')(hok:bV X.prog X.w H' h')(hg:AllBare g')(hch:∀b∈ch,(b∈X.ex∨X.s₀.heap.objs.size<=b)/\b≠X.env.locals/\(∀x c,X.env.cells.lookup x=some c->c≠b)/\∀p∈X.pn++pins,p.1≠b) :
  a8 X pins σ H' { s with heap:=h',gens:=g',drawn:=d',toks:=t' }:=by
 obtain⟨m,⟨o,es,ep,ho,r⟩,_⟩:=id I.loc
 obtain⟨sl,hL⟩:=u.any ho I.free λz=>(hch _ z).2.1 rfl
 exact I.step (ch:=ch) hch (λb o hL hb hc e n=>u.keep b o e n (λz=>(bl2.mp (I.stkSub b z)).elim hL hb) hc) (λb o _ _ hc e n=>u.any e n hc) (λb o hc e n=>u.free b o e n hc) (λb o hc e=>u.there b o e hc) u.tups u.frzs u.tbls (λm' hm=>by
  obtain⟨o',es',ep',ho',r'⟩:=hm
  rw[ho]at ho';cases ho'
  exact⟨_,es',ep',hL,r'⟩) hok hg
theorem a8.turned {t':Nat}{it:Addr}(I:a8 X pins σ H s)(k:∀b o,b≠it->s.heap.get? b=some o->h'.get? b=some o)(hn:H it=none)(hL:it≠X.env.locals)(h1:it∈X.ex∨X.s₀.heap.objs.size<=it)(h2:∀x c,X.env.cells.lookup x=some c->c≠it)(h3:∀p∈X.pn++pins,p.1≠it):a8 X pins σ H { s with heap:=h',toks:=t' }:=by
 have nit:∀b u,H b=some u->b≠it:=λb u e z=>by rw[z,hn]at e;cases e
 refine I.step (g':=s.gens) (d':=s.drawn) (ch:=[it]) (λb hb=>?_) (λb o _ _ hc e _=>k b o (λz=>hc (by simp[z])) e) (λb o _ _ hc e _=>⟨o.slots,k b o (λz=>hc (by simp[z])) e⟩) (λ_ _ _ _ n=>n)
  (λb o hc e=>⟨o,k b o (λz=>hc (by simp[z])) e⟩) (λ_ _ e=>e) (λ_ _ _ e=>e) (λb ps e=>⟨#[],by rw[e];simp⟩) (λm hm=>?_) (λb u e=>?_) I.bare
 ·have e:b=it:=by simpa using hb
  subst e
  exact⟨h1,hL,h2,h3⟩
 ·obtain⟨o,es,ep,ho,r⟩:=hm
  exact⟨o,es,ep,k _ o (Ne.symm hL) ho,r⟩
 ·refine (I.hok b u e).stay (λc v hc q=>k c v ?_ q) (λ_ q=>q) λ_ _ q=>q
  rcases hc with z|z
  ·rw[z];exact nit b u e
  ·exact nit c _ z
theorem a8.tok (I:a8 X pins σ H s)(t:Nat):a8 X pins σ H { s with toks:=t }:=I.un (h':=s.heap) (t':=t) Un.refl I.hok
theorem a8.kept {t':Nat}(I:a8 X pins σ H s)(k:∀b u,s.heap.get? b=some u->h'.get? b=some u):a8 X pins σ H { s with heap:=h',toks:=t' }:=I.un (Un.kept k) (I.hok.kept k)
theorem a8.laid {a:Addr}{o:HO}{t':Nat}(I:a8 X pins σ H s)(k:∀b u,s.heap.get? b=some u->h'.get? b=some u)(hp:s.heap.objs.size<=a)(new:cF X.prog X.w (upd H a o) h' a o) :
  a8 X pins σ (upd H a o) { s with heap:=h',toks:=t' }:=I.un (Un.laid k hp (I.hok.fresh hp)) (I.hok.laid k hp new)
theorem a8.write {x e:Addr}{o:HO}{t':Nat}(I:a8 X pins σ H s)(mu:nR (H x))(he:e=x∨H e=some (.own x))(k:∀b u,b≠e->s.heap.get? b=some u->h'.get? b=some u)(heo:∃u,h'.get? e=some u)(new:cF X.prog X.w (upd H x o) h' x o):a8 X pins σ (upd H x o) { s with heap:=h',toks:=t' }:=I.un (Un.write mu he k heo) (I.hok.write mu he k heo new)
theorem a8.weak {σ':List (Option V)}(I:a8 X pins σ H s)(hl:σ'.length=σ.length)(w:∀(i:Nat) v,σ'[i]? = some (some v)->σ[i]? = some (some v)):a8 X pins σ' H s:=
 ⟨I.ok,I.os,I.bare,I.base,let ⟨m,hn,hl'⟩:=I.loc;⟨m,hn,λi x v e1 e2 e3=>hl' i x v e1 (w i v e2) e3⟩,I.cell,I.free,I.freeC,I.pin,I.hok,hl.trans I.len⟩
theorem a8.pins_of {pins':List (Addr×Obj)}(I:a8 X pins σ H s)(h:∀p∈pins',s.heap.get? p.1=some p.2/\H p.1=none/\p.1≠X.env.locals/\p.1∉X.fs/\∀v,p.2.data≠.cell v):a8 X pins' σ H s:=
 ⟨I.ok,I.os,I.bare,I.base,I.loc,I.cell,I.free,I.freeC,λp hp=>(bn9.mp hp).elim (λz=>I.pin p (bt9 _ z)) (h p),I.hok,I.len⟩
theorem A6 {N:List Str}(hN:N.Nodup){i j:Nat}{x:Str}(a:N[i]? = some x)(b:N[j]? = some x):i=j:=by
 obtain⟨h1,e1⟩:=bl7.mp a
 obtain⟨h2,e2⟩:=bl7.mp b
 exact (List.getElem_inj hN).mp (e1.trans e2.symm)
theorem A7 {M:Model}{A:Around}{E:Value->Shared->Prop}{i:Nat}{x:Str}{v:V}{u:Value}{Q:Unit->Shared->Prop}(I:a8 X pins σ H s)(hN:X.N.Nodup)(hi:X.N[i]? = some x)(hx:gJ X.env.scope x)(r:aT v u)(h:∀s',a8 X pins (σ.set i (some v)) H s'->(∃a,Heap.SameBut a s.heap s'.heap/\(a=X.env.locals∨X.env.cells.lookup x=some a))->Q () s')(hf:X.fn x=true∨X.env.scope.names.lookup x=some .local:=by first|exact .inl rfl|exact .inr rfl|assumption):wpAny M A (storeName X.env x u) Q E s:=by
 obtain⟨m,hn,hl⟩:=id I.loc
 have hcls:(X.env.scope.kind==.class||(X.env.scope.kind==.module&&X.env.locals != X.env.globals))=false:=by rw[I.ok.kind];rfl
 have hiσ:i<σ.length:=by rw[I.len];exact (bl7.mp hi).1
 have cne:=I.cne
 have tracked:∀{a:Addr}{h':Heap},(∃o,s.heap.get? a=some o/\H a=none)->Heap.SameBut a s.heap h'->bV X.prog X.w H h':=λ{a h'} ha hs b ob e=>by
  obtain⟨_,_,hfree⟩:=ha
  refine (I.hok b ob e).stay (λc w' hc q=>(hs.2 c ?_).trans q) (λ_ q=>q) λ_ _ q=>q
  rintro rfl
  rcases hc with rfl|hc
  ·rw[hfree]at e;cases e
  ·rw[hfree]at hc;cases hc
 rcases hx with hk|hk
 ·refine wpAny_storeName_local hk hn (λh' hn' hs=>?_) hcls
  obtain⟨oL,_,_,hoL,_⟩:=id hn
  refine h _ ⟨I.ok,I.os,I.bare,⟨λb o e n hb hx=>?_,λb o e n hb hx=>?_,I.base.free,λb o e hx=>?_,I.base.tups,I.base.frzs,I.base.tbls⟩,⟨_,hn',λj y v' e1 e2 e3=>?_⟩,λy c e=>?_,I.free,I.freeC,λp hp=>?_,tracked ⟨oL,hoL,I.free⟩ hs,by simpa using I.len⟩ ⟨_,hs,.inl rfl⟩
  ·exact (hs.2 b (bn6 (bm5 (bl8 e) I.ok.above))).trans (I.base.keep b o e n hb hx)
  ·obtain⟨sl,e1⟩:=I.base.slot b o e n hb hx
   exact⟨sl,(hs.2 b (bn6 (bm5 (bl8 e) I.ok.above))).trans e1⟩
  ·obtain⟨o',e1⟩:=I.base.there b o e hx
   exact⟨o',(hs.2 b (bn6 (bm5 (bl8 e) I.ok.above))).trans e1⟩
  ·by_cases hj:j=i
   ·subst hj
    rw[hi]at e1;cases e1
    rw[br1 hiσ]at e2
    cases e2
    exact⟨u,r,.inl ⟨hk,by simp⟩⟩
   ·rw[bn2 (Ne.symm hj)]at e2
    obtain⟨u',r',q⟩:=hl j y v' e1 e2 e3
    refine⟨u',r',?_⟩
    rcases q with⟨k,e⟩|⟨k,c,e,z⟩
    ·refine .inl ⟨k,?_⟩
     have:y≠x:=λe=>hj (A6 hN e1 (e▸hi))
     simp[this,e]
    ·exact .inr ⟨k,c,e,z.sameBut hs (cne y c e)⟩
  ·obtain⟨w',z⟩:=I.cell y c e
   exact⟨w',z.sameBut hs (cne y c e)⟩
  ·obtain⟨e,n,ne,nf,d⟩:=I.pin p hp
   exact⟨(hs.2 p.1 ne).trans e,n,ne,nf,d⟩
 ·have hfn:X.fn x=true:=by
   rcases hf with z|z
   ·exact z
   ·rw[z]at hk;cases hk
  obtain⟨c,hc⟩:=I.ok.has x (.inl hk)
  obtain⟨w',z⟩:=I.cell x c hc
  refine wpAny_storeName_cell I.ok.kind hk hc z (λh' hc' hs=>?_)
  obtain⟨oc,hoc,hocd⟩:=id z
  refine h { s with heap:=h' } ⟨I.ok,I.os,I.bare,⟨λb o e n hb hx=>?_,λb o e n hb hx=>?_,I.base.free,λb o e hx=>?_,I.base.tups,I.base.frzs,I.base.tbls⟩,⟨m,hn.sameBut hs (Ne.symm (cne x c hc)),λj y v' e1 e2 e3=>?_⟩,λy c' e=>?_,I.free,I.freeC,λp hp=>?_,tracked ⟨oc,hoc,I.freeC x c hc⟩ hs,by simpa using I.len⟩ ⟨c,hs,.inr hc⟩
  ·exact (hs.2 b (bn6 (bm5 (bl8 e) (I.ok.cab x c hfn hc)))).trans (I.base.keep b o e n hb hx)
  ·obtain⟨sl,e1⟩:=I.base.slot b o e n hb hx
   exact⟨sl,(hs.2 b (bn6 (bm5 (bl8 e) (I.ok.cab x c hfn hc)))).trans e1⟩
  ·obtain⟨o',e1⟩:=I.base.there b o e hx
   exact⟨o',(hs.2 b (bn6 (bm5 (bl8 e) (I.ok.cab x c hfn hc)))).trans e1⟩
  ·by_cases hj:j=i
   ·subst hj
    rw[hi]at e1;cases e1
    rw[br1 hiσ]at e2
    cases e2
    exact⟨u,r,.inr ⟨.inl hk,c,hc,hc'⟩⟩
   ·rw[bn2 (Ne.symm hj)]at e2
    obtain⟨u',r',q⟩:=hl j y v' e1 e2 e3
    refine⟨u',r',?_⟩
    rcases q with q|⟨k,c',e,z'⟩
    ·exact .inl q
    ·refine .inr ⟨k,c',e,z'.sameBut hs ?_⟩
     rintro rfl
     exact hj (A6 hN e1 (I.ok.inj _ _ _ e hc▸hi))
  ·by_cases hcc:c'=c
   ·subst hcc;exact⟨_,hc'⟩
   ·obtain⟨w2,z2⟩:=I.cell y c' e
    exact⟨w2,z2.sameBut hs hcc⟩
  ·obtain⟨e,n,ne,nf,d⟩:=I.pin p hp
   refine⟨(hs.2 p.1 ?_).trans e,n,ne,nf,d⟩
   intro q
   rw[q,hoc]at e
   have q':oc=p.2:=bl6 e
   exact d w' (by rw[<- q'];exact hocd)
theorem uP {M:Model}{A:Around}{E:Value->Shared->Prop}{i:Nat}{x:Str}{v:V}{u:Value}{Q:Unit->Shared->Prop}(I:a8 X pins σ H s)(hN:X.N.Nodup)(hi:X.N[i]? = some x)(hx:gJ X.env.scope x)(r:aT v u)(h:∀s',a8 X pins (σ.set i (some v)) H s'->Q () s')(hf:X.fn x=true∨X.env.scope.names.lookup x=some .local:=by first|exact .inl rfl|exact .inr rfl|assumption):wpAny M A (storeName X.env x u) Q E s:=
 A7 I hN hi hx r (λs' I' _=>h s' I') hf
theorem a8.call' {s':Shared}{ch:List Addr}(I:a8 X pins σ H s)(ho:s'.os=s.os)(u:Un (bO X.stack) ch H H' s.heap s'.heap)(hok:bV X.prog X.w H' s'.heap)(hg:AllBare s'.gens)(hch:∀b∈ch,(b∈X.ex∨X.s₀.heap.objs.size<=b)/\b≠X.env.locals/\(∀x c,X.env.cells.lookup x=some c->c≠b)/\∀p∈X.pn++pins,p.1≠b):a8 X pins σ H' s':=by
 obtain⟨h',g',d',t',o'⟩:=s'
 have e:o'=s.os:=ho
 subst e
 exact I.call (g':=g') (t':=t') (d':=d') u hok hg hch
end
abbrev XK:=Value->Option Addr->Hp->Prop
abbrev St:=List (Option V)
abbrev VK:=V->Hp->Prop
abbrev TE:=St->Hp->VK->Prop
abbrev TT:=St->Hp->(Bool->Hp->Prop)->Prop
abbrev TA:=St->Hp->(List V->Hp->Prop)->Prop
structure bP where
 nx:St->Hp->Prop
 rt:VK
 bk:St->Hp->Prop:=λ_ _=>False
 ct:St->Hp->Prop:=λ_ _=>False
abbrev TS:=bP->St->Hp->Prop
def EP (X:Cx)(pins:List (Addr×Obj))(σ:St)(Q:VK)(u:Value)(s':Shared):Prop:=∃v H',a8 X pins σ H' s'/\aT v u/\Q v H'
def TP (X:Cx)(pins:List (Addr×Obj))(σ:St)(Q:Bool->Hp->Prop)(b:Bool)(s':Shared):Prop:=∃H',a8 X pins σ H' s'/\Q b H'
def AP (X:Cx)(pins:List (Addr×Obj))(σ:St)(Q:List V->Hp->Prop)(us:List Value)(s':Shared):Prop:=∃vs H',a8 X pins σ H' s'/\aQ vs us/\Q vs H'
def SP (X:Cx)(pins:List (Addr×Obj))(D:bP)(f:Flow)(s':Shared):Prop:=
 match f with
 |.next=>∃σ' H',a8 X pins σ' H' s'/\D.nx σ' H'
 |.brk=>∃σ' H',a8 X pins σ' H' s'/\D.bk σ' H'
 |.cont=>∃σ' H',a8 X pins σ' H' s'/\D.ct σ' H'
 |.ret u=>∃v σ' H',a8 X pins σ' H' s'/\aT v u/\D.rt v H'
def PE (X:Cx)(e:Expr)(t:TE):Prop:=
 ∀(pins:List (Addr×Obj)) (s:Shared) (σ:St) (H:Hp) (Q:VK),a8 X pins σ H s->t σ H Q->wpAny (model X.prog X.w) X.A (eval e X.env) (EP X pins σ Q) X.xe s
def PT (X:Cx)(e:Expr)(t:TT):Prop:=
 ∀(pins:List (Addr×Obj)) (s:Shared) (σ:St) (H:Hp) (Q:Bool->Hp->Prop),a8 X pins σ H s->t σ H Q->wpAny (model X.prog X.w) X.A (isTrue e X.env (eval e X.env)) (TP X pins σ Q) X.xe s
def PW (X:Cx)(e:Expr)(t:TT):Prop:=
 ∀(whole:Sem Value) (pins:List (Addr×Obj)) (s:Shared) (σ:St) (H:Hp) (Q:Bool->Hp->Prop),a8 X pins σ H s->t σ H Q->wpAny (model X.prog X.w) X.A (isTrue e X.env whole) (TP X pins σ Q) X.xe s
theorem PW.pt {X:Cx}{e:Expr}{t:TT}(h:PW X e t):PT X e t:=h _
def PA (X:Cx)(es:List Expr)(t:TA):Prop:=
 ∀(pos:Pos) (pins:List (Addr×Obj)) (s:Shared) (σ:St) (H:Hp) (Q:List V->Hp->Prop),a8 X pins σ H s->t σ H Q->wpAny (model X.prog X.w) X.A (spliced (backTo pos (starEach es X.env))) (AP X pins σ Q) X.xe s
def PS (X:Cx)(st:Stmt)(t:TS):Prop:=
 ∀(pins:List (Addr×Obj)) (s:Shared) (σ:St) (H:Hp) (D:bP),a8 X pins σ H s->t D σ H->wpAny (model X.prog X.w) X.A (exec st X.env) (SP X pins D) X.xe s
def dB (X:Cx)(st:List Stmt)(t:TS):Prop:=
 ∀(pins:List (Addr×Obj)) (s:Shared) (σ:St) (H:Hp) (D:bP),a8 X pins σ H s->t D σ H->wpAny (model X.prog X.w) X.A (execs st X.env) (SP X pins D) X.xe s
theorem aJ {α:Type}{t:Sem α}{Q Q':α->Shared->Prop}{M:Model}{A:Around}{E:Value->Shared->Prop}{s:Shared}(h:wpAny M A t Q E s)(hQ:∀a s,Q a s->Q' a s):wpAny M A t Q' E s:=bs5 h hQ λ_ _ x=>x
section
variable {X:Cx}
theorem bin {a b:Expr}{ta tb:TE}(ha:PE X a ta)(hb:PE X b tb){pins:List (Addr×Obj)}{s:Shared}{σ:St}{H:Hp}{R:V->V->Hp->Prop}(I:a8 X pins σ H s)(h:ta σ H λx H1=>tb σ H1 λy H2=>R x y H2){α:Type}{Q:α->Shared->Prop}{f:Value->Value->Sem α}(hf:∀v u s2 x y H2,a8 X pins σ H2 s2->aT x v->aT y u->R x y H2->wpAny (model X.prog X.w) X.A (f v u) Q X.xe s2) :
  wpAny (model X.prog X.w) X.A (eval a X.env) (λv s₁=>wpAny (model X.prog X.w) X.A (eval b X.env) (λu s₂=>wpAny (model X.prog X.w) X.A (f v u) Q X.xe s₂) X.xe s₁) X.xe s:=by
 refine aJ (ha pins s σ H _ I h) λv s1 ⟨x,H1,I1,r1,q1⟩=>?_
 refine aJ (hb pins s1 σ H1 _ I1 q1) λu s2 ⟨y,H2,I2,r2,q2⟩=>?_
 exact hf v u s2 x y H2 I2 r1 r2 q2
def dQ (i:Nat):TE:=λσ H Q=>∃v,σ[i]? = some (some v)/\Q v H
def tC (v:V):TE:=λ_ H Q=>Q v H
theorem dC {i:Nat}{x:Str}{pos:Pos}(hN:X.N[i]? = some x)(hv:cS X.env.scope x)(hd:(x==("__debug__":Str))=false:=by decide)(hcd:(x==("__classdict__":Str))=false:=by decide):PE X (.Name x pos) (dQ i):=by
 intro pins s σ H Q I h
 obtain⟨v,e,h⟩:=h
 obtain⟨m,hn,hl⟩:=I.loc
 obtain⟨u,r,l⟩:=hl i x v hN e hv
 have fin:EP X pins σ Q u s:=⟨v,H,I,r,h⟩
 rcases l with⟨hk,hm⟩|⟨hk,c,hc,hcell⟩
 ·exact wpAny_Name (wpAny_loadName_local I.ok.kind hk hn hm fin) hd
 ·rcases hk with hk|hk
  ·exact wpAny_Name (wpAny_loadName_cell I.ok.kind hk hc hcell fin) hd
  ·exact wpAny_Name (wpAny_loadName_free I.ok.kind hk hc hcell fin hcd) hd
theorem nS {i j pos}:PE X (.Constant (.int i) j pos) (tC (.int i)):=λ_ _ _ H _ I h=>wpAny_Constant_int ⟨.int i,H,I.tok _,⟨_,rfl⟩,h⟩
theorem al6 {b j pos}:PE X (.Constant (.bool b) j pos) (tC (.bl b)):=λ_ _ _ H _ I h=>Constant_bool ⟨.bl b,H,I,rfl,h⟩
theorem al7 {j pos}:PE X (.Constant .none j pos) (tC .non):=λ_ _ _ H _ I h=>Constant_none ⟨.non,H,I,rfl,h⟩
theorem al8 {x j pos}:PE X (.Constant (.str x) j pos) (tC (.str x)):=λ_ _ _ H _ I h=>Calls.Constant_str ⟨.str x,H,I.tok _,⟨_,rfl⟩,h⟩
def Gl (X:Cx)(x:Str):Prop:=X.env.kindOf x=some .globalImplicit
theorem nT {E:Value->Shared->Prop}{pins:List (Addr×Obj)}{s:Shared}{σ:St}{H:Hp}{x:Str}{u:Value}{pos:Pos}{Q:Value->Shared->Prop}(I:a8 X pins σ H s)(hg:Gl X x)(hm:X.mg x=some u)(h:Q u s)(hd:(x==("__debug__":Str))=false:=by decide):wpAny (model X.prog X.w) X.A (eval (.Name x pos) X.env) Q E s:=
 Calls.Name_function_global I.ok.kind hg (Calls.loadGlobal_global (by rw[I.ok.glob];exact I.mod.glob.keeps I.bk) hm h) hd
theorem kJ {E:Value->Shared->Prop}{pins:List (Addr×Obj)}{s:Shared}{σ:St}{H:Hp}{x:Str}{u:Value}{pos:Pos}{Q:Value->Shared->Prop}(I:a8 X pins σ H s)(hg:Gl X x)(hm:X.mg x=none)(hv:bootBuiltins x=some u)(h:Q u s)(hn:x≠"__name__":=by decide)(hd:(x==("__debug__":Str))=false:=by decide):wpAny (model X.prog X.w) X.A (eval (.Name x pos) X.env) Q E s:=by
 obtain⟨mb,h1,h2⟩:=I.mod.blt
 exact Calls.Name_function_global I.ok.kind hg (Calls.loadGlobal_builtin (by rw[I.ok.glob];exact I.mod.glob.keeps I.bk) hm (by rw[I.ok.blt];exact h1.keeps I.bk) ((h2 x hn).trans hv) h) hd
theorem A8 {x:Str}{v:V}{u:Value}{pos:Pos}(hg:Gl X x)(hm:X.mg x=some u)(r:aT v u)(hd:(x==("__debug__":Str))=false:=by decide):PE X (.Name x pos) (tC v):=
 λ_ _ _ H _ I h=>nT I hg hm ⟨v,H,I,r,h⟩ hd
variable {a b:Expr}{ta tb:TE}{pos:Pos}
def PC (X:Cx)(op:CmpOp)(a b:Expr)(t:TE):Prop:=
 ∀(pins:List (Addr×Obj)) (s:Shared) (σ:St) (H:Hp) (Q:VK),a8 X pins σ H s->t σ H Q->
  wpAny (model X.prog X.w) X.A (eval a X.env) (λv s₁=>wpAny (model X.prog X.w) X.A (eval b X.env) (λu s₂=>wpAny (model X.prog X.w) X.A (compareOp op v u) (EP X pins σ Q) X.xe s₂) X.xe s₁) X.xe s
def tB (t:TE):TT:=λσ H Q=>t σ H λx H1=>∃c,x = .bl c/\Q c H1
theorem al9 {op:CmpOp}{t:TE}(h:PC X op a b t)(h1:behindInMarks op b=false:=by first|exact nobehind _ (by decide) (by decide)|rfl):PE X (.Compare a [op] [b] pos) t:=λpins s σ H Q I hw=>wpAny_Compare1 (h pins s σ H Q I hw) h1
theorem A9 {op:CmpOp}{t:TE}(h:PC X op a b t)(h1:behindInMarks op b=false:=by first|exact nobehind _ (by decide) (by decide)|rfl):PT X (.Compare a [op] [b] pos) (tB t):=by
 intro pins s σ H Q I hw
 refine wpAny_isTrue_Compare1 (aJ (h pins s σ H _ I hw) λv s1 h1=>aJ h1 λu s2 h2=>aJ h2 λc s3 ⟨x,H1,I1,r1,q1⟩=>?_) h1
 obtain⟨d,rfl,q⟩:=q1
 cases r1
 exact bw9 ⟨H1,I1,q⟩
theorem am0 {e:Expr}{t:TE}(h:PE X e t)(he:∀whole,isTrue e X.env whole=(do let v <- whole;standAt e.pos;holding [v] (truthy v)):=by intro _;rfl):PT X e (tB t):=by
 intro pins s σ H Q I hw
 refine isTrue_plain (aJ (h pins s σ H _ I hw) λv s1 ⟨x,H1,I1,r1,q1⟩=>?_) (he _)
 obtain⟨d,rfl,q⟩:=q1
 cases r1
 exact bw9 ⟨H1,I1,q⟩
variable {tA tB':TT}{bW:List Expr}
def B0 (t u:TT):TT:=λσ H Q=>t σ H λc H1=>if c=true then u σ H1 Q else Q false H1
def uQ (t u:TT):TT:=λσ H Q=>t σ H λc H1=>if c=true then Q true H1 else u σ H1 Q
def B1 (t:TT):TT:=λσ H Q=>t σ H λc H1=>Q (!c) H1
theorem am1 (ha:PT X a tA):PW X (.BoolOp .And [a] pos) tA:=by
 intro wh pins s σ H Q I h
 refine isTrue_and (aJ (ha pins s σ H Q I h) λc s1 e=>?_)
 cases c with
 |true=>exact isTrue_and_nil e
 |false=>exact e
theorem B2 (ha:PT X a tA):PW X (.BoolOp .Or [a] pos) tA:=by
 intro wh pins s σ H Q I h
 refine isTrue_or (aJ (ha pins s σ H Q I h) λc s1 e=>?_)
 cases c with
 |false=>exact isTrue_or_nil e
 |true=>exact e
theorem am2 (ha:PT X a tA)(hb:PW X (.BoolOp .And (b::bW) pos) tB'):PW X (.BoolOp .And (a::b::bW) pos) (B0 tA tB'):=by
 intro wh pins s σ H Q I h
 refine isTrue_and (aJ (ha pins s σ H _ I h) λc s1 ⟨H1,I1,q1⟩=>?_)
 cases c with
 |true=>exact hb wh pins s1 σ H1 Q I1 q1
 |false=>exact⟨H1,I1,q1⟩
theorem B3 (ha:PT X a tA)(hb:PW X (.BoolOp .Or (b::bW) pos) tB'):PW X (.BoolOp .Or (a::b::bW) pos) (uQ tA tB'):=by
 intro wh pins s σ H Q I h
 refine isTrue_or (aJ (ha pins s σ H _ I h) λc s1 ⟨H1,I1,q1⟩=>?_)
 cases c with
 |true=>exact⟨H1,I1,q1⟩
 |false=>exact hb wh pins s1 σ H1 Q I1 q1
theorem am3 (ha:PT X a tA):PT X (.UnaryOp .Not a pos) (B1 tA):=by
 intro pins s σ H Q I h
 exact isTrue_not (ha pins s σ H (λc H1=>Q (!c) H1) I h)
def B4 (ta tb:TE):TE:=λσ H Q=>ta σ H λx H1=>∃c,x = .bl c/\if c=true then tb σ H1 Q else Q (.bl false) H1
def B5 (ta tb:TE):TE:=λσ H Q=>ta σ H λx H1=>∃c,x = .bl c/\if c=true then Q (.bl true) H1 else tb σ H1 Q
theorem am4 {op}{t:TE}(h:PE X a t):PE X (.BoolOp op [a] pos) t:=λpins s σ H Q I hw=>BoolOp_one (h pins s σ H Q I hw)
theorem am5 (ha:PE X a ta)(hb:PE X (.BoolOp .And (b::bW) pos) tb):PE X (.BoolOp .And (a::b::bW) pos) (B4 ta tb):=by
 intro pins s σ H Q I h
 refine BoolOp_and (aJ (ha pins s σ H _ I h) λv s1 ⟨x,H1,I1,r1,q1⟩=>?_)
 obtain⟨c,rfl,q1⟩:=q1
 cases r1
 refine bw9 ?_
 cases c with
 |true=>exact hb pins s1 σ H1 Q I1 q1
 |false=>exact⟨.bl false,H1,I1,rfl,q1⟩
theorem am6 (ha:PE X a ta)(hb:PE X (.BoolOp .Or (b::bW) pos) tb):PE X (.BoolOp .Or (a::b::bW) pos) (B5 ta tb):=by
 intro pins s σ H Q I h
 refine BoolOp_or (aJ (ha pins s σ H _ I h) λv s1 ⟨x,H1,I1,r1,q1⟩=>?_)
 obtain⟨c,rfl,q1⟩:=q1
 cases r1
 refine bw9 ?_
 cases c with
 |false=>exact hb pins s1 σ H1 Q I1 q1
 |true=>exact⟨.bl true,H1,I1,rfl,q1⟩
end
def aM (K:ac)(H:Hp)(a:Addr)(xs:List V):Prop:=
 Rd H a (.lst xs) ∨
  ∃(o:Obj) (its:Array Value) (n:Nat),K.lookup a=some o/\o.cls = .type "list"/\o.dict=none/\o.data = .seq its n/\its.size<=sizeLine/\aQ xs its.toList
def aL (K:ac)(H:Hp)(a:Addr)(xs:List V):Prop:=
 Rd H a (.tup xs) ∨
  ∃(o:Obj) (its:Array Value) (n:Nat),K.lookup a=some o/\o.cls = .type "tuple"/\o.data = .seq its n/\its.size<=sizeLine/\aQ xs its.toList
def am7:Value->Option V
 |.none=>some .non
 |.bool b=>some (.bl b)
 |.int i _=>some (.int i)
 |.str x _=>some (.str x)
 |.bytes b _=>some (.byt b)
 |.float b _=>some (.flt b)
 |.ref a=>some (.ref a)
 |.type n=>some (.ty n)
 |_=>none
theorem aT.abs {x:V}{u:Value}(r:aT x u):am7 u=some x:=by
 cases x with
 |non=>cases r;rfl
 |bl _=>cases r;rfl
 |int _=>obtain⟨t,rfl⟩:=r;rfl
 |str _=>obtain⟨t,rfl⟩:=r;rfl
 |byt _=>obtain⟨t,rfl⟩:=r;rfl
 |flt _=>obtain⟨t,rfl⟩:=r;rfl
 |ref _=>cases r;rfl
 |ty _=>cases r;rfl
theorem aT.inj {x y:V}{u:Value}(r:aT x u)(q:aT y u):x=y:=bl6 (r.abs.symm.trans q.abs)
theorem aQ.inj:∀{xs ys:List V}{us:List Value},aQ xs us->aQ ys us->xs=ys
 |_,_,_,.nil,.nil=>rfl
 |_,_,_,.cons r t,.cons r' t'=>by rw[r.inj r',aQ.inj t t']
section
variable {X:Cx}{pins:List (Addr×Obj)}{σ:St}{H:Hp}{s:Shared}{a:Addr}{xs ys:List V}
theorem aM.of {K:ac}(h:H a=some (.lst xs)):aM K H a xs:=.inl (.inl h)
theorem aL.of {K:ac}(h:H a=some (.tup xs)):aL K H a xs:=.inl (.inl h)
theorem a8.list (I:a8 X pins σ H s)(h:aM X.K H a xs):∃its:List Value,aQ xs its/\PlainL s.heap a its.toArray/\xs.length<=sizeLine:=by
 rcases h with h|⟨o,its,n,hk,hc,hd,hs,hz,r⟩
 ·obtain⟨z,its,n,r,e⟩:=h.ok I.hok
  exact⟨its,r,⟨_,n,e,rfl,rfl,rfl⟩,z⟩
 ·refine⟨its.toList,r,⟨o,n,I.kIn a o hk,hc,hd,by simpa using hs⟩,?_⟩
  have e:=r.length
  simp only[Array.length_toList]at e
  omega
theorem a8.tuple (I:a8 X pins σ H s)(h:aL X.K H a xs):∃its:List Value,aQ xs its/\IsTup s.heap a its.toArray/\xs.length<=sizeLine:=by
 rcases h with h|⟨o,its,n,hk,hc,hs,hz,r⟩
 ·obtain⟨z,its,r,p,_⟩:=h.ok I.hok
  exact⟨its,r,p,z⟩
 ·refine⟨its.toList,r,⟨o,I.kIn a o hk,hc,n,by simpa using hs⟩,?_⟩
  have e:=r.length
  simp only[Array.length_toList]at e
  omega
theorem a8.list_inj (I:a8 X pins σ H s)(h:aM X.K H a xs)(h':aM X.K H a ys):xs=ys:=by
 obtain⟨its,r,⟨o,n,e,_,_,d⟩,_⟩:=I.list h
 obtain⟨its',r',⟨o',n',e',_,_,d'⟩,_⟩:=I.list h'
 rw[e]at e';cases e'
 rw[d]at d'
 injection d' with d1 _
 have:its=its':=by simpa using congrArg Array.toList d1
 subst this
 exact r.inj r'
theorem a8.tuple_inj (I:a8 X pins σ H s)(h:aL X.K H a xs)(h':aL X.K H a ys):xs=ys:=by
 obtain⟨its,r,⟨o,e,_,n,d⟩,_⟩:=I.tuple h
 obtain⟨its',r',⟨o',e',_,n',d'⟩,_⟩:=I.tuple h'
 rw[e]at e';cases e'
 rw[d]at d'
 injection d' with d1 _
 have:its=its':=by simpa using congrArg Array.toList d1
 subst this
 exact r.inj r'
end
abbrev Cx.wish (X:Cx)(E:Value->Shared->Prop):Cx:={ X with xe:=E }
abbrev Cx.nox (X:Cx):Cx:=X.wish λ_ _=>False
theorem Cx.Ok.wish {X:Cx}(ok:X.Ok)(E:Value->Shared->Prop):(X.wish E).Ok:=
 ⟨ok.mod,ok.kind,ok.glob,ok.blt,ok.above,ok.inj,ok.has,ok.cab,ok.hd,ok.frames,ok.stk,ok.exf,ok.bs,ok.bsz,ok.noex,ok.exfs,ok.funs,ok.frf⟩
theorem Cx.Ok.unwish {X:Cx}{E:Value->Shared->Prop}(ok:(X.wish E).Ok):X.Ok:=
 ⟨ok.mod,ok.kind,ok.glob,ok.blt,ok.above,ok.inj,ok.has,ok.cab,ok.hd,ok.frames,ok.stk,ok.exf,ok.bs,ok.bsz,ok.noex,ok.exfs,ok.funs,ok.frf⟩
section
variable {X:Cx}{pins:List (Addr×Obj)}{σ:St}{H:Hp}{s:Shared}{E:Value→Shared→Prop}
theorem a8.wish (I:a8 X pins σ H s)(E:Value->Shared->Prop):a8 (X.wish E) pins σ H s:=⟨I.ok.wish E,I.os,I.bare,I.base,I.loc,I.cell,I.free,I.freeC,I.pin,I.hok,I.len⟩
theorem a8.unwish (I:a8 (X.wish E) pins σ H s):a8 X pins σ H s:=⟨I.ok.unwish,I.os,I.bare,I.base,I.loc,I.cell,I.free,I.freeC,I.pin,I.hok,I.len⟩
theorem SP.unwish {D:bP}{f:Flow}{s':Shared}(h:SP (X.wish E) pins D f s'):SP X pins D f s':=by
 cases f with
 |next=>obtain⟨σ',H',I,q⟩:=h;exact⟨σ',H',I.unwish,q⟩
 |brk=>obtain⟨σ',H',I,q⟩:=h;exact⟨σ',H',I.unwish,q⟩
 |cont=>obtain⟨σ',H',I,q⟩:=h;exact⟨σ',H',I.unwish,q⟩
 |ret u=>obtain⟨v,σ',H',I,r,q⟩:=h;exact⟨v,σ',H',I.unwish,r,q⟩
theorem dB.nox {st:List Stmt}{t:TS}(h:dB X.nox st t):dB X st t:=λpins s σ H D I hw=>
 bs5 (h pins s σ H D (I.wish _) hw) (λ_ _ q=>q.unwish) λ_ _ z=>False.elim z
end
section
variable {X:Cx}{st:Stmt}{bW:List Stmt}{t u:TS}{e:Expr}{te:TE}{pos:Pos}
def uR:TS:=λD σ H=>D.nx σ H
def B6 (t u:TS):TS:=λD σ H=>t { D with nx:=u D } σ H
theorem B7:dB X [] uR:=λ_ _ σ H _ I h=>wpAny_execs_nil ⟨σ,H,I,h⟩
theorem kK (h1:PS X st t)(h2:dB X bW u):dB X (st::bW) (B6 t u):=by
 intro pins s σ H D I h
 refine wpAny_execs_cons (aJ (h1 pins s σ H { D with nx:=u D } I h) λf s1 q=>?_)
 cases f with
 |next=>
  obtain⟨σ',H',I',q⟩:=q
  exact h2 pins s1 σ' H' D I' q
 |ret v=>exact q
 |brk=>exact q
 |cont=>exact q
theorem kM (h1:PS X st t):dB X [st] t:=by
 intro pins s σ H D I h
 refine wpAny_execs_cons (aJ (h1 pins s σ H D I h) λf s1 q=>?_)
 cases f with
 |next=>exact wpAny_execs_nil q
 |ret v=>exact q
 |brk=>exact q
 |cont=>exact q
theorem a8.quiet {pins:List (Addr×Obj)}{σ:St}{H:Hp}{s:Shared}(I:a8 X pins σ H s):interactive X.env=false:=by simp[interactive,I.ok.kind]
def kN (te:TE):TS:=λD σ H=>te σ H λ_ H1=>D.nx σ H1
theorem lW (he:PE X e te)(hs:swapsWith e none pos.line X.env=pure false:=by rfl):PS X (.Expr e pos) (kN te):=by
 intro pins s σ H D I h
 exact wpAny_Expr_any (aJ (he pins s σ H _ I h) λv s1 ⟨x,H1,I1,r1,q1⟩=>⟨σ,H1,I1,q1⟩) I.quiet hs
def uS (te:TE):TS:=λD σ H=>te σ H D.rt
theorem lX (he:PE X e te):PS X (.Return (some e) pos) (uS te):=by
 intro pins s σ H D I h
 exact wpAny_Return_some (aJ (he pins s σ H _ I h) λv s1 ⟨x,H1,I1,r1,q1⟩=>⟨x,σ,H1,I1,r1,q1⟩)
def uT (c:TT)(t u:TS):TS:=λD σ H=>c σ H λb H1=>if b=true then t D σ H1 else u D σ H1
theorem B8 {c:Expr}{a b:List Stmt}{tc:TT}(hc:PT X c tc)(ha:dB X a t)(hb:dB X b u):PS X (.If c a b pos) (uT tc t u):=by
 intro pins s σ H D I h
 refine wpAny_If (aJ (hc pins s σ H _ I h) λd s1 ⟨H1,I1,q1⟩=>?_)
 cases d with
 |true=>exact ha pins s1 σ H1 D I1 q1
 |false=>exact hb pins s1 σ H1 D I1 q1
def am8:TS:=λ_ _ _=>False
theorem am9:PS X st am8:=λ_ _ _ _ _ _ h=>h.elim
end
abbrev TG:=V->St->Hp->(St->Hp->Prop)->Prop
abbrev kO:=List V->St->Hp->(St->Hp->Prop)->Prop
def PG (X:Cx)(target:Expr)(t:TG):Prop:=
 ∀(pins:List (Addr×Obj)) (s:Shared) (σ:St) (H:Hp) (v:V) (u:Value) (Q:St->Hp->Prop),a8 X pins σ H s->aT v u->t v σ H Q->
  wpAny (model X.prog X.w) X.A (assign target X.env u) (λ_ s'=>∃σ' H',a8 X pins σ' H' s'/\Q σ' H') X.xe s
def qL (X:Cx)(ts:List Expr)(t:kO):Prop:=
 ∀(pins:List (Addr×Obj)) (s:Shared) (σ:St) (H:Hp) (vs:List V) (us:List Value) (Q:St->Hp->Prop),a8 X pins σ H s->aQ vs us->t vs σ H Q->
  wpAny (model X.prog X.w) X.A (assignInOrder ((assignEach ts X.env).map (·.2)) us) (λ_ s'=>∃σ' H',a8 X pins σ' H' s'/\Q σ' H') X.xe s
section
variable {X:Cx}{pos:Pos}
def fF (i:Nat):TG:=λv σ H Q=>Q (σ.set i (some v)) H
theorem gY {i:Nat}{x:Str}(hN:X.N.Nodup)(hi:X.N[i]? = some x)(hx:gJ X.env.scope x)(hf:X.fn x=true∨X.env.scope.names.lookup x=some .local:=by first|exact .inl rfl|exact .inr rfl|assumption):PG X (.Name x pos) (fF i):=by
 intro pins s σ H v u Q I r h
 exact wpAny_assign_Name (uP I hN hi hx r (λs' I'=>⟨_,H,I',h⟩) hf)
def qM:kO:=λvs σ H Q=>vs = []/\Q σ H
def kQ (t:TG)(u:kO):kO:=λvs σ H Q=>∃v r,vs=v::r/\t v σ H λσ' H'=>u r σ' H' Q
theorem qN:qL X [] qM:=by
 intro pins s σ H vs us Q I r h
 obtain⟨e,h⟩:=h
 subst e
 cases r
 exact assignInOrder_nil ⟨σ,H,I,h⟩
theorem jM {e:Expr}{es:List Expr}{t:TG}{u:kO}(h1:PG X e t)(h2:qL X es u)(hs:(assignEach (e::es) X.env).map (·.2)=assign e X.env::(assignEach es X.env).map (·.2):=by rfl):qL X (e::es) (kQ t u):=by
 intro pins s σ H vs us Q I r h
 obtain⟨v,vr,e1,h⟩:=h
 subst e1
 cases r with
 |cons r rr=>
  rw[hs]
  refine assignInOrder_cons (aJ (h1 pins s σ H _ _ _ I r h) λ_ s1 ⟨σ1,H1,I1,q1⟩=>?_)
  exact h2 pins s1 σ1 H1 _ _ Q I1 rr q1
def qO (K:ac)(n:Nat)(t:kO):TG:=λv σ H Q=>∃a xs,v = .ref a/\aL K H a xs/\xs.length=n/\t xs σ H Q
theorem qP {es:List Expr}{k:Nat}{t:kO}{n:Nat}(hc:X.calm=true)(h:qL X es t)(hn:(assignEach es X.env).length=n:=by rfl)(hst:(assignEach es X.env).findIdx? (·.1)=none:=by rfl):PG X (.Tuple es k pos) (qO X.K n t):=by
 intro pins s σ H v u Q I r hw
 obtain⟨a,xs,e1,hq,hl,hw⟩:=hw
 subst e1
 cases r
 obtain⟨its,rv,ht,hz⟩:=I.tuple hq
 refine assign_Tuple_tuple (I.ok.hd hc) ht (by simp[hn,<- hl,rv.length]) hst λh' hx=>?_
 have I1:a8 X pins σ H { s with heap:=h' }:=I.kept (t':=s.toks) λb o e=>hx b o (bn6 (bl8 e)) e
 exact h pins _ σ H xs _ Q I1 (by simpa using rv) hw
def qQ (te:TE)(g:TG):TS:=λD σ H=>te σ H λx H1=>g x σ H1 D.nx
theorem nU {i:Nat}{x:Str}{e:Expr}{te:TE}{pos':Pos}(hN:X.N.Nodup)(hi:X.N[i]? = some x)(hx:gJ X.env.scope x)(he:PE X e te)(hs:swapsWith e (some (.Name x pos')) pos.line X.env=pure false:=by rfl)(hf:X.fn x=true∨X.env.scope.names.lookup x=some .local:=by first|exact .inl rfl|exact .inr rfl|assumption) :
  PS X (.Assign [.Name x pos'] e pos) (qQ te (fF i)):=by
 intro pins s σ H D I h
 refine wpAny_Assign_Name (aJ (he pins s σ H _ I h) λv s1 ⟨y,H1,I1,r1,q1⟩=>?_) hs
 exact uP I1 hN hi hx r1 (λs2 I2=>⟨_,H1,I2,q1⟩) hf
end
section
variable {X:Cx}{pos:Pos}
def B9 (c:TT)(tb:TS):TS:=λD σ H=>∃W:Nat->St->Hp->Prop,(∃m,W m σ H)/\∀m σ H,W m σ H->
 c σ H λb H1=>if b=true then ∃N:St->Hp->Prop,(∀σ' H',N σ' H'->∃m',m'<m/\W m' σ' H')/\tb { D with nx:=N,ct:=N,bk:=D.nx } σ H1 else D.nx σ H1
theorem an0 {c:Expr}{body:List Stmt}{tc:TT}{tb:TS}(hp:PassesOwn (model X.prog X.w) X.A X.env X.xe)(hc:PT X c tc)(hb:dB X body tb):PS X (.While c body [] pos) (B9 tc tb):=by
 intro pins s σ H D I h
 obtain⟨W,⟨m0,w0⟩,turn⟩:=h
 refine wpAny_While (codeAny_whileLoop (λn s'=>∃σ' H',a8 X pins σ' H' s'/\W n σ' H') ?_ m0 ⟨σ,H,I,w0⟩)
 rintro n s1 ⟨σ1,H1,I1,w1⟩
 refine by3 hp (aJ (hc pins s1 σ1 H1 _ I1 (turn n σ1 H1 w1)) λb s2 ⟨H2,I2,q2⟩=>?_)
 cases b with
 |true=>
  obtain⟨N,hN,q2⟩:=q2
  rw[if_pos rfl]
  refine by3 hp (aJ (hb pins s2 σ1 H2 _ I2 q2) λf s3 q3=>?_)
  cases f with
  |next=>
   obtain⟨σ3,H3,I3,n3⟩:=q3
   obtain⟨m',hm,w3⟩:=hN σ3 H3 n3
   exact⟨m',hm,σ3,H3,I3,w3⟩
  |cont=>
   obtain⟨σ3,H3,I3,n3⟩:=q3
   obtain⟨m',hm,w3⟩:=hN σ3 H3 n3
   exact⟨m',hm,σ3,H3,I3,w3⟩
  |brk=>exact q3
  |ret v=>exact q3
 |false=>
  rw[if_neg bm6]
  exact wpAny_execs_nil ⟨σ1,H2,I2,q2⟩
end
structure It where
 go:Nat->Hp->Prop
 yld:Nat->Hp->V->Hp->Prop
 stop:Nat->Hp->Prop
def gK (X:Cx)(pins:List (Addr×Obj))(H:Hp)(b:Addr):Prop:=
 H b=none/\b≠X.env.locals/\b∉X.fs/\(b∈X.ex∨X.s₀.heap.objs.size<=b)/\(∀x c,X.env.cells.lookup x=some c->c≠b)/\∀p∈X.pn++pins,p.1≠b
theorem a8.fpOk {X:Cx}{pins:List (Addr×Obj)}{σ:St}{H H':Hp}{s:Shared}{b:Addr}(I:a8 X pins σ H s)(hb:s.heap.objs.size<=b)(hn:H' b=none):gK X pins H' b:=by
 refine⟨hn,bs6 (bm5 I.lt hb),I.nofs hb,.inr (bo3 I.sz hb),λx c e z=>?_,λp hp z=>?_⟩
 ·obtain⟨v,q⟩:=I.cell x c e
  exact absurd (bm5 q.lt (by rw[z];exact hb)) (br2 _)
 ·exact absurd (bm5 (bl8 (I.pin p hp).1) (by rw[z];exact hb)) (br2 _)
structure iD (P:Program)(w:World)(K:ac)(tg:Expr)(J:It)(fp:List Addr)(it:Addr)(tn:Nat->Heap->Prop):Prop where
 mem:it∈fp
 obj:∀i h,tn i h->∀b∈fp,∃o,h.get? b=some o/\∀v,o.data≠.cell v
 keep:∀i h h',tn i h->(∀b∈fp,∀o,h.get? b=some o->h'.get? b=some o)->tn i h'
 item:∀(X:Cx),X.prog=P->X.w=w->X.K=K->X.calm=true->∀(i:Nat) (pins:List (Addr×Obj)) (s:Shared) (σ:St) (H:Hp) (E:Value->Shared->Prop),a8 X pins σ H s->(∀b∈fp,gK X pins H b)->tn i s.heap->J.go i H->
  wpAny (model P w) X.A (pyNext (.ref it)) (λr s1=>∃u,r=some u/\
   wpAny (model P w) X.A (letOwnedTupleGo tg (.ref it) u) (λ_ s2=>∃x H',a8 X pins σ H' s2/\aT x u/\J.yld i H x H'/\tn (i+1) s2.heap/\∀b∈fp,H' b=none) E s1) E s
 done:∀(X:Cx),X.prog=P->X.w=w->X.K=K->X.calm=true->∀(i:Nat) (pins:List (Addr×Obj)) (s:Shared) (σ:St) (H:Hp) (E:Value->Shared->Prop),a8 X pins σ H s->(∀b∈fp,gK X pins H b)->tn i s.heap->J.stop i H->
  wpAny (model P w) X.A (pyNext (.ref it)) (λr s1=>r=none/\a8 X pins σ H s1) E s
 self:∀(A:Around) (i:Nat) (s:Shared) (Q:Value->Shared->Prop) (E:Value->Shared->Prop),tn i s.heap->Q (.ref it) s->wpAny (model P w) A (pyIter (.ref it)) Q E s
abbrev TI:=St->Hp->(It->Hp->Prop)->Prop
def C0 (X:Cx)(pins:List (Addr×Obj))(σ:St)(tg:Expr)(R:It->Hp->Prop)(itv:Value)(s2:Shared):Prop:=
 ∃(it:Addr) (fp:List Addr) (tn:Nat->Heap->Prop) (J:It) (H':Hp),itv = .ref it/\a8 X pins σ H' s2/\iD X.prog X.w X.K tg J fp it tn/\tn 0 s2.heap/\(∀b∈fp,gK X pins H' b)/\R J H'
def PI (X:Cx)(tg iter:Expr)(wi:TI):Prop:=
 ∀(pins:List (Addr×Obj)) (s:Shared) (σ:St) (H:Hp) (R:It->Hp->Prop),a8 X pins σ H s->wi σ H R->
  wpAny (model X.prog X.w) X.A (eval iter X.env) (λv s1=>wpAny (model X.prog X.w) X.A (pyIter v) (C0 X pins σ tg R) X.xe s1) X.xe s
theorem uU {M:Model}{A:Around}{E:Value->Shared->Prop}{s:Shared}{tg:Expr}{it:Addr}{u:Value}{o:Obj}{n:String}{vs:Array Value}{Q:Unit->Shared->Prop}(ho:s.heap.get? it=some o)(hc:o.cls = .type n)(hd:o.data = .fields vs)(hn:["enumerate","zip","dict_itemiterator","dict_reverseitemiterator","odict_iterator","itertools.zip_longest","itertools.pairwise"].contains n=false)(hQ:Q () s):wpAny M A (letOwnedTupleGo tg (.ref it) u) Q E s:=by
  unfold letOwnedTupleGo
  cases tg<;>first
    |exact bl0 hQ
    |(cases u<;>first
        |exact bl0 hQ
        | (refine bk5 (wpAny_load ho ?_)
           rw[hc,hd]
           show wpAny M A (if (["enumerate","zip","dict_itemiterator","dict_reverseitemiterator","odict_iterator","itertools.zip_longest","itertools.pairwise"].contains n&&vs[0]?==some (rawInt _))=true then _ else _) Q E s
           rw[if_neg (by intro h;rw[hn,Bool.false_and]at h;cases h)]
           exact bl0 hQ))
def lY (K:ac)(a:Addr):It:=
 ⟨λi H=>∃xs x,aM K H a xs/\xs[i]? = some x,λi H x H'=>H'=H/\∀xs,aM K H a xs->xs[i]? = some x,λi H=>∃xs,aM K H a xs/\xs.length<=i⟩
def jN (K:ac)(a:Addr):It:=
 ⟨λi H=>∃xs x,aL K H a xs/\xs[i]? = some x,λi H x H'=>H'=H/\∀xs,aL K H a xs->xs[i]? = some x,λi H=>∃xs,aL K H a xs/\xs.length<=i⟩
def nV (lo:Int)(n:Nat):It:=⟨λi _=>i<n,λi H x H'=>H'=H/\x = .int (lo+i),λi _=>n<=i⟩
theorem an1 {P:Program}{w:World}{K:ac}{tg:Expr}(a it:Addr):iD P w K tg (lY K a) [it] it (λi h=>h.IsListIter it a i) where
 mem:=by simp
 obj:=λi h st b hb=>by
  have e:b=it:=by simpa using hb
  subst e
  obtain⟨o,e,c,d⟩:=st
  exact⟨o,e,λv z=>by rw[d]at z;cases z⟩
 keep:=λi h h' st k=>st.at λo e=>k it (by simp) o e
 item:=by
  intro X hP hw hK hc i pins s σ H E I hf st hg
  subst hP hw hK
  obtain⟨xs,x,hq,hx⟩:=hg
  obtain⟨its,rv,p,hz⟩:=I.list hq
  obtain⟨u,hu,ru⟩:=rv.get hx
  obtain⟨f0,f1,f2,f3,f4,f5⟩:=hf it (by simp)
  refine wpAny_pyNext_list_item st p.isList (x:=u) (by simpa using hu) λh' st' sb=>?_
  have I1:a8 X pins σ H { s with heap:=h' }:=I.turned (t':=s.toks) (λb o hb e=>(sb.2 b hb).trans e) f0 f1 f3 f4 f5
  obtain⟨o,e,c,d⟩:=id st'
  exact⟨u,rfl,uU (s:={ s with heap:=h' }) e c d (by decide) ⟨x,H,I1,ru,⟨rfl,λys hy=>by rw[I.list_inj hy hq];exact hx⟩,st',λb hb=>(hf b hb).1⟩⟩
 done:=by
  intro X hP hw hK hc i pins s σ H E I hf st hg
  subst hP hw hK
  obtain⟨xs,hq,hx⟩:=hg
  obtain⟨its,rv,p,hz⟩:=I.list hq
  obtain⟨f0,f1,f2,f3,f4,f5⟩:=hf it (by simp)
  have hl:=rv.length
  exact wpAny_pyNext_list_end (I.ok.hd hc) st p.isList (by simp;omega) λh' eb=>⟨rfl,I.turned (t':=s.toks) (λb o hb e=>eb b o hb e) f0 f1 f3 f4 f5⟩
 self:=λ_ _ _ _ _ st h=>wpAny_pyIter_listiter st h
theorem C1 {P:Program}{w:World}{K:ac}{tg:Expr}(a it:Addr):iD P w K tg (jN K a) [it] it (λi h=>h.IsTupleIter it a i) where
 mem:=by simp
 obj:=λi h st b hb=>by
  have e:b=it:=by simpa using hb
  subst e
  obtain⟨o,e,c,d⟩:=st
  exact⟨o,e,λv z=>by rw[d]at z;cases z⟩
 keep:=λi h h' st k=>st.at λo e=>k it (by simp) o e
 item:=by
  intro X hP hw hK hc i pins s σ H E I hf st hg
  subst hP hw hK
  obtain⟨xs,x,hq,hx⟩:=hg
  obtain⟨its,rv,p,hz⟩:=I.tuple hq
  obtain⟨u,hu,ru⟩:=rv.get hx
  obtain⟨f0,f1,f2,f3,f4,f5⟩:=hf it (by simp)
  refine wpAny_pyNext_tuple_item st (show s.heap.IsTuple a its.toArray from p) (x:=u) (by simpa using hu) λh' st' sb=>?_
  have I1:a8 X pins σ H { s with heap:=h' }:=I.turned (t':=s.toks) (λb o hb e=>(sb.2 b hb).trans e) f0 f1 f3 f4 f5
  obtain⟨o,e,c,d⟩:=id st'
  exact⟨u,rfl,uU (s:={ s with heap:=h' }) e c d (by decide) ⟨x,H,I1,ru,⟨rfl,λys hy=>by rw[I.tuple_inj hy hq];exact hx⟩,st',λb hb=>(hf b hb).1⟩⟩
 done:=by
  intro X hP hw hK hc i pins s σ H E I hf st hg
  subst hP hw hK
  obtain⟨xs,hq,hx⟩:=hg
  obtain⟨its,rv,p,hz⟩:=I.tuple hq
  obtain⟨f0,f1,f2,f3,f4,f5⟩:=hf it (by simp)
  have hl:=rv.length
  exact wpAny_pyNext_tuple_end (I.ok.hd hc) st (show s.heap.IsTuple a its.toArray from p) (by simp;omega) λh' eb=>⟨rfl,I.turned (t':=s.toks) (λb o hb e=>eb b o hb e) f0 f1 f3 f4 f5⟩
 self:=λ_ _ _ _ _ st h=>wpAny_pyIter_tupleiter st h
theorem an2 {P:Program}{w:World}{K:ac}{tg:Expr}(it:Addr)(lo:Int)(n:Nat):iD P w K tg (nV lo n) [it] it (λi h=>IsRangeIter h it (lo+(i:Nat)*1) ((n:Int)-(i:Nat)) 1) where
 mem:=by simp
 obj:=λi h st b hb=>by
  have e:b=it:=by simpa using hb
  subst e
  exact⟨_,st,λv z=>by
   have z':Data.fields _=Data.cell v:=z
   cases z'⟩
 keep:=λi h h' st k=>k it (by simp) _ st
 item:=by
  intro X hP hw hK hc i pins s σ H E I hf st hg
  subst hP hw hK
  obtain⟨f0,f1,f2,f3,f4,f5⟩:=hf it (by simp)
  have W:=Walks.range (prog:=X.prog) (w:=X.w) (I.ok.hd hc) it lo 1 n
  refine W.item i s _ _ hg st λv h' tk hv st' kk=>?_
  obtain⟨t,rfl⟩:=hv
  have I1:a8 X pins σ H { s with heap:=h',toks:=tk }:=I.turned (λb o hb e=>kk b o (by simpa using hb) e) f0 f1 f3 f4 f5
  refine⟨_,rfl,uU (s:={ s with heap:=h',toks:=tk }) (n:="range_iterator") st' rfl rfl (by decide) ⟨.int (lo+i),H,I1,⟨t,?_⟩,⟨rfl,rfl⟩,st',λb hb=>(hf b hb).1⟩⟩
  rw[Int.mul_one]
 done:=by
  intro X hP hw hK hc i pins s σ H E I hf st hg
  subst hP hw hK
  obtain⟨f0,f1,f2,f3,f4,f5⟩:=hf it (by simp)
  exact wpAny_pyNext_range_end (I.ok.hd hc) st (by have:n<=i:=hg;omega) λh' eb=>⟨rfl,I.turned (t':=s.toks) (λb o hb e=>eb b o hb e) f0 f1 f3 f4 f5⟩
 self:=λ_ _ _ _ _ st h=>wpAny_pyIter_rangeiter st h
section
variable {X:Cx}{tg:Expr}
def an3 (K:ac)(tl:TE):TI:=λσ H R=>tl σ H λx H1=>∃a,x = .ref a/\(∃xs,aL K H1 a xs)/\R (jN K a) H1
theorem C2 {l:Expr}{tl:TE}(hl:PE X l tl):PI X tg l (an3 X.K tl):=by
 intro pins s σ H R I h
 refine aJ (hl pins s σ H _ I h) λv s1 ⟨x,H1,I1,r1,q1⟩=>?_
 obtain⟨a,e,⟨xs,hq⟩,q⟩:=q1
 subst e
 cases r1
 obtain⟨its,rv,p,hz⟩:=I1.tuple hq
 refine bv7 (show s1.heap.IsTuple a its.toArray from p) ?_
 refine⟨s1.heap.objs.size,[s1.heap.objs.size],_,_,H1,rfl,I1.kept (t':=s1.toks) λb o e=>bk6 _ e,C1 a _,⟨_,bm0 _ rfl,rfl,rfl⟩,λb hb=>?_,q⟩
 have e:b=s1.heap.objs.size:=by simpa using hb
 subst e
 exact I1.fpOk (bk9 _) (I1.hok.fresh (bk9 _))
theorem C3 {pins:List (Addr×Obj)}{σ:St}{H:Hp}{s:Shared}{R:It->Hp->Prop}{E:Value->Shared->Prop}{lo hi:Int}{t u v:Tok}{tk:Nat}(I:a8 X pins σ H s)(h1:-(2^62)<=lo)(h2:lo<2^62)(h3:-(2^62)<=hi)(h4:hi<2^62)(q:R (nV lo (hi-lo).toNat) H):wpAny (model X.prog X.w) X.A (pyIter (.ref s.heap.objs.size)) (C0 X pins σ tg R) E { s with heap:=s.heap.push { cls:=.type "range",data:=.fields #[.int lo t,.int hi u,.int 1 v] },toks:=tk }:=by
 refine wpAny_pyIter_range (IsRange.new ..) (small_one h1 h2 h3 h4) ?_
 have I1:a8 X pins σ H { s with heap:=s.heap.push { cls:=.type "range",data:=.fields #[.int lo t,.int hi u,.int 1 v] },toks:=tk }:=I.kept λb o e=>bk6 _ e
 refine⟨(s.heap.push { cls:=.type "range",data:=.fields #[.int lo t,.int hi u,.int 1 v] }).objs.size,[(s.heap.push { cls:=.type "range",data:=.fields #[.int lo t,.int hi u,.int 1 v] }).objs.size],_,_,H,rfl,
  I1.kept (t':=tk) λb o e=>bk6 _ e,an2 _ lo (hi-lo).toNat,?_,λb hb=>?_,q⟩
 ·have e1:lo+((0:Nat):Int)*1=lo:=by simp
  have e2:(((hi-lo).toNat:Nat):Int)-((0:Nat):Int)=Builtin.Range.rangeSize lo hi 1:=by rw[rangeSize_one];split<;>omega
  show IsRangeIter _ _ (lo+((0:Nat):Int)*1) ((((hi-lo).toNat:Nat):Int)-((0:Nat):Int)) 1
  rw[e1,e2]
  exact bm0 _ rfl
 ·have e:b=(s.heap.push { cls:=.type "range",data:=.fields #[.int lo t,.int hi u,.int 1 v] }).objs.size:=by simpa using hb
  subst e
  exact I1.fpOk (bk9 _) (I1.hok.fresh (bk9 _))
def C4 (ta:TA):TI:=λσ H R=>ta σ H λvs H1=>∃j:Int,vs = [.int j]/\-(2^62)<=j/\j<2^62/\R (nV 0 j.toNat) H1
def C5 (ta:TA):TI:=λσ H R=>ta σ H λvs H1=>∃i j:Int,vs = [.int i,.int j]/\(-(2^62)<=i/\i<2^62/\-(2^62)<=j/\j<2^62)/\R (nV i (j-i).toNat) H1
theorem an4 {a:Expr}{ta:TA}{p pos:Pos}(hg:Gl X "range")(hm:X.mg "range" = none)(ha:PA X [a] ta)(hs:starEach [a] X.env = [(false,eval a X.env)]:=by rfl):PI X tg (.Call (.Name "range" p) [a] [] pos) (C4 ta):=by
 intro pins s σ H R I h
 refine Call_ (kJ I hg hm boot_range (bs7 (aJ (ha pos pins s σ H _ I h) λus s1 ⟨vs,H1,I1,r1,q1⟩=>?_) hs rfl))
 obtain⟨j,e,q1,q2,q⟩:=q1
 subst e
 cases r1 with
 |cons r rr=>
  cases rr
  obtain⟨t,rfl⟩:=r
  exact call_range_1 (C3 I1 (by omega) (by omega) q1 q2 (by simpa using q))
theorem an5 {a b:Expr}{ta:TA}{p pos:Pos}(hg:Gl X "range")(hm:X.mg "range" = none)(ha:PA X [a,b] ta)(hs:starEach [a,b] X.env = [(false,eval a X.env),(false,eval b X.env)]:=by rfl)(hs2:starEach [b] X.env = [(false,eval b X.env)]:=by rfl) :
  PI X tg (.Call (.Name "range" p) [a,b] [] pos) (C5 ta):=by
 intro pins s σ H R I h
 refine Call_ (kJ I hg hm boot_range (bs7 (aJ (ha pos pins s σ H _ I h) λus s1 ⟨vs,H1,I1,r1,q1⟩=>?_) (by rw[hs,hs2]) (by rw[hs2];rfl)))
 obtain⟨i,j,e,⟨q1,q2,q3,q4⟩,q⟩:=q1
 subst e
 cases r1 with
 |cons r rr=>
  cases rr with
  |cons r' rr=>
   cases rr
   obtain⟨t,rfl⟩:=r
   obtain⟨t',rfl⟩:=r'
   exact call_range_2 (C3 I1 q1 q2 q3 q4 q)
def C6 (wi:TI)(g:TG)(tb:TS):TS:=λD σ H=>wi σ H λJ H1=>∃W:Nat->Nat->St->Hp->Prop,(∃m,W 0 m σ H1)/\∀i m σ H,W i m σ H->
 (J.stop i H/\D.nx σ H)∨(J.go i H/\∃N:St->Hp->Prop,(∀σ' H',N σ' H'->∃m',m'<m/\W (i+1) m' σ' H')/\∀x H',J.yld i H x H'->g x σ H' λσ2 H2=>tb { D with nx:=N,ct:=N,bk:=D.nx } σ2 H2)
def nW (fp:List Addr)(h:Heap):List (Addr×Obj):=fp.filterMap λb=>(h.get? b).map λo=>(b,o)
theorem qR {fp:List Addr}{h:Heap}{b:Addr}{o:Obj}(hb:b∈fp)(e:h.get? b=some o):(b,o)∈nW fp h:=List.mem_filterMap.mpr ⟨b,hb,by rw[e];rfl⟩
theorem an8 {fp:List Addr}{h:Heap}{p:Addr×Obj}(hp:p∈nW fp h):p.1∈fp/\h.get? p.1=some p.2:=by
 obtain⟨b,hb,e⟩:=List.mem_filterMap.mp hp
 cases q:h.get? b with
 |none=>rw[q]at e;cases e
 |some o=>
  rw[q]at e
  have e':(b,o)=p:=bl6 e
  subst e'
  exact⟨hb,q⟩
theorem a8.pinned {pins:List (Addr×Obj)}{σ:St}{H:Hp}{s:Shared}{fp:List Addr}(I:a8 X pins σ H s)(hf:∀b∈fp,gK X pins H b)(ho:∀b∈fp,∃o,s.heap.get? b=some o/\∀v,o.data≠.cell v):a8 X (pins++nW fp s.heap) σ H s:=
 I.pins_of λp hp=>(bn9.mp hp).elim (λz=>I.pin p (bo5 _ z)) λz=>by
  obtain⟨hb,e⟩:=an8 z
  obtain⟨f0,f1,f2,_⟩:=hf p.1 hb
  obtain⟨o,e',d⟩:=ho p.1 hb
  rw[e]at e';cases e'
  exact⟨e,f0,f1,f2,d⟩
theorem a8.unpinned {pins pl:List (Addr×Obj)}{σ:St}{H:Hp}{s:Shared}(I:a8 X (pins++pl) σ H s):a8 X pins σ H s:=I.pins_of λp hp=>I.pin p (bo5 _ (bt9 _ hp))
theorem C7 {iter:Expr}{body:List Stmt}{wi:TI}{g:TG}{tb:TS}{pos:Pos}(hp:PassesOwn (model X.prog X.w) X.A X.env X.xe)(hc:X.calm=true)(hi:PI X tg iter wi)(hg:PG X tg g)(hb:dB X body tb)(hs:∀x,foldedSetIterable iter X.env x=pure x:=by intro _;rfl):PS X (.For tg iter body [] pos) (C6 wi g tb):=by
 intro pins s σ H D I h
 refine wpAny_For (aJ (hi pins s σ H _ I h) λv s1 h1=>aJ h1 λitv s2 h2=>?_) hs
 obtain⟨it,fp,tn,J,H2,e,I2,T,st2,f2,W,⟨m0,w0⟩,turn⟩:=h2
 subst e
 have stat:∀{H':Hp},(∀b∈fp,H' b=none)->∀b∈fp,gK X pins H' b:=λhn b hb=>⟨hn b hb,(f2 b hb).2⟩
 refine codeAny_forLoop_any (λn s'=>∃i σ' H',a8 X pins σ' H' s'/\tn i s'.heap/\(∀b∈fp,H' b=none)/\W i n σ' H') ?_ m0 ⟨0,σ,H2,I2,st2,λb hb=>(f2 b hb).1,w0⟩
 rintro n s3 ⟨i,σ3,H3,I3,st3,fr3,w3⟩
 rcases turn i n σ3 H3 w3 with⟨stop,qn⟩|⟨go,N,hN,step⟩
 ·refine by3 hp (aJ (T.done X rfl rfl rfl hc i pins s3 σ3 H3 X.xe I3 (stat fr3) st3 stop) λr s4 ⟨hr,I4⟩=>?_)
  subst hr
  exact wpAny_execs_nil ⟨σ3,H3,I4,qn⟩
 ·refine by3 hp (aJ (T.item X rfl rfl rfl hc i pins s3 σ3 H3 X.xe I3 (stat fr3) st3 go) λr s4 ⟨u,hr,h4⟩=>?_)
  subst hr
  refine by3 hp (aJ h4 λ_ s5 ⟨x,H5,I5,r5,y5,st5,fr5⟩=>?_)
  have I5':=I5.pinned (stat fr5) (T.obj _ _ st5)
  refine by3 hp (aJ (hg _ s5 σ3 H5 x u _ I5' r5 (step x H5 y5)) λ_ s6 ⟨σ6,H6,I6,q6⟩=>?_)
  refine by3 hp (aJ (hb _ s6 σ6 H6 _ I6 q6) λf s7 q7=>?_)
  have again:∀{σ7:St}{H7:Hp},a8 X (pins++nW fp s5.heap) σ7 H7 s7->N σ7 H7->∃m,m<n/\∃i σ' H',a8 X pins σ' H' s7/\tn i s7.heap/\(∀b∈fp,H' b=none)/\W i m σ' H':=λ{σ7 H7} I7 n7=>by
   obtain⟨m',hm,w7⟩:=hN σ7 H7 n7
   refine⟨m',hm,i+1,σ7,H7,I7.unpinned,T.keep _ _ _ st5 λb hb o e=>(I7.pin (b,o) (bo5 _ (bo5 _ (qR hb e)))).1,λb hb=>?_,w7⟩
   obtain⟨o,e,d⟩:=T.obj _ _ st5 b hb
   exact (I7.pin (b,o) (bo5 _ (bo5 _ (qR hb e)))).2.1
  cases f with
  |next=>obtain⟨σ7,H7,I7,n7⟩:=q7;exact again I7 n7
  |cont=>obtain⟨σ7,H7,I7,n7⟩:=q7;exact again I7 n7
  |brk=>obtain⟨σ7,H7,I7,q7⟩:=q7;exact⟨σ7,H7,I7.unpinned,q7⟩
  |ret v=>obtain⟨x7,σ7,H7,I7,r7,q7⟩:=q7;exact⟨x7,σ7,H7,I7.unpinned,r7,q7⟩
end
theorem bk0 {K:ac}{a:Addr}{xs:List V}{g:TG}{tb:TS}{D:bP}{σ:St}{H:Hp}(Pv:Nat->St->Hp->Prop)(h0:Pv 0 σ H)(hl:∀i σ H,i<=xs.length->Pv i σ H->aM K H a xs)(hs:∀i x σ H,xs[i]? = some x->Pv i σ H->g x σ H λσ2 H2=>tb { D with nx:=Pv (i+1),ct:=Pv (i+1),bk:=D.nx } σ2 H2)(hd:∀σ H,Pv xs.length σ H->D.nx σ H) :
  ∃W:Nat->Nat->St->Hp->Prop,(∃m,W 0 m σ H)/\∀i m σ H,W i m σ H->
   ((lY K a).stop i H/\D.nx σ H)∨((lY K a).go i H/\∃N:St->Hp->Prop,(∀σ' H',N σ' H'->∃m',m'<m/\W (i+1) m' σ' H')/\∀x H',(lY K a).yld i H x H'->g x σ H' λσ2 H2=>tb { D with nx:=N,ct:=N,bk:=D.nx } σ2 H2):=by
 refine⟨λi m σ H=>m=xs.length-i/\i<=xs.length/\Pv i σ H,⟨xs.length,by simp,bo0 _,h0⟩,?_⟩
 rintro i m σ H ⟨rfl,hi,p⟩
 have q:=hl i σ H hi p
 by_cases hlt:i<xs.length
 ·refine .inr ⟨⟨xs,xs[i],q,by simp[hlt]⟩,Pv (i+1),λσ' H' p'=>⟨xs.length-(i+1),by omega,rfl,hlt,p'⟩,λx H' y=>?_⟩
  obtain⟨e,y⟩:=y
  subst e
  exact hs i x σ _ (y xs q) p
 ·have e:i=xs.length:=by omega
  subst e
  exact .inl ⟨⟨xs,q,bk9 _⟩,hd σ H p⟩
theorem an9 {K:ac}{a:Addr}{xs:List V}{g:TG}{tb:TS}{D:bP}{σ:St}{H:Hp}(Pv:Nat->St->Hp->Prop)(h0:Pv 0 σ H)(hl:∀i σ H,i<=xs.length->Pv i σ H->aL K H a xs)(hs:∀i x σ H,xs[i]? = some x->Pv i σ H->g x σ H λσ2 H2=>tb { D with nx:=Pv (i+1),ct:=Pv (i+1),bk:=D.nx } σ2 H2)(hd:∀σ H,Pv xs.length σ H->D.nx σ H) :
  ∃W:Nat->Nat->St->Hp->Prop,(∃m,W 0 m σ H)/\∀i m σ H,W i m σ H->
   ((jN K a).stop i H/\D.nx σ H)∨((jN K a).go i H/\∃N:St->Hp->Prop,(∀σ' H',N σ' H'->∃m',m'<m/\W (i+1) m' σ' H')/\∀x H',(jN K a).yld i H x H'->g x σ H' λσ2 H2=>tb { D with nx:=N,ct:=N,bk:=D.nx } σ2 H2):=by
 refine⟨λi m σ H=>m=xs.length-i/\i<=xs.length/\Pv i σ H,⟨xs.length,by simp,bo0 _,h0⟩,?_⟩
 rintro i m σ H ⟨rfl,hi,p⟩
 have q:=hl i σ H hi p
 by_cases hlt:i<xs.length
 ·refine .inr ⟨⟨xs,xs[i],q,by simp[hlt]⟩,Pv (i+1),λσ' H' p'=>⟨xs.length-(i+1),by omega,rfl,hlt,p'⟩,λx H' y=>?_⟩
  obtain⟨e,y⟩:=y
  subst e
  exact hs i x σ _ (y xs q) p
 ·have e:i=xs.length:=by omega
  subst e
  exact .inl ⟨⟨xs,q,bk9 _⟩,hd σ H p⟩
abbrev R2:=V->V->Hp->VK->Prop
def cG (X:Cx)(f:Value->Value->Sem Value)(r:R2):Prop:=
 ∀(pins:List (Addr×Obj)) (s:Shared) (σ:St) (H:Hp) (x y:V) (v u:Value) (Q:VK),a8 X pins σ H s->aT x v->aT y u->r x y H Q->
  wpAny (model X.prog X.w) X.A (f v u) (EP X pins σ Q) X.xe s
def uV (X:Cx)(f:Value->Sem Value)(r:V->Hp->VK->Prop):Prop:=
 ∀(pins:List (Addr×Obj)) (s:Shared) (σ:St) (H:Hp) (x:V) (v:Value) (Q:VK),a8 X pins σ H s->aT x v->r x H Q->
  wpAny (model X.prog X.w) X.A (f v) (EP X pins σ Q) X.xe s
def cH (X:Cx)(f:Value)(r:List V->Hp->VK->Prop):Prop:=
 ∀(pins:List (Addr×Obj)) (s:Shared) (σ:St) (H:Hp) (xs:List V) (us:List Value) (Q:VK),a8 X pins σ H s->aQ xs us->r xs H Q->
  wpAny (model X.prog X.w) X.A (call f us) (EP X pins σ Q) X.xe s
def ao0 (X:Cx)(r:V->Hp->(Bool->Hp->Prop)->Prop):Prop:=
 ∀(pins:List (Addr×Obj)) (s:Shared) (σ:St) (H:Hp) (x:V) (v:Value) (Q:Bool->Hp->Prop),a8 X pins σ H s->aT x v->r x H Q->
  wpAny (model X.prog X.w) X.A (truthy v) (TP X pins σ Q) X.xe s
def jO (r:R2)(ta tb:TE):TE:=λσ H Q=>ta σ H λx H1=>tb σ H1 λy H2=>r x y H2 Q
def tUn (r:V->Hp->VK->Prop)(ta:TE):TE:=λσ H Q=>ta σ H λx H1=>r x H1 Q
def rI (C:Int->Int->Prop)(g:Int->Int->V):R2:=λx y H Q=>∃i j,x = .int i/\y = .int j/\C i j/\Q (g i j) H
def iO (g:Int->Int->V):R2:=λx y H Q=>∃i j,x = .int i/\y = .int j/\Q (g i j) H
def rU (g:Int->V):V->Hp->VK->Prop:=λx H Q=>∃i,x = .int i/\Q (g i) H
section
variable {X:Cx}{a b c:Expr}{ta tb tc:TE}{pos:Pos}
theorem uW (ha:PE X a ta)(hb:PE X b tb){pins:List (Addr×Obj)}{s:Shared}{σ:St}{H:Hp}{R:V->V->Hp->Prop}(I:a8 X pins σ H s)(h:ta σ H λx H1=>tb σ H1 λy H2=>R x y H2){Q:Value->Shared->Prop}{f:Value->Value->Sem Value}(hf:∀v u s2 x y H2,a8 X pins σ H2 s2->aT x v->aT y u->R x y H2->wpAny (model X.prog X.w) X.A (f v u) Q X.xe s2) :
  wpAny (model X.prog X.w) X.A (eval a X.env) (λv s₁=>wpAny (model X.prog X.w) X.A (eval b X.env) (λu s₂=>wpAny (model X.prog X.w) X.A (f v u) Q X.xe s₂) X.xe s₁) X.xe s:=by
 refine aJ (ha pins s σ H _ I h) λv s1 ⟨x,H1,I1,r1,q1⟩=>?_
 refine aJ (hb pins s1 σ H1 _ I1 q1) λu s2 ⟨y,H2,I2,r2,q2⟩=>?_
 exact hf v u s2 x y H2 I2 r1 r2 q2
theorem ao1 {op:Operator}{r:R2}(ho:cG X (binaryOp op) r)(ha:PE X a ta)(hb:PE X b tb):PE X (.BinOp a op b pos) (jO r ta tb):=by
 intro pins s σ H Q I h
 exact wpAny_BinOp (uW ha hb I h λv u s2 x y H2 I2 rx ry q=>ho pins s2 σ H2 x y v u Q I2 rx ry q)
theorem ao2 {op:UnaryOp}{r:V->Hp->VK->Prop}(ho:uV X (unaryOp op) r)(ha:PE X a ta):PE X (.UnaryOp op a pos) (tUn r ta):=by
 intro pins s σ H Q I h
 exact UnaryOp_ (aJ (ha pins s σ H _ I h) λv s1 ⟨x,H1,I1,r1,q1⟩=>ho pins s1 σ H1 x v Q I1 r1 q1)
theorem qS {f:Value->Value->Sem Value}{C:Int->Int->Prop}{g:Int->Int->Int}(rule:∀(i j:Int) (t u:Tok) (s:Shared) (Q:Value->Shared->Prop) (E:Value->Shared->Prop),C i j->Q (.int (g i j) s.toks) { s with toks:=s.toks+1 }->wpAny (model X.prog X.w) X.A (f (.int i t) (.int j u)) Q E s) :
  cG X f (rI C λi j=>.int (g i j)):=by
 intro pins s σ H x y v u Q I rx ry h
 obtain⟨i,j,rfl,rfl,hc,q⟩:=h
 obtain⟨t,rfl⟩:=rx
 obtain⟨t',rfl⟩:=ry
 exact rule i j t t' s _ _ hc ⟨.int (g i j),H,I.tok _,⟨_,rfl⟩,q⟩
theorem C8 {f:Value->Value->Sem Value}{g:Int->Int->Int}(rule:∀(i j:Int) (t u:Tok) (s:Shared) (Q:Value->Shared->Prop) (E:Value->Shared->Prop),Q (.int (g i j) s.toks) { s with toks:=s.toks+1 }->wpAny (model X.prog X.w) X.A (f (.int i t) (.int j u)) Q E s) :
  cG X f (iO λi j=>.int (g i j)):=by
 intro pins s σ H x y v u Q I rx ry h
 obtain⟨i,j,rfl,rfl,q⟩:=h
 obtain⟨t,rfl⟩:=rx
 obtain⟨t',rfl⟩:=ry
 exact rule i j t t' s _ _ ⟨.int (g i j),H,I.tok _,⟨_,rfl⟩,q⟩
theorem uX {f:Value->Value->Sem Value}{g:Int->Int->Bool}(rule:∀(i j:Int) (t u:Tok) (s:Shared) (Q:Value->Shared->Prop) (E:Value->Shared->Prop),Q (.bool (g i j)) s->wpAny (model X.prog X.w) X.A (f (.int i t) (.int j u)) Q E s) :
  cG X f (iO λi j=>.bl (g i j)):=by
 intro pins s σ H x y v u Q I rx ry h
 obtain⟨i,j,rfl,rfl,q⟩:=h
 obtain⟨t,rfl⟩:=rx
 obtain⟨t',rfl⟩:=ry
 exact rule i j t t' s _ _ ⟨.bl (g i j),H,I,rfl,q⟩
def uY (i j:Int):Prop:=0<j/\j<1073741824
def uZ (i j:Int):Prop:=0<=j/\j<=1000000/\i.natAbs<2^64
def nX (i j:Int):Prop:=(-(2^64)<i/\i<2^64)∨(-(2^64)<j/\j<2^64)
theorem nX.ok {i j:Int}(h:nX i j):IntMulOk i j:=by
 rcases h with⟨h1,h2⟩|⟨h1,h2⟩
 ·exact .of_left (intBits_le_64 h1 h2)
 ·exact .of_right (intBits_le_64 h1 h2)
theorem ao3:cG X (binaryOp .Add) (iO λi j=>.int (i+j)):=C8 λ_ _ _ _ _ _ _ q=>add_int q
theorem ao4:cG X (binaryOp .Sub) (iO λi j=>.int (i-j)):=C8 λ_ _ _ _ _ _ _ q=>sub_int q
theorem ao5:cG X (binaryOp .Mult) (rI nX λi j=>.int (i*j)):=qS λ_ _ _ _ _ _ _ hc q=>mul_int q hc.ok
theorem ao6:cG X (binaryOp .FloorDiv) (rI uY λi j=>.int (i/j)):=qS λi j _ _ _ _ _ hc q=>by
 have h1:(0:Int)<j:=hc.1
 have h2:j<1073741824:=hc.2
 exact floordiv_int (by omega) (by rw[Int.fdiv_eq_ediv_of_nonneg i (by omega)];exact q) (.inl (PyProof.noPylong_small (by omega)))
theorem ao7:cG X (binaryOp .Mod) (rI (λ_ j=>0<j) λi j=>.int (i%j)):=qS λi j _ _ _ _ _ hc q=>by
 have h1:(0:Int)<j:=hc
 exact mod_int' (by omega) (by rw[Int.fmod_eq_emod_of_nonneg i (by omega)];exact q)
theorem ao8:cG X (binaryOp .Pow) (rI uZ λi j=>.int (i^j.toNat)):=qS λ_ _ _ _ _ _ _ hc q=>pow_int_small hc.1 hc.2.1 hc.2.2 q
theorem unI {f:Value->Sem Value}{g:Int->Int}(rule:∀(i:Int) (t:Tok) (s:Shared) (Q:Value->Shared->Prop) (E:Value->Shared->Prop),Q (.int (g i) s.toks) { s with toks:=s.toks+1 }->wpAny (model X.prog X.w) X.A (f (.int i t)) Q E s) :
  uV X f (rU λi=>.int (g i)):=by
 intro pins s σ H x v Q I rx h
 obtain⟨i,rfl,q⟩:=h
 obtain⟨t,rfl⟩:=rx
 exact rule i t s _ _ ⟨.int (g i),H,I.tok _,⟨_,rfl⟩,q⟩
theorem ao9:uV X (unaryOp .USub) (rU λi=>.int (-i)):=unI λ_ _ _ _ _ q=>neg_int q
end
def C9:V->V->Bool
 |.non,.non=>true|.non,.int _=>true|.int _,.non=>true|.non,.bl _=>true|.bl _,.non=>true|.non,.str _=>true|.str _,.non=>true
 |.int _,.int _=>true|.bl _,.bl _=>true|.str _,.str _=>true|.byt _,.byt _=>true
 |.int _,.str _=>true|.str _,.int _=>true|.bl _,.str _=>true|.str _,.bl _=>true
 |_,_=>false
def v3:R2:=λx y H Q=>C9 x y=true/\Q (.bl (decide (x=y))) H
def v4:R2:=λx y H Q=>C9 x y=true/\Q (.bl (!decide (x=y))) H
theorem E1 {i j:Int}:decide (V.int i=V.int j)=(i==j):=by
 rw[bq0]
 simp
theorem E2 {i j:Bool}:decide (V.bl i=V.bl j)=(i==j):=by
 rw[bq0]
 simp
theorem E3 {i j:Str}:decide (V.str i=V.str j)=(i==j):=by
 rw[bq0]
 simp
theorem E4 {i j:Array UInt8}:decide (V.byt i=V.byt j)=(i.toList==j.toList):=by
 rw[bq0]
 cases i
 cases j
 simp
section
variable {X:Cx}{a b c:Expr}{ta tb tc:TE}{pos:Pos}
theorem c8 {pins:List (Addr×Obj)}{σ:St}{H:Hp}{s:Shared}{Q:VK}{k k':Bool}(I:a8 X pins σ H s)(q:Q (.bl k) H)(e:k=k'):EP X pins σ Q (.bool k') s:=by
 subst e
 exact⟨.bl k,H,I,rfl,q⟩
theorem v7:cG X (compareOp .Eq) v3:=by
 intro pins s σ H x y v u Q I rx ry h
 obtain⟨hs,q⟩:=h
 cases x with
 |non=>
  cases rx
  cases y with
  |non=>cases ry;exact PySem.EqNone.eq_none_none (c8 I q (by simp))
  |bl j=>cases ry;exact PySem.EqNone.eq_none_bool (c8 I q (by simp))
  |int j=>obtain⟨t',rfl⟩:=ry;exact PySem.EqNone.eq_none_int (c8 I q (by simp))
  |str j=>obtain⟨t',rfl⟩:=ry;exact PySem.EqNone.eq_none_str (c8 I q (by simp))
  |_=>exact absurd (show false=true from hs) bm6
 |bl i=>
  cases rx
  cases y with
  |non=>cases ry;exact PySem.EqNone.eq_bool_none (c8 I q (by simp))
  |bl j=>cases ry;exact eq_bool (c8 I q E2)
  |str j=>obtain⟨t',rfl⟩:=ry;exact PySem.EqMixed.eq_bool_str (c8 I q (by simp))
  |_=>exact absurd (show false=true from hs) bm6
 |int i=>
  obtain⟨t,rfl⟩:=rx
  cases y with
  |non=>cases ry;exact PySem.EqNone.eq_int_none (c8 I q (by simp))
  |int j=>obtain⟨t',rfl⟩:=ry;exact eq_int (c8 I q E1)
  |str j=>obtain⟨t',rfl⟩:=ry;exact PySem.EqMixed.eq_int_str (c8 I q (by simp))
  |_=>exact absurd (show false=true from hs) bm6
 |str i=>
  obtain⟨t,rfl⟩:=rx
  cases y with
  |non=>cases ry;exact PySem.EqNone.eq_str_none (c8 I q (by simp))
  |bl j=>cases ry;exact PySem.EqMixed.eq_str_bool (c8 I q (by simp))
  |int j=>obtain⟨t',rfl⟩:=ry;exact PySem.EqMixed.eq_str_int (c8 I q (by simp))
  |str j=>obtain⟨t',rfl⟩:=ry;exact eq_str (c8 I q E3)
  |_=>exact absurd (show false=true from hs) bm6
 |byt i=>
  obtain⟨t,rfl⟩:=rx
  cases y with
  |byt j=>obtain⟨t',rfl⟩:=ry;exact PySem.W.eq_bytes (c8 I q E4)
  |_=>exact absurd (show false=true from hs) bm6
 |_=>cases y<;>exact absurd (show false=true from hs) bm6
theorem E5:cG X (compareOp .NotEq) v4:=by
 intro pins s σ H x y v u Q I rx ry h
 obtain⟨hs,q⟩:=h
 cases x with
 |non=>
  cases rx
  cases y with
  |non=>cases ry;exact PySem.EqNone.ne_none_none (c8 I q (by simp))
  |bl j=>cases ry;exact PySem.EqNone.ne_none_bool (c8 I q (by simp))
  |int j=>obtain⟨t',rfl⟩:=ry;exact PySem.EqNone.ne_none_int (c8 I q (by simp))
  |str j=>obtain⟨t',rfl⟩:=ry;exact PySem.EqNone.ne_none_str (c8 I q (by simp))
  |_=>exact absurd (show false=true from hs) bm6
 |bl i=>
  cases rx
  cases y with
  |non=>cases ry;exact PySem.EqNone.ne_bool_none (c8 I q (by simp))
  |bl j=>cases ry;exact ne_bool (c8 I q (congrArg not E2))
  |str j=>obtain⟨t',rfl⟩:=ry;exact PySem.EqMixed.ne_bool_str (c8 I q (by simp))
  |_=>exact absurd (show false=true from hs) bm6
 |int i=>
  obtain⟨t,rfl⟩:=rx
  cases y with
  |non=>cases ry;exact PySem.EqNone.ne_int_none (c8 I q (by simp))
  |int j=>obtain⟨t',rfl⟩:=ry;exact ne_int (c8 I q (congrArg not E1))
  |str j=>obtain⟨t',rfl⟩:=ry;exact PySem.EqMixed.ne_int_str (c8 I q (by simp))
  |_=>exact absurd (show false=true from hs) bm6
 |str i=>
  obtain⟨t,rfl⟩:=rx
  cases y with
  |non=>cases ry;exact PySem.EqNone.ne_str_none (c8 I q (by simp))
  |bl j=>cases ry;exact PySem.EqMixed.ne_str_bool (c8 I q (by simp))
  |int j=>obtain⟨t',rfl⟩:=ry;exact PySem.EqMixed.ne_str_int (c8 I q (by simp))
  |str j=>obtain⟨t',rfl⟩:=ry;exact ne_str (c8 I q (congrArg not E3))
  |_=>exact absurd (show false=true from hs) bm6
 |byt i=>
  obtain⟨t,rfl⟩:=rx
  cases y with
  |byt j=>obtain⟨t',rfl⟩:=ry;exact PySem.W.ne_bytes (c8 I q (congrArg not E4))
  |_=>exact absurd (show false=true from hs) bm6
 |_=>cases y<;>exact absurd (show false=true from hs) bm6
theorem qT:cG X (compareOp .Lt) (iO λi j=>.bl (decide (i<j))):=uX λ_ _ _ _ _ _ _ q=>lt_int q
theorem ap0:cG X (compareOp .Gt) (iO λi j=>.bl (decide (j<i))):=uX λ_ _ _ _ _ _ _ q=>gt_int q
theorem ap1:cG X (compareOp .GtE) (iO λi j=>.bl (decide (j<=i))):=uX λ_ _ _ _ _ _ _ q=>ge_int q
theorem ap3:cG X (compareOp .IsNot) (λx y H Q=>y = .non/\Q (.bl (!decide (x = .non))) H):=by
 intro pins s σ H x y v u Q I rx ry h
 obtain⟨rfl,q⟩:=h
 cases ry
 refine isnot_none_gen (c8 I q ?_)
 cases x<;>first
  |(cases rx;rfl)
  |(obtain⟨t,rfl⟩:=rx;rfl)
theorem fG (b:Expr){op:CmpOp}(h:op≠.In:=by decide)(h2:op≠.NotIn:=by decide):behindInMarks op b=false:=by
 have e1:(op==CmpOp.In)=false:=by cases op<;>first|rfl|exact absurd rfl h
 have e2:(op==CmpOp.NotIn)=false:=by cases op<;>first|rfl|exact absurd rfl h2
 cases b<;>simp[behindInMarks,e1,e2]
theorem v8 {op:CmpOp}{r:R2}(ho:cG X (compareOp op) r)(ha:PE X a ta)(hb:PE X b tb)(hm:behindInMarks op b=false):PE X (.Compare a [op] [b] pos) (jO r ta tb):=by
 intro pins s σ H Q I h
 exact wpAny_Compare1 (uW ha hb I h λv u s2 x y H2 I2 rx ry q=>ho pins s2 σ H2 x y v u Q I2 rx ry q) hm
def v9 (t:TE):TT:=λσ H Q=>t σ H λx H'=>∃k,x = .bl k/\Q k H'
theorem vA {op:CmpOp}{r:R2}(ho:cG X (compareOp op) r)(ha:PE X a ta)(hb:PE X b tb)(hm:behindInMarks op b=false):PT X (.Compare a [op] [b] pos) (v9 (jO r ta tb)):=by
 intro pins s σ H Q I h
 refine wpAny_isTrue_Compare1 (aJ (ha pins s σ H _ I h) λv s1 ⟨x,H1,I1,r1,q1⟩=>aJ (hb pins s1 σ H1 _ I1 q1) λu s2 ⟨y,H2,I2,r2,q2⟩=>
  aJ (ho pins s2 σ H2 x y v u _ I2 r1 r2 q2) λc s3 ⟨z,H3,I3,r3,k,e,q3⟩=>?_) hm
 subst e
 cases r3
 exact bw9 ⟨H3,I3,q3⟩
def vB (K:ac)(x:V)(H:Hp)(k:Bool):Prop:=
 match x with
 |.non=>k=false
 |.bl b=>k=b
 |.int i=>k=(i != 0)
 |.str y=>y.length<=sizeLine/\k=((y.length:Int) != 0)
 |.byt y=>y.size<=sizeLine/\k=((y.size:Int) != 0)
 |.ref p=>(∃xs,aM K H p xs/\k = !xs.isEmpty)∨(∃xs,aL K H p xs/\k = !xs.isEmpty)∨∃kvs,H p=some (.dK kvs)/\k = !kvs.isEmpty
 |_=>False
theorem ap4 {κ:Type}{kvs:List (κ×V)}{vs:List (κ×Value)}(r:KV kvs vs):(!vs.isEmpty) = !kvs.isEmpty:=by
 cases r<;>rfl
theorem E6 {xs:List V}{its:List Value}(r:aQ xs its):(!its.toArray.isEmpty) = !xs.isEmpty:=by
 cases r<;>simp
theorem nY:(sizeLine:Nat)<2^63:=by rw[sizeLine_eq];decide
theorem E7:ao0 X (λx H Q=>∃k,vB X.K x H k/\Q k H):=by
 intro pins s σ H x v Q I rx h
 obtain⟨k,e,q⟩:=h
 have hl:=nY
 have hs:sizeLine=16777216:=sizeLine_eq
 cases x with
 |non=>
  cases rx
  have e':k=false:=e
  subst e'
  exact truthy_none ⟨H,I,q⟩
 |bl b=>
  cases rx
  have e':k=b:=e
  subst e'
  exact bw9 ⟨H,I,q⟩
 |int i=>
  obtain⟨t,rfl⟩:=rx
  have e':k=(i != 0):=e
  subst e'
  exact PySem.P.truthy_int ⟨H,I,q⟩
 |str y=>
  obtain⟨t,rfl⟩:=rx
  obtain⟨hy,e'⟩:y.length<=sizeLine/\k=((y.length:Int) != 0):=e
  subst e'
  exact PySem.P.truthy_str (by omega) ⟨H,I.tok _,q⟩
 |byt y=>
  obtain⟨t,rfl⟩:=rx
  obtain⟨hy,e'⟩:y.size<=sizeLine/\k=((y.size:Int) != 0):=e
  subst e'
  exact PySem.W.truthy_bytes (by omega) ⟨H,I.tok _,q⟩
 |ref p=>
  cases rx
  have e':(∃xs,aM X.K H p xs/\k = !xs.isEmpty)∨(∃xs,aL X.K H p xs/\k = !xs.isEmpty)∨∃kvs,H p=some (.dK kvs)/\k = !kvs.isEmpty:=e
  rcases e' with⟨xs,hx,e'⟩|⟨xs,hx,e'⟩|⟨kvs,hx,e'⟩
  ·subst e'
   obtain⟨its,r,pl,hz⟩:=I.list hx
   have hlen:=r.length
   exact wpAny_truthy_list pl.isList (by simp only[bk7];omega) ⟨H,I.tok _,by rw[E6 r];exact q⟩
  ·subst e'
   obtain⟨its,r,pl,hz⟩:=I.tuple hx
   have hlen:=r.length
   exact truthy_tuple pl (by simp only[bk7];omega) ⟨H,I.tok _,by rw[E6 r];exact q⟩
  ·subst e'
   obtain⟨hz,hS,vs,r,m⟩:kvs.length<=sizeLine/\(p==sysModules)=false/\∃vs,KV kvs vs/\s.heap.DictOf (dA X.prog X.w) p vs:=I.hok p _ hx
   have hlen:kvs.length=vs.length:=Paired.length r
   exact wpAny_truthy_dict hS m (by omega) ⟨H,I.tok _,by rw[ap4 r];exact q⟩
 |_=>exact (show False from e).elim
theorem ap5 (ha:PE X a ta)(he:∀whole,isTrue a X.env whole=(do let v <- whole;standAt a.pos;holding [v] (truthy v))) :
  PT X a (λσ H Q=>ta σ H λx H'=>∃k,vB X.K x H' k/\Q k H'):=by
 intro pins s σ H Q I h
 exact isTrue_plain (aJ (ha pins s σ H _ I h) λv s1 ⟨x,H1,I1,r1,q1⟩=>E7 pins s1 σ H1 x v Q I1 r1 q1) (he _)
theorem fM {x:V}{us:List Value}(r:aQ [x] us):∃u,us = [u]/\aT x u:=by
 cases r with
 |cons r1 r2=>cases r2;exact⟨_,rfl,r1⟩
theorem E8 {x y:V}{us:List Value}(r:aQ [x,y] us):∃u w',us = [u,w']/\aT x u/\aT y w':=by
 cases r with
 |cons r1 r2=>
  cases r2 with
  |cons r3 r4=>cases r4;exact⟨_,_,rfl,r1,r3⟩
theorem ap6 (hc:X.calm=true):cH X (.builtin "max") (λxs H Q=>∃i j,xs = [.int i,.int j]/\Q (.int (if j>i then j else i)) H):=by
 intro pins s σ H xs us Q I r h
 obtain⟨i,j,rfl,q⟩:=h
 obtain⟨u,w',rfl,⟨t,rfl⟩,⟨t',rfl⟩⟩:=E8 r
 refine max_two_ints (I.ok.hd hc) λh' tk k=>⟨_,H,I.kept k,?_,q⟩
 by_cases hj:j>i
 ·rw[if_pos hj,if_pos hj];exact⟨_,rfl⟩
 ·rw[if_neg hj,if_neg hj];exact⟨_,rfl⟩
theorem ap7 (hc:X.calm=true):cH X (.builtin "min") (λxs H Q=>∃i j,xs = [.int i,.int j]/\Q (.int (if j<i then j else i)) H):=by
 intro pins s σ H xs us Q I r h
 obtain⟨i,j,rfl,q⟩:=h
 obtain⟨u,w',rfl,⟨t,rfl⟩,⟨t',rfl⟩⟩:=E8 r
 refine min_two_ints (I.ok.hd hc) λh' tk k=>⟨_,H,I.kept k,?_,q⟩
 by_cases hj:j<i
 ·rw[if_pos hj,if_pos hj];exact⟨_,rfl⟩
 ·rw[if_neg hj,if_neg hj];exact⟨_,rfl⟩
theorem ap8:cH X (.type "int") (λxs H Q=>(∃i,xs = [.int i]/\Q (.int i) H)∨∃k,xs = [.bl k]/\Q (.int (if k then 1 else 0)) H):=by
 intro pins s σ H xs us Q I r h
 rcases h with⟨i,rfl,q⟩|⟨k,rfl,q⟩
 ·obtain⟨u,rfl,t,rfl⟩:=fM r
  exact call_int_int ⟨.int i,H,I,⟨_,rfl⟩,q⟩
 ·obtain⟨u,rfl,r1⟩:=fM r
  cases r1
  exact call_int_bool ⟨.int (if k then 1 else 0),H,I.tok _,⟨_,rfl⟩,q⟩
end
structure kR (h:Heap)(x dx C:Addr)(mA:Str->Option Value):Prop where
 obj:h.get? x=some (PySem.W.instObj C dx)
 ns:h.Ns1 dx mA
 ne:dx≠x
theorem ap9 {h:Heap}{dx:Addr}{mA:Str->Option Value}(n:h.Ns1 dx mA):∃od,h.get? dx=some od/\∀name,PySem.W.lookIn name od=some (mA name):=by
 obtain⟨o,es,ep,ho,hd,hk,_,hm⟩:=n
 refine⟨o,ho,λname=>?_⟩
 have e:=hm name
 unfold nsFind findBy at e
 rw[<- Array.find?_toList]at e
 unfold PySem.W.lookIn
 rw[hd]
 dsimp only
 split
 ·rename_i y q
  rw[q]at e
  exact congrArg some e
 ·rename_i q
  rw[q]at e
  have a:es.toList.any (·.refKey)=false:=by
   rw[List.any_eq_false]
   intro y hy
   obtain⟨z,t,hkey⟩:=hk y (Array.mem_toList_iff.mp hy)
   simp[DictEntry.refKey,hkey]
  have a':¬es.toList.any (·.refKey)=true:=by rw[a];exact bm6
  rw[if_neg a']
  exact congrArg some e
theorem kR.look {h:Heap}{x dx C:Addr}{mA:Str->Option Value}(I:kR h x dx C mA):∃od,PySem.W.InstAt h x (PySem.W.instObj C dx) C (some od)/\∀name,PySem.W.lookIn name od=some (mA name):=
 let ⟨od,ho,hl⟩:=ap9 I.ns
 ⟨od,⟨I.obj,rfl,rfl,ho⟩,hl⟩
section
variable {prog:Program}{w:World}{A:Around}{E:Value→Shared→Prop}{s:Shared}{K:ac}{x dx C f:Addr}{mA:Str→Option Value}{name:Str}{v:Value}
theorem aq0 {expr:Bool}{Q:Value->Shared->Prop}(X:K.In s.heap)(I:kR s.heap x dx C mA)(hg:PySem.W.plainGet K C name=true)(hh:PySem.W.hasDictIn K C=true)(ha:PySem.W.findIn K (.ref C) name=some none)(hv:mA name=some v)(hv':PySem.W.handedIn v=true)(h:Q v { s with toks:=s.toks+1 }) :
  wpAny (model prog w) A (getAttr (.ref x) name expr) Q E s:=by
 obtain⟨od,J,hl⟩:=I.look
 exact PySem.W.get_value X J (PySem.W.plainGet_of hg).1 (PySem.W.findObj_own hh ha rfl (by rw[hl,hv])) hv' h
theorem aq1 {pl:Sem Bool}{Q:Value×List Value->Shared->Prop}(X:K.In s.heap)(I:kR s.heap x dx C mA)(hg:PySem.W.plainGet K C name=true)(hf:PySem.W.findIn K (.ref C) name=some (some (.ref f)))(ht:PySem.W.isFn K (.ref f)=true)(hv:mA name=none)(h:Q (.ref f,[.ref x]) s) :
  wpAny (model prog w) A (getMethod (.ref x) name pl) Q E s:=by
 obtain⟨od,J,hl⟩:=I.look
 exact PySem.W.method_fn X J (PySem.W.plainGet_of hg).1 (PySem.W.plainGet_of hg).2 hf (beq_iff_eq.mp ht) (by show (PySem.W.lookIn name od).map (·.isSome)=some false;rw[hl,hv];rfl) h
theorem aq2 {ns:List Str}{Q:Unit->Shared->Prop}(X:K.In s.heap)(I:kR s.heap x dx C mA)(hs:PySem.W.findIn K (.ref C) "__setattr__" = some (some (.builtin "object.__setattr__")))(hp:PySem.W.plainOver K C=true)(ht:PySem.W.takerIn K C name=some none)(hh:PySem.W.hasDictIn K C=true)(hw:PySem.Within mA ns)(hsz:ns.length<=sizeLine)(h:∀h',kR h' x dx C (λy=>if y=name then some v else mA y)->Heap.SameBut dx s.heap h'->Q () { s with heap:=h',toks:=s.toks+2 }) :
  wpAny (model prog w) A (setAttr (.ref x) name v) Q E s:=by
 obtain⟨od,J,hl⟩:=I.look
 refine PySem.W.set_plain X J hs (PySem.W.osa_open (s:={ s with toks:=s.toks+1 }) (r:=none) X J hp ht λb=>?_)
 obtain⟨cd,hc,hd'⟩:=PySem.W.any_some hh
 have hx:s.heap.get? x=some ⟨.ref C,some dx,.plain,#[]⟩:=I.obj
 refine bk5 (bl0 (bk5 (bk5 (wpAny_loadPart hx (bk5 (PySem.W.Looks.here (s:={ s with toks:=s.toks+1 }) (PySem.W.looks_clsIn X hc) ?_))))))
 rw[hd']
 refine bl0 (a:=some dx) (bk5 (bl0 (bk5 ?_)))
 refine wpAny_nsSet1 (s:={ s with toks:=s.toks+1 }) I.ns λh' hn2 hs2=>?_
 obtain⟨oD,esD,epD,hoD,hdD,hcD⟩:=hn2.count (PySem.Within.cons name v hw)
 refine bk5 (wpAny_lookBehind hoD (by rw[hdD];exact pastItsLine_dict (bo3 hcD (by rw[bo1];omega))) ?_)
 exact bl0 (h _ ⟨(hs2.2 _ (Ne.symm I.ne)).trans I.obj,hn2,I.ne⟩ hs2)
theorem aq3 {R:Result->Shared->Prop}{vs:List Value}{kw:List (Str×Value)}(X:K.In s.heap)(hm:PySem.W.makesIn K C=true)(hi:PySem.W.findIn K (.ref C) "__init__" = some (some (.ref f)))(hf:PySem.W.typeIn K (.ref f)=some (.type "function"))(h:codeAny (model prog w) (A.under (.builtin "type.__call__" ⟨.ref C::vs,kw⟩)) (.call (.ref f) ⟨.ref (s.heap.objs.size+1)::vs,kw⟩) (PySem.W.InitBack (s.heap.objs.size+1) R)
   { s with heap:=(s.heap.push PySem.W.emptyDict).push (PySem.W.instObj C s.heap.objs.size) }) :
  codeAny (model prog w) A (.call (.ref C) ⟨vs,kw⟩) R s:=by
 obtain⟨hh,g,d,t,os⟩:=s
 exact PySem.W.make_core (PySem.W.makes_of X hm) (PySem.W.looks_findIn X hi) (λself=>PySem.W.bind_fn X self hf) (.inl rfl) h
end
def dY (f:Str)(v:V):List (Str×V)->List (Str×V)
 |[]=>[(f,v)]
 |(g,x)::r=>if g=f then (g,v)::r else (g,x)::dY f v r
theorem E9 (f g:Str)(v:V):∀fs:List (Str×V),(dY f v fs).lookup g=if g=f then some v else fs.lookup g
 |[]=>by
  show List.lookup g [(f,v)]=_
  by_cases h:g=f
  ·have hb:(g==f)=true:=beq_iff_eq.mpr h
   simp only[List.lookup,hb,if_pos h]
  ·have hb:(g==f)=false:=bs4.mpr h
   simp only[List.lookup,hb,if_neg h]
 |(k,x)::r=>by
  have ih:=E9 f g v r
  rw[show dY f v ((k,x)::r)=(if k=f then (k,v)::r else (k,x)::dY f v r) from rfl]
  by_cases hk:k=f
  ·rw[if_pos hk]
   by_cases h:g=k
   ·have hb:(g==k)=true:=beq_iff_eq.mpr h
    simp only[List.lookup,hb,if_pos (h.trans hk)]
   ·have hb:(g==k)=false:=bs4.mpr h
    simp only[List.lookup,hb,if_neg (λe:g=f=>h (e.trans hk.symm))]
  ·rw[if_neg hk]
   by_cases h:g=k
   ·have hb:(g==k)=true:=beq_iff_eq.mpr h
    simp only[List.lookup,hb,if_neg (λe:g=f=>hk (h.symm.trans e))]
   ·have hb:(g==k)=false:=bs4.mpr h
    simp only[List.lookup,hb]
    exact ih
theorem vC (f:Str)(v:V):∀fs:List (Str×V),f∈(dY f v fs).map (·.1)/\∀g,g∈fs.map (·.1)->g∈(dY f v fs).map (·.1)
 |[]=>⟨by simp[dY],λg h=>by simp at h⟩
 |(k,x)::r=>by
  obtain⟨i1,i2⟩:=vC f v r
  rw[show dY f v ((k,x)::r)=(if k=f then (k,v)::r else (k,x)::dY f v r) from rfl]
  by_cases hk:k=f
  ·rw[if_pos hk]
   subst hk
   exact⟨by simp,λg h=>by simpa using h⟩
  ·rw[if_neg hk]
   refine⟨?_,λg h=>?_⟩
   ·rw[bp3]
    exact bm9 _ i1
   ·rw[bp3]at h ⊢
    rcases bl2.mp h with e|e
    ·exact bl2.mpr (.inl e)
    ·exact bm9 _ (i2 g e)
theorem F0 (f:Str)(v:V):∀fs:List (Str×V),(dY f v fs).length<=fs.length+1
 |[]=>by simp[dY]
 |(k,x)::r=>by
  have ih:=F0 f v r
  rw[show dY f v ((k,x)::r)=(if k=f then (k,v)::r else (k,x)::dY f v r) from rfl]
  by_cases hk:k=f
  ·rw[if_pos hk,bo1,bo1];omega
  ·rw[if_neg hk,bo1,bo1];omega
theorem eS.some_of {v:V}{o:Option Value}(r:eS (some v) o):∃u,o=some u/\aT v u:=by
 cases o with
 |none=>exact (show False from r).elim
 |some u=>exact⟨u,rfl,r⟩
theorem eS.none_of {o:Option Value}(r:eS none o):o=none:=by
 cases o with
 |none=>rfl
 |some u=>exact (show False from r).elim
theorem aq4 {v:V}{u:Value}(r:aT v u):PySem.W.handedIn u=true:=by
 cases v with
 |non=>cases (show u=Value.none from r);rfl
 |bl b=>cases (show u=Value.bool b from r);rfl
 |int i=>obtain⟨t,e⟩:=(show ∃t,u=Value.int i t from r);cases e;rfl
 |str x=>obtain⟨t,e⟩:=(show ∃t,u=Value.str x t from r);cases e;rfl
 |byt b=>obtain⟨t,e⟩:=(show ∃t,u=Value.bytes b t from r);cases e;rfl
 |flt b=>obtain⟨t,e⟩:=(show ∃t,u=Value.float b t from r);cases e;rfl
 |ref a=>cases (show u=Value.ref a from r);rfl
 |ty n=>cases (show u=Value.type n from r);rfl
section
variable {P:Program}{w:World}{H H':Hp}{h h':Heap}{a C dx:Addr}{fs fs':List (Str×V)}
theorem vD (hok:bV P w H h)(e:H a=some (.ins C dx fs)):∃mA,kR h a dx C mA/\(∀f,eS (fs.lookup f) (mA f))/\PySem.Within mA (fs.map (·.1))/\fs.length<=1000/\H dx=some (.own a):=by
 obtain⟨d,z,ne,ob,mA,n,r,q⟩:=(show cF P w H h a (.ins C dx fs) from hok a _ e)
 exact⟨mA,⟨ob,n,ne⟩,r,q,z,d⟩
end
structure gL (K:ac)(C:Addr):Prop where
 pg:PySem.W.plainGet K C Str.empty=true
 hd:PySem.W.hasDictIn K C=true
 po:PySem.W.plainOver K C=true
 sa:PySem.W.findIn K (.ref C) "__setattr__" = some (some (.builtin "object.__setattr__"))
theorem gL.get {K:ac}{C:Addr}(c:gL K C)(f:Str):PySem.W.plainGet K C f=true:=c.pg
def jP (K:ac)(C:Addr)(f:Str):Prop:=PySem.W.findIn K (.ref C) f=some none
theorem jP.taker {K:ac}{C:Addr}{f:Str}(n:jP K C f):PySem.W.takerIn K C f=some none:=by
 unfold PySem.W.takerIn
 rw[show PySem.W.findIn K (.ref C) f=some none from n]
 rfl
structure eU (K:ac)(C:Addr)(m:Str)(f:Addr):Prop where
 at_:PySem.W.findIn K (.ref C) m=some (some (.ref f))
 fn:PySem.W.isFn K (.ref f)=true
 kp:PySem.W.keepIn K (.ref f)=true
section
variable {X:Cx}{pins:List (Addr×Obj)}{σ:St}{H:Hp}{s:Shared}{a C dx:Addr}{fs:List (Str×V)}{f:Str}{v:V}{A:Around}{E:Value→Shared→Prop}
theorem aq5 {b:Bool}{Q:Value->Shared->Prop}(I:a8 X pins σ H s)(e:H a=some (.ins C dx fs))(c:gL X.K C)(n:jP X.K C f)(l:fs.lookup f=some v)(h:∀u s',a8 X pins σ H s'->aT v u->Q u s'):wpAny (model X.prog X.w) A (getAttr (.ref a) f b) Q E s:=by
 obtain⟨mA,O,r,_,_,_⟩:=vD I.hok e
 obtain⟨u,hu,ru⟩:=eS.some_of (v:=v) (o:=mA f) (by rw[<- l];exact r f)
 exact aq0 I.kIn O (c.get f) c.hd n hu (aq4 ru) (h u _ (I.tok _) ru)
theorem qU {m:Str}{g:Addr}{pl:Sem Bool}{Q:Value×List Value->Shared->Prop}(I:a8 X pins σ H s)(e:H a=some (.ins C dx fs))(c:gL X.K C)(k:eU X.K C m g)(l:fs.lookup m=none)(h:Q (.ref g,[.ref a]) s):wpAny (model X.prog X.w) A (getMethod (.ref a) m pl) Q E s:=by
 obtain⟨mA,O,r,_,_,_⟩:=vD I.hok e
 have hn:mA m=none:=eS.none_of (by rw[<- l];exact r m)
 exact aq1 I.kIn O (c.get m) k.at_ k.fn hn h
theorem aq6 {y:V}{u:Value}{Q:Unit->Shared->Prop}(I:a8 X pins σ H s)(e:H a=some (.ins C dx fs))(c:gL X.K C)(n:jP X.K C f)(hl:fs.length<1000)(ry:aT y u)(h:∀s',a8 X pins σ (upd H a (.ins C dx (dY f y fs))) s'->Q () s'):wpAny (model X.prog X.w) A (setAttr (.ref a) f u) Q E s:=by
 obtain⟨mA,O,r,wi,_,ho⟩:=vD I.hok e
 have hz:(fs.map (·.1)).length<=sizeLine:=by rw[bl1,sizeLine_eq];omega
 refine aq2 I.kIn O c.sa c.po n.taker c.hd wi hz λh' O' sb=>h _ ?_
 have hd:∃o,h'.get? dx=some o:=let ⟨o,_,_,e',_⟩:=O'.ns;⟨o,e'⟩
 refine I.write (x:=a) (e:=dx) (by rw[e];exact True.intro) (.inr ho) (λb q hb z=>(sb.2 b hb).trans z) hd ?_
 refine⟨by rw[aF O.ne];exact ho,?_,O.ne,O'.obj,_,O'.ns,λg=>?_,λg hg=>?_⟩
 ·have:=F0 f y fs;omega
 ·show eS ((dY f y fs).lookup g) (if g=f then some u else mA g)
  rw[E9]
  by_cases q:g=f
  ·rw[if_pos q,if_pos q];exact ry
  ·rw[if_neg q,if_neg q];exact r g
 ·by_cases q:g=f
  ·rw[q];exact (vC f y fs).1
  ·refine (vC f y fs).2 g (wi g λz=>hg ?_)
   show (if g=f then some u else mA g)=none
   rw[if_neg q];exact z
theorem a8.made (I:a8 X pins σ H s):a8 X pins σ (upd (upd H s.heap.objs.size (.own (s.heap.objs.size+1))) (s.heap.objs.size+1) (.ins C s.heap.objs.size []))
  { s with heap:=(s.heap.push PySem.W.emptyDict).push (PySem.W.instObj C s.heap.objs.size) }:=by
 have e1:(s.heap.push PySem.W.emptyDict).get? s.heap.objs.size=some PySem.W.emptyDict:=bm0 s.heap rfl
 have e2:((s.heap.push PySem.W.emptyDict).push (PySem.W.instObj C s.heap.objs.size)).get? (s.heap.objs.size+1)=some (PySem.W.instObj C s.heap.objs.size):=by
  have:=bm0 (s.heap.push PySem.W.emptyDict) (o:=PySem.W.instObj C s.heap.objs.size) rfl
  rwa [bs2]at this
 have e3:(s.heap.push PySem.W.emptyDict).Ns s.heap.objs.size (λ_=>none):=⟨PySem.W.emptyDict,#[],_,e1,rfl,(λe he=>absurd he (by simp)),λ_=>rfl⟩
 have I1:=I.laid (a:=s.heap.objs.size) (o:=.own (s.heap.objs.size+1)) (h':=s.heap.push PySem.W.emptyDict) (t':=s.toks) (λb u q=>bk6 _ q) (bk9 _) ⟨_,e1⟩
 refine I1.laid (a:=s.heap.objs.size+1) (o:=.ins C s.heap.objs.size []) (t':=s.toks) (λb u q=>bk6 _ q) (Nat.le_of_eq (bs2 _ _)) ?_
 have ne:s.heap.objs.size≠s.heap.objs.size+1:=bn6 (Nat.lt_succ_self _)
 refine⟨by rw[aF ne,aU],bo0 _,ne,e2,λ_=>none,(Heap.Ns1.of_empty e3).at λo q=>bk6 _ q,λ_=>True.intro,λy hy=>absurd rfl hy⟩
theorem aq7 {prog:Program}{w:World}{env:Env}{e:Expr}{f:Str}{pos:Pos}{s:Shared}{Q:Value->Shared->Prop}(hb:attributeBase e f env (eval e env)=eval e env)(h:wpAny (model prog w) A (eval e env) (λo s₁=>wpAny (model prog w) A (getAttr o f true) Q E s₁) E s):wpAny (model prog w) A (eval (.Attribute e f pos) env) Q E s:=
 Attribute_any_ h (by rw[arm_eval_Attribute,hb])
end
def iP (K:ac)(ta:TE)(f:Str):TE:=λσ H Q=>ta σ H λx H1=>∃a C dx fs v,x = .ref a/\H1 a=some (.ins C dx fs)/\gL K C/\jP K C f/\fs.lookup f=some v/\Q v H1
def F1 (K:ac)(ta tv:TE)(f:Str):TS:=λD σ H=>tv σ H λy H1=>ta σ H1 λx H2=>∃a C dx fs,x = .ref a/\H2 a=some (.ins C dx fs)/\gL K C/\jP K C f/\fs.length<1000/\
 D.nx σ (upd H2 a (.ins C dx (dY f y fs)))
section
variable {X:Cx}{o e value:Expr}{f:Str}{pos pos' tpos:Pos}{ta tv:TE}
theorem lZ (he:PE X e ta)(hb:attributeBase e f X.env (eval e X.env)=eval e X.env):PE X (.Attribute e f pos) (iP X.K ta f):=by
 intro pins s σ H Q I h
 refine aq7 hb (aJ (he pins s σ H _ I h) λu s1 ⟨x,H1,I1,rx,a,C,dx,fs,v,ex,ea,c,n,l,q⟩=>?_)
 subst ex
 obtain rfl:u=Value.ref a:=rx
 exact aq5 I1 ea c n l λu' s2 I2 ru=>⟨v,H1,I2,ru,q⟩
theorem vE (ha:PE X o ta)(hv:PE X value tv)(hs:swapsWith value (some (.Attribute o f pos')) pos.line X.env=pure false):PS X (.Assign [.Attribute o f pos'] value pos) (F1 X.K ta tv f):=by
 intro pins s σ H D I h
 refine plainObj_wpAny_Assign_Attribute (aJ (hv pins s σ H _ I h) λu s1 ⟨y,H1,I1,ry,q⟩=>aJ (ha pins s1 σ H1 _ I1 q) λov s2 ⟨x,H2,I2,rx,a,C,dx,fs,ex,ea,c,n,l,q2⟩=>?_) hs
 subst ex
 obtain rfl:ov=Value.ref a:=rx
 exact aq6 I2 ea c n l ry λs3 I3=>⟨σ,_,I3,q2⟩
theorem bk1 {pl:Sem Bool}{m:Str}{apos:Pos}{args:List Expr}{pins:List (Addr×Obj)}{s:Shared}{σ:St}{H:Hp}{Q:Value->Shared->Prop}{te:TE}(he:PE X e te)(I:a8 X pins σ H s)(h:te σ H λx H1=>∃a C dx fs g,x = .ref a/\H1 a=some (.ins C dx fs)/\gL X.K C/\eU X.K C m g/\fs.lookup m=none/\
   ∀s1,a8 X pins σ H1 s1->wpAny (model X.prog X.w) X.A (callWith pos (.ref g) [.ref a] (backTo pos (starEach args X.env)) (backToKw pos (keywordEach [] X.env))) Q X.xe s1)(ht:eval (.Call (.Attribute e m apos) args [] pos) X.env=(do
   let ov <- eval e X.env
   standAt apos.atName
   let (f,first) <- holding [ov] (getMethod ov m pl)
   callWith pos f first (backTo pos (starEach args X.env)) (backToKw pos (keywordEach [] X.env)))) :
  wpAny (model X.prog X.w) X.A (eval (.Call (.Attribute e m apos) args [] pos) X.env) Q X.xe s:=by
 refine PySem.W.methodCall_KW (pl:=pl) (aJ (he pins s σ H _ I h) λu s1 ⟨x,H1,I1,rx,a,C,dx,fs,g,ex,ea,c,k,l,q⟩=>?_) ht
 subst ex
 obtain rfl:u=Value.ref a:=rx
 exact qU I1 ea c k l (q s1 I1)
end
structure bD (k:Nat)(A:Around):Prop where
 hd:A.handled=none
 dp:A.depth+3*k+5<recursionLimit
 un:A.units+16*k+200<cLine
theorem bD.mono {j k:Nat}{A:Around}(r:bD k A)(h:j<=k):bD j A:=⟨r.hd,by have:=r.dp;omega,by have:=r.un;omega⟩
theorem bD.deeper {k:Nat}{A:Around}(r:bD (k+1) A)(env:Env):bD k (A.deeper env):=
 ⟨r.hd,by have:=r.dp;show A.depth+1+3*k+5<_;omega,by have:=r.un;show A.units+3+16*k+200<_;omega⟩
theorem aq8 {A:Around}{C:Addr}{us:List Value}{kw:List (Str×Value)}:(A.under (.builtin "type.__call__" ⟨.ref C::us,kw⟩)).depth=A.depth+1:=by
 first|rfl|simp[Around.under,Code.weight,Code.isCreation,Code.isGuard,Code.isCaller,Code.frames,Code.isFrame,guardIds]
theorem aq9 {A:Around}{C:Addr}{us:List Value}{kw:List (Str×Value)}:(A.under (.builtin "type.__call__" ⟨.ref C::us,kw⟩)).units=A.units+1:=by
 first|rfl|simp[Around.under,Code.cUnits,Code.frames,Code.isFrame]
theorem bD.make {k:Nat}{A:Around}(r:bD (k+1) A)(C:Addr)(us:List Value)(kw:List (Str×Value)):bD k (A.under (.builtin "type.__call__" ⟨.ref C::us,kw⟩)):=
 ⟨r.hd,by have:=r.dp;rw[aq8];omega,by have:=r.un;rw[aq9];omega⟩
theorem bD.depth {k:Nat}{A:Around}(r:bD k A):A.depth<recursionLimit:=by have:=r.dp;omega
theorem bD.units {k:Nat}{A:Around}(r:bD k A):A.units+64<cLine:=by have:=r.un;omega
def fN:TA:=λ_ H Q=>Q [] H
def gZ (ta:TE)(tr:TA):TA:=λσ H Q=>ta σ H λx H1=>tr σ H1 λxs H2=>Q (x::xs) H2
section
variable {X:Cx}{e:Expr}{es:List Expr}{te:TE}{t:TA}{pos:Pos}
theorem dZ:PA X [] fN:=λ_ _ _ _ H Q I h=>Calls.spliced_nil ⟨[],H,I,.nil,h⟩
theorem dR (ha:PE X e te)(hr:PA X es t)(hs:starEach (e::es) X.env=(false,eval e X.env)::starEach es X.env:=by rfl):PA X (e::es) (gZ te t):=by
 intro pos pins s σ H Q I h
 rw[hs]
 show wpAny _ _ (spliced ((false,eval e X.env)::backTo pos (starEach es X.env))) _ _ s
 refine Calls.spliced_cons (aJ (ha pins s σ H _ I h) λu s1 ⟨x,H1,I1,r1,q1⟩=>?_)
 exact aJ (hr pos pins s1 σ H1 _ I1 q1) λus s2 ⟨xs,H2,I2,r2,q2⟩=>⟨x::xs,H2,I2,.cons r1 r2,q2⟩
def F2 (t:TA):TE:=λσ H Q=>t σ H λxs H1=>xs.length<=sizeLine/\∀p,H1 p=none->Q (.ref p) (upd H1 p (.tup xs))
def vF (t:TA):TE:=λσ H Q=>t σ H λxs H1=>xs.length<=sizeLine/\∀p,H1 p=none->Q (.ref p) (upd H1 p (.lst xs))
theorem ar0 {x1}(h:PA X es t):PE X (.Tuple es x1 pos) (F2 t):=by
 intro pins s σ H Q I hq
 refine wpAny_Tuple_spliced (aJ (h pos pins s σ H _ I hq) λus s1 ⟨xs,H1,I1,r,z,q⟩=>⟨by rw[<- r.length];exact z,?_⟩)
 have hf:H1 s1.heap.objs.size=none:=I1.hok.fresh (bk9 _)
 refine⟨.ref s1.heap.objs.size,upd H1 s1.heap.objs.size (.tup xs),I1.laid (t':=s1.toks) (λb u e=>bk6 _ e) (bk9 _) ?_,rfl,q _ hf⟩
 exact⟨z,us,r,⟨_,bm0 _ rfl,rfl,_,rfl⟩,iC.new _ _ rfl⟩
theorem qV (h:PA X es t):PE X (.List es pos) (vF t):=by
 intro pins s σ H Q I hq
 refine wpAny_List_spliced (aJ (h pos pins s σ H _ I hq) λus s1 ⟨xs,H1,I1,r,z,q⟩=>⟨by rw[<- r.length];exact z,?_⟩)
 have hf:H1 s1.heap.objs.size=none:=I1.hok.fresh (bk9 _)
 refine⟨.ref s1.heap.objs.size,upd H1 s1.heap.objs.size (.lst xs),I1.laid (t':=s1.toks) (λb u e=>bk6 _ e) (bk9 _) ?_,rfl,q _ hf⟩
 exact⟨z,us,0,r,bm0 _ rfl⟩
end
abbrev Sp:=List V->Hp->VK->XK->Prop
abbrev gM:=List Env->Hp->Shared->XK->Value->Shared->Prop
structure kS (P:Program)(w:World)(K:ac)(mg:Str->Option Value)(base:Heap)(A:Around)(outer:List Env)(s:Shared)(H:Hp):Prop where
 frames:A.frames=some outer
 mod:Mod K mg base
 bs:∀b o,base.get? b=some o->s.heap.get? b=some o/\H b=none
 bsz:base.objs.size<=s.heap.objs.size
 funs:s.heap.FunFrames base outer
 frf:∀b∈bO outer,H b=none
 hok:bV P w H s.heap
 bare:AllBare s.gens
def CE (outer:List Env)(P:Program)(w:World)(H:Hp)(s:Shared)(Q:VK)(u:Value)(s':Shared):Prop:=
 ∃v H',s'.os=s.os/\AllBare s'.gens/\Un (bO outer) [] H H' s.heap s'.heap/\bV P w H' s'.heap/\aT v u/\Q v H'
def CR (CX:gM)(outer:List Env)(P:Program)(w:World)(H:Hp)(s:Shared)(Q:VK)(E:XK)(r:Result)(s':Shared):Prop:=
 match r with
 |.ok (.ret u)=>CE outer P w H s Q u s'
 |.ok _=>False
 |.error e=>CX outer H s E e s'
structure bQ (P:Program)(w:World)(K:ac)(mg:Str->Option Value)(base:Heap)(CX:gM)(k:Nat)(f:Addr)(fd:FuncData)(ps:List Str)(sp:Sp):Prop where
 len:∀vs H Q E,sp vs H Q E->vs.length=ps.length
 run:∀(A:Around) (outer:List Env) (s:Shared) (H:Hp) (args:Args) (us:List Value) (vs:List V) (Q:VK) (E:XK),bD k A->kS P w K mg base A outer s H->BindsTo s fd args (ps.zip us)->aQ vs us->sp vs H Q E->
  codeAny (model P w) A (.call (.ref f) args) (CR CX outer P w H s Q E) s
theorem bQ.imp {P:Program}{w:World}{K:ac}{mg:Str->Option Value}{base:Heap}{CX:gM}{k:Nat}{f:Addr}{fd:FuncData}{ps:List Str}{sp sp':Sp}(F:bQ P w K mg base CX k f fd ps sp)(h:∀vs H Q E,sp' vs H Q E->sp vs H Q E):bQ P w K mg base CX k f fd ps sp':=
 ⟨λvs H Q E q=>F.len vs H Q E (h _ _ _ _ q),λA outer s H args us vs Q E hr he hb hv hs=>F.run A outer s H args us vs Q E hr he hb hv (h _ _ _ _ hs)⟩
theorem kS.make {P:Program}{w:World}{K:ac}{mg:Str->Option Value}{base:Heap}{A:Around}{outer:List Env}{s:Shared}{H:Hp}(e:kS P w K mg base A outer s H)(C:Addr)(us:List Value)(kw:List (Str×Value)) :
  kS P w K mg base (A.under (.builtin "type.__call__" ⟨.ref C::us,kw⟩)) outer s H:=⟨by first|exact e.frames|(simpa[Around.under,Code.envs,Code.isFrame,pushEnvs] using e.frames),e.mod,e.bs,e.bsz,e.funs,e.frf,e.hok,e.bare⟩
section
variable {X:Cx}{pins:List (Addr×Obj)}{σ:St}{H:Hp}{s s':Shared}
theorem a8.env0 (I:a8 X pins σ H s):kS X.prog X.w X.K X.mg X.base X.A X.stack s H:=
 ⟨I.ok.frames,I.ok.mod,I.bs,bo3 I.ok.bsz I.sz,I.stack,I.stkFree,I.hok,I.bare⟩
theorem a8.after {Q:VK}{u:Value}(I:a8 X pins σ H s)(h:CE X.stack X.prog X.w H s Q u s'):EP X pins σ Q u s':=by
 obtain⟨v,H',os,bare,un,hok,r,q⟩:=h
 obtain⟨hh,g,d,t,os'⟩:=s'
 obtain rfl:os'=s.os:=os
 exact⟨v,H',I.call (h':=hh) (g':=g) (d':=d) (t':=t) (ch:=[]) un hok bare (λb z=>absurd z (by simp)),r,q⟩
end
def vG (sp:Sp)(dvs:List V)(E:XK)(t:TA):TE:=λσ H Q=>t σ H λvs H1=>sp (vs++dvs) H1 Q E
def qW (C:Addr)(m:Str)(sp:Sp)(dvs:List V)(E:XK)(ta:TE)(t:TA):TE:=λσ H Q=>ta σ H λx H1=>∃a dx fs,x = .ref a/\H1 a=some (.ins C dx fs)/\fs.lookup m=none/\
 t σ H1 λvs H2=>sp (x::(vs++dvs)) H2 Q E
def ar1 (C:Addr)(sp:Sp)(dvs:List V)(E:XK)(t:TA):TE:=λσ H Q=>t σ H λvs H1=>∀x dx,H1 x=none->H1 dx=none->dx≠x->
 sp (.ref x::(vs++dvs)) (upd (upd H1 dx (.own x)) x (.ins C dx [])) (λv H2=>v = .non/\Q (.ref x) H2) E
def dJ (K:ac)(fd:FuncData)(ps:List Str)(ds:List Value):Prop:=
 ∀(s:Shared) (us:List Value),K.In s.heap->(us++ds).length=ps.length->BindsTo s fd ⟨us,[]⟩ (ps.zip (us++ds))
theorem dJ.all {K:ac}{fd:FuncData}{ps:List Str}(h:∀us:List Value,us.length=ps.length->bindArgs fd ⟨us,[]⟩=pure (ps.zip us)):dJ K fd ps []:=λs us _ hl=>by
 rw[bo4]at hl ⊢
 exact .of_eq (h us hl)
def gN (CX:gM)(X:Cx)(E:XK):Prop:=∀(pins:List (Addr×Obj)) (σ:St) (H:Hp) (s:Shared) (e:Value) (s':Shared),a8 X pins σ H s->CX X.stack H s E e s'->X.xe e s'
section
variable {X:Cx}{CX:gM}{k:Nat}{f C:Addr}{fd:FuncData}{ps:List Str}{sp:Sp}{dvs:List V}{ds:List Value}{E:XK}{x m:Str}{p pos apos:Pos}{e o:Expr}{es:List Expr}{ta:TE}{t:TA}
theorem vH {pins:List (Addr×Obj)}{σ:St}{H:Hp}{s:Shared}{Q:VK}{us:List Value}{vs:List V}(F:bQ X.prog X.w X.K X.mg X.base CX k f fd ps sp)(hr:bD k X.A)(hb:dJ X.K fd ps ds)(hd:aQ dvs ds)(hx:gN CX X E)(I:a8 X pins σ H s)(r:aQ vs us)(h:sp (vs++dvs) H Q E):wpAny (model X.prog X.w) X.A (call (.ref f) us) (EP X pins σ Q) X.xe s:=by
 have r2:aQ (vs++dvs) (us++ds):=r.append hd
 have hl:(us++ds).length=ps.length:=by rw[<- r2.length];exact F.len _ _ _ _ h
 refine wpAny_call (codeAny_mono (F.run X.A X.stack s H ⟨us,[]⟩ (us++ds) (vs++dvs) Q E hr I.env0 (hb s us I.kIn hl) r2 h) λr s' hq=>?_)
 cases r with
 |error e=>exact hx pins σ H s e s' I hq
 |ok fl=>
  cases fl with
  |ret u=>exact I.after hq
  |next=>exact False.elim hq
  |brk=>exact False.elim hq
  |cont=>exact False.elim hq
theorem qX (F:bQ X.prog X.w X.K X.mg X.base CX k f fd ps sp)(hr:bD k X.A)(hg:Gl X x)(hm:X.mg x=some (.ref f))(hk:PySem.W.keepIn X.K (.ref f)=true)(hb:dJ X.K fd ps ds)(hd:aQ dvs ds)(hx:gN CX X E)(ha:PA X (e::es) t)(hdb:(x==("__debug__":Str))=false:=by decide)(he:starEach (e::es) X.env=(false,eval e X.env)::starEach es X.env:=by rfl)(hpl:(backTo pos (starEach es X.env)).any (·.1)=false:=by rfl) :
  PE X (.Call (.Name x p) (e::es) [] pos) (vG sp dvs E t):=by
 intro pins s σ H Q I h
 refine wpAny_Call_Name_kw (nT I hg hm ?_ hdb)
 refine PySem.W.callWith_K (h₀:=X.base) I.ok.mod.kin hk (aJ (ha pos pins s σ H _ I h) λus s1 ⟨vs,H1,I1,r,q⟩=>⟨I1.kIn,?_⟩) he hpl
 exact vH F hr hb hd hx I1 r q
theorem ar2 {pl:Sem Bool}(he:PE X o ta)(c:gL X.K C)(hm:eU X.K C m f)(F:bQ X.prog X.w X.K X.mg X.base CX k f fd ps sp)(hr:bD k X.A)(hb:dJ X.K fd ps ds)(hd:aQ dvs ds)(hx:gN CX X E)(ha:PA X (e::es) t)(hst:starEach (e::es) X.env=(false,eval e X.env)::starEach es X.env:=by rfl)(hpl:(backTo pos (starEach es X.env)).any (·.1)=false:=by rfl)(ht:eval (.Call (.Attribute o m apos) (e::es) [] pos) X.env=(do
   let ov <- eval o X.env
   standAt apos.atName
   let (f,first) <- holding [ov] (getMethod ov m pl)
   callWith pos f first (backTo pos (starEach (e::es) X.env)) (backToKw pos (keywordEach [] X.env))):=by rfl) :
  PE X (.Call (.Attribute o m apos) (e::es) [] pos) (qW C m sp dvs E ta t):=by
 intro pins s σ H Q I h
 refine PySem.W.methodCall_KW (pl:=pl) (aJ (he pins s σ H _ I h) λu s1 ⟨x,H1,I1,rx,a,dx,fs,ex,ea,l,q⟩=>?_) ht
 subst ex
 obtain rfl:u=Value.ref a:=rx
 refine qU I1 ea c hm l ?_
 refine PySem.W.callWith_K (first:=[.ref a]) (h₀:=X.base) I.ok.mod.kin hm.kp (aJ (ha pos pins s1 σ H1 _ I1 q) λus s2 ⟨vs,H2,I2,r,q2⟩=>⟨I2.kIn,?_⟩) hst hpl
 exact vH (us:=.ref a::us) (vs:=.ref a::vs) F hr hb hd hx I2 (.cons rfl r) q2
theorem vI {pl:Sem Bool}(he:PE X o ta)(c:gL X.K C)(hm:eU X.K C m f)(F:bQ X.prog X.w X.K X.mg X.base CX k f fd ps sp)(hr:bD k X.A)(hb:dJ X.K fd ps ds)(hd:aQ dvs ds)(hx:gN CX X E)(ht:eval (.Call (.Attribute o m apos) [] [] pos) X.env=(do
   let ov <- eval o X.env
   standAt apos.atName
   let (f,first) <- holding [ov] (getMethod ov m pl)
   callWith pos f first (backTo pos (starEach [] X.env)) (backToKw pos (keywordEach [] X.env))):=by rfl) :
  PE X (.Call (.Attribute o m apos) [] [] pos) (qW C m sp dvs E ta fN):=by
 intro pins s σ H Q I h
 refine PySem.W.methodCall_KW (pl:=pl) (aJ (he pins s σ H _ I h) λu s1 ⟨x,H1,I1,rx,a,dx,fs,ex,ea,l,q⟩=>?_) ht
 subst ex
 obtain rfl:u=Value.ref a:=rx
 refine qU I1 ea c hm l ?_
 exact PySem.W.callWith_K0 (first:=[.ref a]) I1.kIn hm.kp (vH (us:=[.ref a]) (vs:=[.ref a]) F hr hb hd hx I1 (.cons rfl .nil) q)
structure Mk (K:ac)(C f:Addr):Prop where
 makes:PySem.W.makesIn K C=true
 init:PySem.W.findIn K (.ref C) "__init__" = some (some (.ref f))
 fn:PySem.W.isFn K (.ref f)=true
 kp:PySem.W.keepIn K (.ref C)=true
theorem ar3 {pins:List (Addr×Obj)}{σ:St}{H:Hp}{s:Shared}{Q:VK}{us:List Value}{vs:List V}(M:Mk X.K C f)(F:bQ X.prog X.w X.K X.mg X.base CX k f fd ps sp)(hr:bD (k+1) X.A)(hb:dJ X.K fd ps ds)(hd:aQ dvs ds)(hx:gN CX X E)(I:a8 X pins σ H s)(r:aQ vs us)(h:∀x dx,H x=none->H dx=none->dx≠x->sp (.ref x::(vs++dvs)) (upd (upd H dx (.own x)) x (.ins C dx [])) (λv H2=>v = .non/\Q (.ref x) H2) E) :
  wpAny (model X.prog X.w) X.A (call (.ref C) us) (EP X pins σ Q) X.xe s:=by
 have hq:=h (s.heap.objs.size+1) s.heap.objs.size (I.hok.fresh (by5 _)) (I.hok.fresh (bk9 _)) (bn6 (Nat.lt_succ_self _))
 have I2:=a8.made (C:=C) I
 have r2:aQ (V.ref (s.heap.objs.size+1)::(vs++dvs)) (Value.ref (s.heap.objs.size+1)::(us++ds)):=.cons rfl (r.append hd)
 have hl:(Value.ref (s.heap.objs.size+1)::us++ds).length=ps.length:=by
  have e:=r2.length
  rw[F.len _ _ _ _ hq]at e
  exact e.symm
 refine wpAny_call (aq3 (f:=f) I.kIn M.makes M.init (beq_iff_eq.mp M.fn) (codeAny_mono (F.run _ X.stack _ _ ⟨Value.ref (s.heap.objs.size+1)::us,[]⟩ (Value.ref (s.heap.objs.size+1)::(us++ds)) _ _ E (hr.make C us [])
  (I2.env0.make C us []) (hb _ (Value.ref (s.heap.objs.size+1)::us) I2.kIn hl) r2 hq) λr s' hq'=>?_))
 cases r with
 |error e=>exact hx pins σ _ _ e s' I2 hq'
 |ok fl=>
  cases fl with
  |ret u=>
   obtain⟨v,H',I3,rv,ev,q3⟩:=I2.after hq'
   subst ev
   exact⟨rv,⟨V.ref (s.heap.objs.size+1),H',I3,rfl,q3⟩⟩
  |next=>exact False.elim hq'
  |brk=>exact False.elim hq'
  |cont=>exact False.elim hq'
theorem ar4 (M:Mk X.K C f)(F:bQ X.prog X.w X.K X.mg X.base CX k f fd ps sp)(hr:bD (k+1) X.A)(hg:Gl X x)(hm:X.mg x=some (.ref C))(hb:dJ X.K fd ps ds)(hd:aQ dvs ds)(hx:gN CX X E)(ha:PA X (e::es) t)(hdb:(x==("__debug__":Str))=false:=by decide)(he:starEach (e::es) X.env=(false,eval e X.env)::starEach es X.env:=by rfl)(hpl:(backTo pos (starEach es X.env)).any (·.1)=false:=by rfl) :
  PE X (.Call (.Name x p) (e::es) [] pos) (ar1 C sp dvs E t):=by
 intro pins s σ H Q I h
 refine wpAny_Call_Name_kw (nT I hg hm ?_ hdb)
 refine PySem.W.callWith_K (h₀:=X.base) I.ok.mod.kin M.kp (aJ (ha pos pins s σ H _ I h) λus s1 ⟨vs,H1,I1,r,q⟩=>⟨I1.kIn,?_⟩) he hpl
 exact ar3 M F hr hb hd hx I1 r q
end
def PK (X:Cx)(kws:List Keyword)(t:TA):Prop:=
 ∀(pos:Pos) (pins:List (Addr×Obj)) (s:Shared) (σ:St) (H:Hp) (Q:List V->Hp->Prop),a8 X pins σ H s->t σ H Q->wpAny (model X.prog X.w) X.A (evalAll ((backToKw pos (keywordEach kws X.env)).map (·.2))) (AP X pins σ Q) X.xe s
structure FnScope (N P:List Str)(sc:Scope):Prop where
 kind:sc.kind = .function
 co:sc.isCoroutine=false
 gen:sc.isGenerator=false
 nd:N.Nodup
 pre:N.take P.length=P
 par:∀x∈P,sc.names.lookup x=some .local∨sc.names.lookup x=some .cell
 nofree:∀y∈sc.names,y.2≠.free
theorem F3 {kindOf:Str->Option NameKind}{x:Str}:∀{binds:List (Str×Value)}{m:Str->Option Value},(∀v,(x,v)∉binds)->bindL kindOf binds m x=m x
 |[],_,_=>rfl
 |(n,v)::r,m,h=>by
  unfold bindL
  rw[F3 λw hw=>h w (bm9 _ hw)]
  split
  ·have:x≠n:=by rintro rfl;exact h v bm8
   simp[this]
  ·rfl
theorem F4 {kindOf:Str->Option NameKind}{x:Str}:∀{binds:List (Str×Value)}{m:Str->Option Value},(∀v,(x,v)∉binds)->bindC kindOf binds m x=m x
 |[],_,_=>rfl
 |(n,v)::r,m,h=>by
  unfold bindC
  rw[F4 λw hw=>h w (bm9 _ hw)]
  split
  ·rfl
  ·have:x≠n:=by rintro rfl;exact h v bm8
   simp[this]
theorem F5 {kindOf:Str->Option NameKind}{x:Str}{v:Value}:∀{P:List Str}{vs:List Value}{i:Nat}{m:Str->Option Value},P.Nodup->P[i]? = some x->vs[i]? = some v->kindOf x=some .local->
  bindL kindOf (P.zip vs) m x=some v
 |[],_,_,_,_,h,_,_=>by simp at h
 |_::_,[],_,_,_,_,h,_=>by simp at h
 |p::P,w::vs,0,m,nd,h1,h2,hk=>by
  simp at h1 h2;subst h1;subst h2
  show bindL kindOf ((p,w)::P.zip vs) m p=_
  unfold bindL
  rw[F3 λv hv=>(List.nodup_cons.mp nd).1 (List.of_mem_zip hv).1,if_pos hk]
  simp
 |p::P,w::vs,i+1,m,nd,h1,h2,hk=>by
  show bindL kindOf ((p,w)::P.zip vs) m x=_
  unfold bindL
  exact F5 (i:=i) (List.nodup_cons.mp nd).2 (by simpa using h1) (by simpa using h2) hk
theorem F8 {kindOf:Str->Option NameKind}{x:Str}{v:Value}:∀{P:List Str}{vs:List Value}{i:Nat}{m:Str->Option Value},P.Nodup->P[i]? = some x->vs[i]? = some v->kindOf x≠some .local->
  bindC kindOf (P.zip vs) m x=some v
 |[],_,_,_,_,h,_,_=>by simp at h
 |_::_,[],_,_,_,_,h,_=>by simp at h
 |p::P,w::vs,0,m,nd,h1,h2,hk=>by
  simp at h1 h2;subst h1;subst h2
  show bindC kindOf ((p,w)::P.zip vs) m p=_
  unfold bindC
  rw[F4 λv hv=>(List.nodup_cons.mp nd).1 (List.of_mem_zip hv).1,if_neg hk]
  simp
 |p::P,w::vs,i+1,m,nd,h1,h2,hk=>by
  show bindC kindOf ((p,w)::P.zip vs) m x=_
  unfold bindC
  exact F8 (i:=i) (List.nodup_cons.mp nd).2 (by simpa using h1) (by simpa using h2) hk
def eV (N:List Str)(vs:List V):St:=vs.map some++List.replicate (N.length-vs.length) none
def cC (CX:gM)(P:Program)(w:World)(K:ac)(mg:Str->Option Value)(base:Heap)(N:List Str)(qual:Str)(scope:Scope)(f:Addr)(cd:Value)(A:Around)(outer:List Env)(s:Shared)(H:Hp)(E:XK):Cx where
 prog:=P
 w:=w
 K:=K
 mg:=mg
 base:=base
 A:=A.deeper (envOfC qual scope s.heap.objs.size f cd)
 N:=N
 s₀:=s
 H₀:=H
 env:=envOfC qual scope s.heap.objs.size f cd
 outer:=outer
 stack:=envOfC qual scope s.heap.objs.size f cd::outer
 ex:=[]
 calm:=true
 fn:=λ_=>true
 pn:=[]
 xe:=λe s'=>wpAny (model P w) (A.deeper (envOfC qual scope s.heap.objs.size f cd)) (leaving (envOfC qual scope s.heap.objs.size f cd) e) (λ_ s''=>CX outer H s E e s'') (λe' s''=>CX outer H s E e' s'') s'
theorem F9 {sc:Scope}{n:Nat}{x:Str}(h:sc.names.lookup x=some .cell):∃c,(cellsFrom n sc.names []).lookup x=some c:=by
 have q:=PySem.W.cellsFrom_some sc.names n [] (.inl h)
 exact Option.isSome_iff_exists.mp q
theorem ar5 {CX:gM}{P:Program}{w:World}{K:ac}{mg:Str->Option Value}{base:Heap}{N ps:List Str}{qual:Str}{scope:Scope}{f:Addr}{cd:Value}{A:Around}{outer:List Env}{s s1:Shared}{H:Hp}{E:XK}{us:List Value}{vs:List V}(S:FnScope N ps scope)(hd:A.handled=none)(e0:kS P w K mg base A outer s H)(hl:vs.length=ps.length)(r:aQ vs us)(x:InCallC s s.heap.objs.size (bindL (envOfC qual scope s.heap.objs.size f cd).kindOf (ps.zip us) λ_=>none) (cellsFrom (s.heap.objs.size+1) scope.names []) (bindC (envOfC qual scope s.heap.objs.size f cd).kindOf (ps.zip us) λ_=>none) s1) :
  a8 (cC CX P w K mg base N qual scope f cd A outer s H E) [] (eV N vs) H s1:=by
 have hpl:ps.length<=N.length:=by have:=congrArg List.length S.pre;rw[br6]at this;omega
 obtain⟨h1,tk,rfl,hk⟩:=x.done
 have noA:∀b:Addr,b∉(cC CX P w K mg base N qual scope f cd A outer s H E).ex:=λb z=>absurd (show b∈([]:List Addr) from z) (by simp)
 refine⟨⟨e0.mod,S.kind,rfl,rfl,bk9 _,λy z c h1 h2=>?_,λy hy=>?_,λy c _ h=>?_,λ_=>hd,Around.frames_deeper e0.frames,.inr ⟨rfl,rfl⟩,λb z=>absurd z (noA b),e0.bs,e0.bsz,λb _ _=>noA b,λb z=>absurd z (noA b),e0.funs,e0.frf⟩,
  rfl,e0.bare,Un.kept hk,⟨_,x.toInCall.ns,λi y v h1 h2 h3=>?_⟩,λy c h=>⟨_,x.cell y c h⟩,e0.hok.fresh (bk9 _),λy c h=>?_,λp hp=>absurd (show p∈([]:List (Addr×Obj)) from hp) (by simp),e0.hok.kept hk,?_⟩
 ·exact name_of_addr x.apart (bp5 h1) (bp5 h2)
 ·have hy:scope.names.lookup y=some .cell∨scope.names.lookup y=some .free:=hy
  rcases hy with hy|hy
  ·exact F9 hy
  ·exact absurd rfl (S.nofree _ (bp5 hy))
 ·exact br0 (x.above y c (bp5 h))
 ·have hi:i<vs.length:=by
   unfold eV at h2
   by_cases hi:i<vs.length
   ·exact hi
   ·rw[bu6 (by simpa using hi)]at h2
    rw[List.getElem?_replicate]at h2
    split at h2<;>cases h2
  have ha:vs[i]? = some v:=by
   unfold eV at h2
   rw[br8 (by simpa using hi),bm7]at h2
   cases e:vs[i]? with
   |none=>rw[e]at h2;cases h2
   |some a=>rw[e]at h2;cases h2;rfl
  obtain⟨u,hu,rv⟩:=r.get ha
  have hp:ps[i]? = some y:=by
   rw[<- S.pre,List.getElem?_take_of_lt (by omega)];exact h1
  have ndP:ps.Nodup:=by rw[<- S.pre];exact S.nd.sublist (List.take_sublist _ _)
  refine⟨u,rv,?_⟩
  rcases S.par y (bt0 hp) with k|k
  ·exact .inl ⟨k,F5 ndP hp hu k⟩
  ·obtain⟨c,e⟩:=F9 (n:=s.heap.objs.size+1) k
   refine .inr ⟨.inl k,c,e,?_⟩
   have q:=x.cell y c e
   rw[F8 ndP hp hu (by show scope.names.lookup y≠_;rw[k];decide)]at q
   exact q
 ·exact e0.hok.fresh (br0 (x.above y c (bp5 h)))
 ·unfold eV
  show _=N.length
  rw[bl4,bl1,List.length_replicate]
  omega
theorem G0 {CX:gM}{P:Program}{w:World}{K:ac}{mg:Str->Option Value}{base:Heap}{k:Nat}{f:Addr}{name qual:Str}{params:Arguments}{body:List Stmt}{scope:Scope}{dV kV doc pm cdv ct oc:Value}{an od:Option Addr}{osl:Array (Option Value)}{N ps:List Str}{sp:Sp}(lk:K.lookup f=some ⟨oc,od,.func (PySem.W.fnOf name qual params body scope dV kV doc pm an cdv ct),osl⟩)(hcd:PySem.W.codeIn K cdv qual=true)(S:FnScope N ps scope)(len:∀vs H Q E,sp vs H Q E->vs.length=ps.length)(hbody:∀(A:Around) (outer:List Env) (s:Shared) (H:Hp) (vs:List V) (Q:VK) (E:XK),bD k (A.deeper (envOfC qual scope s.heap.objs.size f cdv))->sp vs H Q E->
   ∃t,dB (cC CX P w K mg base N qual scope f cdv A outer s H E) body t/\t { nx:=λ_ H'=>Q .non H',rt:=Q } (eV N vs) H) :
  bQ P w K mg base CX (k+1) f (PySem.W.fnOf name qual params body scope dV kV doc pm an cdv ct) ps sp:=by
 refine⟨len,λA outer s H args us vs Q E hr e0 hb r hsp=>?_⟩
 have hl:=len _ _ _ _ hsp
 have KX:K.In s.heap:=e0.mod.kin.keeps λb o e=>(e0.bs b o e).1
 have lim:s.heap.NoLimit:=e0.mod.nolimit.keeps λb o e=>(e0.bs b o e).1
 have hkind:∀y∈ps.zip us,scope.names.lookup y.1=some .local∨(scope.names.lookup y.1=some .cell/\((cellsFrom (s.heap.objs.size+1) scope.names []).lookup y.1).isSome=true):=λ⟨n,v⟩ hy=>by
  rcases S.par n (List.of_mem_zip hy).1 with q|q
  ·exact .inl q
  ·exact .inr ⟨q,PySem.W.cellsFrom_some _ _ _ (.inl q)⟩
 refine codeAny_call_function hr.depth (KX _ _ lk) rfl S.co S.gen rfl (PySem.W.codeRec_of KX hcd) (hb _ _ _ _ ?_)
 refine wpAny_newFunctionEnv_cells S.kind hkind λenv he s1 x=>?_
 subst he
 refine⟨lim.keeps x.toInCall.keep,codeAny_func ?_⟩
 obtain⟨t,ht,hq⟩:=hbody A outer s H vs Q E (hr.deeper _) hsp
 have I:a8 (cC CX P w K mg base N qual scope f cdv A outer s H E) [] (eV N vs) H s1:=ar5 S hr.hd e0 hl r x
 refine bs5 (ht [] s1 (eV N vs) H _ I hq) (λfl s' hs=>?_) λe s' hs=>hs
 have fin:∀{σ':St}{H':Hp}{v:V}{u:Value},a8 (cC CX P w K mg base N qual scope f cdv A outer s H E) [] σ' H' s'->aT v u->Q v H'->CE outer P w H s Q u s':=
  λ{σ' H' v u} J rv q=>⟨v,H',J.os,J.bare,J.base,J.hok,rv,q⟩
 cases fl with
 |ret u=>
  obtain⟨v,σ',H',J,rv,q⟩:=hs
  exact fin J rv q
 |next=>
  obtain⟨σ',H',J,q⟩:=hs
  exact fin (v:=V.non) (u:=Value.none) J rfl q
 |brk=>
  obtain⟨_,_,_,q⟩:=hs
  exact False.elim q
 |cont=>
  obtain⟨_,_,_,q⟩:=hs
  exact False.elim q
section
variable {X:Cx}{x:Str}{p pos:Pos}{e:Expr}{es:List Expr}{t:TA}{id T:String}{r:List V→Hp→VK→Prop}
def vJ (r:List V->Hp->VK->Prop)(t:TA):TE:=λσ H Q=>t σ H λvs H1=>r vs H1 Q
theorem qY (hc:cH X (.builtin id) r)(hg:Gl X x)(hm:X.mg x=none)(hv:bootBuiltins x=some (.builtin id))(ha:PA X (e::es) t)(hn:x≠"__name__":=by decide)(hdb:(x==("__debug__":Str))=false:=by decide)(he:starEach (e::es) X.env=(false,eval e X.env)::starEach es X.env:=by rfl)(hpl:(backTo pos (starEach es X.env)).any (·.1)=false:=by rfl):PE X (.Call (.Name x p) (e::es) [] pos) (vJ r t):=by
 intro pins s σ H Q I h
 refine wpAny_Call_Name_kw (kJ I hg hm hv ?_ hn hdb)
 exact PyProof.Rows.callWith_builtin1 (aJ (ha pos pins s σ H _ I h) λus s1 ⟨vs,H1,I1,r1,q1⟩=>hc pins s1 σ H1 vs us Q I1 r1 q1) he hpl
theorem ar6 (hc:cH X (.type T) r)(hg:Gl X x)(hm:X.mg x=none)(hv:bootBuiltins x=some (.type T))(ha:PA X (e::es) t)(hn:x≠"__name__":=by decide)(hdb:(x==("__debug__":Str))=false:=by decide)(he:starEach (e::es) X.env=(false,eval e X.env)::starEach es X.env:=by rfl)(hpl:(backTo pos (starEach es X.env)).any (·.1)=false:=by rfl):PE X (.Call (.Name x p) (e::es) [] pos) (vJ r t):=by
 intro pins s σ H Q I h
 refine wpAny_Call_Name_kw (kJ I hg hm hv ?_ hn hdb)
 exact bs7 (aJ (ha pos pins s σ H _ I h) λus s1 ⟨vs,H1,I1,r1,q1⟩=>hc pins s1 σ H1 vs us Q I1 r1 q1) he hpl
end
end L2
namespace HT
open PySem PyProof.Rows
def cO:af->af->Bool
 |[],[]=>false
 |[],_::_=>true
 |_::_,[]=>false
 |x::xs,y::ys=>if x=y then cO xs ys else decide (x<y)
theorem m3 (x y:Int)(xs ys:af):cO (x::xs) (y::ys)=if x=y then cO xs ys else decide (x<y):=rfl
section
variable {prog:Program}{w:World}{A:Around}{E:Value→Shared→Prop}{s:Shared}
theorem ar7 {t b:Addr}{vs ws:List Value}{Q:Value->Shared->Prop}(ht:IsTup s.heap t vs.toArray)(hb:IsTup s.heap b ws.toArray)(hv:vs≠[])(h1:ws = []->Q (.ref t) s)(h2:ws≠[]->Q (.ref s.heap.objs.size) { s with heap:=s.heap.push { cls:=.type "tuple",data:=.seq (vs++ws).toArray } })(hsz:vs.length+ws.length<=sizeLine):wpAny (model prog w) A (binaryOp .Add (.ref t) (.ref b)) Q E s:=by
 obtain⟨⟨cls,dd,data,sl⟩,ho,hc,n,hd⟩:=id ht
 obtain⟨⟨cls2,dd2,data2,sl2⟩,ho2,hc2,n2,hd2⟩:=id hb
 simp only at hc hd hc2 hd2
 subst hc hd hc2 hd2
 have e:vs.toArray++ws.toArray=(vs++ws).toArray:=by simp
 by_cases hw:ws = []
 ·exact concat_meets ⟨_,ho,rfl⟩ ⟨_,ho2,rfl⟩ noFill_tuple_add seq_tuple_add PySem.F.slot_tuple_add PySem.F.entry_tuple_add (PySem.F.args_tuple_add_2 _ _)
   (tuple_addW1 t b vs.toArray ws.toArray n n2 dd dd2 sl sl2 (by simpa using hv) (by simp[hw])) ⟨ho,ho2,h1 hw⟩
 ·refine concat_meets ⟨_,ho,rfl⟩ ⟨_,ho2,rfl⟩ noFill_tuple_add seq_tuple_add PySem.F.slot_tuple_add PySem.F.entry_tuple_add (PySem.F.args_tuple_add_2 _ _)
   (tuple_addW2 t b vs.toArray ws.toArray n n2 dd dd2 sl sl2 (by simpa using hv) (by simpa using hw) (by rw[bk7,bk7];exact hsz)) ⟨ho,ho2,?_⟩
  rw[e]
  exact h2 hw
def aX (n d:Nat):Option Int->Nat
 |none=>d
 |some v=>if v<0 then (v+(n:Int)).toNat else min v.toNat n
theorem ar8 (n d:Nat):aX n d none=d:=rfl
theorem G1 (n d k:Nat):aX n d (some (k:Int))=min k n:=by
 show (if (k:Int)<0 then ((k:Int)+(n:Int)).toNat else min (k:Int).toNat n)=min k n
 rw[if_neg (by omega),Int.toNat_natCast]
theorem ar9 (n d:Nat)(hd:d<=n)(o:Option Int):aX n d o<=n:=by
 cases o with
 |none=>exact hd
 |some v=>
  show (if v<0 then (v+(n:Int)).toNat else min v.toNat n)<=n
  by_cases hv:v<0
  ·rw[if_pos hv];omega
  ·rw[if_neg hv];exact Nat.min_le_right _ _
theorem G2 (v:Int)(n d:Nat):(if v<0 then max (v+(n:Int)) 0 else min v (n:Int))=((aX n d (some v):Nat):Int):=by
 show (if v<0 then max (v+(n:Int)) 0 else min v (n:Int))=(((if v<0 then (v+(n:Int)).toNat else min v.toNat n):Nat):Int)
 by_cases hv:v<0
 ·simp only[if_pos hv];omega
 ·simp only[if_neg hv];omega
theorem as0 (lo hi:Option Int)(n:Nat):Builtin.Slice.sliceAdjust lo hi 1 (n:Int)=(((aX n 0 lo:Nat):Int),((aX n n hi:Nat):Int)):=by
 have h1:¬((1:Int)<0):=by omega
 unfold Builtin.Slice.sliceAdjust
 simp only[h1,bs8]
 refine Prod.ext ?_ ?_
 ·cases lo with
  |none=>rfl
  |some v=>exact G2 v n 0
 ·cases hi with
  |none=>rfl
  |some v=>exact G2 v n n
theorem as1 (i j:Nat):Builtin.Slice.slicePlaces (i:Int) (j:Int) 1=j-i:=by
 unfold Builtin.Slice.slicePlaces
 have h1:(1:Int)>0:=by omega
 simp only[h1,if_true,Int.ediv_one]
 split<;>omega
theorem G3 {v:Value}{o:Option Int}{Q:Option Int->Shared->Prop}(p:IsPart v o)(h:Q o s):wpAny (model prog w) A (Builtin.Slice.slicePartIndex v) Q E s:=by
 cases p with
 |none=>exact slicePart_none h
 |int i t=>exact slicePart_int h
theorem G4 {sl:Addr}{vl vu:Value}{lo hi:Option Int}{n:Nat}{Q:Int×Int×Nat->Shared->Prop}(hs:s.heap.IsSliceOf sl vl vu .none)(pl:IsPart vl lo)(pu:IsPart vu hi)(h:Q (((aX n 0 lo:Nat):Int),1,aX n n hi-aX n 0 lo) s):wpAny (model prog w) A (Builtin.Slice.sliceApplied (.ref sl) (pure (n:Int))) Q E s:=by
 obtain⟨os,hos,hcs,hds⟩:=id hs
 unfold Builtin.Slice.sliceApplied Builtin.Slice.sliceFields
 refine bk5 (bk5 (bq4 hos hds (x:=vl) rfl (bk5 (bq4 hos hds (x:=vu) rfl (bk5 (bq4 hos hds (x:=.none) rfl (bl0 ?_)))))))
 refine bk5 (slicePart_none ?_)
 show wpAny _ _ (if ((1:Int)==0)=true then _ else _) _ _ s
 rw[if_neg (by decide)]
 refine bk5 (G3 pl (bk5 (G3 pu (bk5 (bl0 ?_)))))
 show wpAny _ _ (match Builtin.Slice.sliceAdjust lo hi 1 (n:Int) with|(lo,hi)=>pure (lo,(1:Int),Builtin.Slice.slicePlaces lo hi 1)) _ _ s
 rw[as0 lo hi n]
 show wpAny _ _ (pure (((aX n 0 lo:Nat):Int),(1:Int),Builtin.Slice.slicePlaces ((aX n 0 lo:Nat):Int) ((aX n n hi:Nat):Int) 1)) _ _ s
 rw[as1]
 exact bl0 h
theorem as2 (xs:Array Value)(i k:Nat):((List.range k).filterMap λ(m:Nat)=>xs[((i:Int)+(m:Int)*1).toNat]?).toArray=((xs.toList.drop i).take k).toArray:=by
 have e:(λ(m:Nat)=>xs[((i:Int)+(m:Int)*1).toNat]?)=λm=>xs[i+m]?:=by
  funext m
  have:((i:Int)+(m:Int)*1).toNat=i+m:=by omega
  rw[this]
 rw[e]
 have:=pick_run xs i k
 rw[List.filterMap_map]at this
 have e2:((λx=>xs[x]?) ∘ λx=>i+x)=λm=>xs[i+m]?:=rfl
 rw[e2]at this
 rw[this]
theorem as3 {t sl:Addr}{items:Array Value}{vl vu:Value}{lo hi:Option Int}{Q:Value->Shared->Prop}(ht:IsTup s.heap t items)(hs:s.heap.IsSliceOf sl vl vu .none)(pl:IsPart vl lo)(pu:IsPart vu hi)(hw:¬(aX items.size 0 lo=0/\aX items.size items.size hi=items.size))(h:Q (.ref s.heap.objs.size) { s with heap:=s.heap.push { cls:=.type "tuple",data:=.seq ((items.toList.drop (aX items.size 0 lo)).take (aX items.size items.size hi-aX items.size 0 lo)).toArray } })(hsz:items.size<=sizeLine):wpAny (model prog w) A (getItem (.ref t) (.ref sl)) Q E s:=by
 have htake:sizeOk (.seq ((items.toList.drop (aX items.size 0 lo)).take (aX items.size items.size hi-aX items.size 0 lo)).toArray):=by
  show ((items.toList.drop (aX items.size 0 lo)).take (aX items.size items.size hi-aX items.size 0 lo)).toArray.size<=sizeLine
  rw[bk7,br6,bu0,Array.length_toList]
  omega
 have hj:aX items.size items.size hi<=items.size:=ar9 _ _ (bk9 _) hi
 obtain⟨os,hos,hcs,hds⟩:=id hs
 have hTs:s.TypeIs (.ref sl) "slice":=⟨os,hos,hcs⟩
 unfold getItem
 try with_reducible refine bz1 ?_
 first|refine bk5 (bl0 ?_)|skip
 refine bk5 (wpAny_sequenceKey ht.typeIs (by decide) ?_)
 refine bk5 (bq5 (name:=Str.ofString "__getitem__") ht.typeIs bv4
  (bq7 bv4 ht.typeIs entry_tuple_getitem ?_ (args_tuple_getitem _ _)))
 show wpAny _ _ (Builtin.Tuple.tupleItemsOf (.ref t) >>= _) _ _ s
 refine bk5 (tupleItemsOf_ ht ?_)
 refine bk5 (wpAny_typeOf hTs ?_)
 rw[if_pos (by decide)]
 refine bk5 (G4 hs pl pu ?_)
 have hno:¬((((aX items.size 0 lo:Nat):Int)==0&&(1:Int)==1&&(aX items.size items.size hi-aX items.size 0 lo)==items.size)=true):=by
  intro q
  rw[bn4,bn4]at q
  have q1:((aX items.size 0 lo:Nat):Int)=0:=eq_of_beq q.1.1
  have q2:aX items.size items.size hi-aX items.size 0 lo=items.size:=eq_of_beq q.2
  exact hw ⟨by omega,by omega⟩
 show wpAny _ _ (if (((aX items.size 0 lo:Nat):Int)==0&&(1:Int)==1&&(aX items.size items.size hi-aX items.size 0 lo)==items.size)=true then _ else _) _ _ s
 rw[if_neg hno,as2]
 first
  |exact bk5 (m:=Builtin.Tuple.tupleExact _) (br7 (bl0 ⟨_,rfl,bl0 h⟩) htake)
  |exact bk5 (m:=Builtin.Tuple.tupleExact _) (br7 (bk5 (bl0 (bl0 ⟨_,rfl,bl0 h⟩))) htake)
  |exact bk5 (bk5 (m:=Builtin.Tuple.tupleExact _) (br7 (bl0 (bl0 ⟨_,rfl,bl0 h⟩)) htake))
  |exact bk5 (bk5 (m:=Builtin.Tuple.tupleExact _) (br7 (bl0 ⟨_,rfl,bl0 h⟩) htake))
end
end HT
namespace L2
open PySem PySem.Spec PyProof.Rows
abbrev TO:=St->Hp->(Option Int->Hp->Prop)->Prop
def PO (X:Cx)(e:Option Expr)(t:TO):Prop:=
 ∀(pins:List (Addr×Obj)) (s:Shared) (σ:St) (H:Hp) (Q:Option Int->Hp->Prop),a8 X pins σ H s->t σ H Q->
  wpAny (model X.prog X.w) X.A (evalPart e X.env) (λu s'=>∃o H',a8 X pins σ H' s'/\IsPart u o/\Q o H') X.xe s
def as4:TO:=λ_ H Q=>Q none H
def as5 (t:TE):TO:=λσ H Q=>t σ H λx H1=>∃i,x = .int i/\Q (some i) H1
theorem jQ {ns:af}:∀{us:List Value},aQ (ns.map V.int) us->IntsAre us ns:=by
 induction ns with
 |nil=>intro us r;rw[List.map_nil]at r;cases r;exact .nil
 |cons n ns ih=>
  intro us r
  rw[bp3]at r
  cases r with
  |cons r1 r2=>
   obtain⟨t,e⟩:=r1
   subst e
   exact .cons n t (ih r2)
section
variable {X:Cx}{e:Expr}{te:TE}{lo hi:Option Expr}{tl th:TO}{pos p2:Pos}
theorem vK:PO X none as4:=by
 intro pins s σ H Q I h
 rw[evalPart_none]
 exact bl0 ⟨none,H,I,.none,h⟩
theorem vL (h:PE X e te):PO X (some e) (as5 te):=by
 intro pins s σ H Q I hw
 rw[evalPart_some]
 refine aJ (h pins s σ H _ I hw) λu s1 ⟨x,H1,I1,r1,q1⟩=>?_
 obtain⟨i,rfl,q⟩:=q1
 obtain⟨t,rfl⟩:=r1
 exact⟨some i,H1,I1,.int i t,q⟩
def jR (X:Cx)(r:V->Option Int->Option Int->Hp->VK->Prop):Prop:=
 ∀(pins:List (Addr×Obj)) (s:Shared) (σ:St) (H:Hp) (x:V) (v vl vu:Value) (lo hi:Option Int) (sl:Addr) (Q:VK),a8 X pins σ H s->aT x v->s.heap.IsSliceOf sl vl vu .none->IsPart vl lo->IsPart vu hi->r x lo hi H Q->
  ∃T id,typeLookup (.type T) "__getitem__" = pure (some (.builtin id))/\s.TypeIs v T/\wpAny (model X.prog X.w) X.A (getItem v (.ref sl)) (EP X pins σ Q) X.xe s
theorem jR.or {r r':V->Option Int->Option Int->Hp->VK->Prop}(h:jR X r)(h':jR X r'):jR X (λx lo hi H Q=>r x lo hi H Q∨r' x lo hi H Q):=by
 intro pins s σ H x v vl vu lo hi sl Q I rx hs pl pu q
 rcases q with q|q
 ·exact h pins s σ H x v vl vu lo hi sl Q I rx hs pl pu q
 ·exact h' pins s σ H x v vl vu lo hi sl Q I rx hs pl pu q
def tSl (r:V->Option Int->Option Int->Hp->VK->Prop)(te:TE)(tl th:TO):TE:=λσ H Q=>te σ H λx H1=>tl σ H1 λl H2=>th σ H2 λu H3=>r x l u H3 Q
theorem vM {r:V->Option Int->Option Int->Hp->VK->Prop}(hr:jR X r)(he:PE X e te)(hl:PO X lo tl)(hu:PO X hi th):PE X (.Subscript e (.Slice lo hi none p2) pos) (tSl r te tl th):=by
 intro pins s σ H Q I h
 refine Subscript_ (aJ (he pins s σ H _ I h) λv s1 ⟨x,H1,I1,r1,q1⟩=>?_)
 refine wpAny_Slice (aJ (hl pins s1 σ H1 _ I1 q1) λvl s2 ⟨l,H2,I2,pl,q2⟩=>aJ (hu pins s2 σ H2 _ I2 q2) λvu s3 ⟨u,H3,I3,pu,q3⟩=>?_)
 rw[evalPart_none]
 refine bl0 ?_
 have I4:a8 X pins σ H3 { s3 with heap:=s3.heap.push { cls:=.type "slice",data:=.fields #[vl,vu,.none] } }:=I3.kept (t':=s3.toks) λb ob q=>bk6 _ q
 obtain⟨T,id,hT,ht,hg⟩:=hr pins { s3 with heap:=s3.heap.push { cls:=.type "slice",data:=.fields #[vl,vu,.none] } } σ H3 x v vl vu l u s3.heap.objs.size Q I4 r1 (Heap.IsSliceOf.new ..) pl pu q3
 show wpAny (model X.prog X.w) X.A (subscriptTail e (.Slice lo hi none p2) v (.ref s3.heap.objs.size)) (EP X pins σ Q) X.xe { s3 with heap:=s3.heap.push { cls:=.type "slice",data:=.fields #[vl,vu,.none] } }
 exact tail_any (ops:=[.ref s3.heap.objs.size,v]) ht hT hg (by with_unfolding_all rfl)
def eI (xs:List V)(lo hi:Option Int):List V:=(xs.drop (HT.aX xs.length 0 lo)).take (HT.aX xs.length xs.length hi-HT.aX xs.length 0 lo)
theorem G5 (xs:List V)(lo hi:Option Int):(eI xs lo hi).length<=xs.length:=by
 unfold eI
 rw[br6,bu0]
 omega
def as6 (K:ac):V->Option Int->Option Int->Hp->VK->Prop:=λx lo hi H Q=>∃a xs,x = .ref a/\aL K H a xs/\
 ¬(HT.aX xs.length 0 lo=0/\HT.aX xs.length xs.length hi=xs.length)/\∀p,H p=none->Q (.ref p) (upd H p (.tup (eI xs lo hi)))
theorem as7:jR X (as6 X.K):=by
 intro pins s σ H x v vl vu lo hi sl Q I rx hs pl pu h
 obtain⟨a,xs,rfl,hx,hw,q⟩:=h
 cases rx
 obtain⟨its,r,ht,hz⟩:=I.tuple hx
 have hlen:its.toArray.size=xs.length:=by rw[bk7];exact r.length.symm
 refine⟨"tuple",_,PyProof.Rows.slot_tuple_getitem.lookup,ht.typeIs,?_⟩
 refine HT.as3 ht hs pl pu (by rw[hlen];exact hw) ?_ (by rw[hlen];exact hz)
 rw[hlen]
 refine⟨.ref s.heap.objs.size,_,I.laid (t':=s.toks) (o:=.tup (eI xs lo hi)) (λb ob q=>bk6 _ q) (bk9 _) ?_,rfl,q _ (I.hok.fresh (bk9 _))⟩
 exact⟨bo3 (G5 xs lo hi) hz,_,(r.drop (HT.aX xs.length 0 lo)).take (HT.aX xs.length xs.length hi-HT.aX xs.length 0 lo),IsTup.new _ _,iC.new _ _ rfl⟩
def as8 (K:ac):R2:=λx y H Q=>∃a b xs ys,x = .ref a/\y = .ref b/\aL K H a xs/\aL K H b ys/\xs≠[]/\xs.length+ys.length<=sizeLine/\
 (ys = []->Q (.ref a) H)/\(ys≠[]->∀p,H p=none->Q (.ref p) (upd H p (.tup (xs++ys))))
theorem aQ.nil_iff {xs:List V}{us:List Value}(r:aQ xs us):us = []↔xs = []:=by
 cases r with
 |nil=>simp
 |cons _ _=>simp
theorem as9:cG X (binaryOp .Add) (as8 X.K):=by
 intro pins s σ H x y v u Q I rx ry h
 obtain⟨a,b,xs,ys,rfl,rfl,ha,hb,hx,hz,q1,q2⟩:=h
 cases rx
 cases ry
 obtain⟨its,r1,p1,_⟩:=I.tuple ha
 obtain⟨its2,r2,p2,_⟩:=I.tuple hb
 refine HT.ar7 p1 p2 (λz=>hx (r1.nil_iff.mp z)) (λz=>⟨.ref a,H,I,rfl,q1 (r2.nil_iff.mp z)⟩) (λz=>?_) (by rw[<- r1.length,<- r2.length];exact hz)
 refine⟨.ref s.heap.objs.size,_,I.laid (t':=s.toks) (o:=.tup (xs++ys)) (λb ob q=>bk6 _ q) (bk9 _) ?_,rfl,q2 (λw=>z (r2.nil_iff.mpr w)) _ (I.hok.fresh (bk9 _))⟩
 exact⟨by rw[bl4];exact hz,_,r1.append r2,IsTup.new _ _,iC.new _ _ rfl⟩
end
def iQ (n:Nat)(i:Int):Option Nat:=if 0<=i then (if i<n then some i.toNat else none) else if -(n:Int)<=i then some (i+n).toNat else none
def atI {α:Type}(xs:List α)(i:Int):Option α:=(iQ xs.length i).bind λj=>xs[j]?
theorem at0 {n:Nat}{i:Int}{j:Nat}(h:iQ n i=some j):seqIndex? i n=some j/\j<n/\-(n:Int)<=i/\i<n:=by
 unfold iQ at h
 by_cases h0:0<=i
 ·rw[if_pos h0]at h
  by_cases h1:i<n
  ·rw[if_pos h1]at h
   have e:i.toNat=j:=bl6 h
   exact⟨by rw[seqIndex_of h0 h1,e],by omega,by omega,h1⟩
  ·rw[if_neg h1]at h;cases h
 ·rw[if_neg h0]at h
  by_cases h1:-(n:Int)<=i
  ·rw[if_pos h1]at h
   have e:(i+n).toNat=j:=bl6 h
   exact⟨by rw[seqIndex_neg (by omega) h1,e],by omega,h1,by omega⟩
  ·rw[if_neg h1]at h;cases h
theorem vN {α:Type}{xs:List α}{i:Int}{v:α}(h:atI xs i=some v):∃j,seqIndex? i xs.length=some j/\xs[j]? = some v/\j<xs.length/\-(xs.length:Int)<=i/\i<xs.length:=by
 unfold atI at h
 cases e:iQ xs.length i with
 |none=>rw[e]at h;cases h
 |some j=>
  rw[e]at h
  obtain⟨h1,h2,h3,h4⟩:=at0 e
  exact⟨j,h1,h,h2,h3,h4⟩
theorem at2 {α:Type}{xs:List α}{j:Nat}{v:α}(h:xs[j]? = some v):atI xs (j:Int)=some v:=by
 have hj:j<xs.length:=(bl7.mp h).1
 have e:iQ xs.length (j:Int)=some j:=by
  unfold iQ
  rw[if_pos (by omega),if_pos (by omega)];simp
 unfold atI;rw[e];exact h
def vO (b:Expr):Prop:=∀o i,subscripted b false o i=operate [o,i] (getItem o i)
def fO (X:Cx)(r:R2):Prop:=
 ∀(value slice:Expr) (pins:List (Addr×Obj)) (s:Shared) (σ:St) (H:Hp) (x y:V) (v u:Value) (Q:VK),a8 X pins σ H s->aT x v->aT y u->r x y H Q->
  subscripted slice false v u=operate [v,u] (getItem v u)->wpAny (model X.prog X.w) X.A (subscriptTail value slice v u) (EP X pins σ Q) X.xe s
def iE (X:Cx)(id:String)(r:V->List V->Hp->VK->Prop):Prop:=
 ∀(pins:List (Addr×Obj)) (s:Shared) (σ:St) (H:Hp) (x:V) (xs:List V) (v:Value) (us:List Value) (Q:VK),a8 X pins σ H s->aT x v->aQ xs us->r x xs H Q->
  wpAny (model X.prog X.w) X.A (call (.builtin id) (v::us)) (EP X pins σ Q) X.xe s
section
variable {X:Cx}{a b:Expr}{ta tb:TE}{pos:Pos}
theorem fO.or {r r':R2}(h:fO X r)(h':fO X r'):fO X (λx y H Q=>r x y H Q∨r' x y H Q):=by
 intro value slice pins s σ H x y v u Q I rx ry q hs
 rcases q with q|q
 ·exact h value slice pins s σ H x y v u Q I rx ry q hs
 ·exact h' value slice pins s σ H x y v u Q I rx ry q hs
theorem m5 {r:R2}(hr:fO X r)(ha:PE X a ta)(hb:PE X b tb)(hs:vO b):PE X (.Subscript a b pos) (jO r ta tb):=by
 intro pins s σ H Q I h
 exact Subscript_ (uW ha hb I h λv u s2 x y H2 I2 rx ry q=>hr a b pins s2 σ H2 x y v u Q I2 rx ry q (hs _ _))
def G6 (K:ac):R2:=λx y H Q=>∃p xs i v,x = .ref p/\y = .int i/\aM K H p xs/\atI xs i=some v/\Q v H
def G7 (K:ac):R2:=λx y H Q=>∃p xs i v,x = .ref p/\y = .int i/\aL K H p xs/\atI xs i=some v/\Q v H
def G8:R2:=λx y H Q=>∃z i c,x = .str z/\y = .int i/\z.length<=sizeLine/\atI z.cps.toList i=some c/\Q (.str ⟨#[c]⟩) H
theorem vP:fO X (G6 X.K):=by
 intro value slice pins s σ H x y v u Q I rx ry h hs
 obtain⟨p,xs,i,z,rfl,rfl,hq,he,q⟩:=h
 cases rx
 obtain⟨t,rfl⟩:=ry
 obtain⟨its,r,pl,hz⟩:=I.list hq
 obtain⟨j,h1,h2,h3,h4,h5⟩:=vN he
 obtain⟨w,ew,rw'⟩:=r.get h2
 have hl:=r.length
 have hn:=nY
 have fin:EP X pins σ Q w s:=⟨z,H,I,rw',q⟩
 by_cases h0:0<=i
 ·have hj:i.toNat=j:=by
   rw[seqIndex_of h0 h5]at h1
   exact bl6 h1
  exact item_listR pl.isList h0 (by omega) (by rw[hj];simpa using ew) fin hs
 ·have hj:(i+(its.toArray.size:Int)).toNat=j:=by
   rw[seqIndex_neg (by omega) h4]at h1
   rw[bk7,<- hl]
   exact bl6 h1
  exact subscriptTail_builtinR (x:=w) pl.isList.typeIs slot_list_getitem.lookup
   (wpAny_getItem_list_neg (Q:=λr s'=>r=w/\EP X pins σ Q r s') pl.isList (by omega) (by rw[bk7]<;>omega) (by omega) (by rw[hj];simpa using ew) ⟨rfl,fin⟩) hs
theorem vQ:fO X (G7 X.K):=by
 intro value slice pins s σ H x y v u Q I rx ry h hs
 obtain⟨p,xs,i,z,rfl,rfl,hq,he,q⟩:=h
 cases rx
 obtain⟨t,rfl⟩:=ry
 obtain⟨its,r,pl,hz⟩:=I.tuple hq
 obtain⟨j,h1,h2,h3,h4,h5⟩:=vN he
 obtain⟨w,ew,rw'⟩:=r.get h2
 have hl:=r.length
 have hn:=nY
 have fin:EP X pins σ Q w s:=⟨z,H,I,rw',q⟩
 exact subscriptTail_builtinR (x:=w) pl.typeIs slot_tuple_getitem.lookup
  (getItem_tuple (j:=j) (Q:=λr s'=>r=w/\EP X pins σ Q r s') pl (by omega) (by omega) (by rw[bk7,<- hl];exact h1) (by simpa using ew) ⟨rfl,fin⟩) hs
theorem at3:fO X G8:=by
 intro value slice pins s σ H x y v u Q I rx ry h hs
 obtain⟨z,i,c,rfl,rfl,hz,he,q⟩:=h
 obtain⟨t,rfl⟩:=rx
 obtain⟨t',rfl⟩:=ry
 obtain⟨j,h1,h2,h3,h4,h5⟩:=vN he
 have hl:z.cps.toList.length=z.length:=by simp[Str.length]
 rw[hl]at h1 h4 h5
 have hn:=nY
 exact tail_any (typeIs_str s z t) slot_str_getitem.lookup (getItem_str (c:=c) (by
  have e1:decide (i < -(2^63:Int))=false:=bm3 (by omega)
  have e2:decide (i >= 2^63)=false:=bm3 (by omega)
  rw[e1,e2,Bool.or_false]) (by rw[h1];simpa using h2) ⟨.str ⟨#[c]⟩,H,I.tok _,⟨_,rfl⟩,q⟩) hs
def G9 (K:ac):R2:=λx y H Q=>G6 K x y H Q∨G7 K x y H Q∨G8 x y H Q
theorem J0:fO X (G9 X.K):=vP.or (vQ.or at3)
theorem at4 (lo hi:Option Int)(n:Nat):(sliceBounds lo hi none n).1=((HT.aX n 0 lo:Nat):Int)/\(sliceBounds lo hi none n).2.1=((HT.aX n n hi:Nat):Int)/\(sliceBounds lo hi none n).2.2=1:=by
 refine⟨?_,?_,rfl⟩
 ·cases lo with
  |none=>simp[sliceBounds,HT.aX]
  |some i=>
   simp only[sliceBounds,HT.aX,Option.getD_none,show (1:Int)>0 by decide,if_true]
   by_cases h:i<0
   ·simp only[h,if_true]<;>omega
   ·simp only[h,bs8]<;>omega
 ·cases hi with
  |none=>simp[sliceBounds,HT.aX]
  |some i=>
   simp only[sliceBounds,HT.aX,Option.getD_none,show (1:Int)>0 by decide,if_true]
   by_cases h:i<0
   ·simp only[h,if_true]<;>omega
   ·simp only[h,bs8]<;>omega
theorem at5 (its:List Value)(lo hi:Option Int):slicePick its.toArray lo hi none=((its.drop (HT.aX its.length 0 lo)).take (HT.aX its.length its.length hi-HT.aX its.length 0 lo)).toArray:=by
 obtain⟨h1,h2,h3⟩:=at4 lo hi its.toArray.size
 unfold slicePick
 rw[h1,h2,h3]
 simp only[sliceRange_one,pick_run,bk7]<;>rfl
def at6 (K:ac):V->Option Int->Option Int->Hp->VK->Prop:=λx lo hi H Q=>∃a xs,x = .ref a/\aM K H a xs/\∀p,H p=none->Q (.ref p) (upd H p (.lst (eI xs lo hi)))
theorem J1:jR X (at6 X.K):=by
 intro pins s σ H x v vl vu lo hi sl Q I rx hs pl pu h
 obtain⟨a,xs,rfl,hx,q⟩:=h
 cases rx
 obtain⟨its,r,ht,hz⟩:=I.list hx
 have hlen:=r.length
 refine⟨"list",_,slot_list_getitem.lookup,ht.isList.typeIs,?_⟩
 refine wpAny_getItem_list_slice ht.isList hs pl pu .none (by simp) ?_ (by rw[bk7]<;>omega)
 rw[at5,<- hlen]
 refine⟨.ref s.heap.objs.size,_,I.laid (t':=s.toks) (o:=.lst (eI xs lo hi)) (λb ob q=>bk6 _ q) (bk9 _) ?_,rfl,q _ (I.hok.fresh (bk9 _))⟩
 exact⟨bo3 (G5 xs lo hi) hz,_,0,(r.drop (HT.aX xs.length 0 lo)).take (HT.aX xs.length xs.length hi-HT.aX xs.length 0 lo),bm0 _ rfl⟩
def iR:V->Bool
 |.non=>true
 |.bl _=>true
 |.int _=>true
 |.str _=>true
 |_=>false
def hB:V->V->Bool
 |.non,.non=>true
 |.bl a,.bl b=>a==b
 |.bl a,.int b=>(if a then 1 else 0)==b
 |.int a,.bl b=>a==(if b then 1 else 0)
 |.int a,.int b=>a==b
 |.str a,.str b=>a==b
 |_,_=>false
theorem at7 {A:Around}{s:Shared}{y x:V}{u v:Value}(ry:aT y u)(rx:aT x v)(fy:iR y=true)(fx:iR x=true):SeqAt.EqAt A s u v (hB y x):=by
 cases y with
 |non=>
  cases ry
  cases x with
  |non=>cases rx;exact SeqAt.EqAt.same _
  |bl b=>cases rx;exact SeqAt.EqAt.none_bool b
  |int b=>obtain⟨t,rfl⟩:=rx;exact SeqAt.EqAt.none_int b t
  |str b=>obtain⟨t,rfl⟩:=rx;exact SeqAt.EqAt.none_str b t
  |_=>exact absurd (show false=true from fx) bm6
 |bl a=>
  cases ry
  cases x with
  |non=>cases rx;exact SeqAt.EqAt.bool_none a
  |bl b=>cases rx;exact SeqAt.EqAt.bool_bool a b
  |int b=>obtain⟨t,rfl⟩:=rx;exact SeqAt.EqAt.bool_int a b t
  |str b=>obtain⟨t,rfl⟩:=rx;exact SeqAt.EqAt.bool_str a b t
  |_=>exact absurd (show false=true from fx) bm6
 |int a=>
  obtain⟨t',rfl⟩:=ry
  cases x with
  |non=>cases rx;exact SeqAt.EqAt.int_none a t'
  |bl b=>cases rx;exact SeqAt.EqAt.int_bool a t' b
  |int b=>obtain⟨t,rfl⟩:=rx;exact SeqAt.EqAt.int_int a t' b t
  |str b=>obtain⟨t,rfl⟩:=rx;exact SeqAt.EqAt.int_str a t' b t
  |_=>exact absurd (show false=true from fx) bm6
 |str a=>
  obtain⟨t',rfl⟩:=ry
  cases x with
  |non=>cases rx;exact SeqAt.EqAt.str_none a t'
  |bl b=>cases rx;exact SeqAt.EqAt.str_bool a t' b
  |int b=>obtain⟨t,rfl⟩:=rx;exact SeqAt.EqAt.str_int a t' b t
  |str b=>obtain⟨t,rfl⟩:=rx;exact SeqAt.EqAt.str_str a t' b t
  |_=>exact absurd (show false=true from fx) bm6
 |_=>exact absurd (show false=true from fy) bm6
def iS (x:V)(u:Value):Bool:=match u with
 |.none=>hB .non x
 |.bool b=>hB (.bl b) x
 |.int i _=>hB (.int i) x
 |.str z _=>hB (.str z) x
 |_=>false
theorem J2 {x y:V}{u:Value}(r:aT y u)(f:iR y=true):iS x u=hB y x:=by
 cases y with
 |non=>cases r;rfl
 |bl b=>cases r;rfl
 |int i=>obtain⟨t,rfl⟩:=r;rfl
 |str z=>obtain⟨t,rfl⟩:=r;rfl
 |_=>exact absurd (show false=true from f) bm6
theorem vR {x:V}:∀{xs:List V}{us:List Value},aQ xs us->xs.all iR=true->us.any (iS x)=xs.any λy=>hB y x
 |_,_,.nil,_=>rfl
 |y::xs,u::us,.cons r t,f=>by
  rw[bx6,bn4]at f
  rw[List.any_cons,List.any_cons,J2 r f.1,vR t f.2]
theorem vS {A:Around}{s:Shared}{x:V}{v:Value}(rx:aT x v)(fx:iR x=true):∀{xs:List V}{us:List Value},aQ xs us->xs.all iR=true->∀u∈us,SeqAt.EqAt A s u v (iS x u)
 |_,_,.nil,_=>λu hu=>by cases hu
 |y::xs,u::us,.cons r t,f=>λu' hu=>by
  rw[bx6,bn4]at f
  rcases bl2.mp hu with rfl|hu
  ·rw[J2 r f.1];exact at7 r rx f.1 fx
  ·exact vS rx fx t f.2 u' hu
def nZ (x:V)(xs:List V):Bool:=xs.any λy=>hB y x
def J3 (K:ac)(neg:Bool):R2:=λx y H Q=>∃p xs,y = .ref p/\(aM K H p xs∨aL K H p xs)/\iR x=true/\xs.all iR=true/\Q (.bl (if neg then !nZ x xs else nZ x xs)) H
theorem at8:cG X (compareOp .In) (J3 X.K false):=by
 intro pins s σ H x y v u Q I rx ry h
 obtain⟨p,xs,rfl,hq,fx,fs,q⟩:=h
 cases ry
 rcases hq with hq|hq
 ·obtain⟨its,r,pl,hz⟩:=I.list hq
  refine SeqAt.in_listAt (iS x) pl.isList (λw hw=>vS rx fx r fs w (by simpa using hw)) ⟨.bl _,H,I,rfl,?_⟩
  rw[show its.toArray.any (iS x)=its.any (iS x) by simp,vR r fs]
  exact q
 ·obtain⟨its,r,pl,hz⟩:=I.tuple hq
  refine SeqAt.in_tupleAt (iS x) pl (λw hw=>vS rx fx r fs w (by simpa using hw)) ⟨.bl _,H,I,rfl,?_⟩
  rw[show its.toArray.any (iS x)=its.any (iS x) by simp,vR r fs]
  exact q
theorem J4:cH X (.builtin "len") (λxs H Q=>∃p ys,xs = [.ref p]/\(aM X.K H p ys∨aL X.K H p ys)/\Q (.int ys.length) H):=by
 intro pins s σ H xs us Q I r h
 obtain⟨p,ys,rfl,hq,q⟩:=h
 obtain⟨u,rfl,rx⟩:=fM r
 cases rx
 have hn:=nY
 rcases hq with hq|hq
 ·obtain⟨its,r',pl,hz⟩:=I.list hq
  have hlen:=r'.length
  exact Calls.call_len_list pl.isList (by simp only[bk7]<;>omega) ⟨.int ys.length,H,I.tok _,⟨s.toks+1,by rw[bk7,hlen]⟩,q⟩
 ·obtain⟨its,r',pl,hz⟩:=I.tuple hq
  have hlen:=r'.length
  exact len_tuple pl (by simp only[bk7]<;>omega) ⟨.int ys.length,H,I.tok _,⟨s.toks+1,by rw[bk7,hlen]⟩,q⟩
theorem cH.or {f:Value}{r r':List V->Hp->VK->Prop}(h:cH X f r)(h':cH X f r'):cH X f (λxs H Q=>r xs H Q∨r' xs H Q):=by
 intro pins s σ H xs us Q I rs q
 rcases q with q|q
 ·exact h pins s σ H xs us Q I rs q
 ·exact h' pins s σ H xs us Q I rs q
theorem at9:cH X (.type "tuple") (λxs H Q=>∃p ys,xs = [.ref p]/\((aM X.K H p ys/\∀l,H l=none->Q (.ref l) (upd H l (.tup ys)))∨(aL X.K H p ys/\Q (.ref p) H))):=by
 intro pins s σ H xs us Q I r h
 obtain⟨p,ys,rfl,h⟩:=h
 obtain⟨u,rfl,rx⟩:=fM r
 cases rx
 rcases h with⟨hq,q⟩|⟨hq,q⟩
 ·obtain⟨its,r',pl,hz⟩:=I.list hq
  have hlen:=r'.length
  refine call_tuple_list pl.isList (λh' kp=>?_) (by simp only[bk7]<;>omega)
  have I1:a8 X pins σ H { s with heap:=h' }:=I.kept (t':=s.toks) kp
  have I2:a8 X pins σ (upd H h'.objs.size (.tup ys)) { s with heap:=h'.push { cls:=.type "tuple",data:=.seq its.toArray } }:=
   I1.laid (t':=s.toks) (λb o e=>bk6 _ e) (bk9 _) (show cF X.prog X.w _ _ _ (.tup ys) from ⟨hz,its,r',IsTup.new _ _,iC.new _ _ rfl⟩)
  exact⟨.ref h'.objs.size,_,I2,rfl,q _ (I1.hok.fresh (bk9 _))⟩
 ·obtain⟨its,r',pl,hz⟩:=I.tuple hq
  exact call_tuple_same pl ⟨.ref p,H,I,rfl,q⟩
def qZ (K:ac)(T:String)(x:V)(H:Hp):Prop:=match x with
 |.str _=>T="str"
 |.int _=>T="int"
 |.ref p=>(T="list"/\∃xs,aM K H p xs)∨(T="tuple"/\∃o,K.lookup p=some o/\o.cls = .type "tuple"/\o.dict=none) ∨
   (T="dict"/\((∃kvs,H p=some (.dK kvs))∨∃kvs,H p=some (.dT kvs)))∨(T="set"/\∃S n,H p=some (.set S n))
 |_=>False
theorem vT {pins:List (Addr×Obj)}{σ:St}{H:Hp}{s:Shared}{T:String}{x:V}{v:Value}(I:a8 X pins σ H s)(r:aT x v)(ty:qZ X.K T x H) :
  s.TypeIs v T/\∀a,v = .ref a->∃ob,s.heap.get? a=some ob/\ob.dict=none:=by
 cases x with
 |str z=>
  obtain⟨t,rfl⟩:=r
  cases (show T="str" from ty)
  exact⟨typeIs_str s z t,λ_ e=>nomatch e⟩
 |int i=>
  obtain⟨t,rfl⟩:=r
  cases (show T="int" from ty)
  exact⟨typeIs_int s i t,λ_ e=>nomatch e⟩
 |ref p=>
  cases r
  rcases ty with⟨rfl,xs,hq⟩|⟨rfl,o,hk,hc,hd⟩|⟨rfl,hk⟩|⟨rfl,S,n,hk⟩
  ·obtain⟨its,_,pl,_⟩:=I.list hq
   refine⟨pl.isList.typeIs,λa e=>?_⟩
   cases e
   obtain⟨o,n,e,c,hd,_⟩:=pl
   exact⟨o,e,hd⟩
  ·refine⟨⟨o,I.kIn p o hk,hc⟩,λa e=>?_⟩
   cases e
   exact⟨o,I.kIn _ o hk,hd⟩
  ·have z:∃o,s.heap.get? p=some o/\o.ExactDict:=by
    rcases hk with⟨kvs,hk⟩|⟨kvs,hk⟩
    ·obtain⟨_,_,_,_,o,_,_,e,ex,_⟩:=I.hok p _ hk
     exact⟨o,e,ex⟩
    ·obtain⟨_,_,_,_,o,_,_,e,ex,_⟩:=I.hok p _ hk
     exact⟨o,e,ex⟩
   obtain⟨o,e,ex⟩:=z
   refine⟨⟨o,e,ex.1⟩,λa e2=>?_⟩
   cases e2
   exact⟨o,e,ex.2.1⟩
  ·obtain⟨o,_,_,_,e,ex,_⟩:=I.hok p _ hk
   refine⟨⟨o,e,ex.1⟩,λa e2=>?_⟩
   cases e2
   exact⟨o,e,ex.2.1⟩
 |_=>exact False.elim ty
def J5 (K:ac)(T:String)(r:V->List V->Hp->VK->Prop)(to:TE)(t:TA):TE:=λσ H Q=>to σ H λx H1=>qZ K T x H1/\t σ H1 λxs H2=>r x xs H2 Q
variable {o e:Expr}{es:List Expr}{to:TE}{t:TA}{name:Str}{apos cpos:Pos}{T id:String}{r:V→List V→Hp→VK→Prop}
theorem vU (pa:PlainAttrs T)(slot:Slot T name id)(hty:typeOf (.builtin id)=pure (.type "method_descriptor"))(hm:iE X id r)(ho:PE X o to)(ha:PA X (e::es) t)(hbase:attributeBase o name X.env (eval o X.env)=eval o X.env:=by rfl)(hfew:((backTo cpos (starEach (e::es) X.env)).all (λx=>!x.1)&&(backToKw cpos (keywordEach [] X.env)).all (λx=>x.1.isSome)
  &&decide ((e::es).length+([]:List Keyword).length+(if ([]:List Keyword).isEmpty then 0 else 1)<30))=true:=by rfl)(hline:(apos.endLine==cpos.line)=true:=by rfl)(hs:starEach (e::es) X.env=(false,eval e X.env)::starEach es X.env:=by rfl)(hplain:(backTo cpos (starEach es X.env)).any (·.1)=false:=by rfl) :
  PE X (.Call (.Attribute o name apos) (e::es) [] cpos) (J5 X.K T r to t):=by
 intro pins s σ H Q I h
 refine wpAny_Call_method_late hbase hfew hline rfl (aJ (ho pins s σ H _ I h) λv s1 ⟨x,H1,I1,r1,ty,q1⟩=>?_)
 obtain⟨h1,h2⟩:=vT I1 r1 ty
 refine⟨T,id,pa,slot,hty,h1,h2,?_⟩
 have hA:=ha cpos pins s1 σ H1 _ I1 q1
 rw[hs]at hA ⊢
 refine bx4 (by show (false||(backTo cpos (starEach es X.env)).any (·.1))=false;rw[hplain]<;>rfl) (by8 ?_)
 exact aJ hA λus s2 ⟨vs,H2,I2,r2,q2⟩=>hm pins s2 σ H2 x vs v us Q I2 r1 r2 q2
end
def J6 (X:Cx)(id:String)(r:V->List V->Hp->VK->Prop):Prop:=
 ∀(pins:List (Addr×Obj)) (s:Shared) (σ:St) (H:Hp) (x:V) (xs:List V) (v:Value) (us:List Value) (Q:VK),a8 X pins σ H s->aT x v->aQ xs us->r x xs H Q->
  wpAny (model X.prog X.w) X.A (call (.builtin id) (v::us)) (EP X pins σ Q) X.xe s
theorem aQ.one {x:V}{us:List Value}(h:aQ [x] us):∃u,us = [u]/\aT x u:=by
 cases h with
 |cons r t=>
  cases t
  exact⟨_,rfl,r⟩
theorem aQ.zero:∀{us:List Value},aQ [] us->us = []
 |_,.nil=>rfl
theorem aQ.dropLast {xs:List V}{us:List Value}(h:aQ xs us):aQ xs.dropLast us.dropLast:=by
 induction h with
 |nil=>exact .nil
 |cons r t ih=>
  cases t with
  |nil=>exact .nil
  |cons q t'=>exact .cons r ih
theorem au0 {α:Type}(l:List α):l.eraseIdx (l.length-1)=l.dropLast:=by
 induction l with
 |nil=>rfl
 |cons a r ih=>
  cases r with
  |nil=>rfl
  |cons b r=>
   have e:(a::b::r).length-1=((b::r).length-1)+1:=by
    have h1:(a::b::r).length=r.length+2:=rfl
    have h2:(b::r).length=r.length+1:=rfl
    omega
   rw[e,List.eraseIdx_cons_succ,ih]
   all_goals rfl
section
variable {X:Cx}{pins:List (Addr×Obj)}{σ:St}{H:Hp}{s:Shared}{l b:Addr}{xs ys zs:List V}
theorem a8.lset {its its':List Value}{n:Nat}{f:Array Value->Array Value}{t':Nat}(I:a8 X pins σ H s)(hH:H l=some (.lst xs))(e:s.heap.get? l=some { cls:=.type "list",data:=.seq its.toArray n })(hf:f its.toArray=its'.toArray)(hv:aQ ys its')(hz:ys.length<=sizeLine) :
  a8 X pins σ (upd H l (.lst ys)) { s with heap:=s.heap.update l (Obj.mapSeq f),toks:=t' }:=by
 have q:=PySem.IsL.update e f
 rw[hf]at q
 refine I.write (x:=l) (e:=l) (by rw[hH];exact trivial) (.inl rfl) (λb' u hb hu=>(Heap.get?_update_other s.heap (Obj.mapSeq f) (Ne.symm hb)).trans hu) ⟨_,q⟩ ?_
 exact⟨hz,its',_,hv,q⟩
theorem a8.lstM (I:a8 X pins σ H s)(hH:H l=some (.lst xs)):xs.length<=sizeLine/\∃(its:List Value) (n:Nat),aQ xs its/\xs.length=its.length/\s.heap.get? l=some { cls:=.type "list",data:=.seq its.toArray n }:=by
 obtain⟨z,its,n,r,e⟩:=I.hok l _ hH
 exact⟨z,its,n,r,r.length,e⟩
end
section
variable {X:Cx}
def vV:V->List V->Hp->VK->Prop:=λx vs H Q=>∃l xs y,x = .ref l/\vs = [y]/\H l=some (.lst xs)/\xs.length<sizeLine/\Q .non (upd H l (.lst (xs++[y])))
theorem o0:J6 X "list.append" vV:=by
 intro pins s σ H x vs v us Q I rx rv h
 obtain⟨l,xs,y,rfl,rfl,hH,hz,q⟩:=h
 cases rx
 obtain⟨u,rfl,ru⟩:=rv.one
 obtain⟨z,its,n,r,hl,e⟩:=I.lstM hH
 refine call_meets F.slot_list_append ⟨_,e,rfl⟩ F.entry_list_append (F.args_list_append_2 _ _) (PySem.list_append l its.toArray n u (by rw[bk7];omega)) ⟨e,?_⟩
 refine⟨.non,_,I.lset (its':=its++[u]) hH e (by simp) (r.append (.cons ru .nil)) ?_,rfl,q⟩
 rw[bl4,bo6]
 omega
def J7:V->List V->Hp->VK->Prop:=λx vs H Q=>∃l xs y,x = .ref l/\vs = []/\H l=some (.lst xs)/\xs[xs.length-1]? = some y/\Q y (upd H l (.lst xs.dropLast))
theorem au1:J6 X "list.pop" J7:=by
 intro pins s σ H x vs v us Q I rx rv h
 obtain⟨l,xs,y,rfl,rfl,hH,hy,q⟩:=h
 cases rx
 have hus:=rv.zero
 subst hus
 obtain⟨z,its,n,r,hl,e⟩:=I.lstM hH
 obtain⟨u,hu,ru⟩:=r.get hy
 have hy':its.toArray[its.toArray.size-1]? = some u:=by
  show its.toArray[its.length-1]? = some u
  rw[<- bv5,<- hl]
  exact hu
 refine call_meets F.slot_list_pop ⟨_,e,rfl⟩ F.entry_list_pop (F.args_list_pop_1 _) (MeetsSeq.list_pop_last l its.toArray n u hy' (by rw[bk7];omega)) ⟨e,?_⟩
 refine⟨y,_,I.lset (its':=its.dropLast) hH e ?_ r.dropLast ?_,ru,q⟩
 ·show its.toArray.eraseIdxIfInBounds (its.toArray.size-1)=its.dropLast.toArray
  rw[bk7,List.eraseIdxIfInBounds_toArray,au0]
 ·rw[List.length_dropLast]
  omega
end
section
variable {κ:Type}[DecidableEq κ]
def e8 (kvs:List (κ×V))(k:κ):Option V:=(kvs.find? λkv=>decide (kv.1=k)).map (·.2)
def dS (kvs:List (κ×V))(k:κ)(v:V):List (κ×V):=
 if (kvs.any λkv=>decide (kv.1=k))=true then kvs.map (λkv=>if kv.1=k then (kv.1,v) else kv) else kvs++[(k,v)]
theorem vW {p:κ×V}{r:List (κ×V)}{k:κ}(e:p.1=k):e8 (p::r) k=some p.2:=by simp[e8,bt8,e]
theorem vX {p:κ×V}{r:List (κ×V)}{k:κ}(e:¬p.1=k):e8 (p::r) k=e8 r k:=by simp[e8,bt8,e]
theorem J8 (k:κ):∀kvs:List (κ×V),(kvs.any λkv=>decide (kv.1=k))=(e8 kvs k).isSome
 |[]=>rfl
 |p::r=>by
  rw[List.any_cons]
  by_cases e:p.1=k
  ·simp only[vW e,bn0 e,Bool.true_or,Option.isSome_some]
  ·rw[vX e,bm3 e,Bool.false_or];exact J8 k r
theorem vY (kvs:List (κ×V))(k:κ)(v:V):(dS kvs k v).length<=kvs.length+1:=by
 unfold dS
 split
 ·rw[bl1];omega
 ·rw[bl4,bo1,List.length_nil];omega
theorem eS.isSome_eq {o:Option V}{u:Option Value}(r:eS o u):o.isSome=u.isSome:=by
 cases o with
 |none=>cases u with
  |none=>rfl
  |some _=>exact (show False from r).elim
 |some _=>cases u with
  |none=>exact (show False from r).elim
  |some _=>rfl
theorem eS.getD {o:Option V}{u:Option Value}{d:V}{d':Value}(r:eS o u)(rd:aT d d'):aT (o.getD d) (u.getD d'):=by
 cases o with
 |none=>cases u with
  |none=>exact rd
  |some _=>exact (show False from r).elim
 |some _=>cases u with
  |none=>exact (show False from r).elim
  |some _=>exact r
theorem KV.val {kvs:List (κ×V)}{vs:List (κ×Value)}(r:KV kvs vs)(k:κ):eS (e8 kvs k) (valueAt vs k):=by
 unfold KV at r
 induction r with
 |nil=>exact True.intro
 |@cons p q ps qs h t ih=>
  obtain⟨h1,h2⟩:=h
  by_cases e:p.1=k
  ·have e':q.1=k:=h1.symm.trans e
   have b:valueAt (q::qs) k=some q.2:=by simp[valueAt,bt8,e']
   rw[vW e,b];exact h2
  ·have e':¬q.1=k:=λz=>e (h1.trans z)
   have b:valueAt (q::qs) k=valueAt qs k:=by simp[valueAt,bt8,e']
   rw[vX e,b];exact ih
theorem KV.any {kvs:List (κ×V)}{vs:List (κ×Value)}(r:KV kvs vs)(k:κ):(kvs.any λkv=>decide (kv.1=k))=vs.any λkv=>decide (kv.1=k):=by
 unfold KV at r
 induction r with
 |nil=>rfl
 |cons h t ih=>rw[List.any_cons,List.any_cons,ih,h.1]
theorem KV.repl {kvs:List (κ×V)}{vs:List (κ×Value)}(r:KV kvs vs)(k:κ){y:V}{u:Value}(ry:aT y u) :
  KV (kvs.map λkv=>if kv.1=k then (kv.1,y) else kv) (vs.map λkv=>if kv.1=k then (kv.1,u) else kv):=by
 unfold KV at r ⊢
 induction r with
 |nil=>exact .nil
 |@cons p q ps qs h t ih=>
  rw[bp3,bp3]
  refine .cons ?_ ih
  obtain⟨h1,h2⟩:=h
  by_cases e:p.1=k
  ·rw[if_pos e,if_pos (h1.symm.trans e)];exact⟨h1,ry⟩
  ·rw[if_neg e,if_neg (λz=>e (h1.trans z))];exact⟨h1,h2⟩
theorem KV.put {kvs:List (κ×V)}{vs:List (κ×Value)}(r:KV kvs vs)(k:κ){y:V}{u:Value}(ry:aT y u):KV (dS kvs k y) (stored vs k u):=by
 unfold dS stored
 rw[r.any k]
 by_cases e:(vs.any λkv=>decide (kv.1=k))=true
 ·rw[if_pos e,if_pos e];exact r.repl k ry
 ·rw[if_neg e,if_neg e];exact Paired.snoc r ⟨rfl,ry⟩
theorem KV.length {kvs:List (κ×V)}{vs:List (κ×Value)}(r:KV kvs vs):kvs.length=vs.length:=Paired.length r
end
theorem o3 {P:Program}{w:World}{k:aD}{u:Value}(r:aT (kV k) u):(dA P w).is k u=true:=by
 cases k with
 |inl i=>obtain⟨t,e⟩:=(show ∃t,u=Value.int i t from r);subst e;exact ak8 P w i t
 |inr x=>obtain⟨t,e⟩:=(show ∃t,u=Value.str x t from r);subst e;exact ak9 P w x t
theorem J9 {P:Program}{w:World}:∀{ks:List aD}{us:List Value},aQ (ks.map kV) us->ItemsAre (dA P w) ks us
 |[],_,r=>by rw[List.map_nil]at r;cases r;exact .nil
 |k::ks,_,r=>by
  rw[bp3]at r
  cases r with
  |cons h t=>exact .cons (o3 h) (J9 t)
abbrev KT (H:Hp):List (List aD×V)->List (List aD×Addr×Value)->Prop:=Paired λp q=>p.1=q.1/\H q.2.1=some (.tup (p.1.map kV))/\aT p.2 q.2.2
theorem KT.val {H:Hp}{kvs:List (List aD×V)}{xs:List (List aD×Addr×Value)}(r:KT H kvs xs)(k:List aD):eS (e8 kvs k) ((atKey xs k).map (·.2)):=by
 induction r with
 |nil=>exact True.intro
 |@cons p q ps qs h t ih=>
  obtain⟨h1,_,h2⟩:=h
  by_cases e:p.1=k
  ·have e':q.1=k:=h1.symm.trans e
   have b:atKey (q::qs) k=some q.2:=by simp[atKey,bt8,e']
   rw[vW e,b];exact h2
  ·have e':¬q.1=k:=λz=>e (h1.trans z)
   have b:atKey (q::qs) k=atKey qs k:=by simp[atKey,bt8,e']
   rw[vX e,b];exact ih
theorem KT.repl {H:Hp}{kvs:List (List aD×V)}{xs:List (List aD×Addr×Value)}(r:KT H kvs xs)(k:List aD){y:V}{u:Value}(ry:aT y u) :
  KT H (kvs.map λkv=>if kv.1=k then (kv.1,y) else kv) (xs.map (putAt k u)):=by
 induction r with
 |nil=>exact .nil
 |@cons p q ps qs h t ih=>
  rw[bp3,bp3]
  refine .cons ?_ ih
  obtain⟨h1,h2,h3⟩:=h
  unfold putAt
  by_cases e:p.1=k
  ·rw[if_pos e,if_pos (h1.symm.trans e)];exact⟨h1,h2,ry⟩
  ·rw[if_neg e,if_neg (λz=>e (h1.trans z))];exact⟨h1,h2,h3⟩
theorem KT.put {H:Hp}{kvs:List (List aD×V)}{xs:List (List aD×Addr×Value)}(r:KT H kvs xs)(k:List aD){b:Addr}{y:V}{u:Value}(hb:H b=some (.tup (k.map kV)))(ry:aT y u) :
  KT H (dS kvs k y) (storedH xs k b u):=by
 have e:(kvs.any λkv=>decide (kv.1=k))=(atKey xs k).isSome:=by
  rw[J8,(r.val k).isSome_eq,Option.isSome_map]
 unfold dS storedH
 rw[e]
 by_cases q:(atKey xs k).isSome=true
 ·rw[if_pos q,if_pos q];exact r.repl k ry
 ·rw[if_neg q,if_neg q];exact Paired.snoc r ⟨rfl,hb,ry⟩
theorem KT.keeps {H H':Hp}{kvs:List (List aD×V)}{xs:List (List aD×Addr×Value)}(r:KT H kvs xs)(ht:∀b ys,H b=some (.tup ys)->H' b=some (.tup ys)):KT H' kvs xs:=
 Paired.mapP r λ_ _ z=>⟨z.1,ht _ _ z.2.1,z.2.2⟩
section
variable {P:Program}{w:World}{H:Hp}{h:Heap}{a:Addr}
theorem K0 {u:HO}(ok:bV P w H h)(e:Rd H a u):cF P w H h a u:=e.ok ok
theorem o4 {kvs:List (aD×V)}(ok:bV P w H h)(e:Rd H a (.dK kvs)):kvs.length<=sizeLine/\(a==sysModules)=false/\∃vs,KV kvs vs/\h.DictOf (dA P w) a vs:=
 show cF P w H h a (.dK kvs) from K0 ok e
theorem vZ {kvs:List (aD×V)}(ok:bV P w H h)(e:H a=some (.dK kvs)):kvs.length<=sizeLine/\(a==sysModules)=false/\∃vs,KV kvs vs/\h.DictOf (dA P w) a vs:=o4 ok (.inl e)
theorem r6 {ks:List aD}(ok:bV P w H h)(e:H a=some (.tup (ks.map kV))):(tupleKind (dA P w)).is h ks a:=by
 obtain⟨_,its,r,⟨o,h1,h2,n,h3⟩,_⟩:=(show cF P w H h a (.tup (ks.map kV)) from ok a _ e)
 exact⟨o,its.toArray,n,h1,h2,h3,by simpa using J9 r⟩
theorem r9 {kvs:List (List aD×V)}(ok:bV P w H h)(e:Rd H a (.dT kvs)):kvs.length<=sizeLine/\(a==sysModules)=false/\
  ∃xs,KT H kvs xs/\h.DictOfH (tupleKind (dA P w)) a xs:=by
 obtain⟨z,y,xs,r,o,es,ep,h1,h2,h3,h4,h5⟩:=(show cF P w H h a (.dT kvs) from K0 ok e)
 refine⟨z,y,xs,r,o,es,ep,h1,h2,h3,h4,λx hx=>?_,h5⟩
 have all:∀{l:List (List aD×V)}{m:List (List aD×Addr×Value)},KT H l m->∀x∈m,(tupleKind (dA P w)).is h x.1 x.2.1:=by
  intro l m q
  induction q with
  |nil=>intro x hx;exact nomatch hx
  |@cons p q ps qs hq t ih=>
   intro x hx
   rcases bl2.mp hx with e|hx
   ·subst e
    exact r6 ok (by rw[<- hq.1];exact hq.2.1)
   ·exact ih x hx
 exact all r x hx
theorem au2 {kvs:List (List aD×V)}(ok:bV P w H h)(e:H a=some (.dT kvs)):kvs.length<=sizeLine/\(a==sysModules)=false/\
  ∃xs,KT H kvs xs/\h.DictOfH (tupleKind (dA P w)) a xs:=r9 ok (.inl e)
end
def hG (H:Hp)(a:Addr)(y:V)(r:Option V):Prop:=
 (∃kvs k,Rd H a (.dK kvs)/\y=kV k/\r=e8 kvs k)∨∃kvs k b,Rd H a (.dT kvs)/\y = .ref b/\H b=some (.tup (k.map kV))/\r=e8 kvs k
def jS (H:Hp)(a:Addr)(y v:V)(H':Hp):Prop:=
 (∃kvs k,H a=some (.dK kvs)/\y=kV k/\kvs.length<sizeLine/\H'=upd H a (.dK (dS kvs k v))) ∨
 ∃kvs k b,H a=some (.dT kvs)/\y = .ref b/\H b=some (.tup (k.map kV))/\kvs.length<sizeLine/\H'=upd H a (.dT (dS kvs k v))
theorem hG.k {H:Hp}{a:Addr}{kvs:List (aD×V)}{k:aD}(e:H a=some (.dK kvs)):hG H a (kV k) (e8 kvs k):=.inl ⟨kvs,k,.inl e,rfl,rfl⟩
theorem hG.t {H:Hp}{a b:Addr}{kvs:List (List aD×V)}{k:List aD}(e:H a=some (.dT kvs))(eb:H b=some (.tup (k.map kV))):hG H a (.ref b) (e8 kvs k):=.inr ⟨kvs,k,b,.inl e,rfl,eb,rfl⟩
theorem jS.k {H:Hp}{a:Addr}{kvs:List (aD×V)}{k:aD}{v:V}(e:H a=some (.dK kvs))(hl:kvs.length<sizeLine):jS H a (kV k) v (upd H a (.dK (dS kvs k v))):=.inl ⟨kvs,k,e,rfl,hl,rfl⟩
theorem jS.t {H:Hp}{a b:Addr}{kvs:List (List aD×V)}{k:List aD}{v:V}(e:H a=some (.dT kvs))(eb:H b=some (.tup (k.map kV)))(hl:kvs.length<sizeLine) :
  jS H a (.ref b) v (upd H a (.dT (dS kvs k v))):=.inr ⟨kvs,k,b,e,rfl,eb,hl,rfl⟩
section
variable {X:Cx}{pins:List (Addr×Obj)}{σ:St}{H:Hp}{s:Shared}{a:Addr}{y v:V}{u r:Value}{o:Option V}{A:Around}{E:Value→Shared→Prop}
theorem a8.big (I:a8 X pins σ H s):sysModules<s.heap.objs.size:=by
 have h:mainGlobals<s.heap.objs.size:=(I.mod.glob.keeps I.bk).lt
 exact Nat.lt_trans (by decide) h
theorem au3 {Q:Value->Shared->Prop}(hu:A.units+1<cLine)(I:a8 X pins σ H s)(g:hG H a y o)(ry:aT y u)(h:∀s',a8 X pins σ H s'->Q (.bool o.isSome) s') :
  wpAny (model X.prog X.w) A (compareOp .In u (.ref a)) Q E s:=by
 rcases g with⟨kvs,k,e,ey,l⟩|⟨kvs,k,b,e,ey,eb,l⟩
 ·subst ey
  obtain⟨z,hd,vs,rel,dd⟩:=o4 I.hok e
  refine wpAny_in_of (o3 ry) hd dd.mapOf ?_
  rw[<- (rel.val k).isSome_eq,<- l]
  exact h _ (I.tok _)
 ·subst ey
  cases (show u=Value.ref b from ry)
  obtain⟨z,hd,xs,rel,dd⟩:=r9 I.hok e
  refine wpAny_in_heap (tupleKind_room_in1 hu) (r6 I.hok eb) hd dd ?_
  have q:=(rel.val k).isSome_eq
  rw[Option.isSome_map]at q
  rw[<- q,<- l]
  exact h _ (I.tok _)
theorem au4 {Q:Value->Shared->Prop}(hu:A.units+1<cLine)(I:a8 X pins σ H s)(g:hG H a y o)(ry:aT y u)(h:∀s',a8 X pins σ H s'->Q (.bool (!o.isSome)) s') :
  wpAny (model X.prog X.w) A (compareOp .NotIn u (.ref a)) Q E s:=by
 rcases g with⟨kvs,k,e,ey,l⟩|⟨kvs,k,b,e,ey,eb,l⟩
 ·subst ey
  obtain⟨z,hd,vs,rel,dd⟩:=o4 I.hok e
  refine wpAny_notIn_of (o3 ry) hd dd.mapOf ?_
  rw[<- (rel.val k).isSome_eq,<- l]
  exact h _ (I.tok _)
 ·subst ey
  cases (show u=Value.ref b from ry)
  obtain⟨z,hd,xs,rel,dd⟩:=r9 I.hok e
  refine wpAny_notIn_heap (tupleKind_room_in1 hu) (r6 I.hok eb) hd dd ?_
  have q:=(rel.val k).isSome_eq
  rw[Option.isSome_map]at q
  rw[<- q,<- l]
  exact h _ (I.tok _)
theorem w4 {h':Heap}{t':Nat}{ob:HO}(I:a8 X pins σ H s)(mu:nR (H a))(hs:Heap.SameBut a s.heap h')(he:∃q,h'.get? a=some q)(new:cF X.prog X.w (upd H a ob) h' a ob) :
  a8 X pins σ (upd H a ob) { s with heap:=h',toks:=t' }:=
 I.write (x:=a) (e:=a) mu (.inl rfl) (λb q hb z=>(hs.2 b hb).trans z) he new
theorem K1 {P:Program}{w:World}{H':Hp}{h':Heap}{kvs:List (aD×V)}{vs:List (aD×Value)}(z:kvs.length<=sizeLine)(hd:(a==sysModules)=false)(rel:KV kvs vs)(dd:h'.DictOf (dA P w) a vs) :
  cF P w H' h' a (.dK kvs):=⟨z,hd,vs,rel,dd⟩
theorem au5 {H':Hp}{Q:Unit->Shared->Prop}(hu:A.units+1<cLine)(I:a8 X pins σ H s)(g:jS H a y v H')(ry:aT y u)(rv:aT v r)(h:∀s',a8 X pins σ H' s'->Q () s') :
  wpAny (model X.prog X.w) A (setItem (.ref a) u r) Q E s:=by
 rcases g with⟨kvs,k,e,ey,l,eH⟩|⟨kvs,k,b,e,ey,eb,l,eH⟩
 ·subst ey eH
  obtain⟨z,hd,vs,rel,dd⟩:=vZ I.hok e
  have hz:vs.length<=sizeLine:=by rw[<- rel.length];exact z
  have hl:(dS kvs k v).length<=sizeLine:=by have:=vY kvs k v;omega
  refine wpAny_setItem_pairs (hsz:=hz) (o3 ry) dd λh' dd' hs=>h _ ?_
  have he:∃q,h'.get? a=some q:=let ⟨q,_,_,hq,_⟩:=dd';⟨q,hq⟩
  exact w4 I (by rw[e];exact True.intro) hs he (K1 hl hd (rel.put k rv) dd')
 ·subst ey eH
  cases (show u=Value.ref b from ry)
  obtain⟨z,hd,xs,rel,dd⟩:=au2 I.hok e
  have hz:xs.length<=sizeLine:=by rw[<- Paired.length rel];exact z
  have hl:(dS kvs k v).length<=sizeLine:=by have:=vY kvs k v;omega
  refine wpAny_setItem_heap (hsz:=hz) (tupleKind_room_in1 hu) (r6 I.hok eb) dd λh' dd' hs=>h _ ?_
  obtain⟨q,es,ep,hq,h2,h3,h4,_,h5⟩:=dd'
  refine w4 I (by rw[e];exact True.intro) hs ⟨q,hq⟩ ⟨hl,hd,_,(rel.put k eb rv).keeps λc ys ec=>?_,q,es,ep,hq,h2,h3,h4,h5⟩
  rw[aF (al0 ec e (λz=>nomatch z))]
  exact ec
end
section
variable {X:Cx}{pins:List (Addr×Obj)}{σ:St}{H:Hp}{s:Shared}{a:Addr}{kvs:List (aD×V)}{k:aD}{u:Value}{A:Around}{E:Value→Shared→Prop}
theorem au6 {Q:Value->Shared->Prop}(I:a8 X pins σ H s)(e:Rd H a (.dK kvs))(h:∀t s',a8 X pins σ H s'->Q (.int kvs.length t) s'):wpAny (model X.prog X.w) A (call (.builtin "len") [.ref a]) Q E s:=by
 obtain⟨z,hd,vs,rel,dd⟩:=o4 I.hok e
 refine call_len_dict hd dd (by rw[<- rel.length];rw[sizeLine_eq]at z;omega) ?_
 rw[<- rel.length]
 exact h _ _ (I.tok _)
end
def K2 (ty td:TE):TE:=λσ H Q=>ty σ H λy H1=>td σ H1 λx H2=>∃a o,x = .ref a/\hG H2 a y o/\Q (.bl o.isSome) H2
def K3 (ty td:TE):TE:=λσ H Q=>ty σ H λy H1=>td σ H1 λx H2=>∃a o,x = .ref a/\hG H2 a y o/\Q (.bl (!o.isSome)) H2
def w5 (td ty tv:TE):TS:=λD σ H=>tv σ H λv H1=>td σ H1 λx H2=>ty σ H2 λy H3=>∃a H4,x = .ref a/\jS H3 a y v H4/\D.nx σ H4
section
variable {X:Cx}{o i e value:Expr}{pos pos' tpos:Pos}{td ty tv:TE}
theorem au7 (hu:X.A.units+1<cLine)(hi:PE X i ty)(ho:PE X o td):PC X .In i o (K2 ty td):=by
 intro pins s σ H Q I h
 refine aJ (hi pins s σ H _ I h) λiv s1 ⟨y,H1,I1,ry,q1⟩=>aJ (ho pins s1 σ H1 _ I1 q1) λu s2 ⟨x,H2,I2,rx,a,ov,ex,g,q2⟩=>?_
 subst ex
 obtain rfl:u=Value.ref a:=rx
 exact au3 hu I2 g ry λs3 I3=>⟨.bl ov.isSome,H2,I3,rfl,q2⟩
theorem K4 (hu:X.A.units+1<cLine)(hi:PE X i ty)(ho:PE X o td):PC X .NotIn i o (K3 ty td):=by
 intro pins s σ H Q I h
 refine aJ (hi pins s σ H _ I h) λiv s1 ⟨y,H1,I1,ry,q1⟩=>aJ (ho pins s1 σ H1 _ I1 q1) λu s2 ⟨x,H2,I2,rx,a,ov,ex,g,q2⟩=>?_
 subst ex
 obtain rfl:u=Value.ref a:=rx
 exact au4 hu I2 g ry λs3 I3=>⟨.bl (!ov.isSome),H2,I3,rfl,q2⟩
theorem K5 (hu:X.A.units+1<cLine)(ho:PE X o td)(hi:PE X i ty)(hv:PE X value tv)(hs:swapsWith value (some (.Subscript o i pos')) pos.line X.env=pure false) :
  PS X (.Assign [.Subscript o i pos'] value pos) (w5 td ty tv):=by
 intro pins s σ H D I h
 refine wpAny_Assign_Subscript (aJ (hv pins s σ H _ I h) λr s1 ⟨v,H1,I1,rv,q1⟩=>aJ (ho pins s1 σ H1 _ I1 q1) λu s2 ⟨x,H2,I2,rx,q2⟩=>aJ (hi pins s2 σ H2 _ I2 q2) λiv s3 ⟨y,H3,I3,ry,a,H4,ex,g,q3⟩=>?_) hs
 subst ex
 obtain rfl:u=Value.ref a:=rx
 exact au5 hu I3 g ry rv λs4 I4=>⟨σ,H4,I4,q3⟩
end
theorem au8 {P:Program}{w:World}{H:Hp}(h:Heap)(hb:sysModules<h.objs.size):cF P w H (h.push { cls:=.type "dict",data:=.dict #[] }) h.objs.size (.dK []):=
 ⟨bo0 _,bs4.mpr (Ne.symm (bn6 hb)),[],.nil,Heap.DictOf.new h⟩
theorem au9 {P:Program}{w:World}{H:Hp}(h:Heap)(hb:sysModules<h.objs.size):cF P w H (h.push { cls:=.type "dict",data:=.dict #[] }) h.objs.size (.dT []):=
 ⟨bo0 _,bs4.mpr (Ne.symm (bn6 hb)),[],.nil,_,#[],0,bm0 _ rfl,⟨rfl,rfl,rfl⟩,rfl,rfl,List.nodup_nil⟩
def K6:TE:=λ_ H Q=>∀p,H p=none->Q (.ref p) (upd H p (.dK []))
def K7:TE:=λ_ H Q=>∀p,H p=none->Q (.ref p) (upd H p (.dT []))
section
variable {X:Cx}{pos:Pos}
theorem av0:PE X (.Dict [] [] pos) K6:=λpins s σ H Q I h=>
 wpAny_Dict_empty ⟨.ref s.heap.objs.size,_,I.laid (a:=s.heap.objs.size) (o:=.dK []) (t':=s.toks) (λ_ _ q=>bk6 _ q) (bk9 _) (au8 s.heap I.big),rfl,h _ (I.hok.fresh (bk9 _))⟩
theorem av1:PE X (.Dict [] [] pos) K7:=λpins s σ H Q I h=>
 wpAny_Dict_empty ⟨.ref s.heap.objs.size,_,I.laid (a:=s.heap.objs.size) (o:=.dT []) (t':=s.toks) (λ_ _ q=>bk6 _ q) (bk9 _) (au9 s.heap I.big),rfl,h _ (I.hok.fresh (bk9 _))⟩
end
def kT (kvs more:List (aD×V)):List (aD×V):=more.foldl (λacc kv=>dS acc kv.1 kv.2) kvs
theorem KV.merge:∀{more:List (aD×V)}{rs:List (aD×Value)}{kvs:List (aD×V)}{vs:List (aD×Value)},KV more rs->KV kvs vs->KV (kT kvs more) (merged vs rs):=by
 intro more rs kvs vs r
 unfold KV at r
 induction r generalizing kvs vs with
 |nil=>intro q;exact q
 |@cons p q ps qs h t ih=>
  intro r0
  have e:KV (dS kvs p.1 p.2) (stored vs q.1 q.2):=by
   have:=r0.put p.1 h.2
   rw[<- h.1];exact this
  exact ih e
theorem K8:∀(more kvs:List (aD×V)),(kT kvs more).length<=kvs.length+more.length
 |[],kvs=>by show kvs.length<=kvs.length+0;omega
 |p::r,kvs=>by
  have h1:=K8 r (dS kvs p.1 p.2)
  have h2:=vY kvs p.1 p.2
  show (kT (dS kvs p.1 p.2) r).length<=_
  rw[bo1];omega
structure M1 (X:Cx)(o:Expr)(m:Str)(apos:Pos)(e:Expr)(cpos:Pos):Prop where
 base:attributeBase o m X.env (eval o X.env)=eval o X.env
 few:((backTo cpos (starEach [e] X.env)).all (λx=>!x.1)&&(backToKw cpos (keywordEach [] X.env)).all (λx=>x.1.isSome)
 &&decide (([e]:List Expr).length+([]:List Keyword).length+(if ([]:List Keyword).isEmpty then 0 else 1)<30))=true
 line:(apos.endLine==cpos.line)=true
 trees:backTo cpos (starEach [e] X.env) = [(false,eval e X.env)]
structure M2 (X:Cx)(o:Expr)(m:Str)(apos:Pos)(e f:Expr)(cpos:Pos):Prop where
 base:attributeBase o m X.env (eval o X.env)=eval o X.env
 few:((backTo cpos (starEach [e,f] X.env)).all (λx=>!x.1)&&(backToKw cpos (keywordEach [] X.env)).all (λx=>x.1.isSome)
 &&decide (([e,f]:List Expr).length+([]:List Keyword).length+(if ([]:List Keyword).isEmpty then 0 else 1)<30))=true
 line:(apos.endLine==cpos.line)=true
 trees:backTo cpos (starEach [e,f] X.env) = [(false,eval e X.env),(false,eval f X.env)]
def K9 (H:Hp)(a:Addr):Prop:=(∃kvs,Rd H a (.dK kvs))∨∃kvs,Rd H a (.dT kvs)
theorem av2 {X:Cx}{pins:List (Addr×Obj)}{σ:St}{H:Hp}{s:Shared}{a:Addr}(I:a8 X pins σ H s)(d:K9 H a) :
  s.TypeIs (.ref a) "dict"/\(∀b,Value.ref a = .ref b->∃ob,s.heap.get? b=some ob/\ob.dict=none)/\(a==sysModules)=false:=by
 rcases d with⟨kvs,e⟩|⟨kvs,e⟩
 ·obtain⟨_,hd,vs,_,dd⟩:=o4 I.hok e
  refine⟨dd.typeIs,λb q=>?_,hd⟩
  cases q
  obtain⟨ob,_,_,h1,h2,_⟩:=dd
  exact⟨ob,h1,h2.2.1⟩
 ·obtain⟨_,hd,xs,_,dd⟩:=r9 I.hok e
  refine⟨dd.typeIs,λb q=>?_,hd⟩
  cases q
  obtain⟨ob,_,_,h1,h2,_⟩:=dd
  exact⟨ob,h1,h2.2.1⟩
end L2
namespace Att
open PySem PySem.W PySem.Calls PyProof.Rows
theorem av3 {P:Params}{h:Heap}:∀(ns:af) (vs:List Value),WellAll P h vs (ns.map WData.int)->IntsAre vs ns:=by
 intro ns
 induction ns with
 |nil=>
  intro vs w
  rw[List.map_nil]at w
  cases w
  exact .nil
 |cons n ns ih=>
  intro vs w
  rw[bp3]at w
  cases w with
  |cons a b=>
   cases a
   exact .cons _ _ (ih _ b)
theorem L0 {l:OpenLaw}{n:Nat}(hn:l.most=some n){P:Params}{h:Heap}{args:List WData}{vals:List Value}(hpre:l.row.toRowW.claim.pre args=true)(hwl:WellAll P h vals args) :
  ∃a vs ns,vals = [Value.ref a]/\args = [WData.list (ns.map WData.int)]/\h.get? a=some { cls:=.type "list",data:=.seq vs.toArray }/\IntsAre vs ns/\ns.length<=n:=by
 have hsh:WShape.hasAll [] args [.list .int]=true:=(pre_splitW hpre).1
 have hc:l.pre.holds [] { args:=args }=true:=(pre_splitW hpre).2
 obtain⟨d,r,rfl,h1,h2⟩:=hasAllW_cons hsh
 obtain rfl:=hasAllW_nil h2
 obtain⟨xs,rfl,h3⟩:=hasW_list h1
 obtain⟨ns,rfl⟩:=items_int h3
 have hlen:ns.length<=n:=by
  unfold OpenLaw.pre at hc
  have h4:(WTm.not (.lt (.lit (.int (n:Int))) (.len (.arg 0)))).holds [] { args:=[.list (ns.map .int)] }=true:=by
   have h4:=(holds_andW hc).1
   rw[hn]at h4
   exact h4
  have h5:=condW_of h4 (w_not (w_lt w_lit (w_len_list (w_arg rfl))))
  rw[bl1]at h5
  refine Nat.le_of_not_lt λq=>?_
  have q':(n:Int)<((ns.length:Nat):Int):=by omega
  first
   |(rw[bn0 q']at h5;exact absurd h5 (by decide))
   |(simp at h5;omega)
 cases hwl with
 |cons w1 w2=>
  cases w2
  cases w1 with
  |list ho hall=>exact⟨_,_,ns,rfl,rfl,ho,av3 ns _ hall,hlen⟩
theorem L1 (l:OpenLaw)(args:List WData):l.row.toRowW.claim.post args (.bool true) args=true:=
 postW_of (r:=l.row.toRowW) (X:=(true==true))
  (show WShape.has [] (.bool true) .bool=true by first|rfl|decide|simp[WShape.has,WShape.arms,WShape.armsAll])
  (show (WTm.eq .res (.lit (.bool true))).value [] { args:=args,res:=some (.bool true),after:=args }=some (.bool (true==true)) from w_eq_bool (w_res rfl) w_lit) rfl
theorem bk2 {l:OpenLaw}{n:Nat}{q:Program}{loose:List Str}{XP:(Str->Option Value)->Heap->Prop}{YP:World->Heap->Prop}{d:DefRec}{x:Str}(hn:l.most=some n)(hdf:d.params.defaults = [])(hbind:∀pm cd doc v:Value,bindArgs (docDef d.name d.params d.body d.scope pm cd doc) ⟨[v],[]⟩=pure [(x,v)])(hx:d.scope.names.lookup x=some .local∨d.scope.names.lookup x=some .cell)(hk:d.scope.kind = .function)(hco:d.scope.isCoroutine=false)(hgen:d.scope.isGenerator=false)(body:∀(w:World) (s₀ s₁ s:Shared) (mg mb:Str->Option Value) (fa:Addr) (o:Obj) (pm cd doc:Value) (a:Addr) (vs:List Value) (ns:af),
   Ground q loose [] XP w s₀ mg mb s₁.heap->YP w s₁.heap->
   s₁.heap.get? fa=some o->o.data = .func (docDef d.name d.params d.body d.scope pm cd doc)->s₁.heap.CodeRec cd d.name->mg d.name=some (.ref fa)->
   s₁.heap.get? a=some { cls:=.type "list",data:=.seq vs.toArray }->IntsAre vs ns->ns.length<=n->
   s.gens = #[]->s.os=s₁.os->
   Fr s₁.heap s₁.heap.objs.size s.heap (bindL (envOfC d.name d.scope s₁.heap.objs.size fa cd).kindOf [(x,.ref a)] λ_=>none)->
   Cl s₁.heap.objs.size (cellsFrom (s₁.heap.objs.size+1) d.scope.names []) s.heap (bindC (envOfC d.name d.scope s₁.heap.objs.size fa cd).kindOf [(x,.ref a)] λ_=>none)->
   wpAny (model l.prog w) (callerA.deeper (envOfC d.name d.scope s₁.heap.objs.size fa cd)) (execs d.body (envOfC d.name d.scope s₁.heap.objs.size fa cd))
    (λf s'=>f = .ret (.bool true)/\OldK s₁.heap s'.heap/\s'.os=s₁.os/\AllBare s'.gens) (λ_ _=>False) s) :
  WalkO q loose XP YP l.row.toRowW d [] (λf vs=>PySem.call f vs):=by
 intro w s₀ s₁ mg mb G Y fa o pm cd doc dV kV ho hd hcd hD hmg hg args vals as hpre hlay hrd hwl hlo
 obtain rfl:dV = .none:=Dflts.none hD hdf
 obtain rfl:kV = .none:=Dflts.noKw hD
 obtain⟨a,vs,ns,rfl,rfl,hobj,hints,hlen⟩:=L0 hn hpre hwl
 refine enter_call ?_
 refine call_cells_ret (o:=o) (by rw[depth_caller];decide) ho (fd_plain hd) G.T.nolimit hcd (hbind pm cd doc (.ref a)) (λy hy=>?_) (λh₁ tk F X=>?_) hco hgen hk
 ·obtain rfl:y=(x,Value.ref a):=bl3.mp hy
  rcases hx with e|e
  ·exact .inl e
  ·exact .inr ⟨e,cellsFrom_some _ _ _ (.inl e)⟩
 ·refine bs5 (body w s₀ s₁ { s₁ with heap:=h₁,toks:=tk } mg mb fa o pm cd doc a vs ns G Y ho (fd_plain hd) hcd hmg hobj hints hlen hg rfl F X) (λf s' hq=>?_) (λ_ _ hq=>hq)
  obtain⟨rfl,h2,h3,h4⟩:=hq
  exact⟨.inl ⟨.bool true,.bool true,[],rfl,λ_=>rfl,.bool true,L1 l _,λ_=>⟨List.Pairwise.nil,λ_ hm=>(nomatch hm)⟩⟩,h2,h3,h4⟩
theorem av4 {l:OpenLaw}{n:Nat}{q:Program}{loose:List Str}{XP:(Str->Option Value)->Heap->Prop}{YP:World->Heap->Prop}{d:DefRec}(hn:l.most=some n)(hdf:d.params.defaults = [])(call:∀(w:World) (s₀ s₁:Shared) (mg mb:Str->Option Value) (fa:Addr) (o:Obj) (pm cd doc:Value) (a:Addr) (vs:List Value) (ns:af),
   Ground q loose [] XP w s₀ mg mb s₁.heap->YP w s₁.heap->
   s₁.heap.get? fa=some o->o.data = .func (docDef d.name d.params d.body d.scope pm cd doc)->s₁.heap.CodeRec cd d.name->mg d.name=some (.ref fa)->
   s₁.heap.get? a=some { cls:=.type "list",data:=.seq vs.toArray }->IntsAre vs ns->ns.length<=n->s₁.gens = #[]->
   codeAny (model l.prog w) callerA (.call (.ref fa) ⟨[.ref a],[]⟩) (λr s'=>r = .ok (.ret (.bool true))/\OldK s₁.heap s'.heap/\s'.os=s₁.os/\AllBare s'.gens) s₁) :
  WalkO q loose XP YP l.row.toRowW d [] (λf vs=>PySem.call f vs):=by
 intro w s₀ s₁ mg mb G Y fa o pm cd doc dV kV ho hd hcd hD hmg hg args vals as hpre hlay hrd hwl hlo
 obtain rfl:dV = .none:=Dflts.none hD hdf
 obtain rfl:kV = .none:=Dflts.noKw hD
 obtain⟨a,vs,ns,rfl,rfl,hobj,hints,hlen⟩:=L0 hn hpre hwl
 refine enter_call (codeAny_mono (call w s₀ s₁ mg mb fa o pm cd doc a vs ns G Y ho (fd_plain hd) hcd hmg hobj hints hlen hg) λr s' hq=>?_)
 obtain⟨rfl,h2,h3,h4⟩:=hq
 exact⟨.inl ⟨.bool true,.bool true,[],rfl,λ_=>rfl,.bool true,L1 l _,λ_=>⟨List.Pairwise.nil,λ_ hm=>(nomatch hm)⟩⟩,h2,h3,h4⟩
end Att
namespace L2
open PySem PySem.Spec PyProof.Rows
theorem o7:∀{vs:List Value}{ns:af},IntsAre vs ns->aQ (ns.map V.int) vs
 |_,_,.nil=>.nil
 |_,_,.cons n t h=>.cons ⟨t,rfl⟩ (o7 h)
def rA (H:Hp):Prop:=∀b,H b=none∨∃o xs,H b=some (.frz o (.lst xs))
theorem av5 {P:Program}{w:World}{K:ac}{mg mb:Str->Option Value}{CX:gM}{k:Nat}{fa a:Addr}{fd:FuncData}{x:Str}{sp:Sp}{s₁:Shared}{vs:List Value}{ns:af}(KX:K.In s₁.heap)(hns:s₁.heap.Ns mainGlobals mg)(hb:s₁.heap.Ns builtinsNs mb)(hbb:∀x:Str,x≠"__name__"->mb x=bootBuiltins x)(hlim:s₁.heap.NoLimit)(hg:s₁.gens = #[])(ha:s₁.heap.get? a=some { cls:=.type "list",data:=.seq vs.toArray })(hi:IntsAre vs ns)(hl:ns.length<=sizeLine)(hr:bD k callerA)(F:∀base:Heap,K.In base->base.Ns mainGlobals mg->bQ P w K mg base CX k fa fd [x] sp)(hbind:∀(s:Shared) (u:Value),BindsTo s fd ⟨[u],[]⟩ [(x,u)])(hsp:∀H:Hp,rA H->aM K H a (ns.map V.int)->sp [.ref a] H (λv _=>v = .bl true) λ_ _ _=>False)(hCX:∀H e s',CX [] H s₁ (λ_ _ _=>False) e s'->False) :
  codeAny (model P w) callerA (.call (.ref fa) ⟨[.ref a],[]⟩) (λr s'=>r = .ok (.ret (.bool true))/\OldK s₁.heap s'.heap/\s'.os=s₁.os/\AllBare s'.gens) s₁:=by
 have rv:=o7 hi
 have lenV:=hi.length
 have core:∀H:Hp,rA H->aM K H a (ns.map V.int)->bV P w H s₁.heap->(∀b,H b≠none->b=a)->(H a≠none->K.lookup a=none)->
   codeAny (model P w) callerA (.call (.ref fa) ⟨[.ref a],[]⟩) (λr s'=>r = .ok (.ret (.bool true))/\OldK s₁.heap s'.heap/\s'.os=s₁.os/\AllBare s'.gens) s₁:=by
  intro H hO hS hok hA hK
  have base_of:∀{b:Addr}{o:Obj},s₁.heap.get? b=some o->H b=none->(iN s₁.heap H).get? b=some o:=λe n=>al2 e n
  have noA:∀{b:Addr}{o:Obj}{es:Array DictEntry}{ep:Nat},s₁.heap.get? b=some o->o.data = .dict es ep->H b=none:=λ{b o es ep} e d=>by
   cases q:H b with
   |none=>rfl
   |some u=>
    have e':b=a:=hA b (by rw[q];simp)
    subst e'
    rw[ha]at e;cases e
    have d':Data.seq vs.toArray _=Data.dict es ep:=d
    cases d'
  have nsK:∀{b:Addr}{m:Str->Option Value},s₁.heap.Ns b m->(iN s₁.heap H).Ns b m:=λ{b m} ⟨o,es,ep,e,d,r⟩=>⟨o,es,ep,base_of e (noA e d),d,r⟩
  have hKb:K.In (iN s₁.heap H):=λb o e=>base_of (KX b o e) (by
   cases q:H b with
   |none=>rfl
   |some u=>
    have e':b=a:=hA b (by rw[q];simp)
    subst e'
    rw[hK (by rw[q];simp)]at e;cases e)
  have hM:Mod K mg (iN s₁.heap H):=⟨hKb,nsK hns,⟨mb,nsK hb,hbb⟩,let ⟨mc,h1,h2⟩:=hlim;⟨mc,nsK h1,h2⟩⟩
  have e0:kS P w K mg (iN s₁.heap H) callerA [] s₁ H:=⟨rfl,hM,λb o e=>al3 e,Nat.le_of_eq (al1 _ _),trivial,λb hb=>absurd (show b∈([]:List Addr) from hb) (by simp),hok,.of_eq hg⟩
  refine codeAny_mono ((F _ hKb (nsK hns)).run callerA [] s₁ H ⟨[.ref a],[]⟩ [.ref a] [.ref a] _ _ hr e0 (hbind s₁ (.ref a)) (.cons rfl .nil) (hsp H hO hS)) λr s' h=>?_
  cases r with
  |error e=>exact (hCX H e s' h).elim
  |ok fl=>
   cases fl with
   |next=>exact False.elim h
   |brk=>exact False.elim h
   |cont=>exact False.elim h
   |ret u=>
    obtain⟨v,H',os,bare,un,hok',r',q⟩:=h
    have q':v = .bl true:=q
    subst q'
    obtain rfl:u=Value.bool true:=r'
    refine⟨rfl,OldK.of_keep λb o e=>?_,os,bare⟩
    cases q:H b with
    |none=>exact un.keep b o e q (by intro z;exact absurd (show b∈([]:List Addr) from z) (by simp)) (by simp)
    |some u=>
     rcases hO b with z|⟨ob,xs,z⟩
     ·rw[q]at z;cases z
     ·have z2:=un.frzs b ob _ z
      obtain⟨e1,_⟩:=hok b _ z
      obtain⟨e2,_⟩:=hok' b _ z2
      rw[e]at e1;cases e1
      exact e2
 cases hk:K.lookup a with
 |some o=>
  have e:=KX a o hk
  rw[ha]at e
  cases e
  refine core (λ_=>none) (λ_=>.inl rfl) (.inr ⟨_,vs.toArray,_,hk,rfl,rfl,rfl,by rw[bk7,lenV];exact hl,by simpa using rv⟩) (λb u z=>by have z':(none:Option HO)=some u:=z;cases z') (λb z=>absurd rfl z) λz=>absurd rfl z
 |none=>
  refine core (λb=>if b=a then some (.frz { cls:=.type "list",data:=.seq vs.toArray } (.lst (ns.map V.int))) else none) (λb=>?_) (.inl (.inr ⟨{ cls:=.type "list",data:=.seq vs.toArray },if_pos rfl⟩)) (λb u z=>?_) (λb z=>?_) λ_=>hk
  ·by_cases hb:b=a
   ·exact .inr ⟨_,_,if_pos hb⟩
   ·exact .inl (if_neg hb)
  ·by_cases hb:b=a
   ·have z':=(if_pos hb).symm.trans z
    cases z'
    subst hb
    exact⟨ha,by rw[bl1];exact hl,vs,_,rv,ha⟩
   ·have z':=(if_neg hb).symm.trans z
    cases z'
  ·by_cases hb:b=a
   ·exact hb
   ·exact absurd (if_neg hb) z
theorem av6 {l:PySem.W.OpenLaw}{n k:Nat}{q:Program}{loose:List Str}{XP:(Str->Option Value)->Heap->Prop}{YP:World->Heap->Prop}{d:DefRec}{K:Params->ac}{CX:World->gM}{sp:World->Sp}{x:Str}(hn:l.most=some n)(hn2:n<=sizeLine)(hdf:d.params.defaults = [])(hr:bD k callerA)(hY:∀(w:World) (h:Heap),YP w h->(K w.params).In h)(F:∀(w:World) (mg:Str->Option Value) (fa:Addr) (h:Heap),(K w.params).In h->h.Ns mainGlobals mg->mg d.name=some (.ref fa)->
   ∃fd:FuncData,(∀(s:Shared) (u:Value),BindsTo s fd ⟨[u],[]⟩ [(x,u)])/\
    ∀base:Heap,(K w.params).In base->base.Ns mainGlobals mg->bQ l.prog w (K w.params) mg base (CX w) k fa fd [x] (sp w))(hsp:∀(w:World) (H:Hp) (a:Addr) (ns:af),ns.length<=n->rA H->aM (K w.params) H a (ns.map V.int)->sp w [.ref a] H (λv _=>v = .bl true) λ_ _ _=>False)(hCX:∀(w:World) (H:Hp) (s:Shared) (e:Value) (s':Shared),CX w [] H s (λ_ _ _=>False) e s'->False) :
  PySem.W.WalkO q loose XP YP l.row.toRowW d [] (λf vs=>PySem.call f vs):=by
 refine Att.av4 hn hdf λw s₀ s₁ mg mb fa o pm cd doc a vs ns G Y ho hd hcd hmg hobj hints hlen hg=>?_
 have KX:=hY w _ Y
 obtain⟨fd,hb,hF⟩:=F w mg fa _ KX G.T.g hmg
 exact av5 KX G.T.g G.T.b G.T.builtins G.T.nolimit hg hobj hints (bo3 hlen hn2) hr hF hb (λH hO hS=>hsp w H a ns hlen hO hS) λH e s'=>hCX w H s₁ e s'
def e9 (s:Stmt):Arguments:=match s with
 |.FunctionDef _ a _ _ _ _ _ _ _ _=>a
 |_=>{ posonlyargs:=[],args:=[],vararg:=none,kwonlyargs:=[],kw_defaults:=[],kwarg:=none,defaults:=[] }
def cI (s:Stmt):List Stmt:=match s with
 |.FunctionDef _ _ b _ _ _ _ _ _ _=>b
 |_=>[]
def aN (s:Stmt):Scope:=match s with
 |.FunctionDef _ _ _ _ _ _ sc _ _ _=>sc
 |_=>{ kind:=.function,names:=[],isGenerator:=false,isCoroutine:=false }
abbrev eB:gM:=λ_ _ _ _ _ _=>False
abbrev E0:XK:=λ_ _ _=>False
theorem av7 {X:Cx}:gN eB X E0:=λ_ _ _ _ _ _ _ h=>h.elim
structure cP (K:ac)(x qual:Str)(st:Stmt)(f:Addr)(fd:FuncData):Prop where
 ex:∃(oc:Value) (od:Option Addr) (kV doc pm:Value) (an:Option Addr) (cdv ct:Value) (osl:Array (Option Value)),
  fd=PySem.W.fnOf x qual (e9 st) (cI st) (aN st) .none kV doc pm an cdv ct/\K.lookup f=some ⟨oc,od,.func fd,osl⟩/\PySem.W.codeIn K cdv qual=true
 kp:PySem.W.keepIn K (.ref f)=true
section
variable {P:Program}{w:World}{K:ac}{mg:Str→Option Value}{base:Heap}
theorem cP.ok {x qual:Str}{st:Stmt}{f:Addr}{fd:FuncData}{N ps:List Str}{k:Nat}{sp:Sp}(F:cP K x qual st f fd)(S:FnScope N ps (aN st))(len:∀vs H Q E,sp vs H Q E->vs.length=ps.length)(hbody:∀(cdv:Value) (A:Around) (outer:List Env) (s:Shared) (H:Hp) (vs:List V) (Q:VK) (E:XK),bD k (A.deeper (envOfC qual (aN st) s.heap.objs.size f cdv))->sp vs H Q E->
   ∃t,dB (cC eB P w K mg base N qual (aN st) f cdv A outer s H E).nox (cI st) t/\t { nx:=λ_ H'=>Q .non H',rt:=Q } (eV N vs) H):bQ P w K mg base eB (k+1) f fd ps sp:=by
 obtain⟨oc,od,kV,doc,pm,an,cdv,ct,osl,rfl,lk,hcd⟩:=F.ex
 refine G0 lk hcd S len λA outer s H vs Q E hr hsp=>?_
 obtain⟨t,h,q⟩:=hbody cdv A outer s H vs Q E hr hsp
 exact⟨t,h.nox,q⟩
theorem cP.binds {x qual:Str}{st:Stmt}{f:Addr}{fd:FuncData}{ps:List Str}(F:cP K x qual st f fd)(h:∀(kV doc pm:Value) (an:Option Addr) (cdv ct:Value) (us:List Value),us.length=ps.length->bindArgs (PySem.W.fnOf x qual (e9 st) (cI st) (aN st) .none kV doc pm an cdv ct) ⟨us,[]⟩=pure (ps.zip us)):dJ K fd ps []:=by
 obtain⟨oc,od,kV,doc,pm,an,cdv,ct,osl,rfl,lk,hcd⟩:=F.ex
 exact .all (h kV doc pm an cdv ct)
theorem iT {x qual:Str}{st:Stmt}{f:Addr}{oc:Value}{od an:Option Addr}{osl:Array (Option Value)}{kV doc pm cdv ct:Value}(l:K.lookup f=some ⟨oc,od,.func (PySem.W.fnOf x qual (e9 st) (cI st) (aN st) .none kV doc pm an cdv ct),osl⟩)(c:PySem.W.codeIn K cdv qual=true)(k:PySem.W.keepIn K (.ref f)=true):cP K x qual st f (PySem.W.fnOf x qual (e9 st) (cI st) (aN st) .none kV doc pm an cdv ct):=⟨⟨oc,od,kV,doc,pm,an,cdv,ct,osl,rfl,l,c⟩,k⟩
end
theorem kU {A:Around}{k:Nat}(hr:bD k A):A.units+1<cLine:=Nat.lt_of_le_of_lt (Nat.add_le_add_left (by decide:1<=64) _) hr.units
theorem o8 {n:Nat}(h:n<=1000):n<sizeLine:=Nat.lt_of_le_of_lt h (by decide)
section
variable {X:Cx}
theorem pv (i:Nat){x:Str}{pos:Pos}(hN:X.N[i]? = some x:=by rfl)(hv:cS X.env.scope x:=by first|exact Or.inl rfl|exact Or.inr (Or.inl rfl)|exact Or.inr (Or.inr rfl))(hd:(x==("__debug__":Str))=false:=by decide)(hcd:(x==("__classdict__":Str))=false:=by decide):PE X (.Name x pos) (dQ i):=dC hN hv hd hcd
theorem av8:cH X (.builtin "len") (λxs H Q=>∃a kvs,xs = [V.ref a]/\H a=some (.dK kvs)/\Q (.int kvs.length) H):=by
 intro pins s σ H xs us Q I r h
 obtain⟨a,kvs,rfl,ha,q⟩:=h
 obtain⟨u,rfl,ru⟩:=fM r
 cases ru
 exact au6 I (.inl ha) λt s' I'=>⟨.int kvs.length,H,I',⟨t,rfl⟩,q⟩
end
theorem aP {A B:Prop}(h:B):if false=true then A else B:=by
 rw[if_neg bm6]
 exact h
theorem b7 {A B:Prop}(h:A):if true=true then A else B:=by
 rw[if_pos rfl]
 exact h
def aB (H H':Hp):Prop:=∀b o,H b=some o->H' b=some o
theorem aB.refl (H:Hp):aB H H:=λ_ _ h=>h
theorem aB.trans {H H1 H2:Hp}(a:aB H H1)(b:aB H1 H2):aB H H2:=λc o h=>b c o (a c o h)
theorem aB.free {H H':Hp}(e:aB H H'){l:Addr}(h:H' l=Option.none):H l=Option.none:=by
 cases q:H l with
 |none=>rfl
 |some o=>
  rw[e l o q]at h
  cases h
theorem aB.seq {K:ac}{H H':Hp}{a:Addr}{xs:List V}(e:aB H H')(h:aM K H a xs):aM K H' a xs:=by
 rcases h with (h|⟨o,h⟩)|h
 ·exact .inl (.inl (e _ _ h))
 ·exact .inl (.inr ⟨o,e _ _ h⟩)
 ·exact .inr h
def eJ (cells:List (Str×Addr)):List (Str×NameKind)->List (Str×Addr)->List (Str×Addr)
 |[],cs=>cs
 |(n,k)::r,cs=>eJ cells r (if k==.free then (n,(cells.lookup n).getD 0)::cs else cs)
theorem w6 {env:Env}:∀(ns:List (Str×NameKind)) (cs:List (Str×Addr)),(∀x∈ns,x.2 = .free->∃c,env.cells.lookup x.1=some c)->
  (forIn ns cs (λ(x:Str×NameKind) r=>(match x with
   |(name,kind)=>if (kind==.free)=true then (do let y <- cellOf env name;pure (ForInStep.yield ((name,y)::r))) else pure (ForInStep.yield r)):_->_->Sem _))=(pure (eJ env.cells ns cs):Sem (List (Str×Addr)))
 |[],cs,_=>by rw[List.forIn_nil];rfl
 |(n,k)::r,cs,h=>by
  rw[List.forIn_cons]
  have hr:∀x∈r,x.2 = .free->∃c,env.cells.lookup x.1=some c:=λx hx=>h x (bm9 _ hx)
  cases hk:(k==NameKind.free) with
  |true=>
   have e:k = .free:=by simpa using hk
   obtain⟨c,hc⟩:=h (n,k) bm8 e
   simp only[hk,if_true]
   have e1:cellOf env n=pure c:=by unfold cellOf;rw[hc]
   rw[e1]
   show ((pure c >>= λy=>pure (ForInStep.yield ((n,y)::cs))) >>= _:Sem _)=_
   rw[pure_bind,pure_bind]
   have:=w6 (env:=env) r ((n,c)::cs) hr
   refine this.trans ?_
   unfold eJ
   simp only[hk,if_true,hc,Option.getD_some]
   cases r<;>rfl
  |false=>
   simp only[hk,bn5,bs8]
   rw[pure_bind]
   have:=w6 (env:=env) r cs hr
   refine this.trans ?_
   conv=>rhs;unfold eJ
   simp only[hk,bn5,bs8]
theorem w9 {scope:Scope}{env:Env}(h:∀x∈scope.names,x.2 = .free->∃c,env.cells.lookup x.1=some c):closureFor scope env=pure (eJ env.cells scope.names []):=by
 have e:=w6 (env:=env) scope.names [] h
 unfold closureFor
 rw[show (pure (eJ env.cells scope.names []):Sem (List (Str×Addr)))=(pure (eJ env.cells scope.names []) >>= pure) by rw[pure_bind]]
 rw[<- e]
theorem rB {cells:List (Str×Addr)}:∀(ns:List (Str×NameKind)) (cs:List (Str×Addr)) {x:Str}{c:Addr},(∀y∈ns,y.2 = .free->∃c,cells.lookup y.1=some c)->
  (∀x c,cs.lookup x=some c->cells.lookup x=some c)->(eJ cells ns cs).lookup x=some c->cells.lookup x=some c
 |[],cs,x,c,_,hc,h=>hc x c h
 |(n,k)::r,cs,x,c,hn,hc,h=>by
  unfold eJ at h
  have hr:∀y∈r,y.2 = .free->∃c,cells.lookup y.1=some c:=λy hy=>hn y (bm9 _ hy)
  cases hk:(k==NameKind.free) with
  |false=>
   simp only[hk,bn5,bs8]at h
   exact rB r cs hr hc h
  |true=>
   simp only[hk,if_true]at h
   refine rB r _ hr (λy d e=>?_) h
   obtain⟨c0,h0⟩:=hn (n,k) bm8 (by simpa using hk)
   have h0:cells.lookup n=some c0:=h0
   rw[h0]at e
   rw[bp8]at e
   by_cases hyn:y=n
   ·subst hyn
    simp only[bs3,Option.getD_some]at e
    rw[h0];exact e
   ·have:(y==n)=false:=bs4.mpr hyn
    simp only[this]at e
    exact hc y d e
theorem wA {cells:List (Str×Addr)}:∀(ns:List (Str×NameKind)) (cs:List (Str×Addr)) {x:Str},((x,NameKind.free)∈ns∨∃c,cs.lookup x=some c)->∃c,(eJ cells ns cs).lookup x=some c
 |[],cs,x,h=>by
  rcases h with h|h
  ·simp at h
  ·exact h
 |(n,k)::r,cs,x,h=>by
  unfold eJ
  refine wA r _ ?_
  rcases h with h|⟨c,h⟩
  ·rcases bl2.mp h with e|e
   ·cases e
    exact .inr ⟨_,by simp[bp8];rfl⟩
   ·exact .inl e
  ·right
   cases hk:(k==NameKind.free) with
   |false=>exact⟨c,by simpa[hk] using h⟩
   |true=>
    simp only[if_true]
    rw[bp8]
    by_cases hxn:(x==n)=true
    ·simp only[hxn];exact⟨_,rfl⟩
    ·simp only[Bool.eq_false_iff.mpr hxn];exact⟨c,h⟩
theorem rC {env:Env}:∀{names:List (Str×NameKind)}{x:Str}{k:NameKind},(names.map λ(n,k)=>if (k==NameKind.free&&env.scope.kind==.function&&env.kindOf n==some .cell) then (n,NameKind.cell) else (n,k)).lookup x=some k->
  names.lookup x=some k∨(names.lookup x=some .free/\k = .cell)
 |[],_,_,h=>by simp at h
 |(n,q)::r,x,k,h=>by
  have ih:=@rC env r x k
  rw[bp3]at h
  by_cases hx:(x==n)=true
  ·have e:x=n:=by simpa using hx
   subst e
   by_cases hc:(q==NameKind.free&&env.scope.kind==.function&&env.kindOf x==some .cell)=true
   ·simp only[hc,if_true,bp8,bs3]at h
    have hq:q = .free:=by simp at hc;exact hc.1.1
    exact .inr ⟨by simp[bp8,hq],(bl6 h).symm⟩
   ·simp only[hc,bn5,bs8,bp8,bs3]at h
    exact .inl (by simp[bp8];exact bl6 h)
  ·have hx':(x==n)=false:=Bool.eq_false_iff.mpr hx
   have h':(r.map λ(n,k)=>if (k==NameKind.free&&env.scope.kind==.function&&env.kindOf n==some .cell) then (n,NameKind.cell) else (n,k)).lookup x=some k:=by
    by_cases hc:(q==NameKind.free&&env.scope.kind==.function&&env.kindOf n==some .cell)=true
    ·simp only[hc,if_true,bp8,hx']at h;exact h
    ·simp only[hc,bn5,bs8,bp8,hx']at h;exact h
   simp only[bp8,hx']
   exact ih h'
def fP (fr:List (Option Nat))(σ:St):St:=fr.map λo=>o.bind λj=>(σ[j]?).join
def Wk (σ₁ σ₂:St):Prop:=σ₁.length=σ₂.length/\∀(i:Nat) v,σ₁[i]? = some (some v)->σ₂[i]? = some (some v)
theorem Wk.refl (σ:St):Wk σ σ:=⟨rfl,λ_ _ h=>h⟩
theorem Wk.set {σ τ:St}{i:Nat}{v:V}(h:Wk σ τ)(hi:σ[i]? = some none):Wk σ (τ.set i (some v)):=by
 refine⟨by rw[bq8];exact h.1,λj w e=>?_⟩
 by_cases hj:j=i
 ·subst hj;rw[hi]at e;cases e
 ·rw[bn2 (Ne.symm hj)];exact h.2 j w e
theorem iU:∀(ns:List (Str×NameKind)) (n:Nat) (cs:List (Str×Addr)),cellsFrom n ns cs=cellsFrom n ns []++cs
 |[],_,_=>rfl
 |(x,k)::r,n,cs=>by
  unfold cellsFrom
  split
  ·rw[iU r (n+1) ((x,n)::cs),iU r (n+1) [(x,n)]];simp
  ·exact iU r n cs
theorem wB:∀(ns:List (Str×NameKind)) (n:Nat) {x:Str}{c:Addr},(x,c)∈cellsFrom n ns []->(x,NameKind.cell)∈ns
 |[],_,_,_,h=>by simp[cellsFrom]at h
 |(y,k)::r,n,x,c,h=>by
  unfold cellsFrom at h
  split at h
  ·rename_i hk
   rw[iU]at h
   rcases bn9.mp h with z|z
   ·exact bm9 _ (wB r _ z)
   ·rw[bl3]at z
    cases z
    have:k = .cell:=by simpa using hk
    rw[this];exact bm8
  ·exact bm9 _ (wB r _ h)
theorem rD:∀(ns:List (Str×NameKind)) (n:Nat) {x:Str},(x,NameKind.cell)∈ns->∃c,(x,c)∈cellsFrom n ns []
 |(y,k)::r,n,x,h=>by
  unfold cellsFrom
  rcases bl2.mp h with z|z
  ·cases z
   rw[if_pos (by rfl),iU]
   exact⟨n,bo5 _ (by simp)⟩
  ·split
   ·obtain⟨c,hc⟩:=rD r (n+1) z
    rw[iU]
    exact⟨c,bt9 _ hc⟩
   ·exact rD r n z
theorem wC {α:Type}:∀{l:List (Str×α)}{x:Str}{c:α},(x,c)∈l->∃d,l.lookup x=some d
 |(y,v)::r,x,c,h=>by
  rw[bp8]
  cases hb:x==y with
  |true=>exact⟨v,rfl⟩
  |false=>
   rcases bl2.mp h with z|z
   ·cases z;simp at hb
   ·exact wC z
theorem rE {α:Type}{x:Str}:∀(l r:List (Str×α)),(l++r).lookup x=(match l.lookup x with|some v=>some v|none=>r.lookup x)
 |[],_=>rfl
 |(y,v)::l,r=>by
  rw[List.cons_append,bp8,bp8]
  cases hb:x==y with
  |true=>rfl
  |false=>exact rE l r
def gO (X:Cx)(scope:Scope)(C:Addr):List (Str×Addr):=cellsFrom (C+1) scope.names (eJ X.env.cells scope.names [])
theorem kW {X:Cx}{scope:Scope}{C:Addr}{x:Str}{c:Addr}(h:(gO X scope C).lookup x=some c) :
  (x,c)∈cellsFrom (C+1) scope.names []∨((∀d,(x,d)∉cellsFrom (C+1) scope.names [])/\(eJ X.env.cells scope.names []).lookup x=some c):=by
 unfold gO at h
 rw[iU,rE]at h
 cases e:(cellsFrom (C+1) scope.names []).lookup x with
 |some v=>rw[e]at h;cases h;exact .inl (bp5 e)
 |none=>
  rw[e]at h
  refine .inr ⟨λd hd=>?_,h⟩
  obtain⟨d',z⟩:=wC hd
  rw[e]at z;cases z
theorem av9 {X:Cx}{scope:Scope}{C:Addr}{x:Str}{c:Addr}(hn:(x,NameKind.cell)∉scope.names)(h:(eJ X.env.cells scope.names []).lookup x=some c):(gO X scope C).lookup x=some c:=by
 unfold gO
 rw[iU,rE]
 cases e:(cellsFrom (C+1) scope.names []).lookup x with
 |some v=>exact absurd (wB _ _ (bp5 e)) hn
 |none=>exact h
theorem L3 {X:Cx}{scope:Scope}{C:Addr}{x:Str}(h:(x,NameKind.cell)∈scope.names∨∃c,(eJ X.env.cells scope.names []).lookup x=some c):∃c,(gO X scope C).lookup x=some c:=by
 unfold gO
 rw[iU,rE]
 cases e:(cellsFrom (C+1) scope.names []).lookup x with
 |some v=>exact⟨v,rfl⟩
 |none=>
  rcases h with h|h
  ·obtain⟨c,hc⟩:=rD scope.names (C+1) h
   obtain⟨d,hd⟩:=wC hc
   rw[e]at hd;cases hd
  ·exact h
def dL (X:Cx)(scope:Scope)(N:List Str)(s:Shared)(H:Hp)(C:Addr)(fp:List Addr)(E:Value->Shared->Prop):Cx:=
 { X with N:=N,s₀:=s,H₀:=H,env:=compEnvC scope (gO X scope C) C X.env,outer:=X.stack,ex:=fp,fn:=λx=>scope.names.lookup x==some .cell,pn:=[],xe:=E }
structure eW (X:Cx)(scope:Scope)(N:List Str)(fr:List (Option Nat)):Prop where
 kind:scope.kind = .function
 own:∀y∈scope.names,y.2 = .cell->scope.names.lookup y.1=some .cell
 names:∀y∈scope.names,y.2 = .local->scope.names.lookup y.1=some .local
 free:∀y∈scope.names,y.2 = .free->X.env.scope.names.lookup y.1=some .cell∨X.env.scope.names.lookup y.1=some .free
 len:fr.length=N.length
 from_:∀(i j:Nat),fr[i]? = some (some j)->∃x,N[i]? = some x/\X.N[j]? = some x/\scope.names.lookup x=some .free
section
variable {X:Cx}{pins:List (Addr×Obj)}{σ:St}{H:Hp}{s:Shared}{scope:Scope}{N:List Str}{fr:List (Option Nat)}
theorem eW.cells (S:eW X scope N fr)(I:a8 X pins σ H s):∀y∈scope.names,y.2 = .free->∃c,X.env.cells.lookup y.1=some c:=λy hy hk=>I.ok.has y.1 (S.free y hy hk)
theorem aw0 {C D:Addr}{fp:List Addr}{E:Value->Shared->Prop}{h1:Heap}{tk:Nat}{m:Str->Option Value}(S:eW X scope N fr)(I:a8 X pins σ H s)(hf:∀b∈fp,gK X pins H b)(hfl:∀b∈fp,b<s.heap.objs.size)(hD:s.heap.objs.size<=D)(hC:s.heap.objs.size<=C)(hDC:D<C)(old:∀b o,s.heap.get? b=some o->h1.get? b=some o)(hns:h1.Ns C m)(hacc:h1.get? D=some { cls:=.type "list",data:=.seq #[] 0 })(hco:CellsOk h1 (C+1) (cellsFrom (C+1) scope.names [])) :
  a8 (dL X scope N s H C fp E) [] (fP fr σ) (upd H D (.lst [])) { s with heap:=h1,toks:=tk }:=by
 have hHD:H D=none:=I.hok.fresh hD
 have cl:=S.cells I
 have cs:∀{x:Str}{c:Addr},(eJ X.env.cells scope.names []).lookup x=some c->X.env.cells.lookup x=some c:=λ{x c} h=>rB scope.names [] cl (λ_ _ z=>by simp at z) h
 have clt:∀{x:Str}{c:Addr},X.env.cells.lookup x=some c->c<s.heap.objs.size:=λ{x c} h=>by obtain⟨v,z⟩:=I.cell x c h;exact z.lt
 have nge:∀{x:Str}{c:Addr},(x,c)∈cellsFrom (C+1) scope.names []->C<c:=λ{x c} h=>(hco.empty x c h).2
 refine⟨⟨I.ok.mod,?_,I.ok.glob,I.ok.blt,hC,?_,?_,?_,I.ok.hd,I.ok.frames,.inl rfl,?_,I.bs,bo3 I.ok.bsz I.sz,?_,?_,I.stack,I.stkFree⟩,rfl,I.bare,Un.laid old hD hHD,⟨m,hns,?_⟩,?_,?_,?_,λp hp=>absurd (show p∈([]:List (Addr×Obj)) from hp) (by simp),?_,?_⟩
 ·exact S.kind
 ·intro x y c h1 h2
  rcases kW h1 with a|⟨_,a⟩<;>rcases kW h2 with b|⟨_,b⟩
  ·exact name_of_addr hco.apart a b
  ·exact absurd (bm5 (Nat.lt_trans (nge a) (clt (cs b))) hC) (br2 _)
  ·exact absurd (bm5 (Nat.lt_trans (nge b) (clt (cs a))) hC) (br2 _)
  ·exact I.ok.inj x y c (cs a) (cs b)
 ·intro x hx
  have hx:(relabel scope X.env).names.lookup x=some .cell∨(relabel scope X.env).names.lookup x=some .free:=hx
  have fin:(x,NameKind.free)∈scope.names->∃c,(gO X scope C).lookup x=some c:=λz=>L3 (.inr (wA scope.names [] (.inl z)))
  rcases hx with hx|hx
  ·rcases rC hx with z|z
   ·exact L3 (.inl (bp5 z))
   ·exact fin (bp5 z.1)
  ·rcases rC hx with z|z
   ·exact fin (bp5 z)
   ·exact absurd z.2 (by decide)
 ·intro x c hx h
  have hx:(scope.names.lookup x==some NameKind.cell)=true:=hx
  have hx:scope.names.lookup x=some .cell:=by simpa using hx
  rcases kW h with a|⟨a,_⟩
  ·exact bo3 hC (br0 (nge a))
  ·obtain⟨d,hd⟩:=rD scope.names (C+1) (bp5 hx)
   exact absurd hd (a d)
 ·intro b hb
  refine⟨bn6 (bm5 (hfl b hb) hC),λx c e=>?_⟩
  rcases kW e with a|⟨_,a⟩
  ·exact bs6 (Nat.lt_trans (bm5 (hfl b hb) hC) (nge a))
  ·exact (hf b hb).2.2.2.2.1 x c (cs a)
 ·intro b o e hb
  rcases (hf b hb).2.2.2.1 with z|z
  ·exact I.ok.noex b o e z
  ·exact absurd (bm5 (bl8 e) (bo3 I.ok.bsz z)) (br2 _)
 ·intro b hb z
  rcases bl2.mp (I.stkSub b z) with e|e
  ·exact (hf b hb).2.1 e
  ·exact (hf b hb).2.2.1 e
 ·intro i x v e1 e2 e3
  have e2:(fr.map λo=>o.bind λj=>(σ[j]?).join)[i]? = some (some v):=e2
  rw[bm7]at e2
  cases ef:fr[i]? with
  |none=>rw[ef]at e2;cases e2
  |some o=>
   rw[ef]at e2
   cases o with
   |none=>cases e2
   |some j=>
    have e2:some ((σ[j]?).join)=some (some v):=e2
    have ej:σ[j]? = some (some v):=by
     cases q:σ[j]? with
     |none=>rw[q]at e2;cases e2
     |some w=>rw[q]at e2;cases w with
      |none=>cases e2
      |some w=>cases e2;rfl
    obtain⟨y,a1,a2,a4⟩:=S.from_ i j ef
    have e1:N[i]? = some x:=e1
    rw[e1]at a1
    cases a1
    have a3:(x,NameKind.free)∈scope.names:=bp5 a4
    have vis:cS X.env.scope x:=(S.free _ a3 rfl).elim (λz=>.inr (.inl z)) λz=>.inr (.inr z)
    obtain⟨m0,hn0,hl0⟩:=I.loc
    obtain⟨u,r,l⟩:=hl0 j x v a2 ej vis
    refine⟨u,r,.inr ⟨?_,?_⟩⟩
    ·have e3:(relabel scope X.env).names.lookup x=some .local∨(relabel scope X.env).names.lookup x=some .cell∨(relabel scope X.env).names.lookup x=some .free:=e3
     rcases e3 with z|z|z
     ·rcases rC z with y|y
      ·rw[a4]at y;cases y
      ·exact absurd y.2 (by decide)
     ·exact .inl z
     ·exact .inr z
    ·obtain⟨c,hc⟩:=wA (cells:=X.env.cells) scope.names [] (x:=x) (.inl a3)
     refine⟨c,av9 (λz=>by have:=S.own _ z rfl;rw[a4]at this;cases this) hc,?_⟩
     have hc':=cs hc
     have S1:=S.free (x,.free) a3 rfl
     rcases l with⟨k,_⟩|⟨_,c2,hc2,z⟩
     ·have k:X.env.scope.names.lookup x=some .local:=k
      rcases S1 with q|q<;>(have q:X.env.scope.names.lookup x=_:=q;rw[k]at q;cases q)
     ·rw[hc']at hc2;cases hc2
      obtain⟨oc,ho,hd⟩:=z
      exact⟨oc,old c oc ho,hd⟩
 ·intro x c e
  rcases kW e with a|⟨_,a⟩
  ·exact⟨_,(hco.empty x c a).1⟩
  ·obtain⟨v,oc,ho,hd⟩:=I.cell x c (cs a)
   exact⟨v,oc,old c oc ho,hd⟩
 ·show upd H D (.lst []) C=none
  rw[aF (bs6 hDC)];exact I.hok.fresh hC
 ·intro x c e
  show upd H D (.lst []) c=none
  rcases kW e with a|⟨_,a⟩
  ·rw[aF (bs6 (Nat.lt_trans hDC (nge a)))];exact I.hok.fresh (bo3 hC (br0 (nge a)))
  ·have q:=cs a
   rw[aF (bn6 (bm5 (clt q) hD))]
   exact I.freeC x c q
 ·exact I.hok.laid old hD ⟨bo0 _,[],0,.nil,hacc⟩
 ·show (fP fr σ).length=N.length
  unfold fP;rw[bl1];exact S.len
end
def kX (X:Cx)(ifs:List Expr)(t:TT):Prop:=
 ∀(pins:List (Addr×Obj)) (s:Shared) (σ:St) (H:Hp) (Q:Bool->Hp->Prop),a8 X pins σ H s->t σ H Q->
  wpAny (model X.prog X.w) X.A (forIn ifs true λc r=>if r=true then do let ok <- isTrue c X.env (eval c X.env);pure (ForInStep.yield ok) else pure (ForInStep.yield r)) (TP X pins σ Q) X.xe s
def wD:TT:=λ_ H Q=>Q true H
theorem rF {X:Cx}:kX X [] wD:=λ_ _ _ H _ I h=>wpAny_tests_nil ⟨H,I,h⟩
theorem aw1 {X:Cx}{c:Expr}{t:TT}(h:PT X c t):kX X [c] t:=λpins s σ H Q I hq=>wpAny_tests_one (h pins s σ H Q I hq)
section
variable {prog:Program}{w:World}{A:Around}
def wE (prog:Program)(w:World)(A:Around)(elt tg:Expr)(ifs:List Expr)(it acc:Value)(env:Env)(lost:Value->Shared->Prop)(stop next:Shared->Prop)(s:Shared):Prop:=
 let M:=model prog w
 let tests:Sem Bool:=forIn ifs true λc r=>if r=true then do let ok <- isTrue c env (eval c env);pure (ForInStep.yield ok) else pure (ForInStep.yield r)
 let put:Shared->Prop:=wpAny M A (eval elt env) (λx=>wpAny M A (call (.builtin "list.append") [acc,x]) (λ_=>next) lost) lost
 let taken:Value->Shared->Prop:=λv=>wpAny M A (letOwnedTupleGo tg it v) (λ_=>wpAny M A (assign tg env v) (λ_=>wpAny M A tests (λok s'=>if ok=true then put s' else next s') lost) lost) lost
 wpAny M A (pyNext it) (λr s'=>match r with
  |none=>stop s'
  |some v=>taken v s') lost s
theorem aw2 {R:Result->Shared->Prop}{s:Shared}{elt tg iter:Expr}{ifs:List Expr}{scope:Scope}{pos:Pos}{it acc:Value}{env:Env}(I:Nat->Shared->Prop)(turn:∀n s,I n s->wE prog w A elt tg ifs it acc env (notedBy (model prog w) A env λe=>R (.error e)) (R (.ok .next)) (λs'=>∃m,m<n/\I m s') s)(n:Nat)(h:I n s) :
  codeAny (model prog w) A (.compLoop (.ListComp elt [⟨tg,iter,ifs,0⟩] scope pos) 0 it acc env) R s:=by
 apply codeAny_loop rfl I _ n h
 intro k s1 h1
 change wpAny _ A ((compTurn _ 0 it acc env).onRaise (λx=>do noteFrame x env;theTreesLotGoes x)) _ _ s1
 apply wpAny_noted
 rw[compTurn_list]
 have t:=turn k s1 h1
 unfold wE at t
 apply bk5
 apply wpAny_standAt
 apply bk5
 refine bs5 t (λr s2 h2=>?_) λ_ _ z=>z
 cases r with
 |none=>exact bl0 h2
 |some v=>
  apply bk5
  refine bs5 h2 (λ_ s3 h3=>?_) λ_ _ z=>z
  apply bk5
  refine bs5 h3 (λ_ s4 h4=>?_) λ_ _ z=>z
  apply bk5
  refine bs5 h4 (λok s5 h5=>?_) λ_ _ z=>z
  cases ok with
  |false=>exact bl0 ⟨rfl,h5⟩
  |true=>
   apply bk5
   apply bk5
   refine bs5 h5 (λx s6 h6=>?_) λ_ _ z=>z
   apply bk5
   exact bs5 h6 (λ_ s7 h7=>bl0 (bl0 ⟨rfl,h7⟩)) λ_ _ z=>z
end
def o9 (g:TG)(tc:TT)(te:TE)(σ0:St)(J:It)(D:Addr)(Q:VK)(W:Nat->Nat->List V->Hp->Prop):Prop:=
 ∀i m acc H',W i m acc H'->H' D=some (.lst acc)/\((J.stop i H'/\Q (.ref D) H')∨(J.go i H'/\∀x H2,J.yld i H' x H2->g x σ0 H2 λσ2 H3=>Wk σ0 σ2/\tc σ2 H3 λb H4=>
  if b=true then te σ2 H4 λv H5=>H5 D=some (.lst acc)/\acc.length<sizeLine/\∃m',m'<m/\W (i+1) m' (acc++[v]) (upd H5 D (.lst (acc++[v]))) else ∃m',m'<m/\W (i+1) m' acc H4))
def L4 (wi:TI)(fr:List (Option Nat))(g:TG)(tc:TT)(te:TE):TE:=λσ H Q=>wi σ H λJ H1=>∀D,H1 D=none->
 ∃W:Nat->Nat->List V->Hp->Prop,(∃m,W 0 m [] (upd H1 D (.lst [])))/\o9 g tc te (fP fr σ) J D Q W
section
variable {M:Model}{A:Around}{E:Value→Shared→Prop}{s:Shared}
theorem aw3 {scope:Scope}{globals:Addr}{cl:List (Str×Addr)}{qual:Str}{func:Option Addr}{code:Value}{builtins:Addr}{outer:Env}{Q:Env->Shared->Prop}(hQ:∀h',h'.Ns s.heap.objs.size (λ_=>none)->(∀b o,s.heap.get? b=some o->h'.get? b=some o)->CellsOk h' (s.heap.objs.size+1) (cellsFrom (s.heap.objs.size+1) scope.names [])->
   Q (newEnv scope s.heap.objs.size globals (cellsFrom (s.heap.objs.size+1) scope.names cl) qual func code (some outer) builtins) { s with heap:=h' }) :
  wpAny M A (newFunctionEnv scope globals cl [] qual func code (some outer) builtins) Q E s:=by
 simp only[newFunctionEnv,Option.isSome_some,if_true]
 refine bk5 (wpAny_alloc ?_)
 refine bk5 (wpAny_layCells _ (λname kind cells=>by cases hkc:kind==NameKind.cell<;>simp[hkc]) _ _ _ _ ?_)
 have ok:=cellsFrom_ok scope.names (s.heap.push { cls:=.type "dict",data:=.dict #[] }) (s.heap.objs.size+1) [] ⟨λ_ _ hm=>(nomatch hm),List.Pairwise.nil⟩ (by rw[bs2];exact bk9 _)
 rw[bs2]at ok
 rw[show ({ s with heap:=s.heap.push { cls:=.type "dict",data:=.dict #[] } }:Shared).heap.objs.size=s.heap.objs.size+1 from bs2 ..]
 rw[List.forIn_nil]
 refine bk5 (bl0 (bl0 (hQ _ ((Heap.Ns.new s.heap (.type "dict")).keeps (pushCells_keeps _ _)) (λb o e=>pushCells_keeps _ _ b o (bk6 _ e)) ok)))
end
section
variable {X:Cx}{pins:List (Addr×Obj)}{σ:St}{H:Hp}{s:Shared}{scope:Scope}{N:List Str}{fr:List (Option Nat)}{tg iter elt:Expr}{ifs:List Expr}{pos:Pos}{wi:TI}{g:TG}{tc:TT}{te:TE}
structure rG (X:Cx)(scope:Scope)(N:List Str)(tg:Expr)(ifs:List Expr)(elt:Expr)(s:Shared)(H:Hp)(g:TG)(tc:TT)(te:TE):Prop where
 tg:∀(C:Addr) (fp:List Addr),PG (dL X scope N s H C fp λ_ _=>False) tg g
 ifs:∀(C:Addr) (fp:List Addr),kX (dL X scope N s H C fp λ_ _=>False) ifs tc
 elt:∀(C:Addr) (fp:List Addr),PE (dL X scope N s H C fp λ_ _=>False) elt te
structure oA (X:Cx)(scope:Scope)(N:List Str)(tg:Expr)(ifs:List Expr)(elt:Expr)(g:TG)(tc:TT)(te:TE):Prop where
 tg:∀(s:Shared) (H:Hp) (C:Addr) (fp:List Addr),PG (dL X scope N s H C fp λ_ _=>False) tg g
 ifs:∀(s:Shared) (H:Hp) (C:Addr) (fp:List Addr),kX (dL X scope N s H C fp λ_ _=>False) ifs tc
 elt:∀(s:Shared) (H:Hp) (C:Addr) (fp:List Addr),PE (dL X scope N s H C fp λ_ _=>False) elt te
theorem oA.at (B:oA X scope N tg ifs elt g tc te)(s:Shared)(H:Hp):rG X scope N tg ifs elt s H g tc te:=⟨B.tg s H,B.ifs s H,B.elt s H⟩
theorem aw4 {C:Addr}{fp:List Addr}{E:Value->Shared->Prop}{pins':List (Addr×Obj)}{σ':St}{H':Hp}{s':Shared}(I:a8 X pins σ H s)(hf:∀b∈fp,gK X pins H b)(I':a8 (dL X scope N s H C fp E) pins' σ' H' s'):a8 X pins σ H' s':=
 I.call' (ch:=fp) I'.os I'.base I'.hok I'.bare λb hb=>⟨(hf b hb).2.2.2.1,(hf b hb).2.1,(hf b hb).2.2.2.2.1,(hf b hb).2.2.2.2.2⟩
theorem wF {Rr:Value->Addr->Result->Shared->Prop}{J:It}{fp:List Addr}{it:Addr}{tn:Nat->Heap->Prop}{Q:VK}(hc:X.calm=true)(S:eW X scope N fr)(B:rG X scope N tg ifs elt s H g tc te)(I:a8 X pins σ H s)(T:iD X.prog X.w X.K tg J fp it tn)(hst:tn 0 s.heap)(hf:∀b∈fp,gK X pins H b)(h:∀D,H D=none->∃W:Nat->Nat->List V->Hp->Prop,(∃m,W 0 m [] (upd H D (.lst [])))/\o9 g tc te (fP fr σ) J D Q W)(hend:∀(D C:Addr) (s':Shared) (H':Hp) (m:Str->Option Value),s.heap.objs.size<=C->s.heap.objs.size<=D->a8 X pins σ H' s'->s'.heap.Ns C m->H' C=none->Q (.ref D) H'->Rr (.ref D) C (.ok .next) s') :
  wpAny (model X.prog X.w) X.A (newList []) (λacc s₃=>wpAny (model X.prog X.w) X.A (newFunctionEnv scope X.env.globals (eJ X.env.cells scope.names []) [] X.env.qual none .none (some X.env)) (λcenv s₄=>
   codeAny (model X.prog X.w) X.A (.compStart (.ListComp elt [⟨tg,iter,ifs,0⟩] scope pos) 0 (.ref it) acc { cenv with scope:=relabel scope X.env }) (Rr acc cenv.locals) s₄) X.xe s₃) X.xe s:=by
 refine br7 (aw3 (λh₁ hns₁ keep₁ hco₁=>?_))
 dsimp only at hns₁ keep₁ hco₁ ⊢
 generalize hH2:s.heap.push { cls:=.type "list",dict:=none,data:=.seq ([]:List Value).toArray }=H2 at hns₁ keep₁ hco₁ ⊢
 have hC:H2.objs.size=s.heap.objs.size+1:=by rw[<- hH2,bs2]
 have hDC:s.heap.objs.size<H2.objs.size:=by rw[hC];exact Nat.lt_succ_self _
 have hCle:s.heap.objs.size<=H2.objs.size:=by rw[hC];exact by5 _
 have old:∀b o,s.heap.get? b=some o->h₁.get? b=some o:=λb o e=>keep₁ b o (hH2▸bk6 _ e)
 have hacc:h₁.get? s.heap.objs.size=some { cls:=.type "list",data:=.seq #[] 0 }:=keep₁ _ _ (hH2▸bm0 _ rfl)
 have hfl:∀b∈fp,b<s.heap.objs.size:=λb hb=>by obtain⟨o,e,_⟩:=T.obj _ _ hst b hb;exact bl8 e
 obtain⟨W,⟨m0,w0⟩,turn⟩:=h s.heap.objs.size (I.hok.fresh (bk9 _))
 have st1:tn 0 h₁:=T.keep _ _ _ hst λb _ o e=>old b o e
 have fr0:∀b∈fp,upd H s.heap.objs.size (.lst []) b=none:=λb hb=>by rw[aF (bn6 (hfl b hb))];exact (hf b hb).1
 have stat:∀{H':Hp},(∀b∈fp,H' b=none)->∀b∈fp,gK (dL X scope N s H H2.objs.size fp λ_ _=>False) [] H' b:=λ{H'} hn b hb=>by
  have f:=hf b hb
  refine⟨hn b hb,bn6 (bm5 (hfl b hb) hCle),λz=>?_,.inl hb,λx c e=>(kW e).elim (λz=>bs6 (Nat.lt_trans (bm5 (hfl b hb) hCle) (hco₁.empty x c z).2)) λz=>f.2.2.2.2.1 x c (rB scope.names [] (S.cells I) (λ_ _ z=>by simp at z) z.2),λp hp=>absurd (show p∈([]:List (Addr×Obj)) from hp) (by simp)⟩
  rcases bl2.mp (I.stkSub b z) with e|e
  ·exact f.2.1 e
  ·exact f.2.2.1 e
 generalize hX:dL X scope N s H H2.objs.size fp (λ_ _=>False)=Y at stat
 have I0:a8 Y [] (fP fr σ) (upd H s.heap.objs.size (.lst [])) { s with heap:=h₁ }:=hX▸aw0 S I hf hfl (bk9 _) hCle hDC old hns₁ hacc hco₁
 have bt:PG Y tg g:=hX▸B.tg H2.objs.size fp
 have bi:kX Y ifs tc:=hX▸B.ifs H2.objs.size fp
 have be:PE Y elt te:=hX▸B.elt H2.objs.size fp
 have eP:Y.prog=X.prog:=by rw[<- hX];rfl
 have ew:Y.w=X.w:=by rw[<- hX];rfl
 have eK:Y.K=X.K:=by rw[<- hX];rfl
 have eA:Y.A=X.A:=by rw[<- hX];rfl
 have eE:Y.env=compEnvC scope (gO X scope H2.objs.size) H2.objs.size X.env:=by rw[<- hX];rfl
 have eX:Y.xe=λ_ _=>False:=by rw[<- hX];rfl
 have ec:Y.calm=true:=by rw[<- hX];exact hc
 have never:∀{E:Value->Shared->Prop} (e:Value) (s':Shared),Y.xe e s'->E e s':=λ{E} e s' z=>by rw[eX]at z;exact z.elim
 have out:∀{pins' σ' H' s'},a8 Y pins' σ' H' s'->a8 X pins σ H' s':=λ{_ _ _ _} I'=>aw4 (C:=H2.objs.size) (E:=λ_ _=>False) (scope:=scope) (N:=N) I hf (hX▸I')
 have loop:codeAny (model X.prog X.w) X.A (.compLoop (.ListComp elt [⟨tg,iter,ifs,0⟩] scope pos) 0 (.ref it) (.ref s.heap.objs.size) (compEnvC scope (gO X scope H2.objs.size) H2.objs.size X.env))
   (Rr (.ref s.heap.objs.size) H2.objs.size) { s with heap:=h₁ }:=by
  refine aw2 (λn s'=>∃i acc H',a8 Y [] (fP fr σ) H' s'/\tn i s'.heap/\(∀b∈fp,H' b=none)/\W i n acc H') ?_ m0 ⟨0,[],_,I0,st1,fr0,w0⟩
  rintro n s3 ⟨i,acc,H3,I3,st3,fr3,w3⟩
  unfold wE
  dsimp only
  obtain⟨hD3,step⟩:=turn i n acc H3 w3
  rcases step with⟨stop,qn⟩|⟨go,step⟩
  ·have z:=T.done Y eP ew eK ec i [] s3 _ H3 (notedBy (model X.prog X.w) X.A (compEnvC scope (gO X scope H2.objs.size) H2.objs.size X.env) λe s'=>Rr (.ref s.heap.objs.size) H2.objs.size (.error e) s') I3 (stat fr3) st3 stop
   rw[eA]at z
   refine aJ z λr s4 ⟨hr,I4⟩=>?_
   subst hr
   obtain⟨m4,hn4,_⟩:=I4.loc
   rw[eE]at hn4
   have f4:=I4.free
   rw[eE]at f4
   exact hend _ _ s4 H3 m4 hCle (bk9 _) (out I4) hn4 f4 qn
  ·have z:=T.item Y eP ew eK ec i [] s3 _ H3 (notedBy (model X.prog X.w) X.A (compEnvC scope (gO X scope H2.objs.size) H2.objs.size X.env) λe s'=>Rr (.ref s.heap.objs.size) H2.objs.size (.error e) s') I3 (stat fr3) st3 go
   rw[eA]at z
   refine aJ z λr s4 ⟨u,hr,h4⟩=>?_
   subst hr
   refine aJ h4 λ_ s5 ⟨x,H5,I5,r5,y5,st5,fr5⟩=>?_
   have I5':=I5.pinned (stat fr5) (T.obj _ _ st5)
   have q1:=bt _ s5 _ H5 x u _ I5' r5 (step x H5 y5)
   rw[eP,ew,eA,eE]at q1
   refine bs5 q1 (λ_ s6 ⟨σ6,H6,I6,wk,q6⟩=>?_) never
   have q2:=bi _ s6 σ6 H6 _ I6 q6
   rw[eP,ew,eA,eE]at q2
   refine bs5 q2 (λb s7 ⟨H7,I7,q7⟩=>?_) never
   have again:∀{H8:Hp}{s8:Shared}{acc':List V},a8 Y ([]++nW fp s5.heap) σ6 H8 s8->(∃m',m'<n/\W (i+1) m' acc' H8)->∃m,m<n/\∃i acc H',a8 Y [] (fP fr σ) H' s8/\tn i s8.heap/\(∀b∈fp,H' b=none)/\W i m acc H':=λ{H8 s8 acc'} I8 n8=>by
    obtain⟨m',hm,w8⟩:=n8
    refine⟨m',hm,i+1,acc',H8,(I8.unpinned).weak wk.1 wk.2,T.keep _ _ _ st5 λb hb o e=>(I8.pin (b,o) (bo5 _ (bo5 _ (qR hb e)))).1,λb hb=>?_,w8⟩
    obtain⟨o,e,d⟩:=T.obj _ _ st5 b hb
    exact (I8.pin (b,o) (bo5 _ (bo5 _ (qR hb e)))).2.1
   cases b with
   |false=>
    rw[if_neg bm6]at q7 ⊢
    exact again I7 q7
   |true=>
    rw[if_pos rfl]at q7 ⊢
    have q3:=be _ s7 σ6 H7 _ I7 q7
    rw[eP,ew,eA,eE]at q3
    refine bs5 q3 (λv s8 ⟨y,H8,I8,r8,hD8,hz8,q8⟩=>?_) never
    have q4:=o0 _ s8 σ6 H8 (.ref s.heap.objs.size) [y] (.ref s.heap.objs.size) [v] (λ_ H9=>∃m',m'<n/\W (i+1) m' (acc++[y]) H9) I8 rfl (.cons r8 .nil) ⟨_,_,_,rfl,rfl,hD8,hz8,q8⟩
    rw[eP,ew,eA]at q4
    exact bs5 q4 (λ_ s9 ⟨_,H9,I9,_,q9⟩=>again I9 q9) never
 exact codeAny_compStart_list loop (T.self _ 0 _ _ _ st1 loop)
end
section
variable {X:Cx}{scope:Scope}{N:List Str}{fr:List (Option Nat)}{tg iter elt:Expr}{ifs:List Expr}{pos:Pos}{wi:TI}{g:TG}{tc:TT}{te:TE}
theorem a8.drop {pins:List (Addr×Obj)}{σ:St}{H H':Hp}{s s':Shared}{C:Addr}{h':Heap}(I0:a8 X pins σ H s)(hC:s.heap.objs.size<=C){σ':St}(I:a8 X pins σ' H' s')(hn:H' C=none)(sb:Heap.SameBut C s'.heap h'):a8 X pins σ' H' { s' with heap:=h' }:=by
 refine I.turned (t':=s'.toks) (it:=C) (λb o hb e=>(sb.2 b hb).trans e) hn (bs6 (bm5 I0.lt hC)) (.inr (bo3 I0.sz hC)) (λx c e z=>?_) λp hp z=>?_
 ·obtain⟨v,q⟩:=I0.cell x c e
  exact absurd (bm5 q.lt (by rw[z];exact hC)) (br2 _)
 ·exact absurd (bm5 (bl8 (I0.pin p hp).1) (by rw[z];exact hC)) (br2 _)
theorem L5 (hc:X.calm=true)(S:eW X scope N fr)(hi:PI X tg iter wi)(B:oA X scope N tg ifs elt g tc te)(hs:∀x,foldedSetIterable iter X.env x=pure x:=by intro _;rfl):PE X (.ListComp elt [⟨tg,iter,ifs,0⟩] scope pos) (L4 wi fr g tc te):=by
 intro pins s σ H Q I h
 rw[eval_ListComp]
 refine wpAny_comprehension_free (use:=none) rfl hs (w9 (S.cells I)) S.kind S.names (aJ (hi pins s σ H _ I h) λv s1 h1=>aJ h1 λitv s2 h2=>?_)
 obtain⟨it,fp,tn,J,H2,e,I2,T,st2,f2,hW⟩:=h2
 subst e
 refine wF (Rr:=λacc C=>compPost (model X.prog X.w) X.A X.xe none (EP X pins σ Q) acc C) hc S (B.at _ _) I2 T st2 f2 hW ?_
 intro D C s' H' m hC hD I' hns hHC q
 exact⟨m,hns,λh' sb=>⟨.ref D,H',I2.drop hC I' hHC sb,rfl,q⟩⟩
theorem aw5 {i:Nat}{x:Str}{px spos:Pos}(hc:X.calm=true)(S:eW X scope N fr)(hi:PI X tg iter wi)(B:oA X scope N tg ifs elt g tc te)(hN:X.N.Nodup)(hix:X.N[i]? = some x)(hx:X.env.scope.names.lookup x=some .local)(hsw:swapsWith (.ListComp elt [⟨tg,iter,ifs,0⟩] scope pos) (some (.Name x px)) spos.line X.env=pure true)(hs:∀x,foldedSetIterable iter X.env x=pure x:=by intro _;rfl) :
  PS X (.Assign [.Name x px] (.ListComp elt [⟨tg,iter,ifs,0⟩] scope pos) spos) (qQ (L4 wi fr g tc te) (fF i)):=by
 intro pins s σ H D I h
 rw[exec_Assign_Name_used _ _ _ _ hsw]
 refine bk5 (wpAny_standAt (bk5 ?_))
 show wpAny _ _ (do let _ <- comprehension (.ListComp elt [⟨tg,iter,ifs,0⟩] scope pos) scope X.env _ (newList []) false (eval iter X.env) (some (assign (.Name x px) X.env))) _ _ s
 refine bk5 (bs5 (wpAny_comprehension_free (Q:=λ_ s'=>SP X pins D .next s') (use:=some (assign (.Name x px) X.env)) rfl hs (w9 (S.cells I)) S.kind S.names (aJ (hi pins s σ H _ I h) λv s1 h1=>aJ h1 λitv s2 h2=>?_))
  (λ_ s' hq=>bl0 (bl0 hq)) λ_ _ e=>e)
 obtain⟨it,fp,tn,J,H2,e,I2,T,st2,f2,hW⟩:=h2
 subst e
 refine wF (Rr:=λacc C=>compPost (model X.prog X.w) X.A X.xe (some (assign (.Name x px) X.env)) (λ_ s'=>SP X pins D .next s') acc C) hc S (B.at _ _) I2 T st2 f2 hW ?_
 intro D' C s' H' m hC hD I' hns hHC q
 refine wpAny_assign_Name (A7 I' hN hix (.inl hx) (v:=.ref D') rfl (λs'' I'' sb=>?_) (.inr hx))
 obtain⟨a,sb,ha⟩:=sb
 have hCa:C≠a:=by
  rcases ha with z|z
  ·rw[z];exact bs6 (bm5 I2.lt hC)
  ·intro e;subst e
   obtain⟨v,q⟩:=I2.cell x _ z
   exact absurd (bm5 q.lt hC) (br2 _)
 exact⟨m,hns.sameBut sb hCa,λh' sb'=>⟨_,H',I2.drop hC I'' hHC sb',q⟩⟩
variable {gh:Hp→TG}{tch:Hp→TT}{teh:Hp→TE}
def L6 (wi:TI)(fr:List (Option Nat))(gh:Hp->TG)(tch:Hp->TT)(teh:Hp->TE):TE:=λσ H Q=>wi σ H λJ H1=>∀D,H1 D=none->
 ∃W:Nat->Nat->List V->Hp->Prop,(∃m,W 0 m [] (upd H1 D (.lst [])))/\o9 (gh H1) (tch H1) (teh H1) (fP fr σ) J D Q W
theorem L7 (hc:X.calm=true)(S:eW X scope N fr)(hi:PI X tg iter wi)(B:∀(s:Shared) (H:Hp),rG X scope N tg ifs elt s H (gh H) (tch H) (teh H))(hs:∀x,foldedSetIterable iter X.env x=pure x:=by intro _;rfl):PE X (.ListComp elt [⟨tg,iter,ifs,0⟩] scope pos) (L6 wi fr gh tch teh):=by
 intro pins s σ H Q I h
 rw[eval_ListComp]
 refine wpAny_comprehension_free (use:=none) rfl hs (w9 (S.cells I)) S.kind S.names (aJ (hi pins s σ H _ I h) λv s1 h1=>aJ h1 λitv s2 h2=>?_)
 obtain⟨it,fp,tn,J,H2,e,I2,T,st2,f2,hW⟩:=h2
 subst e
 refine wF (Rr:=λacc C=>compPost (model X.prog X.w) X.A X.xe none (EP X pins σ Q) acc C) hc S (B _ _) I2 T st2 f2 hW ?_
 intro D C s' H' m hC hD I' hns hHC q
 exact⟨m,hns,λh' sb=>⟨.ref D,H',I2.drop hC I' hHC sb,rfl,q⟩⟩
end
theorem bR {H:Hp}{p:Addr}(h:H p=none)(o:HO):aB H (upd H p o):=λb u q=>by rw[aF (cX q h)];exact q
theorem aB.tup {K:ac}{H H':Hp}{a:Addr}{xs:List V}(e:aB H H')(h:aL K H a xs):aL K H' a xs:=by
 rcases h with (h|⟨o,h⟩)|h
 ·exact .inl (.inl (e _ _ h))
 ·exact .inl (.inr ⟨o,e _ _ h⟩)
 ·exact .inr h
structure L8 (H:Hp)(J:It)(xs:List V):Prop where
 go:∀i H',aB H H'->i<xs.length->J.go i H'
 yld:∀i H' x H2,aB H H'->J.yld i H' x H2->i<xs.length->xs[i]? = some x/\H2=H'
 stop:∀H',aB H H'->J.stop xs.length H'
theorem aw6 {K:ac}{H:Hp}{a:Addr}{xs:List V}(h:aL K H a xs):L8 H (jN K a) xs:=
 ⟨λi H' e hi=>⟨xs,xs[i],e.tup h,by simp[hi]⟩,λi H' x H2 e y hi=>⟨y.2 xs (e.tup h),y.1⟩,λH' e=>⟨xs,e.tup h,bk9 _⟩⟩
def CW (H1:Hp)(D:Addr)(n:Nat)(Pv:Nat->List V->Hp->Prop):Nat->Nat->List V->Hp->Prop:=λi m acc H'=>m=n-i/\i<=n/\acc.length<=i/\aB H1 H'/\H' D=some (.lst acc)/\Pv i acc H'
def wG (H1:Hp)(D:Addr)(n:Nat)(Pv:Nat->List V->Hp->Prop)(i:Nat)(acc:List V)(v:V)(H5:Hp):Prop:=H5 D=some (.lst acc)/\acc.length<sizeLine/\∃m',m'<n-i/\CW H1 D n Pv (i+1) m' (acc++[v]) (upd H5 D (.lst (acc++[v])))
def L9 (H1:Hp)(D:Addr)(n:Nat)(Pv:Nat->List V->Hp->Prop)(i:Nat)(acc:List V)(H4:Hp):Prop:=∃m',m'<n-i/\CW H1 D n Pv (i+1) m' acc H4
structure rH (H1:Hp)(D:Addr)(n i:Nat)(acc:List V)(H':Hp):Prop where
 lt:i<n
 few:acc.length<=i
 sz:n<=sizeLine
 same:aB H1 H'
 new:H1 D=none
 acc:H' D=some (.lst acc)
theorem rH.yes {H1:Hp}{D:Addr}{n i:Nat}{acc:List V}{H' H5:Hp}{Pv:Nat->List V->Hp->Prop}{v:V}(c:rH H1 D n i acc H')(s:aB H' H5)(p:Pv (i+1) (acc++[v]) (upd H5 D (.lst (acc++[v])))):wG H1 D n Pv i acc v H5:=by
 refine⟨s _ _ c.acc,Nat.lt_of_le_of_lt c.few (bm5 c.lt c.sz),_,?_,rfl,c.lt,?_,λb o e=>?_,aU,p⟩
 ·have:=c.lt;omega
 ·rw[bl4,bo6];exact Nat.succ_le_succ c.few
 ·rw[aF (cX e c.new)];exact s _ _ (c.same _ _ e)
theorem aw7 {H1:Hp}{J:It}{xs:List V}{g:TG}{tc:TT}{te:TE}{σ0:St}{Q:VK}(O:L8 H1 J xs)(Pv:Nat->List V->Hp->Prop)(hn:xs.length<=sizeLine)(h0:∀D,H1 D=none->Pv 0 [] (upd H1 D (.lst [])))(hs:∀i x acc D H',xs[i]? = some x->rH H1 D xs.length i acc H'->Pv i acc H'->g x σ0 H' λσ2 H3=>Wk σ0 σ2/\tc σ2 H3 λb H4=>
   if b=true then te σ2 H4 λv H5=>wG H1 D xs.length Pv i acc v H5 else L9 H1 D xs.length Pv i acc H4)(hd:∀D acc H',H1 D=none->aB H1 H'->H' D=some (.lst acc)->acc.length<=xs.length->Pv xs.length acc H'->Q (.ref D) H') :
  ∀D,H1 D=none->∃W:Nat->Nat->List V->Hp->Prop,(∃m,W 0 m [] (upd H1 D (.lst [])))/\o9 g tc te σ0 J D Q W:=by
 intro D hD
 refine⟨CW H1 D xs.length Pv,⟨xs.length,rfl,bo0 _,bk9 _,bR hD _,aU,h0 D hD⟩,?_⟩
 rintro i m acc H' ⟨rfl,hi,ha,sm,hDa,p⟩
 refine⟨hDa,?_⟩
 by_cases hlt:i<xs.length
 ·refine .inr ⟨O.go i H' sm hlt,λx H2 y=>?_⟩
  obtain⟨hx,e⟩:=O.yld i H' x H2 sm y hlt
  subst e
  exact hs i x acc D H2 hx ⟨hlt,ha,hn,sm,hD,hDa⟩ p
 ·have e:i=xs.length:=by omega
  subst e
  exact .inl ⟨O.stop H' sm,hd D acc H' hD sm hDa ha p⟩
end L2
namespace Srt
open PySem PySem.W PyProof.Rows
abbrev G (p:Array Nat)(i:Nat):Nat:=p.getD i 0
def PP (n:Nat)(p:Array Nat):Prop:=p.toList.Perm (List.range n)
structure Ord (c:Nat->Nat->Bool):Prop where
 asym:∀{i j},c i j=true->c j i=false
 ntr:∀{i j k},c i j=false->c j k=false->c i k=false
end Srt
namespace L2
open PySem PySem.Spec PyProof.Rows
theorem wH:∀{xs:List V}{us:List Value} (i:Nat),i<xs.length->aQ xs us->aT (xs.getD i .non) (us.getD i Value.none)
 |_,_,_,h,.nil=>by simp at h
 |_,_,0,_,.cons r _=>by simpa using r
 |_,_,i+1,h,.cons _ t=>by
  have:=wH i (by simpa using h) t
  simpa using this
theorem wI {α:Type}:∀l:List α,(l.zip l).map (·.2)=l
 |[]=>rfl
 |a::l=>by
  show a::((l.zip l).map (·.2))=a::l
  rw[wI l]
theorem aw8 {prog:Program}{w:World}{A:Around}{E:Value->Shared->Prop}{s:Shared}{a:Addr}{vs:List Value}{n:Nat}{P:PySem.Fin->Shared->Prop}(e:s.heap.get? a=some (seqObj "list" vs.toArray n))(few:vs.length<2)(q:P (.done (.ret .none)) { s with heap:=sortedHeap s.heap a vs vs.toArray }):wpAny (model prog w) A (Builtin.«list.sort» ⟨[.ref a],[]⟩) P E s:=by
 have big:vs.length<=sizeLine:=bo3 (br0 few) (by decide)
 have la:=bl8 e
 have c:vs.toArray.size<2:=by simpa using few
 have same:(arrOf (SortSt.mk' general' (vs.toArray.zip vs.toArray) #[] 7 none)).map (·.2)=vs.toArray:=by
  change (vs.toArray.zip vs.toArray).map (·.2)=vs.toArray
  apply Array.ext'
  simpa using wI vs
 obtain⟨k,ek⟩:∃k,(s.heap.update a (Obj.mapSeq λ_=>#[])).get? a=some (seqObj "list" #[] k):=⟨_,get?_update_seq e λ_=>#[]⟩
 have there:(((s.heap.update a (Obj.mapSeq λ_=>#[])).push (seqObj "tuple" vs.toArray 0)).push (seqObj "list" #[] 0)).get? a=some (seqObj "list" #[] k):=
  bk6 _ (bk6 _ ek)
 rw[list_sort_plain]
 apply bk5
 apply listItems_at e rfl
 apply bk5
 refine listUpdate_at e rfl ?_ (by simpa using big) (bo0 _)
 apply bk5
 apply seqEpoch_at ek rfl
 apply bk5
 refine wpAny_newTuple ?_ big
 apply bk5
 refine wpAny_newList ?_ (bo0 _)
 apply bz1
 simp only[c,if_true,StateT.run_pure]
 apply bk5
 apply bl0
 apply bk5
 apply bl0
 apply bk5
 apply seqEpoch_at there rfl
 apply bk5
 refine listUpdate_at there rfl ?_ (bo0 _) (by rw[same,bk7];exact Nat.le_succ_of_le big)
 rw[same]
 simp only[bne_self_eq_false,bn5,bs8]
 exact bl0 q
def aw9 (K:ac):List V->Hp->VK->Prop:=λxs H Q=>∃a ns,xs = [.ref a]/\aM K H a (ns.map V.int)/\ns.length<64/\∀l (ms:af),H l=none->ms.Perm ns->ms.Pairwise (· <= ·)->Q (.ref l) (upd H l (.lst (ms.map V.int)))
theorem ax0 {X:Cx}:cH X (.builtin "sorted") (aw9 X.K):=by
 intro pins s σ H xs us Q I r h
 obtain⟨a,ns,rfl,hs,h64,q⟩:=h
 obtain⟨u,rfl,ru⟩:=fM r
 cases ru
 obtain⟨its,rv,p,hz⟩:=I.list hs
 have hl:=rv.length
 rw[bl1]at hl
 refine sorted_ints p.isList (jQ rv) (by omega) λout ns' a1 a2 a3=>?_
 obtain⟨e,he⟩:=sortedAll_at s.heap its out
 have hn:s.heap.objs.size<=s.heap.objs.size+1:=by5 _
 have hlen:ns'.length=ns.length:=a2.length_eq
 refine⟨.ref (s.heap.objs.size+1),upd H (s.heap.objs.size+1) (.lst (ns'.map V.int)),I.laid (t':=s.toks) (λ_ _=>sortedAll_old) hn ⟨?_,out.toList,e,o7 a1,by simpa using he⟩,rfl,q _ ns' (I.hok.fresh hn) a2 a3⟩
 rw[bl1,hlen]
 exact br0 (o8 (by omega))
theorem oB:∀{a b:af},HT.cO a b=true->HT.cO b a=false
 |[],[],h=>by cases h
 |[],_::_,_=>rfl
 |_::_,[],h=>by cases h
 |x::xs,y::ys,h=>by
  rw[HT.m3]at h ⊢
  by_cases e:x=y
  ·rw[if_pos e]at h;rw[if_pos e.symm];exact oB h
  ·rw[if_neg e]at h;rw[if_neg (Ne.symm e)]
   have:=bu7 h
   exact bm3 (by omega)
theorem wJ:∀{a b c:af},HT.cO a b=false->HT.cO b c=false->HT.cO a c=false
 |[],[],c,_,h=>h
 |[],_::_,_,h,_=>by cases h
 |_::_,[],[],_,_=>rfl
 |_::_,[],_::_,_,h=>by cases h
 |_::_,_::_,[],_,_=>rfl
 |x::xs,y::ys,z::zs,h1,h2=>by
  rw[HT.m3]at h1 h2 ⊢
  by_cases e1:x=y
  ·rw[if_pos e1]at h1
   by_cases e2:y=z
   ·rw[if_pos e2]at h2;rw[if_pos (e1.trans e2)];exact wJ h1 h2
   ·rw[if_neg e2]at h2;rw[if_neg (by rw[e1];exact e2)];rw[e1];exact h2
  ·rw[if_neg e1]at h1
   have k1:=bq2 h1
   by_cases e2:y=z
   ·rw[<- e2,if_neg e1];exact h1
   ·rw[if_neg e2]at h2
    have k2:=bq2 h2
    rw[if_neg (by omega)]
    exact bm3 (by omega)
theorem M0:∀{a b:af},HT.cO a b=false->HT.cO b a=false->a=b
 |[],[],_,_=>rfl
 |[],_::_,h,_=>by cases h
 |_::_,[],_,h=>by cases h
 |x::xs,y::ys,h1,h2=>by
  rw[HT.m3]at h1 h2
  by_cases e:x=y
  ·rw[if_pos e]at h1;rw[if_pos e.symm]at h2;rw[e,M0 h1 h2]
  ·rw[if_neg e]at h1;rw[if_neg (Ne.symm e)]at h2
   have:=bq2 h1
   have:=bq2 h2
   omega
section
variable {prog:Program}{w:World}{A:Around}{s:Shared}{Q:Bool→Shared→Prop}
theorem M3:∀{us ws:List Value}{xs ys:af} (i:Nat),IntsAre us xs->IntsAre ws ys->Q (HT.cO xs ys) s->PySem.W.KatLex prog w A true (decide (us.length<ws.length)) Q (us.zip ws) i s
 |_,_,_,_,_,.nil,.nil,h=>h
 |_,_,_,_,_,.nil,.cons _ _ _,h=>h
 |_,_,_,_,_,.cons _ _ _,.nil,h=>h
 |_,_,_,_,i,.cons (vs:=us) x t hx,.cons (vs:=ws) y u hy,h=>by
  refine PySem.W.kat_cons (wpAny_eqBool_int ?_)
  rw[HT.m3]at h
  by_cases e:x=y
  ·rw[if_pos e]at h
   have eb:(x==y)=true:=by simpa using e
   rw[eb]
   refine PySem.W.kat_yes ?_
   have e2:decide ((Value.int x t::us).length<(Value.int y u::ws).length)=decide (us.length<ws.length):=by simp
   rw[e2]
   exact M3 (i+1) hx hy h
  ·rw[if_neg e]at h
   have eb:(x==y)=false:=by simpa using e
   rw[eb]
   refine PySem.W.kat_no ?_
   cases hi:(true&&i==0) with
   |true=>exact PySem.W.kat_lt_int h
   |false=>exact PySem.W.kat_one _ _ (lt_int h)
end
end L2
namespace Raw
open PySem PySem.W PySem.Calls PyProof.Rows
def gP (h:Heap)(d:Addr)(es:Array DictEntry)(ep:Nat):Prop:=∃o,h.get? d=some o/\o.ExactDict/\o.data = .dict es ep
theorem gP.ty {s:Shared}{d:Addr}{es:Array DictEntry}{ep:Nat}(x:gP s.heap d es ep):s.TypeIs (.ref d) "dict":=x.elim λo y=>⟨o,y.1,y.2.1.1⟩
theorem gP.lt {h:Heap}{d:Addr}{es:Array DictEntry}{ep:Nat}(x:gP h d es ep):d<h.objs.size:=x.elim λ_ y=>bl8 y.1
theorem gP.keep {h h':Heap}{d:Addr}{es:Array DictEntry}{ep:Nat}(x:gP h d es ep)(k:∀o,h.get? d=some o->h'.get? d=some o):gP h' d es ep:=x.elim λo y=>⟨o,k o y.1,y.2⟩
section
variable {prog:Program}{w:World}{A:Around}{E:Value→Shared→Prop}{s:Shared}{d it:Addr}{es:Array DictEntry}{ep i:Nat}
theorem made (far:(d==sysModules)=false)(x:gP s.heap d es ep){Q:Value->Shared->Prop}(q:Q (.ref s.heap.objs.size) { s with heap:=s.heap.push { cls:=.type "dict_keyiterator",data:=.fields #[.ref d,.int 0 0,.int es.size 0,.int ep 0] } }):wpAny (model prog w) A (pyIter (.ref d)) Q E s:=by
 have T:=x.ty
 obtain⟨o,e1,e2,e3⟩:=x
 apply wpAny_pyIter_slot T PySem.F.slot_dict_iter
 apply bq7 PySem.F.slot_dict_iter T PySem.F.entry_dict_iter _ (PySem.F.args_dict_iter_1 _)
 simp only[Builtin.«dict.__iter__»,Builtin.Dict.dictSlotNone]
 apply bk5
 apply bk5
 apply wpAny_notOrdered_dict T
 apply bl0
 change wpAny _ _ (Builtin.Dict.showsAll d >>= _) _ _ s
 have far':Builtin.Dict.showsAll d=pure ():=by
  unfold Builtin.Dict.showsAll
  simp only[far,bn5,bs8]
 rw[far',pure_bind]
 apply bk5
 apply wpAny_dictEntries e1 e3
 apply bk5
 apply wpAny_dictEpoch e1 e3
 apply bk5
 refine br7 (bl0 ?_)
 refine⟨.ref s.heap.objs.size,rfl,"dict_keyiterator",_,⟨_,bm0 _ rfl,rfl⟩,PySem.F.slot_dict_keyiterator_next.lookup,?_⟩
 simpa only[rawInt] using q
theorem turn (hh:A.handled=none)(hi:s.heap.IsKeyIter it d i es.size ep)(x:gP s.heap d es ep){Q:Option Value->Shared->Prop}(yes:∀(lt:i<es.size) h',h'.IsKeyIter it d (i+1) es.size ep->Heap.SameBut it s.heap h'->Q (some es[i].key) { s with heap:=h' })(no:es.size<=i->∀h',Heap.ExtBut it s.heap h'->Q none { s with heap:=h' }):wpAny (model prog w) A (pyNext (.ref it)) Q E s:=by
 have T:=hi.typeIs
 obtain⟨oi,f1,f2,f3⟩:=hi
 obtain⟨o,e1,e2,e3⟩:=x
 have slot:=PySem.F.slot_dict_keyiterator_next
 have plain:Builtin.Dict_items.ownsTuple "dict_keyiterator" = false:=by decide
 have isref:(Value.ref d==Value.none)=false:=rfl
 have nn:¬(i:Int)<0:=by omega
 unfold pyNext
 apply bk5
 apply wpAny_attempt
 apply bq5 (name:=Str.ofString "__next__") T slot
 apply bq7 slot T PySem.F.entry_dict_keyiterator_next _ (PySem.F.args_dict_keyiterator_next_1 _)
 apply bk5
 apply bl0
 apply bk5
 apply bk5
 apply bk5
 first
  |apply wpAny_typeNameOfWhole_keyiter T
  |apply wpAny_typeNameOf_keyiter T
 apply bl0
 apply bk5
 apply wpAny_fieldsOf f1 f3
 simp only[plain,bn5,bs8]
 change wpAny _ _ (if (Value.ref d==Value.none)=true then _ else _) _ _ s
 have adr:Builtin.Dict_items.addrOf (Value.ref d)=pure d:=rfl
 simp only[isref,bn5,bs8,adr,pure_bind]
 apply bk5
 apply wpAny_dictEntries e1 e3
 simp only[bne_self_eq_false,bn5,bs8]
 apply bk5
 apply wpAny_dictEpoch e1 e3
 simp only[bne_self_eq_false,bn5,bs8]
 apply bl0
 simp only[nn,bs8,Int.toNat_natCast]
 by_cases lt:i<es.size
 ·simp only[Array.getElem?_eq_getElem lt]
  apply bk5
  apply bk5
  first
   |apply wpAny_typeNameOfWhole_keyiter T
   |apply wpAny_typeNameOf_keyiter T
  apply bl0
  apply bk5
  apply wpAny_isOneOf_keyiter T
  change wpAny _ _ (setField (.ref it) 1 (rawInt ((i:Int)+1)) >>= _) _ _ s
  apply bk5
  refine wpAny_setField f1 f3 (by simp) ?_
  have again:(s.heap.update it (Obj.mapFields (·.setIfInBounds 1 (rawInt ((i:Int)+1))))).IsKeyIter it d (i+1) es.size ep:=by
   refine⟨_,Heap.get?_update_self _ f1 (Obj.isFreed_of_fields (Obj.data_mapFields f3 _)),?_,?_⟩
   ·rw[Obj.cls_mapFields];exact f2
   ·rw[Obj.data_mapFields f3];simp[rawInt]
  apply bk5
  apply bz1
  apply bk5
  refine wpAny_isOneOf_keyiter (s:={ s with heap:=s.heap.update it (Obj.mapFields (·.setIfInBounds 1 (rawInt ((i:Int)+1)))) }) again.typeIs ?_
  change wpAny _ _ (pure es[i].key) _ _ _
  apply bl0
  apply bl0
  exact⟨es[i].key,rfl,bl0 (yes lt _ again (Heap.SameBut.update ..))⟩
 ·have ge:es.size<=i:=Nat.le_of_not_lt lt
  simp only[Array.getElem?_eq_none ge]
  apply bk5
  apply bk5
  first
   |apply wpAny_typeNameOfWhole_keyiter T
   |apply wpAny_typeNameOf_keyiter T
  apply bl0
  change wpAny _ _ (setField (.ref it) 0 .none >>= _) _ _ s
  apply bk5
  refine wpAny_setField f1 f3 (by simp) ?_
  apply bk5
  simp only[newExc,newTuple]
  apply bk5
  refine br7 ?_ (by size_fits)
  apply bk5
  refine wpAny_of_eq (a:=Value.none) (by first|rfl|(simp only[firstArgMember];rfl)) ?_
  refine br7 ?_ (by size_fits)
  unfold raiseNew
  apply bk5
  apply wpAny_handled
  have quiet:A.in1.handled=none:=hh
  rw[quiet]
  refine wpAny_throw ?_
  apply bk5
  refine wpAny_isInstance (T:="StopIteration") (b:=true) ⟨_,bm0 _ rfl,rfl⟩ isSubtype_stop ?_
  exact bl0 (no ge _ (((Heap.SameBut.update ..).extBut.push _).push _))
theorem ax1 (hh:A.handled=none)(ne:d≠it):Walks prog w A it [it,d] [it] es.size (λi v=>∃lt:i<es.size,es[i].key=v) (λi h=>h.IsKeyIter it d i es.size ep/\gP h d es ep) where
 sub:=by intro b hb;rw[bl3.mp hb];exact bm8
 frame:=by
  intro i h h' st hk
  exact⟨st.1.at (hk it bm8),st.2.keep (hk d (bm9 _ bm8))⟩
 item:=by
  intro i s Q E lt st hQ
  refine turn hh st.1 st.2 (λlt' h' again sb=>?_) λge=>absurd lt (Nat.not_lt.mpr ge)
  exact hQ _ h' s.toks ⟨lt',rfl⟩ ⟨again,st.2.keep λo e=>sb.extBut d o ne e⟩ λb o hb e=>sb.extBut b o (λz=>hb (bl3.mpr z)) e
 done:=by
  intro s Q E st hQ
  refine turn hh st.1 st.2 (λlt=>absurd lt (br2 _)) λ_ h' eb=>?_
  exact hQ h' s.toks λb o hb e=>eb b o (λz=>hb (bl3.mpr z)) e
 self:=by intro i s Q E st hQ;exact wpAny_pyIter_keyiter st.1 hQ
theorem ax2 (far:(d==sysModules)=false):KdlSrc prog w "dict" d d es.size (λi v=>∃lt:i<es.size,es[i].key=v) (λh=>gP h d es ep) where
 type:=λ_ x=>x.ty
 there:=λ_ x=>⟨x.lt,x.lt⟩
 keep:=λ_ _ x k=>x.keep (k d (.inl rfl))
 notList:=by decide
 notTuple:=by decide
 hint:=λ_ _ _ _ x q=>kdl_hint_dict x.ty q
 iter:=λ_ _ hh x=>⟨_,_,λ_ _ q=>made far x q,ax1 hh (bn6 x.lt),⟨_,bm0 _ rfl,rfl,rfl⟩,x.keep λo e=>bk6 _ e⟩
end
end Raw
namespace L2
open PySem PySem.Spec PyProof.Rows
section
variable {X:Cx}{pins:List (Addr×Obj)}{σ:St}{H:Hp}{s:Shared}{a:Addr}
def ax3 (H:Hp)(y:V)(k:List aD):Prop:=∃q,y = .ref q/\H q=some (.tup (k.map kV))
theorem ax4 {kvs:List (aD×V)}(I:a8 X pins σ H s)(h:H a=some (.dK kvs)):∃es ep,Raw.gP s.heap a es ep/\(a==sysModules)=false/\aQ (kvs.map λp=>kV p.1) (es.toList.map (·.key))/\kvs.length<=sizeLine:=by
 obtain⟨z,far,vs,rel,o,es,ep,e1,e2,e3,kk,pr,nd⟩:=(show cF X.prog X.w H s.heap a (.dK kvs) from I.hok a _ h)
 refine⟨es,ep,⟨o,e1,e2,e3⟩,far,?_,z⟩
 clear z far e1 e2 e3 kk nd h
 generalize es.toList=l at pr
 induction pr generalizing kvs with
 |nil=>cases rel;exact .nil
 |@cons e k es' kvs' h1 h2 _ ih=>
  cases rel with
  |@cons p q ps qs r rs=>
   refine .cons ?_ (ih rs)
   obtain⟨r1,_⟩:=r
   show aT (kV p.1) e.key
   rw[r1]
   rcases iB h1 with⟨n,t,e4,e5⟩|⟨x,t,e4,e5⟩
   ·rw[e4,e5];exact⟨t,rfl⟩
   ·rw[e4,e5];exact⟨t,rfl⟩
theorem ax5 {es:Array DictEntry}{acc:Array Value}(h:ItemsOf (λi v=>∃lt:i<es.size,es[i].key=v) acc es.size):acc.toList=es.toList.map (·.key):=by
 apply List.ext_getElem?
 intro j
 have h1:=h.1
 by_cases hj:j<es.size
 ·have hj':j<acc.size:=by rw[h1];exact hj
  obtain⟨_,e⟩:=h.2 j acc[j] (by simp[hj'])
  rw[bm7]
  simp[hj,hj',e]
 ·have hj':¬j<acc.size:=by rw[h1];exact hj
  rw[bm7]
  simp[Nat.le_of_not_lt hj,Nat.le_of_not_lt hj']
end
def M4 (outer:List (Str×NameKind))(XN:List Str)(names:List (Str×NameKind))(N:List Str)(fr:List (Option Nat)):Bool:=
 names.all (λy=>!(y.2==.cell)||names.lookup y.1==some .cell)&&names.all (λy=>!(y.2==.local)||names.lookup y.1==some .local) &&
 names.all (λy=>!(y.2==.free)||(outer.lookup y.1==some .cell||outer.lookup y.1==some .free))&&fr.length==N.length &&
 (fr.zip N).all (λp=>match p.1 with
  |none=>true
  |some j=>XN[j]?==some p.2&&names.lookup p.2==some .free)
theorem eW.of {X:Cx}{scope:Scope}{N:List Str}{fr:List (Option Nat)}(hk:scope.kind = .function)(h:M4 X.env.scope.names X.N scope.names N fr=true):eW X scope N fr:=by
 unfold M4 at h
 simp only[bn4]at h
 obtain⟨⟨⟨⟨h1,h2⟩,h3⟩,h4⟩,h5⟩:=h
 refine⟨hk,λy hy e=>?_,λy hy e=>?_,λy hy e=>?_,by simpa using h4,λi j e=>?_⟩
 ·have:=bt2.mp h1 y hy
  rw[e]at this;simpa using this
 ·have:=bt2.mp h2 y hy
  rw[e]at this;simpa using this
 ·have:=bt2.mp h3 y hy
  rw[e]at this;simpa using this
 ·have hl:fr.length=N.length:=by simpa using h4
  have hi:i<fr.length:=(bl7.mp e).1
  have m:(some j,N[i]'(by omega))∈fr.zip N:=by
   have:(fr.zip N)[i]? = some (some j,N[i]'(by omega)):=by
    rw[List.getElem?_zip_eq_some]
    exact⟨e,by simp⟩
   exact bt0 this
  have:=bt2.mp h5 _ m
  simp only[bn4,beq_iff_eq]at this
  exact⟨N[i]'(by omega),by simp,this.1,this.2⟩
theorem wk0 {n:Option V}{r:St}{v:V}:Wk (none::r) (some v::r):=(Wk.refl (none::r)).set (i:=0) rfl
def oC (H:Hp)(ys:List V)(ls:aa):Prop:=Paired (λy l=>∃b,y = .ref b/\H b=some (.tup [.int l.1,.int l.2])) ys ls
structure M5 (H:Hp)(v:V)(ws:af)(ls:aa):Prop where
 at_:∃a p q ys,v = .ref a/\H a=some (.tup [.ref p,.ref q])/\H p=some (.tup (ws.map V.int))/\H q=some (.tup ys)/\oC H ys ls
theorem oC.get {H:Hp}:∀{ys:List V}{ls:aa}{i:Nat}{y:V},oC H ys ls->ys[i]? = some y->∃l b,ls[i]? = some l/\y = .ref b/\H b=some (.tup [.int l.1,.int l.2])
 |_,_,_,_,.nil,e=>by simp at e
 |_,_,0,_,.cons (b:=l) ⟨b,h1,h2⟩ _,e=>by simp at e;subst e;exact⟨l,b,rfl,h1,h2⟩
 |_,_,i+1,_,.cons _ t,e=>by
  obtain⟨l,b,h1,h2⟩:=oC.get (i:=i) t (by simpa using e)
  exact⟨l,b,by simpa using h1,h2⟩
def bS (ls:aa)(k:Int):af:=ls.flatMap λl=>(if l.1=k then [l.2] else [])++(if l.2=k then [l.1] else [])
theorem M6 (ls:aa)(l:Int×Int)(k:Int):bS (ls++[l]) k=bS ls k++((if l.1=k then [l.2] else [])++(if l.2=k then [l.1] else [])):=by
 unfold bS;rw[List.flatMap_append];simp
theorem ax6 {ls:aa}{i:Nat}{l:Int×Int}(h:ls[i]? = some l)(k:Int):bS (ls.take (i+1)) k=bS (ls.take i) k++((if l.1=k then [l.2] else [])++(if l.2=k then [l.1] else [])):=by
 rw[bu8,h];exact M6 _ _ _
structure iV (H H':Hp)(r:Addr)(bs:List Addr)(f:Nat->af):Prop where
 new:H r=none
 news:∀b∈bs,H b=none/\b≠r
 nd:bs.Nodup
 row:H' r=some (.lst (bs.map V.ref))
 rows:∀(k:Nat) (b:Addr),bs[k]? = some b->H' b=some (.lst ((f k).map V.int))
 same:aB H H'
theorem iV.congr {H H':Hp}{r:Addr}{bs:List Addr}{f g:Nat->af}(h:iV H H' r bs f)(e:∀k,k<bs.length->f k=g k):iV H H' r bs g:=
 ⟨h.new,h.news,h.nd,h.row,λk b hb=>by rw[<- e k (bl7.mp hb).1];exact h.rows k b hb,h.same⟩
theorem iV.app {H H':Hp}{r:Addr}{bs:List Addr}{f:Nat->af}(h:iV H H' r bs f){k:Nat}{b:Addr}(hb:bs[k]? = some b)(x:Int) :
  iV H (upd H' b (.lst ((f k).map V.int++[V.int x]))) r bs (λj=>if j=k then f j++[x] else f j):=by
 have hm:b∈bs:=bt0 hb
 refine⟨h.new,h.news,h.nd,by rw[aF (Ne.symm (h.news b hm).2)];exact h.row,λj c hc=>?_,λc o e=>by rw[aF (cX e (h.news b hm).1)];exact h.same c o e⟩
 by_cases hj:j=k
 ·subst hj
  rw[hb]at hc;cases hc
  rw[aU,if_pos rfl];simp
 ·rw[if_neg hj]
  have ne:c≠b:=λz=>by
   subst z
   obtain⟨i1,e1⟩:=bl7.mp hb
   obtain⟨i2,e2⟩:=bl7.mp hc
   refine hj (Nat.le_antisymm (Nat.le_of_not_lt λz=>?_) (Nat.le_of_not_lt λz=>?_))
   ·exact br9.mp h.nd _ _ i1 i2 z (e1.trans e2.symm)
   ·exact br9.mp h.nd _ _ i2 i1 z (e2.trans e1.symm)
  rw[aF ne];exact h.rows j c hc
theorem wK (ls:aa)(k:Int):(bS ls k).length<=2*ls.length:=by
 induction ls with
 |nil=>exact bk9 _
 |cons l r ih=>
  have e:bS (l::r) k=((if l.1=k then [l.2] else [])++(if l.2=k then [l.1] else []))++bS r k:=rfl
  rw[e,bl4,bl4,bo1]
  have h1:(if l.1=k then [l.2] else []).length<=1:=by split<;>simp
  have h2:(if l.2=k then [l.1] else []).length<=1:=by split<;>simp
  omega
theorem rJ {α:Type}{xs:List α}{i:Int}{v:α}(h0:0<=i)(h:xs[i.toNat]? = some v):atI xs i=some v:=by
 have:=at2 h
 rwa [show ((i.toNat:Nat):Int)=i by omega]at this
theorem gQ {n:Nat}(h:n<=16000000):n<sizeLine:=by rw[sizeLine_eq];omega
theorem rK {σ:St}{H:Hp}{A B:Hp->Prop}(h:A H):wD σ H λb H4=>if b=true then A H4 else B H4:=by
 show if true=true then A H else B H
 rw[if_pos rfl];exact h
theorem oE {K:ac}{H:Hp}{p:Addr}{xs:List V}(h:aM K H p xs):qZ K "list" (.ref p) H:=.inl ⟨rfl,xs,h⟩
end L2
namespace Zp
open PySem PyProof.Rows
section
variable {prog:Program}{w:World}{A:Around}{E:Value→Shared→Prop}{s:Shared}
theorem M7 {it t:Addr}{i:Nat}{items:Array Value}{x:Value}{Q:Value->Shared->Prop}(hi:s.heap.IsTupleIter it t i)(ht:s.heap.IsTuple t items)(hx:items[i]? = some x)(q:∀h',h'.IsTupleIter it t (i+1)->Heap.SameBut it s.heap h'->Q x { s with heap:=h' }):wpAny (model prog w) A (Builtin.SmallTypes.nextOf (.ref it)) Q E s:=by
 have T:=hi.typeIs
 obtain⟨o,e1,e2,e3⟩:=hi
 obtain⟨u,f1,_,k,f3⟩:=ht
 have slot:=PySem.F.slot_tuple_iterator_next
 have isref:(Value.ref t==Value.none)=false:=rfl
 unfold Builtin.SmallTypes.nextOf
 apply bk5
 apply bq5 (name:=Str.ofString "__next__") T slot
 apply bq7 slot T PySem.F.entry_tuple_iterator_next _ (PySem.F.args_tuple_iterator_next_1 _)
 change wpAny _ _ (field (.ref it) 0 >>= _) _ _ s
 apply bk5
 refine bq4 e1 e3 (x:=.ref t) rfl ?_
 change wpAny _ _ (if (Value.ref t==Value.none)=true then _ else _) _ _ s
 simp only[isref,bn5,bs8]
 change wpAny _ _ (field (.ref it) 1 >>= _) _ _ s
 apply bk5
 refine bq4 e1 e3 (x:=.int i 0) rfl ?_
 change wpAny _ _ (seqItems? (.ref t) >>= _) _ _ s
 apply bk5
 apply bx9 f1 f3
 simp only[Int.toNat_natCast,hx]
 apply bk5
 refine wpAny_setField e1 e3 (by simp) ?_
 apply bl0
 refine⟨x,rfl,bl0 (q _ ⟨_,Heap.get?_update_self _ e1 (Obj.isFreed_of_fields (Obj.data_mapFields e3 _)),?_,?_⟩ (Heap.SameBut.update ..))⟩
 ·rw[Obj.cls_mapFields];exact e2
 ·rw[Obj.data_mapFields e3];simp[rawInt]
theorem M8 {it t:Addr}{i:Nat}{items:Array Value}{Q:Value->Shared->Prop}(hh:A.handled=none)(hi:s.heap.IsTupleIter it t i)(ht:s.heap.IsTuple t items)(hx:items[i]? = none)(q:∀h' e,Heap.ExtBut it s.heap h'->(∃o,h'.get? e=some o/\o.cls = .type "StopIteration")->E (.ref e) { s with heap:=h' }):wpAny (model prog w) A (Builtin.SmallTypes.nextOf (.ref it)) Q E s:=by
 have T:=hi.typeIs
 obtain⟨o,e1,e2,e3⟩:=hi
 obtain⟨u,f1,_,k,f3⟩:=ht
 have slot:=PySem.F.slot_tuple_iterator_next
 have isref:(Value.ref t==Value.none)=false:=rfl
 unfold Builtin.SmallTypes.nextOf
 apply bk5
 apply bq5 (name:=Str.ofString "__next__") T slot
 apply bq7 slot T PySem.F.entry_tuple_iterator_next _ (PySem.F.args_tuple_iterator_next_1 _)
 change wpAny _ _ (field (.ref it) 0 >>= _) _ _ s
 apply bk5
 refine bq4 e1 e3 (x:=.ref t) rfl ?_
 change wpAny _ _ (if (Value.ref t==Value.none)=true then _ else _) _ _ s
 simp only[isref,bn5,bs8]
 change wpAny _ _ (field (.ref it) 1 >>= _) _ _ s
 apply bk5
 refine bq4 e1 e3 (x:=.int i 0) rfl ?_
 change wpAny _ _ (seqItems? (.ref t) >>= _) _ _ s
 apply bk5
 apply bx9 f1 f3
 simp only[Int.toNat_natCast,hx]
 apply bk5
 apply bz4
 apply bk5
 refine wpAny_setField e1 e3 (by simp) ?_
 apply bk5
 simp only[newExc,newTuple]
 apply bk5
 refine br7 ?_ (by size_fits)
 apply bk5
 refine wpAny_of_eq (a:=Value.none) (by first|rfl|(simp only[firstArgMember];rfl)) ?_
 refine br7 ?_ (by size_fits)
 unfold raiseNew
 apply bk5
 apply wpAny_handled
 have quiet:A.in1.handled=none:=hh
 rw[quiet]
 refine wpAny_throw ?_
 exact q _ _ (((Heap.SameBut.update ..).extBut.push _).push _) ⟨_,bm0 _ rfl,rfl⟩
theorem ax7 (hh:A.handled=none)(it t:Addr)(ne:t≠it)(items:Array Value):Draws prog w A it [it,t] items.size (λi v=>items[i]? = some v) (λi h=>h.IsTupleIter it t i/\h.IsTuple t items) where
 live:=λ_ _ st=>st.1.elim λo y=>⟨o,y.1⟩
 frame:=λ_ _ _ st k=>⟨st.1.at λo e=>k it bm8 o e,st.2.elim λo y=>⟨o,k t (bm9 _ bm8) o y.1,y.2⟩⟩
 item:=λi s Q E lt st q=>M7 st.1 st.2 (Array.getElem?_eq_getElem lt) λh' again sb=>q _ h' s.toks (Array.getElem?_eq_getElem lt) ⟨again,st.2.elim λo y=>⟨o,sb.extBut t o ne y.1,y.2⟩⟩ sb
 done:=λs Q E st q=>M8 hh st.1 st.2 (Array.getElem?_eq_none (bk9 _)) q
end
structure Ap (z TI TO i1 i2:Addr)(fp1 fp2:List Addr):Prop where
 TIz:TI≠z
 TOz:TO≠z
 TITO:TI≠TO
 z1:z∉fp1
 z2:z∉fp2
 o1:TO∉fp1
 o2:TO∉fp2
 t1:TI∉fp1
 t2:TI∉fp2
 m1:i1∈fp1
 m2:i2∈fp2
 n1:i1∉fp2
 n2:i2∉fp1
structure wL (z TI TO i1 i2:Addr)(St1 St2:Nat->Heap->Prop)(f0:Value)(i j:Nat)(h:Heap):Prop where
 zz:IsZip h z TI TO f0
 ti:IsPair h TI (.ref i1) (.ref i2)
 to_:∃a b,IsPair h TO a b
 s1:St1 i h
 s2:St2 j h
section
variable {prog:Program}{w:World}{A:Around}{E:Value→Shared→Prop}{s:Shared}{z TI TO i1 i2:Addr}{fp1 fp2:List Addr}{n1 n2:Nat}{P1 P2:Nat→Value→Prop}{St1 St2:Nat→Heap→Prop}
theorem m6 (ap:Ap z TI TO i1 i2 fp1 fp2){b:Addr}(h:b∉fp1):b≠i1:=λe=>h (e▸ap.m1)
theorem rL (ap:Ap z TI TO i1 i2 fp1 fp2){b:Addr}(h:b∉fp2):b≠i2:=λe=>h (e▸ap.m2)
theorem item (D1:Draws prog w A.in1 i1 fp1 n1 P1 St1)(D2:Draws prog w A.in1 i2 fp2 n2 P2 St2)(ap:Ap z TI TO i1 i2 fp1 fp2){i:Nat}(l1:i<n1)(l2:i<n2)(st:wL z TI TO i1 i2 St1 St2 .none i i s.heap){Q:Option Value->Shared->Prop}(q:∀x y h' tk,P1 i x->P2 i y->wL z TI TO i1 i2 St1 St2 (rawInt s.heap.objs.size) (i+1) (i+1) h'->IsPair h' s.heap.objs.size x y->(∀c o,c≠z->c≠TO->c≠i1->c≠i2->s.heap.get? c=some o->h'.get? c=some o)->
   h'.objs.size=s.heap.objs.size+1->Q (some (.ref s.heap.objs.size)) { s with heap:=h',toks:=tk }):wpAny (model prog w) A (pyNext (.ref z)) Q E s:=by
 obtain⟨hz,hti,⟨a,b,hto⟩,h1,h2⟩:=st
 have T:s.TypeIs (.ref z) "zip":=⟨_,hz,rfl⟩
 have slot:=PySem.F.slot_zip_next
 unfold pyNext
 apply bk5
 apply wpAny_attempt
 apply bq5 (name:=Str.ofString "__next__") T slot
 apply bq7 slot T PySem.F.entry_zip_next _ (PySem.F.args_zip_next_1 _)
 change wpAny _ _ (field (.ref z) 2 >>= _) _ _ _
 apply bk5
 refine bq4 hz rfl (x:=.bool false) rfl ?_
 change wpAny _ _ (field (.ref z) 3 >>= _) _ _ _
 apply bk5
 refine bq4 hz rfl (x:=.ref TI) rfl ?_
 apply bk5
 apply bx9 hti rfl
 change wpAny _ _ (Builtin.SmallTypes.ownedTupleIsFree (.ref z) >>= _) _ _ _
 apply bk5
 unfold Builtin.SmallTypes.ownedTupleIsFree
 apply bk5
 refine bq4 hz rfl (x:=.none) rfl (bl0 ?_)
 simp only[if_true]
 apply bk5
 apply bz4
 apply bk5
 refine bq4 hz rfl (x:=.ref TO) rfl ?_
 apply bk5
 refine br3 hz (by simp) λg1 hz1 sb1=>?_
 have k1:∀c o,c≠z->s.heap.get? c=some o->g1.get? c=some o:=λc o c1 e=>sb1.extBut c o c1 e
 apply bk5
 simp only[List.zipIdx_cons,List.zipIdx_nil,List.forIn_cons,List.forIn_nil]
 apply bk5
 apply bk5
 apply wpAny_onRaise
 change wpAny _ _ (Builtin.SmallTypes.nextOf (.ref i1) >>= _) _ _ _
 apply bk5
 refine D1.item i { s with heap:=g1 } _ _ l1 (D1.frame _ _ _ h1 λc hc o e=>k1 c o (λy=>ap.z1 (y▸hc)) e) λx g2 tk2 px st1 sb2=>bl0 ?_
 have k2:∀c o,c≠z->c≠i1->s.heap.get? c=some o->g2.get? c=some o:=λc o c1 c2 e=>sb2.extBut c o c2 (k1 c o c1 e)
 have to2:IsPair g2 TO a b:=k2 _ _ ap.TOz (m6 ap ap.o1) hto
 apply bk5
 apply bx9 to2 rfl
 apply bk5
 refine wpAny_updateSeq_pair to2 λg3 to3 sb3=>?_
 have to3:IsPair g3 TO x b:=to3
 apply bk5
 apply wpAny_letGo
 apply bl0
 apply bk5
 apply bk5
 apply wpAny_onRaise
 change wpAny _ _ (Builtin.SmallTypes.nextOf (.ref i2) >>= _) _ _ _
 apply bk5
 have k3:∀c o,c≠z->c≠i1->c≠TO->s.heap.get? c=some o->g3.get? c=some o:=λc o c1 c2 c3 e=>sb3.extBut c o c3 (k2 c o c1 c2 e)
 refine D2.item i { s with heap:=g3,toks:=tk2 } _ _ l2 (D2.frame _ _ _ h2 λc hc o e=>k3 c o (λy=>ap.z2 (y▸hc)) (λy=>ap.n1 (y▸hc)) (λy=>ap.o2 (y▸hc)) e) λy g4 tk4 py st2 sb4=>bl0 ?_
 have to4:IsPair g4 TO x b:=sb4.extBut _ _ (rL ap ap.o2) to3
 apply bk5
 apply bx9 to4 rfl
 apply bk5
 refine wpAny_updateSeq_pair to4 λg5 to5 sb5=>?_
 have to5:IsPair g5 TO x y:=to5
 apply bk5
 apply wpAny_letGo
 apply bl0
 apply bl0
 apply bk5
 apply bx9 to5 rfl
 apply bk5
 refine wpAny_newTuple ?_ (by show 2<=sizeLine;decide)
 have size:g5.objs.size=s.heap.objs.size:=by rw[sb5.1,sb4.1,sb3.1,sb2.1,sb1.1]
 have k5:∀c o,c≠z->c≠TO->c≠i1->c≠i2->s.heap.get? c=some o->g5.get? c=some o:=λc o c1 c2 c3 c4 e=>sb5.extBut c o c2 (sb4.extBut c o c4 (k3 c o c1 c3 c2 e))
 have z5:IsZip g5 z TI TO .ellipsis:=sb5.extBut _ _ (Ne.symm ap.TOz) (sb4.extBut _ _ (rL ap ap.z2) (sb3.extBut _ _ (Ne.symm ap.TOz) (sb2.extBut _ _ (m6 ap ap.z1) hz1)))
 change wpAny _ _ (Builtin.SmallTypes.ownedTupleHandOut (.ref z) (.ref g5.objs.size) >>= _) _ _ _
 apply bk5
 unfold Builtin.SmallTypes.ownedTupleHandOut
 apply bk5
 have z6:IsZip (g5.push { cls:=.type "tuple",data:=.seq #[x,y] }) z TI TO .ellipsis:=bk6 _ z5
 refine br3 z6 (by simp) λg7 z7 sb7=>?_
 have z7:IsZip g7 z TI TO (rawInt g5.objs.size):=z7
 refine br3 z7 (by simp) λg8 z8 sb8=>?_
 have z8:IsZip g8 z TI TO (rawInt g5.objs.size):=z8
 have zlt:z<g5.objs.size:=bl8 z5
 have up:∀c o,c≠z->g5.get? c=some o->g8.get? c=some o:=λc o c1 e=>sb8.extBut c o c1 (sb7.extBut c o c1 (bk6 _ e))
 have p8:IsPair g8 g5.objs.size x y:=sb8.extBut _ _ (bs6 zlt) (sb7.extBut _ _ (bs6 zlt) (bm0 _ rfl))
 have s8:g8.objs.size=g5.objs.size+1:=by rw[sb8.1,sb7.1,bs2]
 have f1:St1 (i+1) g8:=D1.frame _ _ _ st1 λc hc o e=>up c o (λy=>ap.z1 (y▸hc)) (sb5.extBut c o (λy=>ap.o1 (y▸hc)) (sb4.extBut c o (λy=>ap.n2 (y▸hc)) (sb3.extBut c o (λy=>ap.o1 (y▸hc)) e)))
 have f2:St2 (i+1) g8:=D2.frame _ _ _ st2 λc hc o e=>up c o (λy=>ap.z2 (y▸hc)) (sb5.extBut c o (λy=>ap.o2 (y▸hc)) e)
 have ti8:IsPair g8 TI (.ref i1) (.ref i2):=up _ _ ap.TIz (k5 _ _ ap.TIz ap.TITO (m6 ap ap.t1) (rL ap ap.t2) hti)
 rw[size]at z8 p8 s8
 apply bl0
 refine⟨_,rfl,bl0 ?_⟩
 change Q (some (.ref g5.objs.size)) _
 rw[size]
 exact q x y g8 tk4 px py ⟨z8,ti8,⟨x,y,up _ _ ap.TOz to5⟩,f1,f2⟩ p8 (λc o c1 c2 c3 c4 e=>up c o c1 (k5 c o c1 c2 c3 c4 e)) s8
theorem fin (D1:Draws prog w A.in1 i1 fp1 n1 P1 St1)(D2:Draws prog w A.in1 i2 fp2 n2 P2 St2)(ap:Ap z TI TO i1 i2 fp1 fp2){i:Nat}(le:i=n1∨(i<n1/\i=n2))(st:wL z TI TO i1 i2 St1 St2 .none i i s.heap){Q:Option Value->Shared->Prop}(q:∀h' tk,(∀c o,c≠z->c≠TO->c≠i1->c≠i2->s.heap.get? c=some o->h'.get? c=some o)->Q none { s with heap:=h',toks:=tk }):wpAny (model prog w) A (pyNext (.ref z)) Q E s:=by
 obtain⟨hz,hti,⟨a,b,hto⟩,h1,h2⟩:=st
 have T:s.TypeIs (.ref z) "zip":=⟨_,hz,rfl⟩
 have slot:=PySem.F.slot_zip_next
 unfold pyNext
 apply bk5
 apply wpAny_attempt
 apply bq5 (name:=Str.ofString "__next__") T slot
 apply bq7 slot T PySem.F.entry_zip_next _ (PySem.F.args_zip_next_1 _)
 change wpAny _ _ (field (.ref z) 2 >>= _) _ _ _
 apply bk5
 refine bq4 hz rfl (x:=.bool false) rfl ?_
 change wpAny _ _ (field (.ref z) 3 >>= _) _ _ _
 apply bk5
 refine bq4 hz rfl (x:=.ref TI) rfl ?_
 apply bk5
 apply bx9 hti rfl
 change wpAny _ _ (Builtin.SmallTypes.ownedTupleIsFree (.ref z) >>= _) _ _ _
 apply bk5
 unfold Builtin.SmallTypes.ownedTupleIsFree
 apply bk5
 refine bq4 hz rfl (x:=.none) rfl (bl0 ?_)
 simp only[if_true]
 apply bk5
 apply bz4
 apply bk5
 refine bq4 hz rfl (x:=.ref TO) rfl ?_
 apply bk5
 refine br3 hz (by simp) λg1 hz1 sb1=>?_
 have k1:∀c o,c≠z->s.heap.get? c=some o->g1.get? c=some o:=λc o c1 e=>sb1.extBut c o c1 e
 apply bk5
 simp only[List.zipIdx_cons,List.zipIdx_nil,List.forIn_cons,List.forIn_nil]
 apply bk5
 apply bk5
 apply wpAny_onRaise
 change wpAny _ _ (Builtin.SmallTypes.nextOf (.ref i1) >>= _) _ _ _
 apply bk5
 have z1:IsZip g1 z TI TO .ellipsis:=hz1
 rcases le with rfl|⟨lt,rfl⟩
 ·refine D1.done { s with heap:=g1 } _ _ (D1.frame _ _ _ h1 λc hc o e=>k1 c o (λy=>ap.z1 (y▸hc)) e) λg2 e eb ex=>?_
  have z2:IsZip g2 z TI TO .ellipsis:=eb _ _ (m6 ap ap.z1) z1
  refine br3 z2 (by simp) λg3 z3 sb3=>?_
  obtain⟨oe,eo,co⟩:=ex
  have ne:e≠z:=λy=>by
   rw[y,z2]at eo
   have:=bl6 eo
   rw[<- this]at co;exact absurd (show Value.type "zip" = Value.type "StopIteration" from co) (by decide)
  apply bk5
  refine wpAny_isInstance (T:="StopIteration") (b:=true) ⟨oe,sb3.extBut _ _ ne eo,co⟩ isSubtype_stop ?_
  exact bl0 (q g3 s.toks λc o c1 _ c3 _ e=>sb3.extBut c o c1 (eb c o c3 (k1 c o c1 e)))
 ·refine D1.item i { s with heap:=g1 } _ _ lt (D1.frame _ _ _ h1 λc hc o e=>k1 c o (λy=>ap.z1 (y▸hc)) e) λx g2 tk2 px st1 sb2=>bl0 ?_
  have k2:∀c o,c≠z->c≠i1->s.heap.get? c=some o->g2.get? c=some o:=λc o c1 c2 e=>sb2.extBut c o c2 (k1 c o c1 e)
  have to2:IsPair g2 TO a b:=k2 _ _ ap.TOz (m6 ap ap.o1) hto
  apply bk5
  apply bx9 to2 rfl
  apply bk5
  refine wpAny_updateSeq_pair to2 λg3 to3 sb3=>?_
  apply bk5
  apply wpAny_letGo
  apply bl0
  apply bk5
  apply bk5
  apply wpAny_onRaise
  change wpAny _ _ (Builtin.SmallTypes.nextOf (.ref i2) >>= _) _ _ _
  apply bk5
  have k3:∀c o,c≠z->c≠i1->c≠TO->s.heap.get? c=some o->g3.get? c=some o:=λc o c1 c2 c3 e=>sb3.extBut c o c3 (k2 c o c1 c2 e)
  refine D2.done { s with heap:=g3,toks:=tk2 } _ _ (D2.frame _ _ _ h2 λc hc o e=>k3 c o (λy=>ap.z2 (y▸hc)) (λy=>ap.n1 (y▸hc)) (λy=>ap.o2 (y▸hc)) e) λg4 e eb ex=>?_
  have z4:IsZip g4 z TI TO .ellipsis:=eb _ _ (rL ap ap.z2) (sb3.extBut _ _ (Ne.symm ap.TOz) (sb2.extBut _ _ (m6 ap ap.z1) z1))
  refine br3 z4 (by simp) λg5 z5 sb5=>?_
  obtain⟨oe,eo,co⟩:=ex
  have ne:e≠z:=λy=>by
   rw[y,z4]at eo
   have:=bl6 eo
   rw[<- this]at co;exact absurd (show Value.type "zip" = Value.type "StopIteration" from co) (by decide)
  apply bk5
  refine wpAny_isInstance (T:="StopIteration") (b:=true) ⟨oe,sb5.extBut _ _ ne eo,co⟩ isSubtype_stop ?_
  exact bl0 (q g5 tk2 λc o c1 c2 c3 c4 e=>sb5.extBut c o c1 (eb c o c4 (k3 c o c1 c3 c2 e)))
end
def fZ (h:Heap)(t u:Addr):Heap:=
 ((((h.push { cls:=.type "tuple_iterator",data:=.fields #[.ref t,.int 0 0] }).push { cls:=.type "tuple_iterator",data:=.fields #[.ref u,.int 0 0] }).push { cls:=.type "tuple",data:=.seq #[.ref h.objs.size,.ref (h.objs.size+1)] }).push
  { cls:=.type "tuple",data:=.seq #[.none,.none] }).push { cls:=.type "zip",data:=.fields #[.none,.bool false,.bool false,.ref (h.objs.size+2),.ref (h.objs.size+3)] }
theorem ax8 (t u:Addr)(xs ys:Array Value):Meets (Builtin.«zip.__new__» ⟨[.type "zip",.ref t,.ref u],[]⟩) (λ_ R s=>s.heap.IsTuple t xs/\s.heap.IsTuple u ys/\R (.ok (.ret (.ref (s.heap.objs.size+4)))) { s with heap:=fZ s.heap t u }):=
 .of_wp λprog w A R s h=>by
  obtain⟨hp,g,d,tk,os⟩:=s
  obtain⟨ht,hu,h⟩:=h
  have sub:=sub_zip
  have a1:Heap.IsTuple (Shared.heap ⟨hp,g,d,tk,os⟩) t xs:=ht
  have a2:Heap.IsTuple (Shared.heap ⟨hp.push { cls:=.type "tuple_iterator",data:=.fields #[.ref t,.int 0 0] },g,d,tk,os⟩) u ys:=hu.elim λo y=>⟨o,bk6 _ y.1,y.2⟩
  wp_walk using bv7 a1,bv7 a2
  have e:∀(o:Obj) (k:Heap),(k.push o).objs.size=k.objs.size+1:=λo k=>bs2 ..
  refine⟨_,rfl,?_⟩
  simp only[fZ,e]at h ⊢
  exact h
section
variable {prog:Program}{w:World}{A:Around}{E:Value→Shared→Prop}{s:Shared}
theorem ax9 {t u:Addr}{xs ys:Array Value}{Q:Value->Shared->Prop}(ht:s.heap.IsTuple t xs)(hu:s.heap.IsTuple u ys)(q:∀h',IsZip h' (s.heap.objs.size+4) (s.heap.objs.size+2) (s.heap.objs.size+3) .none->IsPair h' (s.heap.objs.size+2) (.ref s.heap.objs.size) (.ref (s.heap.objs.size+1))->
   IsPair h' (s.heap.objs.size+3) .none .none->h'.IsTupleIter s.heap.objs.size t 0->h'.IsTupleIter (s.heap.objs.size+1) u 0->(∀c o,s.heap.get? c=some o->h'.get? c=some o)->Q (.ref (s.heap.objs.size+4)) { s with heap:=h' }) :
  wpAny (model prog w) A (call (.type "zip") [.ref t,.ref u]) Q E s:=by
 refine callType_new PySem.F.called_zip (by decide) (PySem.F.typeCall_zip_2 _ _) (PySem.F.newCall_zip_2 _ _) (λobj=>PySem.F.args_object_init_3 obj _ _) PySem.F.entry_zip_new (ax8 t u xs ys) ⟨ht,hu,?_⟩
 have e:∀(o:Obj) (k:Heap),(k.push o).objs.size=k.objs.size+1:=λo k=>bs2 ..
 have p0:∀(k:Heap) (o:Obj) (m:Nat),o.isFreed=false->m=k.objs.size->(k.push o).get? m=some o:=λk o m f z=>by rw[z];exact bm0 _ f
 have g0:(fZ s.heap t u).get? s.heap.objs.size=some { cls:=.type "tuple_iterator",data:=.fields #[.ref t,.int 0 0] }:=by
  unfold fZ
  exact bk6 _ (bk6 _ (bk6 _ (bk6 _ (p0 _ _ _ rfl rfl))))
 have g1:(fZ s.heap t u).get? (s.heap.objs.size+1)=some { cls:=.type "tuple_iterator",data:=.fields #[.ref u,.int 0 0] }:=by
  unfold fZ
  exact bk6 _ (bk6 _ (bk6 _ (p0 _ _ _ rfl (by simp only[e]))))
 have g2:(fZ s.heap t u).get? (s.heap.objs.size+2)=some { cls:=.type "tuple",data:=.seq #[.ref s.heap.objs.size,.ref (s.heap.objs.size+1)] }:=by
  unfold fZ
  exact bk6 _ (bk6 _ (p0 _ _ _ rfl (by simp only[e])))
 have g3:(fZ s.heap t u).get? (s.heap.objs.size+3)=some { cls:=.type "tuple",data:=.seq #[.none,.none] }:=by
  unfold fZ
  exact bk6 _ (p0 _ _ _ rfl (by simp only[e]))
 have g4:(fZ s.heap t u).get? (s.heap.objs.size+4)=some { cls:=.type "zip",data:=.fields #[.none,.bool false,.bool false,.ref (s.heap.objs.size+2),.ref (s.heap.objs.size+3)] }:=by
  unfold fZ
  exact p0 _ _ _ rfl (by simp only[e])
 refine⟨⟨_,g4,rfl⟩,q _ g4 g2 g3 ⟨_,g0,rfl,rfl⟩ ⟨_,g1,rfl,rfl⟩ λc o z=>?_⟩
 unfold fZ
 exact bk6 _ (bk6 _ (bk6 _ (bk6 _ (bk6 _ z))))
end
end Zp
namespace L2
open PySem PySem.Spec PyProof.Rows
def wM (K:ac)(a b:Addr):It:=
  ⟨λi H=>∃xs ys x y,aL K H a xs/\aL K H b ys/\xs[i]? = some x/\ys[i]? = some y,
   λi H v H'=>∃T x y,H T=none/\v = .ref T/\H'=upd H T (.tup [x,y])/\∀xs ys,aL K H a xs->aL K H b ys->xs[i]? = some x/\ys[i]? = some y,
   λi H=>∃xs ys,aL K H a xs/\aL K H b ys/\(i=xs.length∨(i<xs.length/\i=ys.length))⟩
def Sq (t:Bool)(K:ac)(H:Hp)(a:Addr)(xs:List V):Prop:=match t with
 |true=>aL K H a xs
 |false=>aM K H a xs
def g9 (t:Bool)(h:Heap)(i a:Addr)(n:Nat):Prop:=match t with
 |true=>h.IsTupleIter i a n
 |false=>h.IsListIter i a n
def M9 (t:Bool)(h:Heap)(a:Addr)(xs:Array Value):Prop:=match t with
 |true=>h.IsTuple a xs
 |false=>h.IsList a xs
theorem g9.at {h h':Heap}{i a:Addr}{n:Nat}:∀{t:Bool},g9 t h i a n->(∀o,h.get? i=some o->h'.get? i=some o)->g9 t h' i a n
 |true,x,k=>Heap.IsTupleIter.at x k
 |false,x,k=>Heap.IsListIter.at x k
theorem g9.ob {h:Heap}{i a:Addr}{n:Nat}:∀{t:Bool},g9 t h i a n->∃o,h.get? i=some o/\∀v,o.data≠.cell v
 |true,⟨o,f,_,d⟩=>⟨o,f,λv q=>by rw[d]at q;cases q⟩
 |false,⟨o,f,_,d⟩=>⟨o,f,λv q=>by rw[d]at q;cases q⟩
theorem g9.draws {prog:Program}{w:World}{A:Around}:∀(t:Bool) (hh:A.handled=none) (it a:Addr) (ne:a≠it) (items:Array Value),Draws prog w A it [it,a] items.size (λi v=>items[i]? = some v) (λi h=>g9 t h it a i/\M9 t h a items)
 |true,hh,it,a,ne,items=>Zp.ax7 hh it a ne items
 |false,hh,it,a,ne,items=>Draws.list hh it a ne items
section
variable {X:Cx}{pins:List (Addr×Obj)}{σ:St}{H:Hp}{s:Shared}{a:Addr}{xs ys:List V}
theorem Sq.get (I:a8 X pins σ H s):∀{t:Bool},Sq t X.K H a xs->∃us,aQ xs us/\M9 t s.heap a us.toArray
 |true,h=>by obtain⟨us,r,p,_⟩:=I.tuple h;exact⟨us,r,p⟩
 |false,h=>by obtain⟨us,r,p,_⟩:=I.list h;exact⟨us,r,p.isList⟩
theorem Sq.inj (I:a8 X pins σ H s):∀{t:Bool},Sq t X.K H a xs->Sq t X.K H a ys->xs=ys
 |true,h,g=>I.tuple_inj h g
 |false,h,g=>I.list_inj h g
theorem Sq.off (I:a8 X pins σ H s)(he:H a=none)(hb:X.base.get? a=none):∀{t:Bool},Sq t X.K H a xs->False
 |true,h=>by
  rcases h with (h|⟨_,h⟩)|⟨o,_,_,h,_⟩
  ·rw[he]at h;cases h
  ·rw[he]at h;cases h
  ·have:=I.ok.mod.kin a o h
   rw[hb]at this;cases this
 |false,h=>by
  rcases h with (h|⟨_,h⟩)|⟨o,_,_,h,_⟩
  ·rw[he]at h;cases h
  ·rw[he]at h;cases h
  ·have:=I.ok.mod.kin a o h
   rw[hb]at this;cases this
end
def ay0 (t1 t2:Bool)(K:ac)(a b:Addr):It:=
  ⟨λi H=>∃xs ys x y,Sq t1 K H a xs/\Sq t2 K H b ys/\xs[i]? = some x/\ys[i]? = some y,
   λi H v H'=>∃T x y,H T=none/\v = .ref T/\H'=upd H T (.tup [x,y])/\∀xs ys,Sq t1 K H a xs->Sq t2 K H b ys->xs[i]? = some x/\ys[i]? = some y,
   λi H=>∃xs ys,Sq t1 K H a xs/\Sq t2 K H b ys/\(i=xs.length∨(i<xs.length/\i=ys.length))⟩
structure wN (t1 t2:Bool)(z TI TO i1 i2 a b:Addr)(i:Nat)(h:Heap):Prop where
 zz:IsZip h z TI TO .none
 ti:IsPair h TI (.ref i1) (.ref i2)
 to_:∃x y,IsPair h TO x y
 s1:g9 t1 h i1 a i
 s2:g9 t2 h i2 b i
theorem N0 (t1 t2:Bool){P:Program}{w:World}{K:ac}{elts:List Expr}{k:Nat}{pos:Pos}(a b z TI TO i1 i2:Addr)(d:[z,TI,TO,i1,i2].Nodup) :
  iD P w K (.Tuple elts k pos) (ay0 t1 t2 K a b) [z,TI,TO,i1,i2] z (wN t1 t2 z TI TO i1 i2 a b):=by
 have nd:z≠TI/\z≠TO/\z≠i1/\z≠i2/\TI≠TO/\TI≠i1/\TI≠i2/\TO≠i1/\TO≠i2/\i1≠i2:=by
  simp only[List.nodup_cons,bl2,bm1,bp1,not_or]at d
  obtain⟨⟨a1,a2,a3,a4⟩,⟨b1,b2,b3⟩,⟨c1,c2⟩,e1,_⟩:=d
  exact⟨a1,a2,a3,a4,b1,b2,b3,c1,c2,e1⟩
 obtain⟨n1,n2,n3,n4,n5,n6,n7,n8,n9,n10⟩:=nd
 have offBase:∀{X:Cx}{pins:List (Addr×Obj)}{σ:St}{H:Hp}{s:Shared},a8 X pins σ H s->(∀c∈[z,TI,TO,i1,i2],gK X pins H c)->∀c∈[z,TI,TO,i1,i2],X.base.get? c=none:=by
  intro X pins σ H s I hf c hc
  cases q:X.base.get? c with
  |none=>rfl
  |some o=>
   rcases (hf c hc).2.2.2.1 with h|h
   ·exact absurd h (I.ok.noex c o q)
   ·exact absurd (bm5 (bl8 q) (bo3 I.ok.bsz h)) (br2 _)
 have off:∀{t:Bool}{X:Cx}{pins:List (Addr×Obj)}{σ:St}{H:Hp}{s:Shared}{c:Addr}{zs:List V},a8 X pins σ H s->(∀c∈[z,TI,TO,i1,i2],gK X pins H c)->Sq t X.K H c zs->c∉[z,TI,TO,i1,i2]:=by
  intro t X pins σ H s c zs I hf hc hm
  exact Sq.off I (hf c hm).1 (offBase I hf c hm) hc
 have ap:∀{c e:Addr},c∉[z,TI,TO,i1,i2]->e∉[z,TI,TO,i1,i2]->Zp.Ap z TI TO i1 i2 [i1,c] [i2,e]:=λ{c e} hc he=>by
  simp only[bl2,bm1,bp1,not_or]at hc he
  obtain⟨c1,c2,c3,c4,c5⟩:=hc
  obtain⟨e1,e2,e3,e4,e5⟩:=he
  have two:∀{q u v:Addr},q≠u->q≠v->q∉[u,v]:=λ{q u v} h1 h2 hm=>by
   simp only[bl2,bm1,bp1]at hm
   exact hm.elim h1 h2
  exact⟨n1.symm,n2.symm,n5,two n3 (Ne.symm c1),two n4 (Ne.symm e1),two n8 (Ne.symm c3),two n9 (Ne.symm e3),two n6 (Ne.symm c2),two n7 (Ne.symm e2),bm8,bm8,two n10 (Ne.symm e4),two n10.symm (Ne.symm c5)⟩
 refine⟨by simp,λi h st c hc=>?_,λi h h' st kp=>?_,?_,?_,λA i s Q E st q=>wpAny_pyIter_zip st.zz q⟩
 ·simp only[bl2,bm1,bp1]at hc
  obtain⟨x,y,to⟩:=st.to_
  rcases hc with rfl|rfl|rfl|rfl|rfl
  ·exact⟨_,st.zz,λv q=>by cases q⟩
  ·exact⟨_,st.ti,λv q=>by cases q⟩
  ·exact⟨_,to,λv q=>by cases q⟩
  ·exact st.s1.ob
  ·exact st.s2.ob
 ·obtain⟨x,y,to⟩:=st.to_
  exact⟨kp z (by simp) _ st.zz,kp TI (by simp) _ st.ti,⟨x,y,kp TO (by simp) _ to⟩,st.s1.at λo e=>kp i1 (by simp) o e,st.s2.at λo e=>kp i2 (by simp) o e⟩
 ·
  intro X hP hw hK hc i pins s σ H E I hf st hg
  subst hP hw hK
  obtain⟨xs,ys,x,y,ha,hb,hx,hy⟩:=hg
  obtain⟨us,ru,pu⟩:=Sq.get I ha
  obtain⟨vs,rv,pv'⟩:=Sq.get I hb
  obtain⟨ux,eux,rux⟩:=ru.get hx
  obtain⟨vy,evy,rvy⟩:=rv.get hy
  have fa:=off I hf ha
  have fb:=off I hf hb
  have hh:X.A.in1.handled=none:=I.ok.hd hc
  have l1:i<us.toArray.size:=by simpa using (bl7.mp eux).1
  have l2:i<vs.toArray.size:=by simpa using (bl7.mp evy).1
  have fa':a≠i1:=λq=>fa (by rw[q];simp)
  have fb':b≠i2:=λq=>fb (by rw[q];simp)
  have D1:=g9.draws t1 (prog:=X.prog) (w:=X.w) hh i1 a fa' us.toArray
  have D2:=g9.draws t2 (prog:=X.prog) (w:=X.w) hh i2 b fb' vs.toArray
  refine Zp.item D1 D2 (ap fa fb) l1 l2 ⟨st.zz,st.ti,st.to_,⟨st.s1,pu⟩,⟨st.s2,pv'⟩⟩ λp q h' tk hp hq st' pr kp sz=>⟨_,rfl,?_⟩
  obtain rfl:p=ux:=by
   have:us.toArray[i]? = some ux:=by simpa using eux
   rw[this]at hp;exact (bl6 hp).symm
  obtain rfl:q=vy:=by
   have:vs.toArray[i]? = some vy:=by simpa using evy
   rw[this]at hq;exact (bl6 hq).symm
  refine wpAny_letOwnedTupleGo_zip (s:={ s with heap:=h',toks:=tk }) st'.zz λg zz sb=>?_
  have hzl:z<s.heap.objs.size:=bl8 st.zz
  have up:∀c o,c≠z->c≠TO->c≠i1->c≠i2->s.heap.get? c=some o->g.get? c=some o:=λc o c1 c2 c3 c4 e=>sb.extBut c o c1 (kp c o c1 c2 c3 c4 e)
  have hT:H s.heap.objs.size=none:=I.hok.fresh (bk9 _)
  have prG:IsPair g s.heap.objs.size p q:=sb.extBut _ _ (bs6 hzl) pr
  have fpn:∀c u,H c=some u->c∉[z,TI,TO,i1,i2]:=λc u e hm=>by rw[(hf c hm).1]at e;cases e
  have upH:∀c o u,H c=some u->s.heap.get? c=some o->g.get? c=some o:=λc o u e z=>by
   have:=fpn c u e
   simp only[bl2,bm1,bp1,not_or]at this
   exact up c o this.1 this.2.2.1 this.2.2.2.1 this.2.2.2.2 z
  have ns:∀m,s.heap.Ns X.env.locals m->g.Ns X.env.locals m:=λm hm=>by
   obtain⟨o,es,ep,e1,e2⟩:=hm
   exact⟨o,es,ep,up _ o (Ne.symm (hf z (by simp)).2.1) (Ne.symm (hf TO (by simp)).2.1) (Ne.symm (hf i1 (by simp)).2.1) (Ne.symm (hf i2 (by simp)).2.1) e1,e2⟩
  have I2:a8 X pins σ (upd H s.heap.objs.size (.tup [x,y])) { s with heap:=g,toks:=tk }:=by
   refine I.step (g':=s.gens) (d':=s.drawn) (ch:=[z,TO,i1,i2]) (λc hc'=>?_) (λc o _ _ hc' e _=>?_) (λc o _ _ hc' e _=>⟨o.slots,?_⟩) (λc o _ e n=>?_) (λc o hc' e=>⟨o,?_⟩)
    (λc zs e=>by rw[aF (cX e hT)];exact e) (λc u zs e=>by rw[aF (cX e hT)];exact e) (λc ps e=>⟨#[],by rw[aF (cX e hT),e];simp⟩) ns (λc u e=>?_) I.bare
   ·have hm:c∈[z,TI,TO,i1,i2]:=by
     simp only[bl2,bm1,bp1]at hc' ⊢
     rcases hc' with h|h|h|h<;>simp[h]
    exact⟨(hf c hm).2.2.2.1,(hf c hm).2.1,(hf c hm).2.2.2.2.1,(hf c hm).2.2.2.2.2⟩
   ·simp only[bl2,bm1,bp1,not_or]at hc'
    exact up c o hc'.1 hc'.2.1 hc'.2.2.1 hc'.2.2.2 e
   ·simp only[bl2,bm1,bp1,not_or]at hc'
    exact up c o hc'.1 hc'.2.1 hc'.2.2.1 hc'.2.2.2 e
   ·rw[aF (bn6 (bl8 e))];exact n
   ·simp only[bl2,bm1,bp1,not_or]at hc'
    exact up c o hc'.1 hc'.2.1 hc'.2.2.1 hc'.2.2.2 e
   ·by_cases hcT:c=s.heap.objs.size
    ·subst hcT
     rw[aU]at e;cases e
     exact⟨by show 2<=sizeLine;decide,[p,q],.cons rux (.cons rvy .nil),⟨_,prG,rfl,_,rfl⟩,λu e=>by rw[prG]at e;cases e;rfl⟩
    ·rw[aF hcT]at e
     refine (I.hok c u e).stay (λc' o' hc2 q'=>?_) (λc' q'=>by rw[aF (cX q' hT)];exact q') λc' zs q'=>by rw[aF (cX q' hT)];exact q'
     rcases hc2 with rfl|hc2
     ·exact upH _ _ _ e q'
     ·exact upH _ _ _ hc2 q'
  obtain⟨x',y',to'⟩:=st'.to_
  refine⟨.ref s.heap.objs.size,_,I2,rfl,⟨_,x,y,hT,rfl,rfl,λxs' ys' ha' hb'=>?_⟩,⟨zz,sb.extBut _ _ n1.symm st'.ti,⟨x',y',sb.extBut _ _ n2.symm to'⟩,st'.s1.1.at λo e=>sb.extBut _ o n3.symm e,st'.s2.1.at λo e=>sb.extBut _ o n4.symm e⟩,λc hc'=>?_⟩
  ·rw[Sq.inj I ha' ha,Sq.inj I hb' hb];exact⟨hx,hy⟩
  ·obtain⟨o,e,_⟩:∃o,s.heap.get? c=some o/\True:=by
    simp only[bl2,bm1,bp1]at hc'
    obtain⟨x2,y2,to2⟩:=st.to_
    obtain⟨o1,f1,_⟩:=st.s1.ob
    obtain⟨o2,f2,_⟩:=st.s2.ob
    rcases hc' with rfl|rfl|rfl|rfl|rfl
    ·exact⟨_,st.zz,trivial⟩
    ·exact⟨_,st.ti,trivial⟩
    ·exact⟨_,to2,trivial⟩
    ·exact⟨_,f1,trivial⟩
    ·exact⟨_,f2,trivial⟩
   rw[aF (bn6 (bl8 e))];exact (hf c hc').1
 ·
  intro X hP hw hK hc i pins s σ H E I hf st hg
  subst hP hw hK
  obtain⟨xs,ys,ha,hb,hi⟩:=hg
  obtain⟨us,ru,pu⟩:=Sq.get I ha
  obtain⟨vs,rv,pv'⟩:=Sq.get I hb
  have fa:=off I hf ha
  have fb:=off I hf hb
  have hh:X.A.in1.handled=none:=I.ok.hd hc
  have fa':a≠i1:=λq=>fa (by rw[q];simp)
  have fb':b≠i2:=λq=>fb (by rw[q];simp)
  have D1:=g9.draws t1 (prog:=X.prog) (w:=X.w) hh i1 a fa' us.toArray
  have D2:=g9.draws t2 (prog:=X.prog) (w:=X.w) hh i2 b fb' vs.toArray
  have e1:=ru.length
  have e2:=rv.length
  refine Zp.fin D1 D2 (ap fa fb) (by simp only[bk7];omega) ⟨st.zz,st.ti,st.to_,⟨st.s1,pu⟩,⟨st.s2,pv'⟩⟩ λg tk kp=>⟨rfl,?_⟩
  have fpn:∀c u,H c=some u->c∉[z,TI,TO,i1,i2]:=λc u e hm=>by rw[(hf c hm).1]at e;cases e
  have upH:∀c o u,H c=some u->s.heap.get? c=some o->g.get? c=some o:=λc o u e z=>by
   have:=fpn c u e
   simp only[bl2,bm1,bp1,not_or]at this
   exact kp c o this.1 this.2.2.1 this.2.2.2.1 this.2.2.2.2 z
  have ns:∀m,s.heap.Ns X.env.locals m->g.Ns X.env.locals m:=λm hm=>by
   obtain⟨o,es,ep,e1,e2⟩:=hm
   exact⟨o,es,ep,kp _ o (Ne.symm (hf z (by simp)).2.1) (Ne.symm (hf TO (by simp)).2.1) (Ne.symm (hf i1 (by simp)).2.1) (Ne.symm (hf i2 (by simp)).2.1) e1,e2⟩
  refine I.step (g':=s.gens) (d':=s.drawn) (ch:=[z,TO,i1,i2]) (λc hc'=>?_) (λc o _ _ hc' e _=>?_) (λc o _ _ hc' e _=>⟨o.slots,?_⟩) (λc o _ e n=>n) (λc o hc' e=>⟨o,?_⟩)
   (λc zs e=>e) (λc u zs e=>e) (λc ps e=>⟨#[],by rw[e];simp⟩) ns (λc u e=>?_) I.bare
  ·have hm:c∈[z,TI,TO,i1,i2]:=by
    simp only[bl2,bm1,bp1]at hc' ⊢
    rcases hc' with h|h|h|h<;>simp[h]
   exact⟨(hf c hm).2.2.2.1,(hf c hm).2.1,(hf c hm).2.2.2.2.1,(hf c hm).2.2.2.2.2⟩
  ·simp only[bl2,bm1,bp1,not_or]at hc'
   exact kp c o hc'.1 hc'.2.1 hc'.2.2.1 hc'.2.2.2 e
  ·simp only[bl2,bm1,bp1,not_or]at hc'
   exact kp c o hc'.1 hc'.2.1 hc'.2.2.1 hc'.2.2.2 e
  ·simp only[bl2,bm1,bp1,not_or]at hc'
   exact kp c o hc'.1 hc'.2.1 hc'.2.2.1 hc'.2.2.2 e
  ·refine (I.hok c u e).stay (λc' o' hc2 q'=>?_) (λ_ q'=>q') λ_ _ q'=>q'
   rcases hc2 with rfl|hc2
   ·exact upH _ _ _ e q'
   ·exact upH _ _ _ hc2 q'
abbrev ay1:=wN true true
theorem ay2 {P:Program}{w:World}{K:ac}{elts:List Expr}{k:Nat}{pos:Pos}(a b z TI TO i1 i2:Addr)(d:[z,TI,TO,i1,i2].Nodup) :
  iD P w K (.Tuple elts k pos) (wM K a b) [z,TI,TO,i1,i2] z (ay1 z TI TO i1 i2 a b):=N0 true true a b z TI TO i1 i2 d
section
variable {X:Cx}
def ay3 (K:ac)(ta:TA):TI:=λσ H R=>ta σ H λvs H1=>∃a b xs ys,vs = [.ref a,.ref b]/\aL K H1 a xs/\aL K H1 b ys/\R (wM K a b) H1
theorem ay4 {elts:List Expr}{kt:Nat}{pt:Pos}{a b:Expr}{ta:TA}{p pos:Pos}(hg:Gl X "zip")(hm:X.mg "zip" = none)(ha:PA X [a,b] ta)(hs:starEach [a,b] X.env = [(false,eval a X.env),(false,eval b X.env)]:=by rfl)(hs2:starEach [b] X.env = [(false,eval b X.env)]:=by rfl) :
  PI X (.Tuple elts kt pt) (.Call (.Name "zip" p) [a,b] [] pos) (ay3 X.K ta):=by
 intro pins s σ H R I h
 refine Call_ (kJ I hg hm PyProof.Rows.boot_zip (bs7 (aJ (ha pos pins s σ H _ I h) λus s1 ⟨vs,H1,I1,r1,q1⟩=>?_) (by rw[hs,hs2]) (by rw[hs2];rfl)))
 obtain⟨a',b',xs,ys,e,h1,h2,q⟩:=q1
 subst e
 cases r1 with
 |cons r rr=>
  cases rr with
  |cons r' rr=>
   cases rr
   cases r
   cases r'
   obtain⟨us,_,p1,_⟩:=I1.tuple h1
   obtain⟨ws,_,p2,_⟩:=I1.tuple h2
   refine Zp.ax9 p1 p2 λh' z ti to s1' s2' kp=>wpAny_pyIter_zip z ?_
   have fresh:∀k,H1 (s1.heap.objs.size+k)=none:=λk=>I1.hok.fresh (bp9 _ _)
   refine⟨s1.heap.objs.size+4,[s1.heap.objs.size+4,s1.heap.objs.size+2,s1.heap.objs.size+3,s1.heap.objs.size,s1.heap.objs.size+1],_,_,H1,rfl,I1.kept (t':=s1.toks) kp,
    ay2 a' b' _ _ _ _ _ (by simp),⟨z,ti,⟨_,_,to⟩,s1',s2'⟩,λc hc=>?_,q⟩
   simp only[bl2,bm1,bp1]at hc
   rcases hc with rfl|rfl|rfl|rfl|rfl
   ·exact I1.fpOk (bp9 _ _) (fresh 4)
   ·exact I1.fpOk (bp9 _ _) (fresh 2)
   ·exact I1.fpOk (bp9 _ _) (fresh 3)
   ·exact I1.fpOk (bk9 _) (fresh 0)
   ·exact I1.fpOk (bp9 _ _) (fresh 1)
theorem wO (hc:X.calm=true):cH X (.builtin "all") (λxs H Q=>∃(a:Addr) (bs:List Bool),xs = [.ref a]/\aM X.K H a (bs.map V.bl)/\Q (.bl (bs.all id)) H):=by
 intro pins s σ H xs us Q I r h
 obtain⟨a,bs,rfl,hq,q⟩:=h
 obtain⟨u,rfl,ru⟩:=fM r
 cases ru
 obtain⟨its,rv,p,hz⟩:=I.list hq
 have hl:=rv.length
 rw[bl1]at hl
 have hlt:a<s.heap.objs.size:=by obtain⟨o,e,_⟩:=p.isList;exact bl8 e
 refine call_all_walk (wpAny_pyIter_list p.isList ?_)
 have hh:X.A.in1.handled=none:=I.ok.hd hc
 refine⟨s.heap.objs.size,_,_,_,_,_,λi=>bs.getD i false,rfl,Walks.list hh s.heap.objs.size a (bn6 hlt) its.toArray,⟨⟨_,bm0 _ rfl,rfl,rfl⟩,p.isList.push _⟩,?_,λh' tk kp=>?_⟩
 ·intro i v s' Q' E' hP hQ'
  have hi:its[i]? = some v:=by simpa using hP
  have hil:i<bs.length:=by rw[hl];exact (bl7.mp hi).1
  obtain⟨u,e1,e2⟩:=rv.get (i:=i) (x:=.bl bs[i]) (by simp[hil])
  rw[hi]at e1;cases e1
  cases e2
  have:bs.getD i false=bs[i]:=by rw[bn7,bk8 hil];rfl
  have hQ2:Q' (bs.getD i false) s':=hQ'
  rw[this]at hQ2
  exact bw9 hQ2
 ·have all_eq:(List.range its.toArray.size).all (λi=>bs.getD i false)=bs.all id:=by
   rw[bk7,<- hl]
   clear q rv hz hl hq hlt p hh kp
   induction bs with
   |nil=>rfl
   |cons b r ih=>
    rw[bo1,List.range_succ_eq_map,bx6,List.all_map,bx6,<- ih]
    rfl
  rw[all_eq]
  refine⟨.bl (bs.all id),H,I.kept (t':=tk) (h':=h') λb o e=>kp b o (λz=>?_) (bk6 _ e),rfl,q⟩
  rw[bl3.mp z]at e
  exact absurd (bl8 e) (br2 _)
end
structure wP (H:Hp)(J:It)(n:Nat)(R:Nat->V->Hp->Prop):Prop where
 go:∀i H',aB H H'->i<n->J.go i H'
 yld:∀i H' x H2,aB H H'->J.yld i H' x H2->i<n->aB H' H2/\R i x H2
 stop:∀H',aB H H'->J.stop n H'
theorem wQ {H1:Hp}{J:It}{n:Nat}{R:Nat->V->Hp->Prop}{g:TG}{tc:TT}{te:TE}{σ0:St}{Q:VK}(O:wP H1 J n R)(Pv:Nat->List V->Hp->Prop)(hn:n<=sizeLine)(h0:∀D,H1 D=none->Pv 0 [] (upd H1 D (.lst [])))(mono:∀i acc H' H2,aB H' H2->Pv i acc H'->Pv i acc H2)(hs:∀i x acc D H',i<n->R i x H'->rH H1 D n i acc H'->Pv i acc H'->g x σ0 H' λσ2 H3=>Wk σ0 σ2/\tc σ2 H3 λb H4=>
   if b=true then te σ2 H4 λv H5=>wG H1 D n Pv i acc v H5 else L9 H1 D n Pv i acc H4)(hd:∀D acc H',H1 D=none->aB H1 H'->H' D=some (.lst acc)->acc.length<=n->Pv n acc H'->Q (.ref D) H') :
  ∀D,H1 D=none->∃W:Nat->Nat->List V->Hp->Prop,(∃m,W 0 m [] (upd H1 D (.lst [])))/\o9 g tc te σ0 J D Q W:=by
 intro D hD
 refine⟨CW H1 D n Pv,⟨n,rfl,bo0 _,bk9 _,bR hD _,aU,h0 D hD⟩,?_⟩
 rintro i m acc H' ⟨rfl,hi,ha,sm,hDa,p⟩
 refine⟨hDa,?_⟩
 by_cases hlt:i<n
 ·refine .inr ⟨O.go i H' sm hlt,λx H2 y=>?_⟩
  obtain⟨s2,r2⟩:=O.yld i H' x H2 sm y hlt
  exact hs i x acc D H2 hlt r2 ⟨hlt,ha,hn,sm.trans s2,hD,s2 _ _ hDa⟩ (mono i acc H' H2 s2 p)
 ·have e:i=n:=by omega
  subst e
  exact .inl ⟨O.stop H' sm,hd D acc H' hD sm hDa ha p⟩
theorem N1 {K:ac}{H:Hp}{a b:Addr}{xs ys:List V}(ha:aL K H a xs)(hb:aL K H b ys)(hl:ys.length<=xs.length) :
  wP H (wM K a b) ys.length (λi v H2=>∃T x y,v = .ref T/\H2 T=some (.tup [x,y])/\xs[i]? = some x/\ys[i]? = some y):=by
 refine⟨λi H' sm hi=>⟨xs,ys,xs[i]'(by omega),ys[i],sm.tup ha,sm.tup hb,by simp,by simp⟩,λi H' v H2 sm y hi=>?_,λH' sm=>⟨xs,ys,sm.tup ha,sm.tup hb,by omega⟩⟩
 obtain⟨T,x,y',hT,hv,e,hxy⟩:=y
 subst e
 obtain⟨h1,h2⟩:=hxy xs ys (sm.tup ha) (sm.tup hb)
 exact⟨bR hT _,T,x,y',hv,aU,h1,h2⟩
end L2
namespace HT
open PySem PyProof.Rows
section
variable {prog:Program}{w:World}{A:Around}{E:Value→Shared→Prop}{s:Shared}
theorem ay5 {t sl:Addr}{items:Array Value}{vl vu:Value}{lo hi:Option Int}{Q:Value->Shared->Prop}(ht:IsTup s.heap t items)(hs:s.heap.IsSliceOf sl vl vu .none)(pl:IsPart vl lo)(pu:IsPart vu hi)(h1:aX items.size 0 lo=0)(h2:aX items.size items.size hi=items.size)(h:Q (.ref t) s):wpAny (model prog w) A (getItem (.ref t) (.ref sl)) Q E s:=by
 obtain⟨o,e1,e2,e3⟩:=id hs
 have T:s.TypeIs (.ref sl) "slice":=⟨o,e1,e2⟩
 unfold getItem
 try with_reducible refine bz1 ?_
 first|refine bk5 (bl0 ?_)|skip
 apply bk5
 apply wpAny_sequenceKey ht.typeIs (by decide)
 apply bk5
 apply bq5 (name:=Str.ofString "__getitem__") ht.typeIs bv4
 apply bq7 bv4 ht.typeIs entry_tuple_getitem _ (args_tuple_getitem _ _)
 change wpAny _ _ (Builtin.Tuple.tupleItemsOf (.ref t) >>= _) _ _ s
 apply bk5
 apply tupleItemsOf_ ht
 apply bk5
 apply wpAny_typeOf T
 rw[if_pos (by decide)]
 apply bk5
 apply G4 hs pl pu
 rw[h1,h2]
 have yes:((((0:Nat):Int)==0&&(1:Int)==1&&(items.size-0)==items.size)=true):=by simp
 change wpAny _ _ (if ((((0:Nat):Int)==0&&(1:Int)==1&&(items.size-0)==items.size)=true) then _ else _) _ _ s
 rw[if_pos yes]
 apply bk5
 unfold Builtin.Tuple.tupleIsExact
 apply bk5
 apply wpAny_typeOf ht.typeIs
 apply bl0
 change wpAny _ _ (rule "tuple.getitem.whole" >>= λ_=>ret (Value.ref t)) _ _ s
 apply bk5
 apply bz4
 exact bl0 ⟨_,rfl,bl0 h⟩
end
end HT
namespace L2
open PySem PySem.Spec PyProof.Rows
section
variable {X:Cx}
def ay6 (K:ac):V->Option Int->Option Int->Hp->VK->Prop:=λx lo hi H Q=>∃a xs,x = .ref a/\aL K H a xs/\(∀p,H p=none->Q (.ref p) (upd H p (.tup (eI xs lo hi))))/\(eI xs lo hi=xs->Q (.ref a) H)
theorem N2:jR X (ay6 X.K):=by
 intro pins s σ H x v vl vu lo hi sl Q I rx hs pl pu h
 obtain⟨a,xs,ex,hx,q1,q2⟩:=h
 by_cases hw:HT.aX xs.length 0 lo=0/\HT.aX xs.length xs.length hi=xs.length
 ·subst ex
  cases rx
  obtain⟨its,r,ht,hz⟩:=I.tuple hx
  have hlen:its.toArray.size=xs.length:=by rw[bk7];exact r.length.symm
  refine⟨"tuple",_,PyProof.Rows.slot_tuple_getitem.lookup,ht.typeIs,?_⟩
  refine HT.ay5 ht hs pl pu (by rw[hlen];exact hw.1) (by rw[hlen];exact hw.2) ⟨.ref a,H,I,rfl,q2 ?_⟩
  unfold eI
  rw[hw.1,hw.2]
  simp
 ·exact as7 pins s σ H x v vl vu lo hi sl Q I rx hs pl pu ⟨a,xs,ex,hx,hw,q1⟩
end
theorem wR (xs:List V):eI xs (some 1) none=xs.drop 1:=by
 unfold eI
 have e1:HT.aX xs.length 0 (some 1)=min 1 xs.length:=HT.G1 xs.length 0 1
 have e2:HT.aX xs.length xs.length none=xs.length:=rfl
 rw[e1,e2]
 cases xs with
 |nil=>rfl
 |cons x r=>
  have:min 1 (x::r).length=1:=by simp
  rw[this]
  simp
def wS (K:ac)(a b:Addr):It:=
  ⟨λi H=>∃xs ys x y,aM K H a xs/\aM K H b ys/\xs[i]? = some x/\ys[i]? = some y,
   λi H v H'=>∃T x y,H T=none/\v = .ref T/\H'=upd H T (.tup [x,y])/\∀xs ys,aM K H a xs->aM K H b ys->xs[i]? = some x/\ys[i]? = some y,
   λi H=>∃xs ys,aM K H a xs/\aM K H b ys/\(i=xs.length∨(i<xs.length/\i=ys.length))⟩
abbrev ay7:=wN false false
theorem ay8 {P:Program}{w:World}{K:ac}{elts:List Expr}{k:Nat}{pos:Pos}(a b z TI TO i1 i2:Addr)(d:[z,TI,TO,i1,i2].Nodup) :
  iD P w K (.Tuple elts k pos) (wS K a b) [z,TI,TO,i1,i2] z (ay7 z TI TO i1 i2 a b):=N0 false false a b z TI TO i1 i2 d
section
variable {X:Cx}
def ay9 (K:ac)(ta:TA):TI:=λσ H R=>ta σ H λvs H1=>∃a b xs ys,vs = [.ref a,.ref b]/\aM K H1 a xs/\aM K H1 b ys/\R (wS K a b) H1
theorem az0 {elts:List Expr}{kt:Nat}{pt:Pos}{a b:Expr}{ta:TA}{p pos:Pos}(hg:Gl X "zip")(hm:X.mg "zip" = none)(ha:PA X [a,b] ta)(hs:starEach [a,b] X.env = [(false,eval a X.env),(false,eval b X.env)]:=by rfl)(hs2:starEach [b] X.env = [(false,eval b X.env)]:=by rfl) :
  PI X (.Tuple elts kt pt) (.Call (.Name "zip" p) [a,b] [] pos) (ay9 X.K ta):=by
 intro pins s σ H R I h
 refine Call_ (kJ I hg hm PyProof.Rows.boot_zip (bs7 (aJ (ha pos pins s σ H _ I h) λus s1 ⟨vs,H1,I1,r1,q1⟩=>?_) (by rw[hs,hs2]) (by rw[hs2];rfl)))
 obtain⟨a',b',xs,ys,e,h1,h2,q⟩:=q1
 subst e
 cases r1 with
 |cons r rr=>
  cases rr with
  |cons r' rr=>
   cases rr
   cases r
   cases r'
   obtain⟨us,_,p1,_⟩:=I1.list h1
   obtain⟨ws,_,p2,_⟩:=I1.list h2
   refine call_zip_2 p1.isList p2.isList λh' z ti to s1' s2' _ kp=>wpAny_pyIter_zip z ?_
   have fresh:∀k,H1 (s1.heap.objs.size+k)=none:=λk=>I1.hok.fresh (bp9 _ _)
   refine⟨s1.heap.objs.size+4,[s1.heap.objs.size+4,s1.heap.objs.size+2,s1.heap.objs.size+3,s1.heap.objs.size,s1.heap.objs.size+1],_,_,H1,rfl,I1.kept (t':=s1.toks) kp,
    ay8 a' b' _ _ _ _ _ (by simp),⟨z,ti,⟨_,_,to⟩,s1',s2'⟩,λc hc=>?_,q⟩
   simp only[bl2,bm1,bp1]at hc
   rcases hc with rfl|rfl|rfl|rfl|rfl
   ·exact I1.fpOk (bp9 _ _) (fresh 4)
   ·exact I1.fpOk (bp9 _ _) (fresh 2)
   ·exact I1.fpOk (bp9 _ _) (fresh 3)
   ·exact I1.fpOk (bk9 _) (fresh 0)
   ·exact I1.fpOk (bp9 _ _) (fresh 1)
end
theorem az1 {K:ac}{H:Hp}{a b:Addr}{xs ys:List V}(ha:aM K H a xs)(hb:aM K H b ys)(hl:ys.length<=xs.length) :
  wP H (wS K a b) ys.length (λi v H2=>∃T x y,v = .ref T/\H2 T=some (.tup [x,y])/\xs[i]? = some x/\ys[i]? = some y):=by
 refine⟨λi H' sm hi=>⟨xs,ys,xs[i]'(by omega),ys[i],sm.seq ha,sm.seq hb,by simp,by simp⟩,λi H' v H2 sm y hi=>?_,λH' sm=>⟨xs,ys,sm.seq ha,sm.seq hb,by omega⟩⟩
 obtain⟨T,x,y',hT,hv,e,hxy⟩:=y
 subst e
 obtain⟨h1,h2⟩:=hxy xs ys (sm.seq ha) (sm.seq hb)
 exact⟨bR hT _,T,x,y',hv,aU,h1,h2⟩
section
variable {X:Cx}{pins:List (Addr×Obj)}{σ:St}{H:Hp}{s:Shared}{a b:Addr}{A:Around}{E:Value→Shared→Prop}
theorem az2 {kvs more:List (aD×V)}{Q:Value->Shared->Prop}(I:a8 X pins σ H s)(ea:H a=some (.dK kvs))(eb:H b=some (.dK more))(hne:a≠b)(hl:kvs.length+more.length<=sizeLine)(h:∀s',a8 X pins σ (upd H a (.dK (kT kvs more))) s'->Q .none s'):wpAny (model X.prog X.w) A (call (.builtin "dict.update") [.ref a,.ref b]) Q E s:=by
 obtain⟨z,hd,vs,rel,dd⟩:=vZ I.hok ea
 obtain⟨z2,hd2,rs,rel2,dd2⟩:=vZ I.hok eb
 have l1:=rel.length
 have l2:=rel2.length
 refine call_meetsIn PySem.F.slot_dict_update dd.typeIs PySem.F.entry_dict_update (PySem.F.args_dict_update_2 _ _) (meets_dict_update (dA X.prog X.w) a b hne hd2) ⟨vs,rs,dd,dd2,by omega,λh' dd' _ hs=>h _ ?_⟩
 have he:∃q,h'.get? a=some q:=let ⟨q,_,_,hq,_⟩:=dd';⟨q,hq⟩
 refine w4 I (by rw[ea];exact True.intro) hs he (K1 ?_ hd (rel2.merge rel) dd')
 have:=K8 more kvs
 omega
end
def N3 (td ty:TE):TE:=λσ H Q=>td σ H λx H1=>∃a,x = .ref a/\K9 H1 a/\ty σ H1 λy H2=>∃(b:Addr) (kvs more:List (aD×V)),y = .ref b/\a≠b/\H2 a=some (.dK kvs)/\H2 b=some (.dK more)/\kvs.length+more.length<=sizeLine/\Q .non (upd H2 a (.dK (kT kvs more)))
section
variable {X:Cx}{o e:Expr}{apos cpos:Pos}{td ty:TE}
theorem az3 (ho:PE X o td)(he:PE X e ty)(m:M1 X o "update" apos e cpos):PE X (.Call (.Attribute o "update" apos) [e] [] cpos) (N3 td ty):=by
 intro pins s σ H Q I h
 refine wpAny_Call_method m.base m.few m.line PySem.F.plainAttrs_dict PySem.F.slot_dict_update PySem.F.type_dict_update (aJ (ho pins s σ H _ I h) λu s1 ⟨x,H1,I1,rx,a,ex,d,q1⟩=>?_)
 subst ex
 obtain rfl:u=Value.ref a:=rx
 obtain⟨t1,t2,_⟩:=av2 I1 d
 refine⟨t1,t2,?_⟩
 rw[m.trees]
 refine bx4 rfl (by8 (Calls.spliced_cons (aJ (he pins s1 σ H1 _ I1 q1) λiv s2 ⟨y,H2,I2,ry,b,kvs,more,ey,ne,ea,eb,l,q2⟩=>Calls.spliced_nil ?_)))
 subst ey
 obtain rfl:iv=Value.ref b:=ry
 exact az2 I2 ea eb ne l λs3 I3=>⟨.non,_,I3,rfl,q2⟩
end
end L2
namespace PP
open PySem L2
inductive PV where
 |non|bl (b:Bool)|int (i:Int)|str (x:Str)|tup (xs:List PV)|lst (xs:List PV)
 |dK (kvs:List (aD×PV))|dT (kvs:List (List aD×PV))|scr (ns:af)|kt (xs:List PV)|exc (c:Str)|fK (kvs:List (aD×PV))|fT (kvs:List (List aD×PV))|fL (xs:List PV)|fn (x:Str)|ob (a:Addr)
mutual
def flat:PV->Bool
 |.tup xs=>flats xs
 |.lst _=>false
 |.dK _=>false
 |.dT _=>false
 |.non=>true
 |.bl _=>true
 |.int _=>true
 |.str _=>true
 |.scr _=>true
 |.kt xs=>flats xs
 |.exc _=>true
 |.fK _=>false
 |.fT _=>false
 |.fL xs=>flats xs
 |.fn _=>true
 |.ob _=>true
def flats:List PV->Bool
 |[]=>true
 |x::r=>flat x&&flats r
end
def iW (K:ac)(H:Hp)(a:Addr)(ns:af):Prop:=(∃o,H a=some (.frz o (.lst (ns.map V.int)))) ∨
  ∃(o:Obj) (its:Array Value) (n:Nat),K.lookup a=some o/\o.cls = .type "list"/\o.dict=none/\o.data = .seq its n/\its.size<=sizeLine/\aQ (ns.map V.int) its.toList
def m7 (K:ac)(a:Addr)(us:List V):Prop:=∃(o:Obj) (its:Array Value) (n:Nat),K.lookup a=some o/\o.cls = .type "tuple"/\o.data = .seq its n/\its.size<=sizeLine/\aQ us its.toList
mutual
inductive aE (K:ac)(M:Addr->Prop)(H:Hp):V->PV->Prop
 |non:aE K M H .non .non
 |bl (b:Bool):aE K M H (.bl b) (.bl b)
 |int (i:Int):aE K M H (.int i) (.int i)
 |str (x:Str):aE K M H (.str x) (.str x)
 |tup {a:Addr}{us:List V}{xs:List PV}:H a=some (.tup us)->Reps K M H us xs->aE K M H (.ref a) (.tup xs)
 |lst {a:Addr}{us:List V}{xs:List PV}:M a->H a=some (.lst us)->Reps K M H us xs->aE K M H (.ref a) (.lst xs)
 |dK {a:Addr}{kvs:List (aD×V)}{ps:List (aD×PV)}:M a->H a=some (.dK kvs)->kvs.map (·.1)=ps.map (·.1)->Reps K M H (kvs.map (·.2)) (ps.map (·.2))->aE K M H (.ref a) (.dK ps)
 |dT {a:Addr}{kvs:List (List aD×V)}{ps:List (List aD×PV)}:M a->H a=some (.dT kvs)->kvs.map (·.1)=ps.map (·.1)->Reps K M H (kvs.map (·.2)) (ps.map (·.2))->aE K M H (.ref a) (.dT ps)
 |scr {a:Addr}{ns:af}:iW K H a ns->aE K M H (.ref a) (.scr ns)
 |kt {a:Addr}{us:List V}{xs:List PV}:m7 K a us->Reps K M H us xs->aE K M H (.ref a) (.kt xs)
 |exc {a C:Addr}{o:Obj}{c:Str}:H a=some (.frz o (.own a))->PySem.W.nsIn K mainGlobals c=some (some (.ref C))->o.cls = .ref C->aE K M H (.ref a) (.exc c)
 |fK {a:Addr}{o:Obj}{kvs:List (aD×V)}{ps:List (aD×PV)}:H a=some (.frz o (.dK kvs))->kvs.map (·.1)=ps.map (·.1)->Reps K M H (kvs.map (·.2)) (ps.map (·.2))->aE K M H (.ref a) (.fK ps)
 |fT {a:Addr}{o:Obj}{kvs:List (List aD×V)}{ps:List (List aD×PV)}:H a=some (.frz o (.dT kvs))->kvs.map (·.1)=ps.map (·.1)->Reps K M H (kvs.map (·.2)) (ps.map (·.2))->aE K M H (.ref a) (.fT ps)
 |fL {a:Addr}{o:Obj}{us:List V}{xs:List PV}:H a=some (.frz o (.lst us))->Reps K M H us xs->aE K M H (.ref a) (.fL xs)
 |fn {f:Addr}{x:Str}:PySem.W.nsIn K mainGlobals x=some (some (.ref f))->aE K M H (.ref f) (.fn x)
 |ob {a:Addr}:aE K M H (.ref a) (.ob a)
inductive Reps (K:ac)(M:Addr->Prop)(H:Hp):List V->List PV->Prop
 |nil:Reps K M H [] []
 |cons {v:V}{x:PV}{vs:List V}{xs:List PV}:aE K M H v x->Reps K M H vs xs->Reps K M H (v::vs) (x::xs)
end
def wT:HO->Bool
 |.frz _ _=>true
 |_=>false
def m8:HO->Bool
 |.frz _ u=>wT u
 |.ins _ _ _=>true
 |.ext _=>true
 |_=>false
structure dU (M M':Addr->Prop)(H H':Hp):Prop where
 lst:∀a us,M a->H a=some (.lst us)->M' a/\H' a=some (.lst us)
 dK:∀a kvs,M a->H a=some (.dK kvs)->M' a/\H' a=some (.dK kvs)
 dT:∀a kvs,M a->H a=some (.dT kvs)->M' a/\H' a=some (.dT kvs)
 tup:∀a us,H a=some (.tup us)->H' a=some (.tup us)
 frz:∀a o u,H a=some (.frz o u)->wT u=false->H' a=some (.frz o u)
theorem iW.keep {K:ac}{H H':Hp}{a:Addr}{ns:af}(k:∀a o u,H a=some (.frz o u)->wT u=false->H' a=some (.frz o u))(h:iW K H a ns):iW K H' a ns:=
 h.elim (λ⟨o,e⟩=>.inl ⟨o,k _ _ _ e rfl⟩) .inr
mutual
theorem aE.keep {K:ac}{M M':Addr->Prop}{H H':Hp}(k:dU M M' H H'):∀{v:V}{x:PV},aE K M H v x->aE K M' H' v x
 |_,_,.non=>.non
 |_,_,.bl b=>.bl b
 |_,_,.int i=>.int i
 |_,_,.str x=>.str x
 |_,_,.tup h r=>.tup (k.tup _ _ h) (Reps.keep k r)
 |_,_,.lst m h r=>.lst (k.lst _ _ m h).1 (k.lst _ _ m h).2 (Reps.keep k r)
 |_,_,.dK m h e r=>.dK (k.dK _ _ m h).1 (k.dK _ _ m h).2 e (Reps.keep k r)
 |_,_,.dT m h e r=>.dT (k.dT _ _ m h).1 (k.dT _ _ m h).2 e (Reps.keep k r)
 |_,_,.scr h=>.scr (h.keep k.frz)
 |_,_,.kt h r=>.kt h (Reps.keep k r)
 |_,_,.exc h e c=>.exc (k.frz _ _ _ h rfl) e c
 |_,_,.fK h e r=>.fK (k.frz _ _ _ h rfl) e (Reps.keep k r)
 |_,_,.fT h e r=>.fT (k.frz _ _ _ h rfl) e (Reps.keep k r)
 |_,_,.fL h r=>.fL (k.frz _ _ _ h rfl) (Reps.keep k r)
 |_,_,.fn h=>.fn h
 |_,_,.ob=>.ob
theorem Reps.keep {K:ac}{M M':Addr->Prop}{H H':Hp}(k:dU M M' H H'):∀{vs:List V}{xs:List PV},Reps K M H vs xs->Reps K M' H' vs xs
 |_,_,.nil=>.nil
 |_,_,.cons r t=>.cons (aE.keep k r) (Reps.keep k t)
end
mutual
theorem aE.flat {K:ac}{M M':Addr->Prop}{H:Hp}{v:V}{x:PV}(f:flat x=true)(r:aE K M H v x):aE K M' H v x:=by
 cases r with
 |non=>exact .non
 |bl b=>exact .bl b
 |int i=>exact .int i
 |str x=>exact .str x
 |tup h r=>exact .tup h (Reps.flat (by unfold PP.flat at f;exact f) r)
 |lst m h r=>unfold PP.flat at f;cases f
 |dK m h e r=>unfold PP.flat at f;cases f
 |dT m h e r=>unfold PP.flat at f;cases f
 |scr h=>exact .scr h
 |kt h r=>exact .kt h (Reps.flat (by unfold PP.flat at f;exact f) r)
 |exc h e c=>exact .exc h e c
 |fK h e r=>unfold PP.flat at f;cases f
 |fT h e r=>unfold PP.flat at f;cases f
 |fL h r=>exact .fL h (Reps.flat (by unfold PP.flat at f;exact f) r)
 |fn h=>exact .fn h
 |ob=>exact .ob
theorem Reps.flat {K:ac}{M M':Addr->Prop}{H:Hp}{vs:List V}{xs:List PV}(f:flats xs=true)(r:Reps K M H vs xs):Reps K M' H vs xs:=by
 cases r with
 |nil=>exact .nil
 |cons r t=>
  unfold PP.flats at f
  rw[bn4]at f
  exact .cons (aE.flat f.1 r) (Reps.flat f.2 t)
end
theorem dU.same {M M':Addr->Prop}{H H':Hp}(s:aB H H')(m:∀a,M a->M' a):dU M M' H H':=
 ⟨λa _ h e=>⟨m a h,s _ _ e⟩,λa _ h e=>⟨m a h,s _ _ e⟩,λa _ h e=>⟨m a h,s _ _ e⟩,λ_ _ e=>s _ _ e,λ_ _ _ e _=>s _ _ e⟩
theorem aE.same {K:ac}{M M':Addr->Prop}{H H':Hp}{v:V}{x:PV}(r:aE K M H v x)(s:aB H H')(m:∀a,M a->M' a):aE K M' H' v x:=r.keep (.same s m)
theorem Reps.same {K:ac}{M M':Addr->Prop}{H H':Hp}{v:List V}{x:List PV}(r:Reps K M H v x)(s:aB H H')(m:∀a,M a->M' a):Reps K M' H' v x:=r.keep (.same s m)
def eL:HO->Bool
 |.lst _=>true
 |.dK _=>true
 |.dT _=>true
 |_=>false
theorem dU.upd {M M':Addr->Prop}{H:Hp}{a:Addr}{o o':HO}(h:H a=some o')(mu:eL o'=true)(m:∀b,M b->b≠a/\M' b):dU M M' H (upd H a o):=
 ⟨λb _ hb e=>⟨(m b hb).2,by rw[aF (m b hb).1];exact e⟩,λb _ hb e=>⟨(m b hb).2,by rw[aF (m b hb).1];exact e⟩,λb _ hb e=>⟨(m b hb).2,by rw[aF (m b hb).1];exact e⟩,
  λb _ e=>by rw[aF (λz=>by rw[z,h]at e;cases e;cases mu)];exact e,
  λb _ _ e _=>by rw[aF (λz=>by rw[z,h]at e;cases e;cases mu)];exact e⟩
theorem Reps.length {K:ac}{M:Addr->Prop}{H:Hp}:∀{vs:List V}{xs:List PV},Reps K M H vs xs->vs.length=xs.length
 |_,_,.nil=>rfl
 |_,_,.cons _ t=>congrArg (·+1) t.length
theorem Reps.get {K:ac}{M:Addr->Prop}{H:Hp}:∀{vs:List V}{xs:List PV}{i:Nat}{v:V},Reps K M H vs xs->vs[i]? = some v->∃x,xs[i]? = some x/\aE K M H v x
 |_,_,_,_,.nil,e=>by simp at e
 |_,_,0,_,.cons r _,e=>by simp at e;subst e;exact⟨_,rfl,r⟩
 |_,_,i+1,v,.cons _ t,e=>by
  rw[bu2]at e
  obtain⟨x,h1,h2⟩:=t.get e
  exact⟨x,by rw[bu2];exact h1,h2⟩
theorem Reps.at {K:ac}{M:Addr->Prop}{H:Hp}:∀{vs:List V}{xs:List PV}{i:Nat}{x:PV},Reps K M H vs xs->xs[i]? = some x->∃v,vs[i]? = some v/\aE K M H v x
 |_,_,_,_,.nil,e=>by simp at e
 |_,_,0,_,.cons r _,e=>by simp at e;subst e;exact⟨_,rfl,r⟩
 |_,_,i+1,v,.cons _ t,e=>by
  rw[bu2]at e
  obtain⟨x,h1,h2⟩:=t.at e
  exact⟨x,by rw[bu2];exact h1,h2⟩
theorem Reps.append {K:ac}{M:Addr->Prop}{H:Hp}:∀{vs:List V}{xs:List PV}{us:List V}{ys:List PV},Reps K M H vs xs->Reps K M H us ys->Reps K M H (vs++us) (xs++ys)
 |_,_,_,_,.nil,s=>s
 |_,_,_,_,.cons r t,s=>.cons r (t.append s)
theorem Reps.take {K:ac}{M:Addr->Prop}{H:Hp}:∀(n:Nat) {vs:List V}{xs:List PV},Reps K M H vs xs->Reps K M H (vs.take n) (xs.take n)
 |0,_,_,_=>by simp;exact .nil
 |_+1,_,_,.nil=>.nil
 |n+1,_,_,.cons r t=>.cons r (Reps.take n t)
theorem Reps.drop {K:ac}{M:Addr->Prop}{H:Hp}:∀(n:Nat) {vs:List V}{xs:List PV},Reps K M H vs xs->Reps K M H (vs.drop n) (xs.drop n)
 |0,_,_,r=>r
 |_+1,_,_,.nil=>.nil
 |n+1,_,_,.cons _ t=>Reps.drop n t
abbrev intz (ns:af):List PV:=ns.map PV.int
theorem Reps.intz {K:ac}{M:Addr->Prop}{H:Hp}:∀(ns:af),Reps K M H (ns.map V.int) (intz ns)
 |[]=>.nil
 |n::r=>.cons (.int n) (Reps.intz r)
theorem Reps.ofInts {K:ac}{M:Addr->Prop}{H:Hp}:∀{ns:af}{us:List V},Reps K M H us (PP.intz ns)->us=ns.map V.int
 |[],_,.nil=>rfl
 |n::r,_,.cons q t=>by
  cases q
  rw[Reps.ofInts t];rfl
theorem eM:∀(ns:af),flats (intz ns)=true
 |[]=>rfl
 |n::r=>by show (flat (.int n)&&flats (intz r))=true;rw[eM r];rfl
inductive Tg|rd|sh|nw|fr
inductive Slot|sh (g:Bool) (x:PV)|own (x:PV)|kp (g:Bool) (x:PV) (ks:List (Addr×List PV×List PV))
def Slot.val:Slot->PV
 |.sh _ x=>x
 |.own x=>x
 |.kp _ x _=>x
def Slot.tag:Slot->Tg
 |.sh true _=>.nw
 |.sh false _=>.sh
 |.own _=>.rd
 |.kp _ _ _=>.nw
abbrev b6:=List (Option Slot)
def Ms (H0:Hp)(W:Addr->Prop):Bool->Addr->Prop
 |false,a=>¬W a
 |true,a=>¬W a/\H0 a=none
def Mg (H0:Hp)(W:Addr->Prop)(Hs:Hp):Tg->Addr->Prop
 |.rd,_=>True
 |.sh,a=>¬W a
 |.nw,a=>¬W a/\H0 a=none
 |.fr,a=>Hs a=none
def hJ (K:ac)(M:Addr->Prop)(H:Hp)(a:Addr):PV->Prop
 |.lst xs=>∃us,H a=some (.lst us)/\Reps K M H us xs
 |.dK ps=>∃kvs,H a=some (.dK kvs)/\kvs.map (·.1)=ps.map (·.1)/\Reps K M H (kvs.map (·.2)) (ps.map (·.2))
 |.dT ps=>∃kvs,H a=some (.dT kvs)/\kvs.map (·.1)=ps.map (·.1)/\Reps K M H (kvs.map (·.2)) (ps.map (·.2))
 |_=>False
def kL (l:Addr)(us:List V):HO:=.ext λh=>us.length<=sizeLine/\∃(its:List Value) (n:Nat),aQ us its/\h.get? l=some { cls:=.type "list",data:=.seq its.toArray n }
def cJ (K:ac)(H0 H:Hp)(a:Addr)(st un:List PV):Prop:=∃(C dx l1 l2:Addr) (us1 us2:List V),PySem.W.nsIn K mainGlobals "Keeper" = some (some (.ref C))/\(H0 a=none/\H0 dx=none/\H0 l1=none/\H0 l2=none)/\l1≠l2/\H dx=some (.own a)/\
 H a=some (.ins C dx [("standing",.ref l1),("undone",.ref l2)])/\H l1=some (kL l1 us1)/\H l2=some (kL l2 us2)/\Reps K (λ_=>False) H us1 st/\Reps K (λ_=>False) H us2 un
theorem cJ.keep {K:ac}{H0 H H':Hp}{a:Addr}{st un:List PV}(k:dU (λ_=>False) (λ_=>False) H H')(f:∀b o,H b=some o->eL o=false->H' b=some o)(h:cJ K H0 H a st un):cJ K H0 H' a st un:=by
 obtain⟨C,dx,l1,l2,us1,us2,h1,h2,h3,h4,h5,h6,h7,r1,r2⟩:=h
 exact⟨C,dx,l1,l2,us1,us2,h1,h2,h3,f _ _ h4 rfl,f _ _ h5 rfl,f _ _ h6 rfl,f _ _ h7 rfl,r1.keep k,r2.keep k⟩
def Ap2 (H:Hp)(a b:Addr):Prop:=a≠b/\∀C D dx dy l1 l2 m1 m2,H a=some (.ins C dx [("standing",.ref l1),("undone",.ref l2)])->H b=some (.ins D dy [("standing",.ref m1),("undone",.ref m2)])->l1≠m1/\l1≠m2/\l2≠m1/\l2≠m2
def gA (K:ac)(H0 H:Hp)(ks:List (Addr×List PV×List PV)):Prop:=(∀k∈ks,cJ K H0 H k.1 k.2.1 k.2.2)/\ks.Pairwise λk m=>Ap2 H k.1 m.1
theorem gA.keep {K:ac}{H0 H H':Hp}{ks:List (Addr×List PV×List PV)}(k:dU (λ_=>False) (λ_=>False) H H')(f:∀b o,H b=some o->eL o=false->H' b=some o)(h:gA K H0 H ks):gA K H0 H' ks:=by
 refine⟨λx hx=>(h.1 x hx).keep k f,h.2.imp_of_mem λ{x y} hx hy r=>⟨r.1,λC D dx dy l1 l2 m1 m2 e1 e2=>?_⟩⟩
 obtain⟨C',dx',l1',l2',us1,us2,_,_,_,_,h5,_⟩:=h.1 x hx
 obtain⟨D',dy',m1',m2',ws1,ws2,_,_,_,_,g5,_⟩:=h.1 y hy
 have z1:=f _ _ h5 rfl
 have z2:=f _ _ g5 rfl
 rw[e1]at z1;rw[e2]at z2
 cases z1;cases z2
 exact r.2 _ _ _ _ _ _ _ _ h5 g5
theorem gA.same {K:ac}{H0 H H':Hp}{ks:List (Addr×List PV×List PV)}(s:aB H H')(h:gA K H0 H ks):gA K H0 H' ks:=h.keep (.same s λ_ z=>z) λ_ _ e _=>s _ _ e
theorem gA.upd {K:ac}{H0 H:Hp}{c:Addr}{o o':HO}{ks:List (Addr×List PV×List PV)}(e:H c=some o')(mu:eL o'=true)(h:gA K H0 H ks):gA K H0 (upd H c o) ks:=
 h.keep (.upd e mu λ_ z=>z.elim) λb u e2 m2=>by rw[aF (λz=>by rw[z,e]at e2;cases e2;rw[mu]at m2;cases m2)];exact e2
def rM (K:ac)(H0:Hp)(W:Addr->Prop)(H:Hp)(v:V):Slot->Prop
 |.sh g x=>aE K (Ms H0 W g) H v x
 |.own x=>∃a,v = .ref a/\W a/\hJ K (Ms H0 W true) H a x
 |.kp g x ks=>(aE K (λ_=>False) H v x/\flat x=true)/\gA K (cond g H0 λ_=>none) H ks
structure PX (K:ac)(H0:Hp)(W:Addr->Prop)(σ:St)(ρ:b6)(H:Hp):Prop where
 len:ρ.length=σ.length
 same:aB H0 H
 wm:∀a,W a->H0 a=none/\∃o,H a=some o/\eL o=true
 sl:∀(i:Nat) (m:Slot),ρ[i]? = some (some m)->∃v,σ[i]? = some (some v)/\rM K H0 W H v m
 dis:∀(i j:Nat) (x y:PV) (a:Addr),ρ[i]? = some (some (.own x))->ρ[j]? = some (some (.own y))->σ[i]? = some (some (.ref a))->σ[j]? = some (some (.ref a))->i=j
theorem hJ.keep {K:ac}{M M':Addr->Prop}{H H':Hp}{a:Addr}(k:dU M M' H H')(ha:∀o,H a=some o->H' a=some o):∀{x:PV},hJ K M H a x->hJ K M' H' a x
 |.lst _,⟨us,e,r⟩=>⟨us,ha _ e,r.keep k⟩
 |.dK _,⟨us,e,q,r⟩=>⟨us,ha _ e,q,r.keep k⟩
 |.dT _,⟨us,e,q,r⟩=>⟨us,ha _ e,q,r.keep k⟩
theorem hJ.at {K:ac}{M:Addr->Prop}{H:Hp}{a:Addr}:∀{x:PV},hJ K M H a x->∃o,H a=some o/\eL o=true
 |.lst _,⟨us,e,r⟩=>⟨_,e,rfl⟩
 |.dK _,⟨us,e,q,r⟩=>⟨_,e,rfl⟩
 |.dT _,⟨us,e,q,r⟩=>⟨_,e,rfl⟩
theorem hJ.rep {K:ac}{M M':Addr->Prop}{H:Hp}{a:Addr}(m:∀b,M b->M' b)(ha:M' a):∀{x:PV},hJ K M H a x->aE K M' H (.ref a) x
 |.lst _,⟨us,e,r⟩=>.lst ha e (r.same (aB.refl _) m)
 |.dK _,⟨us,e,q,r⟩=>.dK ha e q (r.same (aB.refl _) m)
 |.dT _,⟨us,e,q,r⟩=>.dT ha e q (r.same (aB.refl _) m)
section
variable {K:ac}{H0:Hp}{W W':Addr→Prop}{σ:St}{ρ:b6}{H H':Hp}
theorem PX.mono (p:PX K H0 W σ ρ H)(s:aB H H'):PX K H0 W σ ρ H':=by
 refine⟨p.len,p.same.trans s,λa h=>⟨(p.wm a h).1,let ⟨o,e,m⟩:=(p.wm a h).2;⟨o,s _ _ e,m⟩⟩,λi m h=>?_,p.dis⟩
 obtain⟨v,e,r⟩:=p.sl i m h
 refine⟨v,e,?_⟩
 cases m with
 |sh g x=>exact aE.same r s λ_ z=>z
 |own x=>
  obtain⟨a,e1,e2,r⟩:=r
  exact⟨a,e1,e2,r.keep (.same s λ_ z=>z) λ_ z=>s _ _ z⟩
 |kp g x ks=>exact⟨⟨r.1.1.same s λ_ z=>z,r.1.2⟩,r.2.same s⟩
theorem PX.new (p:PX K H0 W σ ρ H){a:Addr}(h:H a=none):¬W a/\H0 a=none:=
 ⟨λz=>(by obtain⟨_,o,e,_⟩:=p.wm a z;rw[h]at e;cases e),p.same.free h⟩
theorem Mg.back {g:Tg}{H1:Hp}(s:aB H H1){a:Addr}(h:Mg H0 W H1 g a):Mg H0 W H g a:=by
 cases g with
 |fr=>exact s.free h
 |rd=>exact h
 |sh=>exact h
 |nw=>exact h
end
abbrev PK:=PV->Tg->Prop
abbrev aH:=b6->PK->Prop
abbrev cQ:=b6->(Bool->Prop)->Prop
abbrev bT:=b6->(List (PV×Tg)->Prop)->Prop
inductive hU (K:ac)(H0:Hp)(W:Addr->Prop)(Hs H:Hp):List V->List (PV×Tg)->Prop
 |nil:hU K H0 W Hs H [] []
 |cons {v:V}{x:PV}{g:Tg}{vs:List V}{xs:List (PV×Tg)}:aE K (Mg H0 W Hs g) H v x->hU K H0 W Hs H vs xs->hU K H0 W Hs H (v::vs) ((x,g)::xs)
def rN (K:ac)(H0:Hp)(W:Addr->Prop)(H:Hp)(Q:PK)(Q':VK):Prop:=∀v H' x g,aB H H'->aE K (Mg H0 W H g) H' v x->Q x g->Q' v H'
def LE (X:Cx)(t:aH):TE:=λσ H Q'=>∃(W:Addr->Prop) (ρ:b6) (Q:PK),PX X.K X.H₀ W σ ρ H/\t ρ Q/\rN X.K X.H₀ W H Q Q'
def LT (X:Cx)(t:cQ):TT:=λσ H Q'=>∃(W:Addr->Prop) (ρ:b6) (Q:Bool->Prop),PX X.K X.H₀ W σ ρ H/\t ρ Q/\∀b H',aB H H'->Q b->Q' b H'
def LA (X:Cx)(t:bT):TA:=λσ H Q'=>∃(W:Addr->Prop) (ρ:b6) (Q:List (PV×Tg)->Prop),PX X.K X.H₀ W σ ρ H/\t ρ Q/\∀vs H' xs,aB H H'->hU X.K X.H₀ W H H' vs xs->Q xs->Q' vs H'
theorem hU.same {K:ac}{H0:Hp}{W:Addr->Prop}{Hs Hs' H H':Hp}(s:aB H H')(b:aB Hs' Hs):∀{vs:List V}{xs:List (PV×Tg)},hU K H0 W Hs H vs xs->hU K H0 W Hs' H' vs xs
 |_,_,.nil=>.nil
 |_,_,.cons r t=>.cons (r.same s λ_ z=>Mg.back b z) (t.same s b)
theorem hU.any {K:ac}{H0:Hp}{W:Addr->Prop}{Hs H:Hp}:∀{vs:List V}{xs:List (PV×Tg)},hU K H0 W Hs H vs xs->Reps K (λ_=>True) H vs (xs.map (·.1))
 |_,_,.nil=>.nil
 |_,_,.cons r t=>.cons (r.same (aB.refl _) λ_ _=>trivial) t.any
def Nw:Tg->PV->Prop
 |.fr,_=>True
 |.nw,_=>True
 |_,x=>flat x=true
section
variable {K:ac}{H0 Hs H:Hp}{W:Addr→Prop}{σ:St}{ρ:b6}
theorem Nw.rep {g:Tg}{x:PV}{v:V}(px:PX K H0 W σ ρ Hs)(n:Nw g x)(r:aE K (Mg H0 W Hs g) H v x):aE K (Ms H0 W true) H v x:=by
 cases g with
 |fr=>exact r.same (aB.refl _) λa z=>px.new z
 |nw=>exact r.same (aB.refl _) λa z=>z
 |sh=>exact r.flat n
 |rd=>exact r.flat n
theorem N4 {v:V}{m:Slot}(r:rM K H0 W H v m):aE K (Mg H0 W Hs m.tag) H v m.val:=by
 cases m with
 |sh g x=>
  cases g with
  |true=>exact aE.same r (aB.refl _) λ_ z=>z
  |false=>exact aE.same r (aB.refl _) λ_ z=>z
 |own x=>
  obtain⟨a,rfl,_,r⟩:=r
  exact r.rep (λ_ _=>trivial) trivial
 |kp g x ks=>exact r.1.1.flat r.1.2
end
section
variable {X:Cx}{σ:St}{H:Hp}{Q':VK}{ta tb:aH}
def a5 (i:Nat):aH:=λρ Q=>∃m,ρ[i]? = some (some m)/\Q m.val m.tag
def qC (x:PV):aH:=λ_ Q=>Q x .fr
theorem az4 {i:Nat}(h:LE X (a5 i) σ H Q'):dQ i σ H Q':=by
 obtain⟨W,ρ,Q,px,⟨m,e,q⟩,k⟩:=h
 obtain⟨v,ev,r⟩:=px.sl i m e
 exact⟨v,ev,k v H _ _ (aB.refl _) (N4 r) q⟩
theorem oF {x:PV}{v:V}(hr:∀M,aE X.K M H v x)(h:LE X (qC x) σ H Q'):tC v σ H Q':=by
 obtain⟨W,ρ,Q,px,q,k⟩:=h
 exact k v H _ _ (aB.refl _) (hr _) q
def eC (X:Cx)(R:PV->Tg->PV->Tg->PK->Prop)(r:R2):Prop:=∀(W:Addr->Prop) (Hs H:Hp) (u v:V) (x y:PV) (g g':Tg) (Q:PK) (Q':VK),aB Hs H->
 (∀a,Hs a=none->¬W a/\X.H₀ a=none)->aE X.K (Mg X.H₀ W Hs g) H u x->aE X.K (Mg X.H₀ W Hs g') H v y->R x g y g' Q->(∀w H' z gz,aB H H'->aE X.K (Mg X.H₀ W Hs gz) H' w z->Q z gz->Q' w H')->r u v H Q'
def q2 (R:PV->Tg->PV->Tg->PK->Prop)(ta tb:aH):aH:=λρ Q=>ta ρ λx g=>tb ρ λy g'=>R x g y g' Q
theorem rO {R:PV->Tg->PV->Tg->PK->Prop}{r:R2}(c:eC X R r)(h:LE X (q2 R ta tb) σ H Q'):jO r (LE X ta) (LE X tb) σ H Q':=by
 obtain⟨W,ρ,Q,px,q,k⟩:=h
 refine⟨W,ρ,_,px,q,λu H1 x g s1 r1 q1=>⟨W,ρ,_,px.mono s1,q1,λv H2 y g' s2 r2 q2=>?_⟩⟩
 exact c W H H2 u v x y g g' Q Q' (s1.trans s2) (λa z=>px.new z) (r1.same s2 λ_ z=>z) (r2.same (aB.refl _) λ_ z=>Mg.back s1 z) q2 λw H' z gz s3 r3 q3=>k w H' z gz ((s1.trans s2).trans s3) r3 q3
def RI (C:Int->Int->Prop)(f:Int->Int->PV):PV->Tg->PV->Tg->PK->Prop:=λx _ y _ Q=>∃i j,x = .int i/\y = .int j/\C i j/\Q (f i j) .fr
def gB (f:Int->Int->PV):PV->Tg->PV->Tg->PK->Prop:=λx _ y _ Q=>∃i j,x = .int i/\y = .int j/\Q (f i j) .fr
theorem rP {C:Int->Int->Prop}{f:Int->Int->Int}:eC X (RI C λi j=>.int (f i j)) (rI C λi j=>.int (f i j)):=by
 rintro W Hs H u v x y g g' Q Q' s n r1 r2 ⟨i,j,rfl,rfl,c,q⟩ k
 cases r1;cases r2
 exact⟨i,j,rfl,rfl,c,k _ _ _ _ (aB.refl _) (.int _) q⟩
theorem N5 {f:Int->Int->Int}:eC X (gB λi j=>.int (f i j)) (iO λi j=>.int (f i j)):=by
 rintro W Hs H u v x y g g' Q Q' s n r1 r2 ⟨i,j,rfl,rfl,q⟩ k
 cases r1;cases r2
 exact⟨i,j,rfl,rfl,k _ _ _ _ (aB.refl _) (.int _) q⟩
theorem rQ {f:Int->Int->Bool}:eC X (gB λi j=>.bl (f i j)) (iO λi j=>.bl (f i j)):=by
 rintro W Hs H u v x y g g' Q Q' s n r1 r2 ⟨i,j,rfl,rfl,q⟩ k
 cases r1;cases r2
 exact⟨i,j,rfl,rfl,k _ _ _ _ (aB.refl _) (.bl _) q⟩
def m9 (neg:Bool):PV->Tg->PV->Tg->PK->Prop:=λx _ y _ Q=>(∃i j,x = .int i/\y = .int j/\Q (.bl (if neg=true then !decide (i=j) else decide (i=j))) .fr)∨(∃i j,x = .bl i/\y = .bl j/\Q (.bl (if neg=true then !decide (i=j) else decide (i=j))) .fr)
theorem N6 (i j:Int):decide (V.int i=V.int j)=decide (i=j):=by
 rw[bq0,bm2,bm2];exact⟨λz=>V.int.inj z,λz=>congrArg V.int z⟩
theorem N7 (i j:Bool):decide (V.bl i=V.bl j)=decide (i=j):=by
 rw[bq0,bm2,bm2];exact⟨λz=>V.bl.inj z,λz=>congrArg V.bl z⟩
theorem az5:eC X (m9 false) v3:=by
 rintro W Hs H u v x y g g' Q Q' s n r1 r2 (⟨i,j,rfl,rfl,q⟩|⟨i,j,rfl,rfl,q⟩) k
 ·cases r1;cases r2
  exact⟨rfl,by rw[N6];exact k _ _ _ _ (aB.refl _) (.bl _) q⟩
 ·cases r1;cases r2
  exact⟨rfl,by rw[N7];exact k _ _ _ _ (aB.refl _) (.bl _) q⟩
theorem az6:eC X (m9 true) v4:=by
 rintro W Hs H u v x y g g' Q Q' s n r1 r2 (⟨i,j,rfl,rfl,q⟩|⟨i,j,rfl,rfl,q⟩) k
 ·cases r1;cases r2
  exact⟨rfl,by rw[N6];exact k _ _ _ _ (aB.refl _) (.bl _) q⟩
 ·cases r1;cases r2
  exact⟨rfl,by rw[N7];exact k _ _ _ _ (aB.refl _) (.bl _) q⟩
def aZ (t:aH):cQ:=λρ Q=>t ρ λx _=>∃b,x = .bl b/\Q b
theorem rR {t:aH}{Q':Bool->Hp->Prop}(h:LT X (aZ t) σ H Q'):LE X t σ H λx H'=>∃k,x = .bl k/\Q' k H':=by
 obtain⟨W,ρ,Q,px,q,k⟩:=h
 refine⟨W,ρ,_,px,q,?_⟩
 rintro v H1 x g s r ⟨b,rfl,q⟩
 cases r
 exact⟨b,rfl,k _ _ s q⟩
def rS (t u:cQ):cQ:=λρ Q=>t ρ λc=>if c=true then u ρ Q else Q false
def hV (t u:cQ):cQ:=λρ Q=>t ρ λc=>if c=true then Q true else u ρ Q
def jT (t:cQ):cQ:=λρ Q=>t ρ λc=>Q (!c)
variable {t u:cQ}{Qb:Bool→Hp→Prop}
theorem az7 (h:LT X (rS t u) σ H Qb):B0 (LT X t) (LT X u) σ H Qb:=by
 obtain⟨W,ρ,Q,px,q,k⟩:=h
 refine⟨W,ρ,_,px,q,λb H1 s1 q1=>?_⟩
 cases b with
 |true=>exact b7 ⟨W,ρ,Q,px.mono s1,by simpa using q1,λb H2 s2 q2=>k _ _ (s1.trans s2) q2⟩
 |false=>exact aP (k _ _ s1 (by simpa using q1))
theorem az8 (h:LT X (hV t u) σ H Qb):uQ (LT X t) (LT X u) σ H Qb:=by
 obtain⟨W,ρ,Q,px,q,k⟩:=h
 refine⟨W,ρ,_,px,q,λb H1 s1 q1=>?_⟩
 cases b with
 |false=>exact aP ⟨W,ρ,Q,px.mono s1,by simpa using q1,λb H2 s2 q2=>k _ _ (s1.trans s2) q2⟩
 |true=>exact b7 (k _ _ s1 (by simpa using q1))
theorem az9 (h:LT X (jT t) σ H Qb):B1 (LT X t) σ H Qb:=by
 obtain⟨W,ρ,Q,px,q,k⟩:=h
 exact⟨W,ρ,_,px,q,λb H1 s1 q1=>k _ _ s1 q1⟩
def oG (ta tb:aH):aH:=λρ Q=>ta ρ λx _=>∃c,x = .bl c/\if c=true then tb ρ Q else Q (.bl false) .fr
def wU (ta tb:aH):aH:=λρ Q=>ta ρ λx _=>∃c,x = .bl c/\if c=true then Q (.bl true) .fr else tb ρ Q
theorem rN.back {K:ac}{H0:Hp}{W:Addr->Prop}{H H1:Hp}{Q:PK}(k:rN K H0 W H Q Q')(s:aB H H1):rN K H0 W H1 Q Q':=λv H' x g s' r q=>k v H' x g (s.trans s') (r.same (aB.refl _) λ_ z=>Mg.back s z) q
theorem aA0 (h:LE X (oG ta tb) σ H Q'):B4 (LE X ta) (LE X tb) σ H Q':=by
 obtain⟨W,ρ,Q,px,q,k⟩:=h
 refine⟨W,ρ,_,px,q,?_⟩
 rintro v H1 x g s1 r ⟨c,rfl,q⟩
 cases r
 refine⟨c,rfl,?_⟩
 cases c with
 |true=>exact b7 ⟨W,ρ,Q,px.mono s1,by simpa using q,k.back s1⟩
 |false=>exact aP (k _ _ _ _ s1 (.bl _) (by simpa using q))
theorem aA1 (h:LE X (wU ta tb) σ H Q'):B5 (LE X ta) (LE X tb) σ H Q':=by
 obtain⟨W,ρ,Q,px,q,k⟩:=h
 refine⟨W,ρ,_,px,q,?_⟩
 rintro v H1 x g s1 r ⟨c,rfl,q⟩
 cases r
 refine⟨c,rfl,?_⟩
 cases c with
 |false=>exact aP ⟨W,ρ,Q,px.mono s1,by simpa using q,k.back s1⟩
 |true=>exact b7 (k _ _ _ _ s1 (.bl _) (by simpa using q))
def aC:bT:=λ_ Q=>Q []
def a9 (te:aH)(tr:bT):bT:=λρ Q=>te ρ λx g=>tr ρ λxs=>Q ((x,g)::xs)
variable {Qa:List V→Hp→Prop}{tr:bT}
theorem N8 (h:LA X aC σ H Qa):fN σ H Qa:=by
 obtain⟨W,ρ,Q,px,q,k⟩:=h
 exact k _ _ _ (aB.refl _) .nil q
theorem aA2 (h:LA X (a9 ta tr) σ H Qa):gZ (LE X ta) (LA X tr) σ H Qa:=by
 obtain⟨W,ρ,Q,px,q,k⟩:=h
 refine⟨W,ρ,_,px,q,λv H1 x g s1 r1 q1=>⟨W,ρ,_,px.mono s1,q1,λvs H2 xs s2 r2 q2=>?_⟩⟩
 exact k _ _ _ (s1.trans s2) (.cons (r1.same s2 λ_ z=>z) (r2.same (aB.refl _) s1)) q2
def bG (t:bT):aH:=λρ Q=>t ρ λxs=>xs.length<=1000/\flats (xs.map (·.1))=true/\Q (.tup (xs.map (·.1))) .fr
def fQ (t:bT):aH:=λρ Q=>t ρ λxs=>xs.length<=1000/\flats (xs.map (·.1))=true/\Q (.lst (xs.map (·.1))) .fr
theorem hU.length {K:ac}{H0:Hp}{W:Addr->Prop}{Hs H:Hp}:∀{vs:List V}{xs:List (PV×Tg)},hU K H0 W Hs H vs xs->vs.length=xs.length
 |_,_,.nil=>rfl
 |_,_,.cons _ t=>congrArg (·+1) t.length
theorem wV {n:Nat}(h:n<=1000):n<=sizeLine:=br0 (o8 h)
theorem aA3 (h:LE X (bG tr) σ H Q'):F2 (LA X tr) σ H Q':=by
 obtain⟨W,ρ,Q,px,q,k⟩:=h
 refine⟨W,ρ,_,px,q,?_⟩
 rintro vs H1 xs s1 r ⟨hl,n,q⟩
 refine⟨by rw[r.length];exact wV hl,λp hp=>k _ _ _ .fr (s1.trans (bR hp _)) (.tup aU ?_) q⟩
 exact (r.any.flat n).same (bR hp _) λ_ z=>z
theorem aA4 (h:LE X (fQ tr) σ H Q'):vF (LA X tr) σ H Q':=by
 obtain⟨W,ρ,Q,px,q,k⟩:=h
 refine⟨W,ρ,_,px,q,?_⟩
 rintro vs H1 xs s1 r ⟨hl,n,q⟩
 refine⟨by rw[r.length];exact wV hl,λp hp=>k _ _ _ .fr (s1.trans (bR hp _)) (.lst (s1.free hp) aU ?_) q⟩
 exact (r.any.flat n).same (bR hp _) λ_ z=>z
def dM (X:Cx)(R:List PV->(PV->Prop)->Prop)(r:List V->Hp->VK->Prop):Prop:=∀(H:Hp) (vs:List V) (xs:List PV) (Q:PV->Prop) (Q':VK),Reps X.K (λ_=>True) H vs xs->R xs Q->
 (∀w H' z,aB H H'->aE X.K (λa=>H a=none) H' w z->Q z->Q' w H')->r vs H Q'
def aO (R:List PV->(PV->Prop)->Prop)(t:bT):aH:=λρ Q=>t ρ λxs=>R (xs.map (·.1)) λz=>Q z .fr
theorem N9 {R:List PV->(PV->Prop)->Prop}{r:List V->Hp->VK->Prop}(c:dM X R r)(h:LE X (aO R tr) σ H Q'):vJ r (LA X tr) σ H Q':=by
 obtain⟨W,ρ,Q,px,q,k⟩:=h
 refine⟨W,ρ,_,px,q,λvs H1 xs s1 r1 q1=>c H1 vs _ _ Q' r1.any q1 λw H' z s2 r2 q2=>k w H' z .fr (s1.trans s2) (r2.same (aB.refl _) λ_ z=>s1.free z) q2⟩
end
structure kY where
 nx:b6->Prop
 rt:PV->Prop
 bk:b6->Prop:=λ_=>False
 ct:b6->Prop:=λ_=>False
abbrev aS:=kY->b6->Prop
def Ev (W:Addr->Prop)(H:Hp)(W':Addr->Prop)(H':Hp):Prop:=∀b o,H b=some o->¬W b->m8 o=false->H' b=some o/\¬W' b
theorem Ev.trans {W W1 W2:Addr->Prop}{H H1 H2:Hp}(a:Ev W H W1 H1)(b:Ev W1 H1 W2 H2):Ev W H W2 H2:=λc o h n z=>let ⟨h1,n1⟩:=a c o h n z;b c o h1 n1 z
theorem Ev.same {W:Addr->Prop}{H H':Hp}(s:aB H H'):Ev W H W H':=λc o h n _=>⟨s _ _ h,n⟩
theorem Ev.refl (W:Addr->Prop)(H:Hp):Ev W H W H:=Ev.same (aB.refl _)
structure rT (X:Cx)(W:Addr->Prop)(H:Hp)(D':kY)(D:bP):Prop where
 nx:∀W' σ' H' ρ',Ev W H W' H'->PX X.K X.H₀ W' σ' ρ' H'->D'.nx ρ'->D.nx σ' H'
 rt:∀v H' x,aB X.H₀ H'->aE X.K (λa=>X.H₀ a=none) H' v x->D'.rt x->D.rt v H'
 bk:∀W' σ' H' ρ',Ev W H W' H'->PX X.K X.H₀ W' σ' ρ' H'->D'.bk ρ'->D.bk σ' H'
 ct:∀W' σ' H' ρ',Ev W H W' H'->PX X.K X.H₀ W' σ' ρ' H'->D'.ct ρ'->D.ct σ' H'
theorem rT.step {X:Cx}{W W1:Addr->Prop}{H H1:Hp}{D':kY}{D:bP}(k:rT X W H D' D)(e:Ev W H W1 H1):rT X W1 H1 D' D:=
 ⟨λW' σ' H' ρ' e'=>k.nx W' σ' H' ρ' (e.trans e'),k.rt,λW' σ' H' ρ' e'=>k.bk W' σ' H' ρ' (e.trans e'),λW' σ' H' ρ' e'=>k.ct W' σ' H' ρ' (e.trans e')⟩
def LS (X:Cx)(t:aS):TS:=λD σ H=>∃(W:Addr->Prop) (ρ:b6) (D':kY),PX X.K X.H₀ W σ ρ H/\t D' ρ/\rT X W H D' D
theorem dN {α:Type}{l:List α}{i j:Nat}{a b:α}(h:(l.set i a)[j]? = some b):(j=i/\i<l.length/\b=a)∨(j≠i/\l[j]? = some b):=by
 by_cases e:j=i
 ·subst e
  have hl:j<(l.set j a).length:=(bl7.mp h).1
  rw[bq8]at hl
  rw[br1 hl]at h
  exact .inl ⟨rfl,hl,(bl6 h).symm⟩
 ·rw[bn2 (Ne.symm e)]at h
  exact .inr ⟨e,h⟩
section
variable {K:ac}{H0:Hp}{W W':Addr→Prop}{σ:St}{ρ:b6}{H H' Hs:Hp}
theorem PX.setSh {i:Nat}{v:V}{g:Bool}{x:PV}(p:PX K H0 W σ ρ H)(r:aE K (Ms H0 W g) H v x):PX K H0 W (σ.set i (some v)) (ρ.set i (some (.sh g x))) H:=by
 refine⟨by rw[bq8,bq8];exact p.len,p.same,p.wm,λj m h=>?_,λj k y z a h1 h2 h3 h4=>?_⟩
 ·rcases dN h with⟨rfl,hl,e⟩|⟨hne,h⟩
  ·cases e
   rw[p.len]at hl
   exact⟨v,br1 hl,r⟩
  ·obtain⟨u,e,q⟩:=p.sl j m h
   exact⟨u,by rw[bn2 (Ne.symm hne)];exact e,q⟩
 ·rcases dN h1 with⟨_,_,e⟩|⟨n1,h1⟩
  ·cases e
  ·rcases dN h2 with⟨_,_,e⟩|⟨n2,h2⟩
   ·cases e
   ·rw[bn2 (Ne.symm n1)]at h3
    rw[bn2 (Ne.symm n2)]at h4
    exact p.dis j k y z a h1 h2 h3 h4
def mB (W:Addr->Prop)(a:Addr):Addr->Prop:=λb=>W b∨b=a
theorem wW {g:Bool}{a b:Addr}(n:b≠a)(h:Ms H0 W g b):Ms H0 (mB W a) g b:=by
 cases g with
 |true=>exact⟨λz=>z.elim h.1 n,h.2⟩
 |false=>exact λz=>z.elim h n
theorem PX.setOwn {i:Nat}{a:Addr}{x:PV}(p:PX K H0 W σ ρ Hs)(s:aB Hs H)(ha:Hs a=none)(r:hJ K (Ms H0 (mB W a) true) H a x):PX K H0 (mB W a) (σ.set i (some (.ref a))) (ρ.set i (some (.own x))) H:=by
 have old:∀b o,Hs b=some o->b≠a:=λb o e z=>by rw[z,ha]at e;cases e
 have kp:∀g,dU (Ms H0 W g) (Ms H0 (mB W a) g) Hs H:=λg=>⟨λb _ m e=>⟨wW (old _ _ e) m,s _ _ e⟩,λb _ m e=>⟨wW (old _ _ e) m,s _ _ e⟩,λb _ m e=>⟨wW (old _ _ e) m,s _ _ e⟩,λ_ _ e=>s _ _ e,λ_ _ _ e _=>s _ _ e⟩
 have wa:¬W a:=(p.new ha).1
 refine⟨by rw[bq8,bq8];exact p.len,p.same.trans s,λb z=>?_,λj m h=>?_,λj k y z b h1 h2 h3 h4=>?_⟩
 ·rcases z with z|rfl
  ·obtain⟨h1,o,h2,h3⟩:=p.wm b z
   exact⟨h1,o,s _ _ h2,h3⟩
  ·exact⟨(p.new ha).2,r.at⟩
 ·rcases dN h with⟨rfl,hl,e⟩|⟨hne,h⟩
  ·cases e
   rw[p.len]at hl
   exact⟨_,br1 hl,a,rfl,.inr rfl,r⟩
  ·obtain⟨u,e,q⟩:=p.sl j m h
   refine⟨u,by rw[bn2 (Ne.symm hne)];exact e,?_⟩
   cases m with
   |sh g y=>exact aE.keep (kp g) q
   |own y=>
    obtain⟨b,e1,e2,q⟩:=q
    exact⟨b,e1,.inl e2,q.keep (kp true) λo z=>s _ _ z⟩
   |kp g c ks=>exact⟨⟨q.1.1.same s λ_ z=>z,q.1.2⟩,q.2.same s⟩
 ·have ne:∀{j:Nat}{y:PV},ρ[j]? = some (some (.own y))->σ[j]?≠some (some (.ref a)):=λ{j y} h1 h2=>by
   obtain⟨u,e,c,e1,e2,_⟩:=p.sl j _ h1
   rw[h2]at e
   cases e
   cases e1
   exact wa e2
  rcases dN h1 with⟨e1,l1,_⟩|⟨n1,h1⟩
  ·rcases dN h2 with⟨e2,_,_⟩|⟨n2,h2⟩
   ·rw[e1,e2]
   ·rw[e1,br1 (by rw[<- p.len];exact l1)]at h3
    rw[bn2 (Ne.symm n2)]at h4
    cases h3
    exact absurd h4 (ne h2)
  ·rw[bn2 (Ne.symm n1)]at h3
   rcases dN h2 with⟨e2,l2,_⟩|⟨n2,h2⟩
   ·rw[e2,br1 (by rw[<- p.len];exact l2)]at h4
    cases h4
    exact absurd h3 (ne h1)
   ·rw[bn2 (Ne.symm n2)]at h4
    exact p.dis j k y z b h1 h2 h3 h4
theorem Ev.own {a:Addr}(s:aB Hs H)(ha:Hs a=none):Ev W Hs (mB W a) H:=λb o e n _=>⟨s _ _ e,λz=>z.elim n λz=>by rw[z,ha]at e;cases e⟩
theorem oH {g:Bool}{a b:Addr}(wa:W a)(h:Ms H0 W g b):b≠a:=by
 cases g with
 |true=>exact λz=>h.1 (by rw[z];exact wa)
 |false=>exact λz=>h (by rw[z];exact wa)
theorem PX.updOwn {i:Nat}{a:Addr}{x y:PV}{o:HO}(p:PX K H0 W σ ρ H)(hi:ρ[i]? = some (some (.own x)))(ha:σ[i]? = some (some (.ref a)))(wa:W a)(mu:eL o=true)(r:hJ K (Ms H0 W true) (upd H a o) a y) :
  PX K H0 W σ (ρ.set i (some (.own y))) (upd H a o):=by
 obtain⟨w0,o',e',mu'⟩:=p.wm a wa
 have kp:∀g,dU (Ms H0 W g) (Ms H0 W g) H (upd H a o):=λg=>.upd e' mu' λb m=>⟨oH wa m,m⟩
 refine⟨by rw[bq8];exact p.len,λb u e=>by rw[aF (λz=>by rw[z,w0]at e;cases e)];exact p.same _ _ e,λb z=>?_,λj m h=>?_,λj k y' z b h1 h2 h3 h4=>?_⟩
 ·by_cases e:b=a
  ·subst e;exact⟨w0,o,aU,mu⟩
  ·obtain⟨h1,o2,h2,h3⟩:=p.wm b z
   exact⟨h1,o2,by rw[aF e];exact h2,h3⟩
 ·rcases dN h with⟨rfl,hl,e⟩|⟨hne,h⟩
  ·cases e
   exact⟨_,ha,a,rfl,wa,r⟩
  ·obtain⟨u,e,q⟩:=p.sl j m h
   refine⟨u,e,?_⟩
   cases m with
   |sh g y=>exact aE.keep (kp g) q
   |own y=>
    obtain⟨b,e1,e2,q⟩:=q
    have hb:b≠a:=λz=>by
     subst e1
     rw[z]at e
     exact hne (p.dis j i _ _ a h hi e ha)
    exact⟨b,e1,e2,q.keep (kp true) λo z=>by rw[aF hb];exact z⟩
   |kp g c ks=>exact⟨⟨q.1.1.keep (.upd e' mu' λ_ z=>z.elim),q.1.2⟩,q.2.upd e' mu'⟩
 ·have g1:∃y,ρ[j]? = some (some (.own y)):=by
   rcases dN h1 with⟨e,_,_⟩|⟨_,h⟩
   ·exact⟨x,by rw[e];exact hi⟩
   ·exact⟨_,h⟩
  have g2:∃y,ρ[k]? = some (some (.own y)):=by
   rcases dN h2 with⟨e,_,_⟩|⟨_,h⟩
   ·exact⟨x,by rw[e];exact hi⟩
   ·exact⟨_,h⟩
  obtain⟨y1,g1⟩:=g1
  obtain⟨y2,g2⟩:=g2
  exact p.dis j k y1 y2 b g1 g2 h3 h4
theorem Ev.upd {a:Addr}{o:HO}(wa:W a):Ev W H W (upd H a o):=λb u e n _=>⟨by rw[aF (λz=>n (by rw[z];exact wa))];exact e,n⟩
end
section
variable {X:Cx}{σ:St}{H:Hp}{D:bP}{te:aH}{t u:aS}
def bH:aS:=λD ρ=>D.nx ρ
def aR (t u:aS):aS:=λD ρ=>t { D with nx:=u D } ρ
theorem aA5 (h:LS X bH D σ H):uR D σ H:=by
 obtain⟨W,ρ,D',px,q,k⟩:=h
 exact k.nx W σ H ρ (Ev.refl _ _) px q
theorem aA6 (h:LS X (aR t u) D σ H):B6 (LS X t) (LS X u) D σ H:=by
 obtain⟨W,ρ,D',px,q,k⟩:=h
 exact⟨W,ρ,_,px,q,λW' σ' H' ρ' e px' q'=>⟨W',ρ',D',px',q',k.step e⟩,k.rt,k.bk,k.ct⟩
def wX:Tg->PV->Bool
 |.fr,_=>true
 |.nw,_=>true
 |_,x=>flat x
def O0:Tg->PV->Prop
 |.rd,x=>flat x=true
 |_,_=>True
theorem aA7 {K:ac}{H0 Hs H:Hp}{W:Addr->Prop}{σ:St}{ρ:b6}{g:Tg}{x:PV}{v:V}(px:PX K H0 W σ ρ Hs)(n:O0 g x)(r:aE K (Mg H0 W Hs g) H v x):aE K (Ms H0 W (wX g x)) H v x:=by
 cases g with
 |fr=>exact Nw.rep (g:=.fr) px trivial r
 |nw=>exact Nw.rep (g:=.nw) px trivial r
 |sh=>
  show aE K (Ms H0 W (flat x)) H v x
  cases e:flat x with
  |true=>exact r.flat e
  |false=>exact r.same (aB.refl _) λ_ z=>z
 |rd=>exact r.flat n
def bE (i:Nat)(te:aH):aS:=λD ρ=>te ρ λx g=>O0 g x/\D.nx (ρ.set i (some (.sh (wX g x) x)))
theorem aA8 {i:Nat}(h:LS X (bE i te) D σ H):qQ (LE X te) (fF i) D σ H:=by
 obtain⟨W,ρ,D',px,q,k⟩:=h
 refine⟨W,ρ,_,px,q,?_⟩
 rintro v H1 x g s r ⟨n,q⟩
 exact k.nx W _ H1 _ (Ev.same s) ((px.mono s).setSh (aA7 px n r)) q
def O1:PV->Bool
 |.lst xs=>flats xs
 |.dK ps=>flats (ps.map (·.2))
 |.dT ps=>flats (ps.map (·.2))
 |_=>false
theorem aA9 {K:ac}{M:Addr->Prop}{H:Hp}{v:V}{x:PV}(r:aE K M H v x)(o:O1 x=true):∃a,v = .ref a/\M a/\∀M',hJ K M' H a x:=by
 cases r with
 |lst m e r=>exact⟨_,rfl,m,λ_=>⟨_,e,r.flat o⟩⟩
 |dK m e q r=>exact⟨_,rfl,m,λ_=>⟨_,e,q,r.flat o⟩⟩
 |dT m e q r=>exact⟨_,rfl,m,λ_=>⟨_,e,q,r.flat o⟩⟩
 |_=>cases o
def iX (i:Nat)(te:aH):aS:=λD ρ=>te ρ λx g=>g = .fr/\O1 x=true/\D.nx (ρ.set i (some (.own x)))
theorem aB0 {i:Nat}(h:LS X (iX i te) D σ H):qQ (LE X te) (fF i) D σ H:=by
 obtain⟨W,ρ,D',px,q,k⟩:=h
 refine⟨W,ρ,_,px,q,?_⟩
 rintro v H1 x g s r ⟨rfl,o,q⟩
 obtain⟨a,rfl,m,w⟩:=aA9 r o
 exact k.nx _ _ H1 _ (Ev.own s m) (px.setOwn s m (w _)) q
def bC (te:aH):aS:=λD ρ=>te ρ λx g=>Nw g x/\D.rt x
theorem aB1 (h:LS X (bC te) D σ H):uS (LE X te) D σ H:=by
 obtain⟨W,ρ,D',px,q,k⟩:=h
 refine⟨W,ρ,_,px,q,?_⟩
 rintro v H1 x g s r ⟨n,q⟩
 exact k.rt v H1 x (px.same.trans s) ((Nw.rep px n r).same (aB.refl _) λ_ z=>z.2) q
def Slot.nw:Slot->Prop
 |.own _=>True
 |.kp _ _ _=>True
 |.sh true _=>True
 |.sh false x=>flat x=true
def mC (i:Nat):aS:=λD ρ=>∃m,ρ[i]? = some (some m)/\m.nw/\D.rt m.val
theorem aB2 {i:Nat}(h:LS X (mC i) D σ H):uS (dQ i) D σ H:=by
 obtain⟨W,ρ,D',px,⟨m,hi,n,q⟩,k⟩:=h
 obtain⟨v,ev,r⟩:=px.sl i _ hi
 refine⟨v,ev,k.rt v H _ px.same ?_ q⟩
 cases m with
 |own x=>
  obtain⟨a,rfl,wa,r⟩:=r
  exact r.rep (λ_ z=>z.2) (px.wm a wa).1
 |sh g x=>
  cases g with
  |true=>exact aE.same r (aB.refl _) λ_ z=>z.2
  |false=>exact aE.flat n r
 |kp g x ks=>exact r.1.1.flat r.1.2
def bI (c:cQ)(t u:aS):aS:=λD ρ=>c ρ λb=>if b=true then t D ρ else u D ρ
theorem aB3 {c:cQ}(h:LS X (bI c t u) D σ H):uT (LT X c) (LS X t) (LS X u) D σ H:=by
 obtain⟨W,ρ,D',px,q,k⟩:=h
 refine⟨W,ρ,_,px,q,λb H1 s q1=>?_⟩
 cases b with
 |true=>exact b7 ⟨W,ρ,D',px.mono s,by simpa using q1,k.step (Ev.same s)⟩
 |false=>exact aP ⟨W,ρ,D',px.mono s,by simpa using q1,k.step (Ev.same s)⟩
def wY (c:cQ)(tb:aS):aS:=λD ρ=>∃I:Nat->b6->Prop,(∃m,I m ρ)/\∀m ρ',I m ρ'->c ρ' λb=>if b=true then tb { D with nx:=λρ2=>∃m',m'<m/\I m' ρ2,ct:=λρ2=>∃m',m'<m/\I m' ρ2,bk:=D.nx } ρ' else D.nx ρ'
theorem aB4 {c:cQ}{tb:aS}(h:LS X (wY c tb) D σ H):B9 (LT X c) (LS X tb) D σ H:=by
 obtain⟨W,ρ,D',px,⟨I,⟨m0,i0⟩,turn⟩,k⟩:=h
 refine⟨λm σ2 H2=>∃W2 ρ2,PX X.K X.H₀ W2 σ2 ρ2 H2/\Ev W H W2 H2/\I m ρ2,⟨m0,W,ρ,px,Ev.refl _ _,i0⟩,?_⟩
 rintro m σ2 H2 ⟨W2,ρ2,px2,e2,i2⟩
 refine⟨W2,ρ2,_,px2,turn m ρ2 i2,λb H3 s3 q3=>?_⟩
 cases b with
 |true=>
  refine b7 ⟨λσ4 H4=>∃W4 ρ4,PX X.K X.H₀ W4 σ4 ρ4 H4/\Ev W H W4 H4/\∃m',m'<m/\I m' ρ4,λσ4 H4 ⟨W4,ρ4,a,b,m',c,d⟩=>⟨m',c,W4,ρ4,a,b,d⟩,W2,ρ2,_,px2.mono s3,by simpa using q3,?_⟩
  have e3:Ev W H W2 H3:=e2.trans (Ev.same s3)
  exact⟨λW' σ' H' ρ' e p q=>⟨W',ρ',p,e3.trans e,q⟩,k.rt,λW' σ' H' ρ' e p q=>k.nx W' σ' H' ρ' (e3.trans e) p q,λW' σ' H' ρ' e p q=>⟨W',ρ',p,e3.trans e,q⟩⟩
 |false=>exact aP (k.nx W2 σ2 H3 ρ2 (e2.trans (Ev.same s3)) (px2.mono s3) (by simpa using q3))
end
theorem lim {n:Nat}(h:n<=16000000):n<=sizeLine:=br0 (gQ h)
theorem aE.sqT {K:ac}{M:Addr->Prop}{H:Hp}{v:V}{xs:List PV}(r:aE K M H v (.tup xs)):∃a us,v = .ref a/\H a=some (.tup us)/\Reps K M H us xs:=by
 cases r with
 |tup e r=>exact⟨_,_,rfl,e,r⟩
theorem aE.sqL {K:ac}{M:Addr->Prop}{H:Hp}{v:V}{xs:List PV}(r:aE K M H v (.lst xs)):∃a us,v = .ref a/\M a/\H a=some (.lst us)/\Reps K M H us xs:=by
 cases r with
 |lst m e r=>exact⟨_,_,rfl,m,e,r⟩
theorem iW.sqL {K:ac}{H:Hp}{a:Addr}{ns:af}(h:iW K H a ns):aM K H a (ns.map V.int):=h.elim (λz=>.inl (.inr z)) .inr
def iY:PV->Option (List PV)
 |.tup xs=>some xs
 |.lst xs=>some xs
 |.scr ns=>some (intz ns)
 |.kt xs=>some xs
 |.fL xs=>some xs
 |_=>none
theorem aE.seq {K:ac}{M:Addr->Prop}{H:Hp}{v:V}{x:PV}{xs:List PV}(r:aE K M H v x)(e:iY x=some xs):∃a us,v = .ref a/\(aM K H a us∨aL K H a us)/\Reps K M H us xs:=by
 cases r with
 |tup h r=>cases e;exact⟨_,_,rfl,.inr (aL.of h),r⟩
 |lst m h r=>cases e;exact⟨_,_,rfl,.inl (aM.of h),r⟩
 |scr h=>cases e;exact⟨_,_,rfl,.inl h.sqL,Reps.intz _⟩
 |kt h r=>cases e;exact⟨_,_,rfl,.inr (.inr h),r⟩
 |fL h r=>cases e;exact⟨_,_,rfl,.inl (.inl (.inr ⟨_,h⟩)),r⟩
 |_=>cases e
section
variable {X:Cx}{σ:St}{H:Hp}{D:bP}{te ti to:aH}{t u:aS}{Q':VK}
theorem _root_.PP.PX.updL {K:ac}{H0:Hp}{W:Addr->Prop}{σ:St}{ρ:b6}{H:Hp}{i:Nat}{a:Addr}{x:PV}{us:List V}{ys:List PV}(p:PX K H0 W σ ρ H)(hi:ρ[i]? = some (some (.own x)))(ha:σ[i]? = some (some (.ref a)))(wa:W a)(r:Reps K (Ms H0 W true) (upd H a (.lst us)) us ys) :
  PX K H0 W σ (ρ.set i (some (.own (.lst ys)))) (upd H a (.lst us)):=p.updOwn hi ha wa rfl (y:=.lst ys) ⟨us,aU,r⟩
def mD (i:Nat)(te:aH):aS:=λD ρ=>∃xs,ρ[i]? = some (some (.own (.lst xs)))/\te ρ λx g=>Nw g x/\xs.length<16000000/\D.nx (ρ.set i (some (.own (.lst (xs++[x])))))
theorem aB5 {i:Nat}(h:LS X (mD i te) D σ H):kN (J5 X.K "list" vV (dQ i) (gZ (LE X te) fN)) D σ H:=by
 obtain⟨W,ρ,D',px,⟨xs,hi,q⟩,k⟩:=h
 obtain⟨v,ev,a,rfl,wa,us,ea,r⟩:=px.sl i _ hi
 refine⟨_,ev,oE (aM.of ea),W,ρ,_,px,q,?_⟩
 rintro w H1 x g s rx ⟨n,hl,q⟩
 have ea1:=s _ _ ea
 refine⟨a,us,w,rfl,rfl,ea1,gQ (by rw[r.length];omega),?_⟩
 refine k.nx W σ _ _ ((Ev.same s).trans (Ev.upd wa)) ((px.mono s).updL hi ev wa ?_) q
 exact ((r.same s λ_ z=>z).append (.cons (Nw.rep px n rx) .nil)).keep (.upd ea1 rfl λb m=>⟨oH wa m,m⟩)
theorem Reps.snoc_inv {K:ac}{M:Addr->Prop}{H:Hp}{us:List V}{xs:List PV}{y:PV}(r:Reps K M H us (xs++[y])):∃vs v,us=vs++[v]/\Reps K M H vs xs/\aE K M H v y:=by
 have l:=r.length
 have h1:=r.take xs.length
 have h2:=r.drop xs.length
 rw[List.take_left]at h1
 rw[List.drop_left]at h2
 generalize hd:us.drop xs.length=ds at h2
 cases h2 with
 |cons q t=>
  cases t
  exact⟨_,_,by rw[<- hd,bo2],h1,q⟩
end
theorem Reps.atI {K:ac}{M:Addr->Prop}{H:Hp}{us:List V}{xs:List PV}{i:Int}{z:PV}(r:Reps K M H us xs)(h:L2.atI xs i=some z):∃v,L2.atI us i=some v/\aE K M H v z:=by
 unfold L2.atI at h ⊢
 rw[r.length]
 cases e:iQ xs.length i with
 |none=>rw[e]at h;cases h
 |some j=>rw[e]at h;exact r.at h
section
variable {X:Cx}{σ:St}{H:Hp}{Q':VK}{ta tb te:aH}{tr:bT}
def wZ:PV->Tg->PV->Tg->PK->Prop:=λx g y _ Q=>∃xs i z,iY x=some xs/\y = .int i/\L2.atI xs i=some z/\Q z g
theorem aB6:eC X wZ (G9 X.K):=by
 rintro W Hs H u v x y g g' Q Q' s n r1 r2 ⟨xs,i,z,e,rfl,hz,q⟩ k
 cases r2
 obtain⟨a,us,rfl,hs,r⟩:=r1.seq e
 obtain⟨v,hv,rv⟩:=r.atI hz
 rcases hs with hs|hs
 ·exact .inl ⟨a,us,i,v,rfl,rfl,hs,hv,k v H z g (aB.refl _) rv q⟩
 ·exact .inr (.inl ⟨a,us,i,v,rfl,rfl,hs,hv,k v H z g (aB.refl _) rv q⟩)
def O2:PV->Option Nat
 |.tup xs=>some xs.length
 |.lst xs=>some xs.length
 |.scr ns=>some ns.length
 |.dK ps=>some ps.length
 |.kt xs=>some xs.length
 |.fL xs=>some xs.length
 |_=>none
def jU:List PV->(PV->Prop)->Prop:=λxs Q=>∃x n,xs = [x]/\O2 x=some n/\Q (.int n)
theorem Reps.one {K:ac}{M:Addr->Prop}{H:Hp}{vs:List V}{x:PV}(r:Reps K M H vs [x]):∃v,vs = [v]/\aE K M H v x:=by
 cases r with
 |cons r t=>cases t;exact⟨_,rfl,r⟩
theorem Reps.two {K:ac}{M:Addr->Prop}{H:Hp}{vs:List V}{x y:PV}(r:Reps K M H vs [x,y]):∃v w,vs = [v,w]/\aE K M H v x/\aE K M H w y:=by
 cases r with
 |cons r t=>
  obtain⟨w,rfl,q⟩:=t.one
  exact⟨_,_,rfl,r,q⟩
theorem aB7:dM X jU (λxs H Q=>(∃p ys,xs = [.ref p]/\(aM X.K H p ys∨aL X.K H p ys)/\Q (.int ys.length) H)∨∃a kvs,xs = [V.ref a]/\H a=some (.dK kvs)/\Q (.int kvs.length) H):=by
 rintro H vs xs Q Q' r ⟨x,n,rfl,e,q⟩ k
 obtain⟨v,rfl,r1⟩:=r.one
 have fin:∀{m:Nat},m=n->Q' (.int m) H:=λ{m} z=>by rw[z];exact k _ _ _ (aB.refl _) (.int _) q
 cases r1 with
 |tup h r2=>cases e;exact .inl ⟨_,_,rfl,.inr (aL.of h),fin r2.length⟩
 |lst m h r2=>cases e;exact .inl ⟨_,_,rfl,.inl (aM.of h),fin r2.length⟩
 |scr h=>cases e;exact .inl ⟨_,_,rfl,.inl h.sqL,fin (by rw[bl1])⟩
 |kt h r2=>cases e;exact .inl ⟨_,_,rfl,.inr (.inr h),fin r2.length⟩
 |fL h r2=>cases e;exact .inl ⟨_,_,rfl,.inl (.inl (.inr ⟨_,h⟩)),fin r2.length⟩
 |dK m h e' r=>
  cases e
  refine .inr ⟨_,_,rfl,h,fin ?_⟩
  have:=congrArg List.length e'
  rw[bl1,bl1]at this
  exact this
 |_=>cases e
def seqT:PV->Option (List PV)
 |.kt _=>none
 |x=>iY x
def O3:List PV->(PV->Prop)->Prop:=λxs Q=>∃x ys,xs = [x]/\seqT x=some ys/\flats ys=true/\Q (.tup ys)
theorem aB8:dM X (λxs Q=>O3 xs Q/\∀ns,xs≠[.scr ns]) (λxs H Q=>∃p ys,xs = [.ref p]/\((aM X.K H p ys/\∀l,H l=none->Q (.ref l) (upd H l (.tup ys)))∨(aL X.K H p ys/\Q (.ref p) H))):=by
 rintro H vs xs Q Q' r ⟨⟨x,ys,rfl,e,f,q⟩,nsc⟩ k
 obtain⟨v,rfl,r1⟩:=r.one
 cases r1 with
 |tup h r2=>cases e;exact⟨_,_,rfl,.inr ⟨aL.of h,k _ _ _ (aB.refl _) (.tup h (r2.flat f)) q⟩⟩
 |lst m h r2=>cases e;exact⟨_,_,rfl,.inl ⟨aM.of h,λl hl=>k _ _ _ (bR hl _) (.tup aU ((r2.flat f).same (bR hl _) λ_ z=>z)) q⟩⟩
 |scr h=>exact absurd rfl (nsc _)
 |fL h r2=>cases e;exact⟨_,_,rfl,.inl ⟨.inl (.inr ⟨_,h⟩),λl hl=>k _ _ _ (bR hl _) (.tup aU ((r2.flat f).same (bR hl _) λ_ z=>z)) q⟩⟩
 |_=>cases e
def x4:List PV->(PV->Prop)->Prop:=λxs Q=>∃bs:List Bool,xs = [.lst (bs.map PV.bl)]/\Q (.bl (bs.all id))
theorem Reps.ofBls {K:ac}{M:Addr->Prop}{H:Hp}:∀{ns:List Bool}{us:List V},Reps K M H us (ns.map PV.bl)->us=ns.map V.bl
 |[],_,.nil=>rfl
 |n::r,_,.cons q t=>by
  cases q
  rw[Reps.ofBls t];rfl
theorem aB9:dM X x4 (λxs H Q=>∃(a:Addr) (bs:List Bool),xs = [.ref a]/\aM X.K H a (bs.map V.bl)/\Q (.bl (bs.all id)) H):=by
 rintro H vs xs Q Q' r ⟨bs,rfl,q⟩ k
 obtain⟨v,rfl,r1⟩:=r.one
 obtain⟨a,us,rfl,_,h,r2⟩:=r1.sqL
 obtain rfl:=r2.ofBls
 exact⟨a,bs,rfl,aM.of h,k _ _ _ (aB.refl _) (.bl _) q⟩
def x5:List PV->(PV->Prop)->Prop:=λxs Q=>∃i j,xs = [.int i,.int j]/\Q (.int (if j<i then j else i))
def rV:List PV->(PV->Prop)->Prop:=λxs Q=>∃i j,xs = [.int i,.int j]/\Q (.int (if j>i then j else i))
theorem aC0:dM X x5 (λxs H Q=>∃i j,xs = [.int i,.int j]/\Q (.int (if j<i then j else i)) H):=by
 rintro H vs xs Q Q' r ⟨i,j,rfl,q⟩ k
 obtain⟨v,w,rfl,r1,r2⟩:=r.two
 cases r1;cases r2
 exact⟨i,j,rfl,k _ _ _ (aB.refl _) (.int _) q⟩
theorem aC1:dM X rV (λxs H Q=>∃i j,xs = [.int i,.int j]/\Q (.int (if j>i then j else i)) H):=by
 rintro H vs xs Q Q' r ⟨i,j,rfl,q⟩ k
 obtain⟨v,w,rfl,r1,r2⟩:=r.two
 cases r1;cases r2
 exact⟨i,j,rfl,k _ _ _ (aB.refl _) (.int _) q⟩
abbrev cK:=List PV->(PV->Prop)->Prop
def oI (K:ac)(p:cK):Sp:=λvs H Q _=>∃xs Qp,Reps K (λ_=>True) H vs xs/\p xs Qp/\∀v H' x,aB H H'->aE K (λa=>H a=none) H' v x->Qp x->Q v H'
theorem aC2 {p:cK}{E:XK}(h:LE X (aO p tr) σ H Q'):vG (oI X.K p) [] E (LA X tr) σ H Q':=by
 obtain⟨W,ρ,Q,px,q,k⟩:=h
 refine⟨W,ρ,_,px,q,λvs H1 xs s1 r1 q1=>⟨_,_,by rw[bo4];exact r1.any,q1,λv H' x s2 r2 q2=>k v H' x .fr (s1.trans s2) (r2.same (aB.refl _) λ_ z=>s1.free z) q2⟩⟩
def aC3:PV->Option Bool
 |.non=>some false
 |.bl b=>some b
 |.int i=>some (i != 0)
 |.tup xs=>some (!xs.isEmpty)
 |.lst xs=>some (!xs.isEmpty)
 |.dK ps=>some (!ps.isEmpty)
 |_=>none
def x6 (t:aH):cQ:=λρ Q=>t ρ λx _=>∃b,aC3 x=some b/\Q b
theorem rW {α β:Type}:∀{l:List α}{m:List β},l.length=m.length->l.isEmpty=m.isEmpty
 |[],[],_=>rfl
 |_::_,_::_,_=>rfl
theorem aC4 {t:aH}{Qb:Bool->Hp->Prop}(h:LT X (x6 t) σ H Qb):LE X t σ H λx H'=>∃k,vB X.K x H' k/\Qb k H':=by
 obtain⟨W,ρ,Q,px,q,k⟩:=h
 refine⟨W,ρ,_,px,q,?_⟩
 rintro v H1 x g s r ⟨b,e,q⟩
 refine⟨b,?_,k _ _ s q⟩
 cases r with
 |non=>cases e;rfl
 |bl b=>cases e;rfl
 |int i=>cases e;rfl
 |str x=>cases e
 |tup h r=>cases e;exact .inr (.inl ⟨_,aL.of h,by rw[rW r.length]⟩)
 |lst m h r=>cases e;exact .inl ⟨_,aM.of h,by rw[rW r.length]⟩
 |dK m h e' r=>
  cases e
  refine .inr (.inr ⟨_,h,?_⟩)
  have:=congrArg List.length e'
  rw[bl1,bl1]at this
  rw[rW this]
 |dT m h e' r=>cases e
 |scr h=>cases e
 |kt h r=>cases e
 |exc h e' c=>cases e
 |fK h e' r=>cases e
 |fT h e' r=>cases e
 |fL h r=>cases e
 |fn h=>cases e
 |ob=>cases e
def x8:PV->Bool
 |.non=>true
 |_=>false
def x9 (neg:Bool):PV->Tg->PV->Tg->PK->Prop:=λx _ y _ Q=>y = .non/\Q (.bl (if neg=true then !x8 x else x8 x)) .fr
theorem aC5 {K:ac}{M:Addr->Prop}{H:Hp}{v:V}{x:PV}(r:aE K M H v x):decide (v = .non)=x8 x:=by
 cases r<;>rfl
theorem aC6:eC X (x9 true) (λx y H Q=>y = .non/\Q (.bl (!decide (x = .non))) H):=by
 rintro W Hs H u v x y g g' Q Q' s n r1 r2 ⟨rfl,q⟩ k
 cases r2
 exact⟨rfl,by rw[aC5 r1];exact k _ _ _ _ (aB.refl _) (.bl _) q⟩
end
structure mE (K:ac)(H0:Hp)(W:Addr->Prop)(g:Bool)(H1:Hp)(J:It)(xs:List PV):Prop where
 go:∀W' H' i,Ev W H1 W' H'->i<xs.length->J.go i H'
 yld:∀W' H' i v H2,Ev W H1 W' H'->J.yld i H' v H2->i<xs.length->aB H' H2/\∃x,xs[i]? = some x/\aE K (Ms H0 W' g) H2 v x
 stop:∀W' H',Ev W H1 W' H'->J.stop xs.length H'
abbrev fR:=b6->(List PV->Bool->Prop)->Prop
def LI (X:Cx)(t:fR):TI:=λσ H R=>∃(W:Addr->Prop) (ρ:b6) (Q:List PV->Bool->Prop),PX X.K X.H₀ W σ ρ H/\t ρ Q/\∀J H1 xs g,aB H H1->mE X.K X.H₀ W g H1 J xs->Q xs g->R J H1
theorem Ev.keep {H0:Hp}{W W':Addr->Prop}{H H':Hp}{g:Bool}(e:Ev W H W' H')(tw:∀a,W a->∃o,H a=some o/\eL o=true):dU (Ms H0 W g) (Ms H0 W' g) H H':=by
 have m:∀{a:Addr}{o:HO},Ms H0 W g a->H a=some o->m8 o=false->Ms H0 W' g a/\H' a=some o:=λ{a o} z h hk=>by
  cases g with
  |true=>
   obtain⟨h1,h2⟩:=e a _ h z.1 hk
   exact⟨⟨h2,z.2⟩,h1⟩
  |false=>
   obtain⟨h1,h2⟩:=e a _ h z hk
   exact⟨h2,h1⟩
 refine⟨λa _ z h=>m z h rfl,λa _ z h=>m z h rfl,λa _ z h=>m z h rfl,λa _ h=>(e a _ h (λz=>?_) rfl).1,λa _ _ h f=>(e a _ h (λz=>?_) f).1⟩
 ·obtain⟨o,h',mu⟩:=tw a z;rw[h]at h';cases h';cases mu
 ·obtain⟨o,h',mu⟩:=tw a z;rw[h]at h';cases h';cases mu
section
variable {X:Cx}{σ:St}{H:Hp}{te:aH}{tr:bT}{R:It→Hp→Prop}
def O4 (K:ac)(tl:TE):TI:=λσ H R=>tl σ H λx H1=>∃a,x = .ref a/\((∃xs,aM K H1 a xs/\R (lY K a) H1)∨(∃xs,aL K H1 a xs/\R (jN K a) H1))
def xA:Tg->List PV->Bool
 |.fr,_=>true
 |.nw,_=>true
 |_,xs=>flats xs
def iF (te:aH):fR:=λρ Q=>te ρ λx g=>∃xs,iY x=some xs/\(g = .rd->flat x=true)/\Q xs (xA g xs)
theorem xB {K:ac}{H0:Hp}{W:Addr->Prop}{g:Bool}{H1:Hp}{a:Addr}{us:List V}{xs:List PV}(tw:∀a,W a->∃o,H1 a=some o/\eL o=true)(ha:∀W' H',Ev W H1 W' H'->aM K H' a us)(r:Reps K (Ms H0 W g) H1 us xs):mE K H0 W g H1 (lY K a) xs:=by
 have lr:=r.length
 refine⟨λW' H' i e hi=>⟨us,us[i]'(by omega),ha W' H' e,by simp⟩,λW' H' i v H2 e y hi=>?_,λW' H' e=>⟨us,ha W' H' e,by omega⟩⟩
 obtain⟨rfl,y⟩:=y
 obtain⟨x,hx,rx⟩:=r.get (y us (ha W' _ e))
 exact⟨aB.refl _,x,hx,rx.keep (e.keep tw)⟩
theorem O5 {K:ac}{H0:Hp}{W:Addr->Prop}{g:Bool}{H1:Hp}{a:Addr}{us:List V}{xs:List PV}(tw:∀a,W a->∃o,H1 a=some o/\eL o=true)(ha:∀W' H',Ev W H1 W' H'->aL K H' a us)(r:Reps K (Ms H0 W g) H1 us xs):mE K H0 W g H1 (jN K a) xs:=by
 have lr:=r.length
 refine⟨λW' H' i e hi=>⟨us,us[i]'(by omega),ha W' H' e,by simp⟩,λW' H' i v H2 e y hi=>?_,λW' H' e=>⟨us,ha W' H' e,by omega⟩⟩
 obtain⟨rfl,y⟩:=y
 obtain⟨x,hx,rx⟩:=r.get (y us (ha W' _ e))
 exact⟨aB.refl _,x,hx,rx.keep (e.keep tw)⟩
theorem kZ {K:ac}{H0 Hs H:Hp}{W:Addr->Prop}{σ:St}{ρ:b6}{g:Tg}{us:List V}{xs:List PV}(px:PX K H0 W σ ρ Hs)(hg:g = .rd->flats xs=true)(r:Reps K (Mg H0 W Hs g) H us xs):Reps K (Ms H0 W (xA g xs)) H us xs:=by
 cases g with
 |fr=>exact r.same (aB.refl _) λ_ z=>px.new z
 |nw=>exact r.same (aB.refl _) λ_ z=>z
 |sh=>
  show Reps K (Ms H0 W (flats xs)) H us xs
  cases e:flats xs with
  |true=>exact r.flat e
  |false=>exact r.same (aB.refl _) λ_ z=>z
 |rd=>exact r.flat (hg rfl)
theorem aC7 (h:LI X (iF te) σ H R):O4 X.K (LE X te) σ H R:=by
 obtain⟨W,ρ,Q,px,q,k⟩:=h
 refine⟨W,ρ,_,px,q,?_⟩
 rintro v H1 x g s r ⟨xs,e,hg,q⟩
 have px1:=px.mono s
 have tw:∀a,W a->∃o,H1 a=some o/\eL o=true:=λa z=>(px1.wm a z).2
 cases r with
 |tup h r=>
  cases e
  refine⟨_,rfl,.inr ⟨_,aL.of h,k _ _ _ _ s (O5 tw (λW' H' e=>aL.of (e _ _ h (λz=>?_) rfl).1) (kZ px (λz=>by have:=hg z;unfold flat at this;exact this) r)) q⟩⟩
  obtain⟨o,h',mu⟩:=tw _ z;rw[h]at h';cases h';cases mu
 |@lst a us xs' m h r=>
  cases e
  have wa:¬W a:=by
   cases g with
   |fr=>exact (px.new m).1
   |nw=>exact m.1
   |sh=>exact m
   |rd=>have:=hg rfl;unfold flat at this;cases this
  exact⟨_,rfl,.inl ⟨_,aM.of h,k _ _ _ _ s (xB tw (λW' H' e=>aM.of (e _ _ h wa rfl).1) (kZ px (λz=>by have:=hg z;unfold flat at this;cases this) r)) q⟩⟩
 |scr h=>
  cases e
  refine⟨_,rfl,.inl ⟨_,h.sqL,k _ _ _ _ s (xB tw (λW' H' e=>(iW.keep (λa o u hz f=>(e _ _ hz (λz=>?_) f).1) h).sqL) (kZ (g:=g) px (λz=>eM _) (Reps.intz _))) q⟩⟩
  obtain⟨o,h',mu⟩:=tw _ z;rw[hz]at h';cases h';cases mu
 |kt h r=>
  cases e
  exact⟨_,rfl,.inr ⟨_,.inr h,k _ _ _ _ s (O5 tw (λW' H' e=>.inr h) (kZ px (λz=>by have:=hg z;unfold flat at this;exact this) r)) q⟩⟩
 |fL h r=>
  cases e
  refine⟨_,rfl,.inl ⟨_,.inl (.inr ⟨_,h⟩),k _ _ _ _ s (xB tw (λW' H' e=>.inl (.inr ⟨_,(e _ _ h (λz=>?_) rfl).1⟩)) (kZ px (λz=>by have:=hg z;unfold flat at this;exact this) r)) q⟩⟩
  obtain⟨o,h',mu⟩:=tw _ z;rw[h]at h';cases h';cases mu
 |_=>cases e
def fH (lo:Int)(n:Nat):List PV:=(List.range n).map λ(i:Nat)=>PV.int (lo+(i:Int))
theorem mF (lo:Int)(n:Nat):(fH lo n).length=n:=by unfold fH;rw[bl1,bt5]
theorem O6 {lo:Int}{n i:Nat}(h:i<n):(fH lo n)[i]? = some (.int (lo+i)):=by unfold fH;rw[bm7,List.getElem?_range h];rfl
def l0 (te:aH):fR:=λρ Q=>te ρ λx _=>∃j:Int,x = .int j/\-1000000<=j/\j<=1000000/\Q (fH 0 j.toNat) true
def xC (ta tb:aH):fR:=λρ Q=>ta ρ λx _=>tb ρ λy _=>∃i j:Int,x = .int i/\y = .int j/\(-1000000<=i/\i<=1000000/\-1000000<=j/\j<=1000000)/\Q (fH i (j-i).toNat) true
theorem O7 {K:ac}{H0:Hp}{W:Addr->Prop}{H1:Hp}(lo:Int)(n:Nat):mE K H0 W true H1 (nV lo n) (fH lo n):=by
 refine⟨λW' H' i e hi=>by rw[mF]at hi;exact hi,λW' H' i v H2 e y hi=>?_,λW' H' e=>by show n<=(fH lo n).length;rw[mF];exact bk9 _⟩
 rw[mF]at hi
 obtain⟨rfl,rfl⟩:=y
 exact⟨aB.refl _,_,O6 hi,.int _⟩
theorem aC8 (h:LI X (l0 te) σ H R):C4 (gZ (LE X te) fN) σ H R:=by
 obtain⟨W,ρ,Q,px,q,k⟩:=h
 refine⟨W,ρ,_,px,q,?_⟩
 rintro v H1 x g s r ⟨j,rfl,h1,h2,q⟩
 cases r
 exact⟨j,rfl,by omega,by omega,k _ _ _ _ s (O7 0 j.toNat) q⟩
theorem aC9 {ta tb:aH}(h:LI X (xC ta tb) σ H R):C5 (gZ (LE X ta) (gZ (LE X tb) fN)) σ H R:=by
 obtain⟨W,ρ,Q,px,q,k⟩:=h
 refine⟨W,ρ,_,px,q,λv H1 x g s r q=>⟨W,ρ,_,px.mono s,q,?_⟩⟩
 rintro w H2 y g' s2 r2 ⟨i,j,rfl,rfl,h,q⟩
 cases r;cases r2
 exact⟨i,j,rfl,by omega,k _ _ _ _ (s.trans s2) (O7 i (j-i).toNat) q⟩
end
abbrev jV:=PV->Bool->b6->(b6->Prop)->Prop
def oJ (K:ac)(own:Nat->Prop)(p:jV)(t:TG):Prop:=∀(H0:Hp) (W:Addr->Prop) (σ:St) (ρ:b6) (H:Hp) (v:V) (x:PV) (g:Bool) (Q:b6->Prop) (Q':St->Hp->Prop),
 PX K H0 W σ ρ H->aE K (Ms H0 W g) H v x->p x g ρ Q->(∀σ' ρ',PX K H0 W σ' ρ' H->(∀i,¬own i->σ'[i]? = σ[i]?)->σ'.length=σ.length->Q ρ'->Q' σ' H)->t v σ H Q'
def dO (i:Nat):jV:=λx g ρ Q=>Q (ρ.set i (some (.sh (g||flat x) x)))
theorem oK {K:ac}{H0 H:Hp}{W:Addr->Prop}{v:V}{x:PV}{g:Bool}(r:aE K (Ms H0 W g) H v x):aE K (Ms H0 W (g||flat x)) H v x:=by
 cases g with
 |true=>exact r
 |false=>
  show aE K (Ms H0 W (flat x)) H v x
  cases e:flat x with
  |true=>exact r.flat e
  |false=>exact r
theorem xD (K:ac)(i:Nat):oJ K (· = i) (dO i) (fF i):=by
 intro H0 W σ ρ H v x g Q Q' px r q k
 exact k _ _ (px.setSh (oK r)) (λj hj=>by rw[bn2 (Ne.symm hj)]) (bq8 ..) q
def xE (i j:Nat):jV:=λx g ρ Q=>∃y z,x = .tup [y,z]/\Q ((ρ.set i (some (.sh (g||flat y) y))).set j (some (.sh (g||flat z) z)))
theorem aD0 (K:ac)(i j:Nat):oJ K (λk=>k=i∨k=j) (xE i j) (qO K 2 (kQ (fF i) (kQ (fF j) qM))):=by
 intro H0 W σ ρ H v x g Q Q' px r q k
 obtain⟨y,z,rfl,q⟩:=q
 obtain⟨a,us,rfl,h,r⟩:=r.sqT
 obtain⟨u1,u2,rfl,r1,r2⟩:=r.two
 refine⟨a,_,rfl,aL.of h,rfl,u1,_,rfl,u2,_,rfl,rfl,k _ _ ((px.setSh (oK r1)).setSh (oK r2)) (λk hk=>?_) (by rw[bq8,bq8]) q⟩
 rw[bn2 (λe=>hk (.inr e.symm)),bn2 (λe=>hk (.inl e.symm))]
section
variable {X:Cx}{σ:St}{H:Hp}{D:bP}
def gC (ti:fR)(p:jV)(tb:aS):aS:=λD ρ=>ti ρ λxs g=>∃I:Nat->b6->Prop,I 0 ρ/\(∀i x ρ',xs[i]? = some x->I i ρ'->p x g ρ' λρ2=>tb { D with nx:=I (i+1),ct:=I (i+1),bk:=D.nx } ρ2)/\∀ρ',I xs.length ρ'->D.nx ρ'
theorem aD1 {ti:fR}{p:jV}{g:TG}{tb:aS}{own:Nat->Prop}(hg:oJ X.K own p g)(h:LS X (gC ti p tb) D σ H):C6 (LI X ti) g (LS X tb) D σ H:=by
 obtain⟨W,ρ,D',px,q,k⟩:=h
 refine⟨W,ρ,_,px,q,?_⟩
 rintro J H1 xs gb s it ⟨I,i0,turn,fin⟩
 refine⟨λi m σ2 H2=>m=xs.length-i/\i<=xs.length/\∃W2 ρ2,PX X.K X.H₀ W2 σ2 ρ2 H2/\Ev W H1 W2 H2/\I i ρ2,⟨xs.length,by omega,bo0 _,W,ρ,px.mono s,Ev.refl _ _,i0⟩,?_⟩
 rintro i m σ2 H2 ⟨rfl,hi,W2,ρ2,px2,e2,i2⟩
 have e0:Ev W H W2 H2:=(Ev.same s).trans e2
 by_cases hlt:i<xs.length
 ·refine .inr ⟨it.go W2 H2 i e2 hlt,λσ3 H3=>∃W3 ρ3,PX X.K X.H₀ W3 σ3 ρ3 H3/\Ev W H1 W3 H3/\I (i+1) ρ3,λσ3 H3 ⟨W3,ρ3,a,b,c⟩=>⟨xs.length-(i+1),by omega,rfl,hlt,W3,ρ3,a,b,c⟩,λv H3 y=>?_⟩
  obtain⟨s3,x,hx,rx⟩:=it.yld W2 H2 i v H3 e2 y hlt
  refine hg X.H₀ W2 σ2 ρ2 H3 v x gb _ _ (px2.mono s3) rx (turn i x ρ2 hx i2) λσ4 ρ4 px4 _ _ q4=>?_
  have e3:Ev W H1 W2 H3:=e2.trans (Ev.same s3)
  have e3':Ev W H W2 H3:=e0.trans (Ev.same s3)
  exact⟨W2,ρ4,_,px4,q4,λW' σ' H' ρ' e p q=>⟨W',ρ',p,e3.trans e,q⟩,k.rt,λW' σ' H' ρ' e p q=>k.nx W' σ' H' ρ' (e3'.trans e) p q,λW' σ' H' ρ' e p q=>⟨W',ρ',p,e3.trans e,q⟩⟩
 ·have e:i=xs.length:=by omega
  subst e
  exact .inl ⟨it.stop W2 H2 e2,k.nx W2 σ2 H2 ρ2 e0 px2 (fin ρ2 i2)⟩
end
def Slot.blk:Slot->Slot
 |.kp _ x ks=>.kp false x ks
 |.sh _ x=>.sh false x
 |.own x=>.sh false x
def mG (fr:List (Option Nat))(ρ:b6):b6:=fr.map λo=>o.bind λj=>(ρ[j]?).join.map Slot.blk
theorem cJ.any {K:ac}{H0 H:Hp}{a:Addr}{st un:List PV}(h:cJ K H0 H a st un):cJ K (λ_=>none) H a st un:=by
 obtain⟨C,dx,l1,l2,us1,us2,h1,h2,h⟩:=h
 exact⟨C,dx,l1,l2,us1,us2,h1,⟨rfl,rfl,rfl,rfl⟩,h⟩
theorem gA.any {K:ac}{H0 H:Hp}{ks:List (Addr×List PV×List PV)}(h:gA K H0 H ks):gA K (λ_=>none) H ks:=⟨λk hk=>(h.1 k hk).any,h.2⟩
theorem Slot.blk_own {m:Slot}{x:PV}(h:m.blk = .own x):False:=by
 cases m<;>cases h
theorem aD2 {K:ac}{H0 H1 H1' H':Hp}{W W':Addr->Prop}{v:V}{m:Slot}(r:rM K H0 W H1 v m)(k:dU (λ_=>False) (λ_=>False) H1 H')(f:∀b o,H1 b=some o->eL o=false->H' b=some o)(rv:aE K (λa=>¬W' a) H' v m.val):rM K H1' W' H' v m.blk:=by
 cases m with
 |sh g x=>exact rv
 |own x=>exact rv
 |kp g x ks=>exact⟨⟨r.1.1.keep k,r.1.2⟩,r.2.any.keep k f⟩
def l8 (D:Addr):Addr->Prop:=λa=>a=D
theorem aD3 {K:ac}{H0:Hp}{W:Addr->Prop}{σ:St}{ρ:b6}{H1 H':Hp}{D:Addr}{acc:List V}{fr:List (Option Nat)}(px:PX K H0 W σ ρ H1)(hD:H1 D=none)(s:aB H1 H')(ha:H' D=some (.lst acc)) :
  PX K H1 (l8 D) (fP fr σ) (mG fr ρ) H':=by
 have old:∀{a:Addr}{o:HO},H1 a=some o->a≠D:=λ{a o} e z=>by rw[z,hD]at e;cases e
 refine⟨by unfold fP mG;rw[bl1,bl1],s,λa z=>by cases z;exact⟨hD,_,ha,rfl⟩,λi m h=>?_,λi j x y a h1=>?_⟩
 ·unfold mG at h
  rw[bm7]at h
  cases ef:fr[i]? with
  |none=>rw[ef]at h;cases h
  |some o=>
   rw[ef]at h
   cases o with
   |none=>cases h
   |some j=>
    have h:some ((ρ[j]?).join.map Slot.blk)=some (some m):=h
    cases er:ρ[j]? with
    |none=>rw[er]at h;cases h
    |some o=>
     rw[er]at h
     cases o with
     |none=>cases h
     |some m0=>
      cases h
      obtain⟨v,ev,r⟩:=px.sl j m0 er
      refine⟨v,?_,?_⟩
      ·unfold fP
       rw[bm7,ef]
       show some ((σ[j]?).join)=_
       rw[ev];rfl
      ·have r':aE K (λ_=>True) H1 v m0.val:=(N4 (Hs:=H1) r).same (aB.refl _) λ_ _=>trivial
       refine aD2 r (.same s λ_ z=>z) (λ_ _ e _=>s _ _ e) ?_
       exact r'.keep ⟨λa _ _ e=>⟨old e,s _ _ e⟩,λa _ _ e=>⟨old e,s _ _ e⟩,λa _ _ e=>⟨old e,s _ _ e⟩,λ_ _ e=>s _ _ e,λ_ _ _ e _=>s _ _ e⟩
 ·unfold mG at h1
  rw[bm7]at h1
  cases ef:fr[i]? with
  |none=>rw[ef]at h1;cases h1
  |some o=>
   rw[ef]at h1
   cases o with
   |none=>cases h1
   |some j=>
    have h1:some ((ρ[j]?).join.map Slot.blk)=some (some (Slot.own x)):=h1
    cases er:ρ[j]? with
    |none=>rw[er]at h1;cases h1
    |some o=>
     rw[er]at h1
     cases o with
     |none=>cases h1
     |some m0=>exact (Slot.blk_own (bl6 (bl6 h1))).elim
section
variable {X:Cx}{σ:St}{H:Hp}{Q':VK}
abbrev _root_.L2.Cx.frm (X:Cx)(H1:Hp):Cx:={ X with H₀:=H1 }
def iZ (ti:fR)(fr:List (Option Nat))(p:jV)(tc:cQ)(te:aH):aH:=λρ Q=>ti ρ λxs g=>xs.length<=16000000/\∃I:Nat->List PV->Prop,I 0 []/\
 (∀i x acc,xs[i]? = some x->I i acc->p x false (mG fr ρ) λρ2=>tc ρ2 λb=>if b=true then te ρ2 λy gy=>Nw gy y/\I (i+1) (acc++[y]) else I (i+1) acc)/\∀acc,I xs.length acc->Q (.lst acc) .fr
theorem O8 {ti:fR}{fr:List (Option Nat)}{p:jV}{g:TG}{tc:cQ}{te:aH}{own:Nat->Prop}(hg:oJ X.K own p g)(ho:∀i,own i->fr[i]? = some none)(h:LE X (iZ ti fr p tc te) σ H Q') :
  L6 (LI X ti) fr (λ_=>g) (λH1=>LT (X.frm H1) tc) (λH1=>LE (X.frm H1) te) σ H Q':=by
 obtain⟨W,ρ,Q,px,q,k⟩:=h
 refine⟨W,ρ,_,px,q,?_⟩
 rintro J H1 xs gb s it ⟨hl,I,i0,turn,fin⟩ D hD
 have px1:=px.mono s
 refine⟨λi m acc H'=>m=xs.length-i/\i<=xs.length/\aB H1 H'/\H' D=some (.lst acc)/\∃ys,Reps X.K (Ms H1 (l8 D) true) H' acc ys/\ys.length<=i/\I i ys,⟨xs.length,by omega,bo0 _,bR hD _,aU,[],.nil,bk9 _,i0⟩,?_⟩
 rintro i m acc H' ⟨rfl,hi,sm,ha,ys,ry,hy,iy⟩
 refine⟨ha,?_⟩
 have ev:Ev W H1 (mB W D) H':=Ev.own sm hD
 by_cases hlt:i<xs.length
 ·refine .inr ⟨it.go _ H' i ev hlt,λv H2 y=>?_⟩
  obtain⟨s2,x,hx,rx⟩:=it.yld _ H' i v H2 ev y hlt
  have ha2:=s2 _ _ ha
  have pxb:PX X.K H1 (l8 D) (fP fr σ) (mG fr ρ) H2:=aD3 px1 hD (sm.trans s2) ha2
  have rx':aE X.K (Ms H1 (l8 D) false) H2 v x:=rx.same (aB.refl _) λa z=>by
   cases gb with
   |true=>exact λe=>z.1 (.inr e)
   |false=>exact λe=>z (.inr e)
  refine hg H1 (l8 D) _ _ H2 v x false _ _ pxb rx' (turn i x ys hx iy) λσ2 ρ2 px2 hown hlen q2=>⟨⟨hlen.symm,λj w e=>?_⟩,?_⟩
  ·by_cases oj:own j
   ·have:=ho j oj
    unfold fP at e
    rw[bm7,this]at e
    cases e
   ·rw[hown j oj];exact e
  ·refine⟨l8 D,ρ2,_,px2,q2,λb H4 s4 q4=>?_⟩
   have ha4:=s4 _ _ ha2
   have sm4:=(sm.trans s2).trans s4
   cases b with
   |false=>
    refine aP ⟨xs.length-(i+1),by omega,rfl,hlt,sm4,ha4,ys,ry.same (s2.trans s4) λ_ z=>z,by omega,by simpa using q4⟩
   |true=>
    refine b7 ⟨l8 D,ρ2,_,px2.mono s4,by simpa using q4,?_⟩
    rintro w H5 y gy s5 ryy ⟨nw,q5⟩
    have ha5:=s5 _ _ ha4
    have lr:=ry.length
    refine⟨ha5,gQ (by omega),xs.length-(i+1),by omega,rfl,hlt,λb o e=>?_,aU,ys++[y],?_,by rw[bl4,bo6];omega,q5⟩
    ·rw[aF (λz=>by rw[z,hD]at e;cases e)]
     exact s5 _ _ (sm4 _ _ e)
    ·exact ((ry.same ((s2.trans s4).trans s5) λ_ z=>z).append (.cons (Nw.rep (px2.mono s4) nw ryy) .nil)).keep (.upd ha5 rfl λb m=>⟨m.1,m⟩)
 ·have e:i=xs.length:=by omega
  subst e
  refine .inl ⟨it.stop _ H' ev,k _ H' _ .fr (s.trans sm) (.lst (s.free hD) ha (ry.same (aB.refl _) λ_ z=>s.free z.2)) (fin ys iy)⟩
def mH:cQ:=λ_ Q=>Q true
theorem aD4 {Qb:Bool->Hp->Prop}(h:LT X mH σ H Qb):wD σ H Qb:=by
 obtain⟨W,ρ,Q,px,q,k⟩:=h
 exact k _ _ (aB.refl _) q
end
section
variable {κ:Type}[DecidableEq κ]
def bX (ps:List (κ×PV))(k:κ):Option PV:=(ps.find? λp=>decide (p.1=k)).map (·.2)
def cZ (ps:List (κ×PV))(k:κ)(x:PV):List (κ×PV):=if (ps.any λp=>decide (p.1=k))=true then ps.map (λp=>if p.1=k then (p.1,x) else p) else ps++[(k,x)]
variable {K:ac}{M:Addr→Prop}{H:Hp}
theorem j4 (k:κ):∀{kvs:List (κ×V)}{ps:List (κ×PV)},kvs.map (·.1)=ps.map (·.1)->Reps K M H (kvs.map (·.2)) (ps.map (·.2))->(bX ps k=none->e8 kvs k=none)/\∀x,bX ps k=some x->∃v,e8 kvs k=some v/\aE K M H v x
 |[],[],_,_=>⟨λ_=>rfl,λx h=>by cases h⟩
 |[],_::_,e,_=>by cases e
 |_::_,[],e,_=>by cases e
 |(k1,v)::kvs,(k2,x)::ps,e,r=>by
  injection e with e1 e2
  have e1:k1=k2:=e1
  subst e1
  cases r with
  |cons r t=>
   obtain⟨h1,h2⟩:=j4 k e2 t
   unfold bX e8 at h1 h2 ⊢
   by_cases e:k1=k
   ·simp only[bt8,e,decide_true,Option.map_some]
    exact⟨λz=>(by cases z),λy z=>(by cases z;exact⟨v,rfl,r⟩)⟩
   ·simp only[bt8,e,decide_false]
    exact⟨h1,h2⟩
theorem aD5 (k:κ){kvs:List (κ×V)}{ps:List (κ×PV)}(e:kvs.map (·.1)=ps.map (·.1)):(kvs.any λp=>decide (p.1=k))=ps.any λp=>decide (p.1=k):=by
 have h1:(kvs.any λp=>decide (p.1=k))=(kvs.map (·.1)).any λz=>decide (z=k):=by rw[List.any_map];rfl
 have h2:(ps.any λp=>decide (p.1=k))=(ps.map (·.1)).any λz=>decide (z=k):=by rw[List.any_map];rfl
 rw[h1,h2,e]
theorem O9 (k:κ){w:V}{y:PV}(q:aE K M H w y):∀{kvs:List (κ×V)}{ps:List (κ×PV)},kvs.map (·.1)=ps.map (·.1)->Reps K M H (kvs.map (·.2)) (ps.map (·.2))->
  (kvs.map λkv=>if kv.1=k then (kv.1,w) else kv).map (·.1)=(ps.map λkv=>if kv.1=k then (kv.1,y) else kv).map (·.1)/\Reps K M H ((kvs.map λkv=>if kv.1=k then (kv.1,w) else kv).map (·.2)) ((ps.map λkv=>if kv.1=k then (kv.1,y) else kv).map (·.2))
 |[],[],_,_=>⟨rfl,.nil⟩
 |[],_::_,e,_=>by cases e
 |_::_,[],e,_=>by cases e
 |(k1,v)::kvs,(k2,x)::ps,e,r=>by
  injection e with e1 e2
  have e1:k1=k2:=e1
  subst e1
  cases r with
  |cons r t=>
   obtain⟨h1,h2⟩:=O9 k q e2 t
   by_cases e:k1=k
   ·simp only[bp3,e,if_true]
    exact⟨by rw[h1],.cons q h2⟩
   ·simp only[bp3,e,bs8]
    exact⟨by rw[h1],.cons r h2⟩
theorem xF (k:κ){w:V}{y:PV}(q:aE K M H w y){kvs:List (κ×V)}{ps:List (κ×PV)}(e:kvs.map (·.1)=ps.map (·.1))(r:Reps K M H (kvs.map (·.2)) (ps.map (·.2))) :
  (dS kvs k w).map (·.1)=(cZ ps k y).map (·.1)/\Reps K M H ((dS kvs k w).map (·.2)) ((cZ ps k y).map (·.2)):=by
 unfold dS cZ
 rw[aD5 k e]
 split
 ·exact O9 k q e r
 ·rw[bq1,bq1,bq1,bq1,e]
  exact⟨rfl,r.append (.cons q .nil)⟩
end
def kP:aD->PV
 |.inl i=>.int i
 |.inr x=>.str x
theorem xG {K:ac}{M:Addr->Prop}{H:Hp}{v:V}{k:aD}(r:aE K M H v (kP k)):v=kV k:=by
 cases k with
 |inl i=>cases r;rfl
 |inr x=>cases r;rfl
theorem xH {K:ac}{M:Addr->Prop}{H:Hp}:∀{ks:List aD}{us:List V},Reps K M H us (ks.map kP)->us=ks.map kV
 |[],_,.nil=>rfl
 |k::r,_,.cons q t=>by rw[xG q,xH t];rfl
def P0:PV->PV
 |.fK ps=>.dK ps
 |.fT ps=>.dT ps
 |x=>x
def P3 (x y:PV)(o:Option PV):Prop:=(∃ps k,P0 x = .dK ps/\y=kP k/\o=bX ps k)∨(∃ps k,P0 x = .dT ps/\y = .tup (k.map kP)/\o=bX ps k)
theorem P4 {K:ac}{M M2:Addr->Prop}{H:Hp}{v w:V}{x y:PV}{o:Option PV}(h:P3 x y o)(rx:aE K M H v x)(ry:aE K M2 H w y):∃a o',v = .ref a/\hG H a w o'/\(o=none->o'=none)/\∀z,o=some z->∃u,o'=some u/\aE K M H u z:=by
 rcases h with⟨ps,k,ex,rfl,rfl⟩|⟨ps,k,ex,rfl,rfl⟩
 ·obtain rfl:=xG ry
  cases rx with
  |dK m h e r=>cases ex;exact⟨_,_,rfl,hG.k h,(j4 k e r).1,(j4 k e r).2⟩
  |fK h e r=>cases ex;exact⟨_,_,rfl,.inl ⟨_,k,.inr ⟨_,h⟩,rfl,rfl⟩,(j4 k e r).1,(j4 k e r).2⟩
  |_=>cases ex
 ·obtain⟨b,us,rfl,hb,rb⟩:=ry.sqT
  obtain rfl:=xH rb
  cases rx with
  |dT m h e r=>cases ex;exact⟨_,_,rfl,hG.t h hb,(j4 k e r).1,(j4 k e r).2⟩
  |fT h e r=>cases ex;exact⟨_,_,rfl,.inr ⟨_,k,b,.inr ⟨_,h⟩,rfl,hb,rfl⟩,(j4 k e r).1,(j4 k e r).2⟩
  |_=>cases ex
section
variable {X:Cx}{σ:St}{H:Hp}{D:bP}{tk td te:aH}{Q':VK}
def j5 (neg:Bool)(tk td:aH):aH:=λρ Q=>tk ρ λy _=>td ρ λx _=>∃o,P3 x y o/\Q (.bl (if neg=true then !o.isSome else o.isSome)) .fr
theorem P5 {α β:Type}{o:Option α}{o':Option β}{P:β->α->Prop}(h1:o=none->o'=none)(h2:∀z,o=some z->∃u,o'=some u/\P u z):o'.isSome=o.isSome:=by
 cases o with
 |none=>rw[h1 rfl];rfl
 |some z=>obtain⟨u,e,_⟩:=h2 z rfl;rw[e];rfl
theorem aD6 (h:LE X (j5 false tk td) σ H Q'):K2 (LE X tk) (LE X td) σ H Q':=by
 obtain⟨W,ρ,Q,px,q,k⟩:=h
 refine⟨W,ρ,_,px,q,λw H1 y g s r q=>⟨W,ρ,_,px.mono s,q,?_⟩⟩
 rintro v H2 x g' s2 r2 ⟨o,ak,q⟩
 obtain⟨a,o',rfl,dg,h1,h2⟩:=P4 ak r2 (r.same s2 λ_ z=>z)
 refine⟨a,o',rfl,dg,?_⟩
 rw[P5 h1 h2]
 exact k _ _ _ .fr (s.trans s2) (.bl _) q
theorem P6 (h:LE X (j5 true tk td) σ H Q'):K3 (LE X tk) (LE X td) σ H Q':=by
 obtain⟨W,ρ,Q,px,q,k⟩:=h
 refine⟨W,ρ,_,px,q,λw H1 y g s r q=>⟨W,ρ,_,px.mono s,q,?_⟩⟩
 rintro v H2 x g' s2 r2 ⟨o,ak,q⟩
 obtain⟨a,o',rfl,dg,h1,h2⟩:=P4 ak r2 (r.same s2 λ_ z=>z)
 refine⟨a,o',rfl,dg,?_⟩
 rw[P5 h1 h2]
 exact k _ _ _ .fr (s.trans s2) (.bl _) q
theorem PX.updD {K:ac}{H0:Hp}{W:Addr->Prop}{σ:St}{ρ:b6}{H:Hp}{i:Nat}{a:Addr}{x:PV}{kvs:List (aD×V)}{ps:List (aD×PV)}(p:PX K H0 W σ ρ H)(hi:ρ[i]? = some (some (.own x)))(ha:σ[i]? = some (some (.ref a)))(wa:W a)(r:kvs.map (·.1)=ps.map (·.1)/\Reps K (Ms H0 W true) (upd H a (.dK kvs)) (kvs.map (·.2)) (ps.map (·.2))):PX K H0 W σ (ρ.set i (some (.own (.dK ps)))) (upd H a (.dK kvs)):=p.updOwn hi ha wa rfl (y:=.dK ps) ⟨kvs,aU,r⟩
theorem PX.updT {K:ac}{H0:Hp}{W:Addr->Prop}{σ:St}{ρ:b6}{H:Hp}{i:Nat}{a:Addr}{x:PV}{kvs:List (List aD×V)}{ps:List (List aD×PV)}(p:PX K H0 W σ ρ H)(hi:ρ[i]? = some (some (.own x)))(ha:σ[i]? = some (some (.ref a)))(wa:W a)(r:kvs.map (·.1)=ps.map (·.1)/\Reps K (Ms H0 W true) (upd H a (.dT kvs)) (kvs.map (·.2)) (ps.map (·.2))):PX K H0 W σ (ρ.set i (some (.own (.dT ps)))) (upd H a (.dT kvs)):=p.updOwn hi ha wa rfl (y:=.dT ps) ⟨kvs,aU,r⟩
theorem rX {κ α β:Type}{l:List (κ×α)}{m:List (κ×β)}(e:l.map (·.1)=m.map (·.1)):l.length=m.length:=by
 have:=congrArg List.length e
 rw[bl1,bl1]at this
 exact this
def rY (i:Nat)(tk te:aH):aS:=λD ρ=>te ρ λz g=>∃ps,ρ[i]? = some (some (.own (.dK ps)))/\tk ρ λy _=>∃k,y=kP k/\Nw g z/\ps.length<16000000/\D.nx (ρ.set i (some (.own (.dK (cZ ps k z)))))
def xI (i:Nat)(tk te:aH):aS:=λD ρ=>te ρ λz g=>∃ps,ρ[i]? = some (some (.own (.dT ps)))/\tk ρ λy _=>∃k,y = .tup (k.map kP)/\Nw g z/\ps.length<16000000/\D.nx (ρ.set i (some (.own (.dT (cZ ps k z)))))
theorem aD7 {i:Nat}(h:LS X (rY i tk te) D σ H):w5 (dQ i) (LE X tk) (LE X te) D σ H:=by
 obtain⟨W,ρ,D',px,q,k⟩:=h
 refine⟨W,ρ,_,px,q,?_⟩
 rintro w H1 z g s rz ⟨ps,hi,q⟩
 obtain⟨v,ev,a,rfl,wa,kvs,ea,e1,r⟩:=(px.mono s).sl i _ hi
 refine⟨_,ev,W,ρ,_,px.mono s,q,?_⟩
 rintro kv H2 y g' s2 ry ⟨kk,rfl,nw,hl,q⟩
 obtain rfl:=xG ry
 have ea2:=s2 _ _ ea
 refine⟨a,_,rfl,jS.k ea2 (gQ (by rw[rX e1];omega)),?_⟩
 refine k.nx W σ _ _ ((Ev.same (s.trans s2)).trans (Ev.upd wa)) ((px.mono (s.trans s2)).updD hi ev wa ?_) q
 obtain⟨h1,h2⟩:=xF kk ((Nw.rep px nw rz).same s2 λ_ z=>z) e1 (r.same s2 λ_ z=>z)
 exact⟨h1,h2.keep (.upd ea2 rfl λb m=>⟨oH wa m,m⟩)⟩
theorem aD8 {i:Nat}(h:LS X (xI i tk te) D σ H):w5 (dQ i) (LE X tk) (LE X te) D σ H:=by
 obtain⟨W,ρ,D',px,q,k⟩:=h
 refine⟨W,ρ,_,px,q,?_⟩
 rintro w H1 z g s rz ⟨ps,hi,q⟩
 obtain⟨v,ev,a,rfl,wa,kvs,ea,e1,r⟩:=(px.mono s).sl i _ hi
 refine⟨_,ev,W,ρ,_,px.mono s,q,?_⟩
 rintro kv H2 y g' s2 ry ⟨kk,rfl,nw,hl,q⟩
 obtain⟨b,us,rfl,hb,rb⟩:=ry.sqT
 obtain rfl:=xH rb
 have ea2:=s2 _ _ ea
 refine⟨a,_,rfl,jS.t ea2 hb (gQ (by rw[rX e1];omega)),?_⟩
 refine k.nx W σ _ _ ((Ev.same (s.trans s2)).trans (Ev.upd wa)) ((px.mono (s.trans s2)).updT hi ev wa ?_) q
 obtain⟨h1,h2⟩:=xF kk ((Nw.rep px nw rz).same s2 λ_ z=>z) e1 (r.same s2 λ_ z=>z)
 exact⟨h1,h2.keep (.upd ea2 rfl λb m=>⟨oH wa m,m⟩)⟩
theorem aD9 (h:LE X (qC (.dK [])) σ H Q'):K6 σ H Q':=by
 obtain⟨W,ρ,Q,px,q,k⟩:=h
 exact λp hp=>k _ _ _ .fr (bR hp _) (.dK hp aU rfl .nil) q
theorem aE0 (h:LE X (qC (.dT [])) σ H Q'):K7 σ H Q':=by
 obtain⟨W,ρ,Q,px,q,k⟩:=h
 exact λp hp=>k _ _ _ .fr (bR hp _) (.dT hp aU rfl .nil) q
def hZ (ps more:List (aD×PV)):List (aD×PV):=more.foldl (λacc kv=>cZ acc kv.1 kv.2) ps
theorem P7 {K:ac}{M:Addr->Prop}{H:Hp}:∀{more:List (aD×V)}{mp:List (aD×PV)}{kvs:List (aD×V)}{ps:List (aD×PV)},more.map (·.1)=mp.map (·.1)->Reps K M H (more.map (·.2)) (mp.map (·.2))->kvs.map (·.1)=ps.map (·.1)->Reps K M H (kvs.map (·.2)) (ps.map (·.2))->
  (kT kvs more).map (·.1)=(hZ ps mp).map (·.1)/\Reps K M H ((kT kvs more).map (·.2)) ((hZ ps mp).map (·.2))
 |[],[],_,_,_,_,e,r=>⟨e,r⟩
 |[],_::_,_,_,e,_,_,_=>by cases e
 |_::_,[],_,_,e,_,_,_=>by cases e
 |(k1,v)::more,(k2,x)::mp,kvs,ps,e,r,e',r'=>by
  injection e with e1 e2
  have e1:k1=k2:=e1
  subst e1
  cases r with
  |cons q t=>
   obtain⟨h1,h2⟩:=xF k1 q e' r'
   exact P7 (more:=more) (mp:=mp) e2 t h1 h2
def xJ (i:Nat)(te:aH):aS:=λD ρ=>∃ps,ρ[i]? = some (some (.own (.dK ps)))/\te ρ λy g=>∃mp,y = .dK mp/\(g = .fr∨(g = .nw/\False))/\ps.length+mp.length<=16000000/\D.nx (ρ.set i (some (.own (.dK (hZ ps mp)))))
theorem aE1 {i:Nat}(h:LS X (xJ i te) D σ H):kN (N3 (dQ i) (LE X te)) D σ H:=by
 obtain⟨W,ρ,D',px,⟨ps,hi,q⟩,k⟩:=h
 obtain⟨v,ev,a,rfl,wa,kvs,ea,e1,r⟩:=px.sl i _ hi
 refine⟨_,ev,a,rfl,.inl ⟨kvs,.inl ea⟩,W,ρ,_,px,q,?_⟩
 rintro w H1 y g s ry ⟨mp,rfl,hg,hl,q⟩
 rcases hg with rfl|⟨_,z⟩
 ·cases ry with
  |@dK b more _ m hb e2 rb=>
   have hab:a≠b:=λz=>by subst z;rw[show H a=none from m]at ea;cases ea
   have ea1:=s _ _ ea
   refine⟨b,kvs,more,rfl,hab,ea1,hb,lim (by rw[rX e1,rX e2];exact hl),?_⟩
   refine k.nx W σ _ _ ((Ev.same s).trans (Ev.upd wa)) ((px.mono s).updD hi ev wa ?_) q
   obtain⟨h1,h2⟩:=P7 e2 (rb.same (M':=Ms X.H₀ W true) (aB.refl _) λ_ z=>px.new z) e1 (r.same s λ_ z=>z)
   exact⟨h1,h2.keep (.upd ea1 rfl λb m=>⟨oH wa m,m⟩)⟩
 ·exact z.elim
end
def cD:Nat->PV->PV->Bool
 |_,.non,.non=>true
 |_,.bl a,.bl b=>a==b
 |_,.int a,.int b=>a==b
 |_,.str a,.str b=>a==b
 |n+1,.tup xs,.tup ys=>(xs.zip ys).all (λp=>cD n p.1 p.2)&&xs.length==ys.length
 |n+1,.lst xs,.lst ys=>(xs.zip ys).all (λp=>cD n p.1 p.2)&&xs.length==ys.length
 |n+1,.kt xs,.kt ys=>(xs.zip ys).all (λp=>cD n p.1 p.2)&&xs.length==ys.length
 |_,_,_=>false
def dE:Nat->PV->PV->Bool
 |_,.non,.non=>true
 |_,.bl _,.bl _=>true
 |_,.int _,.int _=>true
 |_,.str _,.str _=>true
 |_,.non,.int _=>true
 |_,.int _,.non=>true
 |n+1,.tup xs,.tup ys=>(xs.zip ys).all (λp=>dE n p.1 p.2)
 |n+1,.lst xs,.lst ys=>(xs.zip ys).all (λp=>dE n p.1 p.2)
 |n+1,.kt xs,.kt ys=>(xs.zip ys).all (λp=>dE n p.1 p.2)
 |_+1,.non,.tup _=>true
 |_+1,.tup _,.non=>true
 |_,_,_=>false
theorem aE2 (n:Nat)(a b:Int):cD n (.int a) (.int b)=(a==b):=by cases n<;>rfl
theorem P8 (n:Nat):∀(a b:af),((((intz a).zip (intz b)).all λp=>cD n p.1 p.2)&&(intz a).length==(intz b).length)=decide (a=b)
 |[],[]=>rfl
 |[],_::_=>by simp
 |_::_,[]=>by simp
 |x::a,y::b=>by
  have ih:=P8 n a b
  simp only[bp3,List.zip_cons_cons,bx6,bo1,aE2]at ih ⊢
  by_cases e:x=y
  ·subst e
   have:((intz a).length+1==(intz b).length+1)=((intz a).length==(intz b).length):=by simp
   rw[this,bs3,Bool.true_and,ih]
   simp
  ·have:(x==y)=false:=bs4.mpr e
   rw[this,Bool.false_and,Bool.false_and]
   simp[e]
theorem rZ (n:Nat)(a b:af):cD (n+1) (.tup (intz a)) (.tup (intz b))=decide (a=b):=P8 n a b
theorem P9 (n:Nat):∀(a b:af),(((intz a).zip (intz b)).all λp=>dE n p.1 p.2)=true
 |[],_=>by simp
 |_::_,[]=>by simp
 |x::a,y::b=>by
  simp only[bp3,List.zip_cons_cons,bx6,P9 n a b,Bool.and_true]
  cases n<;>rfl
theorem sA (n:Nat)(a b:af):dE (n+1) (.tup (intz a)) (.tup (intz b))=true:=P9 n a b
def mI (ta:aH):aH:=λρ Q=>ta ρ λx _=>∃i,x = .int i/\Q (.int (-i)) .fr
def xK (neg:Bool):PV->Tg->PV->Tg->PK->Prop:=λx _ y _ Q=>∃i ns,x = .int i/\iY y=some (intz ns)/\Q (.bl (if neg=true then !decide (i∈ns) else decide (i∈ns))) .fr
def oM (n:Nat)(neg:Bool):PV->Tg->PV->Tg->PK->Prop:=λx _ y _ Q=>((∃xs ys,x = .tup xs/\y = .tup ys)∨(∃xs ys,x = .lst xs/\y = .lst ys))/\dE (n+1) x y=true/\Q (.bl (if neg=true then !cD (n+1) x y else cD (n+1) x y)) .fr
abbrev mJ:=b6->(Option Int->Prop)->Prop
def gR (xs:List PV)(lo hi:Option Int):List PV:=(xs.drop (HT.aX xs.length 0 lo)).take (HT.aX xs.length xs.length hi-HT.aX xs.length 0 lo)
def xL:PV->List PV->PV
 |.tup _,ys=>.tup ys
 |.kt _,ys=>.tup ys
 |_,ys=>.lst ys
def mK:mJ:=λ_ Q=>Q none
def mL (te:aH):mJ:=λρ Q=>te ρ λx _=>∃i,x = .int i/\Q (some i)
def mM (te:aH)(tl th:mJ):aH:=λρ Q=>te ρ λx _=>tl ρ λlo=>th ρ λhi=>∃xs,seqT x=some xs/\flats xs=true/\Q (xL x (gR xs lo hi)) .fr
def eY (N:List Str)(xs:List PV):b6:=xs.map (λx=>some (.sh (flat x) x))++List.replicate (N.length-xs.length) none
abbrev gD (ta tb:aH):aH:=q2 (gB λi j=>.int (i+j)) ta tb
abbrev xM (ta tb:aH):aH:=q2 (gB λi j=>.int (i-j)) ta tb
abbrev oN (ta tb:aH):aH:=q2 (RI nX λi j=>.int (i*j)) ta tb
abbrev eN (ta tb:aH):aH:=q2 (RI uY λi j=>.int (i/j)) ta tb
abbrev cT (ta tb:aH):aH:=q2 (RI (λ_ j=>0<j) λi j=>.int (i%j)) ta tb
abbrev aE3 (ta tb:aH):aH:=q2 (RI uZ λi j=>.int (i^j.toNat)) ta tb
abbrev l9 (ta tb:aH):aH:=q2 (gB λi j=>.bl (decide (i<j))) ta tb
abbrev qGt (ta tb:aH):aH:=q2 (gB λi j=>.bl (decide (j<i))) ta tb
abbrev Q0 (ta tb:aH):aH:=q2 (gB λi j=>.bl (decide (j<=i))) ta tb
abbrev jW (ta tb:aH):aH:=q2 (m9 false) ta tb
abbrev qNe (ta tb:aH):aH:=q2 (m9 true) ta tb
abbrev aE4 (ta tb:aH):aH:=q2 (x9 true) ta tb
abbrev aW (ta tb:aH):aH:=q2 wZ ta tb
def fU:List PV->(PV->Prop)->Prop:=λxs Q=>O3 xs Q/\∀ns,xs≠[.scr ns]
def Q2:aS:=λ_ _=>False
def QE (X:Cx)(e:Expr)(t:aH):Prop:=PE X e (LE X t)
def QT (X:Cx)(e:Expr)(t:cQ):Prop:=PT X e (LT X t)
def QW (X:Cx)(e:Expr)(t:cQ):Prop:=PW X e (LT X t)
def QA (X:Cx)(es:List Expr)(t:bT):Prop:=PA X es (LA X t)
def QS (X:Cx)(st:Stmt)(t:aS):Prop:=PS X st (LS X t)
def eZ (X:Cx)(st:List Stmt)(t:aS):Prop:=dB X st (LS X t)
def QI (X:Cx)(tg iter:Expr)(t:fR):Prop:=PI X tg iter (LI X t)
section
variable {X:Cx}
theorem cA {e:Expr}{t t':TE}(h:PE X e t)(m:∀σ H Q,t' σ H Q->t σ H Q):PE X e t':=λpins s σ H Q I q=>h pins s σ H Q I (m σ H Q q)
theorem lA {e:Expr}{t t':TT}(h:PT X e t)(m:∀σ H Q,t' σ H Q->t σ H Q):PT X e t':=λpins s σ H Q I q=>h pins s σ H Q I (m σ H Q q)
theorem Q3 {e:Expr}{t t':TT}(h:PW X e t)(m:∀σ H Q,t' σ H Q->t σ H Q):PW X e t':=λwh pins s σ H Q I q=>h wh pins s σ H Q I (m σ H Q q)
theorem Q4 {e:List Expr}{t t':TA}(h:PA X e t)(m:∀σ H Q,t' σ H Q->t σ H Q):PA X e t':=λpos pins s σ H Q I q=>h pos pins s σ H Q I (m σ H Q q)
theorem d6 {e:Stmt}{t t':TS}(h:PS X e t)(m:∀D σ H,t' D σ H->t D σ H):PS X e t':=λpins s σ H D I q=>h pins s σ H D I (m D σ H q)
theorem mO {e:List Stmt}{t t':TS}(h:dB X e t)(m:∀D σ H,t' D σ H->t D σ H):dB X e t':=λpins s σ H D I q=>h pins s σ H D I (m D σ H q)
theorem sB {tg e:Expr}{t t':TI}(h:PI X tg e t)(m:∀σ H R,t' σ H R->t σ H R):PI X tg e t':=λpins s σ H R I q=>h pins s σ H R I (m σ H R q)
variable {a b c e o:Expr}{es bW:List Expr}{ta tb te to tk:aH}{tr:bT}{tA tB' tc:cQ}{pos p2 px:Pos}{st:Stmt}{sts:List Stmt}{t u:aS}
theorem qv (i:Nat){x:Str}{pos:Pos}(hN:X.N[i]? = some x:=by rfl)(hv:cS X.env.scope x:=by first|exact Or.inl rfl|exact Or.inr (Or.inl rfl)|exact Or.inr (Or.inr rfl))(hd:(x==("__debug__":Str))=false:=by decide)(hcd:(x==("__classdict__":Str))=false:=by decide):QE X (.Name x pos) (a5 i):=cA (dC hN hv hd hcd) λ_ _ _=>az4
theorem aI {i j}:QE X (.Constant (.int i) j pos) (qC (.int i)):=cA nS λ_ _ _=>oF λ_=>.int i
theorem oO {i j}:QE X (.Constant (.bool i) j pos) (qC (.bl i)):=cA al6 λ_ _ _=>oF λ_=>.bl i
theorem sC {j}:QE X (.Constant .none j pos) (qC .non):=cA al7 λ_ _ _=>oF λ_=>.non
theorem cE {i j}:QE X (.Constant (.str i) j pos) (qC (.str i)):=cA al8 λ_ _ _=>oF λ_=>.str i
theorem lB {op:Operator}{R:PV->Tg->PV->Tg->PK->Prop}{r:R2}(ho:cG X (binaryOp op) r)(cv:eC X R r)(ha:QE X a ta)(hb:QE X b tb):QE X (.BinOp a op b pos) (q2 R ta tb):=cA (ao1 ho ha hb) λ_ _ _=>rO cv
theorem gE (ha:QE X a ta)(hb:QE X b tb):QE X (.BinOp a .Add b pos) (q2 (gB λi j=>.int (i+j)) ta tb):=lB ao3 N5 ha hb
theorem xN (ha:QE X a ta)(hb:QE X b tb):QE X (.BinOp a .Sub b pos) (q2 (gB λi j=>.int (i-j)) ta tb):=lB ao4 N5 ha hb
theorem oP (ha:QE X a ta)(hb:QE X b tb):QE X (.BinOp a .Mult b pos) (q2 (RI nX λi j=>.int (i*j)) ta tb):=lB ao5 rP ha hb
theorem i4 (ha:QE X a ta)(hb:QE X b tb):QE X (.BinOp a .FloorDiv b pos) (q2 (RI uY λi j=>.int (i/j)) ta tb):=lB ao6 rP ha hb
theorem dW (ha:QE X a ta)(hb:QE X b tb):QE X (.BinOp a .Mod b pos) (q2 (RI (λ_ j=>0<j) λi j=>.int (i%j)) ta tb):=lB ao7 rP ha hb
theorem aE5 (ha:QE X a ta)(hb:QE X b tb):QE X (.BinOp a .Pow b pos) (q2 (RI uZ λi j=>.int (i^j.toNat)) ta tb):=lB ao8 rP ha hb
theorem oQ {op:CmpOp}{R:PV->Tg->PV->Tg->PK->Prop}{r:R2}(ho:cG X (compareOp op) r)(cv:eC X R r)(ha:QE X a ta)(hb:QE X b tb)(hm:behindInMarks op b=false):QE X (.Compare a [op] [b] pos) (q2 R ta tb):=cA (v8 ho ha hb hm) λ_ _ _=>rO cv
theorem j6 {op:CmpOp}{R:PV->Tg->PV->Tg->PK->Prop}{r:R2}(ho:cG X (compareOp op) r)(cv:eC X R r)(ha:QE X a ta)(hb:QE X b tb)(hm:behindInMarks op b=false):QT X (.Compare a [op] [b] pos) (aZ (q2 R ta tb)):=lA (vA ho ha hb hm) λ_ _ _ h=>rO cv (rR h)
theorem Q5 (ha:QE X a ta)(hb:QE X b tb):QE X (.Compare a [.Lt] [b] pos) (q2 (gB λi j=>.bl (decide (i<j))) ta tb):=oQ qT rQ ha hb (fG _)
theorem Q6 (ha:QE X a ta)(hb:QE X b tb):QE X (.Compare a [.GtE] [b] pos) (q2 (gB λi j=>.bl (decide (j<=i))) ta tb):=oQ ap1 rQ ha hb (fG _)
theorem oR (ha:QE X a ta)(hb:QE X b tb):QT X (.Compare a [.Lt] [b] pos) (aZ (q2 (gB λi j=>.bl (decide (i<j))) ta tb)):=j6 qT rQ ha hb (fG _)
theorem aE6 (ha:QE X a ta)(hb:QE X b tb):QT X (.Compare a [.Gt] [b] pos) (aZ (q2 (gB λi j=>.bl (decide (j<i))) ta tb)):=j6 ap0 rQ ha hb (fG _)
theorem lC (ha:QE X a ta)(hb:QE X b tb):QT X (.Compare a [.Eq] [b] pos) (aZ (q2 (m9 false) ta tb)):=j6 v7 az5 ha hb (fG _)
theorem aE7 (ha:QE X a ta)(hb:QE X b tb):QT X (.Compare a [.NotEq] [b] pos) (aZ (q2 (m9 true) ta tb)):=j6 E5 az6 ha hb (fG _)
theorem aE8 (ha:QE X a ta)(hb:QE X b tb):QT X (.Compare a [.IsNot] [b] pos) (aZ (q2 (x9 true) ta tb)):=j6 ap3 aC6 ha hb (fG _)
theorem aE9 (hu:X.A.units+1<cLine)(hk:QE X a tk)(hd:QE X b te)(hm:behindInMarks .In b=false:=by rfl):QT X (.Compare a [.In] [b] pos) (aZ (j5 false tk te)):=lA (A9 (au7 hu hk hd) hm) λ_ _ _ h=>aD6 (rR h)
theorem Q7 (hu:X.A.units+1<cLine)(hk:QE X a tk)(hd:QE X b te)(hm:behindInMarks .NotIn b=false:=by rfl):QT X (.Compare a [.NotIn] [b] pos) (aZ (j5 true tk te)):=lA (A9 (K4 hu hk hd) hm) λ_ _ _ h=>P6 (rR h)
theorem aF0 (hu:X.A.units+1<cLine)(hk:QE X a tk)(hd:QE X b te)(hm:behindInMarks .NotIn b=false:=by rfl):QE X (.Compare a [.NotIn] [b] pos) (j5 true tk te):=cA (al9 (K4 hu hk hd) hm) λ_ _ _ h=>P6 h
theorem mP (h:QE X e te)(he:∀whole,isTrue e X.env whole=(do let v <- whole;standAt e.pos;holding [v] (truthy v)):=by intro _;rfl):QT X e (aZ te):=lA (am0 h he) λ_ _ _ h=>rR h
theorem aF1 (h:QE X e te)(he:∀whole,isTrue e X.env whole=(do let v <- whole;standAt e.pos;holding [v] (truthy v)):=by intro _;rfl):QT X e (x6 te):=lA (ap5 h he) λ_ _ _ h=>aC4 h
theorem Q8 (ha:QT X a tA):QW X (.BoolOp .And [a] pos) tA:=am1 ha
theorem oS (ha:QT X a tA):QW X (.BoolOp .Or [a] pos) tA:=B2 ha
theorem Q9 (ha:QT X a tA)(hb:QW X (.BoolOp .And (b::bW) pos) tB'):QW X (.BoolOp .And (a::b::bW) pos) (rS tA tB'):=Q3 (am2 ha hb) λ_ _ _=>az7
theorem lD (ha:QT X a tA)(hb:QW X (.BoolOp .Or (b::bW) pos) tB'):QW X (.BoolOp .Or (a::b::bW) pos) (hV tA tB'):=Q3 (B3 ha hb) λ_ _ _=>az8
theorem lE (h:QW X e tA):QT X e tA:=PW.pt h
theorem mQ (ha:QT X a tA):QT X (.UnaryOp .Not a pos) (jT tA):=lA (am3 ha) λ_ _ _=>az9
theorem sD {op}(h:QE X a ta):QE X (.BoolOp op [a] pos) ta:=am4 h
theorem xO (ha:QE X a ta)(hb:QE X (.BoolOp .And (b::bW) pos) tb):QE X (.BoolOp .And (a::b::bW) pos) (oG ta tb):=cA (am5 ha hb) λ_ _ _=>aA0
theorem aF2 (ha:QE X a ta)(hb:QE X (.BoolOp .Or (b::bW) pos) tb):QE X (.BoolOp .Or (a::b::bW) pos) (wU ta tb):=cA (am6 ha hb) λ_ _ _=>aA1
theorem aG:QA X [] aC:=Q4 dZ λ_ _ _=>N8
theorem aA (ha:QE X e te)(hr:QA X es tr)(hs:starEach (e::es) X.env=(false,eval e X.env)::starEach es X.env:=by rfl):QA X (e::es) (a9 te tr):=Q4 (dR ha hr hs) λ_ _ _=>aA2
theorem dD {x1}(h:QA X es tr):QE X (.Tuple es x1 pos) (bG tr):=cA (ar0 h) λ_ _ _=>aA3
theorem jX (h:QA X es tr):QE X (.List es pos) (fQ tr):=cA (qV h) λ_ _ _=>aA4
theorem b9 (ha:QE X a ta)(hb:QE X b tb)(hs:vO b:=by exact λ_ _=>rfl):QE X (.Subscript a b pos) (q2 wZ ta tb):=cA (m5 J0 ha hb hs) λ_ _ _=>rO aB6
theorem R3:QE X (.Dict [] [] pos) (qC (.dK [])):=cA av0 λ_ _ _=>aD9
theorem aF3:QE X (.Dict [] [] pos) (qC (.dT [])):=cA av1 λ_ _ _=>aE0
theorem j7 {x:Str}{id:String}{R:List PV->(PV->Prop)->Prop}{r:List V->Hp->VK->Prop}(hc:cH X (.builtin id) r)(cv:dM X R r)(hg:Gl X x)(hm:X.mg x=none)(hv:bootBuiltins x=some (.builtin id))(ha:QA X (e::es) tr)(hn:x≠"__name__":=by decide)(hdb:(x==("__debug__":Str))=false:=by decide)(he:starEach (e::es) X.env=(false,eval e X.env)::starEach es X.env:=by rfl)(hpl:(backTo pos (starEach es X.env)).any (·.1)=false:=by rfl):QE X (.Call (.Name x p2) (e::es) [] pos) (aO R tr):=cA (qY hc hg hm hv ha hn hdb he hpl) λ_ _ _=>N9 cv
theorem R4 {x:Str}{T:String}{R:List PV->(PV->Prop)->Prop}{r:List V->Hp->VK->Prop}(hc:cH X (.type T) r)(cv:dM X R r)(hg:Gl X x)(hm:X.mg x=none)(hv:bootBuiltins x=some (.type T))(ha:QA X (e::es) tr)(hn:x≠"__name__":=by decide)(hdb:(x==("__debug__":Str))=false:=by decide)(he:starEach (e::es) X.env=(false,eval e X.env)::starEach es X.env:=by rfl)(hpl:(backTo pos (starEach es X.env)).any (·.1)=false:=by rfl):QE X (.Call (.Name x p2) (e::es) [] pos) (aO R tr):=cA (ar6 hc hg hm hv ha hn hdb he hpl) λ_ _ _=>N9 cv
theorem cU:eZ X [] bH:=mO B7 λ_ _ _=>aA5
theorem aV (h1:QS X st t)(h2:eZ X sts u):eZ X (st::sts) (aR t u):=mO (kK h1 h2) λ_ _ _=>aA6
theorem aY (h1:QS X st t):eZ X [st] t:=kM h1
theorem aF4:QS X st Q2:=d6 am9 λ_ _ _ ⟨_,_,_,_,h,_⟩=>h
theorem bJ {i:Nat}{x:Str}(hN:X.N.Nodup)(he:QE X e te)(hi:X.N[i]? = some x:=by rfl)(hx:gJ X.env.scope x:=by first|exact Or.inl rfl|exact Or.inr rfl)(hs:swapsWith e (some (.Name x p2)) pos.line X.env=pure false:=by rfl)(hf:X.fn x=true∨X.env.scope.names.lookup x=some .local:=by first|exact .inl rfl|exact .inr rfl) :
  QS X (.Assign [.Name x p2] e pos) (bE i te):=d6 (nU hN hi hx he hs hf) λ_ _ _=>aA8
theorem lF {i:Nat}{x:Str}(hN:X.N.Nodup)(he:QE X e te)(hi:X.N[i]? = some x:=by rfl)(hx:gJ X.env.scope x:=by first|exact Or.inl rfl|exact Or.inr rfl)(hs:swapsWith e (some (.Name x p2)) pos.line X.env=pure false:=by rfl)(hf:X.fn x=true∨X.env.scope.names.lookup x=some .local:=by first|exact .inl rfl|exact .inr rfl) :
  QS X (.Assign [.Name x p2] e pos) (iX i te):=d6 (nU hN hi hx he hs hf) λ_ _ _=>aB0
theorem bK (he:QE X e te):QS X (.Return (some e) pos) (bC te):=d6 (lX he) λ_ _ _=>aB1
theorem sE (i:Nat){x:Str}(hN:X.N[i]? = some x:=by rfl)(hv:cS X.env.scope x:=by first|exact Or.inl rfl|exact Or.inr (Or.inl rfl)|exact Or.inr (Or.inr rfl))(hd:(x==("__debug__":Str))=false:=by decide)(hcd:(x==("__classdict__":Str))=false:=by decide) :
  QS X (.Return (some (.Name x p2)) pos) (mC i):=d6 (lX (dC hN hv hd hcd)) λ_ _ _=>aB2
theorem cV {sa sb:List Stmt}(hc:QT X c tc)(ha:eZ X sa t)(hb:eZ X sb u):QS X (.If c sa sb pos) (bI tc t u):=d6 (B8 hc ha hb) λ_ _ _=>aB3
theorem aF5 {body:List Stmt}(hp:PassesOwn (model X.prog X.w) X.A X.env X.xe)(hc:QT X c tc)(hb:eZ X body t):QS X (.While c body [] pos) (wY tc t):=d6 (an0 hp hc hb) λ_ _ _=>aB4
theorem sF (i:Nat){x:Str}{apos cpos xpos:Pos}(he:QE X e te)(hN:X.N[i]? = some x:=by rfl)(hv:cS X.env.scope x:=by first|exact Or.inl rfl|exact Or.inr (Or.inl rfl)|exact Or.inr (Or.inr rfl))(hd:(x==("__debug__":Str))=false:=by decide)(hcd:(x==("__classdict__":Str))=false:=by decide)(hbase:attributeBase (.Name x xpos) "append" X.env (eval (.Name x xpos) X.env)=eval (.Name x xpos) X.env:=by rfl)(hfew:((backTo cpos (starEach [e] X.env)).all (λx=>!x.1)&&(backToKw cpos (keywordEach [] X.env)).all (λx=>x.1.isSome)&&decide (([e]:List Expr).length+([]:List Keyword).length+(if ([]:List Keyword).isEmpty then 0 else 1)<30))=true:=by rfl)(hline:(apos.endLine==cpos.line)=true:=by rfl)(hs:starEach [e] X.env=(false,eval e X.env)::starEach [] X.env:=by rfl)(hplain:(backTo cpos (starEach [] X.env)).any (·.1)=false:=by rfl)(hsw:swapsWith (.Call (.Attribute (.Name x xpos) "append" apos) [e] [] cpos) none pos.line X.env=pure false:=by rfl) :
  QS X (.Expr (.Call (.Attribute (.Name x xpos) "append" apos) [e] [] cpos) pos) (mD i te):=
 d6 (lW (vU bx0 bw4 bw5 o0 (dC hN hv hd hcd) (dR he dZ hs) hbase hfew hline hs hplain) hsw) λ_ _ _=>aB5
theorem R5 {i:Nat}{x:Str}{xpos tpos:Pos}(hu:X.A.units+1<cLine)(hk:QE X a tk)(he:QE X e te)(hN:X.N[i]? = some x:=by rfl)(hv:cS X.env.scope x:=by first|exact Or.inl rfl|exact Or.inr (Or.inl rfl)|exact Or.inr (Or.inr rfl))(hd:(x==("__debug__":Str))=false:=by decide)(hcd:(x==("__classdict__":Str))=false:=by decide)(hs:swapsWith e (some (.Subscript (.Name x xpos) a tpos)) pos.line X.env=pure false:=by rfl):QS X (.Assign [.Subscript (.Name x xpos) a tpos] e pos) (rY i tk te):=d6 (K5 hu (dC hN hv hd hcd) hk he hs) λ_ _ _=>aD7
theorem aF6 {i:Nat}{x:Str}{xpos tpos:Pos}(hu:X.A.units+1<cLine)(hk:QE X a tk)(he:QE X e te)(hN:X.N[i]? = some x:=by rfl)(hv:cS X.env.scope x:=by first|exact Or.inl rfl|exact Or.inr (Or.inl rfl)|exact Or.inr (Or.inr rfl))(hd:(x==("__debug__":Str))=false:=by decide)(hcd:(x==("__classdict__":Str))=false:=by decide)(hs:swapsWith e (some (.Subscript (.Name x xpos) a tpos)) pos.line X.env=pure false:=by rfl):QS X (.Assign [.Subscript (.Name x xpos) a tpos] e pos) (xI i tk te):=d6 (K5 hu (dC hN hv hd hcd) hk he hs) λ_ _ _=>aD8
theorem aF7 {tg l:Expr}{tl:TE}(hl:PE X l tl):PI X tg l (O4 X.K tl):=by
 intro pins s σ H R I h
 refine aJ (hl pins s σ H _ I h) λv s1 ⟨x,H1,I1,r1,q1⟩=>?_
 obtain⟨a,e,q⟩:=q1
 subst e
 cases r1
 rcases q with⟨xs,hq,q⟩|⟨xs,hq,q⟩
 ·obtain⟨its,rv,p,hz⟩:=I1.list hq
  refine wpAny_pyIter_list p.isList ?_
  refine⟨s1.heap.objs.size,[s1.heap.objs.size],_,_,H1,rfl,I1.kept (t':=s1.toks) λb o e=>bk6 _ e,an1 a _,⟨_,bm0 _ rfl,rfl,rfl⟩,λb hb=>?_,q⟩
  have e:b=s1.heap.objs.size:=by simpa using hb
  subst e
  exact I1.fpOk (bk9 _) (I1.hok.fresh (bk9 _))
 ·obtain⟨its,rv,p,hz⟩:=I1.tuple hq
  refine bv7 (show s1.heap.IsTuple a its.toArray from p) ?_
  refine⟨s1.heap.objs.size,[s1.heap.objs.size],_,_,H1,rfl,I1.kept (t':=s1.toks) λb o e=>bk6 _ e,C1 a _,⟨_,bm0 _ rfl,rfl,rfl⟩,λb hb=>?_,q⟩
  have e:b=s1.heap.objs.size:=by simpa using hb
  subst e
  exact I1.fpOk (bk9 _) (I1.hok.fresh (bk9 _))
theorem jY {tg l:Expr}(hl:QE X l te):QI X tg l (iF te):=sB (aF7 hl) λ_ _ _=>aC7
theorem oT {tg:Expr}(hg:Gl X "range")(hm:X.mg "range" = none)(ha:QE X a ta)(hs:starEach [a] X.env = [(false,eval a X.env)]:=by rfl):QI X tg (.Call (.Name "range" p2) [a] [] pos) (l0 ta):=sB (an4 hg hm (dR ha dZ hs) hs) λ_ _ _=>aC8
theorem aF8 {tg:Expr}(hg:Gl X "range")(hm:X.mg "range" = none)(ha:QE X a ta)(hb:QE X b tb)(hs:starEach [a,b] X.env = [(false,eval a X.env),(false,eval b X.env)]:=by rfl)(hs2:starEach [b] X.env = [(false,eval b X.env)]:=by rfl) :
  QI X tg (.Call (.Name "range" p2) [a,b] [] pos) (xC ta tb):=sB (an5 hg hm (dR ha (dR hb dZ hs2) (by rw[hs,hs2])) hs hs2) λ_ _ _=>aC9
theorem R6 {tg:Expr}{body:List Stmt}{ti:fR}{p:jV}{g:TG}{own:Nat->Prop}(hp:PassesOwn (model X.prog X.w) X.A X.env X.xe)(hc:X.calm=true)(hi:QI X tg e ti)(hg:PG X tg g)(ht:oJ X.K own p g)(hb:eZ X body t)(hs:∀x,foldedSetIterable e X.env x=pure x:=by intro _;rfl):QS X (.For tg e body [] pos) (gC ti p t):=d6 (C7 hp hc hi hg hb hs) λ_ _ _=>aD1 ht
end
section
variable {X:Cx}{pins:List (Addr×Obj)}{σ:St}{H:Hp}{s:Shared}{K:ac}{M M':Addr→Prop}
theorem m7.inj {a:Addr}{us ws:List V}(h:m7 K a us)(h':m7 K a ws):us=ws:=by
 obtain⟨o,its,n,e1,_,e2,_,v⟩:=h
 obtain⟨o',its',n',e1',_,e2',_,v'⟩:=h'
 rw[e1]at e1';cases e1'
 rw[e2]at e2';cases e2'
 exact v.inj v'
theorem Reps.self_of {n:Nat}(ih:∀{v:V}{x y:PV},aE K M H v x->aE K M' H v y->dE n x y=true->cD n x y=true):∀{vs:List V}{xs ys:List PV},Reps K M H vs xs->Reps K M' H vs ys->((xs.zip ys).all λp=>dE n p.1 p.2)=true->(((xs.zip ys).all λp=>cD n p.1 p.2)&&xs.length==ys.length)=true
 |_,_,_,.nil,.nil,_=>rfl
 |_,_,_,.cons r t,.cons r' t',o=>by
  simp only[List.zip_cons_cons,bx6,bn4]at o
  have h1:=ih r r' o.1
  have h2:=Reps.self_of ih t t' o.2
  simp only[List.zip_cons_cons,bx6,h1,Bool.true_and,bo1]at h2 ⊢
  rw[<- h2]
  congr 1
  simp
theorem aE.self:∀(n:Nat) {v:V}{x y:PV},aE K M H v x->aE K M' H v y->dE n x y=true->cD n x y=true:=by
 intro n
 induction n with
 |zero=>
  intro v x y r r' o
  cases r with
  |non=>cases r';rfl
  |bl b=>cases r';exact bs3 b
  |int i=>cases r';exact bs3 i
  |str z=>cases r';exact bs3 z
  |_=>cases o
 |succ n ih=>
  intro v x y r r' o
  cases r with
  |non=>cases r';rfl
  |bl b=>cases r';exact bs3 b
  |int i=>cases r';exact bs3 i
  |str z=>cases r';exact bs3 z
  |tup h rr=>
   cases r' with
   |tup h' rr'=>rw[h]at h';cases h';exact Reps.self_of ih rr rr' o
   |_=>cases o
  |lst _ h rr=>
   cases r' with
   |lst _ h' rr'=>rw[h]at h';cases h';exact Reps.self_of ih rr rr' o
   |_=>cases o
  |kt h rr=>
   cases r' with
   |kt h' rr'=>cases m7.inj h h';exact Reps.self_of ih rr rr' o
   |_=>cases o
  |_=>cases o
theorem Reps.self (n:Nat){vs:List V}{xs ys:List PV}(r:Reps K M H vs xs)(r':Reps K M' H vs ys)(o:((xs.zip ys).all λp=>dE n p.1 p.2)=true):(((xs.zip ys).all λp=>cD n p.1 p.2)&&xs.length==ys.length)=true:=Reps.self_of (aE.self n) r r' o
theorem j8 (n:Nat)(xs ys:List PV):(List.range (min xs.length ys.length)).all (λj=>cD n (xs.getD j .non) (ys.getD j .non))=(xs.zip ys).all λp=>cD n p.1 p.2:=by
 rw[bq0]
 simp only[bt2,List.mem_range]
 constructor
 ·intro h p hp
  obtain⟨j,hj,e⟩:=List.getElem_of_mem hp
  have hj':j<min xs.length ys.length:=by simpa using hj
  have:=h j hj'
  rw[List.getElem_zip]at e
  subst e
  have h1:j<xs.length:=by omega
  have h2:j<ys.length:=by omega
  simpa[bn7,h1,h2] using this
 ·intro h j hj
  have h1:j<xs.length:=by omega
  have h2:j<ys.length:=by omega
  have hz:j<(xs.zip ys).length:=by simp;omega
  have:=h _ (bu3 hz)
  rw[List.getElem_zip]at this
  simpa[bn7,h1,h2] using this
theorem xP (I:a8 X pins σ H s):∀(n:Nat) {A:Around}{v w:V}{x y:PV}{a b:Value},A.units+n<cLine->aE X.K M H v x->aE X.K M' H w y->aT v a->aT w b->dE n x y=true->SeqAt.EqAt A s a b (cD n x y):=by
 intro n
 induction n with
 |zero=>
  intro A v w x y a b hu rx ry ra rb o
  cases rx with
  |non=>
   cases ra
   cases ry with
   |non=>cases rb;exact SeqAt.EqAt.same _
   |int i=>obtain⟨t',rfl⟩:=rb;exact SeqAt.EqAt.none_int _ _
   |_=>cases o
  |bl i=>
   cases ra
   cases ry with
   |bl j=>cases rb;exact SeqAt.EqAt.bool_bool _ _
   |_=>cases o
  |int i=>
   obtain⟨t,rfl⟩:=ra
   cases ry with
   |int j=>obtain⟨t',rfl⟩:=rb;exact SeqAt.EqAt.int_int _ _ _ _
   |non=>cases rb;exact SeqAt.EqAt.int_none _ _
   |_=>cases o
  |str i=>
   obtain⟨t,rfl⟩:=ra
   cases ry with
   |str j=>obtain⟨t',rfl⟩:=rb;exact SeqAt.EqAt.str_str _ _ _ _
   |_=>cases o
  |_=>cases o
 |succ n ih=>
  intro A v w x y a b hu rx ry ra rb o
  have items:∀{us ws:List V}{xs ys:List PV}{its its2:List Value},Reps X.K M H us xs->Reps X.K M' H ws ys->aQ us its->aQ ws its2->((xs.zip ys).all λp=>dE n p.1 p.2)=true->
    ∀j (h1:j<its.toArray.size) (h2:j<its2.toArray.size),SeqAt.EqAt A.in1 s its.toArray[j] its2.toArray[j] (cD n (xs.getD j .non) (ys.getD j .non)):=λ{us ws xs ys its its2} r1 r2 v1 v2 ok j h1 h2=>by
   have l1:=v1.length
   have l2:=v2.length
   have m1:=r1.length
   have m2:=r2.length
   have k1:j<its.length:=by simpa using h1
   have k2:j<its2.length:=by simpa using h2
   have j1:j<us.length:=by omega
   have j2:j<ws.length:=by omega
   have i1:j<xs.length:=by omega
   have i2:j<ys.length:=by omega
   obtain⟨u,hu',ru⟩:=v1.get (bk8 j1)
   obtain⟨u2,hu2',ru2⟩:=v2.get (bk8 j2)
   obtain⟨x,hx,rx⟩:=r1.get (bk8 j1)
   obtain⟨y,hy,ry⟩:=r2.get (bk8 j2)
   have e1:its.toArray[j]=u:=by
    rw[bk8 k1]at hu'
    simpa using hu'
   have e2:its2.toArray[j]=u2:=by
    rw[bk8 k2]at hu2'
    simpa using hu2'
   have ok':dE n x y=true:=by
    rw[bt2]at ok
    have hz:j<(xs.zip ys).length:=by simp;omega
    have:=ok _ (bu3 hz)
    rw[List.getElem_zip]at this
    rw[bk8 i1]at hx
    rw[bk8 i2]at hy
    cases hx;cases hy
    exact this
   rw[e1,e2]
   have g1:xs.getD j .non=x:=by rw[bn7,hx];rfl
   have g2:ys.getD j .non=y:=by rw[bn7,hy];rfl
   rw[g1,g2]
   exact ih (by show A.units+1+n<cLine;omega) rx ry ru ru2 ok'
  have huA:A.units<cLine:=by omega
  cases rx with
  |@kt p us xs h1 r1=>
   obtain⟨its,v1,p1,_⟩:=I.tuple (.inr h1)
   cases (show a=Value.ref p from ra)
   cases ry with
   |@kt p2 ws ys h2 r2=>
    obtain⟨its2,v2,p2',_⟩:=I.tuple (.inr h2)
    cases (show b=Value.ref p2 from rb)
    by_cases e:p=p2
    ·subst e
     have:=aE.self (K:=X.K) (M:=M) (M':=M') (n+1) (.kt h1 r1) (.kt h2 r2) o
     rw[this]
     exact SeqAt.EqAt.same _
    ·have:=SeqAt.RcAt.tuples p1 p2' huA (items r1 r2 v1 v2 o)
     refine .of_refs e ?_
     have l1:=v1.length
     have l2:=v2.length
     have m1:=r1.length
     have m2:=r2.length
     rw[bk7,bk7,<- l1,<- l2,m1,m2,j8]at this
     exact this
   |_=>cases o
  |@tup p us xs h1 r1=>
   obtain⟨its,v1,p1,_⟩:=I.tuple (aL.of (K:=X.K) h1)
   cases (show a=Value.ref p from ra)
   cases ry with
   |@tup p2 ws ys h2 r2=>
    obtain⟨its2,v2,p2',_⟩:=I.tuple (aL.of (K:=X.K) h2)
    cases (show b=Value.ref p2 from rb)
    by_cases e:p=p2
    ·subst e
     have:=aE.self (K:=X.K) (M:=M) (M':=M') (n+1) (.tup h1 r1) (.tup h2 r2) o
     rw[this]
     exact SeqAt.EqAt.same _
    ·have:=SeqAt.RcAt.tuples p1 p2' huA (items r1 r2 v1 v2 o)
     refine .of_refs e ?_
     have l1:=v1.length
     have l2:=v2.length
     have m1:=r1.length
     have m2:=r2.length
     rw[bk7,bk7,<- l1,<- l2,m1,m2,j8]at this
     exact this
   |non=>cases rb;exact SeqAt.EqAt.tuple_none p1 huA
   |_=>cases o
  |@lst p us xs _ h1 r1=>
   obtain⟨its,v1,p1,_⟩:=I.list (aM.of (K:=X.K) h1)
   cases (show a=Value.ref p from ra)
   cases ry with
   |@lst p2 ws ys _ h2 r2=>
    obtain⟨its2,v2,p2',_⟩:=I.list (aM.of (K:=X.K) h2)
    cases (show b=Value.ref p2 from rb)
    have l1:=v1.length
    have l2:=v2.length
    have m1:=r1.length
    have m2:=r2.length
    by_cases e:p=p2
    ·subst e
     rw[h1]at h2;cases h2
     have:=Reps.self n r1 r2 o
     show SeqAt.EqAt A s _ _ ((xs.zip ys).all (λp=>cD n p.1 p.2)&&xs.length==ys.length)
     rw[this]
     exact SeqAt.EqAt.same _
    ·refine .of_refs e ?_
     by_cases hl:xs.length=ys.length
     ·have:=SeqAt.RcAt.lists p1.isList p2'.isList (by rw[bk7,bk7];omega) huA (items r1 r2 v1 v2 o)
      have hm:min xs.length ys.length=its.length:=by omega
      rw[bk7,<- hm,j8]at this
      show SeqAt.RcAt A s _ _ ((xs.zip ys).all (λp=>cD n p.1 p.2)&&xs.length==ys.length)
      rw[show (xs.length==ys.length)=true by simpa using hl,Bool.and_true]
      exact this
     ·have:=SeqAt.RcAt.lists_lengths (A:=A) p1.isList p2'.isList (by rw[bk7,bk7];simp;omega) huA
      show SeqAt.RcAt A s _ _ ((xs.zip ys).all (λp=>cD n p.1 p.2)&&xs.length==ys.length)
      rw[show (xs.length==ys.length)=false by simpa using hl,Bool.and_false]
      exact this
   |_=>cases o
  |non=>
   cases ra
   cases ry with
   |non=>cases rb;exact SeqAt.EqAt.same _
   |int i=>obtain⟨t',rfl⟩:=rb;exact SeqAt.EqAt.none_int _ _
   |@tup p2 ws ys h2 r2=>
    obtain⟨its2,v2,p2',_⟩:=I.tuple (aL.of (K:=X.K) h2)
    cases (show b=Value.ref p2 from rb)
    exact SeqAt.EqAt.none_tuple p2' huA
   |_=>cases o
  |bl i=>
   cases ra
   cases ry with
   |bl j=>cases rb;exact SeqAt.EqAt.bool_bool _ _
   |_=>cases o
  |int i=>
   obtain⟨t,rfl⟩:=ra
   cases ry with
   |int j=>obtain⟨t',rfl⟩:=rb;exact SeqAt.EqAt.int_int _ _ _ _
   |non=>cases rb;exact SeqAt.EqAt.int_none _ _
   |_=>cases o
  |str i=>
   obtain⟨t,rfl⟩:=ra
   cases ry with
   |str j=>obtain⟨t',rfl⟩:=rb;exact SeqAt.EqAt.str_str _ _ _ _
   |_=>cases o
  |_=>cases o
end
structure Bt (mg:Str->Option Value):Prop where
 len:mg "len" = none
 range:mg "range" = none
 tuple:mg "tuple" = none
 list:mg "list" = none
 sorted:mg "sorted" = none
 all:mg "all" = none
 any:mg "any" = none
 zip:mg "zip" = none
 min:mg "min" = none
 max:mg "max" = none
 sum:mg "sum" = none
 isinst:mg "isinstance" = none
 int:mg "int" = none
 bool:mg "bool" = none
 enum:mg "enumerate" = none
section
variable {X:Cx}{a b c e o:Expr}{es bW:List Expr}{ta tb te to tk:aH}{tr:bT}{tA tB' tc:cQ}{pos p2 px:Pos}{st:Stmt}{sts:List Stmt}{t u:aS}
theorem mR (B:Bt X.mg)(ha:QA X [e] tr)(hg:Gl X "len":=by rfl)(he:starEach [e] X.env=(false,eval e X.env)::starEach [] X.env:=by rfl)(hpl:(backTo pos (starEach [] X.env)).any (·.1)=false:=by rfl):QE X (.Call (.Name "len" p2) [e] [] pos) (aO jU tr):=
 j7 (J4.or av8) aB7 hg B.len PySem.boot_len ha (he:=he) (hpl:=hpl)
theorem gS (B:Bt X.mg)(ha:QA X [e] tr)(hg:Gl X "tuple":=by rfl)(he:starEach [e] X.env=(false,eval e X.env)::starEach [] X.env:=by rfl)(hpl:(backTo pos (starEach [] X.env)).any (·.1)=false:=by rfl):QE X (.Call (.Name "tuple" p2) [e] [] pos) (aO fU tr):=
 R4 at9 aB8 hg B.tuple PyProof.Rows.boot_tuple ha (he:=he) (hpl:=hpl)
theorem aF9 (B:Bt X.mg)(hc:X.calm=true)(ha:QA X [e] tr)(hg:Gl X "all":=by rfl)(he:starEach [e] X.env=(false,eval e X.env)::starEach [] X.env:=by rfl)(hpl:(backTo pos (starEach [] X.env)).any (·.1)=false:=by rfl):QE X (.Call (.Name "all" p2) [e] [] pos) (aO x4 tr):=
 j7 (wO hc) aB9 hg B.all PyProof.Rows.boot_all ha (he:=he) (hpl:=hpl)
theorem aG0 (B:Bt X.mg)(hc:X.calm=true)(ha:QA X [a,b] tr)(hg:Gl X "min":=by rfl)(he:starEach [a,b] X.env=(false,eval a X.env)::starEach [b] X.env:=by rfl)(hpl:(backTo pos (starEach [b] X.env)).any (·.1)=false:=by rfl):QE X (.Call (.Name "min" p2) [a,b] [] pos) (aO x5 tr):=
 j7 (ap7 hc) aC0 hg B.min PyProof.Rows.boot_min ha (he:=he) (hpl:=hpl)
theorem R7 (B:Bt X.mg)(hc:X.calm=true)(ha:QA X [a,b] tr)(hg:Gl X "max":=by rfl)(he:starEach [a,b] X.env=(false,eval a X.env)::starEach [b] X.env:=by rfl)(hpl:(backTo pos (starEach [b] X.env)).any (·.1)=false:=by rfl):QE X (.Call (.Name "max" p2) [a,b] [] pos) (aO rV tr):=
 j7 (ap6 hc) aC1 hg B.max PyProof.Rows.boot_max ha (he:=he) (hpl:=hpl)
theorem xQ (ha:QE X a ta):QE X (.UnaryOp .USub a pos) (mI ta):=cA (ao2 ao9 ha) λσ H Q' h=>by
 obtain⟨W,ρ,Q,px,q,k⟩:=h
 refine⟨W,ρ,_,px,q,?_⟩
 rintro v H1 x g s r ⟨i,rfl,q⟩
 cases r
 exact⟨i,rfl,k _ _ _ .fr s (.int _) q⟩
theorem R8 (x:Int):∀(xs:af),nZ (.int x) (xs.map V.int)=decide (x∈xs)
 |[]=>by simp[nZ]
 |y::r=>by
  have ih:=R8 x r
  unfold nZ at ih ⊢
  rw[bp3,List.any_cons,ih]
  by_cases e:y=x
  ·subst e;simp[hB]
  ·have:hB (.int y) (.int x)=false:=by simpa[hB] using e
   rw[this,Bool.false_or,bq0]
   simp[Ne.symm e]
theorem R9:∀(xs:af),(xs.map V.int).all iR=true
 |[]=>rfl
 |_::r=>by rw[bp3,bx6,R9 r];rfl
theorem aG1 (neg:Bool):eC X (xK neg) (J3 X.K neg):=by
 rintro W Hs H u v x y g g' Q Q' s n r1 r2 ⟨i,ns,rfl,e,q⟩ k
 cases r1
 obtain⟨a,us,rfl,hs,r⟩:=r2.seq e
 obtain rfl:=r.ofInts
 refine⟨a,_,rfl,hs,rfl,R9 ns,?_⟩
 have:=k _ _ _ .fr (aB.refl _) (.bl _) q
 rw[R8]
 cases neg<;>exact this
theorem aG2 (ha:QE X a ta)(hb:QE X b tb)(hm:behindInMarks .In b=false:=by rfl):QE X (.Compare a [.In] [b] pos) (q2 (xK false) ta tb):=oQ at8 (aG1 false) ha hb hm
theorem aE.kt_ {K:ac}{M:Addr->Prop}{H:Hp}{v:V}{xs:List PV}(r:aE K M H v (.kt xs)):∃a us,v = .ref a/\m7 K a us/\Reps K M H us xs:=by
 cases r with
 |kt h r=>exact⟨_,_,rfl,h,r⟩
def oU (K:ac)(n:Nat)(neg:Bool):R2:=λv w H Q=>∃x y,aE K (λ_=>True) H v x/\aE K (λ_=>True) H w y/\((∃xs ys,x = .tup xs/\y = .tup ys)∨(∃xs ys,x = .lst xs/\y = .lst ys)∨(∃xs ys,x = .kt xs/\y = .kt ys))/\dE (n+1) x y=true/\Q (.bl (if neg=true then !cD (n+1) x y else cD (n+1) x y)) H
theorem mS {pins:List (Addr×Obj)}{σ:St}{H:Hp}{s:Shared}{M M':Addr->Prop}(I:a8 X pins σ H s){n:Nat}{A:Around}(hu:A.units+(n+1)<cLine){us ws:List V}{xs ys:List PV}{its its2:List Value}(r1:Reps X.K M H us xs)(r2:Reps X.K M' H ws ys)(v1:aQ us its)(v2:aQ ws its2)(ok:((xs.zip ys).all λp=>dE n p.1 p.2)=true):∀j (h1:j<its.toArray.size) (h2:j<its2.toArray.size),SeqAt.EqAt A.in1 s its.toArray[j] its2.toArray[j] (cD n (xs.getD j .non) (ys.getD j .non)):=by
 intro j h1 h2
 have l1:=v1.length
 have l2:=v2.length
 have m1:=r1.length
 have m2:=r2.length
 have k1:j<its.length:=by simpa using h1
 have k2:j<its2.length:=by simpa using h2
 have j1:j<us.length:=by omega
 have j2:j<ws.length:=by omega
 have i1:j<xs.length:=by omega
 have i2:j<ys.length:=by omega
 obtain⟨u,hu',ru⟩:=v1.get (bk8 j1)
 obtain⟨u2,hu2',ru2⟩:=v2.get (bk8 j2)
 obtain⟨x,hx,rx⟩:=r1.get (bk8 j1)
 obtain⟨y,hy,ry⟩:=r2.get (bk8 j2)
 have e1:its.toArray[j]=u:=by
  rw[bk8 k1]at hu'
  simpa using hu'
 have e2:its2.toArray[j]=u2:=by
  rw[bk8 k2]at hu2'
  simpa using hu2'
 have ok':dE n x y=true:=by
  rw[bt2]at ok
  have hz:j<(xs.zip ys).length:=by simp;omega
  have:=ok _ (bu3 hz)
  rw[List.getElem_zip]at this
  rw[bk8 i1]at hx
  rw[bk8 i2]at hy
  cases hx;cases hy
  exact this
 rw[e1,e2]
 have g1:xs.getD j .non=x:=by rw[bn7,hx];rfl
 have g2:ys.getD j .non=y:=by rw[bn7,hy];rfl
 rw[g1,g2]
 exact xP I n (by show A.units+1+n<cLine;omega) rx ry ru ru2 ok'
theorem bk3 (n:Nat)(hu:X.A.units+(n+1)<cLine):cG X (compareOp .Eq) (oU X.K n false):=by
 intro pins s σ H v w a b Q I ra rb h
 obtain⟨x,y,rx,ry,kd,o,q⟩:=h
 have hu0:X.A.units<cLine:=by omega
 rcases kd with⟨xs,ys,rfl,rfl⟩|⟨xs,ys,rfl,rfl⟩|⟨xs,ys,rfl,rfl⟩
 ·obtain⟨p,us,rfl,h1,r1⟩:=rx.sqT
  obtain⟨p2,ws,rfl,h2,r2⟩:=ry.sqT
  cases ra;cases rb
  obtain⟨its,v1,p1,_⟩:=I.tuple (aL.of (K:=X.K) h1)
  obtain⟨its2,v2,p2',_⟩:=I.tuple (aL.of (K:=X.K) h2)
  have l1:=v1.length
  have l2:=v2.length
  have m1:=r1.length
  have m2:=r2.length
  have:=SeqAt.RcAt.tuples p1 p2' hu0 (mS I hu r1 r2 v1 v2 o)
  rw[bk7,bk7,<- l1,<- l2,m1,m2,j8]at this
  exact this _ _ _ _ ⟨.bl _,H,I,rfl,q⟩
 ·obtain⟨p,us,rfl,_,h1,r1⟩:=rx.sqL
  obtain⟨p2,ws,rfl,_,h2,r2⟩:=ry.sqL
  cases ra;cases rb
  obtain⟨its,v1,p1,_⟩:=I.list (aM.of (K:=X.K) h1)
  obtain⟨its2,v2,p2',_⟩:=I.list (aM.of (K:=X.K) h2)
  have l1:=v1.length
  have l2:=v2.length
  have m1:=r1.length
  have m2:=r2.length
  have q:Q (.bl ((xs.zip ys).all (λp=>cD n p.1 p.2)&&xs.length==ys.length)) H:=q
  by_cases hl:xs.length=ys.length
  ·have:=SeqAt.RcAt.lists p1.isList p2'.isList (by rw[bk7,bk7];omega) hu0 (mS I hu r1 r2 v1 v2 o)
   have hm:min xs.length ys.length=its.length:=by omega
   rw[bk7,<- hm,j8]at this
   rw[show (xs.length==ys.length)=true by simpa using hl,Bool.and_true]at q
   exact this _ _ _ _ ⟨.bl _,H,I,rfl,q⟩
  ·have:=SeqAt.RcAt.lists_lengths (A:=X.A) p1.isList p2'.isList (by rw[bk7,bk7];simp;omega) hu0
   rw[show (xs.length==ys.length)=false by simpa using hl,Bool.and_false]at q
   exact this _ _ _ _ ⟨.bl _,H,I,rfl,q⟩
 ·obtain⟨p,us,rfl,h1,r1⟩:=rx.kt_
  obtain⟨p2,ws,rfl,h2,r2⟩:=ry.kt_
  cases ra;cases rb
  obtain⟨its,v1,p1,_⟩:=I.tuple (.inr h1)
  obtain⟨its2,v2,p2',_⟩:=I.tuple (.inr h2)
  have l1:=v1.length
  have l2:=v2.length
  have m1:=r1.length
  have m2:=r2.length
  have:=SeqAt.RcAt.tuples p1 p2' hu0 (mS I hu r1 r2 v1 v2 o)
  rw[bk7,bk7,<- l1,<- l2,m1,m2,j8]at this
  exact this _ _ _ _ ⟨.bl _,H,I,rfl,q⟩
theorem xR (n:Nat)(hu:X.A.units+(n+1)<cLine):cG X (compareOp .NotEq) (oU X.K n true):=by
 intro pins s σ H v w a b Q I ra rb h
 obtain⟨x,y,rx,ry,kd,o,q⟩:=h
 have hu0:X.A.units<cLine:=by omega
 rcases kd with⟨xs,ys,rfl,rfl⟩|⟨xs,ys,rfl,rfl⟩|⟨xs,ys,rfl,rfl⟩
 ·obtain⟨p,us,rfl,h1,r1⟩:=rx.sqT
  obtain⟨p2,ws,rfl,h2,r2⟩:=ry.sqT
  cases ra;cases rb
  obtain⟨its,v1,p1,_⟩:=I.tuple (aL.of (K:=X.K) h1)
  obtain⟨its2,v2,p2',_⟩:=I.tuple (aL.of (K:=X.K) h2)
  have l1:=v1.length
  have l2:=v2.length
  have m1:=r1.length
  have m2:=r2.length
  have:=SeqAt.RcNeAt.tuples p1 p2' hu0 (mS I hu r1 r2 v1 v2 o)
  rw[bk7,bk7,<- l1,<- l2,m1,m2,j8]at this
  exact this _ _ _ _ ⟨.bl _,H,I,rfl,q⟩
 ·obtain⟨p,us,rfl,_,h1,r1⟩:=rx.sqL
  obtain⟨p2,ws,rfl,_,h2,r2⟩:=ry.sqL
  cases ra;cases rb
  obtain⟨its,v1,p1,_⟩:=I.list (aM.of (K:=X.K) h1)
  obtain⟨its2,v2,p2',_⟩:=I.list (aM.of (K:=X.K) h2)
  have l1:=v1.length
  have l2:=v2.length
  have m1:=r1.length
  have m2:=r2.length
  have q:Q (.bl (!((xs.zip ys).all (λp=>cD n p.1 p.2)&&xs.length==ys.length))) H:=q
  by_cases hl:xs.length=ys.length
  ·have:=SeqAt.RcNeAt.lists p1.isList p2'.isList (by rw[bk7,bk7];omega) hu0 (mS I hu r1 r2 v1 v2 o)
   have hm:min xs.length ys.length=its.length:=by omega
   rw[bk7,<- hm,j8]at this
   rw[show (xs.length==ys.length)=true by simpa using hl,Bool.and_true]at q
   exact this _ _ _ _ ⟨.bl _,H,I,rfl,q⟩
  ·have:=SeqAt.RcNeAt.lists_lengths (A:=X.A) p1.isList p2'.isList (by rw[bk7,bk7];simp;omega) hu0
   rw[show (xs.length==ys.length)=false by simpa using hl,Bool.and_false]at q
   exact this _ _ _ _ ⟨.bl _,H,I,rfl,q⟩
 ·obtain⟨p,us,rfl,h1,r1⟩:=rx.kt_
  obtain⟨p2,ws,rfl,h2,r2⟩:=ry.kt_
  cases ra;cases rb
  obtain⟨its,v1,p1,_⟩:=I.tuple (.inr h1)
  obtain⟨its2,v2,p2',_⟩:=I.tuple (.inr h2)
  have l1:=v1.length
  have l2:=v2.length
  have m1:=r1.length
  have m2:=r2.length
  have:=SeqAt.RcNeAt.tuples p1 p2' hu0 (mS I hu r1 r2 v1 v2 o)
  rw[bk7,bk7,<- l1,<- l2,m1,m2,j8]at this
  exact this _ _ _ _ ⟨.bl _,H,I,rfl,q⟩
theorem aG3 {n:Nat}{neg:Bool}:eC X (oM n neg) (oU X.K n neg):=by
 rintro W Hs H u v x y g g' Q Q' s n r1 r2 ⟨kd,o,q⟩ k
 exact⟨x,y,r1.same (aB.refl _) λ_ _=>trivial,r2.same (aB.refl _) λ_ _=>trivial,kd.elim .inl λz=>.inr (.inl z),o,k _ _ _ .fr (aB.refl _) (.bl _) q⟩
theorem aG4 (hu:X.A.units+3<cLine)(ha:QE X a ta)(hb:QE X b tb):QT X (.Compare a [.NotEq] [b] pos) (aZ (q2 (oM 2 true) ta tb)):=j6 (xR 2 hu) aG3 ha hb (fG _)
end
end PP
namespace PP
open PySem L2 PyProof.Rows
def LO (X:Cx)(t:mJ):TO:=λσ H Q'=>∃(W:Addr->Prop) (ρ:b6) (Q:Option Int->Prop),PX X.K X.H₀ W σ ρ H/\t ρ Q/\∀o H',aB H H'->Q o->Q' o H'
def QO (X:Cx)(e:Option Expr)(t:mJ):Prop:=PO X e (LO X t)
theorem Reps.cut {K:ac}{M:Addr->Prop}{H:Hp}{us:List V}{xs:List PV}(r:Reps K M H us xs)(lo hi:Option Int):Reps K M H (eI us lo hi) (gR xs lo hi):=by
 unfold eI gR
 rw[r.length]
 exact (r.drop _).take _
section
variable {X:Cx}{a b c e o:Expr}{es bW:List Expr}{ta tb te to tk:aH}{tr:bT}{tA tB' tc:cQ}{pos p2 px:Pos}{st:Stmt}{sts:List Stmt}{t u:aS}
theorem oV:QO X none mK:=λpins s σ H Q I h=>vK pins s σ H Q I (by
 obtain⟨W,ρ,Q1,px,q,k⟩:=h
 exact k _ _ (aB.refl _) q)
theorem oW (h:QE X e te):QO X (some e) (mL te):=λpins s σ H Q I hq=>vL h pins s σ H Q I (by
 obtain⟨W,ρ,Q1,px,q,k⟩:=hq
 refine⟨W,ρ,_,px,q,?_⟩
 rintro v H1 x g s r ⟨i,rfl,q⟩
 cases r
 exact⟨i,rfl,k _ _ s q⟩)
theorem oX {lo hi:Option Expr}{tl th:mJ}{sp:Pos}(he:QE X e te)(hl:QO X lo tl)(hh:QO X hi th):QE X (.Subscript e (.Slice lo hi none sp) pos) (mM te tl th):=cA (vM (J1.or N2) he hl hh) λσ H Q' h=>by
 obtain⟨W,ρ,Q,px,q,k⟩:=h
 refine⟨W,ρ,_,px,q,λv H1 x g s1 r1 q1=>⟨W,ρ,_,px.mono s1,q1,λlo H2 s2 q2=>⟨W,ρ,_,px.mono (s1.trans s2),q2,?_⟩⟩⟩
 rintro hi H3 s3 ⟨xs,e,f,q3⟩
 have S:=(s1.trans s2).trans s3
 have r3:=r1.same (M':=Mg X.H₀ W H g) (s2.trans s3) λ_ z=>z
 cases r3 with
 |tup h r=>
  cases e
  refine .inr ⟨_,_,rfl,aL.of h,λp hp=>k _ _ _ .fr (S.trans (bR hp _)) (.tup aU (((r.flat f).cut lo hi).same (bR hp _) λ_ z=>z)) q3,λec=>k _ _ _ .fr S (.tup h ?_) q3⟩
  have:=(r.flat (M':=Mg X.H₀ W H .fr) f).cut lo hi
  rw[ec]at this
  exact this
 |lst m h r=>
  cases e
  exact .inl ⟨_,_,rfl,aM.of h,λp hp=>k _ _ _ .fr (S.trans (bR hp _)) (.lst (S.free hp) aU (((r.flat f).cut lo hi).same (bR hp _) λ_ z=>z)) q3⟩
 |scr h=>
  cases e
  exact .inl ⟨_,_,rfl,h.sqL,λp hp=>k _ _ _ .fr (S.trans (bR hp _)) (.lst (S.free hp) aU (((Reps.intz _).cut lo hi).same (bR hp _) λ_ z=>z)) q3⟩
 |fL h r=>
  cases e
  exact .inl ⟨_,_,rfl,.inl (.inr ⟨_,h⟩),λp hp=>k _ _ _ .fr (S.trans (bR hp _)) (.lst (S.free hp) aU (((r.flat f).cut lo hi).same (bR hp _) λ_ z=>z)) q3⟩
 |_=>cases e
structure Df (P:Program)(w:World)(K:ac)(mg:Str->Option Value)(base:Heap)(k:Nat)(x:Str)(ps:List Str)(p:cK):Prop where
 ex:∃f fd,bQ P w K mg base eB k f fd ps (oI K p)/\dJ K fd ps []/\PySem.W.keepIn K (.ref f)=true/\mg x=some (.ref f)
theorem bY {k j:Nat}{x:Str}{ps:List Str}{p:cK}(d:Df X.prog X.w X.K X.mg X.base k x ps p)(hr:bD j X.A)(ha:QA X (e::es) tr)(hkj:k<=j:=by decide)(hg:Gl X x:=by rfl)(hdb:(x==("__debug__":Str))=false:=by decide)(he:starEach (e::es) X.env=(false,eval e X.env)::starEach es X.env:=by rfl)(hpl:(backTo pos (starEach es X.env)).any (·.1)=false:=by rfl):QE X (.Call (.Name x p2) (e::es) [] pos) (aO p tr):=by
 obtain⟨f,fd,F,b,kp,m⟩:=d.ex
 exact cA (qX F (hr.mono hkj) hg m kp b .nil av7 ha hdb he hpl) λ_ _ _=>aC2
theorem sG {K:ac}{H:Hp}{N:List Str}{vs:List V}{xs:List PV}(r:Reps K (λ_=>True) H vs xs):PX K H (λ_=>False) (L2.eV N vs) (eY N xs) H:=by
 have lr:=r.length
 have own:∀{i:Nat}{m:Slot},(eY N xs)[i]? = some (some m)->∃x,xs[i]? = some x/\m = .sh (flat x) x:=λ{i m} h=>by
  unfold eY at h
  by_cases hi:i<xs.length
  ·rw[br8 (by simpa using hi),bm7]at h
   rw[bk8 hi]at h ⊢
   cases h
   exact⟨_,rfl,rfl⟩
  ·rw[bu6 (by simpa using hi),List.getElem?_replicate]at h
   split at h<;>cases h
 refine⟨by unfold L2.eV eY;simp[lr],aB.refl _,λa z=>z.elim,λi m h=>?_,λi j x y a h1=>?_⟩
 ·obtain⟨x,hx,rfl⟩:=own h
  obtain⟨v,hv,rx⟩:=r.at hx
  refine⟨v,?_,oK (g:=false) (rx.same (aB.refl _) λ_ _ z=>z)⟩
  have hi:i<vs.length:=(bl7.mp hv).1
  unfold L2.eV
  rw[br8 (by simpa using hi),bm7,hv];rfl
 ·obtain⟨x,_,e⟩:=own h1
  cases e
theorem Df.of {P:Program}{w:World}{K:ac}{mg:Str->Option Value}{base:Heap}{k:Nat}{x:Str}{ps N:List Str}{p:cK}{st:Stmt}{f:Addr}{fd:FuncData}(F:cP K x x st f fd)(m:mg x=some (.ref f))(S:FnScope N ps (aN st))(hb:∀(kV doc pm:Value) (an:Option Addr) (cdv ct:Value) (us:List Value),us.length=ps.length->bindArgs (PySem.W.fnOf x x (e9 st) (cI st) (aN st) .none kV doc pm an cdv ct) ⟨us,[]⟩=pure (ps.zip us))(len:∀xs Q,p xs Q->xs.length=ps.length)(body:∀(cdv:Value) (A:Around) (outer:List Env) (s:Shared) (H:Hp) (E:XK),bD k (A.deeper (envOfC x (aN st) s.heap.objs.size f cdv))->
   ∃t,eZ (cC eB P w K mg base N x (aN st) f cdv A outer s H E).nox (cI st) t/\∀xs Q,p xs Q->t { nx:=λ_=>Q .non,rt:=Q } (eY N xs)):Df P w K mg base (k+1) x ps p:=by
 refine⟨f,fd,F.ok S (λvs H Q E h=>?_) (λcdv A outer s H vs Q E hr h=>?_),F.binds hb,F.kp,m⟩
 ·obtain⟨xs,Qp,r,q,_⟩:=h
  rw[r.length];exact len xs Qp q
 ·obtain⟨xs,Qp,r,q,k⟩:=h
  obtain⟨t,ht,hq⟩:=body cdv A outer s H E hr
  refine⟨_,ht,λ_=>False,eY N xs,_,sG r,hq xs Qp q,?_,?_,?_,?_⟩
  ·exact λW' σ' H' ρ' e px q=>k _ _ _ px.same .non q
  ·exact λv H' x s r q=>k _ _ _ s r q
  ·exact λW' σ' H' ρ' e px q=>q
  ·exact λW' σ' H' ρ' e px q=>q
theorem jZ (i:Nat){x:Str}{tp:Pos}{body:List Stmt}{ti:fR}(hN:X.N.Nodup)(hi:QI X (.Name x tp) e ti)(hb:eZ X body t)(hx:X.N[i]? = some x:=by rfl)(hl:gJ X.env.scope x:=by first|exact Or.inl rfl|exact Or.inr rfl)(hf:X.fn x=true∨X.env.scope.names.lookup x=some .local:=by first|exact .inl rfl|exact .inr rfl)(hp:PassesOwn (model X.prog X.w) X.A X.env X.xe:=by exact PassesOwn.never)(hc:X.calm=true:=by rfl)(hs:∀x,foldedSetIterable e X.env x=pure x:=by intro _;rfl):QS X (.For (.Name x tp) e body [] pos) (gC ti (dO i) t):=
 R6 hp hc hi (gY hN hx hl hf) (xD _ i) hb hs
theorem aG5 (i j:Nat){x y:Str}{tp xp yp:Pos}{kt:Nat}{body:List Stmt}{ti:fR}(hN:X.N.Nodup)(hi:QI X (.Tuple [.Name x xp,.Name y yp] kt tp) e ti)(hb:eZ X body t)(hx:X.N[i]? = some x:=by rfl)(hy:X.N[j]? = some y:=by rfl)(hlx:gJ X.env.scope x:=by first|exact Or.inl rfl|exact Or.inr rfl)(hly:gJ X.env.scope y:=by first|exact Or.inl rfl|exact Or.inr rfl)(hfx:X.fn x=true∨X.env.scope.names.lookup x=some .local:=by first|exact .inl rfl|exact .inr rfl)(hfy:X.fn y=true∨X.env.scope.names.lookup y=some .local:=by first|exact .inl rfl|exact .inr rfl)(hp:PassesOwn (model X.prog X.w) X.A X.env X.xe:=by exact PassesOwn.never)(hc:X.calm=true:=by rfl)(hs:∀x,foldedSetIterable e X.env x=pure x:=by intro _;rfl):QS X (.For (.Tuple [.Name x xp,.Name y yp] kt tp) e body [] pos) (gC ti (xE i j) t):=
 R6 hp hc hi (qP hc (jM (gY hN hx hlx hfx) (jM (gY hN hy hly hfy) qN))) (aD0 _ i j) hb hs
abbrev iG:Value->Shared->Prop:=λ_ _=>False
section
variable {scope:Scope}{N:List Str}{fr:List (Option Nat)}{x y:Str}{tp xp yp:Pos}{kt:Nat}{iter elt:Expr}{ti:fR}
theorem S0 {ifs:List Expr}{tcs:cQ}(he:∀(s:Shared) (H:Hp) (C:Addr) (fp:List Addr),QE (dL X scope N s H C fp iG) elt te)(hi:∀(s:Shared) (H:Hp) (C:Addr) (fp:List Addr),kX (dL X scope N s H C fp iG) ifs (LT (dL X scope N s H C fp iG) tcs))(hN:N.Nodup)(h0:N[0]? = some x)(hl:∀(s:Shared) (H:Hp) (C:Addr) (fp:List Addr),(dL X scope N s H C fp iG).env.scope.names.lookup x=some .local)(s:Shared)(H:Hp) :
  rG X scope N (.Name x tp) ifs elt s H (fF 0) (LT (X.frm H) tcs) (LE (X.frm H) te):=
 ⟨λC fp=>gY (X:=dL X scope N s H C fp iG) hN h0 (.inl (hl s H C fp)) (.inr (hl s H C fp)),λC fp=>hi s H C fp,λC fp=>he s H C fp⟩
theorem aG6 {Y:Cx}:kX Y [] (LT Y mH):=λpins s σ H Q I h=>rF pins s σ H Q I (aD4 h)
theorem S3 (hi:QI X (.Name x tp) iter ti)(he:∀(s:Shared) (H:Hp) (C:Addr) (fp:List Addr),QE (dL X scope N s H C fp iG) elt te)(hc:X.calm=true:=by rfl)(S:eW X scope N fr:=by exact eW.of rfl rfl)(hN:N.Nodup:=by decide +kernel)(h0:N[0]? = some x:=by rfl)(hl:∀(s:Shared) (H:Hp) (C:Addr) (fp:List Addr),(dL X scope N s H C fp iG).env.scope.names.lookup x=some .local:=by intro _ _ _ _;rfl)(hf:fr[0]? = some none:=by rfl)(hs:∀x,foldedSetIterable iter X.env x=pure x:=by intro _;rfl):QE X (.ListComp elt [⟨.Name x tp,iter,[],0⟩] scope pos) (iZ ti fr (dO 0) mH te):=
 cA (L7 (gh:=λ_=>fF 0) (tch:=λH=>LT (X.frm H) mH) (teh:=λH=>LE (X.frm H) te) hc S hi (S0 he (λ_ _ _ _=>aG6) hN h0 hl) hs) λ_ _ _=>O8 (xD _ 0) (λi e=>by subst e;exact hf)
theorem sH {c:Expr}{tcs:cQ}(hi:QI X (.Name x tp) iter ti)(ht:∀(s:Shared) (H:Hp) (C:Addr) (fp:List Addr),QT (dL X scope N s H C fp iG) c tcs)(he:∀(s:Shared) (H:Hp) (C:Addr) (fp:List Addr),QE (dL X scope N s H C fp iG) elt te)(hc:X.calm=true:=by rfl)(S:eW X scope N fr:=by exact eW.of rfl rfl)(hN:N.Nodup:=by decide +kernel)(h0:N[0]? = some x:=by rfl)(hl:∀(s:Shared) (H:Hp) (C:Addr) (fp:List Addr),(dL X scope N s H C fp iG).env.scope.names.lookup x=some .local:=by intro _ _ _ _;rfl)(hf:fr[0]? = some none:=by rfl)(hs:∀x,foldedSetIterable iter X.env x=pure x:=by intro _;rfl):QE X (.ListComp elt [⟨.Name x tp,iter,[c],0⟩] scope pos) (iZ ti fr (dO 0) tcs te):=
 cA (L7 (gh:=λ_=>fF 0) (tch:=λH=>LT (X.frm H) tcs) (teh:=λH=>LE (X.frm H) te) hc S hi (S0 he (λs H C fp=>aw1 (ht s H C fp)) hN h0 hl) hs) λ_ _ _=>O8 (xD _ 0) (λi e=>by subst e;exact hf)
end
theorem aG7 (i:Nat){x:Str}{apos cpos xpos:Pos}(he:QE X e te)(hm:M1 X (.Name x xpos) "update" apos e cpos:=by exact⟨rfl,rfl,rfl,rfl⟩)(hN:X.N[i]? = some x:=by rfl)(hv:cS X.env.scope x:=by first|exact Or.inl rfl|exact Or.inr (Or.inl rfl)|exact Or.inr (Or.inr rfl))(hd:(x==("__debug__":Str))=false:=by decide)(hcd:(x==("__classdict__":Str))=false:=by decide)(hsw:swapsWith (.Call (.Attribute (.Name x xpos) "update" apos) [e] [] cpos) none pos.line X.env=pure false:=by rfl):QS X (.Expr (.Call (.Attribute (.Name x xpos) "update" apos) [e] [] cpos) pos) (xJ i te):=
 d6 (lW (az3 (dC hN hv hd hcd) he hm) hsw) λ_ _ _=>aE1
end
end PP
namespace SO
open PySem PyProof.Rows
section
variable (rk:Keyed→Int)
def Kr (xs:Array Keyed)(i:Nat):Int:=((xs[i]?).map rk).getD 0
def Up (xs:Array Keyed)(lo hi:Nat):Prop:=∀i j,lo<=i->i<=j->j<hi->Kr rk xs i<=Kr rk xs j
def Dn (xs:Array Keyed)(lo hi:Nat):Prop:=∀i j,lo<=i->i<=j->j<hi->Kr rk xs j<=Kr rk xs i
end
variable {rk:Keyed→Int}
theorem lG {xs ys:Array Keyed}{i j:Nat}(h:xs[i]? = ys[j]?):Kr rk xs i=Kr rk ys j:=by unfold Kr;rw[h]
theorem sI {xs:Array Keyed}{i j:Nat}(hj:j<=xs.size)(k:Nat):Kr rk (mirror xs i j ((j-i)/2)) k=Kr rk xs (if i<=k/\k<j then i+j-1-k else k):=by
 refine lG ?_
 rw[getElem?_mirror_all hj]
 split<;>rfl
theorem xS {xs:Array Keyed}{i j:Nat}(hj:j<=xs.size)(e:∀k,i<=k->k<j->Kr rk xs k=Kr rk xs (j-1))(k:Nat):Kr rk (mirror xs i j ((j-i)/2)) k=Kr rk xs k:=by
 rw[sI hj]
 split
 ·rename_i h;rw[e k h.1 h.2,e _ (by omega) (by omega)]
 ·rfl
theorem aG8 {xs:Array Keyed}{src d:Nat}(hs:src<xs.size)(hd:d<=src)(k:Nat):Kr rk (bubble xs src d) k=Kr rk xs (if k=src-d then src else if src-d<k/\k<=src then k-1 else k):=by
 refine lG ?_
 rw[getElem?_bubble hs d hd]
 repeat' split
 all_goals rfl
structure SB (κ:SortKind)(a0:Array Keyed)(pd:Array (Nat×Nat×Nat))(st:SortSt):Prop where
 pm:(arrOf st).Perm a0
 kd:kindOf st=κ
 ok:failedOf st=none
 pd:pendingOf st=pd
section
variable {κ:SortKind}{a0:Array Keyed}{pd:Array (Nat×Nat×Nat)}{st:SortSt}{prog:Program}{w:World}{A:Around}{E:Value→Shared→Prop}{s:Shared}{Ok:Keyed→Prop}
theorem SB.sz (h:SB κ a0 pd st):(arrOf st).size=a0.size:=h.pm.size_eq
theorem SB.put (h:SB κ a0 pd st){xs:Array Keyed}(hp:xs.Perm (arrOf st)):SB κ a0 pd (setArr st xs):=⟨hp.trans h.pm,h.kd,h.ok,h.pd⟩
def cR (prog:Program)(w:World)(A:Around)(E:Value->Shared->Prop)(s:Shared)(κ:SortKind)(Ok:Keyed->Prop)(rk:Keyed->Int):Prop:=
 ∀(x y:Keyed),Ok x->Ok y->∀(st:SortSt) (Q:Option Bool->SortSt->Prop),kindOf st=κ->Q (some (decide (rk x<rk y))) st->wpS (model prog w) A E s (lt' x y) Q st
def bL (Ok:Keyed->Prop)(xs:Array Keyed):Prop:=∀x∈xs,Ok x
theorem SB.all (h:SB κ a0 pd st)(o:bL Ok a0):bL Ok (arrOf st):=λx hx=>o x (h.pm.mem_iff.mp hx)
theorem d7 {xs:Array Keyed}{i:Nat}{Q:Keyed->SortSt->Prop}(hi:i<xs.size)(h:Q xs[i] st):wpS (model prog w) A E s (elem' xs i) Q st:=by
 rw[elem'_eq,getElem?_pos xs i hi];exact bm4 h
theorem cB {xs:Array Keyed}{i:Nat}(hi:i<xs.size):Kr rk xs i=rk xs[i]:=by unfold Kr;rw[getElem?_pos xs i hi];rfl
theorem oY (c:cR prog w A E s κ Ok rk)(o:bL Ok a0)(b:SB κ a0 pd st){i j:Nat}{Q:Option Bool->SortSt->Prop}(hi:i<a0.size)(hj:j<a0.size)(h:Q (some (decide (Kr rk (arrOf st) i<Kr rk (arrOf st) j))) st):wpS (model prog w) A E s (ltAt' i j) Q st:=by
 have hi':i<(arrOf st).size:=by rw[b.sz];exact hi
 have hj':j<(arrOf st).size:=by rw[b.sz];exact hj
 rw[ltAt'_eq]
 refine bl5 (wpS_get (bl5 (d7 hi' (bl5 (d7 hj' ?_)))))
 refine c _ _ (b.all o _ (bp2 hi')) (b.all o _ (bp2 hj')) st Q b.kd ?_
 rw[<- cB (rk:=rk) hi',<- cB (rk:=rk) hj'];exact h
theorem sJ {i j:Nat}{Q:Unit->SortSt->Prop}(h:Q () (setArr st (mirror (arrOf st) i j ((j-i)/2)))):wpS (model prog w) A E s (reverseSlice' i j) Q st:=by
 rw[reverseSlice'_eq];exact wpS_modify h
abbrev CS:=Option (Option Nat)×Nat
abbrev DS:=Option (Option Nat)×Nat×Nat
def oZ (lo b nrem:Nat):StateT SortSt Sem CS:=forIn [b:nrem] ((none,b):CS) λ_ r=>do
 match <- ltAt' (lo+r.2) (lo+r.2-1) with
 |some q=>if q=true then pure (ForInStep.done (none,r.2)) else pure (ForInStep.yield (none,r.2+1))
 |_=>pure (ForInStep.done (some none,r.2))
def xT (lo b nrem:Nat):StateT SortSt Sem DS:=forIn [b:nrem] ((none,b,0):DS) λ_ r=>do
 match <- ltAt' (lo+r.2.1) (lo+r.2.1-1) with
 |some q=>
  if q=true then (if r.2.2>0 then do reverseSlice' (lo+r.2.1-(r.2.2+1)) (lo+r.2.1);pure (ForInStep.yield (none,r.2.1+1,0)) else pure (ForInStep.yield (none,r.2.1+1,0)))
  else do
   match <- ltAt' (lo+r.2.1-1) (lo+r.2.1) with
   |some q=>if q=true then pure (ForInStep.done (none,r.2.1,r.2.2)) else pure (ForInStep.yield (none,r.2.1+1,r.2.2+1))
   |_=>pure (ForInStep.done (some none,r.2.1,r.2.2))
 |_=>pure (ForInStep.done (some none,r.2.1,r.2.2))
theorem S4 (c:cR prog w A E s κ Ok rk)(o:bL Ok a0)(b:SB κ a0 pd st){lo n nrem:Nat}{Q:CS->SortSt->Prop}(hz:lo+nrem<=a0.size)(h1:1<=n)(hn:n<=nrem)(u:Up rk (arrOf st) lo (lo+n))(h:∀m,n<=m->m<=nrem->Up rk (arrOf st) lo (lo+m)->(m=nrem∨Kr rk (arrOf st) (lo+m)<Kr rk (arrOf st) (lo+m-1))->Q (none,m) st):wpS (model prog w) A E s (oZ lo n nrem) Q st:=by
 unfold oZ
 refine bs1 (I:=λx r st'=>st'=st/\r=(none,x)/\Up rk (arrOf st) lo (lo+x)) ?_ ?_ ⟨rfl,rfl,u⟩
 ·rintro x r st' hx hx' ⟨rfl,rfl,u'⟩
  refine bl5 (oY c o b (by omega) (by omega) ?_)
  by_cases hq:Kr rk (arrOf st') (lo+x)<Kr rk (arrOf st') (lo+x-1)
  ·rw[bn0 hq]
   exact bm4 (h x hx (by omega) u' (.inr hq))
  ·rw[bm3 hq]
   refine bm4 ⟨rfl,rfl,λi j hi hij hj=>?_⟩
   rcases bq3 j (lo+x) with z|z
   ·exact u' i j hi hij z
   ·have ej:j=lo+x:=by omega
    subst ej
    rcases by0 hij with z|z
    ·rw[z];exact bt1 _
    ·have:=u' i (lo+x-1) hi (by omega) (by omega)
     omega
 ·rintro r st' ⟨rfl,rfl,u'⟩
  have em:max n nrem=nrem:=by omega
  rw[em]at u' ⊢
  exact h nrem hn (bk9 _) u' (.inl rfl)
structure p6 (rk:Keyed->Int)(xs ys:Array Keyed)(lo m q:Nat):Prop where
 dn:Dn rk ys lo (lo+m)
 le:q+1<=m
 eq:∀i,lo+m-(q+1)<=i->i<lo+m->Kr rk ys i=Kr rk ys (lo+m-1)
 low:∀i,i<lo->Kr rk ys i=Kr rk xs i
theorem aG9 (c:cR prog w A E s κ Ok rk)(o:bL Ok a0)(b:SB κ a0 pd st){lo n nrem:Nat}{xs:Array Keyed}{Q:DS->SortSt->Prop}(hz:lo+nrem<=a0.size)(h1:1<=n)(hn:n<=nrem)(u:p6 rk xs (arrOf st) lo n 0)(h:∀m q st',SB κ a0 pd st'->n<=m->m<=nrem->p6 rk xs (arrOf st') lo m q->Q (none,m,q) st'):wpS (model prog w) A E s (xT lo n nrem) Q st:=by
 unfold xT
 refine bs1 (I:=λx r st'=>∃q,r=(none,x,q)/\SB κ a0 pd st'/\p6 rk xs (arrOf st') lo x q) ?_ ?_ ⟨0,rfl,b,u⟩
 ·rintro x r st' hx hx' ⟨q,rfl,b',f⟩
  have sz:=b'.sz
  dsimp only
  refine bl5 (oY c o b' (by omega) (by omega) ?_)
  by_cases hq:Kr rk (arrOf st') (lo+x)<Kr rk (arrOf st') (lo+x-1)
  ·rw[bn0 hq]
   have nx:∀ys:Array Keyed,(∀k,Kr rk ys k=Kr rk (arrOf st') k)->p6 rk xs ys lo (x+1) 0:=λys e=>by
    refine⟨λi j hi hij hj=>?_,by omega,λi h1 h2=>by rw[show i=lo+(x+1)-1 by omega],λi hi=>(e i).trans (f.low i hi)⟩
    rw[e,e]
    rcases bq3 j (lo+x) with z|z
    ·exact f.dn i j hi hij z
    ·have ej:j=lo+x:=by omega
     subst ej
     rcases by0 hij with z|z
     ·rw[z];exact bt1 _
     ·have:=f.dn i (lo+x-1) hi (by omega) (by omega)
      omega
   dsimp only
   rw[if_pos rfl]
   by_cases hp:q>0
   ·rw[if_pos hp]
    exact bl5 (sJ (bm4 ⟨0,rfl,b'.put (mirror_perm _ _ _ _),nx _ (xS (by omega) f.eq)⟩))
   ·rw[if_neg hp]
    exact bm4 ⟨0,rfl,b',nx _ λ_=>rfl⟩
  ·rw[bm3 hq]
   dsimp only
   rw[if_neg bm6]
   refine bl5 (oY c o b' (by omega) (by omega) ?_)
   by_cases hl:Kr rk (arrOf st') (lo+x-1)<Kr rk (arrOf st') (lo+x)
   ·rw[bn0 hl]
    exact bm4 (h x q st' b' hx (by omega) f)
   ·rw[bm3 hl]
    have ex:Kr rk (arrOf st') (lo+x)=Kr rk (arrOf st') (lo+x-1):=by omega
    refine bm4 ⟨q+1,rfl,b',λi j hi hij hj=>?_,by have:=f.le;omega,λi h1 h2=>?_,f.low⟩
    ·rcases bq3 j (lo+x) with z|z
     ·exact f.dn i j hi hij z
     ·have ej:j=lo+x:=by omega
      subst ej
      rcases by0 hij with z|z
      ·rw[z];exact bt1 _
      ·rw[ex];exact f.dn i (lo+x-1) hi (by omega) (by omega)
    ·rw[show lo+(x+1)-1=lo+x by omega]
     rcases bq3 i (lo+x) with z|z
     ·rw[ex];exact f.eq i (by omega) z
     ·rw[show i=lo+x by omega]
 ·rintro r st' ⟨q,rfl,b',f⟩
  have em:max n nrem=nrem:=by omega
  rw[em]at f ⊢
  exact h nrem q st' b' hn (bk9 _) f
theorem S5 (c:cR prog w A E s κ Ok rk)(o:bL Ok a0)(b:SB κ a0 pd st){lo nrem:Nat}(n:Nat){xs:Array Keyed}{Q:Option Nat->SortSt->Prop}{K:DS->StateT SortSt Sem (Option Nat)}{k:CS->StateT SortSt Sem (Option Nat)}(hz:lo+nrem<=a0.size)(hn:n+1<=nrem)(hK:∀m q,K (none,m,q)=if q>0 then reverseSlice' (lo+m-(q+1)) (lo+m) >>= λ_=>reverseSlice' lo (lo+m) >>= λ_=>oZ lo m nrem >>= k else reverseSlice' lo (lo+m) >>= λ_=>oZ lo m nrem >>= k)(hk:∀m,k (none,m)=pure (some m))(u:p6 rk xs (arrOf st) lo (n+1) 0)(h:∀m st',SB κ a0 pd st'->1<=m->m<=nrem->Up rk (arrOf st') lo (lo+m)->(∀i,i<lo->Kr rk (arrOf st') i=Kr rk xs i)->Q (some m) st'):wpS (model prog w) A E s (liftM (rule "list.sort.descending-run") >>= λ_=>xT lo (n+1) nrem >>= K) Q st:=by
 refine bl5 (wpS_lift (bz4 ⟨rfl,?_⟩))
 refine bl5 (aG9 c o b hz (by omega) hn u λm q st1 b1 m1 m2 f=>?_)
 have fin:∀st2:SortSt,SB κ a0 pd st2->(∀k,Kr rk (arrOf st2) k=Kr rk (arrOf st1) k)->
   wpS (model prog w) A E s (reverseSlice' lo (lo+m) >>= λ_=>oZ lo m nrem >>= k) Q st2:=λst2 b2 e=>by
  have sz:=b2.sz
  have low:∀i,i<lo->Kr rk (mirror (arrOf st2) lo (lo+m) ((lo+m-lo)/2)) i=Kr rk xs i:=λi hi=>by
   rw[sI (by omega),if_neg (by omega),e]
   exact f.low i hi
  refine bl5 (sJ (bl5 (S4 (κ:=κ) c o (b2.put (mirror_perm _ _ _ _)) hz (by omega) m2 ?_ λm' h1 h2 up _=>by rw[hk];exact bm4 (h m' _ (b2.put (mirror_perm _ _ _ _)) (by omega) h2 up low))))
  ·intro i j hi hij hj
   show Kr rk (mirror (arrOf st2) lo (lo+m) _) i<=Kr rk (mirror (arrOf st2) lo (lo+m) _) j
   rw[sI (by omega),sI (by omega),if_pos (by omega),if_pos (by omega),e,e]
   exact f.dn _ _ (by omega) (by omega) (by omega)
 rw[hK]
 by_cases hp:q>0
 ·rw[if_pos hp]
  have sz:=b1.sz
  exact bl5 (sJ (fin _ (b1.put (mirror_perm _ _ _ _)) (xS (by omega) f.eq)))
 ·rw[if_neg hp]
  exact fin st1 b1 λ_=>rfl
theorem aH0 (c:cR prog w A E s κ Ok rk)(o:bL Ok a0)(b:SB κ a0 pd st){lo nrem:Nat}{Q:Option Nat->SortSt->Prop}(hz:lo+nrem<=a0.size)(h1:1<=nrem)(h:∀m st',SB κ a0 pd st'->1<=m->m<=nrem->Up rk (arrOf st') lo (lo+m)->(∀i,i<lo->Kr rk (arrOf st') i=Kr rk (arrOf st) i)->Q (some m) st'):wpS (model prog w) A E s (countRun' lo nrem) Q st:=by
 rw[countRun'_eq]
 refine bl5 (S4 (n:=1) c o b hz (bk9 _) h1 (λi j hi hij hj=>by rw[show i=j by omega];exact bt1 _) λn n1 n2 un on=>?_)
 dsimp only
 by_cases en:(n==nrem)=true
 ·rw[if_pos en]
  exact bm4 (h n st b n1 n2 un λ_ _=>rfl)
 ·rw[if_neg en]
  have en':n≠nrem:=by simpa using en
  have lt:=on.resolve_left en'
  have sz:=b.sz
  by_cases g:n>1
  ·rw[if_pos g]
   refine bl5 (oY c o b (by omega) (by omega) ?_)
   by_cases hq:Kr rk (arrOf st) lo<Kr rk (arrOf st) (lo+n-1)
   ·rw[bn0 hq]
    exact bm4 (h n st b n1 n2 un λ_ _=>rfl)
   ·rw[bm3 hq]
    dsimp only
    rw[if_neg bm6]
    have all:∀k,lo<=k->k<lo+n->Kr rk (arrOf st) k=Kr rk (arrOf st) (lo+n-1):=λk k1 k2=>by
     have a1:=un lo k (bk9 _) k1 k2
     have a2:=un k (lo+n-1) k1 (by omega) (by omega)
     omega
    have sm:=xS (rk:=rk) (xs:=arrOf st) (i:=lo) (j:=lo+n) (by omega) all
    refine bl5 (sJ (S5 (xs:=arrOf st) (κ:=κ) c o (b.put (mirror_perm _ _ _ _)) n hz (by omega) (λ_ _=>rfl) (λ_=>rfl) ⟨λi j hi hij hj=>?_,by omega,λi h1 h2=>by rw[show i=lo+(n+1)-1 by omega],λi _=>sm i⟩ h))
    show Kr rk (mirror (arrOf st) lo (lo+n) _) j<=Kr rk (mirror (arrOf st) lo (lo+n) _) i
    rw[sm,sm]
    rcases bq3 j (lo+n) with z|z
    ·rw[all i hi (by omega),all j (by omega) z];exact bt1 _
    ·have ej:j=lo+n:=by omega
     subst ej
     rcases by0 hij with z|z
     ·rw[z];exact bt1 _
     ·rw[all i hi (by omega)];exact Int.le_of_lt lt
  ·rw[if_neg g]
   have e1:n=1:=by omega
   subst e1
   refine S5 (xs:=arrOf st) c o b 1 hz (by omega) (λ_ _=>rfl) (λ_=>rfl) ⟨λi j hi hij hj=>?_,by omega,λi h1 h2=>by rw[show i=lo+(1+1)-1 by omega],λi _=>rfl⟩ h
   rcases by0 hij with z|z
   ·rw[z];exact bt1 _
   ·have ei:i=lo+1-1:=by omega
    have ej:j=lo+1:=by omega
    rw[ei,ej];exact Int.le_of_lt lt
theorem aH1 (c:cR prog w A E s κ Ok rk)(o:bL Ok a0)(b:SB κ a0 pd st){lo n q:Nat}{Q:Bool->SortSt->Prop}(hz:lo+n<=a0.size)(hq:q<=n)(u:Up rk (arrOf st) lo (lo+q))(h:∀st',SB κ a0 pd st'->Up rk (arrOf st') lo (lo+n)->(∀i,i<lo->Kr rk (arrOf st') i=Kr rk (arrOf st) i)->Q true st'):wpS (model prog w) A E s (binarySort' lo n q) Q st:=by
 rw[binarySort'_eq]
 refine bl5 (by9 (bs1 (I:=λk r st'=>r=(none,())/\SB κ a0 pd st'/\Up rk (arrOf st') lo (lo+min k n)/\∀i,i<lo->Kr rk (arrOf st') i=Kr rk (arrOf st) i)
  (Q:=λr st'=>r=(none,())/\SB κ a0 pd st'/\Up rk (arrOf st') lo (lo+n)/\∀i,i<lo->Kr rk (arrOf st') i=Kr rk (arrOf st) i) ?_ ?_ ?_) ?_)
 ·rintro k r st1 hk hkn ⟨rfl,b1,u1,l1⟩
  rw[show min k n=k by omega]at u1
  have hk0:lo+k<a0.size:=by omega
  have sz:=b1.sz
  refine bl5 (by9 (bs1 (I:=λx r st'=>st'=st1/\∃l g,r=(none,l,g)/\l<=g/\g<=k/\g-l<=k-x/\(∀i,i<l->Kr rk (arrOf st1) (lo+i)<=Kr rk (arrOf st1) (lo+k))/\∀i,g<=i->i<k->Kr rk (arrOf st1) (lo+k)<Kr rk (arrOf st1) (lo+i))
   (Q:=λr st'=>st'=st1/\∃l g,r=(none,l,g)/\l<=k/\(∀i,i<l->Kr rk (arrOf st1) (lo+i)<=Kr rk (arrOf st1) (lo+k))/\∀i,l<=i->i<k->Kr rk (arrOf st1) (lo+k)<Kr rk (arrOf st1) (lo+i)) ?_ ?_ ?_) ?_)
  ·rintro x r st2 _ hx ⟨rfl,l,g,rfl,d1,d2,d3,f1,f2⟩
   dsimp only
   by_cases hlg:l >= g
   ·rw[if_pos hlg]
    have e:g=l:=by omega
    subst e
    exact bm4 ⟨rfl,g,g,rfl,d2,f1,f2⟩
   ·rw[if_neg hlg]
    refine bl5 (oY c o b1 hk0 (by omega) ?_)
    by_cases hc:Kr rk (arrOf st2) (lo+k)<Kr rk (arrOf st2) (lo+(l+g)/2)
    ·rw[bn0 hc]
     refine bm4 ⟨rfl,l,(l+g)/2,rfl,by omega,by omega,by omega,f1,λi i1 i2=>?_⟩
     have:=u1 (lo+(l+g)/2) (lo+i) (by omega) (by omega) (by omega)
     omega
    ·rw[bm3 hc]
     refine bm4 ⟨rfl,(l+g)/2+1,g,rfl,by omega,d2,by omega,λi i1=>?_,f2⟩
     have:=u1 (lo+i) (lo+(l+g)/2) (by omega) (by omega) (by omega)
     omega
  ·rintro r st2 ⟨rfl,l,g,rfl,d1,d2,d3,f1,f2⟩
   have e:g=l:=by omega
   subst e
   exact⟨rfl,g,g,rfl,d2,f1,f2⟩
  ·exact⟨rfl,0,k,rfl,by omega,by omega,by omega,λi hi=>absurd hi (by omega),λi i1 i2=>absurd i1 (by omega)⟩
  ·rintro r st2 ⟨rfl,l,g,rfl,d,f1,f2⟩
   dsimp only
   rw[moveDown'_eq]
   have kb:∀i,Kr rk (bubble (arrOf st2) (lo+k) (lo+k-(lo+l))) i=Kr rk (arrOf st2) (if i=lo+l then lo+k else if lo+l<i/\i<=lo+k then i-1 else i):=λi=>by
    rw[aG8 (by omega) (by omega),show lo+k-(lo+k-(lo+l))=lo+l by omega]
   refine bl5 (wpS_modify (bm4 ⟨rfl,b1.put (bubble_perm _ _ _),λi j hi hij hj=>?_,λi hi=>?_⟩))
   ·show Kr rk (bubble (arrOf st2) (lo+k) (lo+k-(lo+l))) i<=Kr rk (bubble (arrOf st2) (lo+k) (lo+k-(lo+l))) j
    rw[kb,kb]
    rw[show min (k+1) n=k+1 by omega]at hj
    have v1:∀p,lo<=p->p<lo+l->Kr rk (arrOf st2) p<=Kr rk (arrOf st2) (lo+k):=λp p1 p2=>by have:=f1 (p-lo) (by omega);rwa [show lo+(p-lo)=p by omega]at this
    have v2:∀p,lo+l<=p->p<lo+k->Kr rk (arrOf st2) (lo+k)<Kr rk (arrOf st2) p:=λp p1 p2=>by have:=f2 (p-lo) (by omega) (by omega);rwa [show lo+(p-lo)=p by omega]at this
    repeat' split
    all_goals first
     |(exfalso;omega)
     |exact bt1 _
     |exact v1 _ (by omega) (by omega)
     |exact Int.le_of_lt (v2 _ (by omega) (by omega))
     |exact u1 _ _ (by omega) (by omega) (by omega)
   ·show Kr rk (bubble (arrOf st2) (lo+k) (lo+k-(lo+l))) i=_
    rw[kb,if_neg (by omega),if_neg (by omega)]
    exact l1 i hi
 ·rintro r st1 ⟨rfl,b1,u1,l1⟩
  rw[show min (max (max q 1) n) n=n by omega]at u1
  exact⟨rfl,b1,u1,l1⟩
 ·refine⟨rfl,b,λi j hi hij hj=>?_,λ_ _=>rfl⟩
  rcases bq3 j (lo+q) with z|z
  ·exact u i j hi hij z
  ·rw[show i=j by omega];exact bt1 _
 ·rintro r st1 ⟨rfl,b1,u1,l1⟩
  exact bm4 (h st1 b1 u1 l1)
end
def k4:Bool->Keyed->Array Keyed->Nat->Nat->Nat->StateT SortSt Sem (Option Nat):=sortPriv% PySem.Builtin.gallop
def lH (lf:Bool)(key:Keyed)(xs:Array Keyed)(bs i:Nat):StateT SortSt Sem (Option Bool):=do
 let z <- elem' xs (bs+i)
 if lf then lt' z key else return (<- lt' key z).map (!·)
theorem aH2 (lf:Bool)(key:Keyed)(xs:Array Keyed)(bs n h:Nat):k4 lf key xs bs n h=(do
 let mut la:=0
 let mut of:=1
 let mut l:=0
 let mut g:=0
 let some rt <- lH lf key xs bs h|return none
 if rt then
  let mx:=n-h
  for _ in [0:n] do
   if of >= mx then break
   let some mr <- lH lf key xs bs (h+of)|return none
   if !mr then break
   la:=of
   of:=2*of+1
  l:=h+la+1
  g:=h+min of mx
 else
  let mx:=h+1
  for _ in [0:n] do
   if of >= mx then break
   let some fd <- lH lf key xs bs (h-of)|return none
   if fd then break
   la:=of
   of:=2*of+1
  l:=h+1-min of mx
  g:=h-la
 for _ in [0:n] do
  if l >= g then break
  let m:=l+(g-l)/2
  let some mr <- lH lf key xs bs m|return none
  if mr then l:=m+1 else g:=m
 return some g):=rfl
section
variable {rk:Keyed→Int}{κ:SortKind}{st:SortSt}{prog:Program}{w:World}{A:Around}{E:Value→Shared→Prop}{s:Shared}{Ok:Keyed→Prop}
def c9 (rk:Keyed->Int)(lf:Bool)(key:Keyed)(xs:Array Keyed)(bs i:Nat):Bool:=if lf then decide (Kr rk xs (bs+i)<rk key) else decide (Kr rk xs (bs+i)<=rk key)
theorem sK (c:cR prog w A E s κ Ok rk)(hk:kindOf st=κ){lf:Bool}{key:Keyed}{xs:Array Keyed}{bs i:Nat}{Q:Option Bool->SortSt->Prop}(ok:Ok key)(o:bL Ok xs)(hi:bs+i<xs.size)(h:Q (some (c9 rk lf key xs bs i)) st):wpS (model prog w) A E s (lH lf key xs bs i) Q st:=by
 unfold lH
 refine bl5 (d7 hi ?_)
 unfold c9 at h
 rw[cB hi]at h
 cases lf with
 |true=>
  simp only[if_true]at h ⊢
  exact c _ _ (o _ (bp2 hi)) ok st Q hk h
 |false=>
  simp only[bn5,bs8]at h ⊢
  refine bl5 (c _ _ ok (o _ (bp2 hi)) st _ hk (bm4 ?_))
  have e:(!decide (rk key<rk xs[bs+i]))=decide (rk xs[bs+i]<=rk key):=by
   by_cases z:rk xs[bs+i]<=rk key
   ·rw[bn0 z,bm3 (by omega)];rfl
   ·rw[bm3 z,bn0 (by omega)];rfl
  show Q (some (!decide (rk key<rk xs[bs+i]))) st
  rw[e];exact h
abbrev GS:=Option (Option Nat)×Nat×Nat
def S6 (lf:Bool)(key:Keyed)(xs:Array Keyed)(bs n l g:Nat):StateT SortSt Sem GS:=forIn [0:n] ((none,l,g):GS) λ_ r=>
 if r.2.1 >= r.2.2 then pure (ForInStep.done (none,r.2.1,r.2.2)) else do
  match <- lH lf key xs bs (r.2.1+(r.2.2-r.2.1)/2) with
  |some q=>if q=true then pure (ForInStep.yield (none,r.2.1+(r.2.2-r.2.1)/2+1,r.2.2)) else pure (ForInStep.yield (none,r.2.1,r.2.1+(r.2.2-r.2.1)/2))
  |_=>pure (ForInStep.done (some none,r.2.1,r.2.2))
theorem S7 (c:cR prog w A E s κ Ok rk)(hk:kindOf st=κ){lf:Bool}{key:Keyed}{xs:Array Keyed}{bs n l g:Nat}{Q:GS->SortSt->Prop}(ok:Ok key)(o:bL Ok xs)(hz:bs+n<=xs.size)(mono:∀i j,i<=j->j<n->c9 rk lf key xs bs j=true->c9 rk lf key xs bs i=true)(hlg:l<=g)(hg:g<=n)(h1:∀i,i<l->c9 rk lf key xs bs i=true)(h2:∀i,g<=i->i<n->c9 rk lf key xs bs i=false)(hq:∀k,k<=n->(∀i,i<k->c9 rk lf key xs bs i=true)->(∀i,k<=i->i<n->c9 rk lf key xs bs i=false)->Q (none,k,k) st):wpS (model prog w) A E s (S6 lf key xs bs n l g) Q st:=by
 unfold S6
 refine bs1 (I:=λx r st'=>st'=st/\∃l g,r=(none,l,g)/\l<=g/\g<=n/\g-l<=n-x/\(∀i,i<l->c9 rk lf key xs bs i=true)/\∀i,g<=i->i<n->c9 rk lf key xs bs i=false) ?_ ?_ ⟨rfl,l,g,rfl,hlg,hg,by omega,h1,h2⟩
 ·rintro x r st' _ hx ⟨rfl,l,g,rfl,d1,d2,d3,f1,f2⟩
  dsimp only
  by_cases hc:l >= g
  ·rw[if_pos hc]
   have e:g=l:=by omega
   subst e
   exact bm4 (hq g d2 f1 f2)
  ·rw[if_neg hc]
   refine bl5 (sK c hk ok o (by omega) ?_)
   cases z:c9 rk lf key xs bs (l+(g-l)/2) with
   |true=>exact bm4 ⟨rfl,_,_,rfl,by omega,d2,by omega,λi hi=>mono i (l+(g-l)/2) (by omega) (by omega) z,f2⟩
   |false=>
    refine bm4 ⟨rfl,_,_,rfl,by omega,by omega,by omega,f1,λi i1 i2=>?_⟩
    cases y:c9 rk lf key xs bs i with
    |false=>rfl
    |true=>rw[mono _ i i1 i2 y]at z;cases z
 ·rintro r st' ⟨rfl,l,g,rfl,d1,d2,d3,f1,f2⟩
  have e:g=l:=by omega
  subst e
  exact hq g d2 f1 f2
theorem mT (c:cR prog w A E s κ Ok rk)(hk:kindOf st=κ){lf:Bool}{key:Keyed}{xs:Array Keyed}{bs n h:Nat}{Q:Option Nat->SortSt->Prop}(ok:Ok key)(o:bL Ok xs)(hh:h<n)(hz:bs+n<=xs.size)(u:Up rk xs bs (bs+n))(hq:∀k,k<=n->(∀i,i<k->c9 rk lf key xs bs i=true)->(∀i,k<=i->i<n->c9 rk lf key xs bs i=false)->Q (some k) st):wpS (model prog w) A E s (k4 lf key xs bs n h) Q st:=by
 have mono:∀i j,i<=j->j<n->c9 rk lf key xs bs j=true->c9 rk lf key xs bs i=true:=λi j hij hj e=>by
  have:=u (bs+i) (bs+j) (by omega) (by omega) (by omega)
  unfold c9 at e ⊢
  cases lf with
  |true=>simp only[if_true,bm2]at e ⊢;omega
  |false=>simp only[bn5,bs8,bm2]at e ⊢;omega
 have monf:∀i j,i<=j->j<n->c9 rk lf key xs bs i=false->c9 rk lf key xs bs j=false:=λi j hij hj e=>by
  cases z:c9 rk lf key xs bs j with
  |false=>rfl
  |true=>rw[mono i j hij hj z]at e;cases e
 rw[aH2]
 refine bl5 (sK c hk ok o (by omega) ?_)
 dsimp only
 cases z:c9 rk lf key xs bs h with
 |true=>
  rw[if_pos rfl]
  refine bl5 (by9 (bs1 (I:=λx r st'=>st'=st/\∃la of,r=(none,la,of)/\la<of/\x<of/\h+la<n/\c9 rk lf key xs bs (h+la)=true)
   (Q:=λr st'=>st'=st/\∃la of,r=(none,la,of)/\la<of/\h+la<n/\c9 rk lf key xs bs (h+la)=true/\(of<n-h->c9 rk lf key xs bs (h+of)=false)) ?_ ?_ ⟨rfl,0,1,rfl,by omega,by omega,by omega,z⟩) ?_)
  ·rintro x r st' _ hx ⟨rfl,la,of,rfl,d1,d2,d3,f⟩
   dsimp only
   by_cases hc:of >= n-h
   ·rw[if_pos hc]
    exact bm4 ⟨rfl,la,of,rfl,d1,d3,f,λy=>absurd y (by omega)⟩
   ·rw[if_neg hc]
    refine bl5 (sK c hk ok o (by omega) ?_)
    cases y:c9 rk lf key xs bs (h+of) with
    |true=>exact bm4 ⟨rfl,of,2*of+1,rfl,by omega,by omega,by omega,y⟩
    |false=>exact bm4 ⟨rfl,la,of,rfl,d1,d3,f,λ_=>y⟩
  ·rintro r st' ⟨rfl,la,of,rfl,d1,d2,d3,f⟩
   exact⟨rfl,la,of,rfl,d1,d3,f,λy=>absurd y (by omega)⟩
  ·rintro r st' ⟨rfl,la,of,rfl,d1,d3,f,ft⟩
   dsimp only
   refine bl5 (S7 (l:=h+la+1) (g:=h+min of (n-h)) c hk ok o hz mono (by omega) (by omega) (λi hi=>mono i (h+la) (by omega) d3 f) (λi i1 i2=>?_) λk k1 k2 k3=>bm4 (hq k k1 k2 k3))
   rcases bq3 of (n-h) with y|y
   ·exact monf (h+of) i (by omega) i2 (ft y)
   ·exact absurd i1 (by omega)
 |false=>
  rw[if_neg bm6]
  refine bl5 (by9 (bs1 (I:=λx r st'=>st'=st/\∃la of,r=(none,la,of)/\la<of/\x<of/\la<=h/\c9 rk lf key xs bs (h-la)=false)
   (Q:=λr st'=>st'=st/\∃la of,r=(none,la,of)/\la<of/\la<=h/\c9 rk lf key xs bs (h-la)=false/\(of<h+1->c9 rk lf key xs bs (h-of)=true)) ?_ ?_ ⟨rfl,0,1,rfl,by omega,by omega,by omega,z⟩) ?_)
  ·rintro x r st' _ hx ⟨rfl,la,of,rfl,d1,d2,d3,f⟩
   dsimp only
   by_cases hc:of >= h+1
   ·rw[if_pos hc]
    exact bm4 ⟨rfl,la,of,rfl,d1,d3,f,λy=>absurd y (by omega)⟩
   ·rw[if_neg hc]
    refine bl5 (sK c hk ok o (by omega) ?_)
    cases y:c9 rk lf key xs bs (h-of) with
    |false=>exact bm4 ⟨rfl,of,2*of+1,rfl,by omega,by omega,by omega,y⟩
    |true=>exact bm4 ⟨rfl,la,of,rfl,d1,d3,f,λ_=>y⟩
  ·rintro r st' ⟨rfl,la,of,rfl,d1,d2,d3,f⟩
   exact⟨rfl,la,of,rfl,d1,d3,f,λy=>absurd y (by omega)⟩
  ·rintro r st' ⟨rfl,la,of,rfl,d1,d3,f,ft⟩
   dsimp only
   refine bl5 (S7 (l:=h+1-min of (h+1)) (g:=h-la) c hk ok o hz mono (by omega) (by omega) (λi hi=>?_) (λi i1 i2=>monf (h-la) i i1 i2 f) λk k1 k2 k3=>bm4 (hq k k1 k2 k3))
   rcases bq3 of (h+1) with y|y
   ·exact mono i (h-of) (by omega) (by omega) (ft y)
   ·exact absurd hi (by omega)
end
def mU:Nat->StateT SortSt Sem Unit:=sortPriv% PySem.Builtin.setMinGallop
def xU:Array Keyed->Array Keyed->StateT SortSt Sem (Array Keyed):=sortPriv% PySem.Builtin.mergeLo
theorem aH3 (g:Nat):mU g=modify (λst=>SortSt.mk' (kindOf st) (arrOf st) (pendingOf st) g (failedOf st)):=rfl
abbrev LS:=Option (Array Keyed)×Array Keyed×Nat×Nat×Nat×Nat×Nat
abbrev xV:=Option (Array Keyed)×Array Keyed×Nat×Nat×Nat×Nat
abbrev LO:=Option (Array Keyed)×Array Keyed×Nat×Nat×Nat
def sL (x y o:Array Keyed)(i j mg p q:Nat):StateT SortSt Sem (ForInStep LS):=do
 let v <- elem' x i
 if (i+1+1==x.size)=true then pure (.done (some (o.push v++y.extract j y.size++x.extract (i+1) x.size),o.push v,i+1,j,mg,p,q))
 else if (decide (p<7)&&decide (q<7))=true then pure (.done (none,o.push v,i+1,j,mg,p,q)) else pure (.yield (none,o.push v,i+1,j,mg,p,q))
def sM (x y o:Array Keyed)(i j mg p q:Nat):StateT SortSt Sem (ForInStep LS):=do
 let v <- elem' y j
 if (j+1==y.size)=true then pure (.done (some (o.push v++x.extract i x.size++y.extract (j+1) y.size),o.push v,i,j+1,mg,p,q)) else do
  let u <- elem' x i
  match <- k4 true u y (j+1) (y.size-(j+1)) 0 with
  |some k=>
   if k>0 then
    if (j+1+k==y.size)=true then pure (.done (some (o.push v++y.extract (j+1) (j+1+k)++x.extract i x.size++y.extract (j+1+k) y.size),o.push v++y.extract (j+1) (j+1+k),i,j+1+k,mg,p,k))
    else sL x y (o.push v++y.extract (j+1) (j+1+k)) i (j+1+k) mg p k
   else sL x y (o.push v) i (j+1) mg p k
  |_=>pure (.done (some (o.push v++x.extract i x.size++y.extract (j+1) y.size),o.push v,i,j+1,mg,p,q))
def sN (x y o:Array Keyed)(i j mg p q:Nat):StateT SortSt Sem (ForInStep LS):=do
 mU mg
 let v <- elem' y j
 match <- k4 false v x i (x.size-i) 0 with
 |some k=>
  if k>0 then
   if (i+k+1==x.size)=true then pure (.done (some (o++x.extract i (i+k)++y.extract j y.size++x.extract (i+k) x.size),o++x.extract i (i+k),i+k,j,mg,k,q))
   else if (i+k==x.size)=true then pure (.done (some (o++x.extract i (i+k)++x.extract (i+k) x.size++y.extract j y.size),o++x.extract i (i+k),i+k,j,mg,k,q))
   else sM x y (o++x.extract i (i+k)) (i+k) j mg k q
  else sM x y o i j mg k q
 |_=>pure (.done (some (o++x.extract i x.size++y.extract j y.size),o,i,j,mg,p,q))
def xW (x y o:Array Keyed)(i j mg p q:Nat):StateT SortSt Sem LS:=forIn [0:x.size+y.size] ((none,o,i,j,mg,p,q):LS) λ_ r=>
 if r.2.2.2.2.1>1 then sN x y r.2.1 r.2.2.1 r.2.2.2.1 (r.2.2.2.2.1-1) r.2.2.2.2.2.1 r.2.2.2.2.2.2 else sN x y r.2.1 r.2.2.1 r.2.2.2.1 r.2.2.2.2.1 r.2.2.2.2.2.1 r.2.2.2.2.2.2
def xX (x y o:Array Keyed)(i j mg:Nat):StateT SortSt Sem xV:=forIn [0:x.size+y.size] ((none,o,i,j,0,0):xV) λ_ r=>do
 let v <- elem' y r.2.2.2.1
 let u <- elem' x r.2.2.1
 match <- lt' v u with
 |some q=>
  if q=true then do
   let v <- elem' y r.2.2.2.1
   if (r.2.2.2.1+1==y.size)=true then pure (.done (some (r.2.1.push v++x.extract r.2.2.1 x.size++y.extract (r.2.2.2.1+1) y.size),r.2.1.push v,r.2.2.1,r.2.2.2.1+1,0,r.2.2.2.2.2+1))
   else if r.2.2.2.2.2+1 >= mg then pure (.done (none,r.2.1.push v,r.2.2.1,r.2.2.2.1+1,0,r.2.2.2.2.2+1)) else pure (.yield (none,r.2.1.push v,r.2.2.1,r.2.2.2.1+1,0,r.2.2.2.2.2+1))
  else do
   let u <- elem' x r.2.2.1
   if (r.2.2.1+1+1==x.size)=true then pure (.done (some (r.2.1.push u++y.extract r.2.2.2.1 y.size++x.extract (r.2.2.1+1) x.size),r.2.1.push u,r.2.2.1+1,r.2.2.2.1,r.2.2.2.2.1+1,0))
   else if r.2.2.2.2.1+1 >= mg then pure (.done (none,r.2.1.push u,r.2.2.1+1,r.2.2.2.1,r.2.2.2.2.1+1,0)) else pure (.yield (none,r.2.1.push u,r.2.2.1+1,r.2.2.2.1,r.2.2.2.2.1+1,0))
 |_=>pure (.done (some (r.2.1++x.extract r.2.2.1 x.size++y.extract r.2.2.2.1 y.size),r.2.1,r.2.2.1,r.2.2.2.1,r.2.2.2.2.1,r.2.2.2.2.2))
def S8 (x y o:Array Keyed)(i j mg:Nat):StateT SortSt Sem LO:=forIn [0:x.size+y.size] ((none,o,i,j,mg):LO) λ_ r=>do
 let u <- xX x y r.2.1 r.2.2.1 r.2.2.2.1 r.2.2.2.2
 match u.1 with
 |some z=>pure (.done (some z,u.2.1,u.2.2.1,u.2.2.2.1,r.2.2.2.2))
 |none=>do
  liftM (rule "list.sort.gallop")
  let v <- xW x y u.2.1 u.2.2.1 u.2.2.2.1 (r.2.2.2.2+1) u.2.2.2.2.1 u.2.2.2.2.2
  match v.1 with
  |some z=>pure (.done (some z,v.2.1,v.2.2.1,v.2.2.2.1,v.2.2.2.2.1))
  |none=>do
   mU (v.2.2.2.2.1+1)
   pure (.yield (none,v.2.1,v.2.2.1,v.2.2.2.1,v.2.2.2.2.1+1))
theorem aH4 (x y:Array Keyed):xU x y=(do
 liftM (rule "list.sort.merge-lo")
 let v <- elem' y 0
 if (1==y.size)=true then pure (#[v]++x.extract 0 x.size++y.extract 1 y.size)
 else if (0+1==x.size)=true then pure (#[v]++y.extract 1 y.size++x.extract 0 x.size)
 else do
  let z <- get
  let r <- S8 x y #[v] 0 1 (gallopOf z)
  match r.1 with
  |some z=>pure z
  |none=>unsupported "internal:list.sort.merge-bound"):=by kernel_rfl
section
variable (rk:Keyed→Int)
def Sd (l:List Keyed):Prop:=l.Pairwise λa b=>rk a<=rk b
structure MI (xs ys o:List Keyed)(i j:Nat):Prop where
 pm:o.Perm (xs.take i++ys.take j)
 sx:Sd rk (o++xs.drop i)
 sy:Sd rk (o++ys.drop j)
end
variable {rk:Keyed→Int}{xs ys o:List Keyed}{i j:Nat}
theorem Sd.ins {o a b d:List Keyed}(h1:Sd rk (o++a))(h2:Sd rk (o++(b++d)))(h:∀u∈b,∀t∈a,rk u<=rk t):Sd rk ((o++b)++a):=by
 unfold Sd at *
 rw[bn1]
 obtain⟨p1,p2,p3⟩:=bp7.mp h1
 obtain⟨q1,q2,q3⟩:=bp7.mp h2
 obtain⟨r1,r2,r3⟩:=bp7.mp q2
 refine bp7.mpr ⟨p1,bp7.mpr ⟨r1,p2,h⟩,λu hu t ht=>?_⟩
 rcases bn9.mp ht with z|z
 ·exact q3 u hu t (bt9 _ z)
 ·exact p3 u hu t z
theorem MI.ofy (m:MI rk xs ys o i j)(k:Nat)(h:∀u∈(ys.drop j).take k,∀t∈xs.drop i,rk u<=rk t):MI rk xs ys (o++(ys.drop j).take k) i (j+k):=by
 have e:(ys.drop j).take k++ys.drop (j+k)=ys.drop j:=by rw[<- List.drop_drop];exact bo2 k _
 refine⟨?_,Sd.ins m.sx (d:=ys.drop (j+k)) (by rw[e];exact m.sy) h,by rw[bn1,e];exact m.sy⟩
 rw[List.take_add,<- bn1]
 exact m.pm.append_right _
theorem MI.ofx (m:MI rk xs ys o i j)(k:Nat)(h:∀u∈(xs.drop i).take k,∀t∈ys.drop j,rk u<=rk t):MI rk xs ys (o++(xs.drop i).take k) (i+k) j:=by
 have e:(xs.drop i).take k++xs.drop (i+k)=xs.drop i:=by rw[<- List.drop_drop];exact bo2 k _
 refine⟨?_,by rw[bn1,e];exact m.sx,Sd.ins m.sy (d:=xs.drop (i+k)) (by rw[e];exact m.sx) h⟩
 rw[List.take_add]
 refine (m.pm.append_right _).trans ?_
 rw[bn1,bn1]
 exact (by2).append_left _
theorem MI.fin (m:MI rk xs ys o i j)(h:xs.length<=i∨ys.length<=j):(o++xs.drop i++ys.drop j).Perm (xs++ys)/\Sd rk (o++xs.drop i++ys.drop j):=by
 refine⟨?_,?_⟩
 ·rw[bn1]
  refine (m.pm.append_right _).trans ?_
  have e1:xs=xs.take i++xs.drop i:=(bo2 i xs).symm
  have e2:ys=ys.take j++ys.drop j:=(bo2 j ys).symm
  conv=>rhs;rw[e1,e2]
  rw[bn1,bn1]
  refine List.Perm.append_left _ ?_
  rw[<- bn1,<- bn1]
  exact (by2).append_right _
 ·rcases h with h|h
  ·rw[List.drop_eq_nil_of_le h,bo4];exact m.sy
  ·rw[List.drop_eq_nil_of_le h,bo4];exact m.sx
theorem MI.lst (m:MI rk xs ys o i j)(h:∀u∈ys,∀t∈xs.drop i,rk u<=rk t):(o++ys.drop j++xs.drop i).Perm (xs++ys)/\Sd rk (o++ys.drop j++xs.drop i):=by
 have m2:=m.ofy ys.length λu hu t ht=>h u (List.mem_of_mem_drop (bz0 hu)) t ht
 have e:(ys.drop j).take ys.length=ys.drop j:=bu9 (by simp)
 rw[e]at m2
 have f:=m2.fin (.inr (by omega))
 rw[List.drop_eq_nil_of_le (as:=ys) (i:=j+ys.length) (by omega),bo4]at f
 exact f
theorem S9 {x:Array Keyed}{i k:Nat}{u:Keyed}(h:u∈(x.toList.drop i).take k):∃t,t<k/\i+t<x.size/\rk u=Kr rk x (i+t):=by
 obtain⟨t,ht,e⟩:=List.getElem_of_mem h
 have h1:t<k/\i+t<x.size:=by simp at ht;omega
 refine⟨t,h1.1,h1.2,?_⟩
 rw[cB h1.2,<- e]
 simp
theorem p9 {x:Array Keyed}{i:Nat}{u:Keyed}(h:u∈x.toList.drop i):∃t,i+t<x.size/\rk u=Kr rk x (i+t):=by
 obtain⟨t,ht,e⟩:=List.getElem_of_mem h
 have h1:i+t<x.size:=by simp at ht;omega
 refine⟨t,h1,?_⟩
 rw[cB h1,<- e]
 simp
theorem Sd.up {x:Array Keyed}(h:Sd rk x.toList)(lo hi:Nat)(hh:hi<=x.size):Up rk x lo hi:=λi j _ hij hj=>by
 rw[cB (by omega:i<x.size),cB (by omega:j<x.size)]
 rcases by0 hij with z|z
 ·subst z;exact bt1 _
 ·have:=br9.mp h i j (by simp;omega) (by simp;omega) z
  simpa using this
theorem T0 (x:Array Keyed)(i k:Nat):(x.extract i (i+k)).toList=(x.toList.drop i).take k:=by
 simp[List.extract]
theorem sO (x:Array Keyed)(i:Nat):(x.extract i x.size).toList=x.toList.drop i:=by
 simp[List.extract]
 exact bu9 (by simp)
theorem lI {x:Array Keyed}{i:Nat}(h:i<x.size):[x[i]]=(x.toList.drop i).take 1:=by
 rw[List.drop_eq_getElem_cons (by simpa using h)];simp
structure Gq (st st':SortSt):Prop where
 kd:kindOf st'=kindOf st
 ar:arrOf st'=arrOf st
 pd:pendingOf st'=pendingOf st
 ok:failedOf st'=failedOf st
theorem Gq.refl (st:SortSt):Gq st st:=⟨rfl,rfl,rfl,rfl⟩
section
variable {κ:SortKind}{st:SortSt}{prog:Program}{w:World}{A:Around}{E:Value→Shared→Prop}{s:Shared}{Ok:Keyed→Prop}
theorem sQ {st0:SortSt}{g:Nat}{Q:Unit->SortSt->Prop}(q:Gq st0 st)(h:∀st',Gq st0 st'->Q () st'):wpS (model prog w) A E s (mU g) Q st:=by
 rw[aH3];exact wpS_modify (h _ ⟨q.kd,q.ar,q.pd,q.ok⟩)
def eD (rk:Keyed->Int)(x y r:Array Keyed):Prop:=r.toList.Perm (x.toList++y.toList)/\Sd rk r.toList
theorem MI.y1 {x y o:Array Keyed}(m:MI rk x.toList y.toList o.toList i j)(hj:j<y.size)(h:∀t,i+t<x.size->rk y[j]<=Kr rk x (i+t)):MI rk x.toList y.toList (o.push y[j]).toList i (j+1):=by
 have:=m.ofy 1 λu hu t ht=>?_
 ·rw[<- lI hj]at this;simpa using this
 ·rw[<- lI hj,bl3]at hu
  subst hu
  obtain⟨q,q1,q2⟩:=p9 (rk:=rk) ht
  rw[q2];exact h q q1
theorem MI.x1 {x y o:Array Keyed}(m:MI rk x.toList y.toList o.toList i j)(hi:i<x.size)(h:∀t,j+t<y.size->rk x[i]<=Kr rk y (j+t)):MI rk x.toList y.toList (o.push x[i]).toList (i+1) j:=by
 have:=m.ofx 1 λu hu t ht=>?_
 ·rw[<- lI hi]at this;simpa using this
 ·rw[<- lI hi,bl3]at hu
  subst hu
  obtain⟨q,q1,q2⟩:=p9 (rk:=rk) ht
  rw[q2];exact h q q1
theorem MI.yk {x y o:Array Keyed}(m:MI rk x.toList y.toList o.toList i j)(k:Nat)(h:∀p t,p<k->j+p<y.size->i+t<x.size->Kr rk y (j+p)<=Kr rk x (i+t)):MI rk x.toList y.toList (o++y.extract j (j+k)).toList i (j+k):=by
 have:=m.ofy k λu hu t ht=>?_
 ·rw[<- T0]at this;rw[br4];exact this
 ·obtain⟨p,p1,p2,p3⟩:=S9 (rk:=rk) hu
  obtain⟨q,q1,q2⟩:=p9 (rk:=rk) ht
  rw[q2,p3];exact h p q p1 p2 q1
theorem MI.xk {x y o:Array Keyed}(m:MI rk x.toList y.toList o.toList i j)(k:Nat)(h:∀p t,p<k->i+p<x.size->j+t<y.size->Kr rk x (i+p)<=Kr rk y (j+t)):MI rk x.toList y.toList (o++x.extract i (i+k)).toList (i+k) j:=by
 have:=m.ofx k λu hu t ht=>?_
 ·rw[<- T0]at this;rw[br4];exact this
 ·obtain⟨p,p1,p2,p3⟩:=S9 (rk:=rk) hu
  obtain⟨q,q1,q2⟩:=p9 (rk:=rk) ht
  rw[q2,p3];exact h p q p1 p2 q1
theorem mV {key:Keyed}{xs:Array Keyed}{bs i:Nat}:c9 rk false key xs bs i=decide (Kr rk xs (bs+i)<=rk key):=rfl
theorem mW {key:Keyed}{xs:Array Keyed}{bs i:Nat}:c9 rk true key xs bs i=decide (Kr rk xs (bs+i)<rk key):=rfl
def GI (rk:Keyed->Int)(x y:Array Keyed)(lb:Nat)(st:SortSt)(c:LS)(st':SortSt):Prop:=Gq st st'/\∃o i j mg p q,c=(none,o,i,j,mg,p,q)/\MI rk x.toList y.toList o.toList i j/\i+1<x.size/\j<y.size/\lb<=i+j
def GQ (rk:Keyed->Int)(x y:Array Keyed)(lb:Nat)(st:SortSt)(c:LS)(st':SortSt):Prop:=Gq st st'/\((∃r o i j mg p q,c=(some r,o,i,j,mg,p,q)/\eD rk x y r)∨∃o i j mg p q,c=(none,o,i,j,mg,p,q)/\MI rk x.toList y.toList o.toList i j/\i+1<x.size/\j<y.size/\lb<=i+j)
def GR (rk:Keyed->Int)(x y:Array Keyed)(lb:Nat)(st:SortSt)(r:ForInStep LS)(st':SortSt):Prop:=match r with|.done c=>GQ rk x y lb st c st'|.yield c=>GI rk x y lb st c st'
theorem MI.done {x y o:Array Keyed}(m:MI rk x.toList y.toList o.toList i j)(hh:x.size<=i∨y.size<=j):eD rk x y (o++x.extract i x.size++y.extract j y.size):=by
 unfold eD
 rw[br4,br4,sO,sO]
 exact m.fin (by simpa using hh)
theorem MI.last {x y o:Array Keyed}(m:MI rk x.toList y.toList o.toList i j)(x0:0<x.size)(hl:∀u∈y.toList,rk u<=rk x[x.size-1])(hh:i+1=x.size):eD rk x y (o++y.extract j y.size++x.extract i x.size):=by
 unfold eD
 rw[br4,br4,sO,sO]
 refine m.lst λu hu t ht=>?_
 obtain⟨q,q1,q2⟩:=p9 (rk:=rk) ht
 have e:i+q=x.size-1:=by omega
 rw[q2,e,cB (by omega)]
 exact hl u hu
theorem T1 {st0:SortSt}{x y o:Array Keyed}{mg p q lb:Nat}(x0:0<x.size)(hl:∀u∈y.toList,rk u<=rk x[x.size-1])(g:Gq st0 st)(m:MI rk x.toList y.toList o.toList i j)(hi:i+1<x.size)(hj:j<y.size)(hb:lb<=i+j)(hm:∀t,j+t<y.size->rk x[i]<=Kr rk y (j+t)):wpS (model prog w) A E s (sL x y o i j mg p q) (GR rk x y lb st0) st:=by
 unfold sL
 have hi':i<x.size:=by omega
 have m':=m.x1 hi' hm
 refine bl5 (d7 hi' ?_)
 by_cases he:(i+1+1==x.size)=true
 ·rw[if_pos he]
  have he:i+1+1=x.size:=by simpa using he
  exact bm4 ⟨g,.inl ⟨_,_,_,_,_,_,_,rfl,m'.last x0 hl he⟩⟩
 ·rw[if_neg he]
  have he:i+1+1≠x.size:=by simpa using he
  split
  ·exact bm4 ⟨g,.inr ⟨_,_,_,_,_,_,rfl,m',by omega,hj,by omega⟩⟩
  ·exact bm4 ⟨g,_,_,_,_,_,_,rfl,m',by omega,hj,by omega⟩
theorem T2 (c:cR prog w A E s κ Ok rk){st0:SortSt}(hk:kindOf st0=κ){x y o:Array Keyed}{mg p q lb:Nat}(ox:bL Ok x)(oy:bL Ok y)(sx:Sd rk x.toList)(sy:Sd rk y.toList)(x0:0<x.size)(hl:∀u∈y.toList,rk u<=rk x[x.size-1])(g:Gq st0 st)(m:MI rk x.toList y.toList o.toList i j)(hi:i+1<x.size)(hj:j<y.size)(hb:lb<=i+j)(hm:∀t,i+t<x.size->rk y[j]<=Kr rk x (i+t)):wpS (model prog w) A E s (sM x y o i j mg p q) (GR rk x y lb st0) st:=by
 unfold sM
 have hi':i<x.size:=by omega
 have m':=m.y1 hj hm
 refine bl5 (d7 hj ?_)
 by_cases he:(j+1==y.size)=true
 ·rw[if_pos he]
  have he:j+1=y.size:=by simpa using he
  exact bm4 ⟨g,.inl ⟨_,_,_,_,_,_,_,rfl,m'.done (.inr (by omega))⟩⟩
 ·rw[if_neg he]
  have he:j+1≠y.size:=by simpa using he
  refine bl5 (d7 hi' (bl5 (mT c (g.kd.trans hk) (ox _ (bp2 hi')) oy (by omega) (by omega) (sy.up _ _ (by omega)) λk k1 k2 k3=>?_)))
  dsimp only
  have ux:=sx.up 0 _ (bk9 x.size)
  have mk:=m'.yk k λp t hp _ ht=>by
   have a1:=k2 p hp
   rw[mW,bm2]at a1
   have a2:=ux i (i+t) (by omega) (by omega) ht
   rw[cB hi']at a2
   omega
  have km:∀t,j+1+k+t<y.size->rk x[i]<=Kr rk y (j+1+k+t):=λt ht=>by
   have a1:=k3 (k+t) (by omega) (by omega)
   rw[mW,bo8,<- Nat.add_assoc]at a1
   omega
  by_cases hk0:k>0
  ·rw[if_pos hk0]
   by_cases hf:(j+1+k==y.size)=true
   ·rw[if_pos hf]
    have hf:j+1+k=y.size:=by simpa using hf
    exact bm4 ⟨g,.inl ⟨_,_,_,_,_,_,_,rfl,mk.done (.inr (by omega))⟩⟩
   ·rw[if_neg hf]
    have hf:j+1+k≠y.size:=by simpa using hf
    exact T1 x0 hl g mk hi (by omega) (by omega) km
  ·rw[if_neg hk0]
   have e0:k=0:=by omega
   subst e0
   exact T1 x0 hl g m' hi (by omega) (by omega) km
theorem T3 (c:cR prog w A E s κ Ok rk){st0:SortSt}(hk:kindOf st0=κ){x y o:Array Keyed}{mg p q lb:Nat}(ox:bL Ok x)(oy:bL Ok y)(sx:Sd rk x.toList)(sy:Sd rk y.toList)(x0:0<x.size)(hl:∀u∈y.toList,rk u<=rk x[x.size-1])(g:Gq st0 st)(m:MI rk x.toList y.toList o.toList i j)(hi:i+1<x.size)(hj:j<y.size)(hb:lb<=i+j) :
  wpS (model prog w) A E s (sN x y o i j mg p q) (GR rk x y lb st0) st:=by
 unfold sN
 refine bl5 (sQ g λst4 q4=>bl5 (d7 hj (bl5 (mT c (q4.kd.trans hk) (oy _ (bp2 hj)) ox (by omega) (by omega) (sx.up _ _ (by omega)) λk k1 k2 k3=>?_))))
 dsimp only
 have uy:=sy.up 0 _ (bk9 y.size)
 have mk:=m.xk k λp t hp _ ht=>by
  have a1:=k2 p hp
  rw[mV,bm2]at a1
  have a2:=uy j (j+t) (by omega) (by omega) ht
  rw[cB hj]at a2
  omega
 have km:∀t,i+k+t<x.size->rk y[j]<=Kr rk x (i+k+t):=λt ht=>by
  have a1:=k3 (k+t) (by omega) (by omega)
  rw[mV,bo8,<- Nat.add_assoc]at a1
  omega
 by_cases hk0:k>0
 ·rw[if_pos hk0]
  by_cases he:(i+k+1==x.size)=true
  ·rw[if_pos he]
   exact bm4 ⟨q4,.inl ⟨_,_,_,_,_,_,_,rfl,mk.last x0 hl (by simpa using he)⟩⟩
  ·rw[if_neg he]
   have he:i+k+1≠x.size:=by simpa using he
   by_cases hf:(i+k==x.size)=true
   ·rw[if_pos hf]
    have hf:i+k=x.size:=by simpa using hf
    exact bm4 ⟨q4,.inl ⟨_,_,_,_,_,_,_,rfl,mk.done (.inl (by omega))⟩⟩
   ·rw[if_neg hf]
    have hf:i+k≠x.size:=by simpa using hf
    exact T2 c hk ox oy sx sy x0 hl q4 mk (by omega) hj (by omega) km
 ·rw[if_neg hk0]
  have e0:k=0:=by omega
  subst e0
  exact T2 c hk ox oy sx sy x0 hl q4 m hi hj hb km
theorem aH5 (c:cR prog w A E s κ Ok rk){st0:SortSt}(hk:kindOf st0=κ){x y o:Array Keyed}{mg p q lb:Nat}(ox:bL Ok x)(oy:bL Ok y)(sx:Sd rk x.toList)(sy:Sd rk y.toList)(x0:0<x.size)(hl:∀u∈y.toList,rk u<=rk x[x.size-1])(g:Gq st0 st)(m:MI rk x.toList y.toList o.toList i j)(hi:i+1<x.size)(hj:j<y.size)(hb:lb<=i+j) :
  wpS (model prog w) A E s (xW x y o i j mg p q) (GQ rk x y lb st0) st:=by
 unfold xW
 refine bs1 (I:=λ_=>GI rk x y lb st0) ?_ ?_ ⟨g,o,i,j,_,p,q,rfl,m,hi,hj,hb⟩
 ·rintro t c3 st3 _ _ ⟨q3,o,i,j,mg,p,q,rfl,m,hi,hj,pr3⟩
  dsimp only
  split
  ·exact by9 (T3 c hk ox oy sx sy x0 hl q3 m hi hj pr3) λr _ hr=>by cases r<;>exact hr
  ·exact by9 (T3 c hk ox oy sx sy x0 hl q3 m hi hj pr3) λr _ hr=>by cases r<;>exact hr
 ·rintro c3 st3 ⟨q3,o,i,j,mg,p,q,rfl,m,hi,hj,pr3⟩
  exact⟨q3,.inr ⟨_,_,_,_,_,_,rfl,m,hi,hj,pr3⟩⟩
theorem aH6 (c:cR prog w A E s κ Ok rk){st0:SortSt}(hk:kindOf st0=κ){x y o:Array Keyed}{mg:Nat}{Q:xV->SortSt->Prop}(ox:bL Ok x)(oy:bL Ok y)(sx:Sd rk x.toList)(sy:Sd rk y.toList)(x0:0<x.size)(hl:∀u∈y.toList,rk u<=rk x[x.size-1])(g:Gq st0 st)(m:MI rk x.toList y.toList o.toList i j)(hi:i+1<x.size)(hj:j<y.size)(h1:∀r o' i' j' p q st',Gq st0 st'->eD rk x y r->Q (some r,o',i',j',p,q) st')(h2:∀o' i' j' p q st',Gq st0 st'->MI rk x.toList y.toList o'.toList i' j'->i'+1<x.size->j'<y.size->i+j+1<=i'+j'->Q (none,o',i',j',p,q) st') :
  wpS (model prog w) A E s (xX x y o i j mg) Q st:=by
 have ux:Up rk x 0 x.size:=sx.up 0 _ (bk9 _)
 have uy:Up rk y 0 y.size:=sy.up 0 _ (bk9 _)
 unfold xX
 refine bs1 (I:=λt c st'=>Gq st0 st'/\∃o i' j' p q,c=(none,o,i',j',p,q)/\MI rk x.toList y.toList o.toList i' j'/\i'+1<x.size/\j'<y.size/\i+j+t<=i'+j') ?_ ?_ ⟨g,o,i,j,0,0,rfl,m,hi,hj,by omega⟩
 ·rintro t c2 st2 _ ht ⟨q2,o,i',j',p,q,rfl,m,hi,hj,pr2⟩
  dsimp only
  have hi':i'<x.size:=by omega
  refine bl5 (d7 hj (bl5 (d7 hi' (bl5 (c _ _ (oy _ (bp2 hj)) (ox _ (bp2 hi')) st2 _ (q2.kd.trans hk) ?_)))))
  by_cases hc:rk y[j']<rk x[i']
  ·rw[bn0 hc]
   dsimp only
   rw[if_pos rfl]
   have m':=m.y1 hj λt ht=>by
    have:=ux i' (i'+t) (by omega) (by omega) ht
    rw[cB hi']at this
    omega
   refine bl5 (d7 hj ?_)
   by_cases he:(j'+1==y.size)=true
   ·rw[if_pos he]
    have he:j'+1=y.size:=by simpa using he
    exact bm4 (h1 _ _ _ _ _ _ _ q2 (m'.done (.inr (by omega))))
   ·rw[if_neg he]
    have he:j'+1≠y.size:=by simpa using he
    split
    ·exact bm4 (h2 _ _ _ _ _ _ q2 m' hi (by omega) (by omega))
    ·exact bm4 ⟨q2,_,_,_,_,_,rfl,m',hi,by omega,by omega⟩
  ·rw[bm3 hc]
   dsimp only
   rw[if_neg bm6]
   have m':=m.x1 hi' λt ht=>by
    have:=uy j' (j'+t) (by omega) (by omega) ht
    rw[cB hj]at this
    omega
   refine bl5 (d7 hi' ?_)
   by_cases he:(i'+1+1==x.size)=true
   ·rw[if_pos he]
    exact bm4 (h1 _ _ _ _ _ _ _ q2 (m'.last x0 hl (by simpa using he)))
   ·rw[if_neg he]
    have he:i'+1+1≠x.size:=by simpa using he
    split
    ·exact bm4 (h2 _ _ _ _ _ _ q2 m' (by omega) hj (by omega))
    ·exact bm4 ⟨q2,_,_,_,_,_,rfl,m',by omega,hj,by omega⟩
 ·rintro c2 st2 ⟨q2,o,i',j',p,q,rfl,m,hi,hj,pr2⟩
  exact h2 _ _ _ _ _ _ q2 m hi hj (by omega)
theorem aH7 (c:cR prog w A E s κ Ok rk)(hk:kindOf st=κ){x y:Array Keyed}{Q:Array Keyed->SortSt->Prop}(ox:bL Ok x)(oy:bL Ok y)(sx:Sd rk x.toList)(sy:Sd rk y.toList)(x0:0<x.size)(y0:0<y.size)(hf:∀t∈x.toList,rk y[0]<=rk t)(hl:∀u∈y.toList,rk u<=rk x[x.size-1])(h:∀r st',Gq st st'->eD rk x y r->Q r st'):wpS (model prog w) A E s (xU x y) Q st:=by
 rw[aH4]
 refine bl5 (wpS_lift (bz4 ⟨rfl,bl5 (d7 y0 ?_)⟩))
 have m0:MI rk x.toList y.toList (#[y[0]]:Array Keyed).toList 0 1:=by
  have mm:MI rk x.toList y.toList [] 0 0:=⟨by simp,sx,sy⟩
  have:=mm.ofy 1 λu hu t ht=>?_
  ·rw[<- lI y0]at this;exact this
  ·rw[<- lI y0,bl3]at hu
   subst hu
   exact hf t ht
 by_cases e1:(1==y.size)=true
 ·rw[if_pos e1]
  have e1:1=y.size:=by simpa using e1
  exact bm4 (h _ st (Gq.refl st) (m0.done (.inr (by omega))))
 ·rw[if_neg e1]
  have e1:1≠y.size:=by simpa using e1
  by_cases e2:(0+1==x.size)=true
  ·rw[if_pos e2]
   exact bm4 (h _ st (Gq.refl st) (m0.last x0 hl (by simpa using e2)))
  ·rw[if_neg e2]
   have e2:0+1≠x.size:=by simpa using e2
   refine bl5 (wpS_get ?_)
   unfold S8
   refine bl5 (by9 (bs1
    (I:=λn c st'=>Gq st st'/\∃o i j mg,c=(none,o,i,j,mg)/\MI rk x.toList y.toList o.toList i j/\i+1<x.size/\j<y.size/\n+1<=i+j)
    (Q:=λc st'=>Gq st st'/\∃r o i j mg,c=(some r,o,i,j,mg)/\eD rk x y r) ?_ ?_ ⟨Gq.refl st,_,0,1,_,rfl,m0,by omega,by omega,by omega⟩) ?_)
   ·rintro n c1 st1 _ hn ⟨q1,o,i,j,mg,rfl,m,hi,hj,pr⟩
    dsimp only
    refine bl5 (aH6 c hk ox oy sx sy x0 hl q1 m hi hj (λr o' i' j' p q st' g md=>bm4 ⟨g,r,_,_,_,_,rfl,md⟩) λo' i' j' p q st' g m' hi' hj' pr'=>?_)
    refine bl5 (wpS_lift (bz4 ⟨rfl,?_⟩))
    refine bl5 (by9 (aH5 c hk ox oy sx sy x0 hl g m' hi' hj' pr') ?_)
    rintro c3 st3 ⟨q3,⟨r,o,i3,j3,mg,p,q,rfl,md⟩|⟨o,i3,j3,mg,p,q,rfl,m,hi,hj,pr3⟩⟩
    ·exact bm4 ⟨q3,r,_,_,_,_,rfl,md⟩
    ·exact bl5 (sQ q3 λst4 q4=>bm4 ⟨q4,o,i3,j3,_,rfl,m,hi,hj,by omega⟩)
   ·rintro c1 st1 ⟨q1,o,i,j,mg,rfl,m,hi,hj,pr⟩
    exact absurd pr (by omega)
   ·rintro c1 st1 ⟨q1,r,o,i,j,mg,rfl,md⟩
    exact bm4 (h r _ q1 md)
end
def xY:Array Keyed->Array Keyed->StateT SortSt Sem (Array Keyed):=sortPriv% PySem.Builtin.mergeHi
abbrev LH:=Option (Array Keyed)×Nat×Nat×Array Keyed×Nat×Nat×Nat
abbrev xZ:=Option (Array Keyed)×Nat×Nat×Array Keyed×Nat×Nat
abbrev LP:=Option (Array Keyed)×Nat×Nat×Array Keyed×Nat
def sR (x y o:Array Keyed)(i j mg p q:Nat):StateT SortSt Sem (ForInStep LH):=do
 let v <- elem' x (i-1)
 if (i-1==0)=true then pure (.done (some (x.extract 0 (i-1)++y.extract 0 j++(o.push v).reverse),i-1,j,o.push v,mg,p,q))
 else if (decide (p<7)&&decide (q<7))=true then pure (.done (none,i-1,j,o.push v,mg,p,q)) else pure (.yield (none,i-1,j,o.push v,mg,p,q))
def sS (x y o:Array Keyed)(i j mg p q:Nat):StateT SortSt Sem (ForInStep LH):=do
 let v <- elem' y (j-1)
 if (j-1==1)=true then pure (.done (some (y.extract 0 (j-1)++x.extract 0 i++(o.push v).reverse),i,j-1,o.push v,mg,p,q)) else do
  let u <- elem' x (i-1)
  match <- k4 true u y 0 (j-1) (j-1-1) with
  |some z=>
   if j-1-z>0 then
    if (z==1)=true then pure (.done (some (y.extract 0 z++x.extract 0 i++(o.push v++(y.extract z (j-1)).reverse).reverse),i,z,o.push v++(y.extract z (j-1)).reverse,mg,p,j-1-z))
    else if (z==0)=true then pure (.done (some (x.extract 0 i++y.extract 0 z++(o.push v++(y.extract z (j-1)).reverse).reverse),i,z,o.push v++(y.extract z (j-1)).reverse,mg,p,j-1-z))
    else sR x y (o.push v++(y.extract z (j-1)).reverse) i z mg p (j-1-z)
   else sR x y (o.push v) i (j-1) mg p (j-1-z)
  |_=>pure (.done (some (x.extract 0 i++y.extract 0 (j-1)++(o.push v).reverse),i,j-1,o.push v,mg,p,q))
def sT (x y o:Array Keyed)(i j mg p q:Nat):StateT SortSt Sem (ForInStep LH):=do
 mU mg
 let v <- elem' y (j-1)
 match <- k4 false v x 0 i (i-1) with
 |some z=>
  if i-z>0 then
   if (z==0)=true then pure (.done (some (x.extract 0 z++y.extract 0 j++(o++(x.extract z i).reverse).reverse),z,j,o++(x.extract z i).reverse,mg,i-z,q))
   else sS x y (o++(x.extract z i).reverse) z j mg (i-z) q
  else sS x y o i j mg (i-z) q
 |_=>pure (.done (some (x.extract 0 i++y.extract 0 j++o.reverse),i,j,o,mg,p,q))
def yA (x y o:Array Keyed)(i j mg p q:Nat):StateT SortSt Sem LH:=forIn [0:x.size+y.size] ((none,i,j,o,mg,p,q):LH) λ_ r=>
 if r.2.2.2.2.1>1 then sT x y r.2.2.2.1 r.2.1 r.2.2.1 (r.2.2.2.2.1-1) r.2.2.2.2.2.1 r.2.2.2.2.2.2 else sT x y r.2.2.2.1 r.2.1 r.2.2.1 r.2.2.2.2.1 r.2.2.2.2.2.1 r.2.2.2.2.2.2
def yB (x y o:Array Keyed)(i j mg:Nat):StateT SortSt Sem xZ:=forIn [0:x.size+y.size] ((none,i,j,o,0,0):xZ) λ_ r=>do
 let v <- elem' y (r.2.2.1-1)
 let u <- elem' x (r.2.1-1)
 match <- lt' v u with
 |some q=>
  if q=true then do
   let u <- elem' x (r.2.1-1)
   if (r.2.1-1==0)=true then pure (.done (some (x.extract 0 (r.2.1-1)++y.extract 0 r.2.2.1++(r.2.2.2.1.push u).reverse),r.2.1-1,r.2.2.1,r.2.2.2.1.push u,r.2.2.2.2.1+1,0))
   else if r.2.2.2.2.1+1 >= mg then pure (.done (none,r.2.1-1,r.2.2.1,r.2.2.2.1.push u,r.2.2.2.2.1+1,0)) else pure (.yield (none,r.2.1-1,r.2.2.1,r.2.2.2.1.push u,r.2.2.2.2.1+1,0))
  else do
   let v <- elem' y (r.2.2.1-1)
   if (r.2.2.1-1==1)=true then pure (.done (some (y.extract 0 (r.2.2.1-1)++x.extract 0 r.2.1++(r.2.2.2.1.push v).reverse),r.2.1,r.2.2.1-1,r.2.2.2.1.push v,0,r.2.2.2.2.2+1))
   else if r.2.2.2.2.2+1 >= mg then pure (.done (none,r.2.1,r.2.2.1-1,r.2.2.2.1.push v,0,r.2.2.2.2.2+1)) else pure (.yield (none,r.2.1,r.2.2.1-1,r.2.2.2.1.push v,0,r.2.2.2.2.2+1))
 |_=>pure (.done (some (x.extract 0 r.2.1++y.extract 0 r.2.2.1++r.2.2.2.1.reverse),r.2.1,r.2.2.1,r.2.2.2.1,r.2.2.2.2.1,r.2.2.2.2.2))
def T4 (x y o:Array Keyed)(i j mg:Nat):StateT SortSt Sem LP:=forIn [0:x.size+y.size] ((none,i,j,o,mg):LP) λ_ r=>do
 let u <- yB x y r.2.2.2.1 r.2.1 r.2.2.1 r.2.2.2.2
 match u.1 with
 |some z=>pure (.done (some z,u.2.1,u.2.2.1,u.2.2.2.1,r.2.2.2.2))
 |none=>do
  liftM (rule "list.sort.gallop")
  let v <- yA x y u.2.2.2.1 u.2.1 u.2.2.1 (r.2.2.2.2+1) u.2.2.2.2.1 u.2.2.2.2.2
  match v.1 with
  |some z=>pure (.done (some z,v.2.1,v.2.2.1,v.2.2.2.1,v.2.2.2.2.1))
  |none=>do
   mU (v.2.2.2.2.1+1)
   pure (.yield (none,v.2.1,v.2.2.1,v.2.2.2.1,v.2.2.2.2.1+1))
theorem aH8 (x y:Array Keyed):xY x y=(do
 liftM (rule "list.sort.merge-hi")
 let v <- elem' x (x.size-1)
 if (x.size-1==0)=true then pure (x.extract 0 (x.size-1)++y.extract 0 y.size++(#[v]:Array Keyed).reverse)
 else if (y.size==1)=true then pure (y.extract 0 y.size++x.extract 0 (x.size-1)++(#[v]:Array Keyed).reverse)
 else do
  let z <- get
  let r <- T4 x y #[v] (x.size-1) y.size (gallopOf z)
  match r.1 with
  |some z=>pure z
  |none=>unsupported "internal:list.sort.merge-bound"):=by kernel_rfl
structure MH (rk:Keyed->Int)(xs ys o:List Keyed)(i j:Nat):Prop where
 pm:o.Perm (xs.drop i++ys.drop j)
 sx:Sd rk (xs.take i++o)
 sy:Sd rk (ys.take j++o)
variable {rk:Keyed→Int}{xs ys o:List Keyed}{i j:Nat}
theorem Sd.insR {o a b d:List Keyed}(h1:Sd rk (a++o))(h2:Sd rk ((d++b)++o))(h:∀t∈a,∀u∈b,rk t<=rk u):Sd rk (a++(b++o)):=by
 unfold Sd at *
 obtain⟨p1,p2,p3⟩:=bp7.mp h1
 obtain⟨q1,q2,q3⟩:=bp7.mp h2
 obtain⟨r1,r2,r3⟩:=bp7.mp q1
 refine bp7.mpr ⟨p1,bp7.mpr ⟨r2,p2,λu hu t ht=>q3 u (bo5 _ hu) t ht⟩,λu hu t ht=>?_⟩
 rcases bn9.mp ht with z|z
 ·exact h u hu t z
 ·exact p3 u hu t z
theorem sU (l:List Keyed){z j:Nat}(h:z<=j):l.take z++(l.take j).drop z=l.take j:=by
 have e:l.take z=(l.take j).take z:=by rw[List.take_take,Nat.min_eq_left h]
 rw[e];exact bo2 z _
theorem yC (l:List Keyed){z j:Nat}(h:z<=j):(l.take j).drop z++l.drop j=l.drop z:=by
 rw[bz6,show l.drop j=(l.drop z).drop (j-z) by rw[List.drop_drop,Nat.add_sub_cancel' h]]
 exact bo2 _ _
theorem MH.ofy (m:MH rk xs ys o i j){z:Nat}(hz:z<=j)(h:∀t∈xs.take i,∀u∈(ys.take j).drop z,rk t<=rk u):MH rk xs ys ((ys.take j).drop z++o) i z:=by
 refine⟨?_,Sd.insR m.sx (d:=ys.take z) (by rw[sU _ hz];exact m.sy) h,by rw[<- bn1,sU _ hz];exact m.sy⟩
 rw[<- yC ys hz]
 refine (m.pm.append_left _).trans ?_
 rw[<- bn1,<- bn1]
 exact (by2).append_right _
theorem MH.ofx (m:MH rk xs ys o i j){z:Nat}(hz:z<=i)(h:∀t∈ys.take j,∀u∈(xs.take i).drop z,rk t<=rk u):MH rk xs ys ((xs.take i).drop z++o) z j:=by
 refine⟨?_,by rw[<- bn1,sU _ hz];exact m.sx,Sd.insR m.sy (d:=xs.take z) (by rw[sU _ hz];exact m.sx) h⟩
 rw[<- yC xs hz,bn1]
 exact m.pm.append_left _
theorem MH.fin (m:MH rk xs ys o i j)(h:i=0∨j=0):(xs.take i++ys.take j++o).Perm (xs++ys)/\Sd rk (xs.take i++ys.take j++o):=by
 refine⟨?_,?_⟩
 ·have e1:xs=xs.take i++xs.drop i:=(bo2 i xs).symm
  have e2:ys=ys.take j++ys.drop j:=(bo2 j ys).symm
  conv=>rhs;rw[e1,e2]
  rw[bn1,bn1]
  refine List.Perm.append_left _ ((m.pm.append_left _).trans ?_)
  rw[<- bn1,<- bn1]
  exact (by2).append_right _
 ·rcases h with h|h
  ·subst h;simpa using m.sy
  ·subst h;simpa using m.sx
theorem MH.fst (m:MH rk xs ys o i j)(h:∀t∈ys.take j,∀u∈xs,rk t<=rk u):(ys.take j++xs.take i++o).Perm (xs++ys)/\Sd rk (ys.take j++xs.take i++o):=by
 have m2:=m.ofx (bo0 i) λt ht u hu=>h t ht u (bz0 (List.mem_of_mem_drop hu))
 have f:=m2.fin (.inl rfl)
 simpa using f
theorem pA {x:Array Keyed}{i:Nat}{u:Keyed}(h:u∈x.toList.take i):∃t,t<i/\t<x.size/\rk u=Kr rk x t:=by
 obtain⟨t,ht,e⟩:=List.getElem_of_mem h
 have h1:t<i/\t<x.size:=by simp at ht;omega
 refine⟨t,h1.1,h1.2,?_⟩
 rw[cB h1.2,<- e]
 simp
theorem pB {x:Array Keyed}{z i:Nat}{u:Keyed}(h:u∈(x.toList.take i).drop z):∃t,z<=t/\t<i/\t<x.size/\rk u=Kr rk x t:=by
 obtain⟨t,ht,e⟩:=List.getElem_of_mem h
 have h1:z+t<i/\z+t<x.size:=by simp at ht;omega
 refine⟨z+t,by omega,h1.1,h1.2,?_⟩
 rw[cB h1.2,<- e]
 simp
theorem lJ (x:Array Keyed)(z i:Nat):(x.extract z i).toList=(x.toList.take i).drop z:=by
 rw[bz6];simp[List.extract]
theorem sV (x:Array Keyed)(i:Nat):(x.extract 0 i).toList=x.toList.take i:=by
 simp[List.extract]
theorem pC {x:Array Keyed}{i:Nat}(h:i<x.size):[x[i]]=(x.toList.take (i+1)).drop i:=by
 rw[bz6,lI h,show i+1-i=1 by omega]
section
variable {κ:SortKind}{st:SortSt}{prog:Program}{w:World}{A:Around}{E:Value→Shared→Prop}{s:Shared}{Ok:Keyed→Prop}
theorem MH.y1 {x y o:Array Keyed}(m:MH rk x.toList y.toList o.toList.reverse i (j+1))(hj:j<y.size)(h:∀t,t<i->t<x.size->Kr rk x t<=rk y[j]):MH rk x.toList y.toList (o.push y[j]).toList.reverse i j:=by
 have:=m.ofy (by5 j) λt ht u hu=>?_
 ·rw[<- pC hj]at this;simpa using this
 ·rw[<- pC hj,bl3]at hu
  subst hu
  obtain⟨q,q1,q2,q3⟩:=pA (rk:=rk) ht
  rw[q3];exact h q q1 q2
theorem MH.x1 {x y o:Array Keyed}(m:MH rk x.toList y.toList o.toList.reverse (i+1) j)(hi:i<x.size)(h:∀t,t<j->t<y.size->Kr rk y t<=rk x[i]):MH rk x.toList y.toList (o.push x[i]).toList.reverse i j:=by
 have:=m.ofx (by5 i) λt ht u hu=>?_
 ·rw[<- pC hi]at this;simpa using this
 ·rw[<- pC hi,bl3]at hu
  subst hu
  obtain⟨q,q1,q2,q3⟩:=pA (rk:=rk) ht
  rw[q3];exact h q q1 q2
theorem MH.yk {x y o:Array Keyed}(m:MH rk x.toList y.toList o.toList.reverse i j){z:Nat}(hz:z<=j)(h:∀t p,t<i->t<x.size->z<=p->p<j->p<y.size->Kr rk x t<=Kr rk y p):MH rk x.toList y.toList (o++(y.extract z j).reverse).toList.reverse i z:=by
 have:=m.ofy hz λt ht u hu=>?_
 ·rw[<- lJ]at this;simpa using this
 ·obtain⟨q,q1,q2,q3⟩:=pA (rk:=rk) ht
  obtain⟨p,p1,p2,p3,p4⟩:=pB (rk:=rk) hu
  rw[q3,p4];exact h q p q1 q2 p1 p2 p3
theorem MH.xk {x y o:Array Keyed}(m:MH rk x.toList y.toList o.toList.reverse i j){z:Nat}(hz:z<=i)(h:∀t p,t<j->t<y.size->z<=p->p<i->p<x.size->Kr rk y t<=Kr rk x p):MH rk x.toList y.toList (o++(x.extract z i).reverse).toList.reverse z j:=by
 have:=m.ofx hz λt ht u hu=>?_
 ·rw[<- lJ]at this;simpa using this
 ·obtain⟨q,q1,q2,q3⟩:=pA (rk:=rk) ht
  obtain⟨p,p1,p2,p3,p4⟩:=pB (rk:=rk) hu
  rw[q3,p4];exact h q p q1 q2 p1 p2 p3
theorem MH.done {x y o:Array Keyed}(m:MH rk x.toList y.toList o.toList.reverse i j)(hh:i=0∨j=0):eD rk x y (x.extract 0 i++y.extract 0 j++o.reverse):=by
 unfold eD
 rw[br4,br4,sV,sV,Array.toList_reverse]
 exact m.fin hh
theorem MH.frst {x y o:Array Keyed}(m:MH rk x.toList y.toList o.toList.reverse i j)(y0:0<y.size)(hf:∀t∈x.toList,rk y[0]<=rk t)(hh:j=1):eD rk x y (y.extract 0 j++x.extract 0 i++o.reverse):=by
 unfold eD
 rw[br4,br4,sV,sV,Array.toList_reverse]
 refine m.fst λt ht u hu=>?_
 subst hh
 obtain⟨q,q1,q2,q3⟩:=pA (rk:=rk) ht
 have e:q=0:=by omega
 subst e
 rw[q3,cB y0]
 exact hf u hu
structure HB (rk:Keyed->Int)(x y:Array Keyed)(lb i j:Nat)(o:Array Keyed):Prop where
 m:MH rk x.toList y.toList o.toList.reverse i j
 i0:0<i
 i1:i<x.size
 j0:1<j
 j1:j<=y.size
 pr:i+j+lb<=x.size+y.size
def HI (rk:Keyed->Int)(x y:Array Keyed)(lb:Nat)(st:SortSt)(c:LH)(st':SortSt):Prop:=Gq st st'/\∃i j o mg p q,c=(none,i,j,o,mg,p,q)/\HB rk x y lb i j o
def HQ (rk:Keyed->Int)(x y:Array Keyed)(lb:Nat)(st:SortSt)(c:LH)(st':SortSt):Prop:=Gq st st'/\((∃r i j o mg p q,c=(some r,i,j,o,mg,p,q)/\eD rk x y r)∨∃i j o mg p q,c=(none,i,j,o,mg,p,q)/\HB rk x y lb i j o)
def HR (rk:Keyed->Int)(x y:Array Keyed)(lb:Nat)(st:SortSt)(r:ForInStep LH)(st':SortSt):Prop:=match r with|.done c=>HQ rk x y lb st c st'|.yield c=>HI rk x y lb st c st'
theorem T5 {st0:SortSt}{x y o:Array Keyed}{i j mg p q lb:Nat}(g:Gq st0 st)(b:HB rk x y lb (i+1) j o)(hm:∀(hi:i<x.size) t,t<j->t<y.size->Kr rk y t<=rk x[i]):wpS (model prog w) A E s (sR x y o (i+1) j mg p q) (HR rk x y lb st0) st:=by
 unfold sR
 obtain⟨m,i0,i1,j0,j1,pr⟩:=b
 have hi':i<x.size:=by omega
 have m':=m.x1 hi' (hm hi')
 simp only[Nat.add_sub_cancel]
 refine bl5 (d7 hi' ?_)
 by_cases he:(i==0)=true
 ·rw[if_pos he]
  have he:i=0:=by simpa using he
  exact bm4 ⟨g,.inl ⟨_,_,_,_,_,_,_,rfl,m'.done (.inl he)⟩⟩
 ·rw[if_neg he]
  have he:i≠0:=by simpa using he
  split
  ·exact bm4 ⟨g,.inr ⟨_,_,_,_,_,_,rfl,m',by omega,by omega,j0,j1,by omega⟩⟩
  ·exact bm4 ⟨g,_,_,_,_,_,_,rfl,m',by omega,by omega,j0,j1,by omega⟩
theorem T6 (c:cR prog w A E s κ Ok rk){st0:SortSt}(hk:kindOf st0=κ){x y o:Array Keyed}{i j mg p q lb:Nat}(ox:bL Ok x)(oy:bL Ok y)(sx:Sd rk x.toList)(sy:Sd rk y.toList)(y0:0<y.size)(hf:∀t∈x.toList,rk y[0]<=rk t)(g:Gq st0 st)(b:HB rk x y lb (i+1) (j+1) o)(hm:∀(hj:j<y.size) t,t<i+1->t<x.size->Kr rk x t<=rk y[j]):wpS (model prog w) A E s (sS x y o (i+1) (j+1) mg p q) (HR rk x y lb st0) st:=by
 unfold sS
 obtain⟨m,i0,i1,j0,j1,pr⟩:=b
 have hi':i<x.size:=by omega
 have hj:j<y.size:=by omega
 have m':=m.y1 hj (hm hj)
 simp only[Nat.add_sub_cancel]
 refine bl5 (d7 hj ?_)
 by_cases he:(j==1)=true
 ·rw[if_pos he]
  have he:j=1:=by simpa using he
  exact bm4 ⟨g,.inl ⟨_,_,_,_,_,_,_,rfl,m'.frst y0 hf he⟩⟩
 ·rw[if_neg he]
  have he:j≠1:=by simpa using he
  refine bl5 (d7 hi' (bl5 (mT c (g.kd.trans hk) (ox _ (bp2 hi')) oy (by omega) (by omega) (sy.up _ _ (by omega)) λz k1 k2 k3=>?_)))
  dsimp only
  have ux:=sx.up 0 _ (bk9 x.size)
  have mk:=m'.yk k1 λt p ht ht' hp hp' _=>by
   have a1:=k3 p hp hp'
   rw[mW,bo8,Nat.zero_add]at a1
   have a2:=ux t i (by omega) (by omega) hi'
   rw[cB (i:=i) hi']at a2
   omega
  have km:∀(hi:i<x.size) t,t<z->t<y.size->Kr rk y t<=rk x[i]:=λ_ t ht _=>by
   have a1:=k2 t ht
   rw[mW,bm2,Nat.zero_add]at a1
   omega
  by_cases hk0:j-z>0
  ·rw[if_pos hk0]
   by_cases h1:(z==1)=true
   ·rw[if_pos h1]
    have h1:z=1:=by simpa using h1
    exact bm4 ⟨g,.inl ⟨_,_,_,_,_,_,_,rfl,mk.frst y0 hf h1⟩⟩
   ·rw[if_neg h1]
    have h1:z≠1:=by simpa using h1
    by_cases h0:(z==0)=true
    ·rw[if_pos h0]
     have h0:z=0:=by simpa using h0
     exact bm4 ⟨g,.inl ⟨_,_,_,_,_,_,_,rfl,mk.done (.inr h0)⟩⟩
    ·rw[if_neg h0]
     have h0:z≠0:=by simpa using h0
     exact T5 g ⟨mk,by omega,i1,by omega,by omega,by omega⟩ km
  ·rw[if_neg hk0]
   have e0:z=j:=by omega
   subst e0
   exact T5 g ⟨m',by omega,i1,by omega,by omega,by omega⟩ km
theorem T7 (c:cR prog w A E s κ Ok rk){st0:SortSt}(hk:kindOf st0=κ){x y o:Array Keyed}{i j mg p q lb:Nat}(ox:bL Ok x)(oy:bL Ok y)(sx:Sd rk x.toList)(sy:Sd rk y.toList)(y0:0<y.size)(hf:∀t∈x.toList,rk y[0]<=rk t)(g:Gq st0 st)(b:HB rk x y lb i (j+1) o) :
  wpS (model prog w) A E s (sT x y o i (j+1) mg p q) (HR rk x y lb st0) st:=by
 unfold sT
 obtain⟨m,i0,i1,j0,j1,pr⟩:=b
 have hj:j<y.size:=by omega
 simp only[Nat.add_sub_cancel]
 refine bl5 (sQ g λst4 q4=>bl5 (d7 hj (bl5 (mT c (q4.kd.trans hk) (oy _ (bp2 hj)) ox (by omega) (by omega) (sx.up _ _ (by omega)) λz k1 k2 k3=>?_))))
 dsimp only
 have uy:=sy.up 0 _ (bk9 y.size)
 have mk:=m.xk k1 λt p ht ht' hp hp' _=>by
  have a1:=k3 p hp hp'
  rw[mV,bo8,Nat.zero_add]at a1
  have a2:=uy t j (by omega) (by omega) hj
  rw[cB (i:=j) hj]at a2
  omega
 have km:∀(hj:j<y.size) t,t<z->t<x.size->Kr rk x t<=rk y[j]:=λ_ t ht _=>by
  have a1:=k2 t ht
  rw[mV,bm2,Nat.zero_add]at a1
  exact a1
 by_cases hk0:i-z>0
 ·rw[if_pos hk0]
  by_cases he:(z==0)=true
  ·rw[if_pos he]
   exact bm4 ⟨q4,.inl ⟨_,_,_,_,_,_,_,rfl,mk.done (.inl (by simpa using he))⟩⟩
  ·rw[if_neg he]
   have he:z≠0:=by simpa using he
   obtain⟨z2,rfl⟩:∃z2,z=z2+1:=⟨z-1,by omega⟩
   exact T6 c hk ox oy sx sy y0 hf q4 ⟨mk,by omega,by omega,j0,j1,by omega⟩ km
 ·rw[if_neg hk0]
  have e0:z=i:=by omega
  subst e0
  obtain⟨z2,rfl⟩:∃z2,z=z2+1:=⟨z-1,by omega⟩
  exact T6 c hk ox oy sx sy y0 hf q4 ⟨m,i0,i1,j0,j1,pr⟩ km
theorem aH9 (c:cR prog w A E s κ Ok rk){st0:SortSt}(hk:kindOf st0=κ){x y o:Array Keyed}{i j mg p q lb:Nat}(ox:bL Ok x)(oy:bL Ok y)(sx:Sd rk x.toList)(sy:Sd rk y.toList)(y0:0<y.size)(hf:∀t∈x.toList,rk y[0]<=rk t)(g:Gq st0 st)(b:HB rk x y lb i j o) :
  wpS (model prog w) A E s (yA x y o i j mg p q) (HQ rk x y lb st0) st:=by
 unfold yA
 refine bs1 (I:=λ_=>HI rk x y lb st0) ?_ ?_ ⟨g,i,j,o,_,p,q,rfl,b⟩
 ·rintro t c3 st3 _ _ ⟨q3,i,j,o,mg,p,q,rfl,b3⟩
  obtain⟨j3,rfl⟩:∃j3,j=j3+1:=⟨j-1,by have:=b3.j0;omega⟩
  dsimp only
  split
  ·exact by9 (T7 c hk ox oy sx sy y0 hf q3 b3) λr _ hr=>by cases r<;>exact hr
  ·exact by9 (T7 c hk ox oy sx sy y0 hf q3 b3) λr _ hr=>by cases r<;>exact hr
 ·rintro c3 st3 ⟨q3,i,j,o,mg,p,q,rfl,b3⟩
  exact⟨q3,.inr ⟨_,_,_,_,_,_,rfl,b3⟩⟩
theorem aI0 (c:cR prog w A E s κ Ok rk){st0:SortSt}(hk:kindOf st0=κ){x y o:Array Keyed}{i j mg n:Nat}{Q:xZ->SortSt->Prop}(ox:bL Ok x)(oy:bL Ok y)(sx:Sd rk x.toList)(sy:Sd rk y.toList)(y0:0<y.size)(hf:∀t∈x.toList,rk y[0]<=rk t)(g:Gq st0 st)(b:HB rk x y n i j o)(h1:∀r i' j' o' p q st',Gq st0 st'->eD rk x y r->Q (some r,i',j',o',p,q) st')(h2:∀i' j' o' p q st',Gq st0 st'->HB rk x y (n+1) i' j' o'->Q (none,i',j',o',p,q) st') :
  wpS (model prog w) A E s (yB x y o i j mg) Q st:=by
 have ux:Up rk x 0 x.size:=sx.up 0 _ (bk9 _)
 have uy:Up rk y 0 y.size:=sy.up 0 _ (bk9 _)
 unfold yB
 refine bs1 (I:=λt c st'=>Gq st0 st'/\∃i j o p q,c=(none,i,j,o,p,q)/\HB rk x y (n+t) i j o) ?_ ?_ ⟨g,i,j,o,0,0,rfl,b⟩
 ·rintro t c2 st2 _ ht ⟨q2,i',j',o,p,q,rfl,m,i0,i1,j0,j1,pr⟩
  obtain⟨i2,rfl⟩:∃i2,i'=i2+1:=⟨i'-1,by omega⟩
  obtain⟨j2,rfl⟩:∃j2,j'=j2+1:=⟨j'-1,by omega⟩
  simp only[Nat.add_sub_cancel]
  have hi:i2<x.size:=by omega
  have hj:j2<y.size:=by omega
  refine bl5 (d7 hj (bl5 (d7 hi (bl5 (c _ _ (oy _ (bp2 hj)) (ox _ (bp2 hi)) st2 _ (q2.kd.trans hk) ?_)))))
  by_cases hc:rk y[j2]<rk x[i2]
  ·rw[bn0 hc]
   dsimp only
   rw[if_pos rfl]
   have m':=m.x1 hi λt ht _=>by
    have:=uy t j2 (by omega) (by omega) hj
    rw[cB hj]at this
    omega
   refine bl5 (d7 hi ?_)
   by_cases he:(i2==0)=true
   ·rw[if_pos he]
    exact bm4 (h1 _ _ _ _ _ _ _ q2 (m'.done (.inl (by simpa using he))))
   ·rw[if_neg he]
    have he:i2≠0:=by simpa using he
    split
    ·exact bm4 (h2 _ _ _ _ _ _ q2 ⟨m',by omega,by omega,j0,j1,by omega⟩)
    ·exact bm4 ⟨q2,_,_,_,_,_,rfl,m',by omega,by omega,j0,j1,by omega⟩
  ·rw[bm3 hc]
   dsimp only
   rw[if_neg bm6]
   have m':=m.y1 hj λt ht _=>by
    have:=ux t i2 (by omega) (by omega) hi
    rw[cB hi]at this
    omega
   refine bl5 (d7 hj ?_)
   by_cases he:(j2==1)=true
   ·rw[if_pos he]
    exact bm4 (h1 _ _ _ _ _ _ _ q2 (m'.frst y0 hf (by simpa using he)))
   ·rw[if_neg he]
    have he:j2≠1:=by simpa using he
    split
    ·exact bm4 (h2 _ _ _ _ _ _ q2 ⟨m',i0,i1,by omega,by omega,by omega⟩)
    ·exact bm4 ⟨q2,_,_,_,_,_,rfl,m',i0,i1,by omega,by omega,by omega⟩
 ·rintro c2 st2 ⟨q2,i',j',o,p,q,rfl,m,i0,i1,j0,j1,pr⟩
  exact h2 _ _ _ _ _ _ q2 ⟨m,i0,i1,j0,j1,by omega⟩
theorem aI1 (c:cR prog w A E s κ Ok rk)(hk:kindOf st=κ){x y:Array Keyed}{Q:Array Keyed->SortSt->Prop}(ox:bL Ok x)(oy:bL Ok y)(sx:Sd rk x.toList)(sy:Sd rk y.toList)(x0:0<x.size)(y0:0<y.size)(hf:∀t∈x.toList,rk y[0]<=rk t)(hl:∀u∈y.toList,rk u<=rk x[x.size-1])(h:∀r st',Gq st st'->eD rk x y r->Q r st'):wpS (model prog w) A E s (xY x y) Q st:=by
 rw[aH8]
 refine bl5 (wpS_lift (bz4 ⟨rfl,bl5 (d7 (by omega:x.size-1<x.size) ?_)⟩))
 have m0:MH rk x.toList y.toList (#[x[x.size-1]]:Array Keyed).toList.reverse (x.size-1) y.size:=by
  have mm:MH rk x.toList y.toList [] x.size y.size:=⟨by simp,by rw[bu9 (by simp),bo4];exact sx,by rw[bu9 (by simp),bo4];exact sy⟩
  have e:=pC (x:=x) (i:=x.size-1) (by omega)
  rw[show x.size-1+1=x.size by omega]at e
  have:=mm.ofx (Nat.sub_le x.size 1) λt ht u hu=>?_
  ·rw[<- e]at this;simpa using this
  ·rw[<- e,bl3]at hu
   subst hu
   exact hl t (bz0 ht)
 by_cases e1:(x.size-1==0)=true
 ·rw[if_pos e1]
  exact bm4 (h _ st (Gq.refl st) (m0.done (.inl (by simpa using e1))))
 ·rw[if_neg e1]
  have e1:x.size-1≠0:=by simpa using e1
  by_cases e2:(y.size==1)=true
  ·rw[if_pos e2]
   exact bm4 (h _ st (Gq.refl st) (m0.frst y0 hf (by simpa using e2)))
  ·rw[if_neg e2]
   have e2:y.size≠1:=by simpa using e2
   refine bl5 (wpS_get ?_)
   unfold T4
   refine bl5 (by9 (bs1
    (I:=λn c st'=>Gq st st'/\∃i j o mg,c=(none,i,j,o,mg)/\HB rk x y (n+1) i j o)
    (Q:=λc st'=>Gq st st'/\∃r i j o mg,c=(some r,i,j,o,mg)/\eD rk x y r) ?_ ?_ ⟨Gq.refl st,_,_,_,_,rfl,m0,by omega,by omega,by omega,by omega,by omega⟩) ?_)
   ·rintro n c1 st1 _ hn ⟨q1,i,j,o,mg,rfl,b⟩
    dsimp only
    refine bl5 (aI0 c hk ox oy sx sy y0 hf q1 b (λr o' i' j' p q st' g md=>bm4 ⟨g,r,_,_,_,_,rfl,md⟩) λi' j' o' p q st' g b'=>?_)
    refine bl5 (wpS_lift (bz4 ⟨rfl,?_⟩))
    refine bl5 (by9 (aH9 c hk ox oy sx sy y0 hf g b') ?_)
    rintro c3 st3 ⟨q3,⟨r,i3,j3,o,mg,p,q,rfl,md⟩|⟨i3,j3,o,mg,p,q,rfl,b3⟩⟩
    ·exact bm4 ⟨q3,r,_,_,_,_,rfl,md⟩
    ·exact bl5 (sQ q3 λst4 q4=>bm4 ⟨q4,i3,j3,o,_,rfl,b3⟩)
   ·rintro c1 st1 ⟨q1,i,j,o,mg,rfl,b⟩
    have:=b.pr
    exact absurd this (by omega)
   ·rintro c1 st1 ⟨q1,r,i,j,o,mg,rfl,md⟩
    exact bm4 (h r _ q1 md)
end
theorem aI2 (i:Nat):mergeAt' i=(do
 let z <- get
 let (some (sa,na,pw),some (sb,nb,_)):=((pendingOf z)[i]?,(pendingOf z)[i+1]?)|unsupported "internal:list.sort.pending"
 set (SortSt.mk' (kindOf z) (arrOf z) (((pendingOf z).setIfInBounds i (sa,na+nb,pw)).eraseIdxIfInBounds (i+1)) (gallopOf z) (failedOf z))
 let some k <- k4 false (<- elem' (arrOf z) sb) (arrOf z) sa na 0|return false
 let (sa,na):=(sa+k,na-k)
 if na==0 then return true
 let some nb <- k4 true (<- elem' (arrOf z) (sa+na-1)) (arrOf z) sb nb (nb-1)|return false
 if nb==0 then return true
 let x:=(arrOf z).extract sa sb
 let y:=(arrOf z).extract sb (sb+nb)
 let m <- if na<=nb then xU x y else xY x y
 modify λz=>setArr z (m.toList.zipIdx.foldl (λa (p,j)=>a.setIfInBounds (sa+j) p) (arrOf z))
 return (failedOf (<- get)).isNone):=rfl
variable {rk:Keyed→Int}
theorem aI3 {σ:Type}{M:Model}{A:Around}{E:Value->Shared->Prop}{s:Shared}{a b:σ}{Q:PUnit->σ->Prop}(h:Q ⟨⟩ a):wpS M A E s (set a:StateT σ Sem PUnit) Q b:=by
 unfold wpS;rw[StateT.run_set];exact bl0 ⟨rfl,h⟩
theorem T8 (o:Nat):∀(m:List Keyed) (n:Nat) (a:Array Keyed) (t:Nat),o+n+m.length<=a.size->
  ((m.zipIdx n).foldl (λa (p,j)=>a.setIfInBounds (o+j) p) a)[t]? = if o+n<=t/\t<o+n+m.length then m[t-(o+n)]? else a[t]?
 |[],n,a,t,_=>by
  show a[t]? = _
  rw[if_neg (λz=>Nat.not_lt_of_ge z.1 z.2)]
 |p::m,n,a,t,h=>by
  rw[List.zipIdx_cons,List.foldl_cons]
  have h':o+(n+1)+m.length<=(a.setIfInBounds (o+n) p).size:=by rw[Array.size_setIfInBounds];simp at h;omega
  have ih:=T8 o m (n+1) (a.setIfInBounds (o+n) p) t h'
  refine ih.trans ?_
  have hs:o+n<a.size:=by simp at h;omega
  rw[Array.getElem?_setIfInBounds]
  by_cases e:o+n=t
  ·subst e
   rw[if_neg (by omega),if_pos rfl,if_pos hs,if_pos (by simp),Nat.sub_self];rfl
  ·rw[if_neg e]
   by_cases c:o+n<=t/\t<o+n+(p::m).length
   ·rw[if_pos c,if_pos (by simp at c;omega)]
    rw[show t-(o+n)=(t-(o+(n+1)))+1 by omega];rfl
   ·rw[if_neg c,if_neg (by simp at c ⊢;omega)]
theorem T9 {a:Array Keyed}{lo hi:Nat}(u:Up rk a lo hi)(hh:hi<=a.size):Sd rk (a.extract lo hi).toList:=by
 unfold Sd
 rw[br9]
 intro i j hi' hj hij
 have h2:lo+j<hi:=by simp at hj;omega
 have:=u (lo+i) (lo+j) (by omega) (by omega) h2
 rw[cB (by omega:lo+i<a.size),cB (by omega:lo+j<a.size)]at this
 simpa using this
theorem U0 {a:Array Keyed}{lo mid hi:Nat}(u:Up rk a lo mid)(v:Up rk a mid hi)(h0:lo<mid)(h1:mid<hi)(h:Kr rk a (mid-1)<=Kr rk a mid):Up rk a lo hi:=λi j hi' hij hj=>by
 rcases bq3 j mid with z|z
 ·exact u i j hi' hij z
 ·rcases bq3 i mid with y|y
  ·have a1:=u i (mid-1) hi' (by omega) (by omega)
   have a2:=v mid j (bk9 _) z hj
   omega
  ·exact v i j y hij hj
theorem U1 {a:Array Keyed}{lo hi t:Nat}(h:t<hi-lo)(hh:hi<=a.size):Kr rk (a.extract lo hi) t=Kr rk a (lo+t):=by
 refine lG ?_
 rw[Array.getElem?_extract_of_lt (by omega)]
 exact (getElem?_pos a (lo+t) (by omega)).symm
section
variable {κ:SortKind}{a0:Array Keyed}{pd:Array (Nat×Nat×Nat)}{st:SortSt}{prog:Program}{w:World}{A:Around}{E:Value→Shared→Prop}{s:Shared}{Ok:Keyed→Prop}
theorem aI4 {a m:Array Keyed}{p x e:Nat}(hpx:p<=x)(hxe:x<=e)(he:e<=a.size)(md:eD rk (a.extract p x) (a.extract x e) m) :
  let r:=m.toList.zipIdx.foldl (λa (q,j)=>a.setIfInBounds (p+j) q) a
  r.Perm a/\(∀t,(t<p∨e<=t)->Kr rk r t=Kr rk a t)/\(∀t t',p<=t->t<=t'->t'<e->Kr rk r t<=Kr rk r t')/\∀t,p<=t->t<e->∃t',p<=t'/\t'<e/\Kr rk r t=Kr rk a t':=by
 intro r
 have ml:m.toList.length=e-p:=by
  rw[md.1.length_eq];simp;omega
 have g:∀t,r[t]? = if p<=t/\t<e then m[t-p]? else a[t]?:=λt=>by
  have:=T8 p m.toList 0 a t (by omega)
  rw[show r=(m.toList.zipIdx 0).foldl (λa (q,j)=>a.setIfInBounds (p+j) q) a from rfl,this]
  simp only[Nat.add_zero,ml,show p+(e-p)=e by omega,bv5]
 have ex:(a.extract p x).toList++(a.extract x e).toList=(a.toList.take e).drop p:=by
  rw[lJ,lJ,bz6,bz6,bz6]
  rw[show x=p+(x-p) by omega,<- List.drop_drop,show p+(x-p)-p=x-p by omega,show e-(p+(x-p))=(e-p)-(x-p) by omega]
  have:=bo2 (x-p) ((a.toList.drop p).take (e-p))
  rw[List.take_take,bz6,Nat.min_eq_left (by omega)]at this
  exact this
 have rl:r.toList=a.toList.take p++(m.toList++a.toList.drop e):=by
  apply List.ext_getElem?
  intro t
  rw[bv5,g]
  rcases bq3 t p with z|z
  ·rw[if_neg (by omega),br8 (by simp;omega),List.getElem?_take_of_lt z,bv5]
  ·rw[bu6 (by simp;omega)]
   have lp:(a.toList.take p).length=p:=by simp;omega
   rw[lp]
   rcases bq3 t e with y|y
   ·rw[if_pos ⟨z,y⟩,br8 (by omega),bv5]
   ·rw[if_neg (by omega),bu6 (by omega),ml,List.getElem?_drop,bv5]
    congr 1;omega
 have mp:m.toList.Perm ((a.toList.take e).drop p):=ex▸md.1
 refine⟨?_,λt ht=>lG (by rw[g,if_neg (by omega)]),λt t' h1 h2 h3=>?_,λt h1 h2=>?_⟩
 ·refine Array.perm_iff_toList_perm.mpr ?_
  rw[rl]
  have:a.toList=a.toList.take p++((a.toList.take e).drop p++a.toList.drop e):=by
   rw[yC _ (by omega:p<=e)];exact (bo2 p _).symm
  conv=>rhs;rw[this]
  exact (mp.append_right _).append_left _
 ·have e1:Kr rk r t=Kr rk m (t-p):=lG (by rw[g,if_pos (by omega)])
  have e2:Kr rk r t'=Kr rk m (t'-p):=lG (by rw[g,if_pos (by omega)])
  rw[e1,e2]
  have ms:m.size=e-p:=by rw[<- ml];simp
  exact md.2.up 0 m.size (bk9 _) (t-p) (t'-p) (by omega) (by omega) (by omega)
 ·have e1:Kr rk r t=Kr rk m (t-p):=lG (by rw[g,if_pos (by omega)])
  have ms:m.size=e-p:=by rw[<- ml];simp
  have hm:t-p<m.size:=by omega
  have mm:m[t-p]∈(a.toList.take e).drop p:=mp.mem_iff.mp (by simp)
  obtain⟨t',q1,q2,q3,q4⟩:=pB (rk:=rk) mm
  exact⟨t',q1,q2,by rw[e1,cB hm];exact q4⟩
theorem aI5 (c:cR prog w A E s κ Ok rk)(o:bL Ok a0)(b:SB κ a0 pd st){i sa na pw sb nb pw':Nat}{Q:Bool->SortSt->Prop}(e1:pd[i]? = some (sa,na,pw))(e2:pd[i+1]? = some (sb,nb,pw'))(hs:sb=sa+na)(n0:0<na)(m0:0<nb)(hz:sb+nb<=a0.size)(u:Up rk (arrOf st) sa sb)(v:Up rk (arrOf st) sb (sb+nb))(h:∀st',SB κ a0 ((pd.setIfInBounds i (sa,na+nb,pw)).eraseIdxIfInBounds (i+1)) st'->Up rk (arrOf st') sa (sb+nb)->(∀t,(t<sa∨sb+nb<=t)->Kr rk (arrOf st') t=Kr rk (arrOf st) t)->Q true st'):wpS (model prog w) A E s (mergeAt' i) Q st:=by
 have sz:=b.sz
 rw[aI2]
 refine bl5 (wpS_get ?_)
 rw[b.pd,e1,e2]
 dsimp only
 refine bl5 (aI3 ?_)
 generalize hst:SortSt.mk' (kindOf st) (arrOf st) ((pd.setIfInBounds i (sa,na+nb,pw)).eraseIdxIfInBounds (i+1)) (gallopOf st) (failedOf st)=st1
 have b1:SB κ a0 ((pd.setIfInBounds i (sa,na+nb,pw)).eraseIdxIfInBounds (i+1)) st1:=by rw[<- hst];exact⟨b.pm,b.kd,b.ok,rfl⟩
 have ar:arrOf st1=arrOf st:=by rw[<- hst]
 have oa:=b.all o
 have hsb:sb<(arrOf st).size:=by omega
 refine bl5 (d7 hsb (bl5 (mT c b1.kd (oa _ (bp2 hsb)) oa n0 (by omega) (hs▸u) λk k1 k2 k3=>?_)))
 dsimp only
 have k2':∀t,sa<=t->t<sa+k->Kr rk (arrOf st) t<=Kr rk (arrOf st) sb:=λt t1 t2=>by
  have:=k2 (t-sa) (by omega)
  rw[mV,bm2,show sa+(t-sa)=t by omega]at this
  rw[cB hsb];exact this
 have k3':∀t,sa+k<=t->t<sb->Kr rk (arrOf st) sb<Kr rk (arrOf st) t:=λt t1 t2=>by
  have:=k3 (t-sa) (by omega) (by omega)
  rw[mV,bo8,show sa+(t-sa)=t by omega]at this
  rw[cB hsb];omega
 by_cases ek:(na-k==0)=true
 ·rw[if_pos ek]
  have ek:na-k=0:=by simpa using ek
  refine bm4 (h st1 b1 ?_ λt _=>by rw[ar])
  rw[ar]
  exact U0 u v (by omega) (by omega) (k2' (sb-1) (by omega) (by omega))
 ·rw[if_neg ek]
  have ek:na-k≠0:=by simpa using ek
  have el:sa+k+(na-k)-1=sb-1:=by omega
  rw[el]
  have hsl:sb-1<(arrOf st).size:=by omega
  refine bl5 (d7 hsl (bl5 (mT c b1.kd (oa _ (bp2 hsl)) oa (by omega) (by omega) v λl l1 l2 l3=>?_)))
  dsimp only
  have l2':∀t,sb<=t->t<sb+l->Kr rk (arrOf st) t<Kr rk (arrOf st) (sb-1):=λt t1 t2=>by
   have:=l2 (t-sb) (by omega)
   rw[mW,bm2,show sb+(t-sb)=t by omega]at this
   rw[cB hsl];exact this
  have l3':∀t,sb+l<=t->t<sb+nb->Kr rk (arrOf st) (sb-1)<=Kr rk (arrOf st) t:=λt t1 t2=>by
   have:=l3 (t-sb) (by omega) (by omega)
   rw[mW,bo8,show sb+(t-sb)=t by omega]at this
   rw[cB hsl];omega
  by_cases en:(l==0)=true
  ·rw[if_pos en]
   have en:l=0:=by simpa using en
   subst en
   refine bm4 (h st1 b1 ?_ λt _=>by rw[ar])
   rw[ar]
   exact U0 u v (by omega) (by omega) (l3' sb (by omega) (by omega))
  ·rw[if_neg en]
   have en:l≠0:=by simpa using en
   have sub:∀p e,bL Ok ((arrOf st).extract p e):=λp e z hz=>oa z (by
    have:z∈((arrOf st).extract p e).toList:=Array.mem_toList_iff.mpr hz
    rw[lJ]at this
    exact Array.mem_toList_iff.mp (bz0 (List.mem_of_mem_drop this)))
   have sx:Sd rk ((arrOf st).extract (sa+k) sb).toList:=T9 (λi j h1 h2 h3=>u i j (by omega) h2 h3) (by omega)
   have sy:Sd rk ((arrOf st).extract sb (sb+l)).toList:=T9 (λi j h1 h2 h3=>v i j h1 h2 (by omega)) (by omega)
   have x0:0<((arrOf st).extract (sa+k) sb).size:=by simp;omega
   have y0:0<((arrOf st).extract sb (sb+l)).size:=by simp;omega
   have hf:∀t∈((arrOf st).extract (sa+k) sb).toList,rk ((arrOf st).extract sb (sb+l))[0]<=rk t:=λt ht=>by
    rw[lJ]at ht
    obtain⟨t',q1,q2,q3,q4⟩:=pB (rk:=rk) ht
    rw[q4,<- cB (rk:=rk) y0,U1 (by omega) (by omega)]
    exact Int.le_of_lt (k3' t' q1 q2)
   have hl:∀t∈((arrOf st).extract sb (sb+l)).toList,rk t<=rk ((arrOf st).extract (sa+k) sb)[((arrOf st).extract (sa+k) sb).size-1]:=λt ht=>by
    rw[lJ]at ht
    obtain⟨t',q1,q2,q3,q4⟩:=pB (rk:=rk) ht
    have e:((arrOf st).extract (sa+k) sb).size=sb-(sa+k):=by simp;omega
    rw[q4,<- cB (rk:=rk) (by omega),U1 (by omega) (by omega),e,show sa+k+(sb-(sa+k)-1)=sb-1 by omega]
    exact Int.le_of_lt (l2' t' q1 q2)
   have fin:∀(m:Array Keyed) (st2:SortSt),Gq st1 st2->eD rk ((arrOf st).extract (sa+k) sb) ((arrOf st).extract sb (sb+l)) m->
     wpS (model prog w) A E s (do modify (λz=>setArr z (m.toList.zipIdx.foldl (λa (p,j)=>a.setIfInBounds (sa+k+j) p) (arrOf z)));return (failedOf (<- get)).isNone) Q st2:=λm st2 g md=>by
    have b2:SB κ a0 ((pd.setIfInBounds i (sa,na+nb,pw)).eraseIdxIfInBounds (i+1)) st2:=⟨by rw[g.ar];exact b1.pm,g.kd.trans b1.kd,g.ok.trans b1.ok,g.pd.trans b1.pd⟩
    have a2:arrOf st2=arrOf st:=g.ar.trans ar
    obtain⟨r1,r2,r3,r4⟩:=aI4 (by omega) (by omega) (by omega) md
    generalize hr:m.toList.zipIdx.foldl (λa (q,j)=>a.setIfInBounds (sa+k+j) q) (arrOf st)=r at r1 r2 r3 r4
    refine bl5 (wpS_modify (bl5 (wpS_get (bm4 ?_))))
    have b3:=b2.put (xs:=m.toList.zipIdx.foldl (λa (q,j)=>a.setIfInBounds (sa+k+j) q) (arrOf st2)) (by rw[a2,hr];exact r1)
    have er:arrOf (setArr st2 (m.toList.zipIdx.foldl (λa (q,j)=>a.setIfInBounds (sa+k+j) q) (arrOf st2)))=r:=by rw[<- hr,a2]
    have tr:(failedOf (setArr st2 (m.toList.zipIdx.foldl (λa (q,j)=>a.setIfInBounds (sa+k+j) q) (arrOf st2)))).isNone=true:=by rw[b3.ok];rfl
    rw[tr]
    refine h _ b3 (λi j hi hij hj=>?_) λt ht=>?_
    ·rw[er]
     have bl:∀t,sa<=t->t<sa+k->∀t',sa+k<=t'->t'<sb+l->Kr rk (arrOf st) t<=Kr rk (arrOf st) t':=λt t1 t2 t' t3 t4=>by
      rcases bq3 t' sb with z|z
      ·exact u t t' t1 (by omega) z
      ·have a1:=k2' t t1 t2
       have a2:=v sb t' (bk9 _) z (by omega)
       omega
     have br:∀t,sb+l<=t->t<sb+nb->∀t',sa+k<=t'->t'<sb+l->Kr rk (arrOf st) t'<=Kr rk (arrOf st) t:=λt t1 t2 t' t3 t4=>by
      rcases bq3 t' sb with z|z
      ·have a1:=u t' (sb-1) (by omega) (by omega) (by omega)
       have a2:=l3' t t1 t2
       omega
      ·exact v t' t z (by omega) t2
     have blr:∀t,sa<=t->t<sa+k->∀t',sb+l<=t'->t'<sb+nb->Kr rk (arrOf st) t<=Kr rk (arrOf st) t':=λt t1 t2 t' t3 t4=>by
      have a1:=bl t t1 t2 (sb-1) (by omega) (by omega)
      have a2:=l3' t' t3 t4
      omega
     rcases bq3 i (sa+k) with z|z
     ·rw[r2 i (.inl z)]
      rcases bq3 j (sa+k) with y|y
      ·rw[r2 j (.inl y)];exact u i j hi hij (by omega)
      ·rcases bq3 j (sb+l) with x|x
       ·obtain⟨t',q1,q2,q3⟩:=r4 j y x
        rw[q3];exact bl i hi z t' q1 q2
       ·rw[r2 j (.inr x)];exact blr i hi z j x hj
     ·rcases bq3 j (sb+l) with x|x
      ·exact r3 i j z hij x
      ·rw[r2 j (.inr x)]
       rcases bq3 i (sb+l) with y|y
       ·obtain⟨t',q1,q2,q3⟩:=r4 i z y
        rw[q3];exact br j x hj t' q1 q2
       ·rw[r2 i (.inr y)];exact v i j (by omega) hij hj
    ·rw[er];exact r2 t (by omega)
   by_cases hle:na-k<=l
   ·rw[if_pos hle]
    exact bl5 (aH7 c b1.kd (sub _ _) (sub _ _) sx sy x0 y0 hf hl λm st2 g md=>fin m st2 g md)
   ·rw[if_neg hle]
    exact bl5 (aI1 c b1.kd (sub _ _) (sub _ _) sx sy x0 y0 hf hl λm st2 g md=>fin m st2 g md)
end
def Ch:Nat->List (Nat×Nat)->Nat->Prop
 |a,[],b=>a=b
 |a,(p,n)::r,b=>p=a/\0<n/\Ch (a+n) r b
theorem Ch.split:∀{l l':List (Nat×Nat)}{a b:Nat},Ch a (l++l') b->∃m,Ch a l m/\Ch m l' b
 |[],_,a,_,h=>⟨a,rfl,h⟩
 |(p,n)::l,l',a,b,h=>by
  obtain⟨h1,h2,h3⟩:=h
  obtain⟨m,q1,q2⟩:=Ch.split h3
  exact⟨m,⟨h1,h2,q1⟩,q2⟩
theorem Ch.join:∀{l l':List (Nat×Nat)}{a m b:Nat},Ch a l m->Ch m l' b->Ch a (l++l') b
 |[],_,a,m,_,h,h'=>by cases (show a=m from h);exact h'
 |(p,n)::l,l',a,m,b,h,h'=>⟨h.1,h.2.1,Ch.join h.2.2 h'⟩
theorem Ch.len:∀{l:List (Nat×Nat)}{a b:Nat},Ch a l b->a+l.length<=b
 |[],a,b,h=>by cases (show a=b from h);simp
 |(p,n)::l,a,b,h=>by
  have:=Ch.len h.2.2
  have:=h.2.1
  simp;omega
theorem Ch.mem:∀{l:List (Nat×Nat)}{a b:Nat}{r:Nat×Nat},Ch a l b->r∈l->a<=r.1/\r.1+r.2<=b/\0<r.2
 |(p,n)::l,a,b,r,h,hr=>by
  obtain⟨h1,h2,h3⟩:=h
  have hb:=Ch.len h3
  rcases bl2.mp hr with e|e
  ·subst e
   have h1:p=a:=h1
   refine⟨?_,?_,h2⟩
   ·show a<=p;omega
   ·show p+n<=b;omega
  ·have:=Ch.mem h3 e
   exact⟨by omega,this.2.1,this.2.2⟩
def sk (pd:Array (Nat×Nat×Nat)):List (Nat×Nat):=pd.toList.map λr=>(r.1,r.2.1)
theorem sW (pd:Array (Nat×Nat×Nat)):(sk pd).length=pd.size:=by simp[sk]
structure Rn (rk:Keyed->Int)(a:Array Keyed)(l:List (Nat×Nat))(lo:Nat):Prop where
 ch:Ch 0 l lo
 up:∀r∈l,Up rk a r.1 (r.1+r.2)
variable {rk:Keyed→Int}{κ:SortKind}{a0:Array Keyed}{pd:Array (Nat×Nat×Nat)}{st:SortSt}{prog:Program}{w:World}{A:Around}{E:Value→Shared→Prop}{s:Shared}{Ok:Keyed→Prop}
theorem Rn.same {a b:Array Keyed}{l:List (Nat×Nat)}{lo:Nat}(h:Rn rk a l lo)(e:∀t,t<lo->Kr rk b t=Kr rk a t):Rn rk b l lo:=⟨h.ch,λr hr i j hi hij hj=>by
 have:=(h.ch.mem hr).2.1
 rw[e i (by omega),e j (by omega)]
 exact h.up r hr i j hi hij hj⟩
theorem U2 (c:cR prog w A E s κ Ok rk)(o:bL Ok a0)(b:SB κ a0 pd st){i lo:Nat}{Q:Bool->SortSt->Prop}(hi:i+1<pd.size)(hz:lo<=a0.size)(rn:Rn rk (arrOf st) (sk pd) lo)(h:∀pd' st',SB κ a0 pd' st'->pd'.size+1=pd.size->Rn rk (arrOf st') (sk pd') lo->(∀t,lo<=t->Kr rk (arrOf st') t=Kr rk (arrOf st) t)->Q true st'):wpS (model prog w) A E s (mergeAt' i) Q st:=by
 obtain⟨⟨sa,na,pw⟩,e1⟩:∃r,pd[i]? = some r:=⟨pd[i],getElem?_pos pd i (by omega)⟩
 obtain⟨⟨sb,nb,pw'⟩,e2⟩:∃r,pd[i+1]? = some r:=⟨pd[i+1],getElem?_pos pd (i+1) hi⟩
 have d1:pd.toList=pd.toList.take i++(sa,na,pw)::(sb,nb,pw')::pd.toList.drop (i+2):=by
  have hl:i<pd.toList.length:=by simp;omega
  have hl2:i+1<pd.toList.length:=by simpa using hi
  have g1:pd.toList[i]=(sa,na,pw):=by rw[getElem?_pos pd i (by omega)]at e1;simpa using e1
  have g2:pd.toList[i+1]=(sb,nb,pw'):=by rw[getElem?_pos pd (i+1) hi]at e2;simpa using e2
  have:=bo2 i pd.toList
  rw[List.drop_eq_getElem_cons hl,List.drop_eq_getElem_cons hl2,g1,g2]at this
  exact this.symm
 have li:(pd.toList.take i).length=i:=by simp;omega
 have d2:((pd.setIfInBounds i (sa,na+nb,pw)).eraseIdxIfInBounds (i+1)).toList=pd.toList.take i++(sa,na+nb,pw)::pd.toList.drop (i+2):=by
  have e:((pd.setIfInBounds i (sa,na+nb,pw)).eraseIdxIfInBounds (i+1)).toList=(pd.toList.set i (sa,na+nb,pw)).eraseIdx (i+1):=by
   unfold Array.eraseIdxIfInBounds
   rw[dif_pos (by rw[Array.size_setIfInBounds];exact hi),Array.toList_eraseIdx,Array.toList_setIfInBounds]
  rw[e]
  conv=>lhs;rw[d1]
  rw[List.set_append_right _ _ (by omega),li,Nat.sub_self,List.set_cons_zero,List.eraseIdx_append_of_length_le (by omega),li,show i+1-i=1 by omega]
  rfl
 have k1:sk pd=(pd.toList.take i).map (λr=>(r.1,r.2.1))++(sa,na)::(sb,nb)::(pd.toList.drop (i+2)).map (λr=>(r.1,r.2.1)):=by
  unfold sk;conv=>lhs;rw[d1]
  simp
 have k2:sk ((pd.setIfInBounds i (sa,na+nb,pw)).eraseIdxIfInBounds (i+1))=(pd.toList.take i).map (λr=>(r.1,r.2.1))++(sa,na+nb)::(pd.toList.drop (i+2)).map (λr=>(r.1,r.2.1)):=by
  unfold sk;rw[d2]
  simp
 have ch:=rn.ch
 rw[k1]at ch
 obtain⟨m,c1,c2⟩:=ch.split
 obtain⟨f1,f2,f3,f4,f5⟩:=c2
 have f1:sa=m:=f1
 have f3:sb=m+na:=f3
 have up:=rn.up
 rw[k1]at up
 have lo2:=f5.len
 refine aI5 c o b e1 e2 (by omega) f2 f4 (by omega) (by have:=up (sa,na) (by simp);rw[f3,<- f1];exact this) (up (sb,nb) (by simp)) λst' b' u' fr=>h _ st' b' ?_ ⟨?_,?_⟩ λt ht=>fr t (by omega)
 ·rw[<- sW,<- sW,k1,k2];simp;omega
 ·rw[k2]
  refine c1.join ⟨f1,by omega,?_⟩
  rw[<- Nat.add_assoc];exact f5
 ·intro r hr
  rw[k2]at hr
  rcases bn9.mp hr with z|z
  ·intro p q h1 h2 h3
   have:=(c1.mem z).2.1
   rw[fr p (by omega),fr q (by omega)]
   exact up r (bt9 _ z) p q h1 h2 h3
  ·rcases bl2.mp z with z|z
   ·subst z
    show Up rk (arrOf st') sa (sa+(na+nb))
    rw[show sa+(na+nb)=sb+nb by omega];exact u'
   ·intro p q h1 h2 h3
    have:=(f5.mem z).1
    rw[fr p (by omega),fr q (by omega)]
    exact up r (bo5 _ (bm9 _ (bm9 _ z))) p q h1 h2 h3
abbrev RS:=Option Unit×Nat
def U3 (sz pw:Nat):StateT SortSt Sem (Option Unit×Unit):=forIn [0:sz] ((none,()):Option Unit×Unit) λ_ _=>do
 let z <- get
 match (if (pendingOf z).size>1 then (pendingOf z)[(pendingOf z).size-2]? else none) with
 |some (_,_,o)=>if o<=pw then pure (.done (none,())) else do
   let q <- mergeAt' ((pendingOf z).size-2)
   if (!q)=true then pure (.done (some (),())) else pure (.yield (none,()))
 |_=>pure (.done (none,()))
def jn (sz lo n:Nat):StateT SortSt Sem (ForInStep RS):=do
 let z <- get
 match (pendingOf z).back? with
 |some (s1,n1,_)=>do
  let r <- U3 sz (power' sz (2*s1+n1) (2*s1+n1+n1+n) sz)
  match r.1 with
  |some u=>pure (.done (some u,lo))
  |none=>do
   modify λs=>setPending s ((pendingOf s).modify ((pendingOf s).size-1) λx=>(x.1,x.2.1,power' sz (2*s1+n1) (2*s1+n1+n1+n) sz))
   modify λs=>setPending s ((pendingOf s).push (lo,n,0))
   pure (.yield (none,lo+n))
 |_=>do
  modify λs=>setPending s ((pendingOf s).push (lo,n,0))
  pure (.yield (none,lo+n))
def U4 (sz mr lo:Nat):StateT SortSt Sem (ForInStep RS):=if lo >= sz then pure (.done (none,lo)) else do
 match <- countRun' lo (sz-lo) with
 |some n=>
  if n<mr then
   liftM (rule "list.sort.binary-insertion")
   let q <- binarySort' lo (min (sz-lo) mr) n
   if (!q)=true then pure (.done (some (),lo)) else jn sz lo (min (sz-lo) mr)
  else jn sz lo n
 |_=>pure (.done (some (),lo))
def U5 (sz:Nat):StateT SortSt Sem (Option Unit×Unit):=forIn [0:sz] ((none,()):Option Unit×Unit) λ_ _=>do
 let z <- get
 if (pendingOf z).size<=1 then pure (.done (none,())) else do
  let q <- mergeAt' (if ((if (pendingOf z).size-2>0 then (pendingOf z)[(pendingOf z).size-2-1]?.map (·.2.1) else none).any (·<((pendingOf z)[(pendingOf z).size-2+1]?.elim 0 (·.2.1))))=true then (pendingOf z).size-2-1 else (pendingOf z).size-2)
  if (!q)=true then pure (.done (some (),())) else pure (.yield (none,()))
theorem aI6:sortRuns'=(do
 let z <- get
 let r <- (forIn [0:(arrOf z).size] ((none,0):RS) λ_ r=>U4 (arrOf z).size (minRun' (arrOf z).size (arrOf z).size 0) r.2)
 match r.1 with
 |some u=>pure u
 |none=>do
  let q <- U5 (arrOf z).size
  match q.1 with
  |some u=>pure u
  |none=>pure ()):=by kernel_rfl
theorem U6 {lo nn:Nat}(n1:0<nn){pd:Array (Nat×Nat×Nat)}{a:Array Keyed}(r:Rn rk a (sk pd) lo)(u:Up rk a lo (lo+nn)):Rn rk a (sk (pd.push (lo,nn,0))) (lo+nn):=by
 have e:sk (pd.push (lo,nn,0))=sk pd++[(lo,nn)]:=by simp[sk]
 refine⟨by rw[e];exact r.ch.join ⟨rfl,n1,rfl⟩,λq hq=>?_⟩
 rw[e]at hq
 rcases bn9.mp hq with z|z
 ·exact r.up q z
 ·rw[bl3]at z
  subst z
  exact u
theorem U7 (c:cR prog w A E s κ Ok rk)(o:bL Ok a0)(b:SB κ a0 pd st){lo n:Nat}{Q:ForInStep RS->SortSt->Prop}(n1:1<=n)(n2:lo+n<=a0.size)(rn:Rn rk (arrOf st) (sk pd) lo)(u:Up rk (arrOf st) lo (lo+n))(h:∀pd' st',SB κ a0 pd' st'->Rn rk (arrOf st') (sk pd') (lo+n)->Q (.yield (none,lo+n)) st'):wpS (model prog w) A E s (jn a0.size lo n) Q st:=by
 unfold jn
 refine bl5 (wpS_get ?_)
 rw[b.pd]
 cases hb:pd.back? with
 |none=>exact bl5 (wpS_modify (bm4 (h (pd.push (lo,n,0)) _ ⟨b.pm,b.kd,b.ok,by show (pendingOf st).push _=_;rw[b.pd]⟩ (U6 n1 rn u))))
 |some q=>
  obtain⟨s1,m1,q3⟩:=q
  dsimp only
  generalize power' a0.size (2*s1+m1) (2*s1+m1+m1+n) a0.size=pw
  unfold U3
  refine bl5 (by9 (bs1
   (I:=λ_ r st'=>r=(none,())/\∃pd,SB κ a0 pd st'/\Rn rk (arrOf st') (sk pd) lo/\Up rk (arrOf st') lo (lo+n))
   (Q:=λr st'=>r=(none,())/\∃pd,SB κ a0 pd st'/\Rn rk (arrOf st') (sk pd) lo/\Up rk (arrOf st') lo (lo+n)) ?_ (λ_ _ z=>z) ⟨rfl,pd,b,rn,u⟩) ?_)
  ·rintro t r st4 _ ht ⟨rfl,pd4,b4,r4,u4⟩
   refine bl5 (wpS_get ?_)
   rw[b4.pd]
   cases ho:(if pd4.size>1 then pd4[pd4.size-2]? else none) with
   |none=>exact bm4 ⟨rfl,pd4,b4,r4,u4⟩
   |some z=>
    obtain⟨z1,z2,z3⟩:=z
    have h1:pd4.size>1:=by
     by_cases y:pd4.size>1
     ·exact y
     ·rw[if_neg y]at ho;cases ho
    dsimp only
    by_cases hp:z3<=pw
    ·rw[if_pos hp]
     exact bm4 ⟨rfl,pd4,b4,r4,u4⟩
    ·rw[if_neg hp]
     refine bl5 (U2 c o b4 (by omega) (by omega) r4 λpd5 st5 b5 _ r5 f5=>?_)
     exact bm4 ⟨rfl,pd5,b5,r5,λi j hi hij hj=>by rw[f5 i hi,f5 j (by omega)];exact u4 i j hi hij hj⟩
  ·rintro r st4 ⟨rfl,pd4,b4,r4,u4⟩
   refine bl5 (wpS_modify (bl5 (wpS_modify (bm4 ?_))))
   have e:sk (pd4.modify (pd4.size-1) λx=>(x.1,x.2.1,pw))=sk pd4:=by
    unfold sk
    rw[Array.toList_modify]
    apply List.ext_getElem?
    intro t
    rw[bm7,bm7,List.getElem?_modify]
    cases pd4.toList[t]? with
    |none=>simp
    |some v=>by_cases y:pd4.size-1=t<;>simp[y]
   refine h ((pd4.modify (pd4.size-1) λx=>(x.1,x.2.1,pw)).push (lo,n,0)) _ ⟨b4.pm,b4.kd,b4.ok,?_⟩ (U6 n1 (by rw[e];exact r4) u4)
   show ((pendingOf st4).modify ((pendingOf st4).size-1) λx=>(x.1,x.2.1,pw)).push _=_
   rw[b4.pd]
theorem aI7 (c:cR prog w A E s κ Ok rk)(o:bL Ok a0)(b:SB κ a0 #[] st){Q:Unit->SortSt->Prop}(h2:1<=a0.size)(h:∀st',(arrOf st').Perm a0->failedOf st'=none->Up rk (arrOf st') 0 a0.size->Q () st'):wpS (model prog w) A E s sortRuns' Q st:=by
 rw[aI6]
 refine bl5 (wpS_get ?_)
 rw[b.sz]
 generalize minRun' a0.size a0.size 0=mr
 refine bl5 (by9 (bs1
  (I:=λx r st'=>∃lo pd,r=(none,lo)/\x<=lo/\lo<=a0.size/\SB κ a0 pd st'/\Rn rk (arrOf st') (sk pd) lo)
  (Q:=λr st'=>∃pd,r=(none,a0.size)/\SB κ a0 pd st'/\Rn rk (arrOf st') (sk pd) a0.size) ?_ ?_ ⟨0,#[],rfl,bk9 _,bo0 _,b,⟨rfl,λr hr=>absurd hr (by simp[sk])⟩⟩) ?_)
 ·rintro x r st1 _ hx ⟨lo,pd,rfl,xl,lz,b1,rn⟩
  unfold U4
  dsimp only
  by_cases hd:lo >= a0.size
  ·rw[if_pos hd]
   have e:lo=a0.size:=by omega
   subst e
   exact bm4 ⟨pd,rfl,b1,rn⟩
  ·rw[if_neg hd]
   refine bl5 (aH0 c o b1 (by omega) (by omega) λn st2 b2 n1 n2 u2 l2=>?_)
   have rn2:=rn.same l2
   dsimp only
   by_cases hmr:n<mr
   ·rw[if_pos hmr]
    refine bl5 (wpS_lift (bz4 ⟨rfl,?_⟩))
    refine bl5 (aH1 c o b2 (by omega) (by omega) u2 λst3 b3 u3 l3=>?_)
    rw[if_neg (by decide)]
    exact U7 c o b3 (by omega) (by omega) (rn2.same l3) u3 λpd' st' b' r'=>⟨_,pd',rfl,by omega,by omega,b',r'⟩
   ·rw[if_neg hmr]
    exact U7 c o b2 n1 (by omega) rn2 u2 λpd' st' b' r'=>⟨lo+n,pd',rfl,by omega,by omega,b',r'⟩
 ·rintro r st1 ⟨lo,pd,rfl,xl,lz,b1,rn⟩
  have e:lo=a0.size:=by omega
  subst e
  exact⟨pd,rfl,b1,rn⟩
 ·rintro r st1 ⟨pd,rfl,b1,rn⟩
  dsimp only
  unfold U5
  refine bl5 (by9 (bs1
   (I:=λt r st'=>r=(none,())/\∃pd,SB κ a0 pd st'/\Rn rk (arrOf st') (sk pd) a0.size/\(pd.size+t<=a0.size∨pd.size<=1))
   (Q:=λr st'=>r=(none,())/\∃pd,SB κ a0 pd st'/\Rn rk (arrOf st') (sk pd) a0.size/\pd.size<=1) ?_ ?_ ⟨rfl,pd,b1,rn,.inl (by have:=rn.ch.len;rw[sW]at this;omega)⟩) ?_)
  ·rintro t r st2 _ ht ⟨rfl,pd,b2,rn2,pr⟩
   refine bl5 (wpS_get ?_)
   rw[b2.pd]
   by_cases h1:pd.size<=1
   ·rw[if_pos h1]
    exact bm4 ⟨rfl,pd,b2,rn2,h1⟩
   ·rw[if_neg h1]
    refine bl5 (U2 c o b2 ?_ (bk9 _) rn2 λpd' st3 b3 sz3 rn3 _=>?_)
    ·split<;>split<;>omega
    ·exact bm4 ⟨rfl,pd',b3,rn3,by omega⟩
  ·rintro r st2 ⟨rfl,pd,b2,rn2,pr⟩
   exact⟨rfl,pd,b2,rn2,by omega⟩
  ·rintro r st2 ⟨rfl,pd,b2,rn2,pr⟩
   refine bm4 (h st2 b2.pm b2.ok ?_)
   have ch:=rn2.ch
   have up:=rn2.up
   rw[<- sW]at pr
   cases e:sk pd with
   |nil=>rw[e]at ch;exact absurd (show 0=a0.size from ch) (by omega)
   |cons r l=>
    rw[e]at ch up pr
    have el:l = []:=List.eq_nil_of_length_eq_zero (by have:=pr;rw[bo1]at this;omega)
    subst el
    obtain⟨p,n⟩:=r
    obtain⟨q1,q2,q3⟩:=ch
    have q1:p=0:=q1
    have q3:0+n=a0.size:=q3
    subst q1
    have:=up (0,n) (by simp)
    rw[<- q3];exact this
end SO
namespace L2
open PySem PySem.Spec PyProof.Rows SO
abbrev fV (h:Heap)(a:Addr)(vs:List Value):Heap:=((h.update a (Obj.mapSeq λ_=>#[])).push (seqObj "tuple" vs.toArray 0)).push (seqObj "list" #[] 0)
abbrev fW (h:Heap)(vs:List Value):Heap:=((h.push (seqObj "list" #[] 0)).update h.objs.size (Obj.mapSeq (·++vs.toArray))).push (seqObj "list" vs.toArray 0)
theorem aI8 {h:Heap}{vs:List Value}{b:Addr}{o:Obj}(e:h.get? b=some o):(fW h vs).get? b=some o:=by
 have l:=bl8 e
 refine bk6 _ ?_
 rw[Heap.get?_update_ne _ _ _ _ (bn6 l)]
 exact bk6 _ e
theorem aI9 {h:Heap}{vs:List Value}{a b:Addr}{o:Obj}(hb:b≠a)(e:h.get? b=some o):(fV h a vs).get? b=some o:=by
 refine bk6 _ (bk6 _ ?_)
 rw[Heap.get?_update_ne _ _ _ _ hb];exact e
theorem aJ0 {prog:Program}{w:World}{A:Around}{E:Value->Shared->Prop}{s:Shared}{a:Addr}{vs:List Value}{n:Nat}{P:PySem.Fin->Shared->Prop}{κ:SortKind}{Ok:Keyed->Prop}{rk:Keyed->Int}(e:s.heap.get? a=some (seqObj "list" vs.toArray n))(h2:2<=vs.length)(big:vs.length<=sizeLine)(hk:∀Q:SortKind->Shared->Prop,Q κ { s with heap:=fV s.heap a vs }->wpAny (model prog w) A (keyKind' vs.toArray) Q E { s with heap:=fV s.heap a vs })(c:cR prog w A E { s with heap:=fV s.heap a vs } κ Ok rk)(o:∀v∈vs,Ok (v,v))(q:∀out:List Value,out.Perm vs->out.Pairwise (λu v=>rk (u,u)<=rk (v,v))->P (.done (.ret .none)) { s with heap:=sortedHeap s.heap a vs out.toArray }):wpAny (model prog w) A (Builtin.«list.sort» ⟨[.ref a],[]⟩) P E s:=by
 have la:=bl8 e
 have cc:¬vs.toArray.size<2:=by simpa using h2
 obtain⟨k,ek⟩:∃k,(s.heap.update a (Obj.mapSeq λ_=>#[])).get? a=some (seqObj "list" #[] k):=⟨_,get?_update_seq e λ_=>#[]⟩
 have there:(fV s.heap a vs).get? a=some (seqObj "list" #[] k):=bk6 _ (bk6 _ ek)
 rw[list_sort_plain]
 apply bk5
 apply listItems_at e rfl
 apply bk5
 refine listUpdate_at e rfl ?_ (by simpa using big) (bo0 _)
 apply bk5
 apply seqEpoch_at ek rfl
 apply bk5
 refine wpAny_newTuple ?_ big
 apply bk5
 refine wpAny_newList ?_ (bo0 _)
 apply bz1
 simp only[cc,bs8]
 apply bk5
 refine hk _ ?_
 have zl:(vs.toArray.zip vs.toArray).toList=vs.zip vs:=by simp
 apply bk5
 refine bs5 (aI7 (a0:=vs.toArray.zip vs.toArray) (Q:=λ_ st'=>(arrOf st').Perm (vs.toArray.zip vs.toArray)/\failedOf st'=none/\Up rk (arrOf st') 0 (vs.toArray.zip vs.toArray).size) c (λx hx=>?_) ⟨Array.Perm.refl _,rfl,rfl,rfl⟩ (by simp;omega) λst' a1 a2 a3=>⟨a1,a2,a3⟩) ?_ λ_ _ z=>z
 ·have hx':x∈vs.zip vs:=by rw[<- zl];exact Array.mem_toList_iff.mpr hx
  obtain⟨y1,y2⟩:=mem_zip_self hx'
  have:=o x.1 y2
  have ex:x=(x.1,x.1):=Prod.ext rfl y1.symm
  rw[ex];exact this
 ·rintro⟨⟨⟩,st'⟩ s' ⟨rfl,pm,ok,up⟩
  have lp:(arrOf st').toList.Perm (vs.zip vs):=by rw[<- zl];exact Array.perm_iff_toList_perm.mp pm
  have out:(arrOf st').map (·.2)=((arrOf st').toList.map (·.2)).toArray:=by apply Array.toList_inj.mp;rw[Array.toList_map]
  have op:((arrOf st').toList.map (·.2)).Perm vs:=by
   have:=lp.map (·.2)
   rw[wI]at this;exact this
  have sz:(arrOf st').size=vs.length:=by rw[pm.size_eq];simp
  dsimp only
  apply bk5
  apply seqEpoch_at there rfl
  apply bk5
  refine listUpdate_at there rfl ?_ (bo0 _) (by rw[Array.size_map,sz];exact Nat.le_succ_of_le big)
  rw[ok]
  simp only[bne_self_eq_false,bn5,bs8]
  refine bl0 ?_
  have hq:=q _ op ?_
  ·rw[<- out]at hq;exact hq
  ·rw[List.pairwise_map,br9]
   intro i j hi hj hij
   have hi':i<(arrOf st').size:=by simpa using hi
   have hj':j<(arrOf st').size:=by simpa using hj
   have h1:=up i j (bo0 _) (br0 hij) (by simp;omega)
   rw[cB hi',cB hj']at h1
   have dg:∀x∈(arrOf st').toList,(x.2,x.2)=x:=λx hx=>Prod.ext (mem_zip_self (lp.mem_iff.mp hx)).1.symm rfl
   rw[dg _ (bu3 hi),dg _ (bu3 hj)]
   simpa using h1
theorem aJ1 {vs vs':List Value}(h:vs.Perm vs'):∀{xs:List V},aQ xs vs->∃xs',xs'.Perm xs/\aQ xs' vs':=by
 induction h with
 |nil=>intro xs r;exact⟨xs,List.Perm.refl _,r⟩
 |cons v _ ih=>
  intro xs r
  cases r with
  |cons r t=>
   obtain⟨xs',p,r'⟩:=ih t
   exact⟨_::xs',p.cons _,.cons r r'⟩
 |swap u v l=>
  intro xs r
  cases r with
  |cons r t=>cases t with
   |cons r2 t2=>exact⟨_,List.Perm.swap _ _ _,.cons r2 (.cons r t2)⟩
 |trans _ _ ih1 ih2=>
  intro xs r
  obtain⟨x1,p1,r1⟩:=ih1 r
  obtain⟨x2,p2,r2⟩:=ih2 r1
  exact⟨x2,p2.trans p1,r2⟩
end L2
namespace L2
open PySem PySem.Spec PyProof.Rows
theorem cF.at {P:Program}{w:World}{H:Hp}{h:Heap}{a:Addr}{o:HO}(x:cF P w H h a o):∃ob,h.get? a=some ob:=by
 cases o with
 |lst xs=>obtain⟨_,_,_,_,e⟩:=x;exact⟨_,e⟩
 |tup xs=>obtain⟨_,_,_,⟨_,e,_⟩,_⟩:=x;exact⟨_,e⟩
 |dK kvs=>obtain⟨_,_,_,_,_,_,_,e,_⟩:=x;exact⟨_,e⟩
 |dT kvs=>obtain⟨_,_,_,_,_,_,_,e,_⟩:=x;exact⟨_,e⟩
 |set S n=>obtain⟨_,_,_,_,e,_⟩:=x;exact⟨_,e⟩
 |ins C dx fs=>obtain⟨_,_,_,e,_⟩:=x;exact⟨_,e⟩
 |own y=>exact x
 |xd fs=>obtain⟨_,⟨_,_,_,e,_⟩,_⟩:=x;exact⟨_,e⟩
 |rng lo hi=>obtain⟨_,_,_,e⟩:=x;exact⟨_,e⟩
 |frz ob u=>obtain⟨e,_⟩:=x;exact⟨_,e⟩
 |tbl ps=>exact⟨_,x⟩
 |met f y=>exact⟨_,x⟩
 |ext φ=>exact x.2.1
structure lK (P:Program)(w:World)(outer:List Env)(H:Hp)(s:Shared)(H':Hp)(B:Heap)(a C:Addr)(s':Shared):Prop where
 os:s'.os=s.os
 bare:AllBare s'.gens
 un:Un (bO outer) [] H H' s.heap s'.heap
 hok:bV P w H' s'.heap
 fly:∃a0,Heap.FlyingW B outer a (.ref C) a0 s'.heap
 b0:∀b o,s.heap.get? b=some o->b∉bO outer->∃o',B.get? b=some o'
 b1:∀b o,s.heap.get? b=some o->H b=none->b∉bO outer->B.get? b=some o
 b2:∀b u o,H' b=some u->s'.heap.get? b=some o->B.get? b=some o
def bF (P:Program)(w:World):gM:=λouter H s E e s'=>∃(H':Hp) (B:Heap) (a C:Addr),e = .ref a/\lK P w outer H s H' B a C s'/\E (.ref C) none H'
section
variable {P:Program}{w:World}{outer:List Env}{H H':Hp}{s s':Shared}{B h2:Heap}{a C:Addr}
theorem lK.fresh (f:lK P w outer H s H' B a C s'):H' a=none:=by
 cases q:H' a with
 |none=>rfl
 |some u=>
  obtain⟨ob,e⟩:=(f.hok a u q).at
  have z:=f.b2 a u ob q e
  obtain⟨_,_,n,_⟩:=f.fly
  rw[n]at z;cases z
theorem lK.hok2 (f:lK P w outer H s H' B a C s')(k:B.StaysIn h2):bV P w H' h2:=λb u e=>
 (f.hok b u e).stay (λc v hc q=>by
  rcases hc with z|z
  ·subst z;exact k _ _ (f.b2 _ _ _ e q)
  ·exact k _ _ (f.b2 _ _ _ z q)) (λ_ q=>q) λ_ _ q=>q
end
section
variable {P:Program}{w:World}{K:ac}{mg:Str→Option Value}{base:Heap}{N:List Str}{qual:Str}{scope:Scope}{f:Addr}{cd:Value}{A:Around}{outer:List Env}{s₀:Shared}{H₀:Hp}{E₀ E₁:XK}
theorem sX {pins:List (Addr×Obj)}{σ:St}{H:Hp}{s:Shared}(I:a8 (cC (bF P w) P w K mg base N qual scope f cd A outer s₀ H₀ E₀) pins σ H s){b:Addr}{o:Obj}(e:s₀.heap.get? b=some o)(n:b∉bO outer) :
  b∉bO (envOfC qual scope s₀.heap.objs.size f cd::outer):=λz=>by
 rcases bl2.mp (I.stkSub b z) with y|y
 ·have l:=bl8 e
  have y:b=s₀.heap.objs.size:=y
  exact absurd l (by rw[y];exact br2 _)
 ·exact n y
theorem aJ2 (hE:∀c d H',E₁ c d H'->E₀ c d H'):gN (bF P w) (cC (bF P w) P w K mg base N qual scope f cd A outer s₀ H₀ E₀) E₁:=by
 intro pins σ H s e s' I hx
 obtain⟨H',B,a,C,e1,fl,q⟩:=hx
 subst e1
 have I':=I.call' fl.os fl.un fl.hok fl.bare (ch:=[]) (λb z=>absurd z (by simp))
 obtain⟨a0,fly⟩:=fl.fly
 refine wpAny_leaves_onW I.ok.frames rfl fly λh' fly' up=>?_
 have slot:∀b o,s₀.heap.get? b=some o->b∈bO outer->∃sl,h'.get? b=some { o with slots:=sl }:=λb o e hb=>by
  obtain⟨sl,e1⟩:=I'.base.slot b o e (I.ok.frf b hb) hb (λz=>nomatch z)
  obtain⟨_,o2,e2,nf⟩:=I.ok.funs.mem hb
  rw[show (cC (bF P w) P w K mg base N qual scope f cd A outer s₀ H₀ E₀).s₀=s₀ from rfl,e]at e2
  cases e2
  obtain⟨sl',e3⟩:=up b _ e1 nf
  exact⟨sl',e3⟩
 have old:∀b o,s₀.heap.get? b=some o->H₀ b=none->b∉bO outer->B.get? b=some o:=λb o e n hb=>
  fl.b1 b o (I.base.keep b o e n hb (λz=>nomatch z)) (I.base.free b o e n (λz=>nomatch z)) (sX I e hb)
 have old0:∀b o,s₀.heap.get? b=some o->b∉bO outer->∃o',B.get? b=some o':=λb o e hb=>by
  obtain⟨o1,e1⟩:=I.base.there b o e (λz=>nomatch z)
  exact fl.b0 b o1 e1 (sX I e hb)
 refine⟨H',B,a,C,rfl,⟨I'.os,I'.bare,⟨λb o e n hb _=>fly'.1 _ _ (old b o e n hb),λb o e n hb _=>slot b o e hb,λb o e n hx=>I'.base.free b o e n hx,λb o e _=>?_,I'.base.tups,I'.base.frzs,I'.base.tbls⟩,fl.hok2 fly'.1,⟨a0,fly'⟩,old0,old,λb u o e h=>?_⟩,hE _ _ _ q⟩
 ·by_cases hb:b∈bO outer
  ·obtain⟨sl,e1⟩:=slot b o e hb
   exact⟨_,e1⟩
  ·obtain⟨o',e1⟩:=old0 b o e hb
   exact⟨o',fly'.1 _ _ e1⟩
 ·obtain⟨ob,e1⟩:=(fl.hok b u e).at
  have e2:=fl.b2 b u ob e e1
  have e3:=fly'.1 _ _ e2
  have h:h'.get? b=some o:=h
  rw[h]at e3;cases e3;exact e2
theorem aJ3 {pins:List (Addr×Obj)}{σ:St}{H:Hp}{s:Shared}{h':Heap}{e C:Addr}{args:List Value}(I:a8 (cC (bF P w) P w K mg base N qual scope f cd A outer s₀ H₀ E₀) pins σ H s)(mx:Heap.MadeExcOf s.heap h' e (.ref C) args)(q:E₀ (.ref C) none H) :
  (cC (bF P w) P w K mg base N qual scope f cd A outer s₀ H₀ E₀).xe (.ref e) { s with heap:=h' }:=by
 have tr:∀b u,H b=some u->b∉bO (envOfC qual scope s₀.heap.objs.size f cd::outer):=λb u z n=>by
  rw[I.stkFree b n]at z;cases z
 have inB:∀b o,s.heap.get? b=some o->b∉bO (envOfC qual scope s₀.heap.objs.size f cd::outer)->(PySem.W.hideAll s.heap (bO (envOfC qual scope s₀.heap.objs.size f cd::outer))).get? b=some o:=λb o z n=>PySem.W.hideAll_get _ z n
 refine wpAny_leaves_madeW (base:=PySem.W.hideAll s.heap (bO (envOfC qual scope s₀.heap.objs.size f cd::outer))) I.ok.frames rfl (λb o z=>PySem.W.of_hideAll _ z) (PySem.W.funFrames_hide I.stack λenv he b hb=>List.mem_filterMap.mpr ⟨env,he,hb⟩) mx λh'' t fly _ _ up=>?_
 have slot:∀b o,s₀.heap.get? b=some o->b∈bO outer->∃sl,h''.get? b=some { o with slots:=sl }:=λb o e hb=>by
  obtain⟨sl,e1⟩:=I.base.slot b o e (I.ok.frf b hb) hb (λz=>nomatch z)
  obtain⟨_,o2,e2,nf⟩:=I.ok.funs.mem hb
  rw[show (cC (bF P w) P w K mg base N qual scope f cd A outer s₀ H₀ E₀).s₀=s₀ from rfl,e]at e2
  cases e2
  obtain⟨sl',e3⟩:=up b _ (mx.keeps _ _ e1) nf
  exact⟨sl',e3⟩
 have old:∀b o,s₀.heap.get? b=some o->H₀ b=none->b∉bO outer->(PySem.W.hideAll s.heap (bO (envOfC qual scope s₀.heap.objs.size f cd::outer))).get? b=some o:=λb o e n hb=>
  inB b o (I.base.keep b o e n hb (λz=>nomatch z)) (sX I e hb)
 have old0:∀b o,s₀.heap.get? b=some o->b∉bO outer->∃o',(PySem.W.hideAll s.heap (bO (envOfC qual scope s₀.heap.objs.size f cd::outer))).get? b=some o':=λb o e hb=>by
  obtain⟨o1,e1⟩:=I.base.there b o e (λz=>nomatch z)
  exact⟨o1,inB b o1 e1 (sX I e hb)⟩
 refine⟨H,_,e,C,rfl,⟨I.os,I.bare,⟨λb o e n hb _=>fly.1 _ _ (old b o e n hb),λb o e n hb _=>slot b o e hb,λb o e n hx=>I.base.free b o e n hx,λb o e _=>?_,I.base.tups,I.base.frzs,I.base.tbls⟩,λb u z=>?_,⟨_,fly⟩,old0,old,λb u o z h=>?_⟩,q⟩
 ·by_cases hb:b∈bO outer
  ·obtain⟨sl,e1⟩:=slot b o e hb
   exact⟨_,e1⟩
  ·obtain⟨o',e1⟩:=old0 b o e hb
   exact⟨o',fly.1 _ _ e1⟩
 ·refine (I.hok b u z).stay (λc v hc y=>?_) (λ_ y=>y) λ_ _ y=>y
  rcases hc with z'|z'
  ·subst z';exact fly.1 _ _ (inB _ _ y (tr _ _ z))
  ·exact fly.1 _ _ (inB _ _ y (tr _ _ z'))
 ·obtain⟨ob,e1⟩:=(I.hok b u z).at
  have e2:=inB b ob e1 (tr b u z)
  have e3:=fly.1 _ _ e2
  have h:h''.get? b=some o:=h
  rw[h]at e3;cases e3;exact e2
end
structure k8 (X:Cx)(E:XK):Prop where
 pass:gN (bF X.prog X.w) X E
 made:∀(pins:List (Addr×Obj)) (σ:St) (H:Hp) (s:Shared) (h':Heap) (e C:Addr) (args:List Value),a8 X pins σ H s->Heap.MadeExcOf s.heap h' e (.ref C) args->E (.ref C) none H->X.xe (.ref e) { s with heap:=h' }
 own:PassesOwn (model X.prog X.w) X.A X.env X.xe
theorem yD {P:Program}{w:World}{K:ac}{mg:Str->Option Value}{base:Heap}{N:List Str}{qual:Str}{scope:Scope}{f:Addr}{cd:Value}{A:Around}{outer:List Env}{s₀:Shared}{H₀:Hp}{E₀ E₁:XK}(hE:∀c d H',E₁ c d H'->E₀ c d H') :
  k8 (cC (bF P w) P w K mg base N qual scope f cd A outer s₀ H₀ E₀) E₁:=
 ⟨aJ2 hE,λ_ _ _ _ _ _ _ _ I mx q=>aJ3 I mx (hE _ _ _ q),PassesOwn.leaving⟩
def U8 (E:XK)(C:Addr)(t:TA):TS:=λ_ σ H=>t σ H λvs H1=>vs.length<=sizeLine/\E (.ref C) none H1
theorem aJ4 {X:Cx}{E:XK}{x:Str}{C:Addr}{bm:List Value}{B newId initId:String}{np cpos pos:Pos}{e:Expr}{es:List Expr}{t:TA}(hX:k8 X E)(hc:X.calm=true)(O:OwnCls x C bm newId X.mg X.base)(FB:ExcBaseFacts B newId initId bm)(ha:PA X (e::es) t)(hg:Gl X x)(hd:(x==("__debug__":Str))=false:=by decide)(he:starEach (e::es) X.env=(false,eval e X.env)::starEach es X.env:=by rfl)(hpl:(backTo cpos (starEach es X.env)).any (·.1)=false:=by rfl) :
  PS X (.Raise (some (.Call (.Name x np) (e::es) [] cpos)) none pos) (U8 E C t):=by
 intro pins s σ H D I h
 obtain⟨tl,Na,nm,qn,bs,hx,sn,sub,ab,col,dd,k0,k1,k2,k3,k5,mN,hC,hN,hni,T⟩:=O.obj
 refine wpAny_Raise_call_subT (nm:=nm) (q:=qn) (N:=Na) (bs:=bs) (bm:=tl) (hdct:=hx) (sn:=sn) (sub:=sub) (ab:=ab) (col:=col) (dd:=dd) (k0:=k0) (k1:=k1) (k2:=k2) (k3:=k3) (k5:=k5) FB (C:=C) (mN:=mN) (T.hasType FB.hasBase) (I.ok.hd hc) (by rw[he];show (false||(backTo cpos (starEach es X.env)).any (·.1))=false;rw[hpl];rfl) hni (nT I hg O.bound ⟨rfl,?_⟩ hd)
 have h1:=ha cpos pins s σ H _ I h
 rw[he]at h1 ⊢
 refine by8 (bs5 h1 (λus s2 h2=>?_) λ_ _ y=>y)
 obtain⟨vs,H2,I2,r,hl,q⟩:=h2
 have r:aQ vs us:=r
 exact⟨rfl,by show us.length<=sizeLine;rw[<- r.length];exact hl,I2.bk _ _ hC,hN.keeps I2.bk,T.keeps I2.bk,λh' e' mx=>hX.made pins σ H2 s2 h' e' C _ I2 mx q⟩
theorem cP.okX {P:Program}{w:World}{K:ac}{mg:Str->Option Value}{base:Heap}{x qual:Str}{st:Stmt}{f:Addr}{fd:FuncData}{N ps:List Str}{k:Nat}{sp:Sp}(F:cP K x qual st f fd)(S:FnScope N ps (aN st))(len:∀vs H Q E,sp vs H Q E->vs.length=ps.length)(hbody:∀(cdv:Value) (A:Around) (outer:List Env) (s:Shared) (H:Hp) (vs:List V) (Q:VK) (E:XK),bD k (A.deeper (envOfC qual (aN st) s.heap.objs.size f cdv))->sp vs H Q E->
   ∃t,dB (cC (bF P w) P w K mg base N qual (aN st) f cdv A outer s H E) (cI st) t/\t { nx:=λ_ H'=>Q .non H',rt:=Q } (eV N vs) H):bQ P w K mg base (bF P w) (k+1) f fd ps sp:=by
 obtain⟨oc,od,kV,doc,pm,an,cdv,ct,osl,rfl,lk,hcd⟩:=F.ex
 exact G0 lk hcd S len λA outer s H vs Q E hr hsp=>hbody cdv A outer s H vs Q E hr hsp
section
variable {X:Cx}{pins:List (Addr×Obj)}{σ:St}{H H1 H':Hp}{s s1 s':Shared}{B h2:Heap}{a C:Addr}
theorem U9 {oe:Obj}(I:a8 X pins σ H1 s1)(fl:lK X.prog X.w X.stack H1 s1 H' B a C s')(st:B.StaysIn h2)(up:s'.heap.UpToSlots h2)(he:h2.get? a=some oe) :
  a8 X pins σ (upd H' a (.frz oe (.own a))) { s' with heap:=h2 }:=by
 obtain⟨a0,fly⟩:=fl.fly
 have na:B.get? a=none:=fly.2.1
 have nf:a∉bO X.stack:=λz=>by
  obtain⟨_,o,e,d⟩:=fly.2.2.1.mem z
  obtain⟨o2,vs,e2,_,d2,_⟩:=fly.first
  rw[e]at e2;cases e2
  exact d vs d2
 have nb:∀b o,s1.heap.get? b=some o->b≠a:=λb o e z=>by
  subst z
  obtain⟨o',e'⟩:=fl.b0 _ o e nf
  rw[na]at e';cases e'
 have nt:∀b u,H' b=some u->b≠a:=λb u e z=>by
  subst z;rw[fl.fresh]at e;cases e
 have off:∀b,b≠X.env.locals->b∉X.fs->b∉bO X.stack:=λb n1 n2 z=>(bl2.mp (I.stkSub b z)).elim n1 n2
 have slot:∀b o,s1.heap.get? b=some o->b∈bO X.stack->∃sl,h2.get? b=some { o with slots:=sl }:=λb o e hb=>by
  obtain⟨sl,e1⟩:=fl.un.any e (I.stkFree b hb) (λz=>nomatch z)
  obtain⟨_,o2,e2,d⟩:=I.stack.mem hb
  rw[e]at e2;cases e2
  obtain⟨sl',e3⟩:=up b _ e1 d
  exact⟨sl',e3⟩
 have ns:∀m,s1.heap.Ns X.env.locals m->h2.Ns X.env.locals m:=λm hm=>by
  obtain⟨o,es,ep,e,r⟩:=hm
  obtain⟨sl,e1⟩:=fl.un.any e I.free (λz=>nomatch z)
  exact up.ns ⟨_,es,ep,e1,r⟩
 have hok:bV X.prog X.w (upd H' a (.frz oe (.own a))) h2:=λb u e=>by
  by_cases hb:b=a
  ·subst hb;rw[aU]at e;cases e;exact⟨he,_,he⟩
  ·rw[aF hb]at e
   exact (fl.hok2 st b u e).stay (λ_ _ _ q=>q) (λc q=>by rw[aF (nt c _ q)];exact q) λc xs q=>by rw[aF (nt c _ q)];exact q
 have bare:=fl.bare
 have un:=fl.un
 have b0:=fl.b0
 have b1:=fl.b1
 have os:=fl.os
 clear fl fly up
 obtain⟨hh,g,d,t,os'⟩:=s'
 obtain rfl:os'=s1.os:=os
 show a8 X pins σ _ { s1 with heap:=h2,gens:=g,drawn:=d,toks:=t }
 refine I.step (h':=h2) (g':=g) (d':=d) (t':=t) (ch:=[]) (λ_ z=>nomatch z) (λb o n1 n2 _ e n=>st _ _ (b1 b o e n (off b n1 n2))) (λb o n1 hb _ e n=>?_) (λb o _ e n=>by rw[aF (nb b o e)];exact un.free b o e n (λz=>nomatch z)) (λb o _ e=>?_)
  (λb xs q=>by rw[aF (nt b _ (un.tups b xs q))];exact un.tups b xs q) (λb o u q=>by rw[aF (nt b _ (un.frzs b o u q))];exact un.frzs b o u q) (λb ps q=>by
   obtain⟨more,q'⟩:=un.tbls b ps q
   exact⟨more,by rw[aF (nt b _ q')];exact q'⟩) ns hok bare
 ·by_cases hs:b∈bO X.stack
  ·exact slot b o e hs
  ·exact⟨o.slots,st _ _ (b1 b o e n hs)⟩
 ·by_cases hb:b∈bO X.stack
  ·obtain⟨sl,e1⟩:=slot b o e hb
   exact⟨_,e1⟩
  ·obtain⟨o',e1⟩:=b0 b o e hb
   exact⟨o',st _ _ e1⟩
abbrev Cx.suite (X:Cx)(a:Addr):Cx:={ X with A:=X.A.mark (some (.ref a)),calm:=false,xe:=λ_ _=>False }
theorem Cx.Ok.suite {X:Cx}(ok:X.Ok)(a:Addr):(X.suite a).Ok:=
 ⟨ok.mod,ok.kind,ok.glob,ok.blt,ok.above,ok.inj,ok.has,ok.cab,λz=>Bool.noConfusion z,ok.frames,ok.stk,ok.exf,ok.bs,ok.bsz,ok.noex,ok.exfs,ok.funs,ok.frf⟩
theorem a8.suite (I:a8 X pins σ H s)(a:Addr):a8 (X.suite a) pins σ H s:=⟨I.ok.suite a,I.os,I.bare,I.base,I.loc,I.cell,I.free,I.freeC,I.pin,I.hok,I.len⟩
theorem a8.unsuite (I:a8 (X.suite a) pins σ H s)(ok:X.Ok):a8 X pins σ H s:=⟨ok,I.os,I.bare,I.base,I.loc,I.cell,I.free,I.freeC,I.pin,I.hok,I.len⟩
theorem aJ5 {M:Model}{A:Around}{E:Value->Shared->Prop}{K:ac}{e C D:Addr}{oe:Obj}{Q:Bool->Shared->Prop}(k:K.In s.heap)(he:s.heap.get? e=some oe)(hc:oe.cls = .ref C)(h1:(PySem.W.clsIn K D).isSome=true)(h2:PySem.W.typeIn K (.ref D)=some (.type "type"))(h3:PySem.W.subIn K (.ref D) (.type "BaseException")=some true)(h4:PySem.W.subIn K (.ref C) (.ref D)=some true)(hq:Q true s):wpAny M A (excMatches (.ref e) (.ref D)) Q E s:=by
 obtain⟨h,g,d,t,os⟩:=s
 have k:K.In h:=k
 have he:h.get? e=some oe:=he
 have l1:PySem.W.Looks M h (isType (.ref D)) true:=by
  unfold PySem.W.clsIn at h1
  split at h1
  ·rename_i c' d' cd' sl' ho
   intro A' Q' E' s' kk q
   unfold isType loadHead
   exact bk5 (wpAny_loadPart (kk _ _ (k _ _ ho)) (bl0 q))
  ·cases h1
 have l2:PySem.W.Looks M h (typeOf (.ref D)) (.type "type"):=PySem.W.looks_typeIn k h2
 have l3:PySem.W.Looks M h (isSubtype (.ref D) (.type "BaseException")) true:=PySem.W.looks_subIn k h3
 have l4:PySem.W.Looks M h (isSubtype (.ref C) (.ref D)) true:=PySem.W.looks_subIn k h4
 have l5:PySem.W.Looks M h (typeOf (.ref e)) (.ref C):=hc▸(PySem.W.Looks.ld he).andThen .now
 have l6:PySem.W.Looks M h (isInstance (.ref D) (.type "tuple")) false:=l2.andThen (PySem.W.Looks.of_pure tc_notTuple)
 have l7:PySem.W.Looks M h (isExcClass (.ref D)) true:=by
  unfold isExcClass
  exact l1.andThen (by simpa using l3)
 have f:=tc_notTuple
 unfold excMatches
 repeat (first|exact hq|(with_reducible refine l2.at ?_)|(with_reducible refine l7.at ?_)|(with_reducible refine l1.at ?_)|(with_reducible refine l3.at ?_)|(with_reducible refine l5.at ?_)|(with_reducible refine l4.at ?_)|wp_step)
end
section
variable {X:Cx}{pins:List (Addr×Obj)}{σ:St}{H H1 H':Hp}{s s1 s':Shared}{B:Heap}{a C Ch:Addr}{i:Nat}{x n:Str}{np pos hpos:Pos}{b₀:Stmt}{suite:List Stmt}{ts:TS}{D:bP}{bW:List ExceptHandler}
structure yE (K:ac)(Ch:Addr):Prop where
 c1:(PySem.W.clsIn K Ch).isSome=true
 c2:PySem.W.typeIn K (.ref Ch)=some (.type "type")
 c3:PySem.W.subIn K (.ref Ch) (.type "BaseException")=some true
end
abbrev TB:=bP->XK->St->Hp->Prop
def XB (X:Cx)(pins:List (Addr×Obj))(σ:St)(Ex:XK):Value->Shared->Prop:=λe s'=>∃H1 s1,a8 X pins σ H1 s1/\bF X.prog X.w X.stack H1 s1 Ex e s'
def PB (X:Cx)(sts:List Stmt)(t:TB):Prop:=
 ∀(pins:List (Addr×Obj)) (s:Shared) (σ:St) (H:Hp) (D:bP) (Ex:XK),a8 X pins σ H s->t D Ex σ H->wpAny (model X.prog X.w) X.A (execs sts X.env) (SP X pins D) (XB X pins σ Ex) s
section
variable {X:Cx}{pins:List (Addr×Obj)}{σ:St}{H H':Hp}{s:Shared}{a:Addr}
theorem a8.reH (I:a8 X pins σ H s)(d:∀b,b≠a->H' b=H b)(ha:∃x,H a=some x)(tup:∀xs,H a≠some (.tup xs))(frz:∀o v,X.H₀ a≠some (.frz o v))(tbl:∀ps,H a≠some (.tbl ps))(hok:bV X.prog X.w H' s.heap):a8 X pins σ H' s:=by
 have none:∀b,H b=none->H' b=none:=λb e=>by
  rw[d b λz=>?_];exact e
  obtain⟨x,hx⟩:=ha
  rw[z,hx]at e;cases e
 refine⟨I.ok,I.os,I.bare,⟨I.base.keep,I.base.slot,λb o e n hx=>none b (I.base.free b o e n hx),I.base.there,λb xs q=>?_,λb o u q=>?_,λb ps q=>?_⟩,I.loc,I.cell,none _ I.free,λx c e=>none c (I.freeC x c e),λp hp=>?_,hok,I.len⟩
 ·have e:=I.base.tups b xs q
  rw[d b λz=>tup xs (by rw[<- z];exact e)];exact e
 ·rw[d b λz=>frz o u (by rw[<- z];exact q)];exact I.base.frzs b o u q
 ·obtain⟨more,e⟩:=I.base.tbls b ps q
  exact⟨more,by rw[d b λz=>tbl _ (by rw[<- z];exact e)];exact e⟩
 ·obtain⟨e,n,r⟩:=I.pin p hp
  exact⟨e,none _ n,r⟩
end
end L2
namespace Core
open PySem L2 PP
def i5 (ns:af):Bool:=((ns.zip (ns.drop 1)).map λp=>decide (p.1<p.2)).all id
theorem sY {α β:Type}{l:List α}{f:α->β}{i:Nat}{x:α}(h:l[i]? = some x):(l.take (i+1)).map f=(l.take i).map f++[f x]:=by
 rw[bu8,h];simp
theorem lM:∀{ns:af},i5 ns=true->ns.Pairwise (·<·)
 |[],_=>.nil
 |[x],_=>bn3 _ _
 |x::y::r,h=>by
  have e:i5 (x::y::r)=(decide (x<y)&&i5 (y::r)):=rfl
  rw[e,bn4]at h
  have ih:=lM h.2
  refine List.pairwise_cons.mpr ⟨λz hz=>?_,ih⟩
  rcases bl2.mp hz with rfl|hz
  ·exact bu7 h.1
  ·exact Int.lt_trans (bu7 h.1) (List.rel_of_pairwise_cons ih hz)
theorem yF:∀{ns:af},ns.Pairwise (·<·)->i5 ns=true
 |[],_=>rfl
 |[x],_=>rfl
 |x::y::r,h=>by
  have e:i5 (x::y::r)=(decide (x<y)&&i5 (y::r)):=rfl
  have h':=List.pairwise_cons.mp h
  rw[e,yF h'.2,Bool.and_true]
  exact bn0 (h'.1 y bm8)
def kin (ws:af)(ls:aa)(S:af)(h:Int):Bool:=!decide (h∈S)&&decide (ws.getD h.toNat 0<=(((bS ls h).filter λx=>decide (x∈S)).length:Int))
def nextOf (ws:af)(ls:aa)(S:af):af:=((List.range ws.length).map λ(i:Nat)=>(i:Int)).filter (kin ws ls S)
def b8 (ws:af)(ls:aa)(S:af):Nat->af
 |0=>S
 |k+1=>b8 ws ls S k++nextOf ws ls (b8 ws ls S k)
def eO (ws:af)(S:af):Nat:=(((List.range ws.length).map λ(i:Nat)=>(i:Int)).filter λx=>!decide (x∈S)).length
theorem yG {α:Type}(p q:α->Bool)(h:∀x,q x=true->p x=false):∀L:List α,(L.filter λx=>!p x&&!q x).length+(L.filter q).length=(L.filter λx=>!p x).length
 |[]=>rfl
 |x::r=>by
  have ih:=yG p q h r
  cases e1:p x with
  |true=>
   have e2:q x=false:=by
    cases e:q x with
    |false=>rfl
    |true=>have:=h x e;rw[e1]at this;cases this
   simp only[bv9,e1,e2,Bool.not_true,Bool.false_and,bn5,bs8]
   exact ih
  |false=>
   cases e2:q x with
   |true=>
    simp only[bv9,e1,e2,Bool.not_true,Bool.not_false,Bool.and_false,bn5,bs8,if_true,bo1]
    omega
   |false=>
    simp only[bv9,e1,e2,Bool.not_false,Bool.and_true,bn5,bs8,if_true,bo1]
    omega
theorem yH {ws:af}{ls:aa}{S:af}{x:Int}(h:kin ws ls S x=true):decide (x∈S)=false:=by
 unfold kin at h
 cases e:decide (x∈S) with
 |false=>rfl
 |true=>rw[e]at h;cases h
theorem yI (ws:af)(ls:aa)(S:af):eO ws (S++nextOf ws ls S)+(nextOf ws ls S).length=eO ws S:=by
 have e:=yG (λx=>decide (x∈S)) (kin ws ls S) (λx h=>yH h) ((List.range ws.length).map λ(i:Nat)=>(i:Int))
 unfold eO
 rw[<- e]
 congr 2
 refine List.filter_congr λx hx=>?_
 have:decide (x∈S++nextOf ws ls S)=(decide (x∈S)||kin ws ls S x):=by
  rw[bq0]
  unfold nextOf
  simp only[bm2,bn9,bv2,Bool.or_eq_true]
  exact⟨λz=>z.elim .inl λz=>.inr z.2,λz=>z.elim .inl λz=>.inr ⟨hx,z⟩⟩
 rw[this]
 cases decide (x∈S)<;>cases kin ws ls S x<;>rfl
theorem aJ6 (ws:af)(S:af):eO ws S<=ws.length:=by
 unfold eO
 refine bo3 (bv6 _ _) ?_
 rw[bl1,bt5];exact bk9 _
theorem aJ7 (ws:af)(ls:aa)(S:af):(nextOf ws ls S).length<=ws.length:=by
 unfold nextOf
 refine bo3 (bv6 _ _) ?_
 rw[bl1,bt5];exact bk9 _
def after (ws:af)(ls:aa)(S:af)(m:Nat):ae:=(List.range m).map λk=>nextOf ws ls (b8 ws ls S k)
theorem V0 (ws:af)(ls:aa)(S:af)(m:Nat):after ws ls S (m+1)=after ws ls S m++[nextOf ws ls (b8 ws ls S m)]:=by
 unfold after
 rw[List.range_succ,bq1];rfl
theorem yJ (ws:af)(ls:aa)(ns:af):∀k,(b8 ws ls ns k).length+eO ws (b8 ws ls ns k)=ns.length+eO ws ns
 |0=>rfl
 |k+1=>by
  have ih:=yJ ws ls ns k
  have cs:=yI ws ls (b8 ws ls ns k)
  show (b8 ws ls ns k++nextOf ws ls (b8 ws ls ns k)).length+eO ws (b8 ws ls ns k++nextOf ws ls (b8 ws ls ns k))=_
  rw[bl4];omega
theorem V1 {ws ns:af}(hu:ns.Pairwise (·<·))(hin:∀x∈ns,0<=x/\x<(ws.length:Int)):ns.length+eO ws ns<=ws.length:=by
 have nd:ns.Nodup:=hu.imp λh=>Int.ne_of_lt h
 have sub:ns ⊆ ((List.range ws.length).map λ(i:Nat)=>(i:Int)).filter λx=>decide (x∈ns):=λx hx=>by
  refine bv2.mpr ⟨bo9.mpr ⟨x.toNat,List.mem_range.mpr ?_,?_⟩,bn0 hx⟩
  ·have:=hin x hx;omega
  ·have:=hin x hx;omega
 have h1:=nd.length_le_of_subset sub
 have h2:=yG (λ_=>false) (λx=>decide (x∈ns)) (λ_ _=>rfl) ((List.range ws.length).map λ(i:Nat)=>(i:Int))
 have h3:(((List.range ws.length).map λ(i:Nat)=>(i:Int)).filter λx=>!false&&!decide (x∈ns)).length=eO ws ns:=rfl
 have h4:(((List.range ws.length).map λ(i:Nat)=>(i:Int)).filter λx=>!false).length<=ws.length:=by
  refine bo3 (bv6 _ _) ?_
  rw[bl1,bt5];exact bk9 _
 rw[h3]at h2
 omega
theorem yK (ws:af)(ls:aa)(ns:af):∀m,(ns::after ws ls ns m).flatten=b8 ws ls ns m
 |0=>by simp[after,b8]
 |m+1=>by
  rw[V0,<- List.cons_append,List.flatten_append,yK ws ls ns m]
  simp[b8]
def bP (ws:af)(ls:aa)(ns:af)(m:Nat):Prop:=(∀k<m,nextOf ws ls (b8 ws ls ns k)≠[])/\nextOf ws ls (b8 ws ls ns m) = []
theorem aJ8 {ws:af}{ls:aa}{ns:af}{m n:Nat}(h:bP ws ls ns m)(g:bP ws ls ns n):m=n:=by
 rcases Nat.lt_trichotomy m n with z|z|z
 ·exact absurd h.2 (g.1 m z)
 ·exact z
 ·exact absurd g.2 (h.1 n z)
theorem V2 {ws:af}{ls:aa}{ns:af}:∀(m:Nat),(∀k<m,nextOf ws ls (b8 ws ls ns k)≠[])->m+eO ws (b8 ws ls ns m)<=ws.length
 |0,_=>by have:=aJ6 ws ns;show 0+eO ws ns<=_;omega
 |m+1,h=>by
  have ih:=V2 m λk hk=>h k (by omega)
  have cs:=yI ws ls (b8 ws ls ns m)
  have:1<=(nextOf ws ls (b8 ws ls ns m)).length:=by
   cases e:nextOf ws ls (b8 ws ls ns m) with
   |nil=>exact absurd e (h m (by omega))
   |cons _ _=>exact Nat.succ_le_succ (bo0 _)
  show m+1+eO ws (b8 ws ls ns m++nextOf ws ls (b8 ws ls ns m))<=_
  omega
theorem pD {ns:af}{i:Nat}{x:PV}(h:(intz ns)[i]? = some x):∃n,x = .int n/\ns[i]? = some n:=by
 rw[bm7]at h
 cases e:ns[i]? with
 |none=>rw[e]at h;cases h
 |some n=>rw[e]at h;exact⟨n,(bl6 h).symm,rfl⟩
theorem mX {lo:Int}{n i:Nat}{x:PV}(h:(fH lo n)[i]? = some x):x = .int (lo+i)/\i<n:=by
 have hi:i<n:=by
  have:=(bl7.mp h).1
  rwa [mF]at this
 rw[O6 hi]at h
 exact⟨(bl6 h).symm,hi⟩
def rng (n:Nat):af:=(List.range n).map λ(i:Nat)=>(i:Int)
theorem aJ9 (n:Nat):(rng n).length=n:=by unfold rng;rw[bl1,bt5]
theorem aK0 {n i:Nat}(h:i<n):(rng n)[i]? = some (i:Int):=by unfold rng;rw[bm7,List.getElem?_range h];rfl
theorem mY {n:Nat}{x:Int}:x∈rng n↔0<=x/\x<(n:Int):=by
 unfold rng
 rw[bo9]
 constructor
 ·rintro⟨i,hi,rfl⟩
  have:=List.mem_range.mp hi
  omega
 ·intro h
  exact⟨x.toNat,List.mem_range.mpr (by omega),by omega⟩
theorem sZ {α:Type}{l:List α}{p:α->Bool}{i:Nat}{x:α}(h:l[i]? = some x):(l.take (i+1)).filter p=(l.take i).filter p++(if p x=true then [x] else []):=by
 rw[bu8,h,List.filter_append]
 congr 1
 cases e:p x<;>simp[e]
theorem j9 (a b:af):intz (a++b)=intz a++intz b:=bq1
theorem dF (a:af):(intz a).length=a.length:=bl1 _
def bM (ws:af)(ls:aa):PV:=.tup [.tup (intz ws),.tup (ls.map λl=>.tup [.int l.1,.int l.2])]
structure Wb (ws:af)(ls:aa):Prop where
 few:ws.length<=40
 most:ls.length<=1700
 links:∀l∈ls,(0<=l.1/\l.1<ws.length)/\0<=l.2/\l.2<ws.length
def fA (x:PV)(ns:af):Prop:=x = .tup (intz ns)∨x = .lst (intz ns)
theorem fA.seq {x:PV}{ns:af}(h:fA x ns):iY x=some (intz ns):=by rcases h with rfl|rfl<;>rfl
theorem fA.seqT {x:PV}{ns:af}(h:fA x ns):seqT x=some (intz ns):=by rcases h with rfl|rfl<;>rfl
theorem k9:∀(ls:aa),flats (ls.map λl=>PV.tup [.int l.1,.int l.2])=true
 |[]=>rfl
 |l::r=>by
  show (flat (.tup [.int l.1,.int l.2])&&flats (r.map λl=>PV.tup [.int l.1,.int l.2]))=true
  rw[k9 r];rfl
theorem mZ (ws:af)(ls:aa):flat (bM ws ls)=true:=by
 show flats [.tup (intz ws),.tup (ls.map λl=>PV.tup [.int l.1,.int l.2])]=true
 show (flat (.tup (intz ws))&&(flat (.tup (ls.map λl=>PV.tup [.int l.1,.int l.2]))&&true))=true
 show (flats (intz ws)&&(flats (ls.map λl=>PV.tup [.int l.1,.int l.2])&&true))=true
 rw[eM,k9];rfl
theorem i6 (ns:af):flat (.tup (intz ns))=true:=eM ns
def nA:cK:=λxs Q=>∃ws ls,xs = [bM ws ls]/\Q (.int ws.length)
def V3:aS:=(bC (aO jU (a9 (aW (a5 0) (qC (.int 0))) aC)))
abbrev fB (t:aS)(N:List Str)(p:cK):Prop:=∀xs Q,p xs Q->t { nx:=λ_=>Q .non,rt:=Q } (eY N xs)
theorem aK1:fB V3 ["web"] nA:=by
 rintro xs Q ⟨ws,ls,rfl,q⟩
 refine⟨_,rfl,_,_,_,rfl,rfl,rfl,_,_,rfl,rfl,trivial,?_⟩
 rw[dF];exact q
def yL:cK:=λxs Q=>∃x ns,xs = [x]/\fA x ns/\ns.length<=1000/\Q (.bl (i5 ns))
def inB (n:Nat)(x:Int):Bool:=decide (0<=x)&&decide (x<(n:Int))
def i7:cK:=λxs Q=>∃ws ls n,xs = [bM ws ls,.int n]/\Q (.bl (inB ws.length n))
def V4:aS:=(bC (oG (Q0 (a5 1) (qC (.int 0))) (l9 (a5 1) (aO nA (a9 (a5 0) aC)))))
theorem aK2:fB V4 ["web","number"] i7:=by
 rintro xs Q ⟨ws,ls,n,rfl,q⟩
 refine⟨_,rfl,_,_,rfl,rfl,_,rfl,?_⟩
 unfold inB at q
 by_cases h:(0:Int)<=n
 ·rw[bn0 h]at q ⊢
  refine b7 ⟨_,rfl,_,rfl,ws,ls,rfl,_,_,rfl,rfl,trivial,?_⟩
  simpa using q
 ·rw[bm3 h]at q ⊢
  exact aP ⟨trivial,by simpa using q⟩
def cL (n:Nat)(ns:af):Bool:=i5 ns&&(ns.map (inB n)).all id
def t5:cK:=λxs Q=>∃ws ls x ns,xs = [bM ws ls,x]/\fA x ns/\ns.length<=1000/\Q (.bl (cL ws.length ns))
def V5:aS:=(bC (oG (aO yL (a9 (a5 1) aC)) (aO x4 (a9 (iZ (iF (a5 1)) [none,some 0] (dO 0) mH (aO i7 (a9 (a5 1) (a9 (a5 0) aC)))) aC))))
theorem t6 {x:PV}{ns:af}(h:fA x ns):(Slot.sh (flat x) x).tag = .rd->flat x=true:=by
 cases flat x<;>intro z<;>cases z
theorem aK3:fB V5 ["web","numbers"] t5:=by
 rintro xs Q ⟨ws,ls,x,ns,rfl,hx,hl,q⟩
 refine⟨_,rfl,x,ns,rfl,hx,hl,_,rfl,?_⟩
 unfold cL at q
 cases h:i5 ns with
 |false=>rw[h]at q;exact aP ⟨trivial,q⟩
 |true=>
  rw[h]at q
  refine b7 ⟨_,rfl,_,hx.seq,t6 hx,by rw[dF];omega,λi acc=>acc=(((ns.take i).map (inB ws.length)).map PV.bl),rfl,?_,?_⟩
  ·rintro i y acc hy rfl
   obtain⟨n,rfl,hn⟩:=pD hy
   have tk:((ns.take (i+1)).map (inB ws.length)).map PV.bl=((ns.take i).map (inB ws.length)).map PV.bl++[PV.bl (inB ws.length n)]:=by rw[sY hn,bq1];rfl
   exact⟨_,rfl,_,rfl,ws,ls,n,rfl,trivial,tk.symm⟩
  ·rintro acc rfl
   rw[dF,bq9]
   exact⟨_,rfl,trivial,by simpa using q⟩
theorem fA.noscr {x:PV}{ns:af}(h:fA x ns):∀ms,([x]:List PV)≠[.scr ms]:=by
 rcases h with rfl|rfl<;>intro ms z<;>cases z
structure DS (ps:List (aD×PV))(S:af):Prop where
 has:∀i:Int,(bX ps (Sum.inl i:aD)).isSome=decide (i∈S)
 len:ps.length<=S.length
 fl:flats (ps.map (·.2))=true
theorem DS.nil:DS [] []:=⟨λi=>rfl,bk9 _,rfl⟩
section
variable {κ:Type}[DecidableEq κ]
theorem aK4 {k:κ}:bX ([]:List (κ×PV)) k=none:=rfl
theorem iH {p:κ×PV}{r:List (κ×PV)}{k:κ}(e:p.1=k):bX (p::r) k=some p.2:=by simp[bX,bt8,e]
theorem iI {p:κ×PV}{r:List (κ×PV)}{k:κ}(e:¬p.1=k):bX (p::r) k=bX r k:=by simp[bX,bt8,e]
theorem pE (k:κ):∀kvs:List (κ×PV),(kvs.any λkv=>decide (kv.1=k))=(bX kvs k).isSome
 |[]=>rfl
 |p::r=>by
  rw[List.any_cons]
  by_cases e:p.1=k
  ·simp only[iH e,bn0 e,Bool.true_or,Option.isSome_some]
  ·rw[iI e,bm3 e,Bool.false_or];exact pE k r
theorem V6 (k j:κ)(y:PV):∀kvs:List (κ×PV),bX (kvs.map λkv=>if kv.1=k then (kv.1,y) else kv) j=(bX kvs j).map λx=>if j=k then y else x
 |[]=>rfl
 |p::r=>by
  have ih:=V6 k j y r
  rw[bp3]
  by_cases h:p.1=k
  ·rw[if_pos h]
   by_cases e:p.1=j
   ·rw[iH (p:=(p.1,y)) e,iH e,Option.map_some,if_pos (e.symm.trans h)]
   ·rw[iI (p:=(p.1,y)) e,iI e,ih]
  ·rw[if_neg h]
   by_cases e:p.1=j
   ·rw[iH (p:=p) e,iH e,Option.map_some,if_neg (λz=>h (e.trans z))]
   ·rw[iI (p:=p) e,iI e,ih]
theorem V7 (k j:κ)(y:PV):∀kvs:List (κ×PV),bX kvs k=none->bX (kvs++[(k,y)]) j=if j=k then some y else bX kvs j
 |[],_=>by
  by_cases e:k=j
  ·rw[if_pos e.symm];exact iH (p:=(k,y)) e
  ·rw[if_neg (λz=>e z.symm)];exact iI (p:=(k,y)) e
 |p::r,hn=>by
  rw[List.cons_append]
  have hk:¬p.1=k:=λz=>by rw[iH z]at hn;cases hn
  rw[iI hk]at hn
  have ih:=V7 k j y r hn
  by_cases e:p.1=j
  ·rw[iH e,iH e,if_neg (λz=>hk (e.trans z))]
  ·rw[iI e,iI e,ih]
theorem V8 (kvs:List (κ×PV))(k j:κ)(y:PV):bX (cZ kvs k y) j=if j=k then some y else bX kvs j:=by
 unfold cZ
 by_cases a:(kvs.any λkv=>decide (kv.1=k))=true
 ·rw[if_pos a,V6]
  rw[pE]at a
  by_cases e:j=k
  ·obtain⟨x,hx⟩:=Option.isSome_iff_exists.mp a
   rw[if_pos e,e,hx,Option.map_some,if_pos rfl]
  ·rw[if_neg e]
   cases bX kvs j with
   |none=>rfl
   |some x=>rw[Option.map_some,if_neg e]
 ·rw[if_neg a]
  refine V7 k j y kvs ?_
  rw[pE]at a
  cases q:bX kvs k with
  |none=>rfl
  |some x=>rw[q]at a;exact (a rfl).elim
theorem V9 (kvs:List (κ×PV))(k:κ)(v:PV):(cZ kvs k v).length<=kvs.length+1:=by
 unfold cZ
 split
 ·rw[bl1];omega
 ·rw[bl4,bo1,List.length_nil];omega
end
theorem W0:∀(xs:List PV),flats xs=true↔∀x∈xs,flat x=true
 |[]=>by simp[flats]
 |x::r=>by
  unfold flats
  rw[bn4,W0 r];simp
theorem aK5 {κ:Type}[DecidableEq κ]{ps:List (κ×PV)}{k:κ}{v:PV}{p:κ×PV}(h:p∈cZ ps k v):p.2=v∨p∈ps:=by
 unfold cZ at h
 split at h
 ·obtain⟨q,hq,e⟩:=bo9.mp h
  split at e
  ·subst e;exact .inl rfl
  ·subst e;exact .inr hq
 ·rcases bn9.mp h with h|h
  ·exact .inr h
  ·rw[bl3.mp h];exact .inl rfl
theorem W5 {κ:Type}[DecidableEq κ]{ps:List (κ×PV)}{k:κ}{v:PV}(h:flats (ps.map (·.2))=true)(hv:flat v=true):flats ((cZ ps k v).map (·.2))=true:=by
 rw[W0]at h ⊢
 intro x hx
 obtain⟨p,hp,rfl⟩:=bo9.mp hx
 rcases aK5 hp with e|e
 ·rw[e];exact hv
 ·exact h _ (bo9.mpr ⟨p,e,rfl⟩)
theorem DS.put {ps:List (aD×PV)}{S:af}(h:DS ps S)(x:Int)(v:PV)(hv:flat v=true):DS (cZ ps (Sum.inl x:aD) v) (S++[x]):=by
 refine⟨λi=>?_,?_,W5 h.fl hv⟩
 ·rw[V8]
  by_cases e:i=x
  ·subst e;rw[if_pos rfl];simp
  ·rw[if_neg (λz=>e (Sum.inl.inj z)),h.has]
   simp[e]
 ·have:=V9 ps (Sum.inl x:aD) v
  have:=h.len
  rw[bl4,bo6];omega
theorem DS.merge {S:af}:∀{mp ps:List (aD×PV)}{T:af},DS ps S->DS mp T->DS (hZ ps mp) (S++T):=by
 have key:∀(mp:List (aD×PV)) {ps:List (aD×PV)} (i:Int),(bX (hZ ps mp) (Sum.inl i:aD)).isSome=((bX ps (Sum.inl i:aD)).isSome||(bX mp (Sum.inl i:aD)).isSome):=λmp=>by
  induction mp with
  |nil=>intro ps i;show (bX ps (Sum.inl i:aD)).isSome=_;rw[aK4];simp
  |cons p r ih=>
   intro ps i
   show (bX (hZ (cZ ps p.1 p.2) r) (Sum.inl i:aD)).isSome=_
   rw[ih,V8]
   by_cases e:(Sum.inl i:aD)=p.1
   ·rw[if_pos e,iH e.symm];simp
   ·rw[if_neg e,iI (Ne.symm e)]
 have keyl:∀(mp:List (aD×PV)) {ps:List (aD×PV)},(hZ ps mp).length<=ps.length+mp.length:=λmp=>by
  induction mp with
  |nil=>intro ps;exact bk9 _
  |cons p r ih=>
   intro ps
   have h1:=ih (ps:=cZ ps p.1 p.2)
   have h2:=V9 ps p.1 p.2
   show (hZ (cZ ps p.1 p.2) r).length<=_
   rw[bo1];omega
 have keyf:∀(mp:List (aD×PV)) {ps:List (aD×PV)},flats (ps.map (·.2))=true->flats (mp.map (·.2))=true->flats ((hZ ps mp).map (·.2))=true:=λmp=>by
  induction mp with
  |nil=>intro ps h _;exact h
  |cons p r ih=>
   intro ps h g
   have g:(flat p.2&&flats (r.map (·.2)))=true:=g
   rw[bn4]at g
   exact ih (ps:=cZ ps p.1 p.2) (W5 h g.1) g.2
 intro mp ps T h g
 refine⟨λi=>?_,?_,keyf mp h.fl g.fl⟩
 ·rw[key,h.has,g.has,bq0];simp
 ·have:=keyl mp (ps:=ps)
  have:=h.len
  have:=g.len
  rw[bl4];omega
def lN:cK:=λxs Q=>∃x ns,xs = [x]/\fA x ns/\ns.length<=1000/\∀ps,DS ps ns->Q (.dK ps)
def W6:aS:=(aR (iX 1 (qC (.dK [])))
 (aR (gC (iF (a5 0)) (dO 2)
  (rY 1 (a5 2) (qC (.bl true))))
 (mC 1)))
theorem aK6:fB W6 ["hearths","inside","hearth"] lN:=by
 rintro xs Q ⟨x,ns,rfl,hx,hl,q⟩
 refine⟨rfl,rfl,_,rfl,_,hx.seq,t6 hx,λi ρ=>∃y ps,ρ = [some (.sh (flat x) x),some (.own (.dK ps)),y]/\DS ps (ns.take i),⟨none,[],rfl,DS.nil⟩,?_,?_⟩
 ·rintro i y ρ hy ⟨y0,ps,rfl,d⟩
  obtain⟨n,rfl,hn⟩:=pD hy
  have hlen:=d.len
  rw[br6]at hlen
  refine⟨_,rfl,_,rfl,Sum.inl n,rfl,trivial,by omega,_,_,rfl,?_⟩
  rw[bu8,hn]
  exact d.put n _ rfl
 ·rintro ρ ⟨y,ps,rfl,d⟩
  rw[dF,bq9]at d
  exact⟨_,rfl,trivial,q ps d⟩
def t7:cK:=λxs Q=>∃x ns ps S,xs = [x,.dK ps]/\fA x ns/\DS ps S/\ns.length<=10000/\Q (.int ((ns.filter λx=>decide (x∈S)).length:Nat))
def W7:aS:=(bC (aO jU (a9 (iZ (iF (a5 0)) [none,some 1] (dO 0) (aZ (j5 false (a5 0) (a5 1))) (a5 0)) aC)))
theorem aK7:fB W7 ["hearths","inside"] t7:=by
 rintro xs Q ⟨x,ns,ps,S,rfl,hx,d,hl,q⟩
 refine⟨_,rfl,_,hx.seq,t6 hx,by rw[dF];omega,λi acc=>acc=intz ((ns.take i).filter λx=>decide (x∈S)),rfl,?_,?_⟩
 ·rintro i y acc hy rfl
  obtain⟨n,rfl,hn⟩:=pD hy
  have tk:=sZ (p:=λx=>decide (x∈S)) hn
  refine⟨_,rfl,_,rfl,_,.inl ⟨ps,Sum.inl n,rfl,rfl,rfl⟩,_,rfl,?_⟩
  show if (bX ps (Sum.inl n:aD)).isSome=true then _ else _
  rw[d.has n]
  by_cases h:n∈S
  ·rw[bn0 h]at tk ⊢
   refine b7 ⟨_,rfl,trivial,?_⟩
   rw[if_pos rfl]at tk
   show _=intz (List.filter _ (List.take (i+1) ns))
   rw[tk,j9];rfl
  ·rw[bm3 h]at tk ⊢
   refine aP ?_
   rw[if_neg (by decide),bo4]at tk
   show _=intz (List.filter _ (List.take (i+1) ns))
   rw[tk]
 ·rintro acc rfl
  rw[dF,bq9]
  refine⟨_,_,rfl,rfl,trivial,?_⟩
  rw[dF];exact q
def nB (n:Nat)(ls:aa):List PV:=(List.range n).map λ(k:Nat)=>PV.lst (intz (bS ls k))
def yM:cK:=λxs Q=>∃ws ls,xs = [bM ws ls]/\Wb ws ls/\Q (.lst (nB ws.length ls))
theorem aK8 {n:Nat}{ls:aa}{h:Int}(h0:0<=h)(h1:h<(n:Int)):atI (nB n ls) h=some (.lst (intz (bS ls h))):=by
 refine rJ h0 ?_
 unfold nB
 rw[bm7,List.getElem?_range (by omega)]
 show some (PV.lst (intz (bS ls ((h.toNat:Nat):Int))))=_
 rw[show ((h.toNat:Nat):Int)=h by omega]
def t8:cK:=λxs Q=>∃ws ls ps S h,xs = [bM ws ls,.lst (nB ws.length ls),.dK ps,.int h]/\Wb ws ls/\DS ps S/\0<=h/\h<(ws.length:Int)/\Q (.bl (kin ws ls S h))
def W8:aS:=(bC (oG (j5 true (a5 3) (a5 2)) (Q0 (aO t7 (a9 (aW (a5 1) (a5 3)) (a9 (a5 2) aC))) (aW (aW (a5 0) (qC (.int 0))) (a5 3)))))
theorem pF {ws:af}{h:Int}(h0:0<=h)(h1:h<(ws.length:Int)):atI (intz ws) h=some (.int (ws.getD h.toNat 0)):=by
 refine rJ h0 ?_
 have:h.toNat<ws.length:=by omega
 rw[bm7,bn7,bk8 this];rfl
theorem aK9:fB W8 ["web","around","burning","hearth"] t8:=by
 rintro xs Q ⟨ws,ls,ps,S,h,rfl,wb,d,h0,h1,q⟩
 refine⟨_,rfl,_,rfl,_,.inl ⟨ps,Sum.inl h,rfl,rfl,rfl⟩,_,rfl,?_⟩
 show if (!(bX ps (Sum.inl h:aD)).isSome)=true then _ else _
 rw[d.has h]
 unfold kin at q
 by_cases hm:h∈S
 ·rw[bn0 hm]at q ⊢
  exact aP ⟨trivial,by simpa using q⟩
 ·rw[bm3 hm]at q ⊢
  have nl:=wK ls h
  have:=wb.most
  refine b7 ⟨_,rfl,_,rfl,_,_,_,rfl,rfl,aK8 h0 h1,_,rfl,_,bS ls h,ps,S,rfl,.inr rfl,d,by omega,_,rfl,_,_,_,rfl,rfl,rfl,_,rfl,_,_,_,rfl,rfl,pF h0 h1,_,_,rfl,rfl,trivial,?_⟩
  simpa using q
def pG:cK:=λxs Q=>∃ws ls ps S,xs = [bM ws ls,.lst (nB ws.length ls),.dK ps]/\Wb ws ls/\DS ps S/\Q (.tup (intz (nextOf ws ls S)))
def W9:aS:=(bC (aO fU (a9 (iZ (l0 (aO nA (a9 (a5 0) aC))) [none,some 0,some 1,some 2] (dO 0) (aZ (aO t8 (a9 (a5 1) (a9 (a5 2) (a9 (a5 3) (a9 (a5 0) aC)))))) (a5 0)) aC)))
theorem aL0:fB W9 ["web","around","burning"] pG:=by
 rintro xs Q ⟨ws,ls,ps,S,rfl,wb,d,q⟩
 have few:=wb.few
 refine⟨_,rfl,ws,ls,rfl,_,rfl,by omega,by omega,by rw[mF];omega,λi acc=>acc=intz (((rng ws.length).take i).filter (kin ws ls S)),rfl,?_,?_⟩
 ·rintro i y acc hy rfl
  obtain⟨rfl,hi⟩:=mX hy
  have hi':i<ws.length:=by omega
  have tk:=sZ (p:=kin ws ls S) (aK0 hi')
  have e0:(0:Int)+(i:Int)=(i:Int):=by omega
  refine⟨_,rfl,_,rfl,_,rfl,_,rfl,ws,ls,ps,S,_,rfl,wb,d,by omega,by omega,_,rfl,?_⟩
  show if kin ws ls S ((0:Int)+(i:Int))=true then _ else _
  rw[e0]
  cases h:kin ws ls S (i:Int) with
  |true=>
   refine b7 ⟨_,rfl,trivial,?_⟩
   rw[h,if_pos rfl]at tk
   show _=intz (List.filter _ (List.take (i+1) _))
   rw[tk,j9]
   show _++[PV.int _]=_
   rfl
  |false=>
   refine aP ?_
   rw[h,if_neg (by decide),bo4]at tk
   show _=intz (List.filter _ (List.take (i+1) _))
   rw[tk]
 ·rintro acc rfl
  rw[mF,bu9 (by rw[aJ9];omega)]
  exact⟨⟨_,_,rfl,rfl,eM _,trivial,q⟩,λns z=>by cases z⟩
def tups (rs:ae):List PV:=rs.map λr=>PV.tup (intz r)
theorem aL1 {rs:ae}{i:Nat}{x:PV}(h:(tups rs)[i]? = some x):∃r,x = .tup (intz r)/\rs[i]? = some r:=by
 unfold tups at h
 rw[bm7]at h
 cases e:rs[i]? with
 |none=>rw[e]at h;cases h
 |some n=>rw[e]at h;exact⟨n,(bl6 h).symm,rfl⟩
theorem X0 (rs:ae):(tups rs).length=rs.length:=bl1 _
theorem jA {n:Nat}{ns:af}(h:cL n ns=true):i5 ns=true/\∀x∈ns,0<=x/\x<(n:Int):=by
 unfold cL at h
 rw[bn4,bt2]at h
 refine⟨h.1,λx hx=>?_⟩
 have:=h.2 _ (bo9.mpr ⟨x,hx,rfl⟩)
 unfold inB at this
 simpa using this
theorem pH {n:Nat}{ns:af}(h:cL n ns=true):ns.length<=n:=by
 obtain⟨h1,h2⟩:=jA h
 have:=V1 (ws:=List.replicate n (0:Int)) (lM h1) (by rw[List.length_replicate];exact h2)
 rw[List.length_replicate]at this
 omega
theorem t9 {ws:af}{ls:aa}{ns:af}(h:cL ws.length ns=true)(k:Nat):(b8 ws ls ns k).length<=ws.length:=by
 have h1:=yJ ws ls ns k
 have h2:=V1 (lM (jA h).1) (jA h).2
 omega
theorem aL2 (g:Tg)(n:Int):Nw g (.int n):=by cases g<;>first|exact trivial|rfl
def pI (x:PV)(ns:af):Prop:=x = .scr ns∨x = .lst (intz ns)
theorem pI.seq {x:PV}{ns:af}(h:pI x ns):iY x=some (intz ns):=by rcases h with rfl|rfl<;>rfl
theorem pI.len {x:PV}{ns:af}(h:pI x ns):O2 x=some ns.length:=by
 rcases h with rfl|rfl
 ·rfl
 ·show some (intz ns).length=_
  rw[dF]
def jB:cK:=λxs Q=>∃x ns k,xs = [x,.int k]/\pI x ns/\0<=k/\Q (.int (ns.getD k.toNat 0))
def X1:aS:=(aR (bI (aZ (l9 (a5 1) (aO jU (a9 (a5 0) aC)))) (bC (aW (a5 0) (a5 1))) bH)
 (bC (qC (.int 0))))
theorem aL3:fB X1 ["script","k"] jB:=by
 rintro xs Q ⟨x,ns,k,rfl,hx,h0,q⟩
 refine⟨_,rfl,_,rfl,_,_,rfl,hx.len,_,_,rfl,rfl,_,rfl,?_⟩
 by_cases h:k<(ns.length:Int)
 ·rw[bn0 h]
  exact b7 ⟨_,rfl,_,rfl,_,_,_,hx.seq,rfl,pF h0 h,aL2 _ _,q⟩
 ·rw[bm3 h]
  rw[bn7,List.getElem?_eq_none (by omega)]at q
  exact aP ⟨trivial,q⟩
def bN (ls:aa):List PV:=ls.map λl=>PV.tup [.int l.1,.int l.2]
theorem pJ (ls:aa):(bN ls).length=ls.length:=bl1 _
def jC (l m:Int×Int):Prop:=l.1<m.1∨(l.1=m.1/\l.2<m.2)
structure kB (n:Int)(ls:aa)(a b:Int):Prop where
 inn:∀l∈ls,0<=l.1/\l.1<l.2/\l.2<n
 ord:ls.Pairwise jC
 low:∀l∈ls,jC l (a,b)
theorem kB.mono {n a b a' b':Int}{ls:aa}(h:kB n ls a b)(m:a<a'∨(a=a'/\b<=b')):kB n ls a' b':=
 ⟨h.inn,h.ord,λl hl=>by have:=h.low l hl;unfold jC at *;dsimp only at *;omega⟩
theorem kB.add {n a b:Int}{ls:aa}(h:kB n ls a b)(h0:0<=a/\a<b/\b<n):kB n (ls++[(a,b)]) a (b+1):=by
 refine⟨λl hl=>?_,?_,λl hl=>?_⟩
 ·rcases bn9.mp hl with hl|hl
  ·exact h.inn l hl
  ·rw[bl3.mp hl];exact h0
 ·exact bp7.mpr ⟨h.ord,bn3 _ _,λl hl m hm=>by rw[bl3.mp hm];exact h.low l hl⟩
 ·rcases bn9.mp hl with hl|hl
  ·have:=h.low l hl;unfold jC at *;dsimp only at *;omega
  ·rw[bl3.mp hl];unfold jC;dsimp only;omega
abbrev si (n:Int):Option Slot:=some (.sh true (.int n))
theorem X2 {ls:aa}{i:Nat}{x:PV}(h:(bN ls)[i]? = some x):∃l,x = .tup [.int l.1,.int l.2]/\ls[i]? = some l:=by
 unfold bN at h
 rw[bm7]at h
 cases e:ls[i]? with
 |none=>rw[e]at h;cases h
 |some n=>rw[e]at h;exact⟨n,(bl6 h).symm,rfl⟩
end Core
namespace PP
open PySem L2 PyProof.Rows
section
variable {X:Cx}{a b e:Expr}{ta tb te:aH}{tr:bT}{pos p2 p3 pos2:Pos}
def yN:V->Int
 |.int i=>i
 |_=>0
def lO (H:Hp):V->af
 |.ref a=>match H a with
  |some (.tup us)=>us.map yN
  |_=>[]
 |_=>[]
theorem aL4 {H:Hp}{a:Addr}{ns:af}(h:H a=some (.tup (ns.map V.int))):lO H (.ref a)=ns:=by
 show (match H a with|some (.tup us)=>us.map yN|_=>[])=ns
 rw[h]
 show (ns.map V.int).map yN=ns
 rw[bx5]
 exact List.map_id _
theorem X3 {K:ac}{M:Addr->Prop}{H:Hp}:∀{us:List V}{ys:ae},Reps K M H us (ys.map λr=>PV.tup (intz r))->us.map (lO H)=ys/\∀u∈us,∃b,u = .ref b/\H b=some (.tup ((lO H u).map V.int))
 |_,[],.nil=>⟨rfl,λu h=>nomatch h⟩
 |_,y::ys,.cons r t=>by
  obtain⟨a,us,rfl,h,r1⟩:=r.sqT
  obtain rfl:=r1.ofInts
  obtain⟨h1,h2⟩:=X3 t
  have hk:=aL4 h
  refine⟨by rw[bp3,h1,hk],λu hu=>?_⟩
  rcases bl2.mp hu with rfl|hu
  ·exact⟨a,rfl,by rw[hk];exact h⟩
  ·exact h2 u hu
theorem X4 {K:ac}{M:Addr->Prop}{H:Hp}:∀{us:List V},(∀u∈us,∃b,u = .ref b/\H b=some (.tup ((lO H u).map V.int)))->Reps K M H us ((us.map (lO H)).map λr=>PV.tup (intz r))
 |[],_=>.nil
 |u::us,h=>by
  obtain⟨b,rfl,hb⟩:=h u bm8
  exact .cons (.tup hb (Reps.intz _)) (X4 λv hv=>h v (bm9 _ hv))
end
def X5 (K:ac):Sp:=λvs H Q _=>∃(a:Addr) (ns:af),vs = [.ref a]/\(aL K H a (ns.map V.int)∨aM K H a (ns.map V.int))/\ns.length<=1000/\∀H',aB H H'->Q (.bl (Core.i5 ns)) H'
def X6:Sp:=λvs H Q _=>∃v ws ls,vs = [v]/\M5 H v ws ls/\ws.length<=1000/\ls.length<=2000/\(∀l∈ls,(0<=l.1/\l.1<ws.length)/\0<=l.2/\l.2<ws.length)/\
 ∀(r:Addr) (bs:List Addr) (H':Hp),bs.length=ws.length->iV H H' r bs (λk=>bS ls k)->Q (.ref r) H'
section
variable {P:Program}{w:World}{K:ac}{mg:Str→Option Value}{base:Heap}{f:Addr}{fd:FuncData}{k:Nat}
theorem aL5 (F:bQ P w K mg base eB k f fd ["things"] (X5 K))(b:dJ K fd ["things"] [])(kp:PySem.W.keepIn K (.ref f)=true)(m:mg "rises" = some (.ref f)):Df P w K mg base k "rises" ["things"] Core.yL:=by
 refine⟨f,fd,F.imp λvs H Q E h=>?_,b,kp,m⟩
 obtain⟨xs,Qp,r,⟨x,ns,rfl,hx,hl,q⟩,k⟩:=h
 obtain⟨v,rfl,r1⟩:=r.one
 rcases hx with rfl|rfl
 ·obtain⟨a,us,rfl,h,r2⟩:=r1.sqT
  obtain rfl:=r2.ofInts
  exact⟨a,ns,rfl,.inl (aL.of h),hl,λH' s=>k _ H' _ s (.bl _) q⟩
 ·obtain⟨a,us,rfl,_,h,r2⟩:=r1.sqL
  obtain rfl:=r2.ofInts
  exact⟨a,ns,rfl,.inr (aM.of h),hl,λH' s=>k _ H' _ s (.bl _) q⟩
theorem X7 {M:Addr->Prop}{H:Hp}:∀{us:List V}{ls:aa},Reps K M H us (ls.map λl=>PV.tup [.int l.1,.int l.2])->oC H us ls
 |_,[],.nil=>.nil
 |_,l::ls,.cons r t=>by
  obtain⟨a,us,rfl,h,r1⟩:=r.sqT
  obtain⟨u1,u2,rfl,q1,q2⟩:=r1.two
  cases q1;cases q2
  exact .cons ⟨a,rfl,h⟩ (X7 t)
theorem aL6 {M:Addr->Prop}{H:Hp}{v:V}{ws:af}{ls:aa}(r:aE K M H v (Core.bM ws ls)):M5 H v ws ls:=by
 obtain⟨a,us,rfl,h,r1⟩:=aE.sqT r
 obtain⟨u1,u2,rfl,q1,q2⟩:=r1.two
 obtain⟨p,up,rfl,hp,rp⟩:=q1.sqT
 obtain⟨q,uq,rfl,hq,rq⟩:=q2.sqT
 obtain rfl:=rp.ofInts
 exact⟨a,p,q,uq,rfl,h,hp,hq,X7 rq⟩
theorem X8 {M:Addr->Prop}{H:Hp}:∀{bs:List Addr}{ls:aa} (off:Nat),(∀b∈bs,M b)->(∀(k:Nat) b,bs[k]? = some b->H b=some (.lst ((bS ls ((off+k:Nat):Int)).map V.int)))->Reps K M H (bs.map V.ref) ((List.range' off bs.length).map λ(k:Nat)=>PV.lst (intz (bS ls k)))
 |[],_,_,_,_=>.nil
 |b::bs,ls,off,hm,h=>by
  refine .cons (.lst (hm b bm8) (h 0 b rfl) (Reps.intz _)) (X8 (off+1) (λc hc=>hm c (bm9 _ hc)) λk c hk=>?_)
  have:=h (k+1) c (by rw[bu2];exact hk)
  rw[show off+1+k=off+(k+1) by omega];exact this
theorem aL7 (F:bQ P w K mg base eB k f fd ["web"] X6)(b:dJ K fd ["web"] [])(kp:PySem.W.keepIn K (.ref f)=true)(m:mg "near_lists" = some (.ref f)):Df P w K mg base k "near_lists" ["web"] Core.yM:=by
 refine⟨f,fd,F.imp λvs H Q E h=>?_,b,kp,m⟩
 obtain⟨xs,Qp,r,⟨ws,ls,rfl,wb,q⟩,k⟩:=h
 obtain⟨v,rfl,r1⟩:=r.one
 have:=wb.few
 have:=wb.most
 refine⟨v,ws,ls,rfl,aL6 r1,by omega,by omega,wb.links,λt bs H' hb R=>k _ H' _ R.same (.lst R.new R.row ?_) q⟩
 have:=X8 (K:=K) (M:=λa=>H a=none) (H:=H') (bs:=bs) (ls:=ls) 0 (λb hb=>(R.news b hb).1) λk b hk=>by rw[Nat.zero_add];exact R.rows k b hk
 rw[hb,<- List.range_eq_range']at this
 exact this
end
end PP
namespace Core
open PySem L2 PP
theorem aL8 (n:Nat):(rng n).Nodup:=by
 unfold rng
 rw[List.nodup_iff_pairwise_ne,List.pairwise_map]
 exact (List.nodup_range (n:=n)).imp λh e=>h (by omega)
def two (l:Int×Int):af:=[l.1,l.2]
def pK (r:af):Int×Int:=(r.getD 0 0,r.getD 1 0)
theorem nC (ls:aa):bN ls=(ls.map two).map λr=>PV.tup (intz r):=by
 unfold bN
 rw[bx5];rfl
theorem X9 {zs:ae}{ls:aa}(h:zs.Perm (ls.map two)):∃ls':aa,zs=ls'.map two/\ls'.Perm ls:=by
 refine⟨zs.map pK,?_,?_⟩
 ·rw[bx5]
  have:∀z∈zs,(two ∘ pK) z=z:=λz hz=>by
   obtain⟨l,_,rfl⟩:=bo9.mp (h.mem_iff.mp hz)
   rfl
  rw[List.map_congr_left this,List.map_id']
 ·have:=h.map pK
  rw[bx5]at this
  have e:ls.map (pK ∘ two)=ls:=by
   have:∀l∈ls,(pK ∘ two) l=id l:=λl _=>rfl
   rw[List.map_congr_left this,List.map_id]
  rw[e]at this
  exact this
theorem aL9 {ls:aa}(so:(ls.map two).Pairwise λu v=>HT.cO v u=false)(nd:ls.Nodup):ls.Pairwise jC:=by
 rw[List.pairwise_map]at so
 refine (List.pairwise_and_iff.mpr ⟨so,nd⟩).imp λ{a b} h=>?_
 obtain⟨h1,h2⟩:=h
 unfold two at h1
 rw[HT.m3]at h1
 unfold jC
 by_cases e:b.1=a.1
 ·rw[if_pos e,HT.m3]at h1
  by_cases e2:b.2=a.2
  ·exact absurd (Prod.ext e.symm e2.symm) h2
  ·rw[if_neg e2]at h1
   have:=bq2 h1
   omega
 ·rw[if_neg e]at h1
  have:=bq2 h1
  omega
theorem yO (ws:af)(ls:aa):flats [.tup (intz ws),.tup (bN ls)]=true:=mZ ws ls
def fX (l:Int×Int):List aD:=[Sum.inl l.1,Sum.inl l.2]
structure DL (n:Int)(ps:List (List aD×PV))(i:Nat):Prop where
 key:∀p∈ps,∃l:Int×Int,p.1=fX l/\0<=l.1/\l.1<l.2/\l.2<n
 len:ps.length<=i
 fl:flats (ps.map (·.2))=true
 nd:(ps.map (·.1)).Nodup
theorem aM0 (ns:af){k:Int}(h:0<=k):gR (intz ns) (some k) none=intz (ns.drop k.toNat):=by
 unfold gR
 have e1:HT.aX (intz ns).length 0 (some k)=min k.toNat (intz ns).length:=by
  have:=HT.G1 (intz ns).length 0 k.toNat
  rw[show ((k.toNat:Nat):Int)=k by omega]at this
  exact this
 have e2:HT.aX (intz ns).length (intz ns).length none=(intz ns).length:=rfl
 rw[e1,e2,dF]
 rw[bu9 (by rw[bu0,dF];omega)]
 show _=List.map PV.int _
 rw[List.map_drop]
 by_cases hk:k.toNat<=ns.length
 ·rw[Nat.min_eq_left hk]
 ·rw[Nat.min_eq_right (by omega),List.drop_of_length_le (by rw[dF];omega),List.drop_of_length_le (by rw[dF];omega)]
structure yP (i:Int)(ms:af):Prop where
 up:ms.Pairwise (·<·)
 inn:∀x∈ms,0<=x/\x<i
 len:(ms.length:Int)<=i
theorem yP.set {n:Nat}{ms:af}(h:yP (n:Int) ms):cL n ms=true:=by
 unfold cL
 rw[yF h.up,Bool.true_and,bt2]
 intro b hb
 obtain⟨x,hx,rfl⟩:=bo9.mp hb
 have:=h.inn x hx
 unfold inB
 simp[this]
theorem aM1:∀{a b:af},a.Perm b->a.Pairwise (· <= ·)->b.Pairwise (· <= ·)->a=b:=by
 intro a b h ha hb
 exact h.eq_of_pairwise (λx y _ _ h1 h2=>Int.le_antisymm h1 h2) ha hb
def Y0:cK:=λxs Q=>∃ns:af,xs = [.scr ns]/\ns.length<=63/\Q (.bl true)
end Core
namespace PP
open PySem L2 PyProof.Rows
theorem aM2 {P:Program}{w:World}{K:ac}{mg:Str->Option Value}{base:Heap}{k:Nat}{x:Str}{ps N:List Str}{p:cK}{st:Stmt}{f:Addr}{fd:FuncData}(F:cP K x x st f fd)(S:FnScope N ps (aN st))(len:∀xs Q,p xs Q->xs.length=ps.length)(body:∀(cdv:Value) (A:Around) (outer:List Env) (s:Shared) (H:Hp) (E:XK),bD k (A.deeper (envOfC x (aN st) s.heap.objs.size f cdv))->
   ∃t,eZ (cC eB P w K mg base N x (aN st) f cdv A outer s H E).nox (cI st) t/\∀xs Q,p xs Q->t { nx:=λ_=>Q .non,rt:=Q } (eY N xs)):bQ P w K mg base eB (k+1) f fd ps (oI K p):=by
 refine F.ok S (λvs H Q E h=>?_) (λcdv A outer s H vs Q E hr h=>?_)
 ·obtain⟨xs,Qp,r,q,_⟩:=h
  rw[r.length];exact len xs Qp q
 ·obtain⟨xs,Qp,r,q,k⟩:=h
  obtain⟨t,ht,hq⟩:=body cdv A outer s H E hr
  refine⟨_,ht,λ_=>False,eY N xs,_,sG r,hq xs Qp q,?_,?_,?_,?_⟩
  ·exact λW' σ' H' ρ' e px q=>k _ _ _ px.same .non q
  ·exact λv H' x s r q=>k _ _ _ s r q
  ·exact λW' σ' H' ρ' e px q=>q
  ·exact λW' σ' H' ρ' e px q=>q
def tD (K:ac):Sp:=λvs H Q _=>∃(a:Addr) (ns:af),vs = [.ref a]/\iW K H a ns/\ns.length<=63/\∀H',Q (.bl true) H'
theorem aM3 {P:Program}{w:World}{K:ac}{mg:Str->Option Value}{base:Heap}{k:Nat}{f:Addr}{fd:FuncData}(F:bQ P w K mg base eB k f fd ["script"] (oI K Core.Y0)):bQ P w K mg base eB k f fd ["script"] (tD K):=
 F.imp λvs H Q E h=>by
  obtain⟨a,ns,rfl,hs,hl,q⟩:=h
  refine⟨[.scr ns],λz=>z = .bl true,.cons (.scr hs) .nil,⟨ns,rfl,hl,rfl⟩,?_⟩
  rintro v H' x _ r rfl
  cases r
  exact q H'
theorem aM4 {K:ac}{H:Hp}{a:Addr}{ns:af}(hO:rA H)(h:aM K H a (ns.map V.int)):iW K H a ns:=by
 rcases h with (h|⟨o,h⟩)|h
 ·rcases hO a with e|⟨o,xs,e⟩<;>(rw[h]at e;cases e)
 ·exact .inl ⟨o,h⟩
 ·exact .inr h
end PP
namespace PyProof.Rows
open PySem
section
variable {prog:Program}{w:World}{A:Around}{E:Value→Shared→Prop}{s:Shared}
theorem Y1 {l:Addr}{vs:List Value}{Q:List Value->Shared->Prop}(hl:s.heap.IsTuple l vs.toArray)(h:Q vs { s with heap:=(s.heap.push (seqObj "list" #[] 0)).update s.heap.objs.size (Obj.mapSeq (·++vs.toArray)) })(hsz:vs.length<=sizeLine) :
  wpAny (model prog w) A (collect (.ref l)) Q E s:=by
 obtain⟨o,ho,hc,n,hd⟩:=id hl
 unfold collect
 refine bk5 (wpAny_runValue (codeAny_builtin entry_proto_collect' ?_))
 show wpAny _ _ (do again (.builtin "list.__iadd__" ⟨[<- newList [],.ref l],[]⟩)) _ _ s
 refine bk5 (wpAny_newList (bl0 ⟨Code.quiet_builtin _ (by decide +kernel),codeAny_builtin entry_list_iadd' ?_⟩))
 show wpAny _ _ (Builtin.List.listExtendWith (.ref s.heap.objs.size) (.ref l) (.ref s.heap.objs.size)) _ _ { s with heap:=s.heap.push (seqObj "list" #[] 0) }
 unfold Builtin.List.listExtendWith
 have ho':(s.heap.push (seqObj "list" #[] 0)).get? l=some o:=bk6 _ ho
 refine bk5 (wpAny_typeOf (T:="tuple") ⟨o,ho',hc⟩ ?_)
 have ht:(Value.type "tuple"==Value.type "tuple")=true:=by rfl
 rw[if_pos (by rw[ht];simp)]
 refine bk5 (listItems_at ho' hd ?_)
 refine bk5 (listItems_at (xs:=#[]) (n:=0) (bm0 _ rfl) rfl ?_)
 rw[if_neg (by simp)]
 refine bk5 (listUpdate_at (xs:=#[]) (n:=0) (bm0 _ rfl) rfl ?_ (bo0 _) (by show (#[]++vs.toArray).size<=sizeLine+1;simp only[Array.size_append,bk7,List.length_nil];omega))
 refine bl0 ?_
 show wpAny (model prog w) A (do
   let o <- load s.heap.objs.size
   match o.data with
   |.seq xs _=>pure xs.toList
   |_=>unsupported "internal:collect") Q E { s with heap:=(s.heap.push (seqObj "list" #[] 0)).update s.heap.objs.size (Obj.mapSeq (·++vs.toArray)) }
 refine bk5 (wpAny_load (get?_update_seq (bm0 _ rfl) _) ?_)
 show wpAny _ _ (pure ((#[]:Array Value)++vs.toArray).toList) Q E _
 rw[show ((#[]:Array Value)++vs.toArray).toList=vs by simp]
 exact bl0 h
theorem aM5 {l:Addr}{vs:List Value}{ns:af}{Q:Value->Shared->Prop}(hl:s.heap.IsTuple l vs.toArray)(hI:IntsAre vs ns)(h64:vs.length<64)(h:∀(out:Array Value) (ns':af),IntsAre out.toList ns'->ns'.Perm ns->ns'.Pairwise (· <= ·)->Q (.ref (s.heap.objs.size+1)) { s with heap:=sortedAll s.heap vs out }) :
  wpAny (model prog w) A (call (.builtin "sorted") [.ref l]) Q E s:=by
 have hsl:vs.length<=sizeLine:=bo3 (br0 h64) (by decide)
 refine Calls.call_function_entry kind_sorted plain_sorted entry_sorted (args_sorted1 _) ?_
 unfold Builtin.«sorted»
 refine bk5 (m:=checkCount "sorted" 1 1 _) (bl0 ?_)
 refine bk5 (Y1 hl ?_ hsl)
 refine bk5 (wpAny_newList ?_)
 have hsz:((s.heap.push (seqObj "list" #[] 0)).update s.heap.objs.size (Obj.mapSeq (·++vs.toArray))).objs.size=s.heap.objs.size+1:=by
  rw[Heap.size_update,size_push']
 have hoL:(((s.heap.push (seqObj "list" #[] 0)).update s.heap.objs.size (Obj.mapSeq (·++vs.toArray))).push (seqObj "list" vs.toArray 0)).get? (s.heap.objs.size+1)=some (seqObj "list" vs.toArray 0):=by
  rw[<- hsz];exact bm0 _ rfl
 show wpAny _ _ _ _ _ { s with heap:=((s.heap.push (seqObj "list" #[] 0)).update s.heap.objs.size (Obj.mapSeq (·++vs.toArray))).push (seqObj "list" vs.toArray 0) }
 rw[hsz]
 refine bk5 (bz1 (bq7 slot_list_sort ⟨_,hoL,rfl⟩ entry_list_sort (list_sort_tree hoL hI h64 λout ns' a1 a2 a3=>⟨_,rfl,?_⟩) (args_list_sort _)))
 exact bl0 ⟨_,rfl,h out ns' a1 a2 a3⟩
end
end PyProof.Rows
namespace PP
open PySem L2 PyProof.Rows
section
variable {X:Cx}{a b e:Expr}{ta tb te:aH}{tr:bT}{pos p2:Pos}
theorem aM6:cH X (.builtin "sorted") (λxs H Q=>∃a ns,xs = [.ref a]/\(aM X.K H a (ns.map V.int)∨aL X.K H a (ns.map V.int))/\ns.length<64/\∀l (ms:af),H l=none->ms.Perm ns->ms.Pairwise (· <= ·)->Q (.ref l) (upd H l (.lst (ms.map V.int)))):=by
 intro pins s σ H xs us Q I r h
 obtain⟨a,ns,rfl,hs,h64,q⟩:=h
 rcases hs with hs|hs
 ·exact ax0 pins s σ H _ us Q I r ⟨a,ns,rfl,hs,h64,q⟩
 obtain⟨u,rfl,ru⟩:=fM r
 cases ru
 obtain⟨its,rv,p,hz⟩:=I.tuple hs
 have hl:=rv.length
 rw[bl1]at hl
 refine aM5 p (jQ rv) (by omega) λout ns' a1 a2 a3=>?_
 obtain⟨e,he⟩:=sortedAll_at s.heap its out
 have hn:s.heap.objs.size<=s.heap.objs.size+1:=by5 _
 have hlen:ns'.length=ns.length:=a2.length_eq
 refine⟨.ref (s.heap.objs.size+1),upd H (s.heap.objs.size+1) (.lst (ns'.map V.int)),I.laid (t':=s.toks) (λ_ _=>sortedAll_old) hn ⟨?_,out.toList,e,o7 a1,by simpa using he⟩,rfl,q _ ns' (I.hok.fresh hn) a2 a3⟩
 rw[bl1,hlen]
 exact br0 (o8 (by omega))
def yQ:List PV->(PV->Prop)->Prop:=λxs Q=>∃x ns,xs = [x]/\iY x=some (intz ns)/\ns.length<64/\∀ms:af,ms.Perm ns->ms.Pairwise (· <= ·)->Q (.lst (intz ms))
theorem aM7:dM X yQ (λxs H Q=>∃a ns,xs = [.ref a]/\(aM X.K H a (ns.map V.int)∨aL X.K H a (ns.map V.int))/\ns.length<64/\∀l (ms:af),H l=none->ms.Perm ns->ms.Pairwise (· <= ·)->Q (.ref l) (upd H l (.lst (ms.map V.int)))):=by
 rintro H vs xs Q Q' r ⟨x,ns,rfl,e,hl,q⟩ k
 obtain⟨v,rfl,r1⟩:=r.one
 obtain⟨a,us,rfl,hs,r2⟩:=r1.seq e
 obtain rfl:=r2.ofInts
 exact⟨a,ns,rfl,hs,hl,λl ms hl' p o=>k _ _ _ (bR hl' _) (.lst hl' aU (Reps.intz ms)) (q ms p o)⟩
theorem aM8 (B:Bt X.mg)(ha:QA X [e] tr)(hg:Gl X "sorted":=by rfl)(he:starEach [e] X.env=(false,eval e X.env)::starEach [] X.env:=by rfl)(hpl:(backTo pos (starEach [] X.env)).any (·.1)=false:=by rfl):QE X (.Call (.Name "sorted" p2) [e] [] pos) (aO yQ tr):=
 j7 aM6 aM7 hg B.sorted PyProof.Rows.boot_sorted ha (he:=he) (hpl:=hpl)
end
end PP
namespace L2
open PySem PySem.Spec PyProof.Rows
def yR (K:ac)(a:Addr):It:=
  ⟨λi H=>∃xs x,aM K H a xs/\xs[i]? = some x,
   λi H v H'=>∃T x,H T=none/\v = .ref T/\H'=upd H T (.tup [.int i,x])/\∀xs,aM K H a xs->xs[i]? = some x,
   λi H=>∃xs,aM K H a xs/\xs.length<=i⟩
structure aM9 (e it a:Addr)(i:Nat)(h:Heap):Prop where
 ee:∃old,IsEnum h e it i old
 s1:h.IsListIter it a i
theorem aN0 {P:Program}{w:World}{K:ac}{elts:List Expr}{k:Nat}{pos:Pos}(a e it:Addr)(d:e≠it) :
  iD P w K (.Tuple elts k pos) (yR K a) [e,it] e (aM9 e it a):=by
 refine⟨by simp,λi h st c hc=>?_,λi h h' st kp=>?_,?_,?_,λA i s Q E st q=>?_⟩
 ·simp only[bl2,bm1,bp1]at hc
  obtain⟨old,ee⟩:=st.ee
  obtain⟨o1,f1,g1,d1⟩:=st.s1
  rcases hc with rfl|rfl
  ·exact⟨_,ee,λv q=>by cases q⟩
  ·exact⟨_,f1,λv q=>by rw[d1]at q;cases q⟩
 ·obtain⟨old,ee⟩:=st.ee
  exact⟨⟨old,kp e (by simp) _ ee⟩,st.s1.at λo z=>kp it (by simp) o z⟩
 ·intro X hP hw hK hc i pins s σ H E I hf st hg
  subst hP hw hK
  obtain⟨xs,x,ha,hx⟩:=hg
  obtain⟨us,ru,pu,lu⟩:=I.list ha
  obtain⟨ux,eux,rux⟩:=ru.get hx
  obtain⟨old,ee⟩:=st.ee
  refine wpAny_pyNext_enum_item ee st.s1 pu.isList (by simpa using eux) d λh' eo it' pr sz kp=>⟨_,rfl,?_⟩
  refine wpAny_letOwnedTupleGo_enum (s:={ s with heap:=h',toks:=s.toks+1 }) eo λg zz sb=>?_
  have hzl:e<s.heap.objs.size:=bl8 ee
  have up:∀c o,c≠e->c≠it->s.heap.get? c=some o->g.get? c=some o:=λc o c1 c2 z=>sb.extBut c o c1 (kp c o c1 c2 z)
  have hT:H s.heap.objs.size=none:=I.hok.fresh (bk9 _)
  have prG:g.get? s.heap.objs.size=some { cls:=.type "tuple",data:=.seq #[.int i s.toks,ux] }:=sb.extBut _ _ (bs6 hzl) pr
  have fpn:∀c u,H c=some u->c∉[e,it]:=λc u z hm=>by rw[(hf c hm).1]at z;cases z
  have upH:∀c o u,H c=some u->s.heap.get? c=some o->g.get? c=some o:=λc o u q z=>by
   have:=fpn c u q
   simp only[bl2,bm1,bp1,not_or]at this
   exact up c o this.1 this.2 z
  have ns:∀m,s.heap.Ns X.env.locals m->g.Ns X.env.locals m:=λm hm=>by
   obtain⟨o,es,ep,e1,e2⟩:=hm
   exact⟨o,es,ep,up _ o (Ne.symm (hf e (by simp)).2.1) (Ne.symm (hf it (by simp)).2.1) e1,e2⟩
  have I2:a8 X pins σ (upd H s.heap.objs.size (.tup [.int i,x])) { s with heap:=g,toks:=s.toks+1 }:=by
   refine I.step (g':=s.gens) (d':=s.drawn) (ch:=[e,it]) (λc hc'=>?_) (λc o _ _ hc' z _=>?_) (λc o _ _ hc' z _=>⟨o.slots,?_⟩) (λc o _ z n=>?_) (λc o hc' z=>⟨o,?_⟩)
    (λc zs z=>by rw[aF (cX z hT)];exact z) (λc u zs z=>by rw[aF (cX z hT)];exact z) (λc ps z=>⟨#[],by rw[aF (cX z hT),z];simp⟩) ns (λc u z=>?_) I.bare
   ·exact⟨(hf c hc').2.2.2.1,(hf c hc').2.1,(hf c hc').2.2.2.2.1,(hf c hc').2.2.2.2.2⟩
   ·simp only[bl2,bm1,bp1,not_or]at hc'
    exact up c o hc'.1 hc'.2 z
   ·simp only[bl2,bm1,bp1,not_or]at hc'
    exact up c o hc'.1 hc'.2 z
   ·rw[aF (bn6 (bl8 z))];exact n
   ·simp only[bl2,bm1,bp1,not_or]at hc'
    exact up c o hc'.1 hc'.2 z
   ·by_cases hcT:c=s.heap.objs.size
    ·subst hcT
     rw[aU]at z;cases z
     exact⟨by show 2<=sizeLine;decide,[.int i s.toks,ux],.cons ⟨_,rfl⟩ (.cons rux .nil),⟨_,prG,rfl,_,rfl⟩,λu e=>by rw[prG]at e;cases e;rfl⟩
    ·rw[aF hcT]at z
     refine (I.hok c u z).stay (λc' o' hc2 q'=>?_) (λc' q'=>by rw[aF (cX q' hT)];exact q') λc' zs q'=>by rw[aF (cX q' hT)];exact q'
     rcases hc2 with rfl|hc2
     ·exact upH _ _ _ z q'
     ·exact upH _ _ _ hc2 q'
  refine⟨.ref s.heap.objs.size,_,I2,rfl,⟨_,x,hT,rfl,rfl,λxs' ha'=>?_⟩,⟨⟨ux,by push_cast;exact zz⟩,it'.at λo z=>sb.extBut _ o (Ne.symm d) z⟩,λc hc'=>?_⟩
  ·rw[I.list_inj ha' ha];exact hx
  ·obtain⟨o,z⟩:∃o,s.heap.get? c=some o:=by
    simp only[bl2,bm1,bp1]at hc'
    obtain⟨o1,f1,_⟩:=st.s1
    rcases hc' with rfl|rfl
    ·exact⟨_,ee⟩
    ·exact⟨_,f1⟩
   rw[aF (bn6 (bl8 z))];exact (hf c hc').1
 ·intro X hP hw hK hc i pins s σ H E I hf st hg
  subst hP hw hK
  obtain⟨xs,ha,hi⟩:=hg
  obtain⟨us,ru,pu,lu⟩:=I.list ha
  obtain⟨old,ee⟩:=st.ee
  have hh:X.A.handled=none:=I.ok.hd hc
  have e1:=ru.length
  refine wpAny_pyNext_enum_end hh ee st.s1 pu.isList (by rw[Array.getElem?_eq_none];simp only[bk7];omega) λg kp=>⟨rfl,?_⟩
  have fpn:∀c u,H c=some u->c∉[e,it]:=λc u z hm=>by rw[(hf c hm).1]at z;cases z
  have upH:∀c o u,H c=some u->s.heap.get? c=some o->g.get? c=some o:=λc o u q z=>by
   have:=fpn c u q
   simp only[bl2,bm1,bp1,not_or]at this
   exact kp c o this.2 z
  have ns:∀m,s.heap.Ns X.env.locals m->g.Ns X.env.locals m:=λm hm=>by
   obtain⟨o,es,ep,e1,e2⟩:=hm
   exact⟨o,es,ep,kp _ o (Ne.symm (hf it (by simp)).2.1) e1,e2⟩
  refine I.step (g':=s.gens) (d':=s.drawn) (ch:=[it]) (λc hc'=>?_) (λc o _ _ hc' z _=>?_) (λc o _ _ hc' z _=>⟨o.slots,?_⟩) (λc o _ z n=>n) (λc o hc' z=>⟨o,?_⟩)
   (λc zs z=>z) (λc u zs z=>z) (λc ps z=>⟨#[],by rw[z];simp⟩) ns (λc u z=>?_) I.bare
  ·have hm:c∈[e,it]:=bm9 _ hc'
   exact⟨(hf c hm).2.2.2.1,(hf c hm).2.1,(hf c hm).2.2.2.2.1,(hf c hm).2.2.2.2.2⟩
  ·exact kp c o (λy=>hc' (by rw[y];simp)) z
  ·exact kp c o (λy=>hc' (by rw[y];simp)) z
  ·exact kp c o (λy=>hc' (by rw[y];simp)) z
  ·refine (I.hok c u z).stay (λc' o' hc2 q'=>?_) (λ_ q'=>q') λ_ _ q'=>q'
   rcases hc2 with rfl|hc2
   ·exact upH _ _ _ z q'
   ·exact upH _ _ _ hc2 q'
 ·obtain⟨old,ee⟩:=st.ee
  exact wpAny_pyIter_enum ee q
end L2
namespace Zp
open PySem PyProof.Rows
section
variable {prog:Program}{w:World}{A:Around}{E:Value→Shared→Prop}{s:Shared}
theorem aN1 {e it t:Addr}{i:Nat}{items:Array Value}{x old:Value}{Q:Option Value->Shared->Prop}(he:IsEnum s.heap e it i old)(hi:s.heap.IsTupleIter it t i)(ht:s.heap.IsTuple t items)(hx:items[i]? = some x)(ne:e≠it)(q:∀h',IsEnumOut h' e it ((i:Int)+1) x s.heap.objs.size->h'.IsTupleIter it t (i+1)->h'.get? s.heap.objs.size=some { cls:=.type "tuple",data:=.seq #[.int i s.toks,x] }->h'.objs.size=s.heap.objs.size+1->
   (∀b o,b≠e->b≠it->s.heap.get? b=some o->h'.get? b=some o)->Q (some (.ref s.heap.objs.size)) { s with heap:=h',toks:=s.toks+1 }):wpAny (model prog w) A (pyNext (.ref e)) Q E s:=by
 have T:s.TypeIs (.ref e) "enumerate":=⟨_,he,rfl⟩
 have slot:=PySem.F.slot_enumerate_next
 unfold pyNext
 apply bk5
 apply wpAny_attempt
 apply bq5 (name:=Str.ofString "__next__") T slot
 apply bq7 slot T PySem.F.entry_enumerate_next _ (PySem.F.args_enumerate_next_1 _)
 change wpAny _ _ (field (.ref e) 2 >>= _) _ _ _
 apply bk5
 refine bq4 he rfl (x:=.ref it) rfl ?_
 apply bk5
 refine M7 hi ht hx λg1 it1 sb1=>?_
 have e1:IsEnum g1 e it i old:=sb1.extBut _ _ ne he
 change wpAny _ _ (field (.ref e) 3 >>= _) _ _ _
 apply bk5
 refine bq4 e1 rfl (x:=rawInt i) rfl ?_
 change wpAny _ _ (field (.ref e) 4 >>= _) _ _ _
 apply bk5
 refine bq4 e1 rfl (x:=.none) rfl ?_
 change wpAny _ _ (mkInt i >>= _) _ _ _
 apply bk5
 refine wpAny_mkInt ?_
 change wpAny _ _ (setField (.ref e) 3 (rawInt ((i:Int)+1)) >>= _) _ _ _
 apply bk5
 refine br3 e1 (by simp) λg2 e2 sb2=>?_
 apply bk5
 refine br3 e2 (by simp) λg3 e3 sb3=>?_
 have e3:IsEnum g3 e it ((i:Int)+1) old:=e3
 apply bk5
 refine wpAny_newTuple ?_ (by show 2<=sizeLine;decide)
 have e4:IsEnum (g3.push { cls:=.type "tuple",data:=.seq #[.int i s.toks,x] }) e it ((i:Int)+1) old:=bk6 _ e3
 have size:g3.objs.size=s.heap.objs.size:=by rw[sb3.1,sb2.1,sb1.1]
 change wpAny _ _ (Builtin.SmallTypes.ownedTupleIsFree (.ref e) >>= _) _ _ _
 apply bk5
 unfold Builtin.SmallTypes.ownedTupleIsFree
 apply bk5
 refine bq4 e4 rfl (x:=.none) rfl (bl0 ?_)
 simp only[if_true]
 apply bk5
 apply bz4
 apply bk5
 refine bq4 e4 rfl (x:=old) rfl ?_
 apply bk5
 refine br3 e4 (by simp) λg5 e5 sb5=>?_
 apply bk5
 unfold Builtin.SmallTypes.ownedTupleHandOut
 apply bk5
 refine br3 e5 (by simp) λg6 e6 sb6=>?_
 refine br3 e6 (by simp) λg7 e7 sb7=>?_
 have e7:IsEnumOut g7 e it ((i:Int)+1) x g3.objs.size:=e7
 have elt:e<g3.objs.size:=bl8 e3
 have up:∀c o,c≠e->(g3.push { cls:=.type "tuple",data:=.seq #[.int i s.toks,x] }).get? c=some o->g7.get? c=some o:=λc o c1 z=>sb7.extBut c o c1 (sb6.extBut c o c1 (sb5.extBut c o c1 z))
 have up3:∀c o,c≠e->g1.get? c=some o->g7.get? c=some o:=λc o c1 z=>up c o c1 (bk6 _ (sb3.extBut c o c1 (sb2.extBut c o c1 z)))
 have p7:g7.get? g3.objs.size=some { cls:=.type "tuple",data:=.seq #[.int i s.toks,x] }:=up _ _ (bs6 elt) (bm0 _ rfl)
 have s7:g7.objs.size=g3.objs.size+1:=by rw[sb7.1,sb6.1,sb5.1,bs2]
 apply bk5
 apply wpAny_letGo
 apply bl0
 rw[size]at e7 p7 s7
 refine⟨_,rfl,bl0 ?_⟩
 change Q (some (.ref g3.objs.size)) _
 rw[size]
 exact q g7 e7 (it1.at λo z=>up3 it o (Ne.symm ne) z) p7 s7 λb o b1 b2 z=>up3 b o b1 (sb1.extBut b o b2 z)
theorem aN2 {e it t:Addr}{i:Nat}{items:Array Value}{old:Value}{Q:Option Value->Shared->Prop}(hh:A.handled=none)(he:IsEnum s.heap e it i old)(hi:s.heap.IsTupleIter it t i)(ht:s.heap.IsTuple t items)(hx:items[i]? = none)(q:∀h',Heap.ExtBut it s.heap h'->Q none { s with heap:=h' }):wpAny (model prog w) A (pyNext (.ref e)) Q E s:=by
 have T:s.TypeIs (.ref e) "enumerate":=⟨_,he,rfl⟩
 have slot:=PySem.F.slot_enumerate_next
 unfold pyNext
 apply bk5
 apply wpAny_attempt
 apply bq5 (name:=Str.ofString "__next__") T slot
 apply bq7 slot T PySem.F.entry_enumerate_next _ (PySem.F.args_enumerate_next_1 _)
 change wpAny _ _ (field (.ref e) 2 >>= _) _ _ _
 apply bk5
 refine bq4 he rfl (x:=.ref it) rfl ?_
 apply bk5
 refine M8 hh hi ht hx λg2 ex eb exo=>?_
 obtain⟨oe,eo,co⟩:=exo
 apply bk5
 refine wpAny_isInstance (T:="StopIteration") (b:=true) ⟨oe,eo,co⟩ isSubtype_stop ?_
 exact bl0 (q g2 eb)
theorem aN3 {M:Model}{A:Around}{E:Value->Shared->Prop}{s:Shared}{α:Type}{c:Prop}[Decidable c]{m n:Sem α}{Q:α->Shared->Prop}(h1:wpAny M A m Q E s)(h2:wpAny M A n Q E s):wpAny M A (if c then m else n) Q E s:=by
 split
 ·exact h1
 ·exact h2
theorem aN4 (t:Addr)(xs:Array Value):Meets (Builtin.«enumerate.__new__» ⟨[.type "enumerate",.ref t],[]⟩) (λ_ R s=>s.heap.IsTuple t xs/\R (.ok (.ret (.ref (s.heap.objs.size+1)))) { s with heap:=(s.heap.push { cls:=.type "tuple_iterator",data:=.fields #[.ref t,.int 0 0] }).push { cls:=.type "enumerate",data:=.fields #[.none,.bool false,.ref s.heap.objs.size,rawInt 0,.none,.none] } }):=
 .of_wp λprog w A R s h=>by
  obtain⟨hp,g,d,tk,os⟩:=s
  obtain⟨ht,h⟩:=h
  have sub:=sub_enumerate
  have a1:Heap.IsTuple (Shared.heap ⟨hp,g,d,tk,os⟩) t xs:=ht
  wp_walk using bv7 a1
  refine wpAny_stack_any λst=>bl0 ?_
  refine aN3 ?_ ?_
  all_goals
   apply bk5
   refine wpAny_of_eq (a:=(Value.ref t,none)) rfl ?_
   wp_walk using bv7 a1
   have e:∀(o:Obj) (k:Heap),(k.push o).objs.size=k.objs.size+1:=λo k=>bs2 ..
   refine⟨_,rfl,?_⟩
   simp only[e]at h ⊢
   exact h
theorem aN5 {t:Addr}{xs:Array Value}{Q:Value->Shared->Prop}(ht:s.heap.IsTuple t xs)(q:∀h',IsEnum h' (s.heap.objs.size+1) s.heap.objs.size 0 .none->h'.IsTupleIter s.heap.objs.size t 0->h'.objs.size=s.heap.objs.size+2->(∀c o,s.heap.get? c=some o->h'.get? c=some o)->Q (.ref (s.heap.objs.size+1)) { s with heap:=h' }) :
  wpAny (model prog w) A (call (.type "enumerate") [.ref t]) Q E s:=by
 refine callType_new PySem.F.called_enumerate (by decide) (PySem.F.typeCall_enumerate_1 _) (PySem.F.newCall_enumerate_1 _) (λobj=>PySem.F.args_object_init_2 obj _) PySem.F.entry_enumerate_new (aN4 t xs) ⟨ht,?_⟩
 have e:∀(o:Obj) (k:Heap),(k.push o).objs.size=k.objs.size+1:=λo k=>bs2 ..
 have g0:((s.heap.push { cls:=.type "tuple_iterator",data:=.fields #[.ref t,.int 0 0] }).push { cls:=.type "enumerate",data:=.fields #[.none,.bool false,.ref s.heap.objs.size,rawInt 0,.none,.none] }).get? s.heap.objs.size=some { cls:=.type "tuple_iterator",data:=.fields #[.ref t,.int 0 0] }:=bk6 _ (bm0 _ rfl)
 have g1:((s.heap.push { cls:=.type "tuple_iterator",data:=.fields #[.ref t,.int 0 0] }).push { cls:=.type "enumerate",data:=.fields #[.none,.bool false,.ref s.heap.objs.size,rawInt 0,.none,.none] }).get? (s.heap.objs.size+1)=some { cls:=.type "enumerate",data:=.fields #[.none,.bool false,.ref s.heap.objs.size,rawInt 0,.none,.none] }:=by
  have:=bm0 (h:=s.heap.push { cls:=.type "tuple_iterator",data:=.fields #[.ref t,.int 0 0] }) (o:={ cls:=.type "enumerate",data:=.fields #[.none,.bool false,.ref s.heap.objs.size,rawInt 0,.none,.none] }) rfl
  rw[e]at this;exact this
 exact⟨⟨_,g1,rfl⟩,q _ g1 ⟨_,g0,rfl,rfl⟩ (by rw[e,e]) λc o z=>bk6 _ (bk6 _ z)⟩
end
end Zp
namespace L2
open PySem PySem.Spec PyProof.Rows
def yS (K:ac)(a:Addr):It:=
  ⟨λi H=>∃xs x,aL K H a xs/\xs[i]? = some x,
   λi H v H'=>∃T x,H T=none/\v = .ref T/\H'=upd H T (.tup [.int i,x])/\∀xs,aL K H a xs->xs[i]? = some x,
   λi H=>∃xs,aL K H a xs/\xs.length<=i⟩
structure aN6 (e it a:Addr)(i:Nat)(h:Heap):Prop where
 ee:∃old,IsEnum h e it i old
 s1:h.IsTupleIter it a i
theorem aN7 {P:Program}{w:World}{K:ac}{elts:List Expr}{k:Nat}{pos:Pos}(a e it:Addr)(d:e≠it) :
  iD P w K (.Tuple elts k pos) (yS K a) [e,it] e (aN6 e it a):=by
 refine⟨by simp,λi h st c hc=>?_,λi h h' st kp=>?_,?_,?_,λA i s Q E st q=>?_⟩
 ·simp only[bl2,bm1,bp1]at hc
  obtain⟨old,ee⟩:=st.ee
  obtain⟨o1,f1,g1,d1⟩:=st.s1
  rcases hc with rfl|rfl
  ·exact⟨_,ee,λv q=>by cases q⟩
  ·exact⟨_,f1,λv q=>by rw[d1]at q;cases q⟩
 ·obtain⟨old,ee⟩:=st.ee
  exact⟨⟨old,kp e (by simp) _ ee⟩,st.s1.at λo z=>kp it (by simp) o z⟩
 ·intro X hP hw hK hc i pins s σ H E I hf st hg
  subst hP hw hK
  obtain⟨xs,x,ha,hx⟩:=hg
  obtain⟨us,ru,pu,lu⟩:=I.tuple ha
  obtain⟨ux,eux,rux⟩:=ru.get hx
  obtain⟨old,ee⟩:=st.ee
  refine Zp.aN1 ee st.s1 pu (by simpa using eux) d λh' eo it' pr sz kp=>⟨_,rfl,?_⟩
  refine wpAny_letOwnedTupleGo_enum (s:={ s with heap:=h',toks:=s.toks+1 }) eo λg zz sb=>?_
  have hzl:e<s.heap.objs.size:=bl8 ee
  have up:∀c o,c≠e->c≠it->s.heap.get? c=some o->g.get? c=some o:=λc o c1 c2 z=>sb.extBut c o c1 (kp c o c1 c2 z)
  have hT:H s.heap.objs.size=none:=I.hok.fresh (bk9 _)
  have prG:g.get? s.heap.objs.size=some { cls:=.type "tuple",data:=.seq #[.int i s.toks,ux] }:=sb.extBut _ _ (bs6 hzl) pr
  have fpn:∀c u,H c=some u->c∉[e,it]:=λc u z hm=>by rw[(hf c hm).1]at z;cases z
  have upH:∀c o u,H c=some u->s.heap.get? c=some o->g.get? c=some o:=λc o u q z=>by
   have:=fpn c u q
   simp only[bl2,bm1,bp1,not_or]at this
   exact up c o this.1 this.2 z
  have ns:∀m,s.heap.Ns X.env.locals m->g.Ns X.env.locals m:=λm hm=>by
   obtain⟨o,es,ep,e1,e2⟩:=hm
   exact⟨o,es,ep,up _ o (Ne.symm (hf e (by simp)).2.1) (Ne.symm (hf it (by simp)).2.1) e1,e2⟩
  have I2:a8 X pins σ (upd H s.heap.objs.size (.tup [.int i,x])) { s with heap:=g,toks:=s.toks+1 }:=by
   refine I.step (g':=s.gens) (d':=s.drawn) (ch:=[e,it]) (λc hc'=>?_) (λc o _ _ hc' z _=>?_) (λc o _ _ hc' z _=>⟨o.slots,?_⟩) (λc o _ z n=>?_) (λc o hc' z=>⟨o,?_⟩)
    (λc zs z=>by rw[aF (cX z hT)];exact z) (λc u zs z=>by rw[aF (cX z hT)];exact z) (λc ps z=>⟨#[],by rw[aF (cX z hT),z];simp⟩) ns (λc u z=>?_) I.bare
   ·exact⟨(hf c hc').2.2.2.1,(hf c hc').2.1,(hf c hc').2.2.2.2.1,(hf c hc').2.2.2.2.2⟩
   ·simp only[bl2,bm1,bp1,not_or]at hc'
    exact up c o hc'.1 hc'.2 z
   ·simp only[bl2,bm1,bp1,not_or]at hc'
    exact up c o hc'.1 hc'.2 z
   ·rw[aF (bn6 (bl8 z))];exact n
   ·simp only[bl2,bm1,bp1,not_or]at hc'
    exact up c o hc'.1 hc'.2 z
   ·by_cases hcT:c=s.heap.objs.size
    ·subst hcT
     rw[aU]at z;cases z
     exact⟨by show 2<=sizeLine;decide,[.int i s.toks,ux],.cons ⟨_,rfl⟩ (.cons rux .nil),⟨_,prG,rfl,_,rfl⟩,λu e=>by rw[prG]at e;cases e;rfl⟩
    ·rw[aF hcT]at z
     refine (I.hok c u z).stay (λc' o' hc2 q'=>?_) (λc' q'=>by rw[aF (cX q' hT)];exact q') λc' zs q'=>by rw[aF (cX q' hT)];exact q'
     rcases hc2 with rfl|hc2
     ·exact upH _ _ _ z q'
     ·exact upH _ _ _ hc2 q'
  refine⟨.ref s.heap.objs.size,_,I2,rfl,⟨_,x,hT,rfl,rfl,λxs' ha'=>?_⟩,⟨⟨ux,by push_cast;exact zz⟩,it'.at λo z=>sb.extBut _ o (Ne.symm d) z⟩,λc hc'=>?_⟩
  ·rw[I.tuple_inj ha' ha];exact hx
  ·obtain⟨o,z⟩:∃o,s.heap.get? c=some o:=by
    simp only[bl2,bm1,bp1]at hc'
    obtain⟨o1,f1,_⟩:=st.s1
    rcases hc' with rfl|rfl
    ·exact⟨_,ee⟩
    ·exact⟨_,f1⟩
   rw[aF (bn6 (bl8 z))];exact (hf c hc').1
 ·intro X hP hw hK hc i pins s σ H E I hf st hg
  subst hP hw hK
  obtain⟨xs,ha,hi⟩:=hg
  obtain⟨us,ru,pu,lu⟩:=I.tuple ha
  obtain⟨old,ee⟩:=st.ee
  have hh:X.A.handled=none:=I.ok.hd hc
  have e1:=ru.length
  refine Zp.aN2 hh ee st.s1 pu (by rw[Array.getElem?_eq_none];simp only[bk7];omega) λg kp=>⟨rfl,?_⟩
  have fpn:∀c u,H c=some u->c∉[e,it]:=λc u z hm=>by rw[(hf c hm).1]at z;cases z
  have upH:∀c o u,H c=some u->s.heap.get? c=some o->g.get? c=some o:=λc o u q z=>by
   have:=fpn c u q
   simp only[bl2,bm1,bp1,not_or]at this
   exact kp c o this.2 z
  have ns:∀m,s.heap.Ns X.env.locals m->g.Ns X.env.locals m:=λm hm=>by
   obtain⟨o,es,ep,e1,e2⟩:=hm
   exact⟨o,es,ep,kp _ o (Ne.symm (hf it (by simp)).2.1) e1,e2⟩
  refine I.step (g':=s.gens) (d':=s.drawn) (ch:=[it]) (λc hc'=>?_) (λc o _ _ hc' z _=>?_) (λc o _ _ hc' z _=>⟨o.slots,?_⟩) (λc o _ z n=>n) (λc o hc' z=>⟨o,?_⟩)
   (λc zs z=>z) (λc u zs z=>z) (λc ps z=>⟨#[],by rw[z];simp⟩) ns (λc u z=>?_) I.bare
  ·have hm:c∈[e,it]:=bm9 _ hc'
   exact⟨(hf c hm).2.2.2.1,(hf c hm).2.1,(hf c hm).2.2.2.2.1,(hf c hm).2.2.2.2.2⟩
  ·exact kp c o (λy=>hc' (by rw[y];simp)) z
  ·exact kp c o (λy=>hc' (by rw[y];simp)) z
  ·exact kp c o (λy=>hc' (by rw[y];simp)) z
  ·refine (I.hok c u z).stay (λc' o' hc2 q'=>?_) (λ_ q'=>q') λ_ _ q'=>q'
   rcases hc2 with rfl|hc2
   ·exact upH _ _ _ z q'
   ·exact upH _ _ _ hc2 q'
 ·obtain⟨old,ee⟩:=st.ee
  exact wpAny_pyIter_enum ee q
section
variable {X:Cx}
def Y2 (K:ac)(ta:TA):TI:=λσ H R=>ta σ H λvs H1=>∃a,vs = [.ref a]/\((∃xs,aM K H1 a xs/\R (yR K a) H1)∨(∃xs,aL K H1 a xs/\R (yS K a) H1))
theorem aN8 {elts:List Expr}{kt:Nat}{pt:Pos}{a:Expr}{ta:TA}{p pos:Pos}(hg:Gl X "enumerate")(hm:X.mg "enumerate" = none)(ha:PA X [a] ta)(hs:starEach [a] X.env = [(false,eval a X.env)]:=by rfl) :
  PI X (.Tuple elts kt pt) (.Call (.Name "enumerate" p) [a] [] pos) (Y2 X.K ta):=by
 intro pins s σ H R I h
 refine Call_ (kJ I hg hm PyProof.Rows.boot_enumerate (bs7 (aJ (ha pos pins s σ H _ I h) λus s1 ⟨vs,H1,I1,r1,q1⟩=>?_) (by rw[hs];rfl) (by rfl)))
 obtain⟨a',e,q⟩:=q1
 subst e
 have fresh:∀k,H1 (s1.heap.objs.size+k)=none:=λk=>I1.hok.fresh (bp9 _ _)
 cases r1 with
 |cons r rr=>
  cases rr
  cases r
  rcases q with⟨xs,h1,q⟩|⟨xs,h1,q⟩
  ·obtain⟨us,_,p1,_⟩:=I1.list h1
   refine call_enumerate_list p1.isList λh' z s1' sz kp=>wpAny_pyIter_enum z ?_
   refine⟨s1.heap.objs.size+1,[s1.heap.objs.size+1,s1.heap.objs.size],_,_,H1,rfl,I1.kept (t':=s1.toks) kp,
    aN0 a' _ _ (Nat.succ_ne_self _),⟨⟨_,z⟩,s1'⟩,λc hc=>?_,q⟩
   simp only[bl2,bm1,bp1]at hc
   rcases hc with rfl|rfl
   ·exact I1.fpOk (bp9 _ _) (fresh 1)
   ·exact I1.fpOk (bk9 _) (fresh 0)
  ·obtain⟨us,_,p1,_⟩:=I1.tuple h1
   refine Zp.aN5 p1 λh' z s1' sz kp=>wpAny_pyIter_enum z ?_
   refine⟨s1.heap.objs.size+1,[s1.heap.objs.size+1,s1.heap.objs.size],_,_,H1,rfl,I1.kept (t':=s1.toks) kp,
    aN7 a' _ _ (Nat.succ_ne_self _),⟨⟨_,z⟩,s1'⟩,λc hc=>?_,q⟩
   simp only[bl2,bm1,bp1]at hc
   rcases hc with rfl|rfl
   ·exact I1.fpOk (bp9 _ _) (fresh 1)
   ·exact I1.fpOk (bk9 _) (fresh 0)
end
end L2
namespace Zp
open PySem PyProof.Rows
theorem aN9 (t b:Addr)(xs ys:Array Value)(n n2:Nat)(dd dd2:Option Addr)(sl sl2:Array (Option Value))(hx:xs.isEmpty=true):Meets (Builtin.«tuple.__add__» ⟨[.ref t,.ref b],[]⟩)
  (λ_ R s=>s.heap.get? t=some { cls:=.type "tuple",dict:=dd,data:=.seq xs n,slots:=sl }/\s.heap.get? b=some { cls:=.type "tuple",dict:=dd2,data:=.seq ys n2,slots:=sl2 }/\R (.ok (.ret (.ref b))) s):=
 .of_wp λprog w A R s h=>by
  obtain⟨h1,h2,h⟩:=h
  have sub:isSubtype (Value.type "tuple") (Value.type "tuple")=pure true:=rfl
  wp_walk
  exact⟨_,rfl,h⟩
end Zp
namespace L2
open PySem PySem.Spec PyProof.Rows
section
variable {X:Cx}
def Y3 (K:ac):R2:=λx y H Q=>∃a b xs ys,x = .ref a/\y = .ref b/\aL K H a xs/\aL K H b ys/\xs.length+ys.length<=sizeLine/\
 (xs = []->Q (.ref b) H)/\(xs≠[]->ys = []->Q (.ref a) H)/\(xs≠[]->ys≠[]->∀p,H p=none->Q (.ref p) (upd H p (.tup (xs++ys))))
theorem aO0:cG X (binaryOp .Add) (Y3 X.K):=by
 intro pins s σ H x y v u Q I rx ry h
 obtain⟨a,b,xs,ys,ex,ey,ha,hb,hz,q0,q1,q2⟩:=h
 by_cases hx:xs = []
 ·subst ex ey
  cases rx
  cases ry
  obtain⟨its,r1,p1,_⟩:=I.tuple ha
  obtain⟨its2,r2,p2,_⟩:=I.tuple hb
  have hi:its = []:=r1.nil_iff.mpr hx
  obtain⟨⟨cls,dd,data,sl⟩,ho,hc,n,hd⟩:=id p1
  obtain⟨⟨cls2,dd2,data2,sl2⟩,ho2,hc2,n2,hd2⟩:=id p2
  simp only at hc hd hc2 hd2
  subst hc hd hc2 hd2
  exact concat_meets ⟨_,ho,rfl⟩ ⟨_,ho2,rfl⟩ noFill_tuple_add seq_tuple_add PySem.F.slot_tuple_add PySem.F.entry_tuple_add (PySem.F.args_tuple_add_2 _ _)
   (Zp.aN9 a b its.toArray its2.toArray n n2 dd dd2 sl sl2 (by simp[hi])) ⟨ho,ho2,⟨.ref b,H,I,rfl,q0 hx⟩⟩
 ·exact as9 pins s σ H x y v u Q I rx ry ⟨a,b,xs,ys,ex,ey,ha,hb,hx,hz,q1 hx,q2 hx⟩
end
end L2
namespace PP
open PySem L2 PyProof.Rows
def jD (xs:List PV):List PV:=xs.mapIdx λi x=>PV.tup [.int (i:Int),x]
theorem yT (xs:List PV):(jD xs).length=xs.length:=by unfold jD;rw[List.length_mapIdx]
theorem Y4 {xs:List PV}{i:Nat}{x:PV}(h:xs[i]? = some x):(jD xs)[i]? = some (.tup [.int (i:Int),x]):=by
 unfold jD;rw[List.getElem?_mapIdx,h];rfl
theorem aO1 {xs:List PV}{i:Nat}{z:PV}(h:(jD xs)[i]? = some z):∃x,xs[i]? = some x/\z = .tup [.int (i:Int),x]:=by
 unfold jD at h
 rw[List.getElem?_mapIdx]at h
 cases e:xs[i]? with
 |none=>rw[e]at h;cases h
 |some x=>rw[e]at h;exact⟨x,rfl,(bl6 h).symm⟩
def yU (te:aH):fR:=λρ Q=>te ρ λx g=>∃xs,(x = .lst xs∨x = .tup xs)/\(g = .rd->flat x=true)/\Q (jD xs) (xA g xs)
theorem aO2 {K:ac}{H0:Hp}{W:Addr->Prop}{g:Bool}{H1:Hp}{a:Addr}{us:List V}{xs:List PV}(tw:∀a,W a->∃o,H1 a=some o/\eL o=true)(ha:∀W' H',Ev W H1 W' H'->aM K H' a us)(r:Reps K (Ms H0 W g) H1 us xs):mE K H0 W g H1 (yR K a) (jD xs):=by
 have lr:=r.length
 have ll:=yT xs
 refine⟨λW' H' i e hi=>⟨us,us[i]'(by omega),ha W' H' e,by simp⟩,λW' H' i v H2 e y hi=>?_,λW' H' e=>⟨us,ha W' H' e,by omega⟩⟩
 obtain⟨T,x,hT,rfl,rfl,y⟩:=y
 obtain⟨z,hz,rz⟩:=r.get (y us (ha W' _ e))
 have sm:=bR hT (HO.tup [.int (i:Int),x])
 exact⟨sm,_,Y4 hz,.tup aU (.cons (.int _) (.cons ((rz.keep (e.keep tw)).same sm λ_ q=>q) .nil))⟩
theorem aO3 {K:ac}{H0:Hp}{W:Addr->Prop}{g:Bool}{H1:Hp}{a:Addr}{us:List V}{xs:List PV}(tw:∀a,W a->∃o,H1 a=some o/\eL o=true)(ha:∀W' H',Ev W H1 W' H'->aL K H' a us)(r:Reps K (Ms H0 W g) H1 us xs):mE K H0 W g H1 (yS K a) (jD xs):=by
 have lr:=r.length
 have ll:=yT xs
 refine⟨λW' H' i e hi=>⟨us,us[i]'(by omega),ha W' H' e,by simp⟩,λW' H' i v H2 e y hi=>?_,λW' H' e=>⟨us,ha W' H' e,by omega⟩⟩
 obtain⟨T,x,hT,rfl,rfl,y⟩:=y
 obtain⟨z,hz,rz⟩:=r.get (y us (ha W' _ e))
 have sm:=bR hT (HO.tup [.int (i:Int),x])
 exact⟨sm,_,Y4 hz,.tup aU (.cons (.int _) (.cons ((rz.keep (e.keep tw)).same sm λ_ q=>q) .nil))⟩
section
variable {X:Cx}{σ:L2.St}{H:Hp}{te:aH}{R:It→Hp→Prop}
theorem aO4 (h:LI X (yU te) σ H R):Y2 X.K (gZ (LE X te) fN) σ H R:=by
 obtain⟨W,ρ,Q,px,q,k⟩:=h
 refine⟨W,ρ,_,px,q,?_⟩
 rintro v H1 x g s r ⟨xs,hx,hg,q⟩
 have px1:=px.mono s
 have tw:∀a,W a->∃o,H1 a=some o/\eL o=true:=λa z=>(px1.wm a z).2
 rcases hx with rfl|rfl
 ·obtain⟨a,us,rfl,m,h,r⟩:=r.sqL
  have wa:¬W a:=by
   cases g with
   |fr=>exact (px.new m).1
   |nw=>exact m.1
   |sh=>exact m
   |rd=>have:=hg rfl;unfold flat at this;cases this
  exact⟨a,rfl,.inl ⟨us,aM.of h,k _ _ _ _ s (aO2 tw (λW' H' e=>aM.of (e _ _ h wa rfl).1) (kZ px (λz=>by have:=hg z;unfold flat at this;cases this) r)) q⟩⟩
 ·obtain⟨a,us,rfl,h,r⟩:=r.sqT
  refine⟨a,rfl,.inr ⟨us,aL.of h,k _ _ _ _ s (aO3 tw (λW' H' e=>aL.of (e _ _ h (λz=>?_) rfl).1) (kZ px (λz=>by have:=hg z;unfold flat at this;exact this) r)) q⟩⟩
  obtain⟨o,h',mu⟩:=tw _ z;rw[h]at h';cases h';cases mu
theorem aO5 {elts:List Expr}{kt:Nat}{pt p2 pos:Pos}{a:Expr}{ta:aH}(hg:Gl X "enumerate")(hm:X.mg "enumerate" = none)(ha:QE X a ta)(hs:starEach [a] X.env = [(false,eval a X.env)]:=by rfl):QI X (.Tuple elts kt pt) (.Call (.Name "enumerate" p2) [a] [] pos) (yU ta):=
 sB (aN8 hg hm (dR ha dZ hs) hs) λ_ _ _=>aO4
end
section
variable {X:Cx}{a b e o f:Expr}{ta tb te td tk tx:aH}{pos p2 apos cpos:Pos}{σ:L2.St}{H:Hp}{Q':VK}
theorem aO6 {x:Str}{n:Int}{t:Nat}(hg:Gl X x)(hm:X.mg x=some (.int n t))(hd:(x==("__debug__":Str))=false:=by decide):QE X (.Name x pos) (qC (.int n)):=
 cA (A8 (v:=.int n) hg hm ⟨t,rfl⟩ hd) λ_ _ _=>oF λ_=>.int n
end
section
variable {X:Cx}{a b:Expr}{ta tb:aH}{pos:Pos}
def Y5:PV->Tg->PV->Tg->PK->Prop:=λx _ y _ Q=>∃xs ys,x = .tup xs/\y = .tup ys/\flats xs=true/\flats ys=true/\xs.length+ys.length<=16000000/\Q (.tup (xs++ys)) .fr
abbrev nD (ta tb:aH):aH:=q2 Y5 ta tb
theorem aO7:eC X Y5 (Y3 X.K):=by
 rintro W Hs H u v x y g g' Q Q' s n r1 r2 ⟨xs,ys,rfl,rfl,f1,f2,hl,q⟩ k
 obtain⟨a,us,rfl,h1,q1⟩:=r1.sqT
 obtain⟨b,ws,rfl,h2,q2⟩:=r2.sqT
 have l1:=q1.length
 have l2:=q2.length
 refine⟨a,b,us,ws,rfl,rfl,aL.of h1,aL.of h2,lim (by omega),λz=>?_,λ_ z=>?_,λ_ _ p hp=>k _ _ _ .fr (bR hp _) (.tup aU (((q1.flat f1).append (q2.flat f2)).same (bR hp _) λ_ z=>z)) q⟩
 ·obtain rfl:xs = []:=by cases xs with
   |nil=>rfl
   |cons _ _=>rw[z]at l1;cases l1
  exact k _ _ _ .fr (aB.refl _) (.tup h2 (q2.flat f2)) q
 ·obtain rfl:ys = []:=by cases ys with
   |nil=>rfl
   |cons _ _=>rw[z]at l2;cases l2
  rw[bo4]at q
  exact k _ _ _ .fr (aB.refl _) (.tup h1 (q1.flat f1)) q
theorem tE (ha:QE X a ta)(hb:QE X b tb):QE X (.BinOp a .Add b pos) (nD ta tb):=lB aO0 aO7 ha hb
end
end PP
namespace Core
open PySem L2 PP
section
variable (ws:af)(ls:aa)(os ns:af)
def gF:Nat->af
 |0=>[]
 |k+1=>gF k++(os.find? (kin ws ls (ns++gF k))).toList
def pL (k:Nat):Option Int:=os.find? (kin ws ls (ns++gF ws ls os ns k))
end
section
variable {ws:af}{ls:aa}{os ns:af}
theorem aO8 {k:Nat}{h:Int}(e:pL ws ls os ns k=some h):gF ws ls os ns (k+1)=gF ws ls os ns k++[h]:=by
 show gF ws ls os ns k++(pL ws ls os ns k).toList=_
 rw[e];rfl
theorem aO9 {S T:af}{h:Int}(hk:kin ws ls S h=true)(st:∀x∈S,x∈T)(hn:h∉T):kin ws ls T h=true:=by
 unfold kin at hk ⊢
 rw[bn4]at hk ⊢
 refine⟨by rw[bm3 hn];rfl,bn0 ?_⟩
 have h1:=bu7 hk.2
 have h2:((bS ls h).filter λx=>decide (x∈S)).length<=((bS ls h).filter λx=>decide (x∈T)).length:=by
  rw[<- List.countP_eq_length_filter,<- List.countP_eq_length_filter]
  exact List.countP_mono_left λx _ hx=>bn0 (st x (bu7 hx))
 omega
def pM (ws:af)(ls:aa)(T:af):Prop:=∀h∈rng ws.length,kin ws ls T h=false
theorem Y6 {T:af}(sh:pM ws ls T)(st:∀x∈ns,x∈T):∀k,∀x∈b8 ws ls ns k,x∈T
 |0,x,hx=>st x hx
 |k+1,x,hx=>by
  have ih:=Y6 sh st k
  rcases bn9.mp (show x∈b8 ws ls ns k++nextOf ws ls (b8 ws ls ns k) from hx) with hx|hx
  ·exact ih x hx
  ·have hx:=bv2.mp hx
   by_cases e:x∈T
   ·exact e
   ·have:=aO9 hx.2 ih e
    rw[sh x hx.1]at this;cases this
theorem aP0 {k:Nat}{h:Int}(e:pL ws ls os ns k=some h):h∈os/\h∉ns++gF ws ls os ns k:=
 ⟨List.mem_of_find?_eq_some e,bq2 (yH (List.find?_some e))⟩
theorem aP1 (po:os.Perm (rng ws.length))(hs:cL ws.length ns=true):∀k,(ns++gF ws ls os ns k).Nodup/\∀x∈ns++gF ws ls os ns k,x∈rng ws.length
 |0=>by
  rw[show gF ws ls os ns 0 = [] from rfl,bo4]
  exact⟨(lM (jA hs).1).imp λh=>Int.ne_of_lt h,λx hx=>mY.mpr ((jA hs).2 x hx)⟩
 |k+1=>by
  obtain⟨i1,i2⟩:=aP1 po hs k
  cases e:pL ws ls os ns k with
  |none=>
   have:gF ws ls os ns (k+1)=gF ws ls os ns k:=by
    show gF ws ls os ns k++(pL ws ls os ns k).toList=_
    rw[e];exact bo4 _
   rw[this];exact⟨i1,i2⟩
  |some h=>
   obtain⟨n1,n2⟩:=aP0 e
   rw[aO8 e,<- bn1]
   refine⟨bt6.mpr ⟨i1,bn3 _ _,λx hx y hy=>?_⟩,λx hx=>?_⟩
   ·rw[bl3.mp hy];intro z;subst z;exact n2 hx
   ·rcases bn9.mp hx with hx|hx
    ·exact i2 x hx
    ·rw[bl3.mp hx];exact po.mem_iff.mp n1
theorem Y7 (hs:cL ws.length ns=true):∀k,(b8 ws ls ns k).Nodup
 |0=>(lM (jA hs).1).imp λh=>Int.ne_of_lt h
 |k+1=>by
  show (b8 ws ls ns k++nextOf ws ls (b8 ws ls ns k)).Nodup
  refine bt6.mpr ⟨Y7 hs k,(aL8 ws.length).filter _,λx hx y hy=>?_⟩
  intro z;subst z
  exact bq2 (yH (bv2.mp hy).2) hx
end
def Y8:Option Int->PV
 |none=>.non
 |some h=>.int h
theorem nE {i:Nat}{h:Int}{g:Bool}{ρ:b6}{Q:b6->Prop}(q:Q (ρ.set i (some (.sh true (.int h))))):dO i (.int h) g ρ Q:=by
 show Q (ρ.set i (some (.sh (g||true) (.int h))))
 rw[Bool.or_true];exact q
def aP2 (ns S:af):Int:=(ns.length:Int)-(((ns.filter λx=>decide (x∈S)).length:Nat):Int)
def lP:cK:=λxs Q=>∃x ns y ms,xs = [x,y]/\fA x ns/\fA y ms/\ns.length<=10000/\ms.length<=1000/\Q (.tup (intz (ns.filter λz=>!decide (z∈ms))))
def Y9:aS:=(aR (bE 2 (aO lN (a9 (a5 1) aC)))
 (bC (aO fU (a9 (iZ (iF (a5 0)) [none,some 2] (dO 0) (aZ (j5 true (a5 0) (a5 1))) (a5 0)) aC))))
theorem aP3:fB Y9 ["hearths","some","gone"] lP:=by
 rintro xs Q ⟨x,ns,y,ms,rfl,hx,hy,hl,hm,q⟩
 refine⟨_,rfl,y,ms,rfl,hy,hm,λps d=>⟨trivial,?_⟩⟩
 refine⟨_,rfl,_,hx.seq,t6 hx,by rw[dF];omega,λi acc=>acc=intz ((ns.take i).filter λz=>!decide (z∈ms)),rfl,?_,?_⟩
 ·rintro i z acc hz rfl
  obtain⟨n,rfl,hn⟩:=pD hz
  have tk:=sZ (p:=λz=>!decide (z∈ms)) hn
  refine⟨_,rfl,_,rfl,_,.inl ⟨ps,Sum.inl n,rfl,rfl,rfl⟩,_,rfl,?_⟩
  show if (!(bX ps (Sum.inl n:aD)).isSome)=true then _ else _
  rw[d.has n]
  by_cases h:n∈ms
  ·rw[bn0 h]at tk ⊢
   refine aP ?_
   show _=intz (List.filter _ (List.take (i+1) ns))
   rw[tk];exact congrArg intz (bo4 _).symm
  ·rw[bm3 h]at tk ⊢
   refine b7 ⟨_,rfl,trivial,?_⟩
   show _=intz (List.filter _ (List.take (i+1) ns))
   rw[tk,j9];rfl
 ·rintro acc rfl
  rw[dF,bq9]
  exact⟨⟨_,_,rfl,rfl,eM _,trivial,q⟩,λns z=>by cases z⟩
def aP4 (ws:af)(ls:aa)(S:af)(h:Int):Bool:=decide (aP2 (bS ls h) S<ws.getD h.toNat 0)
def stay (ws:af)(ls:aa)(S:af):af:=S.filter (aP4 ws ls S)
theorem aP5 {n:Nat}{S:af}(h:cL n S=true)(p:Int->Bool):cL n (S.filter p)=true:=by
 obtain⟨h1,h2⟩:=jA h
 have u:yP (n:Int) (S.filter p):=⟨(lM h1).filter p,λx hx=>h2 x (bv2.mp hx).1,by
  have:=pH h
  have:=bv6 p S
  omega⟩
 exact u.set
end Core
namespace Raw
open PySem PySem.W PyProof.Rows
section
variable {prog:Program}{w:World}{A:Around}{E:Value→Shared→Prop}{s:Shared}{T:String}{r d:Addr}{n:Nat}{P:Nat→Value→Prop}{OK:Heap→Prop}
theorem aP6 {R:Result->Shared->Prop}(K:KdlSrc prog w T r d n P OK)(hh:A.handled=none)(hok:OK s.heap)(hn:n<=sizeLine)(hR:∀h' tk acc c,(∀b o,b≠s.heap.objs.size->(s.heap.push { cls:=.type "list",data:=.seq ([]:List Value).toArray }).get? b=some o->h'.get? b=some o)->h'.get? s.heap.objs.size=some { cls:=.type "list",dict:=none,data:=.seq acc c,slots:=#[] }->ItemsOf P acc n->R (.ok (.ret (.ref s.heap.objs.size))) { s with heap:=h',toks:=tk }) :
  codeAny (model prog w) A (.builtin "proto.collect" ⟨[.ref r],[]⟩) R s:=by
 have lt:=K.there _ hok
 refine codeAny_builtin PySem.F.entry_proto_collect ?_
 rw[Around.under_plainId PySem.F.plain_proto_collect _]
 show wpAny _ A.in1 (newList [] >>= λl=>again (.builtin "list.__iadd__" ⟨[l,.ref r],[]⟩)) _ _ s
 refine bk5 (br7 ?_)
 refine bl0 ⟨plainId_quiet PySem.F.plain_list_iadd _,codeAny_builtin PySem.F.entry_list_iadd ?_⟩
 rw[Around.under_plainId PySem.F.plain_list_iadd _]
 show wpAny _ A.in1 (Builtin.List.listExtendWith (.ref s.heap.objs.size) (.ref r) (.ref s.heap.objs.size)) _ _ _
 exact kdl_extend (s:={ s with heap:=s.heap.push { cls:=.type "list",data:=.seq ([]:List Value).toArray } }) (R:=R) K hh (K.keep _ _ hok λb _ o e=>bk6 _ e) s.heap.objs.size (bs6 lt.1) (bs6 lt.2) _ 0 (bm0 _ rfl) hR hn
theorem aP7 {Q:List Value->Shared->Prop}(K:KdlSrc prog w T r d n P OK)(hh:A.handled=none)(hok:OK s.heap)(hn:n<=sizeLine)(hQ:∀h' tk acc,(∀b o,s.heap.get? b=some o->h'.get? b=some o)->s.heap.objs.size<=h'.objs.size->ItemsOf P acc n->Q acc.toList { s with heap:=h',toks:=tk }) :
  wpAny (model prog w) A (collect (.ref r)) Q E s:=by
 unfold collect
 refine bk5 (wpAny_runValue (aP6 (s:=s) K hh hok hn λh' tk acc c kp at1 it=>?_))
 show wpAny _ A (load s.heap.objs.size >>= _) _ _ _
 refine bk5 (wpAny_load at1 ?_)
 exact bl0 (hQ h' tk acc (λb o e=>kp b o (bn6 (bl8 e)) (bk6 _ e)) (br0 (bl8 at1)) it)
theorem aP8 {Q:Value->Shared->Prop}{G:af->Prop}(K:KdlSrc prog w T r d n P OK)(hh:A.handled=none)(hok:OK s.heap)(hn:n<64)(hI:∀acc,ItemsOf P acc n->∃ns,IntsAre acc.toList ns/\G ns)(h:∀h' tk a (out:Array Value) (ns ns':af) e,(∀b o,s.heap.get? b=some o->h'.get? b=some o)->s.heap.objs.size<=a->h'.get? a=some (seqObj "list" out e)->IntsAre out.toList ns'->G ns->ns'.Perm ns->ns'.Pairwise (· <= ·)->Q (.ref a) { s with heap:=h',toks:=tk }) :
  wpAny (model prog w) A (call (.builtin "sorted") [.ref r]) Q E s:=by
 have hsl:n<=sizeLine:=bo3 (br0 hn) (by decide)
 refine Calls.call_function_entry kind_sorted plain_sorted entry_sorted (args_sorted1 _) ?_
 unfold Builtin.«sorted»
 refine bk5 (m:=checkCount "sorted" 1 1 _) (bl0 ?_)
 refine bk5 (aP7 (s:=s) K hh hok hsl λh' tk acc kp hs it=>?_)
 obtain⟨ns,hi,g⟩:=hI acc it
 have hz:acc.toList.length<64:=by rw[Array.length_toList,it.1];exact hn
 refine bk5 (wpAny_newList ?_ (bo3 (br0 hz) (by decide)))
 have hoL:(h'.push (seqObj "list" acc.toList.toArray 0)).get? h'.objs.size=some (seqObj "list" acc.toList.toArray 0):=bm0 _ rfl
 show wpAny _ _ _ _ _ { s with heap:=h'.push (seqObj "list" acc.toList.toArray 0),toks:=tk }
 refine bk5 (bz1 (bq7 slot_list_sort ⟨_,hoL,rfl⟩ entry_list_sort (list_sort_tree hoL hi hz λout ns' a1 a2 a3=>⟨_,rfl,?_⟩) (args_list_sort _)))
 obtain⟨e,he⟩:=sortedHeap_at (vs:=acc.toList) (out:=out) hoL
 refine bl0 ⟨_,rfl,h _ tk h'.objs.size out ns ns' e (λb o hb=>?_) hs he a1 g a2 a3⟩
 have lt:=bl8 (kp b o hb)
 rw[sortedHeap_old (bn6 lt) (by rw[size_push'];exact Nat.lt_succ_of_lt lt)]
 exact bk6 _ (kp b o hb)
end
end Raw
namespace L2
open PySem PySem.Spec PyProof.Rows
section
variable {X:Cx}
theorem aP9 (hc:X.calm=true):cH X (.builtin "sorted") (λxs H Q=>∃a kvs ns,xs = [.ref a]/\H a=some (.dK kvs)/\kvs.map (·.1)=ns.map Sum.inl/\ns.length<64/\∀l (ms:af),H l=none->ms.Perm ns->ms.Pairwise (· <= ·)->Q (.ref l) (upd H l (.lst (ms.map V.int)))):=by
 intro pins s σ H xs us Q I r h
 obtain⟨a,kvs,ns,rfl,ha,hk,h64,q⟩:=h
 obtain⟨u,rfl,ru⟩:=fM r
 cases ru
 obtain⟨es,ep,rd,far,vk,z⟩:=ax4 I ha
 have hl:=vk.length
 have hl2:=congrArg List.length hk
 rw[bl1,bl1]at hl hl2
 have hsz:es.toList.length=es.size:=Array.length_toList
 have e1:(kvs.map λp=>kV p.1)=ns.map V.int:=by
  have:(kvs.map λp=>kV p.1)=(kvs.map (·.1)).map kV:=by rw[bx5];rfl
  rw[this,hk,bx5];rfl
 rw[e1]at vk
 refine Raw.aP8 (G:=λms=>ms=ns) (Raw.ax2 far) (I.ok.hd hc) rd (by omega) (λacc it=>⟨ns,by rw[ax5 it];exact jQ vk,rfl⟩) λh' tk l out ns1 ns' e kp hn he a1 g a2 a3=>?_
 subst g
 have hlen:ns'.length=ns1.length:=a2.length_eq
 refine⟨.ref l,upd H l (.lst (ns'.map V.int)),I.laid (t':=tk) kp hn ⟨?_,out.toList,e,o7 a1,by simpa using he⟩,rfl,q _ ns' (I.hok.fresh hn) a2 a3⟩
 rw[bl1,hlen]
 exact br0 (o8 (by omega))
end
end L2
namespace PP
open PySem L2 PyProof.Rows
section
variable {X:Cx}{a b e:Expr}{ta tb te:aH}{tr:bT}{pos p2:Pos}
def yV:List PV->(PV->Prop)->Prop:=λxs Q=>∃(ps:List (aD×PV)) (ns:af),xs = [.dK ps]/\ps.map (·.1)=ns.map Sum.inl/\ns.length<64/\∀ms:af,ms.Perm ns->ms.Pairwise (· <= ·)->Q (.lst (intz ms))
theorem aQ0:dM X yV (λxs H Q=>∃a kvs ns,xs = [.ref a]/\H a=some (.dK kvs)/\kvs.map (·.1)=ns.map Sum.inl/\ns.length<64/\∀l (ms:af),H l=none->ms.Perm ns->ms.Pairwise (· <= ·)->Q (.ref l) (upd H l (.lst (ms.map V.int)))):=by
 rintro H vs xs Q Q' r ⟨ps,ns,rfl,e,hl,q⟩ k
 obtain⟨v,rfl,r1⟩:=r.one
 cases r1 with
 |@dK a kvs _ m h e2 r2=>
  exact⟨a,kvs,ns,rfl,h,e2.trans e,hl,λl ms hl' p o=>k _ _ _ (bR hl' _) (.lst hl' aU (Reps.intz ms)) (q ms p o)⟩
theorem aQ1 (B:Bt X.mg)(hc:X.calm=true)(ha:QA X [e] tr)(hg:Gl X "sorted":=by rfl)(he:starEach [e] X.env=(false,eval e X.env)::starEach [] X.env:=by rfl)(hpl:(backTo pos (starEach [] X.env)).any (·.1)=false:=by rfl):QE X (.Call (.Name "sorted" p2) [e] [] pos) (aO yV tr):=
 j7 (aP9 hc) aQ0 hg B.sorted PyProof.Rows.boot_sorted ha (he:=he) (hpl:=hpl)
end
end PP
namespace Core
open PySem L2 PP
def gT (k:Nat)(r:af):List (aD×PV):=r.map λh=>((Sum.inl h:aD),PV.int (k:Int))
def jE (rs:ae):List (aD×PV):=(rs.mapIdx gT).flatten
theorem aQ2 (rs:ae)(r:af):jE (rs++[r])=jE rs++gT rs.length r:=by
 unfold jE
 rw[List.mapIdx_append,List.flatten_append]
 simp
theorem Z0 (k:Nat)(r:af):(gT k r).map (·.1)=r.map Sum.inl:=by
 unfold gT;rw[bx5];rfl
theorem Z1:∀(rs:ae) (g:Nat->Nat),((rs.mapIdx λi r=>gT (g i) r).flatten).map (·.1)=rs.flatten.map (Sum.inl:Int->aD)
 |[],_=>rfl
 |r::t,g=>by
  rw[List.mapIdx_cons,List.flatten_cons,List.flatten_cons,bq1,bq1,Z0,Z1 t λi=>g (i+1)]
theorem Z2 (rs:ae):(jE rs).map (·.1)=rs.flatten.map (Sum.inl:Int->aD):=Z1 rs λi=>i
theorem aQ3 {ps:List (aD×PV)}{h:Int}{v:PV}{S:af}(e:ps.map (·.1)=S.map Sum.inl)(hn:h∉S):cZ ps (Sum.inl h:aD) v=ps++[(Sum.inl h,v)]:=by
 unfold cZ
 rw[if_neg]
 intro z
 rw[List.any_eq_true]at z
 obtain⟨p,hp,hq⟩:=z
 have:p.1∈ps.map (·.1):=bo9.mpr ⟨p,hp,rfl⟩
 rw[e,bu7 hq]at this
 obtain⟨y,hy,e2⟩:=bo9.mp this
 exact hn (Sum.inl.inj e2▸hy)
theorem aQ4 {k:Nat}{r:af}{i:Nat}{n:Int}(h:r[i]? = some n):gT k (r.take (i+1))=gT k (r.take i)++[(Sum.inl n,PV.int (k:Int))]:=by
 unfold gT
 rw[bu8,h,bq1];rfl
theorem aQ5 {xs:List PV}{w:Int}(h:0<=w):gR xs none (some w)=xs.take w.toNat:=by
 unfold gR
 rw[HT.ar8,List.drop_zero,Nat.sub_zero]
 have:HT.aX xs.length xs.length (some w)=min w.toNat xs.length:=by
  show (if w<0 then (w+(xs.length:Int)).toNat else min w.toNat xs.length)=_
  rw[if_neg (by omega)]
 rw[this,<- List.take_take,bq9]
theorem aQ6 {ns:af}{w:Int}(h:0<=w):gR (intz ns) none (some w)=intz (ns.take w.toNat):=by
 rw[aQ5 h];exact List.map_take.symm
section
variable {ws:af}{ls:aa}{ns wts:af}{m:Nat}
def loose (ls:aa)(wts ns:af):List ((Int×Int)×Int):=(ls.zip wts).filter λz=>!(decide (z.1.1∈ns)&&decide (z.1.2∈ns))
end
end Core
namespace PP
open PySem L2 PyProof.Rows
abbrev dX:=(Str->Prop)->cK
def EX (K:ac)(H0:Hp)(Ep:Str->Prop):XK:=λc d H'=>d=none/\aB H0 H'/\∃n C,c = .ref C/\PySem.W.nsIn K mainGlobals n=some (some (.ref C))/\Ep n
def Z3 (K:ac)(p:dX):Sp:=λvs H Q E=>∃xs Qp Ep,Reps K (λ_=>True) H vs xs/\p Ep xs Qp/\(∀v H' x,aB H H'->aE K (λa=>H a=none) H' v x->Qp x->Q v H')/\
 ∀n C H',aB H H'->PySem.W.nsIn K mainGlobals n=some (some (.ref C))->Ep n->E (.ref C) none H'
structure bZ (P:Program)(w:World)(K:ac)(mg:Str->Option Value)(base:Heap)(k:Nat)(x:Str)(ps:List Str)(p:dX):Prop where
 ex:∃f fd,bQ P w K mg base (bF P w) k f fd ps (Z3 K p)/\dJ K fd ps []/\PySem.W.keepIn K (.ref f)=true/\mg x=some (.ref f)
section
variable {X:Cx}{σ:L2.St}{H:Hp}{D:bP}{tr:bT}{Q':VK}{a b c e:Expr}{es:List Expr}{pos p2 cp np hp:Pos}{t:aS}{te:aH}{tc:cQ}
def iJ (Ep:Str->Prop)(p:dX)(t:bT):aH:=aO (p Ep) t
theorem Z4 {p:dX}{Ep:Str->Prop}(h:LE X (iJ Ep p tr) σ H Q'):vG (Z3 X.K p) [] (EX X.K X.H₀ Ep) (LA X tr) σ H Q':=by
 obtain⟨W,ρ,Q,px,q,k⟩:=h
 refine⟨W,ρ,_,px,q,λvs H1 xs s1 r1 q1=>⟨_,_,Ep,by rw[bo4];exact r1.any,q1,λv H' x s2 r2 q2=>k v H' x .fr (s1.trans s2) (r2.same (aB.refl _) λ_ z=>s1.free z) q2,λn C H' s2 z1 z2=>⟨rfl,(px.same.trans s1).trans s2,n,C,rfl,z1,z2⟩⟩⟩
theorem kC {Ep:Str->Prop}{k j:Nat}{x:Str}{ps:List Str}{p:dX}(hX:k8 X (EX X.K X.H₀ Ep))(d:bZ X.prog X.w X.K X.mg X.base k x ps p)(hr:bD j X.A)(ha:QA X (e::es) tr)(hkj:k<=j:=by decide)(hg:Gl X x:=by rfl)(hdb:(x==("__debug__":Str))=false:=by decide)(he:starEach (e::es) X.env=(false,eval e X.env)::starEach es X.env:=by rfl)(hpl:(backTo pos (starEach es X.env)).any (·.1)=false:=by rfl):QE X (.Call (.Name x p2) (e::es) [] pos) (iJ Ep p tr):=by
 obtain⟨f,fd,F,b,kp,m⟩:=d.ex
 exact cA (qX F (hr.mono hkj) hg m kp b .nil hX.pass ha hdb he hpl) λ_ _ _=>Z4
theorem aQ7 {k j:Nat}{x:Str}{ps:List Str}{p:dX}(d:bZ X.prog X.w X.K X.mg X.base k x ps p)(hr:bD j X.A)(ha:QA X (e::es) tr)(hkj:k<=j:=by decide)(hg:Gl X x:=by rfl)(hdb:(x==("__debug__":Str))=false:=by decide)(he:starEach (e::es) X.env=(false,eval e X.env)::starEach es X.env:=by rfl)(hpl:(backTo pos (starEach es X.env)).any (·.1)=false:=by rfl):QE X (.Call (.Name x p2) (e::es) [] pos) (aO (p λ_=>False) tr):=by
 obtain⟨f,fd,F,b,kp,m⟩:=d.ex
 refine cA (qX F (E:=EX X.K X.H₀ λ_=>False) (hr.mono hkj) hg m kp b .nil (λ_ _ _ _ _ _ _ h=>?_) ha hdb he hpl) λ_ _ _ h=>Z4 (Ep:=λ_=>False) h
 obtain⟨_,_,_,_,_,_,_,_,_,_,_,_,z⟩:=h
 exact z.elim
def gU (Ep:Str->Prop)(n:Str)(t:bT):aS:=λ_ ρ=>t ρ λxs=>xs.length<=1000/\Ep n
theorem aQ8 {Ep:Str->Prop}{n:Str}{C:Addr}(hn:PySem.W.nsIn X.K mainGlobals n=some (some (.ref C)))(h:LS X (gU Ep n tr) D σ H):U8 (EX X.K X.H₀ Ep) C (LA X tr) D σ H:=by
 obtain⟨W,ρ,D',px,q,k⟩:=h
 exact⟨W,ρ,_,px,q,λvs H1 xs s1 r z=>⟨by rw[r.length];exact wV z.1,rfl,px.same.trans s1,n,C,rfl,hn,z.2⟩⟩
structure Xc (K:ac)(mg:Str->Option Value)(base:Heap)(n:Str):Prop where
 ex:∃C B newId initId bm,OwnCls n C bm newId mg base/\ExcBaseFacts B newId initId bm/\PySem.W.nsIn K mainGlobals n=some (some (.ref C))
theorem jF {Ep:Str->Prop}{n:Str}(hX:k8 X (EX X.K X.H₀ Ep))(x:Xc X.K X.mg X.base n)(ha:QA X (e::es) tr)(hc:X.calm=true:=by rfl)(hg:Gl X n:=by rfl)(hd:(n==("__debug__":Str))=false:=by decide)(he:starEach (e::es) X.env=(false,eval e X.env)::starEach es X.env:=by rfl)(hpl:(backTo cp (starEach es X.env)).any (·.1)=false:=by rfl):QS X (.Raise (some (.Call (.Name n np) (e::es) [] cp)) none pos) (gU Ep n tr):=by
 obtain⟨C,B,newId,initId,bm,O,FB,hn⟩:=x.ex
 exact d6 (aJ4 hX hc O FB ha hg hd he hpl) λ_ _ _=>aQ8 hn
theorem pbI {sts:List Stmt}{t t':TB}(h:PB X sts t)(m:∀D Ex σ H,t' D Ex σ H->t D Ex σ H):PB X sts t':=λpins s σ H D Ex I q=>h pins s σ H D Ex I (m D Ex σ H q)
def yW:List Str:=["BadWeb","BadSet","BadOrder","BadPrices","BadBoard","BadDeed","NotWood","NoPaper","NoSuch","TooMany","NoText","OddRound"]
def pN (n m:Str):Option Bool:=if yW.contains n then some (n==m||m=="HearthError"||m=="ValueError") else none
structure yX (K:ac)(mg:Str->Option Value)(m:Str):Prop where
 ex:∃Ch,mg m=some (.ref Ch)/\yE K Ch/\∀n C,pN n m=some true->PySem.W.nsIn K mainGlobals n=some (some (.ref C))->PySem.W.subIn K (.ref C) (.ref Ch)=some true
def qZ:V->Value
 |.ref a=>.ref a
 |.ty n=>.type n
 |_=>.none
end
structure tF (K:ac)(C:Addr):Prop where
 cls:PySem.W.isClsIn K C=true
 ty:PySem.W.typeIn K (.ref C)=some (.type "type")
 ga:PySem.W.findIn K (.ref C) "__getattribute__" = some (some (.builtin "BaseException.__getattribute__"))
 gt:PySem.W.findIn K (.ref C) "__getattr__" = some none
 fc:PySem.W.findIn K (.ref C) "__class__" = some (some (.builtin "object.__class__"))
 fg:PySem.W.specialIn K (.builtin "object.__class__") "__get__" = some (some (.builtin "getset_descriptor.__get__"))
 ft:PySem.W.takesIn K (.builtin "object.__class__")=some true
 ob:PySem.W.mroIn K C (.type "object")=some true
 be:PySem.W.mroIn K C (.type "BaseException")=some true
theorem yY {K:ac}{h₀:Heap}{mg:Str->Option Value}{x:Str}{C:Addr}{bmB:List Value}{newId:String}(X:K.In h₀)(m:mg x=some (.ref C))(q:PySem.W.excIn K C bmB newId=true):OwnCls x C bmB newId mg h₀:=by
 refine⟨m,?_⟩
 unfold PySem.W.excIn at q
 split at q
 case h_2=>cases q
 rename_i dd cd sl ho
 split at q
 case h_2=>cases q
 rename_i C' bm k0 k1 k2 k3 n k5 hm hs
 simp only[bn4,beq_iff_eq,Bool.not_eq_true']at q
 obtain⟨⟨⟨⟨⟨rfl,rfl⟩,dl⟩,ht⟩,hok⟩,hni⟩:=q
 obtain⟨nm,bs,mro,ns,qn,hd,sn,sub,ab,col,del⟩:=cd
 dsimp only at hm dl hok hni
 subst hm dl
 obtain rfl:sl = #[k0,k1,k2,k3,some (.builtin n),k5]:=by
  obtain⟨l⟩:=sl
  exact congrArg Array.mk hs
 exact⟨bm,ns,nm,qn,bs,hd,sn,sub,ab,col,dd,k0,k1,k2,k3,k5,_,X _ _ ho,.of_isNs (PySem.W.isNs_of_in X hok),PySem.W.nsMap_none_of_in X hok hni,PySem.W.tail_of_in X ht⟩
theorem aQ9 {n m:Str}{b:Bool}(h:pN n m=some b):n∈yW/\b=(n==m||m=="HearthError"||m=="ValueError"):=by
 unfold pN at h
 split at h
 ·rename_i z
  exact⟨by simpa using z,by cases h;rfl⟩
 ·cases h
theorem bZ.of {P:Program}{w:World}{K:ac}{mg:Str->Option Value}{base:Heap}{k:Nat}{x:Str}{ps N:List Str}{p:dX}{st:Stmt}{f:Addr}{fd:FuncData}(F:cP K x x st f fd)(m:mg x=some (.ref f))(S:FnScope N ps (aN st))(hb:∀(kV doc pm:Value) (an:Option Addr) (cdv ct:Value) (us:List Value),us.length=ps.length->bindArgs (PySem.W.fnOf x x (e9 st) (cI st) (aN st) .none kV doc pm an cdv ct) ⟨us,[]⟩=pure (ps.zip us))(t:(Str->Prop)->aS)(len:∀Ep xs Q,p Ep xs Q->xs.length=ps.length)(rd:∀Ep xs Q,p Ep xs Q->t Ep { nx:=λ_=>Q .non,rt:=Q } (eY N xs))(body:∀(cdv:Value) (A:Around) (outer:List Env) (s:Shared) (H:Hp) (E:XK) (Ep:Str->Prop),bD k (A.deeper (envOfC x (aN st) s.heap.objs.size f cdv))->k8 (cC (bF P w) P w K mg base N x (aN st) f cdv A outer s H E) (EX K H Ep)->
   eZ (cC (bF P w) P w K mg base N x (aN st) f cdv A outer s H E) (cI st) (t Ep)):bZ P w K mg base (k+1) x ps p:=by
 refine⟨f,fd,F.okX S (λvs H Q E h=>?_) (λcdv A outer s H vs Q E hr h=>?_),F.binds hb,F.kp,m⟩
 ·obtain⟨xs,Qp,Ep,r,q,_⟩:=h
  rw[r.length];exact len Ep xs Qp q
 ·obtain⟨xs,Qp,Ep,r,q,k,ke⟩:=h
  have ht:=body cdv A outer s H E Ep hr (yD λc d H' z=>?_)
  ·refine⟨_,ht,λ_=>False,eY N xs,_,sG r,rd Ep xs Qp q,?_,?_,?_,?_⟩
   ·exact λW' σ' H' ρ' e px q=>k _ _ _ px.same .non q
   ·exact λv H' x s r q=>k _ _ _ s r q
   ·exact λW' σ' H' ρ' e px q=>q
   ·exact λW' σ' H' ρ' e px q=>q
  ·obtain⟨rfl,s1,n,C,rfl,z1,z2⟩:=z
   exact ke n C H' s1 z1 z2
end PP
namespace Core
open PySem L2 PP
abbrev kD (t:(Str->Prop)->aS)(N:List Str)(p:dX):Prop:=∀Ep xs Q,p Ep xs Q->t Ep { nx:=λ_=>Q .non,rt:=Q } (eY N xs)
def nF:dX:=λEp xs Q=>∃ws ls x ns,xs = [bM ws ls,x]/\fA x ns/\ns.length<=1000/\(cL ws.length ns=true->Q (.tup (intz ns)))/\(cL ws.length ns=false->Ep "BadSet")
def Z5 (Ep:Str->Prop):aS:=(aR (bI (jT (aZ (aO t5 (a9 (a5 0) (a9 (a5 1) aC))))) (gU Ep "BadSet" (a9 (qC (.str "a set is of rising hearths of the web")) aC)) bH)
 (bC (aO fU (a9 (a5 1) aC))))
theorem aR0:kD Z5 ["web","hearths"] nF:=by
 rintro Ep xs Q ⟨ws,ls,x,ns,rfl,hx,hl,q1,q2⟩
 refine⟨_,rfl,_,rfl,ws,ls,x,ns,rfl,hx,hl,_,rfl,?_⟩
 cases h:cL ws.length ns with
 |true=>exact aP ⟨_,rfl,⟨_,_,rfl,hx.seqT,eM _,trivial,q1 h⟩,hx.noscr⟩
 |false=>exact b7 ⟨by decide,q2 h⟩
end Core
namespace PP
open PySem L2
theorem us1 {us:List Value}(h:us.length=1):∃a,us = [a]:=List.length_eq_one_iff.mp h
theorem us2 {us:List Value}(h:us.length=2):∃a b,us = [a,b]:=by
 cases us with
 |nil=>cases h
 |cons a r=>
  obtain⟨b,rfl⟩:=us1 (us:=r) (by simpa using h)
  exact⟨a,b,rfl⟩
theorem yZ {us:List Value}(h:us.length=3):∃a b c,us = [a,b,c]:=by
 cases us with
 |nil=>cases h
 |cons a r=>
  obtain⟨b,c,rfl⟩:=us2 (us:=r) (by simpa using h)
  exact⟨a,b,c,rfl⟩
theorem Z6 {us:List Value}(h:us.length=4):∃a b c d,us = [a,b,c,d]:=by
 cases us with
 |nil=>cases h
 |cons a r=>
  obtain⟨b,c,d,rfl⟩:=yZ (us:=r) (by simpa using h)
  exact⟨a,b,c,d,rfl⟩
end PP
namespace Core
open PySem L2 PP
abbrev DK (n:Int)(ps:List (List aD×PV)):Prop:=DL n ps ps.length
structure WL (n:Int)(ws:af)(ls:aa):Prop where
 many:(ws.length:Int)=n
 inn:∀l∈ls,0<=l.1/\l.1<l.2/\l.2<n
 most:ls.length<=1700
 ord:ls.Pairwise jC
 pos:∀w∈ws,0<=w
theorem WL.perm {n:Int}{ws:af}{ls ls':aa}(h1:(ws.length:Int)=n)(h2:∀l∈ls,0<=l.1/\l.1<l.2/\l.2<n)(h3:ls.length<=1700)(nd:ls.Nodup)(h4:∀w∈ws,0<=w)(p:ls'.Perm ls)(so:(ls'.map two).Pairwise λu v=>HT.cO v u=false):WL n ws ls':=
 ⟨h1,λl hl=>h2 l (p.mem_iff.mp hl),by rw[p.length_eq];exact h3,aL9 so (p.nodup_iff.mpr nd),h4⟩
theorem WL.wb {n:Int}{ws:af}{ls:aa}(h:WL n ws ls)(hn:n<=40):Wb ws ls:=
 ⟨by have:=h.many;omega,h.most,λl hl=>by have:=h.inn l hl;have:=h.many;omega⟩
def z9 (f:af->aa->af->(PV->Prop)->Prop):dX:=λEp xs Q=>∃ws ls x ns,xs = [bM ws ls,x]/\Wb ws ls/\fA x ns/\ns.length<=1000/\(cL ws.length ns=true->f ws ls ns Q)/\(cL ws.length ns=false->Ep "BadSet")
def tG:dX:=z9 λws ls ns Q=>∀m,bP ws ls ns m->Q (.lst (tups (ns::after ws ls ns m)))
def tH:dX:=z9 λws ls ns Q=>∀m,bP ws ls ns m->Q (.dK (jE (ns::after ws ls ns m)))
def tI:dX:=z9 λws ls ns Q=>∀ms m,bP ws ls ns m->ms.Perm (b8 ws ls ns m)->ms.Pairwise (· <= ·)->Q (.tup (intz ms))
def Z7 (Ep:Str->Prop):aS:=(aR (iX 2 (fQ (a9 (iJ Ep nF (a9 (a5 0) (a9 (a5 1) aC))) aC)))
 (aR (iX 3 (aO lN (a9 (aW (a5 2) (qC (.int 0))) aC)))
 (aR (bE 4 (aO yM (a9 (a5 0) aC)))
 (aR (bE 5 (aO pG (a9 (a5 0) (a9 (a5 4) (a9 (a5 3) aC)))))
 (aR (wY (x6 (a5 5))
  (aR (mD 2 (a5 5))
  (aR (xJ 3 (aO lN (a9 (a5 5) aC)))
  (bE 5 (aO pG (a9 (a5 0) (a9 (a5 4) (a9 (a5 3) aC))))))))
 (mC 2))))))
theorem aR1:kD Z7 ["web","seeds","told","burning","around","lit"] tG:=by
 rintro Ep xs Q ⟨ws,ls,x,ns,rfl,wb,hx,hl,q,qe⟩
 have few:=wb.few
 refine⟨_,rfl,_,rfl,ws,ls,x,ns,rfl,hx,hl,λhs=>?_,qe⟩
 have q:=q hs
 have ln:=pH hs
 refine⟨by show 1<=1000;decide,?_,rfl,?_,?_⟩
 ·show (flat (.tup (intz ns))&&true)=true
  rw[i6];rfl
 ·show (flat (.tup (intz ns))&&true)=true
  rw[i6];rfl
 refine⟨_,rfl,_,_,_,rfl,rfl,rfl,_,ns,rfl,.inl rfl,by omega,λps d=>⟨rfl,d.fl,?_⟩⟩
 refine⟨_,rfl,ws,ls,rfl,wb,trivial,?_⟩
 refine⟨_,rfl,_,rfl,_,rfl,ws,ls,ps,ns,rfl,wb,d,trivial,?_⟩
 refine⟨λn ρ=>∃k ps,ρ = [some (.sh (flat (bM ws ls)) (bM ws ls)),some (.sh (flat x) x),some (.own (.lst (tups (ns::after ws ls ns k)))),some (.own (.dK ps)),some (.sh true (.lst (nB ws.length ls))),some (.sh true (.tup (intz (nextOf ws ls (b8 ws ls ns k)))))]/\
   n=eO ws (b8 ws ls ns k)/\DS ps (b8 ws ls ns k)/\∀j<k,nextOf ws ls (b8 ws ls ns j)≠[],⟨_,0,ps,rfl,rfl,d,λ_ z=>absurd z (Nat.not_lt_zero _)⟩,?_⟩
 rintro n ρ ⟨k,ps,rfl,rfl,d,ne⟩
 refine⟨_,rfl,_,rfl,?_⟩
 cases hn:nextOf ws ls (b8 ws ls ns k) with
 |nil=>exact aP ⟨_,rfl,trivial,q k ⟨ne,hn⟩⟩
 |cons y yr=>
  refine b7 ?_
  rw[<- hn]
  have cs:=yI ws ls (b8 ws ls ns k)
  have nl:1<=(nextOf ws ls (b8 ws ls ns k)).length:=by rw[hn];exact Nat.succ_le_succ (bo0 _)
  have nle:=aJ7 ws ls (b8 ws ls ns k)
  have sl:=t9 (ls:=ls) hs k
  have dl:=d.len
  have ke:=V2 k ne
  refine⟨_,rfl,_,rfl,trivial,?_,?_⟩
  ·rw[X0,bo1]
   unfold after
   rw[bl1,bt5];omega
  refine⟨_,rfl,_,rfl,_,_,rfl,.inl rfl,by omega,λmp dm=>⟨mp,rfl,.inl rfl,?_,?_⟩⟩
  ·have:=dm.len;omega
  have D7:DS (hZ ps mp) (b8 ws ls ns (k+1)):=d.merge dm
  refine⟨_,rfl,_,rfl,_,rfl,ws,ls,_,_,rfl,wb,D7,trivial,?_⟩
  refine⟨_,?_,k+1,hZ ps mp,?_,rfl,D7,λj hj=>?_⟩
  ·show eO ws (b8 ws ls ns k++nextOf ws ls (b8 ws ls ns k))<_
   omega
  ·rw[V0,<- List.cons_append]
   unfold tups
   rw[bq1];rfl
  ·by_cases e:j=k
   ·rw[e,hn];exact λz=>nomatch z
   ·exact ne j (by omega)
def Z8 (Ep:Str->Prop):aS:=(aR (iX 2 (qC (.dK [])))
 (aR (gC (yU (iJ Ep tG (a9 (a5 0) (a9 (a5 1) aC)))) (xE 3 4)
  (gC (iF (a5 4)) (dO 5)
   (rY 2 (a5 5) (a5 3))))
 (mC 2)))
theorem aR2:kD Z8 ["web","seeds","ranks","rank","lit","hearth"] tH:=by
 rintro Ep xs Q ⟨ws,ls,x,ns,rfl,wb,hx,hl,q,qe⟩
 have few:=wb.few
 refine⟨rfl,rfl,_,rfl,_,rfl,ws,ls,x,ns,rfl,wb,hx,hl,λhs m en=>⟨_,.inl rfl,λz=>(by cases z),?_⟩,qe⟩
 have q:=q hs
 have fl:=yK ws ls ns m
 have sl:=t9 (ls:=ls) hs m
 have nd:=Y7 (ls:=ls) hs m
 generalize hrs:ns::after ws ls ns m=rs at fl
 rw[<- fl]at sl nd
 refine⟨λi ρ=>∃y z u,ρ = [some (.sh (flat (bM ws ls)) (bM ws ls)),some (.sh (flat x) x),some (.own (.dK (jE (rs.take i)))),y,z,u],⟨none,none,none,rfl⟩,?_,?_⟩
 ·rintro i y ρ hy ⟨y0,z0,u0,rfl⟩
  obtain⟨y,hy2,rfl⟩:=aO1 hy
  obtain⟨r,rfl,hr⟩:=aL1 hy2
  have tk:rs.take (i+1)=rs.take i++[r]:=by rw[bu8,hr];rfl
  have il:(rs.take i).length=i:=by
   have:=(bl7.mp hr).1
   rw[br6];omega
  have nd2:((rs.take i).flatten++r).Nodup/\((rs.take i).flatten++r).length<=rs.flatten.length:=by
   have e:rs.flatten=((rs.take i).flatten++r)++(rs.drop (i+1)).flatten:=by
    rw[<- List.flatten_singleton (l:=r),<- List.flatten_append,<- tk,<- List.flatten_append,bo2]
   rw[e]at nd ⊢
   exact⟨(bt6.mp nd).1,by rw[bl4 (as:=(rs.take i).flatten++r)];omega⟩
  refine⟨_,_,rfl,_,rfl,_,rfl,λz=>(by cases z),λj ρ=>∃u,ρ = [some (.sh (flat (bM ws ls)) (bM ws ls)),some (.sh (flat x) x),some (.own (.dK (jE (rs.take i)++gT i (r.take j)))),some (.sh true (.int (i:Int))),some (.sh true (.tup (intz r))),u],⟨u0,?_⟩,?_,?_⟩
  ·rw[show gT i (r.take 0) = [] from rfl,bo4]
   rfl
  ·rintro j y ρ hy ⟨u1,rfl⟩
   obtain⟨n,rfl,hn⟩:=pD hy
   have ke:(jE (rs.take i)++gT i (r.take j)).map (·.1)=((rs.take i).flatten++r.take j).map (Sum.inl:Int->aD):=by
    rw[bq1,bq1,Z2,Z0]
   have nn:n∉(rs.take i).flatten++r.take j:=by
    have:=nd2.1
    rw[<- bo2 j r,List.drop_eq_getElem_cons (bl7.mp hn).1,(bl7.mp hn).2,<- bn1]at this
    exact λz=>(bt6.mp this).2.2 n z n bm8 rfl
   have le:(jE (rs.take i)++gT i (r.take j)).length<=40:=by
    have e1:=congrArg List.length ke
    have e2:=nd2.2
    rw[bl1,bl1,bl4,bl4,br6]at e1
    rw[bl4]at e2
    rw[bl4]
    omega
   refine⟨_,rfl,_,rfl,_,rfl,Sum.inl n,rfl,trivial,by omega,si n,?_⟩
   rw[aQ3 ke nn,aQ4 hn,bn1]
   rfl
  ·rintro ρ ⟨u,rfl⟩
   refine⟨some (.sh true (.int i)),some (.sh true (.tup (intz r))),u,?_⟩
   rw[dF,bq9,tk,aQ2,il]
 ·rintro ρ ⟨y,z,u,rfl⟩
  rw[yT,X0,bq9,<- hrs]
  exact⟨_,rfl,trivial,q m en⟩
def Z9 (Ep:Str->Prop):aS:=(bC (aO fU (a9 (aO yV (a9 (iJ Ep tH (a9 (a5 0) (a9 (a5 1) aC))) aC)) aC)))
theorem aR3:kD Z9 ["web","seeds"] tI:=by
 rintro Ep xs Q ⟨ws,ls,x,ns,rfl,wb,hx,hl,q,qe⟩
 have few:=wb.few
 refine⟨_,rfl,_,rfl,ws,ls,x,ns,rfl,wb,hx,hl,λhs m en=>?_,qe⟩
 have sl:=t9 (ls:=ls) hs m
 refine⟨_,b8 ws ls ns m,rfl,?_,by omega,λms hp ho=>⟨⟨_,_,rfl,rfl,eM _,trivial,q hs ms m en hp ho⟩,λns z=>by cases z⟩⟩
 rw[Z2,yK]
section
variable {ws:af}{ls:aa}
def cne (ws:af)(ls:aa)(S:af):Bool:=!decide (S = [])&&decide (stay ws ls S=S)
end
end Core
namespace PP
open PySem L2
section
variable {X:Cx}{a b:Expr}{ta tb:aH}{pos:Pos}
theorem aa0 {K:ac}{M M':Addr->Prop}{H:Hp}{v:V}{m n:af}(r1:aE K M H v (.tup (intz m)))(r2:aE K M' H v (.tup (intz n))):m=n:=by
 obtain⟨p,us,rfl,h1,q1⟩:=r1.sqT
 obtain⟨p2,ws,e,h2,q2⟩:=r2.sqT
 cases e
 rw[h1]at h2
 cases h2
 have:=(q1.ofInts).symm.trans q2.ofInts
 exact (List.map_inj_right λ_ _ e=>by cases e;rfl).mp this
end
end PP
namespace Core
open PySem L2 PP
def far (ns S:af):Bool:=decide (((S.filter λx=>decide (x∈ns)).length:Int)=0)
def aR4 (ls:aa)(S U:af):Prop:=∀x∈U,∀y∈bS ls x,y∈S->y∈U
noncomputable def aR5 (ls:aa)(S:af)(h:Int):af:=S.filter λx=>@decide (∀U:af,aR4 ls S U->h∈U->x∈U) (Classical.propDecidable _)
section
variable {ws:af}{ls:aa}{S:af}{n:Nat}{h x:Int}
noncomputable def aR6 (ls:aa)(S:af)(h:Int):Bool:=decide ((aR5 ls S h).head? = some h)
noncomputable def aR7 (ls:aa)(S:af):af:=S.filter (aR6 ls S)
end
def aa1 (ws:af)(ls:aa):af->af->Bool
 |_,[]=>true
 |B,h::R=>inB ws.length h&&(kin ws ls B h&&aa1 ws ls (B++[h]) R)
def never (ws:af)(h:Int):af:=ws.set h.toNat (ws.length:Int)
section
variable {ws:af}{ls:aa}{A T:af}{m:Nat}
theorem aR8 (en:bP ws ls A m):pM ws ls (b8 ws ls A m):=λh hh=>by
 have:=List.filter_eq_nil_iff.mp (show (rng ws.length).filter (kin ws ls (b8 ws ls A m)) = [] from en.2) h hh
 simpa using this
end
structure LK (i j:Nat)(ls:aa):Prop where
 inn:∀l∈ls,0<=l.1/\l.1<l.2/\(l.2<(i:Int)∨(l.2=(i:Int)/\l.1<(j:Int)))
 nd:ls.Nodup
 few:ls.length<=40*i+j
end Core
namespace PP
open PySem L2
section
variable {X:Cx}{a b:Expr}{ta tb:aH}{pos:Pos}
def aa2 (K:ac):R2:=λx y H Q=>∃p us ns,∃rs:ae,y = .ref p/\H p=some (.tup us)/\aE K (λ_=>True) H x (.tup (intz ns))/\Reps K (λ_=>True) H us (rs.map λr=>PV.tup (intz r))/\Q (.bl (decide (ns∈rs))) H
open Classical in
theorem aR9 (hu:X.A.units+3<cLine):cG X (compareOp .In) (aa2 X.K):=by
 intro pins s σ H x y v u Q I rx ry h
 obtain⟨p,us,ns,rs,rfl,hp,rn,rr,q⟩:=h
 cases ry
 obtain⟨its,r,pl,hz⟩:=I.tuple (aL.of (K:=X.K) hp)
 obtain⟨px,ws,rfl,hx,qx⟩:=rn.sqT
 have lr:=r.length
 have lp:=rr.length
 rw[bl1]at lp
 let f:Value->Bool:=λw=>decide (∃v',aT v' w/\aE X.K (λ_=>True) H v' (.tup (intz ns)))
 have key:∀j (w:Value),its[j]? = some w->∃m,rs[j]? = some m/\SeqAt.EqAt X.A.in1 s w v (decide (m=ns))/\(f w=decide (m=ns)):=λj w hw=>by
  have hj:=(bl7.mp hw).1
  have h1:j<us.length:=by omega
  obtain⟨w',hw',rw'⟩:=r.get (bk8 h1)
  rw[hw]at hw'
  cases hw'
  obtain⟨m',hm',rm⟩:=rr.get (bk8 h1)
  rw[bm7]at hm'
  cases hm:rs[j]? with
  |none=>rw[hm]at hm';cases hm'
  |some m=>
   rw[hm]at hm'
   cases hm'
   refine⟨m,hm,?_,?_⟩
   ·have:=xP I 2 (A:=X.A.in1) (by show X.A.units+1+2<cLine;omega) rm rn rw' rx (by exact sA 1 m ns)
    rw[rZ 1]at this
    exact this
   ·have:(∃v',aT v' w/\aE X.K (λ_=>True) H v' (.tup (intz ns)))↔m=ns:=by
     refine⟨λ⟨v',h1',h2'⟩=>?_,λe=>⟨_,rw',by rw[<- e];exact rm⟩⟩
     obtain⟨p1,w1,e1,_,_⟩:=rm.sqT
     obtain⟨p2,w2,e2,_,_⟩:=h2'.sqT
     rw[e1]at rw' rm
     rw[e2]at h1' h2'
     cases rw'
     cases h1'
     exact aa0 rm h2'
    show decide _=decide _
    exact decide_eq_decide.mpr this
 refine SeqAt.in_tupleAt f pl (λw hw=>?_) ⟨.bl _,H,I,rfl,?_⟩
 ·have hw:w∈its:=by simpa using hw
  obtain⟨j,hj⟩:=bw7 hw
  obtain⟨m,_,h1,h2⟩:=key j w hj
  rw[h2];exact h1
 ·have:its.toArray.any f=decide (ns∈rs):=by
   rw[show its.toArray.any f=its.any f by simp,bq0,List.any_eq_true,bm2]
   refine⟨λ⟨w,hw,e⟩=>?_,λh=>?_⟩
   ·obtain⟨j,hj⟩:=bw7 hw
    obtain⟨m,hm,_,h2⟩:=key j w hj
    rw[h2,bm2]at e
    rw[<- e];exact bt0 hm
   ·obtain⟨j,hj⟩:=bw7 h
    have hl:=(bl7.mp hj).1
    obtain⟨m,hm,_,h2⟩:=key j its[j] (bk8 (by omega))
    rw[hj]at hm
    cases hm
    exact⟨its[j]'(by omega),bu3 _,by rw[h2];exact bn0 rfl⟩
  rw[this]
  exact q
def tJ:PV->Tg->PV->Tg->PK->Prop:=λx _ y _ Q=>∃ns,∃rs:ae,x = .tup (intz ns)/\y = .tup (rs.map λr=>PV.tup (intz r))/\Q (.bl (decide (ns∈rs))) .fr
theorem aS0:eC X tJ (aa2 X.K):=by
 rintro W Hs H u v x y g g' Q Q' s n r1 r2 ⟨ns,rs,rfl,rfl,q⟩ k
 obtain⟨p,us,rfl,h,r⟩:=r2.sqT
 exact⟨p,us,ns,rs,rfl,h,r1.same (aB.refl _) (λ_ _=>trivial),r.same (aB.refl _) (λ_ _=>trivial),k _ _ _ .fr (aB.refl _) (.bl _) q⟩
theorem aS1 (hu:X.A.units+3<cLine)(ha:QE X a ta)(hb:QE X b tb)(hm:behindInMarks .In b=false:=by rfl):QE X (.Compare a [.In] [b] pos) (q2 tJ ta tb):=oQ (aR9 hu) aS0 ha hb hm
end
end PP
namespace Core
open PySem L2 PP
section
variable {ws:af}{ls:aa}{ns S:af}
theorem aa3:∀k,(∀j<k,nextOf ws ls (b8 ws ls ns j)≠[])->k<=(b8 ws ls ns k).length
 |0,_=>bo0 _
 |k+1,h=>by
  have ih:=aa3 k λj hj=>h j (by omega)
  have:=List.length_pos_iff.mpr (h k (by omega))
  show k+1<=(b8 ws ls ns k++nextOf ws ls (b8 ws ls ns k)).length
  rw[bl4];omega
theorem tK (ws:af)(ls:aa)(ns:af):∃m,bP ws ls ns m:=by
 have key:∀k,(∃m,bP ws ls ns m)∨∀j<k,nextOf ws ls (b8 ws ls ns j)≠[]:=λk=>by
  induction k with
  |zero=>exact .inr λj hj=>(by omega)
  |succ k ih=>
   rcases ih with h|h
   ·exact .inl h
   ·by_cases e:nextOf ws ls (b8 ws ls ns k) = []
    ·exact .inl ⟨k,h,e⟩
    ·exact .inr λj hj=>if z:j=k then z▸e else h j (by omega)
 rcases key (ns.length+eO ws ns+1) with h|h
 ·exact h
 ·have:=aa3 _ h
  have:=yJ ws ls ns (ns.length+eO ws ns+1)
  omega
end
end Core
namespace L2
open PySem PySem.Spec PyProof.Rows
theorem aS2 {a b c:af}(h1:HT.cO a b=true)(h2:HT.cO b c=true):HT.cO a c=true:=by
 cases e:HT.cO a c with
 |true=>rfl
 |false=>
  have ca:=wJ (oB h2) (oB h1)
  have:=M0 e ca
  subst this
  have:=oB h1
  rw[h2]at this;cases this
theorem zA {α:Type}{p q:α->Bool}:∀{l:List α},(∀x∈l,p x=true->q x=true)->(l.filter p).length<=(l.filter q).length
 |[],_=>bk9 _
 |x::l,h=>by
  have ih:=zA (l:=l) λy hy=>h y (bm9 _ hy)
  have hx:=h x bm8
  rw[bv9,bv9]
  cases ep:p x with
  |false=>cases q x<;>simp<;>omega
  |true=>rw[hx ep];simp;omega
theorem aa4 {α:Type}{p q:α->Bool}:∀{l:List α},(∀x∈l,p x=true->q x=true)->(∃x∈l,q x=true/\p x=false)->(l.filter p).length<(l.filter q).length
 |[],_,e=>by obtain⟨_,z,_⟩:=e;cases z
 |x::l,h,e=>by
  have hx:=h x bm8
  have h':∀y∈l,p y=true->q y=true:=λy hy=>h y (bm9 _ hy)
  have le:=zA h'
  rw[bv9,bv9]
  obtain⟨y,hy,qy,py⟩:=e
  rcases bl2.mp hy with rfl|hy
  ·rw[qy,py];simp;omega
  ·have ih:=aa4 h' ⟨y,hy,qy,py⟩
   cases ep:p x with
   |false=>cases q x<;>simp<;>omega
   |true=>rw[hx ep];simp;omega
def lQ (ys:ae)(x:af):Nat:=(ys.filter λy=>HT.cO y x).length
theorem aa5 {ys:ae}{u v:af}(hu:u∈ys)(hv:v∈ys):HT.cO u v=decide ((lQ ys u:Int)<(lQ ys v:Int)):=by
 have irr:∀a:af,HT.cO a a=false:=λa=>by
  cases e:HT.cO a a with
  |false=>rfl
  |true=>have:=oB e;rw[e]at this;cases this
 cases e:HT.cO u v with
 |true=>
  have:lQ ys u<lQ ys v:=aa4 (λx _ h=>aS2 h e) ⟨u,hu,e,irr u⟩
  exact (bn0 (by omega)).symm
 |false=>
  have:lQ ys v<=lQ ys u:=zA λx _ h=>by
   cases e2:HT.cO x u with
   |true=>rfl
   |false=>have:=wJ e2 e;rw[h]at this;cases this
  exact (bm3 (by omega)).symm
end L2
namespace L2
open PySem PySem.Spec PyProof.Rows SO
section
variable {prog:Program}{w:World}{A:Around}{E:Value→Shared→Prop}{s:Shared}
structure nG (h:Heap)(v:Value)(ns:af):Prop where
 at_:∃b ob us n,v = .ref b/\h.get? b=some ob/\ob.cls = .type "tuple"/\ob.data = .seq (List.toArray us) n/\IntsAre us ns
def zB (h:Heap)(v:Value):af:=match v with
 |.ref b=>match h.get? b with
  |some ob=>match ob.data with
   |.seq us _=>us.toList.map numOf
   |_=>[]
  |none=>[]
 |_=>[]
theorem aa6:∀{us:List Value}{ns:af},IntsAre us ns->us.map numOf=ns
 |_,_,.nil=>rfl
 |_,_,.cons _ _ h=>by rw[bp3,aa6 h];rfl
theorem nG.ints {h:Heap}{v:Value}{ns:af}(z:nG h v ns):zB h v=ns:=by
 obtain⟨b,ob,us,n,rfl,e2,_,e4,e5⟩:=z.at_
 unfold zB
 dsimp only
 rw[e2];dsimp only
 rw[e4];exact aa6 e5
def nH (h:Heap)(ys:ae)(x:Keyed):Int:=(lQ ys (zB h x.1):Int)
end
end L2
namespace L2
open PySem PySem.Spec PyProof.Rows
section
variable {X:Cx}
theorem aS3 (hc:X.calm=true):cH X (.builtin "min") (λxs H Q=>∃(a:Addr) (ns:af),xs = [.ref a]/\aM X.K H a (ns.map V.int)/\ns≠[]/\∀M:Int,M∈ns->(∀x∈ns,M<=x)->Q (.int M) H):=by
 intro pins s σ H xs us Q I r h
 obtain⟨a,ns,rfl,hq,ne,q⟩:=h
 obtain⟨u,rfl,ru⟩:=fM r
 cases ru
 obtain⟨its,rv,p,hz⟩:=I.list hq
 have ia:=jQ rv
 obtain⟨ys,ey⟩:=ia.allInts.items
 have en:ns=ys.toList.map (·.1):=by
  have e1:=nums_intItems ys
  rw[<- ey]at e1
  exact ia.numsOf.symm.trans e1
 have pos:0<ys.size:=Nat.pos_of_ne_zero λz=>ne (by rw[en,bw0 z];rfl)
 have hl:s.heap.IsList a (intItems ys):=ey▸p.isList
 refine min_intList (I.ok.hd hc) hl pos λv h' tk ev old=>?_
 obtain⟨t,rfl⟩:=intItems_at ev
 have best:=argBest_lt (numAt ys) (ys.size-1)
 have mem:∀x:Int,x∈ns↔∃j,j<ys.size/\numAt ys j=x:=λx=>by
  rw[en]
  constructor
  ·intro z
   obtain⟨j,hj,e⟩:=mem_getD z
   exact⟨j,by simpa using hj,by rw[numAt_eq];exact e⟩
  ·rintro⟨j,hj,rfl⟩
   rw[numAt_eq]
   exact getD_mem (by simpa using hj)
 refine⟨.int _,H,I.kept (t':=tk) (h':=h') old,⟨t,rfl⟩,q _ ?_ λx hx=>?_⟩
 ·exact (mem _).mpr ⟨_,by have:=best.1;omega,rfl⟩
 ·obtain⟨j,hj,rfl⟩:=(mem x).mp hx
  exact best.2 j (by omega)
end
end L2
namespace PP
open PySem L2
section
variable {X:Cx}{e:Expr}{tr:bT}{pos p2:Pos}
def aa7:List PV->(PV->Prop)->Prop:=λxs Q=>∃ns:af,xs = [.lst (intz ns)]/\ns≠[]/\∀M:Int,M∈ns->(∀x∈ns,M<=x)->Q (.int M)
theorem aS4:dM X aa7 (λxs H Q=>∃(a:Addr) (ns:af),xs = [.ref a]/\aM X.K H a (ns.map V.int)/\ns≠[]/\∀M:Int,M∈ns->(∀x∈ns,M<=x)->Q (.int M) H):=by
 rintro H vs xs Q Q' r ⟨ns,rfl,ne,q⟩ k
 obtain⟨v,rfl,r1⟩:=r.one
 obtain⟨a,us,rfl,_,h,r2⟩:=r1.sqL
 rw[r2.ofInts]at h
 exact⟨a,ns,rfl,aM.of h,ne,λM m1 m2=>k _ _ _ (aB.refl _) (.int M) (q M m1 m2)⟩
end
end PP
namespace L2
open PySem PySem.Spec PyProof.Rows
section
variable {X:Cx}
theorem aS5 (hc:X.calm=true):cH X (.builtin "max") (λxs H Q=>∃(a:Addr) (ns:af),xs = [.ref a]/\aM X.K H a (ns.map V.int)/\ns≠[]/\∀M:Int,M∈ns->(∀x∈ns,x<=M)->Q (.int M) H):=by
 intro pins s σ H xs us Q I r h
 obtain⟨a,ns,rfl,hq,ne,q⟩:=h
 obtain⟨u,rfl,ru⟩:=fM r
 cases ru
 obtain⟨its,rv,p,hz⟩:=I.list hq
 have ia:=jQ rv
 obtain⟨ys,ey⟩:=ia.allInts.items
 have en:ns=ys.toList.map (·.1):=by
  have e1:=nums_intItems ys
  rw[<- ey]at e1
  exact ia.numsOf.symm.trans e1
 have pos:0<ys.size:=Nat.pos_of_ne_zero λz=>ne (by rw[en,bw0 z];rfl)
 have hl:s.heap.IsList a (intItems ys):=ey▸p.isList
 refine max_intList (I.ok.hd hc) hl pos λv h' tk ev old=>?_
 obtain⟨t,rfl⟩:=intItems_at ev
 have best:=argBest_gt (numAt ys) (ys.size-1)
 have mem:∀x:Int,x∈ns↔∃j,j<ys.size/\numAt ys j=x:=λx=>by
  rw[en]
  constructor
  ·intro z
   obtain⟨j,hj,e⟩:=mem_getD z
   exact⟨j,by simpa using hj,by rw[numAt_eq];exact e⟩
  ·rintro⟨j,hj,rfl⟩
   rw[numAt_eq]
   exact getD_mem (by simpa using hj)
 refine⟨.int _,H,I.kept (t':=tk) (h':=h') old,⟨t,rfl⟩,q _ ?_ λx hx=>?_⟩
 ·exact (mem _).mpr ⟨_,by have:=best.1;omega,rfl⟩
 ·obtain⟨j,hj,rfl⟩:=(mem x).mp hx
  exact best.2 j (by omega)
end
end L2
namespace PP
open PySem L2
section
variable {X:Cx}{a b e o:Expr}{ta tb te to:aH}{tr:bT}{pos p2 apos cpos:Pos}{σ:St}{H:Hp}{Q':VK}
def aa8:List PV->(PV->Prop)->Prop:=λxs Q=>∃ns:af,xs = [.lst (intz ns)]/\ns≠[]/\∀M:Int,M∈ns->(∀x∈ns,x<=M)->Q (.int M)
theorem aS6:dM X aa8 (λxs H Q=>∃(a:Addr) (ns:af),xs = [.ref a]/\aM X.K H a (ns.map V.int)/\ns≠[]/\∀M:Int,M∈ns->(∀x∈ns,x<=M)->Q (.int M) H):=by
 rintro H vs xs Q Q' r ⟨ns,rfl,ne,q⟩ k
 obtain⟨v,rfl,r1⟩:=r.one
 obtain⟨a,us,rfl,_,h,r2⟩:=r1.sqL
 rw[r2.ofInts]at h
 exact⟨a,ns,rfl,aM.of h,ne,λM m1 m2=>k _ _ _ (aB.refl _) (.int M) (q M m1 m2)⟩
def pO:List PV->(PV->Prop)->Prop:=λxs Q=>(∃i,xs = [.int i]/\Q (.int i))∨∃k,xs = [.bl k]/\Q (.int (if k then 1 else 0))
theorem aS7:dM X pO (λxs H Q=>(∃i,xs = [.int i]/\Q (.int i) H)∨∃k,xs = [.bl k]/\Q (.int (if k then 1 else 0)) H):=by
 rintro H vs xs Q Q' r (⟨i,rfl,q⟩|⟨i,rfl,q⟩) k
 ·obtain⟨v,rfl,r1⟩:=r.one
  cases r1
  exact .inl ⟨i,rfl,k _ _ _ (aB.refl _) (.int _) q⟩
 ·obtain⟨v,rfl,r1⟩:=r.one
  cases r1
  exact .inr ⟨i,rfl,k _ _ _ (aB.refl _) (.int _) q⟩
theorem aS8 (B:Bt X.mg)(ha:QA X [e] tr)(hg:Gl X "int":=by rfl)(he:starEach [e] X.env=(false,eval e X.env)::starEach [] X.env:=by rfl)(hpl:(backTo pos (starEach [] X.env)).any (·.1)=false:=by rfl):QE X (.Call (.Name "int" p2) [e] [] pos) (aO pO tr):=
 R4 ap8 aS7 hg B.int PyProof.Rows.boot_int ha (he:=he) (hpl:=hpl)
open Classical in
theorem aS9 {A:Around}(hu:A.units+2<cLine){pins:List (Addr×Obj)}{s:Shared}{H:Hp}{us:List V}{its:List Value}{rs:ae}{ns:af}{x:V}{v:Value}(I:a8 X pins σ H s)(rx:aT x v)(r:aQ us its)(rn:aE X.K (λ_=>True) H x (.tup (intz ns)))(rr:Reps X.K (λ_=>True) H us (rs.map λr=>PV.tup (intz r))):∃f:Value->Bool,∀(j:Nat) (w:Value),its[j]? = some w->∃m,rs[j]? = some m/\SeqAt.EqAt A s w v (f w)/\f w=decide (m=ns):=by
 have lr:=r.length
 have lp:=rr.length
 rw[bl1]at lp
 refine⟨λw=>decide (∃v',aT v' w/\aE X.K (λ_=>True) H v' (.tup (intz ns))),λj w hw=>?_⟩
 have hj:=(bl7.mp hw).1
 have h1:j<us.length:=by omega
 obtain⟨w',hw',rw'⟩:=r.get (bk8 h1)
 rw[hw]at hw'
 cases hw'
 obtain⟨m',hm',rm⟩:=rr.get (bk8 h1)
 rw[bm7]at hm'
 cases hm:rs[j]? with
 |none=>rw[hm]at hm';cases hm'
 |some m=>
  rw[hm]at hm'
  cases hm'
  have e2:(decide (∃v',aT v' w/\aE X.K (λ_=>True) H v' (.tup (intz ns))))=decide (m=ns):=by
   have:(∃v',aT v' w/\aE X.K (λ_=>True) H v' (.tup (intz ns)))↔m=ns:=by
    refine⟨λ⟨v',h1',h2'⟩=>?_,λe=>⟨_,rw',by rw[<- e];exact rm⟩⟩
    obtain⟨p1,w1,e1,_,_⟩:=rm.sqT
    obtain⟨p2,w2,e2,_,_⟩:=h2'.sqT
    rw[e1]at rw' rm
    rw[e2]at h1' h2'
    cases rw'
    cases h1'
    exact aa0 rm h2'
   exact decide_eq_decide.mpr this
  refine⟨m,rfl,?_,e2⟩
  show SeqAt.EqAt A s w v (decide _)
  rw[e2]
  have:=xP I 2 (A:=A) hu rm rn rw' rx (by exact sA 1 m ns)
  rw[rZ 1]at this
  exact this
def aa9 (K:ac):R2:=λx y H Q=>∃p us ns,∃rs:ae,y = .ref p/\H p=some (.lst us)/\aE K (λ_=>True) H x (.tup (intz ns))/\Reps K (λ_=>True) H us (rs.map λr=>PV.tup (intz r))/\Q (.bl (!decide (ns∈rs))) H
theorem aT0 (hu:X.A.units+3<cLine):cG X (compareOp .NotIn) (aa9 X.K):=by
 intro pins s σ H x y v u Q I rx ry h
 obtain⟨p,us,ns,rs,rfl,hp,rn,rr,q⟩:=h
 cases ry
 obtain⟨its,r,pl,hz⟩:=I.list (aM.of (K:=X.K) hp)
 have lr:=r.length
 have lp:=rr.length
 rw[bl1]at lp
 obtain⟨f,key⟩:=aS9 (A:=X.A.in1) (by show X.A.units+1+2<cLine;omega) I rx r rn rr
 refine SeqAt.notIn_listAt f pl.isList (λw hw=>?_) ⟨.bl _,H,I,rfl,?_⟩
 ·have hw:w∈its:=by simpa using hw
  obtain⟨j,hj⟩:=bw7 hw
  obtain⟨m,_,h1,h2⟩:=key j w hj
  exact h1
 ·have:its.toArray.any f=decide (ns∈rs):=by
   rw[show its.toArray.any f=its.any f by simp,bq0,List.any_eq_true,bm2]
   refine⟨λ⟨w,hw,e⟩=>?_,λh=>?_⟩
   ·obtain⟨j,hj⟩:=bw7 hw
    obtain⟨m,hm,_,h2⟩:=key j w hj
    rw[h2,bm2]at e
    rw[<- e];exact bt0 hm
   ·obtain⟨j,hj⟩:=bw7 h
    have hl:=(bl7.mp hj).1
    obtain⟨m,hm,_,h2⟩:=key j its[j] (bk8 (by omega))
    rw[hj]at hm
    cases hm
    exact⟨its[j]'(by omega),bu3 _,by rw[h2];exact bn0 rfl⟩
  rw[this]
  exact q
def zC:PV->Tg->PV->Tg->PK->Prop:=λx _ y _ Q=>∃ns,∃rs:ae,x = .tup (intz ns)/\y = .lst (rs.map λr=>PV.tup (intz r))/\Q (.bl (!decide (ns∈rs))) .fr
theorem aT1:eC X zC (aa9 X.K):=by
 rintro W Hs H u v x y g g' Q Q' s n r1 r2 ⟨ns,rs,rfl,rfl,q⟩ k
 obtain⟨p,us,rfl,_,h,r⟩:=r2.sqL
 exact⟨p,us,ns,rs,rfl,h,r1.same (aB.refl _) (λ_ _=>trivial),r.same (aB.refl _) (λ_ _=>trivial),k _ _ _ .fr (aB.refl _) (.bl _) q⟩
theorem aT2 (hu:X.A.units+3<cLine)(ha:QE X a ta)(hb:QE X b tb)(hm:behindInMarks .NotIn b=false:=by rfl):QT X (.Compare a [.NotIn] [b] pos) (aZ (q2 zC ta tb)):=j6 (aT0 hu) aT1 ha hb hm
end
section
variable {X:Cx}{a b e:Expr}{ta tb te:aH}{tr:bT}{pos:Pos}{σ:St}{H:Hp}{Q':VK}{es:List Expr}
def cW (neg:Bool):PV->Tg->PV->Tg->PK->Prop:=λx _ y _ Q=>∃i j:Str,x = .str i/\y = .str j/\Q (.bl (if neg=true then !decide (i=j) else decide (i=j))) .fr
theorem aT3 (i j:Str):decide (V.str i=V.str j)=decide (i=j):=by
 rw[bq0,bm2,bm2];exact⟨λz=>V.str.inj z,λz=>congrArg V.str z⟩
theorem ab0:eC X (cW false) v3:=by
 rintro W Hs H u v x y g g' Q Q' s n r1 r2 ⟨i,j,rfl,rfl,q⟩ k
 cases r1;cases r2
 exact⟨rfl,by rw[aT3];exact k _ _ _ _ (aB.refl _) (.bl _) q⟩
theorem tL (ha:QE X a ta)(hb:QE X b tb):QE X (.Compare a [.Eq] [b] pos) (q2 (cW false) ta tb):=oQ v7 ab0 ha hb (fG _)
theorem i8 (ha:QE X a ta)(hb:QE X b tb):QT X (.Compare a [.Eq] [b] pos) (aZ (q2 (cW false) ta tb)):=j6 v7 ab0 ha hb (fG _)
end
end PP
namespace Core
open PySem L2 PP
def lR (h:Int):af->af
 |[]=>[h]
 |a::r=>if h<=a then h::a::r else a::lR h r
theorem zD (h:Int):∀A:af,(lR h A).Perm (A++[h])
 |[]=>List.Perm.refl _
 |a::r=>by
  show (if h<=a then h::a::r else a::lR h r).Perm _
  split
  ·exact by2 (l₁:=[h]) (l₂:=a::r)
  ·exact (zD h r).cons a
theorem ab1 (h:Int):∀{A:af},A.Pairwise (· <= ·)->(lR h A).Pairwise (· <= ·)
 |[],_=>bn3 _ _
 |a::r,p=>by
  have p':=List.pairwise_cons.mp p
  show (if h<=a then h::a::r else a::lR h r).Pairwise _
  split
  ·rename_i z
   exact List.pairwise_cons.mpr ⟨λx hx=>by
    rcases bl2.mp hx with rfl|hx
    ·exact z
    ·exact Int.le_trans z (p'.1 x hx),p⟩
  ·rename_i z
   exact List.pairwise_cons.mpr ⟨λx hx=>by
    rcases bn9.mp ((zD h r).mem_iff.mp hx) with hx|hx
    ·exact p'.1 x hx
    ·rw[bl3]at hx;omega,ab1 h p'.2⟩
theorem aT4 {motive:af->Prop}(z:motive [])(sn:∀L x,motive L->motive (L++[x])):∀L,motive L:=λL=>by
 have:∀R:af,motive R.reverse:=by
  intro R
  induction R with
  |nil=>exact z
  |cons x r ih=>rw[List.reverse_cons];exact sn _ _ ih
 have:=this L.reverse
 rwa [List.reverse_reverse]at this
def jG (O:af):af:=O.foldl (λA h=>lR h A) []
theorem aT5 (O:af)(h:Int):jG (O++[h])=lR h (jG O):=by unfold jG;rw[List.foldl_append];rfl
theorem lS:∀O:af,(jG O).Perm O/\(jG O).Pairwise (· <= ·):=by
 refine aT4 ⟨List.Perm.refl _,.nil⟩ ?_
 rintro O h ⟨i1,i2⟩
 rw[aT5]
 exact⟨(zD h _).trans (i1.append_right [h]),ab1 h i2⟩
theorem ab2 {O ms:af}(p:ms.Perm O)(s:ms.Pairwise (· <= ·)):ms=jG O:=aM1 (p.trans (lS O).1.symm) s (lS O).2
theorem aT6 (O:af):(jG O).length=O.length:=(lS O).1.length_eq
def Ord (ws:af)(ls:aa)(ns R:af):Prop:=aa1 ws ls ns R=true/\pM ws ls (ns++R)
end Core
namespace L2
open PySem PySem.Spec PyProof.Rows PP
section
variable {prog:Program}{w:World}{A:Around}{R:Result→Shared→Prop}{I S:Addr}{n:Nat}{l:Addr}{its:Array Value}{s0:Shared}{bt:Nat→Nat→Bool}
abbrev at_ (s:Shared)(h:Heap)(k:Nat):Shared:={ s with heap:=h,toks:=k }
abbrev aT7 (g h:Heap):Prop:=∀b o,g.get? b=some o->h.get? b=some o
def cR (prog:Program)(w:World)(A:Around)(s0:Shared)(its:Array Value)(bt:Nat->Nat->Bool):Prop:=
 ∀(i j:Nat) (v u:Value) (h:Heap) (k:Nat) (Q E:Value->Shared->Prop),its[i]? = some v->its[j]? = some u->aT7 s0.heap h->Q (.bool (bt i j)) (at_ s0 h k)->wpAny (model prog w) A (richCompare .Lt v u) Q E (at_ s0 h k)
end
end L2
namespace Core
open PySem L2 PP
def FB (L:ae)(f:af->Int)(r:af):Prop:=∃i,L[i]? = some r/\(∀(j:Nat) (s:af),j<i->L[j]? = some s->f s<f r)/\∀s∈L,f s<=f r
end Core
namespace L2
open PySem PySem.Spec PyProof.Rows
section
variable {prog:Program}{w:World}{A:Around}{E:Value→Shared→Prop}{s:Shared}{l:Addr}{xs:Array (Int×Tok)}
theorem ab3 {Q:Value->Shared->Prop}(hl:s.heap.IsTuple l (intItems xs))(h:∀h2:Heap,(h2.IsTupleIter s.heap.objs.size l 0/\h2.IsTuple l (intItems xs))->(∀b∈[s.heap.objs.size,l],b<h2.objs.size)->l≠s.heap.objs.size->(∀b o,s.heap.get? b=some o->b∉[s.heap.objs.size]/\h2.get? b=some o)->Q (.ref s.heap.objs.size) { s with heap:=h2 }):wpAny (model prog w) A (pyIter (.ref l)) Q E s:=by
 have lb:l<s.heap.objs.size:=by obtain⟨_,e,_⟩:=hl;exact bl8 e
 refine bv7 hl (h _ ⟨⟨_,bm0 _ rfl,rfl,rfl⟩,hl.push _⟩ (λb hb=>?_) (bn6 lb) λb o e=>⟨λhm=>?_,bk6 _ e⟩)
 ·rw[bs2]
  rcases bl2.mp hb with rfl|hb
  ·exact Nat.lt_succ_self _
  ·rw[bl3.mp hb];exact Nat.lt_succ_of_lt lb
 ·rw[bl3.mp hm]at e
  exact absurd (bl8 e) (br2 _)
theorem aT8 {Q:Value->Shared->Prop}(hh:A.handled=none)(hl:s.heap.IsTuple l (intItems xs))(hne:0<xs.size)(h:∀v h' tk,(intItems xs)[argBest (λi j=>decide (numAt xs i>numAt xs j)) (xs.size-1)]? = some v->(∀b o,s.heap.get? b=some o->h'.get? b=some o)->Q v { s with heap:=h',toks:=tk }):wpAny (model prog w) A (call (.builtin "max") [.ref l]) Q E s:=by
 refine call_max_walk (ab3 hl λh2 st hfp ne old=>?_)
 exact⟨_,_,_,_,_,_,_,rfl,Walks.tuple (A:=A.in1) hh _ l ne (intItems xs),st,hfp,by simpa[intItems] using hne,CmpOf.ints_gt (numAt xs) (λ_ _=>intItems_at),λv h' tk hP hk=>h v h' tk (by simpa[intItems] using hP) λb o e=>hk b o (old b o e).1 (old b o e).2⟩
theorem aT9 {Q:Value->Shared->Prop}(hh:A.handled=none)(hl:s.heap.IsTuple l (intItems xs))(hne:0<xs.size)(h:∀v h' tk,(intItems xs)[argBest (λi j=>decide (numAt xs i<numAt xs j)) (xs.size-1)]? = some v->(∀b o,s.heap.get? b=some o->h'.get? b=some o)->Q v { s with heap:=h',toks:=tk }):wpAny (model prog w) A (call (.builtin "min") [.ref l]) Q E s:=by
 refine call_min_walk (ab3 hl λh2 st hfp ne old=>?_)
 exact⟨_,_,_,_,_,_,_,rfl,Walks.tuple (A:=A.in1) hh _ l ne (intItems xs),st,hfp,by simpa[intItems] using hne,CmpOf.ints_lt (numAt xs) (λ_ _=>intItems_at),λv h' tk hP hk=>h v h' tk (by simpa[intItems] using hP) λb o e=>hk b o (old b o e).1 (old b o e).2⟩
end
section
variable {X:Cx}
theorem aU0 (hc:X.calm=true):cH X (.builtin "max") (λxs H Q=>∃(a:Addr) (ns:af),xs = [.ref a]/\aL X.K H a (ns.map V.int)/\ns≠[]/\∀M:Int,M∈ns->(∀x∈ns,x<=M)->Q (.int M) H):=by
 intro pins s σ H xs us Q I r h
 obtain⟨a,ns,rfl,hq,ne,q⟩:=h
 obtain⟨u,rfl,ru⟩:=fM r
 cases ru
 obtain⟨its,rv,p,hz⟩:=I.tuple hq
 have ia:=jQ rv
 obtain⟨ys,ey⟩:=ia.allInts.items
 have en:ns=ys.toList.map (·.1):=by
  have e1:=nums_intItems ys
  rw[<- ey]at e1
  exact ia.numsOf.symm.trans e1
 have pos:0<ys.size:=Nat.pos_of_ne_zero λz=>ne (by rw[en,bw0 z];rfl)
 have hl:s.heap.IsTuple a (intItems ys):=by rw[<- ey];exact p
 refine aT8 (I.ok.hd hc) hl pos λv h' tk ev old=>?_
 obtain⟨t,rfl⟩:=intItems_at ev
 have best:=argBest_gt (numAt ys) (ys.size-1)
 have mem:∀x:Int,x∈ns↔∃j,j<ys.size/\numAt ys j=x:=λx=>by
  rw[en]
  constructor
  ·intro z
   obtain⟨j,hj,e⟩:=mem_getD z
   exact⟨j,by simpa using hj,by rw[numAt_eq];exact e⟩
  ·rintro⟨j,hj,rfl⟩
   rw[numAt_eq]
   exact getD_mem (by simpa using hj)
 refine⟨.int _,H,I.kept (t':=tk) (h':=h') old,⟨t,rfl⟩,q _ ?_ λx hx=>?_⟩
 ·exact (mem _).mpr ⟨_,by have:=best.1;omega,rfl⟩
 ·obtain⟨j,hj,rfl⟩:=(mem x).mp hx
  exact best.2 j (by omega)
theorem aU1 (hc:X.calm=true):cH X (.builtin "min") (λxs H Q=>∃(a:Addr) (ns:af),xs = [.ref a]/\aL X.K H a (ns.map V.int)/\ns≠[]/\∀M:Int,M∈ns->(∀x∈ns,M<=x)->Q (.int M) H):=by
 intro pins s σ H xs us Q I r h
 obtain⟨a,ns,rfl,hq,ne,q⟩:=h
 obtain⟨u,rfl,ru⟩:=fM r
 cases ru
 obtain⟨its,rv,p,hz⟩:=I.tuple hq
 have ia:=jQ rv
 obtain⟨ys,ey⟩:=ia.allInts.items
 have en:ns=ys.toList.map (·.1):=by
  have e1:=nums_intItems ys
  rw[<- ey]at e1
  exact ia.numsOf.symm.trans e1
 have pos:0<ys.size:=Nat.pos_of_ne_zero λz=>ne (by rw[en,bw0 z];rfl)
 have hl:s.heap.IsTuple a (intItems ys):=by rw[<- ey];exact p
 refine aT9 (I.ok.hd hc) hl pos λv h' tk ev old=>?_
 obtain⟨t,rfl⟩:=intItems_at ev
 have best:=argBest_lt (numAt ys) (ys.size-1)
 have mem:∀x:Int,x∈ns↔∃j,j<ys.size/\numAt ys j=x:=λx=>by
  rw[en]
  constructor
  ·intro z
   obtain⟨j,hj,e⟩:=mem_getD z
   exact⟨j,by simpa using hj,by rw[numAt_eq];exact e⟩
  ·rintro⟨j,hj,rfl⟩
   rw[numAt_eq]
   exact getD_mem (by simpa using hj)
 refine⟨.int _,H,I.kept (t':=tk) (h':=h') old,⟨t,rfl⟩,q _ ?_ λx hx=>?_⟩
 ·exact (mem _).mpr ⟨_,by have:=best.1;omega,rfl⟩
 ·obtain⟨j,hj,rfl⟩:=(mem x).mp hx
  exact best.2 j (by omega)
end
end L2
namespace PP
open PySem L2
section
variable {X:Cx}{a b e:Expr}{ta tb:aH}{tr:bT}{pos p2:Pos}
def ab4:List PV->(PV->Prop)->Prop:=λxs Q=>∃ns:af,xs = [.tup (intz ns)]/\ns≠[]/\∀M:Int,M∈ns->(∀x∈ns,x<=M)->Q (.int M)
def ab5:List PV->(PV->Prop)->Prop:=λxs Q=>∃ns:af,xs = [.tup (intz ns)]/\ns≠[]/\∀M:Int,M∈ns->(∀x∈ns,M<=x)->Q (.int M)
theorem aU2:dM X ab4 (λxs H Q=>∃(a:Addr) (ns:af),xs = [.ref a]/\aL X.K H a (ns.map V.int)/\ns≠[]/\∀M:Int,M∈ns->(∀x∈ns,x<=M)->Q (.int M) H):=by
 rintro H vs xs Q Q' r ⟨ns,rfl,ne,q⟩ k
 obtain⟨v,rfl,r1⟩:=r.one
 obtain⟨a,us,rfl,h,r2⟩:=r1.sqT
 rw[r2.ofInts]at h
 exact⟨a,ns,rfl,aL.of h,ne,λM m1 m2=>k _ _ _ (aB.refl _) (.int M) (q M m1 m2)⟩
theorem aU3:dM X ab5 (λxs H Q=>∃(a:Addr) (ns:af),xs = [.ref a]/\aL X.K H a (ns.map V.int)/\ns≠[]/\∀M:Int,M∈ns->(∀x∈ns,M<=x)->Q (.int M) H):=by
 rintro H vs xs Q Q' r ⟨ns,rfl,ne,q⟩ k
 obtain⟨v,rfl,r1⟩:=r.one
 obtain⟨a,us,rfl,h,r2⟩:=r1.sqT
 rw[r2.ofInts]at h
 exact⟨a,ns,rfl,aL.of h,ne,λM m1 m2=>k _ _ _ (aB.refl _) (.int M) (q M m1 m2)⟩
end
end PP
namespace Core
open PySem L2 PP
def inL (S:af)(l:Int×Int):Bool:=decide (l.1∈S)&&decide (l.2∈S)
section
variable {ws:af}{ls:aa}{ns R:af}{h:Int}
noncomputable def gV (ws:af)(ls:aa)(ns:af):af:=b8 ws ls ns (Classical.choose (tK ws ls ns))
theorem ab6:bP ws ls ns (Classical.choose (tK ws ls ns)):=Classical.choose_spec (tK ws ls ns)
theorem aU4 {m:Nat}(en:bP ws ls ns m):b8 ws ls ns m=gV ws ls ns:=by unfold gV;rw[aJ8 en ab6]
theorem aU5:pM ws ls (gV ws ls ns):=aR8 ab6
theorem aU6 {T:af}(sh:pM ws ls T)(sub:∀x∈ns,x∈T):∀x∈gV ws ls ns,x∈T:=Y6 sh sub _
theorem aU7 (hs:cL ws.length ns=true):∀x∈ns,x∈gV ws ls ns:=λx hx=>by
 unfold gV
 generalize Classical.choose (tK ws ls ns)=m
 induction m with
 |zero=>exact hx
 |succ m ih=>exact bt9 _ ih
end
end Core
namespace L2
open PySem PySem.Spec PyProof.Rows
def KeysOf (H:Hp):HO->List V->Prop
 |.dK kvs,ys=>ys=kvs.map λp=>kV p.1
 |.dT kvs,ys=>Paired (ax3 H) ys (kvs.map (·.1))
 |_,_=>False
end L2
namespace Core
open PySem L2 PP
theorem tN (a b:aa):bN (a++b)=bN a++bN b:=bq1 ..
def zE (r c:Int)(l:Int×Int):Bool:=decide (0<=l.1)&&(decide (l.1<r)&&(decide (0<=l.2)&&decide (l.2<c)))
def aU8 (l:Int×Int):aa:=[(l.1-1,l.2),(l.1,l.2-1),(l.1,l.2+1),(l.1+1,l.2)]
def zF (r c:Int)(l:Int×Int):aa:=(aU8 l).filter (zE r c)
section
variable {ls:aa}{n:Nat}{B:af}
def ins (ls:aa)(S:af)(h:Int):Nat:=((bS ls h).filter λx=>decide (x∈S)).length
end
end Core
namespace PP
open PySem L2 PyProof.Rows
section
variable {X:Cx}{a b e:Expr}{ta tb te:aH}{tr:bT}{pos p2:Pos}
theorem dM.or {R1 R2:List PV->(PV->Prop)->Prop}{r1 r2:List V->Hp->(V->Hp->Prop)->Prop}(h1:dM X R1 r1)(h2:dM X R2 r2):dM X (λxs Q=>R1 xs Q∨R2 xs Q) (λxs H Q=>r1 xs H Q∨r2 xs H Q):=by
 rintro H vs xs Q Q' r (h|h) k
 ·exact .inl (h1 H vs xs Q Q' r h k)
 ·exact .inr (h2 H vs xs Q Q' r h k)
def ab7:List PV->(PV->Prop)->Prop:=λxs Q=>aa7 xs Q∨ab5 xs Q
def ab8:List PV->(PV->Prop)->Prop:=λxs Q=>aa8 xs Q∨ab4 xs Q
theorem aU9 (B:Bt X.mg)(hc:X.calm=true)(ha:QA X [e] tr)(hg:Gl X "min":=by rfl)(he:starEach [e] X.env=(false,eval e X.env)::starEach [] X.env:=by rfl)(hpl:(backTo pos (starEach [] X.env)).any (·.1)=false:=by rfl):QE X (.Call (.Name "min" p2) [e] [] pos) (aO ab7 tr):=
 j7 ((aS3 hc).or (aU1 hc)) (aS4.or aU3) hg B.min PyProof.Rows.boot_min ha (he:=he) (hpl:=hpl)
theorem aV0 (B:Bt X.mg)(hc:X.calm=true)(ha:QA X [e] tr)(hg:Gl X "max":=by rfl)(he:starEach [e] X.env=(false,eval e X.env)::starEach [] X.env:=by rfl)(hpl:(backTo pos (starEach [] X.env)).any (·.1)=false:=by rfl):QE X (.Call (.Name "max" p2) [e] [] pos) (aO ab8 tr):=
 j7 ((aS5 hc).or (aU0 hc)) (aS6.or aU2) hg B.max PyProof.Rows.boot_max ha (he:=he) (hpl:=hpl)
end
end PP
namespace L2
open PySem PySem.Spec PyProof.Rows SO
abbrev kk (l:Int×Int):List aD:=[Sum.inl l.1,Sum.inl l.2]
end L2
namespace Core
open PySem L2 PP
def fY (K:aa):List (List aD×PV):=K.map λl=>(fX l,PV.bl true)
theorem aV1 {a b:Int×Int}(h:fX a=fX b):a=b:=by
 unfold fX at h
 injection h with h1 h2
 injection h2 with h2
 exact Prod.ext (Sum.inl.inj h1) (Sum.inl.inj h2)
theorem aV2 (K:aa):(fY K).length=K.length:=by unfold fY;rw[bl1]
theorem ab9 (K:aa)(x:Int×Int):(bX (fY K) (fX x)).isSome=decide (x∈K):=by
 rw[<- pE,bq0,List.any_eq_true,bm2]
 unfold fY
 refine⟨λ⟨p,hp,e⟩=>?_,λh=>⟨_,bo9.mpr ⟨x,h,rfl⟩,bn0 rfl⟩⟩
 obtain⟨y,hy,rfl⟩:=bo9.mp hp
 rw[<- aV1 (bu7 e:fX y=fX x)];exact hy
theorem aV3 {K:aa}{x:Int×Int}(h:x∉K):cZ (fY K) (fX x) (.bl true)=fY (K++[x]):=by
 have:((fY K).any λkv=>decide (kv.1=fX x))=false:=by
  rw[pE,ab9,bm3 h]
 unfold cZ
 rw[this]
 unfold fY
 rw[bq1];rfl
inductive pP (r c:Int)(S:aa):Int×Int->Prop
 |seed {x:Int×Int}:x∈S->pP r c S x
 |kin {x a b:Int×Int}:zE r c x=true->a∈zF r c x->b∈zF r c x->a≠b->pP r c S a->pP r c S b->pP r c S x
def nbC (r c:Int)(P:aa)(x:Int×Int):Nat:=(P.filter λp=>decide (x∈zF r c p)).length
structure Wk (r c:Int)(S K P:aa):Prop where
 nd:K.Nodup
 ndP:P.Nodup
 sub:∀x∈P,x∈K
 brn:∀x∈K,pP r c S x
 sd:∀x∈S,x∈K
 bd:∀x∈K,zE r c x=true
 low:∀x,x∉K->nbC r c P x<2
theorem aV4 {α:Type}{l:List α}{i:Nat}{x:α}(nd:l.Nodup)(h:l[i]? = some x):x∉l.take i:=λz=>by
 have:(l.take (i+1)).Nodup:=nd.sublist (List.take_sublist _ _)
 rw[bu8,h]at this
 exact (bt6.mp this).2.2 x z x (by simp) rfl
def tO:cK:=λxs Q=>∃(x:PV) (ls:aa),xs = [x]/\(x = .tup (bN ls)∨x = .lst (bN ls))/\ls.Nodup/\ls.length<=4096/\Q (.dT (fY ls))
def ac0:aS:=(aR (iX 1 (qC (.dT [])))
 (aR (gC (iF (a5 0)) (dO 2)
  (xI 1 (a5 2) (qC (.bl true))))
 (mC 1)))
theorem aV5:fB ac0 ["hearths","inside","hearth"] tO:=by
 rintro xs Q ⟨x,ls,rfl,hx,nd,hl,q⟩
 have sx:iY x=some (bN ls):=by rcases hx with rfl|rfl<;>rfl
 have tg:(Slot.sh (flat x) x).tag = .rd->flat x=true:=by cases flat x<;>intro z<;>cases z
 refine⟨rfl,rfl,_,rfl,bN ls,sx,tg,λi ρ=>∃y,ρ = [some (.sh (flat x) x),some (.own (.dT (fY (ls.take i)))),y],⟨none,rfl⟩,?_,?_⟩
 ·rintro i y ρ hy ⟨y0,rfl⟩
  obtain⟨l,rfl,h⟩:=X2 hy
  have tk:cZ (fY (ls.take i)) (fX l) (.bl true)=fY (ls.take (i+1)):=by rw[aV3 (aV4 nd h),bu8,h];rfl
  refine⟨_,rfl,_,rfl,fX l,rfl,trivial,by rw[aV2,br6];omega,?_⟩
  rw[tk]
  exact⟨_,rfl⟩
 ·rintro ρ ⟨y,rfl⟩
  rw[pJ,bq9]
  exact⟨_,rfl,trivial,q⟩
def pQ:cK:=λxs Q=>∃(ns:af) (k:Int),xs = [.scr ns,.int k]/\ns.length<=63/\0<=k/\k<=1000/\∀z:Int,Q (.int z)
def ac1:aS:=(aR (bI (aZ (l9 (a5 1) (aO jU (a9 (a5 0) aC)))) (bC (aW (a5 0) (a5 1))) bH)
 (aR (bE 2 (cT (oN (gD (gD (cT (aO jB (a9 (a5 0) (a9 (cT (a5 1) (aO rV (a9 (qC (.int 1)) (a9 (aO jU (a9 (a5 0) aC)) aC)))) aC))) (qC (.int 1000000007))) (oN (qC (.int 977)) (a5 1))) (qC (.int 1))) (qC (.int 48271))) (qC (.int 2147483647))))
 (bC (eN (cT (oN (a5 2) (a5 2)) (qC (.int 2147483647))) (qC (.int 8))))))
theorem aV6:fB ac1 ["script","k","stir"] pQ:=by
 rintro xs Q ⟨ns,k,rfl,hl,k0,k1,q⟩
 refine⟨_,rfl,_,rfl,_,_,rfl,rfl,_,_,rfl,rfl,_,rfl,?_⟩
 show if decide (k<(ns.length:Int))=true then _ else _
 by_cases h:k<(ns.length:Int)
 ·rw[bn0 h]
  have hk:L2.atI (intz ns) k=some (.int (ns.getD k.toNat 0)):=pF k0 h
  exact b7 ⟨_,rfl,_,rfl,_,_,_,rfl,rfl,hk,trivial,q _⟩
 ·rw[bm3 h]
  refine aP ?_
  have mx:(0:Int)<(if (ns.length:Int)>1 then (ns.length:Int) else 1):=by split<;>omega
  refine⟨_,rfl,_,rfl,_,rfl,_,_,rfl,rfl,_,_,rfl,_,_,rfl,rfl,mx,_,ns,_,rfl,.inl rfl,bv3 _ (Int.ne_of_gt mx),?_⟩
  refine⟨_,_,rfl,rfl,(by show (0:Int)<1000000007;decide),_,rfl,_,_,rfl,rfl,.inl ⟨by decide,by decide⟩,_,_,rfl,rfl,_,_,rfl,rfl,_,_,rfl,rfl,.inr ⟨by decide,by decide⟩,_,_,rfl,rfl,(by show (0:Int)<2147483647;decide),trivial,?_⟩
  dsimp only
  generalize hv:(ns.getD (k%(if (ns.length:Int)>1 then (ns.length:Int) else 1)).toNat 0%1000000007+977*k+1)*48271%2147483647=v
  have v0:0<=v:=by rw[<- hv];exact bv3 _ (by decide)
  have v1:v<2147483647:=by rw[<- hv];exact by1 _ (by decide)
  exact⟨_,rfl,_,rfl,_,_,rfl,rfl,.inl ⟨by omega,by omega⟩,_,_,rfl,rfl,(by show (0:Int)<2147483647;decide),_,_,rfl,rfl,⟨by decide,by decide⟩,trivial,q _⟩
theorem aV7 {x:Int×Int}{ls:aa}:decide (two x∈ls.map two)=decide (x∈ls):=by
 rw[bq0,bm2,bm2]
 refine⟨λh=>?_,λh=>bo9.mpr ⟨x,h,rfl⟩⟩
 obtain⟨y,hy,e⟩:=bo9.mp h
 unfold two at e
 injection e with e1 e2
 injection e2 with e2
 rw[<- Prod.ext e1 e2];exact hy
end Core
namespace L2
open PySem PySem.Spec PyProof.Rows SO
def pR (h:Heap)(ys:ae)(v:Value):Prop:=∃ns∈ys,ns≠[]/\nG h v ns
theorem aV8 {prog:Program}{w:World}{A:Around}{E:Value->Shared->Prop}{s:Shared}(ys:ae):SO.cR prog w A E s (tuples' true) (λx=>pR s.heap ys x.1) (nH s.heap ys):=by
 rintro x y ⟨ns,m1,_,z⟩ ⟨ms,m2,_,z'⟩ st Q hk hq
 unfold nH at hq
 rw[z.ints,z'.ints,<- aa5 m1 m2]at hq
 obtain⟨b,ob,us,n,e1,e2,e3,e4,e5⟩:=z.at_
 obtain⟨b',ob',us',n',e1',e2',e3',e4',e5'⟩:=z'.at_
 rw[lt'_eq]
 refine bl5 (wpS_get ?_)
 rw[hk,e1,e1']
 refine bl5 (wpS_lift (wpAny_attempt (PySem.W.kat_lt e2 e4 e2' e4' ?_)))
 have:=M3 (prog:=prog) (w:=w) (A:=A) (s:=s) (Q:=λa s'=>s'=s/\wpS (model prog w) A E s (pure (some a)) Q st) 0 e5 e5' ⟨rfl,bm4 hq⟩
 simpa using this
theorem aV9 {h:Heap}{ys:ae}:∀{vs:List Value},(∀v∈vs,pR h ys v)->∃fs:List Value,PySem.W.KatTups h vs fs/\fs.length=vs.length/\∀v∈fs,∃i t,v=Value.int i t:=by
 intro vs
 induction vs with
 |nil=>intro _;exact⟨[],PySem.W.KatTups.nil,rfl,λ_ z=>nomatch z⟩
 |cons v vs ih=>
  intro hh
  obtain⟨fs,t1,t2,t3⟩:=ih λy hy=>hh y (bm9 _ hy)
  obtain⟨ns,_,ne,z⟩:=hh v bm8
  obtain⟨b,ob,us,n,rfl,e2,e3,e4,e5⟩:=z.at_
  cases e5 with
  |nil=>exact absurd rfl ne
  |cons p t e6=>exact⟨Value.int p t::fs,PySem.W.KatTups.cons e2 e3 e4 (by simp) t1,by simp[t2],λv hv=>(bl2.mp hv).elim (λz=>⟨p,t,z⟩) (t3 v)⟩
theorem aW0 {M:Model}{A:Around}{E:Value->Shared->Prop}{s:Shared}{ys:ae}{vs:List Value}{Q:SortKind->Shared->Prop}(hh:∀v∈vs,pR s.heap ys v)(h2:2<=vs.length)(hQ:Q (tuples' true) s):wpAny M A (keyKind' vs.toArray) Q E s:=by
 obtain⟨fs,t1,t2,t3⟩:=aV9 hh
 refine PySem.W.kat_kind (T:=.type "int") t1 (by omega) (λv hv=>?_) (by decide) ?_
 ·obtain⟨i,t,rfl⟩:=t3 v hv
  exact PySem.W.Looks.now
 ·have eT:(Value.type "int" != Value.type "tuple")=true:=by decide
  rw[eT];exact hQ
theorem aW1 {h:Heap}{ys:ae}{u v:Value}{p q:af}(z:nG h u p)(z':nG h v q)(hp:p∈ys)(hq:q∈ys)(le:nH h ys (u,u)<=nH h ys (v,v)):HT.cO q p=false:=by
 unfold nH at le
 rw[z.ints,z'.ints]at le
 rw[aa5 hq hp]
 exact bm3 (by omega)
end L2
namespace PP
open PySem L2
section
variable {X:Cx}{e:Expr}{tr:bT}{pos p2:Pos}
abbrev pS (rs:ae):List PV:=rs.map λr=>PV.tup (intz r)
end
end PP
namespace Core
open PySem L2 PP
structure Bx where
 t:Int
 l:Int
 b:Int
 r:Int
deriving DecidableEq
def Bx.k (x:Bx):af:=[x.t,x.l,x.b,x.r]
def okX (x:Bx):Prop:=x.t<=x.b/\x.l<=x.r
def inX (x:Bx)(p:Int×Int):Prop:=x.t<=p.1/\p.1<=x.b/\x.l<=p.2/\p.2<=x.r
def ac2 (x a:Int×Int):Prop:=(a.1=x.1/\(a.2=x.2-1∨a.2=x.2+1))∨(a.2=x.2/\(a.1=x.1-1∨a.1=x.1+1))
def Clo (B:Bx)(U:Int×Int->Prop):Prop:=∀x a b,inX B x->ac2 x a->ac2 x b->a≠b->U a->U b->U x
section
variable {B:Bx}{U:Int×Int→Prop}
variable {t l b r:Int}
section
variable (cl:Clo B U){p1 p2:Int}(u:U (p1, p2))(ip:inX B (p1, p2))
include cl u ip
end
end
abbrev bxP (x:Bx):PV:=.tup (intz x.k)
section
variable {ns:af}{a r c z t l:Int}{Q:PV→Prop}(q:∀x:Bx, Q (bxP x))
include q
end
section
variable {ls:aa}{n:Nat}{U:af}{v:Int}
noncomputable def mu (ls:aa)(U:af):Int:=((ls.filter (inL U)).length:Int)-(U.length:Int)+((aR7 ls U).length:Int)
end
abbrev Wys:=List (Int×af)
section
variable {ls:aa}{l:Int×Int}{n:Nat}{S U:af}{h x y:Int}
theorem aW2 (hS:cL n S=true):S.Nodup:=(lM (jA hS).1).imp λh=>Int.ne_of_lt h
end
abbrev Prs:=List (Int×Option Int)
abbrev zG:=List (Int×af)
def ksB (W:zG):af:=W.map (·.1)
section
variable {ws:af}{n:Nat}{ls:aa}{P:Prs}{W T:zG}{D B:af}{h x y c:Int}{e:Option Int}
structure oA (P:Prs)(W:zG)(D:af)(x:Int)(B:af):Prop where
 self:x∈B
 nd:B.Nodup
 up:∀y∈B,y=x∨(y∈ksB W/\∃e,(y,some e)∈P/\e∈B)
 dn:∀y∈B,∀c,(c,some y)∈P->c∈ksB W->c∈B
 inn:∀y∈B,y∈D
theorem aW3 (nd:B.Nodup)(so:B.Pairwise (· <= ·))(inn:∀x∈B,x∈rng n):cL n B=true:=by
 have up:B.Pairwise (·<·):=(List.Pairwise.and so nd).imp λz=>Int.lt_iff_le_and_ne.mpr ⟨z.1,z.2⟩
 unfold cL
 rw[bn4,bt2]
 refine⟨yF up,λb hb=>?_⟩
 obtain⟨x,hx,rfl⟩:=bo9.mp hb
 have:=mY.mp (inn x hx)
 show inB n x=true
 unfold inB
 simp only[bn4,bm2]
 omega
end
abbrev Led:=aa
theorem aW4 {i:Nat}{a b:Int}{g:Bool}{ρ:b6}{Q:b6->Prop}(q:Q (ρ.set i (some (.sh true (.tup [.int a,.int b]))))):dO i (.tup [.int a,.int b]) g ρ Q:=by
 show Q (ρ.set i (some (.sh (g||true) (.tup [.int a,.int b]))))
 rw[Bool.or_true];exact q
end Core
namespace L2
open PySem PySem.Spec PyProof.Rows
section
variable {X:Cx}{pins:List (Addr×Obj)}{σ:St}{H H1 H':Hp}{s s1 s':Shared}{B:Heap}{a C Ch:Addr}{x:Str}{np pos hpos:Pos}{b₀:Stmt}{suite body:List Stmt}{tb:TB}{ts:TS}{D:bP}{bW:List ExceptHandler}
theorem aW5 (I:a8 X pins σ H1 s1)(fl:lK X.prog X.w X.stack H1 s1 H' B a C s')(hstk:X.stack=X.env::X.outer/\X.env.frame=some X.env.locals)(hg:Gl X x)(hm:X.mg x=some (.ref Ch))(ct:yE X.K Ch)(sub:PySem.W.subIn X.K (.ref C) (.ref Ch)=some true)(hs:dB (X.suite a) (b₀::suite) ts)(q:∀oe:Obj,oe.cls = .ref C->ts D σ (upd H' a (.frz oe (.own a))))(hd:(x==("__debug__":Str))=false) :
  wpAny (model X.prog X.w) X.A (noteFrame (.ref a) X.env) (λ_ s₂=>wpAny (model X.prog X.w) X.A (setFlight (.ref a) none) (λ_ s₃=>wpAny (model X.prog X.w) X.A (handleBy (.ref a) X.env (.ExceptHandler (some (.Name x np)) none (b₀::suite) hpos::bW)) (SP X pins D) X.xe s₃) X.xe s₂) X.xe s':=by
 obtain⟨a0,fly⟩:=fl.fly
 rw[hstk.1]at fly
 refine wpAny_looks_onW (outer:=X.outer) (L:=X.env.locals) (by rw[I.ok.frames,hstk.1]) hstk.2 fly λh4 held up4=>wpAny_landsW held λh5 fly5 up5=>?_
 obtain⟨o5,v5,e5,c5,_⟩:=fly5.first
 have I5:=U9 I fl fly5.1 (up4.trans up5) e5
 refine wpAny_handleBy_cons (codeAny_handlers_test (nT (I5.suite a) hg hm ?_ hd)) (by intro z;cases z)
 refine aJ5 I5.kIn e5 c5 ct.c1 ct.c2 ct.c3 sub ?_
 show codeAny (model X.prog X.w) (X.A.mark (some (.ref a))) (.handlers (.ref a) [.ExceptHandler none none (b₀::suite) hpos] X.env) _ _
 refine codeAny_handlers_suite (lands_againW fly5 λh6 fly6 up6=>?_)
 obtain⟨o6,v6,e6,c6,_⟩:=fly6.first
 have I6:=U9 I fl fly6.1 ((up4.trans up5).trans up6) e6
 refine bs5 (hs pins _ _ _ D (I6.suite a) (q o6 c6)) (λf s8 h8=>?_) λ_ _ z=>z.elim
 show SP X pins D f s8
 cases f with
 |next=>obtain⟨σ',H',J,q⟩:=h8;exact⟨_,_,J.unsuite I.ok,q⟩
 |brk=>obtain⟨σ',H',J,q⟩:=h8;exact⟨_,_,J.unsuite I.ok,q⟩
 |cont=>obtain⟨σ',H',J,q⟩:=h8;exact⟨_,_,J.unsuite I.ok,q⟩
 |ret u=>obtain⟨v,σ',H',J,r,q⟩:=h8;exact⟨v,_,_,J.unsuite I.ok,r,q⟩
def ac3 (K:ac)(Ch:Addr)(tb:TB)(ts:TS):TS:=λD σ H=>
 tb D (λc _ H'=>∀(a C:Addr) (oe:Obj),c = .ref C->H' a=none->oe.cls = .ref C->PySem.W.subIn K (.ref C) (.ref Ch)=some true/\ts D σ (upd H' a (.frz oe (.own a)))) σ H
theorem aW6 (hstk:X.stack=X.env::X.outer/\X.env.frame=some X.env.locals)(hb:PB X body tb)(hg:Gl X x)(hm:X.mg x=some (.ref Ch))(ct:yE X.K Ch)(hs:∀a,dB (X.suite a) (b₀::suite) ts)(hd:(x==("__debug__":Str))=false:=by decide):PS X (.Try body [.ExceptHandler (some (.Name x np)) none (b₀::suite) hpos] [] [] pos) (ac3 X.K Ch tb ts):=by
 intro pins s σ H D I h
 refine wpAny_Try_except (bs5 (hb pins s σ H D _ I h) (λfl s1 q=>?_) (λev s1 q=>?_))
 ·cases fl with
  |next=>exact wpAny_execs_nil q
  |_=>exact q
 ·obtain⟨H1,s2,I1,H',B,a,C,e1,fl,q⟩:=q
  subst e1
  obtain⟨a0,fly⟩:=fl.fly
  obtain⟨o5,_,_,c5,_⟩:=fly.first
  exact aW5 I1 fl hstk hg hm ct (q a C o5 rfl fl.fresh c5).1 (hs a) (λoe hc=>(q a C oe rfl fl.fresh hc).2) hd
end
end L2
namespace Core
open PySem L2 PP
def IsL (y:PV)(L:Led):Prop:=y = .tup (bN L)∨y = .lst (bN L)
end Core
namespace PP
open PySem L2
abbrev Cau:=Option (Int×af)
end PP
namespace L2
open PySem PySem.Spec PyProof.Rows SO
theorem aW7 {prog:Program}{w:World}{A:Around}{E:Value->Shared->Prop}{s:Shared}{l:Addr}{vs:List Value}{Q:List Value->Shared->Prop}(hl:s.heap.IsList l vs.toArray∨s.heap.IsTuple l vs.toArray)(big:vs.length<=sizeLine)(q:Q vs { s with heap:=(s.heap.push (seqObj "list" #[] 0)).update s.heap.objs.size (Obj.mapSeq (·++vs.toArray)) }):wpAny (model prog w) A (collect (.ref l)) Q E s:=
 hl.elim (λhl=>collect_list hl q big) (λhl=>Y1 hl q big)
theorem aW8 {prog:Program}{w:World}{A:Around}{E:Value->Shared->Prop}{s:Shared}{l:Addr}{vs:List Value}{Q:Value->Shared->Prop}{κ:SortKind}{Ok:Keyed->Prop}{rk:Keyed->Int}(hl:s.heap.IsList l vs.toArray∨s.heap.IsTuple l vs.toArray)(big:vs.length<=sizeLine)(hk:2<=vs.length->∀(A:Around) (E:Value->Shared->Prop) (Q:SortKind->Shared->Prop),Q κ { s with heap:=fV (fW s.heap vs) (s.heap.objs.size+1) vs }->wpAny (model prog w) A (keyKind' vs.toArray) Q E { s with heap:=fV (fW s.heap vs) (s.heap.objs.size+1) vs })(c:∀(A:Around) (E:Value->Shared->Prop),SO.cR prog w A E { s with heap:=fV (fW s.heap vs) (s.heap.objs.size+1) vs } κ Ok rk)(o:∀v∈vs,Ok (v,v))(q:∀out:List Value,out.Perm vs->out.Pairwise (λu v=>rk (u,u)<=rk (v,v))->Q (.ref (s.heap.objs.size+1)) { s with heap:=sortedAll s.heap vs out.toArray }):wpAny (model prog w) A (call (.builtin "sorted") [.ref l]) Q E s:=by
 apply Calls.call_function_entry kind_sorted plain_sorted entry_sorted (args_sorted1 _)
 simp only[Builtin.«sorted»]
 apply bk5 (m:=checkCount "sorted" 1 1 _)
 apply bl0
 apply bk5
 refine aW7 hl big ?_
 apply bk5
 refine wpAny_newList ?_ big
 have one:((s.heap.push (seqObj "list" #[] 0)).update s.heap.objs.size (Obj.mapSeq (·++vs.toArray))).objs.size=s.heap.objs.size+1:=(Heap.size_update _ _ _).trans (size_push' _ _)
 have at1:(fW s.heap vs).get? (s.heap.objs.size+1)=some (seqObj "list" vs.toArray 0):=one▸bm0 _ rfl
 change wpAny _ _ _ _ _ { s with heap:=fW s.heap vs }
 rw[one]
 apply bk5
 apply bz1
 refine bq7 slot_list_sort ⟨_,at1,rfl⟩ entry_list_sort ?_ (args_list_sort _)
 by_cases h2:vs.length<2
 ·refine aw8 (s:={ s with heap:=fW s.heap vs }) at1 h2 ⟨_,rfl,bl0 ⟨_,rfl,q vs (List.Perm.refl _) ?_⟩⟩
  match vs,h2 with
  |[],_=>exact List.Pairwise.nil
  |[_],_=>exact bn3 _ _
  |_::_::_,h2=>simp at h2;omega
 ·exact aJ0 (s:={ s with heap:=fW s.heap vs }) at1 (by omega) big (hk (by omega) _ _) (c _ _) o λout a1 a2=>⟨_,rfl,bl0 ⟨_,rfl,q out a1 a2⟩⟩
def ac4 (K:ac):List V->Hp->VK->Prop:=λxs H Q=>∃(a:Addr) (ys:List V) (key:V->af),xs = [.ref a]/\(aM K H a ys∨aL K H a ys)/\ys.length<=4096/\(∀y∈ys,∃b,y = .ref b/\aL K H b ((key y).map V.int)/\key y≠[])/\
 ∀l (zs:List V),H l=none->zs.Perm ys->zs.Pairwise (λu v=>HT.cO (key v) (key u)=false)->Q (.ref l) (upd H l (.lst zs))
theorem aW9 {X:Cx}:cH X (.builtin "sorted") (ac4 X.K):=by
 intro pins s σ H xs us Q I r h
 obtain⟨a,ys,key,rfl,hs,hz4,hk,q⟩:=h
 obtain⟨u,rfl,ru⟩:=fM r
 cases ru
 obtain⟨its,rv,p,hz⟩:∃its:List Value,aQ ys its/\(s.heap.IsList a its.toArray∨s.heap.IsTuple a its.toArray)/\ys.length<=sizeLine:=by
  rcases hs with hs|hs
  ·obtain⟨its,rv,p,hz⟩:=I.list hs
   exact⟨its,rv,.inl p.isList,hz⟩
  ·obtain⟨its,rv,p,hz⟩:=I.tuple hs
   exact⟨its,rv,.inr p,hz⟩
 have hl:=rv.length
 have hn:s.heap.objs.size<=s.heap.objs.size+1:=by5 _
 have pv:∀{y:V}{v:Value},aT y v->y∈ys->nG (fV (fW s.heap its) (s.heap.objs.size+1) its) v (key y):=λ{y v} ry hy=>by
  obtain⟨b,rfl,sq,_⟩:=hk y hy
  cases ry
  obtain⟨us,ru,⟨ob,e1,c1,n1,d1⟩,_⟩:=I.tuple sq
  exact⟨b,ob,us,n1,rfl,aI9 (bn6 (Nat.lt_succ_of_lt (bl8 e1))) (aI8 e1),c1,d1,jQ ru⟩
 have pvs:∀{xs:List V}{vs:List Value},aQ xs vs->(∀y∈xs,y∈ys)->∀v∈vs,pR (fV (fW s.heap its) (s.heap.objs.size+1) its) (ys.map key) v:=by
  intro xs vs r
  induction r with
  |nil=>intro _ v hv;cases hv
  |cons rx rt ih=>
   intro hh v hv
   rcases bl2.mp hv with z|z
   ·subst z
    obtain⟨_,_,_,ne⟩:=hk _ (hh _ bm8)
    exact⟨_,bo9.mpr ⟨_,hh _ bm8,rfl⟩,ne,pv rx (hh _ bm8)⟩
   ·exact ih (λy hy=>hh y (bm9 _ hy)) v z
 have allp:=pvs rv λ_ h=>h
 refine aW8 (κ:=tuples' true) (Ok:=λx=>pR (fV (fW s.heap its) (s.heap.objs.size+1) its) (ys.map key) x.1) (rk:=nH (fV (fW s.heap its) (s.heap.objs.size+1) its) (ys.map key)) p (by rw[<- hl];exact hz)
  (λh2 A E Q hQ=>aW0 (s:={ s with heap:=fV (fW s.heap its) (s.heap.objs.size+1) its }) allp h2 hQ) (λA E=>aV8 (s:={ s with heap:=fV (fW s.heap its) (s.heap.objs.size+1) its }) (ys.map key)) (λv hv=>allp v hv) λout pm so=>?_
 obtain⟨zs,pz,rz⟩:=aJ1 pm.symm rv
 obtain⟨e,he⟩:=sortedAll_at s.heap its out.toArray
 refine⟨.ref (s.heap.objs.size+1),upd H (s.heap.objs.size+1) (.lst zs),I.laid (t':=s.toks) (λ_ _=>sortedAll_old) hn ⟨by rw[pz.length_eq];exact hz,out,e,rz,he⟩,rfl,q _ zs (I.hok.fresh hn) pz ?_⟩
 have lz:=rz.length
 rw[br9]
 intro i j hi hj hij
 have s1:=br9.mp so i j (by omega) (by omega) hij
 have gi:=wH i hi rz
 have gj:=wH j hj rz
 simp only[bn7,bk8 hi,bk8 hj,bk8 (show i<out.length by omega),bk8 (show j<out.length by omega),Option.getD_some]at gi gj
 have mi:=pz.mem_iff.mp (bu3 hi)
 have mj:=pz.mem_iff.mp (bu3 hj)
 exact aW1 (pv gi mi) (pv gj mj) (bo9.mpr ⟨_,mi,rfl⟩) (bo9.mpr ⟨_,mj,rfl⟩) s1
def KD (P:Program)(w:World)(K:ac)(mg:Str->Option Value)(x:Str)(kvs:List (aD×V)):Prop:=
 ∃a o,mg x=some (.ref a)/\K.lookup a=some o/\(a==sysModules)=false/\∀h:Heap,h.get? a=some o->∃vs,KV kvs vs/\h.DictOf (dA P w) a vs
def ac5 (kvs:List (aD×V))(ty:TE):TE:=λσ H Q=>ty σ H λy H2=>∃k,y=kV k/\Q ((e8 kvs k).getD .non) H2
theorem aX0 {X:Cx}{x:Str}{xp apos cpos:Pos}{e:Expr}{ty:TE}{kvs:List (aD×V)}(hg:Gl X x)(hd:KD X.prog X.w X.K X.mg x kvs)(he:PE X e ty)(m:M1 X (.Name x xp) "get" apos e cpos)(hx:(x==("__debug__":Str))=false:=by decide):PE X (.Call (.Attribute (.Name x xp) "get" apos) [e] [] cpos) (ac5 kvs ty):=by
 obtain⟨a,o,ha,hk,hs,hD⟩:=hd
 intro pins s σ H Q I h
 refine wpAny_Call_method m.base m.few m.line PySem.F.plainAttrs_dict PySem.F.slot_dict_get PySem.F.type_dict_get (aJ (A8 (v:=.ref a) hg ha rfl hx pins s σ H (λv H1=>v = .ref a/\ty σ H1 λy H2=>∃k,y=kV k/\Q ((e8 kvs k).getD .non) H2) I ⟨rfl,h⟩) λu s1 ⟨x,H1,I1,rx,ex,q1⟩=>?_)
 subst ex
 obtain rfl:u=Value.ref a:=rx
 obtain⟨vs,rel,dd⟩:=hD _ (I1.kIn a o hk)
 refine⟨dd.typeIs,λb q=>?_,?_⟩
 ·cases q
  obtain⟨ob,_,_,h1,h2,_⟩:=dd
  exact⟨ob,h1,h2.2.1⟩
 rw[m.trees]
 refine bx4 rfl (by8 (Calls.spliced_cons (aJ (he pins s1 σ H1 _ I1 q1) λiv s2 ⟨y,H2,I2,ry,k,ey,q2⟩=>Calls.spliced_nil ?_)))
 subst ey
 obtain⟨vs,rel,dd⟩:=hD _ (I2.kIn a o hk)
 exact call_meetsIn PySem.F.slot_dict_get dd.typeIs PySem.F.entry_dict_get (PySem.F.args_dict_get_2 _ _) (meets_dict_get (dA X.prog X.w) a (o3 ry) hs) ⟨_,dd.mapOf,_,H2,I2.tok _,(rel.val k).getD (show aT .non Value.none from rfl),q2⟩
theorem aX1 {P:Program}{w:World}{K:ac}{mg:Str->Option Value}{x:Str}{a:Addr}{o:Obj}{es:Array DictEntry}{ep:Nat}{kvs:List (aD×V)}(ha:mg x=some (.ref a))(hk:K.lookup a=some o)(ho:o.ExactDict)(hd:o.data = .dict es ep)(hs:(a==sysModules)=false)(hv:∃vs,KV kvs vs/\PySem.KeysOf (dA P w) es/\PySem.Pairs (dA P w) es.toList vs/\(vs.map (·.1)).Nodup):KD P w K mg x kvs:=by
 obtain⟨vs,h1,h2,h3,h4⟩:=hv
 exact⟨a,o,ha,hk,hs,λh e=>⟨vs,h1,o,es,ep,e,ho,hd,h2,h3,h4⟩⟩
end L2
namespace PP
open PySem L2
section
variable {X:Cx}{e a b:Expr}{tr:bT}{te ta tb:aH}{pos p2:Pos}
def nI:List PV->(PV->Prop)->Prop:=λxs Q=>∃ys:ae,(xs = [.lst (pS ys)]∨xs = [.tup (pS ys)])/\ys.length<=4096/\(∀y∈ys,y≠[])/\∀zs:ae,zs.Perm ys->zs.Pairwise (λu v=>HT.cO v u=false)->Q (.lst (pS zs))
theorem aX2:dM X nI (ac4 X.K):=by
 rintro H vs xs Q Q' r ⟨ys,hx,hl,hne,q⟩ k
 obtain⟨a,us,rfl,h,r2⟩:∃a us,vs = [.ref a]/\(aM X.K H a us∨aL X.K H a us)/\Reps X.K (λ_=>True) H us (pS ys):=by
  rcases hx with rfl|rfl
  ·obtain⟨v,rfl,r1⟩:=r.one
   obtain⟨a,us,rfl,_,h,r2⟩:=r1.sqL
   exact⟨a,us,rfl,.inl (aM.of h),r2⟩
  ·obtain⟨v,rfl,r1⟩:=r.one
   obtain⟨a,us,rfl,h,r2⟩:=r1.sqT
   exact⟨a,us,rfl,.inr (aL.of h),r2⟩
 obtain⟨h1,h2⟩:=X3 r2
 have lr:=r2.length
 rw[bl1]at lr
 refine⟨a,us,lO H,rfl,h,by omega,λy hy=>?_,λl zs hl' pm so=>?_⟩
 ·obtain⟨b,rfl,hb⟩:=h2 y hy
  refine⟨b,rfl,aL.of hb,hne _ ?_⟩
  rw[<- h1];exact bo9.mpr ⟨_,hy,rfl⟩
 ·have hz:∀u∈zs,∃b,u = .ref b/\H b=some (.tup ((lO H u).map V.int)):=λu hu=>h2 u (pm.mem_iff.mp hu)
  refine k _ _ _ (bR hl' _) (.lst hl' aU ((X4 hz).same (bR hl' _) λ_ z=>z)) (q _ ?_ ?_)
  ·rw[<- h1];exact pm.map _
  ·rw[List.pairwise_map];exact so
theorem ac6 (B:Bt X.mg)(ha:QA X [e] tr)(hg:Gl X "sorted":=by rfl)(he:starEach [e] X.env=(false,eval e X.env)::starEach [] X.env:=by rfl)(hpl:(backTo pos (starEach [] X.env)).any (·.1)=false:=by rfl):QE X (.Call (.Name "sorted" p2) [e] [] pos) (aO nI tr):=
 j7 aW9 aX2 hg B.sorted PyProof.Rows.boot_sorted ha (he:=he) (hpl:=hpl)
def nJ (ds:List (Str×Int)):List (aD×V):=ds.map λp=>(.inr p.1,.int p.2)
def zH (ds:List (Str×Int))(te:aH):aH:=λρ Q=>te ρ λx _=>∃s,x = .str s/\Q (Core.Y8 (ds.lookup s)) .fr
theorem aX3 (ds:List (Str×Int))(s:Str):(e8 (nJ ds) (.inr s)).getD .non=(match ds.lookup s with|some i=>V.int i|none=>V.non):=by
 induction ds with
 |nil=>rfl
 |cons p r ih=>
  obtain⟨x,i⟩:=p
  rw[bp8]
  by_cases e:s=x
  ·subst e
   rw[show (s==s)=true from bs3 s]
   show (Option.map _ (List.find? _ (_::_))).getD _=_
   rw[List.find?_cons_of_pos (by exact bn0 rfl)];rfl
  ·rw[show (s==x)=false from bs4.mpr e]
   show (Option.map _ (List.find? _ (_::_))).getD _=_
   rw[List.find?_cons_of_neg (by simp;exact λz=>e z.symm)]
   exact ih
theorem aX4 {σ:St}{H:Hp}{Q':VK}{ds:List (Str×Int)}(h:LE X (zH ds te) σ H Q'):ac5 (nJ ds) (LE X te) σ H Q':=by
 obtain⟨W,ρ,Q,px,q,k⟩:=h
 refine⟨W,ρ,_,px,q,?_⟩
 rintro v H1 x g s r ⟨t,rfl,q⟩
 cases r
 refine⟨.inr t,rfl,?_⟩
 rw[aX3]
 cases e:ds.lookup t with
 |none=>rw[e]at q;exact k _ _ _ _ s .non q
 |some i=>rw[e]at q;exact k _ _ _ _ s (.int i) q
theorem aX5 {x:Str}{xp apos cpos:Pos}{ds:List (Str×Int)}(hd:KD X.prog X.w X.K X.mg x (nJ ds))(he:QE X e te)(hg:Gl X x:=by rfl)(m:M1 X (.Name x xp) "get" apos e cpos:=by exact⟨rfl,rfl,rfl,rfl⟩)(hx:(x==("__debug__":Str))=false:=by decide):QE X (.Call (.Attribute (.Name x xp) "get" apos) [e] [] cpos) (zH ds te):=
 cA (aX0 hg hd he m hx) λ_ _ _=>aX4
def zI:PV->Tg->PV->Tg->PK->Prop:=λx _ y _ Q=>∃(i:Int) (o:Option Int),x=Core.Y8 o/\y = .int i/\Q (.bl (!decide (o=some i))) .fr
theorem aX6:eC X zI v4:=by
 rintro W Hs H u v x y g g' Q Q' s n r1 r2 ⟨i,o,rfl,rfl,q⟩ k
 cases r2
 cases o with
 |none=>
  cases r1
  exact⟨rfl,k _ _ _ .fr (aB.refl _) (.bl true) q⟩
 |some j=>
  cases r1
  have e:decide (V.int j=V.int i)=decide (some j=some i):=decide_eq_decide.mpr ⟨λz=>by cases z;rfl,λz=>by cases z;rfl⟩
  refine⟨rfl,?_⟩
  rw[e]
  exact k _ _ _ .fr (aB.refl _) (.bl _) q
theorem aX7 (ha:QE X a ta)(hb:QE X b tb):QT X (.Compare a [.NotEq] [b] pos) (aZ (q2 zI ta tb)):=j6 E5 aX6 ha hb (fG _)
end
end PP
namespace Core
open PySem L2 PP
theorem kE:1<=1000:=by decide
theorem fC:2<=1000:=by decide
theorem tQ:3<=1000:=by decide
theorem le5:5<=1000:=by decide
inductive i9|light (i:Int)|douse (i:Int)|want (i j:Int)|link (i j:Int)|cut (i j:Int)
def dP:i9->PV
 |.light i=>.tup [.str "light",.int i]
 |.douse i=>.tup [.str "douse",.int i]
 |.want i j=>.tup [.str "want",.int i,.int j]
 |.link i j=>.tup [.str "link",.int i,.int j]
 |.cut i j=>.tup [.str "cut",.int i,.int j]
theorem ac7 (d:i9):flat (dP d)=true:=by cases d<;>rfl
abbrev mm (i j:Int):Int×Int:=(if j<i then j else i,if j>i then j else i)
def tP:i9->PV
 |.light i=>.tup [.str "light",.int i]
 |.douse i=>.tup [.str "douse",.int i]
 |.want i j=>.tup [.str "want",.int i,.int j]
 |.link i j=>.tup [.str "link",.int (mm i j).1,.int (mm i j).2]
 |.cut i j=>.tup [.str "cut",.int (mm i j).1,.int (mm i j).2]
theorem ac8 (d:i9):flat (tP d)=true:=by cases d<;>rfl
def cM (ws:af)(ls:aa)(S:af):i9->Bool
 |.light i=>!inB ws.length i||decide (i∈S)
 |.douse i=>!inB ws.length i||!decide (i∈S)
 |.want i j=>!inB ws.length i||(decide (j<0)||(decide (60<j)||decide (ws.getD i.toNat 0=j)))
 |.link i j=>!inB ws.length i||(!inB ws.length j||(decide (i=j)||decide (mm i j∈ls)))
 |.cut i j=>!inB ws.length i||(!inB ws.length j||(decide (i=j)||!decide (mm i j∈ls)))
def tR (ls:aa)(p:Int×Int)(ls':aa):Prop:=ls'.Perm (ls++[p])/\(ls'.map two).Pairwise (λu v=>HT.cO v u=false)
abbrev eF:=af×aa×af
def gG (ws:af)(ls:aa)(S:af):i9->eF->Prop
 |.light i,r=>r=(ws,ls,jG (S++[i]))
 |.douse i,r=>r=(ws,ls,S.filter λz=>!decide (z∈[i]))
 |.want i j,r=>r=(ws.take i.toNat++[j]++ws.drop (i.toNat+1),ls,S)
 |.link i j,r=>∃ls',r=(ws,ls',S)/\tR ls (mm i j) ls'
 |.cut i j,r=>r=(ws,ls.filter λz=>!decide (z∈[mm i j]),S)
def dsP (r:eF):PV:=.tup [bM r.1 r.2.1,.tup (intz r.2.2)]
theorem gG.keeps {ws:af}{ls:aa}{S:af}{d:i9}{r:eF}(h:gG ws ls S d r)(st:cL ws.length S=true)(ok:cM ws ls S d=false):r.1.length=ws.length/\r.2.1.length<=ls.length+1/\cL r.1.length r.2.2=true:=by
 cases d with
 |light i=>
  have h:r=_:=h
  subst h
  unfold cM at ok
  rw[bw8,Bool.not_eq_false',bo8]at ok
  unfold inB at ok
  rw[bn4,bm2,bm2]at ok
  refine⟨rfl,by5 _,?_⟩
  obtain⟨p,so⟩:=lS (S++[i])
  refine aW3 (p.nodup_iff.mpr ?_) so λx hx=>?_
  ·exact bt6.mpr ⟨aW2 st,bn3 _ _,λa ha b hb e=>ok.2 (by rw[bl3.mp hb]at e;rw[<- e];exact ha)⟩
  ·rcases bn9.mp (p.mem_iff.mp hx) with z|z
   ·exact mY.mpr ((jA st).2 x z)
   ·rw[bl3.mp z];exact mY.mpr ok.1
 |douse i=>
  have h:r=_:=h
  subst h
  exact⟨rfl,by5 _,aP5 st _⟩
 |want i j=>
  have h:r=_:=h
  subst h
  unfold cM at ok
  rw[bw8,Bool.not_eq_false']at ok
  have ok:=ok.1
  unfold inB at ok
  rw[bn4,bm2,bm2]at ok
  have e:(ws.take i.toNat++[j]++ws.drop (i.toNat+1)).length=ws.length:=by
   rw[bl4,bl4,br6,bu0,bo6]
   omega
  exact⟨e,by5 _,by show cL (ws.take i.toNat++[j]++ws.drop (i.toNat+1)).length S=true;rw[e];exact st⟩
 |link i j=>
  obtain⟨l1,rfl,h⟩:=h
  refine⟨rfl,?_,st⟩
  have:=h.1.length_eq
  rw[bl4,bo6]at this
  exact Nat.le_of_eq this
 |cut i j=>
  have h:r=_:=h
  subst h
  exact⟨rfl,Nat.le_succ_of_le (bv6 _ _),st⟩
def pT:cK:=λxs Q=>∃(ls:aa) (p:Int×Int),xs = [.tup (bN ls),.lst [.tup [.int p.1,.int p.2]]]/\ls.length<=10000/\Q (.tup (bN (ls.filter λz=>!decide (z∈[p]))))
def ac9:aS:=(aR (bE 2 (aO tO (a9 (a5 1) aC)))
 (bC (aO fU (a9 (iZ (iF (a5 0)) [none,some 2] (dO 0) (aZ (j5 true (a5 0) (a5 1))) (a5 0)) aC))))
theorem aX8:fB ac9 ["hearths","some","gone"] pT:=by
 rintro xs Q ⟨ls,p,rfl,hl,q⟩
 refine⟨_,rfl,_,[p],rfl,.inr rfl,bn3 _ _,(by show 1<=4096;decide),trivial,?_⟩
 have fp:flat (.tup (bN ls))=true:=by unfold flat;exact k9 ls
 refine⟨_,rfl,bN ls,rfl,λ_=>fp,by rw[pJ];omega,λi acc=>acc=bN ((ls.take i).filter λz=>!decide (z∈[p])),rfl,?_,?_⟩
 ·rintro i z acc hz rfl
  obtain⟨l,rfl,hn⟩:=X2 hz
  have tk:=sZ (p:=λz=>!decide (z∈[p])) hn
  refine aW4 ?_
  refine⟨_,rfl,_,rfl,_,.inr ⟨fY [p],fX l,rfl,rfl,rfl⟩,_,rfl,?_⟩
  show if (!(bX (fY [p]) (fX l)).isSome)=true then _ else _
  rw[ab9]
  cases h:decide (l∈[p]) with
  |true=>
   rw[h]at tk
   refine aP ?_
   show _=bN (List.filter _ (List.take (i+1) ls))
   rw[tk];exact congrArg bN (bo4 _).symm
  |false=>
   rw[h]at tk
   refine b7 ⟨_,rfl,trivial,?_⟩
   show _=bN (List.filter _ (List.take (i+1) ls))
   rw[tk,tN];rfl
 ·rintro acc rfl
  rw[pJ,bq9]
  exact⟨⟨_,_,rfl,rfl,k9 _,trivial,q⟩,λns z=>by cases z⟩
def tS:List (Str×Int):=[("light",1),("douse",1),("want",2),("link",2),("cut",2)]
def nK:cK:=λxs Q=>∃d,xs = [dP d]/\Q (tP d)
def ad0:aS:=(aR (bI (aZ (q2 zI (zH tS (aW (a5 0) (qC (.int 0)))) (xM (aO jU (a9 (a5 0) aC)) (qC (.int 1))))) Q2 bH)
 (aR (bI (hV (aZ (q2 (cW false) (aW (a5 0) (qC (.int 0))) (qC (.str "link")))) (aZ (q2 (cW false) (aW (a5 0) (qC (.int 0))) (qC (.str "cut"))))) (bC (bG (a9 (aW (a5 0) (qC (.int 0))) (a9 (aO ab7 (a9 (mM (a5 0) (mL (qC (.int 1))) mK) aC)) (a9 (aO ab8 (a9 (mM (a5 0) (mL (qC (.int 1))) mK) aC)) aC))))) bH)
 (bC (aO fU (a9 (a5 0) aC)))))
theorem ad1 {i j M:Int}(h:M∈[i,j])(k:∀x∈[i,j],M<=x):M=(mm i j).1:=by
 have k1:=k i (by simp)
 have k2:=k j (by simp)
 show M=if j<i then j else i
 rcases bl2.mp h with e|h
 ·rw[if_neg (by omega)];exact e
 ·have e:=bl3.mp h
  split<;>omega
theorem ad2 {i j M:Int}(h:M∈[i,j])(k:∀x∈[i,j],x<=M):M=(mm i j).2:=by
 have k1:=k i (by simp)
 have k2:=k j (by simp)
 show M=if j>i then j else i
 rcases bl2.mp h with e|h
 ·rw[if_neg (by omega)];exact e
 ·have e:=bl3.mp h
  split<;>omega
theorem aX9:fB ad0 ["deed"] nK:=by
 rintro xs Q ⟨d,rfl,q⟩
 cases d with
 |light i=>
  refine⟨_,rfl,_,_,_,rfl,rfl,rfl,"light",rfl,_,rfl,_,_,rfl,rfl,_,_,rfl,rfl,1,some 1,rfl,rfl,_,rfl,aP ?_⟩
  refine⟨_,rfl,_,_,_,rfl,rfl,rfl,_,_,rfl,rfl,_,rfl,aP ⟨_,rfl,_,_,_,rfl,rfl,rfl,_,_,rfl,rfl,_,rfl,aP ?_⟩⟩
  exact⟨_,rfl,⟨_,_,rfl,rfl,rfl,trivial,q⟩,λns z=>by cases z⟩
 |douse i=>
  refine⟨_,rfl,_,_,_,rfl,rfl,rfl,"douse",rfl,_,rfl,_,_,rfl,rfl,_,_,rfl,rfl,1,some 1,rfl,rfl,_,rfl,aP ?_⟩
  refine⟨_,rfl,_,_,_,rfl,rfl,rfl,_,_,rfl,rfl,_,rfl,aP ⟨_,rfl,_,_,_,rfl,rfl,rfl,_,_,rfl,rfl,_,rfl,aP ?_⟩⟩
  exact⟨_,rfl,⟨_,_,rfl,rfl,rfl,trivial,q⟩,λns z=>by cases z⟩
 |want i j=>
  refine⟨_,rfl,_,_,_,rfl,rfl,rfl,"want",rfl,_,rfl,_,_,rfl,rfl,_,_,rfl,rfl,2,some 2,rfl,rfl,_,rfl,aP ?_⟩
  refine⟨_,rfl,_,_,_,rfl,rfl,rfl,_,_,rfl,rfl,_,rfl,aP ⟨_,rfl,_,_,_,rfl,rfl,rfl,_,_,rfl,rfl,_,rfl,aP ?_⟩⟩
  exact⟨_,rfl,⟨_,_,rfl,rfl,rfl,trivial,q⟩,λns z=>by cases z⟩
 |link i j=>
  refine⟨_,rfl,_,_,_,rfl,rfl,rfl,"link",rfl,_,rfl,_,_,rfl,rfl,_,_,rfl,rfl,2,some 2,rfl,rfl,_,rfl,aP ?_⟩
  refine⟨_,rfl,_,_,_,rfl,rfl,rfl,_,_,rfl,rfl,_,rfl,b7 (b7 ?_)⟩
  refine⟨_,rfl,_,_,_,rfl,rfl,rfl,_,rfl,1,rfl,_,rfl,rfl,.inr ⟨[i,j],rfl,(by simp),λM hm hM=>?_⟩⟩
  refine⟨_,rfl,1,rfl,_,rfl,rfl,.inr ⟨[i,j],rfl,(by simp),λN hn hN=>?_⟩⟩
  rw[ad1 hm hM,ad2 hn hN]
  exact⟨(by show 3<=1000;decide),rfl,trivial,q⟩
 |cut i j=>
  refine⟨_,rfl,_,_,_,rfl,rfl,rfl,"cut",rfl,_,rfl,_,_,rfl,rfl,_,_,rfl,rfl,2,some 2,rfl,rfl,_,rfl,aP ?_⟩
  refine⟨_,rfl,_,_,_,rfl,rfl,rfl,_,_,rfl,rfl,_,rfl,aP ⟨_,rfl,_,_,_,rfl,rfl,rfl,_,_,rfl,rfl,_,rfl,b7 ?_⟩⟩
  refine⟨_,rfl,_,_,_,rfl,rfl,rfl,_,rfl,1,rfl,_,rfl,rfl,.inr ⟨[i,j],rfl,(by simp),λM hm hM=>?_⟩⟩
  refine⟨_,rfl,1,rfl,_,rfl,rfl,.inr ⟨[i,j],rfl,(by simp),λN hn hN=>?_⟩⟩
  rw[ad1 hm hM,ad2 hn hN]
  exact⟨(by show 3<=1000;decide),rfl,trivial,q⟩
def tT:dX:=λEp xs Q=>∃ws ls S d,xs = [bM ws ls,.tup (intz S),tP d]/\S.length<63/\(∃i,d = .light i∨d = .douse i)/\(cM ws ls S d=true->Ep "BadDeed")/\(cM ws ls S d=false->∀r,gG ws ls S d r->Q (.tup (intz r.2.2)))
def ad3 (Ep:Str->Prop):aS:=(aR (bE 3 (aW (a5 2) (qC (.int 1))))
 (aR (bI (jT (aZ (aO i7 (a9 (a5 0) (a9 (a5 3) aC))))) (gU Ep "BadDeed" (a9 (qC (.str "this is no hearth")) aC)) bH)
 (aR (bI (aZ (jW (q2 (xK false) (a5 3) (a5 1)) (q2 (cW false) (aW (a5 2) (qC (.int 0))) (qC (.str "light"))))) (gU Ep "BadDeed" (a9 (qC (.str "the deed changes nothing")) aC)) bH)
 (aR (bI (aZ (q2 (cW false) (aW (a5 2) (qC (.int 0))) (qC (.str "light")))) (bC (aO fU (a9 (aO yQ (a9 (nD (a5 1) (bG (a9 (a5 3) aC))) aC)) aC))) bH)
 (bC (aO lP (a9 (a5 1) (a9 (fQ (a9 (a5 3) aC)) aC))))))))
theorem aY0:kD ad3 ["web","seeds","deed","hearth"] tT:=by
 rintro Ep xs Q ⟨ws,ls,S,d,rfl,hl,⟨i,hd⟩,e,q⟩
 have fS:flats (intz S)=true:=eM S
 rcases hd with rfl|rfl
 ·refine⟨_,rfl,_,_,_,rfl,rfl,rfl,trivial,?_⟩
  refine⟨_,rfl,_,rfl,ws,ls,i,rfl,_,rfl,?_⟩
  unfold cM at e q
  dsimp only at e q
  cases h1:inB ws.length i with
  |false=>exact b7 ⟨by decide,e (by rw[h1];rfl)⟩
  |true=>
   refine aP ⟨_,rfl,_,rfl,i,S,rfl,rfl,_,rfl,_,_,_,rfl,rfl,rfl,_,_,rfl,rfl,.inr ⟨_,_,rfl,rfl,_,rfl,?_⟩⟩
   show if decide (decide (i∈S)=true)=true then _ else _
   cases h2:decide (i∈S) with
   |true=>exact b7 ⟨by decide,e (by rw[h2,Bool.or_true])⟩
   |false=>
    refine aP ⟨_,rfl,_,_,_,rfl,rfl,rfl,_,_,rfl,rfl,_,rfl,b7 ?_⟩
    refine⟨_,rfl,_,rfl,kE,rfl,_,_,rfl,rfl,fS,rfl,(by rw[dF];show S.length+1<=16000000;omega),_,S++[i],rfl,?_,(by rw[bl4];show S.length+1<64;omega),λms pm so=>⟨⟨_,_,rfl,rfl,eM ms,trivial,?_⟩,λns z=>by cases z⟩⟩
    ·show some (intz S++[PV.int i])=_
     rw[j9];rfl
    ·rw[ab2 pm so]
     exact q (by rw[h1,h2];rfl) _ rfl
 ·refine⟨_,rfl,_,_,_,rfl,rfl,rfl,trivial,?_⟩
  refine⟨_,rfl,_,rfl,ws,ls,i,rfl,_,rfl,?_⟩
  unfold cM at e q
  dsimp only at e q
  cases h1:inB ws.length i with
  |false=>exact b7 ⟨by decide,e (by rw[h1];rfl)⟩
  |true=>
   refine aP ⟨_,rfl,_,rfl,i,S,rfl,rfl,_,rfl,_,_,_,rfl,rfl,rfl,_,_,rfl,rfl,.inr ⟨_,_,rfl,rfl,_,rfl,?_⟩⟩
   show if decide (decide (i∈S)=false)=true then _ else _
   cases h2:decide (i∈S) with
   |false=>exact b7 ⟨by decide,e (by rw[h2];exact Bool.or_true _)⟩
   |true=>
    refine aP ⟨_,rfl,_,_,_,rfl,rfl,rfl,_,_,rfl,rfl,_,rfl,aP ?_⟩
    refine⟨_,rfl,_,rfl,kE,rfl,_,S,_,[i],rfl,.inl rfl,.inr rfl,by omega,kE,trivial,?_⟩
    exact q (by rw[h1,h2];rfl) _ rfl
def tU:dX:=λEp xs Q=>∃ws ls S i j,xs = [bM ws ls,tP (.want i j)]/\ws.length<=1000/\(cM ws ls S (.want i j)=true->Ep "BadDeed")/\(cM ws ls S (.want i j)=false->∀r,gG ws ls S (.want i j) r->Q (.tup (intz r.1)))
def ad4 (Ep:Str->Prop):aS:=(aR (bE 2 (aW (a5 1) (qC (.int 1))))
 (aR (bE 3 (aW (a5 1) (qC (.int 2))))
 (aR (bI (hV (jT (aZ (aO i7 (a9 (a5 0) (a9 (a5 2) aC))))) (hV (aZ (l9 (a5 3) (qC (.int 0)))) (aZ (qGt (a5 3) (qC (.int 60)))))) (gU Ep "BadDeed" (a9 (qC (.str "this is no hearth, or no want")) aC)) bH)
 (aR (bI (aZ (jW (aW (aW (a5 0) (qC (.int 0))) (a5 2)) (a5 3))) (gU Ep "BadDeed" (a9 (qC (.str "the deed changes nothing")) aC)) bH)
 (bC (nD (nD (mM (aW (a5 0) (qC (.int 0))) mK (mL (a5 2))) (bG (a9 (a5 3) aC))) (mM (aW (a5 0) (qC (.int 0))) (mL (gD (a5 2) (qC (.int 1)))) mK)))))))
theorem aY1 {n:Nat}{i:Int}:inB n i=true↔0<=i/\i<(n:Int):=by
 unfold inB;rw[bn4,bm2,bm2]
theorem aY2 {ws:af}{i:Int}(h:0<=i):gR (intz ws) none (some i)=intz (ws.take i.toNat)/\gR (intz ws) (some (i+1)) none=intz (ws.drop (i.toNat+1)):=by
 refine⟨aQ6 h,?_⟩
 rw[aM0 ws (show (0:Int)<=i+1 by omega),show (i+1).toNat=i.toNat+1 by omega]
theorem aY3:kD ad4 ["web","deed","hearth","want"] tU:=by
 rintro Ep xs Q ⟨ws,ls,S,i,j,rfl,hl,e,q⟩
 refine⟨_,rfl,_,_,_,rfl,rfl,rfl,trivial,?_⟩
 refine⟨_,rfl,_,_,_,rfl,rfl,rfl,trivial,?_⟩
 refine⟨_,rfl,_,rfl,ws,ls,i,rfl,_,rfl,?_⟩
 unfold cM at e q
 dsimp only at e q
 cases h1:inB ws.length i with
 |false=>exact b7 (b7 ⟨by decide,e (by rw[h1];rfl)⟩)
 |true=>
  rw[h1]at e q
  obtain⟨i0,i1⟩:=aY1.mp h1
  refine aP ⟨_,rfl,_,_,rfl,rfl,_,rfl,?_⟩
  show if decide (j<0)=true then _ else _
  cases h2:decide (j<0) with
  |true=>exact b7 (b7 ⟨by decide,e (by rw[h2];rfl)⟩)
  |false=>
   rw[h2]at e q
   refine aP ⟨_,rfl,_,_,rfl,rfl,_,rfl,?_⟩
   show if decide (60<j)=true then _ else _
   cases h3:decide (60<j) with
   |true=>exact b7 ⟨by decide,e (by rw[h3];rfl)⟩
   |false=>
    rw[h3]at e q
    refine aP ⟨_,rfl,_,_,_,rfl,rfl,rfl,_,rfl,_,_,_,rfl,rfl,pF i0 i1,_,rfl,.inl ⟨_,_,rfl,rfl,_,rfl,?_⟩⟩
    show if decide (ws.getD i.toNat 0=j)=true then _ else _
    cases h4:decide (ws.getD i.toNat 0=j) with
    |true=>exact b7 ⟨by decide,e (by rw[h4];rfl)⟩
    |false=>
     obtain⟨c1,c2⟩:=aY2 (ws:=ws) i0
     have r1:xL (.tup (intz ws)) (gR (intz ws) none (some i)) = .tup (intz (ws.take i.toNat)):=by rw[c1];rfl
     have r2:xL (.tup (intz ws)) (gR (intz ws) (some (i+1)) none) = .tup (intz (ws.drop (i.toNat+1))):=by rw[c2];rfl
     refine aP ⟨_,rfl,_,_,_,rfl,rfl,rfl,_,rfl,_,rfl,intz ws,rfl,eM ws,_,rfl,kE,rfl,_,_,r1,rfl,eM _,rfl,?_,_,rfl,_,_,_,rfl,rfl,rfl,_,rfl,_,_,rfl,rfl,_,rfl,intz ws,rfl,eM ws,_,_,rfl,r2,?_,eM _,?_,trivial,?_⟩
     ·rw[dF,br6];show min _ _+1<=16000000;omega
     ·show flats (intz (ws.take i.toNat)++intz [j])=true
      rw[<- j9];exact eM _
     ·rw[bl4,dF,dF,br6,bu0];show min _ _+1+_<=16000000;omega
     ·have:=q (by rw[h4];rfl) _ rfl
      dsimp only at this
      rw[j9,j9]at this
      exact this
def tV:dX:=λEp xs Q=>∃ws ls S d,xs = [bM ws ls,tP d]/\ls.length<=4000/\(∃i j,d = .link i j∨d = .cut i j)/\(cM ws ls S d=true->Ep "BadDeed")/\(cM ws ls S d=false->∀r,gG ws ls S d r->Q (.tup (bN r.2.1)))
def ad5 (Ep:Str->Prop):aS:=(aR (bE 2 (mM (a5 1) (mL (qC (.int 1))) mK))
 (aR (bI (hV (jT (aZ (aO i7 (a9 (a5 0) (a9 (aW (a5 2) (qC (.int 0))) aC))))) (hV (jT (aZ (aO i7 (a9 (a5 0) (a9 (aW (a5 2) (qC (.int 1))) aC))))) (aZ (jW (aW (a5 2) (qC (.int 0))) (aW (a5 2) (qC (.int 1))))))) (gU Ep "BadDeed" (a9 (qC (.str "these are no two hearths")) aC)) bH)
 (aR (bI (aZ (jW (q2 tJ (a5 2) (aW (a5 0) (qC (.int 1)))) (q2 (cW false) (aW (a5 1) (qC (.int 0))) (qC (.str "link"))))) (gU Ep "BadDeed" (a9 (qC (.str "the deed changes nothing")) aC)) bH)
 (aR (bI (aZ (q2 (cW false) (aW (a5 1) (qC (.int 0))) (qC (.str "link")))) (bC (aO fU (a9 (aO nI (a9 (nD (aW (a5 0) (qC (.int 1))) (bG (a9 (a5 2) aC))) aC)) aC))) bH)
 (bC (aO pT (a9 (aW (a5 0) (qC (.int 1))) (a9 (fQ (a9 (a5 2) aC)) aC))))))))
theorem aY4 (n:Nat)(i j:Int):(!inB n (mm i j).1||(!inB n (mm i j).2||decide ((mm i j).1=(mm i j).2)))=(!inB n i||(!inB n j||decide (i=j))):=by
 show (!inB n (if j<i then j else i)||(!inB n (if j>i then j else i)||decide ((if j<i then j else i)=(if j>i then j else i))))=_
 by_cases h:j<i
 ·rw[if_pos h,if_neg (by omega),bm3 (show ¬j=i by omega),bm3 (show ¬i=j by omega)]
  cases inB n j<;>cases inB n i<;>rfl
 ·rw[if_neg h]
  by_cases k:j>i
  ·rw[if_pos k]
  ·rw[if_neg k]
   have:i=j:=by omega
   subst this;rfl
theorem aY5 {ls:aa}{p:Int×Int}{Q:PV->Prop}(hl:ls.length<=4000)(q:∀ls',tR ls p ls'->Q (.lst (bN ls'))):nI [.tup (bN ls++[.tup [.int p.1,.int p.2]])] Q:=by
 refine⟨(ls++[p]).map two,.inr ?_,?_,?_,λzs pm so=>?_⟩
 ·show [PV.tup (bN ls++_)] = [PV.tup ((List.map two (ls++[p])).map λr=>PV.tup (intz r))]
  rw[<- nC,tN];rfl
 ·rw[bl1,bl4];show ls.length+1<=4096;omega
 ·intro y hy
  obtain⟨l,_,rfl⟩:=bo9.mp hy
  exact λz=>by cases z
 ·obtain⟨ls',rfl,pm2⟩:=X9 pm
  show Q (.lst ((ls'.map two).map λr=>PV.tup (intz r)))
  rw[<- nC]
  exact q ls' ⟨pm2,so⟩
section
variable {ws:af}{ls:aa}{Ep:Str→Prop}{E:kY}{w:Str}{p:Int×Int}
def ad6 (Ep:Str->Prop):aS:=(aR (bI (aZ (jW (q2 tJ (a5 2) (aW (a5 0) (qC (.int 1)))) (q2 (cW false) (aW (a5 1) (qC (.int 0))) (qC (.str "link"))))) (gU Ep "BadDeed" (a9 (qC (.str "the deed changes nothing")) aC)) bH)
 (aR (bI (aZ (q2 (cW false) (aW (a5 1) (qC (.int 0))) (qC (.str "link")))) (bC (aO fU (a9 (aO nI (a9 (nD (aW (a5 0) (qC (.int 1))) (bG (a9 (a5 2) aC))) aC)) aC))) bH)
 (bC (aO pT (a9 (aW (a5 0) (qC (.int 1))) (a9 (fQ (a9 (a5 2) aC)) aC))))))
theorem aY6 (hl:ls.length<=4000)(hw:w="link"∨w="cut")(e:decide (p∈ls)=decide (w="link")->Ep "BadDeed")(q1:w="link"->decide (p∈ls)=false->∀ls',tR ls p ls'->E.rt (.tup (bN ls')))(q2:w="cut"->decide (p∈ls)=true->E.rt (.tup (bN (ls.filter λz=>!decide (z∈[p]))))) :
  ad6 Ep E [some (.sh true (bM ws ls)),some (.sh true (.tup [.str w,.int p.1,.int p.2])),some (.sh true (.tup [.int p.1,.int p.2]))]:=by
 have fl:flats (bN ls)=true:=k9 ls
 refine⟨_,rfl,_,rfl,_,_,_,rfl,rfl,rfl,two p,ls.map two,rfl,(by rw[<- nC];rfl),_,rfl,_,_,_,rfl,rfl,rfl,_,_,rfl,rfl,.inr ⟨_,_,rfl,rfl,_,rfl,?_⟩⟩
 show if decide (decide (two p∈ls.map two)=decide (w="link"))=true then _ else _
 rw[aV7]
 by_cases h:decide (p∈ls)=decide (w="link")
 ·rw[bn0 h]
  exact b7 ⟨by decide,e h⟩
 ·rw[bm3 h]
  refine aP ⟨_,rfl,_,_,_,rfl,rfl,rfl,_,_,rfl,rfl,_,rfl,?_⟩
  show if decide (w="link")=true then _ else _
  rcases hw with rfl|rfl
  ·have h2:decide (p∈ls)=false:=by
    cases z:decide (p∈ls) with
    |false=>rfl
    |true=>exact absurd (by rw[z];rfl) h
   refine b7 ⟨_,rfl,_,_,_,rfl,rfl,rfl,_,rfl,kE,rfl,_,_,rfl,rfl,fl,rfl,?_,?_⟩
   ·rw[bl1];show ls.length+1<=16000000;omega
   ·dsimp only[aC]
    exact aY5 (p:=p) hl λls' k=>⟨⟨_,_,rfl,rfl,k9 ls',trivial,q1 rfl h2 ls' k⟩,λns z=>by cases z⟩
  ·have h2:decide (p∈ls)=true:=by
    cases z:decide (p∈ls) with
    |true=>rfl
    |false=>exact absurd (by rw[z];rfl) h
   exact aP ⟨_,rfl,_,_,_,rfl,rfl,rfl,_,rfl,kE,rfl,ls,p,rfl,by omega,trivial,q2 rfl h2⟩
end
theorem aY7:kD ad5 ["web","deed","link"] tV:=by
 rintro Ep xs Q ⟨ws,ls,S,d,rfl,hl,⟨i,j,hd⟩,e,q⟩
 obtain⟨w,hw,ed,eb,eq⟩:∃w:Str,(w="link"∨w="cut")/\tP d = .tup [.str w,.int (mm i j).1,.int (mm i j).2]/\cM ws ls S d=((!inB ws.length i||(!inB ws.length j||decide (i=j)))||decide (decide (mm i j∈ls)=decide (w="link")))/\
   ((w="link"->∀ls',tR ls (mm i j) ls'->gG ws ls S d (ws,ls',S))/\(w="cut"->gG ws ls S d (ws,ls.filter λz=>!decide (z∈[mm i j]),S))):=by
  rcases hd with rfl|rfl
  ·refine⟨"link",.inl rfl,rfl,?_,λ_ ls' h=>⟨ls',rfl,h⟩,λz=>absurd z (by decide)⟩
   unfold cM
   dsimp only
   cases decide (mm i j∈ls)<;>cases inB ws.length i<;>cases inB ws.length j<;>cases decide (i=j)<;>rfl
  ·refine⟨"cut",.inr rfl,rfl,?_,λz=>absurd z (by decide),λ_=>rfl⟩
   unfold cM
   dsimp only
   cases decide (mm i j∈ls)<;>cases inB ws.length i<;>cases inB ws.length j<;>cases decide (i=j)<;>rfl
 rw[ed]
 rw[<- aY4]at eb
 rw[eb]at e q
 clear eb ed hd
 generalize mm i j=p at e q eq
 obtain⟨a,b⟩:=p
 refine⟨_,rfl,1,rfl,_,rfl,rfl,trivial,?_⟩
 refine⟨_,rfl,_,rfl,_,_,_,rfl,rfl,rfl,ws,ls,a,rfl,_,rfl,?_⟩
 dsimp only at e q
 cases h1:inB ws.length a with
 |false=>exact b7 (b7 ⟨by decide,e (by rw[h1];rfl)⟩)
 |true=>
  rw[h1]at e q
  refine aP ⟨_,rfl,_,rfl,_,_,_,rfl,rfl,rfl,ws,ls,b,rfl,_,rfl,?_⟩
  cases h2:inB ws.length b with
  |false=>exact b7 (b7 ⟨by decide,e (by rw[h2];rfl)⟩)
  |true=>
   rw[h2]at e q
   refine aP ⟨_,rfl,_,_,_,rfl,rfl,rfl,_,rfl,_,_,_,rfl,rfl,rfl,.inl ⟨_,_,rfl,rfl,_,rfl,?_⟩⟩
   show if decide (a=b)=true then _ else _
   cases h3:decide (a=b) with
   |true=>exact b7 ⟨by decide,e (by rw[h3];rfl)⟩
   |false=>
    rw[h3]at e q
    have fw:flat (bM ws ls)=true:=mZ ws ls
    refine aP ?_
    show ad6 Ep _ [some (.sh (flat (bM ws ls)) (bM ws ls)),_,_]
    rw[fw]
    refine aY6 (p:=(a,b)) hl hw (λz=>e ?_) (λhw z ls' k=>q ?_ _ (eq.1 hw ls' k)) (λhw z=>q ?_ _ (eq.2 hw))
    ·rw[bn0 z];rfl
    ·rw[z,hw];rfl
    ·rw[z,hw];rfl
def tW:dX:=λEp xs Q=>∃ws ls x S d,xs = [bM ws ls,x,dP d]/\fA x S/\S.length<=1000/\ws.length<=60/\ls.length<=4000/\(cL ws.length S=false->Ep "BadSet")/\(cL ws.length S=true->(cM ws ls S d=true->Ep "BadDeed")/\(cM ws ls S d=false->∀r,gG ws ls S d r->Q (dsP r)))
def ad7 (Ep:Str->Prop):aS:=(aR (bE 3 (iJ Ep nF (a9 (a5 0) (a9 (a5 1) aC))))
 (aR (bE 4 (aO nK (a9 (a5 2) aC)))
 (aR (bI (hV (aZ (q2 (cW false) (aW (a5 4) (qC (.int 0))) (qC (.str "light")))) (aZ (q2 (cW false) (aW (a5 4) (qC (.int 0))) (qC (.str "douse"))))) (bC (bG (a9 (a5 0) (a9 (iJ Ep tT (a9 (a5 0) (a9 (a5 3) (a9 (a5 4) aC)))) aC)))) bH)
 (aR (bI (aZ (q2 (cW false) (aW (a5 4) (qC (.int 0))) (qC (.str "want")))) (bC (bG (a9 (bG (a9 (iJ Ep tU (a9 (a5 0) (a9 (a5 4) aC))) (a9 (aW (a5 0) (qC (.int 1))) aC))) (a9 (a5 3) aC)))) bH)
 (bC (bG (a9 (bG (a9 (aW (a5 0) (qC (.int 0))) (a9 (iJ Ep tV (a9 (a5 0) (a9 (a5 4) aC))) aC))) (a9 (a5 3) aC))))))))
theorem pU {ws ws':af}{ls:aa}{S:af}:flats [bM ws ls,.tup (intz S)]=true:=by
 show (flat (bM ws ls)&&(flat (.tup (intz S))&&true))=true
 rw[mZ,i6];rfl
theorem zJ (ws:af)(ls:aa):flats [PV.tup (intz ws),.tup (bN ls)]=true:=yO ws ls
theorem aY8:kD ad7 ["web","seeds","deed","chosen","told"] tW:=by
 rintro Ep xs Q ⟨ws,ls,x,S,d,rfl,hx,hS,hw,hl,e1,e2⟩
 refine⟨_,rfl,_,rfl,ws,ls,x,S,rfl,hx,hS,λst=>⟨trivial,?_⟩,e1⟩
 obtain⟨e,q⟩:=e2 st
 have sl:=pH st
 refine⟨_,rfl,d,rfl,trivial,?_⟩
 cases d with
 |light i=>
  refine⟨_,rfl,_,_,_,rfl,rfl,rfl,_,_,rfl,rfl,_,rfl,b7 (b7 ?_)⟩
  refine⟨_,rfl,_,rfl,_,rfl,_,rfl,ws,ls,S,.light i,rfl,by omega,⟨i,.inl rfl⟩,e,λg r k=>⟨fC,pU (ws':=ws),trivial,?_⟩⟩
  have k2:r=_:=k
  subst k2
  exact q g _ k
 |douse i=>
  refine⟨_,rfl,_,_,_,rfl,rfl,rfl,_,_,rfl,rfl,_,rfl,aP ⟨_,rfl,_,_,_,rfl,rfl,rfl,_,_,rfl,rfl,_,rfl,b7 ?_⟩⟩
  refine⟨_,rfl,_,rfl,_,rfl,_,rfl,ws,ls,S,.douse i,rfl,by omega,⟨i,.inr rfl⟩,e,λg r k=>⟨fC,pU (ws':=ws),trivial,?_⟩⟩
  have k2:r=_:=k
  subst k2
  exact q g _ k
 |want i j=>
  refine⟨_,rfl,_,_,_,rfl,rfl,rfl,_,_,rfl,rfl,_,rfl,aP ⟨_,rfl,_,_,_,rfl,rfl,rfl,_,_,rfl,rfl,_,rfl,aP ?_⟩⟩
  refine⟨_,rfl,_,_,_,rfl,rfl,rfl,_,_,rfl,rfl,_,rfl,b7 ?_⟩
  refine⟨_,rfl,_,rfl,ws,ls,S,i,j,rfl,by omega,e,λg r k=>⟨_,rfl,_,_,_,rfl,rfl,rfl,fC,?_,_,rfl,fC,?_,trivial,?_⟩⟩
  ·exact zJ _ _
  ·exact pU (ws':=ws)
  ·have k2:r=_:=k
   subst k2
   exact q g _ k
 |link i j=>
  refine⟨_,rfl,_,_,_,rfl,rfl,rfl,_,_,rfl,rfl,_,rfl,aP ⟨_,rfl,_,_,_,rfl,rfl,rfl,_,_,rfl,rfl,_,rfl,aP ?_⟩⟩
  refine⟨_,rfl,_,_,_,rfl,rfl,rfl,_,_,rfl,rfl,_,rfl,aP ?_⟩
  refine⟨_,rfl,_,_,_,rfl,rfl,rfl,_,rfl,_,rfl,ws,ls,S,.link i j,rfl,hl,⟨i,j,.inl rfl⟩,e,λg r k=>⟨fC,?_,_,rfl,fC,?_,trivial,?_⟩⟩
  ·exact zJ _ _
  ·exact pU (ws':=ws)
  ·obtain⟨l1,rfl,k2⟩:=k
   exact q g _ ⟨l1,rfl,k2⟩
 |cut i j=>
  refine⟨_,rfl,_,_,_,rfl,rfl,rfl,_,_,rfl,rfl,_,rfl,aP ⟨_,rfl,_,_,_,rfl,rfl,rfl,_,_,rfl,rfl,_,rfl,aP ?_⟩⟩
  refine⟨_,rfl,_,_,_,rfl,rfl,rfl,_,_,rfl,rfl,_,rfl,aP ?_⟩
  refine⟨_,rfl,_,_,_,rfl,rfl,rfl,_,rfl,_,rfl,ws,ls,S,.cut i j,rfl,hl,⟨i,j,.inr rfl⟩,e,λg r k=>⟨fC,?_,_,rfl,fC,?_,trivial,?_⟩⟩
  ·exact zJ _ _
  ·exact pU (ws':=ws)
  ·have k2:r=_:=k
   subst k2
   exact q g _ k
def tX:cK:=λxs Q=>∃c m:Int,xs = [.int c,.int m]/\0<=m/\m<=100/\∀d,Q (dP d)
def ad8:aS:=(aR (bE 2 (xM (cT (eN (a5 0) (qC (.int 5))) (gD (a5 1) (qC (.int 2)))) (qC (.int 1))))
 (aR (bE 3 (xM (cT (gD (eN (a5 0) (qC (.int 67))) (a5 0)) (gD (a5 1) (qC (.int 2)))) (qC (.int 1))))
 (aR (bI (aZ (jW (cT (a5 0) (qC (.int 41))) (qC (.int 7)))) (bE 3 (gD (a5 1) (cT (eN (a5 0) (qC (.int 41))) (aE3 (qC (.int 10)) (qC (.int 30)))))) bH)
 (aR (bE 4 (aW (fQ (a9 (qC (.str "light")) (a9 (qC (.str "douse")) (a9 (qC (.str "want")) (a9 (qC (.str "link")) (a9 (qC (.str "cut")) aC)))))) (cT (a5 0) (qC (.int 5)))))
 (aR (bI (hV (aZ (q2 (cW false) (a5 4) (qC (.str "light")))) (aZ (q2 (cW false) (a5 4) (qC (.str "douse"))))) (bC (bG (a9 (a5 4) (a9 (a5 2) aC)))) bH)
 (aR (bI (aZ (q2 (cW false) (a5 4) (qC (.str "want")))) (bC (bG (a9 (a5 4) (a9 (a5 2) (a9 (aW (fQ (a9 (cT (eN (a5 0) (qC (.int 71))) (qC (.int 4))) (a9 (cT (eN (a5 0) (qC (.int 71))) (qC (.int 63))) (a9 (mI (qC (.int 1))) (a9 (qC (.int 60)) (a9 (qC (.int 61)) aC)))))) (cT (eN (a5 0) (qC (.int 7))) (qC (.int 5)))) aC))))) bH)
 (bC (bG (a9 (a5 4) (a9 (a5 2) (a9 (a5 3) aC)))))))))))
def ad9:aS:=(aR (bE 4 (aW (fQ (a9 (qC (.str "light")) (a9 (qC (.str "douse")) (a9 (qC (.str "want")) (a9 (qC (.str "link")) (a9 (qC (.str "cut")) aC)))))) (cT (a5 0) (qC (.int 5)))))
 (aR (bI (hV (aZ (q2 (cW false) (a5 4) (qC (.str "light")))) (aZ (q2 (cW false) (a5 4) (qC (.str "douse"))))) (bC (bG (a9 (a5 4) (a9 (a5 2) aC)))) bH)
 (aR (bI (aZ (q2 (cW false) (a5 4) (qC (.str "want")))) (bC (bG (a9 (a5 4) (a9 (a5 2) (a9 (aW (fQ (a9 (cT (eN (a5 0) (qC (.int 71))) (qC (.int 4))) (a9 (cT (eN (a5 0) (qC (.int 71))) (qC (.int 63))) (a9 (mI (qC (.int 1))) (a9 (qC (.int 60)) (a9 (qC (.int 61)) aC)))))) (cT (eN (a5 0) (qC (.int 7))) (qC (.int 5)))) aC))))) bH)
 (bC (bG (a9 (a5 4) (a9 (a5 2) (a9 (a5 3) aC))))))))
theorem ae0 {j:Int}(h0:0<=j)(h1:j<5):j=0∨j=1∨j=2∨j=3∨j=4:=by omega
theorem ae1 {c m a b:Int}{s4:Option Slot}{Q:PV->Prop}(q:∀d,Q (dP d)):ad9 { nx:=λ_=>Q .non,rt:=Q } [si c,si m,si a,si b,s4]:=by
 have h0:0<=c%5:=bv3 _ (by decide)
 have h1:c%5<5:=by1 _ (by decide)
 have bW:∀w:Str,L2.atI [PV.str "light",.str "douse",.str "want",.str "link",.str "cut"] (c%5)=some (.str w)->(∀ρ,ρ = [si c,si m,si a,si b,some (.sh true (.str w))]->(aR (bI (hV (aZ (q2 (cW false) (a5 4) (qC (.str "light")))) (aZ (q2 (cW false) (a5 4) (qC (.str "douse"))))) (bC (bG (a9 (a5 4) (a9 (a5 2) aC)))) bH)
 (aR (bI (aZ (q2 (cW false) (a5 4) (qC (.str "want")))) (bC (bG (a9 (a5 4) (a9 (a5 2) (a9 (aW (fQ (a9 (cT (eN (a5 0) (qC (.int 71))) (qC (.int 4))) (a9 (cT (eN (a5 0) (qC (.int 71))) (qC (.int 63))) (a9 (mI (qC (.int 1))) (a9 (qC (.int 60)) (a9 (qC (.int 61)) aC)))))) (cT (eN (a5 0) (qC (.int 7))) (qC (.int 5)))) aC))))) bH)
 (bC (bG (a9 (a5 4) (a9 (a5 2) (a9 (a5 3) aC))))))) { nx:=λ_=>Q .non,rt:=Q } ρ)->ad9 { nx:=λ_=>Q .non,rt:=Q } [si c,si m,si a,si b,s4]:=λw hw k=>
  ⟨by decide,rfl,_,rfl,_,_,rfl,rfl,(by show (0:Int)<5;decide),_,_,_,rfl,rfl,hw,trivial,k _ rfl⟩
 have k0:0<=c/7%5:=bv3 _ (by decide)
 have k1:c/7%5<5:=by1 _ (by decide)
 rcases ae0 h0 h1 with e|e|e|e|e
 ·refine bW "light" (by rw[e];rfl) ?_
  rintro ρ rfl
  exact⟨_,rfl,_,_,rfl,rfl,_,rfl,b7 (b7 ⟨_,rfl,_,rfl,fC,rfl,trivial,q (.light a)⟩)⟩
 ·refine bW "douse" (by rw[e];rfl) ?_
  rintro ρ rfl
  exact⟨_,rfl,_,_,rfl,rfl,_,rfl,aP ⟨_,rfl,_,_,rfl,rfl,_,rfl,b7 ⟨_,rfl,_,rfl,fC,rfl,trivial,q (.douse a)⟩⟩⟩
 ·refine bW "want" (by rw[e];rfl) ?_
  rintro ρ rfl
  refine⟨_,rfl,_,_,rfl,rfl,_,rfl,aP ⟨_,rfl,_,_,rfl,rfl,_,rfl,aP ⟨_,rfl,_,_,rfl,rfl,_,rfl,b7 ?_⟩⟩⟩
  obtain⟨z,hz⟩:∃z:Int,L2.atI [PV.int (c/71%4),.int (c/71%63),.int (-1),.int 60,.int 61] (c/7%5)=some (.int z):=by
   rcases ae0 k0 k1 with e|e|e|e|e<;>rw[e]<;>exact⟨_,rfl⟩
  exact⟨_,rfl,_,rfl,_,rfl,_,_,rfl,rfl,⟨by decide,by decide⟩,_,_,rfl,rfl,(by show (0:Int)<4;decide),_,rfl,_,_,rfl,rfl,⟨by decide,by decide⟩,_,_,rfl,rfl,(by show (0:Int)<63;decide),_,rfl,le5,rfl,_,rfl,_,_,rfl,rfl,⟨by decide,by decide⟩,_,_,rfl,rfl,(by show (0:Int)<5;decide),_,_,_,rfl,rfl,hz,tQ,rfl,trivial,q (.want a z)⟩
 ·refine bW "link" (by rw[e];rfl) ?_
  rintro ρ rfl
  exact⟨_,rfl,_,_,rfl,rfl,_,rfl,aP ⟨_,rfl,_,_,rfl,rfl,_,rfl,aP ⟨_,rfl,_,_,rfl,rfl,_,rfl,aP ⟨_,rfl,_,rfl,_,rfl,tQ,rfl,trivial,q (.link a b)⟩⟩⟩⟩
 ·refine bW "cut" (by rw[e];rfl) ?_
  rintro ρ rfl
  exact⟨_,rfl,_,_,rfl,rfl,_,rfl,aP ⟨_,rfl,_,_,rfl,rfl,_,rfl,aP ⟨_,rfl,_,_,rfl,rfl,_,rfl,aP ⟨_,rfl,_,rfl,_,rfl,tQ,rfl,trivial,q (.cut a b)⟩⟩⟩⟩
theorem aY9:fB ad8 ["cell","many","one","other","word"] tX:=by
 rintro xs Q ⟨c,m,rfl,m0,m1,q⟩
 have mp:(0:Int)<m+2:=by omega
 refine⟨_,rfl,_,_,rfl,rfl,⟨by decide,by decide⟩,_,rfl,_,_,rfl,rfl,_,_,rfl,rfl,mp,_,_,rfl,rfl,trivial,?_⟩
 refine⟨_,rfl,_,_,rfl,rfl,⟨by decide,by decide⟩,_,rfl,_,_,rfl,rfl,_,rfl,_,_,rfl,rfl,_,_,rfl,rfl,mp,_,_,rfl,rfl,trivial,?_⟩
 refine⟨_,rfl,_,_,rfl,rfl,(by show (0:Int)<41;decide),.inl ⟨_,_,rfl,rfl,_,rfl,?_⟩⟩
 show if decide (c%41=7)=true then _ else _
 cases decide (c%41=7) with
 |false=>exact aP (ae1 q)
 |true=>
  refine b7 ⟨_,rfl,_,rfl,_,_,rfl,rfl,⟨by decide,by decide⟩,_,_,rfl,rfl,⟨by decide,by decide,by decide⟩,_,_,rfl,rfl,(by show (0:Int)<10^(30:Int).toNat;decide),_,_,rfl,rfl,trivial,?_⟩
  exact ae1 q
def ae2:aS:=(aR (iX 5 (fQ aC))
  (aR (gC (l0 (a5 2)) (dO 6)
   (aR (mD 5 (cT (a5 4) (qC (.int 5))))
   (bE 4 (eN (a5 4) (qC (.int 5))))))
  (aR (gC (l0 (a5 2)) (dO 7)
   (gC (xC (gD (a5 7) (qC (.int 1))) (a5 2)) (dO 8)
    (aR (bI (aZ (jW (cT (a5 4) (qC (.int 2))) (qC (.int 1)))) (mD 3 (bG (a9 (a5 7) (a9 (a5 8) aC)))) bH)
    (bE 4 (eN (a5 4) (qC (.int 2)))))))
  (bC (bG (a9 (aO fU (a9 (a5 5) aC)) (a9 (aO fU (a9 (a5 3) aC)) aC)))))))
def ae3:aS:=(aR (bE 5 (aO fU (a9 (iZ (l0 (a5 2)) [none,some 0,some 1] (dO 0) mH (cT (aO pQ (a9 (a5 1) (a9 (gD (a5 2) (a5 0)) aC))) (qC (.int 4)))) aC)))
 (aR (gC (l0 (oN (qC (.int 2)) (a5 2))) (dO 9)
  (aR (bE 4 (aO pQ (a9 (a5 0) (a9 (gD (gD (a5 1) (a5 2)) (a5 9)) aC))))
  (aR (bE 7 (cT (a5 4) (a5 2)))
  (aR (bE 8 (cT (gD (eN (a5 4) (a5 2)) (oN (qC (.int 7)) (a5 4))) (a5 2)))
  (aR (bE 10 (bG (a9 (aO x5 (a9 (a5 7) (a9 (a5 8) aC))) (a9 (aO rV (a9 (a5 7) (a9 (a5 8) aC))) aC))))
  (bI (rS (aZ (qNe (a5 7) (a5 8))) (aZ (q2 zC (a5 10) (a5 3)))) (mD 3 (a5 10)) bH))))))
 (bC (bG (a9 (a5 5) (a9 (aO fU (a9 (aO nI (a9 (a5 3) aC)) aC)) aC))))))
def ae4:aS:=(aR (iX 3 (fQ aC))
 (aR (bE 4 (eN (aO jB (a9 (a5 0) (a9 (a5 1) aC))) (qC (.int 2))))
 (aR (bI (rS (aZ (jW (cT (aO jB (a9 (a5 0) (a9 (a5 1) aC))) (qC (.int 2))) (qC (.int 1)))) (aZ (l9 (a5 2) (qC (.int 13))))) ae2 bH)
 ae3)))
theorem aZ0 {P:Program}{w:World}{t0 u0 t1 u1 t2 u2 t3 u3 t4 u4:Tok}:∃vs,KV (nJ tS) vs/\PySem.KeysOf (dA P w) #[⟨hashStr w "light",.str "light" t0,.int 1 u0⟩,⟨hashStr w "douse",.str "douse" t1,.int 1 u1⟩,⟨hashStr w "want",.str "want" t2,.int 2 u2⟩,⟨hashStr w "link",.str "link" t3,.int 2 u3⟩,⟨hashStr w "cut",.str "cut" t4,.int 2 u4⟩]/\
  PySem.Pairs (dA P w) (#[⟨hashStr w "light",.str "light" t0,.int 1 u0⟩,⟨hashStr w "douse",.str "douse" t1,.int 1 u1⟩,⟨hashStr w "want",.str "want" t2,.int 2 u2⟩,⟨hashStr w "link",.str "link" t3,.int 2 u3⟩,⟨hashStr w "cut",.str "cut" t4,.int 2 u4⟩]:Array DictEntry).toList vs/\(vs.map (·.1)).Nodup:=by
 have k:∀x t,(dA P w).is (.inr x) (.str x t)=true:=A5
 refine⟨[(.inr "light",.int 1 u0),(.inr "douse",.int 1 u1),(.inr "want",.int 2 u2),(.inr "link",.int 2 u3),(.inr "cut",.int 2 u4)],?_,?_,.cons (k _ _) rfl (.cons (k _ _) rfl (.cons (k _ _) rfl (.cons (k _ _) rfl (.cons (k _ _) rfl .nil)))),by show List.Nodup [(.inr "light":aD),.inr "douse",.inr "want",.inr "link",.inr "cut"];decide⟩
 ·exact .cons ⟨rfl,_,rfl⟩ (.cons ⟨rfl,_,rfl⟩ (.cons ⟨rfl,_,rfl⟩ (.cons ⟨rfl,_,rfl⟩ (.cons ⟨rfl,_,rfl⟩ .nil))))
 ·intro e he
  simp only[List.mem_toArray,bl2,bm1,bp1]at he
  rcases he with rfl|rfl|rfl|rfl|rfl<;>exact⟨_,k _ _,rfl⟩
end Core
namespace L2
open PySem PySem.Spec PyProof.Rows
def fI (H:Hp)(as:List Addr):Hp:=λb=>if b∈as then none else H b
abbrev Cx.off (X:Cx)(as:List Addr):Cx:={ X with H₀:=fI X.H₀ as,ex:=as }
section
variable {X:Cx}{pins:List (Addr×Obj)}{σ:St}{H:Hp}{s:Shared}{as:List Addr}
theorem nL {b:Addr}(h:b∈as):fI H as b=none:=by unfold fI;rw[if_pos h]
theorem pV {b:Addr}(h:b∉as):fI H as b=H b:=by unfold fI;rw[if_neg h]
theorem tY {b:Addr}{o:HO}(h:fI H as b=some o):H b=some o:=by
 unfold fI at h
 split at h
 ·cases h
 ·exact h
def pW:HO->Bool
 |.tup _=>false
 |.frz _ _=>false
 |.tbl _=>false
 |_=>true
theorem a8.off (I:a8 X pins σ H s)(he:X.ex = [])(ha:∀b∈as,(∃o,X.H₀ b=some o)/\∃o,H b=some o):a8 (X.off as) pins σ H s:=by
 have ok:=I.ok
 have tr:∀{b},b∈as->X.H₀ b≠none:=λ{b} h z=>by obtain⟨⟨o,e⟩,_⟩:=ha b h;rw[z]at e;cases e
 have out:∀{b},fI X.H₀ as b=none->b∉as->X.H₀ b=none:=λ{b} e n=>by rw[pV n]at e;exact e
 have no:∀{b},X.H₀ b=none->fI X.H₀ as b=none:=λ{b} e=>by
  by_cases z:b∈as
  ·exact nL z
  ·rw[pV z];exact e
 have nex:∀b:Addr,b∉X.ex:=λb z=>by rw[he]at z;cases z
 refine⟨⟨ok.mod,ok.kind,ok.glob,ok.blt,ok.above,ok.inj,ok.has,ok.cab,ok.hd,ok.frames,ok.stk,λb hb=>⟨?_,λx c e z=>?_⟩,λb o e=>⟨(ok.bs b o e).1,no (ok.bs b o e).2⟩,ok.bsz,λb o e z=>tr z (ok.bs b o e).2,λb hb z=>tr hb (ok.frf b z),ok.funs,λb hb=>no (ok.frf b hb)⟩,I.os,I.bare,
  ⟨λb o e n hb hx=>I.base.keep b o e (out n hx) hb (nex b),λb o e n hb hx=>I.base.slot b o e (out n hx) hb (nex b),λb o e n hx=>I.base.free b o e (out n hx) (nex b),λb o e _=>I.base.there b o e (nex b),λb xs e=>I.base.tups b xs (tY e),λb o u e=>I.base.frzs b o u (tY e),λb ps e=>I.base.tbls b ps (tY e)⟩,I.loc,I.cell,I.free,I.freeC,I.pin,I.hok,I.len⟩
 ·obtain⟨_,o,e⟩:=ha b hb
  exact λz=>by rw[z,I.free]at e;cases e
 ·obtain⟨_,o,e2⟩:=ha b hb
  rw[<- z,I.freeC x c e]at e2;cases e2
theorem a8.on (ok0:X.Ok)(I:a8 (X.off as) pins σ H s)(he:X.ex = [])(ha:∀b∈as,∃o,X.H₀ b=some o/\pW o=true)(hH:∀b∈as,∃o,H b=some o):a8 X pins σ H s:=by
 have tr:∀{b},X.H₀ b=none->b∉as:=λ{b} z h=>by obtain⟨o,e,_⟩:=ha b h;rw[z]at e;cases e
 have no:∀{b},X.H₀ b=none->fI X.H₀ as b=none:=λ{b} e=>by rw[pV (tr e)];exact e
 have nt:∀{b o},X.H₀ b=some o->pW o=false->fI X.H₀ as b=some o:=λ{b o} e m=>by
  rw[pV λh=>?_]
  ·exact e
  ·obtain⟨o2,e2,m2⟩:=ha b h
   rw[e]at e2;cases e2;rw[m]at m2;cases m2
 refine⟨ok0,I.os,I.bare,⟨λb o e n hb _=>I.base.keep b o e (no n) hb (tr n),λb o e n hb _=>I.base.slot b o e (no n) hb (tr n),λb o e n _=>I.base.free b o e (no n) (tr n),λb o e _=>?_,λb xs e=>I.base.tups b xs (nt e rfl),λb o u e=>I.base.frzs b o u (nt e rfl),λb ps e=>I.base.tbls b ps (nt e rfl)⟩,I.loc,I.cell,I.free,I.freeC,I.pin,I.hok,I.len⟩
 by_cases z:b∈as
 ·obtain⟨u,e2⟩:=hH b z
  exact (I.hok b u e2).at
 ·exact I.base.there b o e z
end
section
variable {X:Cx}{pins:List (Addr×Obj)}{σ:St}{H:Hp}{s:Shared}{l:Addr}{us:List V}
theorem a8.reG {u u':HO}(I:a8 X pins σ H s)(h:H l=some u)(n1:∀xs,u≠.tup xs)(n2:∀y,u≠.own y)(n3:∀o v,u≠.frz o v)(n4:∀ps,u≠.tbl ps)(ok:cF X.prog X.w (upd H l u') s.heap l u'):a8 X pins σ (upd H l u') s:=by
 have own:∀{c y:Addr},H c=some (.own y)->c≠l:=λ{c y} q z=>by rw[z,h]at q;exact n2 y (bl6 q)
 have tp:∀{c:Addr}{xs:List V},H c=some (.tup xs)->c≠l:=λ{c xs} q z=>by rw[z,h]at q;exact n1 xs (bl6 q)
 refine I.reH (a:=l) (λb n=>aF n) ⟨_,h⟩ (λxs q=>by rw[h]at q;exact n1 xs (bl6 q)) (λo' v q=>by have:=I.base.frzs l o' v q;rw[h]at this;exact n3 _ _ (bl6 this)) (λps q=>by rw[h]at q;exact n4 _ (bl6 q)) λb v q=>?_
 by_cases hb:b=l
 ·subst hb;rw[aU]at q;cases q;exact ok
 ·rw[aF hb]at q
  exact (I.hok b v q).stay (λ_ _ _ q=>q) (λc q=>by rw[aF (own q)];exact q) λc xs q=>by rw[aF (tp q)];exact q
theorem a8.toK (I:a8 X pins σ H s)(h:H l=some (.lst us)):a8 X pins σ (upd H l (PP.kL l us)) s:=by
 refine I.reG h (λ_ z=>by cases z) (λ_ z=>by cases z) (λ_ _ z=>by cases z) (λ_ z=>by cases z) ?_
 obtain⟨hl,its,n,r,e⟩:=(show cF X.prog X.w H s.heap l (.lst us) from I.hok l _ h)
 exact⟨⟨hl,its,n,r,e⟩,⟨_,e⟩,λh1 h2 ⟨hl,its,n,r,e⟩ k=>⟨hl,its,n,r,k _ e⟩⟩
theorem a8.ofK (I:a8 X pins σ H s)(h:H l=some (PP.kL l us)):a8 X pins σ (upd H l (.lst us)) s:=by
 refine I.reG h (λ_ z=>by unfold PP.kL at z;cases z) (λ_ z=>by unfold PP.kL at z;cases z) (λ_ _ z=>by unfold PP.kL at z;cases z) (λ_ z=>by unfold PP.kL at z;cases z) ?_
 obtain⟨⟨hl,its,n,r,e⟩,_⟩:=(show cF X.prog X.w H s.heap l (PP.kL l us) from I.hok l _ h)
 exact⟨hl,its,n,r,e⟩
theorem zK {H:Hp}{a:Addr}{o u:HO}(h:H a=some o):upd (upd H a u) a o=H:=by
 rw[iM]
 funext b
 by_cases e:b=a
 ·subst e;rw[aU,h]
 ·rw[aF e]
abbrev tZ (l:Addr)(Q:VK):VK:=λv H'=>∃us',H' l=some (.lst us')/\Q v (upd H' l (PP.kL l us'))
theorem zL {Q:VK}{u:Value}{s':Shared}(h:EP X pins σ (tZ l Q) u s'):EP X pins σ Q u s':=by
 obtain⟨v,H',I',r,us',e,q⟩:=h
 exact⟨v,_,I'.toK e,r,q⟩
theorem iE.thawK {id:String}{r:V->List V->Hp->VK->Prop}(h:iE X id r):iE X id (λx xs H Q=>∃l us,H l=some (PP.kL l us)/\r x xs (upd H l (.lst us)) (tZ l Q)):=by
 rintro pins s σ H x xs v us Q I rx rv ⟨l,ws,e,q⟩
 exact aJ (h pins s σ _ x xs v us _ (I.ofK e) rx rv q) λ_ _ z=>zL z
theorem cH.thawK {f:Value}{r:List V->Hp->VK->Prop}(h:cH X f r):cH X f (λxs H Q=>∃l us,H l=some (PP.kL l us)/\r xs (upd H l (.lst us)) (tZ l Q)):=by
 rintro pins s σ H xs us Q I rv ⟨l,ws,e,q⟩
 exact aJ (h pins s σ _ xs us _ (I.ofK e) rv q) λ_ _ z=>zL z
theorem fO.thawK {r:R2}(h:fO X r):fO X (λx y H Q=>∃l us,H l=some (PP.kL l us)/\r x y (upd H l (.lst us)) (tZ l Q)):=by
 rintro value slice pins s σ H x y v u Q I rx ry ⟨l,ws,e,q⟩ hs
 exact aJ (h value slice pins s σ _ x y v u _ (I.ofK e) rx ry q hs) λ_ _ z=>zL z
def ae5 (t:TE):TE:=λσ H Q=>t σ H λv H1=>∃a us,v = .ref a/\H1 a=some (.lst us)/\Q v (upd H1 a (PP.kL a us))
theorem zM {e:Expr}{t:TE}(h:PE X e t):PE X e (ae5 t):=by
 intro pins s σ H Q I hq
 refine aJ (h pins s σ H _ I hq) λv s1 h1=>?_
 obtain⟨x,H1,I1,r1,a,us,ex,ea,q⟩:=h1
 exact⟨x,_,I1.toK ea,r1,q⟩
end
section
variable {X:Cx}{o e:Expr}{es:List Expr}{to:TE}{t:TA}{name:Str}{id:String}{apos cpos:Pos}{r:V→List V→Hp→VK→Prop}
def pX (r:V->List V->Hp->VK->Prop)(to:TE)(t:TA):TE:=λσ H Q=>to σ H λx H1=>(∃l us,x = .ref l/\H1 l=some (PP.kL l us))/\t σ H1 λxs H2=>r x xs H2 Q
theorem ae6 (slot:Slot "list" name id)(hty:typeOf (.builtin id)=pure (.type "method_descriptor"))(hm:iE X id r)(ho:PE X o to)(ha:PA X (e::es) t)(hbase:attributeBase o name X.env (eval o X.env)=eval o X.env:=by rfl)(hfew:((backTo cpos (starEach (e::es) X.env)).all (λx=>!x.1)&&(backToKw cpos (keywordEach [] X.env)).all (λx=>x.1.isSome)
  &&decide ((e::es).length+([]:List Keyword).length+(if ([]:List Keyword).isEmpty then 0 else 1)<30))=true:=by rfl)(hline:(apos.endLine==cpos.line)=true:=by rfl)(hs:starEach (e::es) X.env=(false,eval e X.env)::starEach es X.env:=by rfl)(hplain:(backTo cpos (starEach es X.env)).any (·.1)=false:=by rfl) :
  PE X (.Call (.Attribute o name apos) (e::es) [] cpos) (pX r to t):=by
 intro pins s σ H Q I h
 refine wpAny_Call_method_late hbase hfew hline rfl (aJ (ho pins s σ H _ I h) λv s1 ⟨x,H1,I1,r1,⟨l,us,ex,el⟩,q1⟩=>?_)
 subst ex
 obtain⟨h1,h2⟩:=vT (I1.ofK el) r1 (oE (aM.of aU))
 refine⟨"list",id,bx0,slot,hty,h1,h2,?_⟩
 have hA:=ha cpos pins s1 σ H1 _ I1 q1
 rw[hs]at hA ⊢
 refine bx4 (by show (false||(backTo cpos (starEach es X.env)).any (·.1))=false;rw[hplain]<;>rfl) (by8 ?_)
 exact aJ hA λus s2 ⟨vs,H2,I2,r2,q2⟩=>hm pins s2 σ H2 _ vs v us Q I2 r1 r2 q2
def u5 (r:V->List V->Hp->VK->Prop)(to:TE):TE:=λσ H Q=>to σ H λx H1=>(∃l us,x = .ref l/\H1 l=some (PP.kL l us))/\r x [] H1 Q
theorem aZ1 (slot:Slot "list" name id)(hty:typeOf (.builtin id)=pure (.type "method_descriptor"))(hm:iE X id r)(ho:PE X o to)(hbase:attributeBase o name X.env (eval o X.env)=eval o X.env:=by rfl)(hline:(apos.endLine==cpos.line)=true:=by rfl):PE X (.Call (.Attribute o name apos) [] [] cpos) (u5 r to):=by
 intro pins s σ H Q I h
 refine wpAny_Call_method0_late hbase hline (aJ (ho pins s σ H _ I h) λv s1 ⟨x,H1,I1,r1,⟨l,us,ex,el⟩,q1⟩=>?_)
 subst ex
 obtain⟨h1,h2⟩:=vT (I1.ofK el) r1 (oE (aM.of aU))
 exact⟨"list",id,bx0,slot,hty,h1,h2,bx4 rfl (PySem.evalArgs_none (hm pins s1 σ H1 _ [] v [] Q I1 r1 .nil q1))⟩
def pY:V->List V->Hp->VK->Prop:=λx vs H Q=>∃l us y,x = .ref l/\vs = [y]/\H l=some (PP.kL l us)/\us.length<sizeLine/\Q .non (upd H l (PP.kL l (us++[y])))
theorem ae7:iE X "list.append" pY:=by
 rintro pins s σ H x xs v us Q I rx rv ⟨l,ws,y,rfl,rfl,e,hl,q⟩
 refine iE.thawK (r:=vV) o0 pins s σ H _ _ v us Q I rx rv ⟨l,ws,e,l,ws,y,rfl,rfl,aU,hl,_,aU,?_⟩
 rw[iM,iM];exact q
def u6:V->List V->Hp->VK->Prop:=λx vs H Q=>∃l us y,x = .ref l/\vs = []/\H l=some (PP.kL l us)/\us[us.length-1]? = some y/\Q y (upd H l (PP.kL l us.dropLast))
theorem aZ2:iE X "list.pop" u6:=by
 rintro pins s σ H x xs v us Q I rx rv ⟨l,ws,y,rfl,rfl,e,hl,q⟩
 refine iE.thawK (r:=J7) au1 pins s σ H _ _ v us Q I rx rv ⟨l,ws,e,l,ws,y,rfl,rfl,aU,hl,_,aU,?_⟩
 rw[iM,iM];exact q
def ae8:R2:=λx y H Q=>∃l us i v,x = .ref l/\y = .int i/\H l=some (PP.kL l us)/\atI us i=some v/\Q v H
theorem aZ3:fO X ae8:=by
 rintro value slice pins s σ H x y v u Q I rx ry ⟨l,us,i,w,rfl,rfl,e,hw,q⟩ hs
 refine fO.thawK J0 value slice pins s σ H _ _ v u Q I rx ry ⟨l,us,e,.inl ⟨l,us,i,w,rfl,rfl,aM.of aU,hw,_,aU,?_⟩⟩ hs
 rw[zK e];exact q
def aZ4:List V->Hp->VK->Prop:=λxs H Q=>∃l us,xs = [.ref l]/\H l=some (PP.kL l us)/\Q (.int us.length) H
theorem aZ5:cH X (.builtin "len") aZ4:=by
 rintro pins s σ H xs us Q I rv ⟨l,ws,rfl,e,q⟩
 refine cH.thawK J4 pins s σ H _ us Q I rv ⟨l,ws,e,l,ws,rfl,.inl (aM.of aU),_,aU,?_⟩
 rw[zK e];exact q
theorem aZ6 {a:Expr}{ta:TE}(ha:PE X a ta)(he:∀whole,isTrue a X.env whole=(do let v <- whole;standAt a.pos;holding [v] (truthy v))) :
  PT X a (λσ H Q=>ta σ H λx H'=>∃l us,x = .ref l/\H' l=some (PP.kL l us)/\Q (!us.isEmpty) H'):=by
 intro pins s σ H Q I h
 refine isTrue_plain (aJ (ha pins s σ H _ I h) λv s1 ⟨x,H1,I1,r1,l,us,ex,el,q1⟩=>?_) (he _)
 subst ex
 refine aJ (E7 pins s1 σ _ (.ref l) v (λk H'=>H'=upd H1 l (.lst us)/\k = !us.isEmpty) (I1.ofK el) r1 ⟨!us.isEmpty,.inl ⟨us,aM.of aU,rfl⟩,rfl,rfl⟩) λb s2 z=>?_
 obtain⟨H2,I2,rfl,rfl⟩:=z
 have I3:=I2.toK (l:=l) (us:=us) aU
 rw[zK el]at I3
 exact⟨H1,I3,q1⟩
end
end L2
namespace PP
open PySem L2 PyProof.Rows
structure KC (K:ac)(C:Addr):Prop where
 ns:PySem.W.nsIn K mainGlobals "Keeper" = some (some (.ref C))
 cls:gL K C
 n1:jP K C "standing"
 n2:jP K C "undone"
theorem KC.eq {K:ac}{C D:Addr}(h:KC K C)(e:PySem.W.nsIn K mainGlobals "Keeper" = some (some (.ref D))):D=C:=by
 have:=e.symm.trans h.ns
 cases this;rfl
def pZ (ρ:b6)(i:Nat)(a:Addr)(st un:List PV):Prop:=∃g,ρ[i]? = some (some (.kp g (.ob a) [(a,st,un)]))
theorem PX.kp {K:ac}{H0:Hp}{W:Addr->Prop}{σ:L2.St}{ρ:b6}{H:Hp}{i:Nat}{a:Addr}{st un:List PV}(px:PX K H0 W σ ρ H)(h:pZ ρ i a st un):σ[i]? = some (some (.ref a))/\cJ K (λ_=>none) H a st un:=by
 obtain⟨g,h⟩:=h
 obtain⟨v,ev,⟨r,_⟩,ks,_⟩:=px.sl i _ h
 cases r
 exact⟨ev,(ks _ bm8).any⟩
section
variable {X:Cx}{σ:L2.St}{H:Hp}{D:bP}{Q':VK}{C:Addr}{i:Nat}{te tb:aH}{tr:bT}{a b e:Expr}{es:List Expr}{pos p2 p3 apos:Pos}{x m:Str}
theorem qA {K:ac}{M:Addr->Prop}{H:Hp}{v:V}{x:PV}(r:aE K (λ_=>False) H v x):aE K M H v x:=r.same (aB.refl _) λ_ z=>z.elim
def u7 (i:Nat)(tb:aH):aH:=λρ Q=>∃a st un,pZ ρ i a st un/\tb ρ λy _=>∃n z,y = .int n/\L2.atI st n=some z/\Q z .fr
theorem aZ7 (kc:KC X.K C)(h:LE X (u7 i tb) σ H Q'):jO ae8 (iP X.K (dQ i) "standing") (LE X tb) σ H Q':=by
 obtain⟨W,ρ,Q,px,⟨a,st,un,hk,q⟩,k⟩:=h
 obtain⟨ev,C',dx,l1,l2,us1,us2,h1,h2,h3,h4,h5,h6,h7,r1,r2⟩:=px.kp hk
 obtain rfl:=kc.eq h1
 refine⟨_,ev,a,_,dx,_,_,rfl,h5,kc.cls,kc.n1,rfl,W,ρ,_,px,q,?_⟩
 rintro v H1 y g s r ⟨n,z,rfl,hz,q⟩
 cases r
 obtain⟨w,hw,rw⟩:=(r1.same s λ_ z=>z).atI hz
 exact⟨l1,us1,n,w,rfl,rfl,s _ _ h6,hw,k w H1 z .fr s (qA rw) q⟩
theorem ae9 (kc:KC X.K C)(i:Nat)(hb:QE X b tb)(hN:X.N[i]? = some x:=by rfl)(hv:cS X.env.scope x:=by first|exact Or.inl rfl|exact Or.inr (Or.inl rfl)|exact Or.inr (Or.inr rfl))(hd:(x==("__debug__":Str))=false:=by decide)(hcd:(x==("__classdict__":Str))=false:=by decide)(hbs:attributeBase (.Name x p2) "standing" X.env (eval (.Name x p2) X.env)=eval (.Name x p2) X.env:=by rfl)(hs:vO b:=by exact λ_ _=>rfl):QE X (.Subscript (.Attribute (.Name x p2) "standing" p3) b pos) (u7 i tb):=
 cA (m5 aZ3 (lZ (dC hN hv hd hcd) hbs) hb hs) λ_ _ _=>aZ7 kc
def af0 (i:Nat):aH:=λρ Q=>∃a st un,pZ ρ i a st un/\Q (.int st.length) .fr
theorem aZ8 (B:Bt X.mg)(kc:KC X.K C)(i:Nat)(hN:X.N[i]? = some x:=by rfl)(hv:cS X.env.scope x:=by first|exact Or.inl rfl|exact Or.inr (Or.inl rfl)|exact Or.inr (Or.inr rfl))(hd:(x==("__debug__":Str))=false:=by decide)(hcd:(x==("__classdict__":Str))=false:=by decide)(hbs:attributeBase (.Name x p2) "standing" X.env (eval (.Name x p2) X.env)=eval (.Name x p2) X.env:=by rfl)(hg:Gl X "len":=by rfl)(he:starEach [.Attribute (.Name x p2) "standing" p3] X.env=(false,eval (.Attribute (.Name x p2) "standing" p3) X.env)::starEach [] X.env:=by rfl)(hpl:(backTo pos (starEach [] X.env)).any (·.1)=false:=by rfl) :
  QE X (.Call (.Name "len" apos) [.Attribute (.Name x p2) "standing" p3] [] pos) (af0 i):=
 cA (qY aZ5 hg B.len PySem.boot_len (dR (lZ (dC hN hv hd hcd) hbs) dZ he) (he:=he) (hpl:=hpl)) λσ H Q' h=>by
  obtain⟨W,ρ,Q,px,⟨a,st,un,hk,q⟩,k⟩:=h
  obtain⟨ev,C',dx,l1,l2,us1,us2,h1,h2,h3,h4,h5,h6,h7,r1,r2⟩:=px.kp hk
  obtain rfl:=kc.eq h1
  refine⟨_,ev,a,_,dx,_,_,rfl,h5,kc.cls,kc.n1,rfl,l1,us1,rfl,h6,?_⟩
  rw[r1.length]
  exact k _ H _ .fr (aB.refl _) (.int _) q
def af1 (i:Nat):cQ:=λρ Q=>∃a st un,pZ ρ i a st un/\Q (!un.isEmpty)
theorem aZ9 (kc:KC X.K C)(i:Nat)(hN:X.N[i]? = some x:=by rfl)(hv:cS X.env.scope x:=by first|exact Or.inl rfl|exact Or.inr (Or.inl rfl)|exact Or.inr (Or.inr rfl))(hd:(x==("__debug__":Str))=false:=by decide)(hcd:(x==("__classdict__":Str))=false:=by decide)(hbs:attributeBase (.Name x p2) "undone" X.env (eval (.Name x p2) X.env)=eval (.Name x p2) X.env:=by rfl)(he:∀whole,isTrue (.Attribute (.Name x p2) "undone" p3) X.env whole=(do let v <- whole;standAt (Expr.Attribute (.Name x p2) "undone" p3).pos;holding [v] (truthy v)):=by intro _;rfl) :
  QT X (.Attribute (.Name x p2) "undone" p3) (af1 i):=
 lA (aZ6 (lZ (dC hN hv hd hcd) hbs) he) λσ H Q' h=>by
  obtain⟨W,ρ,Q,px,⟨a,st,un,hk,q⟩,k⟩:=h
  obtain⟨ev,C',dx,l1,l2,us1,us2,h1,h2,h3,h4,h5,h6,h7,r1,r2⟩:=px.kp hk
  obtain rfl:=kc.eq h1
  refine⟨_,ev,a,_,dx,_,_,rfl,h5,kc.cls,kc.n2,rfl,l2,us2,rfl,h7,?_⟩
  rw[rW r2.length]
  exact k _ H (aB.refl _) q
abbrev gW:=List PV->List PV->dX
def zN (K:ac)(p:gW):Sp:=λvs H Q E=>∃a us xs st un Qp Ep,vs=V.ref a::us/\cJ K (λ_=>none) H a st un/\Reps K (λ_=>True) H us xs/\p st un Ep xs Qp/\(∀v H' x,aB H H'->aE K (λa=>H a=none) H' v x->Qp x->Q v H')/\
 ∀n C H',aB H H'->PySem.W.nsIn K mainGlobals n=some (some (.ref C))->Ep n->E (.ref C) none H'
structure cY (P:Program)(w:World)(K:ac)(mg:Str->Option Value)(base:Heap)(k:Nat)(m:Str)(ps:List Str)(p:gW):Prop where
 ex:∃C f fd,KC K C/\eU K C m f/\bQ P w K mg base (bF P w) k f fd ps (zN K p)/\dJ K fd ps []
def fJ (Ep:Str->Prop)(i:Nat)(p:gW)(t:bT):aH:=λρ Q=>∃a st un,pZ ρ i a st un/\t ρ λxs=>p st un Ep (xs.map (·.1)) λz=>Q z .fr
theorem af2 {p:gW}{Ep:Str->Prop}(kc:KC X.K C)(hl:∀v w:V,([("standing",v),("undone",w)]:List (Str×V)).lookup m=none)(h:LE X (fJ Ep i p tr) σ H Q'):qW C m (zN X.K p) [] (EX X.K X.H₀ Ep) (dQ i) (LA X tr) σ H Q':=by
 obtain⟨W,ρ,Q,px,⟨a,st,un,hk,q⟩,k⟩:=h
 obtain⟨ev,kp⟩:=px.kp hk
 have kp':=kp
 obtain⟨C',dx,l1,l2,us1,us2,h1,h2,h3,h4,h5,h6,h7,r1,r2⟩:=kp'
 obtain rfl:=kc.eq h1
 refine⟨_,ev,a,dx,_,rfl,h5,hl _ _,W,ρ,_,px,q,λvs H1 xs s1 r1 q1=>?_⟩
 show zN X.K p (V.ref a::(vs++[])) H1 Q' (EX X.K X.H₀ Ep)
 rw[bo4]
 exact⟨a,vs,_,st,un,_,Ep,rfl,kp.keep (.same s1 λ_ z=>z) λ_ _ e _=>s1 _ _ e,r1.any,q1,λv H' x s2 r2 q2=>k v H' x .fr (s1.trans s2) (r2.same (aB.refl _) λ_ z=>s1.free z) q2,λn C H' s2 z1 z2=>⟨rfl,(px.same.trans s1).trans s2,n,C,rfl,z1,z2⟩⟩
theorem fD {X:Cx}:gN (bF X.prog X.w) X (EX X.K X.H₀ λ_=>False):=λ_ _ _ _ _ _ _ h=>by
 obtain⟨_,_,_,_,_,_,_,_,_,_,_,_,z⟩:=h
 exact z.elim
theorem zO {Ep:Str->Prop}{k j:Nat}{ps:List Str}{p:gW}(i:Nat)(hX:gN (bF X.prog X.w) X (EX X.K X.H₀ Ep))(d:cY X.prog X.w X.K X.mg X.base k m ps p)(hr:bD j X.A)(ha:QA X (e::es) tr)(hkj:k<=j:=by decide)(hl:∀v w:V,([("standing",v),("undone",w)]:List (Str×V)).lookup m=none:=by intro _ _;rfl)(hN:X.N[i]? = some x:=by rfl)(hv:cS X.env.scope x:=by first|exact Or.inl rfl|exact Or.inr (Or.inl rfl)|exact Or.inr (Or.inr rfl))(hd:(x==("__debug__":Str))=false:=by decide)(hcd:(x==("__classdict__":Str))=false:=by decide){pl:Sem Bool}(hst:starEach (e::es) X.env=(false,eval e X.env)::starEach es X.env:=by rfl)(hpl:(backTo pos (starEach es X.env)).any (·.1)=false:=by rfl)(ht:eval (.Call (.Attribute (.Name x p2) m apos) (e::es) [] pos) X.env=(do
   let ov <- eval (.Name x p2) X.env
   standAt apos.atName
   let (f,first) <- holding [ov] (getMethod ov m pl)
   callWith pos f first (backTo pos (starEach (e::es) X.env)) (backToKw pos (keywordEach [] X.env))):=by rfl):QE X (.Call (.Attribute (.Name x p2) m apos) (e::es) [] pos) (fJ Ep i p tr):=by
 obtain⟨C,f,fd,kc,M,F,b⟩:=d.ex
 exact cA (ar2 (pl:=pl) (dC hN hv hd hcd) kc.cls M F (hr.mono hkj) b .nil hX ha hst hpl ht) λ_ _ _=>af2 kc hl
theorem jH {Ep:Str->Prop}{k j:Nat}{ps:List Str}{p:gW}(i:Nat)(hX:gN (bF X.prog X.w) X (EX X.K X.H₀ Ep))(d:cY X.prog X.w X.K X.mg X.base k m ps p)(hr:bD j X.A)(hkj:k<=j:=by decide)(hl:∀v w:V,([("standing",v),("undone",w)]:List (Str×V)).lookup m=none:=by intro _ _;rfl)(hN:X.N[i]? = some x:=by rfl)(hv:cS X.env.scope x:=by first|exact Or.inl rfl|exact Or.inr (Or.inl rfl)|exact Or.inr (Or.inr rfl))(hd:(x==("__debug__":Str))=false:=by decide)(hcd:(x==("__classdict__":Str))=false:=by decide){pl:Sem Bool}(ht:eval (.Call (.Attribute (.Name x p2) m apos) [] [] pos) X.env=(do
   let ov <- eval (.Name x p2) X.env
   standAt apos.atName
   let (f,first) <- holding [ov] (getMethod ov m pl)
   callWith pos f first (backTo pos (starEach [] X.env)) (backToKw pos (keywordEach [] X.env))):=by rfl):QE X (.Call (.Attribute (.Name x p2) m apos) [] [] pos) (fJ Ep i p aC):=by
 obtain⟨C,f,fd,kc,M,F,b⟩:=d.ex
 refine cA (vI (pl:=pl) (dC hN hv hd hcd) kc.cls M F (hr.mono hkj) b .nil hX ht) λσ H Q' h=>?_
 obtain⟨v,e1,a,dx,fs,e2,e3,e4,q⟩:=af2 kc hl h
 exact⟨v,e1,a,dx,fs,e2,e3,e4,N8 q⟩
end
def kF (N:List Str)(a:Addr)(st un:List PV)(xs:List PV):b6:=some (.kp false (.ob a) [(a,st,un)])::(xs.map (λx=>some (.sh (flat x) x))++List.replicate (N.length-(xs.length+1)) none)
theorem af3 {K:ac}{H:Hp}{N:List Str}{a:Addr}{st un:List PV}{us:List V}{xs:List PV}(hk:cJ K (λ_=>none) H a st un)(r:Reps K (λ_=>True) H us xs):PX K H (λ_=>False) (L2.eV N (.ref a::us)) (kF N a st un xs) H:=by
 have lr:=r.length
 have own:∀{i:Nat}{m:Slot},(xs.map (λx=>some (Slot.sh (flat x) x))++List.replicate (N.length-(xs.length+1)) none)[i]? = some (some m)->∃x,xs[i]? = some x/\m = .sh (flat x) x:=λ{i m} h=>by
  by_cases hi:i<xs.length
  ·rw[br8 (by simpa using hi),bm7]at h
   rw[bk8 hi]at h ⊢
   cases h
   exact⟨_,rfl,rfl⟩
  ·rw[bu6 (by simpa using hi),List.getElem?_replicate]at h
   split at h<;>cases h
 refine⟨by unfold L2.eV kF;simp[lr],aB.refl _,λa z=>z.elim,λi m h=>?_,λi j x y a h1=>?_⟩
 ·match i,h with
  |0,h=>cases h;exact⟨_,rfl,⟨.ob,rfl⟩,λk hk'=>by rw[bl3.mp hk'];exact hk,bn3 _ _⟩
  |i+1,h=>
   obtain⟨x,hx,rfl⟩:=own h
   obtain⟨v,hv,rx⟩:=r.at hx
   refine⟨v,?_,oK (g:=false) (rx.same (aB.refl _) λ_ _ z=>z)⟩
   have hi:i<us.length:=(bl7.mp hv).1
   unfold L2.eV
   rw[br8 (by simpa using hi),bm7,bu2,hv];rfl
 ·match i,h1 with
  |0,h1=>cases h1
  |i+1,h1=>
   obtain⟨x,_,e⟩:=own h1
   cases e
theorem cY.of {P:Program}{w:World}{K:ac}{mg:Str->Option Value}{base:Heap}{k:Nat}{x qual:Str}{C:Addr}{ps N:List Str}{p:gW}{st:Stmt}{f:Addr}{fd:FuncData}(kc:KC K C)(M:eU K C x f)(F:cP K x qual st f fd)(S:FnScope N ps (aN st))(hb:∀(kV doc pm:Value) (an:Option Addr) (cdv ct:Value) (us:List Value),us.length=ps.length->bindArgs (PySem.W.fnOf x qual (e9 st) (cI st) (aN st) .none kV doc pm an cdv ct) ⟨us,[]⟩=pure (ps.zip us))(t:(Str->Prop)->aS)(len:∀st un Ep xs Q,p st un Ep xs Q->xs.length+1=ps.length)(rd:∀a st un Ep xs Q,p st un Ep xs Q->t Ep { nx:=λ_=>Q .non,rt:=Q } (kF N a st un xs))(body:∀(cdv:Value) (A:Around) (outer:List Env) (s:Shared) (H:Hp) (E:XK) (Ep:Str->Prop),bD k (A.deeper (envOfC qual (aN st) s.heap.objs.size f cdv))->k8 (cC (bF P w) P w K mg base N qual (aN st) f cdv A outer s H E) (EX K H Ep)->
   eZ (cC (bF P w) P w K mg base N qual (aN st) f cdv A outer s H E) (cI st) (t Ep)):cY P w K mg base (k+1) x ps p:=by
 refine⟨C,f,fd,kc,M,F.okX S (λvs H Q E h=>?_) (λcdv A outer s H vs Q E hr h=>?_),F.binds hb⟩
 ·obtain⟨a,us,xs,st,un,Qp,Ep,rfl,_,r,q,_⟩:=h
  rw[bo1,r.length];exact len st un Ep xs Qp q
 ·obtain⟨a,us,xs,st,un,Qp,Ep,rfl,hk,r,q,k,ke⟩:=h
  have ht:=body cdv A outer s H E Ep hr (yD λc d H' z=>?_)
  ·refine⟨_,ht,λ_=>False,kF N a st un xs,_,af3 hk r,rd a st un Ep xs Qp q,?_,?_,?_,?_⟩
   ·exact λW' σ' H' ρ' e px q=>k _ _ _ px.same .non q
   ·exact λv H' x s r q=>k _ _ _ s r q
   ·exact λW' σ' H' ρ' e px q=>q
   ·exact λW' σ' H' ρ' e px q=>q
  ·obtain⟨rfl,s1,n,C,rfl,z1,z2⟩:=z
   exact ke n C H' s1 z1 z2
def nM (H:Hp)(a b:Addr):Prop:=b=a∨∃C dx l1 l2,H a=some (.ins C dx [("standing",.ref l1),("undone",.ref l2)])/\(b=l1∨b=l2)
structure eQ (H H':Hp)(a:Addr):Prop where
 keep:∀b o,H b=some o->¬nM H a b->H' b=some o
 new:∀b,nM H' a b->nM H a b∨H b=none
 dx:∀C D dx dy fs gs,H a=some (.ins C dx fs)->H' a=some (.ins D dy gs)->dy=dx
 th:∀b o,H b=some o->∃o',H' b=some o'
theorem zP {H:Hp}{l:Addr}{o:HO}:∀b u,H b=some u->∃o',upd H l o b=some o':=λb u e=>by
 by_cases z:b=l
 ·rw[z,aU];exact⟨_,rfl⟩
 ·rw[aF z];exact⟨_,e⟩
section
variable {K:ac}{H0 H H' H'':Hp}{a:Addr}{st un st' un':List PV}
theorem cJ.spot (h:cJ K H0 H a st un):∀b,nM H a b->H0 b=none/\∃o,H b=some o/\m8 o=true:=by
 obtain⟨C,dx,l1,l2,us1,us2,h1,⟨z1,z2,z3,z4⟩,h3,h4,h5,h6,h7,r1,r2⟩:=h
 rintro b (rfl|⟨C',dx',m1,m2,e,hb⟩)
 ·exact⟨z1,_,h5,rfl⟩
 ·rw[h5]at e;cases e
  rcases hb with rfl|rfl
  ·exact⟨z3,_,h6,rfl⟩
  ·exact⟨z4,_,h7,rfl⟩
theorem eQ.trans (h:eQ H H' a)(k:eQ H' H'' a)(z:cJ K (λ_=>none) H' a st un):eQ H H'' a:=by
 refine⟨λb o e n=>k.keep b o (h.keep b o e n) λz=>?_,λb z=>?_,λC D dx dy fs gs e1 e2=>?_,λb o e=>let ⟨o1,e1⟩:=h.th b o e;k.th b o1 e1⟩
 ·rcases h.new b z with z|z
  ·exact n z
  ·rw[z]at e;cases e
 ·rcases k.new b z with z|z
  ·exact h.new b z
  ·cases e:H b with
   |none=>exact .inr rfl
   |some o=>
    by_cases w:nM H a b
    ·exact .inl w
    ·have:=h.keep b o e w;rw[z]at this;cases this
 ·obtain⟨C',dx',l1,l2,us1,us2,_,_,_,_,h5,_⟩:=z
  rw[k.dx _ _ _ _ _ _ h5 e2,h.dx _ _ _ _ _ _ e1 h5]
theorem eQ.same (s:aB H H')(h:cJ K H0 H a st un):eQ H H' a:=by
 obtain⟨C,dx,l1,l2,us1,us2,h1,_,h3,h4,h5,h6,h7,r1,r2⟩:=h
 refine⟨λb o e _=>s _ _ e,?_,λC D dx dy fs gs e1 e2=>?_,λb o e=>⟨o,s _ _ e⟩⟩
 ·rintro b (rfl|⟨C',dx',m1,m2,e,hb⟩)
  ·exact .inl (.inl rfl)
  ·rw[s _ _ h5]at e;cases e
   exact .inl (.inr ⟨_,_,_,_,h5,hb⟩)
 ·rw[h5]at e1;rw[s _ _ h5]at e2;cases e1;cases e2;rfl
theorem af4 {o:HO}(h:eL o=true):m8 o=false:=by cases o<;>first|rfl|cases h
theorem eQ.stay (ev:eQ H H' a)(k:cJ K (λ_=>none) H a st un){b:Addr}{o:HO}(e:H b=some o)(f:m8 o=false):H' b=some o:=ev.keep b o e λz=>by
 obtain⟨_,o',e',f'⟩:=k.spot b z
 rw[e]at e';cases e';rw[f]at f';cases f'
def eR (ρ:b6)(i:Nat):Prop:=∀(j:Nat) (g:Bool) (x:PV) (ks:List (Addr×List PV×List PV)),j≠i->ρ[j]?≠some (some (.kp g x ks))
theorem PX.mut {W:Addr->Prop}{σ:L2.St}{ρ:b6}{i:Nat}(px:PX K H0 W σ ρ H)(hi:ρ[i]? = some (some (.kp true (.ob a) [(a,st,un)])))(nk:eR ρ i)(ev:eQ H H' a)(k':cJ K (λ_=>none) H' a st' un') :
  PX K H0 W σ (ρ.set i (some (.kp true (.ob a) [(a,st',un')]))) H'/\Ev W H W H':=by
 obtain⟨v,evv,⟨r,_⟩,ks,_⟩:=px.sl i _ hi
 cases r
 have kp:cJ K H0 H a st un:=ks _ bm8
 have sp0:=kp.spot
 have kp0:=kp.any
 obtain⟨C,dx,l1,l2,us1,us2,h1,⟨z1,z2,z3,z4⟩,h3,h4,h5,h6,h7,r1,r2⟩:=kp
 have sty:∀b o,H b=some o->m8 o=false->H' b=some o:=λb o e f=>ev.stay kp0 e f
 have E:Ev W H W H':=λb o e n f=>⟨sty b o e f,n⟩
 have tw:∀a,W a->∃o,H a=some o/\eL o=true:=λa z=>(px.wm a z).2
 have nn:∀b,nM H' a b->H0 b=none:=λb z=>(ev.new b z).elim (λw=>(sp0 b w).1) λw=>px.same.free w
 refine⟨⟨by rw[bq8];exact px.len,λb o e=>ev.keep b o (px.same b o e) λz=>(by rw[(sp0 b z).1]at e;cases e),λb z=>?_,λj m h=>?_,λj k x y b h1 h2 h3 h4=>?_⟩,E⟩
 ·obtain⟨w1,o,w2,w3⟩:=px.wm b z
  exact⟨w1,o,sty b o w2 (af4 w3),w3⟩
 ·rcases dN h with⟨rfl,hl,e⟩|⟨hne,h⟩
  ·cases e
   obtain⟨C',dx',m1,m2,ws1,ws2,g1,_,g3,g4,g5,g6,g7,s1,s2⟩:=k'
   refine⟨_,evv,⟨.ob,rfl⟩,λk hk=>?_,bn3 _ _⟩
   rw[bl3.mp hk]
   exact⟨C',dx',m1,m2,ws1,ws2,g1,⟨z1,by rw[ev.dx _ _ _ _ _ _ h5 g5];exact z2,nn _ (.inr ⟨_,_,_,_,g5,.inl rfl⟩),nn _ (.inr ⟨_,_,_,_,g5,.inr rfl⟩)⟩,g3,g4,g5,g6,g7,s1,s2⟩
  ·obtain⟨u,e,q⟩:=px.sl j m h
   refine⟨u,e,?_⟩
   cases m with
   |sh g x=>exact aE.keep (E.keep tw) q
   |own x=>
    obtain⟨b,e1,e2,q⟩:=q
    refine⟨b,e1,e2,q.keep (E.keep tw) λo z=>?_⟩
    obtain⟨o',w2,w3⟩:=tw b e2
    rw[z]at w2;cases w2
    exact sty b o z (af4 w3)
   |kp g x ks=>exact absurd h (nk j g x ks hne)
 ·rcases dN h1 with⟨_,_,e⟩|⟨n1,h1⟩
  ·cases e
  ·rcases dN h2 with⟨_,_,e⟩|⟨n2,h2⟩
   ·cases e
   ·exact px.dis j k x y b h1 h2 h3 h4
end
abbrev dG:=List PV->List PV->(Str->Prop)->List PV->(PV->List PV->List PV->Prop)->Prop
def jI (K:ac)(p:dG):Sp:=λvs H Q E=>∃a us xs st un Qp Ep,vs=V.ref a::us/\cJ K (λ_=>none) H a st un/\(Reps K (λ_=>False) H us xs/\flats xs=true)/\p st un Ep xs Qp/\
 (∀v H' x st' un',eQ H H' a->cJ K (λ_=>none) H' a st' un'->aE K (λ_=>False) H' v x->flat x=true->Qp x st' un'->Q v H')/\
 ∀n C H',aB H H'->PySem.W.nsIn K mainGlobals n=some (some (.ref C))->Ep n->E (.ref C) none H'
structure jJ (P:Program)(w:World)(K:ac)(mg:Str->Option Value)(base:Heap)(k:Nat)(m:Str)(ps:List Str)(p:dG):Prop where
 ex:∃C f fd,KC K C/\eU K C m f/\bQ P w K mg base (bF P w) k f fd ps (jI K p)/\dJ K fd ps []
structure zQ (P:Program)(w:World)(K:ac)(mg:Str->Option Value)(base:Heap)(k:Nat)(x:Str)(ps:List Str)(p:dG):Prop where
 ex:∃f fd,bQ P w K mg base (bF P w) k f fd ps (jI K p)/\dJ K fd ps []/\PySem.W.keepIn K (.ref f)=true/\mg x=some (.ref f)
section
variable {K:ac}{H:Hp}{a l1 l2 C dx p:Addr}{st un:List PV}{us1 us2 ws:List V}
theorem u8 {o:HO}{u:HO}{l:Addr}(e:H l=some u)(n1:∀xs,u≠.tup xs)(n2:∀o v,u≠.frz o v):dU (λ_=>False) (λ_=>False) H (upd H l o):=
 ⟨λ_ _ z=>z.elim,λ_ _ z=>z.elim,λ_ _ z=>z.elim,λb xs h=>by rw[aF (λz=>by rw[z,e]at h;exact n1 _ (bl6 h))];exact h,λb o v h _=>by rw[aF (λz=>by rw[z,e]at h;exact n2 _ _ (bl6 h))];exact h⟩
theorem u9 {l:Addr}{us xs:List V}:kL l us≠.tup xs:=λz=>by unfold kL at z;cases z
theorem uA {l:Addr}{us:List V}{o:Obj}{v:HO}:kL l us≠.frz o v:=λz=>by unfold kL at z;cases z
theorem af5 {l x:Addr}{us:List V}:kL l us≠.own x:=λz=>by unfold kL at z;cases z
theorem af6 {l C dx:Addr}{us:List V}{fs:List (Str×V)}:kL l us≠.ins C dx fs:=λz=>by unfold kL at z;cases z
structure dH (K:ac)(H:Hp)(a C dx l1 l2:Addr)(us1 us2:List V)(st un:List PV):Prop where
 ns:PySem.W.nsIn K mainGlobals "Keeper" = some (some (.ref C))
 ne:l1≠l2
 od:H dx=some (.own a)
 oa:H a=some (.ins C dx [("standing",.ref l1),("undone",.ref l2)])
 o1:H l1=some (kL l1 us1)
 o2:H l2=some (kL l2 us2)
 r1:Reps K (λ_=>False) H us1 st
 r2:Reps K (λ_=>False) H us2 un
theorem cJ.w (h:cJ K (λ_=>none) H a st un):∃C dx l1 l2 us1 us2,dH K H a C dx l1 l2 us1 us2 st un:=by
 obtain⟨C,dx,l1,l2,us1,us2,h1,_,h3,h4,h5,h6,h7,r1,r2⟩:=h
 exact⟨C,dx,l1,l2,us1,us2,h1,h3,h4,h5,h6,h7,r1,r2⟩
theorem dH.at (h:dH K H a C dx l1 l2 us1 us2 st un):cJ K (λ_=>none) H a st un:=⟨C,dx,l1,l2,us1,us2,h.ns,⟨rfl,rfl,rfl,rfl⟩,h.ne,h.od,h.oa,h.o1,h.o2,h.r1,h.r2⟩
theorem dH.dne (h:dH K H a C dx l1 l2 us1 us2 st un):(dx≠l1/\dx≠l2)/\a≠l1/\a≠l2:=by
 refine⟨⟨λz=>?_,λz=>?_⟩,λz=>?_,λz=>?_⟩
 ·have:=h.od;rw[z,h.o1]at this;exact af5 (bl6 this)
 ·have:=h.od;rw[z,h.o2]at this;exact af5 (bl6 this)
 ·have:=h.oa;rw[z,h.o1]at this;exact af6 (bl6 this)
 ·have:=h.oa;rw[z,h.o2]at this;exact af6 (bl6 this)
theorem dH.ev1 (h:dH K H a C dx l1 l2 us1 us2 st un){l:Addr}(hl:l=l1∨l=l2)(o:HO):eQ H (upd H l o) a:=by
 obtain⟨_,n1,n2⟩:=h.dne
 have na:a≠l:=by rcases hl with rfl|rfl<;>assumption
 refine⟨λb u e n=>?_,?_,λC' D dx' dy fs gs e1 e2=>?_,zP⟩
 ·rw[aF (λz=>n (.inr ⟨_,_,_,_,h.oa,by rw[z];exact hl⟩))];exact e
 ·rintro b (rfl|⟨C',dx',m1,m2,e,hb⟩)
  ·exact .inl (.inl rfl)
  ·rw[aF na]at e
   exact .inl (.inr ⟨_,_,_,_,e,hb⟩)
 ·rw[aF na,e1]at e2;cases e2;rfl
theorem dH.put1 (h:dH K H a C dx l1 l2 us1 us2 st un){ys:List PV}(r:Reps K (λ_=>False) H ws ys):dH K (upd H l1 (kL l1 ws)) a C dx l1 l2 ws us2 ys un:=by
 obtain⟨⟨d1,d2⟩,n1,n2⟩:=h.dne
 have k:dU (λ_=>False) (λ_=>False) H (upd H l1 (kL l1 ws)):=u8 h.o1 (λ_=>u9) λ_ _=>uA
 exact⟨h.ns,h.ne,by rw[aF d1];exact h.od,by rw[aF n1];exact h.oa,aU,by rw[aF (Ne.symm h.ne)];exact h.o2,r.keep k,h.r2.keep k⟩
theorem dH.put2 (h:dH K H a C dx l1 l2 us1 us2 st un){ys:List PV}(r:Reps K (λ_=>False) H ws ys):dH K (upd H l2 (kL l2 ws)) a C dx l1 l2 us1 ws st ys:=by
 obtain⟨⟨d1,d2⟩,n1,n2⟩:=h.dne
 have k:dU (λ_=>False) (λ_=>False) H (upd H l2 (kL l2 ws)):=u8 h.o2 (λ_=>u9) λ_ _=>uA
 exact⟨h.ns,h.ne,by rw[aF d2];exact h.od,by rw[aF n2];exact h.oa,by rw[aF h.ne];exact h.o1,aU,h.r1.keep k,r.keep k⟩
theorem dH.new2 (h:dH K H a C dx l1 l2 us1 us2 st un)(hp:H p=none):dH K (upd (upd H p (kL p [])) a (.ins C dx [("standing",.ref l1),("undone",.ref p)])) a C dx l1 p us1 [] st []/\eQ H (upd (upd H p (kL p [])) a (.ins C dx [("standing",.ref l1),("undone",.ref p)])) a:=by
 have np:∀{b:Addr}{o:HO},H b=some o->b≠p:=λ{b o} e z=>by rw[z,hp]at e;cases e
 obtain⟨⟨d1,d2⟩,n1,n2⟩:=h.dne
 have da:dx≠a:=λz=>by have:=h.od;rw[z,h.oa]at this;cases this
 have e0:upd H p (kL p []) a=some (.ins C dx [("standing",.ref l1),("undone",.ref l2)]):=by rw[aF (np h.oa)];exact h.oa
 have k:dU (λ_=>False) (λ_=>False) H (upd (upd H p (kL p [])) a (.ins C dx [("standing",.ref l1),("undone",.ref p)])):=by
  refine⟨λ_ _ z=>z.elim,λ_ _ z=>z.elim,λ_ _ z=>z.elim,λb xs e=>?_,λb o v e _=>?_⟩
  ·rw[aF (λz=>by rw[z,h.oa]at e;cases e),aF (np e)];exact e
  ·rw[aF (λz=>by rw[z,h.oa]at e;cases e),aF (np e)];exact e
 refine⟨⟨h.ns,np h.o1,?_,aU,?_,?_,h.r1.keep k,.nil⟩,λb u e n=>?_,?_,λC' D dx' dy fs gs e1 e2=>?_,λb u e=>let ⟨o1,e1⟩:=zP b u e;zP b o1 e1⟩
 ·rw[aF da,aF (np h.od)];exact h.od
 ·rw[aF (Ne.symm n1),aF (np h.o1)];exact h.o1
 ·rw[aF (λz=>np h.oa z.symm),aU]
 ·rw[aF (λz=>n (.inl z)),aF (np e)];exact e
 ·rintro b (rfl|⟨C',dx',m1,m2,e,hb⟩)
  ·exact .inl (.inl rfl)
  ·rw[aU]at e;cases e
   rcases hb with rfl|rfl
   ·exact .inl (.inr ⟨_,_,_,_,h.oa,.inl rfl⟩)
   ·exact .inr hp
 ·rw[aU]at e2;rw[h.oa]at e1;cases e1;cases e2;rfl
end
end PP
namespace L2
open PySem PySem.Spec PyProof.Rows
section
variable {X:Cx}{e:Expr}
def af7 (X:Cx)(te:PP.aH):TE:=λσ H Q=>∃as,(∀b∈as,(∃o,X.H₀ b=some o/\pW o=true)/\∃o,H b=some o)/\PP.LE (X.off as) te σ H λv H'=>(∀b∈as,∃o,H' b=some o)/\Q v H'
theorem zR {te:PP.aH}(h:∀as,PP.QE (X.off as) e te)(he:X.ex = []:=by rfl):PE X e (af7 X te):=by
 rintro pins s σ H Q I ⟨as,ha,q⟩
 have I1:=I.off he (as:=as) λb z=>let ⟨⟨o,e,_⟩,l⟩:=ha b z;⟨⟨o,e⟩,l⟩
 refine aJ (h as pins s σ H _ I1 q) λu s' hq=>?_
 obtain⟨v,H',I2,r,z,q⟩:=hq
 exact⟨v,H',a8.on I.ok I2 he (λb z=>(ha b z).1) z,r,q⟩
end
end L2
namespace PP
open PySem L2 PyProof.Rows
structure fE (X:Cx)(as:List Addr)(a:Addr)(i:Nat)(σ:L2.St)(ρ:b6)(H:Hp):Prop where
 px:∃W,PX X.K (fI X.H₀ as) W σ ρ H
 ev:eQ X.H₀ H a
 k0:∃st un,cJ X.K (λ_=>none) X.H₀ a st un
 sm:∀b∈as,(∃o,X.H₀ b=some o/\pW o=true)/\∃o,H b=some o
 kp:∃st un,ρ[i]? = some (some (.kp true (.ob a) [(a,st,un)]))
 nk:eR ρ i
structure qB where
 ad:Addr
 nx:b6->Prop
 rt:PV->List PV->List PV->Prop
structure EK (X:Cx)(as:List Addr)(i:Nat)(DK:qB)(D:bP):Prop where
 nx:∀σ' H' ρ',fE X as DK.ad i σ' ρ' H'->DK.nx ρ'->D.nx σ' H'
 rt:∀v H' x st un,eQ X.H₀ H' DK.ad->cJ X.K (λ_=>none) H' DK.ad st un->aE X.K (λ_=>False) H' v x->flat x=true->DK.rt x st un->D.rt v H'
abbrev eG:=qB->b6->Prop
def LK (X:Cx)(i:Nat)(t:eG):TS:=λD σ H=>∃as ρ DK,fE X as DK.ad i σ ρ H/\t DK ρ/\EK X as i DK D
abbrev QK (X:Cx)(i:Nat)(st:Stmt)(t:eG):Prop:=PS X st (LK X i t)
abbrev qD (X:Cx)(i:Nat)(sts:List Stmt)(t:eG):Prop:=dB X sts (LK X i t)
theorem zS {ρ:b6}{i:Nat}{m m':Option Slot}(h:ρ[i]? = some m):(ρ.set i m')[i]? = some m':=br1 (bl7.mp h).1
theorem eR.set {ρ:b6}{i:Nat}{m:Option Slot}(h:eR ρ i):eR (ρ.set i m) i:=λj g x ks n z=>h j g x ks n (by rw[bn2 (Ne.symm n)]at z;exact z)
theorem eR.put {ρ:b6}{i j:Nat}{g:Bool}{x:PV}(h:eR ρ i):eR (ρ.set j (some (.sh g x))) i:=λk g x ks n z=>by
 rcases dN z with⟨_,_,e⟩|⟨_,z⟩
 ·cases e
 ·exact h k g x ks n z
section
variable {X:Cx}{as:List Addr}{a:Addr}{i:Nat}{σ:L2.St}{ρ:b6}{H H1 H2:Hp}{st un st' un':List PV}
theorem fE.at (k:fE X as a i σ ρ H)(hk:ρ[i]? = some (some (.kp true (.ob a) [(a,st,un)]))):σ[i]? = some (some (.ref a))/\cJ X.K (λ_=>none) H a st un:=by
 obtain⟨W,px⟩:=k.px
 exact px.kp ⟨true,hk⟩
theorem fE.mono (k:fE X as a i σ ρ H)(s:aB H H1):fE X as a i σ ρ H1:=by
 obtain⟨W,px⟩:=k.px
 obtain⟨st,un,hk⟩:=k.kp
 have kp:=(k.at hk).2
 exact⟨⟨W,px.mono s⟩,k.ev.trans (eQ.same s kp) kp,k.k0,λb hb=>let ⟨h1,o,e⟩:=k.sm b hb;⟨h1,o,s _ _ e⟩,k.kp,k.nk⟩
theorem fE.step (k:fE X as a i σ ρ H)(ev:eQ H H2 a)(kp:cJ X.K (λ_=>none) H2 a st' un'):fE X as a i σ (ρ.set i (some (.kp true (.ob a) [(a,st',un')]))) H2:=by
 obtain⟨W,px⟩:=k.px
 obtain⟨st,un,hk⟩:=k.kp
 exact⟨⟨W,(px.mut hk k.nk ev kp).1⟩,k.ev.trans ev (k.at hk).2,k.k0,λb hb=>let ⟨h1,o,e⟩:=k.sm b hb;⟨h1,ev.th b o e⟩,⟨_,_,zS hk⟩,k.nk.set⟩
theorem fE.set {j:Nat}{v:V}{x:PV}(k:fE X as a i σ ρ H)(ij:j≠i)(r:aE X.K (λ_=>False) H v x):fE X as a i (σ.set j (some v)) (ρ.set j (some (.sh true x))) H:=by
 obtain⟨W,px⟩:=k.px
 obtain⟨st,un,hk⟩:=k.kp
 exact⟨⟨W,px.setSh (qA r)⟩,k.ev,k.k0,k.sm,⟨st,un,by rw[bn2 ij];exact hk⟩,k.nk.put⟩
theorem dH.same {K:ac}{C dx l1 l2:Addr}{us1 us2:List V}(h:dH K H a C dx l1 l2 us1 us2 st un)(s:aB H H1):dH K H1 a C dx l1 l2 us1 us2 st un:=
 ⟨h.ns,h.ne,s _ _ h.od,s _ _ h.oa,s _ _ h.o1,s _ _ h.o2,h.r1.same s λ_ z=>z,h.r2.same s λ_ z=>z⟩
theorem ba0 {s s' u u':List PV}{b c:Addr}(h:ρ[i]? = some (some (.kp true (.ob b) [(b,s,u)])))(h':ρ[i]? = some (some (.kp true (.ob c) [(c,s',u')]))):s=s'/\u=u':=by
 rw[h]at h';cases h';exact⟨rfl,rfl⟩
end
section
variable {X:Cx}{i:Nat}{σ:L2.St}{H:Hp}{D:bP}{te:aH}{C:Addr}{e:Expr}{es:List Expr}{x y m:Str}{pos p2 p3 p4 p5 apos cpos:Pos}{st:Stmt}{sts:List Stmt}{t u:eG}
def nN (t u:eG):eG:=λDK ρ=>t { DK with nx:=u DK } ρ
theorem qE (h1:QK X i st t)(h2:qD X i sts u):qD X i (st::sts) (nN t u):=by
 refine mO (kK h1 h2) λD σ H h=>?_
 obtain⟨as,ρ,DK,ks,q,ek⟩:=h
 exact⟨as,ρ,{ DK with nx:=u DK },ks,q,λσ' H' ρ' ks' q'=>⟨as,ρ',DK,ks',q',ek⟩,ek.rt⟩
theorem qF (h1:QK X i st t):qD X i [st] t:=kM h1
def zT (i:Nat)(te:aH):eG:=λDK ρ=>te ρ λx _=>flat x=true/\∃st un,ρ[i]? = some (some (.kp true (.ob DK.ad) [(DK.ad,st,un)]))/\st.length<16000000/\DK.nx (ρ.set i (some (.kp true (.ob DK.ad) [(DK.ad,st++[x],un)])))
theorem ba1 (kc:KC X.K C)(h:LK X i (zT i te) D σ H):kN (pX pY (iP X.K (dQ i) "standing") (gZ (af7 X te) fN)) D σ H:=by
 obtain⟨as,ρ,DK,ks,q,ek⟩:=h
 obtain⟨st0,un0,hk⟩:=ks.kp
 obtain⟨ev,kp⟩:=ks.at hk
 obtain⟨C',dx,l1,l2,us1,us2,kw⟩:=kp.w
 obtain rfl:=kc.eq kw.ns
 obtain⟨W,px⟩:=ks.px
 refine⟨_,ev,DK.ad,_,dx,_,_,rfl,kw.oa,kc.cls,kc.n1,rfl,⟨l1,us1,rfl,kw.o1⟩,as,ks.sm,W,ρ,_,px,q,?_⟩
 rintro v H1 x g s r ⟨fl,st,un,hk',hl,q⟩
 obtain⟨rfl,rfl⟩:=ba0 hk hk'
 have kw1:=kw.same s
 have lr:=kw.r1.length
 refine⟨λb hb=>let ⟨_,o,e⟩:=ks.sm b hb;⟨o,s _ _ e⟩,l1,us1,v,rfl,rfl,kw1.o1,gQ (by omega),?_⟩
 exact ek.nx _ _ _ ((ks.mono s).step (kw1.ev1 (.inl rfl) _) (kw1.put1 (kw1.r1.append (.cons (r.flat fl) .nil))).at) q
theorem ba2 (kc:KC X.K C)(i:Nat)(he:∀as,QE (X.off as) e te)(hex:X.ex = []:=by rfl)(hN:X.N[i]? = some x:=by rfl)(hv:cS X.env.scope x:=by first|exact Or.inl rfl|exact Or.inr (Or.inl rfl)|exact Or.inr (Or.inr rfl))(hd:(x==("__debug__":Str))=false:=by decide)(hcd:(x==("__classdict__":Str))=false:=by decide)(hbs:attributeBase (.Name x p2) "standing" X.env (eval (.Name x p2) X.env)=eval (.Name x p2) X.env:=by rfl)(hbase:attributeBase (.Attribute (.Name x p2) "standing" p3) "append" X.env (eval (.Attribute (.Name x p2) "standing" p3) X.env)=eval (.Attribute (.Name x p2) "standing" p3) X.env:=by rfl)(hfew:((backTo cpos (starEach [e] X.env)).all (λx=>!x.1)&&(backToKw cpos (keywordEach [] X.env)).all (λx=>x.1.isSome)&&decide (([e]:List Expr).length+([]:List Keyword).length+(if ([]:List Keyword).isEmpty then 0 else 1)<30))=true:=by rfl)(hline:(apos.endLine==cpos.line)=true:=by rfl)(hs:starEach [e] X.env=(false,eval e X.env)::starEach [] X.env:=by rfl)(hplain:(backTo cpos (starEach [] X.env)).any (·.1)=false:=by rfl)(hsw:swapsWith (.Call (.Attribute (.Attribute (.Name x p2) "standing" p3) "append" apos) [e] [] cpos) none pos.line X.env=pure false:=by rfl) :
  QK X i (.Expr (.Call (.Attribute (.Attribute (.Name x p2) "standing" p3) "append" apos) [e] [] cpos) pos) (zT i te):=
 d6 (lW (ae6 bw4 bw5 ae7 (lZ (dC hN hv hd hcd) hbs) (dR (zR he hex) dZ hs) hbase hfew hline hs hplain) hsw) λ_ _ _=>ba1 kc
def zU (i:Nat):eG:=λDK ρ=>∃st un,ρ[i]? = some (some (.kp true (.ob DK.ad) [(DK.ad,st,un)]))/\DK.nx (ρ.set i (some (.kp true (.ob DK.ad) [(DK.ad,st,[])])))
theorem ba3 (kc:KC X.K C)(h:LK X i (zU i) D σ H):F1 X.K (dQ i) (ae5 (vF fN)) "undone" D σ H:=by
 obtain⟨as,ρ,DK,ks,⟨st,un,hk,q⟩,ek⟩:=h
 obtain⟨ev,kp⟩:=ks.at hk
 obtain⟨C',dx,l1,l2,us1,us2,kw⟩:=kp.w
 obtain rfl:=kc.eq kw.ns
 refine⟨bo0 _,λp hp=>⟨p,[],rfl,aU,_,ev,DK.ad,_,dx,[("standing",.ref l1),("undone",.ref l2)],rfl,?_,kc.cls,kc.n2,(by show 2<1000;decide),?_⟩⟩
 ·rw[iM,aF (λz=>by have:=kw.oa;rw[z,hp]at this;cases this)];exact kw.oa
 ·rw[iM]
  obtain⟨kw',ev'⟩:=kw.new2 hp
  exact ek.nx _ _ _ (ks.step ev' kw'.at) q
theorem ba4 (kc:KC X.K C)(i:Nat)(hN:X.N[i]? = some x:=by rfl)(hv:cS X.env.scope x:=by first|exact Or.inl rfl|exact Or.inr (Or.inl rfl)|exact Or.inr (Or.inr rfl))(hd:(x==("__debug__":Str))=false:=by decide)(hcd:(x==("__classdict__":Str))=false:=by decide)(hs:swapsWith (.List [] p5) (some (.Attribute (.Name x p2) "undone" p3)) pos.line X.env=pure false:=by rfl):QK X i (.Assign [.Attribute (.Name x p2) "undone" p3] (.List [] p5) pos) (zU i):=
 d6 (vE (dC hN hv hd hcd) (zM (qV dZ)) hs) λ_ _ _=>ba3 kc
def zV (i:Nat):eG:=λDK ρ=>∃st z un,ρ[i]? = some (some (.kp true (.ob DK.ad) [(DK.ad,st++[z],un)]))/\un.length<16000000/\DK.nx (ρ.set i (some (.kp true (.ob DK.ad) [(DK.ad,st,un++[z])])))
def zW (i:Nat):eG:=λDK ρ=>∃st z un,ρ[i]? = some (some (.kp true (.ob DK.ad) [(DK.ad,st,un++[z])]))/\st.length<16000000/\DK.nx (ρ.set i (some (.kp true (.ob DK.ad) [(DK.ad,st++[z],un)])))
theorem af8 {α:Type}(l:List α)(z:α):(l++[z])[(l++[z]).length-1]? = some z:=by simp
theorem set_set {ρ:b6}{m m':Option Slot}:(ρ.set i m).set i m'=ρ.set i m':=List.set_set ..
theorem ba5 (kc:KC X.K C)(h:LK X i (zV i) D σ H):kN (pX pY (iP X.K (dQ i) "undone") (gZ (u5 u6 (iP X.K (dQ i) "standing")) fN)) D σ H:=by
 obtain⟨as,ρ,DK,ks,⟨st,z,un,hk,hl,q⟩,ek⟩:=h
 obtain⟨ev,kp⟩:=ks.at hk
 obtain⟨C',dx,l1,l2,us1,us2,kw⟩:=kp.w
 obtain rfl:=kc.eq kw.ns
 obtain⟨vs,w,rfl,rv,rw'⟩:=kw.r1.snoc_inv
 have kw1:=kw.put1 rv
 have lr:=kw.r2.length
 refine⟨_,ev,DK.ad,_,dx,_,_,rfl,kw.oa,kc.cls,kc.n2,rfl,⟨l2,us2,rfl,kw.o2⟩,_,ev,DK.ad,_,dx,_,_,rfl,kw.oa,kc.cls,kc.n1,rfl,⟨l1,_,rfl,kw.o1⟩,l1,_,w,rfl,rfl,kw.o1,af8 _ _,?_⟩
 rw[List.dropLast_concat]
 refine⟨l2,us2,w,rfl,rfl,kw1.o2,gQ (by omega),?_⟩
 have k1:=ks.step (kw.ev1 (.inl rfl) (kL l1 vs)) kw1.at
 have kk:dU (λ_=>False) (λ_=>False) H (upd H l1 (kL l1 vs)):=u8 kw.o1 (λ_=>u9) λ_ _=>uA
 have k2:=k1.step (kw1.ev1 (.inr rfl) (kL l2 (us2++[w]))) (kw1.put2 (kw1.r2.append (.cons (rw'.keep kk) .nil))).at
 rw[set_set]at k2
 exact ek.nx _ _ _ k2 q
theorem ba6 (kc:KC X.K C)(h:LK X i (zW i) D σ H):kN (pX pY (iP X.K (dQ i) "standing") (gZ (u5 u6 (iP X.K (dQ i) "undone")) fN)) D σ H:=by
 obtain⟨as,ρ,DK,ks,⟨st,z,un,hk,hl,q⟩,ek⟩:=h
 obtain⟨ev,kp⟩:=ks.at hk
 obtain⟨C',dx,l1,l2,us1,us2,kw⟩:=kp.w
 obtain rfl:=kc.eq kw.ns
 obtain⟨vs,w,rfl,rv,rw'⟩:=kw.r2.snoc_inv
 have kw1:=kw.put2 rv
 have lr:=kw.r1.length
 refine⟨_,ev,DK.ad,_,dx,_,_,rfl,kw.oa,kc.cls,kc.n1,rfl,⟨l1,us1,rfl,kw.o1⟩,_,ev,DK.ad,_,dx,_,_,rfl,kw.oa,kc.cls,kc.n2,rfl,⟨l2,_,rfl,kw.o2⟩,l2,_,w,rfl,rfl,kw.o2,af8 _ _,?_⟩
 rw[List.dropLast_concat]
 refine⟨l1,us1,w,rfl,rfl,kw1.o1,gQ (by omega),?_⟩
 have k1:=ks.step (kw.ev1 (.inr rfl) (kL l2 vs)) kw1.at
 have kk:dU (λ_=>False) (λ_=>False) H (upd H l2 (kL l2 vs)):=u8 kw.o2 (λ_=>u9) λ_ _=>uA
 have k2:=k1.step (kw1.ev1 (.inl rfl) (kL l1 (us1++[w]))) (kw1.put1 (kw1.r1.append (.cons (rw'.keep kk) .nil))).at
 rw[set_set]at k2
 exact ek.nx _ _ _ k2 q
section
variable {f g:Str}
theorem af9 (i:Nat)(hN:X.N[i]? = some x)(hv:cS X.env.scope x)(hd:(x==("__debug__":Str))=false)(hcd:(x==("__classdict__":Str))=false)(hbs:attributeBase (.Name x p2) f X.env (eval (.Name x p2) X.env)=eval (.Name x p2) X.env)(hbg:attributeBase (.Name x p4) g X.env (eval (.Name x p4) X.env)=eval (.Name x p4) X.env)(hbase:attributeBase (.Attribute (.Name x p2) f p3) "append" X.env (eval (.Attribute (.Name x p2) f p3) X.env)=eval (.Attribute (.Name x p2) f p3) X.env)(hbase2:attributeBase (.Attribute (.Name x p4) g p5) "pop" X.env (eval (.Attribute (.Name x p4) g p5) X.env)=eval (.Attribute (.Name x p4) g p5) X.env){ap2 cp2:Pos}(hfew:((backTo cpos (starEach [.Call (.Attribute (.Attribute (.Name x p4) g p5) "pop" ap2) [] [] cp2] X.env)).all (λx=>!x.1)&&(backToKw cpos (keywordEach [] X.env)).all (λx=>x.1.isSome)&&decide (([.Call (.Attribute (.Attribute (.Name x p4) g p5) "pop" ap2) [] [] cp2]:List Expr).length+([]:List Keyword).length+(if ([]:List Keyword).isEmpty then 0 else 1)<30))=true)(hline:(apos.endLine==cpos.line)=true)(hline2:(ap2.endLine==cp2.line)=true)(hs:starEach [.Call (.Attribute (.Attribute (.Name x p4) g p5) "pop" ap2) [] [] cp2] X.env=(false,eval (.Call (.Attribute (.Attribute (.Name x p4) g p5) "pop" ap2) [] [] cp2) X.env)::starEach [] X.env)(hplain:(backTo cpos (starEach [] X.env)).any (·.1)=false)(hsw:swapsWith (.Call (.Attribute (.Attribute (.Name x p2) f p3) "append" apos) [.Call (.Attribute (.Attribute (.Name x p4) g p5) "pop" ap2) [] [] cp2] [] cpos) none pos.line X.env=pure false) :
  PS X (.Expr (.Call (.Attribute (.Attribute (.Name x p2) f p3) "append" apos) [.Call (.Attribute (.Attribute (.Name x p4) g p5) "pop" ap2) [] [] cp2] [] cpos) pos) (kN (pX pY (iP X.K (dQ i) f) (gZ (u5 u6 (iP X.K (dQ i) g)) fN))):=
 lW (ae6 bw4 bw5 ae7 (lZ (dC hN hv hd hcd) hbs) (dR (aZ1 PySem.F.slot_list_pop PySem.F.type_list_pop aZ2 (lZ (dC hN hv hd hcd) hbg) hbase2 hline2) dZ hs) hbase hfew hline hs hplain) hsw
end
def qG (i:Nat)(te:aH):eG:=λDK ρ=>te ρ λx _=>flat x=true/\∃st un,ρ[i]? = some (some (.kp true (.ob DK.ad) [(DK.ad,st,un)]))/\DK.rt x st un
theorem uB (i:Nat)(he:∀as,QE (X.off as) e te)(hex:X.ex = []:=by rfl):QK X i (.Return (some e) pos) (qG i te):=
 d6 (lX (zR he hex)) λD σ H h=>by
  obtain⟨as,ρ,DK,ks,q,ek⟩:=h
  obtain⟨W,px⟩:=ks.px
  refine⟨as,ks.sm,W,ρ,_,px,q,?_⟩
  rintro v H1 x g s r ⟨fl,st,un,hk,q⟩
  refine⟨λb hb=>let ⟨_,o,e⟩:=ks.sm b hb;⟨o,s _ _ e⟩,?_⟩
  have k1:=ks.mono s
  exact ek.rt v H1 x st un k1.ev (k1.at hk).2 (r.flat fl) fl q
def ag0 (i j:Nat)(te:aH):eG:=λDK ρ=>te ρ λx _=>flat x=true/\j≠i/\DK.nx (ρ.set j (some (.sh true x)))
theorem ba7 (i:Nat){j:Nat}(hN:X.N.Nodup)(he:∀as,QE (X.off as) e te)(hex:X.ex = []:=by rfl)(hi:X.N[j]? = some y:=by rfl)(hx:gJ X.env.scope y:=by first|exact Or.inl rfl|exact Or.inr rfl)(hs:swapsWith e (some (.Name y p2)) pos.line X.env=pure false:=by rfl)(hf:X.fn y=true∨X.env.scope.names.lookup y=some .local:=by first|exact .inl rfl|exact .inr rfl) :
  QK X i (.Assign [.Name y p2] e pos) (ag0 i j te):=d6 (nU hN hi hx (zR he hex) hs hf) λD σ H h=>by
 obtain⟨as,ρ,DK,ks,q,ek⟩:=h
 obtain⟨W,px⟩:=ks.px
 refine⟨as,ks.sm,W,ρ,_,px,q,?_⟩
 rintro v H1 x g s r ⟨fl,ij,q⟩
 refine⟨λb hb=>let ⟨_,o,e⟩:=ks.sm b hb;⟨o,s _ _ e⟩,?_⟩
 exact ek.nx _ _ _ ((ks.mono s).set ij (r.flat fl)) q
end
abbrev gX:=qB->b6->Prop
def LF (X:Cx)(t:gX):TS:=λD σ H=>∃W ρ DK,PX X.K X.H₀ W σ ρ H/\(∃st un,cJ X.K (λ_=>none) X.H₀ DK.ad st un)/\t DK ρ/\∀as i,EK X as i { DK with nx:=λ_=>False } D
abbrev uC (X:Cx)(sts:List Stmt)(t:gX):Prop:=dB X sts (LF X t)
def kG (t:aS)(u:gX):gX:=λDK ρ=>t { nx:=u DK,rt:=λ_=>False,bk:=λ_=>False,ct:=λ_=>False } ρ
def qH (i:Nat)(t:eG):gX:=λDK ρ=>∃st un,ρ[i]? = some (some (.kp false (.ob DK.ad) [(DK.ad,st,un)]))/\eR ρ i/\t { DK with nx:=λ_=>False } (ρ.set i (some (.kp true (.ob DK.ad) [(DK.ad,st,un)])))
section
variable {X:Cx}{st:Stmt}{sts:List Stmt}{t:aS}{u:gX}{v:eG}{i:Nat}
theorem lT (h1:QS X st t)(h2:uC X sts u):uC X (st::sts) (kG t u):=by
 refine mO (kK h1 h2) λD σ H h=>?_
 obtain⟨W,ρ,DK,px,k0,q,ek⟩:=h
 exact⟨W,ρ,_,px,q,λW' σ' H' ρ' e px' q'=>⟨W',ρ',DK,px',k0,q',ek⟩,λ_ _ _ _ _ z=>z.elim,λ_ _ _ _ _ _ z=>z.elim,λ_ _ _ _ _ _ z=>z.elim⟩
theorem ba8 {K:ac}{H0:Hp}{W:Addr->Prop}{σ:L2.St}{ρ:b6}{H:Hp}{as:List Addr}{i:Nat}{a C dx l1 l2:Addr}{us1 us2:List V}{st un:List PV}(px:PX K H0 W σ ρ H)(hk:ρ[i]? = some (some (.kp false (.ob a) [(a,st,un)])))(nk:eR ρ i)(kw:dH K H a C dx l1 l2 us1 us2 st un)(ha:as = [a,dx,l1,l2]) :
  PX K (fI H0 as) W σ (ρ.set i (some (.kp true (.ob a) [(a,st,un)]))) H:=by
 have no:∀{b:Addr},H0 b=none->fI H0 as b=none:=λ{b} e=>by
  by_cases z:b∈as
  ·exact nL z
  ·rw[pV z];exact e
 have ms:∀{g:Bool}{b:Addr},Ms H0 W g b->Ms (fI H0 as) W g b:=λ{g b} h=>by
  cases g with
  |true=>exact⟨h.1,no h.2⟩
  |false=>exact h
 refine⟨by rw[bq8];exact px.len,λb o e=>px.same b o (tY e),λb z=>let ⟨h1,h2⟩:=px.wm b z;⟨no h1,h2⟩,λj m h=>?_,λj k x y b h1 h2 h3 h4=>?_⟩
 ·rcases dN h with⟨rfl,hl,e⟩|⟨hne,h⟩
  ·cases e
   obtain⟨v,ev,⟨r,_⟩,_⟩:=px.sl j _ hk
   cases r
   refine⟨_,ev,⟨.ob,rfl⟩,λk hk=>?_,bn3 _ _⟩
   rw[bl3.mp hk]
   exact⟨C,dx,l1,l2,us1,us2,kw.ns,⟨nL (by simp[ha]),nL (by simp[ha]),nL (by simp[ha]),nL (by simp[ha])⟩,kw.ne,kw.od,kw.oa,kw.o1,kw.o2,kw.r1,kw.r2⟩
  ·obtain⟨u,e,q⟩:=px.sl j m h
   refine⟨u,e,?_⟩
   cases m with
   |sh g x=>exact aE.same q (aB.refl _) λ_ z=>ms z
   |own x=>
    obtain⟨b,e1,e2,q⟩:=q
    exact⟨b,e1,e2,q.keep (.same (aB.refl _) λ_ z=>ms (g:=true) z) λ_ z=>z⟩
   |kp g x ks=>exact absurd h (nk j g x ks hne)
 ·rcases dN h1 with⟨_,_,e⟩|⟨n1,h1⟩
  ·cases e
  ·rcases dN h2 with⟨_,_,e⟩|⟨n2,h2⟩
   ·cases e
   ·exact px.dis j k x y b h1 h2 h3 h4
theorem uD (h:qD X i sts v):uC X sts (qH i v):=by
 refine mO h λD σ H h=>?_
 obtain⟨W,ρ,DK,px,⟨st0,un0,k0⟩,⟨st,un,hk,nk,q⟩,ek⟩:=h
 obtain⟨ev,kp⟩:=px.kp ⟨false,hk⟩
 obtain⟨C,dx,l1,l2,us1,us2,kw⟩:=kp.w
 obtain⟨C',dx',m1,m2,ws1,ws2,kw0⟩:=k0.w
 have ea:=px.same _ _ kw0.oa
 rw[kw.oa]at ea
 cases ea
 refine⟨[DK.ad,dx,l1,l2],_,{ DK with nx:=λ_=>False },⟨⟨W,ba8 px hk nk kw rfl⟩,eQ.same px.same k0,⟨_,_,k0⟩,λb hb=>?_,⟨_,_,zS hk⟩,nk.set⟩,q,ek _ _⟩
 simp only[bl2,bm1,bp1]at hb
 rcases hb with rfl|rfl|rfl|rfl
 ·exact⟨⟨_,kw0.oa,rfl⟩,_,kw.oa⟩
 ·exact⟨⟨_,kw0.od,rfl⟩,_,kw.od⟩
 ·exact⟨⟨_,kw0.o1,rfl⟩,_,kw.o1⟩
 ·exact⟨⟨_,kw0.o2,rfl⟩,_,kw.o2⟩
end
theorem uE {P:Program}{w:World}{K:ac}{mg:Str->Option Value}{base:Heap}{k:Nat}{x qual:Str}{ps N:List Str}{p:dG}{st:Stmt}{f:Addr}{fd:FuncData}(F:cP K x qual st f fd)(S:FnScope N ps (aN st))(t:(Str->Prop)->gX)(len:∀st un Ep xs Q,p st un Ep xs Q->xs.length+1=ps.length)(rd:∀a st un Ep xs Q,p st un Ep xs Q->flats xs=true->t Ep { ad:=a,nx:=λ_=>False,rt:=Q } (kF N a st un xs))(body:∀(cdv:Value) (A:Around) (outer:List Env) (s:Shared) (H:Hp) (E:XK) (Ep:Str->Prop),bD k (A.deeper (envOfC qual (aN st) s.heap.objs.size f cdv))->k8 (cC (bF P w) P w K mg base N qual (aN st) f cdv A outer s H E) (EX K H Ep)->
   uC (cC (bF P w) P w K mg base N qual (aN st) f cdv A outer s H E) (cI st) (t Ep)):bQ P w K mg base (bF P w) (k+1) f fd ps (jI K p):=by
 refine F.okX S (λvs H Q E h=>?_) (λcdv A outer s H vs Q E hr h=>?_)
 ·obtain⟨a,us,xs,st,un,Qp,Ep,rfl,_,r,q,_⟩:=h
  rw[bo1,r.1.length];exact len st un Ep xs Qp q
 ·obtain⟨a,us,xs,st,un,Qp,Ep,rfl,hk,⟨r,fl⟩,q,k,ke⟩:=h
  have ht:=body cdv A outer s H E Ep hr (yD λc d H' z=>?_)
  ·refine⟨_,ht,λ_=>False,kF N a st un xs,{ ad:=a,nx:=λ_=>False,rt:=Qp },af3 hk (r.flat fl),⟨st,un,hk⟩,rd a st un Ep xs Qp q fl,λas i=>⟨λ_ _ _ _ z=>z.elim,?_⟩⟩
   exact λv H' x st' un' ev kp r fl q=>k v H' x st' un' ev kp r fl q
  ·obtain⟨rfl,s1,n,C,rfl,z1,z2⟩:=z
   exact ke n C H' s1 z1 z2
end PP
namespace L2
open PySem PySem.Spec PyProof.Rows
section
variable {X:Cx}{k:Nat}{f C:Addr}{fd:FuncData}{ps:List Str}{sp:Sp}{x z m:Str}{p cp pos zp apos:Pos}{e:Expr}{es:List Expr}{t:TA}{i iv:Nat}{pins:List (Addr×Obj)}{s:Shared}{σ:St}{H:Hp}{Q:VK}{Ex:XK}
def tM (C:Addr)(m:Str)(sp:Sp)(iv:Nat)(t:TA)(Q:VK)(Ex:XK):St->Hp->Prop:=λσ H=>∃a dx fs,σ[iv]? = some (some (.ref a))/\H a=some (.ins C dx fs)/\fs.lookup m=none/\t σ H λvs H1=>sp (.ref a::vs) H1 Q Ex
theorem ba9 (F:bQ X.prog X.w X.K X.mg X.base (bF X.prog X.w) k f fd ps sp)(hr:bD k X.A)(hb:dJ X.K fd ps []){us:List Value}{vs:List V}(I:a8 X pins σ H s)(r:aQ vs us)(q:sp vs H Q Ex) :
  wpAny (model X.prog X.w) X.A (call (.ref f) us) (EP X pins σ Q) (XB X pins σ Ex) s:=by
 have hl:us.length=ps.length:=by rw[<- r.length];exact F.len _ _ _ _ q
 have bd:=hb s us I.kIn (by rw[bo4];exact hl)
 rw[bo4]at bd
 refine wpAny_call (codeAny_mono (F.run X.A X.stack s H ⟨us,[]⟩ us vs _ Ex hr I.env0 bd r q) λrs s' hq=>?_)
 cases rs with
 |error ev=>exact⟨H,s,I,hq⟩
 |ok fl=>
  cases fl with
  |ret u=>exact I.after hq
  |next=>exact False.elim hq
  |brk=>exact False.elim hq
  |cont=>exact False.elim hq
theorem bb0 {pl:Sem Bool}(c:gL X.K C)(hm:eU X.K C m f)(F:bQ X.prog X.w X.K X.mg X.base (bF X.prog X.w) k f fd ps sp)(hr:bD k X.A)(hb:dJ X.K fd ps [])(ha:∀E,PA (X.wish E) (e::es) t)(I:a8 X pins σ H s)(h:tM C m sp iv t Q Ex σ H)(hN:X.N[iv]? = some x)(hv:cS X.env.scope x)(hd:(x==("__debug__":Str))=false)(hcd:(x==("__classdict__":Str))=false)(hst:starEach (e::es) X.env=(false,eval e X.env)::starEach es X.env)(hpl:(backTo cp (starEach es X.env)).any (·.1)=false)(ht:eval (.Call (.Attribute (.Name x p) m apos) (e::es) [] cp) X.env=(do
   let ov <- eval (.Name x p) X.env
   standAt apos.atName
   let (f,first) <- holding [ov] (getMethod ov m pl)
   callWith cp f first (backTo cp (starEach (e::es) X.env)) (backToKw cp (keywordEach [] X.env)))) :
  wpAny (model X.prog X.w) X.A (eval (.Call (.Attribute (.Name x p) m apos) (e::es) [] cp) X.env) (EP X pins σ Q) (XB X pins σ Ex) s:=by
 obtain⟨a,dx,fs,e1,e2,e3,q⟩:=h
 refine PySem.W.methodCall_KW (pl:=pl) (aJ (dC (X:=X.wish (XB X pins σ Ex)) (pos:=p) hN hv hd hcd pins s σ H (λv H'=>v = .ref a/\H'=H) (I.wish _) ⟨_,e1,rfl,rfl⟩) λu s1 ⟨v,H1,I1,rv,ev,eh⟩=>?_) ht
 subst ev eh
 obtain rfl:u=Value.ref a:=rv
 have I1:=I1.unwish
 refine qU I1 e2 c hm e3 ?_
 refine PySem.W.callWith_K (first:=[.ref a]) (h₀:=X.base) I.ok.mod.kin hm.kp (aJ (ha (XB X pins σ Ex) cp pins s1 σ H1 _ (I1.wish _) q) λus s2 h2=>⟨?_,?_⟩) hst hpl
 ·obtain⟨_,_,I2,_⟩:=h2
  exact I2.kIn
 ·obtain⟨vs,H2,I2,r,q2⟩:=h2
  exact ba9 (us:=.ref a::us) (vs:=.ref a::vs) F hr hb I2.unwish (.cons rfl r) q2
def PEB (X:Cx)(e:Expr)(t:VK->XK->St->Hp->Prop):Prop:=∀(pins:List (Addr×Obj)) (s:Shared) (σ:St) (H:Hp) (Q:VK) (Ex:XK),a8 X pins σ H s->t Q Ex σ H->wpAny (model X.prog X.w) X.A (eval e X.env) (EP X pins σ Q) (XB X pins σ Ex) s
theorem bb1 {t:VK->XK->St->Hp->Prop}(h:PEB X e t)(hN:X.N.Nodup)(hi:X.N[i]? = some z)(hz:X.env.scope.names.lookup z=some .local)(hsw:swapsWith e (some (.Name z zp)) pos.line X.env=pure false) :
  PB X [.Assign [.Name z zp] e pos] (λD Ex σ H=>t (λv H2=>D.nx (σ.set i (some v)) H2) Ex σ H):=by
 intro pins s σ H D Ex I q
 refine wpAny_execs_cons (wpAny_Assign_Name (aJ (h pins s σ H _ Ex I q) λu s1 h1=>?_) hsw)
 obtain⟨v,H2,I2,rv,q2⟩:=h1
 exact uP I2 hN hi (.inl hz) rv (λs3 I3=>wpAny_execs_nil ⟨_,H2,I3,q2⟩) (.inr hz)
end
end L2
namespace PP
open PySem L2 PyProof.Rows
section
variable {X:Cx}{σ:L2.St}{H:Hp}{D:bP}{Ex:XK}{i j:Nat}{e:Expr}{es:List Expr}{tr:bT}{tc:cQ}{c:Expr}{x z m:Str}{p2 cp pos zp apos np hp:Pos}
abbrev nO:=qB->(Str->Prop)->b6->Prop
def LBK (X:Cx)(i:Nat)(t:nO):TB:=λD Ex σ H=>∃as ρ DK Ep,fE X as DK.ad i σ ρ H/\t DK Ep ρ/\EK X as i DK D/\∀n C H',aB H H'->PySem.W.nsIn X.K mainGlobals n=some (some (.ref C))->Ep n->Ex (.ref C) none H'
abbrev QBK (X:Cx)(i:Nat)(sts:List Stmt)(t:nO):Prop:=PB X sts (LBK X i t)
def qkM (i:Nat)(p:dG)(t:bT)(ad:Addr)(Ep:Str->Prop)(ρ:b6)(Q:PV->b6->Prop):Prop:=∃st un,ρ[i]? = some (some (.kp true (.ob ad) [(ad,st,un)]))/\t ρ λxs=>flats (xs.map (·.1))=true/\p st un Ep (xs.map (·.1)) λx st' un'=>Q x (ρ.set i (some (.kp true (.ob ad) [(ad,st',un')])))
def zX (X:Cx)(tr:bT):TA:=λσ H Q=>∃as,(∀b∈as,(∃o,X.H₀ b=some o/\pW o=true)/\∃o,H b=some o)/\LA (X.off as) tr σ H λv H'=>(∀b∈as,∃o,H' b=some o)/\Q v H'
theorem bb2 (h:∀as,QA (X.off as) es tr)(he:X.ex = []:=by rfl):PA X es (zX X tr):=by
 rintro pos pins s σ H Q I ⟨as,ha,q⟩
 have I1:=I.off he (as:=as) λb z=>let ⟨⟨o,e,_⟩,l⟩:=ha b z;⟨⟨o,e⟩,l⟩
 refine aJ (h as pos pins s σ H _ I1 q) λu s' hq=>?_
 obtain⟨v,H',I2,r,z,q⟩:=hq
 exact⟨v,H',a8.on I.ok I2 he (λb z=>(ha b z).1) z,r,q⟩
theorem bb3 {p:dG}{as:List Addr}{ρ:b6}{DK:qB}{C:Addr}{Ep:Str->Prop}{Qp:PV->b6->Prop}{Q:VK}{T:TA}(kc:KC X.K C)(hl:∀v w:V,([("standing",v),("undone",w)]:List (Str×V)).lookup m=none)(ks:fE X as DK.ad i σ ρ H)(q:qkM i p tr DK.ad Ep ρ Qp)(hT:T=zX X tr∨T=fN/\tr=aC)(ke:∀n C H',aB H H'->PySem.W.nsIn X.K mainGlobals n=some (some (.ref C))->Ep n->Ex (.ref C) none H')(k:∀v H' x ρ',fE X as DK.ad i σ ρ' H'->aE X.K (λ_=>False) H' v x->flat x=true->Qp x ρ'->Q v H'):tM C m (jI X.K p) i T Q Ex σ H:=by
 obtain⟨st,un,hk,q⟩:=q
 obtain⟨ev,kp⟩:=ks.at hk
 obtain⟨C',dx,l1,l2,us1,us2,kw⟩:=kp.w
 obtain rfl:=kc.eq kw.ns
 obtain⟨W,px⟩:=ks.px
 have fin:∀vs H1 xs,aB H H1->Reps X.K (λ_=>True) H1 vs xs->(flats xs=true/\p st un Ep xs λx st' un'=>Qp x (ρ.set i (some (.kp true (.ob DK.ad) [(DK.ad,st',un')]))))->jI X.K p (.ref DK.ad::vs) H1 Q Ex:=λvs H1 xs s1 r q1=>by
  have k1:=ks.mono s1
  exact⟨DK.ad,vs,_,st,un,_,Ep,rfl,(k1.at hk).2,⟨r.flat q1.1,q1.1⟩,q1.2,λv H' x st' un' ev' kp' rv fl q2=>k v H' x _ (k1.step ev' kp') rv fl q2,λn C H' s2 z1 z2=>ke n C H' (s1.trans s2) z1 z2⟩
 refine⟨DK.ad,dx,_,ev,kw.oa,hl _ _,?_⟩
 rcases hT with rfl|⟨rfl,rfl⟩
 ·exact⟨as,ks.sm,W,ρ,_,px,q,λvs H1 xs s1 r q1=>⟨λb hb=>let ⟨_,o,e⟩:=ks.sm b hb;⟨o,s1 _ _ e⟩,fin vs H1 _ s1 r.any q1⟩⟩
 ·exact fin [] H [] (aB.refl _) .nil q
theorem bb4 {C f:Addr}{fd:FuncData}{k n:Nat}{ps:List Str}{p:dG}{pl:Sem Bool}(kc:KC X.K C)(M:eU X.K C m f)(F:bQ X.prog X.w X.K X.mg X.base (bF X.prog X.w) k f fd ps (jI X.K p))(hb:dJ X.K fd ps [])(hr:bD n X.A)(hkj:k<=n)(ha:∀E as,QA ((X.wish E).off as) (e::es) tr)(hex:X.ex = [])(hN:X.N[i]? = some x)(hv:cS X.env.scope x)(hd:(x==("__debug__":Str))=false)(hcd:(x==("__classdict__":Str))=false)(hst:starEach (e::es) X.env=(false,eval e X.env)::starEach es X.env)(hpl:(backTo cp (starEach es X.env)).any (·.1)=false)(ht:eval (.Call (.Attribute (.Name x p2) m apos) (e::es) [] cp) X.env=(do
   let ov <- eval (.Name x p2) X.env
   standAt apos.atName
   let (f,first) <- holding [ov] (getMethod ov m pl)
   callWith cp f first (backTo cp (starEach (e::es) X.env)) (backToKw cp (keywordEach [] X.env)))) :
  PEB X (.Call (.Attribute (.Name x p2) m apos) (e::es) [] cp) (λQ Ex=>tM C m (jI X.K p) i (zX X tr) Q Ex):=λpins s σ H Q Ex I q=>
 bb0 (pl:=pl) kc.cls M F (hr.mono hkj) hb (λE=>bb2 (X:=X.wish E) (λas=>ha E as) hex) I q hN hv hd hcd hst hpl ht
def ag1 (i j:Nat)(p:dG)(t:bT):nO:=λDK Ep ρ=>j≠i/\qkM i p t DK.ad Ep ρ λx ρ'=>DK.nx (ρ'.set j (some (.sh true x)))
section
variable {k n:Nat}{ps:List Str}{p:dG}{pl:Sem Bool}
theorem bb5 (i j:Nat)(d:jJ X.prog X.w X.K X.mg X.base k m ps p)(hr:bD n X.A)(hnd:X.N.Nodup)(ha:∀E as,QA ((X.wish E).off as) (e::es) tr)(hkj:k<=n:=by decide)(hex:X.ex = []:=by rfl)(hl:∀v w:V,([("standing",v),("undone",w)]:List (Str×V)).lookup m=none:=by intro _ _;rfl)(hN:X.N[i]? = some x:=by rfl)(hv:cS X.env.scope x:=by first|exact Or.inl rfl|exact Or.inr (Or.inl rfl)|exact Or.inr (Or.inr rfl))(hd:(x==("__debug__":Str))=false:=by decide)(hcd:(x==("__classdict__":Str))=false:=by decide)(hi:X.N[j]? = some z:=by rfl)(hz:X.env.scope.names.lookup z=some .local:=by rfl)(hst:starEach (e::es) X.env=(false,eval e X.env)::starEach es X.env:=by rfl)(hpl:(backTo cp (starEach es X.env)).any (·.1)=false:=by rfl)(hsw:swapsWith (.Call (.Attribute (.Name x p2) m apos) (e::es) [] cp) (some (.Name z zp)) pos.line X.env=pure false:=by rfl)(ht:eval (.Call (.Attribute (.Name x p2) m apos) (e::es) [] cp) X.env=(do
   let ov <- eval (.Name x p2) X.env
   standAt apos.atName
   let (f,first) <- holding [ov] (getMethod ov m pl)
   callWith cp f first (backTo cp (starEach (e::es) X.env)) (backToKw cp (keywordEach [] X.env))):=by rfl):QBK X i [.Assign [.Name z zp] (.Call (.Attribute (.Name x p2) m apos) (e::es) [] cp) pos] (ag1 i j p tr):=by
 obtain⟨C,f,fd,kc,M,F,b⟩:=d.ex
 refine pbI (bb1 (bb4 (pl:=pl) kc M F b hr hkj ha hex hN hv hd hcd hst hpl ht) hnd hi hz hsw) λD Ex σ H h=>?_
 obtain⟨as,ρ,DK,Ep,ks,⟨ij,q⟩,ek,ke⟩:=h
 exact bb3 kc hl ks q (.inl rfl) ke λv H' x ρ' k' r fl q'=>ek.nx _ _ _ (k'.set ij r) q'
end
def zY (m:Str)(tb:nO)(ts:eG):eG:=λDK ρ=>tb DK (λn=>pN n m=some true/\ts DK ρ) ρ
theorem bb6 {m:Str}{Ch:Addr}{tb:nO}{ts:eG}(hs:∀n C,pN n m=some true->PySem.W.nsIn X.K mainGlobals n=some (some (.ref C))->PySem.W.subIn X.K (.ref C) (.ref Ch)=some true)(h:LK X i (zY m tb ts) D σ H):ac3 X.K Ch (LBK X i tb) (LK X i ts) D σ H:=by
 obtain⟨as,ρ,DK,ks,q,ek⟩:=h
 refine⟨as,ρ,DK,_,ks,q,ek,λn C H' s z1 z2 a C' oe hc na hcl=>?_⟩
 cases hc
 exact⟨hs n C z2.1 z1,as,ρ,DK,ks.mono (s.trans (bR na _)),z2.2,ek⟩
theorem bb7 {m:Str}{b₀:Stmt}{suite body:List Stmt}{tb:nO}{ts:eG}(ct:yX X.K X.mg m)(hb:QBK X i body tb)(hs:∀a,qD (X.suite a) i (b₀::suite) ts)(hstk:X.stack=X.env::X.outer/\X.env.frame=some X.env.locals:=by exact⟨rfl,rfl⟩)(hg:Gl X m:=by rfl)(hd:(m==("__debug__":Str))=false:=by decide):QK X i (.Try body [.ExceptHandler (some (.Name m np)) none (b₀::suite) hp] [] [] pos) (zY m tb ts):=by
 obtain⟨Ch,hm,c,sub⟩:=ct.ex
 refine d6 (aW6 (ts:=LK X i ts) hstk hb hg hm c (λa=>mO (hs a) λD σ H h=>?_) hd) λ_ _ _=>bb6 sub
 obtain⟨as,ρ,DK,ks,q,ek⟩:=h
 exact⟨as,ρ,DK,⟨ks.px,ks.ev,ks.k0,ks.sm,ks.kp,ks.nk⟩,q,⟨λσ' H' ρ' k' q'=>ek.nx _ _ _ ⟨k'.px,k'.ev,k'.k0,k'.sm,k'.kp,k'.nk⟩ q',ek.rt⟩⟩
end
abbrev uF (x:PV):PV:=.tup [.non,x,.tup []]
def ag2 (K:ac)(C:Addr):Sp:=λvs H Q _=>∃x dx v pv,vs = [V.ref x,v]/\H x=some (.ins C dx [])/\H dx=some (.own x)/\(aE K (λ_=>True) H v pv/\flat pv=true)/\
 ∀H' l1 l2 us1,(∀b o,H b=some o->b≠x->H' b=some o)->H l1=none->H l2=none->dH K H' x C dx l1 l2 us1 [] [uF pv] []->Q .non H'
structure zZ (P:Program)(w:World)(K:ac)(mg:Str->Option Value)(base:Heap)(k:Nat):Prop where
 ex:∃C f fd,KC K C/\Mk K C f/\bQ P w K mg base (bF P w) k f fd ["self","web"] (ag2 K C)/\dJ K fd ["self","web"] []/\mg "Keeper" = some (.ref C)
def bb8:aH:=fQ (a9 (bG (a9 (qC .non) (a9 (a5 1) (a9 (bG aC) aC)))) aC)
theorem bb9 {P:Program}{w:World}{K:ac}{mg:Str->Option Value}{base:Heap}{k:Nat}{x qual:Str}{st:Stmt}{f C:Addr}{fd:FuncData}{e:Expr}{p1 p2 p3 p4 p5 q1 q2:Pos}(kc:KC K C)(F:cP K x qual st f fd)(S:FnScope ["self","web"] ["self","web"] (aN st))(eb:cI st = [.Assign [.Attribute (.Name "self" p1) "standing" p2] e q1,.Assign [.Attribute (.Name "self" p3) "undone" p4] (.List [] p5) q2])(he:∀(cdv:Value) (A:Around) (outer:List Env) (s:Shared) (H:Hp) (E:XK),QE (cC (bF P w) P w K mg base ["self","web"] qual (aN st) f cdv A outer s H E) e bb8)(hv:∀(cdv:Value) (A:Around) (outer:List Env) (s:Shared) (H:Hp) (E:XK),cS (cC (bF P w) P w K mg base ["self","web"] qual (aN st) f cdv A outer s H E).env.scope "self")(h1:∀(cdv:Value) (A:Around) (outer:List Env) (s:Shared) (H:Hp) (E:XK),swapsWith e (some (.Attribute (.Name "self" p1) "standing" p2)) q1.line (cC (bF P w) P w K mg base ["self","web"] qual (aN st) f cdv A outer s H E).env=pure false)(h2:∀(cdv:Value) (A:Around) (outer:List Env) (s:Shared) (H:Hp) (E:XK),swapsWith (.List [] p5) (some (.Attribute (.Name "self" p3) "undone" p4)) q2.line (cC (bF P w) P w K mg base ["self","web"] qual (aN st) f cdv A outer s H E).env=pure false) :
  bQ P w K mg base (bF P w) (k+1) f fd ["self","web"] (ag2 K C):=by
 refine F.okX S (λvs H Q E h=>?_) (λcdv A outer s H vs Q E hr h=>?_)
 ·obtain⟨x,dx,v,pv,rfl,_⟩:=h;rfl
 ·obtain⟨x,dx,v,pv,rfl,hx,hdx,⟨r,fl⟩,k⟩:=h
  rw[eb]
  refine⟨_,kK (vE (dC (i:=0) rfl (hv cdv A outer s H E)) (zM (he cdv A outer s H E)) (h1 cdv A outer s H E)) (kM (vE (dC (i:=0) rfl (hv cdv A outer s H E)) (zM (qV dZ)) (h2 cdv A outer s H E))),?_⟩
  have px:PX K H (λ_=>False) (L2.eV ["self","web"] [.ref x,v]) (eY ["self","web"] [.ob x,pv]) H:=sG (.cons .ob (.cons r .nil))
  have sv:flat pv=true->(eY ["self","web"] [.ob x,pv])[1]? = some (some (.sh true pv)):=λz=>by
   show some (some (Slot.sh (flat pv) pv))=_
   rw[z]
  refine⟨λ_=>False,_,λz g=>z = .lst [uF pv]/\g = .fr,px,?_,?_⟩
  ·refine⟨_,sv fl,bo0 _,rfl,(by show 3<=1000;decide),?_,(by show 1<=1000;decide),?_,rfl,rfl⟩
   ·show (true&&(flat pv&&(true&&true)))=true
    rw[fl];rfl
   ·show (flat (.tup [.non,pv,.tup []])&&true)=true
    show ((true&&(flat pv&&(true&&true)))&&true)=true
    rw[fl];rfl
  ·rintro u H1 z g s1 rz ⟨rfl,rfl⟩
   obtain⟨a,us,rfl,ma,ea,rs⟩:=rz.sqL
   have ma:H a=none:=ma
   have xa:x≠a:=λz=>by rw[z,ma]at hx;cases hx
   have fs:flats [uF pv]=true:=by
    show ((true&&(flat pv&&(true&&true)))&&true)=true
    rw[fl];rfl
   refine⟨a,us,rfl,ea,_,rfl,x,C,dx,[],rfl,?_,kc.cls,kc.n1,(by show 0<1000;decide),bo0 _,λp hp=>⟨p,[],rfl,aU,_,rfl,x,C,dx,[("standing",.ref a)],rfl,?_,kc.cls,kc.n2,(by show 1<1000;decide),?_⟩⟩
   ·rw[aF xa];exact s1 _ _ hx
   ·rw[iM,aF (λz=>by rw[<- z,aU]at hp;cases hp)];exact aU
   ·have px':x≠p:=λz=>by rw[<- z,aU]at hp;cases hp
    have pa:a≠p:=λz=>by rw[<- z,aF (Ne.symm xa),aU]at hp;cases hp
    have hp1:H1 p=none:=by rw[aF (Ne.symm px'),aF (Ne.symm pa)]at hp;exact hp
    have hp0:H p=none:=s1.free hp1
    rw[iM]
    have dxx:dx≠x:=λz=>by rw[z,hx]at hdx;cases hdx
    have at_:∀{b:Addr},b≠x->b≠p->b≠a->upd (upd (upd (upd H1 a (kL a us)) x (.ins C dx (dY "standing" (.ref a) []))) p (kL p [])) x (.ins C dx (dY "undone" (.ref p) [("standing",.ref a)])) b=H1 b:=λ{b} n1 n2 n3=>by rw[aF n1,aF n2,aF n1,aF n3]
    refine k _ a p us (λb o e n=>?_) ma hp0 ⟨kc.ns,pa,?_,aU,?_,?_,?_,.nil⟩
    ·rw[at_ n (λz=>by rw[z,hp0]at e;cases e) (λz=>by rw[z,ma]at e;cases e)];exact s1 _ _ e
    ·rw[at_ dxx (λz=>by rw[z,hp0]at hdx;cases hdx) (λz=>by rw[z,ma]at hdx;cases hdx)];exact s1 _ _ hdx
    ·rw[aF (Ne.symm xa),aF pa,aF (Ne.symm xa),aU]
    ·rw[aF (Ne.symm px'),aU]
    ·refine (rs.flat (M':=λ_=>False) fs).keep ⟨λ_ _ z=>z.elim,λ_ _ z=>z.elim,λ_ _ z=>z.elim,λb _ e=>?_,λb _ _ e _=>?_⟩
     ·rw[at_ (λz=>by rw[z,s1 _ _ hx]at e;cases e) (λz=>by rw[z,hp1]at e;cases e) (λz=>by rw[z,ea]at e;cases e)];exact e
     ·rw[at_ (λz=>by rw[z,s1 _ _ hx]at e;cases e) (λz=>by rw[z,hp1]at e;cases e) (λz=>by rw[z,ea]at e;cases e)];exact e
theorem PX.setKp {K:ac}{H0:Hp}{W:Addr->Prop}{σ:L2.St}{ρ:b6}{H:Hp}{i:Nat}{a:Addr}{st un:List PV}(p:PX K H0 W σ ρ H)(r:cJ K H0 H a st un):PX K H0 W (σ.set i (some (.ref a))) (ρ.set i (some (.kp true (.ob a) [(a,st,un)]))) H:=by
 refine⟨by rw[bq8,bq8];exact p.len,p.same,p.wm,λj m h=>?_,λj k y z b h1 h2 h3 h4=>?_⟩
 ·rcases dN h with⟨rfl,hl,e⟩|⟨hne,h⟩
  ·cases e
   rw[p.len]at hl
   exact⟨_,br1 hl,⟨.ob,rfl⟩,λk hk=>by rw[bl3.mp hk];exact r,bn3 _ _⟩
  ·obtain⟨u,e,q⟩:=p.sl j m h
   exact⟨u,by rw[bn2 (Ne.symm hne)];exact e,q⟩
 ·rcases dN h1 with⟨_,_,e⟩|⟨n1,h1⟩
  ·cases e
  ·rcases dN h2 with⟨_,_,e⟩|⟨n2,h2⟩
   ·cases e
   ·rw[bn2 (Ne.symm n1)]at h3
    rw[bn2 (Ne.symm n2)]at h4
    exact p.dis j k y z b h1 h2 h3 h4
section
variable {X:Cx}{σ:L2.St}{H:Hp}{D:bP}{te:aH}{tr:bT}{e:Expr}{es:List Expr}{x y f:Str}{pos p2 p3 p4 cp:Pos}{i j:Nat}{p:dG}
def ag3 (j:Nat)(te:aH):aS:=λD ρ=>te ρ λx _=>flat x=true/\∀a,D.nx (ρ.set j (some (.kp true (.ob a) [(a,[uF x],[])])))
theorem bc0 (j:Nat){k n:Nat}(d:zZ X.prog X.w X.K X.mg X.base k)(hr:bD n X.A)(hN:X.N.Nodup)(he:QE X e te)(hkj:k+1<=n:=by decide)(hg:Gl X "Keeper":=by rfl)(hi:X.N[j]? = some y:=by rfl)(hx:gJ X.env.scope y:=by first|exact Or.inl rfl|exact Or.inr rfl)(hf:X.fn y=true∨X.env.scope.names.lookup y=some .local:=by first|exact .inl rfl|exact .inr rfl)(hst:starEach [e] X.env=(false,eval e X.env)::starEach [] X.env:=by rfl)(hpl:(backTo cp (starEach [] X.env)).any (·.1)=false:=by rfl)(hs:swapsWith (.Call (.Name "Keeper" p2) [e] [] cp) (some (.Name y p3)) pos.line X.env=pure false:=by rfl) :
  QS X (.Assign [.Name y p3] (.Call (.Name "Keeper" p2) [e] [] cp) pos) (ag3 j te):=by
 obtain⟨C,f,fd,kc,M,F,b,m⟩:=d.ex
 refine d6 (nU hN hi hx (ar4 (E:=EX X.K X.H₀ λ_=>False) M F (hr.mono hkj) hg m b .nil fD (dR he dZ hst) (by decide) hst hpl) hs hf) λD σ H h=>?_
 obtain⟨W,ρ,D',px,q,k⟩:=h
 refine⟨W,ρ,_,px,q,?_⟩
 rintro v H1 pv g s r ⟨fl,q⟩
 intro x dx nx ndx ne
 have S1:aB H1 (upd (upd H1 dx (.own x)) x (.ins C dx [])):=λb o e=>by
  rw[aF (λz=>by rw[z,nx]at e;cases e),aF (λz=>by rw[z,ndx]at e;cases e)];exact e
 refine⟨x,dx,v,pv,rfl,aU,by rw[aF ne,aU],⟨(r.flat fl).same S1 λ_ z=>z,fl⟩,λH2 l1 l2 us1 kp n1 n2 kw=>⟨rfl,?_⟩⟩
 have S2:aB H1 H2:=λb o e=>kp b o (S1 b o e) λz=>by rw[z,nx]at e;cases e
 have px2:=px.mono (s.trans S2)
 have h0:∀{b:Addr},H1 b=none->X.H₀ b=none:=λ{b} e=>(px.same.trans s).free e
 exact k.nx W _ H2 _ (Ev.same (s.trans S2)) (px2.setKp ⟨C,dx,l1,l2,us1,[],kw.ns,⟨h0 nx,h0 ndx,h0 (S1.free n1),h0 (S1.free n2)⟩,kw.ne,kw.od,kw.oa,kw.o1,kw.o2,kw.r1,kw.r2⟩) (q x)
def ag4 (j i:Nat)(p:dG)(tr:bT):aS:=λD ρ=>∃a st un,ρ[i]? = some (some (.kp true (.ob a) [(a,st,un)]))/\eR ρ i/\j≠i/\tr ρ λxs=>flats (xs.map (·.1))=true/\p st un (λ_=>False) (xs.map (·.1)) λx st' un'=>D.nx ((ρ.set i (some (.kp true (.ob a) [(a,st',un')]))).set j (some (.sh true x)))
theorem bc1 (j i:Nat){k n:Nat}{ps:List Str}(d:zQ X.prog X.w X.K X.mg X.base k f ps p)(hr:bD n X.A)(hN:X.N.Nodup)(ha:QA X es tr)(hkj:k<=n:=by decide)(hg:Gl X f:=by rfl)(hdb:(f==("__debug__":Str))=false:=by decide)(hi:X.N[j]? = some y:=by rfl)(hx:gJ X.env.scope y:=by first|exact Or.inl rfl|exact Or.inr rfl)(hf:X.fn y=true∨X.env.scope.names.lookup y=some .local:=by first|exact .inl rfl|exact .inr rfl)(hi2:X.N[i]? = some x:=by rfl)(hv:cS X.env.scope x:=by first|exact Or.inl rfl|exact Or.inr (Or.inl rfl)|exact Or.inr (Or.inr rfl))(hd:(x==("__debug__":Str))=false:=by decide)(hcd:(x==("__classdict__":Str))=false:=by decide)(hst:starEach (.Name x p4::es) X.env=(false,eval (.Name x p4) X.env)::starEach es X.env:=by rfl)(hpl:(backTo cp (starEach es X.env)).any (·.1)=false:=by rfl)(hs:swapsWith (.Call (.Name f p2) (.Name x p4::es) [] cp) (some (.Name y p3)) pos.line X.env=pure false:=by rfl) :
  QS X (.Assign [.Name y p3] (.Call (.Name f p2) (.Name x p4::es) [] cp) pos) (ag4 j i p tr):=by
 obtain⟨fa,fd,F,b,kp,m⟩:=d.ex
 refine d6 (nU hN hi hx (qX (E:=EX X.K X.H₀ λ_=>False) F (hr.mono hkj) hg m kp b .nil fD (dR (dC hi2 hv hd hcd) ha hst) hdb hst hpl) hs hf) λD σ H h=>?_
 obtain⟨W,ρ,D',px,⟨a,st,un,hk,nk,ij,q⟩,k⟩:=h
 obtain⟨ev,_⟩:=px.kp ⟨true,hk⟩
 refine⟨_,ev,W,ρ,_,px,q,λvs H1 xs s1 r q1=>?_⟩
 have px1:=px.mono s1
 show jI X.K p (.ref a::(vs++[])) H1 _ _
 rw[bo4]
 refine⟨a,vs,_,st,un,_,λ_=>False,rfl,(px1.kp ⟨true,hk⟩).2,⟨r.any.flat q1.1,q1.1⟩,q1.2,λv H' x st' un' ev' kp' rv fl q2=>?_,λn C H' s2 z1 z2=>z2.elim⟩
 obtain⟨px2,e2⟩:=px1.mut hk nk ev' kp'
 exact k.nx W _ H' _ ((Ev.same s1).trans e2) (px2.setSh (g:=true) (qA rv)) q2
def A0 (K:ac)(C:Addr)(m:Str)(p:dG)(E:XK)(i:Nat):TE:=qW C m (jI K p) [] E (dQ i) fN
theorem tmm {m:Str}{C:Addr}{W:Addr->Prop}{ρ:b6}{a:Addr}{st un:List PV}{R:VK}{E:XK}(kc:KC X.K C)(hl:∀v w:V,([("standing",v),("undone",w)]:List (Str×V)).lookup m=none)(px:PX X.K X.H₀ W σ ρ H)(hk:ρ[i]? = some (some (.kp true (.ob a) [(a,st,un)])))(nk:eR ρ i){Qp:PV->List PV->List PV->Prop}(q:p st un (λ_=>False) [] Qp)(k:∀v H' x st' un',PX X.K X.H₀ W σ (ρ.set i (some (.kp true (.ob a) [(a,st',un')]))) H'->Ev W H W H'->aE X.K (λ_=>False) H' v x->flat x=true->Qp x st' un'->R v H'):A0 X.K C m p E i σ H R:=by
 obtain⟨ev,kp⟩:=px.kp ⟨true,hk⟩
 have kp0:=kp
 obtain⟨C',dx,l1,l2,us1,us2,kw⟩:=kp.w
 obtain rfl:=kc.eq kw.ns
 refine⟨_,ev,a,dx,_,rfl,kw.oa,hl _ _,a,[],[],st,un,Qp,λ_=>False,rfl,kp0,⟨.nil,rfl⟩,q,λv H' x st' un' ev' kp' rv fl q2=>?_,λ_ _ _ _ _ z=>z.elim⟩
 obtain⟨px2,e2⟩:=px.mut hk nk ev' kp'
 exact k v H' x st' un' px2 e2 rv fl q2
def nP (i:Nat)(p:dG)(ta:aH)(p':dG)(tb:aH):aS:=λD ρ=>∃a st un,ρ[i]? = some (some (.kp true (.ob a) [(a,st,un)]))/\eR ρ i/\p st un (λ_=>False) [] λx st1 un1=>ta (ρ.set i (some (.kp true (.ob a) [(a,st1,un1)]))) λy _=>(∃xs ys,x = .tup xs/\y = .tup ys)/\dE 3 x y=true/\cD 3 x y=true/\
 p' st1 un1 (λ_=>False) [] λx' st2 un2=>tb (ρ.set i (some (.kp true (.ob a) [(a,st2,un2)]))) λy' _=>(∃xs ys,x' = .tup xs/\y' = .tup ys)/\dE 3 x' y'=true/\cD 3 x' y'=true/\D.nx (ρ.set i (some (.kp true (.ob a) [(a,st2,un2)])))
theorem bc2 {m m':Str}{C:Addr}{p':dG}{ta tb:aH}{E:XK}{T:TS}(kc:KC X.K C)(hl:∀v w:V,([("standing",v),("undone",w)]:List (Str×V)).lookup m=none)(hl':∀v w:V,([("standing",v),("undone",w)]:List (Str×V)).lookup m'=none)(h:LS X (nP i p ta p' tb) D σ H) :
  uT (uQ (v9 (jO (oU X.K 2 true) (A0 X.K C m p E i) (LE X ta))) (v9 (jO (oU X.K 2 true) (A0 X.K C m' p' E i) (LE X tb)))) T uR D σ H:=by
 obtain⟨W,ρ,D',px,⟨a,st,un,hk,nk,q⟩,k⟩:=h
 refine tmm kc hl px hk nk q λv H1 x st1 un1 px1 e1 rv fl q1=>?_
 refine⟨W,_,_,px1,q1,?_⟩
 rintro w H2 y g s2 ry ⟨hxy,ok,eq,q2⟩
 refine⟨x,y,(qA rv).same s2 λ_ z=>z,ry.same (aB.refl _) λ_ _=>trivial,.inl hxy,ok,_,rfl,?_⟩
 rw[eq]
 refine aP ?_
 have px2:=px1.mono s2
 refine tmm kc hl' px2 (zS hk) nk.set q2 λv' H3 x' st2 un2 px3 e3 rv' fl' q3=>?_
 rw[set_set]at px3
 refine⟨W,_,_,px3,q3,?_⟩
 rintro w' H4 y' g' s4 ry' ⟨hxy',ok',eq',q4⟩
 refine⟨x',y',(qA rv').same s4 λ_ z=>z,ry'.same (aB.refl _) λ_ _=>trivial,.inl hxy',ok',_,rfl,?_⟩
 rw[eq']
 refine aP ?_
 exact k.nx W σ H4 _ ((((e1.trans (Ev.same s2)).trans e3)).trans (Ev.same s4)) (px3.mono s4) q4
theorem bc3 (i:Nat){m m':Str}{k k' n:Nat}{ps ps':List Str}{p':dG}{ta tb:aH}{a b:Expr}{sa:List Stmt}{T:TS}{c1 c2 c3 c4 ap ap':Pos}{pl pl':Sem Bool}(d:jJ X.prog X.w X.K X.mg X.base k m ps p)(d':jJ X.prog X.w X.K X.mg X.base k' m' ps' p')(hr:bD n X.A)(hu:X.A.units+3<cLine)(ha:QE X a ta)(hb:QE X b tb)(hs:dB X sa T)(hkj:k<=n:=by decide)(hkj':k'<=n:=by decide)(hl:∀v w:V,([("standing",v),("undone",w)]:List (Str×V)).lookup m=none:=by intro _ _;rfl)(hl':∀v w:V,([("standing",v),("undone",w)]:List (Str×V)).lookup m'=none:=by intro _ _;rfl)(hi2:X.N[i]? = some x:=by rfl)(hv:cS X.env.scope x:=by first|exact Or.inl rfl|exact Or.inr (Or.inl rfl)|exact Or.inr (Or.inr rfl))(hd:(x==("__debug__":Str))=false:=by decide)(hcd:(x==("__classdict__":Str))=false:=by decide)(ht:eval (.Call (.Attribute (.Name x p2) m ap) [] [] c1) X.env=(do
   let ov <- eval (.Name x p2) X.env
   standAt ap.atName
   let (f,first) <- holding [ov] (getMethod ov m pl)
   callWith c1 f first (backTo c1 (starEach [] X.env)) (backToKw c1 (keywordEach [] X.env))):=by rfl)(ht':eval (.Call (.Attribute (.Name x p3) m' ap') [] [] c2) X.env=(do
   let ov <- eval (.Name x p3) X.env
   standAt ap'.atName
   let (f,first) <- holding [ov] (getMethod ov m' pl')
   callWith c2 f first (backTo c2 (starEach [] X.env)) (backToKw c2 (keywordEach [] X.env))):=by rfl) :
  QS X (.If (.BoolOp .Or [.Compare (.Call (.Attribute (.Name x p2) m ap) [] [] c1) [.NotEq] [a] c3,.Compare (.Call (.Attribute (.Name x p3) m' ap') [] [] c2) [.NotEq] [b] c4] cp) sa [] pos) (nP i p ta p' tb):=by
 obtain⟨C,f,fd,kc,M,F,bd⟩:=d.ex
 obtain⟨C',f',fd',kc',M',F',bd'⟩:=d'.ex
 obtain rfl:=kc.eq kc'.ns
 exact d6 (B8 (PW.pt (B3 (vA (xR 2 hu) (vI (pl:=pl) (E:=EX X.K X.H₀ λ_=>False) (dC hi2 hv hd hcd) kc.cls M F (hr.mono hkj) bd .nil fD ht) ha (fG _)) (B2 (vA (xR 2 hu) (vI (pl:=pl') (E:=EX X.K X.H₀ λ_=>False) (dC hi2 hv hd hcd) kc.cls M' F' (hr.mono hkj') bd' .nil fD ht') hb (fG _))))) hs B7) λ_ _ _=>bc2 kc hl hl'
end
end PP
namespace Core
open PySem L2 PP
def uG:cK:=λxs Q=>∃(ns:af) (t n:Int),xs = [.scr ns,.int t,.int n]/\ns.length<=63/\0<=t/\t<=100/\0<=n/\n<=40/\∀(ws:af) (ls:aa),WL n ws ls->ls.length<=200->Q (bM ws ls)
theorem ag5 {a b n:Int}(a0:0<=a)(a1:a<n)(b0:0<=b)(b1:b<n)(ne:a≠b):0<=(mm a b).1/\(mm a b).1<(mm a b).2/\(mm a b).2<n:=by
 unfold mm
 dsimp only
 split<;>split<;>omega
section
variable {ns:af}{n c t:Int}{Q:PV→Prop}{E:kY}
theorem bc4 (n0:0<=n)(n1:n<13)(q:∀(ws:af) (ls:aa),WL n ws ls->ls.length<=200->E.rt (bM ws ls)) :
  ae2 E [some (.sh true (.scr ns)),si t,si n,some (.own (.lst [])),si c,none,none,none,none,none,none]:=by
 refine⟨by decide,rfl,rfl,rfl,?_⟩
 refine⟨_,rfl,_,rfl,by omega,by omega,λk ρ=>∃(c:Int) (ws:af) (y6:Option Slot),ρ = [some (.sh true (.scr ns)),si t,si n,some (.own (.lst [])),si c,some (.own (.lst (intz ws))),y6,none,none,none,none]/\ws.length=k/\∀w∈ws,0<=w,⟨c,[],none,rfl,rfl,λ_ z=>nomatch z⟩,?_,?_⟩
 ·rintro k y ρ hy ⟨c,ws,y6,rfl,wl,wp⟩
  obtain⟨rfl,hk⟩:=mX hy
  refine nE ?_
  refine⟨_,rfl,_,rfl,_,_,rfl,rfl,(by show (0:Int)<5;decide),trivial,by rw[dF];omega,_,rfl,_,_,rfl,rfl,⟨by decide,by decide⟩,trivial,?_⟩
  refine⟨c/5,ws++[c%5],si (0+(k:Int)),?_,by rw[bl4,wl];rfl,λw hw=>(bn9.mp hw).elim (wp w) λz=>by rw[bl3.mp z];exact bv3 _ (by decide)⟩
  rw[j9];rfl
 rintro ρ ⟨c,ws,y6,rfl,wl,wp⟩
 have lr:(fH 0 n.toNat).length=n.toNat:=by unfold fH;rw[bl1,bt5]
 have wl:ws.length=n.toNat:=wl.trans lr
 refine⟨_,rfl,_,rfl,by omega,by omega,λk ρ=>∃(c:Int) (ls:aa) (y7 y8:Option Slot),ρ = [some (.sh true (.scr ns)),si t,si n,some (.own (.lst (bN ls))),si c,some (.own (.lst (intz ws))),y6,y7,y8,none,none]/\ls.length<=12*k/\kB n ls k 0,⟨c,[],none,none,rfl,bo0 _,⟨(λ_ h=>nomatch h),.nil,(λ_ h=>nomatch h)⟩⟩,?_,?_⟩
 ·rintro k y ρ hy ⟨c,ls,y7,y8,rfl,hl,la⟩
  obtain⟨rfl,hk⟩:=mX hy
  refine nE ?_
  refine⟨_,rfl,_,_,rfl,rfl,_,rfl,_,_,rfl,rfl,⟨by omega,by omega,by omega,by omega⟩,λj ρ=>∃(c:Int) (ls:aa) (y8:Option Slot),ρ = [some (.sh true (.scr ns)),si t,si n,some (.own (.lst (bN ls))),si c,some (.own (.lst (intz ws))),y6,si (0+(k:Int)),y8,none,none]/\ls.length<=12*k+j/\kB n ls k (k+1+j),⟨c,ls,y8,rfl,hl,la.mono (.inr ⟨rfl,by omega⟩)⟩,?_,?_⟩
  ·rintro j y ρ hy ⟨c,ls,y8,rfl,hl,la⟩
   obtain⟨rfl,hj⟩:=mX hy
   refine nE ?_
   refine⟨_,rfl,_,_,rfl,rfl,(by show (0:Int)<2;decide),.inl ⟨_,_,rfl,rfl,_,rfl,?_⟩⟩
   show if decide (c%2=1)=true then _ else _
   cases decide (c%2=1) with
   |true=>
    refine b7 ⟨_,rfl,_,rfl,_,rfl,fC,rfl,trivial,by rw[pJ];omega,_,rfl,_,_,rfl,rfl,⟨by decide,by decide⟩,trivial,?_⟩
    refine⟨c/2,ls++[(0+(k:Int),0+(k:Int)+1+(j:Int))],si (0+(k:Int)+1+(j:Int)),?_,by rw[bl4,bo6];omega,?_⟩
    ·rw[tN];rfl
    ·have ad:=la.add (a:=(k:Int)) (b:=(k:Int)+1+(j:Int)) (by omega)
     rw[show (0:Int)+(k:Int)=(k:Int) by omega]
     exact ad.mono (.inr ⟨rfl,by omega⟩)
   |false=>
    exact aP ⟨_,rfl,_,_,rfl,rfl,⟨by decide,by decide⟩,trivial,_,ls,_,rfl,by omega,la.mono (.inr ⟨rfl,by omega⟩)⟩
  ·rintro ρ ⟨c,ls,y8,rfl,hl,la⟩
   have l2:(fH (0+(k:Int)+1) (n-(0+(k:Int)+1)).toNat).length=(n-(0+(k:Int)+1)).toNat:=by unfold fH;rw[bl1,bt5]
   refine⟨c,ls,_,y8,rfl,?_,la.mono (.inl (by omega))⟩
   rw[l2]at hl
   omega
 ·rintro ρ ⟨c,ls,y7,y8,rfl,hl,la⟩
  rw[lr]at hl
  refine⟨_,rfl,⟨_,_,rfl,rfl,eM ws,_,rfl,⟨_,_,rfl,rfl,k9 ls,fC,yO ws ls,trivial,?_⟩,λns z=>by cases z⟩,λns z=>by cases z⟩
  exact q ws ls ⟨by omega,la.inn,by omega,la.ord,wp⟩ (by omega)
theorem ag6 (hn:ns.length<=63)(t0:0<=t)(t1:t<=100)(n0:0<=n)(n1:n<=40)(q:∀(ws:af) (ls:aa),WL n ws ls->ls.length<=200->E.rt (bM ws ls)) :
  ae3 E [some (.sh true (.scr ns)),si t,si n,some (.own (.lst [])),si c,none,none,none,none,none,none]:=by
 have lr:∀m:Int,(fH 0 m.toNat).length=m.toNat:=λm=>by unfold fH;rw[bl1,bt5]
 refine⟨_,rfl,_,rfl,by omega,by omega,by rw[lr];omega,λk acc=>∃ws:af,acc=intz ws/\ws.length=k/\∀w∈ws,0<=w,⟨[],rfl,rfl,λ_ z=>nomatch z⟩,?_,?_⟩
 ·rintro k y acc hy ⟨ws,rfl,wl,wp⟩
  obtain⟨rfl,hk⟩:=mX hy
  refine nE ?_
  refine⟨_,rfl,_,rfl,_,rfl,_,_,rfl,rfl,ns,_,rfl,hn,by omega,by omega,λz=>⟨_,_,rfl,rfl,(by show (0:Int)<4;decide),trivial,ws++[z%4],?_,by rw[bl4,wl];rfl,λw hw=>(bn9.mp hw).elim (wp w) λz=>by rw[bl3.mp z];exact bv3 _ (by decide)⟩⟩
  rw[j9];rfl
 rintro acc ⟨ws,rfl,wl,wp⟩
 have wl:ws.length=n.toNat:=wl.trans (lr n)
 refine⟨⟨_,_,rfl,rfl,eM ws,trivial,?_⟩,λns z=>by cases z⟩
 refine⟨_,rfl,_,_,rfl,rfl,.inl ⟨by decide,by decide⟩,_,rfl,by omega,by omega,λk ρ=>∃(ls:aa) (y4 y7 y8 y9 y10:Option Slot),ρ = [some (.sh true (.scr ns)),si t,si n,some (.own (.lst (bN ls))),y4,some (.sh true (.tup (intz ws))),none,y7,y8,y9,y10]/\ls.length<=k/\ls.Nodup/\∀l∈ls,0<=l.1/\l.1<l.2/\l.2<n,⟨[],_,_,_,_,_,rfl,bo0 _,.nil,λ_ z=>nomatch z⟩,?_,?_⟩
 ·rintro k y ρ hy ⟨ls,y4,y7,y8,y9,y10,rfl,hl,nd,inn⟩
  obtain⟨rfl,hk⟩:=mX hy
  refine nE ?_
  refine⟨_,rfl,_,rfl,_,rfl,_,_,rfl,rfl,_,rfl,_,_,rfl,rfl,ns,_,rfl,hn,by omega,by omega,λz=>⟨trivial,?_⟩⟩
  have np:(0:Int)<n:=by omega
  have ns':n<1073741824:=by omega
  refine⟨_,rfl,_,rfl,_,_,rfl,rfl,np,trivial,?_⟩
  refine⟨_,rfl,_,rfl,_,_,rfl,rfl,⟨np,ns'⟩,_,rfl,_,_,rfl,rfl,.inl ⟨by decide,by decide⟩,_,_,rfl,rfl,_,rfl,_,_,rfl,rfl,np,trivial,?_⟩
  dsimp only
  have a0:=bv3 z (show n≠0 by omega)
  have a1:=by1 z np
  have b0:=bv3 (z/n+7*z) (show n≠0 by omega)
  have b1:=by1 (z/n+7*z) np
  generalize z%n=a at a0 a1
  generalize (z/n+7*z)%n=b at b0 b1
  refine⟨_,rfl,_,rfl,_,_,rfl,_,rfl,_,rfl,_,_,rfl,fC,rfl,trivial,?_⟩
  refine⟨_,rfl,_,rfl,.inl ⟨_,_,rfl,rfl,_,rfl,?_⟩⟩
  show if (!decide (a=b))=true then _ else _
  cases hab:decide (a=b) with
  |true=>exact aP (aP ⟨ls,_,_,_,_,_,rfl,by omega,nd,inn⟩)
  |false=>
   have hab:=bq2 hab
   refine b7 ⟨_,rfl,_,rfl,two (mm a b),ls.map two,rfl,(by rw[<- nC];rfl),_,rfl,?_⟩
   show if (!decide (two (mm a b)∈ls.map two))=true then _ else _
   cases hin:decide (two (mm a b)∈ls.map two) with
   |true=>exact aP ⟨ls,_,_,_,_,_,rfl,by omega,nd,inn⟩
   |false=>
    have hin:=bq2 hin
    refine b7 ⟨_,rfl,_,rfl,trivial,by rw[pJ];have:=lr (2*n);omega,ls++[mm a b],si z,si a,si b,si (0+(k:Int)),some (.sh true (.tup [.int (mm a b).1,.int (mm a b).2])),?_,by rw[bl4,bo6];omega,bt6.mpr ⟨nd,bn3 _ _,λx hx y hy e=>hin (bo9.mpr ⟨x,hx,by rw[e,bl3.mp hy]⟩)⟩,λl hl=>(bn9.mp hl).elim (inn l) λz=>by rw[bl3.mp z];exact ag5 a0 a1 b0 b1 hab⟩
    rw[tN];rfl
 ·rintro ρ ⟨ls,y4,y7,y8,y9,y10,rfl,hl,nd,inn⟩
  have hl:ls.length<=(2*n).toNat:=bo3 hl (Nat.le_of_eq (lr _))
  refine⟨_,rfl,_,rfl,ls.map two,.inl ?_,by rw[bl1];omega,?_,λzs pm so=>?_⟩
  ·show [PV.lst (bN ls)] = [PV.lst ((ls.map two).map λr=>PV.tup (intz r))]
   rw[<- nC]
  ·intro y hy
   obtain⟨l,_,rfl⟩:=bo9.mp hy
   exact λz=>by cases z
  ·obtain⟨ls',rfl,pm2⟩:=X9 pm
   have e:pS (ls'.map two)=bN ls':=(nC ls').symm
   rw[e]
   exact⟨⟨_,_,rfl,rfl,k9 ls',fC,yO ws ls',trivial,q ws ls' (WL.perm (by omega) inn (by omega) nd wp pm2 so) (by rw[pm2.length_eq];omega)⟩,λns z=>by cases z⟩
end
abbrev bc5:aS:=ae4
theorem bc6:fB ae4 ["script","at","many","links","cell","wants","hearth","one","other","k","pair"] uG:=by
 rintro xs Q ⟨ns,t,n,rfl,hn,t0,t1,n0,n1,q⟩
 refine⟨by decide,rfl,rfl,rfl,?_⟩
 refine⟨_,rfl,_,rfl,_,ns,t,rfl,.inl rfl,t0,_,_,rfl,rfl,⟨by decide,by decide⟩,trivial,?_⟩
 refine⟨_,rfl,_,rfl,_,ns,t,rfl,.inl rfl,t0,_,_,rfl,rfl,(by show (0:Int)<2;decide),.inl ⟨_,_,rfl,rfl,_,rfl,?_⟩⟩
 dsimp only
 generalize ns.getD t.toNat 0=c
 show if decide (c%2=1)=true then _ else _
 cases decide (c%2=1) with
 |false=>exact aP (aP (ag6 hn t0 t1 n0 n1 q))
 |true=>
  refine b7 ⟨_,rfl,_,_,rfl,rfl,_,rfl,?_⟩
  show if decide (n<13)=true then _ else _
  by_cases h:n<13
  ·rw[bn0 h]
   exact b7 (bc4 n0 h q)
  ·rw[bm3 h]
   exact aP (ag6 hn t0 t1 n0 n1 q)
abbrev Fx:Str->Prop:=λ_=>False
abbrev sP (x:PV)(r:eF):PV:=.tup [x,bM r.1 r.2.1,.tup (intz r.2.2)]
noncomputable def bU (r:eF):af:=jG (gV r.1 r.2.1 r.2.2)
def iK (a b:af):af:=a.filter λz=>!decide (z∈b)
noncomputable def gH (r:eF)(B:af):PV:=.tup [.tup (intz (iK (bU r) B)),.tup (intz (iK B (bU r)))]
structure cN (r:eF):Prop where
 wl:WL (r.1.length:Int) r.1 r.2.1
 few:r.1.length<=40
 st:cL r.1.length r.2.2=true
theorem cN.wb {r:eF}(h:cN r):Wb r.1 r.2.1:=h.wl.wb (by have:=h.few;omega)
theorem uH {r:eF}(h:cN r):(bU r).length<=40:=by
 unfold bU
 rw[aT6]
 exact bo3 (t9 h.st _) h.few
theorem bc7 {r:eF}{ms:af}{m:Nat}(en:bP r.1 r.2.1 r.2.2 m)(p:ms.Perm (b8 r.1 r.2.1 r.2.2 m))(so:ms.Pairwise (· <= ·)):ms=bU r:=by
 rw[aU4 en]at p
 exact ab2 p so
theorem ag7 (l:List PV)(z:PV):L2.atI (l++[z]) (-1)=some z:=by
 unfold L2.atI
 have e:iQ (l++[z]).length (-1)=some l.length:=by
  unfold iQ
  simp
  omega
 rw[e]
 simp
theorem bc8 {x:PV}(h:flat x=true)(r:eF):flat (sP x r)=true:=by
 show (flat x&&(flat (bM r.1 r.2.1)&&(flat (.tup (intz r.2.2))&&true)))=true
 rw[h,mZ,i6];rfl
theorem uI (r:eF)(B:af):flat (gH r B)=true:=by
 show (flat (.tup (intz _))&&(flat (.tup (intz _))&&true))=true
 rw[i6,i6];rfl
def gI (st:List PV)(r:eF):Prop:=∃pre x,st=pre++[sP x r]
abbrev uJ (t:(Str->Prop)->aS)(N:List Str)(p:gW):Prop:=∀a st un Ep xs Q,p st un Ep xs Q->t Ep { nx:=λ_=>Q .non,rt:=Q } (kF N a st un xs)
abbrev uK (t:(Str->Prop)->gX)(N:List Str)(p:dG):Prop:=∀a st un Ep xs Q,p st un Ep xs Q->flats xs=true->t Ep { ad:=a,nx:=λ_=>False,rt:=Q } (kF N a st un xs)
def jK:gW:=λst _ _ xs Q=>∃r,xs = []/\gI st r/\Q (bM r.1 r.2.1)
def ag8 (_:Str->Prop):aS:=bC (aW (u7 0 (mI (qC (.int 1)))) (qC (.int 1)))
theorem bc9:uJ ag8 ["self"] jK:=by
 rintro a st un Ep xs Q ⟨r,rfl,⟨pre,x,rfl⟩,q⟩
 exact⟨a,_,un,⟨false,rfl⟩,1,rfl,_,_,rfl,ag7 _ _,_,_,_,rfl,rfl,rfl,trivial,q⟩
def lU:gW:=λst _ _ xs Q=>∃r,xs = []/\gI st r/\Q (.tup (intz r.2.2))
def ag9 (_:Str->Prop):aS:=bC (aW (u7 0 (mI (qC (.int 1)))) (qC (.int 2)))
theorem bd0:uJ ag9 ["self"] lU:=by
 rintro a st un Ep xs Q ⟨r,rfl,⟨pre,x,rfl⟩,q⟩
 exact⟨a,_,un,⟨false,rfl⟩,1,rfl,_,_,rfl,ag7 _ _,_,_,_,rfl,rfl,rfl,trivial,q⟩
def iA:gW:=λst _ _ xs Q=>∃r,xs = []/\gI st r/\cN r/\Q (.tup (intz (bU r)))
def ah0 (_:Str->Prop):aS:=bC (aO (tI Fx) (a9 (fJ Fx 0 jK aC) (a9 (fJ Fx 0 lU aC) aC)))
theorem bd1:uJ ah0 ["self"] iA:=by
 rintro a st un Ep xs Q ⟨r,rfl,ls,ok,q⟩
 have:=pH ok.st
 have:=ok.few
 exact⟨a,st,un,⟨false,rfl⟩,r,rfl,ls,a,st,un,⟨false,rfl⟩,r,rfl,ls,_,_,_,_,rfl,ok.wb,.inl rfl,by omega,λ_ ms m en p so=>⟨trivial,by rw[bc7 en p so];exact q⟩,λe=>by rw[ok.st]at e;cases e⟩
def jL:gW:=λst _ _ xs Q=>∃r B,xs = [.tup (intz B)]/\gI st r/\cN r/\B.length<=40/\Q (gH r B)
def ah1 (_:Str->Prop):aS:=(aR (bE 2 (fJ Fx 0 iA aC))
 (bC (bG (a9 (aO lP (a9 (a5 2) (a9 (a5 1) aC))) (a9 (aO lP (a9 (a5 1) (a9 (a5 2) aC))) aC)))))
theorem bd2:uJ ah1 ["self","before","now"] jL:=by
 rintro a st un Ep xs Q ⟨r,B,rfl,ls,ok,bl,q⟩
 have:=uH ok
 refine⟨a,st,un,⟨false,rfl⟩,r,rfl,ls,ok,trivial,?_⟩
 refine⟨_,rfl,_,rfl,_,_,_,_,rfl,.inl rfl,.inl rfl,by omega,by omega,_,rfl,_,rfl,_,_,_,_,rfl,.inl rfl,.inl rfl,by omega,by omega,fC,?_,trivial,q⟩
 show (flat (.tup (intz _))&&(flat (.tup (intz _))&&true))=true
 rw[i6,i6];rfl
theorem cN.done {r r':eF}{d:i9}(ok:cN r)(few:r.2.1.length<1700)(bd:cM r.1 r.2.1 r.2.2 d=false)(h:gG r.1 r.2.1 r.2.2 d r'):cN r'/\r'.1.length=r.1.length/\r'.2.1.length<=r.2.1.length+1:=by
 obtain⟨k1,k2,k3⟩:=h.keeps ok.st bd
 refine⟨⟨?_,by rw[k1];exact ok.few,k3⟩,k1,k2⟩
 cases d with
 |light i=>
  have h:r'=_:=h
  subst h
  exact ok.wl
 |douse i=>
  have h:r'=_:=h
  subst h
  exact ok.wl
 |want i j=>
  have h:r'=_:=h
  subst h
  unfold cM at bd
  simp only[bw8,bo8]at bd
  refine⟨rfl,λl hl=>?_,ok.wl.most,ok.wl.ord,λw hw=>?_⟩
  ·have:=ok.wl.inn l hl
   rw[show (((r.1.take i.toNat++[j]++r.1.drop (i.toNat+1),r.2.1,r.2.2):eF).1.length:Int)=r.1.length from congrArg Nat.cast k1]
   exact this
  ·have hw:w∈r.1.take i.toNat++[j]++r.1.drop (i.toNat+1):=hw
   rcases bn9.mp hw with hw|hw
   ·rcases bn9.mp hw with hw|hw
    ·exact ok.wl.pos w (bz0 hw)
    ·rw[bl3.mp hw];omega
   ·exact ok.wl.pos w (List.mem_of_mem_drop hw)
 |link i j=>
  obtain⟨l1,rfl,h⟩:=h
  unfold cM at bd
  simp only[bw8,bo8,Bool.not_eq_false']at bd
  obtain⟨b1,b2,b3,b4⟩:=bd
  unfold inB at b1 b2
  simp only[bn4,bm2]at b1 b2
  have nd:r.2.1.Nodup:=ok.wl.ord.imp λ{x y} z e=>by unfold jC at z;rw[e]at z;omega
  refine WL.perm (ls:=r.2.1++[mm i j]) rfl (λl hl=>?_) ?_ ?_ ok.wl.pos h.1 h.2
  ·rcases bn9.mp hl with z|z
   ·exact ok.wl.inn l z
   ·rw[bl3.mp z];exact ag5 b1.1 b1.2 b2.1 b2.2 b3
  ·rw[bl4,bo6];omega
  ·exact bt6.mpr ⟨nd,bn3 _ _,λx hx y hy e=>b4 (by rw[<- bl3.mp hy,<- e];exact hx)⟩
 |cut i j=>
  have h:r'=_:=h
  subst h
  exact⟨rfl,λl hl=>ok.wl.inn l (bv2.mp hl).1,bo3 (bv6 _ _) ok.wl.most,ok.wl.ord.sublist List.filter_sublist,ok.wl.pos⟩
def qI:dG:=λst un Ep xs Q=>∃r d,xs = [dP d]/\gI st r/\cN r/\r.2.1.length<1700/\st.length<1000000/\(cM r.1 r.2.1 r.2.2 d=true->Ep "BadDeed")/\(cM r.1 r.2.1 r.2.2 d=false->∀r',gG r.1 r.2.1 r.2.2 d r'->cN r'->r'.1.length=r.1.length->r'.2.1.length<=r.2.1.length+1->Q (gH r' (bU r)) (st++[sP (tP d) r']) [])
def ah2 (Ep:Str->Prop):gX:=kG (bE 2 (iJ Ep tW (a9 (fJ Fx 0 jK aC) (a9 (fJ Fx 0 lU aC) (a9 (a5 1) aC)))))
 (kG (bE 3 (fJ Fx 0 iA aC))
 (qH 0 (nN (zT 0 (bG (a9 (aO nK (a9 (a5 1) aC)) (a9 (aW (a5 2) (qC (.int 0))) (a9 (aW (a5 2) (qC (.int 1))) aC)))))
 (nN (zU 0)
 (qG 0 (fJ Fx 0 jL (a9 (a5 3) aC)))))))
theorem bd3 {m:Option Slot}{g1 g2 g3:Bool}{x1 x2 x3:PV}:eR [m,some (.sh g1 x1),some (.sh g2 x2),some (.sh g3 x3)] 0:=λj g x ks n z=>by
 match j,z with
 |0,_=>exact n rfl
 |1,z=>cases z
 |2,z=>cases z
 |3,z=>cases z
 |j+4,z=>cases z
theorem ah3 {m:Option Slot}{g1:Bool}{x1:PV}:eR [m,some (.sh g1 x1)] 0:=λj g x ks n z=>by
 match j,z with
 |0,_=>exact n rfl
 |1,z=>cases z
 |j+2,z=>cases z
theorem bd4:uK ah2 ["self","deed","behind","before"] qI:=by
 rintro a st un Ep xs Q ⟨r,d,rfl,ls,ok,few,sl,qe,q⟩ fl
 have sn:=pH ok.st
 have wf:=ok.few
 refine⟨a,st,un,⟨false,rfl⟩,r,rfl,ls,a,st,un,⟨false,rfl⟩,r,rfl,ls,_,rfl,_,_,_,_,d,rfl,.inl rfl,by omega,by omega,by have:=ok.wl.most;omega,λe=>(by rw[ok.st]at e;cases e),λ_=>⟨qe,λbd r' dn=>⟨trivial,?_⟩⟩⟩
 obtain⟨ok',k1,k2⟩:=ok.done few bd dn
 have q:=q bd r' dn ok' k1 k2
 refine⟨a,st,un,⟨false,rfl⟩,r,rfl,ls,ok,trivial,st,un,rfl,bd3,?_⟩
 refine⟨_,rfl,d,rfl,_,rfl,_,_,_,rfl,rfl,rfl,_,rfl,_,_,_,rfl,rfl,rfl,tQ,?_,bc8 (ac8 d) r',st,un,rfl,by omega,?_⟩
 ·show flats [tP d,bM r'.1 r'.2.1,.tup (intz r'.2.2)]=true
  show (flat (tP d)&&(flat (bM r'.1 r'.2.1)&&(flat (.tup (intz r'.2.2))&&true)))=true
  rw[ac8,mZ,i6];rfl
 refine⟨_,_,rfl,?_⟩
 have:=uH ok
 exact⟨a,_,_,⟨true,rfl⟩,_,rfl,r',bU r,rfl,⟨st,_,rfl⟩,ok',by omega,uI _ _,_,_,rfl,q⟩
def kH:dG:=λst un Ep xs Q=>xs = []/\un.length<1000000/\((∃y,st = [y]/\Ep "NoSuch")∨∃pre x' r' x r,st=pre++[sP x' r']++[sP x r]/\cN r'/\cN r/\Q (gH r' (bU r)) (pre++[sP x' r']) (un++[sP x r]))
def ah4 (Ep:Str->Prop):gX:=kG (bI (aZ (l9 (af0 0) (qC (.int 2)))) (gU Ep "NoSuch" (a9 (qC (.str "no deed stands")) aC)) bH)
 (kG (bE 1 (fJ Fx 0 iA aC))
 (qH 0 (nN (zV 0)
 (qG 0 (fJ Fx 0 jL (a9 (a5 1) aC))))))
theorem bd5:uK ah4 ["self","before"] kH:=by
 rintro a st un Ep xs Q ⟨rfl,ul,h⟩ fl
 rcases h with⟨y,rfl,qe⟩|⟨pre,x',r',x,r,rfl,ok',ok,q⟩
 ·exact⟨a,_,un,⟨false,rfl⟩,_,_,rfl,rfl,_,rfl,b7 ⟨kE,qe⟩⟩
 ·refine⟨a,_,un,⟨false,rfl⟩,_,_,rfl,rfl,_,rfl,?_⟩
  rw[bm3 (by rw[bl4,bl4,bo6,bo6];omega)]
  refine aP ?_
  refine⟨a,_,un,⟨false,rfl⟩,r,rfl,⟨_,_,rfl⟩,ok,trivial,_,un,rfl,ah3,?_⟩
  refine⟨_,_,_,rfl,by omega,?_⟩
  have:=uH ok
  exact⟨a,_,_,⟨true,rfl⟩,_,rfl,r',bU r,rfl,⟨pre,x',rfl⟩,ok',by omega,uI _ _,_,_,rfl,q⟩
def kI:dG:=λst un Ep xs Q=>xs = []/\st.length<1000000/\((un = []/\Ep "NoSuch")∨∃un' x' r' r,un=un'++[sP x' r']/\gI st r/\cN r'/\cN r/\Q (gH r' (bU r)) (st++[sP x' r']) un')
def ah5 (Ep:Str->Prop):gX:=kG (bI (jT (af1 0)) (gU Ep "NoSuch" (a9 (qC (.str "no deed was taken back")) aC)) bH)
 (kG (bE 1 (fJ Fx 0 iA aC))
 (qH 0 (nN (zW 0)
 (qG 0 (fJ Fx 0 jL (a9 (a5 1) aC))))))
theorem bd6:uK ah5 ["self","before"] kI:=by
 rintro a st un Ep xs Q ⟨rfl,sl,h⟩ fl
 rcases h with⟨rfl,qe⟩|⟨un',x',r',r,rfl,ls,ok',ok,q⟩
 ·exact⟨a,st,[],⟨false,rfl⟩,b7 ⟨kE,qe⟩⟩
 ·refine⟨a,st,_,⟨false,rfl⟩,?_⟩
  have e:(un'++[sP x' r']).isEmpty=false:=by cases un'<;>rfl
  rw[e]
  refine aP ?_
  refine⟨a,st,_,⟨false,rfl⟩,r,rfl,ls,ok,trivial,st,_,rfl,ah3,?_⟩
  refine⟨_,_,_,rfl,by omega,?_⟩
  have:=uH ok
  exact⟨a,_,_,⟨true,rfl⟩,_,rfl,r',bU r,rfl,⟨st,x',rfl⟩,ok',by omega,uI _ _,_,_,rfl,q⟩
end Core
namespace PP
open PySem L2 PyProof.Rows
section
variable {X:Cx}{C:Addr}{x:Str}{pos p2 p3 p4 p5 apos cpos ap2 cp2:Pos}
theorem bd7 (kc:KC X.K C)(i:Nat)(hN:X.N[i]? = some x:=by rfl)(hv:cS X.env.scope x:=by first|exact Or.inl rfl|exact Or.inr (Or.inl rfl)|exact Or.inr (Or.inr rfl))(hd:(x==("__debug__":Str))=false:=by decide)(hcd:(x==("__classdict__":Str))=false:=by decide)(hbs:attributeBase (.Name x p2) "undone" X.env (eval (.Name x p2) X.env)=eval (.Name x p2) X.env:=by rfl)(hbg:attributeBase (.Name x p4) "standing" X.env (eval (.Name x p4) X.env)=eval (.Name x p4) X.env:=by rfl)(hbase:attributeBase (.Attribute (.Name x p2) "undone" p3) "append" X.env (eval (.Attribute (.Name x p2) "undone" p3) X.env)=eval (.Attribute (.Name x p2) "undone" p3) X.env:=by rfl)(hbase2:attributeBase (.Attribute (.Name x p4) "standing" p5) "pop" X.env (eval (.Attribute (.Name x p4) "standing" p5) X.env)=eval (.Attribute (.Name x p4) "standing" p5) X.env:=by rfl)(hfew:((backTo cpos (starEach [.Call (.Attribute (.Attribute (.Name x p4) "standing" p5) "pop" ap2) [] [] cp2] X.env)).all (λx=>!x.1)&&(backToKw cpos (keywordEach [] X.env)).all (λx=>x.1.isSome)&&decide (([.Call (.Attribute (.Attribute (.Name x p4) "standing" p5) "pop" ap2) [] [] cp2]:List Expr).length+([]:List Keyword).length+(if ([]:List Keyword).isEmpty then 0 else 1)<30))=true:=by rfl)(hline:(apos.endLine==cpos.line)=true:=by rfl)(hline2:(ap2.endLine==cp2.line)=true:=by rfl)(hs:starEach [.Call (.Attribute (.Attribute (.Name x p4) "standing" p5) "pop" ap2) [] [] cp2] X.env=(false,eval (.Call (.Attribute (.Attribute (.Name x p4) "standing" p5) "pop" ap2) [] [] cp2) X.env)::starEach [] X.env:=by rfl)(hplain:(backTo cpos (starEach [] X.env)).any (·.1)=false:=by rfl)(hsw:swapsWith (.Call (.Attribute (.Attribute (.Name x p2) "undone" p3) "append" apos) [.Call (.Attribute (.Attribute (.Name x p4) "standing" p5) "pop" ap2) [] [] cp2] [] cpos) none pos.line X.env=pure false:=by rfl) :
  QK X i (.Expr (.Call (.Attribute (.Attribute (.Name x p2) "undone" p3) "append" apos) [.Call (.Attribute (.Attribute (.Name x p4) "standing" p5) "pop" ap2) [] [] cp2] [] cpos) pos) (zV i):=
 d6 (af9 i hN hv hd hcd hbs hbg hbase hbase2 hfew hline hline2 hs hplain hsw) λ_ _ _=>ba5 kc
theorem bd8 (kc:KC X.K C)(i:Nat)(hN:X.N[i]? = some x:=by rfl)(hv:cS X.env.scope x:=by first|exact Or.inl rfl|exact Or.inr (Or.inl rfl)|exact Or.inr (Or.inr rfl))(hd:(x==("__debug__":Str))=false:=by decide)(hcd:(x==("__classdict__":Str))=false:=by decide)(hbs:attributeBase (.Name x p2) "standing" X.env (eval (.Name x p2) X.env)=eval (.Name x p2) X.env:=by rfl)(hbg:attributeBase (.Name x p4) "undone" X.env (eval (.Name x p4) X.env)=eval (.Name x p4) X.env:=by rfl)(hbase:attributeBase (.Attribute (.Name x p2) "standing" p3) "append" X.env (eval (.Attribute (.Name x p2) "standing" p3) X.env)=eval (.Attribute (.Name x p2) "standing" p3) X.env:=by rfl)(hbase2:attributeBase (.Attribute (.Name x p4) "undone" p5) "pop" X.env (eval (.Attribute (.Name x p4) "undone" p5) X.env)=eval (.Attribute (.Name x p4) "undone" p5) X.env:=by rfl)(hfew:((backTo cpos (starEach [.Call (.Attribute (.Attribute (.Name x p4) "undone" p5) "pop" ap2) [] [] cp2] X.env)).all (λx=>!x.1)&&(backToKw cpos (keywordEach [] X.env)).all (λx=>x.1.isSome)&&decide (([.Call (.Attribute (.Attribute (.Name x p4) "undone" p5) "pop" ap2) [] [] cp2]:List Expr).length+([]:List Keyword).length+(if ([]:List Keyword).isEmpty then 0 else 1)<30))=true:=by rfl)(hline:(apos.endLine==cpos.line)=true:=by rfl)(hline2:(ap2.endLine==cp2.line)=true:=by rfl)(hs:starEach [.Call (.Attribute (.Attribute (.Name x p4) "undone" p5) "pop" ap2) [] [] cp2] X.env=(false,eval (.Call (.Attribute (.Attribute (.Name x p4) "undone" p5) "pop" ap2) [] [] cp2) X.env)::starEach [] X.env:=by rfl)(hplain:(backTo cpos (starEach [] X.env)).any (·.1)=false:=by rfl)(hsw:swapsWith (.Call (.Attribute (.Attribute (.Name x p2) "standing" p3) "append" apos) [.Call (.Attribute (.Attribute (.Name x p4) "undone" p5) "pop" ap2) [] [] cp2] [] cpos) none pos.line X.env=pure false:=by rfl) :
  QK X i (.Expr (.Call (.Attribute (.Attribute (.Name x p2) "standing" p3) "append" apos) [.Call (.Attribute (.Attribute (.Name x p4) "undone" p5) "pop" ap2) [] [] cp2] [] cpos) pos) (zW i):=
 d6 (af9 i hN hv hd hcd hbs hbg hbase hbase2 hfew hline hline2 hs hplain hsw) λ_ _ _=>ba6 kc
end
end PP
namespace Core
open PySem L2 PP
theorem nQ {ws ws':af}{ls ls':aa}{S S':af}(el:ws'.length=ws.length)(hw:∀h∈rng ws.length,ws'.getD h.toNat 0<=ws.getD h.toNat 0)(hl:∀(T:af) (h:Int),((bS ls h).filter λx=>decide (x∈T)).length<=((bS ls' h).filter λx=>decide (x∈T)).length)(hs:∀x∈S,x∈S')(st':cL ws'.length S'=true):∀x∈gV ws ls S,x∈gV ws' ls' S':=by
 refine aU6 (λh hh=>?_) λx hx=>aU7 st' x (hs x hx)
 have sh:=aU5 (ws:=ws') (ls:=ls') (ns:=S') h (by rw[el];exact hh)
 unfold kin at sh ⊢
 rw[Bool.and_eq_false_iff]at sh ⊢
 rcases sh with sh|sh
 ·exact .inl sh
 ·refine .inr (bm3 ?_)
  have:=bq2 sh
  have:=hw h hh
  have:=hl (gV ws' ls' S') h
  omega
theorem bd9 {a b:aa}(p:a.Perm b)(T:af)(h:Int):((bS a h).filter λx=>decide (x∈T)).length=((bS b h).filter λx=>decide (x∈T)).length:=((p.flatMap_right _).filter _).length_eq
theorem be0 (ls:aa)(p:Int×Int)(T:af)(h:Int):((bS ls h).filter λx=>decide (x∈T)).length<=((bS (ls++[p]) h).filter λx=>decide (x∈T)).length:=by
 rw[M6,List.filter_append,bl4]
 exact bp9 _ _
theorem ah6 (f:Int×Int->Bool)(T:af)(h:Int):∀ls:aa,((bS (ls.filter f) h).filter λx=>decide (x∈T)).length<=((bS ls h).filter λx=>decide (x∈T)).length
 |[]=>bk9 _
 |l::r=>by
  have ih:=ah6 f T h r
  have e:∀q:aa,bS (l::q) h=((if l.1=h then [l.2] else [])++(if l.2=h then [l.1] else []))++bS q h:=λ_=>rfl
  rw[bv9,e r,List.filter_append,bl4]
  split
  ·rw[e,List.filter_append,bl4];omega
  ·omega
def A1 (ws:af):i9->Bool
 |.light _=>true
 |.douse _=>false
 |.want i j=>decide (j<ws.getD i.toNat 0)
 |.link _ _=>true
 |.cut _ _=>false
theorem ah7 {ws:af}{i j:Int}(i0:0<=i)(i1:i<(ws.length:Int))(h:Int)(h0:0<=h):(ws.take i.toNat++[j]++ws.drop (i.toNat+1)).getD h.toNat 0=if h=i then j else ws.getD h.toNat 0:=by
 have e:ws.take i.toNat++[j]++ws.drop (i.toNat+1)=ws.set i.toNat j:=by
  rw[List.set_eq_take_append_cons_drop,if_pos (by omega),bn1];rfl
 rw[e,bn7,bn7,List.getElem?_set]
 by_cases z:h=i
 ·subst z
  rw[if_pos rfl,if_pos rfl,if_pos (by omega)];rfl
 ·rw[if_neg (by omega),if_neg z]
theorem be1 {r r':eF}{d:i9}(ok:cN r)(ok':cN r')(bd:cM r.1 r.2.1 r.2.2 d=false)(h:gG r.1 r.2.1 r.2.2 d r'):(A1 r.1 d=true->iK (bU r) (bU r') = [])/\(A1 r.1 d=false->iK (bU r') (bU r) = []):=by
 have fin:∀{a b:eF},(∀x∈gV a.1 a.2.1 a.2.2,x∈gV b.1 b.2.1 b.2.2)->iK (bU a) (bU b) = []:=λ{a b} h=>by
  unfold iK
  rw[List.filter_eq_nil_iff]
  intro x hx
  have m:x∈bU b:=((lS _).1.mem_iff).mpr (h x ((lS _).1.mem_iff.mp hx))
  rw[bn0 m];decide
 have rf:∀(ls:aa) (T:af) (h:Int),((bS ls h).filter λx=>decide (x∈T)).length<=((bS ls h).filter λx=>decide (x∈T)).length:=λ_ _ _=>bk9 _
 cases d with
 |light i=>
  have h:r'=_:=h
  subst h
  refine⟨λ_=>fin (nQ rfl (λ_ _=>bt1 _) (rf _) (λx hx=>?_) ok'.st),λz=>by cases z⟩
  exact ((lS _).1.mem_iff).mpr (bt9 _ hx)
 |douse i=>
  have h:r'=_:=h
  subst h
  exact⟨λz=>(by cases z),λ_=>fin (nQ rfl (λ_ _=>bt1 _) (rf _) (λx hx=>(bv2.mp hx).1) ok.st)⟩
 |want i j=>
  obtain⟨k1,_,_⟩:=h.keeps ok.st bd
  have h:r'=_:=h
  subst h
  unfold cM at bd
  simp only[bw8,bo8,Bool.not_eq_false']at bd
  obtain⟨b1,b2,b3,b4⟩:=bd
  unfold inB at b1
  simp only[bn4,bm2]at b1
  refine⟨λz=>fin (nQ k1 (λh hh=>?_) (rf _) (λx hx=>hx) ok'.st),λz=>fin (nQ k1.symm (λh hh=>?_) (rf _) (λx hx=>hx) ok.st)⟩
  ·have z:=bu7 z
   rw[ah7 b1.1 b1.2 h (mY.mp hh).1]
   split
   ·rename_i e;rw[e];omega
   ·exact bt1 _
  ·have z:=bq2 z
   rw[ah7 b1.1 b1.2 h (mY.mp hh).1]
   split
   ·rename_i e;rw[e];omega
   ·exact bt1 _
 |link i j=>
  obtain⟨l1,rfl,h⟩:=h
  refine⟨λ_=>fin (nQ rfl (λ_ _=>bt1 _) (λT h'=>?_) (λx hx=>hx) ok'.st),λz=>by cases z⟩
  rw[bd9 h.1]
  exact be0 _ _ _ _
 |cut i j=>
  have h:r'=_:=h
  subst h
  exact⟨λz=>(by cases z),λ_=>fin (nQ rfl (λ_ _=>bt1 _) (λT h'=>ah6 _ _ _ _) (λx hx=>hx) ok.st)⟩
def qJ:dG:=λst un Ep xs Q=>∃r d,xs = [dP d]/\gI st r/\cN r/\r.2.1.length<1700/\st.length<1000000/\(cM r.1 r.2.1 r.2.2 d=true->Q .non st un)/\(cM r.1 r.2.1 r.2.2 d=false->∀r',gG r.1 r.2.1 r.2.2 d r'->cN r'->r'.1.length=r.1.length->r'.2.1.length<=r.2.1.length+1->Q (gH r' (bU r)) (st++[sP (tP d) r']) [])
def ah8 (Ep:Str->Prop):gX:=(kG (bE 2 (qC .non))
 (qH 0 (nN (zY "BadDeed" (ag1 0 2 qI (a9 (a5 1) aC)) (ag0 0 2 (qC .non)))
 (qG 0 (a5 2)))))
theorem be2 {m:Option Slot}{g1 g2:Bool}{x1 x2:PV}:eR [m,some (.sh g1 x1),some (.sh g2 x2)] 0:=λj g x ks n z=>by
 match j,z with
 |0,_=>exact n rfl
 |1,z=>cases z
 |2,z=>cases z
 |j+3,z=>cases z
theorem be3:uK ah8 ["keeper","deed","told"] qJ:=by
 rintro a st un Ep xs Q ⟨r,d,rfl,ls,ok,few,sl,qe,q⟩ fl
 refine⟨trivial,st,un,rfl,be2,?_⟩
 refine⟨(by decide),st,un,rfl,_,rfl,?_,r,d,rfl,ls,ok,few,sl,λe=>⟨rfl,rfl,(by decide),_,rfl,rfl,st,un,rfl,qe e⟩,λbd r' dn ok' k1 k2=>⟨_,rfl,uI _ _,_,_,rfl,q bd r' dn ok' k1 k2⟩⟩
 show (flat (dP d)&&true)=true
 rw[ac7];rfl
def A2:cK:=Y0
def ah9:aS:=(aR (bE 8 (wU (q2 (cW false) (aW (a5 5) (qC (.int 0))) (qC (.str "light"))) (q2 (cW false) (aW (a5 5) (qC (.int 0))) (qC (.str "link")))))
   (aR (bI (aZ (q2 (cW false) (aW (a5 5) (qC (.int 0))) (qC (.str "want")))) (bE 8 (l9 (aW (a5 5) (qC (.int 2))) (aW (a5 6) (aW (a5 5) (qC (.int 1)))))) bH)
   (aR (bI (aZ (q2 (oM 2 true) (aW (a5 7) (aO pO (a9 (a5 8) aC))) (bG aC))) (bC (qC (.bl false))) bH)
   (nP 3 kH (bG (a9 (aW (a5 7) (qC (.int 1))) (a9 (aW (a5 7) (qC (.int 0))) aC))) kI (a5 7)))))
def ai0:aS:=(aR (bE 5 (aO tX (a9 (a5 4) (a9 (a5 1) aC))))
  (aR (bE 6 (aW (fJ Fx 3 jK aC) (qC (.int 0))))
  (aR (ag4 7 3 qJ (a9 (a5 5) aC))
  (bI (aZ (aE4 (a5 7) (qC .non))) ah9 bH))))
def ai1:aS:=(aR (bE 1 (gD (qC (.int 1)) (cT (aO jB (a9 (a5 0) (a9 (qC (.int 0)) aC))) (qC (.int 12)))))
 (aR (bE 2 (aO uG (a9 (a5 0) (a9 (qC (.int 1)) (a9 (a5 1) aC)))))
 (aR (ag3 3 (a5 2))
 (aR (gC (iF (a5 0)) (dO 4) ai0)
 (bC (qC (.bl true)))))))
def NK (y:Option Slot):Prop:=∀g x ks,y≠some (.kp g x ks)
theorem dI {g:Bool}{x:PV}:NK (some (.sh g x)):=λ_ _ _ z=>by cases z
theorem uL:NK none:=λ_ _ _ z=>by cases z
theorem ai2 {y0 y1 y2 y3 y4 y5 y6 y7 y8:Option Slot}(h0:NK y0)(h1:NK y1)(h2:NK y2)(h4:NK y4)(h5:NK y5)(h6:NK y6)(h7:NK y7)(h8:NK y8):eR [y0,y1,y2,y3,y4,y5,y6,y7,y8] 3:=λj g x ks n z=>by
 match j,z with
 |0,z=>exact h0 _ _ _ (bl6 z)
 |1,z=>exact h1 _ _ _ (bl6 z)
 |2,z=>exact h2 _ _ _ (bl6 z)
 |3,_=>exact n rfl
 |4,z=>exact h4 _ _ _ (bl6 z)
 |5,z=>exact h5 _ _ _ (bl6 z)
 |6,z=>exact h6 _ _ _ (bl6 z)
 |7,z=>exact h7 _ _ _ (bl6 z)
 |8,z=>exact h8 _ _ _ (bl6 z)
 |j+9,z=>cases z
theorem ai3 (a b:af):cD 3 (.tup [.tup (intz a),.tup (intz b)]) (.tup [.tup (intz a),.tup (intz b)])=true:=by
 show ((cD 2 (.tup (intz a)) (.tup (intz a))&&(cD 2 (.tup (intz b)) (.tup (intz b))&&true))&&true)=true
 rw[rZ,rZ,bn0 rfl,bn0 rfl];rfl
theorem ai4 (a b:af):dE 3 (.tup [.tup (intz a),.tup (intz b)]) (.tup [.tup (intz a),.tup (intz b)])=true:=by
 show (dE 2 (.tup (intz a)) (.tup (intz a))&&(dE 2 (.tup (intz b)) (.tup (intz b))&&true))=true
 rw[sA,sA];rfl
abbrev iL (ns:af)(n:Int)(w:PV)(a:Addr)(st un:List PV)(y4 y5 y6 y7 y8:Option Slot):b6:=[some (.sh true (.scr ns)),si n,some (.sh true w),some (.kp true (.ob a) [(a,st,un)]),y4,y5,y6,y7,y8]
section
variable {ns:af}{n:Int}{w:PV}{a:Addr}{st un:List PV}{y4 y5 y6 y7 y8:Option Slot}{E:kY}{r r':eF}{d:i9}
theorem be4 (h4:NK y4)(h5:NK y5)(h6:NK y6)(h8:NK y8)(sl:st.length<1000)(ls:gI st r)(ok:cN r)(ok':cN r')(q:E.nx (iL ns n w a (st++[sP (tP d) r']) [] y4 y5 y6 (some (.sh true (gH r' (bU r)))) y8)) :
  (nP 3 kH (bG (a9 (aW (a5 7) (qC (.int 1))) (a9 (aW (a5 7) (qC (.int 0))) aC))) kI (a5 7)) E (iL ns n w a (st++[sP (tP d) r']) [] y4 y5 y6 (some (.sh true (gH r' (bU r)))) y8):=by
 obtain⟨pre,x,rfl⟩:=ls
 refine⟨a,_,[],rfl,ai2 dI dI dI h4 h5 h6 dI h8,rfl,(by show 0<1000000;decide),.inr ⟨pre,x,r,tP d,r',rfl,ok,ok',?_⟩⟩
 refine⟨_,rfl,_,_,_,rfl,rfl,rfl,_,rfl,_,_,_,rfl,rfl,rfl,fC,?_,⟨_,_,rfl,rfl⟩,ai4 _ _,ai3 _ _,?_⟩
 ·show (flat (.tup (intz _))&&(flat (.tup (intz _))&&true))=true
  rw[i6,i6];rfl
 refine⟨rfl,by omega,.inr ⟨[],tP d,r',r,rfl,⟨pre,x,rfl⟩,ok',ok,?_⟩⟩
 exact⟨_,rfl,⟨_,_,rfl,rfl⟩,ai4 _ _,ai3 _ _,q⟩
theorem be5 {b:Bool}(h4:NK y4)(h5:NK y5)(h6:NK y6)(sl:st.length<1000)(ls:gI st r)(ok:cN r)(ok':cN r')(hh:(b=true->iK (bU r) (bU r') = [])/\(b=false->iK (bU r') (bU r) = []))(q:E.nx (iL ns n w a (st++[sP (tP d) r']) [] y4 y5 y6 (some (.sh true (gH r' (bU r)))) (some (.sh true (.bl b))))) :
  (aR (bI (aZ (q2 (oM 2 true) (aW (a5 7) (aO pO (a9 (a5 8) aC))) (bG aC))) (bC (qC (.bl false))) bH)
   (nP 3 kH (bG (a9 (aW (a5 7) (qC (.int 1))) (a9 (aW (a5 7) (qC (.int 0))) aC))) kI (a5 7))) E (iL ns n w a (st++[sP (tP d) r']) [] y4 y5 y6 (some (.sh true (gH r' (bU r)))) (some (.sh true (.bl b)))):=by
 have fin:=be4 (E:=E) (ns:=ns) (n:=n) (w:=w) (a:=a) (d:=d) h4 h5 h6 (dI (g:=true) (x:=.bl b)) sl ls ok ok' q
 have key:∀(i:Int) (A:af),L2.atI [PV.tup (intz (iK (bU r') (bU r))),.tup (intz (iK (bU r) (bU r')))] i=some (.tup (intz A))->A = []->(if b=true then (1:Int) else 0)=i->(bI (aZ (q2 (oM 2 true) (aW (a5 7) (aO pO (a9 (a5 8) aC))) (bG aC))) (bC (qC (.bl false))) bH) { E with nx:=(nP 3 kH (bG (a9 (aW (a5 7) (qC (.int 1))) (a9 (aW (a5 7) (qC (.int 0))) aC))) kI (a5 7)) E } (iL ns n w a (st++[sP (tP d) r']) [] y4 y5 y6 (some (.sh true (gH r' (bU r)))) (some (.sh true (.bl b)))):=λi A at_ e hi=>by
  subst e
  refine⟨_,rfl,_,rfl,.inr ⟨b,rfl,⟨_,i,_,rfl,?_,at_,bo0 _,rfl,.inl ⟨[],[],rfl,rfl⟩,rfl,?_⟩⟩⟩
  ·exact congrArg PV.int hi
  ·exact⟨_,rfl,aP fin⟩
 cases b with
 |true=>exact key 1 _ rfl (hh.1 rfl) rfl
 |false=>exact key 0 _ rfl (hh.2 rfl) rfl
theorem be6 (h4:NK y4)(sl:st.length<1000)(ls:gI st r)(ok:cN r)(ok':cN r')(bd:cM r.1 r.2.1 r.2.2 d=false)(dn:gG r.1 r.2.1 r.2.2 d r')(q:∀y8,NK y8->E.nx (iL ns n w a (st++[sP (tP d) r']) [] y4 (some (.sh true (dP d))) (some (.sh true (.tup (intz r.1)))) (some (.sh true (gH r' (bU r)))) y8)) :
  ah9 E (iL ns n w a (st++[sP (tP d) r']) [] y4 (some (.sh true (dP d))) (some (.sh true (.tup (intz r.1)))) (some (.sh true (gH r' (bU r)))) y8):=by
 have hh:=be1 ok ok' bd dn
 have fin:=λb (hb:A1 r.1 d=b)=>be5 (E:=E) (ns:=ns) (n:=n) (w:=w) (a:=a) (d:=d) (b:=b) h4 (dI (g:=true) (x:=dP d)) (dI (g:=true) (x:=.tup (intz r.1))) sl ls ok ok' ⟨λz=>hh.1 (hb.trans z),λz=>hh.2 (hb.trans z)⟩ (q _ dI)
 cases d with
 |light i=>exact⟨_,rfl,_,_,_,rfl,rfl,rfl,_,_,rfl,rfl,_,rfl,b7 ⟨trivial,_,rfl,_,_,_,rfl,rfl,rfl,_,_,rfl,rfl,_,rfl,aP (fin true rfl)⟩⟩
 |douse i=>exact⟨_,rfl,_,_,_,rfl,rfl,rfl,_,_,rfl,rfl,_,rfl,aP ⟨_,rfl,_,_,_,rfl,rfl,rfl,_,_,rfl,rfl,trivial,_,rfl,_,_,_,rfl,rfl,rfl,_,_,rfl,rfl,_,rfl,aP (fin false rfl)⟩⟩
 |link i j=>exact⟨_,rfl,_,_,_,rfl,rfl,rfl,_,_,rfl,rfl,_,rfl,aP ⟨_,rfl,_,_,_,rfl,rfl,rfl,_,_,rfl,rfl,trivial,_,rfl,_,_,_,rfl,rfl,rfl,_,_,rfl,rfl,_,rfl,aP (fin true rfl)⟩⟩
 |cut i j=>exact⟨_,rfl,_,_,_,rfl,rfl,rfl,_,_,rfl,rfl,_,rfl,aP ⟨_,rfl,_,_,_,rfl,rfl,rfl,_,_,rfl,rfl,trivial,_,rfl,_,_,_,rfl,rfl,rfl,_,_,rfl,rfl,_,rfl,aP (fin false rfl)⟩⟩
 |want i j=>
  have bd':=bd
  unfold cM at bd'
  simp only[bw8,bo8,Bool.not_eq_false']at bd'
  have b1:=bd'.1
  unfold inB at b1
  simp only[bn4,bm2]at b1
  have at_:L2.atI (intz r.1) i=some (.int (r.1.getD i.toNat 0)):=pF b1.1 b1.2
  exact⟨_,rfl,_,_,_,rfl,rfl,rfl,_,_,rfl,rfl,_,rfl,aP ⟨_,rfl,_,_,_,rfl,rfl,rfl,_,_,rfl,rfl,trivial,_,rfl,_,_,_,rfl,rfl,rfl,_,_,rfl,rfl,_,rfl,b7 ⟨_,rfl,_,_,_,rfl,rfl,rfl,_,rfl,_,rfl,_,_,_,rfl,rfl,rfl,_,_,_,rfl,rfl,at_,_,_,rfl,rfl,trivial,fin _ rfl⟩⟩⟩
theorem be7 {k:Nat}{c:Int}(h5:NK y5)(h6:NK y6)(h7:NK y7)(h8:NK y8)(n0:0<=n)(n1:n<=12)(sl:st.length<=1+k)(kl:k<63)(ls:gI st r)(ok:cN r)(few:r.2.1.length<=200+k)(q:∀st' un' r' y5 y6 y7 y8,NK y5->NK y6->NK y7->NK y8->st'.length<=1+(k+1)->gI st' r'->cN r'->r'.2.1.length<=200+(k+1)->E.nx (iL ns n w a st' un' (si c) y5 y6 y7 y8)) :
  ai0 E (iL ns n w a st un (si c) y5 y6 y7 y8):=by
 refine⟨_,rfl,_,rfl,c,n,rfl,n0,by omega,λd=>?_⟩
 have fd:wX .fr (dP d)=true:=rfl
 refine⟨trivial,a,st,un,⟨true,rfl⟩,r,rfl,ls,_,_,_,rfl,rfl,rfl,trivial,?_⟩
 refine⟨a,st,un,rfl,ai2 dI dI dI dI dI dI h7 h8,(by decide),_,rfl,?_,r,d,rfl,ls,ok,by omega,by omega,λbd=>?_,λbd r' dn ok' k1 k2=>?_⟩
 ·show (flat (dP d)&&true)=true
  rw[ac7];rfl
 ·exact⟨_,rfl,rfl,_,rfl,aP (q st un r _ _ _ _ dI dI dI h8 (by omega) ls ok (by omega))⟩
 ·refine⟨_,rfl,rfl,_,rfl,b7 (be6 dI (by omega) ls ok ok' bd dn λy8 h8=>?_)⟩
  exact q _ _ r' _ _ _ _ dI dI dI h8 (by rw[bl4,bo6];omega) ⟨st,_,rfl⟩ ok' (by omega)
end
theorem be8:fB ai1 ["script","many","web","keeper","cell","deed","wants","told","helps"] A2:=by
 rintro xs Q ⟨ns,rfl,hn,q⟩
 refine⟨_,rfl,_,ns,0,rfl,.inl rfl,by decide,_,_,rfl,rfl,(by show (0:Int)<12;decide),_,_,rfl,rfl,trivial,?_⟩
 have h0:∀x:Int,0<=x%12/\x%12<12:=λx=>⟨bv3 _ (by decide),by1 _ (by decide)⟩
 have a0:=h0 (ns.getD (0:Int).toNat 0)
 dsimp only
 generalize e:1+ns.getD (0:Int).toNat 0%12=n
 have n0:1<=n:=by omega
 have n1:n<=12:=by omega
 refine⟨_,rfl,_,rfl,ns,1,n,rfl,hn,by decide,by decide,by omega,by omega,λws ls wl fl=>⟨trivial,?_⟩⟩
 refine⟨_,rfl,mZ ws ls,λa=>?_⟩
 have ok:cN (ws,ls,[]):=⟨by have:=wl.many;rw[<- this]at wl;exact wl,by have:=wl.many;show ws.length<=40;omega,rfl⟩
 refine⟨_,rfl,_,rfl,(λz=>by cases z),λk ρ=>∃st un r y4 y5 y6 y7 y8,ρ=iL ns n (bM ws ls) a st un y4 y5 y6 y7 y8/\NK y5/\NK y6/\NK y7/\NK y8/\st.length<=1+k/\gI st r/\cN r/\r.2.1.length<=200+k,⟨_,_,(ws,ls,[]),none,none,none,none,none,rfl,uL,uL,uL,uL,bk9 _,⟨[],.non,rfl⟩,ok,fl⟩,?_,?_⟩
 ·rintro k y ρ hy ⟨st,un,r,y4,y5,y6,y7,y8,rfl,h5,h6,h7,h8,sl,lst,okr,few⟩
  have kl:k<63:=by
   have:=(bl7.mp hy).1
   rw[dF]at this
   omega
  obtain⟨c,rfl⟩:∃c,y = .int c:=by
   have:=bt0 hy
   obtain⟨c,_,e⟩:=bo9.mp this
   exact⟨c,e.symm⟩
  refine nE ?_
  exact be7 h5 h6 h7 h8 (by omega) (by omega) sl kl lst okr few λst' un' r' y5 y6 y7 y8 h5 h6 h7 h8 sl' ls' ok' few'=>⟨st',un',r',_,y5,y6,y7,y8,rfl,h5,h6,h7,h8,sl',ls',ok',few'⟩
 ·rintro ρ ⟨st,un,r,y4,y5,y6,y7,y8,rfl,_⟩
  exact⟨trivial,q⟩
end Core
namespace K_k91
open PySem PySem.W L2 PP Core
theorem _root_.L2.FnScope.au {N P:List Str}{s:Scope}(a:s.kind=.function:=by rfl)(b:s.isCoroutine=false:=by rfl)(c:s.isGenerator=false:=by rfl)(d:N.Nodup:=by decide +kernel)(e:N.take P.length=P:=by rfl)(f:∀x∈P,s.names.lookup x=some .local∨s.names.lookup x=some .cell:=by decide +kernel)(g:∀y∈s.names,y.2≠.free:=by decide +kernel):FnScope N P s:=⟨a,b,c,d,e,f,g⟩
def bA (i:Nat):Stmt:=PySem.Challenge.pw_kindleweb_k91_whole_what_helps.main.body.getD i (.Pass ⟨0,0,0,0⟩)
def bB (i j:Nat):Stmt:=match bA i with
 |.ClassDef _ _ _ b _ _ _ _ _ _ _=>b.getD j (.Pass ⟨0,0,0,0⟩)
 |_=>.Pass ⟨0,0,0,0⟩
structure FK (K:Frag)(n:Str)(i:Nat)(f:Addr)(d:FuncData):Prop where
 a:nsIn K mainGlobals n=some (some (.ref f))
 F:cP K n n (bA i) f d
structure FM (K:Frag)(mg:Str->Option Value)(n:Str)(i:Nat)(f:Addr)(d:FuncData):Prop where
 F:cP K n n (bA i) f d
 m:mg n=some (.ref f)
theorem FK.M {K:Frag}{mg:Str->Option Value}{n:Str}{i:Nat}{f:Addr}{d:FuncData}{h:Heap}(z:FK K n i f d)(X:K.In h)(G:h.Ns mainGlobals mg):FM K mg n i f d:=⟨z.F,mg_of X G z.a⟩
abbrev Hb (x:Str)(ps:List Str)(i:Nat):Prop:=∀(kV doc pm:Value) (an:Option Addr) (cdv ct:Value) (us:List Value),us.length=ps.length->bindArgs (fnOf x x (e9 (bA i)) (cI (bA i)) (aN (bA i)) .none kV doc pm an cdv ct) ⟨us,[]⟩=pure (ps.zip us)
theorem A3 {A:Around}{k:Nat}(hr:bD k A):A.units+3<cLine:=by have:=hr.units;omega
section
variable {P:Program}{w:World}{K:Frag}{mg:Str→Option Value}{base:Heap}{f:Addr}{fd:FuncData}{k i:Nat}{x:Str}{ps N:List Str}
theorem Df.au {p:cK}(F:FM K mg x i f fd)(S:FnScope N ps (aN (bA i)))(body:∀(cdv:Value) (A:Around) (outer:List Env) (s:Shared) (H:Hp) (E:XK),bD k (A.deeper (PyProof.Rows.envOfC x (aN (bA i)) s.heap.objs.size f cdv))->∃t,eZ (cC eB P w K mg base N x (aN (bA i)) f cdv A outer s H E).nox (cI (bA i)) t/\∀xs Q,p xs Q->t { nx:=λ_=>Q .non,rt:=Q } (eY N xs))(hb:Hb x ps i:=by intro _ _ _ _ _ _ us hl;first|(obtain⟨_,rfl⟩:=us1 hl;rfl)|(obtain⟨_,_,rfl⟩:=us2 hl;rfl)|(obtain⟨_,_,_,rfl⟩:=yZ hl;rfl)|(obtain⟨_,_,_,_,rfl⟩:=Z6 hl;rfl)|(obtain⟨_,_,_,_,_,rfl⟩:=us5 hl;rfl))(len:∀xs Q,p xs Q->xs.length=ps.length:=by intro xs Q h;repeat (first|(obtain⟨rfl,_⟩:=h;rfl)|(obtain⟨_,h⟩:=h))):Df P w K mg base (k+1) x ps p:=
 Df.of F.F F.m S hb len body
theorem bZ.au {p:dX}(F:FM K mg x i f fd)(S:FnScope N ps (aN (bA i)))(t:(Str->Prop)->aS)(rd:∀Ep xs Q,p Ep xs Q->t Ep { nx:=λ_=>Q .non,rt:=Q } (eY N xs))(body:∀(cdv:Value) (A:Around) (outer:List Env) (s:Shared) (H:Hp) (E:XK) (Ep:Str->Prop),bD k (A.deeper (PyProof.Rows.envOfC x (aN (bA i)) s.heap.objs.size f cdv))->k8 (cC (bF P w) P w K mg base N x (aN (bA i)) f cdv A outer s H E) (EX K H Ep)->eZ (cC (bF P w) P w K mg base N x (aN (bA i)) f cdv A outer s H E) (cI (bA i)) (t Ep))(hb:Hb x ps i:=by intro _ _ _ _ _ _ us hl;first|(obtain⟨_,rfl⟩:=us1 hl;rfl)|(obtain⟨_,_,rfl⟩:=us2 hl;rfl)|(obtain⟨_,_,_,rfl⟩:=yZ hl;rfl)|(obtain⟨_,_,_,_,rfl⟩:=Z6 hl;rfl)|(obtain⟨_,_,_,_,_,rfl⟩:=us5 hl;rfl))(len:∀Ep xs Q,p Ep xs Q->xs.length=ps.length:=by intro Ep xs Q h;repeat (first|(obtain⟨rfl,_⟩:=h;rfl)|(obtain⟨_,h⟩:=h))):bZ P w K mg base (k+1) x ps p:=
 bZ.of F.F F.m S hb t len rd body
end
section
variable {P:Program}{w:World}{K:Frag}{mg:Str→Option Value}{base:Heap}{f:Addr}{fd:FuncData}
theorem nd2:(["ahead","behind"]:List Str).Nodup:=by decide +kernel
abbrev ai5:Stmt:=bA 8
theorem scR:FnScope ["things"] ["things"] (aN ai5):=.au
theorem A4 {ns:af}{i:Nat}{x y:V}(h1:(ns.map V.int)[i]? = some x)(h2:((ns.map V.int).drop 1)[i]? = some y):∃p q:Int,x = .int p/\y = .int q/\(ns.zip (ns.drop 1))[i]? = some (p,q):=by
 rw[bm7]at h1
 rw[<- List.map_drop,bm7]at h2
 cases e1:ns[i]? with
 |none=>rw[e1]at h1;cases h1
 |some p=>
  cases e2:(ns.drop 1)[i]? with
  |none=>rw[e2]at h2;cases h2
  |some q=>
   rw[e1]at h1;rw[e2]at h2
   exact⟨p,q,(bl6 h1).symm,(bl6 h2).symm,List.getElem?_zip_eq_some.mpr ⟨e1,e2⟩⟩
theorem be9 (B:Bt mg)(F:cP K "rises" "rises" ai5 f fd):bQ P w K mg base eB 1 f fd ["things"] (X5 K):=by
 refine F.ok scR (λvs H Q E h=>?_) (λcdv A outer s H vs Q E hr h=>?_)
 ·obtain⟨a,ns,rfl,_⟩:=h
  rfl
 obtain⟨a,ns,rfl,hS,hn,q⟩:=h
 have lz:((ns.map V.int).drop 1).length<=sizeLine:=br0 (gQ (by rw[bu0,bl1];omega))
 have lz2:((ns.map V.int).drop 1).length<=(ns.map V.int).length:=by rw[bu0];omega
 have lz3:(ns.zip (ns.drop 1)).length=((ns.map V.int).drop 1).length:=by rw[List.length_zip,bu0,bu0,bl1];omega
 rcases hS with hS|hS
 ·refine⟨_,kM (lX (qY (wO rfl) rfl B.all PyProof.Rows.boot_all (dR (L5 (N:=["ahead","behind"]) (fr:=[none,none]) rfl (eW.of rfl rfl) (ay4 rfl B.zip (dR (pv 0) (dR (vM N2 (pv 0) (vL nS) vK) dZ)))
   ⟨λ_ _ _ _=>show PG _ _ (qO K 2 (kQ (fF 0) (kQ (fF 1) qM))) from qP rfl (jM (gY (i:=0) nd2 rfl (Or.inl rfl) (.inr rfl)) (jM (gY (i:=1) nd2 rfl (Or.inl rfl) (.inr rfl)) qN)),λ_ _ _ _=>rF,λ_ _ _ _=>v8 qT (pv 0) (pv 1) (fG _)⟩) dZ))),?_⟩
  refine⟨_,rfl,_,rfl,1,rfl,a,_,rfl,hS,λp hp=>?_,λe=>?_⟩
  ·have s1:=bR hp (.tup (eI (ns.map V.int) (some 1) none))
   have hb:aL K (upd H p (.tup (eI (ns.map V.int) (some 1) none))) p ((ns.map V.int).drop 1):=aL.of (by rw[aU,wR])
   refine⟨a,p,_,_,rfl,s1.tup hS,hb,wQ (N1 (s1.tup hS) hb lz2) (λi acc _=>acc=((ns.zip (ns.drop 1)).take i).map λ(p:Int×Int)=>V.bl (decide (p.1<p.2))) lz (λ_ _=>rfl) (λ_ _ _ _ _ h=>h) (λi x acc D H' hi hR c hP=>?_) (λD acc H' hD sm hDa hlen hP=>?_)⟩
   ·obtain⟨T,x1,y1,rfl,hT,h1,h2⟩:=hR
    obtain⟨m,k,rfl,rfl,hz⟩:=A4 h1 h2
    refine⟨T,_,rfl,aL.of hT,rfl,_,_,rfl,_,_,rfl,rfl,((Wk.refl _).set (i:=0) rfl).set (i:=1) rfl,rK ⟨_,rfl,_,rfl,_,_,rfl,rfl,c.yes (aB.refl _) ?_⟩⟩
    rw[sY hz,hP]
   ·refine⟨D,(ns.zip (ns.drop 1)).map λ(p:Int×Int)=>decide (p.1<p.2),rfl,aM.of ?_,q _ (s1.trans sm)⟩
    rw[hDa,hP,<- lz3,bq9,bx5];rfl
  ·have hb:aL K H a ((ns.map V.int).drop 1):=by
    have:(ns.map V.int).drop 1=ns.map V.int:=by rw[<- wR];exact e
    rw[this];exact hS
   refine⟨a,a,_,_,rfl,hS,hb,wQ (N1 hS hb lz2) (λi acc _=>acc=((ns.zip (ns.drop 1)).take i).map λ(p:Int×Int)=>V.bl (decide (p.1<p.2))) lz (λ_ _=>rfl) (λ_ _ _ _ _ h=>h) (λi x acc D H' hi hR c hP=>?_) (λD acc H' hD sm hDa hlen hP=>?_)⟩
   ·obtain⟨T,x1,y1,rfl,hT,h1,h2⟩:=hR
    obtain⟨m,k,rfl,rfl,hz⟩:=A4 h1 h2
    refine⟨T,_,rfl,aL.of hT,rfl,_,_,rfl,_,_,rfl,rfl,((Wk.refl _).set (i:=0) rfl).set (i:=1) rfl,rK ⟨_,rfl,_,rfl,_,_,rfl,rfl,c.yes (aB.refl _) ?_⟩⟩
    rw[sY hz,hP]
   ·refine⟨D,(ns.zip (ns.drop 1)).map λ(p:Int×Int)=>decide (p.1<p.2),rfl,aM.of ?_,q _ sm⟩
    rw[hDa,hP,<- lz3,bq9,bx5];rfl
 ·refine⟨_,kM (lX (qY (wO rfl) rfl B.all PyProof.Rows.boot_all (dR (L5 (N:=["ahead","behind"]) (fr:=[none,none]) rfl (eW.of rfl rfl) (az0 rfl B.zip (dR (pv 0) (dR (vM J1 (pv 0) (vL nS) vK) dZ)))
   ⟨λ_ _ _ _=>show PG _ _ (qO K 2 (kQ (fF 0) (kQ (fF 1) qM))) from qP rfl (jM (gY (i:=0) nd2 rfl (Or.inl rfl) (.inr rfl)) (jM (gY (i:=1) nd2 rfl (Or.inl rfl) (.inr rfl)) qN)),λ_ _ _ _=>rF,λ_ _ _ _=>v8 qT (pv 0) (pv 1) (fG _)⟩) dZ))),?_⟩
  refine⟨_,rfl,_,rfl,1,rfl,a,_,rfl,hS,λp hp=>?_⟩
  have s1:=bR hp (.lst (eI (ns.map V.int) (some 1) none))
  have hb:aM K (upd H p (.lst (eI (ns.map V.int) (some 1) none))) p ((ns.map V.int).drop 1):=aM.of (by rw[aU,wR])
  refine⟨a,p,_,_,rfl,s1.seq hS,hb,wQ (az1 (s1.seq hS) hb lz2) (λi acc _=>acc=((ns.zip (ns.drop 1)).take i).map λ(p:Int×Int)=>V.bl (decide (p.1<p.2))) lz (λ_ _=>rfl) (λ_ _ _ _ _ h=>h) (λi x acc D H' hi hR c hP=>?_) (λD acc H' hD sm hDa hlen hP=>?_)⟩
  ·obtain⟨T,x1,y1,rfl,hT,h1,h2⟩:=hR
   obtain⟨m,k,rfl,rfl,hz⟩:=A4 h1 h2
   refine⟨T,_,rfl,aL.of hT,rfl,_,_,rfl,_,_,rfl,rfl,((Wk.refl _).set (i:=0) rfl).set (i:=1) rfl,rK ⟨_,rfl,_,rfl,_,_,rfl,rfl,c.yes (aB.refl _) ?_⟩⟩
   rw[sY hz,hP]
  ·refine⟨D,(ns.zip (ns.drop 1)).map λ(p:Int×Int)=>decide (p.1<p.2),rfl,aM.of ?_,q _ (s1.trans sm)⟩
   rw[hDa,hP,<- lz3,bq9,bx5];rfl
abbrev ai6:Stmt:=bA 10
theorem uM:FnScope ["web","around","one","other"] ["web"] (aN ai6):=.au
theorem bf0 (F:cP K "near_lists" "near_lists" ai6 f fd):bQ P w K mg base eB 1 f fd ["web"] X6:=by
 refine F.ok uM (λvs H Q E h=>?_) (λcdv A outer s H vs Q E hr h=>?_)
 ·obtain⟨v,ws,ls,rfl,_⟩:=h
  rfl
 obtain⟨v,ws,ls,rfl,W,hn,hm,hin,q⟩:=h
 refine⟨_,kK (aw5 (i:=1) (N:=["want"]) (fr:=[none]) rfl (eW.of rfl rfl) (C2 (m5 vQ (pv 0) nS (λ_ _=>rfl)))
   ⟨λ_ _ _ _=>gY (i:=0) (bn3 _ _) rfl (Or.inl rfl) (.inr rfl),λ_ _ _ _=>rF,λ_ _ _ _=>qV dZ⟩ uM.nd rfl rfl rfl)
  (kK (C7 PassesOwn.never rfl (C2 (m5 vQ (pv 0) nS (λ_ _=>rfl))) (qP (n:=2) rfl (jM (gY (i:=2) uM.nd rfl (Or.inl rfl) (.inr rfl)) (jM (gY (i:=3) uM.nd rfl (Or.inl rfl) (.inr rfl)) qN)) )
   (kK (lW (vU bx0 bw4 bw5 o0 (m5 vP (pv 1) (pv 2) (λ_ _=>rfl)) (dR (pv 3) dZ)))
   (kM (lW (vU bx0 bw4 bw5 o0 (m5 vP (pv 1) (pv 3) (λ_ _=>rfl)) (dR (pv 2) dZ))))))
  (kM (lX (pv 1)))),?_⟩
 obtain⟨a,p,q',ys,rfl,ha,hp,hq,hL⟩:=W.at_
 have lw:(ws.map V.int).length=ws.length:=bl1 _
 refine⟨_,rfl,a,_,_,_,rfl,rfl,aL.of ha,rfl,p,rfl,⟨_,aL.of hp⟩,aw7 (aw6 (aL.of hp)) (λi acc H'=>∃bs:List Addr,acc=bs.map V.ref/\bs.length=i/\bs.Nodup/\∀b∈bs,H b=none/\H' b=some (.lst [])) (by rw[lw];exact br0 (o8 hn))
  (λD hD=>⟨[],rfl,rfl,List.nodup_nil,λ_ z=>nomatch z⟩) (λi x acc D H' hx c hPv=>?_) (λD acc H' hD sm hDa hlen hPv=>?_)⟩
 ·obtain⟨bs,rfl,hbl,nd,hb⟩:=hPv
  refine⟨wk0 (n:=none),rK ⟨bo0 _,λr hr'=>?_⟩⟩
  have hrD:r≠D:=λz=>by rw[z,c.acc]at hr';cases hr'
  have hrH:H r=none:=c.same.free hr'
  refine c.yes (bR hr' _) ⟨bs++[r],by simp,by simp[hbl],?_,λb hm=>?_⟩
  ·refine bt6.mpr ⟨nd,bn3 _ _,λb hb1 b' hb2 e=>?_⟩
   rw[bl3.mp hb2]at e
   rw[e]at hb1
   rw[(hb r hb1).2]at hr';cases hr'
  ·rcases bn9.mp hm with hm|hm
   ·have hbD:b≠D:=λz=>by
     rw[z]at hm
     have:=(hb D hm).2
     rw[c.acc]at this
     have:bs.map V.ref = []:=by injection this with e1;injection e1
     have:bs = []:=List.map_eq_nil_iff.mp this
     rw[this]at hm;simp at hm
    refine⟨(hb b hm).1,?_⟩
    rw[aF hbD,aF (cX (hb b hm).2 hr')]
    exact (hb b hm).2
   ·rw[bl3.mp hm]
    exact⟨hrH,by rw[aF hrD,aU]⟩
 ·obtain⟨bs,rfl,hbl,nd,hb⟩:=hPv
  rw[lw]at hbl
  have R0:iV H H' D bs (λk=>bS (ls.take 0) k):=by
   refine⟨hD,λb hm=>⟨(hb b hm).1,λz=>?_⟩,nd,hDa,λk b hk=>(hb b (bt0 hk)).2,sm⟩
   rw[z]at hm
   have:=(hb D hm).2
   rw[hDa]at this
   have:bs.map V.ref = []:=by injection this with e1;injection e1
   have:bs = []:=List.map_eq_nil_iff.mp this
   rw[this]at hm;simp at hm
  have lL:=hL.length
  refine⟨_,rfl,a,_,_,_,rfl,rfl,aL.of (sm _ _ ha),rfl,q',rfl,⟨_,aL.of (sm _ _ hq)⟩,an9 (K:=K) (a:=q') (xs:=ys) (λi σ H2=>∃x y:Option V,σ = [some (.ref a),some (.ref D),x,y]/\iV H H2 D bs (λk=>bS (ls.take i) k))
   ⟨none,none,rfl,R0⟩ (λi σ H2 _ ⟨_,_,_,R⟩=>aL.of (R.same _ _ hq)) ?_ ?_⟩
  ·rintro i y σ H2 hi ⟨x1,x2,rfl,R⟩
   obtain⟨l,b,hl,rfl,hbt⟩:=hL.get hi
   have hlm:l∈ls:=bt0 hl
   obtain⟨⟨h1,h2⟩,h3,h4⟩:=hin l hlm
   have k1:l.1.toNat<bs.length:=by omega
   have k2:l.2.toNat<bs.length:=by omega
   have e1:bs[l.1.toNat]? = some (bs[l.1.toNat]):=bk8 k1
   have e2:bs[l.2.toNat]? = some (bs[l.2.toNat]):=bk8 k2
   refine⟨b,_,rfl,aL.of (R.same _ _ hbt),rfl,_,_,rfl,_,_,rfl,rfl,?_⟩
   refine⟨_,rfl,_,rfl,D,_,_,.ref bs[l.1.toNat],rfl,rfl,aM.of R.row,rJ h1 (by rw[bm7,e1];rfl),oE (aM.of (R.rows _ _ e1)),_,rfl,_,_,_,rfl,rfl,R.rows _ _ e1,?_,?_⟩
   ·rw[bl1]
    have:=wK (ls.take i) (l.1.toNat:Nat)
    rw[br6]at this
    exact gQ (by omega)
   ·have R1:=R.app e1 l.2
    refine⟨_,rfl,_,rfl,D,_,_,.ref bs[l.2.toNat],rfl,rfl,aM.of R1.row,rJ h3 (by rw[bm7,e2];rfl),oE (aM.of (R1.rows _ _ e2)),_,rfl,_,_,_,rfl,rfl,R1.rows _ _ e2,?_,?_⟩
    ·rw[bl1]
     have:=wK (ls.take i) (l.2.toNat:Nat)
     rw[br6]at this
     split
     ·rw[bl4,bo6];exact gQ (by omega)
     ·exact gQ (by omega)
    ·have R2:=R1.app e2 l.1
     refine⟨_,_,rfl,R2.congr λk hk=>?_⟩
     rw[ax6 hl]
     have c1:(k=l.1.toNat)↔l.1=(k:Int):=by omega
     have c2:(k=l.2.toNat)↔l.2=(k:Int):=by omega
     by_cases d1:k=l.1.toNat
     ·by_cases d2:k=l.2.toNat
      ·rw[if_pos d2,if_pos d1,if_pos (c1.mp d1),if_pos (c2.mp d2)];simp
      ·rw[if_neg d2,if_pos d1,if_pos (c1.mp d1),if_neg (λz=>d2 (c2.mpr z))];simp
     ·by_cases d2:k=l.2.toNat
      ·rw[if_pos d2,if_neg d1,if_neg (λz=>d1 (c1.mpr z)),if_pos (c2.mp d2)];simp
      ·rw[if_neg d2,if_neg d1,if_neg (λz=>d1 (c1.mpr z)),if_neg (λz=>d2 (c2.mpr z))];simp
  ·
   rintro σ H2 ⟨x1,x2,rfl,R⟩
   refine⟨_,rfl,q D bs H2 hbl ?_⟩
   rw[lL,bq9]at R
   exact R
theorem bf1:FnScope ["web"] ["web"] (aN (bA 9)):=.au
theorem bf2 (B:Bt mg)(F:FM K mg "hearths_in" 9 f fd) :Df P w K mg base 1 "hearths_in" ["web"] nA:=
 Df.au F bf1 (λcdv A outer s H E hr=>by
  exact⟨(V3),(aY (bK (mR B (aA (b9 (qv 0) aI) aG)))),aK1⟩)
theorem uN:FnScope ["hearths","inside","hearth"] ["hearths"] (aN (bA 14)):=.au
theorem bf3 (B:Bt mg)(F:FM K mg "marked" 14 f fd) :Df P w K mg base 1 "marked" ["hearths"] lN:=
 Df.au F uN (λcdv A outer s H E hr=>by
  have nd:=uN.nd
  have hu:=kU hr
  exact⟨(W6),(aV (lF (i:=1) nd R3)
   (aV (jZ 2 nd (jY (qv 0))
    (aY (R5 hu (i:=1) (qv 2) oO)))
   (aY (sE 1)))),aK6⟩)
theorem bf4 (B:Bt mg)(F:FM K mg "marked" 14 f fd) :Df P w K mg base 1 "marked" ["hearths"] tO:=
 Df.au F uN (λcdv A outer s H E hr=>by
  have nd:=uN.nd
  have hu:=kU hr
  exact⟨ac0,(aV (lF (i:=1) nd aF3)
   (aV (jZ 2 nd (jY (qv 0))
    (aY (aF6 hu (i:=1) (qv 2) oO)))
   (aY (sE 1)))),aV5⟩)
theorem bf5:FnScope ["hearths","inside"] ["hearths","inside"] (aN (bA 15)):=.au
theorem bf6 (B:Bt mg)(F:FM K mg "count_inside" 15 f fd) :Df P w K mg base 1 "count_inside" ["hearths","inside"] t7:=
 Df.au F bf5 (λcdv A outer s H E hr=>by
  have hu:=kU hr
  exact⟨(W7),(aY (bK (mR B (aA (sH (N:=["hearth","inside"]) (fr:=[none,some 1]) (jY (qv 0)) (λ_ _ _ _=>(aE9 hu (qv 0) (qv 1))) (λ_ _ _ _=>(qv 0))) aG)))),aK7⟩)
theorem bf7:FnScope ["deed"] ["deed"] (aN (bA 26)):=.au
theorem bf8 (B:Bt mg)(F:FM K mg "told_deed" 26 f fd)(kd_DEED_NUMBERS:KD P w K mg "DEED_NUMBERS" (nJ tS)):Df P w K mg base 1 "told_deed" ["deed"] nK:=
 Df.au F bf7 (λcdv A outer s H E hr=>by
  exact⟨(ad0),(aV (cV (aX7 (aX5 kd_DEED_NUMBERS (b9 (qv 0) aI)) (xN (mR B (aA (qv 0) aG)) aI)) (aY aF4) cU)
   (aV (cV (lE (lD (i8 (b9 (qv 0) aI) cE) (oS (i8 (b9 (qv 0) aI) cE)))) (aY (bK (dD (aA (b9 (qv 0) aI) (aA (aU9 B rfl (aA (oX (qv 0) (oW aI) oV) aG)) (aA (aV0 B rfl (aA (oX (qv 0) (oW aI) oV) aG)) aG)))))) cU)
   (aY (bK (gS B (aA (qv 0) aG)))))),aX9⟩)
theorem bf9:FnScope ["self"] ["self"] (aN (bB 30 1)):=.au
theorem bg0 (B:Bt mg){CK:Addr}(kc:KC K CK)(M:eU K CK "web_now" f)(F:cP K "web_now" "Keeper.web_now" (bB 30 1) f fd) :cY P w K mg base 1 "web_now" ["self"] jK:=
 cY.of kc M F bf9 (λ_ _ _ _ _ _ us hl=>by obtain⟨_,rfl⟩:=us1 hl;rfl) ag8 (λst un Ep xs Q h=>by unfold jK at h;repeat (first|(obtain⟨rfl,_⟩:=h;rfl)|(obtain⟨_,h⟩:=h))) bc9 (λcdv A outer s H E Ep hr hX=>by
  exact (aY (bK (b9 (ae9 kc 0 (xQ aI)) aI))))
theorem bg1:FnScope ["self"] ["self"] (aN (bB 30 2)):=.au
theorem bg2 (B:Bt mg){CK:Addr}(kc:KC K CK)(M:eU K CK "seeds_now" f)(F:cP K "seeds_now" "Keeper.seeds_now" (bB 30 2) f fd) :cY P w K mg base 1 "seeds_now" ["self"] lU:=
 cY.of kc M F bg1 (λ_ _ _ _ _ _ us hl=>by obtain⟨_,rfl⟩:=us1 hl;rfl) ag9 (λst un Ep xs Q h=>by unfold lU at h;repeat (first|(obtain⟨rfl,_⟩:=h;rfl)|(obtain⟨_,h⟩:=h))) bd0 (λcdv A outer s H E Ep hr hX=>by
  exact (aY (bK (b9 (ae9 kc 0 (xQ aI)) aI))))
theorem bg3:FnScope ["script","k"] ["script","k"] (aN (bA 32)):=.au
theorem bg4 (B:Bt mg)(F:FM K mg "_law_cell" 32 f fd) :Df P w K mg base 1 "_law_cell" ["script","k"] jB:=
 Df.au F bg3 (λcdv A outer s H E hr=>by
  exact⟨(X1),(aV (cV (oR (qv 1) (mR B (aA (qv 0) aG))) (aY (bK (b9 (qv 0) (qv 1)))) cU)
   (aY (bK aI))),aL3⟩)
theorem ai7:FnScope ["cell","many","one","other","word"] ["cell","many"] (aN (bA 35)):=.au
theorem bg5 (B:Bt mg)(F:FM K mg "_law_deed" 35 f fd) :Df P w K mg base 1 "_law_deed" ["cell","many"] tX:=
 Df.au F ai7 (λcdv A outer s H E hr=>by
  have nd:=ai7.nd
  exact⟨(ad8),(aV (bJ (i:=2) nd (xN (dW (i4 (qv 0) aI) (gE (qv 1) aI)) aI))
   (aV (bJ (i:=3) nd (xN (dW (gE (i4 (qv 0) aI) (qv 0)) (gE (qv 1) aI)) aI))
   (aV (cV (lC (dW (qv 0) aI) aI) (aY (bJ (i:=3) nd (gE (qv 1) (dW (i4 (qv 0) aI) (aE5 aI aI))))) cU)
   (aV (bJ (i:=4) nd (b9 (jX (aA cE (aA cE (aA cE (aA cE (aA cE aG)))))) (dW (qv 0) aI)))
   (aV (cV (lE (lD (i8 (qv 4) cE) (oS (i8 (qv 4) cE)))) (aY (bK (dD (aA (qv 4) (aA (qv 2) aG))))) cU)
   (aV (cV (i8 (qv 4) cE) (aY (bK (dD (aA (qv 4) (aA (qv 2) (aA (b9 (jX (aA (dW (i4 (qv 0) aI) aI) (aA (dW (i4 (qv 0) aI) aI) (aA (xQ aI) (aA aI (aA aI aG)))))) (dW (i4 (qv 0) aI) aI)) aG)))))) cU)
   (aY (bK (dD (aA (qv 4) (aA (qv 2) (aA (qv 3) aG)))))))))))),aY9⟩)
theorem bg6:FnScope ["web","number"] ["web","number"] (aN (bA 11)):=.au
theorem bg7 (B:Bt mg)(F:FM K mg "is_hearth" 11 f fd)(d_hearths_in:Df P w K mg base 1 "hearths_in" ["web"] nA):Df P w K mg base 2 "is_hearth" ["web","number"] i7:=
 Df.au F bg6 (λcdv A outer s H E hr=>by
  exact⟨(V4),(aY (bK (xO (Q6 (qv 1) aI) (sD (Q5 (qv 1) (bY d_hearths_in hr (aA (qv 0) aG))))))),aK2⟩)
theorem uO:FnScope ["hearths","some","gone"] ["hearths","some"] (aN (bA 16)):=.au
theorem bg8 (B:Bt mg)(F:FM K mg "without" 16 f fd)(d_marked:Df P w K mg base 1 "marked" ["hearths"] lN):Df P w K mg base 2 "without" ["hearths","some"] lP:=
 Df.au F uO (λcdv A outer s H E hr=>by
  have nd:=uO.nd
  have hu:=kU hr
  exact⟨(Y9),(aV (bJ (i:=2) nd (bY d_marked hr (aA (qv 1) aG)))
   (aY (bK (gS B (aA (sH (N:=["hearth","gone"]) (fr:=[none,some 2]) (jY (qv 0)) (λ_ _ _ _=>(Q7 hu (qv 0) (qv 1))) (λ_ _ _ _=>(qv 0))) aG))))),aP3⟩)
theorem bg9 (B:Bt mg)(F:FM K mg "without" 16 f fd)(d_marked:Df P w K mg base 1 "marked" ["hearths"] tO):Df P w K mg base 2 "without" ["hearths","some"] pT:=
 Df.au F uO (λcdv A outer s H E hr=>by
  have nd:=uO.nd
  have hu:=kU hr
  exact⟨ac9,(aV (bJ (i:=2) nd (bY d_marked hr (aA (qv 1) aG)))
   (aY (bK (gS B (aA (sH (N:=["hearth","gone"]) (fr:=[none,some 2]) (jY (qv 0)) (λ_ _ _ _=>(Q7 hu (qv 0) (qv 1))) (λ_ _ _ _=>(qv 0))) aG))))),aX8⟩)
theorem bh0:FnScope ["web","around","burning","hearth"] ["web","around","burning","hearth"] (aN (bA 20)):=.au
theorem bh1 (B:Bt mg)(F:FM K mg "can_kindle" 20 f fd)(d_count_inside:Df P w K mg base 1 "count_inside" ["hearths","inside"] t7):Df P w K mg base 2 "can_kindle" ["web","around","burning","hearth"] t8:=
 Df.au F bh0 (λcdv A outer s H E hr=>by
  have hu:=kU hr
  exact⟨(W8),(aY (bK (xO (aF0 hu (qv 3) (qv 2)) (sD (Q6 (bY d_count_inside hr (aA (b9 (qv 1) (qv 3)) (aA (qv 2) aG))) (b9 (b9 (qv 0) aI) (qv 3))))))),aK9⟩)
theorem bh2:FnScope ["self","web"] ["self","web"] (aN (bB 30 0)):=.au
theorem bh3 {CK:Addr}(kc:KC K CK)(M:Mk K CK f)(F:cP K "__init__" "Keeper.__init__" (bB 30 0) f fd)(m:mg "Keeper" = some (.ref CK)):zZ P w K mg base 1:=
 ⟨CK,f,fd,kc,M,bb9 kc F bh2 rfl (λcdv A outer s H E=>(jX (aA (dD (aA sC (aA (qv 1) (aA (dD aG) aG)))) aG))) (λ_ _ _ _ _ _=>.inl rfl) (λ_ _ _ _ _ _=>rfl) (λ_ _ _ _ _ _=>rfl),F.binds (λ_ _ _ _ _ _ us hl=>by obtain⟨_,_,rfl⟩:=us2 hl;rfl),m⟩
theorem ai8:FnScope ["script","k","stir"] ["script","k"] (aN (bA 33)):=.au
theorem bh4 (B:Bt mg)(F:FM K mg "_law_number" 33 f fd)(d__law_cell:Df P w K mg base 1 "_law_cell" ["script","k"] jB):Df P w K mg base 2 "_law_number" ["script","k"] pQ:=
 Df.au F ai8 (λcdv A outer s H E hr=>by
  have nd:=ai8.nd
  exact⟨(ac1),(aV (cV (oR (qv 1) (mR B (aA (qv 0) aG))) (aY (bK (b9 (qv 0) (qv 1)))) cU)
   (aV (bJ (i:=2) nd (dW (oP (gE (gE (dW (bY d__law_cell hr (aA (qv 0) (aA (dW (qv 1) (R7 B rfl (aA aI (aA (mR B (aA (qv 0) aG)) aG)))) aG))) aI) (oP aI (qv 1))) aI) aI) aI))
   (aY (bK (i4 (dW (oP (qv 2) (qv 2)) aI) aI))))),aV6⟩)
theorem bh5:FnScope ["web","numbers"] ["web","numbers"] (aN (bA 12)):=.au
theorem bh6 (B:Bt mg)(F:FM K mg "is_set" 12 f fd)(d_rises:Df P w K mg base 1 "rises" ["things"] yL)(d_is_hearth:Df P w K mg base 2 "is_hearth" ["web","number"] i7):Df P w K mg base 3 "is_set" ["web","numbers"] t5:=
 Df.au F bh5 (λcdv A outer s H E hr=>by
  exact⟨(V5),(aY (bK (xO (bY d_rises hr (aA (qv 1) aG)) (sD (aF9 B rfl (aA (S3 (N:=["number","web"]) (fr:=[none,some 0]) (jY (qv 1)) (λ_ _ _ _=>(bY d_is_hearth hr (aA (qv 1) (aA (qv 0) aG))))) aG)))))),aK3⟩)
theorem bh7:FnScope ["web","around","burning"] ["web","around","burning"] (aN (bA 19)):=.au
theorem bh8 (B:Bt mg)(F:FM K mg "kindling" 19 f fd)(d_hearths_in:Df P w K mg base 1 "hearths_in" ["web"] nA)(d_can_kindle:Df P w K mg base 2 "can_kindle" ["web","around","burning","hearth"] t8):Df P w K mg base 3 "kindling" ["web","around","burning"] pG:=
 Df.au F bh7 (λcdv A outer s H E hr=>by
  exact⟨(W9),(aY (bK (gS B (aA (sH (N:=["hearth","web","around","burning"]) (fr:=[none,some 0,some 1,some 2]) (oT rfl B.range (bY d_hearths_in hr (aA (qv 0) aG))) (λ_ _ _ _=>(mP (bY d_can_kindle hr (aA (qv 1) (aA (qv 2) (aA (qv 3) (aA (qv 0) aG))))))) (λ_ _ _ _=>(qv 0))) aG)))),aL0⟩)
theorem ai9:FnScope ["web","seeds","deed","hearth"] ["web","seeds","deed"] (aN (bA 27)):=.au
theorem bh9 (B:Bt mg)(F:FM K mg "seeds_behind" 27 f fd)(d_is_hearth:Df P w K mg base 2 "is_hearth" ["web","number"] i7)(d_without:Df P w K mg base 2 "without" ["hearths","some"] lP)(x_BadDeed:Xc K mg base "BadDeed"):bZ P w K mg base 3 "seeds_behind" ["web","seeds","deed"] tT:=
 bZ.au F ai9 ad3 aY0 (λcdv A outer s H E Ep hr hX=>by
  have nd:=ai9.nd
  exact (aV (bJ (i:=3) nd (b9 (qv 2) aI))
   (aV (cV (mQ (mP (bY d_is_hearth hr (aA (qv 0) (aA (qv 3) aG))))) (aY (jF hX x_BadDeed (aA cE aG))) cU)
   (aV (cV (lC (aG2 (qv 3) (qv 1)) (tL (b9 (qv 2) aI) cE)) (aY (jF hX x_BadDeed (aA cE aG))) cU)
   (aV (cV (i8 (b9 (qv 2) aI) cE) (aY (bK (gS B (aA (aM8 B (aA (tE (qv 1) (dD (aA (qv 3) aG))) aG)) aG)))) cU)
   (aY (bK (bY d_without hr (aA (qv 1) (aA (jX (aA (qv 3) aG)) aG))))))))))
theorem aj0:FnScope ["web","deed","hearth","want"] ["web","deed"] (aN (bA 28)):=.au
theorem bi0 (B:Bt mg)(F:FM K mg "wants_behind" 28 f fd)(d_is_hearth:Df P w K mg base 2 "is_hearth" ["web","number"] i7)(x_BadDeed:Xc K mg base "BadDeed"){u_MOST_WANTED:Nat}(m_MOST_WANTED:mg "MOST_WANTED" = some (.int 60 u_MOST_WANTED)):bZ P w K mg base 3 "wants_behind" ["web","deed"] tU:=
 bZ.au F aj0 ad4 aY3 (λcdv A outer s H E Ep hr hX=>by
  have nd:=aj0.nd
  exact (aV (bJ (i:=2) nd (b9 (qv 1) aI))
   (aV (bJ (i:=3) nd (b9 (qv 1) aI))
   (aV (cV (lE (lD (mQ (mP (bY d_is_hearth hr (aA (qv 0) (aA (qv 2) aG))))) (lD (oR (qv 3) aI) (oS (aE6 (qv 3) (aO6 rfl m_MOST_WANTED)))))) (aY (jF hX x_BadDeed (aA cE aG))) cU)
   (aV (cV (lC (b9 (b9 (qv 0) aI) (qv 2)) (qv 3)) (aY (jF hX x_BadDeed (aA cE aG))) cU)
   (aY (bK (tE (tE (oX (b9 (qv 0) aI) oV (oW (qv 2))) (dD (aA (qv 3) aG))) (oX (b9 (qv 0) aI) (oW (gE (qv 2) aI)) oV)))))))))
theorem aj1:FnScope ["web","deed","link"] ["web","deed"] (aN (bA 29)):=.au
theorem bi1 (B:Bt mg)(F:FM K mg "links_behind" 29 f fd)(d_is_hearth:Df P w K mg base 2 "is_hearth" ["web","number"] i7)(d_without:Df P w K mg base 2 "without" ["hearths","some"] pT)(x_BadDeed:Xc K mg base "BadDeed"):bZ P w K mg base 3 "links_behind" ["web","deed"] tV:=
 bZ.au F aj1 ad5 aY7 (λcdv A outer s H E Ep hr hX=>by
  have nd:=aj1.nd
  have hu3:=A3 hr
  exact (aV (bJ (i:=2) nd (oX (qv 1) (oW aI) oV))
   (aV (cV (lE (lD (mQ (mP (bY d_is_hearth hr (aA (qv 0) (aA (b9 (qv 2) aI) aG))))) (lD (mQ (mP (bY d_is_hearth hr (aA (qv 0) (aA (b9 (qv 2) aI) aG))))) (oS (lC (b9 (qv 2) aI) (b9 (qv 2) aI)))))) (aY (jF hX x_BadDeed (aA cE aG))) cU)
   (aV (cV (lC (aS1 hu3 (qv 2) (b9 (qv 0) aI)) (tL (b9 (qv 1) aI) cE)) (aY (jF hX x_BadDeed (aA cE aG))) cU)
   (aV (cV (i8 (b9 (qv 1) aI) cE) (aY (bK (gS B (aA (ac6 B (aA (tE (b9 (qv 0) aI) (dD (aA (qv 2) aG))) aG)) aG)))) cU)
   (aY (bK (bY d_without hr (aA (b9 (qv 0) aI) (aA (jX (aA (qv 2) aG)) aG))))))))))
theorem aj2:FnScope ["script","at","many","links","cell","wants","hearth","one","other","k","pair"] ["script","at","many"] (aN (bA 34)):=.au
theorem bi2 (B:Bt mg)(F:FM K mg "_law_web" 34 f fd)(d__law_cell:Df P w K mg base 1 "_law_cell" ["script","k"] jB)(d__law_number:Df P w K mg base 2 "_law_number" ["script","k"] pQ):Df P w K mg base 3 "_law_web" ["script","at","many"] uG:=
 Df.au F aj2 (λcdv A outer s H E hr=>by
  have nd:=aj2.nd
  have hu3:=A3 hr
  exact⟨(bc5),(aV (lF (i:=3) nd (jX aG))
   (aV (bJ (i:=4) nd (i4 (bY d__law_cell hr (aA (qv 0) (aA (qv 1) aG))) aI))
   (aV (cV (lE (Q9 (lC (dW (bY d__law_cell hr (aA (qv 0) (aA (qv 1) aG))) aI) aI) (Q8 (oR (qv 2) aI)))) (aV (lF (i:=5) nd (jX aG))
    (aV (jZ 6 nd (oT rfl B.range (qv 2))
     (aV (sF 5 (dW (qv 4) aI))
     (aY (bJ (i:=4) nd (i4 (qv 4) aI)))))
    (aV (jZ 7 nd (oT rfl B.range (qv 2))
     (aY (jZ 8 nd (aF8 rfl B.range (gE (qv 7) aI) (qv 2))
      (aV (cV (lC (dW (qv 4) aI) aI) (aY (sF 3 (dD (aA (qv 7) (aA (qv 8) aG))))) cU)
      (aY (bJ (i:=4) nd (i4 (qv 4) aI)))))))
    (aY (bK (dD (aA (gS B (aA (qv 5) aG)) (aA (gS B (aA (qv 3) aG)) aG)))))))) cU)
   (aV (bJ (i:=5) nd (gS B (aA (S3 (N:=["k","script","at"]) (fr:=[none,some 0,some 1]) (oT rfl B.range (qv 2)) (λ_ _ _ _=>(dW (bY d__law_number hr (aA (qv 1) (aA (gE (qv 2) (qv 0)) aG))) aI))) aG)))
   (aV (jZ 9 nd (oT rfl B.range (oP aI (qv 2)))
    (aV (bJ (i:=4) nd (bY d__law_number hr (aA (qv 0) (aA (gE (gE (qv 1) (qv 2)) (qv 9)) aG))))
    (aV (bJ (i:=7) nd (dW (qv 4) (qv 2)))
    (aV (bJ (i:=8) nd (dW (gE (i4 (qv 4) (qv 2)) (oP aI (qv 4))) (qv 2)))
    (aV (bJ (i:=10) nd (dD (aA (aG0 B rfl (aA (qv 7) (aA (qv 8) aG))) (aA (R7 B rfl (aA (qv 7) (aA (qv 8) aG))) aG))))
    (aY (cV (lE (Q9 (aE7 (qv 7) (qv 8)) (Q8 (aT2 hu3 (qv 10) (qv 3))))) (aY (sF 3 (qv 10))) cU)))))))
   (aY (bK (dD (aA (qv 5) (aA (gS B (aA (ac6 B (aA (qv 3) aG)) aG)) aG)))))))))),bc6⟩)
theorem bi3:FnScope ["web","hearths"] ["web","hearths"] (aN (bA 13)):=.au
theorem bi4 (B:Bt mg)(F:FM K mg "made_set" 13 f fd)(d_is_set:Df P w K mg base 3 "is_set" ["web","numbers"] t5)(x_BadSet:Xc K mg base "BadSet"):bZ P w K mg base 4 "made_set" ["web","hearths"] nF:=
 bZ.au F bi3 Z5 aR0 (λcdv A outer s H E Ep hr hX=>by
  exact (aV (cV (mQ (mP (bY d_is_set hr (aA (qv 0) (aA (qv 1) aG))))) (aY (jF hX x_BadSet (aA cE aG))) cU)
   (aY (bK (gS B (aA (qv 1) aG))))))
theorem aj3:FnScope ["web","seeds","told","burning","around","lit"] ["web","seeds"] (aN (bA 18)):=.au
theorem bi5 (B:Bt mg)(F:FM K mg "rounds" 18 f fd)(d_made_set:bZ P w K mg base 4 "made_set" ["web","hearths"] nF)(d_marked:Df P w K mg base 1 "marked" ["hearths"] lN)(d_near_lists:Df P w K mg base 1 "near_lists" ["web"] yM)(d_kindling:Df P w K mg base 3 "kindling" ["web","around","burning"] pG):bZ P w K mg base 5 "rounds" ["web","seeds"] tG:=
 bZ.au F aj3 Z7 aR1 (λcdv A outer s H E Ep hr hX=>by
  have nd:=aj3.nd
  exact (aV (lF (i:=2) nd (jX (aA (kC hX d_made_set hr (aA (qv 0) (aA (qv 1) aG))) aG)))
   (aV (lF (i:=3) nd (bY d_marked hr (aA (b9 (qv 2) aI) aG)))
   (aV (bJ (i:=4) nd (bY d_near_lists hr (aA (qv 0) aG)))
   (aV (bJ (i:=5) nd (bY d_kindling hr (aA (qv 0) (aA (qv 4) (aA (qv 3) aG)))))
   (aV (aF5 hX.own (aF1 (qv 5))
    (aV (sF 2 (qv 5))
    (aV (aG7 3 (bY d_marked hr (aA (qv 5) aG)))
    (aY (bJ (i:=5) nd (bY d_kindling hr (aA (qv 0) (aA (qv 4) (aA (qv 3) aG)))))))))
   (aY (sE 2))))))))
theorem aj4:FnScope ["web","seeds","deed","chosen","told"] ["web","seeds","deed"] (aN (bA 25)):=.au
theorem bi6 (B:Bt mg)(F:FM K mg "deed_done" 25 f fd)(d_made_set:bZ P w K mg base 4 "made_set" ["web","hearths"] nF)(d_told_deed:Df P w K mg base 1 "told_deed" ["deed"] nK)(d_seeds_behind:bZ P w K mg base 3 "seeds_behind" ["web","seeds","deed"] tT)(d_wants_behind:bZ P w K mg base 3 "wants_behind" ["web","deed"] tU)(d_links_behind:bZ P w K mg base 3 "links_behind" ["web","deed"] tV):bZ P w K mg base 5 "deed_done" ["web","seeds","deed"] tW:=
 bZ.au F aj4 ad7 aY8 (λcdv A outer s H E Ep hr hX=>by
  have nd:=aj4.nd
  exact (aV (bJ (i:=3) nd (kC hX d_made_set hr (aA (qv 0) (aA (qv 1) aG))))
   (aV (bJ (i:=4) nd (bY d_told_deed hr (aA (qv 2) aG)))
   (aV (cV (lE (lD (i8 (b9 (qv 4) aI) cE) (oS (i8 (b9 (qv 4) aI) cE)))) (aY (bK (dD (aA (qv 0) (aA (kC hX d_seeds_behind hr (aA (qv 0) (aA (qv 3) (aA (qv 4) aG)))) aG))))) cU)
   (aV (cV (i8 (b9 (qv 4) aI) cE) (aY (bK (dD (aA (dD (aA (kC hX d_wants_behind hr (aA (qv 0) (aA (qv 4) aG))) (aA (b9 (qv 0) aI) aG))) (aA (qv 3) aG))))) cU)
   (aY (bK (dD (aA (dD (aA (b9 (qv 0) aI) (aA (kC hX d_links_behind hr (aA (qv 0) (aA (qv 4) aG))) aG))) (aA (qv 3) aG))))))))))
theorem aj5:FnScope ["web","seeds","ranks","rank","lit","hearth"] ["web","seeds"] (aN (bA 21)):=.au
theorem bi7 (B:Bt mg)(F:FM K mg "ranks_of" 21 f fd)(d_rounds:bZ P w K mg base 5 "rounds" ["web","seeds"] tG):bZ P w K mg base 6 "ranks_of" ["web","seeds"] tH:=
 bZ.au F aj5 Z8 aR2 (λcdv A outer s H E Ep hr hX=>by
  have nd:=aj5.nd
  have hu:=kU hr
  exact (aV (lF (i:=2) nd R3)
   (aV (aG5 3 4 (hp:=hX.own) nd (aO5 rfl B.enum (kC hX d_rounds hr (aA (qv 0) (aA (qv 1) aG))))
    (aY (jZ 5 (hp:=hX.own) nd (jY (qv 4))
     (aY (R5 hu (i:=2) (qv 5) (qv 3))))))
   (aY (sE 2)))))
theorem bi8:FnScope ["web","seeds"] ["web","seeds"] (aN (bA 22)):=.au
theorem bi9 (B:Bt mg)(F:FM K mg "burnt" 22 f fd)(d_ranks_of:bZ P w K mg base 6 "ranks_of" ["web","seeds"] tH):bZ P w K mg base 7 "burnt" ["web","seeds"] tI:=
 bZ.au F bi8 Z9 aR3 (λcdv A outer s H E Ep hr hX=>by
  exact (aY (bK (gS B (aA (aQ1 B rfl (aA (kC hX d_ranks_of hr (aA (qv 0) (aA (qv 1) aG))) aG)) aG)))))
theorem bj0:FnScope ["self"] ["self"] (aN (bB 30 3)):=.au
theorem bj1 (B:Bt mg){CK:Addr}(kc:KC K CK)(M:eU K CK "burning" f)(F:cP K "burning" "Keeper.burning" (bB 30 3) f fd)(d_burnt:bZ P w K mg base 7 "burnt" ["web","seeds"] tI)(d_Keeper_web_now:cY P w K mg base 1 "web_now" ["self"] jK)(d_Keeper_seeds_now:cY P w K mg base 1 "seeds_now" ["self"] lU):cY P w K mg base 8 "burning" ["self"] iA:=
 cY.of kc M F bj0 (λ_ _ _ _ _ _ us hl=>by obtain⟨_,rfl⟩:=us1 hl;rfl) ah0 (λst un Ep xs Q h=>by unfold iA at h;repeat (first|(obtain⟨rfl,_⟩:=h;rfl)|(obtain⟨_,h⟩:=h))) bd1 (λcdv A outer s H E Ep hr hX=>by
  exact (aY (bK (aQ7 d_burnt hr (aA (jH 0 fD d_Keeper_web_now hr) (aA (jH 0 fD d_Keeper_seeds_now hr) aG))))))
theorem aj6:FnScope ["self","before","now"] ["self","before"] (aN (bB 30 9)):=.au
theorem bj2 (B:Bt mg){CK:Addr}(kc:KC K CK)(M:eU K CK "changes_since" f)(F:cP K "changes_since" "Keeper.changes_since" (bB 30 9) f fd)(d_Keeper_burning:cY P w K mg base 8 "burning" ["self"] iA)(d_without:Df P w K mg base 2 "without" ["hearths","some"] lP):cY P w K mg base 9 "changes_since" ["self","before"] jL:=
 cY.of kc M F aj6 (λ_ _ _ _ _ _ us hl=>by obtain⟨_,_,rfl⟩:=us2 hl;rfl) ah1 (λst un Ep xs Q h=>by unfold jL at h;repeat (first|(obtain⟨rfl,_⟩:=h;rfl)|(obtain⟨_,h⟩:=h))) bd2 (λcdv A outer s H E Ep hr hX=>by
  have nd:=aj6.nd
  exact (aV (bJ (i:=2) nd (jH 0 fD d_Keeper_burning hr))
   (aY (bK (dD (aA (bY d_without hr (aA (qv 2) (aA (qv 1) aG))) (aA (bY d_without hr (aA (qv 1) (aA (qv 2) aG))) aG)))))))
theorem aj7:FnScope ["self","deed","behind","before"] ["self","deed"] (aN (bB 30 6)):=.au
theorem bj3 (B:Bt mg){CK:Addr}(kc:KC K CK)(M:eU K CK "do" f)(F:cP K "do" "Keeper.do" (bB 30 6) f fd)(d_deed_done:bZ P w K mg base 5 "deed_done" ["web","seeds","deed"] tW)(d_Keeper_web_now:cY P w K mg base 1 "web_now" ["self"] jK)(d_Keeper_seeds_now:cY P w K mg base 1 "seeds_now" ["self"] lU)(d_Keeper_burning:cY P w K mg base 8 "burning" ["self"] iA)(d_told_deed:Df P w K mg base 1 "told_deed" ["deed"] nK)(d_Keeper_changes_since:cY P w K mg base 9 "changes_since" ["self","before"] jL):jJ P w K mg base 10 "do" ["self","deed"] qI:=
 ⟨CK,f,fd,kc,M,uE F aj7 ah2 (λst un Ep xs Q h=>by unfold qI at h;repeat (first|(obtain⟨rfl,_⟩:=h;rfl)|(obtain⟨_,h⟩:=h))) bd4 (λcdv A outer s H E Ep hr hX=>by
  have nd:=aj7.nd
  exact (lT (bJ (i:=2) nd (kC hX d_deed_done hr (aA (jH 0 fD d_Keeper_web_now hr) (aA (jH 0 fD d_Keeper_seeds_now hr) (aA (qv 1) aG)))))
   (lT (bJ (i:=3) nd (jH 0 fD d_Keeper_burning hr))
   (uD (qE (ba2 kc 0 (λ_=>(dD (aA (bY d_told_deed hr (aA (qv 1) aG)) (aA (b9 (qv 2) aI) (aA (b9 (qv 2) aI) aG))))))
   (qE (ba4 kc 0)
   (qF (uB 0 (λ_=>(zO 0 fD d_Keeper_changes_since hr (aA (qv 3) aG))))))))))),F.binds (λ_ _ _ _ _ _ us hl=>by obtain⟨_,_,rfl⟩:=us2 hl;rfl)⟩
theorem aj8:FnScope ["self","before"] ["self"] (aN (bB 30 7)):=.au
theorem bj4 (B:Bt mg){CK:Addr}(kc:KC K CK)(M:eU K CK "back" f)(F:cP K "back" "Keeper.back" (bB 30 7) f fd)(d_Keeper_burning:cY P w K mg base 8 "burning" ["self"] iA)(d_Keeper_changes_since:cY P w K mg base 9 "changes_since" ["self","before"] jL)(x_NoSuch:Xc K mg base "NoSuch"):jJ P w K mg base 10 "back" ["self"] kH:=
 ⟨CK,f,fd,kc,M,uE F aj8 ah4 (λst un Ep xs Q h=>by unfold kH at h;repeat (first|(obtain⟨rfl,_⟩:=h;rfl)|(obtain⟨_,h⟩:=h))) bd5 (λcdv A outer s H E Ep hr hX=>by
  have nd:=aj8.nd
  exact (lT (cV (oR (aZ8 B kc 0) aI) (aY (jF hX x_NoSuch (aA cE aG))) cU)
   (lT (bJ (i:=1) nd (jH 0 fD d_Keeper_burning hr))
   (uD (qE (bd7 kc 0)
   (qF (uB 0 (λ_=>(zO 0 fD d_Keeper_changes_since hr (aA (qv 1) aG)))))))))),F.binds (λ_ _ _ _ _ _ us hl=>by obtain⟨_,rfl⟩:=us1 hl;rfl)⟩
theorem aj9:FnScope ["self","before"] ["self"] (aN (bB 30 8)):=.au
theorem bj5 (B:Bt mg){CK:Addr}(kc:KC K CK)(M:eU K CK "again" f)(F:cP K "again" "Keeper.again" (bB 30 8) f fd)(d_Keeper_burning:cY P w K mg base 8 "burning" ["self"] iA)(d_Keeper_changes_since:cY P w K mg base 9 "changes_since" ["self","before"] jL)(x_NoSuch:Xc K mg base "NoSuch"):jJ P w K mg base 10 "again" ["self"] kI:=
 ⟨CK,f,fd,kc,M,uE F aj9 ah5 (λst un Ep xs Q h=>by unfold kI at h;repeat (first|(obtain⟨rfl,_⟩:=h;rfl)|(obtain⟨_,h⟩:=h))) bd6 (λcdv A outer s H E Ep hr hX=>by
  have nd:=aj9.nd
  exact (lT (cV (mQ (aZ9 kc 0)) (aY (jF hX x_NoSuch (aA cE aG))) cU)
   (lT (bJ (i:=1) nd (jH 0 fD d_Keeper_burning hr))
   (uD (qE (bd8 kc 0)
   (qF (uB 0 (λ_=>(zO 0 fD d_Keeper_changes_since hr (aA (qv 1) aG)))))))))),F.binds (λ_ _ _ _ _ _ us hl=>by obtain⟨_,rfl⟩:=us1 hl;rfl)⟩
theorem ak0:FnScope ["keeper","deed","told"] ["keeper","deed"] (aN (bA 36)):=.au
theorem bj6 (B:Bt mg)(F:cP K "_law_done" "_law_done" (bA 36) f fd)(m:mg "_law_done" = some (.ref f))(d_Keeper_do:jJ P w K mg base 10 "do" ["self","deed"] qI)(cat_BadDeed:yX K mg "BadDeed"):zQ P w K mg base 11 "_law_done" ["keeper","deed"] qJ:=
 ⟨f,fd,uE F ak0 ah8 (λst un Ep xs Q h=>by unfold qJ at h;repeat (first|(obtain⟨rfl,_⟩:=h;rfl)|(obtain⟨_,h⟩:=h))) be3 (λcdv A outer s H E Ep hr hX=>by
  have nd:=ak0.nd
  exact (lT (bJ (i:=2) nd sC)
   (uD (qE (bb7 cat_BadDeed (bb5 0 2 d_Keeper_do hr nd (λ_ _=>(aA (qv 1) aG))) (λ_=>(qF (ba7 0 (j:=2) nd (λ_=>sC)))))
   (qF (uB 0 (λ_=>(qv 2)))))))),F.binds (λ_ _ _ _ _ _ us hl=>by obtain⟨_,_,rfl⟩:=us2 hl;rfl),F.kp,m⟩
theorem ak1:FnScope ["script","many","web","keeper","cell","deed","wants","told","helps"] ["script"] (aN (bA 37)):=.au
theorem bj7 (B:Bt mg)(F:cP K "law" "law" (bA 37) f fd)(d__law_cell:Df P w K mg base 1 "_law_cell" ["script","k"] jB)(d__law_web:Df P w K mg base 3 "_law_web" ["script","at","many"] uG)(d_Keeper___init__:zZ P w K mg base 1)(d__law_deed:Df P w K mg base 1 "_law_deed" ["cell","many"] tX)(d_Keeper_web_now:cY P w K mg base 1 "web_now" ["self"] jK)(d__law_done:zQ P w K mg base 11 "_law_done" ["keeper","deed"] qJ)(d_Keeper_back:jJ P w K mg base 10 "back" ["self"] kH)(d_Keeper_again:jJ P w K mg base 10 "again" ["self"] kI):bQ P w K mg base eB 12 f fd ["script"] (oI K A2):=
 aM2 F ak1 (λxs Q h=>by unfold A2 at h;repeat (first|(obtain⟨rfl,_⟩:=h;rfl)|(obtain⟨_,h⟩:=h))) (λcdv A outer s H E hr=>by
  have nd:=ak1.nd
  have hu3:=A3 hr
  exact⟨(ai1),(aV (bJ (i:=1) nd (gE aI (dW (bY d__law_cell hr (aA (qv 0) (aA aI aG))) aI)))
   (aV (bJ (i:=2) nd (bY d__law_web hr (aA (qv 0) (aA aI (aA (qv 1) aG)))))
   (aV (bc0 3 d_Keeper___init__ hr nd (qv 2))
   (aV (jZ 4 nd (jY (qv 0))
    (aV (bJ (i:=5) nd (bY d__law_deed hr (aA (qv 4) (aA (qv 1) aG))))
    (aV (bJ (i:=6) nd (b9 (jH 3 fD d_Keeper_web_now hr) aI))
    (aV (bc1 7 3 d__law_done hr nd (aA (qv 5) aG))
    (aY (cV (aE8 (qv 7) sC) (aV (bJ (i:=8) nd (aF2 (tL (b9 (qv 5) aI) cE) (sD (tL (b9 (qv 5) aI) cE))))
     (aV (cV (i8 (b9 (qv 5) aI) cE) (aY (bJ (i:=8) nd (Q5 (b9 (qv 5) aI) (b9 (qv 6) (b9 (qv 5) aI))))) cU)
     (aV (cV (aG4 hu3 (b9 (qv 7) (aS8 B (aA (qv 8) aG))) (dD aG)) (aY (bK oO)) cU)
     (aY (bc3 3 d_Keeper_back d_Keeper_again hr hu3 (dD (aA (b9 (qv 7) aI) (aA (b9 (qv 7) aI) aG))) (qv 7) (aY (bK oO))))))) cU))))))
   (aY (bK oO)))))),be8⟩)
end
set_option autoImplicit true in
theorem bj8 {l:OpenLaw}{w:World}{K:Frag}{h:Heap}{mg:Str->Option Value}(X:K.In h)(G:h.Ns mainGlobals mg)(hfa:mg "law" = some (.ref fa))(h0:FK K "rises" 8 f0 d0)(h1:FK K "hearths_in" 9 f1 d1)(h2:FK K "near_lists" 10 f2 d2)(h3:FK K "marked" 14 f3 d3)(h4:FK K "count_inside" 15 f4 d4)(h5:FK K "told_deed" 26 f5 d5){CK:Addr}(aK:nsIn K mainGlobals "Keeper" = some (some (.ref CK)))(yK1:plainGet K CK Str.empty=true)(yK2:hasDictIn K CK=true)(yK3:plainOver K CK=true)(yK4:findIn K (.ref CK) "__setattr__" = some (some (.builtin "object.__setattr__")))(yK5:findIn K (.ref CK) "standing" = some none)(yK6:findIn K (.ref CK) "undone" = some none)(yK7:makesIn K CK=true)(yK8:keepIn K (.ref CK)=true)(a6:findIn K (.ref CK) "web_now" = some (some (.ref f6)))(n6:isFn K (.ref f6)=true)(l6:K.lookup f6=some ⟨oc6,od6,.func (fnOf "web_now" "Keeper.web_now" (e9 (bB 30 1)) (cI (bB 30 1)) (aN (bB 30 1)) .none kV6 dc6 pm6 an6 cd6 ct6),sl6⟩)(c6:codeIn K cd6 "Keeper.web_now" = true)(k6:keepIn K (.ref f6)=true)(a7:findIn K (.ref CK) "seeds_now" = some (some (.ref f7)))(n7:isFn K (.ref f7)=true)(l7:K.lookup f7=some ⟨oc7,od7,.func (fnOf "seeds_now" "Keeper.seeds_now" (e9 (bB 30 2)) (cI (bB 30 2)) (aN (bB 30 2)) .none kV7 dc7 pm7 an7 cd7 ct7),sl7⟩)(c7:codeIn K cd7 "Keeper.seeds_now" = true)(k7:keepIn K (.ref f7)=true)(h8:FK K "_law_cell" 32 f8 d8)(h9:FK K "_law_deed" 35 f9 d9)(h10:FK K "is_hearth" 11 f10 d10)(h11:FK K "without" 16 f11 d11)(h12:FK K "can_kindle" 20 f12 d12)(a13:findIn K (.ref CK) "__init__" = some (some (.ref f13)))(n13:isFn K (.ref f13)=true)(l13:K.lookup f13=some ⟨oc13,od13,.func (fnOf "__init__" "Keeper.__init__" (e9 (bB 30 0)) (cI (bB 30 0)) (aN (bB 30 0)) .none kV13 dc13 pm13 an13 cd13 ct13),sl13⟩)(c13:codeIn K cd13 "Keeper.__init__" = true)(k13:keepIn K (.ref f13)=true)(h14:FK K "_law_number" 33 f14 d14)(h15:FK K "is_set" 12 f15 d15)(h16:FK K "kindling" 19 f16 d16)(h17:FK K "seeds_behind" 27 f17 d17)(h18:FK K "wants_behind" 28 f18 d18)(h19:FK K "links_behind" 29 f19 d19)(h20:FK K "_law_web" 34 f20 d20)(h21:FK K "made_set" 13 f21 d21)(h22:FK K "rounds" 18 f22 d22)(h23:FK K "deed_done" 25 f23 d23)(h24:FK K "ranks_of" 21 f24 d24)(h25:FK K "burnt" 22 f25 d25)(a26:findIn K (.ref CK) "burning" = some (some (.ref f26)))(n26:isFn K (.ref f26)=true)(l26:K.lookup f26=some ⟨oc26,od26,.func (fnOf "burning" "Keeper.burning" (e9 (bB 30 3)) (cI (bB 30 3)) (aN (bB 30 3)) .none kV26 dc26 pm26 an26 cd26 ct26),sl26⟩)(c26:codeIn K cd26 "Keeper.burning" = true)(k26:keepIn K (.ref f26)=true)(a27:findIn K (.ref CK) "changes_since" = some (some (.ref f27)))(n27:isFn K (.ref f27)=true)(l27:K.lookup f27=some ⟨oc27,od27,.func (fnOf "changes_since" "Keeper.changes_since" (e9 (bB 30 9)) (cI (bB 30 9)) (aN (bB 30 9)) .none kV27 dc27 pm27 an27 cd27 ct27),sl27⟩)(c27:codeIn K cd27 "Keeper.changes_since" = true)(k27:keepIn K (.ref f27)=true)(a28:findIn K (.ref CK) "do" = some (some (.ref f28)))(n28:isFn K (.ref f28)=true)(l28:K.lookup f28=some ⟨oc28,od28,.func (fnOf "do" "Keeper.do" (e9 (bB 30 6)) (cI (bB 30 6)) (aN (bB 30 6)) .none kV28 dc28 pm28 an28 cd28 ct28),sl28⟩)(c28:codeIn K cd28 "Keeper.do" = true)(k28:keepIn K (.ref f28)=true)(a29:findIn K (.ref CK) "back" = some (some (.ref f29)))(n29:isFn K (.ref f29)=true)(l29:K.lookup f29=some ⟨oc29,od29,.func (fnOf "back" "Keeper.back" (e9 (bB 30 7)) (cI (bB 30 7)) (aN (bB 30 7)) .none kV29 dc29 pm29 an29 cd29 ct29),sl29⟩)(c29:codeIn K cd29 "Keeper.back" = true)(k29:keepIn K (.ref f29)=true)(a30:findIn K (.ref CK) "again" = some (some (.ref f30)))(n30:isFn K (.ref f30)=true)(l30:K.lookup f30=some ⟨oc30,od30,.func (fnOf "again" "Keeper.again" (e9 (bB 30 8)) (cI (bB 30 8)) (aN (bB 30 8)) .none kV30 dc30 pm30 an30 cd30 ct30),sl30⟩)(c30:codeIn K cd30 "Keeper.again" = true)(k30:keepIn K (.ref f30)=true)(h31:FK K "_law_done" 36 f31 d31)(a32:nsIn K mainGlobals "law" = some (some (.ref f32)))(l32:K.lookup f32=some ⟨oc32,od32,.func (fnOf "law" "law" (e9 (bA 37)) (cI (bA 37)) (aN (bA 37)) .none kV32 dc32 pm32 an32 cd32 ct32),sl32⟩)(c32:codeIn K cd32 "law" = true)(k32:keepIn K (.ref f32)=true)(z_len:nsIn K mainGlobals "len" = some none)(z_range:nsIn K mainGlobals "range" = some none)(z_tuple:nsIn K mainGlobals "tuple" = some none)(z_list:nsIn K mainGlobals "list" = some none)(z_sorted:nsIn K mainGlobals "sorted" = some none)(z_all:nsIn K mainGlobals "all" = some none)(z_any:nsIn K mainGlobals "any" = some none)(z_zip:nsIn K mainGlobals "zip" = some none)(z_min:nsIn K mainGlobals "min" = some none)(z_max:nsIn K mainGlobals "max" = some none)(z_sum:nsIn K mainGlobals "sum" = some none)(z_isinstance:nsIn K mainGlobals "isinstance" = some none)(z_int:nsIn K mainGlobals "int" = some none)(z_bool:nsIn K mainGlobals "bool" = some none)(z_enumerate:nsIn K mainGlobals "enumerate" = some none){kA:Addr}{epK:Nat}{hK0 hK1 hK2 hK3 hK4:Int}{tK0 uK0 tK1 uK1 tK2 uK2 tK3 uK3 tK4 uK4:Tok}(zk:nsIn K mainGlobals "DEED_NUMBERS" = some (some (.ref kA)))(lkd:K.lookup kA=some ⟨.type "dict",none,.dict #[⟨hK0,.str "light" tK0,.int 1 uK0⟩,⟨hK1,.str "douse" tK1,.int 1 uK1⟩,⟨hK2,.str "want" tK2,.int 2 uK2⟩,⟨hK3,.str "link" tK3,.int 2 uK3⟩,⟨hK4,.str "cut" tK4,.int 2 uK4⟩] epK,#[]⟩)(skd:(kA==sysModules)=false)(hkd0:hK0=hashStr w "light")(hkd1:hK1=hashStr w "douse")(hkd2:hK2=hashStr w "want")(hkd3:hK3=hashStr w "link")(hkd4:hK4=hashStr w "cut"){u_MOST_WANTED:Nat}(z_MOST_WANTEDx:nsIn K mainGlobals "MOST_WANTED" = some (some (.int 60 u_MOST_WANTED))){C_HearthError C_BadSet C_BadDeed C_NoSuch:Addr}(aX_HE:nsIn K mainGlobals "HearthError" = some (some (.ref C_HearthError)))(aX_BS:nsIn K mainGlobals "BadSet" = some (some (.ref C_BadSet)))(aX_BD:nsIn K mainGlobals "BadDeed" = some (some (.ref C_BadDeed)))(aX_NS:nsIn K mainGlobals "NoSuch" = some (some (.ref C_NoSuch)))(zX_BW:nsIn K mainGlobals "BadWeb" = some none)(zX_BO:nsIn K mainGlobals "BadOrder" = some none)(zX_BP:nsIn K mainGlobals "BadPrices" = some none)(zX_BB:nsIn K mainGlobals "BadBoard" = some none)(zX_NW:nsIn K mainGlobals "NotWood" = some none)(zX_NP:nsIn K mainGlobals "NoPaper" = some none)(zX_TM:nsIn K mainGlobals "TooMany" = some none)(zX_NT:nsIn K mainGlobals "NoText" = some none)(zX_OR:nsIn K mainGlobals "OddRound" = some none)(y_fg:specialIn K (.builtin "object.__class__") "__get__" = some (some (.builtin "getset_descriptor.__get__")))(y_ft:takesIn K (.builtin "object.__class__")=some true)(z_VE:nsIn K mainGlobals "ValueError" = some none)(y1_HE:isClsIn K C_HearthError=true)(y2_HE:typeIn K (.ref C_HearthError)=some (.type "type"))(y3_HE:findIn K (.ref C_HearthError) "__getattribute__" = some (some (.builtin "BaseException.__getattribute__")))(y4_HE:findIn K (.ref C_HearthError) "__getattr__" = some none)(y5_HE:findIn K (.ref C_HearthError) "__class__" = some (some (.builtin "object.__class__")))(y6_HE:mroIn K C_HearthError (.type "object")=some true)(y7_HE:mroIn K C_HearthError (.type "BaseException")=some true)(y1_BS:isClsIn K C_BadSet=true)(y2_BS:typeIn K (.ref C_BadSet)=some (.type "type"))(y3_BS:findIn K (.ref C_BadSet) "__getattribute__" = some (some (.builtin "BaseException.__getattribute__")))(y4_BS:findIn K (.ref C_BadSet) "__getattr__" = some none)(y5_BS:findIn K (.ref C_BadSet) "__class__" = some (some (.builtin "object.__class__")))(y6_BS:mroIn K C_BadSet (.type "object")=some true)(y7_BS:mroIn K C_BadSet (.type "BaseException")=some true)(y1_BD:isClsIn K C_BadDeed=true)(y2_BD:typeIn K (.ref C_BadDeed)=some (.type "type"))(y3_BD:findIn K (.ref C_BadDeed) "__getattribute__" = some (some (.builtin "BaseException.__getattribute__")))(y4_BD:findIn K (.ref C_BadDeed) "__getattr__" = some none)(y5_BD:findIn K (.ref C_BadDeed) "__class__" = some (some (.builtin "object.__class__")))(y6_BD:mroIn K C_BadDeed (.type "object")=some true)(y7_BD:mroIn K C_BadDeed (.type "BaseException")=some true)(y1_NS:isClsIn K C_NoSuch=true)(y2_NS:typeIn K (.ref C_NoSuch)=some (.type "type"))(y3_NS:findIn K (.ref C_NoSuch) "__getattribute__" = some (some (.builtin "BaseException.__getattribute__")))(y4_NS:findIn K (.ref C_NoSuch) "__getattr__" = some none)(y5_NS:findIn K (.ref C_NoSuch) "__class__" = some (some (.builtin "object.__class__")))(y6_NS:mroIn K C_NoSuch (.type "object")=some true)(y7_NS:mroIn K C_NoSuch (.type "BaseException")=some true)(sB_BD:subIn K (.ref C_BadDeed) (.type "BaseException")=some true)(s_BD_BD:subIn K (.ref C_BadDeed) (.ref C_BadDeed)=some true)(q_BD:excIn K C_BadDeed [.type "ValueError",.type "Exception",.type "BaseException",.type "object"] "ValueError.__new__" = true)(q_BS:excIn K C_BadSet [.type "ValueError",.type "Exception",.type "BaseException",.type "object"] "ValueError.__new__" = true)(q_NS:excIn K C_NoSuch [.type "ValueError",.type "Exception",.type "BaseException",.type "object"] "ValueError.__new__" = true)
 :∃fd:FuncData,(∀(s:Shared) (v:Value),BindsTo s fd ⟨[v],[]⟩ [("script",v)])/\∀base:Heap,K.In base->base.Ns mainGlobals mg->bQ l.prog w K mg base eB 12 fa fd ["script"] (tD K):=by
 have e:=hfa.symm.trans (mg_of X G a32)
 cases e
 have F6:=iT (st:=bB 30 1) l6 c6 k6
 have F7:=iT (st:=bB 30 2) l7 c7 k7
 have F13:=iT (st:=bB 30 0) l13 c13 k13
 have F26:=iT (st:=bB 30 3) l26 c26 k26
 have F27:=iT (st:=bB 30 9) l27 c27 k27
 have F28:=iT (st:=bB 30 6) l28 c28 k28
 have F29:=iT (st:=bB 30 7) l29 c29 k29
 have F30:=iT (st:=bB 30 8) l30 c30 k30
 have F32:=iT (st:=bA 37) l32 c32 k32
 have m32:=mg_of X G a32
 have kc:KC K CK:=⟨aK,⟨yK1,yK2,yK3,yK4⟩,yK5,yK6⟩
 have B:Bt mg:=⟨mg_none_of X G z_len,mg_none_of X G z_range,mg_none_of X G z_tuple,mg_none_of X G z_list,mg_none_of X G z_sorted,mg_none_of X G z_all,mg_none_of X G z_any,mg_none_of X G z_zip,mg_none_of X G z_min,mg_none_of X G z_max,mg_none_of X G z_sum,mg_none_of X G z_isinstance,mg_none_of X G z_int,mg_none_of X G z_bool,mg_none_of X G z_enumerate⟩
 have kd_DEED_NUMBERS:KD l.prog w K mg "DEED_NUMBERS" (nJ tS):=aX1 (mg_of X G zk) lkd ⟨rfl,rfl,rfl⟩ rfl skd (by
  subst hkd0 hkd1 hkd2 hkd3 hkd4
  exact aZ0)
 have m_MOST_WANTED:=mg_of X G z_MOST_WANTEDx
 refine⟨fnOf "law" "law" (e9 (bA 37)) (cI (bA 37)) (aN (bA 37)) .none kV32 dc32 pm32 an32 cd32 ct32,λs v=>.of_eq rfl,λbase KB _=>?_⟩
 have XK_HearthError:tF K C_HearthError:=⟨y1_HE,y2_HE,y3_HE,y4_HE,y5_HE,y_fg,y_ft,y6_HE,y7_HE⟩
 have XK_BadSet:tF K C_BadSet:=⟨y1_BS,y2_BS,y3_BS,y4_BS,y5_BS,y_fg,y_ft,y6_BS,y7_BS⟩
 have XK_BadDeed:tF K C_BadDeed:=⟨y1_BD,y2_BD,y3_BD,y4_BD,y5_BD,y_fg,y_ft,y6_BD,y7_BD⟩
 have XK_NoSuch:tF K C_NoSuch:=⟨y1_NS,y2_NS,y3_NS,y4_NS,y5_NS,y_fg,y_ft,y6_NS,y7_NS⟩
 have cat_BadDeed:yX K mg "BadDeed":=⟨C_BadDeed,mg_of X G aX_BD,⟨y1_BD,y2_BD,sB_BD⟩,λn C h2 h1=>by
  obtain⟨hm,hb⟩:=aQ9 h2
  simp only[yW,bl2,bm1,bp1]at hm
  rcases hm with rfl|rfl|rfl|rfl|rfl|rfl|rfl|rfl|rfl|rfl|rfl|rfl
  ·rw[zX_BW]at h1;cases h1
  ·rw[aX_BS]at h1;cases h1;exact absurd hb (by decide)
  ·rw[zX_BO]at h1;cases h1
  ·rw[zX_BP]at h1;cases h1
  ·rw[zX_BB]at h1;cases h1
  ·rw[aX_BD]at h1;cases h1;exact s_BD_BD
  ·rw[zX_NW]at h1;cases h1
  ·rw[zX_NP]at h1;cases h1
  ·rw[aX_NS]at h1;cases h1;exact absurd hb (by decide)
  ·rw[zX_TM]at h1;cases h1
  ·rw[zX_NT]at h1;cases h1
  ·rw[zX_OR]at h1;cases h1⟩
 have x_BadDeed:Xc K mg base "BadDeed":=⟨C_BadDeed,_,_,_,_,yY KB (mg_of X G aX_BD) q_BD,PySem.F.excBase_ValueError,aX_BD⟩
 have x_BadSet:Xc K mg base "BadSet":=⟨C_BadSet,_,_,_,_,yY KB (mg_of X G aX_BS) q_BS,PySem.F.excBase_ValueError,aX_BS⟩
 have x_NoSuch:Xc K mg base "NoSuch":=⟨C_NoSuch,_,_,_,_,yY KB (mg_of X G aX_NS) q_NS,PySem.F.excBase_ValueError,aX_NS⟩
 have D0:=aL5 (be9 (P:=l.prog) (w:=w) (base:=base) B h0.F) (h0.F.binds (ps:=["things"]) λ_ _ _ _ _ _ us hl=>by obtain⟨_,rfl⟩:=us1 hl;rfl) h0.F.kp (mg_of X G h0.a)
 have D1:=bf2 (P:=l.prog) (w:=w) (base:=base) B (h1.M X G)
 have D2:=aL7 (bf0 (P:=l.prog) (w:=w) (mg:=mg) (base:=base) h2.F) (h2.F.binds (ps:=["web"]) λ_ _ _ _ _ _ us hl=>by obtain⟨_,rfl⟩:=us1 hl;rfl) h2.F.kp (mg_of X G h2.a)
 have D3:=bf3 (P:=l.prog) (w:=w) (base:=base) B (h3.M X G)
 have DD3:=bf4 (P:=l.prog) (w:=w) (base:=base) B (h3.M X G)
 have D4:=bf6 (P:=l.prog) (w:=w) (base:=base) B (h4.M X G)
 have D5:=bf8 (P:=l.prog) (w:=w) (base:=base) B (h5.M X G)  kd_DEED_NUMBERS
 have D6:=bg0 (P:=l.prog) (w:=w) (base:=base) B kc ⟨a6,n6,k6⟩ F6
 have D7:=bg2 (P:=l.prog) (w:=w) (base:=base) B kc ⟨a7,n7,k7⟩ F7
 have D8:=bg4 (P:=l.prog) (w:=w) (base:=base) B (h8.M X G)
 have D9:=bg5 (P:=l.prog) (w:=w) (base:=base) B (h9.M X G)
 have D10:=bg7 (P:=l.prog) (w:=w) (base:=base) B (h10.M X G) D1
 have D11:=bg8 (P:=l.prog) (w:=w) (base:=base) B (h11.M X G) D3
 have DD11:=bg9 (P:=l.prog) (w:=w) (base:=base) B (h11.M X G) DD3
 have D12:=bh1 (P:=l.prog) (w:=w) (base:=base) B (h12.M X G) D4
 have D13:=bh3 (P:=l.prog) (w:=w) (base:=base) kc ⟨yK7,a13,n13,yK8⟩ F13 (mg_of X G aK)
 have D14:=bh4 (P:=l.prog) (w:=w) (base:=base) B (h14.M X G) D8
 have D15:=bh6 (P:=l.prog) (w:=w) (base:=base) B (h15.M X G) D0 D10
 have D16:=bh8 (P:=l.prog) (w:=w) (base:=base) B (h16.M X G) D1 D12
 have D17:=bh9 (P:=l.prog) (w:=w) (base:=base) B (h17.M X G) D10 D11 x_BadDeed
 have D18:=bi0 (P:=l.prog) (w:=w) (base:=base) B (h18.M X G) D10 x_BadDeed m_MOST_WANTED
 have D19:=bi1 (P:=l.prog) (w:=w) (base:=base) B (h19.M X G) D10 DD11 x_BadDeed
 have D20:=bi2 (P:=l.prog) (w:=w) (base:=base) B (h20.M X G) D8 D14
 have D21:=bi4 (P:=l.prog) (w:=w) (base:=base) B (h21.M X G) D15 x_BadSet
 have D22:=bi5 (P:=l.prog) (w:=w) (base:=base) B (h22.M X G) D21 D3 D2 D16
 have D23:=bi6 (P:=l.prog) (w:=w) (base:=base) B (h23.M X G) D21 D5 D17 D18 D19
 have D24:=bi7 (P:=l.prog) (w:=w) (base:=base) B (h24.M X G) D22
 have D25:=bi9 (P:=l.prog) (w:=w) (base:=base) B (h25.M X G) D24
 have D26:=bj1 (P:=l.prog) (w:=w) (base:=base) B kc ⟨a26,n26,k26⟩ F26 D25 D6 D7
 have D27:=bj2 (P:=l.prog) (w:=w) (base:=base) B kc ⟨a27,n27,k27⟩ F27 D26 D11
 have D28:=bj3 (P:=l.prog) (w:=w) (base:=base) B kc ⟨a28,n28,k28⟩ F28 D23 D6 D7 D26 D5 D27
 have D29:=bj4 (P:=l.prog) (w:=w) (base:=base) B kc ⟨a29,n29,k29⟩ F29 D26 D27 x_NoSuch
 have D30:=bj5 (P:=l.prog) (w:=w) (base:=base) B kc ⟨a30,n30,k30⟩ F30 D26 D27 x_NoSuch
 have D31:=bj6 (P:=l.prog) (w:=w) (base:=base) B h31.F (mg_of X G h31.a) D28 cat_BadDeed
 exact aM3 (bj7 B F32 D8 D20 D13 D9 D6 D31 D29 D30)
theorem bj9 {l:OpenLaw}{q:Program}{loose:List Str}{XP:(Str->Option Value)->Heap->Prop}{YP:World->Heap->Prop}{d:DefRec}{K:Params->Frag}(hn:l.most=some 63)(hdf:d.params.defaults = [])(hY:∀(w:World) (h:Heap),YP w h->(K w.params).In h)(F:∀(w:World) (mg:Str->Option Value) (fa:Addr) (h:Heap),(K w.params).In h->h.Ns mainGlobals mg->mg d.name=some (.ref fa)->
   ∃fd:FuncData,(∀(s:Shared) (u:Value),BindsTo s fd ⟨[u],[]⟩ [("script",u)])/\∀base:Heap,(K w.params).In base->base.Ns mainGlobals mg->bQ l.prog w (K w.params) mg base eB 12 fa fd ["script"] (tD (K w.params))) :
  WalkO q loose XP YP l.row.toRowW d [] (λf vs=>PySem.call f vs):=
 L2.av6 (n:=63) (k:=12) (x:="script") (CX:=λ_=>eB) (sp:=λw=>tD (K w.params)) hn (by decide) hdf ⟨rfl,by decide,by decide⟩ hY F (λ_ _ a ns hl hO hS=>⟨a,ns,rfl,aM4 hO hS,hl,λ_=>rfl⟩) λ_ _ _ _ _ z=>z
end K_k91
open PySem PySem.W PyProof.Rows
theorem PySem.W.Fast.te13052408679150730464 : True := trivial
theorem PySem.W.Fast.te16555476440528808052 : True := trivial
theorem PySem.W.Fast.te5369427470323729400 : True := trivial
set_option maxRecDepth 100000 in
set_option maxHeartbeats 0 in
theorem PySem.Challenge.cw_kindleweb_k91_whole_what_helps_holds : PySem.Challenge.rw_kindleweb_k91_whole_what_helps.Holds := by
 w_on;o_law;k_head;(case hw => w_witness2)
 k_fill
 refine K_k91.bj9 (l := PySem.Challenge.rw_kindleweb_k91_whole_what_helps) rfl rfl (λw h Y => PySem.W.kIn_of Y) ?F
 case F =>
  intro w mg fa h KX G hmg
  refine' K_k91.bj8 KX G hmg ?h0 ?h1 ?h2 ?h3 ?h4 ?h5 ?aK ?yK1 ?yK2 ?yK3 ?yK4 ?yK5 ?yK6 ?yK7 ?yK8 ?n6 ?a6 ?l6 ?c6 ?k6 ?n7 ?a7 ?l7 ?c7 ?k7 ?h8 ?h9 ?h10 ?h11 ?h12 ?n13 ?a13 ?l13 ?c13 ?k13 ?h14 ?h15 ?h16 ?h17 ?h18 ?h19 ?h20 ?h21 ?h22 ?h23 ?h24 ?h25 ?n26 ?a26 ?l26 ?c26 ?k26 ?n27 ?a27 ?l27 ?c27 ?k27 ?n28 ?a28 ?l28 ?c28 ?k28 ?n29 ?a29 ?l29 ?c29 ?k29 ?n30 ?a30 ?l30 ?c30 ?k30 ?h31 ?a32 ?l32 ?c32 ?k32 ?z_len ?z_range ?z_tuple ?z_list ?z_sorted ?z_all ?z_any ?z_zip ?z_min ?z_max ?z_sum ?z_isinstance ?z_int ?z_bool ?z_enumerate ?zk ?lkd ?skd ?hkd0 ?hkd1 ?hkd2 ?hkd3 ?hkd4 ?z_MOST_WANTEDx ?aX_HE ?aX_BS ?aX_BD ?aX_NS ?zX_BW ?zX_BO ?zX_BP ?zX_BB ?zX_NW ?zX_NP ?zX_TM ?zX_NT ?zX_OR ?y_fg ?y_ft ?z_VE ?y1_HE ?y2_HE ?y3_HE ?y4_HE ?y5_HE ?y6_HE ?y7_HE ?y1_BS ?y2_BS ?y3_BS ?y4_BS ?y5_BS ?y6_BS ?y7_BS ?y1_BD ?y2_BD ?y3_BD ?y4_BD ?y5_BD ?y6_BD ?y7_BD ?y1_NS ?y2_NS ?y3_NS ?y4_NS ?y5_NS ?y6_NS ?y7_NS ?sB_BD ?s_BD_BD ?q_BD ?q_BS ?q_NS
  (case h0|h1|h2|h3|h4|h5|h8|h9|h10|h11|h12|h14|h15|h16|h17|h18|h19|h20|h21|h22|h23|h24|h25|h31 => exact⟨by k_is, ⟨⟨_, _, _, _, _, _, _, _, _, rfl, by k_is, by k_is⟩, by k_is⟩⟩)
  (case aK|yK1|yK2|yK3|yK4|yK5|yK6|yK7|yK8|n6|a6|l6|c6|k6|n7|a7|l7|c7|k7|n13|a13|l13|c13|k13|n26|a26|l26|c26|k26|n27|a27|l27|c27|k27|n28|a28|l28|c28|k28|n29|a29|l29|c29|k29|n30|a30|l30|c30|k30|a32|l32|c32|k32|z_len|z_range|z_tuple|z_list|z_sorted|z_all|z_any|z_zip|z_min|z_max|z_sum|z_isinstance|z_int|z_bool|z_enumerate|zk|lkd => k_is)
  (case skd => decide)
  (case hkd0 => rfl)
  (case hkd1 => rfl)
  (case hkd2 => rfl)
  (case hkd3 => rfl)
  (case hkd4 => rfl)
  (case z_MOST_WANTEDx|aX_HE|aX_BS|aX_BD|aX_NS|zX_BW|zX_BO|zX_BP|zX_BB|zX_NW|zX_NP|zX_TM|zX_NT|zX_OR|y_fg|y_ft|z_VE|y1_HE|y2_HE|y3_HE|y4_HE|y5_HE|y6_HE|y7_HE|y1_BS|y2_BS|y3_BS|y4_BS|y5_BS|y6_BS|y7_BS|y1_BD|y2_BD|y3_BD|y4_BD|y5_BD|y6_BD|y7_BD|y1_NS|y2_NS|y3_NS|y4_NS|y5_NS|y6_NS|y7_NS|sB_BD|s_BD_BD => k_is)
  (case q_BD|q_BS|q_NS => k_exc)


