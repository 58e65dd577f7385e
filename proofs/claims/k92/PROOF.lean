import PyProof.Rows.All
import Wide.All
import OpenK.AllK
import Wide.FinOn
import Lean
import PyProof.EqAt
import PyProof.EqKinds
import PyProof.TupleCall
import PyProof.NeKinds
import PyProof.Draws
import PyProof.ZipIter
import PyProof.DictUpdate
import PyProof.AutoSeq1
import PyProof.ListRange
import PyProof.ListMulRoad
import PyProof.FactsAll.tuple_2
import PyProof.Rows.SortShell
import PyProof.EnumFor
import PyProof.EnumMake
import PyProof.EnumStmt
import PyProof.Rows.SortWalk
import KE.KDictList
import PyProof.SumAny
import PyProof.ConsumeWalk
import PyProof.WalksMore
import PyProof.Rows.TupAssign
import PyProof.ExcArgsOwn
import PySem.Challenge.RW_kindleweb_k92_whole_causes_kept
set_option Elab.async false
set_option linter.all false
set_option maxRecDepth 100000
set_option maxHeartbeats 4000000
section
open PySem PySem.Spec PyProof.Rows
def bE9:=@wpAny_bind
def bF0:=@Heap.get?_push_of_some
def bF1:=@List.length_map
def bF2:=@List.size_toArray
def bF3:=@List.getElem?_eq_getElem
def bF4:=@List.length_append
def bF5:=@wpAny_pure
def bF6:=@List.getElem?_eq_some_iff
def bF7:=@Nat.le_refl
def bF8:=@List.mem_singleton
def bF9:=@decide_eq_false
def bG0:=@List.mem_cons
def bG1:=@Heap.get?_push_size
def bG2:=@Nat.lt_of_lt_of_le
def bG4:=@List.getElem?_map
def bG5:=@decide_eq_true
def bG6:=@Heap.lt_size
def bG7:=@List.mem_cons_self
def bG8:=@List.mem_cons_of_mem
def bG9:=@Option.some.inj
def bH0:=@List.not_mem_nil
def bH1:=@decide_eq_true_eq
def bH2:=@List.getElem?_set_ne
def bH4:=@List.append_nil
def bH5:=@Bool.false_ne_true
def bH6:=@Nat.le_trans
def bH7:=@List.pairwise_singleton
def bH8:=@List.length_cons
def bI0:=@List.getD_eq_getElem?_getD
def bI1:=@Bool.false_eq_true
def bI2:=@Nat.zero_le
def bI3:=@Nat.ne_of_lt
def bI4:=@Bool.and_eq_true
def bI5:=@List.take_length
def bI7:=@List.mem_map
def bI8:=@List.length_take
def bI9:=@List.length_filter_le
def bJ0:=@List.mem_append
def bJ1:=@List.map_append
def bJ2:=@List.length_range
def bJ3:=@List.length_singleton
def bJ4:=@List.mem_append_right
def bJ5:=@Nat.lt_irrefl
def bJ6:=@Nat.le_of_lt
def bJ7:=@List.mem_of_getElem?
def bJ8:=@beq_self_eq_true
def bJ9:=@List.getElem?_cons_succ
def bK3:=@List.length_set
def bK4:=@of_decide_eq_false
def bK5:=@PySem.mem_of_lookup
def bK7:=@List.getElem?_set_self
def bK8:=@wpAny_mono
def bL0:=@List.map_cons
def bL1:=@List.lookup_cons
def bL2:=@Bool.eq_iff_iff
def bL4:=@or_false
def bL5:=@List.getElem?_append_left
def bL7:=@List.mem_filter
def bL8:=@PySem.W.kia_one
def bL9:=@wpAny_call_entry
def bM1:=@Nat.le_add_right
def bM3:=@PyProof.Rows.callWith_type1
def bM4:=@beq_eq_false_iff_ne
def bM6:=@wpAny_newObj_type
def bM7:=@if_false
def bN1:=@Int.emod_nonneg
def bN2:=@List.all_eq_true
def bN5:=@Nat.ne_of_gt
def bN6:=@List.pairwise_map
def bN7:=@List.nodup_append
def bN8:=@wpAny_callSpecial?_slot
def bO0:=@List.getElem?_append_right
def bO3:=@List.map_map
def bO6:=@wpAny_field
def bO7:=@of_decide_eq_true
def bO8:=@List.take_add_one
def bP1:=@List.find?_cons
def bP2:=@Int.emod_lt_of_pos
def bP4:=@List.length_drop
def bP5:=@List.getElem_mem
def bP6:=@PySem.F.plainAttrs_list
def bP7:=@wpAny_holding
def bP8:=@List.all_cons
def bP9:=@Heap.size_push
def bQ1:=@Calls.callWith_builtin
def bQ2:=@Bool.eq_false_iff
def bQ4:=@PyProof.Rows.slot_tuple_getitem
def bQ5:=@Calls.call_function_entry
def bQ6:=@List.pairwise_cons
def bQ7:=@Array.eq_empty_of_size_eq_zero
def bR2:=@PySem.F.slot_list_append
def bR3:=@PySem.F.type_list_append
def bR4:=@PyProof.Rows.boot_sorted
def bR6:=@List.mem_range
def bR9:=@Calls.evalArgs_plain
def bS0:=@List.getElem?_of_mem
def bS2:=@wpAny_truthy_bool
def bS4:=@wpAny_execs_nil
def bS6:=@Nat.not_lt_zero
def bS7:=@List.getElem?_range
def bS8:=@List.flatten_append
def bS9:=@Array.getD_eq_getD_getElem?
def bT1:=@True.intro
def bT3:=@Bool.and_false
def bT4:=@wpAny_seqItems
def bT5:=@wpAny_setField_rec
def bT6:=@PySem.W.methodCall_KW
def bT7:=@PySem.F.slot_dict_get
def bT8:=@wpAny_passesOwn
def bT9:=@SeqAt.EqAt.same
def bU8:=@Nat.le_succ
def bV0:=@beq_iff_eq
end
abbrev av:=PySem.Value
abbrev aw:=PySem.Shared
abbrev ax:=PySem.Addr
abbrev ay:=PySem.Program
abbrev az:=PySem.Around
abbrev ba:=PySem.World
abbrev aa:=List (Int×Int)
abbrev ae:=PySem.W.Frag
abbrev af:=List (List Int)
abbrev ag:=List Int
namespace L2
open PySem PySem.Spec PyProof.Rows
abbrev aF:=Sum Int Str
def o9:aF->av->Bool
 |.inl k,v=>Value.isInt k v
 |.inr x,v=>Value.isStrOf x v
def az2 (w:ba):aF->Int
 |.inl k=>hashInt k
 |.inr x=>hashStr w x
theorem jW:∀{k:aF}{v:av},o9 k v=true->(∃i t,k=Sum.inl i/\v=Value.int i t)∨(∃x t,k=Sum.inr x/\v=Value.str x t)
 |.inl i,v,h=>by
  obtain⟨t,e⟩:=Value.isInt_shape (k:=i) (v:=v) h
  exact .inl ⟨i,t,rfl,e⟩
 |.inr x,v,h=>by
  obtain⟨t,e⟩:=Value.isStrOf_shape (x:=x) (v:=v) h
  exact .inr ⟨x,t,rfl,e⟩
theorem az3 (i:Int)(t:Tok):o9 (.inl i) (.int i t)=true:=by simp[o9,Value.isInt]
theorem O2 (x:Str)(t:Tok):o9 (.inr x) (.str x t)=true:=by simp[o9,Value.isStrOf]
theorem az4 (a b:Int):decide ((Sum.inl a:aF)=Sum.inl b)=(a==b):=by
 by_cases e:a=b
 ·subst e;simp
 ·have h:¬(Sum.inl a:aF)=Sum.inl b:=λq=>e (Sum.inl.inj q)
  rw[bF9 h];exact (bM4.mpr e).symm
theorem az5 (a b:Str):decide ((Sum.inr a:aF)=Sum.inr b)=decide (a=b):=by
 by_cases e:a=b
 ·subst e;simp
 ·have h:¬(Sum.inr a:aF)=Sum.inr b:=λq=>e (Sum.inr.inj q)
  rw[bF9 h,bF9 e]
theorem az6 (a:Int)(b:Str):decide ((Sum.inl a:aF)=Sum.inr b)=false:=bF9 (λq=>nomatch q)
theorem az7 (a:Str)(b:Int):decide ((Sum.inr a:aF)=Sum.inl b)=false:=bF9 (λq=>nomatch q)
def dF (prog:ay)(w:ba):PySem.KeyKind prog w aF where
 is:=o9
 hash:=az2 w
 inj:=λv a b ha hb=>by
  rcases jW ha with⟨i,t,rfl,rfl⟩|⟨x,t,rfl,rfl⟩
  ·rcases jW hb with⟨j,u,rfl,e⟩|⟨y,u,rfl,e⟩
   ·injection e with e1 _;rw[e1]
   ·exact nomatch e
  ·rcases jW hb with⟨j,u,rfl,e⟩|⟨y,u,rfl,e⟩
   ·exact nomatch e
   ·injection e with e1 _;rw[e1]
 byValue:=λk v h=>by
  rcases jW h with⟨i,t,rfl,rfl⟩|⟨x,t,rfl,rfl⟩<;>rfl
 pyHash:=λhv h=>by
  rcases jW hv with⟨i,t,rfl,rfl⟩|⟨x,t,rfl,rfl⟩
  ·exact wpAny_pyHash_int h
  ·exact wpAny_pyHash_str h
 eqBool:=λhu hv h=>by
  rcases jW hu with⟨i,t,rfl,rfl⟩|⟨x,t,rfl,rfl⟩
  ·rcases jW hv with⟨j,u,rfl,rfl⟩|⟨y,u,rfl,rfl⟩
   ·rw[az4]at h;exact wpAny_eqBool_int h
   ·rw[az6]at h;exact SeqAt.EqAt.int_str i t y u _ _ _ _ h
  ·rcases jW hv with⟨j,u,rfl,rfl⟩|⟨y,u,rfl,rfl⟩
   ·rw[az7]at h;exact SeqAt.EqAt.str_int x t j u _ _ _ _ h
   ·rw[az5]at h;exact wpAny_eqBool_str h
 «strs»:=λk x t v h=>by
  rcases jW h with⟨i,u,rfl,e⟩|⟨y,u,rfl,e⟩
  ·exact nomatch e
  ·injection e with e1 _
   subst e1;cases v<;>rfl
theorem az8 (prog:ay)(w:ba)(i:Int)(t:Tok):(dF prog w).is (.inl i) (.int i t)=true:=az3 i t
theorem az9 (prog:ay)(w:ba)(x:Str)(t:Tok):(dF prog w).is (.inr x) (.str x t)=true:=O2 x t
inductive V where
 |non|bl (b:Bool)|int (i:Int)|str (x:Str)|byt (b:Array UInt8)|flt (b:UInt64)|ref (a:ax)|ty (n:String)
 deriving DecidableEq
def aZ:V->av->Prop
 |.non,u=>u=Value.none
 |.bl b,u=>u=Value.bool b
 |.int i,u=>∃t,u=Value.int i t
 |.str x,u=>∃t,u=Value.str x t
 |.byt b,u=>∃t,u=Value.bytes b t
 |.flt b,u=>∃t,u=Value.float b t
 |.ref a,u=>u=Value.ref a
 |.ty n,u=>u=Value.type n
abbrev aW:List V->List av->Prop:=Paired aZ
theorem aW.length {xs:List V}{us:List av}(r:aW xs us):xs.length=us.length:=Paired.length r
theorem aW.get:∀{xs:List V}{us:List av}{i:Nat}{x:V},aW xs us->xs[i]? = some x->∃u,us[i]? = some u/\aZ x u
 |_,_,_,_,.nil,e=>by simp at e
 |_,_,0,_,.cons r _,e=>by simp at e;subst e;exact⟨_,rfl,r⟩
 |_,_,i+1,x,.cons _ t,e=>by
  obtain⟨u,h1,h2⟩:=aW.get (i:=i) (x:=x) t (by simpa using e)
  exact⟨u,by simpa using h1,h2⟩
theorem aW.append:∀{xs ys:List V}{us ws:List av},aW xs us->aW ys ws->aW (xs++ys) (us++ws)
 |_,_,_,_,.nil,s=>s
 |_,_,_,_,.cons r t,s=>.cons r (aW.append t s)
theorem aW.take:∀{xs:List V}{us:List av} (n:Nat),aW xs us->aW (xs.take n) (us.take n)
 |_,_,0,_=>.nil
 |_,_,_+1,.nil=>.nil
 |_,_,n+1,.cons r t=>.cons r (aW.take n t)
theorem aW.drop:∀{xs:List V}{us:List av} (n:Nat),aW xs us->aW (xs.drop n) (us.drop n)
 |_,_,0,r=>r
 |_,_,_+1,.nil=>.nil
 |_,_,n+1,.cons _ t=>aW.drop n t
def fC:Option V->Option av->Prop
 |some v,some u=>aZ v u
 |none,none=>True
 |_,_=>False
def KV {κ:Type}:List (κ×V)->List (κ×av)->Prop:=Paired λ(p:κ×V) (q:κ×av)=>p.1=q.1/\aZ p.2 q.2
def kV:aF->V
 |.inl i=>.int i
 |.inr x=>.str x
inductive HO where
 |lst (xs:List V)
 |tup (xs:List V)
 |dK (kvs:List (aF×V))|dT (kvs:List (List aF×V))
 |set (S:Int->Bool) (n:Nat)
 |ins (C dx:ax) (fs:List (Str×V))
 |own (x:ax)
 |xd (fs:List (Str×V))
 |met (f x:ax)
 |rng (lo hi:Int)
 |frz (o:Obj) (u:HO)
 |tbl (ps:Array av)
 |ext (φ:Heap->Prop)
abbrev Hp:=ax->Option HO
def upd (H:Hp)(a:ax)(o:HO):Hp:=λb=>if b=a then some o else H b
theorem b6 {H:Hp}{a:ax}{o:HO}:upd H a o a=some o:=by unfold upd;rw[if_pos rfl]
theorem aL {H:Hp}{a b:ax}{o:HO}(h:b≠a):upd H a o b=H b:=by unfold upd;rw[if_neg h]
theorem kN {H:Hp}{a:ax}{o u:HO}:upd (upd H a o) a u=upd H a u:=by
 funext b;unfold upd;split<;>rfl
theorem aA0 {H:Hp}{a b:ax}{o u:HO}(h:H a=some o)(h':H b=some u)(d:o≠u):a≠b:=by
 intro e;subst e;rw[h]at h';exact d (bG9 h')
theorem dG {H:Hp}{a b:ax}{o:HO}(h:H a=some o)(h':H b=none):a≠b:=by
 intro e;subst e;rw[h]at h';cases h'
def jX (h:Heap)(a:ax):Prop:=∀o,h.get? a=some o->o.dict=none
theorem jX.new (h:Heap)(o:Obj)(d:o.dict=none)(s:o.isFreed=false:=by rfl):jX (h.push o) h.objs.size:=λu e=>by
 rw[bG1 h (o:=o) s]at e;cases e;exact d
theorem jX.stay {h h':Heap}{a:ax}{o:Obj}(n:jX h a)(e:h.get? a=some o)(e':h'.get? a=some o):jX h' a:=λu hu=>by
 rw[e']at hu;cases hu;exact n _ e
section
variable (P:ay)(w:ba)
def bY (H:Hp)(h:Heap)(a:ax):HO->Prop
 |.lst xs=>xs.length<=sizeLine/\∃(its:List av) (n:Nat),aW xs its/\h.get? a=some { cls:=.type "list",data:=.seq its.toArray n }
 |.tup xs=>xs.length<=sizeLine/\∃its:List av,aW xs its/\IsTup h a its.toArray/\jX h a
 |.dK kvs=>kvs.length<=sizeLine/\(a==sysModules)=false/\∃vs,KV kvs vs/\h.DictOf (dF P w) a vs
 |.dT kvs=>kvs.length<=sizeLine/\(a==sysModules)=false/\∃xs:List (List aF×ax×av),
   Paired (λ(p:List aF×V) (q:List aF×ax×av)=>p.1=q.1/\H q.2.1=some (.tup (p.1.map kV))/\aZ p.2 q.2.2) kvs xs/\
   ∃o es ep,h.get? a=some o/\o.ExactDict/\o.data = .dict es ep/\es.toList=xs.map (entryOfKey (tupleKind (dF P w)))/\(xs.map (·.1)).Nodup
 |.set S n=>h.SetOf (intKind P w) a S n
 |.ins C dx fs=>H dx=some (.own a)/\fs.length<=1000/\dx≠a/\h.get? a=some (PySem.W.instObj C dx)/\
   ∃mA,h.Ns1 dx mA/\(∀f,fC (fs.lookup f) (mA f))/\PySem.Within mA (fs.map (·.1))
 |.own _=>∃o,h.get? a=some o
 |.xd fs=>∃mA,h.Ns1 a mA/\∀f,fC (fs.lookup f) (mA f)
 |.rng lo hi=>∃t u v,h.get? a=some { cls:=.type "range",data:=.fields #[.int lo t,.int hi u,.int 1 v] }
 |.frz o u=>h.get? a=some o/\bY H h a u
 |.tbl ps=>h.get? a=some { cls:=.none,data:=.fields ps }
 |.met f x=>h.get? a=some (PySem.W.methodObj (.ref f) (.ref x))
 |.ext φ=>φ h/\(∃o,h.get? a=some o)/\∀h1 h2:Heap,φ h1->(∀o,h1.get? a=some o->h2.get? a=some o)->φ h2
def cF (H:Hp)(h:Heap):Prop:=∀a o,H a=some o->bY P w H h a o
end
section
variable {P:ay}{w:ba}{H H':Hp}{h h':Heap}{a:ax}{o:HO}
theorem bY.lt (x:bY P w H h a o):a<h.objs.size:=by
 cases o with
 |lst xs=>obtain⟨_,_,_,_,e⟩:=x;exact bG6 e
 |tup xs=>obtain⟨_,_,_,p,_⟩:=x;exact p.lt
 |dK kvs=>obtain⟨_,_,_,_,o,_,_,e,_⟩:=x;exact bG6 e
 |dT kvs=>obtain⟨_,_,_,_,o,_,_,e,_⟩:=x;exact bG6 e
 |set S n=>obtain⟨o,_,_,_,e,_⟩:=x;exact bG6 e
 |ins C dx fs=>obtain⟨_,_,_,e,_⟩:=x;exact bG6 e
 |own y=>obtain⟨_,e⟩:=x;exact bG6 e
 |xd fs=>obtain⟨_,⟨_,_,_,e,_⟩,_⟩:=x;exact bG6 e
 |rng lo hi=>obtain⟨_,_,_,e⟩:=x;exact bG6 e
 |frz ob u=>obtain⟨e,_⟩:=x;exact bG6 e
 |tbl ps=>exact bG6 (show h.get? a=some _ from x)
 |met f y=>exact bG6 (show h.get? a=some _ from x)
 |ext φ=>obtain⟨_,⟨_,e⟩,_⟩:=x;exact bG6 e
theorem Paired.mapP {α β:Type}{F G:α->β->Prop}:∀{l₁:List α}{l₂:List β},Paired F l₁ l₂->(∀a b,F a b->G a b)->Paired G l₁ l₂
 |_,_,.nil,_=>.nil
 |_,_,.cons r t,f=>.cons (f _ _ r) (Paired.mapP t f)
theorem bY.stay (x:bY P w H h a o)(k:∀b u,(b=a∨H b=some (.own a))->h.get? b=some u->h'.get? b=some u)(ho:∀b,H b=some (.own a)->H' b=some (.own a))(ht:∀b xs,H b=some (.tup xs)->H' b=some (.tup xs)):bY P w H' h' a o:=by
 induction o with
 |lst xs=>obtain⟨z,its,n,r,e⟩:=x;exact⟨z,its,n,r,k _ _ (.inl rfl) e⟩
 |tup xs=>obtain⟨z,its,r,⟨ob,e,c⟩,nd⟩:=x;exact⟨z,its,r,⟨ob,k _ _ (.inl rfl) e,c⟩,nd.stay e (k _ _ (.inl rfl) e)⟩
 |dK kvs=>obtain⟨z,y,vs,r,ob,es,ep,e,c⟩:=x;exact⟨z,y,vs,r,ob,es,ep,k _ _ (.inl rfl) e,c⟩
 |dT kvs=>
  obtain⟨z,y,xs,r,ob,es,ep,e,c⟩:=x
  exact⟨z,y,xs,Paired.mapP r λp q z=>⟨z.1,ht _ _ z.2.1,z.2.2⟩,ob,es,ep,k _ _ (.inl rfl) e,c⟩
 |set S n=>obtain⟨ob,es,ep,t,e,c⟩:=x;exact⟨ob,es,ep,t,k _ _ (.inl rfl) e,c⟩
 |ins C dx fs=>
  obtain⟨d,z,ne,e,mA,⟨od,es,ep,e2,c⟩,r⟩:=x
  exact⟨ho _ d,z,ne,k _ _ (.inl rfl) e,mA,⟨od,es,ep,k _ _ (.inr d) e2,c⟩,r⟩
 |own y=>obtain⟨ob,e⟩:=x;exact⟨ob,k _ _ (.inl rfl) e⟩
 |xd fs=>obtain⟨mA,⟨od,es,ep,e,c⟩,r⟩:=x;exact⟨mA,⟨od,es,ep,k _ _ (.inl rfl) e,c⟩,r⟩
 |rng lo hi=>obtain⟨t,u,v,e⟩:=x;exact⟨t,u,v,k _ _ (.inl rfl) e⟩
 |frz ob u ih=>obtain⟨e,q⟩:=x;exact⟨k _ _ (.inl rfl) e,ih q⟩
 |tbl ps=>
  have e:h.get? a=some { cls:=.none,data:=.fields ps }:=x;show h'.get? a=some { cls:=.none,data:=.fields ps };exact k a _ (.inl rfl) e
 |met f y=>
  have e:h.get? a=some (PySem.W.methodObj (.ref f) (.ref y)):=x;show h'.get? a=some (PySem.W.methodObj (.ref f) (.ref y));exact k a _ (.inl rfl) e
 |ext φ=>obtain⟨p,⟨o,e⟩,st⟩:=x;exact⟨st _ _ p λo q=>k _ _ (.inl rfl) q,⟨o,k _ _ (.inl rfl) e⟩,st⟩
theorem cF.lt (x:cF P w H h)(e:H a=some o):a<h.objs.size:=(x a o e).lt
theorem cF.fresh (x:cF P w H h)(e:h.objs.size<=a):H a=none:=by
 cases q:H a with
 |none=>rfl
 |some u=>exact absurd (bG2 (x.lt q) e) (bJ5 _)
theorem cF.kept (x:cF P w H h)(k:∀b u,h.get? b=some u->h'.get? b=some u):cF P w H h':=λa o e=>
 (x a o e).stay (λb u _ q=>k b u q) (λ_ q=>q) λ_ _ q=>q
theorem cF.laid (x:cF P w H h)(k:∀b u,h.get? b=some u->h'.get? b=some u)(hp:h.objs.size<=a)(new:bY P w (upd H a o) h' a o):cF P w (upd H a o) h':=λb u e=>by
 have hn:=x.fresh hp;by_cases hb:b=a
 ·subst hb;rw[b6]at e;cases e;exact new
 ·rw[aL hb]at e
  exact (x b u e).stay (λc v _ q=>k c v q) (λc q=>by rw[aL (dG q hn)];exact q) λc xs q=>by rw[aL (dG q hn)];exact q
end
def Rd (H:Hp)(a:ax)(u:HO):Prop:=H a=some u∨∃o,H a=some (.frz o u)
theorem Rd.ok {P:ay}{w:ba}{H:Hp}{h:Heap}{a:ax}{u:HO}(r:Rd H a u)(x:cF P w H h):bY P w H h a u:=by
 rcases r with r|⟨o,r⟩
 ·exact x a u r
 ·obtain⟨_,q⟩:=x a _ r
  exact q
def pU:Option HO->Prop
 |some (.lst _)=>True
 |some (.dK _)=>True
 |some (.dT _)=>True
 |some (.set _ _)=>True
 |some (.ins _ _ _)=>True
 |some (.ext _)=>True
 |_=>False
section
variable {P:ay}{w:ba}{H:Hp}{h h':Heap}{x e:ax}{o':HO}
theorem cF.write (ok:cF P w H h)(mu:pU (H x))(he:e=x∨H e=some (.own x))(k:∀b u,b≠e->h.get? b=some u->h'.get? b=some u)(heo:∃u,h'.get? e=some u)(new:bY P w (upd H x o') h' x o'):cF P w (upd H x o') h':=λb u q=>by
 have nown:∀c y,H c=some (.own y)->c≠x:=λc y r z=>by subst z;rw[r]at mu;exact mu
 have ntup:∀c xs,H c=some (.tup xs)->c≠x:=λc xs r z=>by subst z;rw[r]at mu;exact mu
 by_cases hb:b=x
 ·subst hb;rw[b6]at q;cases q;exact new
 ·rw[aL hb]at q
  by_cases hbe:b=e
  ·have q':H b=some (.own x):=by
    rcases he with z|z
    ·exact absurd (hbe.trans z) hb
    ·rw[hbe];exact z
   rw[q]at q';cases q'
   obtain⟨v,hv⟩:=heo
   exact⟨v,by rw[hbe];exact hv⟩
  ·refine (ok b u q).stay (λc v hc r=>k c v ?_ r) (λc r=>by rw[aL (nown c b r)];exact r) λc xs r=>by rw[aL (ntup c xs r)];exact r
   rcases hc with rfl|hc
   ·exact hbe
   ·rintro rfl
    rcases he with z|z
    ·exact nown c b hc z
    ·rw[hc]at z;cases z;exact hb rfl
end
structure Un (fs ex:List ax)(H H':Hp)(h h':Heap):Prop where
 keep:∀b o,h.get? b=some o->H b=none->b∉fs->b∉ex->h'.get? b=some o
 slot:∀b o,h.get? b=some o->H b=none->b∈fs->b∉ex->∃sl,h'.get? b=some { o with slots:=sl }
 free:∀b o,h.get? b=some o->H b=none->b∉ex->H' b=none
 there:∀b o,h.get? b=some o->b∉ex->∃o',h'.get? b=some o'
 tups:∀b xs,H b=some (.tup xs)->H' b=some (.tup xs)
 frzs:∀b o u,H b=some (.frz o u)->H' b=some (.frz o u)
 tbls:∀b ps,H b=some (.tbl ps)->∃more,H' b=some (.tbl (ps++more))
section
variable {fs fs' ex ex':List ax}{H H1 H2:Hp}{h h1 h2 h':Heap}{a x e:ax}{o:HO}
theorem Un.any (u:Un fs ex H H1 h h1){b:ax}{ob:Obj}(q:h.get? b=some ob)(n:H b=none)(hx:b∉ex):∃sl,h1.get? b=some { ob with slots:=sl }:=by
 by_cases hb:b∈fs
 ·exact u.slot b ob q n hb hx
 ·exact⟨ob.slots,u.keep b ob q n hb hx⟩
theorem Un.kept (k:∀b u,h.get? b=some u->h'.get? b=some u):Un fs ex H H h h':=
 ⟨λb ob q _ _ _=>k b ob q,λb ob q _ _ _=>⟨ob.slots,k b ob q⟩,λ_ _ _ n _=>n,λb ob q _=>⟨ob,k b ob q⟩,λ_ _ q=>q,λ_ _ _ q=>q,λ_ ps q=>⟨#[],by rw[q];simp⟩⟩
theorem Un.refl:Un fs ex H H h h:=Un.kept λ_ _ q=>q
theorem Un.laid (k:∀b u,h.get? b=some u->h'.get? b=some u)(hp:h.objs.size<=a)(hn:H a=none):Un fs ex H (upd H a o) h h' where
 keep:=λb u q _ _ _=>k b u q
 slot:=λb u q _ _ _=>⟨u.slots,k b u q⟩
 free:=λb u q n _=>by rw[aL (bI3 (bG2 (bG6 q) hp))];exact n
 there:=λb u q _=>⟨u,k b u q⟩
 tups:=λb xs q=>by rw[aL (dG q hn)];exact q
 frzs:=λb u xs q=>by rw[aL (dG q hn)];exact q
 tbls:=λb ps q=>⟨#[],by rw[aL (dG q hn),q];simp⟩
theorem Un.write (mu:pU (H x))(he:e=x∨H e=some (.own x))(k:∀b u,b≠e->h.get? b=some u->h'.get? b=some u)(heo:∃u,h'.get? e=some u):Un fs ex H (upd H x o) h h':=by
 have hx:∀b,H b=none->b≠x:=λb n z=>by subst z;rw[n]at mu;exact mu
 have hb:∀b,H b=none->b≠e:=λb n z=>by
  subst z;rcases he with r|r
  ·exact hx b n r
  ·rw[n]at r;cases r
 have hm:∀b u,H b=some u->¬pU (some u)->b≠x:=λb u q nm z=>by subst z;rw[q]at mu;exact nm mu
 refine⟨λb u q n _ _=>k b u (hb b n) q,λb u q n _ _=>⟨u.slots,k b u (hb b n) q⟩,λb u q n _=>by rw[aL (hx b n)];exact n,λb u q _=>?_,
  λb xs q=>by rw[aL (hm b _ q λz=>z)];exact q,λb u xs q=>by rw[aL (hm b _ q λz=>z)];exact q,λb ps q=>⟨#[],by rw[aL (hm b _ q λz=>z),q];simp⟩⟩
 by_cases hbe:b=e
 ·subst hbe;exact heo
 ·exact⟨u,k b u hbe q⟩
end
def t8 (h:Heap)(H:Hp):List ax:=(List.range h.objs.size).filter λa=>(H a).isSome
def kO (h:Heap)(H:Hp):Heap:=PySem.W.hideAll h (t8 h H)
theorem aA1 (h:Heap)(H:Hp):(kO h H).objs.size=h.objs.size:=PySem.W.hideAll_size _ _
theorem aA2 {h:Heap}{H:Hp}{b:ax}{o:Obj}(e:h.get? b=some o)(n:H b=none):(kO h H).get? b=some o:=
 PySem.W.hideAll_get _ e λhm=>by
  have q:(H b).isSome=true:=(bL7.mp hm).2;rw[n]at q;simp at q
theorem aA3 {h:Heap}{H:Hp}{b:ax}{o:Obj}(e:(kO h H).get? b=some o):h.get? b=some o/\H b=none:=by
 have e':h.get? b=some o:=PySem.W.of_hideAll (t8 h H) e;refine⟨e',?_⟩;cases q:H b with
 |none=>rfl
 |some x=>
  have hm:b∈t8 h H:=bL7.mpr ⟨bR6.mpr (bG6 e'),by simp[q]⟩;have z:(kO h H).get? b=none:=PySem.W.hideAll_none (t8 h H) hm;rw[z]at e;cases e
def pV (g h:Heap)(L:ax):List (ax×Obj):=(List.range h.objs.size).filterMap λa=>if a=L∨(g.get? a).isSome=true then none else (h.get? a).map λo=>(a,o)
theorem x5 {g h:Heap}{L a:ax}{o:Obj}(h1:a≠L)(h2:g.get? a=none)(h3:h.get? a=some o):(a,o)∈pV g h L:=
 List.mem_filterMap.mpr ⟨a,bR6.mpr (bG6 h3),by simp[h1,h2,h3]⟩
theorem aA4 {g h:Heap}{L:ax}{p:ax×Obj}(hp:p∈pV g h L):p.1≠L/\g.get? p.1=none/\h.get? p.1=some p.2:=by
 obtain⟨b,_,e⟩:=List.mem_filterMap.mp hp
 split at e
 ·cases e
 ·rename_i hn
  cases q:h.get? b with
  |none=>rw[q]at e;simp at e
  |some u=>
   rw[q]at e;simp only[Option.map_some,Option.some.injEq]at e;subst e;refine⟨λz=>hn (.inl z),?_,q⟩;show g.get? b=none;cases r:g.get? b with
   |none=>rfl
   |some v=>exact (hn (.inr (by simp[r]))).elim
def cX (g h:Heap)(L d:ax):List (ax×Obj):=(pV g h L).filter λp=>decide (p.1≠d)
theorem O3 {g h:Heap}{L:ax}:News g L h (pV g h L):=λp hp=>let ⟨a,b,c⟩:=aA4 hp;⟨c,a,b⟩
structure Mod (K:ae)(mg:Str->Option av)(base:Heap):Prop where
 kin:K.In base
 glob:base.Ns mainGlobals mg
 blt:∃mb,base.Ns builtinsNs mb/\∀x:Str,x≠"__name__"->mb x=bootBuiltins x
 nolimit:base.NoLimit
structure Cx where
 prog:ay
 w:ba
 K:ae
 mg:Str->Option av
 base:Heap
 A:az
 N:List Str
 s₀:aw
 H₀:Hp
 env:Env
 outer:List Env
 stack:List Env
 ex:List ax
 fn:Str->Bool
 calm:Bool
 pn:List (ax×Obj)
 xe:av->aw->Prop
def cE (l:List Env):List ax:=l.filterMap (·.frame)
abbrev Cx.fs (X:Cx):List ax:=cE X.outer
def cO (sc:Scope)(x:Str):Prop:=sc.names.lookup x=some .local∨sc.names.lookup x=some .cell∨sc.names.lookup x=some .free
def jD (sc:Scope)(x:Str):Prop:=sc.names.lookup x=some .local∨sc.names.lookup x=some .cell
def aA5 (env:Env)(h:Heap)(m:Str->Option av)(x:Str)(u:av):Prop:=
 (env.kindOf x=some .local/\m x=some u)∨((env.kindOf x=some .cell∨env.kindOf x=some .free)/\∃c,env.cells.lookup x=some c/\h.IsCell c (some u))
structure Cx.Ok (X:Cx):Prop where
 mod:Mod X.K X.mg X.base
 kind:X.env.scope.kind = .function
 glob:X.env.globals=mainGlobals
 blt:X.env.builtins=builtinsNs
 above:X.s₀.heap.objs.size<=X.env.locals
 inj:∀x y c,X.env.cells.lookup x=some c->X.env.cells.lookup y=some c->x=y
 has:∀x,(X.env.kindOf x=some .cell∨X.env.kindOf x=some .free)->∃c,X.env.cells.lookup x=some c
 cab:∀x c,X.fn x=true->X.env.cells.lookup x=some c->X.s₀.heap.objs.size<=c
 hd:X.calm=true->X.A.handled=none
 frames:X.A.frames=some X.stack
 stk:X.stack=X.outer∨(X.stack=X.env::X.outer/\X.env.frame=some X.env.locals)
 exf:∀b∈X.ex,b≠X.env.locals/\∀x c,X.env.cells.lookup x=some c->c≠b
 bs:∀b o,X.base.get? b=some o->X.s₀.heap.get? b=some o/\X.H₀ b=none
 bsz:X.base.objs.size<=X.s₀.heap.objs.size
 noex:∀b o,X.base.get? b=some o->b∉X.ex
 exfs:∀b∈X.ex,b∉X.fs
 funs:X.s₀.heap.FunFrames X.base X.outer
 frf:∀b∈X.fs,X.H₀ b=none
structure a7 (X:Cx)(ah:List (ax×Obj))(σ:List (Option V))(H:Hp)(s:aw):Prop where
 ok:X.Ok
 os:s.os=X.s₀.os
 bare:AllBare s.gens
 base:Un X.fs X.ex X.H₀ H X.s₀.heap s.heap
 loc:∃m,s.heap.Ns X.env.locals m/\∀(i:Nat) (x:Str) (v:V),X.N[i]? = some x->σ[i]? = some (some v)->cO X.env.scope x->∃u,aZ v u/\aA5 X.env s.heap m x u
 cell:∀x c,X.env.cells.lookup x=some c->∃v,s.heap.IsCell c v
 free:H X.env.locals=none
 freeC:∀x c,X.env.cells.lookup x=some c->H c=none
 pin:∀p∈X.pn++ah,s.heap.get? p.1=some p.2/\H p.1=none/\p.1≠X.env.locals/\p.1∉X.fs/\∀v,p.2.data≠.cell v
 hok:cF X.prog X.w H s.heap
 len:σ.length=X.N.length
section
variable {X:Cx}{ah:List (ax×Obj)}{σ:List (Option V)}{H H':Hp}{s:aw}{h':Heap}
theorem Cx.Ok.nofr (ok:X.Ok){b:ax}{o:Obj}(e:X.base.get? b=some o):b∉X.fs:=λhb=>by
 have:=(ok.funs.mem hb).1
 rw[e]at this;cases this
theorem a7.bs (I:a7 X ah σ H s):∀b o,X.base.get? b=some o->s.heap.get? b=some o/\H b=none:=λb o e=>
 ⟨I.base.keep b o (I.ok.bs b o e).1 (I.ok.bs b o e).2 (I.ok.nofr e) (I.ok.noex b o e),I.base.free b o (I.ok.bs b o e).1 (I.ok.bs b o e).2 (I.ok.noex b o e)⟩
theorem a7.bk (I:a7 X ah σ H s):∀b o,X.base.get? b=some o->s.heap.get? b=some o:=λb o e=>(I.bs b o e).1
theorem a7.mod (I:a7 X ah σ H s):Mod X.K X.mg X.base:=I.ok.mod
theorem a7.kIn (I:a7 X ah σ H s):X.K.In s.heap:=I.ok.mod.kin.keeps I.bk
theorem a7.fr (I:a7 X ah σ H s):∃m,Fr X.base X.env.locals s.heap m:=
 let ⟨m,hn,_⟩:=I.loc
 ⟨m,hn,I.bk,bH6 I.ok.bsz I.ok.above⟩
theorem a7.lt (I:a7 X ah σ H s):X.env.locals<s.heap.objs.size:=let ⟨_,hn,_⟩:=I.loc;hn.lt
theorem a7.sz (I:a7 X ah σ H s):X.s₀.heap.objs.size<=s.heap.objs.size:=bH6 I.ok.above (bJ6 I.lt)
theorem a7.nofs (I:a7 X ah σ H s){a:ax}(h:s.heap.objs.size<=a):a∉X.fs:=λhb=>by
 obtain⟨_,o,ho,_⟩:=I.ok.funs.mem hb
 exact absurd (bG2 (bG6 ho) (bH6 I.sz h)) (bJ5 _)
theorem a7.cne (I:a7 X ah σ H s):∀x c,X.env.cells.lookup x=some c->c≠X.env.locals:=λx c e z=>by
 obtain⟨v,o,ho,hd⟩:=I.cell x c e
 obtain⟨m,⟨o',es,ep,ho',hd',_⟩,_⟩:=I.loc
 rw[z,ho']at ho;cases ho;rw[hd']at hd;cases hd
theorem a7.funs (I:a7 X ah σ H s):s.heap.FunFrames X.base X.outer:=by
 have all:∀(l:List Env),(∀b∈cE l,b∈X.fs)->X.s₀.heap.FunFrames X.base l->s.heap.FunFrames X.base l:=by
  intro l
  induction l with
  |nil=>intro _ _;trivial
  |cons env r ih=>
   intro hs hl
   obtain⟨hk,⟨L,o,hf,hn,ho,hd⟩,hr⟩:=hl
   have hL:L∈X.fs:=hs L (by unfold cE;rw[List.filterMap_cons,hf];exact bG7)
   obtain⟨sl,e⟩:=I.base.slot L o ho (I.ok.frf L hL) hL λz=>I.ok.exfs L z hL
   exact⟨hk,⟨L,_,hf,hn,e,hd⟩,ih (λb hb=>hs b (by unfold cE;rw[List.filterMap_cons,hf];exact bG8 _ hb)) hr⟩
 exact all X.outer (λ_ hb=>hb) I.ok.funs
theorem a7.stack (I:a7 X ah σ H s):s.heap.FunFrames X.base X.stack:=by
 rcases I.ok.stk with e|⟨e,hf⟩
 ·rw[e];exact I.funs
 ·rw[e]
  obtain⟨m,hn,_⟩:=I.loc
  refine .cons (by rw[I.ok.kind];decide) hf hn ?_ I.funs;exact Heap.get?_none_of_le (bH6 I.ok.bsz I.ok.above)
theorem a7.stkSub (I:a7 X ah σ H s):∀b∈cE X.stack,b∈X.env.locals::X.fs:=λb hb=>by
 rcases I.ok.stk with e|⟨e,hf⟩
 ·rw[e]at hb;exact bG8 _ hb
 ·rw[e]at hb
  unfold cE at hb;rw[List.filterMap_cons,hf]at hb;exact hb
theorem a7.stkFree (I:a7 X ah σ H s):∀b∈cE X.stack,H b=none:=λb hb=>by
 rcases bG0.mp (I.stkSub b hb) with e|hb
 ·rw[e];exact I.free
 ·obtain⟨_,o,ho,_⟩:=I.ok.funs.mem hb
  exact I.base.free b o ho (I.ok.frf b hb) λz=>I.ok.exfs b z hb
theorem a7.step {g':Array GenState}{t':Nat}{d':Drawn}{ch:List ax}(I:a7 X ah σ H s)(hch:∀b∈ch,(b∈X.ex∨X.s₀.heap.objs.size<=b)/\b≠X.env.locals/\(∀x c,X.env.cells.lookup x=some c->c≠b)/\∀p∈X.pn++ah,p.1≠b)(keep:∀b o,b≠X.env.locals->b∉X.fs->b∉ch->s.heap.get? b=some o->H b=none->h'.get? b=some o)(slot:∀b o,b≠X.env.locals->b∈X.fs->b∉ch->s.heap.get? b=some o->H b=none->∃sl,h'.get? b=some { o with slots:=sl })(free:∀b o,b∉ch->s.heap.get? b=some o->H b=none->H' b=none)(there:∀b o,b∉ch->s.heap.get? b=some o->∃o',h'.get? b=some o')(tups:∀b xs,H b=some (.tup xs)->H' b=some (.tup xs))(frzs:∀b o u,H b=some (.frz o u)->H' b=some (.frz o u))(tbls:∀b ps,H b=some (.tbl ps)->∃more,H' b=some (.tbl (ps++more)))(ns:∀m,s.heap.Ns X.env.locals m->h'.Ns X.env.locals m)(hok:cF X.prog X.w H' h')(hg:AllBare g') :
  a7 X ah σ H' { s with heap:=h',gens:=g',drawn:=d',toks:=t' }:=by
 have neL:∀b o,X.s₀.heap.get? b=some o->b≠X.env.locals:=λb o e=>bI3 (bG2 (bG6 e) I.ok.above)
 have neC:∀b o,X.s₀.heap.get? b=some o->b∉X.ex->b∉ch:=λb o e hx hb=>by
  rcases (hch b hb).1 with z|z
  ·exact hx z
  ·exact absurd (bG2 (bG6 e) z) (bJ5 _)
 have cellK:∀x c,X.env.cells.lookup x=some c->∀v,s.heap.IsCell c v->h'.IsCell c v:=λx c e v ⟨o,ho,hd⟩=>by
  have nch:c∉ch:=λz=>(hch c z).2.2.1 x c e rfl
  by_cases hc:c∈X.fs
  ·obtain⟨sl,q⟩:=slot c o (I.cne x c e) hc nch ho (I.freeC x c e)
   exact⟨_,q,hd⟩
  ·exact⟨o,keep c o (I.cne x c e) hc nch ho (I.freeC x c e),hd⟩
 refine⟨I.ok,I.os,hg,⟨λb o e n hb hx=>?_,λb o e n hb hx=>?_,λb o e n hx=>?_,λb o e hx=>?_,λb xs e=>tups b xs (I.base.tups b xs e),λb o xs e=>frzs b o xs (I.base.frzs b o xs e),λb ps e=>?_⟩,?_,λx c e=>?_,?_,λx c e=>?_,λp hp=>?_,hok,I.len⟩
 ·exact keep b o (neL b o e) hb (neC b o e hx) (I.base.keep b o e n hb hx) (I.base.free b o e n hx)
 ·obtain⟨sl,e1⟩:=I.base.slot b o e n hb hx
  obtain⟨sl',e2⟩:=slot b _ (neL b o e) hb (neC b o e hx) e1 (I.base.free b o e n hx)
  exact⟨sl',e2⟩
 ·obtain⟨o',e1⟩:=I.base.there b o e hx
  exact free b o' (neC b o e hx) e1 (I.base.free b o e n hx)
 ·obtain⟨o',e1⟩:=I.base.there b o e hx
  exact there b o' (neC b o e hx) e1
 ·obtain⟨m1,e1⟩:=I.base.tbls b ps e
  obtain⟨m2,e2⟩:=tbls b _ e1
  exact⟨m1++m2,by rw[e2,Array.append_assoc]⟩
 ·obtain⟨m,hn,hl⟩:=I.loc
  refine⟨m,ns m hn,λi x v e1 e2 e3=>?_⟩
  obtain⟨u,r,l⟩:=hl i x v e1 e2 e3
  refine⟨u,r,?_⟩;rcases l with l|⟨k,c,e,z⟩
  ·exact .inl l
  ·exact .inr ⟨k,c,e,cellK x c e _ z⟩
 ·obtain⟨v,z⟩:=I.cell x c e
  exact⟨v,cellK x c e v z⟩
 ·obtain⟨m,⟨o,_,_,ho,_⟩,_⟩:=I.loc
  exact free _ o (λz=>(hch _ z).2.1 rfl) ho I.free
 ·obtain⟨v,o,ho,hd⟩:=I.cell x c e
  exact free c o (λz=>(hch c z).2.2.1 x c e rfl) ho (I.freeC x c e)
 ·obtain⟨e,n,ne,nf,d⟩:=I.pin p hp
  have nch:p.1∉ch:=λz=>(hch p.1 z).2.2.2 p hp rfl
  exact⟨keep p.1 p.2 ne nf nch e n,free p.1 p.2 nch e n,ne,nf,d⟩
theorem a7.un {t':Nat}(I:a7 X ah σ H s)(u:Un X.fs [] H H' s.heap h')(hok:cF X.prog X.w H' h'):a7 X ah σ H' { s with heap:=h',toks:=t' }:=by
 obtain⟨m,⟨o,es,ep,ho,r⟩,_⟩:=id I.loc
 obtain⟨sl,hL⟩:=u.any ho I.free (by simp)
 exact I.step (g':=s.gens) (d':=s.drawn) (ch:=[]) (λ_ z=>nomatch z) (λb o _ hb _ e n=>u.keep b o e n hb (by simp)) (λb o _ hb _ e n=>u.slot b o e n hb (by simp)) (λb o _ e n=>u.free b o e n (by simp)) (λb o _ e=>u.there b o e (by simp)) u.tups u.frzs u.tbls (λm' hm=>by
  obtain⟨o',es',ep',ho',r'⟩:=hm
  rw[ho]at ho';cases ho'
  exact⟨_,es',ep',hL,r'⟩) hok I.bare
theorem a7.call {g':Array GenState}{t':Nat}{d':Drawn}{ch:List ax}(I:a7 X ah σ H s)(u:Un (cE X.stack) ch H H' s.heap h')(hok:cF X.prog X.w H' h')(hg:AllBare g')(hch:∀b∈ch,(b∈X.ex∨X.s₀.heap.objs.size<=b)/\b≠X.env.locals/\(∀x c,X.env.cells.lookup x=some c->c≠b)/\∀p∈X.pn++ah,p.1≠b) :
  a7 X ah σ H' { s with heap:=h',gens:=g',drawn:=d',toks:=t' }:=by
 obtain⟨m,⟨o,es,ep,ho,r⟩,_⟩:=id I.loc
 obtain⟨sl,hL⟩:=u.any ho I.free λz=>(hch _ z).2.1 rfl
 exact I.step (ch:=ch) hch (λb o hL hb hc e n=>u.keep b o e n (λz=>(bG0.mp (I.stkSub b z)).elim hL hb) hc) (λb o _ _ hc e n=>u.any e n hc) (λb o hc e n=>u.free b o e n hc) (λb o hc e=>u.there b o e hc) u.tups u.frzs u.tbls (λm' hm=>by
  obtain⟨o',es',ep',ho',r'⟩:=hm
  rw[ho]at ho';cases ho'
  exact⟨_,es',ep',hL,r'⟩) hok hg
theorem a7.turned {t':Nat}{it:ax}(I:a7 X ah σ H s)(k:∀b o,b≠it->s.heap.get? b=some o->h'.get? b=some o)(hn:H it=none)(hL:it≠X.env.locals)(h1:it∈X.ex∨X.s₀.heap.objs.size<=it)(h2:∀x c,X.env.cells.lookup x=some c->c≠it)(h3:∀p∈X.pn++ah,p.1≠it):a7 X ah σ H { s with heap:=h',toks:=t' }:=by
 have nit:∀b u,H b=some u->b≠it:=λb u e z=>by rw[z,hn]at e;cases e
 refine I.step (g':=s.gens) (d':=s.drawn) (ch:=[it]) (λb hb=>?_) (λb o _ _ hc e _=>k b o (λz=>hc (by simp[z])) e) (λb o _ _ hc e _=>⟨o.slots,k b o (λz=>hc (by simp[z])) e⟩) (λ_ _ _ _ n=>n)
  (λb o hc e=>⟨o,k b o (λz=>hc (by simp[z])) e⟩) (λ_ _ e=>e) (λ_ _ _ e=>e) (λb ps e=>⟨#[],by rw[e];simp⟩) (λm hm=>?_) (λb u e=>?_) I.bare
 ·have e:b=it:=by simpa using hb
  subst e
  exact⟨h1,hL,h2,h3⟩
 ·obtain⟨o,es,ep,ho,r⟩:=hm
  exact⟨o,es,ep,k _ o (Ne.symm hL) ho,r⟩
 ·refine (I.hok b u e).stay (λc v hc q=>k c v ?_ q) (λ_ q=>q) λ_ _ q=>q
  rcases hc with z|z
  ·rw[z];exact nit b u e
  ·exact nit c _ z
theorem a7.tok (I:a7 X ah σ H s)(t:Nat):a7 X ah σ H { s with toks:=t }:=I.un (h':=s.heap) (t':=t) Un.refl I.hok
theorem a7.kept {t':Nat}(I:a7 X ah σ H s)(k:∀b u,s.heap.get? b=some u->h'.get? b=some u):a7 X ah σ H { s with heap:=h',toks:=t' }:=I.un (Un.kept k) (I.hok.kept k)
theorem a7.laid {a:ax}{o:HO}{t':Nat}(I:a7 X ah σ H s)(k:∀b u,s.heap.get? b=some u->h'.get? b=some u)(hp:s.heap.objs.size<=a)(new:bY X.prog X.w (upd H a o) h' a o) :
  a7 X ah σ (upd H a o) { s with heap:=h',toks:=t' }:=I.un (Un.laid k hp (I.hok.fresh hp)) (I.hok.laid k hp new)
theorem a7.write {x e:ax}{o:HO}{t':Nat}(I:a7 X ah σ H s)(mu:pU (H x))(he:e=x∨H e=some (.own x))(k:∀b u,b≠e->s.heap.get? b=some u->h'.get? b=some u)(heo:∃u,h'.get? e=some u)(new:bY X.prog X.w (upd H x o) h' x o):a7 X ah σ (upd H x o) { s with heap:=h',toks:=t' }:=I.un (Un.write mu he k heo) (I.hok.write mu he k heo new)
theorem a7.weak {σ':List (Option V)}(I:a7 X ah σ H s)(hl:σ'.length=σ.length)(w:∀(i:Nat) v,σ'[i]? = some (some v)->σ[i]? = some (some v)):a7 X ah σ' H s:=
 ⟨I.ok,I.os,I.bare,I.base,let ⟨m,hn,hl'⟩:=I.loc;⟨m,hn,λi x v e1 e2 e3=>hl' i x v e1 (w i v e2) e3⟩,I.cell,I.free,I.freeC,I.pin,I.hok,hl.trans I.len⟩
theorem a7.pins_of {pins':List (ax×Obj)}(I:a7 X ah σ H s)(h:∀p∈pins',s.heap.get? p.1=some p.2/\H p.1=none/\p.1≠X.env.locals/\p.1∉X.fs/\∀v,p.2.data≠.cell v):a7 X pins' σ H s:=
 ⟨I.ok,I.os,I.bare,I.base,I.loc,I.cell,I.free,I.freeC,λp hp=>(bJ0.mp hp).elim (λz=>I.pin p (List.mem_append_left _ z)) (h p),I.hok,I.len⟩
theorem x6 {N:List Str}(hN:N.Nodup){i j:Nat}{x:Str}(a:N[i]? = some x)(b:N[j]? = some x):i=j:=by
 obtain⟨h1,e1⟩:=bF6.mp a
 obtain⟨h2,e2⟩:=bF6.mp b
 exact (List.getElem_inj hN).mp (e1.trans e2.symm)
theorem x8 {M:Model}{A:az}{E:av->aw->Prop}{i:Nat}{x:Str}{v:V}{u:av}{Q:Unit->aw->Prop}(I:a7 X ah σ H s)(hN:X.N.Nodup)(hi:X.N[i]? = some x)(hx:jD X.env.scope x)(r:aZ v u)(h:∀s',a7 X ah (σ.set i (some v)) H s'->(∃a,Heap.SameBut a s.heap s'.heap/\(a=X.env.locals∨X.env.cells.lookup x=some a))->Q () s')(hf:X.fn x=true∨X.env.scope.names.lookup x=some .local:=by first|exact .inl rfl|exact .inr rfl|assumption):wpAny M A (storeName X.env x u) Q E s:=by
 obtain⟨m,hn,hl⟩:=id I.loc
 have hcls:(X.env.scope.kind==.class||(X.env.scope.kind==.module&&X.env.locals != X.env.globals))=false:=by rw[I.ok.kind];rfl
 have hiσ:i<σ.length:=by rw[I.len];exact (bF6.mp hi).1
 have cne:=I.cne;have tracked:∀{a:ax}{h':Heap},(∃o,s.heap.get? a=some o/\H a=none)->Heap.SameBut a s.heap h'->cF X.prog X.w H h':=λ{a h'} ha hs b ob e=>by
  obtain⟨_,_,hfree⟩:=ha
  refine (I.hok b ob e).stay (λc w' hc q=>(hs.2 c ?_).trans q) (λ_ q=>q) λ_ _ q=>q
  rintro rfl;rcases hc with rfl|hc
  ·rw[hfree]at e;cases e
  ·rw[hfree]at hc;cases hc
 rcases hx with hk|hk
 ·refine wpAny_storeName_local hk hn (λh' hn' hs=>?_) hcls
  obtain⟨oL,_,_,hoL,_⟩:=id hn
  refine h _ ⟨I.ok,I.os,I.bare,⟨λb o e n hb hx=>?_,λb o e n hb hx=>?_,I.base.free,λb o e hx=>?_,I.base.tups,I.base.frzs,I.base.tbls⟩,⟨_,hn',λj y v' e1 e2 e3=>?_⟩,λy c e=>?_,I.free,I.freeC,λp hp=>?_,tracked ⟨oL,hoL,I.free⟩ hs,by simpa using I.len⟩ ⟨_,hs,.inl rfl⟩
  ·exact (hs.2 b (bI3 (bG2 (bG6 e) I.ok.above))).trans (I.base.keep b o e n hb hx)
  ·obtain⟨sl,e1⟩:=I.base.slot b o e n hb hx
   exact⟨sl,(hs.2 b (bI3 (bG2 (bG6 e) I.ok.above))).trans e1⟩
  ·obtain⟨o',e1⟩:=I.base.there b o e hx
   exact⟨o',(hs.2 b (bI3 (bG2 (bG6 e) I.ok.above))).trans e1⟩
  ·by_cases hj:j=i
   ·subst hj
    rw[hi]at e1;cases e1;rw[bK7 hiσ]at e2;cases e2
    exact⟨u,r,.inl ⟨hk,by simp⟩⟩
   ·rw[bH2 (Ne.symm hj)]at e2
    obtain⟨u',r',q⟩:=hl j y v' e1 e2 e3
    refine⟨u',r',?_⟩;rcases q with⟨k,e⟩|⟨k,c,e,z⟩
    ·refine .inl ⟨k,?_⟩
     have:y≠x:=λe=>hj (x6 hN e1 (e▸hi))
     simp[this,e]
    ·exact .inr ⟨k,c,e,z.sameBut hs (cne y c e)⟩
  ·obtain⟨w',z⟩:=I.cell y c e
   exact⟨w',z.sameBut hs (cne y c e)⟩
  ·obtain⟨e,n,ne,nf,d⟩:=I.pin p hp
   exact⟨(hs.2 p.1 ne).trans e,n,ne,nf,d⟩
 ·have hfn:X.fn x=true:=by
   rcases hf with z|z
   ·exact z
   ·rw[z]at hk;cases hk
  obtain⟨c,hc⟩:=I.ok.has x (.inl hk)
  obtain⟨w',z⟩:=I.cell x c hc
  refine wpAny_storeName_cell I.ok.kind hk hc z (λh' hc' hs=>?_)
  obtain⟨oc,hoc,hocd⟩:=id z
  refine h { s with heap:=h' } ⟨I.ok,I.os,I.bare,⟨λb o e n hb hx=>?_,λb o e n hb hx=>?_,I.base.free,λb o e hx=>?_,I.base.tups,I.base.frzs,I.base.tbls⟩,⟨m,hn.sameBut hs (Ne.symm (cne x c hc)),λj y v' e1 e2 e3=>?_⟩,λy c' e=>?_,I.free,I.freeC,λp hp=>?_,tracked ⟨oc,hoc,I.freeC x c hc⟩ hs,by simpa using I.len⟩ ⟨c,hs,.inr hc⟩
  ·exact (hs.2 b (bI3 (bG2 (bG6 e) (I.ok.cab x c hfn hc)))).trans (I.base.keep b o e n hb hx)
  ·obtain⟨sl,e1⟩:=I.base.slot b o e n hb hx
   exact⟨sl,(hs.2 b (bI3 (bG2 (bG6 e) (I.ok.cab x c hfn hc)))).trans e1⟩
  ·obtain⟨o',e1⟩:=I.base.there b o e hx
   exact⟨o',(hs.2 b (bI3 (bG2 (bG6 e) (I.ok.cab x c hfn hc)))).trans e1⟩
  ·by_cases hj:j=i
   ·subst hj
    rw[hi]at e1;cases e1;rw[bK7 hiσ]at e2;cases e2
    exact⟨u,r,.inr ⟨.inl hk,c,hc,hc'⟩⟩
   ·rw[bH2 (Ne.symm hj)]at e2
    obtain⟨u',r',q⟩:=hl j y v' e1 e2 e3
    refine⟨u',r',?_⟩;rcases q with q|⟨k,c',e,z'⟩
    ·exact .inl q
    ·refine .inr ⟨k,c',e,z'.sameBut hs ?_⟩
     rintro rfl;exact hj (x6 hN e1 (I.ok.inj _ _ _ e hc▸hi))
  ·by_cases hcc:c'=c
   ·subst hcc;exact⟨_,hc'⟩
   ·obtain⟨w2,z2⟩:=I.cell y c' e
    exact⟨w2,z2.sameBut hs hcc⟩
  ·obtain⟨e,n,ne,nf,d⟩:=I.pin p hp
   refine⟨(hs.2 p.1 ?_).trans e,n,ne,nf,d⟩;intro q;rw[q,hoc]at e;have q':oc=p.2:=bG9 e;exact d w' (by rw[<- q'];exact hocd)
theorem x9 {M:Model}{A:az}{E:av->aw->Prop}{i:Nat}{x:Str}{v:V}{u:av}{Q:Unit->aw->Prop}(I:a7 X ah σ H s)(hN:X.N.Nodup)(hi:X.N[i]? = some x)(hx:jD X.env.scope x)(r:aZ v u)(h:∀s',a7 X ah (σ.set i (some v)) H s'->Q () s')(hf:X.fn x=true∨X.env.scope.names.lookup x=some .local:=by first|exact .inl rfl|exact .inr rfl|assumption):wpAny M A (storeName X.env x u) Q E s:=
 x8 I hN hi hx r (λs' I' _=>h s' I') hf
theorem a7.call' {s':aw}{ch:List ax}(I:a7 X ah σ H s)(ho:s'.os=s.os)(u:Un (cE X.stack) ch H H' s.heap s'.heap)(hok:cF X.prog X.w H' s'.heap)(hg:AllBare s'.gens)(hch:∀b∈ch,(b∈X.ex∨X.s₀.heap.objs.size<=b)/\b≠X.env.locals/\(∀x c,X.env.cells.lookup x=some c->c≠b)/\∀p∈X.pn++ah,p.1≠b):a7 X ah σ H' s':=by
 obtain⟨h',g',d',t',o'⟩:=s'
 have e:o'=s.os:=ho;subst e;exact I.call (g':=g') (t':=t') (d':=d') u hok hg hch
end
abbrev XK:=av->Option ax->Hp->Prop
abbrev St:=List (Option V)
abbrev VK:=V->Hp->Prop
abbrev TE:=St->Hp->VK->Prop
abbrev TT:=St->Hp->(Bool->Hp->Prop)->Prop
abbrev TA:=St->Hp->(List V->Hp->Prop)->Prop
structure bP where
 nx:St->Hp->Prop
 rt:VK
 bk:St->Hp->Prop:=λ_ _=>False
 ct:St->Hp->Prop:=λ_ _=>False
abbrev TS:=bP->St->Hp->Prop
def EP (X:Cx)(ah:List (ax×Obj))(σ:St)(Q:VK)(u:av)(s':aw):Prop:=∃v H',a7 X ah σ H' s'/\aZ v u/\Q v H'
def TP (X:Cx)(ah:List (ax×Obj))(σ:St)(Q:Bool->Hp->Prop)(b:Bool)(s':aw):Prop:=∃H',a7 X ah σ H' s'/\Q b H'
def AP (X:Cx)(ah:List (ax×Obj))(σ:St)(Q:List V->Hp->Prop)(us:List av)(s':aw):Prop:=∃vs H',a7 X ah σ H' s'/\aW vs us/\Q vs H'
def SP (X:Cx)(ah:List (ax×Obj))(D:bP)(f:Flow)(s':aw):Prop:=
 match f with
 |.next=>∃σ' H',a7 X ah σ' H' s'/\D.nx σ' H'
 |.brk=>∃σ' H',a7 X ah σ' H' s'/\D.bk σ' H'
 |.cont=>∃σ' H',a7 X ah σ' H' s'/\D.ct σ' H'
 |.ret u=>∃v σ' H',a7 X ah σ' H' s'/\aZ v u/\D.rt v H'
def PE (X:Cx)(e:Expr)(t:TE):Prop:=
 ∀(ah:List (ax×Obj)) (s:aw) (σ:St) (H:Hp) (Q:VK),a7 X ah σ H s->t σ H Q->wpAny (model X.prog X.w) X.A (eval e X.env) (EP X ah σ Q) X.xe s
def PT (X:Cx)(e:Expr)(t:TT):Prop:=
 ∀(ah:List (ax×Obj)) (s:aw) (σ:St) (H:Hp) (Q:Bool->Hp->Prop),a7 X ah σ H s->t σ H Q->wpAny (model X.prog X.w) X.A (isTrue e X.env (eval e X.env)) (TP X ah σ Q) X.xe s
def PW (X:Cx)(e:Expr)(t:TT):Prop:=
 ∀(whole:Sem av) (ah:List (ax×Obj)) (s:aw) (σ:St) (H:Hp) (Q:Bool->Hp->Prop),a7 X ah σ H s->t σ H Q->wpAny (model X.prog X.w) X.A (isTrue e X.env whole) (TP X ah σ Q) X.xe s
theorem PW.pt {X:Cx}{e:Expr}{t:TT}(h:PW X e t):PT X e t:=h _
def PA (X:Cx)(es:List Expr)(t:TA):Prop:=
 ∀(pos:Pos) (ah:List (ax×Obj)) (s:aw) (σ:St) (H:Hp) (Q:List V->Hp->Prop),a7 X ah σ H s->t σ H Q->wpAny (model X.prog X.w) X.A (spliced (backTo pos (starEach es X.env))) (AP X ah σ Q) X.xe s
def PS (X:Cx)(st:Stmt)(t:TS):Prop:=
 ∀(ah:List (ax×Obj)) (s:aw) (σ:St) (H:Hp) (D:bP),a7 X ah σ H s->t D σ H->wpAny (model X.prog X.w) X.A (exec st X.env) (SP X ah D) X.xe s
def dL (X:Cx)(st:List Stmt)(t:TS):Prop:=
 ∀(ah:List (ax×Obj)) (s:aw) (σ:St) (H:Hp) (D:bP),a7 X ah σ H s->t D σ H->wpAny (model X.prog X.w) X.A (execs st X.env) (SP X ah D) X.xe s
theorem aN {α:Type}{t:Sem α}{Q Q':α->aw->Prop}{M:Model}{A:az}{E:av->aw->Prop}{s:aw}(h:wpAny M A t Q E s)(hQ:∀a s,Q a s->Q' a s):wpAny M A t Q' E s:=bK8 h hQ λ_ _ x=>x
section
variable {X:Cx}
theorem bin {a b:Expr}{ta tb:TE}(ha:PE X a ta)(hb:PE X b tb){ah:List (ax×Obj)}{s:aw}{σ:St}{H:Hp}{R:V->V->Hp->Prop}(I:a7 X ah σ H s)(h:ta σ H λx H1=>tb σ H1 λy H2=>R x y H2){α:Type}{Q:α->aw->Prop}{f:av->av->Sem α}(hf:∀v u s2 x y H2,a7 X ah σ H2 s2->aZ x v->aZ y u->R x y H2->wpAny (model X.prog X.w) X.A (f v u) Q X.xe s2) :
  wpAny (model X.prog X.w) X.A (eval a X.env) (λv s₁=>wpAny (model X.prog X.w) X.A (eval b X.env) (λu s₂=>wpAny (model X.prog X.w) X.A (f v u) Q X.xe s₂) X.xe s₁) X.xe s:=by
 refine aN (ha ah s σ H _ I h) λv s1 ⟨x,H1,I1,r1,q1⟩=>?_
 refine aN (hb ah s1 σ H1 _ I1 q1) λu s2 ⟨y,H2,I2,r2,q2⟩=>?_
 exact hf v u s2 x y H2 I2 r1 r2 q2
def eR (i:Nat):TE:=λσ H Q=>∃v,σ[i]? = some (some v)/\Q v H
def tC (v:V):TE:=λ_ H Q=>Q v H
theorem dM {i:Nat}{x:Str}{pos:Pos}(hN:X.N[i]? = some x)(hv:cO X.env.scope x)(hd:(x==("__debug__":Str))=false:=by decide)(hcd:(x==("__classdict__":Str))=false:=by decide):PE X (.Name x pos) (eR i):=by
 intro ah s σ H Q I h
 obtain⟨v,e,h⟩:=h
 obtain⟨m,hn,hl⟩:=I.loc
 obtain⟨u,r,l⟩:=hl i x v hN e hv
 have fin:EP X ah σ Q u s:=⟨v,H,I,r,h⟩;rcases l with⟨hk,hm⟩|⟨hk,c,hc,hcell⟩
 ·exact wpAny_Name (wpAny_loadName_local I.ok.kind hk hn hm fin) hd
 ·rcases hk with hk|hk
  ·exact wpAny_Name (wpAny_loadName_cell I.ok.kind hk hc hcell fin) hd
  ·exact wpAny_Name (wpAny_loadName_free I.ok.kind hk hc hcell fin hcd) hd
theorem pW {i j pos}:PE X (.Constant (.int i) j pos) (tC (.int i)):=λ_ _ _ H _ I h=>wpAny_Constant_int ⟨.int i,H,I.tok _,⟨_,rfl⟩,h⟩
theorem aA6 {b j pos}:PE X (.Constant (.bool b) j pos) (tC (.bl b)):=λ_ _ _ H _ I h=>Constant_bool ⟨.bl b,H,I,rfl,h⟩
theorem aA7 {j pos}:PE X (.Constant .none j pos) (tC .non):=λ_ _ _ H _ I h=>Constant_none ⟨.non,H,I,rfl,h⟩
theorem aA8 {x j pos}:PE X (.Constant (.str x) j pos) (tC (.str x)):=λ_ _ _ H _ I h=>Calls.Constant_str ⟨.str x,H,I.tok _,⟨_,rfl⟩,h⟩
def Gl (X:Cx)(x:Str):Prop:=X.env.kindOf x=some .globalImplicit
theorem oA {E:av->aw->Prop}{ah:List (ax×Obj)}{s:aw}{σ:St}{H:Hp}{x:Str}{u:av}{pos:Pos}{Q:av->aw->Prop}(I:a7 X ah σ H s)(hg:Gl X x)(hm:X.mg x=some u)(h:Q u s)(hd:(x==("__debug__":Str))=false:=by decide):wpAny (model X.prog X.w) X.A (eval (.Name x pos) X.env) Q E s:=
 Calls.Name_function_global I.ok.kind hg (Calls.loadGlobal_global (by rw[I.ok.glob];exact I.mod.glob.keeps I.bk) hm h) hd
theorem kQ {E:av->aw->Prop}{ah:List (ax×Obj)}{s:aw}{σ:St}{H:Hp}{x:Str}{u:av}{pos:Pos}{Q:av->aw->Prop}(I:a7 X ah σ H s)(hg:Gl X x)(hm:X.mg x=none)(hv:bootBuiltins x=some u)(h:Q u s)(hn:x≠"__name__":=by decide)(hd:(x==("__debug__":Str))=false:=by decide):wpAny (model X.prog X.w) X.A (eval (.Name x pos) X.env) Q E s:=by
 obtain⟨mb,h1,h2⟩:=I.mod.blt
 exact Calls.Name_function_global I.ok.kind hg (Calls.loadGlobal_builtin (by rw[I.ok.glob];exact I.mod.glob.keeps I.bk) hm (by rw[I.ok.blt];exact h1.keeps I.bk) ((h2 x hn).trans hv) h) hd
theorem t9 {x:Str}{v:V}{u:av}{pos:Pos}(hg:Gl X x)(hm:X.mg x=some u)(r:aZ v u)(hd:(x==("__debug__":Str))=false:=by decide):PE X (.Name x pos) (tC v):=
 λ_ _ _ H _ I h=>oA I hg hm ⟨v,H,I,r,h⟩ hd
theorem O4 {x:Str}{v:V}{u:av}{pos:Pos}(hg:Gl X x)(hm:X.mg x=none)(hv:bootBuiltins x=some u)(r:aZ v u)(hn:x≠"__name__":=by decide)(hd:(x==("__debug__":Str))=false:=by decide):PE X (.Name x pos) (tC v):=
 λ_ _ _ H _ I h=>kQ I hg hm hv ⟨v,H,I,r,h⟩ hn hd
variable {a b:Expr}{ta tb:TE}{pos:Pos}
def PC (X:Cx)(op:CmpOp)(a b:Expr)(t:TE):Prop:=
 ∀(ah:List (ax×Obj)) (s:aw) (σ:St) (H:Hp) (Q:VK),a7 X ah σ H s->t σ H Q->
  wpAny (model X.prog X.w) X.A (eval a X.env) (λv s₁=>wpAny (model X.prog X.w) X.A (eval b X.env) (λu s₂=>wpAny (model X.prog X.w) X.A (compareOp op v u) (EP X ah σ Q) X.xe s₂) X.xe s₁) X.xe s
def tB (t:TE):TT:=λσ H Q=>t σ H λx H1=>∃c,x = .bl c/\Q c H1
theorem aA9 {op:CmpOp}{t:TE}(h:PC X op a b t)(h1:behindInMarks op b=false:=by first|exact nobehind _ (by decide) (by decide)|rfl):PE X (.Compare a [op] [b] pos) t:=λah s σ H Q I hw=>wpAny_Compare1 (h ah s σ H Q I hw) h1
theorem O5 {op:CmpOp}{t:TE}(h:PC X op a b t)(h1:behindInMarks op b=false:=by first|exact nobehind _ (by decide) (by decide)|rfl):PT X (.Compare a [op] [b] pos) (tB t):=by
 intro ah s σ H Q I hw;refine wpAny_isTrue_Compare1 (aN (h ah s σ H _ I hw) λv s1 h1=>aN h1 λu s2 h2=>aN h2 λc s3 ⟨x,H1,I1,r1,q1⟩=>?_) h1
 obtain⟨d,rfl,q⟩:=q1
 cases r1;exact bS2 ⟨H1,I1,q⟩
theorem aB0 {e:Expr}{t:TE}(h:PE X e t)(he:∀whole,isTrue e X.env whole=(do let v <- whole;standAt e.pos;holding [v] (truthy v)):=by intro _;rfl):PT X e (tB t):=by
 intro ah s σ H Q I hw;refine isTrue_plain (aN (h ah s σ H _ I hw) λv s1 ⟨x,H1,I1,r1,q1⟩=>?_) (he _)
 obtain⟨d,rfl,q⟩:=q1
 cases r1;exact bS2 ⟨H1,I1,q⟩
variable {tA tB':TT}{cX:List Expr}
def O6 (t u:TT):TT:=λσ H Q=>t σ H λc H1=>if c=true then u σ H1 Q else Q false H1
def O7 (t u:TT):TT:=λσ H Q=>t σ H λc H1=>if c=true then Q true H1 else u σ H1 Q
def O8 (t:TT):TT:=λσ H Q=>t σ H λc H1=>Q (!c) H1
theorem aB1 (ha:PT X a tA):PW X (.BoolOp .And [a] pos) tA:=by
 intro wh ah s σ H Q I h;refine isTrue_and (aN (ha ah s σ H Q I h) λc s1 e=>?_);cases c with
 |true=>exact isTrue_and_nil e
 |false=>exact e
theorem aB2 (ha:PT X a tA):PW X (.BoolOp .Or [a] pos) tA:=by
 intro wh ah s σ H Q I h;refine isTrue_or (aN (ha ah s σ H Q I h) λc s1 e=>?_);cases c with
 |false=>exact isTrue_or_nil e
 |true=>exact e
theorem aB3 (ha:PT X a tA)(hb:PW X (.BoolOp .And (b::cX) pos) tB'):PW X (.BoolOp .And (a::b::cX) pos) (O6 tA tB'):=by
 intro wh ah s σ H Q I h;refine isTrue_and (aN (ha ah s σ H _ I h) λc s1 ⟨H1,I1,q1⟩=>?_);cases c with
 |true=>exact hb wh ah s1 σ H1 Q I1 q1
 |false=>exact⟨H1,I1,q1⟩
theorem aB4 (ha:PT X a tA)(hb:PW X (.BoolOp .Or (b::cX) pos) tB'):PW X (.BoolOp .Or (a::b::cX) pos) (O7 tA tB'):=by
 intro wh ah s σ H Q I h;refine isTrue_or (aN (ha ah s σ H _ I h) λc s1 ⟨H1,I1,q1⟩=>?_);cases c with
 |true=>exact⟨H1,I1,q1⟩
 |false=>exact hb wh ah s1 σ H1 Q I1 q1
theorem aB5 (ha:PT X a tA):PT X (.UnaryOp .Not a pos) (O8 tA):=by
 intro ah s σ H Q I h;exact isTrue_not (ha ah s σ H (λc H1=>Q (!c) H1) I h)
def O9 (ta tb:TE):TE:=λσ H Q=>ta σ H λx H1=>∃c,x = .bl c/\if c=true then tb σ H1 Q else Q (.bl false) H1
def P0 (ta:TE):TE:=λσ H Q=>ta σ H λx H1=>∃c,x = .bl c/\Q (.bl (!c)) H1
theorem aB6 {op}{t:TE}(h:PE X a t):PE X (.BoolOp op [a] pos) t:=λah s σ H Q I hw=>BoolOp_one (h ah s σ H Q I hw)
theorem aB7 (ha:PE X a ta)(hb:PE X (.BoolOp .And (b::cX) pos) tb):PE X (.BoolOp .And (a::b::cX) pos) (O9 ta tb):=by
 intro ah s σ H Q I h;refine BoolOp_and (aN (ha ah s σ H _ I h) λv s1 ⟨x,H1,I1,r1,q1⟩=>?_)
 obtain⟨c,rfl,q1⟩:=q1
 cases r1;refine bS2 ?_;cases c with
 |true=>exact hb ah s1 σ H1 Q I1 q1
 |false=>exact⟨.bl false,H1,I1,rfl,q1⟩
theorem aB8 (ha:PE X a ta):PE X (.UnaryOp .Not a pos) (P0 ta):=by
 intro ah s σ H Q I h;refine UnaryOp_ (aN (ha ah s σ H _ I h) λv s1 ⟨x,H1,I1,r1,q1⟩=>?_)
 obtain⟨c,rfl,q1⟩:=q1
 cases r1;exact not_of (bS2 ⟨.bl (!c),H1,I1,rfl,q1⟩)
end
def aU (K:ae)(H:Hp)(a:ax)(xs:List V):Prop:=
 Rd H a (.lst xs) ∨
  ∃(o:Obj) (its:Array av) (n:Nat),K.lookup a=some o/\o.cls = .type "list"/\o.dict=none/\o.data = .seq its n/\its.size<=sizeLine/\aW xs its.toList
def aP (K:ae)(H:Hp)(a:ax)(xs:List V):Prop:=
 Rd H a (.tup xs) ∨
  ∃(o:Obj) (its:Array av) (n:Nat),K.lookup a=some o/\o.cls = .type "tuple"/\o.data = .seq its n/\its.size<=sizeLine/\aW xs its.toList
def aB9:av->Option V
 |.none=>some .non
 |.bool b=>some (.bl b)
 |.int i _=>some (.int i)
 |.str x _=>some (.str x)
 |.bytes b _=>some (.byt b)
 |.float b _=>some (.flt b)
 |.ref a=>some (.ref a)
 |.type n=>some (.ty n)
 |_=>none
theorem aZ.abs {x:V}{u:av}(r:aZ x u):aB9 u=some x:=by
 cases x with
 |non=>cases r;rfl
 |bl _=>cases r;rfl
 |int _=>obtain⟨t,rfl⟩:=r;rfl
 |str _=>obtain⟨t,rfl⟩:=r;rfl
 |byt _=>obtain⟨t,rfl⟩:=r;rfl
 |flt _=>obtain⟨t,rfl⟩:=r;rfl
 |ref _=>cases r;rfl
 |ty _=>cases r;rfl
theorem aZ.inj {x y:V}{u:av}(r:aZ x u)(q:aZ y u):x=y:=bG9 (r.abs.symm.trans q.abs)
theorem aW.inj:∀{xs ys:List V}{us:List av},aW xs us->aW ys us->xs=ys
 |_,_,_,.nil,.nil=>rfl
 |_,_,_,.cons r t,.cons r' t'=>by rw[r.inj r',aW.inj t t']
section
variable {X:Cx}{ah:List (ax×Obj)}{σ:St}{H:Hp}{s:aw}{a:ax}{xs ys:List V}
theorem aU.of {K:ae}(h:H a=some (.lst xs)):aU K H a xs:=.inl (.inl h)
theorem aP.of {K:ae}(h:H a=some (.tup xs)):aP K H a xs:=.inl (.inl h)
theorem a7.list (I:a7 X ah σ H s)(h:aU X.K H a xs):∃its:List av,aW xs its/\PlainL s.heap a its.toArray/\xs.length<=sizeLine:=by
 rcases h with h|⟨o,its,n,hk,hc,hd,hs,hz,r⟩
 ·obtain⟨z,its,n,r,e⟩:=h.ok I.hok
  exact⟨its,r,⟨_,n,e,rfl,rfl,rfl⟩,z⟩
 ·refine⟨its.toList,r,⟨o,n,I.kIn a o hk,hc,hd,by simpa using hs⟩,?_⟩
  have e:=r.length;simp only[Array.length_toList]at e;omega
theorem a7.tuple (I:a7 X ah σ H s)(h:aP X.K H a xs):∃its:List av,aW xs its/\IsTup s.heap a its.toArray/\xs.length<=sizeLine:=by
 rcases h with h|⟨o,its,n,hk,hc,hs,hz,r⟩
 ·obtain⟨z,its,r,p,_⟩:=h.ok I.hok
  exact⟨its,r,p,z⟩
 ·refine⟨its.toList,r,⟨o,I.kIn a o hk,hc,n,by simpa using hs⟩,?_⟩
  have e:=r.length;simp only[Array.length_toList]at e;omega
theorem a7.list_inj (I:a7 X ah σ H s)(h:aU X.K H a xs)(h':aU X.K H a ys):xs=ys:=by
 obtain⟨its,r,⟨o,n,e,_,_,d⟩,_⟩:=I.list h
 obtain⟨its',r',⟨o',n',e',_,_,d'⟩,_⟩:=I.list h'
 rw[e]at e';cases e';rw[d]at d';injection d' with d1 _
 have:its=its':=by simpa using congrArg Array.toList d1
 subst this;exact r.inj r'
theorem a7.tuple_inj (I:a7 X ah σ H s)(h:aP X.K H a xs)(h':aP X.K H a ys):xs=ys:=by
 obtain⟨its,r,⟨o,e,_,n,d⟩,_⟩:=I.tuple h
 obtain⟨its',r',⟨o',e',_,n',d'⟩,_⟩:=I.tuple h'
 rw[e]at e';cases e';rw[d]at d';injection d' with d1 _
 have:its=its':=by simpa using congrArg Array.toList d1
 subst this;exact r.inj r'
end
abbrev Cx.wish (X:Cx)(E:av->aw->Prop):Cx:={ X with xe:=E }
abbrev Cx.nox (X:Cx):Cx:=X.wish λ_ _=>False
theorem Cx.Ok.wish {X:Cx}(ok:X.Ok)(E:av->aw->Prop):(X.wish E).Ok:=
 ⟨ok.mod,ok.kind,ok.glob,ok.blt,ok.above,ok.inj,ok.has,ok.cab,ok.hd,ok.frames,ok.stk,ok.exf,ok.bs,ok.bsz,ok.noex,ok.exfs,ok.funs,ok.frf⟩
theorem Cx.Ok.unwish {X:Cx}{E:av->aw->Prop}(ok:(X.wish E).Ok):X.Ok:=
 ⟨ok.mod,ok.kind,ok.glob,ok.blt,ok.above,ok.inj,ok.has,ok.cab,ok.hd,ok.frames,ok.stk,ok.exf,ok.bs,ok.bsz,ok.noex,ok.exfs,ok.funs,ok.frf⟩
section
variable {X:Cx}{ah:List (ax×Obj)}{σ:St}{H:Hp}{s:aw}{E:av→aw→Prop}
theorem a7.wish (I:a7 X ah σ H s)(E:av->aw->Prop):a7 (X.wish E) ah σ H s:=⟨I.ok.wish E,I.os,I.bare,I.base,I.loc,I.cell,I.free,I.freeC,I.pin,I.hok,I.len⟩
theorem a7.unwish (I:a7 (X.wish E) ah σ H s):a7 X ah σ H s:=⟨I.ok.unwish,I.os,I.bare,I.base,I.loc,I.cell,I.free,I.freeC,I.pin,I.hok,I.len⟩
theorem SP.unwish {D:bP}{f:Flow}{s':aw}(h:SP (X.wish E) ah D f s'):SP X ah D f s':=by
 cases f with
 |next=>obtain⟨σ',H',I,q⟩:=h;exact⟨σ',H',I.unwish,q⟩
 |brk=>obtain⟨σ',H',I,q⟩:=h;exact⟨σ',H',I.unwish,q⟩
 |cont=>obtain⟨σ',H',I,q⟩:=h;exact⟨σ',H',I.unwish,q⟩
 |ret u=>obtain⟨v,σ',H',I,r,q⟩:=h;exact⟨v,σ',H',I.unwish,r,q⟩
theorem dL.nox {st:List Stmt}{t:TS}(h:dL X.nox st t):dL X st t:=λah s σ H D I hw=>
 bK8 (h ah s σ H D (I.wish _) hw) (λ_ _ q=>q.unwish) λ_ _ z=>False.elim z
end
section
variable {X:Cx}{st:Stmt}{cX:List Stmt}{t u:TS}{e:Expr}{te:TE}{pos:Pos}
def P3:TS:=λD σ H=>D.nx σ H
def P4 (t u:TS):TS:=λD σ H=>t { D with nx:=u D } σ H
theorem aC0:dL X [] P3:=λ_ _ σ H _ I h=>bS4 ⟨σ,H,I,h⟩
theorem nE (h1:PS X st t)(h2:dL X cX u):dL X (st::cX) (P4 t u):=by
 intro ah s σ H D I h;refine wpAny_execs_cons (aN (h1 ah s σ H { D with nx:=u D } I h) λf s1 q=>?_);cases f with
 |next=>
  obtain⟨σ',H',I',q⟩:=q
  exact h2 ah s1 σ' H' D I' q
 |ret v=>exact q
 |brk=>exact q
 |cont=>exact q
theorem nF (h1:PS X st t):dL X [st] t:=by
 intro ah s σ H D I h;refine wpAny_execs_cons (aN (h1 ah s σ H D I h) λf s1 q=>?_);cases f with
 |next=>exact bS4 q
 |ret v=>exact q
 |brk=>exact q
 |cont=>exact q
theorem a7.quiet {ah:List (ax×Obj)}{σ:St}{H:Hp}{s:aw}(I:a7 X ah σ H s):interactive X.env=false:=by simp[interactive,I.ok.kind]
def lY (te:TE):TS:=λD σ H=>te σ H λ_ H1=>D.nx σ H1
theorem lZ (he:PE X e te)(hs:swapsWith e none pos.line X.env=pure false:=by rfl):PS X (.Expr e pos) (lY te):=by
 intro ah s σ H D I h;exact wpAny_Expr_any (aN (he ah s σ H _ I h) λv s1 ⟨x,H1,I1,r1,q1⟩=>⟨σ,H1,I1,q1⟩) I.quiet hs
def xA (te:TE):TS:=λD σ H=>te σ H D.rt
theorem oB (he:PE X e te):PS X (.Return (some e) pos) (xA te):=by
 intro ah s σ H D I h;exact wpAny_Return_some (aN (he ah s σ H _ I h) λv s1 ⟨x,H1,I1,r1,q1⟩=>⟨x,σ,H1,I1,r1,q1⟩)
def P5 (c:TT)(t u:TS):TS:=λD σ H=>c σ H λb H1=>if b=true then t D σ H1 else u D σ H1
theorem aC1 {c:Expr}{a b:List Stmt}{tc:TT}(hc:PT X c tc)(ha:dL X a t)(hb:dL X b u):PS X (.If c a b pos) (P5 tc t u):=by
 intro ah s σ H D I h;refine wpAny_If (aN (hc ah s σ H _ I h) λd s1 ⟨H1,I1,q1⟩=>?_);cases d with
 |true=>exact ha ah s1 σ H1 D I1 q1
 |false=>exact hb ah s1 σ H1 D I1 q1
def aC2:TS:=λ_ _ _=>False
theorem aC3:PS X st aC2:=λ_ _ _ _ _ _ h=>h.elim
end
abbrev TG:=V->St->Hp->(St->Hp->Prop)->Prop
abbrev nG:=List V->St->Hp->(St->Hp->Prop)->Prop
def PG (X:Cx)(target:Expr)(t:TG):Prop:=
 ∀(ah:List (ax×Obj)) (s:aw) (σ:St) (H:Hp) (v:V) (u:av) (Q:St->Hp->Prop),a7 X ah σ H s->aZ v u->t v σ H Q->
  wpAny (model X.prog X.w) X.A (assign target X.env u) (λ_ s'=>∃σ' H',a7 X ah σ' H' s'/\Q σ' H') X.xe s
def tD (X:Cx)(ts:List Expr)(t:nG):Prop:=
 ∀(ah:List (ax×Obj)) (s:aw) (σ:St) (H:Hp) (vs:List V) (us:List av) (Q:St->Hp->Prop),a7 X ah σ H s->aW vs us->t vs σ H Q->
  wpAny (model X.prog X.w) X.A (assignInOrder ((assignEach ts X.env).map (·.2)) us) (λ_ s'=>∃σ' H',a7 X ah σ' H' s'/\Q σ' H') X.xe s
section
variable {X:Cx}{pos:Pos}
def dN (i:Nat):TG:=λv σ H Q=>Q (σ.set i (some v)) H
theorem iA {i:Nat}{x:Str}(hN:X.N.Nodup)(hi:X.N[i]? = some x)(hx:jD X.env.scope x)(hf:X.fn x=true∨X.env.scope.names.lookup x=some .local:=by first|exact .inl rfl|exact .inr rfl|assumption):PG X (.Name x pos) (dN i):=by
 intro ah s σ H v u Q I r h;exact wpAny_assign_Name (x9 I hN hi hx r (λs' I'=>⟨_,H,I',h⟩) hf)
def nH:nG:=λvs σ H Q=>vs = []/\Q σ H
def iB (t:TG)(u:nG):nG:=λvs σ H Q=>∃v r,vs=v::r/\t v σ H λσ' H'=>u r σ' H' Q
theorem pX:tD X [] nH:=by
 intro ah s σ H vs us Q I r h
 obtain⟨e,h⟩:=h
 subst e;cases r;exact assignInOrder_nil ⟨σ,H,I,h⟩
theorem jY {e:Expr}{es:List Expr}{t:TG}{u:nG}(h1:PG X e t)(h2:tD X es u)(hs:(assignEach (e::es) X.env).map (·.2)=assign e X.env::(assignEach es X.env).map (·.2):=by rfl):tD X (e::es) (iB t u):=by
 intro ah s σ H vs us Q I r h
 obtain⟨v,vr,e1,h⟩:=h
 subst e1;cases r with
 |cons r rr=>
  rw[hs];refine assignInOrder_cons (aN (h1 ah s σ H _ _ _ I r h) λ_ s1 ⟨σ1,H1,I1,q1⟩=>?_);exact h2 ah s1 σ1 H1 _ _ Q I1 rr q1
def nI (K:ae)(n:Nat)(t:nG):TG:=λv σ H Q=>∃a xs,v = .ref a/\aP K H a xs/\xs.length=n/\t xs σ H Q
theorem pY {es:List Expr}{k:Nat}{t:nG}{n:Nat}(hc:X.calm=true)(h:tD X es t)(hn:(assignEach es X.env).length=n:=by rfl)(hst:(assignEach es X.env).findIdx? (·.1)=none:=by rfl):PG X (.Tuple es k pos) (nI X.K n t):=by
 intro ah s σ H v u Q I r hw
 obtain⟨a,xs,e1,hq,hl,hw⟩:=hw
 subst e1;cases r
 obtain⟨its,rv,ht,hz⟩:=I.tuple hq
 refine assign_Tuple_tuple (I.ok.hd hc) ht (by simp[hn,<- hl,rv.length]) hst λh' hx=>?_
 have I1:a7 X ah σ H { s with heap:=h' }:=I.kept (t':=s.toks) λb o e=>hx b o (bI3 (bG6 e)) e
 exact h ah _ σ H xs _ Q I1 (by simpa using rv) hw
def pZ (te:TE)(g:TG):TS:=λD σ H=>te σ H λx H1=>g x σ H1 D.nx
theorem tE {i:Nat}{x:Str}{e:Expr}{te:TE}{pos':Pos}(hN:X.N.Nodup)(hi:X.N[i]? = some x)(hx:jD X.env.scope x)(he:PE X e te)(hs:swapsWith e (some (.Name x pos')) pos.line X.env=pure false:=by rfl)(hf:X.fn x=true∨X.env.scope.names.lookup x=some .local:=by first|exact .inl rfl|exact .inr rfl|assumption) :
  PS X (.Assign [.Name x pos'] e pos) (pZ te (dN i)):=by
 intro ah s σ H D I h;refine wpAny_Assign_Name (aN (he ah s σ H _ I h) λv s1 ⟨y,H1,I1,r1,q1⟩=>?_) hs;exact x9 I1 hN hi hx r1 (λs2 I2=>⟨_,H1,I2,q1⟩) hf
end
section
variable {X:Cx}{pos:Pos}
def P6 (c:TT)(tb:TS):TS:=λD σ H=>∃W:Nat->St->Hp->Prop,(∃m,W m σ H)/\∀m σ H,W m σ H->
 c σ H λb H1=>if b=true then ∃N:St->Hp->Prop,(∀σ' H',N σ' H'->∃m',m'<m/\W m' σ' H')/\tb { D with nx:=N,ct:=N,bk:=D.nx } σ H1 else D.nx σ H1
theorem aC4 {c:Expr}{body:List Stmt}{tc:TT}{tb:TS}(hp:PassesOwn (model X.prog X.w) X.A X.env X.xe)(hc:PT X c tc)(hb:dL X body tb):PS X (.While c body [] pos) (P6 tc tb):=by
 intro ah s σ H D I h
 obtain⟨W,⟨m0,w0⟩,turn⟩:=h
 refine wpAny_While (codeAny_whileLoop (λn s'=>∃σ' H',a7 X ah σ' H' s'/\W n σ' H') ?_ m0 ⟨σ,H,I,w0⟩);rintro n s1 ⟨σ1,H1,I1,w1⟩;refine bT8 hp (aN (hc ah s1 σ1 H1 _ I1 (turn n σ1 H1 w1)) λb s2 ⟨H2,I2,q2⟩=>?_);cases b with
 |true=>
  obtain⟨N,hN,q2⟩:=q2
  rw[if_pos rfl];refine bT8 hp (aN (hb ah s2 σ1 H2 _ I2 q2) λf s3 q3=>?_);cases f with
  |next=>
   obtain⟨σ3,H3,I3,n3⟩:=q3
   obtain⟨m',hm,w3⟩:=hN σ3 H3 n3
   exact⟨m',hm,σ3,H3,I3,w3⟩
  |cont=>
   obtain⟨σ3,H3,I3,n3⟩:=q3
   obtain⟨m',hm,w3⟩:=hN σ3 H3 n3
   exact⟨m',hm,σ3,H3,I3,w3⟩
  |brk=>exact q3
  |ret v=>exact q3
 |false=>
  rw[if_neg bH5];exact bS4 ⟨σ1,H2,I2,q2⟩
end
structure It where
 go:Nat->Hp->Prop
 yld:Nat->Hp->V->Hp->Prop
 stop:Nat->Hp->Prop
def iX (X:Cx)(ah:List (ax×Obj))(H:Hp)(b:ax):Prop:=
 H b=none/\b≠X.env.locals/\b∉X.fs/\(b∈X.ex∨X.s₀.heap.objs.size<=b)/\(∀x c,X.env.cells.lookup x=some c->c≠b)/\∀p∈X.pn++ah,p.1≠b
theorem a7.fpOk {X:Cx}{ah:List (ax×Obj)}{σ:St}{H H':Hp}{s:aw}{b:ax}(I:a7 X ah σ H s)(hb:s.heap.objs.size<=b)(hn:H' b=none):iX X ah H' b:=by
 refine⟨hn,bN5 (bG2 I.lt hb),I.nofs hb,.inr (bH6 I.sz hb),λx c e z=>?_,λp hp z=>?_⟩
 ·obtain⟨v,q⟩:=I.cell x c e
  exact absurd (bG2 q.lt (by rw[z];exact hb)) (bJ5 _)
 ·exact absurd (bG2 (bG6 (I.pin p hp).1) (by rw[z];exact hb)) (bJ5 _)
structure kR (P:ay)(w:ba)(K:ae)(tg:Expr)(J:It)(fp:List ax)(it:ax)(tn:Nat->Heap->Prop):Prop where
 mem:it∈fp
 obj:∀i h,tn i h->∀b∈fp,∃o,h.get? b=some o/\∀v,o.data≠.cell v
 keep:∀i h h',tn i h->(∀b∈fp,∀o,h.get? b=some o->h'.get? b=some o)->tn i h'
 item:∀(X:Cx),X.prog=P->X.w=w->X.K=K->X.calm=true->∀(i:Nat) (ah:List (ax×Obj)) (s:aw) (σ:St) (H:Hp) (E:av->aw->Prop),a7 X ah σ H s->(∀b∈fp,iX X ah H b)->tn i s.heap->J.go i H->
  wpAny (model P w) X.A (pyNext (.ref it)) (λr s1=>∃u,r=some u/\
   wpAny (model P w) X.A (letOwnedTupleGo tg (.ref it) u) (λ_ s2=>∃x H',a7 X ah σ H' s2/\aZ x u/\J.yld i H x H'/\tn (i+1) s2.heap/\∀b∈fp,H' b=none) E s1) E s
 done:∀(X:Cx),X.prog=P->X.w=w->X.K=K->X.calm=true->∀(i:Nat) (ah:List (ax×Obj)) (s:aw) (σ:St) (H:Hp) (E:av->aw->Prop),a7 X ah σ H s->(∀b∈fp,iX X ah H b)->tn i s.heap->J.stop i H->
  wpAny (model P w) X.A (pyNext (.ref it)) (λr s1=>r=none/\a7 X ah σ H s1) E s
 self:∀(A:az) (i:Nat) (s:aw) (Q:av->aw->Prop) (E:av->aw->Prop),tn i s.heap->Q (.ref it) s->wpAny (model P w) A (pyIter (.ref it)) Q E s
abbrev TI:=St->Hp->(It->Hp->Prop)->Prop
def P7 (X:Cx)(ah:List (ax×Obj))(σ:St)(tg:Expr)(R:It->Hp->Prop)(itv:av)(s2:aw):Prop:=
 ∃(it:ax) (fp:List ax) (tn:Nat->Heap->Prop) (J:It) (H':Hp),itv = .ref it/\a7 X ah σ H' s2/\kR X.prog X.w X.K tg J fp it tn/\tn 0 s2.heap/\(∀b∈fp,iX X ah H' b)/\R J H'
def PI (X:Cx)(tg iter:Expr)(wi:TI):Prop:=
 ∀(ah:List (ax×Obj)) (s:aw) (σ:St) (H:Hp) (R:It->Hp->Prop),a7 X ah σ H s->wi σ H R->
  wpAny (model X.prog X.w) X.A (eval iter X.env) (λv s1=>wpAny (model X.prog X.w) X.A (pyIter v) (P7 X ah σ tg R) X.xe s1) X.xe s
theorem xB {M:Model}{A:az}{E:av->aw->Prop}{s:aw}{tg:Expr}{it:ax}{u:av}{o:Obj}{n:String}{vs:Array av}{Q:Unit->aw->Prop}(ho:s.heap.get? it=some o)(hc:o.cls = .type n)(hd:o.data = .fields vs)(hn:["enumerate","zip","dict_itemiterator","dict_reverseitemiterator","odict_iterator","itertools.zip_longest","itertools.pairwise"].contains n=false)(hQ:Q () s):wpAny M A (letOwnedTupleGo tg (.ref it) u) Q E s:=by
  unfold letOwnedTupleGo;cases tg<;>first
    |exact bF5 hQ
    |(cases u<;>first
        |exact bF5 hQ
        | (refine bE9 (wpAny_load ho ?_)
           rw[hc,hd];show wpAny M A (if (["enumerate","zip","dict_itemiterator","dict_reverseitemiterator","odict_iterator","itertools.zip_longest","itertools.pairwise"].contains n&&vs[0]?==some (rawInt _))=true then _ else _) Q E s;rw[if_neg (by intro h;rw[hn,Bool.false_and]at h;cases h)]
           exact bF5 hQ))
def oC (K:ae)(a:ax):It:=
 ⟨λi H=>∃xs x,aU K H a xs/\xs[i]? = some x,λi H x H'=>H'=H/\∀xs,aU K H a xs->xs[i]? = some x,λi H=>∃xs,aU K H a xs/\xs.length<=i⟩
def m3 (K:ae)(a:ax):It:=
 ⟨λi H=>∃xs x,aP K H a xs/\xs[i]? = some x,λi H x H'=>H'=H/\∀xs,aP K H a xs->xs[i]? = some x,λi H=>∃xs,aP K H a xs/\xs.length<=i⟩
def qA (lo:Int)(n:Nat):It:=⟨λi _=>i<n,λi H x H'=>H'=H/\x = .int (lo+i),λi _=>n<=i⟩
theorem aC5 {P:ay}{w:ba}{K:ae}{tg:Expr}(a it:ax):kR P w K tg (oC K a) [it] it (λi h=>h.IsListIter it a i) where
 mem:=by simp
 obj:=λi h st b hb=>by
  have e:b=it:=by simpa using hb
  subst e
  obtain⟨o,e,c,d⟩:=st
  exact⟨o,e,λv z=>by rw[d]at z;cases z⟩
 keep:=λi h h' st k=>st.at λo e=>k it (by simp) o e
 item:=by
  intro X hP hw hK hc i ah s σ H E I hf st hg;subst hP hw hK
  obtain⟨xs,x,hq,hx⟩:=hg
  obtain⟨its,rv,p,hz⟩:=I.list hq
  obtain⟨u,hu,ru⟩:=rv.get hx
  obtain⟨f0,f1,f2,f3,f4,f5⟩:=hf it (by simp)
  refine wpAny_pyNext_list_item st p.isList (x:=u) (by simpa using hu) λh' st' sb=>?_
  have I1:a7 X ah σ H { s with heap:=h' }:=I.turned (t':=s.toks) (λb o hb e=>(sb.2 b hb).trans e) f0 f1 f3 f4 f5
  obtain⟨o,e,c,d⟩:=id st'
  exact⟨u,rfl,xB (s:={ s with heap:=h' }) e c d (by decide) ⟨x,H,I1,ru,⟨rfl,λys hy=>by rw[I.list_inj hy hq];exact hx⟩,st',λb hb=>(hf b hb).1⟩⟩
 done:=by
  intro X hP hw hK hc i ah s σ H E I hf st hg;subst hP hw hK
  obtain⟨xs,hq,hx⟩:=hg
  obtain⟨its,rv,p,hz⟩:=I.list hq
  obtain⟨f0,f1,f2,f3,f4,f5⟩:=hf it (by simp)
  have hl:=rv.length;exact wpAny_pyNext_list_end (I.ok.hd hc) st p.isList (by simp;omega) λh' eb=>⟨rfl,I.turned (t':=s.toks) (λb o hb e=>eb b o hb e) f0 f1 f3 f4 f5⟩
 self:=λ_ _ _ _ _ st h=>wpAny_pyIter_listiter st h
theorem P8 {P:ay}{w:ba}{K:ae}{tg:Expr}(a it:ax):kR P w K tg (m3 K a) [it] it (λi h=>h.IsTupleIter it a i) where
 mem:=by simp
 obj:=λi h st b hb=>by
  have e:b=it:=by simpa using hb
  subst e
  obtain⟨o,e,c,d⟩:=st
  exact⟨o,e,λv z=>by rw[d]at z;cases z⟩
 keep:=λi h h' st k=>st.at λo e=>k it (by simp) o e
 item:=by
  intro X hP hw hK hc i ah s σ H E I hf st hg;subst hP hw hK
  obtain⟨xs,x,hq,hx⟩:=hg
  obtain⟨its,rv,p,hz⟩:=I.tuple hq
  obtain⟨u,hu,ru⟩:=rv.get hx
  obtain⟨f0,f1,f2,f3,f4,f5⟩:=hf it (by simp)
  refine wpAny_pyNext_tuple_item st (show s.heap.IsTuple a its.toArray from p) (x:=u) (by simpa using hu) λh' st' sb=>?_
  have I1:a7 X ah σ H { s with heap:=h' }:=I.turned (t':=s.toks) (λb o hb e=>(sb.2 b hb).trans e) f0 f1 f3 f4 f5
  obtain⟨o,e,c,d⟩:=id st'
  exact⟨u,rfl,xB (s:={ s with heap:=h' }) e c d (by decide) ⟨x,H,I1,ru,⟨rfl,λys hy=>by rw[I.tuple_inj hy hq];exact hx⟩,st',λb hb=>(hf b hb).1⟩⟩
 done:=by
  intro X hP hw hK hc i ah s σ H E I hf st hg;subst hP hw hK
  obtain⟨xs,hq,hx⟩:=hg
  obtain⟨its,rv,p,hz⟩:=I.tuple hq
  obtain⟨f0,f1,f2,f3,f4,f5⟩:=hf it (by simp)
  have hl:=rv.length;exact wpAny_pyNext_tuple_end (I.ok.hd hc) st (show s.heap.IsTuple a its.toArray from p) (by simp;omega) λh' eb=>⟨rfl,I.turned (t':=s.toks) (λb o hb e=>eb b o hb e) f0 f1 f3 f4 f5⟩
 self:=λ_ _ _ _ _ st h=>wpAny_pyIter_tupleiter st h
theorem aC6 {P:ay}{w:ba}{K:ae}{tg:Expr}(it:ax)(lo:Int)(n:Nat):kR P w K tg (qA lo n) [it] it (λi h=>IsRangeIter h it (lo+(i:Nat)*1) ((n:Int)-(i:Nat)) 1) where
 mem:=by simp
 obj:=λi h st b hb=>by
  have e:b=it:=by simpa using hb
  subst e
  exact⟨_,st,λv z=>by
   have z':Data.fields _=Data.cell v:=z
   cases z'⟩
 keep:=λi h h' st k=>k it (by simp) _ st
 item:=by
  intro X hP hw hK hc i ah s σ H E I hf st hg;subst hP hw hK
  obtain⟨f0,f1,f2,f3,f4,f5⟩:=hf it (by simp)
  have W:=Walks.range (prog:=X.prog) (w:=X.w) (I.ok.hd hc) it lo 1 n;refine W.item i s _ _ hg st λv h' tk hv st' kk=>?_
  obtain⟨t,rfl⟩:=hv
  have I1:a7 X ah σ H { s with heap:=h',toks:=tk }:=I.turned (λb o hb e=>kk b o (by simpa using hb) e) f0 f1 f3 f4 f5;refine⟨_,rfl,xB (s:={ s with heap:=h',toks:=tk }) (n:="range_iterator") st' rfl rfl (by decide) ⟨.int (lo+i),H,I1,⟨t,?_⟩,⟨rfl,rfl⟩,st',λb hb=>(hf b hb).1⟩⟩;rw[Int.mul_one]
 done:=by
  intro X hP hw hK hc i ah s σ H E I hf st hg;subst hP hw hK
  obtain⟨f0,f1,f2,f3,f4,f5⟩:=hf it (by simp)
  exact wpAny_pyNext_range_end (I.ok.hd hc) st (by have:n<=i:=hg;omega) λh' eb=>⟨rfl,I.turned (t':=s.toks) (λb o hb e=>eb b o hb e) f0 f1 f3 f4 f5⟩
 self:=λ_ _ _ _ _ st h=>wpAny_pyIter_rangeiter st h
section
variable {X:Cx}{tg:Expr}
def aC7 (K:ae)(tl:TE):TI:=λσ H R=>tl σ H λx H1=>∃a,x = .ref a/\(∃xs,aP K H1 a xs)/\R (m3 K a) H1
theorem P9 {l:Expr}{tl:TE}(hl:PE X l tl):PI X tg l (aC7 X.K tl):=by
 intro ah s σ H R I h;refine aN (hl ah s σ H _ I h) λv s1 ⟨x,H1,I1,r1,q1⟩=>?_
 obtain⟨a,e,⟨xs,hq⟩,q⟩:=q1
 subst e;cases r1
 obtain⟨its,rv,p,hz⟩:=I1.tuple hq
 refine wpAny_pyIter_tuple (show s1.heap.IsTuple a its.toArray from p) ?_;refine⟨s1.heap.objs.size,[s1.heap.objs.size],_,_,H1,rfl,I1.kept (t':=s1.toks) λb o e=>bF0 _ e,P8 a _,⟨_,bG1 _ rfl,rfl,rfl⟩,λb hb=>?_,q⟩;have e:b=s1.heap.objs.size:=by simpa using hb
 subst e;exact I1.fpOk (bF7 _) (I1.hok.fresh (bF7 _))
theorem Q0 {ah:List (ax×Obj)}{σ:St}{H:Hp}{s:aw}{R:It->Hp->Prop}{E:av->aw->Prop}{lo hi:Int}{t u v:Tok}{tk:Nat}(I:a7 X ah σ H s)(h1:-(2^62)<=lo)(h2:lo<2^62)(h3:-(2^62)<=hi)(h4:hi<2^62)(q:R (qA lo (hi-lo).toNat) H):wpAny (model X.prog X.w) X.A (pyIter (.ref s.heap.objs.size)) (P7 X ah σ tg R) E { s with heap:=s.heap.push { cls:=.type "range",data:=.fields #[.int lo t,.int hi u,.int 1 v] },toks:=tk }:=by
 refine wpAny_pyIter_range (IsRange.new ..) (small_one h1 h2 h3 h4) ?_;have I1:a7 X ah σ H { s with heap:=s.heap.push { cls:=.type "range",data:=.fields #[.int lo t,.int hi u,.int 1 v] },toks:=tk }:=I.kept λb o e=>bF0 _ e
 refine⟨(s.heap.push { cls:=.type "range",data:=.fields #[.int lo t,.int hi u,.int 1 v] }).objs.size,[(s.heap.push { cls:=.type "range",data:=.fields #[.int lo t,.int hi u,.int 1 v] }).objs.size],_,_,H,rfl,
  I1.kept (t':=tk) λb o e=>bF0 _ e,aC6 _ lo (hi-lo).toNat,?_,λb hb=>?_,q⟩
 ·have e1:lo+((0:Nat):Int)*1=lo:=by simp
  have e2:(((hi-lo).toNat:Nat):Int)-((0:Nat):Int)=Builtin.Range.rangeSize lo hi 1:=by rw[rangeSize_one];split<;>omega
  show IsRangeIter _ _ (lo+((0:Nat):Int)*1) ((((hi-lo).toNat:Nat):Int)-((0:Nat):Int)) 1;rw[e1,e2];exact bG1 _ rfl
 ·have e:b=(s.heap.push { cls:=.type "range",data:=.fields #[.int lo t,.int hi u,.int 1 v] }).objs.size:=by simpa using hb
  subst e;exact I1.fpOk (bF7 _) (I1.hok.fresh (bF7 _))
def Q2 (ta:TA):TI:=λσ H R=>ta σ H λvs H1=>∃j:Int,vs = [.int j]/\-(2^62)<=j/\j<2^62/\R (qA 0 j.toNat) H1
def Q3 (ta:TA):TI:=λσ H R=>ta σ H λvs H1=>∃i j:Int,vs = [.int i,.int j]/\(-(2^62)<=i/\i<2^62/\-(2^62)<=j/\j<2^62)/\R (qA i (j-i).toNat) H1
theorem aC8 {a:Expr}{ta:TA}{p pos:Pos}(hg:Gl X "range")(hm:X.mg "range" = none)(ha:PA X [a] ta)(hs:starEach [a] X.env = [(false,eval a X.env)]:=by rfl):PI X tg (.Call (.Name "range" p) [a] [] pos) (Q2 ta):=by
 intro ah s σ H R I h;refine Call_ (kQ I hg hm boot_range (bM3 (aN (ha pos ah s σ H _ I h) λus s1 ⟨vs,H1,I1,r1,q1⟩=>?_) hs rfl))
 obtain⟨j,e,q1,q2,q⟩:=q1
 subst e;cases r1 with
 |cons r rr=>
  cases rr
  obtain⟨t,rfl⟩:=r
  exact call_range_1 (Q0 I1 (by omega) (by omega) q1 q2 (by simpa using q))
theorem aC9 {a b:Expr}{ta:TA}{p pos:Pos}(hg:Gl X "range")(hm:X.mg "range" = none)(ha:PA X [a,b] ta)(hs:starEach [a,b] X.env = [(false,eval a X.env),(false,eval b X.env)]:=by rfl)(hs2:starEach [b] X.env = [(false,eval b X.env)]:=by rfl) :
  PI X tg (.Call (.Name "range" p) [a,b] [] pos) (Q3 ta):=by
 intro ah s σ H R I h;refine Call_ (kQ I hg hm boot_range (bM3 (aN (ha pos ah s σ H _ I h) λus s1 ⟨vs,H1,I1,r1,q1⟩=>?_) (by rw[hs,hs2]) (by rw[hs2];rfl)))
 obtain⟨i,j,e,⟨q1,q2,q3,q4⟩,q⟩:=q1
 subst e;cases r1 with
 |cons r rr=>
  cases rr with
  |cons r' rr=>
   cases rr
   obtain⟨t,rfl⟩:=r
   obtain⟨t',rfl⟩:=r'
   exact call_range_2 (Q0 I1 q1 q2 q3 q4 q)
def Q4 (wi:TI)(g:TG)(tb:TS):TS:=λD σ H=>wi σ H λJ H1=>∃W:Nat->Nat->St->Hp->Prop,(∃m,W 0 m σ H1)/\∀i m σ H,W i m σ H->
 (J.stop i H/\D.nx σ H)∨(J.go i H/\∃N:St->Hp->Prop,(∀σ' H',N σ' H'->∃m',m'<m/\W (i+1) m' σ' H')/\∀x H',J.yld i H x H'->g x σ H' λσ2 H2=>tb { D with nx:=N,ct:=N,bk:=D.nx } σ2 H2)
def qB (fp:List ax)(h:Heap):List (ax×Obj):=fp.filterMap λb=>(h.get? b).map λo=>(b,o)
theorem tF {fp:List ax}{h:Heap}{b:ax}{o:Obj}(hb:b∈fp)(e:h.get? b=some o):(b,o)∈qB fp h:=List.mem_filterMap.mpr ⟨b,hb,by rw[e];rfl⟩
theorem aD0 {fp:List ax}{h:Heap}{p:ax×Obj}(hp:p∈qB fp h):p.1∈fp/\h.get? p.1=some p.2:=by
 obtain⟨b,hb,e⟩:=List.mem_filterMap.mp hp
 cases q:h.get? b with
 |none=>rw[q]at e;cases e
 |some o=>
  rw[q]at e;have e':(b,o)=p:=bG9 e;subst e'
  exact⟨hb,q⟩
theorem a7.pinned {ah:List (ax×Obj)}{σ:St}{H:Hp}{s:aw}{fp:List ax}(I:a7 X ah σ H s)(hf:∀b∈fp,iX X ah H b)(ho:∀b∈fp,∃o,s.heap.get? b=some o/\∀v,o.data≠.cell v):a7 X (ah++qB fp s.heap) σ H s:=
 I.pins_of λp hp=>(bJ0.mp hp).elim (λz=>I.pin p (bJ4 _ z)) λz=>by
  obtain⟨hb,e⟩:=aD0 z
  obtain⟨f0,f1,f2,_⟩:=hf p.1 hb
  obtain⟨o,e',d⟩:=ho p.1 hb
  rw[e]at e';cases e'
  exact⟨e,f0,f1,f2,d⟩
theorem a7.unpinned {ah pl:List (ax×Obj)}{σ:St}{H:Hp}{s:aw}(I:a7 X (ah++pl) σ H s):a7 X ah σ H s:=I.pins_of λp hp=>I.pin p (bJ4 _ (List.mem_append_left _ hp))
theorem Q5 {iter:Expr}{body:List Stmt}{wi:TI}{g:TG}{tb:TS}{pos:Pos}(hp:PassesOwn (model X.prog X.w) X.A X.env X.xe)(hc:X.calm=true)(hi:PI X tg iter wi)(hg:PG X tg g)(hb:dL X body tb)(hs:∀x,foldedSetIterable iter X.env x=pure x:=by intro _;rfl):PS X (.For tg iter body [] pos) (Q4 wi g tb):=by
 intro ah s σ H D I h;refine wpAny_For (aN (hi ah s σ H _ I h) λv s1 h1=>aN h1 λitv s2 h2=>?_) hs
 obtain⟨it,fp,tn,J,H2,e,I2,T,st2,f2,W,⟨m0,w0⟩,turn⟩:=h2
 subst e;have stat:∀{H':Hp},(∀b∈fp,H' b=none)->∀b∈fp,iX X ah H' b:=λhn b hb=>⟨hn b hb,(f2 b hb).2⟩
 refine codeAny_forLoop_any (λn s'=>∃i σ' H',a7 X ah σ' H' s'/\tn i s'.heap/\(∀b∈fp,H' b=none)/\W i n σ' H') ?_ m0 ⟨0,σ,H2,I2,st2,λb hb=>(f2 b hb).1,w0⟩;rintro n s3 ⟨i,σ3,H3,I3,st3,fr3,w3⟩;rcases turn i n σ3 H3 w3 with⟨stop,qn⟩|⟨go,N,hN,step⟩
 ·refine bT8 hp (aN (T.done X rfl rfl rfl hc i ah s3 σ3 H3 X.xe I3 (stat fr3) st3 stop) λr s4 ⟨hr,I4⟩=>?_)
  subst hr;exact bS4 ⟨σ3,H3,I4,qn⟩
 ·refine bT8 hp (aN (T.item X rfl rfl rfl hc i ah s3 σ3 H3 X.xe I3 (stat fr3) st3 go) λr s4 ⟨u,hr,h4⟩=>?_)
  subst hr;refine bT8 hp (aN h4 λ_ s5 ⟨x,H5,I5,r5,y5,st5,fr5⟩=>?_);have I5':=I5.pinned (stat fr5) (T.obj _ _ st5);refine bT8 hp (aN (hg _ s5 σ3 H5 x u _ I5' r5 (step x H5 y5)) λ_ s6 ⟨σ6,H6,I6,q6⟩=>?_);refine bT8 hp (aN (hb _ s6 σ6 H6 _ I6 q6) λf s7 q7=>?_);have again:∀{σ7:St}{H7:Hp},a7 X (ah++qB fp s5.heap) σ7 H7 s7->N σ7 H7->∃m,m<n/\∃i σ' H',a7 X ah σ' H' s7/\tn i s7.heap/\(∀b∈fp,H' b=none)/\W i m σ' H':=λ{σ7 H7} I7 n7=>by
   obtain⟨m',hm,w7⟩:=hN σ7 H7 n7
   refine⟨m',hm,i+1,σ7,H7,I7.unpinned,T.keep _ _ _ st5 λb hb o e=>(I7.pin (b,o) (bJ4 _ (bJ4 _ (tF hb e)))).1,λb hb=>?_,w7⟩
   obtain⟨o,e,d⟩:=T.obj _ _ st5 b hb
   exact (I7.pin (b,o) (bJ4 _ (bJ4 _ (tF hb e)))).2.1
  cases f with
  |next=>obtain⟨σ7,H7,I7,n7⟩:=q7;exact again I7 n7
  |cont=>obtain⟨σ7,H7,I7,n7⟩:=q7;exact again I7 n7
  |brk=>obtain⟨σ7,H7,I7,q7⟩:=q7;exact⟨σ7,H7,I7.unpinned,q7⟩
  |ret v=>obtain⟨x7,σ7,H7,I7,r7,q7⟩:=q7;exact⟨x7,σ7,H7,I7.unpinned,r7,q7⟩
end
theorem bE4 {K:ae}{a:ax}{xs:List V}{g:TG}{tb:TS}{D:bP}{σ:St}{H:Hp}(Pv:Nat->St->Hp->Prop)(h0:Pv 0 σ H)(hl:∀i σ H,i<=xs.length->Pv i σ H->aU K H a xs)(hs:∀i x σ H,xs[i]? = some x->Pv i σ H->g x σ H λσ2 H2=>tb { D with nx:=Pv (i+1),ct:=Pv (i+1),bk:=D.nx } σ2 H2)(hd:∀σ H,Pv xs.length σ H->D.nx σ H) :
  ∃W:Nat->Nat->St->Hp->Prop,(∃m,W 0 m σ H)/\∀i m σ H,W i m σ H->
   ((oC K a).stop i H/\D.nx σ H)∨((oC K a).go i H/\∃N:St->Hp->Prop,(∀σ' H',N σ' H'->∃m',m'<m/\W (i+1) m' σ' H')/\∀x H',(oC K a).yld i H x H'->g x σ H' λσ2 H2=>tb { D with nx:=N,ct:=N,bk:=D.nx } σ2 H2):=by
 refine⟨λi m σ H=>m=xs.length-i/\i<=xs.length/\Pv i σ H,⟨xs.length,by simp,bI2 _,h0⟩,?_⟩;rintro i m σ H ⟨rfl,hi,p⟩;have q:=hl i σ H hi p;by_cases hlt:i<xs.length
 ·refine .inr ⟨⟨xs,xs[i],q,by simp[hlt]⟩,Pv (i+1),λσ' H' p'=>⟨xs.length-(i+1),by omega,rfl,hlt,p'⟩,λx H' y=>?_⟩
  obtain⟨e,y⟩:=y
  subst e;exact hs i x σ _ (y xs q) p
 ·have e:i=xs.length:=by omega
  subst e;exact .inl ⟨⟨xs,q,bF7 _⟩,hd σ H p⟩
theorem aD1 {K:ae}{a:ax}{xs:List V}{g:TG}{tb:TS}{D:bP}{σ:St}{H:Hp}(Pv:Nat->St->Hp->Prop)(h0:Pv 0 σ H)(hl:∀i σ H,i<=xs.length->Pv i σ H->aP K H a xs)(hs:∀i x σ H,xs[i]? = some x->Pv i σ H->g x σ H λσ2 H2=>tb { D with nx:=Pv (i+1),ct:=Pv (i+1),bk:=D.nx } σ2 H2)(hd:∀σ H,Pv xs.length σ H->D.nx σ H) :
  ∃W:Nat->Nat->St->Hp->Prop,(∃m,W 0 m σ H)/\∀i m σ H,W i m σ H->
   ((m3 K a).stop i H/\D.nx σ H)∨((m3 K a).go i H/\∃N:St->Hp->Prop,(∀σ' H',N σ' H'->∃m',m'<m/\W (i+1) m' σ' H')/\∀x H',(m3 K a).yld i H x H'->g x σ H' λσ2 H2=>tb { D with nx:=N,ct:=N,bk:=D.nx } σ2 H2):=by
 refine⟨λi m σ H=>m=xs.length-i/\i<=xs.length/\Pv i σ H,⟨xs.length,by simp,bI2 _,h0⟩,?_⟩;rintro i m σ H ⟨rfl,hi,p⟩;have q:=hl i σ H hi p;by_cases hlt:i<xs.length
 ·refine .inr ⟨⟨xs,xs[i],q,by simp[hlt]⟩,Pv (i+1),λσ' H' p'=>⟨xs.length-(i+1),by omega,rfl,hlt,p'⟩,λx H' y=>?_⟩
  obtain⟨e,y⟩:=y
  subst e;exact hs i x σ _ (y xs q) p
 ·have e:i=xs.length:=by omega
  subst e;exact .inl ⟨⟨xs,q,bF7 _⟩,hd σ H p⟩
abbrev R2:=V->V->Hp->VK->Prop
def cL (X:Cx)(f:av->av->Sem av)(r:R2):Prop:=
 ∀(ah:List (ax×Obj)) (s:aw) (σ:St) (H:Hp) (x y:V) (v u:av) (Q:VK),a7 X ah σ H s->aZ x v->aZ y u->r x y H Q->
  wpAny (model X.prog X.w) X.A (f v u) (EP X ah σ Q) X.xe s
def xC (X:Cx)(f:av->Sem av)(r:V->Hp->VK->Prop):Prop:=
 ∀(ah:List (ax×Obj)) (s:aw) (σ:St) (H:Hp) (x:V) (v:av) (Q:VK),a7 X ah σ H s->aZ x v->r x H Q->
  wpAny (model X.prog X.w) X.A (f v) (EP X ah σ Q) X.xe s
def cG (X:Cx)(f:av)(r:List V->Hp->VK->Prop):Prop:=
 ∀(ah:List (ax×Obj)) (s:aw) (σ:St) (H:Hp) (xs:List V) (us:List av) (Q:VK),a7 X ah σ H s->aW xs us->r xs H Q->
  wpAny (model X.prog X.w) X.A (call f us) (EP X ah σ Q) X.xe s
def aD2 (X:Cx)(r:V->Hp->(Bool->Hp->Prop)->Prop):Prop:=
 ∀(ah:List (ax×Obj)) (s:aw) (σ:St) (H:Hp) (x:V) (v:av) (Q:Bool->Hp->Prop),a7 X ah σ H s->aZ x v->r x H Q->
  wpAny (model X.prog X.w) X.A (truthy v) (TP X ah σ Q) X.xe s
def oE (r:R2)(ta tb:TE):TE:=λσ H Q=>ta σ H λx H1=>tb σ H1 λy H2=>r x y H2 Q
def tUn (r:V->Hp->VK->Prop)(ta:TE):TE:=λσ H Q=>ta σ H λx H1=>r x H1 Q
def rI (C:Int->Int->Prop)(g:Int->Int->V):R2:=λx y H Q=>∃i j,x = .int i/\y = .int j/\C i j/\Q (g i j) H
def kS (g:Int->Int->V):R2:=λx y H Q=>∃i j,x = .int i/\y = .int j/\Q (g i j) H
def rU (g:Int->V):V->Hp->VK->Prop:=λx H Q=>∃i,x = .int i/\Q (g i) H
section
variable {X:Cx}{a b c:Expr}{ta tb tc:TE}{pos:Pos}
theorem xD (ha:PE X a ta)(hb:PE X b tb){ah:List (ax×Obj)}{s:aw}{σ:St}{H:Hp}{R:V->V->Hp->Prop}(I:a7 X ah σ H s)(h:ta σ H λx H1=>tb σ H1 λy H2=>R x y H2){Q:av->aw->Prop}{f:av->av->Sem av}(hf:∀v u s2 x y H2,a7 X ah σ H2 s2->aZ x v->aZ y u->R x y H2->wpAny (model X.prog X.w) X.A (f v u) Q X.xe s2) :
  wpAny (model X.prog X.w) X.A (eval a X.env) (λv s₁=>wpAny (model X.prog X.w) X.A (eval b X.env) (λu s₂=>wpAny (model X.prog X.w) X.A (f v u) Q X.xe s₂) X.xe s₁) X.xe s:=by
 refine aN (ha ah s σ H _ I h) λv s1 ⟨x,H1,I1,r1,q1⟩=>?_
 refine aN (hb ah s1 σ H1 _ I1 q1) λu s2 ⟨y,H2,I2,r2,q2⟩=>?_
 exact hf v u s2 x y H2 I2 r1 r2 q2
theorem aD3 {op:Operator}{r:R2}(ho:cL X (binaryOp op) r)(ha:PE X a ta)(hb:PE X b tb):PE X (.BinOp a op b pos) (oE r ta tb):=by
 intro ah s σ H Q I h;exact wpAny_BinOp (xD ha hb I h λv u s2 x y H2 I2 rx ry q=>ho ah s2 σ H2 x y v u Q I2 rx ry q)
theorem aD4 {op:UnaryOp}{r:V->Hp->VK->Prop}(ho:xC X (unaryOp op) r)(ha:PE X a ta):PE X (.UnaryOp op a pos) (tUn r ta):=by
 intro ah s σ H Q I h;exact UnaryOp_ (aN (ha ah s σ H _ I h) λv s1 ⟨x,H1,I1,r1,q1⟩=>ho ah s1 σ H1 x v Q I1 r1 q1)
theorem tG {f:av->av->Sem av}{C:Int->Int->Prop}{g:Int->Int->Int}(rule:∀(i j:Int) (t u:Tok) (s:aw) (Q:av->aw->Prop) (E:av->aw->Prop),C i j->Q (.int (g i j) s.toks) { s with toks:=s.toks+1 }->wpAny (model X.prog X.w) X.A (f (.int i t) (.int j u)) Q E s) :
  cL X f (rI C λi j=>.int (g i j)):=by
 intro ah s σ H x y v u Q I rx ry h
 obtain⟨i,j,rfl,rfl,hc,q⟩:=h
 obtain⟨t,rfl⟩:=rx
 obtain⟨t',rfl⟩:=ry
 exact rule i j t t' s _ _ hc ⟨.int (g i j),H,I.tok _,⟨_,rfl⟩,q⟩
theorem Q6 {f:av->av->Sem av}{g:Int->Int->Int}(rule:∀(i j:Int) (t u:Tok) (s:aw) (Q:av->aw->Prop) (E:av->aw->Prop),Q (.int (g i j) s.toks) { s with toks:=s.toks+1 }->wpAny (model X.prog X.w) X.A (f (.int i t) (.int j u)) Q E s) :
  cL X f (kS λi j=>.int (g i j)):=by
 intro ah s σ H x y v u Q I rx ry h
 obtain⟨i,j,rfl,rfl,q⟩:=h
 obtain⟨t,rfl⟩:=rx
 obtain⟨t',rfl⟩:=ry
 exact rule i j t t' s _ _ ⟨.int (g i j),H,I.tok _,⟨_,rfl⟩,q⟩
theorem xE {f:av->av->Sem av}{g:Int->Int->Bool}(rule:∀(i j:Int) (t u:Tok) (s:aw) (Q:av->aw->Prop) (E:av->aw->Prop),Q (.bool (g i j)) s->wpAny (model X.prog X.w) X.A (f (.int i t) (.int j u)) Q E s) :
  cL X f (kS λi j=>.bl (g i j)):=by
 intro ah s σ H x y v u Q I rx ry h
 obtain⟨i,j,rfl,rfl,q⟩:=h
 obtain⟨t,rfl⟩:=rx
 obtain⟨t',rfl⟩:=ry
 exact rule i j t t' s _ _ ⟨.bl (g i j),H,I,rfl,q⟩
def xF (i j:Int):Prop:=0<j/\j<1073741824
def xG (i j:Int):Prop:=0<=j/\j<=1000000/\i.natAbs<2^64
def qD (i j:Int):Prop:=(-(2^64)<i/\i<2^64)∨(-(2^64)<j/\j<2^64)
theorem qD.ok {i j:Int}(h:qD i j):IntMulOk i j:=by
 rcases h with⟨h1,h2⟩|⟨h1,h2⟩
 ·exact .of_left (intBits_le_64 h1 h2)
 ·exact .of_right (intBits_le_64 h1 h2)
theorem aD5:cL X (binaryOp .Add) (kS λi j=>.int (i+j)):=Q6 λ_ _ _ _ _ _ _ q=>add_int q
theorem aD6:cL X (binaryOp .Sub) (kS λi j=>.int (i-j)):=Q6 λ_ _ _ _ _ _ _ q=>sub_int q
theorem aD7:cL X (binaryOp .Mult) (rI qD λi j=>.int (i*j)):=tG λ_ _ _ _ _ _ _ hc q=>mul_int q hc.ok
theorem aD8:cL X (binaryOp .FloorDiv) (rI xF λi j=>.int (i/j)):=tG λi j _ _ _ _ _ hc q=>by
 have h1:(0:Int)<j:=hc.1;have h2:j<1073741824:=hc.2;exact floordiv_int (by omega) (by rw[Int.fdiv_eq_ediv_of_nonneg i (by omega)];exact q) (.inl (PyProof.noPylong_small (by omega)))
theorem aD9:cL X (binaryOp .Mod) (rI (λ_ j=>0<j) λi j=>.int (i%j)):=tG λi j _ _ _ _ _ hc q=>by
 have h1:(0:Int)<j:=hc;exact mod_int' (by omega) (by rw[Int.fmod_eq_emod_of_nonneg i (by omega)];exact q)
theorem aE0:cL X (binaryOp .Pow) (rI xG λi j=>.int (i^j.toNat)):=tG λ_ _ _ _ _ _ _ hc q=>pow_int_small hc.1 hc.2.1 hc.2.2 q
theorem unI {f:av->Sem av}{g:Int->Int}(rule:∀(i:Int) (t:Tok) (s:aw) (Q:av->aw->Prop) (E:av->aw->Prop),Q (.int (g i) s.toks) { s with toks:=s.toks+1 }->wpAny (model X.prog X.w) X.A (f (.int i t)) Q E s) :
  xC X f (rU λi=>.int (g i)):=by
 intro ah s σ H x v Q I rx h
 obtain⟨i,rfl,q⟩:=h
 obtain⟨t,rfl⟩:=rx
 exact rule i t s _ _ ⟨.int (g i),H,I.tok _,⟨_,rfl⟩,q⟩
theorem aE1:xC X (unaryOp .USub) (rU λi=>.int (-i)):=unI λ_ _ _ _ _ q=>neg_int q
end
def Q7:V->V->Bool
 |.non,.non=>true|.non,.int _=>true|.int _,.non=>true|.non,.bl _=>true|.bl _,.non=>true|.non,.str _=>true|.str _,.non=>true
 |.int _,.int _=>true|.bl _,.bl _=>true|.str _,.str _=>true|.byt _,.byt _=>true
 |.int _,.str _=>true|.str _,.int _=>true|.bl _,.str _=>true|.str _,.bl _=>true
 |_,_=>false
def xH:R2:=λx y H Q=>Q7 x y=true/\Q (.bl (decide (x=y))) H
def xI:R2:=λx y H Q=>Q7 x y=true/\Q (.bl (!decide (x=y))) H
theorem Q8 {i j:Int}:decide (V.int i=V.int j)=(i==j):=by
 rw[bL2];simp
theorem Q9 {i j:Bool}:decide (V.bl i=V.bl j)=(i==j):=by
 rw[bL2];simp
theorem R3 {i j:Str}:decide (V.str i=V.str j)=(i==j):=by
 rw[bL2];simp
theorem R4 {i j:Array UInt8}:decide (V.byt i=V.byt j)=(i.toList==j.toList):=by
 rw[bL2];cases i;cases j;simp
section
variable {X:Cx}{a b c:Expr}{ta tb tc:TE}{pos:Pos}
theorem cM {ah:List (ax×Obj)}{σ:St}{H:Hp}{s:aw}{Q:VK}{k k':Bool}(I:a7 X ah σ H s)(q:Q (.bl k) H)(e:k=k'):EP X ah σ Q (.bool k') s:=by
 subst e
 exact⟨.bl k,H,I,rfl,q⟩
theorem xJ:cL X (compareOp .Eq) xH:=by
 intro ah s σ H x y v u Q I rx ry h
 obtain⟨hs,q⟩:=h
 cases x with
 |non=>
  cases rx;cases y with
  |non=>cases ry;exact PySem.EqNone.eq_none_none (cM I q (by simp))
  |bl j=>cases ry;exact PySem.EqNone.eq_none_bool (cM I q (by simp))
  |int j=>obtain⟨t',rfl⟩:=ry;exact PySem.EqNone.eq_none_int (cM I q (by simp))
  |str j=>obtain⟨t',rfl⟩:=ry;exact PySem.EqNone.eq_none_str (cM I q (by simp))
  |_=>exact absurd (show false=true from hs) bH5
 |bl i=>
  cases rx;cases y with
  |non=>cases ry;exact PySem.EqNone.eq_bool_none (cM I q (by simp))
  |bl j=>cases ry;exact eq_bool (cM I q Q9)
  |str j=>obtain⟨t',rfl⟩:=ry;exact PySem.EqMixed.eq_bool_str (cM I q (by simp))
  |_=>exact absurd (show false=true from hs) bH5
 |int i=>
  obtain⟨t,rfl⟩:=rx
  cases y with
  |non=>cases ry;exact PySem.EqNone.eq_int_none (cM I q (by simp))
  |int j=>obtain⟨t',rfl⟩:=ry;exact eq_int (cM I q Q8)
  |str j=>obtain⟨t',rfl⟩:=ry;exact PySem.EqMixed.eq_int_str (cM I q (by simp))
  |_=>exact absurd (show false=true from hs) bH5
 |str i=>
  obtain⟨t,rfl⟩:=rx
  cases y with
  |non=>cases ry;exact PySem.EqNone.eq_str_none (cM I q (by simp))
  |bl j=>cases ry;exact PySem.EqMixed.eq_str_bool (cM I q (by simp))
  |int j=>obtain⟨t',rfl⟩:=ry;exact PySem.EqMixed.eq_str_int (cM I q (by simp))
  |str j=>obtain⟨t',rfl⟩:=ry;exact eq_str (cM I q R3)
  |_=>exact absurd (show false=true from hs) bH5
 |byt i=>
  obtain⟨t,rfl⟩:=rx
  cases y with
  |byt j=>obtain⟨t',rfl⟩:=ry;exact PySem.W.eq_bytes (cM I q R4)
  |_=>exact absurd (show false=true from hs) bH5
 |_=>cases y<;>exact absurd (show false=true from hs) bH5
theorem R5:cL X (compareOp .NotEq) xI:=by
 intro ah s σ H x y v u Q I rx ry h
 obtain⟨hs,q⟩:=h
 cases x with
 |non=>
  cases rx;cases y with
  |non=>cases ry;exact PySem.EqNone.ne_none_none (cM I q (by simp))
  |bl j=>cases ry;exact PySem.EqNone.ne_none_bool (cM I q (by simp))
  |int j=>obtain⟨t',rfl⟩:=ry;exact PySem.EqNone.ne_none_int (cM I q (by simp))
  |str j=>obtain⟨t',rfl⟩:=ry;exact PySem.EqNone.ne_none_str (cM I q (by simp))
  |_=>exact absurd (show false=true from hs) bH5
 |bl i=>
  cases rx;cases y with
  |non=>cases ry;exact PySem.EqNone.ne_bool_none (cM I q (by simp))
  |bl j=>cases ry;exact ne_bool (cM I q (congrArg not Q9))
  |str j=>obtain⟨t',rfl⟩:=ry;exact PySem.EqMixed.ne_bool_str (cM I q (by simp))
  |_=>exact absurd (show false=true from hs) bH5
 |int i=>
  obtain⟨t,rfl⟩:=rx
  cases y with
  |non=>cases ry;exact PySem.EqNone.ne_int_none (cM I q (by simp))
  |int j=>obtain⟨t',rfl⟩:=ry;exact ne_int (cM I q (congrArg not Q8))
  |str j=>obtain⟨t',rfl⟩:=ry;exact PySem.EqMixed.ne_int_str (cM I q (by simp))
  |_=>exact absurd (show false=true from hs) bH5
 |str i=>
  obtain⟨t,rfl⟩:=rx
  cases y with
  |non=>cases ry;exact PySem.EqNone.ne_str_none (cM I q (by simp))
  |bl j=>cases ry;exact PySem.EqMixed.ne_str_bool (cM I q (by simp))
  |int j=>obtain⟨t',rfl⟩:=ry;exact PySem.EqMixed.ne_str_int (cM I q (by simp))
  |str j=>obtain⟨t',rfl⟩:=ry;exact ne_str (cM I q (congrArg not R3))
  |_=>exact absurd (show false=true from hs) bH5
 |byt i=>
  obtain⟨t,rfl⟩:=rx
  cases y with
  |byt j=>obtain⟨t',rfl⟩:=ry;exact PySem.W.ne_bytes (cM I q (congrArg not R4))
  |_=>exact absurd (show false=true from hs) bH5
 |_=>cases y<;>exact absurd (show false=true from hs) bH5
theorem tH:cL X (compareOp .Lt) (kS λi j=>.bl (decide (i<j))):=xE λ_ _ _ _ _ _ _ q=>lt_int q
theorem R6:cL X (compareOp .Gt) (kS λi j=>.bl (decide (j<i))):=xE λ_ _ _ _ _ _ _ q=>gt_int q
theorem R7:cL X (compareOp .GtE) (kS λi j=>.bl (decide (j<=i))):=xE λ_ _ _ _ _ _ _ q=>ge_int q
theorem R8:cL X (compareOp .Is) (λx y H Q=>y = .non/\Q (.bl (decide (x = .non))) H):=by
 intro ah s σ H x y v u Q I rx ry h
 obtain⟨rfl,q⟩:=h
 cases ry;refine is_none_gen (cM I q ?_);cases x<;>first
  |(cases rx;rfl)
  |(obtain⟨t,rfl⟩:=rx;rfl)
theorem R9:cL X (compareOp .IsNot) (λx y H Q=>y = .non/\Q (.bl (!decide (x = .non))) H):=by
 intro ah s σ H x y v u Q I rx ry h
 obtain⟨rfl,q⟩:=h
 cases ry;refine isnot_none_gen (cM I q ?_);cases x<;>first
  |(cases rx;rfl)
  |(obtain⟨t,rfl⟩:=rx;rfl)
theorem eG (b:Expr){op:CmpOp}(h:op≠.In:=by decide)(h2:op≠.NotIn:=by decide):behindInMarks op b=false:=by
 have e1:(op==CmpOp.In)=false:=by cases op<;>first|rfl|exact absurd rfl h
 have e2:(op==CmpOp.NotIn)=false:=by cases op<;>first|rfl|exact absurd rfl h2
 cases b<;>simp[behindInMarks,e1,e2]
theorem xK {op:CmpOp}{r:R2}(ho:cL X (compareOp op) r)(ha:PE X a ta)(hb:PE X b tb)(hm:behindInMarks op b=false):PE X (.Compare a [op] [b] pos) (oE r ta tb):=by
 intro ah s σ H Q I h;exact wpAny_Compare1 (xD ha hb I h λv u s2 x y H2 I2 rx ry q=>ho ah s2 σ H2 x y v u Q I2 rx ry q) hm
def aE2 (t:TE):TT:=λσ H Q=>t σ H λx H'=>∃k,x = .bl k/\Q k H'
theorem aE3 {op:CmpOp}{r:R2}(ho:cL X (compareOp op) r)(ha:PE X a ta)(hb:PE X b tb)(hm:behindInMarks op b=false):PT X (.Compare a [op] [b] pos) (aE2 (oE r ta tb)):=by
 intro ah s σ H Q I h
 refine wpAny_isTrue_Compare1 (aN (ha ah s σ H _ I h) λv s1 ⟨x,H1,I1,r1,q1⟩=>aN (hb ah s1 σ H1 _ I1 q1) λu s2 ⟨y,H2,I2,r2,q2⟩=>
  aN (ho ah s2 σ H2 x y v u _ I2 r1 r2 q2) λc s3 ⟨z,H3,I3,r3,k,e,q3⟩=>?_) hm
 subst e;cases r3;exact bS2 ⟨H3,I3,q3⟩
def xL (K:ae)(x:V)(H:Hp)(k:Bool):Prop:=
 match x with
 |.non=>k=false
 |.bl b=>k=b
 |.int i=>k=(i != 0)
 |.str y=>y.length<=sizeLine/\k=((y.length:Int) != 0)
 |.byt y=>y.size<=sizeLine/\k=((y.size:Int) != 0)
 |.ref p=>(∃xs,aU K H p xs/\k = !xs.isEmpty)∨(∃xs,aP K H p xs/\k = !xs.isEmpty)∨∃kvs,H p=some (.dK kvs)/\k = !kvs.isEmpty
 |_=>False
theorem aE4 {κ:Type}{kvs:List (κ×V)}{vs:List (κ×av)}(r:KV kvs vs):(!vs.isEmpty) = !kvs.isEmpty:=by
 cases r<;>rfl
theorem S0 {xs:List V}{its:List av}(r:aW xs its):(!its.toArray.isEmpty) = !xs.isEmpty:=by
 cases r<;>simp
theorem qE:(sizeLine:Nat)<2^63:=by rw[sizeLine_eq];decide
theorem S3:aD2 X (λx H Q=>∃k,xL X.K x H k/\Q k H):=by
 intro ah s σ H x v Q I rx h
 obtain⟨k,e,q⟩:=h
 have hl:=qE;have hs:sizeLine=16777216:=sizeLine_eq;cases x with
 |non=>
  cases rx;have e':k=false:=e;subst e';exact truthy_none ⟨H,I,q⟩
 |bl b=>
  cases rx;have e':k=b:=e;subst e';exact bS2 ⟨H,I,q⟩
 |int i=>
  obtain⟨t,rfl⟩:=rx
  have e':k=(i != 0):=e;subst e';exact PySem.P.truthy_int ⟨H,I,q⟩
 |str y=>
  obtain⟨t,rfl⟩:=rx
  obtain⟨hy,e'⟩:y.length<=sizeLine/\k=((y.length:Int) != 0):=e
  subst e';exact PySem.P.truthy_str (by omega) ⟨H,I.tok _,q⟩
 |byt y=>
  obtain⟨t,rfl⟩:=rx
  obtain⟨hy,e'⟩:y.size<=sizeLine/\k=((y.size:Int) != 0):=e
  subst e';exact PySem.W.truthy_bytes (by omega) ⟨H,I.tok _,q⟩
 |ref p=>
  cases rx;have e':(∃xs,aU X.K H p xs/\k = !xs.isEmpty)∨(∃xs,aP X.K H p xs/\k = !xs.isEmpty)∨∃kvs,H p=some (.dK kvs)/\k = !kvs.isEmpty:=e
  rcases e' with⟨xs,hx,e'⟩|⟨xs,hx,e'⟩|⟨kvs,hx,e'⟩
  ·subst e'
   obtain⟨its,r,pl,hz⟩:=I.list hx
   have am:=r.length;exact wpAny_truthy_list pl.isList (by simp only[bF2];omega) ⟨H,I.tok _,by rw[S0 r];exact q⟩
  ·subst e'
   obtain⟨its,r,pl,hz⟩:=I.tuple hx
   have am:=r.length;exact truthy_tuple pl (by simp only[bF2];omega) ⟨H,I.tok _,by rw[S0 r];exact q⟩
  ·subst e'
   obtain⟨hz,hS,vs,r,m⟩:kvs.length<=sizeLine/\(p==sysModules)=false/\∃vs,KV kvs vs/\s.heap.DictOf (dF X.prog X.w) p vs:=I.hok p _ hx
   have am:kvs.length=vs.length:=Paired.length r;exact wpAny_truthy_dict hS m (by omega) ⟨H,I.tok _,by rw[aE4 r];exact q⟩
 |_=>exact (show False from e).elim
theorem aE5 (ha:PE X a ta)(he:∀whole,isTrue a X.env whole=(do let v <- whole;standAt a.pos;holding [v] (truthy v))) :
  PT X a (λσ H Q=>ta σ H λx H'=>∃k,xL X.K x H' k/\Q k H'):=by
 intro ah s σ H Q I h;exact isTrue_plain (aN (ha ah s σ H _ I h) λv s1 ⟨x,H1,I1,r1,q1⟩=>S3 ah s1 σ H1 x v Q I1 r1 q1) (he _)
theorem gI {x:V}{us:List av}(r:aW [x] us):∃u,us = [u]/\aZ x u:=by
 cases r with
 |cons r1 r2=>cases r2;exact⟨_,rfl,r1⟩
theorem qF {x y:V}{us:List av}(r:aW [x,y] us):∃u w',us = [u,w']/\aZ x u/\aZ y w':=by
 cases r with
 |cons r1 r2=>
  cases r2 with
  |cons r3 r4=>cases r4;exact⟨_,_,rfl,r1,r3⟩
theorem aE6 (hc:X.calm=true):cG X (.builtin "max") (λxs H Q=>∃i j,xs = [.int i,.int j]/\Q (.int (if j>i then j else i)) H):=by
 intro ah s σ H xs us Q I r h
 obtain⟨i,j,rfl,q⟩:=h
 obtain⟨u,w',rfl,⟨t,rfl⟩,⟨t',rfl⟩⟩:=qF r
 refine max_two_ints (I.ok.hd hc) λh' tk k=>⟨_,H,I.kept k,?_,q⟩
 by_cases hj:j>i
 ·rw[if_pos hj,if_pos hj];exact⟨_,rfl⟩
 ·rw[if_neg hj,if_neg hj];exact⟨_,rfl⟩
theorem aE7 (hc:X.calm=true):cG X (.builtin "min") (λxs H Q=>∃i j,xs = [.int i,.int j]/\Q (.int (if j<i then j else i)) H):=by
 intro ah s σ H xs us Q I r h
 obtain⟨i,j,rfl,q⟩:=h
 obtain⟨u,w',rfl,⟨t,rfl⟩,⟨t',rfl⟩⟩:=qF r
 refine min_two_ints (I.ok.hd hc) λh' tk k=>⟨_,H,I.kept k,?_,q⟩
 by_cases hj:j<i
 ·rw[if_pos hj,if_pos hj];exact⟨_,rfl⟩
 ·rw[if_neg hj,if_neg hj];exact⟨_,rfl⟩
end
structure nJ (h:Heap)(x dx C:ax)(mA:Str->Option av):Prop where
 obj:h.get? x=some (PySem.W.instObj C dx)
 ns:h.Ns1 dx mA
 ne:dx≠x
theorem aE8 {h:Heap}{dx:ax}{mA:Str->Option av}(n:h.Ns1 dx mA):∃od,h.get? dx=some od/\∀name,PySem.W.lookIn name od=some (mA name):=by
 obtain⟨o,es,ep,ho,hd,hk,_,hm⟩:=n
 refine⟨o,ho,λname=>?_⟩;have e:=hm name;unfold nsFind findBy at e;rw[<- Array.find?_toList]at e;unfold PySem.W.lookIn;rw[hd];dsimp only;split
 ·rename_i y q
  rw[q]at e;exact congrArg some e
 ·rename_i q
  rw[q]at e;have a:es.toList.any (·.refKey)=false:=by
   rw[List.any_eq_false];intro y hy
   obtain⟨z,t,hkey⟩:=hk y (Array.mem_toList_iff.mp hy)
   simp[DictEntry.refKey,hkey]
  have a':¬es.toList.any (·.refKey)=true:=by rw[a];exact bH5
  rw[if_neg a'];exact congrArg some e
theorem nJ.look {h:Heap}{x dx C:ax}{mA:Str->Option av}(I:nJ h x dx C mA):∃od,PySem.W.InstAt h x (PySem.W.instObj C dx) C (some od)/\∀name,PySem.W.lookIn name od=some (mA name):=
 let ⟨od,ho,hl⟩:=aE8 I.ns
 ⟨od,⟨I.obj,rfl,rfl,ho⟩,hl⟩
section
variable {prog:ay}{w:ba}{A:az}{E:av→aw→Prop}{s:aw}{K:ae}{x dx C f:ax}{mA:Str→Option av}{name:Str}{v:av}
theorem aE9 {expr:Bool}{Q:av->aw->Prop}(X:K.In s.heap)(I:nJ s.heap x dx C mA)(hg:PySem.W.plainGet K C name=true)(hh:PySem.W.hasDictIn K C=true)(ha:PySem.W.findIn K (.ref C) name=some none)(hv:mA name=some v)(hv':PySem.W.handedIn v=true)(h:Q v { s with toks:=s.toks+1 }) :
  wpAny (model prog w) A (getAttr (.ref x) name expr) Q E s:=by
 obtain⟨od,J,hl⟩:=I.look
 exact PySem.W.get_value X J (PySem.W.plainGet_of hg).1 (PySem.W.findObj_own hh ha rfl (by rw[hl,hv])) hv' h
theorem aF0 {pl:Sem Bool}{Q:av×List av->aw->Prop}(X:K.In s.heap)(I:nJ s.heap x dx C mA)(hg:PySem.W.plainGet K C name=true)(hf:PySem.W.findIn K (.ref C) name=some (some (.ref f)))(ht:PySem.W.isFn K (.ref f)=true)(hv:mA name=none)(h:Q (.ref f,[.ref x]) s) :
  wpAny (model prog w) A (getMethod (.ref x) name pl) Q E s:=by
 obtain⟨od,J,hl⟩:=I.look
 exact PySem.W.method_fn X J (PySem.W.plainGet_of hg).1 (PySem.W.plainGet_of hg).2 hf (bV0.mp ht) (by show (PySem.W.lookIn name od).map (·.isSome)=some false;rw[hl,hv];rfl) h
theorem aF1 {ns:List Str}{Q:Unit->aw->Prop}(X:K.In s.heap)(I:nJ s.heap x dx C mA)(hs:PySem.W.findIn K (.ref C) "__setattr__" = some (some (.builtin "object.__setattr__")))(hp:PySem.W.plainOver K C=true)(ht:PySem.W.takerIn K C name=some none)(hh:PySem.W.hasDictIn K C=true)(hw:PySem.Within mA ns)(hsz:ns.length<=sizeLine)(h:∀h',nJ h' x dx C (λy=>if y=name then some v else mA y)->Heap.SameBut dx s.heap h'->Q () { s with heap:=h',toks:=s.toks+2 }) :
  wpAny (model prog w) A (setAttr (.ref x) name v) Q E s:=by
 obtain⟨od,J,hl⟩:=I.look
 refine PySem.W.set_plain X J hs (PySem.W.osa_open (s:={ s with toks:=s.toks+1 }) (r:=none) X J hp ht λb=>?_)
 obtain⟨cd,hc,hd'⟩:=PySem.W.any_some hh
 have hx:s.heap.get? x=some ⟨.ref C,some dx,.plain,#[]⟩:=I.obj;refine bE9 (bF5 (bE9 (bE9 (wpAny_loadPart hx (bE9 (PySem.W.Looks.here (s:={ s with toks:=s.toks+1 }) (PySem.W.looks_clsIn X hc) ?_))))));rw[hd'];refine bF5 (a:=some dx) (bE9 (bF5 (bE9 ?_)));refine wpAny_nsSet1 (s:={ s with toks:=s.toks+1 }) I.ns λh' hn2 hs2=>?_
 obtain⟨oD,esD,epD,hoD,hdD,hcD⟩:=hn2.count (PySem.Within.cons name v hw)
 refine bE9 (wpAny_lookBehind hoD (by rw[hdD];exact pastItsLine_dict (bH6 hcD (by rw[bH8];omega))) ?_);exact bF5 (h _ ⟨(hs2.2 _ (Ne.symm I.ne)).trans I.obj,hn2,I.ne⟩ hs2)
theorem aF2 {R:Result->aw->Prop}{vs:List av}{kw:List (Str×av)}(X:K.In s.heap)(hm:PySem.W.makesIn K C=true)(hi:PySem.W.findIn K (.ref C) "__init__" = some (some (.ref f)))(hf:PySem.W.typeIn K (.ref f)=some (.type "function"))(h:codeAny (model prog w) (A.under (.builtin "type.__call__" ⟨.ref C::vs,kw⟩)) (.call (.ref f) ⟨.ref (s.heap.objs.size+1)::vs,kw⟩) (PySem.W.InitBack (s.heap.objs.size+1) R)
   { s with heap:=(s.heap.push PySem.W.emptyDict).push (PySem.W.instObj C s.heap.objs.size) }) :
  codeAny (model prog w) A (.call (.ref C) ⟨vs,kw⟩) R s:=by
 obtain⟨hh,g,d,t,os⟩:=s
 exact PySem.W.make_core (PySem.W.makes_of X hm) (PySem.W.looks_findIn X hi) (λself=>PySem.W.bind_fn X self hf) (.inl rfl) h
end
def fD (f:Str)(v:V):List (Str×V)->List (Str×V)
 |[]=>[(f,v)]
 |(g,x)::r=>if g=f then (g,v)::r else (g,x)::fD f v r
theorem S4 (f g:Str)(v:V):∀fs:List (Str×V),(fD f v fs).lookup g=if g=f then some v else fs.lookup g
 |[]=>by
  show List.lookup g [(f,v)]=_;by_cases h:g=f
  ·have hb:(g==f)=true:=bV0.mpr h
   simp only[List.lookup,hb,if_pos h]
  ·have hb:(g==f)=false:=bM4.mpr h
   simp only[List.lookup,hb,if_neg h]
 |(k,x)::r=>by
  have ih:=S4 f g v r;rw[show fD f v ((k,x)::r)=(if k=f then (k,v)::r else (k,x)::fD f v r) from rfl];by_cases hk:k=f
  ·rw[if_pos hk]
   by_cases h:g=k
   ·have hb:(g==k)=true:=bV0.mpr h
    simp only[List.lookup,hb,if_pos (h.trans hk)]
   ·have hb:(g==k)=false:=bM4.mpr h
    simp only[List.lookup,hb,if_neg (λe:g=f=>h (e.trans hk.symm))]
  ·rw[if_neg hk]
   by_cases h:g=k
   ·have hb:(g==k)=true:=bV0.mpr h
    simp only[List.lookup,hb,if_neg (λe:g=f=>hk (h.symm.trans e))]
   ·have hb:(g==k)=false:=bM4.mpr h
    simp only[List.lookup,hb];exact ih
theorem xM (f:Str)(v:V):∀fs:List (Str×V),f∈(fD f v fs).map (·.1)/\∀g,g∈fs.map (·.1)->g∈(fD f v fs).map (·.1)
 |[]=>⟨by simp[fD],λg h=>by simp at h⟩
 |(k,x)::r=>by
  obtain⟨i1,i2⟩:=xM f v r
  rw[show fD f v ((k,x)::r)=(if k=f then (k,v)::r else (k,x)::fD f v r) from rfl];by_cases hk:k=f
  ·rw[if_pos hk]
   subst hk
   exact⟨by simp,λg h=>by simpa using h⟩
  ·rw[if_neg hk]
   refine⟨?_,λg h=>?_⟩
   ·rw[bL0]
    exact bG8 _ i1
   ·rw[bL0]at h ⊢
    rcases bG0.mp h with e|e
    ·exact bG0.mpr (.inl e)
    ·exact bG8 _ (i2 g e)
theorem S5 (f:Str)(v:V):∀fs:List (Str×V),(fD f v fs).length<=fs.length+1
 |[]=>by simp[fD]
 |(k,x)::r=>by
  have ih:=S5 f v r;rw[show fD f v ((k,x)::r)=(if k=f then (k,v)::r else (k,x)::fD f v r) from rfl];by_cases hk:k=f
  ·rw[if_pos hk,bH8,bH8];omega
  ·rw[if_neg hk,bH8,bH8];omega
theorem fC.some_of {v:V}{o:Option av}(r:fC (some v) o):∃u,o=some u/\aZ v u:=by
 cases o with
 |none=>exact (show False from r).elim
 |some u=>exact⟨u,rfl,r⟩
theorem fC.none_of {o:Option av}(r:fC none o):o=none:=by
 cases o with
 |none=>rfl
 |some u=>exact (show False from r).elim
theorem aF3 {v:V}{u:av}(r:aZ v u):PySem.W.handedIn u=true:=by
 cases v with
 |non=>cases (show u=Value.none from r);rfl
 |bl b=>cases (show u=Value.bool b from r);rfl
 |int i=>obtain⟨t,e⟩:=(show ∃t,u=Value.int i t from r);cases e;rfl
 |str x=>obtain⟨t,e⟩:=(show ∃t,u=Value.str x t from r);cases e;rfl
 |byt b=>obtain⟨t,e⟩:=(show ∃t,u=Value.bytes b t from r);cases e;rfl
 |flt b=>obtain⟨t,e⟩:=(show ∃t,u=Value.float b t from r);cases e;rfl
 |ref a=>cases (show u=Value.ref a from r);rfl
 |ty n=>cases (show u=Value.type n from r);rfl
section
variable {P:ay}{w:ba}{H H':Hp}{h h':Heap}{a C dx:ax}{fs fs':List (Str×V)}
theorem tI (hok:cF P w H h)(e:H a=some (.ins C dx fs)):∃mA,nJ h a dx C mA/\(∀f,fC (fs.lookup f) (mA f))/\PySem.Within mA (fs.map (·.1))/\fs.length<=1000/\H dx=some (.own a):=by
 obtain⟨d,z,ne,ob,mA,n,r,q⟩:=(show bY P w H h a (.ins C dx fs) from hok a _ e)
 exact⟨mA,⟨ob,n,ne⟩,r,q,z,d⟩
end
structure gQ (K:ae)(C:ax):Prop where
 pg:PySem.W.plainGet K C Str.empty=true
 hd:PySem.W.hasDictIn K C=true
 po:PySem.W.plainOver K C=true
 sa:PySem.W.findIn K (.ref C) "__setattr__" = some (some (.builtin "object.__setattr__"))
theorem gQ.get {K:ae}{C:ax}(c:gQ K C)(f:Str):PySem.W.plainGet K C f=true:=c.pg
def m5 (K:ae)(C:ax)(f:Str):Prop:=PySem.W.findIn K (.ref C) f=some none
theorem m5.taker {K:ae}{C:ax}{f:Str}(n:m5 K C f):PySem.W.takerIn K C f=some none:=by
 unfold PySem.W.takerIn;rw[show PySem.W.findIn K (.ref C) f=some none from n];rfl
structure eS (K:ae)(C:ax)(m:Str)(f:ax):Prop where
 at_:PySem.W.findIn K (.ref C) m=some (some (.ref f))
 fn:PySem.W.isFn K (.ref f)=true
 kp:PySem.W.keepIn K (.ref f)=true
section
variable {X:Cx}{ah:List (ax×Obj)}{σ:St}{H:Hp}{s:aw}{a C dx:ax}{fs:List (Str×V)}{f:Str}{v:V}{A:az}{E:av→aw→Prop}
theorem aF4 {b:Bool}{Q:av->aw->Prop}(I:a7 X ah σ H s)(e:H a=some (.ins C dx fs))(c:gQ X.K C)(n:m5 X.K C f)(l:fs.lookup f=some v)(h:∀u s',a7 X ah σ H s'->aZ v u->Q u s'):wpAny (model X.prog X.w) A (getAttr (.ref a) f b) Q E s:=by
 obtain⟨mA,O,r,_,_,_⟩:=tI I.hok e
 obtain⟨u,hu,ru⟩:=fC.some_of (v:=v) (o:=mA f) (by rw[<- l];exact r f)
 exact aE9 I.kIn O (c.get f) c.hd n hu (aF3 ru) (h u _ (I.tok _) ru)
theorem qG {m:Str}{g:ax}{pl:Sem Bool}{Q:av×List av->aw->Prop}(I:a7 X ah σ H s)(e:H a=some (.ins C dx fs))(c:gQ X.K C)(k:eS X.K C m g)(l:fs.lookup m=none)(h:Q (.ref g,[.ref a]) s):wpAny (model X.prog X.w) A (getMethod (.ref a) m pl) Q E s:=by
 obtain⟨mA,O,r,_,_,_⟩:=tI I.hok e
 have hn:mA m=none:=fC.none_of (by rw[<- l];exact r m);exact aF0 I.kIn O (c.get m) k.at_ k.fn hn h
theorem aF5 {y:V}{u:av}{Q:Unit->aw->Prop}(I:a7 X ah σ H s)(e:H a=some (.ins C dx fs))(c:gQ X.K C)(n:m5 X.K C f)(hl:fs.length<1000)(ry:aZ y u)(h:∀s',a7 X ah σ (upd H a (.ins C dx (fD f y fs))) s'->Q () s'):wpAny (model X.prog X.w) A (setAttr (.ref a) f u) Q E s:=by
 obtain⟨mA,O,r,wi,_,ho⟩:=tI I.hok e
 have hz:(fs.map (·.1)).length<=sizeLine:=by rw[bF1,sizeLine_eq];omega
 refine aF1 I.kIn O c.sa c.po n.taker c.hd wi hz λh' O' sb=>h _ ?_
 have hd:∃o,h'.get? dx=some o:=let ⟨o,_,_,e',_⟩:=O'.ns;⟨o,e'⟩
 refine I.write (x:=a) (e:=dx) (by rw[e];exact bT1) (.inr ho) (λb q hb z=>(sb.2 b hb).trans z) hd ?_;refine⟨by rw[aL O.ne];exact ho,?_,O.ne,O'.obj,_,O'.ns,λg=>?_,λg hg=>?_⟩
 ·have:=S5 f y fs;omega
 ·show fC ((fD f y fs).lookup g) (if g=f then some u else mA g)
  rw[S4];by_cases q:g=f
  ·rw[if_pos q,if_pos q];exact ry
  ·rw[if_neg q,if_neg q];exact r g
 ·by_cases q:g=f
  ·rw[q];exact (xM f y fs).1
  ·refine (xM f y fs).2 g (wi g λz=>hg ?_)
   show (if g=f then some u else mA g)=none;rw[if_neg q];exact z
theorem a7.made (I:a7 X ah σ H s):a7 X ah σ (upd (upd H s.heap.objs.size (.own (s.heap.objs.size+1))) (s.heap.objs.size+1) (.ins C s.heap.objs.size []))
  { s with heap:=(s.heap.push PySem.W.emptyDict).push (PySem.W.instObj C s.heap.objs.size) }:=by
 have e1:(s.heap.push PySem.W.emptyDict).get? s.heap.objs.size=some PySem.W.emptyDict:=bG1 s.heap rfl;have e2:((s.heap.push PySem.W.emptyDict).push (PySem.W.instObj C s.heap.objs.size)).get? (s.heap.objs.size+1)=some (PySem.W.instObj C s.heap.objs.size):=by
  have:=bG1 (s.heap.push PySem.W.emptyDict) (o:=PySem.W.instObj C s.heap.objs.size) rfl
  rwa [bP9]at this
 have e3:(s.heap.push PySem.W.emptyDict).Ns s.heap.objs.size (λ_=>none):=⟨PySem.W.emptyDict,#[],_,e1,rfl,(λe he=>absurd he (by simp)),λ_=>rfl⟩;have I1:=I.laid (a:=s.heap.objs.size) (o:=.own (s.heap.objs.size+1)) (h':=s.heap.push PySem.W.emptyDict) (t':=s.toks) (λb u q=>bF0 _ q) (bF7 _) ⟨_,e1⟩;refine I1.laid (a:=s.heap.objs.size+1) (o:=.ins C s.heap.objs.size []) (t':=s.toks) (λb u q=>bF0 _ q) (Nat.le_of_eq (bP9 _ _)) ?_;have ne:s.heap.objs.size≠s.heap.objs.size+1:=bI3 (Nat.lt_succ_self _);refine⟨by rw[aL ne,b6],bI2 _,ne,e2,λ_=>none,(Heap.Ns1.of_empty e3).at λo q=>bF0 _ q,λ_=>bT1,λy hy=>absurd rfl hy⟩
theorem aF6 {prog:ay}{w:ba}{env:Env}{e:Expr}{f:Str}{pos:Pos}{s:aw}{Q:av->aw->Prop}(hb:attributeBase e f env (eval e env)=eval e env)(h:wpAny (model prog w) A (eval e env) (λo s₁=>wpAny (model prog w) A (getAttr o f true) Q E s₁) E s):wpAny (model prog w) A (eval (.Attribute e f pos) env) Q E s:=
 Attribute_any_ h (by rw[arm_eval_Attribute,hb])
end
def kT (K:ae)(ta:TE)(f:Str):TE:=λσ H Q=>ta σ H λx H1=>∃a C dx fs v,x = .ref a/\H1 a=some (.ins C dx fs)/\gQ K C/\m5 K C f/\fs.lookup f=some v/\Q v H1
def S6 (K:ae)(ta tv:TE)(f:Str):TS:=λD σ H=>tv σ H λy H1=>ta σ H1 λx H2=>∃a C dx fs,x = .ref a/\H2 a=some (.ins C dx fs)/\gQ K C/\m5 K C f/\fs.length<1000/\
 D.nx σ (upd H2 a (.ins C dx (fD f y fs)))
section
variable {X:Cx}{o e value:Expr}{f:Str}{pos pos' tpos:Pos}{ta tv:TE}
theorem oF (he:PE X e ta)(hb:attributeBase e f X.env (eval e X.env)=eval e X.env):PE X (.Attribute e f pos) (kT X.K ta f):=by
 intro ah s σ H Q I h;refine aF6 hb (aN (he ah s σ H _ I h) λu s1 ⟨x,H1,I1,rx,a,C,dx,fs,v,ex,ea,c,n,l,q⟩=>?_);subst ex;obtain rfl:u=Value.ref a:=rx;exact aF4 I1 ea c n l λu' s2 I2 ru=>⟨v,H1,I2,ru,q⟩
theorem xN (ha:PE X o ta)(hv:PE X value tv)(hs:swapsWith value (some (.Attribute o f pos')) pos.line X.env=pure false):PS X (.Assign [.Attribute o f pos'] value pos) (S6 X.K ta tv f):=by
 intro ah s σ H D I h;refine plainObj_wpAny_Assign_Attribute (aN (hv ah s σ H _ I h) λu s1 ⟨y,H1,I1,ry,q⟩=>aN (ha ah s1 σ H1 _ I1 q) λov s2 ⟨x,H2,I2,rx,a,C,dx,fs,ex,ea,c,n,l,q2⟩=>?_) hs;subst ex;obtain rfl:ov=Value.ref a:=rx;exact aF5 I2 ea c n l ry λs3 I3=>⟨σ,_,I3,q2⟩
theorem bE5 {pl:Sem Bool}{m:Str}{ai:Pos}{args:List Expr}{ah:List (ax×Obj)}{s:aw}{σ:St}{H:Hp}{Q:av->aw->Prop}{te:TE}(he:PE X e te)(I:a7 X ah σ H s)(h:te σ H λx H1=>∃a C dx fs g,x = .ref a/\H1 a=some (.ins C dx fs)/\gQ X.K C/\eS X.K C m g/\fs.lookup m=none/\
   ∀s1,a7 X ah σ H1 s1->wpAny (model X.prog X.w) X.A (callWith pos (.ref g) [.ref a] (backTo pos (starEach args X.env)) (backToKw pos (keywordEach [] X.env))) Q X.xe s1)(ht:eval (.Call (.Attribute e m ai) args [] pos) X.env=(do
   let ov <- eval e X.env
   standAt ai.atName
   let (f,first) <- holding [ov] (getMethod ov m pl)
   callWith pos f first (backTo pos (starEach args X.env)) (backToKw pos (keywordEach [] X.env)))) :
  wpAny (model X.prog X.w) X.A (eval (.Call (.Attribute e m ai) args [] pos) X.env) Q X.xe s:=by
 refine bT6 (pl:=pl) (aN (he ah s σ H _ I h) λu s1 ⟨x,H1,I1,rx,a,C,dx,fs,g,ex,ea,c,k,l,q⟩=>?_) ht;subst ex;obtain rfl:u=Value.ref a:=rx;exact qG I1 ea c k l (q s1 I1)
end
section
variable {X:Cx}{ah:List (ax×Obj)}{σ:St}{H:Hp}{s:aw}{A:az}{E:av→aw→Prop}{Q:av→aw→Prop}{c:av}{b:Bool}
inductive gR (K:ae)(H:Hp):V->av->Prop where
 |non:gR K H .non (.type "NoneType")
 |bl (x:Bool):gR K H (.bl x) (.type "bool")
 |int (i:Int):gR K H (.int i) (.type "int")
 |str (x:Str):gR K H (.str x) (.type "str")
 |flt (x:UInt64):gR K H (.flt x) (.type "float")
 |lst {a:ax}{xs:List V} (e:H a=some (.lst xs)):gR K H (.ref a) (.type "list")
 |frz {a:ax}{o:Obj}{xs:List V} (e:H a=some (.frz o (.lst xs))):gR K H (.ref a) (.type "list")
 |tup {a:ax}{xs:List V} (e:H a=some (.tup xs)):gR K H (.ref a) (.type "tuple")
 |dK {a:ax}{kvs:List (aF×V)} (e:H a=some (.dK kvs)):gR K H (.ref a) (.type "dict")
 |dT {a:ax}{kvs:List (List aF×V)} (e:H a=some (.dT kvs)):gR K H (.ref a) (.type "dict")
 |ins {a C dx:ax}{fs:List (Str×V)} (e:H a=some (.ins C dx fs)) (cl:gQ K C) (ha:PySem.W.findIn K (.ref C) "__class__" = some (some (.builtin "object.__class__")))
   (hn:PySem.W.specialIn K (.builtin "object.__class__") "__get__" = some (some (.builtin "getset_descriptor.__get__"))) (htk:PySem.W.takesIn K (.builtin "object.__class__")=some true)
   (hm:PySem.W.mroIn K C (.type "object")=some true):gR K H (.ref a) (.ref C)
theorem aF7 {x:V}{u t:av}(I:a7 X ah σ H s)(rx:aZ x u)(ty:gR X.K H x t)(e:PySem.W.kitOne X.K t c=some b)(h:∀tk,Q (.bool b) { s with toks:=tk }) :
  wpAny (model X.prog X.w) A (call (.builtin "isinstance") [u,c]) Q E s:=by
 cases ty with
 |non=>cases (show u=Value.none from rx);exact bL8 PySem.W.kitx_none I.kIn bT1 e (λz=>nomatch z) h
 |bl y=>cases (show u=Value.bool y from rx);exact bL8 PySem.W.kitx_bool I.kIn bT1 e (λz=>nomatch z) h
 |int i=>obtain⟨t,q⟩:=(show ∃t,u=Value.int i t from rx);cases q;exact bL8 PySem.W.kitx_int I.kIn bT1 e (λz=>nomatch z) h
 |str y=>obtain⟨t,q⟩:=(show ∃t,u=Value.str y t from rx);cases q;exact bL8 PySem.W.kitx_str I.kIn bT1 e (λz=>nomatch z) h
 |flt y=>obtain⟨t,q⟩:=(show ∃t,u=Value.float y t from rx);cases q;exact bL8 PySem.W.kitx_float I.kIn bT1 e (λz=>nomatch z) h
 |@lst a xs ea=>
  cases (show u=Value.ref a from rx)
  obtain⟨_,_,n,_,h1⟩:=(show bY X.prog X.w H s.heap a (.lst xs) from I.hok a _ ea)
  exact bL8 PySem.W.kitx_list I.kIn ⟨_,h1,rfl⟩ e (λz=>nomatch z) h
 |@frz a ob xs ea=>
  cases (show u=Value.ref a from rx)
  obtain⟨_,_,_,n,_,h1⟩:=(show bY X.prog X.w H s.heap a (.frz ob (.lst xs)) from I.hok a _ ea)
  exact bL8 PySem.W.kitx_list I.kIn ⟨_,h1,rfl⟩ e (λz=>nomatch z) h
 |@tup a xs ea=>
  cases (show u=Value.ref a from rx)
  obtain⟨_,_,_,p,_⟩:=(show bY X.prog X.w H s.heap a (.tup xs) from I.hok a _ ea)
  obtain⟨o,h1,h2,_⟩:=p
  exact bL8 PySem.W.kitx_tuple I.kIn ⟨o,h1,h2⟩ e (λz=>nomatch z) h
 |@dK a kvs ea=>
  cases (show u=Value.ref a from rx)
  obtain⟨_,_,vs,_,p⟩:=(show bY X.prog X.w H s.heap a (.dK kvs) from I.hok a _ ea)
  obtain⟨o,es,ep,h1,h2,_⟩:=p
  exact bL8 PySem.W.kitx_dict I.kIn ⟨o,h1,h2.1⟩ e (λz=>nomatch z) h
 |@dT a kvs ea=>
  cases (show u=Value.ref a from rx)
  obtain⟨_,_,xs,_,o,es,ep,h1,h2,_⟩:=(show bY X.prog X.w H s.heap a (.dT kvs) from I.hok a _ ea)
  exact bL8 PySem.W.kitx_dict I.kIn ⟨o,h1,h2.1⟩ e (λz=>nomatch z) h
 |@ins a C dx fs ea cl ha hn htk hm=>
  cases (show u=Value.ref a from rx)
  obtain⟨mA,O,_⟩:=tI I.hok ea
  obtain⟨od,J,_⟩:=O.look
  exact bL8 (PySem.W.kitx_own (cl.get _) cl.hd ha hn htk hm) I.kIn J e (λz=>nomatch z) h
end
structure bJ (k:Nat)(A:az):Prop where
 hd:A.handled=none
 dp:A.depth+3*k+5<recursionLimit
 un:A.units+16*k+200<cLine
theorem bJ.mono {j k:Nat}{A:az}(r:bJ k A)(h:j<=k):bJ j A:=⟨r.hd,by have:=r.dp;omega,by have:=r.un;omega⟩
theorem bJ.deeper {k:Nat}{A:az}(r:bJ (k+1) A)(env:Env):bJ k (A.deeper env):=
 ⟨r.hd,by have:=r.dp;show A.depth+1+3*k+5<_;omega,by have:=r.un;show A.units+3+16*k+200<_;omega⟩
theorem aF8 {A:az}{C:ax}{us:List av}{kw:List (Str×av)}:(A.under (.builtin "type.__call__" ⟨.ref C::us,kw⟩)).depth=A.depth+1:=by
 first|rfl|simp[Around.under,Code.weight,Code.isCreation,Code.isGuard,Code.isCaller,Code.frames,Code.isFrame,guardIds]
theorem aF9 {A:az}{C:ax}{us:List av}{kw:List (Str×av)}:(A.under (.builtin "type.__call__" ⟨.ref C::us,kw⟩)).units=A.units+1:=by
 first|rfl|simp[Around.under,Code.cUnits,Code.frames,Code.isFrame]
theorem bJ.make {k:Nat}{A:az}(r:bJ (k+1) A)(C:ax)(us:List av)(kw:List (Str×av)):bJ k (A.under (.builtin "type.__call__" ⟨.ref C::us,kw⟩)):=
 ⟨r.hd,by have:=r.dp;rw[aF8];omega,by have:=r.un;rw[aF9];omega⟩
theorem bJ.depth {k:Nat}{A:az}(r:bJ k A):A.depth<recursionLimit:=by have:=r.dp;omega
theorem bJ.units {k:Nat}{A:az}(r:bJ k A):A.units+64<cLine:=by have:=r.un;omega
def g9:TA:=λ_ H Q=>Q [] H
def iY (ta:TE)(tr:TA):TA:=λσ H Q=>ta σ H λx H1=>tr σ H1 λxs H2=>Q (x::xs) H2
section
variable {X:Cx}{e:Expr}{es:List Expr}{te:TE}{t:TA}{pos:Pos}
theorem dO:PA X [] g9:=λ_ _ _ _ H Q I h=>Calls.spliced_nil ⟨[],H,I,.nil,h⟩
theorem d8 (ha:PE X e te)(hr:PA X es t)(hs:starEach (e::es) X.env=(false,eval e X.env)::starEach es X.env:=by rfl):PA X (e::es) (iY te t):=by
 intro pos ah s σ H Q I h;rw[hs];show wpAny _ _ (spliced ((false,eval e X.env)::backTo pos (starEach es X.env))) _ _ s;refine Calls.spliced_cons (aN (ha ah s σ H _ I h) λu s1 ⟨x,H1,I1,r1,q1⟩=>?_);exact aN (hr pos ah s1 σ H1 _ I1 q1) λus s2 ⟨xs,H2,I2,r2,q2⟩=>⟨x::xs,H2,I2,.cons r1 r2,q2⟩
def S7 (t:TA):TE:=λσ H Q=>t σ H λxs H1=>xs.length<=sizeLine/\∀p,H1 p=none->Q (.ref p) (upd H1 p (.tup xs))
def xO (t:TA):TE:=λσ H Q=>t σ H λxs H1=>xs.length<=sizeLine/\∀p,H1 p=none->Q (.ref p) (upd H1 p (.lst xs))
theorem aG0 {x1}(h:PA X es t):PE X (.Tuple es x1 pos) (S7 t):=by
 intro ah s σ H Q I hq;refine wpAny_Tuple_spliced (aN (h pos ah s σ H _ I hq) λus s1 ⟨xs,H1,I1,r,z,q⟩=>⟨by rw[<- r.length];exact z,?_⟩);have hf:H1 s1.heap.objs.size=none:=I1.hok.fresh (bF7 _);refine⟨.ref s1.heap.objs.size,upd H1 s1.heap.objs.size (.tup xs),I1.laid (t':=s1.toks) (λb u e=>bF0 _ e) (bF7 _) ?_,rfl,q _ hf⟩
 exact⟨z,us,r,⟨_,bG1 _ rfl,rfl,_,rfl⟩,jX.new _ _ rfl⟩
theorem tJ (h:PA X es t):PE X (.List es pos) (xO t):=by
 intro ah s σ H Q I hq;refine wpAny_List_spliced (aN (h pos ah s σ H _ I hq) λus s1 ⟨xs,H1,I1,r,z,q⟩=>⟨by rw[<- r.length];exact z,?_⟩);have hf:H1 s1.heap.objs.size=none:=I1.hok.fresh (bF7 _);refine⟨.ref s1.heap.objs.size,upd H1 s1.heap.objs.size (.lst xs),I1.laid (t':=s1.toks) (λb u e=>bF0 _ e) (bF7 _) ?_,rfl,q _ hf⟩
 exact⟨z,us,0,r,bG1 _ rfl⟩
end
abbrev Sp:=List V->Hp->VK->XK->Prop
abbrev iZ:=List Env->Hp->aw->XK->av->aw->Prop
structure nK (P:ay)(w:ba)(K:ae)(mg:Str->Option av)(base:Heap)(A:az)(outer:List Env)(s:aw)(H:Hp):Prop where
 frames:A.frames=some outer
 mod:Mod K mg base
 bs:∀b o,base.get? b=some o->s.heap.get? b=some o/\H b=none
 bsz:base.objs.size<=s.heap.objs.size
 funs:s.heap.FunFrames base outer
 frf:∀b∈cE outer,H b=none
 hok:cF P w H s.heap
 bare:AllBare s.gens
def CE (outer:List Env)(P:ay)(w:ba)(H:Hp)(s:aw)(Q:VK)(u:av)(s':aw):Prop:=
 ∃v H',s'.os=s.os/\AllBare s'.gens/\Un (cE outer) [] H H' s.heap s'.heap/\cF P w H' s'.heap/\aZ v u/\Q v H'
def CR (CX:iZ)(outer:List Env)(P:ay)(w:ba)(H:Hp)(s:aw)(Q:VK)(E:XK)(r:Result)(s':aw):Prop:=
 match r with
 |.ok (.ret u)=>CE outer P w H s Q u s'
 |.ok _=>False
 |.error e=>CX outer H s E e s'
structure bU (P:ay)(w:ba)(K:ae)(mg:Str->Option av)(base:Heap)(CX:iZ)(k:Nat)(f:ax)(fd:FuncData)(ps:List Str)(sp:Sp):Prop where
 len:∀vs H Q E,sp vs H Q E->vs.length=ps.length
 run:∀(A:az) (outer:List Env) (s:aw) (H:Hp) (args:Args) (us:List av) (vs:List V) (Q:VK) (E:XK),bJ k A->nK P w K mg base A outer s H->BindsTo s fd args (ps.zip us)->aW vs us->sp vs H Q E->
  codeAny (model P w) A (.call (.ref f) args) (CR CX outer P w H s Q E) s
theorem bU.imp {P:ay}{w:ba}{K:ae}{mg:Str->Option av}{base:Heap}{CX:iZ}{k:Nat}{f:ax}{fd:FuncData}{ps:List Str}{sp sp':Sp}(F:bU P w K mg base CX k f fd ps sp)(h:∀vs H Q E,sp' vs H Q E->sp vs H Q E):bU P w K mg base CX k f fd ps sp':=
 ⟨λvs H Q E q=>F.len vs H Q E (h _ _ _ _ q),λA outer s H args us vs Q E hr he hb hv hs=>F.run A outer s H args us vs Q E hr he hb hv (h _ _ _ _ hs)⟩
theorem nK.make {P:ay}{w:ba}{K:ae}{mg:Str->Option av}{base:Heap}{A:az}{outer:List Env}{s:aw}{H:Hp}(e:nK P w K mg base A outer s H)(C:ax)(us:List av)(kw:List (Str×av)) :
  nK P w K mg base (A.under (.builtin "type.__call__" ⟨.ref C::us,kw⟩)) outer s H:=⟨by first|exact e.frames|(simpa[Around.under,Code.envs,Code.isFrame,pushEnvs] using e.frames),e.mod,e.bs,e.bsz,e.funs,e.frf,e.hok,e.bare⟩
section
variable {X:Cx}{ah:List (ax×Obj)}{σ:St}{H:Hp}{s s':aw}
theorem a7.env0 (I:a7 X ah σ H s):nK X.prog X.w X.K X.mg X.base X.A X.stack s H:=
 ⟨I.ok.frames,I.ok.mod,I.bs,bH6 I.ok.bsz I.sz,I.stack,I.stkFree,I.hok,I.bare⟩
theorem a7.after {Q:VK}{u:av}(I:a7 X ah σ H s)(h:CE X.stack X.prog X.w H s Q u s'):EP X ah σ Q u s':=by
 obtain⟨v,H',os,bare,un,hok,r,q⟩:=h
 obtain⟨hh,g,d,t,os'⟩:=s'
 obtain rfl:os'=s.os:=os
 exact⟨v,H',I.call (h':=hh) (g':=g) (d':=d) (t':=t) (ch:=[]) un hok bare (λb z=>absurd z (by simp)),r,q⟩
end
def xP (sp:Sp)(dvs:List V)(E:XK)(t:TA):TE:=λσ H Q=>t σ H λvs H1=>sp (vs++dvs) H1 Q E
def xQ (C:ax)(m:Str)(sp:Sp)(dvs:List V)(E:XK)(ta:TE)(t:TA):TE:=λσ H Q=>ta σ H λx H1=>∃a dx fs,x = .ref a/\H1 a=some (.ins C dx fs)/\fs.lookup m=none/\
 t σ H1 λvs H2=>sp (x::(vs++dvs)) H2 Q E
def aG1 (C:ax)(sp:Sp)(dvs:List V)(E:XK)(t:TA):TE:=λσ H Q=>t σ H λvs H1=>∀x dx,H1 x=none->H1 dx=none->dx≠x->
 sp (.ref x::(vs++dvs)) (upd (upd H1 dx (.own x)) x (.ins C dx [])) (λv H2=>v = .non/\Q (.ref x) H2) E
def dQ (K:ae)(fd:FuncData)(ps:List Str)(ds:List av):Prop:=
 ∀(s:aw) (us:List av),K.In s.heap->(us++ds).length=ps.length->BindsTo s fd ⟨us,[]⟩ (ps.zip (us++ds))
theorem dQ.all {K:ae}{fd:FuncData}{ps:List Str}(h:∀us:List av,us.length=ps.length->bindArgs fd ⟨us,[]⟩=pure (ps.zip us)):dQ K fd ps []:=λs us _ hl=>by
 rw[bH4]at hl ⊢;exact .of_eq (h us hl)
def iC (CX:iZ)(X:Cx)(E:XK):Prop:=∀(ah:List (ax×Obj)) (σ:St) (H:Hp) (s:aw) (e:av) (s':aw),a7 X ah σ H s->CX X.stack H s E e s'->X.xe e s'
section
variable {X:Cx}{CX:iZ}{k:Nat}{f C:ax}{fd:FuncData}{ps:List Str}{sp:Sp}{dvs:List V}{ds:List av}{E:XK}{x m:Str}{p pos ai:Pos}{e o:Expr}{es:List Expr}{ta:TE}{t:TA}
theorem xR {ah:List (ax×Obj)}{σ:St}{H:Hp}{s:aw}{Q:VK}{us:List av}{vs:List V}(F:bU X.prog X.w X.K X.mg X.base CX k f fd ps sp)(hr:bJ k X.A)(hb:dQ X.K fd ps ds)(hd:aW dvs ds)(hx:iC CX X E)(I:a7 X ah σ H s)(r:aW vs us)(h:sp (vs++dvs) H Q E):wpAny (model X.prog X.w) X.A (call (.ref f) us) (EP X ah σ Q) X.xe s:=by
 have r2:aW (vs++dvs) (us++ds):=r.append hd;have hl:(us++ds).length=ps.length:=by rw[<- r2.length];exact F.len _ _ _ _ h
 refine wpAny_call (codeAny_mono (F.run X.A X.stack s H ⟨us,[]⟩ (us++ds) (vs++dvs) Q E hr I.env0 (hb s us I.kIn hl) r2 h) λr s' hq=>?_);cases r with
 |error e=>exact hx ah σ H s e s' I hq
 |ok fl=>
  cases fl with
  |ret u=>exact I.after hq
  |next=>exact False.elim hq
  |brk=>exact False.elim hq
  |cont=>exact False.elim hq
theorem qH (F:bU X.prog X.w X.K X.mg X.base CX k f fd ps sp)(hr:bJ k X.A)(hg:Gl X x)(hm:X.mg x=some (.ref f))(hk:PySem.W.keepIn X.K (.ref f)=true)(hb:dQ X.K fd ps ds)(hd:aW dvs ds)(hx:iC CX X E)(ha:PA X (e::es) t)(hdb:(x==("__debug__":Str))=false:=by decide)(he:starEach (e::es) X.env=(false,eval e X.env)::starEach es X.env:=by rfl)(hpl:(backTo pos (starEach es X.env)).any (·.1)=false:=by rfl) :
  PE X (.Call (.Name x p) (e::es) [] pos) (xP sp dvs E t):=by
 intro ah s σ H Q I h;refine wpAny_Call_Name_kw (oA I hg hm ?_ hdb);refine PySem.W.callWith_K (h₀:=X.base) I.ok.mod.kin hk (aN (ha pos ah s σ H _ I h) λus s1 ⟨vs,H1,I1,r,q⟩=>⟨I1.kIn,?_⟩) he hpl;exact xR F hr hb hd hx I1 r q
theorem aG2 {pl:Sem Bool}(he:PE X o ta)(c:gQ X.K C)(hm:eS X.K C m f)(F:bU X.prog X.w X.K X.mg X.base CX k f fd ps sp)(hr:bJ k X.A)(hb:dQ X.K fd ps ds)(hd:aW dvs ds)(hx:iC CX X E)(ha:PA X (e::es) t)(hst:starEach (e::es) X.env=(false,eval e X.env)::starEach es X.env:=by rfl)(hpl:(backTo pos (starEach es X.env)).any (·.1)=false:=by rfl)(ht:eval (.Call (.Attribute o m ai) (e::es) [] pos) X.env=(do
   let ov <- eval o X.env
   standAt ai.atName
   let (f,first) <- holding [ov] (getMethod ov m pl)
   callWith pos f first (backTo pos (starEach (e::es) X.env)) (backToKw pos (keywordEach [] X.env))):=by rfl) :
  PE X (.Call (.Attribute o m ai) (e::es) [] pos) (xQ C m sp dvs E ta t):=by
 intro ah s σ H Q I h;refine bT6 (pl:=pl) (aN (he ah s σ H _ I h) λu s1 ⟨x,H1,I1,rx,a,dx,fs,ex,ea,l,q⟩=>?_) ht;subst ex;obtain rfl:u=Value.ref a:=rx;refine qG I1 ea c hm l ?_;refine PySem.W.callWith_K (first:=[.ref a]) (h₀:=X.base) I.ok.mod.kin hm.kp (aN (ha pos ah s1 σ H1 _ I1 q) λus s2 ⟨vs,H2,I2,r,q2⟩=>⟨I2.kIn,?_⟩) hst hpl;exact xR (us:=.ref a::us) (vs:=.ref a::vs) F hr hb hd hx I2 (.cons rfl r) q2
theorem aG3 {pl:Sem Bool}(he:PE X o ta)(c:gQ X.K C)(hm:eS X.K C m f)(F:bU X.prog X.w X.K X.mg X.base CX k f fd ps sp)(hr:bJ k X.A)(hb:dQ X.K fd ps ds)(hd:aW dvs ds)(hx:iC CX X E)(ht:eval (.Call (.Attribute o m ai) [] [] pos) X.env=(do
   let ov <- eval o X.env
   standAt ai.atName
   let (f,first) <- holding [ov] (getMethod ov m pl)
   callWith pos f first (backTo pos (starEach [] X.env)) (backToKw pos (keywordEach [] X.env))):=by rfl) :
  PE X (.Call (.Attribute o m ai) [] [] pos) (xQ C m sp dvs E ta g9):=by
 intro ah s σ H Q I h;refine bT6 (pl:=pl) (aN (he ah s σ H _ I h) λu s1 ⟨x,H1,I1,rx,a,dx,fs,ex,ea,l,q⟩=>?_) ht;subst ex;obtain rfl:u=Value.ref a:=rx;refine qG I1 ea c hm l ?_;exact PySem.W.callWith_K0 (first:=[.ref a]) I1.kIn hm.kp (xR (us:=[.ref a]) (vs:=[.ref a]) F hr hb hd hx I1 (.cons rfl .nil) q)
structure Mk (K:ae)(C f:ax):Prop where
 makes:PySem.W.makesIn K C=true
 init:PySem.W.findIn K (.ref C) "__init__" = some (some (.ref f))
 fn:PySem.W.isFn K (.ref f)=true
 kp:PySem.W.keepIn K (.ref C)=true
theorem aG4 {ah:List (ax×Obj)}{σ:St}{H:Hp}{s:aw}{Q:VK}{us:List av}{vs:List V}(M:Mk X.K C f)(F:bU X.prog X.w X.K X.mg X.base CX k f fd ps sp)(hr:bJ (k+1) X.A)(hb:dQ X.K fd ps ds)(hd:aW dvs ds)(hx:iC CX X E)(I:a7 X ah σ H s)(r:aW vs us)(h:∀x dx,H x=none->H dx=none->dx≠x->sp (.ref x::(vs++dvs)) (upd (upd H dx (.own x)) x (.ins C dx [])) (λv H2=>v = .non/\Q (.ref x) H2) E) :
  wpAny (model X.prog X.w) X.A (call (.ref C) us) (EP X ah σ Q) X.xe s:=by
 have hq:=h (s.heap.objs.size+1) s.heap.objs.size (I.hok.fresh (bU8 _)) (I.hok.fresh (bF7 _)) (bI3 (Nat.lt_succ_self _));have I2:=a7.made (C:=C) I;have r2:aW (V.ref (s.heap.objs.size+1)::(vs++dvs)) (Value.ref (s.heap.objs.size+1)::(us++ds)):=.cons rfl (r.append hd);have hl:(Value.ref (s.heap.objs.size+1)::us++ds).length=ps.length:=by
  have e:=r2.length;rw[F.len _ _ _ _ hq]at e;exact e.symm
 refine wpAny_call (aF2 (f:=f) I.kIn M.makes M.init (bV0.mp M.fn) (codeAny_mono (F.run _ X.stack _ _ ⟨Value.ref (s.heap.objs.size+1)::us,[]⟩ (Value.ref (s.heap.objs.size+1)::(us++ds)) _ _ E (hr.make C us [])
  (I2.env0.make C us []) (hb _ (Value.ref (s.heap.objs.size+1)::us) I2.kIn hl) r2 hq) λr s' hq'=>?_))
 cases r with
 |error e=>exact hx ah σ _ _ e s' I2 hq'
 |ok fl=>
  cases fl with
  |ret u=>
   obtain⟨v,H',I3,rv,ev,q3⟩:=I2.after hq'
   subst ev
   exact⟨rv,⟨V.ref (s.heap.objs.size+1),H',I3,rfl,q3⟩⟩
  |next=>exact False.elim hq'
  |brk=>exact False.elim hq'
  |cont=>exact False.elim hq'
theorem aG5 (M:Mk X.K C f)(F:bU X.prog X.w X.K X.mg X.base CX k f fd ps sp)(hr:bJ (k+1) X.A)(hg:Gl X x)(hm:X.mg x=some (.ref C))(hb:dQ X.K fd ps ds)(hd:aW dvs ds)(hx:iC CX X E)(ha:PA X (e::es) t)(hdb:(x==("__debug__":Str))=false:=by decide)(he:starEach (e::es) X.env=(false,eval e X.env)::starEach es X.env:=by rfl)(hpl:(backTo pos (starEach es X.env)).any (·.1)=false:=by rfl) :
  PE X (.Call (.Name x p) (e::es) [] pos) (aG1 C sp dvs E t):=by
 intro ah s σ H Q I h;refine wpAny_Call_Name_kw (oA I hg hm ?_ hdb);refine PySem.W.callWith_K (h₀:=X.base) I.ok.mod.kin M.kp (aN (ha pos ah s σ H _ I h) λus s1 ⟨vs,H1,I1,r,q⟩=>⟨I1.kIn,?_⟩) he hpl;exact aG4 M F hr hb hd hx I1 r q
end
def PK (X:Cx)(kws:List Keyword)(t:TA):Prop:=
 ∀(pos:Pos) (ah:List (ax×Obj)) (s:aw) (σ:St) (H:Hp) (Q:List V->Hp->Prop),a7 X ah σ H s->t σ H Q->wpAny (model X.prog X.w) X.A (evalAll ((backToKw pos (keywordEach kws X.env)).map (·.2))) (AP X ah σ Q) X.xe s
structure FnScope (N P:List Str)(sc:Scope):Prop where
 kind:sc.kind = .function
 co:sc.isCoroutine=false
 gen:sc.isGenerator=false
 nd:N.Nodup
 pre:N.take P.length=P
 par:∀x∈P,sc.names.lookup x=some .local∨sc.names.lookup x=some .cell
 nofree:∀y∈sc.names,y.2≠.free
theorem S8 {kindOf:Str->Option NameKind}{x:Str}:∀{binds:List (Str×av)}{m:Str->Option av},(∀v,(x,v)∉binds)->bindL kindOf binds m x=m x
 |[],_,_=>rfl
 |(n,v)::r,m,h=>by
  unfold bindL;rw[S8 λw hw=>h w (bG8 _ hw)];split
  ·have:x≠n:=by rintro rfl;exact h v bG7
   simp[this]
  ·rfl
theorem S9 {kindOf:Str->Option NameKind}{x:Str}:∀{binds:List (Str×av)}{m:Str->Option av},(∀v,(x,v)∉binds)->bindC kindOf binds m x=m x
 |[],_,_=>rfl
 |(n,v)::r,m,h=>by
  unfold bindC;rw[S9 λw hw=>h w (bG8 _ hw)];split
  ·rfl
  ·have:x≠n:=by rintro rfl;exact h v bG7
   simp[this]
theorem T0 {kindOf:Str->Option NameKind}{x:Str}{v:av}:∀{P:List Str}{vs:List av}{i:Nat}{m:Str->Option av},P.Nodup->P[i]? = some x->vs[i]? = some v->kindOf x=some .local->
  bindL kindOf (P.zip vs) m x=some v
 |[],_,_,_,_,h,_,_=>by simp at h
 |_::_,[],_,_,_,_,h,_=>by simp at h
 |p::P,w::vs,0,m,nd,h1,h2,hk=>by
  simp at h1 h2;subst h1;subst h2;show bindL kindOf ((p,w)::P.zip vs) m p=_;unfold bindL;rw[S8 λv hv=>(List.nodup_cons.mp nd).1 (List.of_mem_zip hv).1,if_pos hk];simp
 |p::P,w::vs,i+1,m,nd,h1,h2,hk=>by
  show bindL kindOf ((p,w)::P.zip vs) m x=_;unfold bindL;exact T0 (i:=i) (List.nodup_cons.mp nd).2 (by simpa using h1) (by simpa using h2) hk
theorem T1 {kindOf:Str->Option NameKind}{x:Str}{v:av}:∀{P:List Str}{vs:List av}{i:Nat}{m:Str->Option av},P.Nodup->P[i]? = some x->vs[i]? = some v->kindOf x≠some .local->
  bindC kindOf (P.zip vs) m x=some v
 |[],_,_,_,_,h,_,_=>by simp at h
 |_::_,[],_,_,_,_,h,_=>by simp at h
 |p::P,w::vs,0,m,nd,h1,h2,hk=>by
  simp at h1 h2;subst h1;subst h2;show bindC kindOf ((p,w)::P.zip vs) m p=_;unfold bindC;rw[S9 λv hv=>(List.nodup_cons.mp nd).1 (List.of_mem_zip hv).1,if_neg hk];simp
 |p::P,w::vs,i+1,m,nd,h1,h2,hk=>by
  show bindC kindOf ((p,w)::P.zip vs) m x=_;unfold bindC;exact T1 (i:=i) (List.nodup_cons.mp nd).2 (by simpa using h1) (by simpa using h2) hk
def gA (N:List Str)(vs:List V):St:=vs.map some++List.replicate (N.length-vs.length) none
def cP (CX:iZ)(P:ay)(w:ba)(K:ae)(mg:Str->Option av)(base:Heap)(N:List Str)(qual:Str)(scope:Scope)(f:ax)(cd:av)(A:az)(outer:List Env)(s:aw)(H:Hp)(E:XK):Cx where
 prog:=P
 w:=w
 K:=K
 mg:=mg
 base:=base
 A:=A.deeper (envOfC qual scope s.heap.objs.size f cd)
 N:=N
 s₀:=s
 H₀:=H
 env:=envOfC qual scope s.heap.objs.size f cd
 outer:=outer
 stack:=envOfC qual scope s.heap.objs.size f cd::outer
 ex:=[]
 calm:=true
 fn:=λ_=>true
 pn:=[]
 xe:=λe s'=>wpAny (model P w) (A.deeper (envOfC qual scope s.heap.objs.size f cd)) (leaving (envOfC qual scope s.heap.objs.size f cd) e) (λ_ s''=>CX outer H s E e s'') (λe' s''=>CX outer H s E e' s'') s'
theorem T2 {sc:Scope}{n:Nat}{x:Str}(h:sc.names.lookup x=some .cell):∃c,(cellsFrom n sc.names []).lookup x=some c:=by
 have q:=PySem.W.cellsFrom_some sc.names n [] (.inl h);exact Option.isSome_iff_exists.mp q
theorem aG6 {CX:iZ}{P:ay}{w:ba}{K:ae}{mg:Str->Option av}{base:Heap}{N ps:List Str}{qual:Str}{scope:Scope}{f:ax}{cd:av}{A:az}{outer:List Env}{s s1:aw}{H:Hp}{E:XK}{us:List av}{vs:List V}(S:FnScope N ps scope)(hd:A.handled=none)(e0:nK P w K mg base A outer s H)(hl:vs.length=ps.length)(r:aW vs us)(x:InCallC s s.heap.objs.size (bindL (envOfC qual scope s.heap.objs.size f cd).kindOf (ps.zip us) λ_=>none) (cellsFrom (s.heap.objs.size+1) scope.names []) (bindC (envOfC qual scope s.heap.objs.size f cd).kindOf (ps.zip us) λ_=>none) s1) :
  a7 (cP CX P w K mg base N qual scope f cd A outer s H E) [] (gA N vs) H s1:=by
 have hpl:ps.length<=N.length:=by have:=congrArg List.length S.pre;rw[bI8]at this;omega
 obtain⟨h1,tk,rfl,hk⟩:=x.done
 have noA:∀b:ax,b∉(cP CX P w K mg base N qual scope f cd A outer s H E).ex:=λb z=>absurd (show b∈([]:List ax) from z) (by simp)
 refine⟨⟨e0.mod,S.kind,rfl,rfl,bF7 _,λy z c h1 h2=>?_,λy hy=>?_,λy c _ h=>?_,λ_=>hd,Around.frames_deeper e0.frames,.inr ⟨rfl,rfl⟩,λb z=>absurd z (noA b),e0.bs,e0.bsz,λb _ _=>noA b,λb z=>absurd z (noA b),e0.funs,e0.frf⟩,
  rfl,e0.bare,Un.kept hk,⟨_,x.toInCall.ns,λi y v h1 h2 h3=>?_⟩,λy c h=>⟨_,x.cell y c h⟩,e0.hok.fresh (bF7 _),λy c h=>?_,λp hp=>absurd (show p∈([]:List (ax×Obj)) from hp) (by simp),e0.hok.kept hk,?_⟩
 ·exact name_of_addr x.apart (bK5 h1) (bK5 h2)
 ·have hy:scope.names.lookup y=some .cell∨scope.names.lookup y=some .free:=hy
  rcases hy with hy|hy
  ·exact T2 hy
  ·exact absurd rfl (S.nofree _ (bK5 hy))
 ·exact bJ6 (x.above y c (bK5 h))
 ·have hi:i<vs.length:=by
   unfold gA at h2;by_cases hi:i<vs.length
   ·exact hi
   ·rw[bO0 (by simpa using hi)]at h2
    rw[List.getElem?_replicate]at h2;split at h2<;>cases h2
  have ha:vs[i]? = some v:=by
   unfold gA at h2;rw[bL5 (by simpa using hi),bG4]at h2;cases e:vs[i]? with
   |none=>rw[e]at h2;cases h2
   |some a=>rw[e]at h2;cases h2;rfl
  obtain⟨u,hu,rv⟩:=r.get ha
  have hp:ps[i]? = some y:=by
   rw[<- S.pre,List.getElem?_take_of_lt (by omega)];exact h1
  have ndP:ps.Nodup:=by rw[<- S.pre];exact S.nd.sublist (List.take_sublist _ _)
  refine⟨u,rv,?_⟩;rcases S.par y (bJ7 hp) with k|k
  ·exact .inl ⟨k,T0 ndP hp hu k⟩
  ·obtain⟨c,e⟩:=T2 (n:=s.heap.objs.size+1) k
   refine .inr ⟨.inl k,c,e,?_⟩;have q:=x.cell y c e;rw[T1 ndP hp hu (by show scope.names.lookup y≠_;rw[k];decide)]at q;exact q
 ·exact e0.hok.fresh (bJ6 (x.above y c (bK5 h)))
 ·unfold gA
  show _=N.length;rw[bF4,bF1,List.length_replicate];omega
theorem T3 {CX:iZ}{P:ay}{w:ba}{K:ae}{mg:Str->Option av}{base:Heap}{k:Nat}{f:ax}{name qual:Str}{params:Arguments}{body:List Stmt}{scope:Scope}{dV kV doc pm cdv ct oc:av}{an od:Option ax}{osl:Array (Option av)}{N ps:List Str}{sp:Sp}(lk:K.lookup f=some ⟨oc,od,.func (PySem.W.fnOf name qual params body scope dV kV doc pm an cdv ct),osl⟩)(hcd:PySem.W.codeIn K cdv qual=true)(S:FnScope N ps scope)(len:∀vs H Q E,sp vs H Q E->vs.length=ps.length)(hbody:∀(A:az) (outer:List Env) (s:aw) (H:Hp) (vs:List V) (Q:VK) (E:XK),bJ k (A.deeper (envOfC qual scope s.heap.objs.size f cdv))->sp vs H Q E->
   ∃t,dL (cP CX P w K mg base N qual scope f cdv A outer s H E) body t/\t { nx:=λ_ H'=>Q .non H',rt:=Q } (gA N vs) H) :
  bU P w K mg base CX (k+1) f (PySem.W.fnOf name qual params body scope dV kV doc pm an cdv ct) ps sp:=by
 refine⟨len,λA outer s H args us vs Q E hr e0 hb r hsp=>?_⟩;have hl:=len _ _ _ _ hsp;have KX:K.In s.heap:=e0.mod.kin.keeps λb o e=>(e0.bs b o e).1
 have lim:s.heap.NoLimit:=e0.mod.nolimit.keeps λb o e=>(e0.bs b o e).1
 have hkind:∀y∈ps.zip us,scope.names.lookup y.1=some .local∨(scope.names.lookup y.1=some .cell/\((cellsFrom (s.heap.objs.size+1) scope.names []).lookup y.1).isSome=true):=λ⟨n,v⟩ hy=>by
  rcases S.par n (List.of_mem_zip hy).1 with q|q
  ·exact .inl q
  ·exact .inr ⟨q,PySem.W.cellsFrom_some _ _ _ (.inl q)⟩
 refine codeAny_call_function hr.depth (KX _ _ lk) rfl S.co S.gen rfl (PySem.W.codeRec_of KX hcd) (hb _ _ _ _ ?_);refine wpAny_newFunctionEnv_cells S.kind hkind λenv he s1 x=>?_
 subst he;refine⟨lim.keeps x.toInCall.keep,codeAny_func ?_⟩
 obtain⟨t,ht,hq⟩:=hbody A outer s H vs Q E (hr.deeper _) hsp
 have I:a7 (cP CX P w K mg base N qual scope f cdv A outer s H E) [] (gA N vs) H s1:=aG6 S hr.hd e0 hl r x;refine bK8 (ht [] s1 (gA N vs) H _ I hq) (λfl s' hs=>?_) λe s' hs=>hs
 have fin:∀{σ':St}{H':Hp}{v:V}{u:av},a7 (cP CX P w K mg base N qual scope f cdv A outer s H E) [] σ' H' s'->aZ v u->Q v H'->CE outer P w H s Q u s':=
  λ{σ' H' v u} J rv q=>⟨v,H',J.os,J.bare,J.base,J.hok,rv,q⟩
 cases fl with
 |ret u=>
  obtain⟨v,σ',H',J,rv,q⟩:=hs
  exact fin J rv q
 |next=>
  obtain⟨σ',H',J,q⟩:=hs
  exact fin (v:=V.non) (u:=Value.none) J rfl q
 |brk=>
  obtain⟨_,_,_,q⟩:=hs
  exact False.elim q
 |cont=>
  obtain⟨_,_,_,q⟩:=hs
  exact False.elim q
section
variable {X:Cx}{x:Str}{p pos:Pos}{e:Expr}{es:List Expr}{t:TA}{id T:String}{r:List V→Hp→VK→Prop}
def xS (r:List V->Hp->VK->Prop)(t:TA):TE:=λσ H Q=>t σ H λvs H1=>r vs H1 Q
theorem oG (hc:cG X (.builtin id) r)(hg:Gl X x)(hm:X.mg x=none)(hv:bootBuiltins x=some (.builtin id))(ha:PA X (e::es) t)(hn:x≠"__name__":=by decide)(hdb:(x==("__debug__":Str))=false:=by decide)(he:starEach (e::es) X.env=(false,eval e X.env)::starEach es X.env:=by rfl)(hpl:(backTo pos (starEach es X.env)).any (·.1)=false:=by rfl):PE X (.Call (.Name x p) (e::es) [] pos) (xS r t):=by
 intro ah s σ H Q I h;refine wpAny_Call_Name_kw (kQ I hg hm hv ?_ hn hdb);exact PyProof.Rows.callWith_builtin1 (aN (ha pos ah s σ H _ I h) λus s1 ⟨vs,H1,I1,r1,q1⟩=>hc ah s1 σ H1 vs us Q I1 r1 q1) he hpl
theorem T4 (hc:cG X (.type T) r)(hg:Gl X x)(hm:X.mg x=none)(hv:bootBuiltins x=some (.type T))(ha:PA X (e::es) t)(hn:x≠"__name__":=by decide)(hdb:(x==("__debug__":Str))=false:=by decide)(he:starEach (e::es) X.env=(false,eval e X.env)::starEach es X.env:=by rfl)(hpl:(backTo pos (starEach es X.env)).any (·.1)=false:=by rfl):PE X (.Call (.Name x p) (e::es) [] pos) (xS r t):=by
 intro ah s σ H Q I h;refine wpAny_Call_Name_kw (kQ I hg hm hv ?_ hn hdb);exact bM3 (aN (ha pos ah s σ H _ I h) λus s1 ⟨vs,H1,I1,r1,q1⟩=>hc ah s1 σ H1 vs us Q I1 r1 q1) he hpl
end
end L2
namespace HT
open PySem PyProof.Rows
def dR:ag->ag->Bool
 |[],[]=>false
 |[],_::_=>true
 |_::_,[]=>false
 |x::xs,y::ys=>if x=y then dR xs ys else decide (x<y)
theorem m6 (x y:Int)(xs ys:ag):dR (x::xs) (y::ys)=if x=y then dR xs ys else decide (x<y):=rfl
theorem T5:dR [] []=false:=rfl
section
variable {prog:ay}{w:ba}{A:az}{E:av→aw→Prop}{s:aw}
theorem aG7 {t b:ax}{vs ws:List av}{Q:av->aw->Prop}(ht:IsTup s.heap t vs.toArray)(hb:IsTup s.heap b ws.toArray)(hv:vs≠[])(h1:ws = []->Q (.ref t) s)(h2:ws≠[]->Q (.ref s.heap.objs.size) { s with heap:=s.heap.push { cls:=.type "tuple",data:=.seq (vs++ws).toArray } })(hsz:vs.length+ws.length<=sizeLine):wpAny (model prog w) A (binaryOp .Add (.ref t) (.ref b)) Q E s:=by
 obtain⟨⟨cls,dd,data,sl⟩,ho,hc,n,hd⟩:=id ht
 obtain⟨⟨cls2,dd2,data2,sl2⟩,ho2,hc2,n2,hd2⟩:=id hb
 simp only at hc hd hc2 hd2;subst hc hd hc2 hd2;have e:vs.toArray++ws.toArray=(vs++ws).toArray:=by simp
 by_cases hw:ws = []
 ·exact concat_meets ⟨_,ho,rfl⟩ ⟨_,ho2,rfl⟩ noFill_tuple_add seq_tuple_add PySem.F.slot_tuple_add PySem.F.entry_tuple_add (PySem.F.args_tuple_add_2 _ _)
   (tuple_addW1 t b vs.toArray ws.toArray n n2 dd dd2 sl sl2 (by simpa using hv) (by simp[hw])) ⟨ho,ho2,h1 hw⟩
 ·refine concat_meets ⟨_,ho,rfl⟩ ⟨_,ho2,rfl⟩ noFill_tuple_add seq_tuple_add PySem.F.slot_tuple_add PySem.F.entry_tuple_add (PySem.F.args_tuple_add_2 _ _)
   (tuple_addW2 t b vs.toArray ws.toArray n n2 dd dd2 sl sl2 (by simpa using hv) (by simpa using hw) (by rw[bF2,bF2];exact hsz)) ⟨ho,ho2,?_⟩
  rw[e];exact h2 hw
def b9 (n d:Nat):Option Int->Nat
 |none=>d
 |some v=>if v<0 then (v+(n:Int)).toNat else min v.toNat n
theorem aG8 (n d:Nat):b9 n d none=d:=rfl
theorem T6 (n d k:Nat):b9 n d (some (k:Int))=min k n:=by
 show (if (k:Int)<0 then ((k:Int)+(n:Int)).toNat else min (k:Int).toNat n)=min k n;rw[if_neg (by omega),Int.toNat_natCast]
theorem aG9 (n d:Nat)(hd:d<=n)(o:Option Int):b9 n d o<=n:=by
 cases o with
 |none=>exact hd
 |some v=>
  show (if v<0 then (v+(n:Int)).toNat else min v.toNat n)<=n;by_cases hv:v<0
  ·rw[if_pos hv];omega
  ·rw[if_neg hv];exact Nat.min_le_right _ _
theorem T7 (v:Int)(n d:Nat):(if v<0 then max (v+(n:Int)) 0 else min v (n:Int))=((b9 n d (some v):Nat):Int):=by
 show (if v<0 then max (v+(n:Int)) 0 else min v (n:Int))=(((if v<0 then (v+(n:Int)).toNat else min v.toNat n):Nat):Int);by_cases hv:v<0
 ·simp only[if_pos hv];omega
 ·simp only[if_neg hv];omega
theorem aH0 (lo hi:Option Int)(n:Nat):Builtin.Slice.sliceAdjust lo hi 1 (n:Int)=(((b9 n 0 lo:Nat):Int),((b9 n n hi:Nat):Int)):=by
 have h1:¬((1:Int)<0):=by omega
 unfold Builtin.Slice.sliceAdjust;simp only[h1,bM7];refine Prod.ext ?_ ?_
 ·cases lo with
  |none=>rfl
  |some v=>exact T7 v n 0
 ·cases hi with
  |none=>rfl
  |some v=>exact T7 v n n
theorem aH1 (i j:Nat):Builtin.Slice.slicePlaces (i:Int) (j:Int) 1=j-i:=by
 unfold Builtin.Slice.slicePlaces;have h1:(1:Int)>0:=by omega
 simp only[h1,if_true,Int.ediv_one];split<;>omega
theorem T8 {v:av}{o:Option Int}{Q:Option Int->aw->Prop}(p:IsPart v o)(h:Q o s):wpAny (model prog w) A (Builtin.Slice.slicePartIndex v) Q E s:=by
 cases p with
 |none=>exact slicePart_none h
 |int i t=>exact slicePart_int h
theorem T9 {sl:ax}{vl vu:av}{lo hi:Option Int}{n:Nat}{Q:Int×Int×Nat->aw->Prop}(hs:s.heap.IsSliceOf sl vl vu .none)(pl:IsPart vl lo)(pu:IsPart vu hi)(h:Q (((b9 n 0 lo:Nat):Int),1,b9 n n hi-b9 n 0 lo) s):wpAny (model prog w) A (Builtin.Slice.sliceApplied (.ref sl) (pure (n:Int))) Q E s:=by
 obtain⟨os,hos,hcs,hds⟩:=id hs
 unfold Builtin.Slice.sliceApplied Builtin.Slice.sliceFields;refine bE9 (bE9 (bO6 hos hds (x:=vl) rfl (bE9 (bO6 hos hds (x:=vu) rfl (bE9 (bO6 hos hds (x:=.none) rfl (bF5 ?_)))))));refine bE9 (slicePart_none ?_);show wpAny _ _ (if ((1:Int)==0)=true then _ else _) _ _ s;rw[if_neg (by decide)];refine bE9 (T8 pl (bE9 (T8 pu (bE9 (bF5 ?_)))));show wpAny _ _ (match Builtin.Slice.sliceAdjust lo hi 1 (n:Int) with|(lo,hi)=>pure (lo,(1:Int),Builtin.Slice.slicePlaces lo hi 1)) _ _ s;rw[aH0 lo hi n];show wpAny _ _ (pure (((b9 n 0 lo:Nat):Int),(1:Int),Builtin.Slice.slicePlaces ((b9 n 0 lo:Nat):Int) ((b9 n n hi:Nat):Int) 1)) _ _ s;rw[aH1];exact bF5 h
theorem aH2 (xs:Array av)(i k:Nat):((List.range k).filterMap λ(m:Nat)=>xs[((i:Int)+(m:Int)*1).toNat]?).toArray=((xs.toList.drop i).take k).toArray:=by
 have e:(λ(m:Nat)=>xs[((i:Int)+(m:Int)*1).toNat]?)=λm=>xs[i+m]?:=by
  funext m
  have:((i:Int)+(m:Int)*1).toNat=i+m:=by omega
  rw[this]
 rw[e]
 have:=pick_run xs i k
 rw[List.filterMap_map]at this;have e2:((λx=>xs[x]?) ∘ λx=>i+x)=λm=>xs[i+m]?:=rfl
 rw[e2]at this;rw[this]
theorem aH3 {t sl:ax}{items:Array av}{vl vu:av}{lo hi:Option Int}{Q:av->aw->Prop}(ht:IsTup s.heap t items)(hs:s.heap.IsSliceOf sl vl vu .none)(pl:IsPart vl lo)(pu:IsPart vu hi)(hw:¬(b9 items.size 0 lo=0/\b9 items.size items.size hi=items.size))(h:Q (.ref s.heap.objs.size) { s with heap:=s.heap.push { cls:=.type "tuple",data:=.seq ((items.toList.drop (b9 items.size 0 lo)).take (b9 items.size items.size hi-b9 items.size 0 lo)).toArray } })(hsz:items.size<=sizeLine):wpAny (model prog w) A (getItem (.ref t) (.ref sl)) Q E s:=by
 have htake:sizeOk (.seq ((items.toList.drop (b9 items.size 0 lo)).take (b9 items.size items.size hi-b9 items.size 0 lo)).toArray):=by
  show ((items.toList.drop (b9 items.size 0 lo)).take (b9 items.size items.size hi-b9 items.size 0 lo)).toArray.size<=sizeLine;rw[bF2,bI8,bP4,Array.length_toList];omega
 have hj:b9 items.size items.size hi<=items.size:=aG9 _ _ (bF7 _) hi
 obtain⟨os,hos,hcs,hds⟩:=id hs
 have hTs:s.TypeIs (.ref sl) "slice":=⟨os,hos,hcs⟩;unfold getItem
 try with_reducible refine bP7 ?_
 first|refine bE9 (bF5 ?_)|skip
 refine bE9 (wpAny_sequenceKey ht.typeIs (by decide) ?_)
 refine bE9 (bN8 (name:=Str.ofString "__getitem__") ht.typeIs bQ4
  (bL9 bQ4 ht.typeIs entry_tuple_getitem ?_ (args_tuple_getitem _ _)))
 show wpAny _ _ (Builtin.Tuple.tupleItemsOf (.ref t) >>= _) _ _ s;refine bE9 (tupleItemsOf_ ht ?_);refine bE9 (wpAny_typeOf hTs ?_);rw[if_pos (by decide)];refine bE9 (T9 hs pl pu ?_);have hno:¬((((b9 items.size 0 lo:Nat):Int)==0&&(1:Int)==1&&(b9 items.size items.size hi-b9 items.size 0 lo)==items.size)=true):=by
  intro q;rw[bI4,bI4]at q;have q1:((b9 items.size 0 lo:Nat):Int)=0:=eq_of_beq q.1.1;have q2:b9 items.size items.size hi-b9 items.size 0 lo=items.size:=eq_of_beq q.2;exact hw ⟨by omega,by omega⟩
 show wpAny _ _ (if (((b9 items.size 0 lo:Nat):Int)==0&&(1:Int)==1&&(b9 items.size items.size hi-b9 items.size 0 lo)==items.size)=true then _ else _) _ _ s;rw[if_neg hno,aH2]
 first
  |exact bE9 (m:=Builtin.Tuple.tupleExact _) (bM6 (bF5 ⟨_,rfl,bF5 h⟩) htake)
  |exact bE9 (m:=Builtin.Tuple.tupleExact _) (bM6 (bE9 (bF5 (bF5 ⟨_,rfl,bF5 h⟩))) htake)
  |exact bE9 (bE9 (m:=Builtin.Tuple.tupleExact _) (bM6 (bF5 (bF5 ⟨_,rfl,bF5 h⟩)) htake))
  |exact bE9 (bE9 (m:=Builtin.Tuple.tupleExact _) (bM6 (bF5 ⟨_,rfl,bF5 h⟩) htake))
end
end HT
namespace L2
open PySem PySem.Spec PyProof.Rows
abbrev TO:=St->Hp->(Option Int->Hp->Prop)->Prop
def PO (X:Cx)(e:Option Expr)(t:TO):Prop:=
 ∀(ah:List (ax×Obj)) (s:aw) (σ:St) (H:Hp) (Q:Option Int->Hp->Prop),a7 X ah σ H s->t σ H Q->
  wpAny (model X.prog X.w) X.A (evalPart e X.env) (λu s'=>∃o H',a7 X ah σ H' s'/\IsPart u o/\Q o H') X.xe s
def aH4:TO:=λ_ H Q=>Q none H
def aH5 (t:TE):TO:=λσ H Q=>t σ H λx H1=>∃i,x = .int i/\Q (some i) H1
theorem jE {ns:ag}:∀{us:List av},aW (ns.map V.int) us->IntsAre us ns:=by
 induction ns with
 |nil=>intro us r;rw[List.map_nil]at r;cases r;exact .nil
 |cons n ns ih=>
  intro us r;rw[bL0]at r;cases r with
  |cons r1 r2=>
   obtain⟨t,e⟩:=r1
   subst e;exact .cons n t (ih r2)
section
variable {X:Cx}{e:Expr}{te:TE}{lo hi:Option Expr}{tl th:TO}{pos p2:Pos}
theorem xT:PO X none aH4:=by
 intro ah s σ H Q I h;rw[evalPart_none];exact bF5 ⟨none,H,I,.none,h⟩
theorem xU (h:PE X e te):PO X (some e) (aH5 te):=by
 intro ah s σ H Q I hw;rw[evalPart_some];refine aN (h ah s σ H _ I hw) λu s1 ⟨x,H1,I1,r1,q1⟩=>?_
 obtain⟨i,rfl,q⟩:=q1
 obtain⟨t,rfl⟩:=r1
 exact⟨some i,H1,I1,.int i t,q⟩
def m7 (X:Cx)(r:V->Option Int->Option Int->Hp->VK->Prop):Prop:=
 ∀(ah:List (ax×Obj)) (s:aw) (σ:St) (H:Hp) (x:V) (v vl vu:av) (lo hi:Option Int) (sl:ax) (Q:VK),a7 X ah σ H s->aZ x v->s.heap.IsSliceOf sl vl vu .none->IsPart vl lo->IsPart vu hi->r x lo hi H Q->
  ∃T id,typeLookup (.type T) "__getitem__" = pure (some (.builtin id))/\s.TypeIs v T/\wpAny (model X.prog X.w) X.A (getItem v (.ref sl)) (EP X ah σ Q) X.xe s
theorem m7.or {r r':V->Option Int->Option Int->Hp->VK->Prop}(h:m7 X r)(h':m7 X r'):m7 X (λx lo hi H Q=>r x lo hi H Q∨r' x lo hi H Q):=by
 intro ah s σ H x v vl vu lo hi sl Q I rx hs pl pu q;rcases q with q|q
 ·exact h ah s σ H x v vl vu lo hi sl Q I rx hs pl pu q
 ·exact h' ah s σ H x v vl vu lo hi sl Q I rx hs pl pu q
def tSl (r:V->Option Int->Option Int->Hp->VK->Prop)(te:TE)(tl th:TO):TE:=λσ H Q=>te σ H λx H1=>tl σ H1 λl H2=>th σ H2 λu H3=>r x l u H3 Q
theorem xV {r:V->Option Int->Option Int->Hp->VK->Prop}(hr:m7 X r)(he:PE X e te)(hl:PO X lo tl)(hu:PO X hi th):PE X (.Subscript e (.Slice lo hi none p2) pos) (tSl r te tl th):=by
 intro ah s σ H Q I h;refine Subscript_ (aN (he ah s σ H _ I h) λv s1 ⟨x,H1,I1,r1,q1⟩=>?_);refine wpAny_Slice (aN (hl ah s1 σ H1 _ I1 q1) λvl s2 ⟨l,H2,I2,pl,q2⟩=>aN (hu ah s2 σ H2 _ I2 q2) λvu s3 ⟨u,H3,I3,pu,q3⟩=>?_);rw[evalPart_none];refine bF5 ?_;have I4:a7 X ah σ H3 { s3 with heap:=s3.heap.push { cls:=.type "slice",data:=.fields #[vl,vu,.none] } }:=I3.kept (t':=s3.toks) λb ob q=>bF0 _ q
 obtain⟨T,id,hT,ht,hg⟩:=hr ah { s3 with heap:=s3.heap.push { cls:=.type "slice",data:=.fields #[vl,vu,.none] } } σ H3 x v vl vu l u s3.heap.objs.size Q I4 r1 (Heap.IsSliceOf.new ..) pl pu q3
 show wpAny (model X.prog X.w) X.A (subscriptTail e (.Slice lo hi none p2) v (.ref s3.heap.objs.size)) (EP X ah σ Q) X.xe { s3 with heap:=s3.heap.push { cls:=.type "slice",data:=.fields #[vl,vu,.none] } };exact tail_any (ops:=[.ref s3.heap.objs.size,v]) ht hT hg (by with_unfolding_all rfl)
def fN (xs:List V)(lo hi:Option Int):List V:=(xs.drop (HT.b9 xs.length 0 lo)).take (HT.b9 xs.length xs.length hi-HT.b9 xs.length 0 lo)
theorem U0 (xs:List V)(lo hi:Option Int):(fN xs lo hi).length<=xs.length:=by
 unfold fN;rw[bI8,bP4];omega
def aH6 (K:ae):V->Option Int->Option Int->Hp->VK->Prop:=λx lo hi H Q=>∃a xs,x = .ref a/\aP K H a xs/\
 ¬(HT.b9 xs.length 0 lo=0/\HT.b9 xs.length xs.length hi=xs.length)/\∀p,H p=none->Q (.ref p) (upd H p (.tup (fN xs lo hi)))
theorem aH7:m7 X (aH6 X.K):=by
 intro ah s σ H x v vl vu lo hi sl Q I rx hs pl pu h
 obtain⟨a,xs,rfl,hx,hw,q⟩:=h
 cases rx
 obtain⟨its,r,ht,hz⟩:=I.tuple hx
 have am:its.toArray.size=xs.length:=by rw[bF2];exact r.length.symm
 refine⟨"tuple",_,PyProof.Rows.slot_tuple_getitem.lookup,ht.typeIs,?_⟩;refine HT.aH3 ht hs pl pu (by rw[am];exact hw) ?_ (by rw[am];exact hz);rw[am];refine⟨.ref s.heap.objs.size,_,I.laid (t':=s.toks) (o:=.tup (fN xs lo hi)) (λb ob q=>bF0 _ q) (bF7 _) ?_,rfl,q _ (I.hok.fresh (bF7 _))⟩
 exact⟨bH6 (U0 xs lo hi) hz,_,(r.drop (HT.b9 xs.length 0 lo)).take (HT.b9 xs.length xs.length hi-HT.b9 xs.length 0 lo),IsTup.new _ _,jX.new _ _ rfl⟩
def aH8 (K:ae):R2:=λx y H Q=>∃a b xs ys,x = .ref a/\y = .ref b/\aP K H a xs/\aP K H b ys/\xs≠[]/\xs.length+ys.length<=sizeLine/\
 (ys = []->Q (.ref a) H)/\(ys≠[]->∀p,H p=none->Q (.ref p) (upd H p (.tup (xs++ys))))
theorem aW.nil_iff {xs:List V}{us:List av}(r:aW xs us):us = []↔xs = []:=by
 cases r with
 |nil=>simp
 |cons _ _=>simp
theorem aH9:cL X (binaryOp .Add) (aH8 X.K):=by
 intro ah s σ H x y v u Q I rx ry h
 obtain⟨a,b,xs,ys,rfl,rfl,ha,hb,hx,hz,q1,q2⟩:=h
 cases rx;cases ry
 obtain⟨its,r1,p1,_⟩:=I.tuple ha
 obtain⟨aq,r2,p2,_⟩:=I.tuple hb
 refine HT.aG7 p1 p2 (λz=>hx (r1.nil_iff.mp z)) (λz=>⟨.ref a,H,I,rfl,q1 (r2.nil_iff.mp z)⟩) (λz=>?_) (by rw[<- r1.length,<- r2.length];exact hz);refine⟨.ref s.heap.objs.size,_,I.laid (t':=s.toks) (o:=.tup (xs++ys)) (λb ob q=>bF0 _ q) (bF7 _) ?_,rfl,q2 (λw=>z (r2.nil_iff.mpr w)) _ (I.hok.fresh (bF7 _))⟩
 exact⟨by rw[bF4];exact hz,_,r1.append r2,IsTup.new _ _,jX.new _ _ rfl⟩
end
def kU (n:Nat)(i:Int):Option Nat:=if 0<=i then (if i<n then some i.toNat else none) else if -(n:Int)<=i then some (i+n).toNat else none
def atI {α:Type}(xs:List α)(i:Int):Option α:=(kU xs.length i).bind λj=>xs[j]?
theorem aI0 {n:Nat}{i:Int}{j:Nat}(h:kU n i=some j):seqIndex? i n=some j/\j<n/\-(n:Int)<=i/\i<n:=by
 unfold kU at h;by_cases h0:0<=i
 ·rw[if_pos h0]at h
  by_cases h1:i<n
  ·rw[if_pos h1]at h
   have e:i.toNat=j:=bG9 h
   exact⟨by rw[seqIndex_of h0 h1,e],by omega,by omega,h1⟩
  ·rw[if_neg h1]at h;cases h
 ·rw[if_neg h0]at h
  by_cases h1:-(n:Int)<=i
  ·rw[if_pos h1]at h
   have e:(i+n).toNat=j:=bG9 h
   exact⟨by rw[seqIndex_neg (by omega) h1,e],by omega,h1,by omega⟩
  ·rw[if_neg h1]at h;cases h
theorem xW {α:Type}{xs:List α}{i:Int}{v:α}(h:atI xs i=some v):∃j,seqIndex? i xs.length=some j/\xs[j]? = some v/\j<xs.length/\-(xs.length:Int)<=i/\i<xs.length:=by
 unfold atI at h;cases e:kU xs.length i with
 |none=>rw[e]at h;cases h
 |some j=>
  rw[e]at h
  obtain⟨h1,h2,h3,h4⟩:=aI0 e
  exact⟨j,h1,h,h2,h3,h4⟩
theorem qI {α:Type}{xs:List α}{j:Nat}{v:α}(h:xs[j]? = some v):atI xs (j:Int)=some v:=by
 have hj:j<xs.length:=(bF6.mp h).1;have e:kU xs.length (j:Int)=some j:=by
  unfold kU;rw[if_pos (by omega),if_pos (by omega)];simp
 unfold atI;rw[e];exact h
def xX (b:Expr):Prop:=∀o i,subscripted b false o i=operate [o,i] (getItem o i)
def gS (X:Cx)(r:R2):Prop:=
 ∀(value slice:Expr) (ah:List (ax×Obj)) (s:aw) (σ:St) (H:Hp) (x y:V) (v u:av) (Q:VK),a7 X ah σ H s->aZ x v->aZ y u->r x y H Q->
  subscripted slice false v u=operate [v,u] (getItem v u)->wpAny (model X.prog X.w) X.A (subscriptTail value slice v u) (EP X ah σ Q) X.xe s
def jZ (X:Cx)(id:String)(r:V->List V->Hp->VK->Prop):Prop:=
 ∀(ah:List (ax×Obj)) (s:aw) (σ:St) (H:Hp) (x:V) (xs:List V) (v:av) (us:List av) (Q:VK),a7 X ah σ H s->aZ x v->aW xs us->r x xs H Q->
  wpAny (model X.prog X.w) X.A (call (.builtin id) (v::us)) (EP X ah σ Q) X.xe s
section
variable {X:Cx}{a b:Expr}{ta tb:TE}{pos:Pos}
theorem gS.or {r r':R2}(h:gS X r)(h':gS X r'):gS X (λx y H Q=>r x y H Q∨r' x y H Q):=by
 intro value slice ah s σ H x y v u Q I rx ry q hs;rcases q with q|q
 ·exact h value slice ah s σ H x y v u Q I rx ry q hs
 ·exact h' value slice ah s σ H x y v u Q I rx ry q hs
theorem oH {r:R2}(hr:gS X r)(ha:PE X a ta)(hb:PE X b tb)(hs:xX b):PE X (.Subscript a b pos) (oE r ta tb):=by
 intro ah s σ H Q I h;exact Subscript_ (xD ha hb I h λv u s2 x y H2 I2 rx ry q=>hr a b ah s2 σ H2 x y v u Q I2 rx ry q (hs _ _))
def U1 (K:ae):R2:=λx y H Q=>∃p xs i v,x = .ref p/\y = .int i/\aU K H p xs/\atI xs i=some v/\Q v H
def U2 (K:ae):R2:=λx y H Q=>∃p xs i v,x = .ref p/\y = .int i/\aP K H p xs/\atI xs i=some v/\Q v H
def U3:R2:=λx y H Q=>∃z i c,x = .str z/\y = .int i/\z.length<=sizeLine/\atI z.cps.toList i=some c/\Q (.str ⟨#[c]⟩) H
theorem xY:gS X (U1 X.K):=by
 intro value slice ah s σ H x y v u Q I rx ry h hs
 obtain⟨p,xs,i,z,rfl,rfl,hq,he,q⟩:=h
 cases rx
 obtain⟨t,rfl⟩:=ry
 obtain⟨its,r,pl,hz⟩:=I.list hq
 obtain⟨j,h1,h2,h3,h4,h5⟩:=xW he
 obtain⟨w,ew,rw'⟩:=r.get h2
 have hl:=r.length;have hn:=qE;have fin:EP X ah σ Q w s:=⟨z,H,I,rw',q⟩;by_cases h0:0<=i
 ·have hj:i.toNat=j:=by
   rw[seqIndex_of h0 h5]at h1;exact bG9 h1
  exact item_listR pl.isList h0 (by omega) (by rw[hj];simpa using ew) fin hs
 ·have hj:(i+(its.toArray.size:Int)).toNat=j:=by
   rw[seqIndex_neg (by omega) h4]at h1;rw[bF2,<- hl];exact bG9 h1
  exact subscriptTail_builtinR (x:=w) pl.isList.typeIs slot_list_getitem.lookup
   (wpAny_getItem_list_neg (Q:=λr s'=>r=w/\EP X ah σ Q r s') pl.isList (by omega) (by rw[bF2]<;>omega) (by omega) (by rw[hj];simpa using ew) ⟨rfl,fin⟩) hs
theorem xZ:gS X (U2 X.K):=by
 intro value slice ah s σ H x y v u Q I rx ry h hs
 obtain⟨p,xs,i,z,rfl,rfl,hq,he,q⟩:=h
 cases rx
 obtain⟨t,rfl⟩:=ry
 obtain⟨its,r,pl,hz⟩:=I.tuple hq
 obtain⟨j,h1,h2,h3,h4,h5⟩:=xW he
 obtain⟨w,ew,rw'⟩:=r.get h2
 have hl:=r.length;have hn:=qE;have fin:EP X ah σ Q w s:=⟨z,H,I,rw',q⟩;exact subscriptTail_builtinR (x:=w) pl.typeIs slot_tuple_getitem.lookup
  (getItem_tuple (j:=j) (Q:=λr s'=>r=w/\EP X ah σ Q r s') pl (by omega) (by omega) (by rw[bF2,<- hl];exact h1) (by simpa using ew) ⟨rfl,fin⟩) hs
theorem aI1:gS X U3:=by
 intro value slice ah s σ H x y v u Q I rx ry h hs
 obtain⟨z,i,c,rfl,rfl,hz,he,q⟩:=h
 obtain⟨t,rfl⟩:=rx
 obtain⟨t',rfl⟩:=ry
 obtain⟨j,h1,h2,h3,h4,h5⟩:=xW he
 have hl:z.cps.toList.length=z.length:=by simp[Str.length]
 rw[hl]at h1 h4 h5;have hn:=qE
 exact tail_any (typeIs_str s z t) slot_str_getitem.lookup (getItem_str (c:=c) (by
  have e1:decide (i < -(2^63:Int))=false:=bF9 (by omega);have e2:decide (i >= 2^63)=false:=bF9 (by omega)
  rw[e1,e2,Bool.or_false]) (by rw[h1];simpa using h2) ⟨.str ⟨#[c]⟩,H,I.tok _,⟨_,rfl⟩,q⟩) hs
def U4 (K:ae):R2:=λx y H Q=>U1 K x y H Q∨U2 K x y H Q∨U3 x y H Q
theorem U5:gS X (U4 X.K):=xY.or (xZ.or aI1)
theorem aI2 (lo hi:Option Int)(n:Nat):(sliceBounds lo hi none n).1=((HT.b9 n 0 lo:Nat):Int)/\(sliceBounds lo hi none n).2.1=((HT.b9 n n hi:Nat):Int)/\(sliceBounds lo hi none n).2.2=1:=by
 refine⟨?_,?_,rfl⟩
 ·cases lo with
  |none=>simp[sliceBounds,HT.b9]
  |some i=>
   simp only[sliceBounds,HT.b9,Option.getD_none,show (1:Int)>0 by decide,if_true];by_cases h:i<0
   ·simp only[h,if_true]<;>omega
   ·simp only[h,bM7]<;>omega
 ·cases hi with
  |none=>simp[sliceBounds,HT.b9]
  |some i=>
   simp only[sliceBounds,HT.b9,Option.getD_none,show (1:Int)>0 by decide,if_true];by_cases h:i<0
   ·simp only[h,if_true]<;>omega
   ·simp only[h,bM7]<;>omega
theorem aI3 (its:List av)(lo hi:Option Int):slicePick its.toArray lo hi none=((its.drop (HT.b9 its.length 0 lo)).take (HT.b9 its.length its.length hi-HT.b9 its.length 0 lo)).toArray:=by
 obtain⟨h1,h2,h3⟩:=aI2 lo hi its.toArray.size
 unfold slicePick;rw[h1,h2,h3];simp only[sliceRange_one,pick_run,bF2]<;>rfl
def aI4 (K:ae):V->Option Int->Option Int->Hp->VK->Prop:=λx lo hi H Q=>∃a xs,x = .ref a/\aU K H a xs/\∀p,H p=none->Q (.ref p) (upd H p (.lst (fN xs lo hi)))
theorem U6:m7 X (aI4 X.K):=by
 intro ah s σ H x v vl vu lo hi sl Q I rx hs pl pu h
 obtain⟨a,xs,rfl,hx,q⟩:=h
 cases rx
 obtain⟨its,r,ht,hz⟩:=I.list hx
 have am:=r.length;refine⟨"list",_,slot_list_getitem.lookup,ht.isList.typeIs,?_⟩;refine wpAny_getItem_list_slice ht.isList hs pl pu .none (by simp) ?_ (by rw[bF2]<;>omega);rw[aI3,<- am];refine⟨.ref s.heap.objs.size,_,I.laid (t':=s.toks) (o:=.lst (fN xs lo hi)) (λb ob q=>bF0 _ q) (bF7 _) ?_,rfl,q _ (I.hok.fresh (bF7 _))⟩
 exact⟨bH6 (U0 xs lo hi) hz,_,0,(r.drop (HT.b9 xs.length 0 lo)).take (HT.b9 xs.length xs.length hi-HT.b9 xs.length 0 lo),bG1 _ rfl⟩
def kW:V->Bool
 |.non=>true
 |.bl _=>true
 |.int _=>true
 |.str _=>true
 |_=>false
def jF:V->V->Bool
 |.non,.non=>true
 |.bl a,.bl b=>a==b
 |.bl a,.int b=>(if a then 1 else 0)==b
 |.int a,.bl b=>a==(if b then 1 else 0)
 |.int a,.int b=>a==b
 |.str a,.str b=>a==b
 |_,_=>false
theorem aI5 {A:az}{s:aw}{y x:V}{u v:av}(ry:aZ y u)(rx:aZ x v)(fy:kW y=true)(fx:kW x=true):SeqAt.EqAt A s u v (jF y x):=by
 cases y with
 |non=>
  cases ry;cases x with
  |non=>cases rx;exact bT9 _
  |bl b=>cases rx;exact SeqAt.EqAt.none_bool b
  |int b=>obtain⟨t,rfl⟩:=rx;exact SeqAt.EqAt.none_int b t
  |str b=>obtain⟨t,rfl⟩:=rx;exact SeqAt.EqAt.none_str b t
  |_=>exact absurd (show false=true from fx) bH5
 |bl a=>
  cases ry;cases x with
  |non=>cases rx;exact SeqAt.EqAt.bool_none a
  |bl b=>cases rx;exact SeqAt.EqAt.bool_bool a b
  |int b=>obtain⟨t,rfl⟩:=rx;exact SeqAt.EqAt.bool_int a b t
  |str b=>obtain⟨t,rfl⟩:=rx;exact SeqAt.EqAt.bool_str a b t
  |_=>exact absurd (show false=true from fx) bH5
 |int a=>
  obtain⟨t',rfl⟩:=ry
  cases x with
  |non=>cases rx;exact SeqAt.EqAt.int_none a t'
  |bl b=>cases rx;exact SeqAt.EqAt.int_bool a t' b
  |int b=>obtain⟨t,rfl⟩:=rx;exact SeqAt.EqAt.int_int a t' b t
  |str b=>obtain⟨t,rfl⟩:=rx;exact SeqAt.EqAt.int_str a t' b t
  |_=>exact absurd (show false=true from fx) bH5
 |str a=>
  obtain⟨t',rfl⟩:=ry
  cases x with
  |non=>cases rx;exact SeqAt.EqAt.str_none a t'
  |bl b=>cases rx;exact SeqAt.EqAt.str_bool a t' b
  |int b=>obtain⟨t,rfl⟩:=rx;exact SeqAt.EqAt.str_int a t' b t
  |str b=>obtain⟨t,rfl⟩:=rx;exact SeqAt.EqAt.str_str a t' b t
  |_=>exact absurd (show false=true from fx) bH5
 |_=>exact absurd (show false=true from fy) bH5
def gJ (x:V)(u:av):Bool:=match u with
 |.none=>jF .non x
 |.bool b=>jF (.bl b) x
 |.int i _=>jF (.int i) x
 |.str z _=>jF (.str z) x
 |_=>false
theorem U7 {x y:V}{u:av}(r:aZ y u)(f:kW y=true):gJ x u=jF y x:=by
 cases y with
 |non=>cases r;rfl
 |bl b=>cases r;rfl
 |int i=>obtain⟨t,rfl⟩:=r;rfl
 |str z=>obtain⟨t,rfl⟩:=r;rfl
 |_=>exact absurd (show false=true from f) bH5
theorem qJ {x:V}:∀{xs:List V}{us:List av},aW xs us->xs.all kW=true->us.any (gJ x)=xs.any λy=>jF y x
 |_,_,.nil,_=>rfl
 |y::xs,u::us,.cons r t,f=>by
  rw[bP8,bI4]at f;rw[List.any_cons,List.any_cons,U7 r f.1,qJ t f.2]
theorem qK {A:az}{s:aw}{x:V}{v:av}(rx:aZ x v)(fx:kW x=true):∀{xs:List V}{us:List av},aW xs us->xs.all kW=true->∀u∈us,SeqAt.EqAt A s u v (gJ x u)
 |_,_,.nil,_=>λu hu=>by cases hu
 |y::xs,u::us,.cons r t,f=>λu' hu=>by
  rw[bP8,bI4]at f;rcases bG0.mp hu with rfl|hu
  ·rw[U7 r f.1];exact aI5 r rx f.1 fx
  ·exact qK rx fx t f.2 u' hu
def qL (x:V)(xs:List V):Bool:=xs.any λy=>jF y x
def yA (K:ae)(neg:Bool):R2:=λx y H Q=>∃p xs,y = .ref p/\(aU K H p xs∨aP K H p xs)/\kW x=true/\xs.all kW=true/\Q (.bl (if neg then !qL x xs else qL x xs)) H
theorem U8:cL X (compareOp .In) (yA X.K false):=by
 intro ah s σ H x y v u Q I rx ry h
 obtain⟨p,xs,rfl,hq,fx,fs,q⟩:=h
 cases ry;rcases hq with hq|hq
 ·obtain⟨its,r,pl,hz⟩:=I.list hq
  refine SeqAt.in_listAt (gJ x) pl.isList (λw hw=>qK rx fx r fs w (by simpa using hw)) ⟨.bl _,H,I,rfl,?_⟩;rw[show its.toArray.any (gJ x)=its.any (gJ x) by simp,qJ r fs];exact q
 ·obtain⟨its,r,pl,hz⟩:=I.tuple hq
  refine SeqAt.in_tupleAt (gJ x) pl (λw hw=>qK rx fx r fs w (by simpa using hw)) ⟨.bl _,H,I,rfl,?_⟩;rw[show its.toArray.any (gJ x)=its.any (gJ x) by simp,qJ r fs];exact q
theorem aI6:cL X (compareOp .NotIn) (yA X.K true):=by
 intro ah s σ H x y v u Q I rx ry h
 obtain⟨p,xs,rfl,hq,fx,fs,q⟩:=h
 cases ry;rcases hq with hq|hq
 ·obtain⟨its,r,pl,hz⟩:=I.list hq
  refine SeqAt.notIn_listAt (gJ x) pl.isList (λw hw=>qK rx fx r fs w (by simpa using hw)) ⟨.bl _,H,I,rfl,?_⟩;rw[show its.toArray.any (gJ x)=its.any (gJ x) by simp,qJ r fs];exact q
 ·obtain⟨its,r,pl,hz⟩:=I.tuple hq
  refine SeqAt.notIn_tupleAt (gJ x) pl (λw hw=>qK rx fx r fs w (by simpa using hw)) ⟨.bl _,H,I,rfl,?_⟩;rw[show its.toArray.any (gJ x)=its.any (gJ x) by simp,qJ r fs];exact q
theorem U9:cG X (.builtin "len") (λxs H Q=>∃p ys,xs = [.ref p]/\(aU X.K H p ys∨aP X.K H p ys)/\Q (.int ys.length) H):=by
 intro ah s σ H xs us Q I r h
 obtain⟨p,ys,rfl,hq,q⟩:=h
 obtain⟨u,rfl,rx⟩:=gI r
 cases rx;have hn:=qE;rcases hq with hq|hq
 ·obtain⟨its,r',pl,hz⟩:=I.list hq
  have am:=r'.length;exact Calls.call_len_list pl.isList (by simp only[bF2]<;>omega) ⟨.int ys.length,H,I.tok _,⟨s.toks+1,by rw[bF2,am]⟩,q⟩
 ·obtain⟨its,r',pl,hz⟩:=I.tuple hq
  have am:=r'.length;exact len_tuple pl (by simp only[bF2]<;>omega) ⟨.int ys.length,H,I.tok _,⟨s.toks+1,by rw[bF2,am]⟩,q⟩
theorem cG.or {f:av}{r r':List V->Hp->VK->Prop}(h:cG X f r)(h':cG X f r'):cG X f (λxs H Q=>r xs H Q∨r' xs H Q):=by
 intro ah s σ H xs us Q I rs q;rcases q with q|q
 ·exact h ah s σ H xs us Q I rs q
 ·exact h' ah s σ H xs us Q I rs q
theorem aI7:cG X (.type "list") (λxs H Q=>∃p ys,xs = [.ref p]/\(aU X.K H p ys∨aP X.K H p ys)/\∀l,H l=none->Q (.ref l) (upd H l (.lst ys))):=by
 intro ah s σ H xs us Q I r h
 obtain⟨p,ys,rfl,hq,q⟩:=h
 obtain⟨u,rfl,rx⟩:=gI r
 cases rx;have fin:∀(its:List av),aW ys its->ys.length<=sizeLine->∀(h':Heap) (c':Nat),(∀b o',s.heap.get? b=some o'->h'.get? b=some o')->
   h'.get? s.heap.objs.size=some { cls:=.type "list",dict:=none,data:=.seq its.toArray c',slots:=#[] }->EP X ah σ Q (.ref s.heap.objs.size) { s with heap:=h' }:=λits r' hz h' c' kp e=>
  ⟨.ref s.heap.objs.size,_,I.laid (t':=s.toks) kp (bF7 _) (show bY X.prog X.w _ h' _ (.lst ys) from ⟨hz,its,c',r',e⟩),rfl,q _ (I.hok.fresh (bF7 _))⟩
 rcases hq with hq|hq
 ·obtain⟨its,r',pl,hz⟩:=I.list hq
  have am:=r'.length
  obtain⟨o,ho,hc,n,hd⟩:=pl.isList
  exact call_list_seq p (.inl rfl) ho hc hd (λh' c' kp e=>fin its r' hz h' c' kp e) (by simp only[bF2]<;>omega)
 ·obtain⟨its,r',pl,hz⟩:=I.tuple hq
  have am:=r'.length
  obtain⟨o,ho,hc,n,hd⟩:=pl
  exact call_list_seq p (.inr rfl) ho hc hd (λh' c' kp e=>fin its r' hz h' c' kp e) (by simp only[bF2]<;>omega)
theorem aI8:cG X (.type "tuple") (λxs H Q=>∃p ys,xs = [.ref p]/\((aU X.K H p ys/\∀l,H l=none->Q (.ref l) (upd H l (.tup ys)))∨(aP X.K H p ys/\Q (.ref p) H))):=by
 intro ah s σ H xs us Q I r h
 obtain⟨p,ys,rfl,h⟩:=h
 obtain⟨u,rfl,rx⟩:=gI r
 cases rx;rcases h with⟨hq,q⟩|⟨hq,q⟩
 ·obtain⟨its,r',pl,hz⟩:=I.list hq
  have am:=r'.length;refine call_tuple_list pl.isList (λh' kp=>?_) (by simp only[bF2]<;>omega);have I1:a7 X ah σ H { s with heap:=h' }:=I.kept (t':=s.toks) kp;have I2:a7 X ah σ (upd H h'.objs.size (.tup ys)) { s with heap:=h'.push { cls:=.type "tuple",data:=.seq its.toArray } }:=
   I1.laid (t':=s.toks) (λb o e=>bF0 _ e) (bF7 _) (show bY X.prog X.w _ _ _ (.tup ys) from ⟨hz,its,r',IsTup.new _ _,jX.new _ _ rfl⟩)
  exact⟨.ref h'.objs.size,_,I2,rfl,q _ (I1.hok.fresh (bF7 _))⟩
 ·obtain⟨its,r',pl,hz⟩:=I.tuple hq
  exact call_tuple_same pl ⟨.ref p,H,I,rfl,q⟩
def jG (K:ae)(T:String)(x:V)(H:Hp):Prop:=match x with
 |.str _=>T="str"
 |.int _=>T="int"
 |.ref p=>(T="list"/\∃xs,aU K H p xs)∨(T="tuple"/\∃o,K.lookup p=some o/\o.cls = .type "tuple"/\o.dict=none) ∨
   (T="dict"/\((∃kvs,H p=some (.dK kvs))∨∃kvs,H p=some (.dT kvs)))∨(T="set"/\∃S n,H p=some (.set S n))
 |_=>False
theorem yB {ah:List (ax×Obj)}{σ:St}{H:Hp}{s:aw}{T:String}{x:V}{v:av}(I:a7 X ah σ H s)(r:aZ x v)(ty:jG X.K T x H) :
  s.TypeIs v T/\∀a,v = .ref a->∃ob,s.heap.get? a=some ob/\ob.dict=none:=by
 cases x with
 |str z=>
  obtain⟨t,rfl⟩:=r
  cases (show T="str" from ty)
  exact⟨typeIs_str s z t,λ_ e=>nomatch e⟩
 |int i=>
  obtain⟨t,rfl⟩:=r
  cases (show T="int" from ty)
  exact⟨typeIs_int s i t,λ_ e=>nomatch e⟩
 |ref p=>
  cases r;rcases ty with⟨rfl,xs,hq⟩|⟨rfl,o,hk,hc,hd⟩|⟨rfl,hk⟩|⟨rfl,S,n,hk⟩
  ·obtain⟨its,_,pl,_⟩:=I.list hq
   refine⟨pl.isList.typeIs,λa e=>?_⟩;cases e
   obtain⟨o,n,e,c,hd,_⟩:=pl
   exact⟨o,e,hd⟩
  ·refine⟨⟨o,I.kIn p o hk,hc⟩,λa e=>?_⟩
   cases e
   exact⟨o,I.kIn _ o hk,hd⟩
  ·have z:∃o,s.heap.get? p=some o/\o.ExactDict:=by
    rcases hk with⟨kvs,hk⟩|⟨kvs,hk⟩
    ·obtain⟨_,_,_,_,o,_,_,e,ex,_⟩:=I.hok p _ hk
     exact⟨o,e,ex⟩
    ·obtain⟨_,_,_,_,o,_,_,e,ex,_⟩:=I.hok p _ hk
     exact⟨o,e,ex⟩
   obtain⟨o,e,ex⟩:=z
   refine⟨⟨o,e,ex.1⟩,λa e2=>?_⟩;cases e2
   exact⟨o,e,ex.2.1⟩
  ·obtain⟨o,_,_,_,e,ex,_⟩:=I.hok p _ hk
   refine⟨⟨o,e,ex.1⟩,λa e2=>?_⟩;cases e2
   exact⟨o,e,ex.2.1⟩
 |_=>exact False.elim ty
def yC (K:ae)(T:String)(r:V->List V->Hp->VK->Prop)(to:TE)(t:TA):TE:=λσ H Q=>to σ H λx H1=>jG K T x H1/\t σ H1 λxs H2=>r x xs H2 Q
variable {o e:Expr}{es:List Expr}{to:TE}{t:TA}{name:Str}{ai aj:Pos}{T id:String}{r:V→List V→Hp→VK→Prop}
theorem tK (pa:PlainAttrs T)(slot:Slot T name id)(hty:typeOf (.builtin id)=pure (.type "method_descriptor"))(hm:jZ X id r)(ho:PE X o to)(ha:PA X (e::es) t)(hbase:attributeBase o name X.env (eval o X.env)=eval o X.env:=by rfl)(hfew:((backTo aj (starEach (e::es) X.env)).all (λx=>!x.1)&&(backToKw aj (keywordEach [] X.env)).all (λx=>x.1.isSome)
  &&decide ((e::es).length+([]:List Keyword).length+(if ([]:List Keyword).isEmpty then 0 else 1)<30))=true:=by rfl)(hline:(ai.endLine==aj.line)=true:=by rfl)(hs:starEach (e::es) X.env=(false,eval e X.env)::starEach es X.env:=by rfl)(ar:(backTo aj (starEach es X.env)).any (·.1)=false:=by rfl) :
  PE X (.Call (.Attribute o name ai) (e::es) [] aj) (yC X.K T r to t):=by
 intro ah s σ H Q I h;refine wpAny_Call_method_late hbase hfew hline rfl (aN (ho ah s σ H _ I h) λv s1 ⟨x,H1,I1,r1,ty,q1⟩=>?_)
 obtain⟨h1,h2⟩:=yB I1 r1 ty
 refine⟨T,id,pa,slot,hty,h1,h2,?_⟩;have hA:=ha aj ah s1 σ H1 _ I1 q1;rw[hs]at hA ⊢;refine bQ1 (by show (false||(backTo aj (starEach es X.env)).any (·.1))=false;rw[ar]<;>rfl) (bR9 ?_);exact aN hA λus s2 ⟨vs,H2,I2,r2,q2⟩=>hm ah s2 σ H2 x vs v us Q I2 r1 r2 q2
end
def qM (X:Cx)(id:String)(r:V->List V->Hp->VK->Prop):Prop:=
 ∀(ah:List (ax×Obj)) (s:aw) (σ:St) (H:Hp) (x:V) (xs:List V) (v:av) (us:List av) (Q:VK),a7 X ah σ H s->aZ x v->aW xs us->r x xs H Q->
  wpAny (model X.prog X.w) X.A (call (.builtin id) (v::us)) (EP X ah σ Q) X.xe s
theorem aW.one {x:V}{us:List av}(h:aW [x] us):∃u,us = [u]/\aZ x u:=by
 cases h with
 |cons r t=>
  cases t
  exact⟨_,rfl,r⟩
theorem aW.two {x y:V}{us:List av}(h:aW [x,y] us):∃u v,us = [u,v]/\aZ x u/\aZ y v:=by
 cases h with
 |cons r t=>
  cases t with
  |cons q t=>
   cases t
   exact⟨_,_,rfl,r,q⟩
theorem aW.zero:∀{us:List av},aW [] us->us = []
 |_,.nil=>rfl
theorem aW.dropLast {xs:List V}{us:List av}(h:aW xs us):aW xs.dropLast us.dropLast:=by
 induction h with
 |nil=>exact .nil
 |cons r t ih=>
  cases t with
  |nil=>exact .nil
  |cons q t'=>exact .cons r ih
theorem aI9 {α:Type}(l:List α):l.eraseIdx (l.length-1)=l.dropLast:=by
 induction l with
 |nil=>rfl
 |cons a r ih=>
  cases r with
  |nil=>rfl
  |cons b r=>
   have e:(a::b::r).length-1=((b::r).length-1)+1:=by
    have h1:(a::b::r).length=r.length+2:=rfl;have h2:(b::r).length=r.length+1:=rfl;omega
   rw[e,List.eraseIdx_cons_succ,ih]
   all_goals rfl
section
variable {X:Cx}{ah:List (ax×Obj)}{σ:St}{H:Hp}{s:aw}{l b:ax}{xs ys zs:List V}
theorem a7.lset {its its':List av}{n:Nat}{f:Array av->Array av}{t':Nat}(I:a7 X ah σ H s)(hH:H l=some (.lst xs))(e:s.heap.get? l=some { cls:=.type "list",data:=.seq its.toArray n })(hf:f its.toArray=its'.toArray)(hv:aW ys its')(hz:ys.length<=sizeLine) :
  a7 X ah σ (upd H l (.lst ys)) { s with heap:=s.heap.update l (Obj.mapSeq f),toks:=t' }:=by
 have q:=PySem.IsL.update e f;rw[hf]at q;refine I.write (x:=l) (e:=l) (by rw[hH];exact trivial) (.inl rfl) (λb' u hb hu=>(Heap.get?_update_other s.heap (Obj.mapSeq f) (Ne.symm hb)).trans hu) ⟨_,q⟩ ?_
 exact⟨hz,its',_,hv,q⟩
theorem a7.lnew {its:List av}{t':Nat}(I:a7 X ah σ H s)(hv:aW ys its)(hz:ys.length<=sizeLine) :
  a7 X ah σ (upd H s.heap.objs.size (.lst ys)) { s with heap:=s.heap.push { cls:=.type "list",data:=.seq its.toArray },toks:=t' }:=
 I.laid (λ_ _ q=>bF0 _ q) (bF7 _) ⟨hz,its,0,hv,bG1 _ rfl⟩
theorem a7.fresh (I:a7 X ah σ H s):H s.heap.objs.size=none:=I.hok.fresh (bF7 _)
theorem a7.lstM (I:a7 X ah σ H s)(hH:H l=some (.lst xs)):xs.length<=sizeLine/\∃(its:List av) (n:Nat),aW xs its/\xs.length=its.length/\s.heap.get? l=some { cls:=.type "list",data:=.seq its.toArray n }:=by
 obtain⟨z,its,n,r,e⟩:=I.hok l _ hH
 exact⟨z,its,n,r,r.length,e⟩
theorem V0 {n:Nat}(h:n<=sizeLine):Builtin.List.listTooLong n=false:=by
 unfold Builtin.List.listTooLong;exact bF9 (by omega)
end
section
variable {X:Cx}
def yD:V->List V->Hp->VK->Prop:=λx vs H Q=>∃l xs y,x = .ref l/\vs = [y]/\H l=some (.lst xs)/\xs.length<sizeLine/\Q .non (upd H l (.lst (xs++[y])))
theorem qN:qM X "list.append" yD:=by
 intro ah s σ H x vs v us Q I rx rv h
 obtain⟨l,xs,y,rfl,rfl,hH,hz,q⟩:=h
 cases rx
 obtain⟨u,rfl,ru⟩:=rv.one
 obtain⟨z,its,n,r,hl,e⟩:=I.lstM hH
 refine call_meets F.slot_list_append ⟨_,e,rfl⟩ F.entry_list_append (F.args_list_append_2 _ _) (PySem.list_append l its.toArray n u (by rw[bF2];omega)) ⟨e,?_⟩;refine⟨.non,_,I.lset (its':=its++[u]) hH e (by simp) (r.append (.cons ru .nil)) ?_,rfl,q⟩;rw[bF4,bJ3];omega
def V1:V->List V->Hp->VK->Prop:=λx vs H Q=>∃l b xs zs,x = .ref l/\vs = [.ref b]/\H l=some (.lst xs)/\H b=some (.lst zs)/\xs.length+zs.length<=sizeLine/\Q .non (upd H l (.lst (xs++zs)))
theorem aJ0:qM X "list.extend" V1:=by
 intro ah s σ H x vs v us Q I rx rv h
 obtain⟨l,b,xs,zs,rfl,rfl,hH,hB,hz,q⟩:=h
 cases rx
 obtain⟨u,rfl,ru⟩:=rv.one
 cases ru
 obtain⟨z,its,n,r,hl,e⟩:=I.lstM hH
 obtain⟨z2,aq,n2,r2,hl2,e2⟩:=I.lstM hB
 have hsz:its.toArray.size+aq.toArray.size<=sizeLine:=by rw[bF2,bF2];omega
 have hlong:¬(!its.toArray.isEmpty&&Builtin.List.listTooLong (its.toArray.size+aq.toArray.size))=true:=by
  rw[V0 hsz,bT3];exact bH5
 refine call_meets F.slot_list_extend ⟨_,e,rfl⟩ F.entry_list_extend (F.args_list_extend_2 _ _)
  (AutoSeq1.list_extend_list_list_0 l its.toArray n b aq.toArray n2 hlong (by rw[bF2];omega) (by omega)) ⟨e,e2,?_⟩
 refine⟨.non,_,I.lset (its':=its++aq) hH e (by simp) (r.append r2) ?_,rfl,q⟩;rw[bF4];omega
def V2:V->List V->Hp->VK->Prop:=λx vs H Q=>∃l xs y,x = .ref l/\vs = []/\H l=some (.lst xs)/\xs[xs.length-1]? = some y/\Q y (upd H l (.lst xs.dropLast))
theorem aJ1:qM X "list.pop" V2:=by
 intro ah s σ H x vs v us Q I rx rv h
 obtain⟨l,xs,y,rfl,rfl,hH,hy,q⟩:=h
 cases rx;have hus:=rv.zero;subst hus
 obtain⟨z,its,n,r,hl,e⟩:=I.lstM hH
 obtain⟨u,hu,ru⟩:=r.get hy
 have hy':its.toArray[its.toArray.size-1]? = some u:=by
  show its.toArray[its.length-1]? = some u;rw[<- Array.getElem?_toList,<- hl];exact hu
 refine call_meets F.slot_list_pop ⟨_,e,rfl⟩ F.entry_list_pop (F.args_list_pop_1 _) (MeetsSeq.list_pop_last l its.toArray n u hy' (by rw[bF2];omega)) ⟨e,?_⟩;refine⟨y,_,I.lset (its':=its.dropLast) hH e ?_ r.dropLast ?_,ru,q⟩
 ·show its.toArray.eraseIdxIfInBounds (its.toArray.size-1)=its.dropLast.toArray
  rw[bF2,List.eraseIdxIfInBounds_toArray,aI9]
 ·rw[List.length_dropLast]
  omega
def V3:R2:=λx y H Q=>∃l b xs zs,x = .ref l/\y = .ref b/\H l=some (.lst xs)/\H b=some (.lst zs)/\xs.length+zs.length<=sizeLine/\∀p,H p=none->Q (.ref p) (upd H p (.lst (xs++zs)))
theorem aJ2:cL X (binaryOp .Add) V3:=by
 intro ah s σ H x y v u Q I rx ry h
 obtain⟨l,b,xs,zs,rfl,rfl,hH,hB,hz,q⟩:=h
 cases rx;cases ry
 obtain⟨z,its,n,r,hl,e⟩:=I.lstM hH
 obtain⟨z2,aq,n2,r2,hl2,e2⟩:=I.lstM hB
 refine PySem.P.add_list e e2 ?_ (by rw[bF2,bF2];omega);have ea:its.toArray++aq.toArray=(its++aq).toArray:=by simp
 rw[ea]
 exact⟨.ref _,_,I.lnew (t':=s.toks) (r.append r2) (by rw[bF4];omega),rfl,q _ I.fresh⟩
end
section
variable {κ:Type}[DecidableEq κ]
def fE (kvs:List (κ×V))(k:κ):Option V:=(kvs.find? λkv=>decide (kv.1=k)).map (·.2)
def eU (kvs:List (κ×V))(k:κ)(v:V):List (κ×V):=
 if (kvs.any λkv=>decide (kv.1=k))=true then kvs.map (λkv=>if kv.1=k then (kv.1,v) else kv) else kvs++[(k,v)]
theorem yE {p:κ×V}{r:List (κ×V)}{k:κ}(e:p.1=k):fE (p::r) k=some p.2:=by simp[fE,bP1,e]
theorem yF {p:κ×V}{r:List (κ×V)}{k:κ}(e:¬p.1=k):fE (p::r) k=fE r k:=by simp[fE,bP1,e]
theorem V4 (k:κ):∀kvs:List (κ×V),(kvs.any λkv=>decide (kv.1=k))=(fE kvs k).isSome
 |[]=>rfl
 |p::r=>by
  rw[List.any_cons];by_cases e:p.1=k
  ·simp only[yE e,bG5 e,Bool.true_or,Option.isSome_some]
  ·rw[yF e,bF9 e,Bool.false_or];exact V4 k r
theorem yG (kvs:List (κ×V))(k:κ)(v:V):(eU kvs k v).length<=kvs.length+1:=by
 unfold eU;split
 ·rw[bF1];omega
 ·rw[bF4,bH8,List.length_nil];omega
theorem fC.isSome_eq {o:Option V}{u:Option av}(r:fC o u):o.isSome=u.isSome:=by
 cases o with
 |none=>cases u with
  |none=>rfl
  |some _=>exact (show False from r).elim
 |some _=>cases u with
  |none=>exact (show False from r).elim
  |some _=>rfl
theorem fC.getD {o:Option V}{u:Option av}{d:V}{d':av}(r:fC o u)(rd:aZ d d'):aZ (o.getD d) (u.getD d'):=by
 cases o with
 |none=>cases u with
  |none=>exact rd
  |some _=>exact (show False from r).elim
 |some _=>cases u with
  |none=>exact (show False from r).elim
  |some _=>exact r
theorem KV.val {kvs:List (κ×V)}{vs:List (κ×av)}(r:KV kvs vs)(k:κ):fC (fE kvs k) (valueAt vs k):=by
 unfold KV at r
 induction r with
 |nil=>exact bT1
 |@cons p q ps qs h t ih=>
  obtain⟨h1,h2⟩:=h
  by_cases e:p.1=k
  ·have e':q.1=k:=h1.symm.trans e
   have b:valueAt (q::qs) k=some q.2:=by simp[valueAt,bP1,e']
   rw[yE e,b];exact h2
  ·have e':¬q.1=k:=λz=>e (h1.trans z)
   have b:valueAt (q::qs) k=valueAt qs k:=by simp[valueAt,bP1,e']
   rw[yF e,b];exact ih
theorem KV.any {kvs:List (κ×V)}{vs:List (κ×av)}(r:KV kvs vs)(k:κ):(kvs.any λkv=>decide (kv.1=k))=vs.any λkv=>decide (kv.1=k):=by
 unfold KV at r
 induction r with
 |nil=>rfl
 |cons h t ih=>rw[List.any_cons,List.any_cons,ih,h.1]
theorem KV.repl {kvs:List (κ×V)}{vs:List (κ×av)}(r:KV kvs vs)(k:κ){y:V}{u:av}(ry:aZ y u) :
  KV (kvs.map λkv=>if kv.1=k then (kv.1,y) else kv) (vs.map λkv=>if kv.1=k then (kv.1,u) else kv):=by
 unfold KV at r ⊢
 induction r with
 |nil=>exact .nil
 |@cons p q ps qs h t ih=>
  rw[bL0,bL0];refine .cons ?_ ih
  obtain⟨h1,h2⟩:=h
  by_cases e:p.1=k
  ·rw[if_pos e,if_pos (h1.symm.trans e)];exact⟨h1,ry⟩
  ·rw[if_neg e,if_neg (λz=>e (h1.trans z))];exact⟨h1,h2⟩
theorem KV.put {kvs:List (κ×V)}{vs:List (κ×av)}(r:KV kvs vs)(k:κ){y:V}{u:av}(ry:aZ y u):KV (eU kvs k y) (stored vs k u):=by
 unfold eU stored;rw[r.any k];by_cases e:(vs.any λkv=>decide (kv.1=k))=true
 ·rw[if_pos e,if_pos e];exact r.repl k ry
 ·rw[if_neg e,if_neg e];exact Paired.snoc r ⟨rfl,ry⟩
theorem KV.length {kvs:List (κ×V)}{vs:List (κ×av)}(r:KV kvs vs):kvs.length=vs.length:=Paired.length r
end
theorem nL {P:ay}{w:ba}{k:aF}{u:av}(r:aZ (kV k) u):(dF P w).is k u=true:=by
 cases k with
 |inl i=>obtain⟨t,e⟩:=(show ∃t,u=Value.int i t from r);subst e;exact az8 P w i t
 |inr x=>obtain⟨t,e⟩:=(show ∃t,u=Value.str x t from r);subst e;exact az9 P w x t
theorem V5 {P:ay}{w:ba}:∀{ks:List aF}{us:List av},aW (ks.map kV) us->ItemsAre (dF P w) ks us
 |[],_,r=>by rw[List.map_nil]at r;cases r;exact .nil
 |k::ks,_,r=>by
  rw[bL0]at r;cases r with
  |cons h t=>exact .cons (nL h) (V5 t)
abbrev KT (H:Hp):List (List aF×V)->List (List aF×ax×av)->Prop:=Paired λp q=>p.1=q.1/\H q.2.1=some (.tup (p.1.map kV))/\aZ p.2 q.2.2
theorem KT.val {H:Hp}{kvs:List (List aF×V)}{xs:List (List aF×ax×av)}(r:KT H kvs xs)(k:List aF):fC (fE kvs k) ((atKey xs k).map (·.2)):=by
 induction r with
 |nil=>exact bT1
 |@cons p q ps qs h t ih=>
  obtain⟨h1,_,h2⟩:=h
  by_cases e:p.1=k
  ·have e':q.1=k:=h1.symm.trans e
   have b:atKey (q::qs) k=some q.2:=by simp[atKey,bP1,e']
   rw[yE e,b];exact h2
  ·have e':¬q.1=k:=λz=>e (h1.trans z)
   have b:atKey (q::qs) k=atKey qs k:=by simp[atKey,bP1,e']
   rw[yF e,b];exact ih
theorem KT.repl {H:Hp}{kvs:List (List aF×V)}{xs:List (List aF×ax×av)}(r:KT H kvs xs)(k:List aF){y:V}{u:av}(ry:aZ y u) :
  KT H (kvs.map λkv=>if kv.1=k then (kv.1,y) else kv) (xs.map (putAt k u)):=by
 induction r with
 |nil=>exact .nil
 |@cons p q ps qs h t ih=>
  rw[bL0,bL0];refine .cons ?_ ih
  obtain⟨h1,h2,h3⟩:=h
  unfold putAt;by_cases e:p.1=k
  ·rw[if_pos e,if_pos (h1.symm.trans e)];exact⟨h1,h2,ry⟩
  ·rw[if_neg e,if_neg (λz=>e (h1.trans z))];exact⟨h1,h2,h3⟩
theorem KT.put {H:Hp}{kvs:List (List aF×V)}{xs:List (List aF×ax×av)}(r:KT H kvs xs)(k:List aF){b:ax}{y:V}{u:av}(hb:H b=some (.tup (k.map kV)))(ry:aZ y u) :
  KT H (eU kvs k y) (storedH xs k b u):=by
 have e:(kvs.any λkv=>decide (kv.1=k))=(atKey xs k).isSome:=by
  rw[V4,(r.val k).isSome_eq,Option.isSome_map]
 unfold eU storedH;rw[e];by_cases q:(atKey xs k).isSome=true
 ·rw[if_pos q,if_pos q];exact r.repl k ry
 ·rw[if_neg q,if_neg q];exact Paired.snoc r ⟨rfl,hb,ry⟩
theorem KT.keeps {H H':Hp}{kvs:List (List aF×V)}{xs:List (List aF×ax×av)}(r:KT H kvs xs)(ht:∀b ys,H b=some (.tup ys)->H' b=some (.tup ys)):KT H' kvs xs:=
 Paired.mapP r λ_ _ z=>⟨z.1,ht _ _ z.2.1,z.2.2⟩
section
variable {P:ay}{w:ba}{H:Hp}{h:Heap}{a:ax}
theorem V6 {u:HO}(ok:cF P w H h)(e:Rd H a u):bY P w H h a u:=e.ok ok
theorem m8 {kvs:List (aF×V)}(ok:cF P w H h)(e:Rd H a (.dK kvs)):kvs.length<=sizeLine/\(a==sysModules)=false/\∃vs,KV kvs vs/\h.DictOf (dF P w) a vs:=
 show bY P w H h a (.dK kvs) from V6 ok e
theorem yH {kvs:List (aF×V)}(ok:cF P w H h)(e:H a=some (.dK kvs)):kvs.length<=sizeLine/\(a==sysModules)=false/\∃vs,KV kvs vs/\h.DictOf (dF P w) a vs:=m8 ok (.inl e)
theorem oI {ks:List aF}(ok:cF P w H h)(e:H a=some (.tup (ks.map kV))):(tupleKind (dF P w)).is h ks a:=by
 obtain⟨_,its,r,⟨o,h1,h2,n,h3⟩,_⟩:=(show bY P w H h a (.tup (ks.map kV)) from ok a _ e)
 exact⟨o,its.toArray,n,h1,h2,h3,by simpa using V5 r⟩
theorem nM {kvs:List (List aF×V)}(ok:cF P w H h)(e:Rd H a (.dT kvs)):kvs.length<=sizeLine/\(a==sysModules)=false/\
  ∃xs,KT H kvs xs/\h.DictOfH (tupleKind (dF P w)) a xs:=by
 obtain⟨z,y,xs,r,o,es,ep,h1,h2,h3,h4,h5⟩:=(show bY P w H h a (.dT kvs) from V6 ok e)
 refine⟨z,y,xs,r,o,es,ep,h1,h2,h3,h4,λx hx=>?_,h5⟩;have all:∀{l:List (List aF×V)}{m:List (List aF×ax×av)},KT H l m->∀x∈m,(tupleKind (dF P w)).is h x.1 x.2.1:=by
  intro l m q
  induction q with
  |nil=>intro x hx;exact nomatch hx
  |@cons p q ps qs hq t ih=>
   intro x hx;rcases bG0.mp hx with e|hx
   ·subst e
    exact oI ok (by rw[<- hq.1];exact hq.2.1)
   ·exact ih x hx
 exact all r x hx
theorem aJ3 {kvs:List (List aF×V)}(ok:cF P w H h)(e:H a=some (.dT kvs)):kvs.length<=sizeLine/\(a==sysModules)=false/\
  ∃xs,KT H kvs xs/\h.DictOfH (tupleKind (dF P w)) a xs:=nM ok (.inl e)
end
def gB (H:Hp)(a:ax)(y:V)(r:Option V):Prop:=
 (∃kvs k,Rd H a (.dK kvs)/\y=kV k/\r=fE kvs k)∨∃kvs k b,Rd H a (.dT kvs)/\y = .ref b/\H b=some (.tup (k.map kV))/\r=fE kvs k
def m9 (H:Hp)(a:ax)(y v:V)(H':Hp):Prop:=
 (∃kvs k,H a=some (.dK kvs)/\y=kV k/\kvs.length<sizeLine/\H'=upd H a (.dK (eU kvs k v))) ∨
 ∃kvs k b,H a=some (.dT kvs)/\y = .ref b/\H b=some (.tup (k.map kV))/\kvs.length<sizeLine/\H'=upd H a (.dT (eU kvs k v))
theorem gB.k {H:Hp}{a:ax}{kvs:List (aF×V)}{k:aF}(e:H a=some (.dK kvs)):gB H a (kV k) (fE kvs k):=.inl ⟨kvs,k,.inl e,rfl,rfl⟩
theorem gB.t {H:Hp}{a b:ax}{kvs:List (List aF×V)}{k:List aF}(e:H a=some (.dT kvs))(eb:H b=some (.tup (k.map kV))):gB H a (.ref b) (fE kvs k):=.inr ⟨kvs,k,b,.inl e,rfl,eb,rfl⟩
theorem m9.k {H:Hp}{a:ax}{kvs:List (aF×V)}{k:aF}{v:V}(e:H a=some (.dK kvs))(hl:kvs.length<sizeLine):m9 H a (kV k) v (upd H a (.dK (eU kvs k v))):=.inl ⟨kvs,k,e,rfl,hl,rfl⟩
theorem m9.t {H:Hp}{a b:ax}{kvs:List (List aF×V)}{k:List aF}{v:V}(e:H a=some (.dT kvs))(eb:H b=some (.tup (k.map kV)))(hl:kvs.length<sizeLine) :
  m9 H a (.ref b) v (upd H a (.dT (eU kvs k v))):=.inr ⟨kvs,k,b,e,rfl,eb,hl,rfl⟩
section
variable {X:Cx}{ah:List (ax×Obj)}{σ:St}{H:Hp}{s:aw}{a:ax}{y v:V}{u r:av}{o:Option V}{A:az}{E:av→aw→Prop}
theorem a7.big (I:a7 X ah σ H s):sysModules<s.heap.objs.size:=by
 have h:mainGlobals<s.heap.objs.size:=(I.mod.glob.keeps I.bk).lt;exact Nat.lt_trans (by decide) h
theorem aJ4 {Q:av->aw->Prop}(hu:A.units+1<cLine)(I:a7 X ah σ H s)(g:gB H a y (some v))(ry:aZ y u)(h:∀w' s',a7 X ah σ H s'->aZ v w'->Q w' s') :
  wpAny (model X.prog X.w) A (getItem (.ref a) u) Q E s:=by
 rcases g with⟨kvs,k,e,ey,l⟩|⟨kvs,k,b,e,ey,eb,l⟩
 ·subst ey
  obtain⟨z,hd,vs,rel,dd⟩:=m8 I.hok e
  obtain⟨w',hw,rw'⟩:=fC.some_of (v:=v) (o:=valueAt vs k) (by rw[l];exact rel.val k)
  exact wpAny_getItem_of (nL ry) dd.mapOf hw (h w' _ (I.tok _) rw')
 ·subst ey
  cases (show u=Value.ref b from ry)
  obtain⟨z,hd,xs,rel,dd⟩:=nM I.hok e
  obtain⟨w',hw,rw'⟩:=fC.some_of (v:=v) (o:=(atKey xs k).map (·.2)) (by rw[l];exact rel.val k)
  obtain⟨p,hp,hp2⟩:=Option.map_eq_some_iff.mp hw
  refine wpAny_getItem_heap (tupleKind_room_in1 hu) (oI I.hok eb) dd hp ?_;rw[hp2];exact h w' _ (I.tok _) rw'
theorem aJ5 {Q:av->aw->Prop}(hu:A.units+1<cLine)(I:a7 X ah σ H s)(g:gB H a y o)(ry:aZ y u)(h:∀s',a7 X ah σ H s'->Q (.bool o.isSome) s') :
  wpAny (model X.prog X.w) A (compareOp .In u (.ref a)) Q E s:=by
 rcases g with⟨kvs,k,e,ey,l⟩|⟨kvs,k,b,e,ey,eb,l⟩
 ·subst ey
  obtain⟨z,hd,vs,rel,dd⟩:=m8 I.hok e
  refine wpAny_in_of (nL ry) hd dd.mapOf ?_;rw[<- (rel.val k).isSome_eq,<- l];exact h _ (I.tok _)
 ·subst ey
  cases (show u=Value.ref b from ry)
  obtain⟨z,hd,xs,rel,dd⟩:=nM I.hok e
  refine wpAny_in_heap (tupleKind_room_in1 hu) (oI I.hok eb) hd dd ?_;have q:=(rel.val k).isSome_eq;rw[Option.isSome_map]at q;rw[<- q,<- l];exact h _ (I.tok _)
theorem aJ6 {Q:av->aw->Prop}(hu:A.units+1<cLine)(I:a7 X ah σ H s)(g:gB H a y o)(ry:aZ y u)(h:∀s',a7 X ah σ H s'->Q (.bool (!o.isSome)) s') :
  wpAny (model X.prog X.w) A (compareOp .NotIn u (.ref a)) Q E s:=by
 rcases g with⟨kvs,k,e,ey,l⟩|⟨kvs,k,b,e,ey,eb,l⟩
 ·subst ey
  obtain⟨z,hd,vs,rel,dd⟩:=m8 I.hok e
  refine wpAny_notIn_of (nL ry) hd dd.mapOf ?_;rw[<- (rel.val k).isSome_eq,<- l];exact h _ (I.tok _)
 ·subst ey
  cases (show u=Value.ref b from ry)
  obtain⟨z,hd,xs,rel,dd⟩:=nM I.hok e
  refine wpAny_notIn_heap (tupleKind_room_in1 hu) (oI I.hok eb) hd dd ?_;have q:=(rel.val k).isSome_eq;rw[Option.isSome_map]at q;rw[<- q,<- l];exact h _ (I.tok _)
theorem yI {h':Heap}{t':Nat}{ob:HO}(I:a7 X ah σ H s)(mu:pU (H a))(hs:Heap.SameBut a s.heap h')(he:∃q,h'.get? a=some q)(new:bY X.prog X.w (upd H a ob) h' a ob) :
  a7 X ah σ (upd H a ob) { s with heap:=h',toks:=t' }:=
 I.write (x:=a) (e:=a) mu (.inl rfl) (λb q hb z=>(hs.2 b hb).trans z) he new
theorem V7 {P:ay}{w:ba}{H':Hp}{h':Heap}{kvs:List (aF×V)}{vs:List (aF×av)}(z:kvs.length<=sizeLine)(hd:(a==sysModules)=false)(rel:KV kvs vs)(dd:h'.DictOf (dF P w) a vs) :
  bY P w H' h' a (.dK kvs):=⟨z,hd,vs,rel,dd⟩
theorem aJ7 {H':Hp}{Q:Unit->aw->Prop}(hu:A.units+1<cLine)(I:a7 X ah σ H s)(g:m9 H a y v H')(ry:aZ y u)(rv:aZ v r)(h:∀s',a7 X ah σ H' s'->Q () s') :
  wpAny (model X.prog X.w) A (setItem (.ref a) u r) Q E s:=by
 rcases g with⟨kvs,k,e,ey,l,eH⟩|⟨kvs,k,b,e,ey,eb,l,eH⟩
 ·subst ey eH
  obtain⟨z,hd,vs,rel,dd⟩:=yH I.hok e
  have hz:vs.length<=sizeLine:=by rw[<- rel.length];exact z
  have hl:(eU kvs k v).length<=sizeLine:=by have:=yG kvs k v;omega
  refine wpAny_setItem_pairs (hsz:=hz) (nL ry) dd λh' dd' hs=>h _ ?_
  have he:∃q,h'.get? a=some q:=let ⟨q,_,_,hq,_⟩:=dd';⟨q,hq⟩
  exact yI I (by rw[e];exact bT1) hs he (V7 hl hd (rel.put k rv) dd')
 ·subst ey eH
  cases (show u=Value.ref b from ry)
  obtain⟨z,hd,xs,rel,dd⟩:=aJ3 I.hok e
  have hz:xs.length<=sizeLine:=by rw[<- Paired.length rel];exact z
  have hl:(eU kvs k v).length<=sizeLine:=by have:=yG kvs k v;omega
  refine wpAny_setItem_heap (hsz:=hz) (tupleKind_room_in1 hu) (oI I.hok eb) dd λh' dd' hs=>h _ ?_
  obtain⟨q,es,ep,hq,h2,h3,h4,_,h5⟩:=dd'
  refine yI I (by rw[e];exact bT1) hs ⟨q,hq⟩ ⟨hl,hd,_,(rel.put k eb rv).keeps λc ys ec=>?_,q,es,ep,hq,h2,h3,h4,h5⟩;rw[aL (aA0 ec e (λz=>nomatch z))];exact ec
end
section
variable {X:Cx}{ah:List (ax×Obj)}{σ:St}{H:Hp}{s:aw}{a:ax}{kvs:List (aF×V)}{k:aF}{u:av}{A:az}{E:av→aw→Prop}
theorem aJ8 {Q:av->aw->Prop}(I:a7 X ah σ H s)(e:Rd H a (.dK kvs))(h:∀t s',a7 X ah σ H s'->Q (.int kvs.length t) s'):wpAny (model X.prog X.w) A (call (.builtin "len") [.ref a]) Q E s:=by
 obtain⟨z,hd,vs,rel,dd⟩:=m8 I.hok e
 refine call_len_dict hd dd (by rw[<- rel.length];rw[sizeLine_eq]at z;omega) ?_;rw[<- rel.length];exact h _ _ (I.tok _)
end
def yJ (i:Expr):Prop:=∀ov iv,subscripted i false ov iv=operate [ov,iv] (getItem ov iv)
theorem aJ9 {prog:ay}{w:ba}{A:az}{E:av->aw->Prop}{s:aw}{env:Env}{value slice:Expr}{pos:Pos}{T id:String}{Q:av->aw->Prop}(hl:typeLookup (.type T) "__getitem__" = pure (some (.builtin id)))(hs:yJ slice)(h:wpAny (model prog w) A (eval value env) (λo s₁=>wpAny (model prog w) A (eval slice env) (λi s₂=>s₂.TypeIs o T/\wpAny (model prog w) A (getItem o i) Q E s₂) E s₁) E s) :
  wpAny (model prog w) A (eval (.Subscript value slice pos) env) Q E s:=by
 refine Subscript_ (bK8 h (λo s₁ h₁=>bK8 h₁ (λi s₂ h₂=>?_) λ_ _ x=>x) λ_ _ x=>x)
 obtain⟨hT,h₂⟩:=h₂
 unfold subscriptTail;refine bE9 ?_;rw[getitemInPython_of_ne hT.not_modules];refine bE9 (wpAny_specialOf hT hl ?_);have fin:wpAny (model prog w) A (subscripted slice false o i) (λr s₃=>wpAny (model prog w) A (letTemporaryGo value o r >>= λ_=>pure r) Q E s₃) E s₂:=by
  rw[hs o i];exact wpAny_operating (bK8 h₂ (λr s₃ h₃=>bE9 (wpAny_letTemporaryGo (bF5 h₃))) λ_ _ x=>x)
 first
  |exact bF5 (bE9 fin)
  |exact bE9 (bF5 (bE9 fin))
  |exact bE9 fin
theorem aK0 {X:Cx}{ah:List (ax×Obj)}{σ:St}{H:Hp}{s:aw}{a:ax}{y:V}{o:Option V}(I:a7 X ah σ H s)(g:gB H a y o):s.TypeIs (.ref a) "dict":=by
 rcases g with⟨kvs,k,e,_,_⟩|⟨kvs,k,b,e,_,_,_⟩
 ·obtain⟨_,_,vs,_,dd⟩:=m8 I.hok e
  exact dd.typeIs
 ·obtain⟨_,_,xs,_,dd⟩:=nM I.hok e
  exact dd.typeIs
def V8 (td ty:TE):TE:=λσ H Q=>td σ H λx H1=>ty σ H1 λy H2=>∃a v,x = .ref a/\gB H2 a y (some v)/\Q v H2
def V9 (ty td:TE):TE:=λσ H Q=>ty σ H λy H1=>td σ H1 λx H2=>∃a o,x = .ref a/\gB H2 a y o/\Q (.bl o.isSome) H2
def W0 (ty td:TE):TE:=λσ H Q=>ty σ H λy H1=>td σ H1 λx H2=>∃a o,x = .ref a/\gB H2 a y o/\Q (.bl (!o.isSome)) H2
def yK (td ty tv:TE):TS:=λD σ H=>tv σ H λv H1=>td σ H1 λx H2=>ty σ H2 λy H3=>∃a H4,x = .ref a/\m9 H3 a y v H4/\D.nx σ H4
section
variable {X:Cx}{o i e value:Expr}{pos pos' tpos:Pos}{td ty tv:TE}
theorem aK1 (hu:X.A.units+1<cLine)(ho:PE X o td)(hi:PE X i ty)(hs:yJ i):PE X (.Subscript o i pos) (V8 td ty):=by
 intro ah s σ H Q I h;refine aJ9 PySem.F.slot_dict_getitem.lookup hs (aN (ho ah s σ H _ I h) λu s1 ⟨x,H1,I1,rx,q1⟩=>aN (hi ah s1 σ H1 _ I1 q1) λiv s2 ⟨y,H2,I2,ry,a,v,ex,g,q2⟩=>?_);subst ex;obtain rfl:u=Value.ref a:=rx
 exact⟨aK0 I2 g,aJ4 hu I2 g ry λw' s3 I3 rw'=>⟨v,H2,I3,rw',q2⟩⟩
theorem aK2 (hu:X.A.units+1<cLine)(hi:PE X i ty)(ho:PE X o td):PC X .In i o (V9 ty td):=by
 intro ah s σ H Q I h;refine aN (hi ah s σ H _ I h) λiv s1 ⟨y,H1,I1,ry,q1⟩=>aN (ho ah s1 σ H1 _ I1 q1) λu s2 ⟨x,H2,I2,rx,a,ov,ex,g,q2⟩=>?_
 subst ex;obtain rfl:u=Value.ref a:=rx;exact aJ5 hu I2 g ry λs3 I3=>⟨.bl ov.isSome,H2,I3,rfl,q2⟩
theorem W5 (hu:X.A.units+1<cLine)(hi:PE X i ty)(ho:PE X o td):PC X .NotIn i o (W0 ty td):=by
 intro ah s σ H Q I h;refine aN (hi ah s σ H _ I h) λiv s1 ⟨y,H1,I1,ry,q1⟩=>aN (ho ah s1 σ H1 _ I1 q1) λu s2 ⟨x,H2,I2,rx,a,ov,ex,g,q2⟩=>?_
 subst ex;obtain rfl:u=Value.ref a:=rx;exact aJ6 hu I2 g ry λs3 I3=>⟨.bl (!ov.isSome),H2,I3,rfl,q2⟩
theorem W6 (hu:X.A.units+1<cLine)(ho:PE X o td)(hi:PE X i ty)(hv:PE X value tv)(hs:swapsWith value (some (.Subscript o i pos')) pos.line X.env=pure false) :
  PS X (.Assign [.Subscript o i pos'] value pos) (yK td ty tv):=by
 intro ah s σ H D I h;refine wpAny_Assign_Subscript (aN (hv ah s σ H _ I h) λr s1 ⟨v,H1,I1,rv,q1⟩=>aN (ho ah s1 σ H1 _ I1 q1) λu s2 ⟨x,H2,I2,rx,q2⟩=>aN (hi ah s2 σ H2 _ I2 q2) λiv s3 ⟨y,H3,I3,ry,a,H4,ex,g,q3⟩=>?_) hs;subst ex;obtain rfl:u=Value.ref a:=rx;exact aJ7 hu I3 g ry rv λs4 I4=>⟨σ,H4,I4,q3⟩
end
theorem aK3 {P:ay}{w:ba}{H:Hp}(h:Heap)(hb:sysModules<h.objs.size):bY P w H (h.push { cls:=.type "dict",data:=.dict #[] }) h.objs.size (.dK []):=
 ⟨bI2 _,bM4.mpr (Ne.symm (bI3 hb)),[],.nil,Heap.DictOf.new h⟩
theorem aK4 {P:ay}{w:ba}{H:Hp}(h:Heap)(hb:sysModules<h.objs.size):bY P w H (h.push { cls:=.type "dict",data:=.dict #[] }) h.objs.size (.dT []):=
 ⟨bI2 _,bM4.mpr (Ne.symm (bI3 hb)),[],.nil,_,#[],0,bG1 _ rfl,⟨rfl,rfl,rfl⟩,rfl,rfl,List.nodup_nil⟩
def W7:TE:=λ_ H Q=>∀p,H p=none->Q (.ref p) (upd H p (.dK []))
def W8:TE:=λ_ H Q=>∀p,H p=none->Q (.ref p) (upd H p (.dT []))
section
variable {X:Cx}{pos:Pos}
theorem aK5:PE X (.Dict [] [] pos) W7:=λah s σ H Q I h=>
 wpAny_Dict_empty ⟨.ref s.heap.objs.size,_,I.laid (a:=s.heap.objs.size) (o:=.dK []) (t':=s.toks) (λ_ _ q=>bF0 _ q) (bF7 _) (aK3 s.heap I.big),rfl,h _ (I.hok.fresh (bF7 _))⟩
theorem aK6:PE X (.Dict [] [] pos) W8:=λah s σ H Q I h=>
 wpAny_Dict_empty ⟨.ref s.heap.objs.size,_,I.laid (a:=s.heap.objs.size) (o:=.dT []) (t':=s.toks) (λ_ _ q=>bF0 _ q) (bF7 _) (aK4 s.heap I.big),rfl,h _ (I.hok.fresh (bF7 _))⟩
end
def nN (kvs more:List (aF×V)):List (aF×V):=more.foldl (λacc kv=>eU acc kv.1 kv.2) kvs
theorem KV.merge:∀{more:List (aF×V)}{rs:List (aF×av)}{kvs:List (aF×V)}{vs:List (aF×av)},KV more rs->KV kvs vs->KV (nN kvs more) (merged vs rs):=by
 intro more rs kvs vs r;unfold KV at r
 induction r generalizing kvs vs with
 |nil=>intro q;exact q
 |@cons p q ps qs h t ih=>
  intro r0;have e:KV (eU kvs p.1 p.2) (stored vs q.1 q.2):=by
   have:=r0.put p.1 h.2
   rw[<- h.1];exact this
  exact ih e
theorem W9:∀(more kvs:List (aF×V)),(nN kvs more).length<=kvs.length+more.length
 |[],kvs=>by show kvs.length<=kvs.length+0;omega
 |p::r,kvs=>by
  have h1:=W9 r (eU kvs p.1 p.2);have h2:=yG kvs p.1 p.2;show (nN (eU kvs p.1 p.2) r).length<=_;rw[bH8];omega
structure M1 (X:Cx)(o:Expr)(m:Str)(ai:Pos)(e:Expr)(aj:Pos):Prop where
 base:attributeBase o m X.env (eval o X.env)=eval o X.env
 few:((backTo aj (starEach [e] X.env)).all (λx=>!x.1)&&(backToKw aj (keywordEach [] X.env)).all (λx=>x.1.isSome)
 &&decide (([e]:List Expr).length+([]:List Keyword).length+(if ([]:List Keyword).isEmpty then 0 else 1)<30))=true
 line:(ai.endLine==aj.line)=true
 trees:backTo aj (starEach [e] X.env) = [(false,eval e X.env)]
structure M2 (X:Cx)(o:Expr)(m:Str)(ai:Pos)(e f:Expr)(aj:Pos):Prop where
 base:attributeBase o m X.env (eval o X.env)=eval o X.env
 few:((backTo aj (starEach [e,f] X.env)).all (λx=>!x.1)&&(backToKw aj (keywordEach [] X.env)).all (λx=>x.1.isSome)
 &&decide (([e,f]:List Expr).length+([]:List Keyword).length+(if ([]:List Keyword).isEmpty then 0 else 1)<30))=true
 line:(ai.endLine==aj.line)=true
 trees:backTo aj (starEach [e,f] X.env) = [(false,eval e X.env),(false,eval f X.env)]
def yL (H:Hp)(a:ax):Prop:=(∃kvs,Rd H a (.dK kvs))∨∃kvs,Rd H a (.dT kvs)
theorem X0 {X:Cx}{ah:List (ax×Obj)}{σ:St}{H:Hp}{s:aw}{a:ax}(I:a7 X ah σ H s)(d:yL H a) :
  s.TypeIs (.ref a) "dict"/\(∀b,Value.ref a = .ref b->∃ob,s.heap.get? b=some ob/\ob.dict=none)/\(a==sysModules)=false:=by
 rcases d with⟨kvs,e⟩|⟨kvs,e⟩
 ·obtain⟨_,hd,vs,_,dd⟩:=m8 I.hok e
  refine⟨dd.typeIs,λb q=>?_,hd⟩;cases q
  obtain⟨ob,_,_,h1,h2,_⟩:=dd
  exact⟨ob,h1,h2.2.1⟩
 ·obtain⟨_,hd,xs,_,dd⟩:=nM I.hok e
  refine⟨dd.typeIs,λb q=>?_,hd⟩;cases q
  obtain⟨ob,_,_,h1,h2,_⟩:=dd
  exact⟨ob,h1,h2.2.1⟩
section
variable {X:Cx}{ah:List (ax×Obj)}{σ:St}{H:Hp}{s:aw}{a:ax}{y d:V}{u r:av}{o:Option V}{A:az}{E:av→aw→Prop}
theorem aK7 {Q:av->aw->Prop}(hu:A.units+1<cLine)(I:a7 X ah σ H s)(g:gB H a y o)(ry:aZ y u)(rd:aZ d r)(h:∀w' s',a7 X ah σ H s'->aZ (o.getD d) w'->Q w' s') :
  wpAny (model X.prog X.w) A (call (.builtin "dict.get") [.ref a,u,r]) Q E s:=by
 rcases g with⟨kvs,k,e,ey,l⟩|⟨kvs,k,b,e,ey,eb,l⟩
 ·subst ey
  obtain⟨z,hd,vs,rel,dd⟩:=m8 I.hok e
  refine call_meetsIn bT7 dd.typeIs PySem.F.entry_dict_get (PySem.F.args_dict_get_3 _ _ _) (meets_dict_get_default (dF X.prog X.w) a (nL ry) hd r) ⟨_,dd.mapOf,h _ _ (I.tok _) ?_⟩;rw[l];exact (rel.val k).getD rd
 ·subst ey
  cases (show u=Value.ref b from ry)
  obtain⟨z,hd,xs,rel,dd⟩:=nM I.hok e
  refine call_meetsIn bT7 dd.typeIs PySem.F.entry_dict_get (PySem.F.args_dict_get_3 _ _ _) (meetsH_dict_get_default (tupleKind (dF X.prog X.w)) a b hd r) ⟨tupleKind_room_in1 hu,k,xs,oI I.hok eb,dd,h _ _ (I.tok _) ?_⟩;rw[l];exact (rel.val k).getD rd
end
def X1 (td ty tx:TE):TE:=λσ H Q=>td σ H λx H1=>∃a,x = .ref a/\yL H1 a/\ty σ H1 λy H2=>tx σ H2 λz H3=>∃o,gB H3 a y o/\Q (o.getD z) H3
section
variable {X:Cx}{o e f:Expr}{ai aj:Pos}{td ty tx:TE}
theorem aK8 (hu:X.A.units+1<cLine)(ho:PE X o td)(he:PE X e ty)(hf:PE X f tx)(m:M2 X o "get" ai e f aj):PE X (.Call (.Attribute o "get" ai) [e,f] [] aj) (X1 td ty tx):=by
 intro ah s σ H Q I h;refine wpAny_Call_method m.base m.few m.line PySem.F.plainAttrs_dict bT7 PySem.F.type_dict_get (aN (ho ah s σ H _ I h) λu s1 ⟨x,H1,I1,rx,a,ex,d,q1⟩=>?_);subst ex;obtain rfl:u=Value.ref a:=rx
 obtain⟨t1,t2,_⟩:=X0 I1 d
 refine⟨t1,t2,?_⟩;rw[m.trees]
 refine bQ1 rfl (bR9 (Calls.spliced_cons (aN (he ah s1 σ H1 _ I1 q1) λiv s2 ⟨y,H2,I2,ry,q2⟩=>
  Calls.spliced_cons (aN (hf ah s2 σ H2 _ I2 q2) λfv s3 ⟨z,H3,I3,rz,ov,g,q3⟩=>Calls.spliced_nil ?_))))
 exact aK7 hu I3 g ry rz λw' s4 I4 rw'=>⟨_,H3,I4,rw',q3⟩
end
end L2
namespace Att
open PySem PySem.W PySem.Calls PyProof.Rows
theorem aK9 {P:Params}{h:Heap}:∀(ns:ag) (vs:List av),WellAll P h vs (ns.map WData.int)->IntsAre vs ns:=by
 intro ns
 induction ns with
 |nil=>
  intro vs w;rw[List.map_nil]at w;cases w;exact .nil
 |cons n ns ih=>
  intro vs w;rw[bL0]at w;cases w with
  |cons a b=>
   cases a;exact .cons _ _ (ih _ b)
theorem X2 {l:OpenLaw}{n:Nat}(hn:l.most=some n){P:Params}{h:Heap}{args:List WData}{vals:List av}(hpre:l.row.toRowW.claim.pre args=true)(hwl:WellAll P h vals args) :
  ∃a vs ns,vals = [Value.ref a]/\args = [WData.list (ns.map WData.int)]/\h.get? a=some { cls:=.type "list",data:=.seq vs.toArray }/\IntsAre vs ns/\ns.length<=n:=by
 have hsh:WShape.hasAll [] args [.list .int]=true:=(pre_splitW hpre).1;have hc:l.pre.holds [] { args:=args }=true:=(pre_splitW hpre).2
 obtain⟨d,r,rfl,h1,h2⟩:=hasAllW_cons hsh
 obtain rfl:=hasAllW_nil h2
 obtain⟨xs,rfl,h3⟩:=hasW_list h1
 obtain⟨ns,rfl⟩:=items_int h3
 have am:ns.length<=n:=by
  unfold OpenLaw.pre at hc;have h4:(WTm.not (.lt (.lit (.int (n:Int))) (.len (.arg 0)))).holds [] { args:=[.list (ns.map .int)] }=true:=by
   have h4:=(holds_andW hc).1;rw[hn]at h4;exact h4
  have h5:=condW_of h4 (w_not (w_lt w_lit (w_len_list (w_arg rfl))));rw[bF1]at h5;refine Nat.le_of_not_lt λq=>?_
  have q':(n:Int)<((ns.length:Nat):Int):=by omega
  first
   |(rw[bG5 q']at h5;exact absurd h5 (by decide))
   |(simp at h5;omega)
 cases hwl with
 |cons w1 w2=>
  cases w2;cases w1 with
  |list ho hall=>exact⟨_,_,ns,rfl,rfl,ho,aK9 ns _ hall,am⟩
theorem X3 (l:OpenLaw)(args:List WData):l.row.toRowW.claim.post args (.bool true) args=true:=
 postW_of (r:=l.row.toRowW) (X:=(true==true))
  (show WShape.has [] (.bool true) .bool=true by first|rfl|decide|simp[WShape.has,WShape.arms,WShape.armsAll])
  (show (WTm.eq .res (.lit (.bool true))).value [] { args:=args,res:=some (.bool true),after:=args }=some (.bool (true==true)) from w_eq_bool (w_res rfl) w_lit) rfl
theorem bE6 {l:OpenLaw}{n:Nat}{q:ay}{loose:List Str}{XP:(Str->Option av)->Heap->Prop}{YP:ba->Heap->Prop}{d:DefRec}{x:Str}(hn:l.most=some n)(hdf:d.params.defaults = [])(hbind:∀pm cd doc v:av,bindArgs (docDef d.name d.params d.body d.scope pm cd doc) ⟨[v],[]⟩=pure [(x,v)])(hx:d.scope.names.lookup x=some .local∨d.scope.names.lookup x=some .cell)(hk:d.scope.kind = .function)(hco:d.scope.isCoroutine=false)(hgen:d.scope.isGenerator=false)(body:∀(w:ba) (s₀ s₁ s:aw) (mg mb:Str->Option av) (fa:ax) (o:Obj) (pm cd doc:av) (a:ax) (vs:List av) (ns:ag),
   Ground q loose [] XP w s₀ mg mb s₁.heap->YP w s₁.heap->
   s₁.heap.get? fa=some o->o.data = .func (docDef d.name d.params d.body d.scope pm cd doc)->s₁.heap.CodeRec cd d.name->mg d.name=some (.ref fa)->
   s₁.heap.get? a=some { cls:=.type "list",data:=.seq vs.toArray }->IntsAre vs ns->ns.length<=n->
   s.gens = #[]->s.os=s₁.os->
   Fr s₁.heap s₁.heap.objs.size s.heap (bindL (envOfC d.name d.scope s₁.heap.objs.size fa cd).kindOf [(x,.ref a)] λ_=>none)->
   Cl s₁.heap.objs.size (cellsFrom (s₁.heap.objs.size+1) d.scope.names []) s.heap (bindC (envOfC d.name d.scope s₁.heap.objs.size fa cd).kindOf [(x,.ref a)] λ_=>none)->
   wpAny (model l.prog w) (callerA.deeper (envOfC d.name d.scope s₁.heap.objs.size fa cd)) (execs d.body (envOfC d.name d.scope s₁.heap.objs.size fa cd))
    (λf s'=>f = .ret (.bool true)/\OldK s₁.heap s'.heap/\s'.os=s₁.os/\AllBare s'.gens) (λ_ _=>False) s) :
  WalkO q loose XP YP l.row.toRowW d [] (λf vs=>PySem.call f vs):=by
 intro w s₀ s₁ mg mb G Y fa o pm cd doc dV kV ho hd hcd hD hmg hg args vals as hpre hlay hrd hwl hlo;obtain rfl:dV = .none:=Dflts.none hD hdf;obtain rfl:kV = .none:=Dflts.noKw hD
 obtain⟨a,vs,ns,rfl,rfl,hobj,hints,am⟩:=X2 hn hpre hwl
 refine enter_call ?_;refine call_cells_ret (o:=o) (by rw[depth_caller];decide) ho (fd_plain hd) G.T.nolimit hcd (hbind pm cd doc (.ref a)) (λy hy=>?_) (λh₁ tk F X=>?_) hco hgen hk
 ·obtain rfl:y=(x,Value.ref a):=bF8.mp hy
  rcases hx with e|e
  ·exact .inl e
  ·exact .inr ⟨e,cellsFrom_some _ _ _ (.inl e)⟩
 ·refine bK8 (body w s₀ s₁ { s₁ with heap:=h₁,toks:=tk } mg mb fa o pm cd doc a vs ns G Y ho (fd_plain hd) hcd hmg hobj hints am hg rfl F X) (λf s' hq=>?_) (λ_ _ hq=>hq)
  obtain⟨rfl,h2,h3,h4⟩:=hq
  exact⟨.inl ⟨.bool true,.bool true,[],rfl,λ_=>rfl,.bool true,X3 l _,λ_=>⟨List.Pairwise.nil,λ_ hm=>(nomatch hm)⟩⟩,h2,h3,h4⟩
theorem aL0 {l:OpenLaw}{n:Nat}{q:ay}{loose:List Str}{XP:(Str->Option av)->Heap->Prop}{YP:ba->Heap->Prop}{d:DefRec}(hn:l.most=some n)(hdf:d.params.defaults = [])(call:∀(w:ba) (s₀ s₁:aw) (mg mb:Str->Option av) (fa:ax) (o:Obj) (pm cd doc:av) (a:ax) (vs:List av) (ns:ag),
   Ground q loose [] XP w s₀ mg mb s₁.heap->YP w s₁.heap->
   s₁.heap.get? fa=some o->o.data = .func (docDef d.name d.params d.body d.scope pm cd doc)->s₁.heap.CodeRec cd d.name->mg d.name=some (.ref fa)->
   s₁.heap.get? a=some { cls:=.type "list",data:=.seq vs.toArray }->IntsAre vs ns->ns.length<=n->s₁.gens = #[]->
   codeAny (model l.prog w) callerA (.call (.ref fa) ⟨[.ref a],[]⟩) (λr s'=>r = .ok (.ret (.bool true))/\OldK s₁.heap s'.heap/\s'.os=s₁.os/\AllBare s'.gens) s₁) :
  WalkO q loose XP YP l.row.toRowW d [] (λf vs=>PySem.call f vs):=by
 intro w s₀ s₁ mg mb G Y fa o pm cd doc dV kV ho hd hcd hD hmg hg args vals as hpre hlay hrd hwl hlo;obtain rfl:dV = .none:=Dflts.none hD hdf;obtain rfl:kV = .none:=Dflts.noKw hD
 obtain⟨a,vs,ns,rfl,rfl,hobj,hints,am⟩:=X2 hn hpre hwl
 refine enter_call (codeAny_mono (call w s₀ s₁ mg mb fa o pm cd doc a vs ns G Y ho (fd_plain hd) hcd hmg hobj hints am hg) λr s' hq=>?_)
 obtain⟨rfl,h2,h3,h4⟩:=hq
 exact⟨.inl ⟨.bool true,.bool true,[],rfl,λ_=>rfl,.bool true,X3 l _,λ_=>⟨List.Pairwise.nil,λ_ hm=>(nomatch hm)⟩⟩,h2,h3,h4⟩
end Att
namespace L2
open PySem PySem.Spec PyProof.Rows
theorem qO:∀{vs:List av}{ns:ag},IntsAre vs ns->aW (ns.map V.int) vs
 |_,_,.nil=>.nil
 |_,_,.cons n t h=>.cons ⟨t,rfl⟩ (qO h)
def tL (H:Hp):Prop:=∀b,H b=none∨∃o xs,H b=some (.frz o (.lst xs))
theorem aL1 {P:ay}{w:ba}{K:ae}{mg mb:Str->Option av}{CX:iZ}{k:Nat}{fa a:ax}{fd:FuncData}{x:Str}{sp:Sp}{s₁:aw}{vs:List av}{ns:ag}(KX:K.In s₁.heap)(hns:s₁.heap.Ns mainGlobals mg)(hb:s₁.heap.Ns builtinsNs mb)(hbb:∀x:Str,x≠"__name__"->mb x=bootBuiltins x)(hlim:s₁.heap.NoLimit)(hg:s₁.gens = #[])(ha:s₁.heap.get? a=some { cls:=.type "list",data:=.seq vs.toArray })(hi:IntsAre vs ns)(hl:ns.length<=sizeLine)(hr:bJ k callerA)(F:∀base:Heap,K.In base->base.Ns mainGlobals mg->bU P w K mg base CX k fa fd [x] sp)(hbind:∀(s:aw) (u:av),BindsTo s fd ⟨[u],[]⟩ [(x,u)])(hsp:∀H:Hp,tL H->aU K H a (ns.map V.int)->sp [.ref a] H (λv _=>v = .bl true) λ_ _ _=>False)(hCX:∀H e s',CX [] H s₁ (λ_ _ _=>False) e s'->False) :
  codeAny (model P w) callerA (.call (.ref fa) ⟨[.ref a],[]⟩) (λr s'=>r = .ok (.ret (.bool true))/\OldK s₁.heap s'.heap/\s'.os=s₁.os/\AllBare s'.gens) s₁:=by
 have rv:=qO hi;have lenV:=hi.length;have core:∀H:Hp,tL H->aU K H a (ns.map V.int)->cF P w H s₁.heap->(∀b,H b≠none->b=a)->(H a≠none->K.lookup a=none)->
   codeAny (model P w) callerA (.call (.ref fa) ⟨[.ref a],[]⟩) (λr s'=>r = .ok (.ret (.bool true))/\OldK s₁.heap s'.heap/\s'.os=s₁.os/\AllBare s'.gens) s₁:=by
  intro H hO hS hok hA hK;have base_of:∀{b:ax}{o:Obj},s₁.heap.get? b=some o->H b=none->(kO s₁.heap H).get? b=some o:=λe n=>aA2 e n
  have noA:∀{b:ax}{o:Obj}{es:Array DictEntry}{ep:Nat},s₁.heap.get? b=some o->o.data = .dict es ep->H b=none:=λ{b o es ep} e d=>by
   cases q:H b with
   |none=>rfl
   |some u=>
    have e':b=a:=hA b (by rw[q];simp);subst e';rw[ha]at e;cases e;have d':Data.seq vs.toArray _=Data.dict es ep:=d;cases d'
  have nsK:∀{b:ax}{m:Str->Option av},s₁.heap.Ns b m->(kO s₁.heap H).Ns b m:=λ{b m} ⟨o,es,ep,e,d,r⟩=>⟨o,es,ep,base_of e (noA e d),d,r⟩
  have hKb:K.In (kO s₁.heap H):=λb o e=>base_of (KX b o e) (by
   cases q:H b with
   |none=>rfl
   |some u=>
    have e':b=a:=hA b (by rw[q];simp);subst e'
    rw[hK (by rw[q];simp)]at e;cases e)
  have hM:Mod K mg (kO s₁.heap H):=⟨hKb,nsK hns,⟨mb,nsK hb,hbb⟩,let ⟨mc,h1,h2⟩:=hlim;⟨mc,nsK h1,h2⟩⟩;have e0:nK P w K mg (kO s₁.heap H) callerA [] s₁ H:=⟨rfl,hM,λb o e=>aA3 e,Nat.le_of_eq (aA1 _ _),trivial,λb hb=>absurd (show b∈([]:List ax) from hb) (by simp),hok,.of_eq hg⟩;refine codeAny_mono ((F _ hKb (nsK hns)).run callerA [] s₁ H ⟨[.ref a],[]⟩ [.ref a] [.ref a] _ _ hr e0 (hbind s₁ (.ref a)) (.cons rfl .nil) (hsp H hO hS)) λr s' h=>?_
  cases r with
  |error e=>exact (hCX H e s' h).elim
  |ok fl=>
   cases fl with
   |next=>exact False.elim h
   |brk=>exact False.elim h
   |cont=>exact False.elim h
   |ret u=>
    obtain⟨v,H',os,bare,un,hok',r',q⟩:=h
    have q':v = .bl true:=q;subst q';obtain rfl:u=Value.bool true:=r';refine⟨rfl,OldK.of_keep λb o e=>?_,os,bare⟩;cases q:H b with
    |none=>exact un.keep b o e q (by intro z;exact absurd (show b∈([]:List ax) from z) (by simp)) (by simp)
    |some u=>
     rcases hO b with z|⟨ob,xs,z⟩
     ·rw[q]at z;cases z
     ·have z2:=un.frzs b ob _ z
      obtain⟨e1,_⟩:=hok b _ z
      obtain⟨e2,_⟩:=hok' b _ z2
      rw[e]at e1;cases e1;exact e2
 cases hk:K.lookup a with
 |some o=>
  have e:=KX a o hk;rw[ha]at e;cases e;refine core (λ_=>none) (λ_=>.inl rfl) (.inr ⟨_,vs.toArray,_,hk,rfl,rfl,rfl,by rw[bF2,lenV];exact hl,by simpa using rv⟩) (λb u z=>by have z':(none:Option HO)=some u:=z;cases z') (λb z=>absurd rfl z) λz=>absurd rfl z
 |none=>
  refine core (λb=>if b=a then some (.frz { cls:=.type "list",data:=.seq vs.toArray } (.lst (ns.map V.int))) else none) (λb=>?_) (.inl (.inr ⟨{ cls:=.type "list",data:=.seq vs.toArray },if_pos rfl⟩)) (λb u z=>?_) (λb z=>?_) λ_=>hk
  ·by_cases hb:b=a
   ·exact .inr ⟨_,_,if_pos hb⟩
   ·exact .inl (if_neg hb)
  ·by_cases hb:b=a
   ·have z':=(if_pos hb).symm.trans z
    cases z';subst hb
    exact⟨ha,by rw[bF1];exact hl,vs,_,rv,ha⟩
   ·have z':=(if_neg hb).symm.trans z
    cases z'
  ·by_cases hb:b=a
   ·exact hb
   ·exact absurd (if_neg hb) z
theorem aL2 {l:PySem.W.OpenLaw}{n k:Nat}{q:ay}{loose:List Str}{XP:(Str->Option av)->Heap->Prop}{YP:ba->Heap->Prop}{d:DefRec}{K:Params->ae}{CX:ba->iZ}{sp:ba->Sp}{x:Str}(hn:l.most=some n)(hn2:n<=sizeLine)(hdf:d.params.defaults = [])(hr:bJ k callerA)(hY:∀(w:ba) (h:Heap),YP w h->(K w.params).In h)(F:∀(w:ba) (mg:Str->Option av) (fa:ax) (h:Heap),(K w.params).In h->h.Ns mainGlobals mg->mg d.name=some (.ref fa)->
   ∃fd:FuncData,(∀(s:aw) (u:av),BindsTo s fd ⟨[u],[]⟩ [(x,u)])/\
    ∀base:Heap,(K w.params).In base->base.Ns mainGlobals mg->bU l.prog w (K w.params) mg base (CX w) k fa fd [x] (sp w))(hsp:∀(w:ba) (H:Hp) (a:ax) (ns:ag),ns.length<=n->tL H->aU (K w.params) H a (ns.map V.int)->sp w [.ref a] H (λv _=>v = .bl true) λ_ _ _=>False)(hCX:∀(w:ba) (H:Hp) (s:aw) (e:av) (s':aw),CX w [] H s (λ_ _ _=>False) e s'->False) :
  PySem.W.WalkO q loose XP YP l.row.toRowW d [] (λf vs=>PySem.call f vs):=by
 refine Att.aL0 hn hdf λw s₀ s₁ mg mb fa o pm cd doc a vs ns G Y ho hd hcd hmg hobj hints am hg=>?_
 have KX:=hY w _ Y
 obtain⟨fd,hb,hF⟩:=F w mg fa _ KX G.T.g hmg
 exact aL1 KX G.T.g G.T.b G.T.builtins G.T.nolimit hg hobj hints (bH6 am hn2) hr hF hb (λH hO hS=>hsp w H a ns am hO hS) λH e s'=>hCX w H s₁ e s'
def eV (s:Stmt):Arguments:=match s with
 |.FunctionDef _ a _ _ _ _ _ _ _ _=>a
 |_=>{ posonlyargs:=[],args:=[],vararg:=none,kwonlyargs:=[],kw_defaults:=[],kwarg:=none,defaults:=[] }
def cU (s:Stmt):List Stmt:=match s with
 |.FunctionDef _ _ b _ _ _ _ _ _ _=>b
 |_=>[]
def aS (s:Stmt):Scope:=match s with
 |.FunctionDef _ _ _ _ _ _ sc _ _ _=>sc
 |_=>{ kind:=.function,names:=[],isGenerator:=false,isCoroutine:=false }
abbrev fF:iZ:=λ_ _ _ _ _ _=>False
abbrev E0:XK:=λ_ _ _=>False
theorem aL3 {X:Cx}:iC fF X E0:=λ_ _ _ _ _ _ _ h=>h.elim
structure cQ (K:ae)(x qual:Str)(st:Stmt)(f:ax)(fd:FuncData):Prop where
 ex:∃(oc:av) (od:Option ax) (kV doc pm:av) (an:Option ax) (cdv ct:av) (osl:Array (Option av)),
  fd=PySem.W.fnOf x qual (eV st) (cU st) (aS st) .none kV doc pm an cdv ct/\K.lookup f=some ⟨oc,od,.func fd,osl⟩/\PySem.W.codeIn K cdv qual=true
 kp:PySem.W.keepIn K (.ref f)=true
section
variable {P:ay}{w:ba}{K:ae}{mg:Str→Option av}{base:Heap}
theorem cQ.ok {x qual:Str}{st:Stmt}{f:ax}{fd:FuncData}{N ps:List Str}{k:Nat}{sp:Sp}(F:cQ K x qual st f fd)(S:FnScope N ps (aS st))(len:∀vs H Q E,sp vs H Q E->vs.length=ps.length)(hbody:∀(cdv:av) (A:az) (outer:List Env) (s:aw) (H:Hp) (vs:List V) (Q:VK) (E:XK),bJ k (A.deeper (envOfC qual (aS st) s.heap.objs.size f cdv))->sp vs H Q E->
   ∃t,dL (cP fF P w K mg base N qual (aS st) f cdv A outer s H E).nox (cU st) t/\t { nx:=λ_ H'=>Q .non H',rt:=Q } (gA N vs) H):bU P w K mg base fF (k+1) f fd ps sp:=by
 obtain⟨oc,od,kV,doc,pm,an,cdv,ct,osl,rfl,lk,hcd⟩:=F.ex
 refine T3 lk hcd S len λA outer s H vs Q E hr hsp=>?_
 obtain⟨t,h,q⟩:=hbody cdv A outer s H vs Q E hr hsp
 exact⟨t,h.nox,q⟩
theorem cQ.binds {x qual:Str}{st:Stmt}{f:ax}{fd:FuncData}{ps:List Str}(F:cQ K x qual st f fd)(h:∀(kV doc pm:av) (an:Option ax) (cdv ct:av) (us:List av),us.length=ps.length->bindArgs (PySem.W.fnOf x qual (eV st) (cU st) (aS st) .none kV doc pm an cdv ct) ⟨us,[]⟩=pure (ps.zip us)):dQ K fd ps []:=by
 obtain⟨oc,od,kV,doc,pm,an,cdv,ct,osl,rfl,lk,hcd⟩:=F.ex
 exact .all (h kV doc pm an cdv ct)
theorem k6 {x qual:Str}{st:Stmt}{f:ax}{oc:av}{od an:Option ax}{osl:Array (Option av)}{kV doc pm cdv ct:av}(l:K.lookup f=some ⟨oc,od,.func (PySem.W.fnOf x qual (eV st) (cU st) (aS st) .none kV doc pm an cdv ct),osl⟩)(c:PySem.W.codeIn K cdv qual=true)(k:PySem.W.keepIn K (.ref f)=true):cQ K x qual st f (PySem.W.fnOf x qual (eV st) (cU st) (aS st) .none kV doc pm an cdv ct):=⟨⟨oc,od,kV,doc,pm,an,cdv,ct,osl,rfl,l,c⟩,k⟩
end
theorem mB {A:az}{k:Nat}(hr:bJ k A):A.units+1<cLine:=Nat.lt_of_le_of_lt (Nat.add_le_add_left (by decide:1<=64) _) hr.units
theorem qP {n:Nat}(h:n<=1000):n<sizeLine:=Nat.lt_of_le_of_lt h (by decide)
section
variable {X:Cx}
theorem pv (i:Nat){x:Str}{pos:Pos}(hN:X.N[i]? = some x:=by rfl)(hv:cO X.env.scope x:=by first|exact Or.inl rfl|exact Or.inr (Or.inl rfl)|exact Or.inr (Or.inr rfl))(hd:(x==("__debug__":Str))=false:=by decide)(hcd:(x==("__classdict__":Str))=false:=by decide):PE X (.Name x pos) (eR i):=dM hN hv hd hcd
theorem aL4:cG X (.builtin "len") (λxs H Q=>∃a kvs,xs = [V.ref a]/\H a=some (.dK kvs)/\Q (.int kvs.length) H):=by
 intro ah s σ H xs us Q I r h
 obtain⟨a,kvs,rfl,ha,q⟩:=h
 obtain⟨u,rfl,ru⟩:=gI r
 cases ru;exact aJ8 I (.inl ha) λt s' I'=>⟨.int kvs.length,H,I',⟨t,rfl⟩,q⟩
end
theorem aM {A B:Prop}(h:B):if false=true then A else B:=by
 rw[if_neg bH5];exact h
theorem aY {A B:Prop}(h:A):if true=true then A else B:=by
 rw[if_pos rfl];exact h
def aD (H H':Hp):Prop:=∀b o,H b=some o->H' b=some o
theorem aD.refl (H:Hp):aD H H:=λ_ _ h=>h
theorem aD.trans {H H1 H2:Hp}(a:aD H H1)(b:aD H1 H2):aD H H2:=λc o h=>b c o (a c o h)
theorem aD.free {H H':Hp}(e:aD H H'){l:ax}(h:H' l=Option.none):H l=Option.none:=by
 cases q:H l with
 |none=>rfl
 |some o=>
  rw[e l o q]at h;cases h
theorem aD.seq {K:ae}{H H':Hp}{a:ax}{xs:List V}(e:aD H H')(h:aU K H a xs):aU K H' a xs:=by
 rcases h with (h|⟨o,h⟩)|h
 ·exact .inl (.inl (e _ _ h))
 ·exact .inl (.inr ⟨o,e _ _ h⟩)
 ·exact .inr h
def fO (cells:List (Str×ax)):List (Str×NameKind)->List (Str×ax)->List (Str×ax)
 |[],cs=>cs
 |(n,k)::r,cs=>fO cells r (if k==.free then (n,(cells.lookup n).getD 0)::cs else cs)
theorem yM {env:Env}:∀(ns:List (Str×NameKind)) (cs:List (Str×ax)),(∀x∈ns,x.2 = .free->∃c,env.cells.lookup x.1=some c)->
  (forIn ns cs (λ(x:Str×NameKind) r=>(match x with
   |(name,kind)=>if (kind==.free)=true then (do let y <- cellOf env name;pure (ForInStep.yield ((name,y)::r))) else pure (ForInStep.yield r)):_->_->Sem _))=(pure (fO env.cells ns cs):Sem (List (Str×ax)))
 |[],cs,_=>by rw[List.forIn_nil];rfl
 |(n,k)::r,cs,h=>by
  rw[List.forIn_cons];have hr:∀x∈r,x.2 = .free->∃c,env.cells.lookup x.1=some c:=λx hx=>h x (bG8 _ hx)
  cases hk:(k==NameKind.free) with
  |true=>
   have e:k = .free:=by simpa using hk
   obtain⟨c,hc⟩:=h (n,k) bG7 e
   simp only[hk,if_true];have e1:cellOf env n=pure c:=by unfold cellOf;rw[hc]
   rw[e1];show ((pure c >>= λy=>pure (ForInStep.yield ((n,y)::cs))) >>= _:Sem _)=_;rw[pure_bind,pure_bind]
   have:=yM (env:=env) r ((n,c)::cs) hr
   refine this.trans ?_;unfold fO;simp only[hk,if_true,hc,Option.getD_some];cases r<;>rfl
  |false=>
   simp only[hk,bI1,bM7];rw[pure_bind]
   have:=yM (env:=env) r cs hr
   refine this.trans ?_
   conv=>rhs;unfold fO
   simp only[hk,bI1,bM7]
theorem tN {scope:Scope}{env:Env}(h:∀x∈scope.names,x.2 = .free->∃c,env.cells.lookup x.1=some c):closureFor scope env=pure (fO env.cells scope.names []):=by
 have e:=yM (env:=env) scope.names [] h;unfold closureFor;rw[show (pure (fO env.cells scope.names []):Sem (List (Str×ax)))=(pure (fO env.cells scope.names []) >>= pure) by rw[pure_bind]];rw[<- e]
theorem tO {cells:List (Str×ax)}:∀(ns:List (Str×NameKind)) (cs:List (Str×ax)) {x:Str}{c:ax},(∀y∈ns,y.2 = .free->∃c,cells.lookup y.1=some c)->
  (∀x c,cs.lookup x=some c->cells.lookup x=some c)->(fO cells ns cs).lookup x=some c->cells.lookup x=some c
 |[],cs,x,c,_,hc,h=>hc x c h
 |(n,k)::r,cs,x,c,hn,hc,h=>by
  unfold fO at h;have hr:∀y∈r,y.2 = .free->∃c,cells.lookup y.1=some c:=λy hy=>hn y (bG8 _ hy)
  cases hk:(k==NameKind.free) with
  |false=>
   simp only[hk,bI1,bM7]at h;exact tO r cs hr hc h
  |true=>
   simp only[hk,if_true]at h;refine tO r _ hr (λy d e=>?_) h
   obtain⟨c0,h0⟩:=hn (n,k) bG7 (by simpa using hk)
   have h0:cells.lookup n=some c0:=h0;rw[h0]at e;rw[bL1]at e;by_cases hyn:y=n
   ·subst hyn
    simp only[bJ8,Option.getD_some]at e;rw[h0];exact e
   ·have:(y==n)=false:=bM4.mpr hyn
    simp only[this]at e;exact hc y d e
theorem yN {cells:List (Str×ax)}:∀(ns:List (Str×NameKind)) (cs:List (Str×ax)) {x:Str},((x,NameKind.free)∈ns∨∃c,cs.lookup x=some c)->∃c,(fO cells ns cs).lookup x=some c
 |[],cs,x,h=>by
  rcases h with h|h
  ·simp at h
  ·exact h
 |(n,k)::r,cs,x,h=>by
  unfold fO;refine yN r _ ?_;rcases h with h|⟨c,h⟩
  ·rcases bG0.mp h with e|e
   ·cases e
    exact .inr ⟨_,by simp[bL1];rfl⟩
   ·exact .inl e
  ·right
   cases hk:(k==NameKind.free) with
   |false=>exact⟨c,by simpa[hk] using h⟩
   |true=>
    simp only[if_true];rw[bL1];by_cases hxn:(x==n)=true
    ·simp only[hxn];exact⟨_,rfl⟩
    ·simp only[bQ2.mpr hxn];exact⟨c,h⟩
theorem tQ {env:Env}:∀{names:List (Str×NameKind)}{x:Str}{k:NameKind},(names.map λ(n,k)=>if (k==NameKind.free&&env.scope.kind==.function&&env.kindOf n==some .cell) then (n,NameKind.cell) else (n,k)).lookup x=some k->
  names.lookup x=some k∨(names.lookup x=some .free/\k = .cell)
 |[],_,_,h=>by simp at h
 |(n,q)::r,x,k,h=>by
  have ih:=@tQ env r x k;rw[bL0]at h;by_cases hx:(x==n)=true
  ·have e:x=n:=by simpa using hx
   subst e;by_cases hc:(q==NameKind.free&&env.scope.kind==.function&&env.kindOf x==some .cell)=true
   ·simp only[hc,if_true,bL1,bJ8]at h
    have hq:q = .free:=by simp at hc;exact hc.1.1
    exact .inr ⟨by simp[bL1,hq],(bG9 h).symm⟩
   ·simp only[hc,bI1,bM7,bL1,bJ8]at h
    exact .inl (by simp[bL1];exact bG9 h)
  ·have hx':(x==n)=false:=bQ2.mpr hx
   have h':(r.map λ(n,k)=>if (k==NameKind.free&&env.scope.kind==.function&&env.kindOf n==some .cell) then (n,NameKind.cell) else (n,k)).lookup x=some k:=by
    by_cases hc:(q==NameKind.free&&env.scope.kind==.function&&env.kindOf n==some .cell)=true
    ·simp only[hc,if_true,bL1,hx']at h;exact h
    ·simp only[hc,bI1,bM7,bL1,hx']at h;exact h
   simp only[bL1,hx'];exact ih h'
def gT (fr:List (Option Nat))(σ:St):St:=fr.map λo=>o.bind λj=>(σ[j]?).join
def Wk (σ₁ σ₂:St):Prop:=σ₁.length=σ₂.length/\∀(i:Nat) v,σ₁[i]? = some (some v)->σ₂[i]? = some (some v)
theorem Wk.refl (σ:St):Wk σ σ:=⟨rfl,λ_ _ h=>h⟩
theorem Wk.set {σ τ:St}{i:Nat}{v:V}(h:Wk σ τ)(hi:σ[i]? = some none):Wk σ (τ.set i (some v)):=by
 refine⟨by rw[bK3];exact h.1,λj w e=>?_⟩;by_cases hj:j=i
 ·subst hj;rw[hi]at e;cases e
 ·rw[bH2 (Ne.symm hj)];exact h.2 j w e
theorem kX:∀(ns:List (Str×NameKind)) (n:Nat) (cs:List (Str×ax)),cellsFrom n ns cs=cellsFrom n ns []++cs
 |[],_,_=>rfl
 |(x,k)::r,n,cs=>by
  unfold cellsFrom;split
  ·rw[kX r (n+1) ((x,n)::cs),kX r (n+1) [(x,n)]];simp
  ·exact kX r n cs
theorem yO:∀(ns:List (Str×NameKind)) (n:Nat) {x:Str}{c:ax},(x,c)∈cellsFrom n ns []->(x,NameKind.cell)∈ns
 |[],_,_,_,h=>by simp[cellsFrom]at h
 |(y,k)::r,n,x,c,h=>by
  unfold cellsFrom at h;split at h
  ·rename_i hk
   rw[kX]at h;rcases bJ0.mp h with z|z
   ·exact bG8 _ (yO r _ z)
   ·rw[bF8]at z
    cases z
    have:k = .cell:=by simpa using hk
    rw[this];exact bG7
  ·exact bG8 _ (yO r _ h)
theorem tR:∀(ns:List (Str×NameKind)) (n:Nat) {x:Str},(x,NameKind.cell)∈ns->∃c,(x,c)∈cellsFrom n ns []
 |(y,k)::r,n,x,h=>by
  unfold cellsFrom;rcases bG0.mp h with z|z
  ·cases z
   rw[if_pos (by rfl),kX]
   exact⟨n,bJ4 _ (by simp)⟩
  ·split
   ·obtain⟨c,hc⟩:=tR r (n+1) z
    rw[kX]
    exact⟨c,List.mem_append_left _ hc⟩
   ·exact tR r n z
theorem yP {α:Type}:∀{l:List (Str×α)}{x:Str}{c:α},(x,c)∈l->∃d,l.lookup x=some d
 |(y,v)::r,x,c,h=>by
  rw[bL1];cases hb:x==y with
  |true=>exact⟨v,rfl⟩
  |false=>
   rcases bG0.mp h with z|z
   ·cases z;simp at hb
   ·exact yP z
theorem tS {α:Type}{x:Str}:∀(l r:List (Str×α)),(l++r).lookup x=(match l.lookup x with|some v=>some v|none=>r.lookup x)
 |[],_=>rfl
 |(y,v)::l,r=>by
  rw[List.cons_append,bL1,bL1];cases hb:x==y with
  |true=>rfl
  |false=>exact tS l r
def j0 (X:Cx)(scope:Scope)(C:ax):List (Str×ax):=cellsFrom (C+1) scope.names (fO X.env.cells scope.names [])
theorem nO {X:Cx}{scope:Scope}{C:ax}{x:Str}{c:ax}(h:(j0 X scope C).lookup x=some c) :
  (x,c)∈cellsFrom (C+1) scope.names []∨((∀d,(x,d)∉cellsFrom (C+1) scope.names [])/\(fO X.env.cells scope.names []).lookup x=some c):=by
 unfold j0 at h;rw[kX,tS]at h;cases e:(cellsFrom (C+1) scope.names []).lookup x with
 |some v=>rw[e]at h;cases h;exact .inl (bK5 e)
 |none=>
  rw[e]at h;refine .inr ⟨λd hd=>?_,h⟩
  obtain⟨d',z⟩:=yP hd
  rw[e]at z;cases z
theorem aL5 {X:Cx}{scope:Scope}{C:ax}{x:Str}{c:ax}(hn:(x,NameKind.cell)∉scope.names)(h:(fO X.env.cells scope.names []).lookup x=some c):(j0 X scope C).lookup x=some c:=by
 unfold j0;rw[kX,tS];cases e:(cellsFrom (C+1) scope.names []).lookup x with
 |some v=>exact absurd (yO _ _ (bK5 e)) hn
 |none=>exact h
theorem X4 {X:Cx}{scope:Scope}{C:ax}{x:Str}(h:(x,NameKind.cell)∈scope.names∨∃c,(fO X.env.cells scope.names []).lookup x=some c):∃c,(j0 X scope C).lookup x=some c:=by
 unfold j0;rw[kX,tS];cases e:(cellsFrom (C+1) scope.names []).lookup x with
 |some v=>exact⟨v,rfl⟩
 |none=>
  rcases h with h|h
  ·obtain⟨c,hc⟩:=tR scope.names (C+1) h
   obtain⟨d,hd⟩:=yP hc
   rw[e]at hd;cases hd
  ·exact h
def bZ (X:Cx)(scope:Scope)(N:List Str)(s:aw)(H:Hp)(C:ax)(fp:List ax)(E:av->aw->Prop):Cx:=
 { X with N:=N,s₀:=s,H₀:=H,env:=compEnvC scope (j0 X scope C) C X.env,outer:=X.stack,ex:=fp,fn:=λx=>scope.names.lookup x==some .cell,pn:=[],xe:=E }
structure dS (X:Cx)(scope:Scope)(N:List Str)(fr:List (Option Nat)):Prop where
 kind:scope.kind = .function
 own:∀y∈scope.names,y.2 = .cell->scope.names.lookup y.1=some .cell
 names:∀y∈scope.names,y.2 = .local->scope.names.lookup y.1=some .local
 free:∀y∈scope.names,y.2 = .free->X.env.scope.names.lookup y.1=some .cell∨X.env.scope.names.lookup y.1=some .free
 len:fr.length=N.length
 from_:∀(i j:Nat),fr[i]? = some (some j)->∃x,N[i]? = some x/\X.N[j]? = some x/\scope.names.lookup x=some .free
section
variable {X:Cx}{ah:List (ax×Obj)}{σ:St}{H:Hp}{s:aw}{scope:Scope}{N:List Str}{fr:List (Option Nat)}
theorem dS.cells (S:dS X scope N fr)(I:a7 X ah σ H s):∀y∈scope.names,y.2 = .free->∃c,X.env.cells.lookup y.1=some c:=λy hy hk=>I.ok.has y.1 (S.free y hy hk)
theorem aL6 {C D:ax}{fp:List ax}{E:av->aw->Prop}{h1:Heap}{tk:Nat}{m:Str->Option av}(S:dS X scope N fr)(I:a7 X ah σ H s)(hf:∀b∈fp,iX X ah H b)(hfl:∀b∈fp,b<s.heap.objs.size)(hD:s.heap.objs.size<=D)(hC:s.heap.objs.size<=C)(hDC:D<C)(old:∀b o,s.heap.get? b=some o->h1.get? b=some o)(hns:h1.Ns C m)(hacc:h1.get? D=some { cls:=.type "list",data:=.seq #[] 0 })(hco:CellsOk h1 (C+1) (cellsFrom (C+1) scope.names [])) :
  a7 (bZ X scope N s H C fp E) [] (gT fr σ) (upd H D (.lst [])) { s with heap:=h1,toks:=tk }:=by
 have hHD:H D=none:=I.hok.fresh hD;have cl:=S.cells I;have cs:∀{x:Str}{c:ax},(fO X.env.cells scope.names []).lookup x=some c->X.env.cells.lookup x=some c:=λ{x c} h=>tO scope.names [] cl (λ_ _ z=>by simp at z) h
 have clt:∀{x:Str}{c:ax},X.env.cells.lookup x=some c->c<s.heap.objs.size:=λ{x c} h=>by obtain⟨v,z⟩:=I.cell x c h;exact z.lt
 have nge:∀{x:Str}{c:ax},(x,c)∈cellsFrom (C+1) scope.names []->C<c:=λ{x c} h=>(hco.empty x c h).2
 refine⟨⟨I.ok.mod,?_,I.ok.glob,I.ok.blt,hC,?_,?_,?_,I.ok.hd,I.ok.frames,.inl rfl,?_,I.bs,bH6 I.ok.bsz I.sz,?_,?_,I.stack,I.stkFree⟩,rfl,I.bare,Un.laid old hD hHD,⟨m,hns,?_⟩,?_,?_,?_,λp hp=>absurd (show p∈([]:List (ax×Obj)) from hp) (by simp),?_,?_⟩
 ·exact S.kind
 ·intro x y c h1 h2
  rcases nO h1 with a|⟨_,a⟩<;>rcases nO h2 with b|⟨_,b⟩
  ·exact name_of_addr hco.apart a b
  ·exact absurd (bG2 (Nat.lt_trans (nge a) (clt (cs b))) hC) (bJ5 _)
  ·exact absurd (bG2 (Nat.lt_trans (nge b) (clt (cs a))) hC) (bJ5 _)
  ·exact I.ok.inj x y c (cs a) (cs b)
 ·intro x hx
  have hx:(relabel scope X.env).names.lookup x=some .cell∨(relabel scope X.env).names.lookup x=some .free:=hx;have fin:(x,NameKind.free)∈scope.names->∃c,(j0 X scope C).lookup x=some c:=λz=>X4 (.inr (yN scope.names [] (.inl z)))
  rcases hx with hx|hx
  ·rcases tQ hx with z|z
   ·exact X4 (.inl (bK5 z))
   ·exact fin (bK5 z.1)
  ·rcases tQ hx with z|z
   ·exact fin (bK5 z)
   ·exact absurd z.2 (by decide)
 ·intro x c hx h
  have hx:(scope.names.lookup x==some NameKind.cell)=true:=hx;have hx:scope.names.lookup x=some .cell:=by simpa using hx
  rcases nO h with a|⟨a,_⟩
  ·exact bH6 hC (bJ6 (nge a))
  ·obtain⟨d,hd⟩:=tR scope.names (C+1) (bK5 hx)
   exact absurd hd (a d)
 ·intro b hb
  refine⟨bI3 (bG2 (hfl b hb) hC),λx c e=>?_⟩;rcases nO e with a|⟨_,a⟩
  ·exact bN5 (Nat.lt_trans (bG2 (hfl b hb) hC) (nge a))
  ·exact (hf b hb).2.2.2.2.1 x c (cs a)
 ·intro b o e hb
  rcases (hf b hb).2.2.2.1 with z|z
  ·exact I.ok.noex b o e z
  ·exact absurd (bG2 (bG6 e) (bH6 I.ok.bsz z)) (bJ5 _)
 ·intro b hb z
  rcases bG0.mp (I.stkSub b z) with e|e
  ·exact (hf b hb).2.1 e
  ·exact (hf b hb).2.2.1 e
 ·intro i x v e1 e2 e3
  have e2:(fr.map λo=>o.bind λj=>(σ[j]?).join)[i]? = some (some v):=e2;rw[bG4]at e2;cases ef:fr[i]? with
  |none=>rw[ef]at e2;cases e2
  |some o=>
   rw[ef]at e2;cases o with
   |none=>cases e2
   |some j=>
    have e2:some ((σ[j]?).join)=some (some v):=e2;have ej:σ[j]? = some (some v):=by
     cases q:σ[j]? with
     |none=>rw[q]at e2;cases e2
     |some w=>rw[q]at e2;cases w with
      |none=>cases e2
      |some w=>cases e2;rfl
    obtain⟨y,a1,a2,a4⟩:=S.from_ i j ef
    have e1:N[i]? = some x:=e1;rw[e1]at a1;cases a1;have a3:(x,NameKind.free)∈scope.names:=bK5 a4;have vis:cO X.env.scope x:=(S.free _ a3 rfl).elim (λz=>.inr (.inl z)) λz=>.inr (.inr z)
    obtain⟨m0,hn0,hl0⟩:=I.loc
    obtain⟨u,r,l⟩:=hl0 j x v a2 ej vis
    refine⟨u,r,.inr ⟨?_,?_⟩⟩
    ·have e3:(relabel scope X.env).names.lookup x=some .local∨(relabel scope X.env).names.lookup x=some .cell∨(relabel scope X.env).names.lookup x=some .free:=e3
     rcases e3 with z|z|z
     ·rcases tQ z with y|y
      ·rw[a4]at y;cases y
      ·exact absurd y.2 (by decide)
     ·exact .inl z
     ·exact .inr z
    ·obtain⟨c,hc⟩:=yN (cells:=X.env.cells) scope.names [] (x:=x) (.inl a3)
     refine⟨c,aL5 (λz=>by have:=S.own _ z rfl;rw[a4]at this;cases this) hc,?_⟩;have hc':=cs hc;have S1:=S.free (x,.free) a3 rfl;rcases l with⟨k,_⟩|⟨_,c2,hc2,z⟩
     ·have k:X.env.scope.names.lookup x=some .local:=k
      rcases S1 with q|q<;>(have q:X.env.scope.names.lookup x=_:=q;rw[k]at q;cases q)
     ·rw[hc']at hc2;cases hc2
      obtain⟨oc,ho,hd⟩:=z
      exact⟨oc,old c oc ho,hd⟩
 ·intro x c e
  rcases nO e with a|⟨_,a⟩
  ·exact⟨_,(hco.empty x c a).1⟩
  ·obtain⟨v,oc,ho,hd⟩:=I.cell x c (cs a)
   exact⟨v,oc,old c oc ho,hd⟩
 ·show upd H D (.lst []) C=none
  rw[aL (bN5 hDC)];exact I.hok.fresh hC
 ·intro x c e
  show upd H D (.lst []) c=none;rcases nO e with a|⟨_,a⟩
  ·rw[aL (bN5 (Nat.lt_trans hDC (nge a)))];exact I.hok.fresh (bH6 hC (bJ6 (nge a)))
  ·have q:=cs a
   rw[aL (bI3 (bG2 (clt q) hD))];exact I.freeC x c q
 ·exact I.hok.laid old hD ⟨bI2 _,[],0,.nil,hacc⟩
 ·show (gT fr σ).length=N.length
  unfold gT;rw[bF1];exact S.len
end
def mC (X:Cx)(ifs:List Expr)(t:TT):Prop:=
 ∀(ah:List (ax×Obj)) (s:aw) (σ:St) (H:Hp) (Q:Bool->Hp->Prop),a7 X ah σ H s->t σ H Q->
  wpAny (model X.prog X.w) X.A (forIn ifs true λc r=>if r=true then do let ok <- isTrue c X.env (eval c X.env);pure (ForInStep.yield ok) else pure (ForInStep.yield r)) (TP X ah σ Q) X.xe s
def yQ:TT:=λ_ H Q=>Q true H
theorem tT {X:Cx}:mC X [] yQ:=λ_ _ _ H _ I h=>wpAny_tests_nil ⟨H,I,h⟩
theorem yR {X:Cx}{c:Expr}{t:TT}(h:PT X c t):mC X [c] t:=λah s σ H Q I hq=>wpAny_tests_one (h ah s σ H Q I hq)
section
variable {prog:ay}{w:ba}{A:az}
def yS (prog:ay)(w:ba)(A:az)(elt tg:Expr)(ifs:List Expr)(it acc:av)(env:Env)(lost:av->aw->Prop)(stop next:aw->Prop)(s:aw):Prop:=
 let M:=model prog w
 let tests:Sem Bool:=forIn ifs true λc r=>if r=true then do let ok <- isTrue c env (eval c env);pure (ForInStep.yield ok) else pure (ForInStep.yield r)
 let put:aw->Prop:=wpAny M A (eval elt env) (λx=>wpAny M A (call (.builtin "list.append") [acc,x]) (λ_=>next) lost) lost
 let taken:av->aw->Prop:=λv=>wpAny M A (letOwnedTupleGo tg it v) (λ_=>wpAny M A (assign tg env v) (λ_=>wpAny M A tests (λok s'=>if ok=true then put s' else next s') lost) lost) lost
 wpAny M A (pyNext it) (λr s'=>match r with
  |none=>stop s'
  |some v=>taken v s') lost s
theorem aL7 {R:Result->aw->Prop}{s:aw}{elt tg iter:Expr}{ifs:List Expr}{scope:Scope}{pos:Pos}{it acc:av}{env:Env}(I:Nat->aw->Prop)(turn:∀n s,I n s->yS prog w A elt tg ifs it acc env (notedBy (model prog w) A env λe=>R (.error e)) (R (.ok .next)) (λs'=>∃m,m<n/\I m s') s)(n:Nat)(h:I n s) :
  codeAny (model prog w) A (.compLoop (.ListComp elt [⟨tg,iter,ifs,0⟩] scope pos) 0 it acc env) R s:=by
 apply codeAny_loop rfl I _ n h;intro k s1 h1
 change wpAny _ A ((compTurn _ 0 it acc env).onRaise (λx=>do noteFrame x env;theTreesLotGoes x)) _ _ s1
 apply wpAny_noted;rw[compTurn_list];have t:=turn k s1 h1;unfold yS at t;apply bE9;apply wpAny_standAt;apply bE9;refine bK8 t (λr s2 h2=>?_) λ_ _ z=>z
 cases r with
 |none=>exact bF5 h2
 |some v=>
  apply bE9;refine bK8 h2 (λ_ s3 h3=>?_) λ_ _ z=>z
  apply bE9;refine bK8 h3 (λ_ s4 h4=>?_) λ_ _ z=>z
  apply bE9;refine bK8 h4 (λok s5 h5=>?_) λ_ _ z=>z
  cases ok with
  |false=>exact bF5 ⟨rfl,h5⟩
  |true=>
   apply bE9;apply bE9;refine bK8 h5 (λx s6 h6=>?_) λ_ _ z=>z
   apply bE9;exact bK8 h6 (λ_ s7 h7=>bF5 (bF5 ⟨rfl,h7⟩)) λ_ _ z=>z
end
def qQ (g:TG)(tc:TT)(te:TE)(σ0:St)(J:It)(D:ax)(Q:VK)(W:Nat->Nat->List V->Hp->Prop):Prop:=
 ∀i m acc H',W i m acc H'->H' D=some (.lst acc)/\((J.stop i H'/\Q (.ref D) H')∨(J.go i H'/\∀x H2,J.yld i H' x H2->g x σ0 H2 λσ2 H3=>Wk σ0 σ2/\tc σ2 H3 λb H4=>
  if b=true then te σ2 H4 λv H5=>H5 D=some (.lst acc)/\acc.length<sizeLine/\∃m',m'<m/\W (i+1) m' (acc++[v]) (upd H5 D (.lst (acc++[v]))) else ∃m',m'<m/\W (i+1) m' acc H4))
def X5 (wi:TI)(fr:List (Option Nat))(g:TG)(tc:TT)(te:TE):TE:=λσ H Q=>wi σ H λJ H1=>∀D,H1 D=none->
 ∃W:Nat->Nat->List V->Hp->Prop,(∃m,W 0 m [] (upd H1 D (.lst [])))/\qQ g tc te (gT fr σ) J D Q W
section
variable {M:Model}{A:az}{E:av→aw→Prop}{s:aw}
theorem aL8 {scope:Scope}{globals:ax}{cl:List (Str×ax)}{qual:Str}{func:Option ax}{code:av}{builtins:ax}{outer:Env}{Q:Env->aw->Prop}(hQ:∀h',h'.Ns s.heap.objs.size (λ_=>none)->(∀b o,s.heap.get? b=some o->h'.get? b=some o)->CellsOk h' (s.heap.objs.size+1) (cellsFrom (s.heap.objs.size+1) scope.names [])->
   Q (newEnv scope s.heap.objs.size globals (cellsFrom (s.heap.objs.size+1) scope.names cl) qual func code (some outer) builtins) { s with heap:=h' }) :
  wpAny M A (newFunctionEnv scope globals cl [] qual func code (some outer) builtins) Q E s:=by
 simp only[newFunctionEnv,Option.isSome_some,if_true];refine bE9 (wpAny_alloc ?_);refine bE9 (wpAny_layCells _ (λname kind cells=>by cases hkc:kind==NameKind.cell<;>simp[hkc]) _ _ _ _ ?_);have ok:=cellsFrom_ok scope.names (s.heap.push { cls:=.type "dict",data:=.dict #[] }) (s.heap.objs.size+1) [] ⟨λ_ _ hm=>(nomatch hm),List.Pairwise.nil⟩ (by rw[bP9];exact bF7 _);rw[bP9]at ok;rw[show ({ s with heap:=s.heap.push { cls:=.type "dict",data:=.dict #[] } }:aw).heap.objs.size=s.heap.objs.size+1 from bP9 ..];rw[List.forIn_nil];refine bE9 (bF5 (bF5 (hQ _ ((Heap.Ns.new s.heap (.type "dict")).keeps (pushCells_keeps _ _)) (λb o e=>pushCells_keeps _ _ b o (bF0 _ e)) ok)))
end
section
variable {X:Cx}{ah:List (ax×Obj)}{σ:St}{H:Hp}{s:aw}{scope:Scope}{N:List Str}{fr:List (Option Nat)}{tg iter elt:Expr}{ifs:List Expr}{pos:Pos}{wi:TI}{g:TG}{tc:TT}{te:TE}
structure oJ (X:Cx)(scope:Scope)(N:List Str)(tg:Expr)(ifs:List Expr)(elt:Expr)(s:aw)(H:Hp)(g:TG)(tc:TT)(te:TE):Prop where
 tg:∀(C:ax) (fp:List ax),PG (bZ X scope N s H C fp λ_ _=>False) tg g
 ifs:∀(C:ax) (fp:List ax),mC (bZ X scope N s H C fp λ_ _=>False) ifs tc
 elt:∀(C:ax) (fp:List ax),PE (bZ X scope N s H C fp λ_ _=>False) elt te
structure qR (X:Cx)(scope:Scope)(N:List Str)(tg:Expr)(ifs:List Expr)(elt:Expr)(g:TG)(tc:TT)(te:TE):Prop where
 tg:∀(s:aw) (H:Hp) (C:ax) (fp:List ax),PG (bZ X scope N s H C fp λ_ _=>False) tg g
 ifs:∀(s:aw) (H:Hp) (C:ax) (fp:List ax),mC (bZ X scope N s H C fp λ_ _=>False) ifs tc
 elt:∀(s:aw) (H:Hp) (C:ax) (fp:List ax),PE (bZ X scope N s H C fp λ_ _=>False) elt te
theorem qR.at (B:qR X scope N tg ifs elt g tc te)(s:aw)(H:Hp):oJ X scope N tg ifs elt s H g tc te:=⟨B.tg s H,B.ifs s H,B.elt s H⟩
theorem aL9 {C:ax}{fp:List ax}{E:av->aw->Prop}{pins':List (ax×Obj)}{σ':St}{H':Hp}{s':aw}(I:a7 X ah σ H s)(hf:∀b∈fp,iX X ah H b)(I':a7 (bZ X scope N s H C fp E) pins' σ' H' s'):a7 X ah σ H' s':=
 I.call' (ch:=fp) I'.os I'.base I'.hok I'.bare λb hb=>⟨(hf b hb).2.2.2.1,(hf b hb).2.1,(hf b hb).2.2.2.2.1,(hf b hb).2.2.2.2.2⟩
theorem tU {Rr:av->ax->Result->aw->Prop}{J:It}{fp:List ax}{it:ax}{tn:Nat->Heap->Prop}{Q:VK}(hc:X.calm=true)(S:dS X scope N fr)(B:oJ X scope N tg ifs elt s H g tc te)(I:a7 X ah σ H s)(T:kR X.prog X.w X.K tg J fp it tn)(hst:tn 0 s.heap)(hf:∀b∈fp,iX X ah H b)(h:∀D,H D=none->∃W:Nat->Nat->List V->Hp->Prop,(∃m,W 0 m [] (upd H D (.lst [])))/\qQ g tc te (gT fr σ) J D Q W)(hend:∀(D C:ax) (s':aw) (H':Hp) (m:Str->Option av),s.heap.objs.size<=C->s.heap.objs.size<=D->a7 X ah σ H' s'->s'.heap.Ns C m->H' C=none->Q (.ref D) H'->Rr (.ref D) C (.ok .next) s') :
  wpAny (model X.prog X.w) X.A (newList []) (λacc s₃=>wpAny (model X.prog X.w) X.A (newFunctionEnv scope X.env.globals (fO X.env.cells scope.names []) [] X.env.qual none .none (some X.env)) (λcenv s₄=>
   codeAny (model X.prog X.w) X.A (.compStart (.ListComp elt [⟨tg,iter,ifs,0⟩] scope pos) 0 (.ref it) acc { cenv with scope:=relabel scope X.env }) (Rr acc cenv.locals) s₄) X.xe s₃) X.xe s:=by
 refine bM6 (aL8 (λh₁ hns₁ keep₁ hco₁=>?_));dsimp only at hns₁ keep₁ hco₁ ⊢;generalize hH2:s.heap.push { cls:=.type "list",dict:=none,data:=.seq ([]:List av).toArray }=H2 at hns₁ keep₁ hco₁ ⊢;have hC:H2.objs.size=s.heap.objs.size+1:=by rw[<- hH2,bP9]
 have hDC:s.heap.objs.size<H2.objs.size:=by rw[hC];exact Nat.lt_succ_self _
 have hCle:s.heap.objs.size<=H2.objs.size:=by rw[hC];exact bU8 _
 have old:∀b o,s.heap.get? b=some o->h₁.get? b=some o:=λb o e=>keep₁ b o (hH2▸bF0 _ e)
 have hacc:h₁.get? s.heap.objs.size=some { cls:=.type "list",data:=.seq #[] 0 }:=keep₁ _ _ (hH2▸bG1 _ rfl);have hfl:∀b∈fp,b<s.heap.objs.size:=λb hb=>by obtain⟨o,e,_⟩:=T.obj _ _ hst b hb;exact bG6 e
 obtain⟨W,⟨m0,w0⟩,turn⟩:=h s.heap.objs.size (I.hok.fresh (bF7 _))
 have st1:tn 0 h₁:=T.keep _ _ _ hst λb _ o e=>old b o e
 have fr0:∀b∈fp,upd H s.heap.objs.size (.lst []) b=none:=λb hb=>by rw[aL (bI3 (hfl b hb))];exact (hf b hb).1
 have stat:∀{H':Hp},(∀b∈fp,H' b=none)->∀b∈fp,iX (bZ X scope N s H H2.objs.size fp λ_ _=>False) [] H' b:=λ{H'} hn b hb=>by
  have f:=hf b hb;refine⟨hn b hb,bI3 (bG2 (hfl b hb) hCle),λz=>?_,.inl hb,λx c e=>(nO e).elim (λz=>bN5 (Nat.lt_trans (bG2 (hfl b hb) hCle) (hco₁.empty x c z).2)) λz=>f.2.2.2.2.1 x c (tO scope.names [] (S.cells I) (λ_ _ z=>by simp at z) z.2),λp hp=>absurd (show p∈([]:List (ax×Obj)) from hp) (by simp)⟩;rcases bG0.mp (I.stkSub b z) with e|e
  ·exact f.2.1 e
  ·exact f.2.2.1 e
 generalize hX:bZ X scope N s H H2.objs.size fp (λ_ _=>False)=Y at stat;have I0:a7 Y [] (gT fr σ) (upd H s.heap.objs.size (.lst [])) { s with heap:=h₁ }:=hX▸aL6 S I hf hfl (bF7 _) hCle hDC old hns₁ hacc hco₁;have bt:PG Y tg g:=hX▸B.tg H2.objs.size fp;have bi:mC Y ifs tc:=hX▸B.ifs H2.objs.size fp;have be:PE Y elt te:=hX▸B.elt H2.objs.size fp;have eP:Y.prog=X.prog:=by rw[<- hX];rfl
 have ew:Y.w=X.w:=by rw[<- hX];rfl
 have eK:Y.K=X.K:=by rw[<- hX];rfl
 have eA:Y.A=X.A:=by rw[<- hX];rfl
 have eE:Y.env=compEnvC scope (j0 X scope H2.objs.size) H2.objs.size X.env:=by rw[<- hX];rfl
 have eX:Y.xe=λ_ _=>False:=by rw[<- hX];rfl
 have ec:Y.calm=true:=by rw[<- hX];exact hc
 have never:∀{E:av->aw->Prop} (e:av) (s':aw),Y.xe e s'->E e s':=λ{E} e s' z=>by rw[eX]at z;exact z.elim
 have out:∀{pins' σ' H' s'},a7 Y pins' σ' H' s'->a7 X ah σ H' s':=λ{_ _ _ _} I'=>aL9 (C:=H2.objs.size) (E:=λ_ _=>False) (scope:=scope) (N:=N) I hf (hX▸I')
 have loop:codeAny (model X.prog X.w) X.A (.compLoop (.ListComp elt [⟨tg,iter,ifs,0⟩] scope pos) 0 (.ref it) (.ref s.heap.objs.size) (compEnvC scope (j0 X scope H2.objs.size) H2.objs.size X.env))
   (Rr (.ref s.heap.objs.size) H2.objs.size) { s with heap:=h₁ }:=by
  refine aL7 (λn s'=>∃i acc H',a7 Y [] (gT fr σ) H' s'/\tn i s'.heap/\(∀b∈fp,H' b=none)/\W i n acc H') ?_ m0 ⟨0,[],_,I0,st1,fr0,w0⟩;rintro n s3 ⟨i,acc,H3,I3,st3,fr3,w3⟩;unfold yS;dsimp only
  obtain⟨hD3,step⟩:=turn i n acc H3 w3
  rcases step with⟨stop,qn⟩|⟨go,step⟩
  ·have z:=T.done Y eP ew eK ec i [] s3 _ H3 (notedBy (model X.prog X.w) X.A (compEnvC scope (j0 X scope H2.objs.size) H2.objs.size X.env) λe s'=>Rr (.ref s.heap.objs.size) H2.objs.size (.error e) s') I3 (stat fr3) st3 stop
   rw[eA]at z;refine aN z λr s4 ⟨hr,I4⟩=>?_
   subst hr
   obtain⟨m4,hn4,_⟩:=I4.loc
   rw[eE]at hn4;have f4:=I4.free;rw[eE]at f4;exact hend _ _ s4 H3 m4 hCle (bF7 _) (out I4) hn4 f4 qn
  ·have z:=T.item Y eP ew eK ec i [] s3 _ H3 (notedBy (model X.prog X.w) X.A (compEnvC scope (j0 X scope H2.objs.size) H2.objs.size X.env) λe s'=>Rr (.ref s.heap.objs.size) H2.objs.size (.error e) s') I3 (stat fr3) st3 go
   rw[eA]at z;refine aN z λr s4 ⟨u,hr,h4⟩=>?_
   subst hr;refine aN h4 λ_ s5 ⟨x,H5,I5,r5,y5,st5,fr5⟩=>?_
   have I5':=I5.pinned (stat fr5) (T.obj _ _ st5);have q1:=bt _ s5 _ H5 x u _ I5' r5 (step x H5 y5);rw[eP,ew,eA,eE]at q1;refine bK8 q1 (λ_ s6 ⟨σ6,H6,I6,wk,q6⟩=>?_) never;have q2:=bi _ s6 σ6 H6 _ I6 q6;rw[eP,ew,eA,eE]at q2;refine bK8 q2 (λb s7 ⟨H7,I7,q7⟩=>?_) never;have again:∀{H8:Hp}{s8:aw}{acc':List V},a7 Y ([]++qB fp s5.heap) σ6 H8 s8->(∃m',m'<n/\W (i+1) m' acc' H8)->∃m,m<n/\∃i acc H',a7 Y [] (gT fr σ) H' s8/\tn i s8.heap/\(∀b∈fp,H' b=none)/\W i m acc H':=λ{H8 s8 acc'} I8 n8=>by
    obtain⟨m',hm,w8⟩:=n8
    refine⟨m',hm,i+1,acc',H8,(I8.unpinned).weak wk.1 wk.2,T.keep _ _ _ st5 λb hb o e=>(I8.pin (b,o) (bJ4 _ (bJ4 _ (tF hb e)))).1,λb hb=>?_,w8⟩
    obtain⟨o,e,d⟩:=T.obj _ _ st5 b hb
    exact (I8.pin (b,o) (bJ4 _ (bJ4 _ (tF hb e)))).2.1
   cases b with
   |false=>
    rw[if_neg bH5]at q7 ⊢;exact again I7 q7
   |true=>
    rw[if_pos rfl]at q7 ⊢;have q3:=be _ s7 σ6 H7 _ I7 q7;rw[eP,ew,eA,eE]at q3;refine bK8 q3 (λv s8 ⟨y,H8,I8,r8,hD8,hz8,q8⟩=>?_) never;have q4:=qN _ s8 σ6 H8 (.ref s.heap.objs.size) [y] (.ref s.heap.objs.size) [v] (λ_ H9=>∃m',m'<n/\W (i+1) m' (acc++[y]) H9) I8 rfl (.cons r8 .nil) ⟨_,_,_,rfl,rfl,hD8,hz8,q8⟩;rw[eP,ew,eA]at q4;exact bK8 q4 (λ_ s9 ⟨_,H9,I9,_,q9⟩=>again I9 q9) never
 exact codeAny_compStart_list loop (T.self _ 0 _ _ _ st1 loop)
end
section
variable {X:Cx}{scope:Scope}{N:List Str}{fr:List (Option Nat)}{tg iter elt:Expr}{ifs:List Expr}{pos:Pos}{wi:TI}{g:TG}{tc:TT}{te:TE}
theorem a7.drop {ah:List (ax×Obj)}{σ:St}{H H':Hp}{s s':aw}{C:ax}{h':Heap}(I0:a7 X ah σ H s)(hC:s.heap.objs.size<=C){σ':St}(I:a7 X ah σ' H' s')(hn:H' C=none)(sb:Heap.SameBut C s'.heap h'):a7 X ah σ' H' { s' with heap:=h' }:=by
 refine I.turned (t':=s'.toks) (it:=C) (λb o hb e=>(sb.2 b hb).trans e) hn (bN5 (bG2 I0.lt hC)) (.inr (bH6 I0.sz hC)) (λx c e z=>?_) λp hp z=>?_
 ·obtain⟨v,q⟩:=I0.cell x c e
  exact absurd (bG2 q.lt (by rw[z];exact hC)) (bJ5 _)
 ·exact absurd (bG2 (bG6 (I0.pin p hp).1) (by rw[z];exact hC)) (bJ5 _)
theorem X6 (hc:X.calm=true)(S:dS X scope N fr)(hi:PI X tg iter wi)(B:qR X scope N tg ifs elt g tc te)(hs:∀x,foldedSetIterable iter X.env x=pure x:=by intro _;rfl):PE X (.ListComp elt [⟨tg,iter,ifs,0⟩] scope pos) (X5 wi fr g tc te):=by
 intro ah s σ H Q I h;rw[eval_ListComp];refine wpAny_comprehension_free (use:=none) rfl hs (tN (S.cells I)) S.kind S.names (aN (hi ah s σ H _ I h) λv s1 h1=>aN h1 λitv s2 h2=>?_)
 obtain⟨it,fp,tn,J,H2,e,I2,T,st2,f2,hW⟩:=h2
 subst e;refine tU (Rr:=λacc C=>compPost (model X.prog X.w) X.A X.xe none (EP X ah σ Q) acc C) hc S (B.at _ _) I2 T st2 f2 hW ?_;intro D C s' H' m hC hD I' hns hHC q
 exact⟨m,hns,λh' sb=>⟨.ref D,H',I2.drop hC I' hHC sb,rfl,q⟩⟩
theorem aM0 {i:Nat}{x:Str}{px spos:Pos}(hc:X.calm=true)(S:dS X scope N fr)(hi:PI X tg iter wi)(B:qR X scope N tg ifs elt g tc te)(hN:X.N.Nodup)(hix:X.N[i]? = some x)(hx:X.env.scope.names.lookup x=some .local)(hsw:swapsWith (.ListComp elt [⟨tg,iter,ifs,0⟩] scope pos) (some (.Name x px)) spos.line X.env=pure true)(hs:∀x,foldedSetIterable iter X.env x=pure x:=by intro _;rfl) :
  PS X (.Assign [.Name x px] (.ListComp elt [⟨tg,iter,ifs,0⟩] scope pos) spos) (pZ (X5 wi fr g tc te) (dN i)):=by
 intro ah s σ H D I h;rw[exec_Assign_Name_used _ _ _ _ hsw];refine bE9 (wpAny_standAt (bE9 ?_));show wpAny _ _ (do let _ <- comprehension (.ListComp elt [⟨tg,iter,ifs,0⟩] scope pos) scope X.env _ (newList []) false (eval iter X.env) (some (assign (.Name x px) X.env))) _ _ s
 refine bE9 (bK8 (wpAny_comprehension_free (Q:=λ_ s'=>SP X ah D .next s') (use:=some (assign (.Name x px) X.env)) rfl hs (tN (S.cells I)) S.kind S.names (aN (hi ah s σ H _ I h) λv s1 h1=>aN h1 λitv s2 h2=>?_))
  (λ_ s' hq=>bF5 (bF5 hq)) λ_ _ e=>e)
 obtain⟨it,fp,tn,J,H2,e,I2,T,st2,f2,hW⟩:=h2
 subst e;refine tU (Rr:=λacc C=>compPost (model X.prog X.w) X.A X.xe (some (assign (.Name x px) X.env)) (λ_ s'=>SP X ah D .next s') acc C) hc S (B.at _ _) I2 T st2 f2 hW ?_;intro D' C s' H' m hC hD I' hns hHC q;refine wpAny_assign_Name (x8 I' hN hix (.inl hx) (v:=.ref D') rfl (λs'' I'' sb=>?_) (.inr hx))
 obtain⟨a,sb,ha⟩:=sb
 have hCa:C≠a:=by
  rcases ha with z|z
  ·rw[z];exact bN5 (bG2 I2.lt hC)
  ·intro e;subst e
   obtain⟨v,q⟩:=I2.cell x _ z
   exact absurd (bG2 q.lt hC) (bJ5 _)
 exact⟨m,hns.sameBut sb hCa,λh' sb'=>⟨_,H',I2.drop hC I'' hHC sb',q⟩⟩
variable {gh:Hp→TG}{tch:Hp→TT}{teh:Hp→TE}
def yT (wi:TI)(fr:List (Option Nat))(gh:Hp->TG)(tch:Hp->TT)(teh:Hp->TE):TE:=λσ H Q=>wi σ H λJ H1=>∀D,H1 D=none->
 ∃W:Nat->Nat->List V->Hp->Prop,(∃m,W 0 m [] (upd H1 D (.lst [])))/\qQ (gh H1) (tch H1) (teh H1) (gT fr σ) J D Q W
theorem tV (hc:X.calm=true)(S:dS X scope N fr)(hi:PI X tg iter wi)(B:∀(s:aw) (H:Hp),oJ X scope N tg ifs elt s H (gh H) (tch H) (teh H))(hs:∀x,foldedSetIterable iter X.env x=pure x:=by intro _;rfl):PE X (.ListComp elt [⟨tg,iter,ifs,0⟩] scope pos) (yT wi fr gh tch teh):=by
 intro ah s σ H Q I h;rw[eval_ListComp];refine wpAny_comprehension_free (use:=none) rfl hs (tN (S.cells I)) S.kind S.names (aN (hi ah s σ H _ I h) λv s1 h1=>aN h1 λitv s2 h2=>?_)
 obtain⟨it,fp,tn,J,H2,e,I2,T,st2,f2,hW⟩:=h2
 subst e;refine tU (Rr:=λacc C=>compPost (model X.prog X.w) X.A X.xe none (EP X ah σ Q) acc C) hc S (B _ _) I2 T st2 f2 hW ?_;intro D C s' H' m hC hD I' hns hHC q
 exact⟨m,hns,λh' sb=>⟨.ref D,H',I2.drop hC I' hHC sb,rfl,q⟩⟩
theorem aM1 {i:Nat}{x:Str}{px spos:Pos}(hc:X.calm=true)(S:dS X scope N fr)(hi:PI X tg iter wi)(B:∀(s:aw) (H:Hp),oJ X scope N tg ifs elt s H (gh H) (tch H) (teh H))(hN:X.N.Nodup)(hix:X.N[i]? = some x)(hx:X.env.scope.names.lookup x=some .local)(hsw:swapsWith (.ListComp elt [⟨tg,iter,ifs,0⟩] scope pos) (some (.Name x px)) spos.line X.env=pure true)(hs:∀x,foldedSetIterable iter X.env x=pure x:=by intro _;rfl) :
  PS X (.Assign [.Name x px] (.ListComp elt [⟨tg,iter,ifs,0⟩] scope pos) spos) (pZ (yT wi fr gh tch teh) (dN i)):=by
 intro ah s σ H D I h;rw[exec_Assign_Name_used _ _ _ _ hsw];refine bE9 (wpAny_standAt (bE9 ?_));show wpAny _ _ (do let _ <- comprehension (.ListComp elt [⟨tg,iter,ifs,0⟩] scope pos) scope X.env _ (newList []) false (eval iter X.env) (some (assign (.Name x px) X.env))) _ _ s
 refine bE9 (bK8 (wpAny_comprehension_free (Q:=λ_ s'=>SP X ah D .next s') (use:=some (assign (.Name x px) X.env)) rfl hs (tN (S.cells I)) S.kind S.names (aN (hi ah s σ H _ I h) λv s1 h1=>aN h1 λitv s2 h2=>?_))
  (λ_ s' hq=>bF5 (bF5 hq)) λ_ _ e=>e)
 obtain⟨it,fp,tn,J,H2,e,I2,T,st2,f2,hW⟩:=h2
 subst e;refine tU (Rr:=λacc C=>compPost (model X.prog X.w) X.A X.xe (some (assign (.Name x px) X.env)) (λ_ s'=>SP X ah D .next s') acc C) hc S (B _ _) I2 T st2 f2 hW ?_;intro D' C s' H' m hC hD I' hns hHC q;refine wpAny_assign_Name (x8 I' hN hix (.inl hx) (v:=.ref D') rfl (λs'' I'' sb=>?_) (.inr hx))
 obtain⟨a,sb,ha⟩:=sb
 have hCa:C≠a:=by
  rcases ha with z|z
  ·rw[z];exact bN5 (bG2 I2.lt hC)
  ·intro e;subst e
   obtain⟨v,q⟩:=I2.cell x _ z
   exact absurd (bG2 q.lt hC) (bJ5 _)
 exact⟨m,hns.sameBut sb hCa,λh' sb'=>⟨_,H',I2.drop hC I'' hHC sb',q⟩⟩
end
theorem bL {H:Hp}{p:ax}(h:H p=none)(o:HO):aD H (upd H p o):=λb u q=>by rw[aL (dG q h)];exact q
theorem aD.tup {K:ae}{H H':Hp}{a:ax}{xs:List V}(e:aD H H')(h:aP K H a xs):aP K H' a xs:=by
 rcases h with (h|⟨o,h⟩)|h
 ·exact .inl (.inl (e _ _ h))
 ·exact .inl (.inr ⟨o,e _ _ h⟩)
 ·exact .inr h
structure X7 (H:Hp)(J:It)(xs:List V):Prop where
 go:∀i H',aD H H'->i<xs.length->J.go i H'
 yld:∀i H' x H2,aD H H'->J.yld i H' x H2->i<xs.length->xs[i]? = some x/\H2=H'
 stop:∀H',aD H H'->J.stop xs.length H'
theorem aM2 {K:ae}{H:Hp}{a:ax}{xs:List V}(h:aP K H a xs):X7 H (m3 K a) xs:=
 ⟨λi H' e hi=>⟨xs,xs[i],e.tup h,by simp[hi]⟩,λi H' x H2 e y hi=>⟨y.2 xs (e.tup h),y.1⟩,λH' e=>⟨xs,e.tup h,bF7 _⟩⟩
def kY (lo:Int)(n:Nat):List V:=(List.range n).map λ(i:Nat)=>V.int (lo+(i:Int))
theorem yU (lo:Int)(n:Nat):(kY lo n).length=n:=by unfold kY;rw[bF1,bJ2]
def CW (H1:Hp)(D:ax)(n:Nat)(Pv:Nat->List V->Hp->Prop):Nat->Nat->List V->Hp->Prop:=λi m acc H'=>m=n-i/\i<=n/\acc.length<=i/\aD H1 H'/\H' D=some (.lst acc)/\Pv i acc H'
def yV (H1:Hp)(D:ax)(n:Nat)(Pv:Nat->List V->Hp->Prop)(i:Nat)(acc:List V)(v:V)(H5:Hp):Prop:=H5 D=some (.lst acc)/\acc.length<sizeLine/\∃m',m'<n-i/\CW H1 D n Pv (i+1) m' (acc++[v]) (upd H5 D (.lst (acc++[v])))
def X8 (H1:Hp)(D:ax)(n:Nat)(Pv:Nat->List V->Hp->Prop)(i:Nat)(acc:List V)(H4:Hp):Prop:=∃m',m'<n-i/\CW H1 D n Pv (i+1) m' acc H4
structure tW (H1:Hp)(D:ax)(n i:Nat)(acc:List V)(H':Hp):Prop where
 lt:i<n
 few:acc.length<=i
 sz:n<=sizeLine
 same:aD H1 H'
 new:H1 D=none
 acc:H' D=some (.lst acc)
theorem tW.yes {H1:Hp}{D:ax}{n i:Nat}{acc:List V}{H' H5:Hp}{Pv:Nat->List V->Hp->Prop}{v:V}(c:tW H1 D n i acc H')(s:aD H' H5)(p:Pv (i+1) (acc++[v]) (upd H5 D (.lst (acc++[v])))):yV H1 D n Pv i acc v H5:=by
 refine⟨s _ _ c.acc,Nat.lt_of_le_of_lt c.few (bG2 c.lt c.sz),_,?_,rfl,c.lt,?_,λb o e=>?_,b6,p⟩
 ·have:=c.lt;omega
 ·rw[bF4,bJ3];exact Nat.succ_le_succ c.few
 ·rw[aL (dG e c.new)];exact s _ _ (c.same _ _ e)
theorem aM3 {H1:Hp}{J:It}{xs:List V}{g:TG}{tc:TT}{te:TE}{σ0:St}{Q:VK}(O:X7 H1 J xs)(Pv:Nat->List V->Hp->Prop)(hn:xs.length<=sizeLine)(h0:∀D,H1 D=none->Pv 0 [] (upd H1 D (.lst [])))(hs:∀i x acc D H',xs[i]? = some x->tW H1 D xs.length i acc H'->Pv i acc H'->g x σ0 H' λσ2 H3=>Wk σ0 σ2/\tc σ2 H3 λb H4=>
   if b=true then te σ2 H4 λv H5=>yV H1 D xs.length Pv i acc v H5 else X8 H1 D xs.length Pv i acc H4)(hd:∀D acc H',H1 D=none->aD H1 H'->H' D=some (.lst acc)->acc.length<=xs.length->Pv xs.length acc H'->Q (.ref D) H') :
  ∀D,H1 D=none->∃W:Nat->Nat->List V->Hp->Prop,(∃m,W 0 m [] (upd H1 D (.lst [])))/\qQ g tc te σ0 J D Q W:=by
 intro D hD;refine⟨CW H1 D xs.length Pv,⟨xs.length,rfl,bI2 _,bF7 _,bL hD _,b6,h0 D hD⟩,?_⟩;rintro i m acc H' ⟨rfl,hi,ha,sm,hDa,p⟩;refine⟨hDa,?_⟩;by_cases hlt:i<xs.length
 ·refine .inr ⟨O.go i H' sm hlt,λx H2 y=>?_⟩
  obtain⟨hx,e⟩:=O.yld i H' x H2 sm y hlt
  subst e;exact hs i x acc D H2 hx ⟨hlt,ha,hn,sm,hD,hDa⟩ p
 ·have e:i=xs.length:=by omega
  subst e;exact .inl ⟨O.stop H' sm,hd D acc H' hD sm hDa ha p⟩
end L2
namespace Srt
open PySem PySem.W PyProof.Rows
abbrev G (p:Array Nat)(i:Nat):Nat:=p.getD i 0
theorem qS {p q:Array Nat}{i j:Nat}(h:p[i]? = q[j]?):G p i=G q j:=by
 unfold G;rw[bS9,bS9,h]
theorem yW {p:Array Nat}{i j:Nat}(hj:j<=p.size)(k:Nat):G (kas_rev p i j) k=if i<=k/\k<j then G p (i+j-1-k) else G p k:=by
 have e:=getElem?_mirror_all (i:=i) hj k;unfold kas_rev;by_cases h1:i<=k/\k<j
 ·rw[if_pos h1]at e ⊢;exact qS e
 ·rw[if_neg h1]at e ⊢;exact qS e
theorem aM4 {p:Array Nat}{src d:Nat}(hs:src<p.size)(hd:d<=src)(k:Nat):G (bubble p src d) k=if k=src-d then G p src else if src-d<k/\k<=src then G p (k-1) else G p k:=by
 have e:=getElem?_bubble hs d hd k;by_cases h1:k=src-d
 ·rw[if_pos h1]at e ⊢;exact qS e
 ·rw[if_neg h1]at e ⊢
  by_cases h2:src-d<k/\k<=src
  ·rw[if_pos h2]at e ⊢;exact qS e
  ·rw[if_neg h2]at e ⊢;exact qS e
def PP (n:Nat)(p:Array Nat):Prop:=p.toList.Perm (List.range n)
theorem PP.size {n:Nat}{p:Array Nat}(h:PP n p):p.size=n:=by
 have:=h.length_eq
 rw[bJ2]at this;simpa using this
theorem PP.lt {n:Nat}{p:Array Nat}(h:PP n p){k:Nat}(hk:k<n):G p k<n:=by
 have hs:=h.size;have hk':k<p.toList.length:=by simpa[hs] using hk
 have e:G p k=p.toList[k]:=by
  unfold G;rw[bS9];simp[hs,hk]
 have m:p.toList[k]∈p.toList:=bP5 hk';rw[e];exact bR6.mp (h.mem_iff.mp m)
theorem PP.of {n:Nat}{p q:Array Nat}(h:PP n p)(e:q.Perm p):PP n q:=(Array.perm_iff_toList_perm.mp e).trans h
theorem PP.rev {n:Nat}{p:Array Nat}(h:PP n p)(i j:Nat):PP n (kas_rev p i j):=h.of (mirror_perm _ _ _ _)
theorem PP.bub {n:Nat}{p:Array Nat}(h:PP n p)(i j:Nat):PP n (bubble p i j):=h.of (bubble_perm _ _ _)
structure tX (c:Nat->Nat->Bool):Prop where
 asym:∀{i j},c i j=true->c j i=false
 ntr:∀{i j k},c i j=false->c j k=false->c i k=false
section
variable {c:Nat→Nat→Bool}(O:tX c)
def Le (c:Nat->Nat->Bool)(i j:Nat):Prop:=c j i=false
include O
theorem le_refl (i:Nat):Le c i i:=by
 unfold Le;cases h:c i i with
 |false=>rfl
 |true=>have:=O.asym h;rw[h]at this;exact this
theorem le_trans {i j k:Nat}(h1:Le c i j)(h2:Le c j k):Le c i k:=O.ntr h2 h1
theorem tY {i j:Nat}(h:c i j=true):Le c i j:=O.asym h
omit O
def gU (c:Nat->Nat->Bool)(p:Array Nat)(n:Nat):Prop:=∀a b,a<=b->b<n->Le c (G p a) (G p b)
def mD (c:Nat->Nat->Bool)(p:Array Nat)(n:Nat):Prop:=∀a b,a<=b->b<n->Le c (G p b) (G p a)
include O
theorem aM5 {p:Array Nat}{n:Nat}(h:gU c p n)(h1:1<=n)(hl:Le c (G p (n-1)) (G p n)):gU c p (n+1):=λa b hab hb=>by
 by_cases hbn:b<n
 ·exact h a b hab hbn
 ·have e:b=n:=by omega
  subst e;by_cases han:a=b
  ·subst han;exact le_refl O _
  ·exact le_trans O (h a (b-1) (by omega) (by omega)) hl
theorem tZ {p:Array Nat}{n:Nat}(h:mD c p n)(h1:1<=n)(hl:Le c (G p n) (G p (n-1))):mD c p (n+1):=λa b hab hb=>by
 by_cases hbn:b<n
 ·exact h a b hab hbn
 ·have e:b=n:=by omega
  subst e;by_cases han:a=b
  ·subst han;exact le_refl O _
  ·exact le_trans O hl (h a (b-1) (by omega) (by omega))
omit O
def cR {α:Type}(n:Nat)(c:Nat->Nat->Bool)(R:α->Prop):KasT α->Prop
 |.ret a=>R a
 |.ask i j k=>i<n/\j<n/\cR n c R (k (c i j))
theorem cR.mono {α:Type}{n:Nat}{R R':α->Prop}(h:∀a,R a->R' a):∀(t:KasT α),cR n c R t->cR n c R' t
 |.ret a,q=>h a q
 |.ask i j k,q=>⟨q.1,q.2.1,cR.mono h (k (c i j)) q.2.2⟩
theorem cR.bind {α β:Type}{n:Nat}{R:α->Prop}{R':β->Prop}{f:α->KasT β}(h:∀a,R a->cR n c R' (f a)):∀(t:KasT α),cR n c R t->cR n c R' (t.bind f)
 |.ret a,q=>h a q
 |.ask i j k,q=>⟨q.1,q.2.1,cR.bind h (k (c i j)) q.2.2⟩
theorem cR.run {α:Type}{n:Nat}{R:α->Prop}{I:aw->Prop}{cmp:Nat->Nat->(Bool->aw->Prop)->aw->Prop}{Q:α->aw->Prop}(hc:∀i j C s,i<n->j<n->I s->(∀s',I s'->C (c i j) s')->cmp i j C s)(hQ:∀a s,R a->I s->Q a s):∀(t:KasT α) (s:aw),I s->cR n c R t->t.kasWp cmp Q s
 |.ret a,s,hI,q=>hQ a s q hI
 |.ask i j k,s,hI,q=>hc i j _ s q.1 q.2.1 hI λs' hI'=>cR.run hc hQ (k (c i j)) s' hI' q.2.2
include O
theorem yX {n:Nat}{p:Array Nat}(hp:PP n p):∀(f m:Nat),1<=m->m+f<=n->gU c p m->cR n c (λr=>m<=r/\r<=m+f/\gU c p r/\(r<m+f->c (G p r) (G p (r-1))=true)) (kas_asc p f m)
 |0,m,_,_,h=>⟨bF7 _,bF7 _,h,λz=>absurd z (bJ5 _)⟩
 |f+1,m,h1,h2,h=>by
  refine⟨hp.lt (by omega),hp.lt (by omega),?_⟩;by_cases hc:c (p.getD m 0) (p.getD (m-1) 0)=true
  ·simp only[hc,if_true]
   exact⟨bF7 _,by omega,h,λ_=>hc⟩
  ·have hc':c (p.getD m 0) (p.getD (m-1) 0)=false:=bQ2.mpr hc
   simp only[hc',bI1,bM7];refine cR.mono (λr q=>⟨by omega,by omega,q.2.2.1,λz=>q.2.2.2 (by omega)⟩) _ (yX hp f (m+1) (by omega) (by omega) (aM5 O h h1 hc'))
omit O
def nP (c:Nat->Nat->Bool)(i j:Nat):Prop:=Le c i j/\Le c j i
include O
theorem yY {p q:Array Nat}{n:Nat}(h:mD c p n)(e:∀k,k<n->nP c (G q k) (G p k)):mD c q n:=λa b hab hb=>
 le_trans O (e b hb).1 (le_trans O (h a b hab hb) (e a (by omega)).2)
theorem X9 {n m i:Nat}{p:Array Nat}(hp:PP n p)(hm:m<=n)(h:∀a,i<=a->a<m->nP c (G p a) (G p (m-1))):∀k,nP c (G (kas_rev p i m) k) (G p k):=λk=>by
 rw[yW (by rw[hp.size];exact hm)];by_cases hk:i<=k/\k<m
 ·rw[if_pos hk]
  have h1:=h (i+m-1-k) (by omega) (by omega);have h2:=h k hk.1 hk.2
  exact⟨le_trans O h1.1 h2.2,le_trans O h2.1 h1.2⟩
 ·rw[if_neg hk];exact⟨le_refl O _,le_refl O _⟩
omit O
def DI (c:Nat->Nat->Bool)(n:Nat)(p:Array Nat)(m q:Nat):Prop:=PP n p/\1<=m/\m<=n/\mD c p m/\q+1<=m/\∀a,m-(q+1)<=a->a<m->nP c (G p a) (G p (m-1))
include O
theorem Y0 {n m q:Nat}{p:Array Nat}(h:DI c n p m q):PP n (kas_rev p (m-(q+1)) m)/\∀k,nP c (G (kas_rev p (m-(q+1)) m) k) (G p k):=
 ⟨h.1.rev _ _,X9 O h.1 h.2.2.1 h.2.2.2.2.2⟩
theorem u5 {n:Nat}:∀(f:Nat) (p:Array Nat) (m q:Nat),m+f<=n->DI c n p m q->cR n c (λr=>DI c n r.1 r.2.1 r.2.2) (kas_desc f p m q)
 |0,p,m,q,_,h=>h
 |f+1,p,m,q,hf,h=>by
  have hp:=h.1;have h1:=h.2.1;refine⟨hp.lt (by omega),hp.lt (by omega),?_⟩;by_cases hc:c (p.getD m 0) (p.getD (m-1) 0)=true
  ·simp only[hc,if_true]
   have dn:mD c p (m+1):=tZ O h.2.2.2.1 h1 (tY O hc);by_cases hq:q>0
   ·simp only[hq,if_true]
    obtain⟨pr,er⟩:=Y0 O h
    refine u5 f _ (m+1) 0 (by omega) ⟨pr,by omega,by omega,yY O dn λk _=>er k,by omega,λa h1 h2=>?_⟩;have e:a=m+1-1:=by omega
    rw[e];exact⟨le_refl O _,le_refl O _⟩
   ·simp only[hq,bM7]
    refine u5 f p (m+1) 0 (by omega) ⟨hp,by omega,by omega,dn,by omega,λa h1 h2=>?_⟩;have e:a=m+1-1:=by omega
    rw[e];exact⟨le_refl O _,le_refl O _⟩
  ·have hc':c (p.getD m 0) (p.getD (m-1) 0)=false:=bQ2.mpr hc
   simp only[hc',bI1,bM7];refine⟨hp.lt (by omega),hp.lt (by omega),?_⟩;by_cases hd:c (p.getD (m-1) 0) (p.getD m 0)=true
   ·simp only[hd,if_true]
    exact h
   ·have hd':c (p.getD (m-1) 0) (p.getD m 0)=false:=bQ2.mpr hd
    simp only[hd',bI1,bM7];have ee:nP c (G p (m-1)) (G p m):=⟨hc',hd'⟩;refine u5 f p (m+1) (q+1) (by omega) ⟨hp,by omega,by omega,tZ O h.2.2.2.1 h1 ee.2,by have:=h.2.2.2.2.1;omega,λa h1 h2=>?_⟩;rw[Nat.add_sub_cancel];by_cases ha:a=m
    ·rw[ha];exact⟨le_refl O _,le_refl O _⟩
    ·have z:=h.2.2.2.2.2 a (by omega) (by omega)
     exact⟨le_trans O z.1 ee.1,le_trans O ee.2 z.2⟩
omit O
def CI (c:Nat->Nat->Bool)(n:Nat)(r:Nat×Array Nat):Prop:=PP n r.2/\1<=r.1/\r.1<=n/\gU c r.2 r.1
include O
theorem Y1 {n m:Nat}{p:Array Nat}(hp:PP n p)(h1:1<=m)(hm:m<=n)(h:mD c p m):cR n c (CI c n) (kas_tail3 m n p):=by
 have ha:gU c (kas_rev p 0 m) m:=λa b hab hb=>by
  rw[yW (by rw[hp.size];exact hm),yW (by rw[hp.size];exact hm),if_pos ⟨bI2 _,by omega⟩,if_pos ⟨bI2 _,hb⟩];exact h _ _ (by omega) (by omega)
 refine cR.bind (R:=λr=>m<=r/\r<=m+(n-m)/\gU c (kas_rev p 0 m) r/\_) (λr q=>?_) _ (yX O (hp.rev 0 m) (n-m) m h1 (by omega) ha)
 exact⟨hp.rev _ _,by have:=q.1;omega,by have:=q.2.1;omega,q.2.2.1⟩
theorem Y2 {n m:Nat}{p:Array Nat}(hp:PP n p)(h1:1<=m)(hm:m+1<=n)(h:mD c p (m+1)):cR n c (CI c n) (kas_descPart m n p):=by
 refine cR.bind (R:=λr=>DI c n r.1 r.2.1 r.2.2) (λr q=>?_) _ (u5 O (n-(m+1)) p (m+1) 0 (by omega) ⟨hp,by omega,hm,h,by omega,λa h1 h2=>?_⟩)
 ·by_cases hq:r.2.2>0
  ·rw[if_pos hq]
   obtain⟨pr,er⟩:=Y0 O q
   exact Y1 O pr q.2.1 q.2.2.1 (yY O q.2.2.2.1 λk _=>er k)
  ·rw[if_neg hq]
   exact Y1 O q.1 q.2.1 q.2.2.1 q.2.2.2.1
 ·have e:a=m+1-1:=by omega
  rw[e];exact⟨le_refl O _,le_refl O _⟩
theorem aM6 {n:Nat}{p:Array Nat}(hp:PP n p)(hn:1<=n):cR n c (CI c n) (kas_count n p):=by
 have a1:gU c p 1:=λa b hab hb=>by
  have e1:a=0:=by omega
  have e2:b=0:=by omega
  rw[e1,e2];exact le_refl O _
 refine cR.bind (R:=λr=>1<=r/\r<=1+(n-1)/\gU c p r/\(r<1+(n-1)->c (G p r) (G p (r-1))=true)) (λm q=>?_) _ (yX O hp (n-1) 1 (bF7 _) (by omega) a1)
 obtain⟨q1,q2,q3,q4⟩:=q
 by_cases hm:(m==n)=true
 ·rw[if_pos hm]
  exact⟨hp,q1,by omega,q3⟩
 ·rw[if_neg hm]
  have hne:m≠n:=by simpa using hm
  have hc:=q4 (by omega);by_cases h1:m>1
  ·rw[if_pos h1]
   refine⟨hp.lt (by omega),hp.lt (by omega),?_⟩;by_cases hd:c (p.getD 0 0) (p.getD (m-1) 0)=true
   ·simp only[hd,if_true]
    exact⟨hp,q1,by omega,q3⟩
   ·have hd':c (p.getD 0 0) (p.getD (m-1) 0)=false:=bQ2.mpr hd
    simp only[hd',bI1,bM7];have eq:∀a,0<=a->a<m->nP c (G p a) (G p (m-1)):=λa _ ha=>⟨q3 a (m-1) (by omega) (by omega),le_trans O hd' (q3 0 a (bI2 _) ha)⟩
    have er:=X9 O hp (by omega:m<=n) eq;refine Y2 O (hp.rev 0 m) q1 (by omega) (yY O (p:=p) ?_ λk _=>er k);refine tZ O (λa b hab hb=>?_) q1 (tY O hc);exact le_trans O (eq b (bI2 _) hb).1 (eq a (bI2 _) (by omega)).2
  ·rw[if_neg h1]
   have e:m=1:=by omega
   subst e;refine Y2 O hp (bF7 _) (by omega) (tZ O (λa b hab hb=>?_) (bF7 _) (tY O hc));have e1:a=0:=by omega
   have e2:b=0:=by omega
   rw[e1,e2];exact le_refl O _
theorem yZ {n k:Nat}{p:Array Nat}(hp:PP n p)(hk:k<n)(ha:gU c p k):∀(f l r:Nat),l<=r->r<=k->r-l<=f->(∀a,a<l->Le c (G p a) (G p k))->(∀a,r<=a->a<k->Le c (G p k) (G p a))->
  cR n c (λl=>l<=k/\(∀a,a<l->Le c (G p a) (G p k))/\∀a,l<=a->a<k->Le c (G p k) (G p a)) (kas_place p k f l r)
 |0,l,r,h1,h2,h3,hl,hr=>⟨by omega,hl,λa h4 h5=>hr a (by omega) h5⟩
 |f+1,l,r,h1,h2,h3,hl,hr=>by
  unfold kas_place;by_cases hlr:l >= r
  ·rw[if_pos hlr]
   exact⟨by omega,hl,λa h4 h5=>hr a (by omega) h5⟩
  ·rw[if_neg hlr]
   refine⟨hp.lt hk,hp.lt (by omega),?_⟩;by_cases hc:c (p.getD k 0) (p.getD ((l+r)/2) 0)=true
   ·simp only[hc,if_true]
    exact yZ hp hk ha f l ((l+r)/2) (by omega) (by omega) (by omega) hl λa h4 h5=>le_trans O (tY O hc) (ha _ _ h4 h5)
   ·have hc':c (p.getD k 0) (p.getD ((l+r)/2) 0)=false:=bQ2.mpr hc
    simp only[hc',bI1,bM7];exact yZ hp hk ha f ((l+r)/2+1) r (by omega) h2 (by omega) (λa h4=>le_trans O (ha a ((l+r)/2) (by omega) (by omega)) hc') hr
theorem Y3 {n:Nat}:∀(f:Nat) (p:Array Nat) (k:Nat),PP n p->k+f<=n->gU c p k->cR n c (λq=>PP n q/\gU c q (k+f)) (kas_bin f p k)
 |0,p,k,hp,_,h=>⟨hp,h⟩
 |f+1,p,k,hp,hk,h=>by
  refine cR.bind (R:=λl=>l<=k/\(∀a,a<l->Le c (G p a) (G p k))/\∀a,l<=a->a<k->Le c (G p k) (G p a)) (λl q=>?_) _ (yZ O hp (by omega) h k 0 k (bI2 _) (bF7 _) (by omega) (λa z=>absurd z (bS6 _)) λa h1 h2=>absurd h2 (by omega))
  obtain⟨q1,q2,q3⟩:=q
  have e:∀a,G (bubble p k (k-l)) a=if a=l then G p k else if l<a/\a<=k then G p (a-1) else G p a:=λa=>by
   rw[aM4 (by rw[hp.size];omega) (by omega),show k-(k-l)=l by omega]
  refine cR.mono (λr z=>⟨z.1,by rw[show k+(f+1)=k+1+f by omega];exact z.2⟩) _ (Y3 f _ (k+1) (hp.bub _ _) (by omega) λa b hab hb=>?_);rw[e,e];by_cases ha:a=l
  ·rw[if_pos ha]
   by_cases hb':b=l
   ·rw[if_pos hb'];exact le_refl O _
   ·rw[if_neg hb',if_pos (by omega)];exact q3 _ (by omega) (by omega)
  ·rw[if_neg ha]
   by_cases ha2:l<a/\a<=k
   ·rw[if_pos ha2,if_neg (by omega),if_pos (by omega)]
    exact h _ _ (by omega) (by omega)
   ·rw[if_neg ha2]
    by_cases hb':b=l
    ·rw[if_pos hb'];exact q2 a (by omega)
    ·rw[if_neg hb']
     by_cases hb2:l<b/\b<=k
     ·rw[if_pos hb2];exact h _ _ (by omega) (by omega)
     ·rw[if_neg hb2];exact h _ _ hab (by omega)
theorem Y4 {n:Nat}(hn:1<=n):cR n c (λq=>PP n q/\gU c q n) (kas_sort n):=by
 have hp:PP n (List.toArray (List.range n)):=by unfold PP;simp
 refine cR.bind (R:=CI c n) (λr q=>?_) _ (aM6 O hp hn)
 obtain⟨q1,q2,q3,q4⟩:=q
 by_cases h:r.1<n
 ·rw[if_pos h]
  have e:max r.1 1=r.1:=by omega
  rw[e];exact cR.mono (λp z=>⟨z.1,by rw[show r.1+(n-r.1)=n by omega]at z;exact z.2⟩) _ (Y3 O (n-r.1) r.2 r.1 q1 (by omega) q4)
 ·rw[if_neg h]
  have e:r.1=n:=by omega
  exact⟨q1,by rw[e]at q4;exact q4⟩
end
end Srt
namespace L2
open PySem PySem.Spec PyProof.Rows
theorem bY.there {P:ay}{w:ba}{H:Hp}{h:Heap}{a:ax}{o:HO}(x:bY P w H h a o):∃u,h.get? a=some u:=by
 cases o with
 |lst xs=>obtain⟨_,_,_,_,e⟩:=x;exact⟨_,e⟩
 |tup xs=>obtain⟨_,_,_,⟨o,e,_⟩,_⟩:=x;exact⟨_,e⟩
 |dK kvs=>obtain⟨_,_,_,_,o,_,_,e,_⟩:=x;exact⟨_,e⟩
 |dT kvs=>obtain⟨_,_,_,_,o,_,_,e,_⟩:=x;exact⟨_,e⟩
 |set S n=>obtain⟨o,_,_,_,e,_⟩:=x;exact⟨_,e⟩
 |ins C dx fs=>obtain⟨_,_,_,e,_⟩:=x;exact⟨_,e⟩
 |own y=>exact x
 |xd fs=>obtain⟨_,⟨_,_,_,e,_⟩,_⟩:=x;exact⟨_,e⟩
 |rng lo hi=>obtain⟨_,_,_,e⟩:=x;exact⟨_,e⟩
 |frz ob u=>obtain⟨e,_⟩:=x;exact⟨_,e⟩
 |tbl ps=>exact⟨_,(show h.get? a=some _ from x)⟩
 |met f y=>exact⟨_,(show h.get? a=some _ from x)⟩
 |ext φ=>obtain⟨_,z,_⟩:=x;exact z
section
variable {X:Cx}{ah:List (ax×Obj)}{σ:St}{H:Hp}{s:aw}{h':Heap}{a:ax}{o:HO}{t':Nat}
theorem a7.laidF (I:a7 X ah σ H s)(hn:s.heap.get? a=none)(k:∀b u,b≠X.env.locals->s.heap.get? b=some u->h'.get? b=some u)(ns:∀m,s.heap.Ns X.env.locals m->h'.Ns X.env.locals m)(new:bY X.prog X.w (upd H a o) h' a o):H a=none/\a7 X ah σ (upd H a o) { s with heap:=h',toks:=t' }:=by
 have hHn:H a=none:=by
  cases q:H a with
  |none=>rfl
  |some u=>obtain⟨z,e⟩:=(I.hok a u q).there;rw[hn]at e;cases e
 have ne:∀b u,s.heap.get? b=some u->b≠a:=λb u e z=>by rw[z,hn]at e;cases e
 have hL:=I.free
 refine⟨hHn,I.step (g':=s.gens) (d':=s.drawn) (ch:=[]) (λ_ z=>nomatch z) (λb o' h1 _ _ e _=>k b o' h1 e) (λb o' h1 _ _ e _=>⟨o'.slots,k b o' h1 e⟩) (λb o' _ e n=>by rw[aL (ne b o' e)];exact n) (λb o' _ e=>?_)
  (λb xs q=>by rw[aL (dG q hHn)];exact q) (λb u xs q=>by rw[aL (dG q hHn)];exact q) (λb ps q=>⟨#[],by rw[aL (dG q hHn),q];simp⟩) ns (λb u q=>?_) I.bare⟩
 ·by_cases hb:b=X.env.locals
  ·obtain⟨m,hm,_⟩:=I.loc
   obtain⟨o2,_,_,e2,_⟩:=ns m hm
   exact⟨o2,by rw[hb];exact e2⟩
  ·exact⟨o',k b o' hb e⟩
 ·by_cases hb:b=a
  ·subst hb;rw[b6]at q;cases q;exact new
  ·rw[aL hb]at q
   refine (I.hok b u q).stay (λc v hc e=>k c v ?_ e) (λc e=>by rw[aL (dG e hHn)];exact e) λc xs e=>by rw[aL (dG e hHn)];exact e
   rcases hc with z|z
   ·rw[z];intro y;rw[y,hL]at q;cases q
   ·intro y;rw[y,hL]at z;cases z
theorem a7.newsAll (I:a7 X ah σ H s){news:List (ax×Obj)}{m:Str->Option av}(hs:∀p∈pV X.base s.heap X.env.locals,p∈news)(F:Fr X.base X.env.locals h' m)(N:News X.base X.env.locals h' news) :
  ∀b o,b≠X.env.locals->s.heap.get? b=some o->h'.get? b=some o:=λb o h1 e=>by
 cases q:X.base.get? b with
 |some u=>
  have:=I.bk b u q
  rw[e]at this;cases this;exact F.keep b _ q
 |none=>exact (N (b,o) (hs _ (x5 h1 q e))).1
end
theorem Y5 {α:Type}{d:α}(l:List α){p:List Nat}(h:p.Perm (List.range l.length)):(p.map λi=>l.getD i d).Perm l:=by
 have e:(List.range l.length).map (λi=>l.getD i d)=l:=by
  apply List.ext_getElem
  ·simp
  ·intro i h1 h2
   simp at h1;simp[h1]
 have:=h.map λi=>l.getD i d
 rw[e]at this;exact this
theorem u6:∀{xs:List V}{us:List av} (i:Nat),i<xs.length->aW xs us->aZ (xs.getD i .non) (us.getD i Value.none)
 |_,_,_,h,.nil=>by simp at h
 |_,_,0,_,.cons r _=>by simpa using r
 |_,_,i+1,h,.cons _ t=>by
  have:=u6 i (by simpa using h) t
  simpa using this
theorem z9 {xs:List V}{us:List av}(r:aW xs us):∀{p:List Nat},(∀i∈p,i<xs.length)->aW (p.map λi=>xs.getD i .non) (p.map λi=>us.getD i Value.none)
 |[],_=>.nil
 |i::p,h=>.cons (u6 i (h i bG7) r) (z9 r λj hj=>h j (bG8 _ hj))
theorem Y6 {α:Type}:∀l:List α,(l.zip l).map (·.2)=l
 |[]=>rfl
 |a::l=>by
  show a::((l.zip l).map (·.2))=a::l;rw[Y6 l]
theorem Y7 {prog:ay}{w:ba}{A:az}{E:av->aw->Prop}{s:aw}{a:ax}{vs:List av}{n:Nat}{P:PySem.Fin->aw->Prop}(e:s.heap.get? a=some (seqObj "list" vs.toArray n))(few:vs.length<2)(q:P (.done (.ret .none)) { s with heap:=sortedHeap s.heap a vs vs.toArray }):wpAny (model prog w) A (Builtin.«list.sort» ⟨[.ref a],[]⟩) P E s:=by
 have big:vs.length<=sizeLine:=bH6 (bJ6 few) (by decide);have la:=bG6 e;have c:vs.toArray.size<2:=by simpa using few
 have same:(arrOf (SortSt.mk' general' (vs.toArray.zip vs.toArray) #[] 7 none)).map (·.2)=vs.toArray:=by
  change (vs.toArray.zip vs.toArray).map (·.2)=vs.toArray
  apply Array.ext';simpa using Y6 vs
 obtain⟨k,ek⟩:∃k,(s.heap.update a (Obj.mapSeq λ_=>#[])).get? a=some (seqObj "list" #[] k):=⟨_,get?_update_seq e λ_=>#[]⟩
 have there:(((s.heap.update a (Obj.mapSeq λ_=>#[])).push (seqObj "tuple" vs.toArray 0)).push (seqObj "list" #[] 0)).get? a=some (seqObj "list" #[] k):=
  bF0 _ (bF0 _ ek)
 rw[list_sort_plain];apply bE9;apply listItems_at e rfl;apply bE9;refine listUpdate_at e rfl ?_ (by simpa using big) (bI2 _);apply bE9;apply seqEpoch_at ek rfl;apply bE9;refine wpAny_newTuple ?_ big;apply bE9;refine wpAny_newList ?_ (bI2 _);apply bP7;simp only[c,if_true,StateT.run_pure];apply bE9;apply bF5;apply bE9;apply bF5;apply bE9;apply seqEpoch_at there rfl;apply bE9;refine listUpdate_at there rfl ?_ (bI2 _) (by rw[same,bF2];exact Nat.le_succ_of_le big);rw[same];simp only[bne_self_eq_false,bI1,bM7];exact bF5 q
theorem aM7 {prog:ay}{w:ba}{A:az}{E:av->aw->Prop}{s:aw}{l:ax}{vs:List av}{Q:av->aw->Prop}(hl:s.heap.IsList l vs.toArray)(few:vs.length<2)(q:Q (.ref (s.heap.objs.size+1)) { s with heap:=sortedAll s.heap vs vs.toArray }):wpAny (model prog w) A (call (.builtin "sorted") [.ref l]) Q E s:=by
 have big:vs.length<=sizeLine:=bH6 (bJ6 few) (by decide);apply bQ5 kind_sorted plain_sorted entry_sorted (args_sorted1 _);simp only[Builtin.«sorted»];apply bE9 (m:=checkCount "sorted" 1 1 _);apply bF5;apply bE9;refine collect_list hl ?_ big;apply bE9;refine wpAny_newList ?_ big;have one:((s.heap.push (seqObj "list" #[] 0)).update s.heap.objs.size (Obj.mapSeq (·++vs.toArray))).objs.size=s.heap.objs.size+1:=(Heap.size_update _ _ _).trans (size_push' _ _);have at1:(((s.heap.push (seqObj "list" #[] 0)).update s.heap.objs.size (Obj.mapSeq (·++vs.toArray))).push (seqObj "list" vs.toArray 0)).get? (s.heap.objs.size+1)=some (seqObj "list" vs.toArray 0):=one▸bG1 _ rfl
 change wpAny _ _ _ _ _ { s with heap:=((s.heap.push (seqObj "list" #[] 0)).update s.heap.objs.size (Obj.mapSeq (·++vs.toArray))).push (seqObj "list" vs.toArray 0) }
 rw[one];apply bE9;apply bP7;refine bL9 slot_list_sort ⟨_,at1,rfl⟩ entry_list_sort ?_ (args_list_sort _);refine Y7 at1 few ⟨_,rfl,?_⟩;exact bF5 ⟨_,rfl,q⟩
def Y8 (K:ae):List V->Hp->VK->Prop:=λxs H Q=>∃a ns,xs = [.ref a]/\aU K H a (ns.map V.int)/\ns.length<64/\∀l (ms:ag),H l=none->ms.Perm ns->ms.Pairwise (· <= ·)->Q (.ref l) (upd H l (.lst (ms.map V.int)))
theorem Y9 {X:Cx}:cG X (.builtin "sorted") (Y8 X.K):=by
 intro ah s σ H xs us Q I r h
 obtain⟨a,ns,rfl,hs,h64,q⟩:=h
 obtain⟨u,rfl,ru⟩:=gI r
 cases ru
 obtain⟨its,rv,p,hz⟩:=I.list hs
 have hl:=rv.length;rw[bF1]at hl;refine sorted_ints p.isList (jE rv) (by omega) λout ns' a1 a2 a3=>?_
 obtain⟨e,he⟩:=sortedAll_at s.heap its out
 have hn:s.heap.objs.size<=s.heap.objs.size+1:=bU8 _;have am:ns'.length=ns.length:=a2.length_eq;refine⟨.ref (s.heap.objs.size+1),upd H (s.heap.objs.size+1) (.lst (ns'.map V.int)),I.laid (t':=s.toks) (λ_ _=>sortedAll_old) hn ⟨?_,out.toList,e,qO a1,by simpa using he⟩,rfl,q _ ns' (I.hok.fresh hn) a2 a3⟩;rw[bF1,am];exact bJ6 (qP (by omega))
theorem zA:∀{a b:ag},HT.dR a b=true->HT.dR b a=false
 |[],[],h=>by cases h
 |[],_::_,_=>rfl
 |_::_,[],h=>by cases h
 |x::xs,y::ys,h=>by
  rw[HT.m6]at h ⊢;by_cases e:x=y
  ·rw[if_pos e]at h;rw[if_pos e.symm];exact zA h
  ·rw[if_neg e]at h;rw[if_neg (Ne.symm e)]
   have:=bO7 h
   exact bF9 (by omega)
theorem zB:∀{a b c:ag},HT.dR a b=false->HT.dR b c=false->HT.dR a c=false
 |[],[],c,_,h=>h
 |[],_::_,_,h,_=>by cases h
 |_::_,[],[],_,_=>rfl
 |_::_,[],_::_,_,h=>by cases h
 |_::_,_::_,[],_,_=>rfl
 |x::xs,y::ys,z::zs,h1,h2=>by
  rw[HT.m6]at h1 h2 ⊢;by_cases e1:x=y
  ·rw[if_pos e1]at h1
   by_cases e2:y=z
   ·rw[if_pos e2]at h2;rw[if_pos (e1.trans e2)];exact zB h1 h2
   ·rw[if_neg e2]at h2;rw[if_neg (by rw[e1];exact e2)];rw[e1];exact h2
  ·rw[if_neg e1]at h1
   have k1:=bK4 h1;by_cases e2:y=z
   ·rw[<- e2,if_neg e1];exact h1
   ·rw[if_neg e2]at h2
    have k2:=bK4 h2;rw[if_neg (by omega)];exact bF9 (by omega)
section
variable {prog:ay}{w:ba}{A:az}{s:aw}{Q:Bool→aw→Prop}
theorem zC:∀{us ws:List av}{xs ys:ag} (i:Nat),IntsAre us xs->IntsAre ws ys->Q (HT.dR xs ys) s->PySem.W.KatLex prog w A true (decide (us.length<ws.length)) Q (us.zip ws) i s
 |_,_,_,_,_,.nil,.nil,h=>h
 |_,_,_,_,_,.nil,.cons _ _ _,h=>h
 |_,_,_,_,_,.cons _ _ _,.nil,h=>h
 |_,_,_,_,i,.cons (vs:=us) x t hx,.cons (vs:=ws) y u hy,h=>by
  refine PySem.W.kat_cons (wpAny_eqBool_int ?_);rw[HT.m6]at h;by_cases e:x=y
  ·rw[if_pos e]at h
   have eb:(x==y)=true:=by simpa using e
   rw[eb];refine PySem.W.kat_yes ?_;have e2:decide ((Value.int x t::us).length<(Value.int y u::ws).length)=decide (us.length<ws.length):=by simp
   rw[e2];exact zC (i+1) hx hy h
  ·rw[if_neg e]at h
   have eb:(x==y)=false:=by simpa using e
   rw[eb];refine PySem.W.kat_no ?_;cases hi:(true&&i==0) with
   |true=>exact PySem.W.kat_lt_int h
   |false=>exact PySem.W.kat_one _ _ (lt_int h)
end
def Z0 (K:ae):List V->Hp->VK->Prop:=λxs H Q=>∃(a:ax) (ys:List V) (key:V->ag),xs = [.ref a]/\aU K H a ys/\ys.length<64/\(∀y∈ys,∃b,y = .ref b/\aP K H b ((key y).map V.int)/\key y≠[])/\
 ∀l (zs:List V),H l=none->zs.Perm ys->zs.Pairwise (λu v=>HT.dR (key v) (key u)=false)->Q (.ref l) (upd H l (.lst zs))
theorem Z1 {c:Nat->Nat->Bool}{R:V->V->Prop}{ys:List V}{p:Array Nat}{n:Nat}(hp:Srt.PP n p)(ha:Srt.gU c p n)(hR:∀i j,Srt.Le c i j->R (ys.getD i .non) (ys.getD j .non)) :
  (p.toList.map λi=>ys.getD i .non).Pairwise R:=by
 rw[bN6,List.pairwise_iff_getElem];intro i j hi hj hij;have hs:=hp.size;have h1:i<n:=by rw[<- hs];simpa using hi
 have h2:j<n:=by rw[<- hs];simpa using hj
 have q:=ha i j (bJ6 hij) h2;have e:∀k (hk:k<p.toList.length),Srt.G p k=p.toList[k]:=λk hk=>by
  have hk':k<p.size:=by simpa using hk
  unfold Srt.G;rw[bS9];simp[hk']
 rw[e i hi,e j hj]at q;exact hR _ _ q
theorem Z2 {X:Cx}:cG X (.builtin "sorted") (Z0 X.K):=by
 intro ah s σ H xs us Q I r h
 obtain⟨a,ys,key,rfl,hs,h64,hk,q⟩:=h
 obtain⟨u,rfl,ru⟩:=gI r
 cases ru
 obtain⟨its,rv,p,hz⟩:=I.list hs
 have hl:=rv.length;by_cases h2:its.length<2
 ·
  refine aM7 p.isList h2 ?_
  obtain⟨e,he⟩:=sortedAll_at s.heap its its.toArray
  have hn:s.heap.objs.size<=s.heap.objs.size+1:=bU8 _;refine⟨.ref (s.heap.objs.size+1),upd H (s.heap.objs.size+1) (.lst ys),I.laid (t':=s.toks) (λ_ _=>sortedAll_old) hn ⟨hz,its,e,rv,he⟩,rfl,q _ ys (I.hok.fresh hn) (List.Perm.refl _) ?_⟩
  match ys,hl with
  |[],_=>exact List.Pairwise.nil
  |[_],_=>exact bH7 _ _
  |_::_::_,hl=>simp at hl;omega
 ·obtain⟨m,F⟩:=I.fr
  have hL:∀{b:ax}{k:ag},aP X.K H b (k.map V.int)->b≠X.env.locals:=λ{b k} z e=>by
   obtain⟨its',_,⟨ob,e1,c1,_⟩,_⟩:=I.tuple z
   obtain⟨m',⟨o',es',ep',e2,d2,_⟩,_⟩:=I.loc
   rcases z with (z|⟨_,z⟩)|⟨o3,its3,n3,z3,zc,zd,_⟩
   ·rw[e,I.free]at z;cases z
   ·rw[e,I.free]at z;cases z
   ·have:=I.kIn b o3 z3
    rw[e,e2]at this;cases this;rw[d2]at zd;cases zd
  refine PySem.W.kat_sorted F (O3 (g:=X.base) (h:=s.heap) (L:=X.env.locals)) p.isList (by omega) (by omega) λD e1 h' F' N' hD=>?_
  have keep:=I.newsAll (λp hp=>bG8 _ hp) F' N';have look:∀i,i<ys.length->∃(b:ax) (ob:Obj) (us:List av) (n:Nat),its.getD i Value.none = .ref b/\h'.get? b=some ob/\ob.cls = .type "tuple"/\ob.data = .seq us.toArray n/\IntsAre us (key (ys.getD i .non))/\key (ys.getD i .non)≠[]:=λi hi=>by
   have hy:ys.getD i .non∈ys:=by
    rw[bI0,bF3 hi];exact bP5 hi
   obtain⟨b,eb,sq,ne⟩:=hk _ hy
   have rr:=u6 i hi rv;rw[eb]at rr;have rr:its.getD i Value.none = .ref b:=rr
   obtain⟨us,ru,⟨ob,e1,c1,n1,d1⟩,_⟩:=I.tuple sq
   exact⟨b,ob,us,n1,rr,keep b ob (hL sq) e1,c1,d1,jE ru,ne⟩
  have firsts:∀{xs:List V}{vs:List av},aW xs vs->(∀y∈xs,∃b,y = .ref b/\aP X.K H b ((key y).map V.int)/\key y≠[])->∃fs:List av,PySem.W.KatTups h' vs fs/\fs.length=vs.length/\∀v∈fs,∃i t,v=Value.int i t:=by
   intro xs vs r
   induction r with
   |nil=>intro _;exact⟨[],PySem.W.KatTups.nil,rfl,λ_ z=>nomatch z⟩
   |@cons x v xs vs rx rt ih=>
    intro hh
    obtain⟨fs,t1,t2,t3⟩:=ih λy hy=>hh y (bG8 _ hy)
    obtain⟨b,eb,sq,ne⟩:=hh x bG7
    subst eb;cases rx
    obtain⟨us,ru,⟨ob,e1,c1,n1,d1⟩,_⟩:=I.tuple sq
    have ia:=jE ru;generalize key (V.ref b)=kk at ia ne;cases ia with
    |nil=>exact absurd rfl ne
    |@cons n t vs0 ns0 ht=>
     exact⟨Value.int n t::fs,PySem.W.KatTups.cons (keep b ob (hL sq) e1) c1 d1 (by simp) t1,by simp[t2],λv hv=>(bG0.mp hv).elim (λz=>⟨n,t,z⟩) (t3 v)⟩
  obtain⟨fs,t1,t2,t3⟩:=firsts rv hk
  refine PySem.W.kat_kind (T:=.type "int") t1 (by omega) (λv hv=>?_) (by decide) ?_
  ·obtain⟨i,t,rfl⟩:=t3 v hv
   exact PySem.W.Looks.now
  let c:Nat->Nat->Bool:=λi j=>HT.dR (key (ys.getD i .non)) (key (ys.getD j .non))
  have O:Srt.tX c:=⟨λh=>zA h,λh1 h2=>zB h1 h2⟩;have ok:=Srt.Y4 (n:=its.length) O (by omega);refine Srt.cR.run (I:=λs'=>s'={ s with heap:=h' }) (λi j C s' hi hj hI hC=>?_) (λpa s' hR hI=>?_) _ _ rfl ok
  ·subst hI
   obtain⟨b1,o1,u1,n1,g1,g2,_,g4,g5,_⟩:=look i (by omega)
   obtain⟨b2,o2,u2,n2,k1,k2,_,k4,k5,_⟩:=look j (by omega)
   show wpAny _ _ (keyLt' (tuples' (Value.type "int" != Value.type "tuple")) (its.getD i Value.none) (its.getD j Value.none)) _ _ _;rw[g1,k1];have eT:(Value.type "int" != Value.type "tuple")=true:=by decide
   rw[eT];refine PySem.W.kat_lt g2 g4 k2 k4 ?_
   have:=zC (prog:=X.prog) (w:=X.w) (A:=X.A.in1.in1) (s:={ s with heap:=h' }) (Q:=C) 0 g5 k5 (hC _ rfl)
   simpa using this
  ·subst hI
   obtain⟨hp,hasc⟩:=hR
   refine PySem.W.KasFin.intro F' N' (PySem.W.UpdF.head λp hp=>bI3 (hD p hp)) λh2 cc F2 N2=>?_
   have keep2:=I.newsAll (λp hp=>bG8 _ hp) F2 N2;have hDn:s.heap.get? D=none:=by
    cases z:s.heap.get? D with
    |none=>rfl
    |some o=>
     obtain⟨_,n1,n2⟩:=N2 (D,_) bG7
     exact absurd (hD _ (x5 n1 n2 z)) (bJ5 _)
   have hpl:∀i∈pa.toList,i<ys.length:=λi hi=>by
    have:=bR6.mp (hp.mem_iff.mp hi);omega
   have hp':pa.toList.Perm (List.range ys.length):=by rw[hl];exact hp
   have pm:=Y5 (d:=V.non) ys hp'
   obtain⟨hDo,hDL,hDb⟩:=N2 (D,_) bG7
   obtain⟨hHD,I2⟩:=I.laidF (t':=s.toks) (a:=D) (o:=.lst (pa.toList.map λi=>ys.getD i .non)) hDn keep2 (λm' hm'=>by
     have e:m'=m:=funext λnm=>Heap.Ns.agree hm' F.ns nm
     rw[e];exact F2.ns) ⟨by rw[pm.length_eq];exact hz,_,cc,z9 rv hpl,hDo⟩
   exact⟨.ref D,_,I2,rfl,q D _ hHD pm (Z1 hp hasc λi j hle=>hle)⟩
end L2
namespace Raw
open PySem PySem.W PySem.Calls PyProof.Rows
def j3 (h:Heap)(d:ax)(es:Array DictEntry)(ep:Nat):Prop:=∃o,h.get? d=some o/\o.ExactDict/\o.data = .dict es ep
theorem j3.ty {s:aw}{d:ax}{es:Array DictEntry}{ep:Nat}(x:j3 s.heap d es ep):s.TypeIs (.ref d) "dict":=x.elim λo y=>⟨o,y.1,y.2.1.1⟩
theorem j3.lt {h:Heap}{d:ax}{es:Array DictEntry}{ep:Nat}(x:j3 h d es ep):d<h.objs.size:=x.elim λ_ y=>bG6 y.1
theorem j3.keep {h h':Heap}{d:ax}{es:Array DictEntry}{ep:Nat}(x:j3 h d es ep)(k:∀o,h.get? d=some o->h'.get? d=some o):j3 h' d es ep:=x.elim λo y=>⟨o,k o y.1,y.2⟩
section
variable {prog:ay}{w:ba}{A:az}{E:av→aw→Prop}{s:aw}{d it:ax}{es:Array DictEntry}{ep i:Nat}
theorem made (far:(d==sysModules)=false)(x:j3 s.heap d es ep){Q:av->aw->Prop}(q:Q (.ref s.heap.objs.size) { s with heap:=s.heap.push { cls:=.type "dict_keyiterator",data:=.fields #[.ref d,.int 0 0,.int es.size 0,.int ep 0] } }):wpAny (model prog w) A (pyIter (.ref d)) Q E s:=by
 have T:=x.ty
 obtain⟨o,e1,e2,e3⟩:=x
 apply wpAny_pyIter_slot T PySem.F.slot_dict_iter;apply bL9 PySem.F.slot_dict_iter T PySem.F.entry_dict_iter _ (PySem.F.args_dict_iter_1 _);simp only[Builtin.«dict.__iter__»,Builtin.Dict.dictSlotNone];apply bE9;apply bE9;apply wpAny_notOrdered_dict T;apply bF5
 change wpAny _ _ (Builtin.Dict.showsAll d >>= _) _ _ s
 have far':Builtin.Dict.showsAll d=pure ():=by
  unfold Builtin.Dict.showsAll;simp only[far,bI1,bM7]
 rw[far',pure_bind];apply bE9;apply wpAny_dictEntries e1 e3;apply bE9;apply wpAny_dictEpoch e1 e3;apply bE9;refine bM6 (bF5 ?_);refine⟨.ref s.heap.objs.size,rfl,"dict_keyiterator",_,⟨_,bG1 _ rfl,rfl⟩,PySem.F.slot_dict_keyiterator_next.lookup,?_⟩;simpa only[rawInt] using q
theorem turn (hh:A.handled=none)(hi:s.heap.IsKeyIter it d i es.size ep)(x:j3 s.heap d es ep){Q:Option av->aw->Prop}(yes:∀(lt:i<es.size) h',h'.IsKeyIter it d (i+1) es.size ep->Heap.SameBut it s.heap h'->Q (some es[i].key) { s with heap:=h' })(no:es.size<=i->∀h',Heap.ExtBut it s.heap h'->Q none { s with heap:=h' }):wpAny (model prog w) A (pyNext (.ref it)) Q E s:=by
 have T:=hi.typeIs
 obtain⟨oi,f1,f2,f3⟩:=hi
 obtain⟨o,e1,e2,e3⟩:=x
 have slot:=PySem.F.slot_dict_keyiterator_next;have plain:Builtin.Dict_items.ownsTuple "dict_keyiterator" = false:=by decide
 have isref:(Value.ref d==Value.none)=false:=rfl;have nn:¬(i:Int)<0:=by omega
 unfold pyNext;apply bE9;apply wpAny_attempt;apply bN8 (name:=Str.ofString "__next__") T slot;apply bL9 slot T PySem.F.entry_dict_keyiterator_next _ (PySem.F.args_dict_keyiterator_next_1 _);apply bE9;apply bF5;apply bE9;apply bE9;apply bE9
 first
  |apply wpAny_typeNameOfWhole_keyiter T
  |apply wpAny_typeNameOf_keyiter T
 apply bF5;apply bE9;apply wpAny_fieldsOf f1 f3;simp only[plain,bI1,bM7]
 change wpAny _ _ (if (Value.ref d==Value.none)=true then _ else _) _ _ s
 have adr:Builtin.Dict_items.addrOf (Value.ref d)=pure d:=rfl;simp only[isref,bI1,bM7,adr,pure_bind];apply bE9;apply wpAny_dictEntries e1 e3;simp only[bne_self_eq_false,bI1,bM7];apply bE9;apply wpAny_dictEpoch e1 e3;simp only[bne_self_eq_false,bI1,bM7];apply bF5;simp only[nn,bM7,Int.toNat_natCast];by_cases lt:i<es.size
 ·simp only[Array.getElem?_eq_getElem lt]
  apply bE9;apply bE9
  first
   |apply wpAny_typeNameOfWhole_keyiter T
   |apply wpAny_typeNameOf_keyiter T
  apply bF5;apply bE9;apply wpAny_isOneOf_keyiter T
  change wpAny _ _ (setField (.ref it) 1 (rawInt ((i:Int)+1)) >>= _) _ _ s
  apply bE9;refine wpAny_setField f1 f3 (by simp) ?_;have again:(s.heap.update it (Obj.mapFields (·.setIfInBounds 1 (rawInt ((i:Int)+1))))).IsKeyIter it d (i+1) es.size ep:=by
   refine⟨_,Heap.get?_update_self _ f1 (Obj.isFreed_of_fields (Obj.data_mapFields f3 _)),?_,?_⟩
   ·rw[Obj.cls_mapFields];exact f2
   ·rw[Obj.data_mapFields f3];simp[rawInt]
  apply bE9;apply bP7;apply bE9;refine wpAny_isOneOf_keyiter (s:={ s with heap:=s.heap.update it (Obj.mapFields (·.setIfInBounds 1 (rawInt ((i:Int)+1)))) }) again.typeIs ?_
  change wpAny _ _ (pure es[i].key) _ _ _
  apply bF5;apply bF5
  exact⟨es[i].key,rfl,bF5 (yes lt _ again (Heap.SameBut.update ..))⟩
 ·have ge:es.size<=i:=Nat.le_of_not_lt lt
  simp only[Array.getElem?_eq_none ge];apply bE9;apply bE9
  first
   |apply wpAny_typeNameOfWhole_keyiter T
   |apply wpAny_typeNameOf_keyiter T
  apply bF5
  change wpAny _ _ (setField (.ref it) 0 .none >>= _) _ _ s
  apply bE9;refine wpAny_setField f1 f3 (by simp) ?_;apply bE9;simp only[newExc,newTuple];apply bE9;refine bM6 ?_ (by size_fits);apply bE9;refine wpAny_of_eq (a:=Value.none) (by first|rfl|(simp only[firstArgMember];rfl)) ?_;refine bM6 ?_ (by size_fits);unfold raiseNew;apply bE9;apply wpAny_handled;have quiet:A.in1.handled=none:=hh;rw[quiet];refine wpAny_throw ?_;apply bE9;refine wpAny_isInstance (T:="StopIteration") (b:=true) ⟨_,bG1 _ rfl,rfl⟩ isSubtype_stop ?_;exact bF5 (no ge _ (((Heap.SameBut.update ..).extBut.push _).push _))
theorem aM8 (hh:A.handled=none)(ne:d≠it):Walks prog w A it [it,d] [it] es.size (λi v=>∃lt:i<es.size,es[i].key=v) (λi h=>h.IsKeyIter it d i es.size ep/\j3 h d es ep) where
 sub:=by intro b hb;rw[bF8.mp hb];exact bG7
 frame:=by
  intro i h h' st hk
  exact⟨st.1.at (hk it bG7),st.2.keep (hk d (bG8 _ bG7))⟩
 item:=by
  intro i s Q E lt st hQ;refine turn hh st.1 st.2 (λlt' h' again sb=>?_) λge=>absurd lt (Nat.not_lt.mpr ge)
  exact hQ _ h' s.toks ⟨lt',rfl⟩ ⟨again,st.2.keep λo e=>sb.extBut d o ne e⟩ λb o hb e=>sb.extBut b o (λz=>hb (bF8.mpr z)) e
 done:=by
  intro s Q E st hQ;refine turn hh st.1 st.2 (λlt=>absurd lt (bJ5 _)) λ_ h' eb=>?_
  exact hQ h' s.toks λb o hb e=>eb b o (λz=>hb (bF8.mpr z)) e
 self:=by intro i s Q E st hQ;exact wpAny_pyIter_keyiter st.1 hQ
theorem aM9 (far:(d==sysModules)=false):KdlSrc prog w "dict" d d es.size (λi v=>∃lt:i<es.size,es[i].key=v) (λh=>j3 h d es ep) where
 type:=λ_ x=>x.ty
 there:=λ_ x=>⟨x.lt,x.lt⟩
 keep:=λ_ _ x k=>x.keep (k d (.inl rfl))
 notList:=by decide
 notTuple:=by decide
 hint:=λ_ _ _ _ x q=>kdl_hint_dict x.ty q
 iter:=λ_ _ hh x=>⟨_,_,λ_ _ q=>made far x q,aM8 hh (bI3 x.lt),⟨_,bG1 _ rfl,rfl,rfl⟩,x.keep λo e=>bF0 _ e⟩
end
end Raw
namespace L2
open PySem PySem.Spec PyProof.Rows
section
variable {X:Cx}{ah:List (ax×Obj)}{σ:St}{H:Hp}{s:aw}{a:ax}
def aN0 (H:Hp)(y:V)(k:List aF):Prop:=∃q,y = .ref q/\H q=some (.tup (k.map kV))
theorem aN1 {kvs:List (aF×V)}(I:a7 X ah σ H s)(h:H a=some (.dK kvs)):∃es ep,Raw.j3 s.heap a es ep/\(a==sysModules)=false/\aW (kvs.map λp=>kV p.1) (es.toList.map (·.key))/\kvs.length<=sizeLine:=by
 obtain⟨z,far,vs,rel,o,es,ep,e1,e2,e3,kk,pr,nd⟩:=(show bY X.prog X.w H s.heap a (.dK kvs) from I.hok a _ h)
 refine⟨es,ep,⟨o,e1,e2,e3⟩,far,?_,z⟩;clear z far e1 e2 e3 kk nd h;generalize es.toList=l at pr
 induction pr generalizing kvs with
 |nil=>cases rel;exact .nil
 |@cons e k es' kvs' h1 h2 _ ih=>
  cases rel with
  |@cons p q ps qs r rs=>
   refine .cons ?_ (ih rs)
   obtain⟨r1,_⟩:=r
   show aZ (kV p.1) e.key;rw[r1];rcases jW h1 with⟨n,t,e4,e5⟩|⟨x,t,e4,e5⟩
   ·rw[e4,e5];exact⟨t,rfl⟩
   ·rw[e4,e5];exact⟨t,rfl⟩
theorem aN2 {es:Array DictEntry}{acc:Array av}(h:ItemsOf (λi v=>∃lt:i<es.size,es[i].key=v) acc es.size):acc.toList=es.toList.map (·.key):=by
 apply List.ext_getElem?;intro j;have h1:=h.1;by_cases hj:j<es.size
 ·have hj':j<acc.size:=by rw[h1];exact hj
  obtain⟨_,e⟩:=h.2 j acc[j] (by simp[hj'])
  rw[bG4];simp[hj,hj',e]
 ·have hj':¬j<acc.size:=by rw[h1];exact hj
  rw[bG4];simp[Nat.le_of_not_lt hj,Nat.le_of_not_lt hj']
end
section
variable {X:Cx}
theorem aN3:cG X (.builtin "isinstance") (λxs H Q=>∃x t n b,xs = [x,.ty n]/\gR X.K H x t/\PySem.W.kitOne X.K t (.type n)=some b/\Q (.bl b) H):=by
 intro ah s σ H xs us Q I r h
 obtain⟨x,t,n,b,rfl,ty,e,q⟩:=h
 obtain⟨u,u',rfl,ru,ru'⟩:=qF r
 cases ru';exact aF7 I ru ty e λtk=>⟨.bl b,H,I.tok tk,rfl,q⟩
end
def Z3 (outer:List (Str×NameKind))(XN:List Str)(names:List (Str×NameKind))(N:List Str)(fr:List (Option Nat)):Bool:=
 names.all (λy=>!(y.2==.cell)||names.lookup y.1==some .cell)&&names.all (λy=>!(y.2==.local)||names.lookup y.1==some .local) &&
 names.all (λy=>!(y.2==.free)||(outer.lookup y.1==some .cell||outer.lookup y.1==some .free))&&fr.length==N.length &&
 (fr.zip N).all (λp=>match p.1 with
  |none=>true
  |some j=>XN[j]?==some p.2&&names.lookup p.2==some .free)
theorem dS.of {X:Cx}{scope:Scope}{N:List Str}{fr:List (Option Nat)}(hk:scope.kind = .function)(h:Z3 X.env.scope.names X.N scope.names N fr=true):dS X scope N fr:=by
 unfold Z3 at h;simp only[bI4]at h
 obtain⟨⟨⟨⟨h1,h2⟩,h3⟩,h4⟩,h5⟩:=h
 refine⟨hk,λy hy e=>?_,λy hy e=>?_,λy hy e=>?_,by simpa using h4,λi j e=>?_⟩
 ·have:=bN2.mp h1 y hy
  rw[e]at this;simpa using this
 ·have:=bN2.mp h2 y hy
  rw[e]at this;simpa using this
 ·have:=bN2.mp h3 y hy
  rw[e]at this;simpa using this
 ·have hl:fr.length=N.length:=by simpa using h4
  have hi:i<fr.length:=(bF6.mp e).1;have m:(some j,N[i]'(by omega))∈fr.zip N:=by
   have:(fr.zip N)[i]? = some (some j,N[i]'(by omega)):=by
    rw[List.getElem?_zip_eq_some]
    exact⟨e,by simp⟩
   exact bJ7 this
  have:=bN2.mp h5 _ m
  simp only[bI4,bV0]at this
  exact⟨N[i]'(by omega),by simp,this.1,this.2⟩
theorem wk0 {n:Option V}{r:St}{v:V}:Wk (none::r) (some v::r):=(Wk.refl (none::r)).set (i:=0) rfl
def qT (H:Hp)(ys:List V)(ls:aa):Prop:=Paired (λy l=>∃b,y = .ref b/\H b=some (.tup [.int l.1,.int l.2])) ys ls
structure Z4 (H:Hp)(v:V)(ws:ag)(ls:aa):Prop where
 at_:∃a p q ys,v = .ref a/\H a=some (.tup [.ref p,.ref q])/\H p=some (.tup (ws.map V.int))/\H q=some (.tup ys)/\qT H ys ls
theorem qT.get {H:Hp}:∀{ys:List V}{ls:aa}{i:Nat}{y:V},qT H ys ls->ys[i]? = some y->∃l b,ls[i]? = some l/\y = .ref b/\H b=some (.tup [.int l.1,.int l.2])
 |_,_,_,_,.nil,e=>by simp at e
 |_,_,0,_,.cons (b:=l) ⟨b,h1,h2⟩ _,e=>by simp at e;subst e;exact⟨l,b,rfl,h1,h2⟩
 |_,_,i+1,_,.cons _ t,e=>by
  obtain⟨l,b,h1,h2⟩:=qT.get (i:=i) t (by simpa using e)
  exact⟨l,b,by simpa using h1,h2⟩
def aX (ls:aa)(k:Int):ag:=ls.flatMap λl=>(if l.1=k then [l.2] else [])++(if l.2=k then [l.1] else [])
theorem aN4 (ls:aa)(l:Int×Int)(k:Int):aX (ls++[l]) k=aX ls k++((if l.1=k then [l.2] else [])++(if l.2=k then [l.1] else [])):=by
 unfold aX;rw[List.flatMap_append];simp
theorem zD {ls:aa}{i:Nat}{l:Int×Int}(h:ls[i]? = some l)(k:Int):aX (ls.take (i+1)) k=aX (ls.take i) k++((if l.1=k then [l.2] else [])++(if l.2=k then [l.1] else [])):=by
 rw[bO8,h];exact aN4 _ _ _
structure kZ (H H':Hp)(r:ax)(bs:List ax)(f:Nat->ag):Prop where
 new:H r=none
 news:∀b∈bs,H b=none/\b≠r
 nd:bs.Nodup
 row:H' r=some (.lst (bs.map V.ref))
 rows:∀(k:Nat) (b:ax),bs[k]? = some b->H' b=some (.lst ((f k).map V.int))
 same:aD H H'
theorem kZ.congr {H H':Hp}{r:ax}{bs:List ax}{f g:Nat->ag}(h:kZ H H' r bs f)(e:∀k,k<bs.length->f k=g k):kZ H H' r bs g:=
 ⟨h.new,h.news,h.nd,h.row,λk b hb=>by rw[<- e k (bF6.mp hb).1];exact h.rows k b hb,h.same⟩
theorem kZ.app {H H':Hp}{r:ax}{bs:List ax}{f:Nat->ag}(h:kZ H H' r bs f){k:Nat}{b:ax}(hb:bs[k]? = some b)(x:Int) :
  kZ H (upd H' b (.lst ((f k).map V.int++[V.int x]))) r bs (λj=>if j=k then f j++[x] else f j):=by
 have hm:b∈bs:=bJ7 hb;refine⟨h.new,h.news,h.nd,by rw[aL (Ne.symm (h.news b hm).2)];exact h.row,λj c hc=>?_,λc o e=>by rw[aL (dG e (h.news b hm).1)];exact h.same c o e⟩;by_cases hj:j=k
 ·subst hj
  rw[hb]at hc;cases hc;rw[b6,if_pos rfl];simp
 ·rw[if_neg hj]
  have ne:c≠b:=λz=>by
   subst z
   obtain⟨i1,e1⟩:=bF6.mp hb
   obtain⟨i2,e2⟩:=bF6.mp hc
   refine hj (Nat.le_antisymm (Nat.le_of_not_lt λz=>?_) (Nat.le_of_not_lt λz=>?_))
   ·exact List.pairwise_iff_getElem.mp h.nd _ _ i1 i2 z (e1.trans e2.symm)
   ·exact List.pairwise_iff_getElem.mp h.nd _ _ i2 i1 z (e2.trans e1.symm)
  rw[aL ne];exact h.rows j c hc
theorem qU (ls:aa)(k:Int):(aX ls k).length<=2*ls.length:=by
 induction ls with
 |nil=>exact bF7 _
 |cons l r ih=>
  have e:aX (l::r) k=((if l.1=k then [l.2] else [])++(if l.2=k then [l.1] else []))++aX r k:=rfl;rw[e,bF4,bF4,bH8];have h1:(if l.1=k then [l.2] else []).length<=1:=by split<;>simp
  have h2:(if l.2=k then [l.1] else []).length<=1:=by split<;>simp
  omega
theorem nQ {α:Type}{xs:List α}{i:Int}{v:α}(h0:0<=i)(h:xs[i.toNat]? = some v):atI xs i=some v:=by
 have:=qI h
 rwa [show ((i.toNat:Nat):Int)=i by omega]at this
theorem j4 {n:Nat}(h:n<=16000000):n<sizeLine:=by rw[sizeLine_eq];omega
theorem u7 {σ:St}{H:Hp}{A B:Hp->Prop}(h:A H):yQ σ H λb H4=>if b=true then A H4 else B H4:=by
 show if true=true then A H else B H
 rw[if_pos rfl];exact h
theorem oK {K:ae}{H:Hp}{p:ax}{xs:List V}(h:aU K H p xs):jG K "list" (.ref p) H:=.inl ⟨rfl,xs,h⟩
end L2
namespace Zp
open PySem PyProof.Rows
section
variable {prog:ay}{w:ba}{A:az}{E:av→aw→Prop}{s:aw}
theorem aN5 {it t:ax}{i:Nat}{items:Array av}{x:av}{Q:av->aw->Prop}(hi:s.heap.IsTupleIter it t i)(ht:s.heap.IsTuple t items)(hx:items[i]? = some x)(q:∀h',h'.IsTupleIter it t (i+1)->Heap.SameBut it s.heap h'->Q x { s with heap:=h' }):wpAny (model prog w) A (Builtin.SmallTypes.nextOf (.ref it)) Q E s:=by
 have T:=hi.typeIs
 obtain⟨o,e1,e2,e3⟩:=hi
 obtain⟨u,f1,_,k,f3⟩:=ht
 have slot:=PySem.F.slot_tuple_iterator_next;have isref:(Value.ref t==Value.none)=false:=rfl;unfold Builtin.SmallTypes.nextOf;apply bE9;apply bN8 (name:=Str.ofString "__next__") T slot;apply bL9 slot T PySem.F.entry_tuple_iterator_next _ (PySem.F.args_tuple_iterator_next_1 _)
 change wpAny _ _ (field (.ref it) 0 >>= _) _ _ s
 apply bE9;refine bO6 e1 e3 (x:=.ref t) rfl ?_
 change wpAny _ _ (if (Value.ref t==Value.none)=true then _ else _) _ _ s
 simp only[isref,bI1,bM7]
 change wpAny _ _ (field (.ref it) 1 >>= _) _ _ s
 apply bE9;refine bO6 e1 e3 (x:=.int i 0) rfl ?_
 change wpAny _ _ (seqItems? (.ref t) >>= _) _ _ s
 apply bE9;apply bT4 f1 f3;simp only[Int.toNat_natCast,hx];apply bE9;refine wpAny_setField e1 e3 (by simp) ?_;apply bF5;refine⟨x,rfl,bF5 (q _ ⟨_,Heap.get?_update_self _ e1 (Obj.isFreed_of_fields (Obj.data_mapFields e3 _)),?_,?_⟩ (Heap.SameBut.update ..))⟩
 ·rw[Obj.cls_mapFields];exact e2
 ·rw[Obj.data_mapFields e3];simp[rawInt]
theorem aN6 {it t:ax}{i:Nat}{items:Array av}{Q:av->aw->Prop}(hh:A.handled=none)(hi:s.heap.IsTupleIter it t i)(ht:s.heap.IsTuple t items)(hx:items[i]? = none)(q:∀h' e,Heap.ExtBut it s.heap h'->(∃o,h'.get? e=some o/\o.cls = .type "StopIteration")->E (.ref e) { s with heap:=h' }):wpAny (model prog w) A (Builtin.SmallTypes.nextOf (.ref it)) Q E s:=by
 have T:=hi.typeIs
 obtain⟨o,e1,e2,e3⟩:=hi
 obtain⟨u,f1,_,k,f3⟩:=ht
 have slot:=PySem.F.slot_tuple_iterator_next;have isref:(Value.ref t==Value.none)=false:=rfl;unfold Builtin.SmallTypes.nextOf;apply bE9;apply bN8 (name:=Str.ofString "__next__") T slot;apply bL9 slot T PySem.F.entry_tuple_iterator_next _ (PySem.F.args_tuple_iterator_next_1 _)
 change wpAny _ _ (field (.ref it) 0 >>= _) _ _ s
 apply bE9;refine bO6 e1 e3 (x:=.ref t) rfl ?_
 change wpAny _ _ (if (Value.ref t==Value.none)=true then _ else _) _ _ s
 simp only[isref,bI1,bM7]
 change wpAny _ _ (field (.ref it) 1 >>= _) _ _ s
 apply bE9;refine bO6 e1 e3 (x:=.int i 0) rfl ?_
 change wpAny _ _ (seqItems? (.ref t) >>= _) _ _ s
 apply bE9;apply bT4 f1 f3;simp only[Int.toNat_natCast,hx];apply bE9;apply wpAny_rule;apply bE9;refine wpAny_setField e1 e3 (by simp) ?_;apply bE9;simp only[newExc,newTuple];apply bE9;refine bM6 ?_ (by size_fits);apply bE9;refine wpAny_of_eq (a:=Value.none) (by first|rfl|(simp only[firstArgMember];rfl)) ?_;refine bM6 ?_ (by size_fits);unfold raiseNew;apply bE9;apply wpAny_handled;have quiet:A.in1.handled=none:=hh;rw[quiet];refine wpAny_throw ?_;exact q _ _ (((Heap.SameBut.update ..).extBut.push _).push _) ⟨_,bG1 _ rfl,rfl⟩
theorem aN7 (hh:A.handled=none)(it t:ax)(ne:t≠it)(items:Array av):Draws prog w A it [it,t] items.size (λi v=>items[i]? = some v) (λi h=>h.IsTupleIter it t i/\h.IsTuple t items) where
 live:=λ_ _ st=>st.1.elim λo y=>⟨o,y.1⟩
 frame:=λ_ _ _ st k=>⟨st.1.at λo e=>k it bG7 o e,st.2.elim λo y=>⟨o,k t (bG8 _ bG7) o y.1,y.2⟩⟩
 item:=λi s Q E lt st q=>aN5 st.1 st.2 (Array.getElem?_eq_getElem lt) λh' again sb=>q _ h' s.toks (Array.getElem?_eq_getElem lt) ⟨again,st.2.elim λo y=>⟨o,sb.extBut t o ne y.1,y.2⟩⟩ sb
 done:=λs Q E st q=>aN6 hh st.1 st.2 (Array.getElem?_eq_none (bF7 _)) q
end
structure Ap (z TI TO i1 i2:ax)(fp1 fp2:List ax):Prop where
 TIz:TI≠z
 TOz:TO≠z
 TITO:TI≠TO
 z1:z∉fp1
 z2:z∉fp2
 o1:TO∉fp1
 o2:TO∉fp2
 t1:TI∉fp1
 t2:TI∉fp2
 m1:i1∈fp1
 m2:i2∈fp2
 n1:i1∉fp2
 n2:i2∉fp1
structure zE (z TI TO i1 i2:ax)(St1 St2:Nat->Heap->Prop)(f0:av)(i j:Nat)(h:Heap):Prop where
 zz:IsZip h z TI TO f0
 ti:IsPair h TI (.ref i1) (.ref i2)
 to_:∃a b,IsPair h TO a b
 s1:St1 i h
 s2:St2 j h
section
variable {prog:ay}{w:ba}{A:az}{E:av→aw→Prop}{s:aw}{z TI TO i1 i2:ax}{fp1 fp2:List ax}{n1 n2:Nat}{P1 P2:Nat→av→Prop}{St1 St2:Nat→Heap→Prop}
theorem oM (ap:Ap z TI TO i1 i2 fp1 fp2){b:ax}(h:b∉fp1):b≠i1:=λe=>h (e▸ap.m1)
theorem u8 (ap:Ap z TI TO i1 i2 fp1 fp2){b:ax}(h:b∉fp2):b≠i2:=λe=>h (e▸ap.m2)
theorem item (D1:Draws prog w A.in1 i1 fp1 n1 P1 St1)(D2:Draws prog w A.in1 i2 fp2 n2 P2 St2)(ap:Ap z TI TO i1 i2 fp1 fp2){i:Nat}(l1:i<n1)(l2:i<n2)(st:zE z TI TO i1 i2 St1 St2 .none i i s.heap){Q:Option av->aw->Prop}(q:∀x y h' tk,P1 i x->P2 i y->zE z TI TO i1 i2 St1 St2 (rawInt s.heap.objs.size) (i+1) (i+1) h'->IsPair h' s.heap.objs.size x y->(∀c o,c≠z->c≠TO->c≠i1->c≠i2->s.heap.get? c=some o->h'.get? c=some o)->
   h'.objs.size=s.heap.objs.size+1->Q (some (.ref s.heap.objs.size)) { s with heap:=h',toks:=tk }):wpAny (model prog w) A (pyNext (.ref z)) Q E s:=by
 obtain⟨hz,hti,⟨a,b,hto⟩,h1,h2⟩:=st
 have T:s.TypeIs (.ref z) "zip":=⟨_,hz,rfl⟩;have slot:=PySem.F.slot_zip_next;unfold pyNext;apply bE9;apply wpAny_attempt;apply bN8 (name:=Str.ofString "__next__") T slot;apply bL9 slot T PySem.F.entry_zip_next _ (PySem.F.args_zip_next_1 _)
 change wpAny _ _ (field (.ref z) 2 >>= _) _ _ _
 apply bE9;refine bO6 hz rfl (x:=.bool false) rfl ?_
 change wpAny _ _ (field (.ref z) 3 >>= _) _ _ _
 apply bE9;refine bO6 hz rfl (x:=.ref TI) rfl ?_;apply bE9;apply bT4 hti rfl
 change wpAny _ _ (Builtin.SmallTypes.ownedTupleIsFree (.ref z) >>= _) _ _ _
 apply bE9;unfold Builtin.SmallTypes.ownedTupleIsFree;apply bE9;refine bO6 hz rfl (x:=.none) rfl (bF5 ?_);simp only[if_true];apply bE9;apply wpAny_rule;apply bE9;refine bO6 hz rfl (x:=.ref TO) rfl ?_;apply bE9;refine bT5 hz (by simp) λg1 hz1 sb1=>?_
 have k1:∀c o,c≠z->s.heap.get? c=some o->g1.get? c=some o:=λc o c1 e=>sb1.extBut c o c1 e
 apply bE9;simp only[List.zipIdx_cons,List.zipIdx_nil,List.forIn_cons,List.forIn_nil];apply bE9;apply bE9;apply wpAny_onRaise
 change wpAny _ _ (Builtin.SmallTypes.nextOf (.ref i1) >>= _) _ _ _
 apply bE9;refine D1.item i { s with heap:=g1 } _ _ l1 (D1.frame _ _ _ h1 λc hc o e=>k1 c o (λy=>ap.z1 (y▸hc)) e) λx g2 tk2 px st1 sb2=>bF5 ?_
 have k2:∀c o,c≠z->c≠i1->s.heap.get? c=some o->g2.get? c=some o:=λc o c1 c2 e=>sb2.extBut c o c2 (k1 c o c1 e)
 have to2:IsPair g2 TO a b:=k2 _ _ ap.TOz (oM ap ap.o1) hto;apply bE9;apply bT4 to2 rfl;apply bE9;refine wpAny_updateSeq_pair to2 λg3 to3 sb3=>?_
 have to3:IsPair g3 TO x b:=to3;apply bE9;apply wpAny_letGo;apply bF5;apply bE9;apply bE9;apply wpAny_onRaise
 change wpAny _ _ (Builtin.SmallTypes.nextOf (.ref i2) >>= _) _ _ _
 apply bE9;have k3:∀c o,c≠z->c≠i1->c≠TO->s.heap.get? c=some o->g3.get? c=some o:=λc o c1 c2 c3 e=>sb3.extBut c o c3 (k2 c o c1 c2 e)
 refine D2.item i { s with heap:=g3,toks:=tk2 } _ _ l2 (D2.frame _ _ _ h2 λc hc o e=>k3 c o (λy=>ap.z2 (y▸hc)) (λy=>ap.n1 (y▸hc)) (λy=>ap.o2 (y▸hc)) e) λy g4 tk4 py st2 sb4=>bF5 ?_
 have to4:IsPair g4 TO x b:=sb4.extBut _ _ (u8 ap ap.o2) to3;apply bE9;apply bT4 to4 rfl;apply bE9;refine wpAny_updateSeq_pair to4 λg5 to5 sb5=>?_
 have to5:IsPair g5 TO x y:=to5;apply bE9;apply wpAny_letGo;apply bF5;apply bF5;apply bE9;apply bT4 to5 rfl;apply bE9;refine wpAny_newTuple ?_ (by show 2<=sizeLine;decide);have size:g5.objs.size=s.heap.objs.size:=by rw[sb5.1,sb4.1,sb3.1,sb2.1,sb1.1]
 have k5:∀c o,c≠z->c≠TO->c≠i1->c≠i2->s.heap.get? c=some o->g5.get? c=some o:=λc o c1 c2 c3 c4 e=>sb5.extBut c o c2 (sb4.extBut c o c4 (k3 c o c1 c3 c2 e))
 have z5:IsZip g5 z TI TO .ellipsis:=sb5.extBut _ _ (Ne.symm ap.TOz) (sb4.extBut _ _ (u8 ap ap.z2) (sb3.extBut _ _ (Ne.symm ap.TOz) (sb2.extBut _ _ (oM ap ap.z1) hz1)))
 change wpAny _ _ (Builtin.SmallTypes.ownedTupleHandOut (.ref z) (.ref g5.objs.size) >>= _) _ _ _
 apply bE9;unfold Builtin.SmallTypes.ownedTupleHandOut;apply bE9;have z6:IsZip (g5.push { cls:=.type "tuple",data:=.seq #[x,y] }) z TI TO .ellipsis:=bF0 _ z5;refine bT5 z6 (by simp) λg7 z7 sb7=>?_
 have z7:IsZip g7 z TI TO (rawInt g5.objs.size):=z7;refine bT5 z7 (by simp) λg8 z8 sb8=>?_
 have z8:IsZip g8 z TI TO (rawInt g5.objs.size):=z8;have zlt:z<g5.objs.size:=bG6 z5;have up:∀c o,c≠z->g5.get? c=some o->g8.get? c=some o:=λc o c1 e=>sb8.extBut c o c1 (sb7.extBut c o c1 (bF0 _ e))
 have p8:IsPair g8 g5.objs.size x y:=sb8.extBut _ _ (bN5 zlt) (sb7.extBut _ _ (bN5 zlt) (bG1 _ rfl));have s8:g8.objs.size=g5.objs.size+1:=by rw[sb8.1,sb7.1,bP9]
 have f1:St1 (i+1) g8:=D1.frame _ _ _ st1 λc hc o e=>up c o (λy=>ap.z1 (y▸hc)) (sb5.extBut c o (λy=>ap.o1 (y▸hc)) (sb4.extBut c o (λy=>ap.n2 (y▸hc)) (sb3.extBut c o (λy=>ap.o1 (y▸hc)) e)))
 have f2:St2 (i+1) g8:=D2.frame _ _ _ st2 λc hc o e=>up c o (λy=>ap.z2 (y▸hc)) (sb5.extBut c o (λy=>ap.o2 (y▸hc)) e)
 have ti8:IsPair g8 TI (.ref i1) (.ref i2):=up _ _ ap.TIz (k5 _ _ ap.TIz ap.TITO (oM ap ap.t1) (u8 ap ap.t2) hti);rw[size]at z8 p8 s8;apply bF5;refine⟨_,rfl,bF5 ?_⟩
 change Q (some (.ref g5.objs.size)) _
 rw[size];exact q x y g8 tk4 px py ⟨z8,ti8,⟨x,y,up _ _ ap.TOz to5⟩,f1,f2⟩ p8 (λc o c1 c2 c3 c4 e=>up c o c1 (k5 c o c1 c2 c3 c4 e)) s8
theorem fin (D1:Draws prog w A.in1 i1 fp1 n1 P1 St1)(D2:Draws prog w A.in1 i2 fp2 n2 P2 St2)(ap:Ap z TI TO i1 i2 fp1 fp2){i:Nat}(le:i=n1∨(i<n1/\i=n2))(st:zE z TI TO i1 i2 St1 St2 .none i i s.heap){Q:Option av->aw->Prop}(q:∀h' tk,(∀c o,c≠z->c≠TO->c≠i1->c≠i2->s.heap.get? c=some o->h'.get? c=some o)->Q none { s with heap:=h',toks:=tk }):wpAny (model prog w) A (pyNext (.ref z)) Q E s:=by
 obtain⟨hz,hti,⟨a,b,hto⟩,h1,h2⟩:=st
 have T:s.TypeIs (.ref z) "zip":=⟨_,hz,rfl⟩;have slot:=PySem.F.slot_zip_next;unfold pyNext;apply bE9;apply wpAny_attempt;apply bN8 (name:=Str.ofString "__next__") T slot;apply bL9 slot T PySem.F.entry_zip_next _ (PySem.F.args_zip_next_1 _)
 change wpAny _ _ (field (.ref z) 2 >>= _) _ _ _
 apply bE9;refine bO6 hz rfl (x:=.bool false) rfl ?_
 change wpAny _ _ (field (.ref z) 3 >>= _) _ _ _
 apply bE9;refine bO6 hz rfl (x:=.ref TI) rfl ?_;apply bE9;apply bT4 hti rfl
 change wpAny _ _ (Builtin.SmallTypes.ownedTupleIsFree (.ref z) >>= _) _ _ _
 apply bE9;unfold Builtin.SmallTypes.ownedTupleIsFree;apply bE9;refine bO6 hz rfl (x:=.none) rfl (bF5 ?_);simp only[if_true];apply bE9;apply wpAny_rule;apply bE9;refine bO6 hz rfl (x:=.ref TO) rfl ?_;apply bE9;refine bT5 hz (by simp) λg1 hz1 sb1=>?_
 have k1:∀c o,c≠z->s.heap.get? c=some o->g1.get? c=some o:=λc o c1 e=>sb1.extBut c o c1 e
 apply bE9;simp only[List.zipIdx_cons,List.zipIdx_nil,List.forIn_cons,List.forIn_nil];apply bE9;apply bE9;apply wpAny_onRaise
 change wpAny _ _ (Builtin.SmallTypes.nextOf (.ref i1) >>= _) _ _ _
 apply bE9;have z1:IsZip g1 z TI TO .ellipsis:=hz1;rcases le with rfl|⟨lt,rfl⟩
 ·refine D1.done { s with heap:=g1 } _ _ (D1.frame _ _ _ h1 λc hc o e=>k1 c o (λy=>ap.z1 (y▸hc)) e) λg2 e eb ex=>?_
  have z2:IsZip g2 z TI TO .ellipsis:=eb _ _ (oM ap ap.z1) z1;refine bT5 z2 (by simp) λg3 z3 sb3=>?_
  obtain⟨oe,eo,co⟩:=ex
  have ne:e≠z:=λy=>by
   rw[y,z2]at eo
   have:=bG9 eo
   rw[<- this]at co;exact absurd (show Value.type "zip" = Value.type "StopIteration" from co) (by decide)
  apply bE9;refine wpAny_isInstance (T:="StopIteration") (b:=true) ⟨oe,sb3.extBut _ _ ne eo,co⟩ isSubtype_stop ?_;exact bF5 (q g3 s.toks λc o c1 _ c3 _ e=>sb3.extBut c o c1 (eb c o c3 (k1 c o c1 e)))
 ·refine D1.item i { s with heap:=g1 } _ _ lt (D1.frame _ _ _ h1 λc hc o e=>k1 c o (λy=>ap.z1 (y▸hc)) e) λx g2 tk2 px st1 sb2=>bF5 ?_
  have k2:∀c o,c≠z->c≠i1->s.heap.get? c=some o->g2.get? c=some o:=λc o c1 c2 e=>sb2.extBut c o c2 (k1 c o c1 e)
  have to2:IsPair g2 TO a b:=k2 _ _ ap.TOz (oM ap ap.o1) hto;apply bE9;apply bT4 to2 rfl;apply bE9;refine wpAny_updateSeq_pair to2 λg3 to3 sb3=>?_
  apply bE9;apply wpAny_letGo;apply bF5;apply bE9;apply bE9;apply wpAny_onRaise
  change wpAny _ _ (Builtin.SmallTypes.nextOf (.ref i2) >>= _) _ _ _
  apply bE9;have k3:∀c o,c≠z->c≠i1->c≠TO->s.heap.get? c=some o->g3.get? c=some o:=λc o c1 c2 c3 e=>sb3.extBut c o c3 (k2 c o c1 c2 e)
  refine D2.done { s with heap:=g3,toks:=tk2 } _ _ (D2.frame _ _ _ h2 λc hc o e=>k3 c o (λy=>ap.z2 (y▸hc)) (λy=>ap.n1 (y▸hc)) (λy=>ap.o2 (y▸hc)) e) λg4 e eb ex=>?_
  have z4:IsZip g4 z TI TO .ellipsis:=eb _ _ (u8 ap ap.z2) (sb3.extBut _ _ (Ne.symm ap.TOz) (sb2.extBut _ _ (oM ap ap.z1) z1));refine bT5 z4 (by simp) λg5 z5 sb5=>?_
  obtain⟨oe,eo,co⟩:=ex
  have ne:e≠z:=λy=>by
   rw[y,z4]at eo
   have:=bG9 eo
   rw[<- this]at co;exact absurd (show Value.type "zip" = Value.type "StopIteration" from co) (by decide)
  apply bE9;refine wpAny_isInstance (T:="StopIteration") (b:=true) ⟨oe,sb5.extBut _ _ ne eo,co⟩ isSubtype_stop ?_;exact bF5 (q g5 tk2 λc o c1 c2 c3 c4 e=>sb5.extBut c o c1 (eb c o c4 (k3 c o c1 c3 c2 e)))
end
def iD (h:Heap)(t u:ax):Heap:=
 ((((h.push { cls:=.type "tuple_iterator",data:=.fields #[.ref t,.int 0 0] }).push { cls:=.type "tuple_iterator",data:=.fields #[.ref u,.int 0 0] }).push { cls:=.type "tuple",data:=.seq #[.ref h.objs.size,.ref (h.objs.size+1)] }).push
  { cls:=.type "tuple",data:=.seq #[.none,.none] }).push { cls:=.type "zip",data:=.fields #[.none,.bool false,.bool false,.ref (h.objs.size+2),.ref (h.objs.size+3)] }
theorem aN8 (t u:ax)(xs ys:Array av):Meets (Builtin.«zip.__new__» ⟨[.type "zip",.ref t,.ref u],[]⟩) (λ_ R s=>s.heap.IsTuple t xs/\s.heap.IsTuple u ys/\R (.ok (.ret (.ref (s.heap.objs.size+4)))) { s with heap:=iD s.heap t u }):=
 .of_wp λprog w A R s h=>by
  obtain⟨hp,g,d,tk,os⟩:=s
  obtain⟨ht,hu,h⟩:=h
  have sub:=sub_zip;have a1:Heap.IsTuple (Shared.heap ⟨hp,g,d,tk,os⟩) t xs:=ht;have a2:Heap.IsTuple (Shared.heap ⟨hp.push { cls:=.type "tuple_iterator",data:=.fields #[.ref t,.int 0 0] },g,d,tk,os⟩) u ys:=hu.elim λo y=>⟨o,bF0 _ y.1,y.2⟩
  wp_walk using wpAny_pyIter_tuple a1,wpAny_pyIter_tuple a2
  have e:∀(o:Obj) (k:Heap),(k.push o).objs.size=k.objs.size+1:=λo k=>bP9 ..
  refine⟨_,rfl,?_⟩;simp only[iD,e]at h ⊢;exact h
section
variable {prog:ay}{w:ba}{A:az}{E:av→aw→Prop}{s:aw}
theorem aN9 {t u:ax}{xs ys:Array av}{Q:av->aw->Prop}(ht:s.heap.IsTuple t xs)(hu:s.heap.IsTuple u ys)(q:∀h',IsZip h' (s.heap.objs.size+4) (s.heap.objs.size+2) (s.heap.objs.size+3) .none->IsPair h' (s.heap.objs.size+2) (.ref s.heap.objs.size) (.ref (s.heap.objs.size+1))->
   IsPair h' (s.heap.objs.size+3) .none .none->h'.IsTupleIter s.heap.objs.size t 0->h'.IsTupleIter (s.heap.objs.size+1) u 0->(∀c o,s.heap.get? c=some o->h'.get? c=some o)->Q (.ref (s.heap.objs.size+4)) { s with heap:=h' }) :
  wpAny (model prog w) A (call (.type "zip") [.ref t,.ref u]) Q E s:=by
 refine callType_new PySem.F.called_zip (by decide) (PySem.F.typeCall_zip_2 _ _) (PySem.F.newCall_zip_2 _ _) (λobj=>PySem.F.args_object_init_3 obj _ _) PySem.F.entry_zip_new (aN8 t u xs ys) ⟨ht,hu,?_⟩;have e:∀(o:Obj) (k:Heap),(k.push o).objs.size=k.objs.size+1:=λo k=>bP9 ..
 have p0:∀(k:Heap) (o:Obj) (m:Nat),o.isFreed=false->m=k.objs.size->(k.push o).get? m=some o:=λk o m f z=>by rw[z];exact bG1 _ f
 have g0:(iD s.heap t u).get? s.heap.objs.size=some { cls:=.type "tuple_iterator",data:=.fields #[.ref t,.int 0 0] }:=by
  unfold iD;exact bF0 _ (bF0 _ (bF0 _ (bF0 _ (p0 _ _ _ rfl rfl))))
 have g1:(iD s.heap t u).get? (s.heap.objs.size+1)=some { cls:=.type "tuple_iterator",data:=.fields #[.ref u,.int 0 0] }:=by
  unfold iD;exact bF0 _ (bF0 _ (bF0 _ (p0 _ _ _ rfl (by simp only[e]))))
 have g2:(iD s.heap t u).get? (s.heap.objs.size+2)=some { cls:=.type "tuple",data:=.seq #[.ref s.heap.objs.size,.ref (s.heap.objs.size+1)] }:=by
  unfold iD;exact bF0 _ (bF0 _ (p0 _ _ _ rfl (by simp only[e])))
 have g3:(iD s.heap t u).get? (s.heap.objs.size+3)=some { cls:=.type "tuple",data:=.seq #[.none,.none] }:=by
  unfold iD;exact bF0 _ (p0 _ _ _ rfl (by simp only[e]))
 have g4:(iD s.heap t u).get? (s.heap.objs.size+4)=some { cls:=.type "zip",data:=.fields #[.none,.bool false,.bool false,.ref (s.heap.objs.size+2),.ref (s.heap.objs.size+3)] }:=by
  unfold iD;exact p0 _ _ _ rfl (by simp only[e])
 refine⟨⟨_,g4,rfl⟩,q _ g4 g2 g3 ⟨_,g0,rfl,rfl⟩ ⟨_,g1,rfl,rfl⟩ λc o z=>?_⟩;unfold iD;exact bF0 _ (bF0 _ (bF0 _ (bF0 _ (bF0 _ z))))
end
end Zp
namespace L2
open PySem PySem.Spec PyProof.Rows
def zF (K:ae)(a b:ax):It:=
  ⟨λi H=>∃xs ys x y,aP K H a xs/\aP K H b ys/\xs[i]? = some x/\ys[i]? = some y,
   λi H v H'=>∃T x y,H T=none/\v = .ref T/\H'=upd H T (.tup [x,y])/\∀xs ys,aP K H a xs->aP K H b ys->xs[i]? = some x/\ys[i]? = some y,
   λi H=>∃xs ys,aP K H a xs/\aP K H b ys/\(i=xs.length∨(i<xs.length/\i=ys.length))⟩
def Sq (t:Bool)(K:ae)(H:Hp)(a:ax)(xs:List V):Prop:=match t with
 |true=>aP K H a xs
 |false=>aU K H a xs
def iE (t:Bool)(h:Heap)(i a:ax)(n:Nat):Prop:=match t with
 |true=>h.IsTupleIter i a n
 |false=>h.IsListIter i a n
def Z5 (t:Bool)(h:Heap)(a:ax)(xs:Array av):Prop:=match t with
 |true=>h.IsTuple a xs
 |false=>h.IsList a xs
theorem iE.at {h h':Heap}{i a:ax}{n:Nat}:∀{t:Bool},iE t h i a n->(∀o,h.get? i=some o->h'.get? i=some o)->iE t h' i a n
 |true,x,k=>Heap.IsTupleIter.at x k
 |false,x,k=>Heap.IsListIter.at x k
theorem iE.ob {h:Heap}{i a:ax}{n:Nat}:∀{t:Bool},iE t h i a n->∃o,h.get? i=some o/\∀v,o.data≠.cell v
 |true,⟨o,f,_,d⟩=>⟨o,f,λv q=>by rw[d]at q;cases q⟩
 |false,⟨o,f,_,d⟩=>⟨o,f,λv q=>by rw[d]at q;cases q⟩
theorem iE.draws {prog:ay}{w:ba}{A:az}:∀(t:Bool) (hh:A.handled=none) (it a:ax) (ne:a≠it) (items:Array av),Draws prog w A it [it,a] items.size (λi v=>items[i]? = some v) (λi h=>iE t h it a i/\Z5 t h a items)
 |true,hh,it,a,ne,items=>Zp.aN7 hh it a ne items
 |false,hh,it,a,ne,items=>Draws.list hh it a ne items
section
variable {X:Cx}{ah:List (ax×Obj)}{σ:St}{H:Hp}{s:aw}{a:ax}{xs ys:List V}
theorem Sq.get (I:a7 X ah σ H s):∀{t:Bool},Sq t X.K H a xs->∃us,aW xs us/\Z5 t s.heap a us.toArray
 |true,h=>by obtain⟨us,r,p,_⟩:=I.tuple h;exact⟨us,r,p⟩
 |false,h=>by obtain⟨us,r,p,_⟩:=I.list h;exact⟨us,r,p.isList⟩
theorem Sq.inj (I:a7 X ah σ H s):∀{t:Bool},Sq t X.K H a xs->Sq t X.K H a ys->xs=ys
 |true,h,g=>I.tuple_inj h g
 |false,h,g=>I.list_inj h g
theorem Sq.off (I:a7 X ah σ H s)(he:H a=none)(hb:X.base.get? a=none):∀{t:Bool},Sq t X.K H a xs->False
 |true,h=>by
  rcases h with (h|⟨_,h⟩)|⟨o,_,_,h,_⟩
  ·rw[he]at h;cases h
  ·rw[he]at h;cases h
  ·have:=I.ok.mod.kin a o h
   rw[hb]at this;cases this
 |false,h=>by
  rcases h with (h|⟨_,h⟩)|⟨o,_,_,h,_⟩
  ·rw[he]at h;cases h
  ·rw[he]at h;cases h
  ·have:=I.ok.mod.kin a o h
   rw[hb]at this;cases this
end
def aO0 (t1 t2:Bool)(K:ae)(a b:ax):It:=
  ⟨λi H=>∃xs ys x y,Sq t1 K H a xs/\Sq t2 K H b ys/\xs[i]? = some x/\ys[i]? = some y,
   λi H v H'=>∃T x y,H T=none/\v = .ref T/\H'=upd H T (.tup [x,y])/\∀xs ys,Sq t1 K H a xs->Sq t2 K H b ys->xs[i]? = some x/\ys[i]? = some y,
   λi H=>∃xs ys,Sq t1 K H a xs/\Sq t2 K H b ys/\(i=xs.length∨(i<xs.length/\i=ys.length))⟩
structure zG (t1 t2:Bool)(z TI TO i1 i2 a b:ax)(i:Nat)(h:Heap):Prop where
 zz:IsZip h z TI TO .none
 ti:IsPair h TI (.ref i1) (.ref i2)
 to_:∃x y,IsPair h TO x y
 s1:iE t1 h i1 a i
 s2:iE t2 h i2 b i
theorem Z6 (t1 t2:Bool){P:ay}{w:ba}{K:ae}{elts:List Expr}{k:Nat}{pos:Pos}(a b z TI TO i1 i2:ax)(d:[z,TI,TO,i1,i2].Nodup) :
  kR P w K (.Tuple elts k pos) (aO0 t1 t2 K a b) [z,TI,TO,i1,i2] z (zG t1 t2 z TI TO i1 i2 a b):=by
 have nd:z≠TI/\z≠TO/\z≠i1/\z≠i2/\TI≠TO/\TI≠i1/\TI≠i2/\TO≠i1/\TO≠i2/\i1≠i2:=by
  simp only[List.nodup_cons,bG0,bH0,bL4,not_or]at d
  obtain⟨⟨a1,a2,a3,a4⟩,⟨b1,b2,b3⟩,⟨c1,c2⟩,e1,_⟩:=d
  exact⟨a1,a2,a3,a4,b1,b2,b3,c1,c2,e1⟩
 obtain⟨n1,n2,n3,n4,n5,n6,n7,n8,n9,n10⟩:=nd
 have offBase:∀{X:Cx}{ah:List (ax×Obj)}{σ:St}{H:Hp}{s:aw},a7 X ah σ H s->(∀c∈[z,TI,TO,i1,i2],iX X ah H c)->∀c∈[z,TI,TO,i1,i2],X.base.get? c=none:=by
  intro X ah σ H s I hf c hc;cases q:X.base.get? c with
  |none=>rfl
  |some o=>
   rcases (hf c hc).2.2.2.1 with h|h
   ·exact absurd h (I.ok.noex c o q)
   ·exact absurd (bG2 (bG6 q) (bH6 I.ok.bsz h)) (bJ5 _)
 have off:∀{t:Bool}{X:Cx}{ah:List (ax×Obj)}{σ:St}{H:Hp}{s:aw}{c:ax}{zs:List V},a7 X ah σ H s->(∀c∈[z,TI,TO,i1,i2],iX X ah H c)->Sq t X.K H c zs->c∉[z,TI,TO,i1,i2]:=by
  intro t X ah σ H s c zs I hf hc hm;exact Sq.off I (hf c hm).1 (offBase I hf c hm) hc
 have ap:∀{c e:ax},c∉[z,TI,TO,i1,i2]->e∉[z,TI,TO,i1,i2]->Zp.Ap z TI TO i1 i2 [i1,c] [i2,e]:=λ{c e} hc he=>by
  simp only[bG0,bH0,bL4,not_or]at hc he
  obtain⟨c1,c2,c3,c4,c5⟩:=hc
  obtain⟨e1,e2,e3,e4,e5⟩:=he
  have two:∀{q u v:ax},q≠u->q≠v->q∉[u,v]:=λ{q u v} h1 h2 hm=>by
   simp only[bG0,bH0,bL4]at hm;exact hm.elim h1 h2
  exact⟨n1.symm,n2.symm,n5,two n3 (Ne.symm c1),two n4 (Ne.symm e1),two n8 (Ne.symm c3),two n9 (Ne.symm e3),two n6 (Ne.symm c2),two n7 (Ne.symm e2),bG7,bG7,two n10 (Ne.symm e4),two n10.symm (Ne.symm c5)⟩
 refine⟨by simp,λi h st c hc=>?_,λi h h' st kp=>?_,?_,?_,λA i s Q E st q=>wpAny_pyIter_zip st.zz q⟩
 ·simp only[bG0,bH0,bL4]at hc
  obtain⟨x,y,to⟩:=st.to_
  rcases hc with rfl|rfl|rfl|rfl|rfl
  ·exact⟨_,st.zz,λv q=>by cases q⟩
  ·exact⟨_,st.ti,λv q=>by cases q⟩
  ·exact⟨_,to,λv q=>by cases q⟩
  ·exact st.s1.ob
  ·exact st.s2.ob
 ·obtain⟨x,y,to⟩:=st.to_
  exact⟨kp z (by simp) _ st.zz,kp TI (by simp) _ st.ti,⟨x,y,kp TO (by simp) _ to⟩,st.s1.at λo e=>kp i1 (by simp) o e,st.s2.at λo e=>kp i2 (by simp) o e⟩
 ·
  intro X hP hw hK hc i ah s σ H E I hf st hg;subst hP hw hK
  obtain⟨xs,ys,x,y,ha,hb,hx,hy⟩:=hg
  obtain⟨us,ru,pu⟩:=Sq.get I ha
  obtain⟨vs,rv,pv'⟩:=Sq.get I hb
  obtain⟨ux,eux,rux⟩:=ru.get hx
  obtain⟨vy,evy,rvy⟩:=rv.get hy
  have fa:=off I hf ha;have fb:=off I hf hb;have hh:X.A.in1.handled=none:=I.ok.hd hc;have l1:i<us.toArray.size:=by simpa using (bF6.mp eux).1
  have l2:i<vs.toArray.size:=by simpa using (bF6.mp evy).1
  have fa':a≠i1:=λq=>fa (by rw[q];simp)
  have fb':b≠i2:=λq=>fb (by rw[q];simp)
  have D1:=iE.draws t1 (prog:=X.prog) (w:=X.w) hh i1 a fa' us.toArray;have D2:=iE.draws t2 (prog:=X.prog) (w:=X.w) hh i2 b fb' vs.toArray;refine Zp.item D1 D2 (ap fa fb) l1 l2 ⟨st.zz,st.ti,st.to_,⟨st.s1,pu⟩,⟨st.s2,pv'⟩⟩ λp q h' tk hp hq st' pr kp sz=>⟨_,rfl,?_⟩
  obtain rfl:p=ux:=by
   have:us.toArray[i]? = some ux:=by simpa using eux
   rw[this]at hp;exact (bG9 hp).symm
  obtain rfl:q=vy:=by
   have:vs.toArray[i]? = some vy:=by simpa using evy
   rw[this]at hq;exact (bG9 hq).symm
  refine wpAny_letOwnedTupleGo_zip (s:={ s with heap:=h',toks:=tk }) st'.zz λg zz sb=>?_
  have hzl:z<s.heap.objs.size:=bG6 st.zz;have up:∀c o,c≠z->c≠TO->c≠i1->c≠i2->s.heap.get? c=some o->g.get? c=some o:=λc o c1 c2 c3 c4 e=>sb.extBut c o c1 (kp c o c1 c2 c3 c4 e)
  have hT:H s.heap.objs.size=none:=I.hok.fresh (bF7 _);have prG:IsPair g s.heap.objs.size p q:=sb.extBut _ _ (bN5 hzl) pr;have fpn:∀c u,H c=some u->c∉[z,TI,TO,i1,i2]:=λc u e hm=>by rw[(hf c hm).1]at e;cases e
  have upH:∀c o u,H c=some u->s.heap.get? c=some o->g.get? c=some o:=λc o u e z=>by
   have:=fpn c u e
   simp only[bG0,bH0,bL4,not_or]at this;exact up c o this.1 this.2.2.1 this.2.2.2.1 this.2.2.2.2 z
  have ns:∀m,s.heap.Ns X.env.locals m->g.Ns X.env.locals m:=λm hm=>by
   obtain⟨o,es,ep,e1,e2⟩:=hm
   exact⟨o,es,ep,up _ o (Ne.symm (hf z (by simp)).2.1) (Ne.symm (hf TO (by simp)).2.1) (Ne.symm (hf i1 (by simp)).2.1) (Ne.symm (hf i2 (by simp)).2.1) e1,e2⟩
  have I2:a7 X ah σ (upd H s.heap.objs.size (.tup [x,y])) { s with heap:=g,toks:=tk }:=by
   refine I.step (g':=s.gens) (d':=s.drawn) (ch:=[z,TO,i1,i2]) (λc hc'=>?_) (λc o _ _ hc' e _=>?_) (λc o _ _ hc' e _=>⟨o.slots,?_⟩) (λc o _ e n=>?_) (λc o hc' e=>⟨o,?_⟩)
    (λc zs e=>by rw[aL (dG e hT)];exact e) (λc u zs e=>by rw[aL (dG e hT)];exact e) (λc ps e=>⟨#[],by rw[aL (dG e hT),e];simp⟩) ns (λc u e=>?_) I.bare
   ·have hm:c∈[z,TI,TO,i1,i2]:=by
     simp only[bG0,bH0,bL4]at hc' ⊢;rcases hc' with h|h|h|h<;>simp[h]
    exact⟨(hf c hm).2.2.2.1,(hf c hm).2.1,(hf c hm).2.2.2.2.1,(hf c hm).2.2.2.2.2⟩
   ·simp only[bG0,bH0,bL4,not_or]at hc'
    exact up c o hc'.1 hc'.2.1 hc'.2.2.1 hc'.2.2.2 e
   ·simp only[bG0,bH0,bL4,not_or]at hc'
    exact up c o hc'.1 hc'.2.1 hc'.2.2.1 hc'.2.2.2 e
   ·rw[aL (bI3 (bG6 e))];exact n
   ·simp only[bG0,bH0,bL4,not_or]at hc'
    exact up c o hc'.1 hc'.2.1 hc'.2.2.1 hc'.2.2.2 e
   ·by_cases hcT:c=s.heap.objs.size
    ·subst hcT
     rw[b6]at e;cases e
     exact⟨by show 2<=sizeLine;decide,[p,q],.cons rux (.cons rvy .nil),⟨_,prG,rfl,_,rfl⟩,λu e=>by rw[prG]at e;cases e;rfl⟩
    ·rw[aL hcT]at e
     refine (I.hok c u e).stay (λc' o' hc2 q'=>?_) (λc' q'=>by rw[aL (dG q' hT)];exact q') λc' zs q'=>by rw[aL (dG q' hT)];exact q'
     rcases hc2 with rfl|hc2
     ·exact upH _ _ _ e q'
     ·exact upH _ _ _ hc2 q'
  obtain⟨x',y',to'⟩:=st'.to_
  refine⟨.ref s.heap.objs.size,_,I2,rfl,⟨_,x,y,hT,rfl,rfl,λxs' ys' ha' hb'=>?_⟩,⟨zz,sb.extBut _ _ n1.symm st'.ti,⟨x',y',sb.extBut _ _ n2.symm to'⟩,st'.s1.1.at λo e=>sb.extBut _ o n3.symm e,st'.s2.1.at λo e=>sb.extBut _ o n4.symm e⟩,λc hc'=>?_⟩
  ·rw[Sq.inj I ha' ha,Sq.inj I hb' hb];exact⟨hx,hy⟩
  ·obtain⟨o,e,_⟩:∃o,s.heap.get? c=some o/\True:=by
    simp only[bG0,bH0,bL4]at hc'
    obtain⟨x2,y2,to2⟩:=st.to_
    obtain⟨o1,f1,_⟩:=st.s1.ob
    obtain⟨o2,f2,_⟩:=st.s2.ob
    rcases hc' with rfl|rfl|rfl|rfl|rfl
    ·exact⟨_,st.zz,trivial⟩
    ·exact⟨_,st.ti,trivial⟩
    ·exact⟨_,to2,trivial⟩
    ·exact⟨_,f1,trivial⟩
    ·exact⟨_,f2,trivial⟩
   rw[aL (bI3 (bG6 e))];exact (hf c hc').1
 ·
  intro X hP hw hK hc i ah s σ H E I hf st hg;subst hP hw hK
  obtain⟨xs,ys,ha,hb,hi⟩:=hg
  obtain⟨us,ru,pu⟩:=Sq.get I ha
  obtain⟨vs,rv,pv'⟩:=Sq.get I hb
  have fa:=off I hf ha;have fb:=off I hf hb;have hh:X.A.in1.handled=none:=I.ok.hd hc;have fa':a≠i1:=λq=>fa (by rw[q];simp)
  have fb':b≠i2:=λq=>fb (by rw[q];simp)
  have D1:=iE.draws t1 (prog:=X.prog) (w:=X.w) hh i1 a fa' us.toArray;have D2:=iE.draws t2 (prog:=X.prog) (w:=X.w) hh i2 b fb' vs.toArray;have e1:=ru.length;have e2:=rv.length;refine Zp.fin D1 D2 (ap fa fb) (by simp only[bF2];omega) ⟨st.zz,st.ti,st.to_,⟨st.s1,pu⟩,⟨st.s2,pv'⟩⟩ λg tk kp=>⟨rfl,?_⟩
  have fpn:∀c u,H c=some u->c∉[z,TI,TO,i1,i2]:=λc u e hm=>by rw[(hf c hm).1]at e;cases e
  have upH:∀c o u,H c=some u->s.heap.get? c=some o->g.get? c=some o:=λc o u e z=>by
   have:=fpn c u e
   simp only[bG0,bH0,bL4,not_or]at this;exact kp c o this.1 this.2.2.1 this.2.2.2.1 this.2.2.2.2 z
  have ns:∀m,s.heap.Ns X.env.locals m->g.Ns X.env.locals m:=λm hm=>by
   obtain⟨o,es,ep,e1,e2⟩:=hm
   exact⟨o,es,ep,kp _ o (Ne.symm (hf z (by simp)).2.1) (Ne.symm (hf TO (by simp)).2.1) (Ne.symm (hf i1 (by simp)).2.1) (Ne.symm (hf i2 (by simp)).2.1) e1,e2⟩
  refine I.step (g':=s.gens) (d':=s.drawn) (ch:=[z,TO,i1,i2]) (λc hc'=>?_) (λc o _ _ hc' e _=>?_) (λc o _ _ hc' e _=>⟨o.slots,?_⟩) (λc o _ e n=>n) (λc o hc' e=>⟨o,?_⟩)
   (λc zs e=>e) (λc u zs e=>e) (λc ps e=>⟨#[],by rw[e];simp⟩) ns (λc u e=>?_) I.bare
  ·have hm:c∈[z,TI,TO,i1,i2]:=by
    simp only[bG0,bH0,bL4]at hc' ⊢;rcases hc' with h|h|h|h<;>simp[h]
   exact⟨(hf c hm).2.2.2.1,(hf c hm).2.1,(hf c hm).2.2.2.2.1,(hf c hm).2.2.2.2.2⟩
  ·simp only[bG0,bH0,bL4,not_or]at hc'
   exact kp c o hc'.1 hc'.2.1 hc'.2.2.1 hc'.2.2.2 e
  ·simp only[bG0,bH0,bL4,not_or]at hc'
   exact kp c o hc'.1 hc'.2.1 hc'.2.2.1 hc'.2.2.2 e
  ·simp only[bG0,bH0,bL4,not_or]at hc'
   exact kp c o hc'.1 hc'.2.1 hc'.2.2.1 hc'.2.2.2 e
  ·refine (I.hok c u e).stay (λc' o' hc2 q'=>?_) (λ_ q'=>q') λ_ _ q'=>q'
   rcases hc2 with rfl|hc2
   ·exact upH _ _ _ e q'
   ·exact upH _ _ _ hc2 q'
abbrev aO1:=zG true true
theorem aO2 {P:ay}{w:ba}{K:ae}{elts:List Expr}{k:Nat}{pos:Pos}(a b z TI TO i1 i2:ax)(d:[z,TI,TO,i1,i2].Nodup) :
  kR P w K (.Tuple elts k pos) (zF K a b) [z,TI,TO,i1,i2] z (aO1 z TI TO i1 i2 a b):=Z6 true true a b z TI TO i1 i2 d
section
variable {X:Cx}
def aO3 (K:ae)(ta:TA):TI:=λσ H R=>ta σ H λvs H1=>∃a b xs ys,vs = [.ref a,.ref b]/\aP K H1 a xs/\aP K H1 b ys/\R (zF K a b) H1
theorem aO4 {elts:List Expr}{kt:Nat}{pt:Pos}{a b:Expr}{ta:TA}{p pos:Pos}(hg:Gl X "zip")(hm:X.mg "zip" = none)(ha:PA X [a,b] ta)(hs:starEach [a,b] X.env = [(false,eval a X.env),(false,eval b X.env)]:=by rfl)(hs2:starEach [b] X.env = [(false,eval b X.env)]:=by rfl) :
  PI X (.Tuple elts kt pt) (.Call (.Name "zip" p) [a,b] [] pos) (aO3 X.K ta):=by
 intro ah s σ H R I h;refine Call_ (kQ I hg hm PyProof.Rows.boot_zip (bM3 (aN (ha pos ah s σ H _ I h) λus s1 ⟨vs,H1,I1,r1,q1⟩=>?_) (by rw[hs,hs2]) (by rw[hs2];rfl)))
 obtain⟨a',b',xs,ys,e,h1,h2,q⟩:=q1
 subst e;cases r1 with
 |cons r rr=>
  cases rr with
  |cons r' rr=>
   cases rr;cases r;cases r'
   obtain⟨us,_,p1,_⟩:=I1.tuple h1
   obtain⟨ws,_,p2,_⟩:=I1.tuple h2
   refine Zp.aN9 p1 p2 λh' z ti to s1' s2' kp=>wpAny_pyIter_zip z ?_
   have fresh:∀k,H1 (s1.heap.objs.size+k)=none:=λk=>I1.hok.fresh (bM1 _ _)
   refine⟨s1.heap.objs.size+4,[s1.heap.objs.size+4,s1.heap.objs.size+2,s1.heap.objs.size+3,s1.heap.objs.size,s1.heap.objs.size+1],_,_,H1,rfl,I1.kept (t':=s1.toks) kp,
    aO2 a' b' _ _ _ _ _ (by simp),⟨z,ti,⟨_,_,to⟩,s1',s2'⟩,λc hc=>?_,q⟩
   simp only[bG0,bH0,bL4]at hc;rcases hc with rfl|rfl|rfl|rfl|rfl
   ·exact I1.fpOk (bM1 _ _) (fresh 4)
   ·exact I1.fpOk (bM1 _ _) (fresh 2)
   ·exact I1.fpOk (bM1 _ _) (fresh 3)
   ·exact I1.fpOk (bF7 _) (fresh 0)
   ·exact I1.fpOk (bM1 _ _) (fresh 1)
theorem zH (hc:X.calm=true):cG X (.builtin "all") (λxs H Q=>∃(a:ax) (bs:List Bool),xs = [.ref a]/\aU X.K H a (bs.map V.bl)/\Q (.bl (bs.all id)) H):=by
 intro ah s σ H xs us Q I r h
 obtain⟨a,bs,rfl,hq,q⟩:=h
 obtain⟨u,rfl,ru⟩:=gI r
 cases ru
 obtain⟨its,rv,p,hz⟩:=I.list hq
 have hl:=rv.length;rw[bF1]at hl;have hlt:a<s.heap.objs.size:=by obtain⟨o,e,_⟩:=p.isList;exact bG6 e
 refine call_all_walk (wpAny_pyIter_list p.isList ?_);have hh:X.A.in1.handled=none:=I.ok.hd hc;refine⟨s.heap.objs.size,_,_,_,_,_,λi=>bs.getD i false,rfl,Walks.list hh s.heap.objs.size a (bI3 hlt) its.toArray,⟨⟨_,bG1 _ rfl,rfl,rfl⟩,p.isList.push _⟩,?_,λh' tk kp=>?_⟩
 ·intro i v s' Q' E' hP hQ'
  have hi:its[i]? = some v:=by simpa using hP
  have hil:i<bs.length:=by rw[hl];exact (bF6.mp hi).1
  obtain⟨u,e1,e2⟩:=rv.get (i:=i) (x:=.bl bs[i]) (by simp[hil])
  rw[hi]at e1;cases e1;cases e2
  have:bs.getD i false=bs[i]:=by rw[bI0,bF3 hil];rfl
  have hQ2:Q' (bs.getD i false) s':=hQ';rw[this]at hQ2;exact bS2 hQ2
 ·have all_eq:(List.range its.toArray.size).all (λi=>bs.getD i false)=bs.all id:=by
   rw[bF2,<- hl];clear q rv hz hl hq hlt p hh kp
   induction bs with
   |nil=>rfl
   |cons b r ih=>
    rw[bH8,List.range_succ_eq_map,bP8,List.all_map,bP8,<- ih];rfl
  rw[all_eq];refine⟨.bl (bs.all id),H,I.kept (t':=tk) (h':=h') λb o e=>kp b o (λz=>?_) (bF0 _ e),rfl,q⟩;rw[bF8.mp z]at e;exact absurd (bG6 e) (bJ5 _)
end
structure zI (H:Hp)(J:It)(n:Nat)(R:Nat->V->Hp->Prop):Prop where
 go:∀i H',aD H H'->i<n->J.go i H'
 yld:∀i H' x H2,aD H H'->J.yld i H' x H2->i<n->aD H' H2/\R i x H2
 stop:∀H',aD H H'->J.stop n H'
theorem zJ {H1:Hp}{J:It}{n:Nat}{R:Nat->V->Hp->Prop}{g:TG}{tc:TT}{te:TE}{σ0:St}{Q:VK}(O:zI H1 J n R)(Pv:Nat->List V->Hp->Prop)(hn:n<=sizeLine)(h0:∀D,H1 D=none->Pv 0 [] (upd H1 D (.lst [])))(mono:∀i acc H' H2,aD H' H2->Pv i acc H'->Pv i acc H2)(hs:∀i x acc D H',i<n->R i x H'->tW H1 D n i acc H'->Pv i acc H'->g x σ0 H' λσ2 H3=>Wk σ0 σ2/\tc σ2 H3 λb H4=>
   if b=true then te σ2 H4 λv H5=>yV H1 D n Pv i acc v H5 else X8 H1 D n Pv i acc H4)(hd:∀D acc H',H1 D=none->aD H1 H'->H' D=some (.lst acc)->acc.length<=n->Pv n acc H'->Q (.ref D) H') :
  ∀D,H1 D=none->∃W:Nat->Nat->List V->Hp->Prop,(∃m,W 0 m [] (upd H1 D (.lst [])))/\qQ g tc te σ0 J D Q W:=by
 intro D hD;refine⟨CW H1 D n Pv,⟨n,rfl,bI2 _,bF7 _,bL hD _,b6,h0 D hD⟩,?_⟩;rintro i m acc H' ⟨rfl,hi,ha,sm,hDa,p⟩;refine⟨hDa,?_⟩;by_cases hlt:i<n
 ·refine .inr ⟨O.go i H' sm hlt,λx H2 y=>?_⟩
  obtain⟨s2,r2⟩:=O.yld i H' x H2 sm y hlt
  exact hs i x acc D H2 hlt r2 ⟨hlt,ha,hn,sm.trans s2,hD,s2 _ _ hDa⟩ (mono i acc H' H2 s2 p)
 ·have e:i=n:=by omega
  subst e;exact .inl ⟨O.stop H' sm,hd D acc H' hD sm hDa ha p⟩
theorem Z7 {K:ae}{H:Hp}{a b:ax}{xs ys:List V}(ha:aP K H a xs)(hb:aP K H b ys)(hl:ys.length<=xs.length) :
  zI H (zF K a b) ys.length (λi v H2=>∃T x y,v = .ref T/\H2 T=some (.tup [x,y])/\xs[i]? = some x/\ys[i]? = some y):=by
 refine⟨λi H' sm hi=>⟨xs,ys,xs[i]'(by omega),ys[i],sm.tup ha,sm.tup hb,by simp,by simp⟩,λi H' v H2 sm y hi=>?_,λH' sm=>⟨xs,ys,sm.tup ha,sm.tup hb,by omega⟩⟩
 obtain⟨T,x,y',hT,hv,e,hxy⟩:=y
 subst e
 obtain⟨h1,h2⟩:=hxy xs ys (sm.tup ha) (sm.tup hb)
 exact⟨bL hT _,T,x,y',hv,b6,h1,h2⟩
end L2
namespace HT
open PySem PyProof.Rows
section
variable {prog:ay}{w:ba}{A:az}{E:av→aw→Prop}{s:aw}
theorem aO5 {t sl:ax}{items:Array av}{vl vu:av}{lo hi:Option Int}{Q:av->aw->Prop}(ht:IsTup s.heap t items)(hs:s.heap.IsSliceOf sl vl vu .none)(pl:IsPart vl lo)(pu:IsPart vu hi)(h1:b9 items.size 0 lo=0)(h2:b9 items.size items.size hi=items.size)(h:Q (.ref t) s):wpAny (model prog w) A (getItem (.ref t) (.ref sl)) Q E s:=by
 obtain⟨o,e1,e2,e3⟩:=id hs
 have T:s.TypeIs (.ref sl) "slice":=⟨o,e1,e2⟩;unfold getItem
 try with_reducible refine bP7 ?_
 first|refine bE9 (bF5 ?_)|skip
 apply bE9;apply wpAny_sequenceKey ht.typeIs (by decide);apply bE9;apply bN8 (name:=Str.ofString "__getitem__") ht.typeIs bQ4;apply bL9 bQ4 ht.typeIs entry_tuple_getitem _ (args_tuple_getitem _ _)
 change wpAny _ _ (Builtin.Tuple.tupleItemsOf (.ref t) >>= _) _ _ s
 apply bE9;apply tupleItemsOf_ ht;apply bE9;apply wpAny_typeOf T;rw[if_pos (by decide)];apply bE9;apply T9 hs pl pu;rw[h1,h2];have yes:((((0:Nat):Int)==0&&(1:Int)==1&&(items.size-0)==items.size)=true):=by simp
 change wpAny _ _ (if ((((0:Nat):Int)==0&&(1:Int)==1&&(items.size-0)==items.size)=true) then _ else _) _ _ s
 rw[if_pos yes];apply bE9;unfold Builtin.Tuple.tupleIsExact;apply bE9;apply wpAny_typeOf ht.typeIs;apply bF5
 change wpAny _ _ (rule "tuple.getitem.whole" >>= λ_=>ret (Value.ref t)) _ _ s
 apply bE9;apply wpAny_rule;exact bF5 ⟨_,rfl,bF5 h⟩
end
end HT
namespace L2
open PySem PySem.Spec PyProof.Rows
section
variable {X:Cx}
def aO6 (K:ae):V->Option Int->Option Int->Hp->VK->Prop:=λx lo hi H Q=>∃a xs,x = .ref a/\aP K H a xs/\(∀p,H p=none->Q (.ref p) (upd H p (.tup (fN xs lo hi))))/\(fN xs lo hi=xs->Q (.ref a) H)
theorem Z8:m7 X (aO6 X.K):=by
 intro ah s σ H x v vl vu lo hi sl Q I rx hs pl pu h
 obtain⟨a,xs,ex,hx,q1,q2⟩:=h
 by_cases hw:HT.b9 xs.length 0 lo=0/\HT.b9 xs.length xs.length hi=xs.length
 ·subst ex
  cases rx
  obtain⟨its,r,ht,hz⟩:=I.tuple hx
  have am:its.toArray.size=xs.length:=by rw[bF2];exact r.length.symm
  refine⟨"tuple",_,PyProof.Rows.slot_tuple_getitem.lookup,ht.typeIs,?_⟩;refine HT.aO5 ht hs pl pu (by rw[am];exact hw.1) (by rw[am];exact hw.2) ⟨.ref a,H,I,rfl,q2 ?_⟩;unfold fN;rw[hw.1,hw.2];simp
 ·exact aH7 ah s σ H x v vl vu lo hi sl Q I rx hs pl pu ⟨a,xs,ex,hx,hw,q1⟩
end
theorem zK (xs:List V):fN xs (some 1) none=xs.drop 1:=by
 unfold fN;have e1:HT.b9 xs.length 0 (some 1)=min 1 xs.length:=HT.T6 xs.length 0 1;have e2:HT.b9 xs.length xs.length none=xs.length:=rfl;rw[e1,e2];cases xs with
 |nil=>rfl
 |cons x r=>
  have:min 1 (x::r).length=1:=by simp
  rw[this];simp
def zL (K:ae)(a b:ax):It:=
  ⟨λi H=>∃xs ys x y,aU K H a xs/\aU K H b ys/\xs[i]? = some x/\ys[i]? = some y,
   λi H v H'=>∃T x y,H T=none/\v = .ref T/\H'=upd H T (.tup [x,y])/\∀xs ys,aU K H a xs->aU K H b ys->xs[i]? = some x/\ys[i]? = some y,
   λi H=>∃xs ys,aU K H a xs/\aU K H b ys/\(i=xs.length∨(i<xs.length/\i=ys.length))⟩
abbrev aO7:=zG false false
theorem aO8 {P:ay}{w:ba}{K:ae}{elts:List Expr}{k:Nat}{pos:Pos}(a b z TI TO i1 i2:ax)(d:[z,TI,TO,i1,i2].Nodup) :
  kR P w K (.Tuple elts k pos) (zL K a b) [z,TI,TO,i1,i2] z (aO7 z TI TO i1 i2 a b):=Z6 false false a b z TI TO i1 i2 d
section
variable {X:Cx}
def aO9 (K:ae)(ta:TA):TI:=λσ H R=>ta σ H λvs H1=>∃a b xs ys,vs = [.ref a,.ref b]/\aU K H1 a xs/\aU K H1 b ys/\R (zL K a b) H1
theorem aP0 {elts:List Expr}{kt:Nat}{pt:Pos}{a b:Expr}{ta:TA}{p pos:Pos}(hg:Gl X "zip")(hm:X.mg "zip" = none)(ha:PA X [a,b] ta)(hs:starEach [a,b] X.env = [(false,eval a X.env),(false,eval b X.env)]:=by rfl)(hs2:starEach [b] X.env = [(false,eval b X.env)]:=by rfl) :
  PI X (.Tuple elts kt pt) (.Call (.Name "zip" p) [a,b] [] pos) (aO9 X.K ta):=by
 intro ah s σ H R I h;refine Call_ (kQ I hg hm PyProof.Rows.boot_zip (bM3 (aN (ha pos ah s σ H _ I h) λus s1 ⟨vs,H1,I1,r1,q1⟩=>?_) (by rw[hs,hs2]) (by rw[hs2];rfl)))
 obtain⟨a',b',xs,ys,e,h1,h2,q⟩:=q1
 subst e;cases r1 with
 |cons r rr=>
  cases rr with
  |cons r' rr=>
   cases rr;cases r;cases r'
   obtain⟨us,_,p1,_⟩:=I1.list h1
   obtain⟨ws,_,p2,_⟩:=I1.list h2
   refine call_zip_2 p1.isList p2.isList λh' z ti to s1' s2' _ kp=>wpAny_pyIter_zip z ?_
   have fresh:∀k,H1 (s1.heap.objs.size+k)=none:=λk=>I1.hok.fresh (bM1 _ _)
   refine⟨s1.heap.objs.size+4,[s1.heap.objs.size+4,s1.heap.objs.size+2,s1.heap.objs.size+3,s1.heap.objs.size,s1.heap.objs.size+1],_,_,H1,rfl,I1.kept (t':=s1.toks) kp,
    aO8 a' b' _ _ _ _ _ (by simp),⟨z,ti,⟨_,_,to⟩,s1',s2'⟩,λc hc=>?_,q⟩
   simp only[bG0,bH0,bL4]at hc;rcases hc with rfl|rfl|rfl|rfl|rfl
   ·exact I1.fpOk (bM1 _ _) (fresh 4)
   ·exact I1.fpOk (bM1 _ _) (fresh 2)
   ·exact I1.fpOk (bM1 _ _) (fresh 3)
   ·exact I1.fpOk (bF7 _) (fresh 0)
   ·exact I1.fpOk (bM1 _ _) (fresh 1)
end
theorem aP1 {K:ae}{H:Hp}{a b:ax}{xs ys:List V}(ha:aU K H a xs)(hb:aU K H b ys)(hl:ys.length<=xs.length) :
  zI H (zL K a b) ys.length (λi v H2=>∃T x y,v = .ref T/\H2 T=some (.tup [x,y])/\xs[i]? = some x/\ys[i]? = some y):=by
 refine⟨λi H' sm hi=>⟨xs,ys,xs[i]'(by omega),ys[i],sm.seq ha,sm.seq hb,by simp,by simp⟩,λi H' v H2 sm y hi=>?_,λH' sm=>⟨xs,ys,sm.seq ha,sm.seq hb,by omega⟩⟩
 obtain⟨T,x,y',hT,hv,e,hxy⟩:=y
 subst e
 obtain⟨h1,h2⟩:=hxy xs ys (sm.seq ha) (sm.seq hb)
 exact⟨bL hT _,T,x,y',hv,b6,h1,h2⟩
section
variable {X:Cx}{ah:List (ax×Obj)}{σ:St}{H:Hp}{s:aw}{a b:ax}{A:az}{E:av→aw→Prop}
theorem aP2 {kvs more:List (aF×V)}{Q:av->aw->Prop}(I:a7 X ah σ H s)(ea:H a=some (.dK kvs))(eb:H b=some (.dK more))(hne:a≠b)(hl:kvs.length+more.length<=sizeLine)(h:∀s',a7 X ah σ (upd H a (.dK (nN kvs more))) s'->Q .none s'):wpAny (model X.prog X.w) A (call (.builtin "dict.update") [.ref a,.ref b]) Q E s:=by
 obtain⟨z,hd,vs,rel,dd⟩:=yH I.hok ea
 obtain⟨z2,hd2,rs,rel2,dd2⟩:=yH I.hok eb
 have l1:=rel.length;have l2:=rel2.length;refine call_meetsIn PySem.F.slot_dict_update dd.typeIs PySem.F.entry_dict_update (PySem.F.args_dict_update_2 _ _) (meets_dict_update (dF X.prog X.w) a b hne hd2) ⟨vs,rs,dd,dd2,by omega,λh' dd' _ hs=>h _ ?_⟩;have he:∃q,h'.get? a=some q:=let ⟨q,_,_,hq,_⟩:=dd';⟨q,hq⟩
 refine yI I (by rw[ea];exact bT1) hs he (V7 ?_ hd (rel2.merge rel) dd')
 have:=W9 more kvs
 omega
end
def Z9 (td ty:TE):TE:=λσ H Q=>td σ H λx H1=>∃a,x = .ref a/\yL H1 a/\ty σ H1 λy H2=>∃(b:ax) (kvs more:List (aF×V)),y = .ref b/\a≠b/\H2 a=some (.dK kvs)/\H2 b=some (.dK more)/\kvs.length+more.length<=sizeLine/\Q .non (upd H2 a (.dK (nN kvs more)))
section
variable {X:Cx}{o e:Expr}{ai aj:Pos}{td ty:TE}
theorem aP3 (ho:PE X o td)(he:PE X e ty)(m:M1 X o "update" ai e aj):PE X (.Call (.Attribute o "update" ai) [e] [] aj) (Z9 td ty):=by
 intro ah s σ H Q I h;refine wpAny_Call_method m.base m.few m.line PySem.F.plainAttrs_dict PySem.F.slot_dict_update PySem.F.type_dict_update (aN (ho ah s σ H _ I h) λu s1 ⟨x,H1,I1,rx,a,ex,d,q1⟩=>?_);subst ex;obtain rfl:u=Value.ref a:=rx
 obtain⟨t1,t2,_⟩:=X0 I1 d
 refine⟨t1,t2,?_⟩;rw[m.trees];refine bQ1 rfl (bR9 (Calls.spliced_cons (aN (he ah s1 σ H1 _ I1 q1) λiv s2 ⟨y,H2,I2,ry,b,kvs,more,ey,ne,ea,eb,l,q2⟩=>Calls.spliced_nil ?_)));subst ey;obtain rfl:iv=Value.ref b:=ry;exact aP2 I2 ea eb ne l λs3 I3=>⟨.non,_,I3,rfl,q2⟩
end
theorem aP4 (l:ax)(items:Array av)(n:Nat)(b:ax)(items2:Array av)(n2:Nat)(dd:Option ax)(ss:Array (Option av))(h0:¬(!items.isEmpty&&Builtin.List.listTooLong (items.size+items2.size))=true)(h1:items.size<=sizeLine)(h2:items.size+items2.size<=sizeLine+1) :
  Meets (Builtin.«list.extend» ⟨[.ref l,.ref b],[]⟩) (λ_ R s=>s.heap.get? l=some { cls:=.type "list",dict:=none,data:=.seq items n,slots:=#[] }/\s.heap.get? b=some { cls:=.type "tuple",dict:=dd,data:=.seq items2 n2,slots:=ss }/\R (.ok (.ret Value.none)) { s with heap:=s.heap.update l (Obj.mapSeq λx=>x++items2),toks:=s.toks }):=
 .of_wp λprog w A R s h=>by
  obtain⟨hp,g,d,tk,os⟩:=s;obtain⟨hl,hb,h⟩:=h;have f2:=AutoSeq1.sub_tuple_tuple;have f3:=AutoSeq1.sub_list_list;have f4:=AutoSeq1.sub_tuple_list;have f5:=AutoSeq1.sub_list_tuple
  have hz':(items++items2).size<=sizeLine+1:=by rw[Array.size_append];exact h2
  wp_walk using (wpAny_updateSeq hl rfl (hz:=h1) (_hz':=hz')),AutoSeq1.wpAny_loadPart' hl,AutoSeq1.wpAny_loadPart' hb
  exact⟨_,rfl,h⟩
def aa0 (K:ae):V->List V->Hp->VK->Prop:=λx vs H Q=>∃(l b:ax) (xs zs:List V),x = .ref l/\vs = [.ref b]/\H l=some (.lst xs)/\aP K H b zs/\xs.length+zs.length<=sizeLine/\Q .non (upd H l (.lst (xs++zs)))
theorem aP5 {X:Cx}:qM X "list.extend" (aa0 X.K):=by
 intro ah s σ H x vs v us Q I rx rv h
 obtain⟨l,b,xs,zs,rfl,rfl,hH,hB,hz,q⟩:=h
 cases rx
 obtain⟨u,rfl,ru⟩:=rv.one
 cases ru
 obtain⟨z,its,n,r,hl,e⟩:=I.lstM hH
 obtain⟨aq,r2,⟨⟨cls,dd,data,ss⟩,e2,hc,n2,hd⟩,z2⟩:=I.tuple hB
 cases hc;cases hd;have hl2:=r2.length;have hsz:its.toArray.size+aq.toArray.size<=sizeLine:=by rw[bF2,bF2];omega
 have hlong:¬(!its.toArray.isEmpty&&Builtin.List.listTooLong (its.toArray.size+aq.toArray.size))=true:=by
  rw[V0 hsz,bT3];exact bH5
 refine call_meets F.slot_list_extend ⟨_,e,rfl⟩ F.entry_list_extend (F.args_list_extend_2 _ _)
  (aP4 l its.toArray n b aq.toArray n2 dd ss hlong (by rw[bF2];omega) (by omega)) ⟨e,e2,?_⟩
 refine⟨.non,_,I.lset (its':=its++aq) hH e (by simp) (r.append r2) ?_,rfl,q⟩;rw[bF4];omega
end L2
namespace PP
open PySem L2
inductive PV where
 |non|bl (b:Bool)|int (i:Int)|str (x:Str)|tup (xs:List PV)|lst (xs:List PV)
 |dK (kvs:List (aF×PV))|dT (kvs:List (List aF×PV))|scr (ns:ag)|kt (xs:List PV)|exc (c:Str)|fK (kvs:List (aF×PV))|fT (kvs:List (List aF×PV))|fL (xs:List PV)|fn (x:Str)|ob (a:ax)
mutual
def flat:PV->Bool
 |.tup xs=>flats xs
 |.lst _=>false
 |.dK _=>false
 |.dT _=>false
 |.non=>true
 |.bl _=>true
 |.int _=>true
 |.str _=>true
 |.scr _=>true
 |.kt xs=>flats xs
 |.exc _=>true
 |.fK _=>false
 |.fT _=>false
 |.fL xs=>flats xs
 |.fn _=>true
 |.ob _=>true
def flats:List PV->Bool
 |[]=>true
 |x::r=>flat x&&flats r
end
def l0 (K:ae)(H:Hp)(a:ax)(ns:ag):Prop:=(∃o,H a=some (.frz o (.lst (ns.map V.int)))) ∨
  ∃(o:Obj) (its:Array av) (n:Nat),K.lookup a=some o/\o.cls = .type "list"/\o.dict=none/\o.data = .seq its n/\its.size<=sizeLine/\aW (ns.map V.int) its.toList
def lA (K:ae)(a:ax)(us:List V):Prop:=∃(o:Obj) (its:Array av) (n:Nat),K.lookup a=some o/\o.cls = .type "tuple"/\o.data = .seq its n/\its.size<=sizeLine/\aW us its.toList
mutual
inductive aI (K:ae)(M:ax->Prop)(H:Hp):V->PV->Prop
 |non:aI K M H .non .non
 |bl (b:Bool):aI K M H (.bl b) (.bl b)
 |int (i:Int):aI K M H (.int i) (.int i)
 |str (x:Str):aI K M H (.str x) (.str x)
 |tup {a:ax}{us:List V}{xs:List PV}:H a=some (.tup us)->Reps K M H us xs->aI K M H (.ref a) (.tup xs)
 |lst {a:ax}{us:List V}{xs:List PV}:M a->H a=some (.lst us)->Reps K M H us xs->aI K M H (.ref a) (.lst xs)
 |dK {a:ax}{kvs:List (aF×V)}{ps:List (aF×PV)}:M a->H a=some (.dK kvs)->kvs.map (·.1)=ps.map (·.1)->Reps K M H (kvs.map (·.2)) (ps.map (·.2))->aI K M H (.ref a) (.dK ps)
 |dT {a:ax}{kvs:List (List aF×V)}{ps:List (List aF×PV)}:M a->H a=some (.dT kvs)->kvs.map (·.1)=ps.map (·.1)->Reps K M H (kvs.map (·.2)) (ps.map (·.2))->aI K M H (.ref a) (.dT ps)
 |scr {a:ax}{ns:ag}:l0 K H a ns->aI K M H (.ref a) (.scr ns)
 |kt {a:ax}{us:List V}{xs:List PV}:lA K a us->Reps K M H us xs->aI K M H (.ref a) (.kt xs)
 |exc {a C:ax}{o:Obj}{c:Str}:H a=some (.frz o (.own a))->PySem.W.nsIn K mainGlobals c=some (some (.ref C))->o.cls = .ref C->aI K M H (.ref a) (.exc c)
 |fK {a:ax}{o:Obj}{kvs:List (aF×V)}{ps:List (aF×PV)}:H a=some (.frz o (.dK kvs))->kvs.map (·.1)=ps.map (·.1)->Reps K M H (kvs.map (·.2)) (ps.map (·.2))->aI K M H (.ref a) (.fK ps)
 |fT {a:ax}{o:Obj}{kvs:List (List aF×V)}{ps:List (List aF×PV)}:H a=some (.frz o (.dT kvs))->kvs.map (·.1)=ps.map (·.1)->Reps K M H (kvs.map (·.2)) (ps.map (·.2))->aI K M H (.ref a) (.fT ps)
 |fL {a:ax}{o:Obj}{us:List V}{xs:List PV}:H a=some (.frz o (.lst us))->Reps K M H us xs->aI K M H (.ref a) (.fL xs)
 |fn {f:ax}{x:Str}:PySem.W.nsIn K mainGlobals x=some (some (.ref f))->aI K M H (.ref f) (.fn x)
 |ob {a:ax}:aI K M H (.ref a) (.ob a)
inductive Reps (K:ae)(M:ax->Prop)(H:Hp):List V->List PV->Prop
 |nil:Reps K M H [] []
 |cons {v:V}{x:PV}{vs:List V}{xs:List PV}:aI K M H v x->Reps K M H vs xs->Reps K M H (v::vs) (x::xs)
end
def zM:HO->Bool
 |.frz _ _=>true
 |_=>false
def oN:HO->Bool
 |.frz _ u=>zM u
 |.ins _ _ _=>true
 |.ext _=>true
 |_=>false
structure eW (M M':ax->Prop)(H H':Hp):Prop where
 lst:∀a us,M a->H a=some (.lst us)->M' a/\H' a=some (.lst us)
 dK:∀a kvs,M a->H a=some (.dK kvs)->M' a/\H' a=some (.dK kvs)
 dT:∀a kvs,M a->H a=some (.dT kvs)->M' a/\H' a=some (.dT kvs)
 tup:∀a us,H a=some (.tup us)->H' a=some (.tup us)
 frz:∀a o u,H a=some (.frz o u)->zM u=false->H' a=some (.frz o u)
theorem l0.keep {K:ae}{H H':Hp}{a:ax}{ns:ag}(k:∀a o u,H a=some (.frz o u)->zM u=false->H' a=some (.frz o u))(h:l0 K H a ns):l0 K H' a ns:=
 h.elim (λ⟨o,e⟩=>.inl ⟨o,k _ _ _ e rfl⟩) .inr
mutual
theorem aI.keep {K:ae}{M M':ax->Prop}{H H':Hp}(k:eW M M' H H'):∀{v:V}{x:PV},aI K M H v x->aI K M' H' v x
 |_,_,.non=>.non
 |_,_,.bl b=>.bl b
 |_,_,.int i=>.int i
 |_,_,.str x=>.str x
 |_,_,.tup h r=>.tup (k.tup _ _ h) (Reps.keep k r)
 |_,_,.lst m h r=>.lst (k.lst _ _ m h).1 (k.lst _ _ m h).2 (Reps.keep k r)
 |_,_,.dK m h e r=>.dK (k.dK _ _ m h).1 (k.dK _ _ m h).2 e (Reps.keep k r)
 |_,_,.dT m h e r=>.dT (k.dT _ _ m h).1 (k.dT _ _ m h).2 e (Reps.keep k r)
 |_,_,.scr h=>.scr (h.keep k.frz)
 |_,_,.kt h r=>.kt h (Reps.keep k r)
 |_,_,.exc h e c=>.exc (k.frz _ _ _ h rfl) e c
 |_,_,.fK h e r=>.fK (k.frz _ _ _ h rfl) e (Reps.keep k r)
 |_,_,.fT h e r=>.fT (k.frz _ _ _ h rfl) e (Reps.keep k r)
 |_,_,.fL h r=>.fL (k.frz _ _ _ h rfl) (Reps.keep k r)
 |_,_,.fn h=>.fn h
 |_,_,.ob=>.ob
theorem Reps.keep {K:ae}{M M':ax->Prop}{H H':Hp}(k:eW M M' H H'):∀{vs:List V}{xs:List PV},Reps K M H vs xs->Reps K M' H' vs xs
 |_,_,.nil=>.nil
 |_,_,.cons r t=>.cons (aI.keep k r) (Reps.keep k t)
end
mutual
theorem aI.flat {K:ae}{M M':ax->Prop}{H:Hp}{v:V}{x:PV}(f:flat x=true)(r:aI K M H v x):aI K M' H v x:=by
 cases r with
 |non=>exact .non
 |bl b=>exact .bl b
 |int i=>exact .int i
 |str x=>exact .str x
 |tup h r=>exact .tup h (Reps.flat (by unfold PP.flat at f;exact f) r)
 |lst m h r=>unfold PP.flat at f;cases f
 |dK m h e r=>unfold PP.flat at f;cases f
 |dT m h e r=>unfold PP.flat at f;cases f
 |scr h=>exact .scr h
 |kt h r=>exact .kt h (Reps.flat (by unfold PP.flat at f;exact f) r)
 |exc h e c=>exact .exc h e c
 |fK h e r=>unfold PP.flat at f;cases f
 |fT h e r=>unfold PP.flat at f;cases f
 |fL h r=>exact .fL h (Reps.flat (by unfold PP.flat at f;exact f) r)
 |fn h=>exact .fn h
 |ob=>exact .ob
theorem Reps.flat {K:ae}{M M':ax->Prop}{H:Hp}{vs:List V}{xs:List PV}(f:flats xs=true)(r:Reps K M H vs xs):Reps K M' H vs xs:=by
 cases r with
 |nil=>exact .nil
 |cons r t=>
  unfold PP.flats at f;rw[bI4]at f;exact .cons (aI.flat f.1 r) (Reps.flat f.2 t)
end
theorem eW.same {M M':ax->Prop}{H H':Hp}(s:aD H H')(m:∀a,M a->M' a):eW M M' H H':=
 ⟨λa _ h e=>⟨m a h,s _ _ e⟩,λa _ h e=>⟨m a h,s _ _ e⟩,λa _ h e=>⟨m a h,s _ _ e⟩,λ_ _ e=>s _ _ e,λ_ _ _ e _=>s _ _ e⟩
theorem aI.same {K:ae}{M M':ax->Prop}{H H':Hp}{v:V}{x:PV}(r:aI K M H v x)(s:aD H H')(m:∀a,M a->M' a):aI K M' H' v x:=r.keep (.same s m)
theorem Reps.same {K:ae}{M M':ax->Prop}{H H':Hp}{v:List V}{x:List PV}(r:Reps K M H v x)(s:aD H H')(m:∀a,M a->M' a):Reps K M' H' v x:=r.keep (.same s m)
def gC:HO->Bool
 |.lst _=>true
 |.dK _=>true
 |.dT _=>true
 |_=>false
theorem eW.upd {M M':ax->Prop}{H:Hp}{a:ax}{o o':HO}(h:H a=some o')(mu:gC o'=true)(m:∀b,M b->b≠a/\M' b):eW M M' H (upd H a o):=
 ⟨λb _ hb e=>⟨(m b hb).2,by rw[aL (m b hb).1];exact e⟩,λb _ hb e=>⟨(m b hb).2,by rw[aL (m b hb).1];exact e⟩,λb _ hb e=>⟨(m b hb).2,by rw[aL (m b hb).1];exact e⟩,
  λb _ e=>by rw[aL (λz=>by rw[z,h]at e;cases e;cases mu)];exact e,
  λb _ _ e _=>by rw[aL (λz=>by rw[z,h]at e;cases e;cases mu)];exact e⟩
theorem Reps.length {K:ae}{M:ax->Prop}{H:Hp}:∀{vs:List V}{xs:List PV},Reps K M H vs xs->vs.length=xs.length
 |_,_,.nil=>rfl
 |_,_,.cons _ t=>congrArg (·+1) t.length
theorem Reps.get {K:ae}{M:ax->Prop}{H:Hp}:∀{vs:List V}{xs:List PV}{i:Nat}{v:V},Reps K M H vs xs->vs[i]? = some v->∃x,xs[i]? = some x/\aI K M H v x
 |_,_,_,_,.nil,e=>by simp at e
 |_,_,0,_,.cons r _,e=>by simp at e;subst e;exact⟨_,rfl,r⟩
 |_,_,i+1,v,.cons _ t,e=>by
  rw[bJ9]at e
  obtain⟨x,h1,h2⟩:=t.get e
  exact⟨x,by rw[bJ9];exact h1,h2⟩
theorem Reps.at {K:ae}{M:ax->Prop}{H:Hp}:∀{vs:List V}{xs:List PV}{i:Nat}{x:PV},Reps K M H vs xs->xs[i]? = some x->∃v,vs[i]? = some v/\aI K M H v x
 |_,_,_,_,.nil,e=>by simp at e
 |_,_,0,_,.cons r _,e=>by simp at e;subst e;exact⟨_,rfl,r⟩
 |_,_,i+1,v,.cons _ t,e=>by
  rw[bJ9]at e
  obtain⟨x,h1,h2⟩:=t.at e
  exact⟨x,by rw[bJ9];exact h1,h2⟩
theorem Reps.append {K:ae}{M:ax->Prop}{H:Hp}:∀{vs:List V}{xs:List PV}{us:List V}{ys:List PV},Reps K M H vs xs->Reps K M H us ys->Reps K M H (vs++us) (xs++ys)
 |_,_,_,_,.nil,s=>s
 |_,_,_,_,.cons r t,s=>.cons r (t.append s)
theorem Reps.take {K:ae}{M:ax->Prop}{H:Hp}:∀(n:Nat) {vs:List V}{xs:List PV},Reps K M H vs xs->Reps K M H (vs.take n) (xs.take n)
 |0,_,_,_=>by simp;exact .nil
 |_+1,_,_,.nil=>.nil
 |n+1,_,_,.cons r t=>.cons r (Reps.take n t)
theorem Reps.drop {K:ae}{M:ax->Prop}{H:Hp}:∀(n:Nat) {vs:List V}{xs:List PV},Reps K M H vs xs->Reps K M H (vs.drop n) (xs.drop n)
 |0,_,_,r=>r
 |_+1,_,_,.nil=>.nil
 |n+1,_,_,.cons _ t=>Reps.drop n t
abbrev intz (ns:ag):List PV:=ns.map PV.int
theorem Reps.intz {K:ae}{M:ax->Prop}{H:Hp}:∀(ns:ag),Reps K M H (ns.map V.int) (intz ns)
 |[]=>.nil
 |n::r=>.cons (.int n) (Reps.intz r)
theorem Reps.ofInts {K:ae}{M:ax->Prop}{H:Hp}:∀{ns:ag}{us:List V},Reps K M H us (PP.intz ns)->us=ns.map V.int
 |[],_,.nil=>rfl
 |n::r,_,.cons q t=>by
  cases q;rw[Reps.ofInts t];rfl
theorem cH:∀(ns:ag),flats (intz ns)=true
 |[]=>rfl
 |n::r=>by show (flat (.int n)&&flats (intz r))=true;rw[cH r];rfl
inductive Tg|rd|sh|nw|fr
inductive Slot|sh (g:Bool) (x:PV)|own (x:PV)|kp (g:Bool) (x:PV) (ks:List (ax×List PV×List PV))
def Slot.val:Slot->PV
 |.sh _ x=>x
 |.own x=>x
 |.kp _ x _=>x
def Slot.tag:Slot->Tg
 |.sh true _=>.nw
 |.sh false _=>.sh
 |.own _=>.rd
 |.kp _ _ _=>.nw
abbrev b8:=List (Option Slot)
def Ms (H0:Hp)(W:ax->Prop):Bool->ax->Prop
 |false,a=>¬W a
 |true,a=>¬W a/\H0 a=none
def Mg (H0:Hp)(W:ax->Prop)(Hs:Hp):Tg->ax->Prop
 |.rd,_=>True
 |.sh,a=>¬W a
 |.nw,a=>¬W a/\H0 a=none
 |.fr,a=>Hs a=none
def jH (K:ae)(M:ax->Prop)(H:Hp)(a:ax):PV->Prop
 |.lst xs=>∃us,H a=some (.lst us)/\Reps K M H us xs
 |.dK ps=>∃kvs,H a=some (.dK kvs)/\kvs.map (·.1)=ps.map (·.1)/\Reps K M H (kvs.map (·.2)) (ps.map (·.2))
 |.dT ps=>∃kvs,H a=some (.dT kvs)/\kvs.map (·.1)=ps.map (·.1)/\Reps K M H (kvs.map (·.2)) (ps.map (·.2))
 |_=>False
def kL (l:ax)(us:List V):HO:=.ext λh=>us.length<=sizeLine/\∃(its:List av) (n:Nat),aW us its/\h.get? l=some { cls:=.type "list",data:=.seq its.toArray n }
def cS (K:ae)(H0 H:Hp)(a:ax)(st un:List PV):Prop:=∃(C dx l1 l2:ax) (us1 us2:List V),PySem.W.nsIn K mainGlobals "Keeper" = some (some (.ref C))/\(H0 a=none/\H0 dx=none/\H0 l1=none/\H0 l2=none)/\l1≠l2/\H dx=some (.own a)/\
 H a=some (.ins C dx [("standing",.ref l1),("undone",.ref l2)])/\H l1=some (kL l1 us1)/\H l2=some (kL l2 us2)/\Reps K (λ_=>False) H us1 st/\Reps K (λ_=>False) H us2 un
theorem cS.keep {K:ae}{H0 H H':Hp}{a:ax}{st un:List PV}(k:eW (λ_=>False) (λ_=>False) H H')(f:∀b o,H b=some o->gC o=false->H' b=some o)(h:cS K H0 H a st un):cS K H0 H' a st un:=by
 obtain⟨C,dx,l1,l2,us1,us2,h1,h2,h3,h4,h5,h6,h7,r1,r2⟩:=h
 exact⟨C,dx,l1,l2,us1,us2,h1,h2,h3,f _ _ h4 rfl,f _ _ h5 rfl,f _ _ h6 rfl,f _ _ h7 rfl,r1.keep k,r2.keep k⟩
def Ap2 (H:Hp)(a b:ax):Prop:=a≠b/\∀C D dx dy l1 l2 m1 m2,H a=some (.ins C dx [("standing",.ref l1),("undone",.ref l2)])->H b=some (.ins D dy [("standing",.ref m1),("undone",.ref m2)])->l1≠m1/\l1≠m2/\l2≠m1/\l2≠m2
def iF (K:ae)(H0 H:Hp)(ks:List (ax×List PV×List PV)):Prop:=(∀k∈ks,cS K H0 H k.1 k.2.1 k.2.2)/\ks.Pairwise λk m=>Ap2 H k.1 m.1
theorem iF.keep {K:ae}{H0 H H':Hp}{ks:List (ax×List PV×List PV)}(k:eW (λ_=>False) (λ_=>False) H H')(f:∀b o,H b=some o->gC o=false->H' b=some o)(h:iF K H0 H ks):iF K H0 H' ks:=by
 refine⟨λx hx=>(h.1 x hx).keep k f,h.2.imp_of_mem λ{x y} hx hy r=>⟨r.1,λC D dx dy l1 l2 m1 m2 e1 e2=>?_⟩⟩
 obtain⟨C',dx',l1',l2',us1,us2,_,_,_,_,h5,_⟩:=h.1 x hx
 obtain⟨D',dy',m1',m2',ws1,ws2,_,_,_,_,g5,_⟩:=h.1 y hy
 have z1:=f _ _ h5 rfl;have z2:=f _ _ g5 rfl;rw[e1]at z1;rw[e2]at z2;cases z1;cases z2;exact r.2 _ _ _ _ _ _ _ _ h5 g5
theorem iF.same {K:ae}{H0 H H':Hp}{ks:List (ax×List PV×List PV)}(s:aD H H')(h:iF K H0 H ks):iF K H0 H' ks:=h.keep (.same s λ_ z=>z) λ_ _ e _=>s _ _ e
theorem iF.upd {K:ae}{H0 H:Hp}{c:ax}{o o':HO}{ks:List (ax×List PV×List PV)}(e:H c=some o')(mu:gC o'=true)(h:iF K H0 H ks):iF K H0 (upd H c o) ks:=
 h.keep (.upd e mu λ_ z=>z.elim) λb u e2 m2=>by rw[aL (λz=>by rw[z,e]at e2;cases e2;rw[mu]at m2;cases m2)];exact e2
def u9 (K:ae)(H0:Hp)(W:ax->Prop)(H:Hp)(v:V):Slot->Prop
 |.sh g x=>aI K (Ms H0 W g) H v x
 |.own x=>∃a,v = .ref a/\W a/\jH K (Ms H0 W true) H a x
 |.kp g x ks=>(aI K (λ_=>False) H v x/\flat x=true)/\iF K (cond g H0 λ_=>none) H ks
structure PX (K:ae)(H0:Hp)(W:ax->Prop)(σ:St)(ρ:b8)(H:Hp):Prop where
 len:ρ.length=σ.length
 same:aD H0 H
 wm:∀a,W a->H0 a=none/\∃o,H a=some o/\gC o=true
 sl:∀(i:Nat) (m:Slot),ρ[i]? = some (some m)->∃v,σ[i]? = some (some v)/\u9 K H0 W H v m
 dis:∀(i j:Nat) (x y:PV) (a:ax),ρ[i]? = some (some (.own x))->ρ[j]? = some (some (.own y))->σ[i]? = some (some (.ref a))->σ[j]? = some (some (.ref a))->i=j
theorem jH.keep {K:ae}{M M':ax->Prop}{H H':Hp}{a:ax}(k:eW M M' H H')(ha:∀o,H a=some o->H' a=some o):∀{x:PV},jH K M H a x->jH K M' H' a x
 |.lst _,⟨us,e,r⟩=>⟨us,ha _ e,r.keep k⟩
 |.dK _,⟨us,e,q,r⟩=>⟨us,ha _ e,q,r.keep k⟩
 |.dT _,⟨us,e,q,r⟩=>⟨us,ha _ e,q,r.keep k⟩
theorem jH.at {K:ae}{M:ax->Prop}{H:Hp}{a:ax}:∀{x:PV},jH K M H a x->∃o,H a=some o/\gC o=true
 |.lst _,⟨us,e,r⟩=>⟨_,e,rfl⟩
 |.dK _,⟨us,e,q,r⟩=>⟨_,e,rfl⟩
 |.dT _,⟨us,e,q,r⟩=>⟨_,e,rfl⟩
theorem jH.rep {K:ae}{M M':ax->Prop}{H:Hp}{a:ax}(m:∀b,M b->M' b)(ha:M' a):∀{x:PV},jH K M H a x->aI K M' H (.ref a) x
 |.lst _,⟨us,e,r⟩=>.lst ha e (r.same (aD.refl _) m)
 |.dK _,⟨us,e,q,r⟩=>.dK ha e q (r.same (aD.refl _) m)
 |.dT _,⟨us,e,q,r⟩=>.dT ha e q (r.same (aD.refl _) m)
section
variable {K:ae}{H0:Hp}{W W':ax→Prop}{σ:St}{ρ:b8}{H H':Hp}
theorem PX.mono (p:PX K H0 W σ ρ H)(s:aD H H'):PX K H0 W σ ρ H':=by
 refine⟨p.len,p.same.trans s,λa h=>⟨(p.wm a h).1,let ⟨o,e,m⟩:=(p.wm a h).2;⟨o,s _ _ e,m⟩⟩,λi m h=>?_,p.dis⟩
 obtain⟨v,e,r⟩:=p.sl i m h
 refine⟨v,e,?_⟩;cases m with
 |sh g x=>exact aI.same r s λ_ z=>z
 |own x=>
  obtain⟨a,e1,e2,r⟩:=r
  exact⟨a,e1,e2,r.keep (.same s λ_ z=>z) λ_ z=>s _ _ z⟩
 |kp g x ks=>exact⟨⟨r.1.1.same s λ_ z=>z,r.1.2⟩,r.2.same s⟩
theorem PX.new (p:PX K H0 W σ ρ H){a:ax}(h:H a=none):¬W a/\H0 a=none:=
 ⟨λz=>(by obtain⟨_,o,e,_⟩:=p.wm a z;rw[h]at e;cases e),p.same.free h⟩
theorem Mg.back {g:Tg}{H1:Hp}(s:aD H H1){a:ax}(h:Mg H0 W H1 g a):Mg H0 W H g a:=by
 cases g with
 |fr=>exact s.free h
 |rd=>exact h
 |sh=>exact h
 |nw=>exact h
end
abbrev PK:=PV->Tg->Prop
abbrev aG:=b8->PK->Prop
abbrev cN:=b8->(Bool->Prop)->Prop
abbrev bV:=b8->(List (PV×Tg)->Prop)->Prop
inductive jI (K:ae)(H0:Hp)(W:ax->Prop)(Hs H:Hp):List V->List (PV×Tg)->Prop
 |nil:jI K H0 W Hs H [] []
 |cons {v:V}{x:PV}{g:Tg}{vs:List V}{xs:List (PV×Tg)}:aI K (Mg H0 W Hs g) H v x->jI K H0 W Hs H vs xs->jI K H0 W Hs H (v::vs) ((x,g)::xs)
def uA (K:ae)(H0:Hp)(W:ax->Prop)(H:Hp)(Q:PK)(Q':VK):Prop:=∀v H' x g,aD H H'->aI K (Mg H0 W H g) H' v x->Q x g->Q' v H'
def LE (X:Cx)(t:aG):TE:=λσ H Q'=>∃(W:ax->Prop) (ρ:b8) (Q:PK),PX X.K X.H₀ W σ ρ H/\t ρ Q/\uA X.K X.H₀ W H Q Q'
def LT (X:Cx)(t:cN):TT:=λσ H Q'=>∃(W:ax->Prop) (ρ:b8) (Q:Bool->Prop),PX X.K X.H₀ W σ ρ H/\t ρ Q/\∀b H',aD H H'->Q b->Q' b H'
def LA (X:Cx)(t:bV):TA:=λσ H Q'=>∃(W:ax->Prop) (ρ:b8) (Q:List (PV×Tg)->Prop),PX X.K X.H₀ W σ ρ H/\t ρ Q/\∀vs H' xs,aD H H'->jI X.K X.H₀ W H H' vs xs->Q xs->Q' vs H'
theorem jI.same {K:ae}{H0:Hp}{W:ax->Prop}{Hs Hs' H H':Hp}(s:aD H H')(b:aD Hs' Hs):∀{vs:List V}{xs:List (PV×Tg)},jI K H0 W Hs H vs xs->jI K H0 W Hs' H' vs xs
 |_,_,.nil=>.nil
 |_,_,.cons r t=>.cons (r.same s λ_ z=>Mg.back b z) (t.same s b)
theorem jI.any {K:ae}{H0:Hp}{W:ax->Prop}{Hs H:Hp}:∀{vs:List V}{xs:List (PV×Tg)},jI K H0 W Hs H vs xs->Reps K (λ_=>True) H vs (xs.map (·.1))
 |_,_,.nil=>.nil
 |_,_,.cons r t=>.cons (r.same (aD.refl _) λ_ _=>trivial) t.any
def Nw:Tg->PV->Prop
 |.fr,_=>True
 |.nw,_=>True
 |_,x=>flat x=true
section
variable {K:ae}{H0 Hs H:Hp}{W:ax→Prop}{σ:St}{ρ:b8}
theorem Nw.rep {g:Tg}{x:PV}{v:V}(px:PX K H0 W σ ρ Hs)(n:Nw g x)(r:aI K (Mg H0 W Hs g) H v x):aI K (Ms H0 W true) H v x:=by
 cases g with
 |fr=>exact r.same (aD.refl _) λa z=>px.new z
 |nw=>exact r.same (aD.refl _) λa z=>z
 |sh=>exact r.flat n
 |rd=>exact r.flat n
theorem aa1 {v:V}{m:Slot}(r:u9 K H0 W H v m):aI K (Mg H0 W Hs m.tag) H v m.val:=by
 cases m with
 |sh g x=>
  cases g with
  |true=>exact aI.same r (aD.refl _) λ_ z=>z
  |false=>exact aI.same r (aD.refl _) λ_ z=>z
 |own x=>
  obtain⟨a,rfl,_,r⟩:=r
  exact r.rep (λ_ _=>trivial) trivial
 |kp g x ks=>exact r.1.1.flat r.1.2
end
section
variable {X:Cx}{σ:St}{H:Hp}{Q':VK}{ta tb:aG}
def a5 (i:Nat):aG:=λρ Q=>∃m,ρ[i]? = some (some m)/\Q m.val m.tag
def qC (x:PV):aG:=λ_ Q=>Q x .fr
theorem aP6 {i:Nat}(h:LE X (a5 i) σ H Q'):eR i σ H Q':=by
 obtain⟨W,ρ,Q,px,⟨m,e,q⟩,k⟩:=h
 obtain⟨v,ev,r⟩:=px.sl i m e
 exact⟨v,ev,k v H _ _ (aD.refl _) (aa1 r) q⟩
theorem oO {x:PV}{v:V}(hr:∀M,aI X.K M H v x)(h:LE X (qC x) σ H Q'):tC v σ H Q':=by
 obtain⟨W,ρ,Q,px,q,k⟩:=h
 exact k v H _ _ (aD.refl _) (hr _) q
def dU (X:Cx)(R:PV->Tg->PV->Tg->PK->Prop)(r:R2):Prop:=∀(W:ax->Prop) (Hs H:Hp) (u v:V) (x y:PV) (g g':Tg) (Q:PK) (Q':VK),aD Hs H->
 (∀a,Hs a=none->¬W a/\X.H₀ a=none)->aI X.K (Mg X.H₀ W Hs g) H u x->aI X.K (Mg X.H₀ W Hs g') H v y->R x g y g' Q->(∀w H' z gz,aD H H'->aI X.K (Mg X.H₀ W Hs gz) H' w z->Q z gz->Q' w H')->r u v H Q'
def q2 (R:PV->Tg->PV->Tg->PK->Prop)(ta tb:aG):aG:=λρ Q=>ta ρ λx g=>tb ρ λy g'=>R x g y g' Q
theorem uB {R:PV->Tg->PV->Tg->PK->Prop}{r:R2}(c:dU X R r)(h:LE X (q2 R ta tb) σ H Q'):oE r (LE X ta) (LE X tb) σ H Q':=by
 obtain⟨W,ρ,Q,px,q,k⟩:=h
 refine⟨W,ρ,_,px,q,λu H1 x g s1 r1 q1=>⟨W,ρ,_,px.mono s1,q1,λv H2 y g' s2 r2 q2=>?_⟩⟩;exact c W H H2 u v x y g g' Q Q' (s1.trans s2) (λa z=>px.new z) (r1.same s2 λ_ z=>z) (r2.same (aD.refl _) λ_ z=>Mg.back s1 z) q2 λw H' z gz s3 r3 q3=>k w H' z gz ((s1.trans s2).trans s3) r3 q3
def RI (C:Int->Int->Prop)(f:Int->Int->PV):PV->Tg->PV->Tg->PK->Prop:=λx _ y _ Q=>∃i j,x = .int i/\y = .int j/\C i j/\Q (f i j) .fr
def gK (f:Int->Int->PV):PV->Tg->PV->Tg->PK->Prop:=λx _ y _ Q=>∃i j,x = .int i/\y = .int j/\Q (f i j) .fr
theorem uC {C:Int->Int->Prop}{f:Int->Int->Int}:dU X (RI C λi j=>.int (f i j)) (rI C λi j=>.int (f i j)):=by
 rintro W Hs H u v x y g g' Q Q' s n r1 r2 ⟨i,j,rfl,rfl,c,q⟩ k;cases r1;cases r2
 exact⟨i,j,rfl,rfl,c,k _ _ _ _ (aD.refl _) (.int _) q⟩
theorem aa2 {f:Int->Int->Int}:dU X (gK λi j=>.int (f i j)) (kS λi j=>.int (f i j)):=by
 rintro W Hs H u v x y g g' Q Q' s n r1 r2 ⟨i,j,rfl,rfl,q⟩ k;cases r1;cases r2
 exact⟨i,j,rfl,rfl,k _ _ _ _ (aD.refl _) (.int _) q⟩
theorem oP {f:Int->Int->Bool}:dU X (gK λi j=>.bl (f i j)) (kS λi j=>.bl (f i j)):=by
 rintro W Hs H u v x y g g' Q Q' s n r1 r2 ⟨i,j,rfl,rfl,q⟩ k;cases r1;cases r2
 exact⟨i,j,rfl,rfl,k _ _ _ _ (aD.refl _) (.bl _) q⟩
def oQ (neg:Bool):PV->Tg->PV->Tg->PK->Prop:=λx _ y _ Q=>(∃i j,x = .int i/\y = .int j/\Q (.bl (if neg=true then !decide (i=j) else decide (i=j))) .fr)∨(∃i j,x = .bl i/\y = .bl j/\Q (.bl (if neg=true then !decide (i=j) else decide (i=j))) .fr)
theorem aa3 (i j:Int):decide (V.int i=V.int j)=decide (i=j):=by
 rw[bL2,bH1,bH1];exact⟨λz=>V.int.inj z,λz=>congrArg V.int z⟩
theorem aa4 (i j:Bool):decide (V.bl i=V.bl j)=decide (i=j):=by
 rw[bL2,bH1,bH1];exact⟨λz=>V.bl.inj z,λz=>congrArg V.bl z⟩
theorem aP7:dU X (oQ false) xH:=by
 rintro W Hs H u v x y g g' Q Q' s n r1 r2 (⟨i,j,rfl,rfl,q⟩|⟨i,j,rfl,rfl,q⟩) k
 ·cases r1;cases r2
  exact⟨rfl,by rw[aa3];exact k _ _ _ _ (aD.refl _) (.bl _) q⟩
 ·cases r1;cases r2
  exact⟨rfl,by rw[aa4];exact k _ _ _ _ (aD.refl _) (.bl _) q⟩
theorem aP8:dU X (oQ true) xI:=by
 rintro W Hs H u v x y g g' Q Q' s n r1 r2 (⟨i,j,rfl,rfl,q⟩|⟨i,j,rfl,rfl,q⟩) k
 ·cases r1;cases r2
  exact⟨rfl,by rw[aa3];exact k _ _ _ _ (aD.refl _) (.bl _) q⟩
 ·cases r1;cases r2
  exact⟨rfl,by rw[aa4];exact k _ _ _ _ (aD.refl _) (.bl _) q⟩
def aQ (t:aG):cN:=λρ Q=>t ρ λx _=>∃b,x = .bl b/\Q b
theorem uD {t:aG}{Q':Bool->Hp->Prop}(h:LT X (aQ t) σ H Q'):LE X t σ H λx H'=>∃k,x = .bl k/\Q' k H':=by
 obtain⟨W,ρ,Q,px,q,k⟩:=h
 refine⟨W,ρ,_,px,q,?_⟩;rintro v H1 x g s r ⟨b,rfl,q⟩;cases r
 exact⟨b,rfl,k _ _ s q⟩
def qV (t u:cN):cN:=λρ Q=>t ρ λc=>if c=true then u ρ Q else Q false
def fQ (t u:cN):cN:=λρ Q=>t ρ λc=>if c=true then Q true else u ρ Q
def eB (t:cN):cN:=λρ Q=>t ρ λc=>Q (!c)
variable {t u:cN}{Qb:Bool→Hp→Prop}
theorem aP9 (h:LT X (qV t u) σ H Qb):O6 (LT X t) (LT X u) σ H Qb:=by
 obtain⟨W,ρ,Q,px,q,k⟩:=h
 refine⟨W,ρ,_,px,q,λb H1 s1 q1=>?_⟩;cases b with
 |true=>exact aY ⟨W,ρ,Q,px.mono s1,by simpa using q1,λb H2 s2 q2=>k _ _ (s1.trans s2) q2⟩
 |false=>exact aM (k _ _ s1 (by simpa using q1))
theorem aQ0 (h:LT X (fQ t u) σ H Qb):O7 (LT X t) (LT X u) σ H Qb:=by
 obtain⟨W,ρ,Q,px,q,k⟩:=h
 refine⟨W,ρ,_,px,q,λb H1 s1 q1=>?_⟩;cases b with
 |false=>exact aM ⟨W,ρ,Q,px.mono s1,by simpa using q1,λb H2 s2 q2=>k _ _ (s1.trans s2) q2⟩
 |true=>exact aY (k _ _ s1 (by simpa using q1))
theorem aQ1 (h:LT X (eB t) σ H Qb):O8 (LT X t) σ H Qb:=by
 obtain⟨W,ρ,Q,px,q,k⟩:=h
 exact⟨W,ρ,_,px,q,λb H1 s1 q1=>k _ _ s1 q1⟩
def mE (ta tb:aG):aG:=λρ Q=>ta ρ λx _=>∃c,x = .bl c/\if c=true then tb ρ Q else Q (.bl false) .fr
def uE (ta:aG):aG:=λρ Q=>ta ρ λx _=>∃c,x = .bl c/\Q (.bl (!c)) .fr
theorem uA.back {K:ae}{H0:Hp}{W:ax->Prop}{H H1:Hp}{Q:PK}(k:uA K H0 W H Q Q')(s:aD H H1):uA K H0 W H1 Q Q':=λv H' x g s' r q=>k v H' x g (s.trans s') (r.same (aD.refl _) λ_ z=>Mg.back s z) q
theorem aQ2 (h:LE X (mE ta tb) σ H Q'):O9 (LE X ta) (LE X tb) σ H Q':=by
 obtain⟨W,ρ,Q,px,q,k⟩:=h
 refine⟨W,ρ,_,px,q,?_⟩;rintro v H1 x g s1 r ⟨c,rfl,q⟩;cases r;refine⟨c,rfl,?_⟩;cases c with
 |true=>exact aY ⟨W,ρ,Q,px.mono s1,by simpa using q,k.back s1⟩
 |false=>exact aM (k _ _ _ _ s1 (.bl _) (by simpa using q))
theorem aQ3 (h:LE X (uE ta) σ H Q'):P0 (LE X ta) σ H Q':=by
 obtain⟨W,ρ,Q,px,q,k⟩:=h
 refine⟨W,ρ,_,px,q,?_⟩;rintro v H1 x g s1 r ⟨c,rfl,q⟩;cases r
 exact⟨c,rfl,k _ _ _ _ s1 (.bl _) q⟩
def aB:bV:=λ_ Q=>Q []
def a6 (te:aG)(tr:bV):bV:=λρ Q=>te ρ λx g=>tr ρ λxs=>Q ((x,g)::xs)
variable {Qa:List V→Hp→Prop}{tr:bV}
theorem aa5 (h:LA X aB σ H Qa):g9 σ H Qa:=by
 obtain⟨W,ρ,Q,px,q,k⟩:=h
 exact k _ _ _ (aD.refl _) .nil q
theorem aQ4 (h:LA X (a6 ta tr) σ H Qa):iY (LE X ta) (LA X tr) σ H Qa:=by
 obtain⟨W,ρ,Q,px,q,k⟩:=h
 refine⟨W,ρ,_,px,q,λv H1 x g s1 r1 q1=>⟨W,ρ,_,px.mono s1,q1,λvs H2 xs s2 r2 q2=>?_⟩⟩;exact k _ _ _ (s1.trans s2) (.cons (r1.same s2 λ_ z=>z) (r2.same (aD.refl _) s1)) q2
def c7 (t:bV):aG:=λρ Q=>t ρ λxs=>xs.length<=1000/\flats (xs.map (·.1))=true/\Q (.tup (xs.map (·.1))) .fr
def eI (t:bV):aG:=λρ Q=>t ρ λxs=>xs.length<=1000/\flats (xs.map (·.1))=true/\Q (.lst (xs.map (·.1))) .fr
theorem jI.length {K:ae}{H0:Hp}{W:ax->Prop}{Hs H:Hp}:∀{vs:List V}{xs:List (PV×Tg)},jI K H0 W Hs H vs xs->vs.length=xs.length
 |_,_,.nil=>rfl
 |_,_,.cons _ t=>congrArg (·+1) t.length
theorem zN {n:Nat}(h:n<=1000):n<=sizeLine:=bJ6 (qP h)
theorem aQ5 (h:LE X (c7 tr) σ H Q'):S7 (LA X tr) σ H Q':=by
 obtain⟨W,ρ,Q,px,q,k⟩:=h
 refine⟨W,ρ,_,px,q,?_⟩;rintro vs H1 xs s1 r ⟨hl,n,q⟩;refine⟨by rw[r.length];exact zN hl,λp hp=>k _ _ _ .fr (s1.trans (bL hp _)) (.tup b6 ?_) q⟩;exact (r.any.flat n).same (bL hp _) λ_ z=>z
theorem aQ6 (h:LE X (eI tr) σ H Q'):xO (LA X tr) σ H Q':=by
 obtain⟨W,ρ,Q,px,q,k⟩:=h
 refine⟨W,ρ,_,px,q,?_⟩;rintro vs H1 xs s1 r ⟨hl,n,q⟩;refine⟨by rw[r.length];exact zN hl,λp hp=>k _ _ _ .fr (s1.trans (bL hp _)) (.lst (s1.free hp) b6 ?_) q⟩;exact (r.any.flat n).same (bL hp _) λ_ z=>z
def e8 (X:Cx)(R:List PV->(PV->Prop)->Prop)(r:List V->Hp->VK->Prop):Prop:=∀(H:Hp) (vs:List V) (xs:List PV) (Q:PV->Prop) (Q':VK),Reps X.K (λ_=>True) H vs xs->R xs Q->
 (∀w H' z,aD H H'->aI X.K (λa=>H a=none) H' w z->Q z->Q' w H')->r vs H Q'
def aE (R:List PV->(PV->Prop)->Prop)(t:bV):aG:=λρ Q=>t ρ λxs=>R (xs.map (·.1)) λz=>Q z .fr
theorem aa6 {R:List PV->(PV->Prop)->Prop}{r:List V->Hp->VK->Prop}(c:e8 X R r)(h:LE X (aE R tr) σ H Q'):xS r (LA X tr) σ H Q':=by
 obtain⟨W,ρ,Q,px,q,k⟩:=h
 refine⟨W,ρ,_,px,q,λvs H1 xs s1 r1 q1=>c H1 vs _ _ Q' r1.any q1 λw H' z s2 r2 q2=>k w H' z .fr (s1.trans s2) (r2.same (aD.refl _) λ_ z=>s1.free z) q2⟩
end
structure iG where
 nx:b8->Prop
 rt:PV->Prop
 bk:b8->Prop:=λ_=>False
 ct:b8->Prop:=λ_=>False
abbrev aT:=iG->b8->Prop
def Ev (W:ax->Prop)(H:Hp)(W':ax->Prop)(H':Hp):Prop:=∀b o,H b=some o->¬W b->oN o=false->H' b=some o/\¬W' b
theorem Ev.trans {W W1 W2:ax->Prop}{H H1 H2:Hp}(a:Ev W H W1 H1)(b:Ev W1 H1 W2 H2):Ev W H W2 H2:=λc o h n z=>let ⟨h1,n1⟩:=a c o h n z;b c o h1 n1 z
theorem Ev.same {W:ax->Prop}{H H':Hp}(s:aD H H'):Ev W H W H':=λc o h n _=>⟨s _ _ h,n⟩
theorem Ev.refl (W:ax->Prop)(H:Hp):Ev W H W H:=Ev.same (aD.refl _)
structure qW (X:Cx)(W:ax->Prop)(H:Hp)(D':iG)(D:bP):Prop where
 nx:∀W' σ' H' ρ',Ev W H W' H'->PX X.K X.H₀ W' σ' ρ' H'->D'.nx ρ'->D.nx σ' H'
 rt:∀v H' x,aD X.H₀ H'->aI X.K (λa=>X.H₀ a=none) H' v x->D'.rt x->D.rt v H'
 bk:∀W' σ' H' ρ',Ev W H W' H'->PX X.K X.H₀ W' σ' ρ' H'->D'.bk ρ'->D.bk σ' H'
 ct:∀W' σ' H' ρ',Ev W H W' H'->PX X.K X.H₀ W' σ' ρ' H'->D'.ct ρ'->D.ct σ' H'
theorem qW.step {X:Cx}{W W1:ax->Prop}{H H1:Hp}{D':iG}{D:bP}(k:qW X W H D' D)(e:Ev W H W1 H1):qW X W1 H1 D' D:=
 ⟨λW' σ' H' ρ' e'=>k.nx W' σ' H' ρ' (e.trans e'),k.rt,λW' σ' H' ρ' e'=>k.bk W' σ' H' ρ' (e.trans e'),λW' σ' H' ρ' e'=>k.ct W' σ' H' ρ' (e.trans e')⟩
def LS (X:Cx)(t:aT):TS:=λD σ H=>∃(W:ax->Prop) (ρ:b8) (D':iG),PX X.K X.H₀ W σ ρ H/\t D' ρ/\qW X W H D' D
theorem dW {α:Type}{l:List α}{i j:Nat}{a b:α}(h:(l.set i a)[j]? = some b):(j=i/\i<l.length/\b=a)∨(j≠i/\l[j]? = some b):=by
 by_cases e:j=i
 ·subst e
  have hl:j<(l.set j a).length:=(bF6.mp h).1;rw[bK3]at hl;rw[bK7 hl]at h;exact .inl ⟨rfl,hl,(bG9 h).symm⟩
 ·rw[bH2 (Ne.symm e)]at h
  exact .inr ⟨e,h⟩
section
variable {K:ae}{H0:Hp}{W W':ax→Prop}{σ:St}{ρ:b8}{H H' Hs:Hp}
theorem PX.setSh {i:Nat}{v:V}{g:Bool}{x:PV}(p:PX K H0 W σ ρ H)(r:aI K (Ms H0 W g) H v x):PX K H0 W (σ.set i (some v)) (ρ.set i (some (.sh g x))) H:=by
 refine⟨by rw[bK3,bK3];exact p.len,p.same,p.wm,λj m h=>?_,λj k y z a h1 h2 h3 h4=>?_⟩
 ·rcases dW h with⟨rfl,hl,e⟩|⟨hne,h⟩
  ·cases e
   rw[p.len]at hl
   exact⟨v,bK7 hl,r⟩
  ·obtain⟨u,e,q⟩:=p.sl j m h
   exact⟨u,by rw[bH2 (Ne.symm hne)];exact e,q⟩
 ·rcases dW h1 with⟨_,_,e⟩|⟨n1,h1⟩
  ·cases e
  ·rcases dW h2 with⟨_,_,e⟩|⟨n2,h2⟩
   ·cases e
   ·rw[bH2 (Ne.symm n1)]at h3
    rw[bH2 (Ne.symm n2)]at h4;exact p.dis j k y z a h1 h2 h3 h4
theorem PX.setNone {i:Nat}{o:Option V}(p:PX K H0 W σ ρ H):PX K H0 W (σ.set i o) (ρ.set i none) H:=by
 refine⟨by rw[bK3,bK3];exact p.len,p.same,p.wm,λj m h=>?_,λj k y z a h1 h2 h3 h4=>?_⟩
 ·rcases dW h with⟨rfl,hl,e⟩|⟨hne,h⟩
  ·cases e
  ·obtain⟨u,e,q⟩:=p.sl j m h
   exact⟨u,by rw[bH2 (Ne.symm hne)];exact e,q⟩
 ·rcases dW h1 with⟨_,_,e⟩|⟨n1,h1⟩
  ·cases e
  ·rcases dW h2 with⟨_,_,e⟩|⟨n2,h2⟩
   ·cases e
   ·rw[bH2 (Ne.symm n1)]at h3
    rw[bH2 (Ne.symm n2)]at h4;exact p.dis j k y z a h1 h2 h3 h4
def oR (W:ax->Prop)(a:ax):ax->Prop:=λb=>W b∨b=a
theorem zO {g:Bool}{a b:ax}(n:b≠a)(h:Ms H0 W g b):Ms H0 (oR W a) g b:=by
 cases g with
 |true=>exact⟨λz=>z.elim h.1 n,h.2⟩
 |false=>exact λz=>z.elim h n
theorem PX.setOwn {i:Nat}{a:ax}{x:PV}(p:PX K H0 W σ ρ Hs)(s:aD Hs H)(ha:Hs a=none)(r:jH K (Ms H0 (oR W a) true) H a x):PX K H0 (oR W a) (σ.set i (some (.ref a))) (ρ.set i (some (.own x))) H:=by
 have old:∀b o,Hs b=some o->b≠a:=λb o e z=>by rw[z,ha]at e;cases e
 have kp:∀g,eW (Ms H0 W g) (Ms H0 (oR W a) g) Hs H:=λg=>⟨λb _ m e=>⟨zO (old _ _ e) m,s _ _ e⟩,λb _ m e=>⟨zO (old _ _ e) m,s _ _ e⟩,λb _ m e=>⟨zO (old _ _ e) m,s _ _ e⟩,λ_ _ e=>s _ _ e,λ_ _ _ e _=>s _ _ e⟩
 have wa:¬W a:=(p.new ha).1;refine⟨by rw[bK3,bK3];exact p.len,p.same.trans s,λb z=>?_,λj m h=>?_,λj k y z b h1 h2 h3 h4=>?_⟩
 ·rcases z with z|rfl
  ·obtain⟨h1,o,h2,h3⟩:=p.wm b z
   exact⟨h1,o,s _ _ h2,h3⟩
  ·exact⟨(p.new ha).2,r.at⟩
 ·rcases dW h with⟨rfl,hl,e⟩|⟨hne,h⟩
  ·cases e
   rw[p.len]at hl
   exact⟨_,bK7 hl,a,rfl,.inr rfl,r⟩
  ·obtain⟨u,e,q⟩:=p.sl j m h
   refine⟨u,by rw[bH2 (Ne.symm hne)];exact e,?_⟩;cases m with
   |sh g y=>exact aI.keep (kp g) q
   |own y=>
    obtain⟨b,e1,e2,q⟩:=q
    exact⟨b,e1,.inl e2,q.keep (kp true) λo z=>s _ _ z⟩
   |kp g c ks=>exact⟨⟨q.1.1.same s λ_ z=>z,q.1.2⟩,q.2.same s⟩
 ·have ne:∀{j:Nat}{y:PV},ρ[j]? = some (some (.own y))->σ[j]?≠some (some (.ref a)):=λ{j y} h1 h2=>by
   obtain⟨u,e,c,e1,e2,_⟩:=p.sl j _ h1
   rw[h2]at e;cases e;cases e1;exact wa e2
  rcases dW h1 with⟨e1,l1,_⟩|⟨n1,h1⟩
  ·rcases dW h2 with⟨e2,_,_⟩|⟨n2,h2⟩
   ·rw[e1,e2]
   ·rw[e1,bK7 (by rw[<- p.len];exact l1)]at h3
    rw[bH2 (Ne.symm n2)]at h4;cases h3;exact absurd h4 (ne h2)
  ·rw[bH2 (Ne.symm n1)]at h3
   rcases dW h2 with⟨e2,l2,_⟩|⟨n2,h2⟩
   ·rw[e2,bK7 (by rw[<- p.len];exact l2)]at h4
    cases h4;exact absurd h3 (ne h1)
   ·rw[bH2 (Ne.symm n2)]at h4
    exact p.dis j k y z b h1 h2 h3 h4
theorem Ev.own {a:ax}(s:aD Hs H)(ha:Hs a=none):Ev W Hs (oR W a) H:=λb o e n _=>⟨s _ _ e,λz=>z.elim n λz=>by rw[z,ha]at e;cases e⟩
theorem oS {g:Bool}{a b:ax}(wa:W a)(h:Ms H0 W g b):b≠a:=by
 cases g with
 |true=>exact λz=>h.1 (by rw[z];exact wa)
 |false=>exact λz=>h (by rw[z];exact wa)
theorem PX.updOwn {i:Nat}{a:ax}{x y:PV}{o:HO}(p:PX K H0 W σ ρ H)(hi:ρ[i]? = some (some (.own x)))(ha:σ[i]? = some (some (.ref a)))(wa:W a)(mu:gC o=true)(r:jH K (Ms H0 W true) (upd H a o) a y) :
  PX K H0 W σ (ρ.set i (some (.own y))) (upd H a o):=by
 obtain⟨w0,o',e',mu'⟩:=p.wm a wa
 have kp:∀g,eW (Ms H0 W g) (Ms H0 W g) H (upd H a o):=λg=>.upd e' mu' λb m=>⟨oS wa m,m⟩
 refine⟨by rw[bK3];exact p.len,λb u e=>by rw[aL (λz=>by rw[z,w0]at e;cases e)];exact p.same _ _ e,λb z=>?_,λj m h=>?_,λj k y' z b h1 h2 h3 h4=>?_⟩
 ·by_cases e:b=a
  ·subst e;exact⟨w0,o,b6,mu⟩
  ·obtain⟨h1,o2,h2,h3⟩:=p.wm b z
   exact⟨h1,o2,by rw[aL e];exact h2,h3⟩
 ·rcases dW h with⟨rfl,hl,e⟩|⟨hne,h⟩
  ·cases e
   exact⟨_,ha,a,rfl,wa,r⟩
  ·obtain⟨u,e,q⟩:=p.sl j m h
   refine⟨u,e,?_⟩;cases m with
   |sh g y=>exact aI.keep (kp g) q
   |own y=>
    obtain⟨b,e1,e2,q⟩:=q
    have hb:b≠a:=λz=>by
     subst e1;rw[z]at e;exact hne (p.dis j i _ _ a h hi e ha)
    exact⟨b,e1,e2,q.keep (kp true) λo z=>by rw[aL hb];exact z⟩
   |kp g c ks=>exact⟨⟨q.1.1.keep (.upd e' mu' λ_ z=>z.elim),q.1.2⟩,q.2.upd e' mu'⟩
 ·have g1:∃y,ρ[j]? = some (some (.own y)):=by
   rcases dW h1 with⟨e,_,_⟩|⟨_,h⟩
   ·exact⟨x,by rw[e];exact hi⟩
   ·exact⟨_,h⟩
  have g2:∃y,ρ[k]? = some (some (.own y)):=by
   rcases dW h2 with⟨e,_,_⟩|⟨_,h⟩
   ·exact⟨x,by rw[e];exact hi⟩
   ·exact⟨_,h⟩
  obtain⟨y1,g1⟩:=g1
  obtain⟨y2,g2⟩:=g2
  exact p.dis j k y1 y2 b g1 g2 h3 h4
theorem Ev.upd {a:ax}{o:HO}(wa:W a):Ev W H W (upd H a o):=λb u e n _=>⟨by rw[aL (λz=>n (by rw[z];exact wa))];exact e,n⟩
end
section
variable {X:Cx}{σ:St}{H:Hp}{D:bP}{te:aG}{t u:aT}
def bE:aT:=λD ρ=>D.nx ρ
def aH (t u:aT):aT:=λD ρ=>t { D with nx:=u D } ρ
theorem aQ7 (h:LS X bE D σ H):P3 D σ H:=by
 obtain⟨W,ρ,D',px,q,k⟩:=h
 exact k.nx W σ H ρ (Ev.refl _ _) px q
theorem aQ8 (h:LS X (aH t u) D σ H):P4 (LS X t) (LS X u) D σ H:=by
 obtain⟨W,ρ,D',px,q,k⟩:=h
 exact⟨W,ρ,_,px,q,λW' σ' H' ρ' e px' q'=>⟨W',ρ',D',px',q',k.step e⟩,k.rt,k.bk,k.ct⟩
def stG:Tg->PV->Bool
 |.fr,_=>true
 |.nw,_=>true
 |_,x=>flat x
def uF:Tg->PV->Prop
 |.rd,x=>flat x=true
 |_,_=>True
theorem aQ9 {K:ae}{H0 Hs H:Hp}{W:ax->Prop}{σ:St}{ρ:b8}{g:Tg}{x:PV}{v:V}(px:PX K H0 W σ ρ Hs)(n:uF g x)(r:aI K (Mg H0 W Hs g) H v x):aI K (Ms H0 W (stG g x)) H v x:=by
 cases g with
 |fr=>exact Nw.rep (g:=.fr) px trivial r
 |nw=>exact Nw.rep (g:=.nw) px trivial r
 |sh=>
  show aI K (Ms H0 W (flat x)) H v x;cases e:flat x with
  |true=>exact r.flat e
  |false=>exact r.same (aD.refl _) λ_ z=>z
 |rd=>exact r.flat n
def bC (i:Nat)(te:aG):aT:=λD ρ=>te ρ λx g=>uF g x/\D.nx (ρ.set i (some (.sh (stG g x) x)))
theorem aa7 {i:Nat}(h:LS X (bC i te) D σ H):pZ (LE X te) (dN i) D σ H:=by
 obtain⟨W,ρ,D',px,q,k⟩:=h
 refine⟨W,ρ,_,px,q,?_⟩;rintro v H1 x g s r ⟨n,q⟩;exact k.nx W _ H1 _ (Ev.same s) ((px.mono s).setSh (aQ9 px n r)) q
def aa8:PV->Bool
 |.lst xs=>flats xs
 |.dK ps=>flats (ps.map (·.2))
 |.dT ps=>flats (ps.map (·.2))
 |_=>false
theorem aR0 {K:ae}{M:ax->Prop}{H:Hp}{v:V}{x:PV}(r:aI K M H v x)(o:aa8 x=true):∃a,v = .ref a/\M a/\∀M',jH K M' H a x:=by
 cases r with
 |lst m e r=>exact⟨_,rfl,m,λ_=>⟨_,e,r.flat o⟩⟩
 |dK m e q r=>exact⟨_,rfl,m,λ_=>⟨_,e,q,r.flat o⟩⟩
 |dT m e q r=>exact⟨_,rfl,m,λ_=>⟨_,e,q,r.flat o⟩⟩
 |_=>cases o
def iH (i:Nat)(te:aG):aT:=λD ρ=>te ρ λx g=>g = .fr/\aa8 x=true/\D.nx (ρ.set i (some (.own x)))
theorem aR1 {i:Nat}(h:LS X (iH i te) D σ H):pZ (LE X te) (dN i) D σ H:=by
 obtain⟨W,ρ,D',px,q,k⟩:=h
 refine⟨W,ρ,_,px,q,?_⟩;rintro v H1 x g s r ⟨rfl,o,q⟩
 obtain⟨a,rfl,m,w⟩:=aR0 r o
 exact k.nx _ _ H1 _ (Ev.own s m) (px.setOwn s m (w _)) q
def b7 (te:aG):aT:=λD ρ=>te ρ λx g=>Nw g x/\D.rt x
theorem aR2 (h:LS X (b7 te) D σ H):xA (LE X te) D σ H:=by
 obtain⟨W,ρ,D',px,q,k⟩:=h
 refine⟨W,ρ,_,px,q,?_⟩;rintro v H1 x g s r ⟨n,q⟩;exact k.rt v H1 x (px.same.trans s) ((Nw.rep px n r).same (aD.refl _) λ_ z=>z.2) q
def Slot.nw:Slot->Prop
 |.own _=>True
 |.kp _ _ _=>True
 |.sh true _=>True
 |.sh false x=>flat x=true
def mF (i:Nat):aT:=λD ρ=>∃m,ρ[i]? = some (some m)/\m.nw/\D.rt m.val
theorem aR3 {i:Nat}(h:LS X (mF i) D σ H):xA (eR i) D σ H:=by
 obtain⟨W,ρ,D',px,⟨m,hi,n,q⟩,k⟩:=h
 obtain⟨v,ev,r⟩:=px.sl i _ hi
 refine⟨v,ev,k.rt v H _ px.same ?_ q⟩;cases m with
 |own x=>
  obtain⟨a,rfl,wa,r⟩:=r
  exact r.rep (λ_ z=>z.2) (px.wm a wa).1
 |sh g x=>
  cases g with
  |true=>exact aI.same r (aD.refl _) λ_ z=>z.2
  |false=>exact aI.flat n r
 |kp g x ks=>exact r.1.1.flat r.1.2
def bF (c:cN)(t u:aT):aT:=λD ρ=>c ρ λb=>if b=true then t D ρ else u D ρ
theorem aR4 {c:cN}(h:LS X (bF c t u) D σ H):P5 (LT X c) (LS X t) (LS X u) D σ H:=by
 obtain⟨W,ρ,D',px,q,k⟩:=h
 refine⟨W,ρ,_,px,q,λb H1 s q1=>?_⟩;cases b with
 |true=>exact aY ⟨W,ρ,D',px.mono s,by simpa using q1,k.step (Ev.same s)⟩
 |false=>exact aM ⟨W,ρ,D',px.mono s,by simpa using q1,k.step (Ev.same s)⟩
def uG (c:cN)(tb:aT):aT:=λD ρ=>∃I:Nat->b8->Prop,(∃m,I m ρ)/\∀m ρ',I m ρ'->c ρ' λb=>if b=true then tb { D with nx:=λρ2=>∃m',m'<m/\I m' ρ2,ct:=λρ2=>∃m',m'<m/\I m' ρ2,bk:=D.nx } ρ' else D.nx ρ'
theorem aR5 {c:cN}{tb:aT}(h:LS X (uG c tb) D σ H):P6 (LT X c) (LS X tb) D σ H:=by
 obtain⟨W,ρ,D',px,⟨I,⟨m0,i0⟩,turn⟩,k⟩:=h
 refine⟨λm σ2 H2=>∃W2 ρ2,PX X.K X.H₀ W2 σ2 ρ2 H2/\Ev W H W2 H2/\I m ρ2,⟨m0,W,ρ,px,Ev.refl _ _,i0⟩,?_⟩;rintro m σ2 H2 ⟨W2,ρ2,px2,e2,i2⟩;refine⟨W2,ρ2,_,px2,turn m ρ2 i2,λb H3 s3 q3=>?_⟩;cases b with
 |true=>
  refine aY ⟨λσ4 H4=>∃W4 ρ4,PX X.K X.H₀ W4 σ4 ρ4 H4/\Ev W H W4 H4/\∃m',m'<m/\I m' ρ4,λσ4 H4 ⟨W4,ρ4,a,b,m',c,d⟩=>⟨m',c,W4,ρ4,a,b,d⟩,W2,ρ2,_,px2.mono s3,by simpa using q3,?_⟩;have e3:Ev W H W2 H3:=e2.trans (Ev.same s3)
  exact⟨λW' σ' H' ρ' e p q=>⟨W',ρ',p,e3.trans e,q⟩,k.rt,λW' σ' H' ρ' e p q=>k.nx W' σ' H' ρ' (e3.trans e) p q,λW' σ' H' ρ' e p q=>⟨W',ρ',p,e3.trans e,q⟩⟩
 |false=>exact aM (k.nx W2 σ2 H3 ρ2 (e2.trans (Ev.same s3)) (px2.mono s3) (by simpa using q3))
end
theorem lim {n:Nat}(h:n<=16000000):n<=sizeLine:=bJ6 (j4 h)
theorem aI.sqT {K:ae}{M:ax->Prop}{H:Hp}{v:V}{xs:List PV}(r:aI K M H v (.tup xs)):∃a us,v = .ref a/\H a=some (.tup us)/\Reps K M H us xs:=by
 cases r with
 |tup e r=>exact⟨_,_,rfl,e,r⟩
theorem aI.sqL {K:ae}{M:ax->Prop}{H:Hp}{v:V}{xs:List PV}(r:aI K M H v (.lst xs)):∃a us,v = .ref a/\M a/\H a=some (.lst us)/\Reps K M H us xs:=by
 cases r with
 |lst m e r=>exact⟨_,_,rfl,m,e,r⟩
theorem l0.sqL {K:ae}{H:Hp}{a:ax}{ns:ag}(h:l0 K H a ns):aU K H a (ns.map V.int):=h.elim (λz=>.inl (.inr z)) .inr
def iI:PV->Option (List PV)
 |.tup xs=>some xs
 |.lst xs=>some xs
 |.scr ns=>some (intz ns)
 |.kt xs=>some xs
 |.fL xs=>some xs
 |_=>none
theorem aI.seq {K:ae}{M:ax->Prop}{H:Hp}{v:V}{x:PV}{xs:List PV}(r:aI K M H v x)(e:iI x=some xs):∃a us,v = .ref a/\(aU K H a us∨aP K H a us)/\Reps K M H us xs:=by
 cases r with
 |tup h r=>cases e;exact⟨_,_,rfl,.inr (aP.of h),r⟩
 |lst m h r=>cases e;exact⟨_,_,rfl,.inl (aU.of h),r⟩
 |scr h=>cases e;exact⟨_,_,rfl,.inl h.sqL,Reps.intz _⟩
 |kt h r=>cases e;exact⟨_,_,rfl,.inr (.inr h),r⟩
 |fL h r=>cases e;exact⟨_,_,rfl,.inl (.inl (.inr ⟨_,h⟩)),r⟩
 |_=>cases e
section
variable {X:Cx}{σ:St}{H:Hp}{D:bP}{te ti to:aG}{t u:aT}{Q':VK}
theorem _root_.PP.PX.updL {K:ae}{H0:Hp}{W:ax->Prop}{σ:St}{ρ:b8}{H:Hp}{i:Nat}{a:ax}{x:PV}{us:List V}{ys:List PV}(p:PX K H0 W σ ρ H)(hi:ρ[i]? = some (some (.own x)))(ha:σ[i]? = some (some (.ref a)))(wa:W a)(r:Reps K (Ms H0 W true) (upd H a (.lst us)) us ys) :
  PX K H0 W σ (ρ.set i (some (.own (.lst ys)))) (upd H a (.lst us)):=p.updOwn hi ha wa rfl (y:=.lst ys) ⟨us,b6,r⟩
def j5 (i:Nat)(te:aG):aT:=λD ρ=>∃xs,ρ[i]? = some (some (.own (.lst xs)))/\te ρ λx g=>Nw g x/\xs.length<16000000/\D.nx (ρ.set i (some (.own (.lst (xs++[x])))))
theorem aR6 {i:Nat}(h:LS X (j5 i te) D σ H):lY (yC X.K "list" yD (eR i) (iY (LE X te) g9)) D σ H:=by
 obtain⟨W,ρ,D',px,⟨xs,hi,q⟩,k⟩:=h
 obtain⟨v,ev,a,rfl,wa,us,ea,r⟩:=px.sl i _ hi
 refine⟨_,ev,oK (aU.of ea),W,ρ,_,px,q,?_⟩;rintro w H1 x g s rx ⟨n,hl,q⟩;have ea1:=s _ _ ea;refine⟨a,us,w,rfl,rfl,ea1,j4 (by rw[r.length];omega),?_⟩;refine k.nx W σ _ _ ((Ev.same s).trans (Ev.upd wa)) ((px.mono s).updL hi ev wa ?_) q;exact ((r.same s λ_ z=>z).append (.cons (Nw.rep px n rx) .nil)).keep (.upd ea1 rfl λb m=>⟨oS wa m,m⟩)
def aa9 (K:ae):V->List V->Hp->VK->Prop:=λx vs H Q=>V1 x vs H Q∨aa0 K x vs H Q
def zP (i:Nat)(te:aG):aT:=λD ρ=>∃xs,ρ[i]? = some (some (.own (.lst xs)))/\te ρ λy g=>∃ys,(y = .tup ys∨y = .lst ys)/\(Nw g y∨flats ys=true)/\xs.length+ys.length<=16000000/\D.nx (ρ.set i (some (.own (.lst (xs++ys)))))
theorem aR7 {i:Nat}(h:LS X (zP i te) D σ H):lY (yC X.K "list" (aa9 X.K) (eR i) (iY (LE X te) g9)) D σ H:=by
 obtain⟨W,ρ,D',px,⟨xs,hi,q⟩,k⟩:=h
 obtain⟨v,ev,a,rfl,wa,us,ea,r⟩:=px.sl i _ hi
 refine⟨_,ev,oK (aU.of ea),W,ρ,_,px,q,?_⟩;rintro w H1 y g s ry ⟨ys,hy,n,hl,q⟩;have ea1:=s _ _ ea;have key:∀(zs:List V),Reps X.K (Ms X.H₀ W true) H1 zs ys->D.nx σ (upd H1 a (.lst (us++zs))):=λzs rz=>by
  refine k.nx W σ _ _ ((Ev.same s).trans (Ev.upd wa)) ((px.mono s).updL hi ev wa ?_) q;exact ((r.same s λ_ z=>z).append rz).keep (.upd ea1 rfl λb m=>⟨oS wa m,m⟩)
 have lr:=r.length;rcases hy with rfl|rfl
 ·obtain⟨b,zs,rfl,eb,rz⟩:=ry.sqT
  have lz:=rz.length;refine .inr ⟨a,b,us,zs,rfl,rfl,ea1,aP.of eb,lim (by omega),key zs ?_⟩;rcases n with n|n
  ·obtain⟨b',zs',e1,e2,rz'⟩:=(Nw.rep px n ry).sqT
   cases e1;rw[eb]at e2;cases e2;exact rz'
  ·exact rz.flat n
 ·obtain⟨b,zs,rfl,_,eb,rz⟩:=ry.sqL
  have lz:=rz.length;refine .inl ⟨a,b,us,zs,rfl,rfl,ea1,eb,lim (by omega),key zs ?_⟩;rcases n with n|n
  ·obtain⟨b',zs',e1,_,e2,rz'⟩:=(Nw.rep px n ry).sqL
   cases e1;rw[eb]at e2;cases e2;exact rz'
  ·exact rz.flat n
theorem Reps.snoc_inv {K:ae}{M:ax->Prop}{H:Hp}{us:List V}{xs:List PV}{y:PV}(r:Reps K M H us (xs++[y])):∃vs v,us=vs++[v]/\Reps K M H vs xs/\aI K M H v y:=by
 have l:=r.length;have h1:=r.take xs.length;have h2:=r.drop xs.length;rw[List.take_left]at h1;rw[List.drop_left]at h2;generalize hd:us.drop xs.length=ds at h2;cases h2 with
 |cons q t=>
  cases t
  exact⟨_,_,by rw[<- hd,List.take_append_drop],h1,q⟩
end
theorem Reps.atI {K:ae}{M:ax->Prop}{H:Hp}{us:List V}{xs:List PV}{i:Int}{z:PV}(r:Reps K M H us xs)(h:L2.atI xs i=some z):∃v,L2.atI us i=some v/\aI K M H v z:=by
 unfold L2.atI at h ⊢;rw[r.length];cases e:kU xs.length i with
 |none=>rw[e]at h;cases h
 |some j=>rw[e]at h;exact r.at h
section
variable {X:Cx}{σ:St}{H:Hp}{Q':VK}{ta tb te:aG}{tr:bV}
def zQ:PV->Tg->PV->Tg->PK->Prop:=λx g y _ Q=>∃xs i z,iI x=some xs/\y = .int i/\L2.atI xs i=some z/\Q z g
theorem aR8:dU X zQ (U4 X.K):=by
 rintro W Hs H u v x y g g' Q Q' s n r1 r2 ⟨xs,i,z,e,rfl,hz,q⟩ k;cases r2
 obtain⟨a,us,rfl,hs,r⟩:=r1.seq e
 obtain⟨v,hv,rv⟩:=r.atI hz
 rcases hs with hs|hs
 ·exact .inl ⟨a,us,i,v,rfl,rfl,hs,hv,k v H z g (aD.refl _) rv q⟩
 ·exact .inr (.inl ⟨a,us,i,v,rfl,rfl,hs,hv,k v H z g (aD.refl _) rv q⟩)
def zR:PV->Option Nat
 |.tup xs=>some xs.length
 |.lst xs=>some xs.length
 |.scr ns=>some ns.length
 |.dK ps=>some ps.length
 |.kt xs=>some xs.length
 |.fL xs=>some xs.length
 |_=>none
def fR:List PV->(PV->Prop)->Prop:=λxs Q=>∃x n,xs = [x]/\zR x=some n/\Q (.int n)
theorem Reps.one {K:ae}{M:ax->Prop}{H:Hp}{vs:List V}{x:PV}(r:Reps K M H vs [x]):∃v,vs = [v]/\aI K M H v x:=by
 cases r with
 |cons r t=>cases t;exact⟨_,rfl,r⟩
theorem Reps.two {K:ae}{M:ax->Prop}{H:Hp}{vs:List V}{x y:PV}(r:Reps K M H vs [x,y]):∃v w,vs = [v,w]/\aI K M H v x/\aI K M H w y:=by
 cases r with
 |cons r t=>
  obtain⟨w,rfl,q⟩:=t.one
  exact⟨_,_,rfl,r,q⟩
theorem aR9:e8 X fR (λxs H Q=>(∃p ys,xs = [.ref p]/\(aU X.K H p ys∨aP X.K H p ys)/\Q (.int ys.length) H)∨∃a kvs,xs = [V.ref a]/\H a=some (.dK kvs)/\Q (.int kvs.length) H):=by
 rintro H vs xs Q Q' r ⟨x,n,rfl,e,q⟩ k
 obtain⟨v,rfl,r1⟩:=r.one
 have fin:∀{m:Nat},m=n->Q' (.int m) H:=λ{m} z=>by rw[z];exact k _ _ _ (aD.refl _) (.int _) q
 cases r1 with
 |tup h r2=>cases e;exact .inl ⟨_,_,rfl,.inr (aP.of h),fin r2.length⟩
 |lst m h r2=>cases e;exact .inl ⟨_,_,rfl,.inl (aU.of h),fin r2.length⟩
 |scr h=>cases e;exact .inl ⟨_,_,rfl,.inl h.sqL,fin (by rw[bF1])⟩
 |kt h r2=>cases e;exact .inl ⟨_,_,rfl,.inr (.inr h),fin r2.length⟩
 |fL h r2=>cases e;exact .inl ⟨_,_,rfl,.inl (.inl (.inr ⟨_,h⟩)),fin r2.length⟩
 |dK m h e' r=>
  cases e;refine .inr ⟨_,_,rfl,h,fin ?_⟩
  have:=congrArg List.length e'
  rw[bF1,bF1]at this;exact this
 |_=>cases e
def seqT:PV->Option (List PV)
 |.kt _=>none
 |x=>iI x
def ab0:List PV->(PV->Prop)->Prop:=λxs Q=>∃x ys,xs = [x]/\seqT x=some ys/\flats ys=true/\Q (.tup ys)
def zS:List PV->(PV->Prop)->Prop:=λxs Q=>∃x ys,xs = [x]/\iI x=some ys/\flats ys=true/\Q (.lst ys)
theorem aS0:e8 X (λxs Q=>ab0 xs Q/\∀ns,xs≠[.scr ns]) (λxs H Q=>∃p ys,xs = [.ref p]/\((aU X.K H p ys/\∀l,H l=none->Q (.ref l) (upd H l (.tup ys)))∨(aP X.K H p ys/\Q (.ref p) H))):=by
 rintro H vs xs Q Q' r ⟨⟨x,ys,rfl,e,f,q⟩,nsc⟩ k
 obtain⟨v,rfl,r1⟩:=r.one
 cases r1 with
 |tup h r2=>cases e;exact⟨_,_,rfl,.inr ⟨aP.of h,k _ _ _ (aD.refl _) (.tup h (r2.flat f)) q⟩⟩
 |lst m h r2=>cases e;exact⟨_,_,rfl,.inl ⟨aU.of h,λl hl=>k _ _ _ (bL hl _) (.tup b6 ((r2.flat f).same (bL hl _) λ_ z=>z)) q⟩⟩
 |scr h=>exact absurd rfl (nsc _)
 |fL h r2=>cases e;exact⟨_,_,rfl,.inl ⟨.inl (.inr ⟨_,h⟩),λl hl=>k _ _ _ (bL hl _) (.tup b6 ((r2.flat f).same (bL hl _) λ_ z=>z)) q⟩⟩
 |_=>cases e
theorem aS1:e8 X zS (λxs H Q=>∃p ys,xs = [.ref p]/\(aU X.K H p ys∨aP X.K H p ys)/\∀l,H l=none->Q (.ref l) (upd H l (.lst ys))):=by
 rintro H vs xs Q Q' r ⟨x,ys,rfl,e,f,q⟩ k
 obtain⟨v,rfl,r1⟩:=r.one
 obtain⟨a,us,rfl,hs,r2⟩:=r1.seq e
 exact⟨_,_,rfl,hs,λl hl=>k _ _ _ (bL hl _) (.lst hl b6 ((r2.flat f).same (bL hl _) λ_ z=>z)) q⟩
def uH:List PV->(PV->Prop)->Prop:=λxs Q=>∃ns,xs = [.lst (intz ns)]/\ns.length<64/\∀ms:ag,ms.Perm ns->ms.Pairwise (· <= ·)->Q (.lst (intz ms))
theorem aS2:e8 X uH (Y8 X.K):=by
 rintro H vs xs Q Q' r ⟨ns,rfl,hl,q⟩ k
 obtain⟨v,rfl,r1⟩:=r.one
 obtain⟨a,us,rfl,_,h,r2⟩:=r1.sqL
 obtain rfl:=r2.ofInts
 exact⟨a,ns,rfl,aU.of h,hl,λl ms hl' p o=>k _ _ _ (bL hl' _) (.lst hl' b6 (Reps.intz ms)) (q ms p o)⟩
def uI:List PV->(PV->Prop)->Prop:=λxs Q=>∃bs:List Bool,xs = [.lst (bs.map PV.bl)]/\Q (.bl (bs.all id))
theorem Reps.ofBls {K:ae}{M:ax->Prop}{H:Hp}:∀{ns:List Bool}{us:List V},Reps K M H us (ns.map PV.bl)->us=ns.map V.bl
 |[],_,.nil=>rfl
 |n::r,_,.cons q t=>by
  cases q;rw[Reps.ofBls t];rfl
theorem aS3:e8 X uI (λxs H Q=>∃(a:ax) (bs:List Bool),xs = [.ref a]/\aU X.K H a (bs.map V.bl)/\Q (.bl (bs.all id)) H):=by
 rintro H vs xs Q Q' r ⟨bs,rfl,q⟩ k
 obtain⟨v,rfl,r1⟩:=r.one
 obtain⟨a,us,rfl,_,h,r2⟩:=r1.sqL
 obtain rfl:=r2.ofBls
 exact⟨a,bs,rfl,aU.of h,k _ _ _ (aD.refl _) (.bl _) q⟩
def zT:List PV->(PV->Prop)->Prop:=λxs Q=>∃i j,xs = [.int i,.int j]/\Q (.int (if j<i then j else i))
def uJ:List PV->(PV->Prop)->Prop:=λxs Q=>∃i j,xs = [.int i,.int j]/\Q (.int (if j>i then j else i))
theorem aS4:e8 X zT (λxs H Q=>∃i j,xs = [.int i,.int j]/\Q (.int (if j<i then j else i)) H):=by
 rintro H vs xs Q Q' r ⟨i,j,rfl,q⟩ k
 obtain⟨v,w,rfl,r1,r2⟩:=r.two
 cases r1;cases r2
 exact⟨i,j,rfl,k _ _ _ (aD.refl _) (.int _) q⟩
theorem aS5:e8 X uJ (λxs H Q=>∃i j,xs = [.int i,.int j]/\Q (.int (if j>i then j else i)) H):=by
 rintro H vs xs Q Q' r ⟨i,j,rfl,q⟩ k
 obtain⟨v,w,rfl,r1,r2⟩:=r.two
 cases r1;cases r2
 exact⟨i,j,rfl,k _ _ _ (aD.refl _) (.int _) q⟩
abbrev bS:=List PV->(PV->Prop)->Prop
def qX (K:ae)(p:bS):Sp:=λvs H Q _=>∃xs Qp,Reps K (λ_=>True) H vs xs/\p xs Qp/\∀v H' x,aD H H'->aI K (λa=>H a=none) H' v x->Qp x->Q v H'
theorem aS6 {p:bS}{E:XK}(h:LE X (aE p tr) σ H Q'):xP (qX X.K p) [] E (LA X tr) σ H Q':=by
 obtain⟨W,ρ,Q,px,q,k⟩:=h
 refine⟨W,ρ,_,px,q,λvs H1 xs s1 r1 q1=>⟨_,_,by rw[bH4];exact r1.any,q1,λv H' x s2 r2 q2=>k v H' x .fr (s1.trans s2) (r2.same (aD.refl _) λ_ z=>s1.free z) q2⟩⟩
def aS7:PV->Option Bool
 |.non=>some false
 |.bl b=>some b
 |.int i=>some (i != 0)
 |.tup xs=>some (!xs.isEmpty)
 |.lst xs=>some (!xs.isEmpty)
 |.dK ps=>some (!ps.isEmpty)
 |_=>none
def uK (t:aG):cN:=λρ Q=>t ρ λx _=>∃b,aS7 x=some b/\Q b
theorem uL {α β:Type}:∀{l:List α}{m:List β},l.length=m.length->l.isEmpty=m.isEmpty
 |[],[],_=>rfl
 |_::_,_::_,_=>rfl
theorem aS8 {t:aG}{Qb:Bool->Hp->Prop}(h:LT X (uK t) σ H Qb):LE X t σ H λx H'=>∃k,xL X.K x H' k/\Qb k H':=by
 obtain⟨W,ρ,Q,px,q,k⟩:=h
 refine⟨W,ρ,_,px,q,?_⟩;rintro v H1 x g s r ⟨b,e,q⟩;refine⟨b,?_,k _ _ s q⟩;cases r with
 |non=>cases e;rfl
 |bl b=>cases e;rfl
 |int i=>cases e;rfl
 |str x=>cases e
 |tup h r=>cases e;exact .inr (.inl ⟨_,aP.of h,by rw[uL r.length]⟩)
 |lst m h r=>cases e;exact .inl ⟨_,aU.of h,by rw[uL r.length]⟩
 |dK m h e' r=>
  cases e;refine .inr (.inr ⟨_,h,?_⟩)
  have:=congrArg List.length e'
  rw[bF1,bF1]at this;rw[uL this]
 |dT m h e' r=>cases e
 |scr h=>cases e
 |kt h r=>cases e
 |exc h e' c=>cases e
 |fK h e' r=>cases e
 |fT h e' r=>cases e
 |fL h r=>cases e
 |fn h=>cases e
 |ob=>cases e
def iJ:PV->Bool
 |.non=>true
 |_=>false
def mG (neg:Bool):PV->Tg->PV->Tg->PK->Prop:=λx _ y _ Q=>y = .non/\Q (.bl (if neg=true then !iJ x else iJ x)) .fr
theorem ab1 {K:ae}{M:ax->Prop}{H:Hp}{v:V}{x:PV}(r:aI K M H v x):decide (v = .non)=iJ x:=by
 cases r<;>rfl
theorem ab2:dU X (mG false) (λx y H Q=>y = .non/\Q (.bl (decide (x = .non))) H):=by
 rintro W Hs H u v x y g g' Q Q' s n r1 r2 ⟨rfl,q⟩ k;cases r2
 exact⟨rfl,by rw[ab1 r1];exact k _ _ _ _ (aD.refl _) (.bl _) q⟩
theorem ab3:dU X (mG true) (λx y H Q=>y = .non/\Q (.bl (!decide (x = .non))) H):=by
 rintro W Hs H u v x y g g' Q Q' s n r1 r2 ⟨rfl,q⟩ k;cases r2
 exact⟨rfl,by rw[ab1 r1];exact k _ _ _ _ (aD.refl _) (.bl _) q⟩
end
structure qY (K:ae)(H0:Hp)(W:ax->Prop)(g:Bool)(H1:Hp)(J:It)(xs:List PV):Prop where
 go:∀W' H' i,Ev W H1 W' H'->i<xs.length->J.go i H'
 yld:∀W' H' i v H2,Ev W H1 W' H'->J.yld i H' v H2->i<xs.length->aD H' H2/\∃x,xs[i]? = some x/\aI K (Ms H0 W' g) H2 v x
 stop:∀W' H',Ev W H1 W' H'->J.stop xs.length H'
abbrev gL:=b8->(List PV->Bool->Prop)->Prop
def LI (X:Cx)(t:gL):TI:=λσ H R=>∃(W:ax->Prop) (ρ:b8) (Q:List PV->Bool->Prop),PX X.K X.H₀ W σ ρ H/\t ρ Q/\∀J H1 xs g,aD H H1->qY X.K X.H₀ W g H1 J xs->Q xs g->R J H1
theorem Ev.keep {H0:Hp}{W W':ax->Prop}{H H':Hp}{g:Bool}(e:Ev W H W' H')(tw:∀a,W a->∃o,H a=some o/\gC o=true):eW (Ms H0 W g) (Ms H0 W' g) H H':=by
 have m:∀{a:ax}{o:HO},Ms H0 W g a->H a=some o->oN o=false->Ms H0 W' g a/\H' a=some o:=λ{a o} z h hk=>by
  cases g with
  |true=>
   obtain⟨h1,h2⟩:=e a _ h z.1 hk
   exact⟨⟨h2,z.2⟩,h1⟩
  |false=>
   obtain⟨h1,h2⟩:=e a _ h z hk
   exact⟨h2,h1⟩
 refine⟨λa _ z h=>m z h rfl,λa _ z h=>m z h rfl,λa _ z h=>m z h rfl,λa _ h=>(e a _ h (λz=>?_) rfl).1,λa _ _ h f=>(e a _ h (λz=>?_) f).1⟩
 ·obtain⟨o,h',mu⟩:=tw a z;rw[h]at h';cases h';cases mu
 ·obtain⟨o,h',mu⟩:=tw a z;rw[h]at h';cases h';cases mu
section
variable {X:Cx}{σ:St}{H:Hp}{te:aG}{tr:bV}{R:It→Hp→Prop}
def ab4 (K:ae)(tl:TE):TI:=λσ H R=>tl σ H λx H1=>∃a,x = .ref a/\((∃xs,aU K H1 a xs/\R (oC K a) H1)∨(∃xs,aP K H1 a xs/\R (m3 K a) H1))
def zU:Tg->List PV->Bool
 |.fr,_=>true
 |.nw,_=>true
 |_,xs=>flats xs
def eC (te:aG):gL:=λρ Q=>te ρ λx g=>∃xs,iI x=some xs/\(g = .rd->flat x=true)/\Q xs (zU g xs)
theorem zV {K:ae}{H0:Hp}{W:ax->Prop}{g:Bool}{H1:Hp}{a:ax}{us:List V}{xs:List PV}(tw:∀a,W a->∃o,H1 a=some o/\gC o=true)(ha:∀W' H',Ev W H1 W' H'->aU K H' a us)(r:Reps K (Ms H0 W g) H1 us xs):qY K H0 W g H1 (oC K a) xs:=by
 have lr:=r.length;refine⟨λW' H' i e hi=>⟨us,us[i]'(by omega),ha W' H' e,by simp⟩,λW' H' i v H2 e y hi=>?_,λW' H' e=>⟨us,ha W' H' e,by omega⟩⟩
 obtain⟨rfl,y⟩:=y
 obtain⟨x,hx,rx⟩:=r.get (y us (ha W' _ e))
 exact⟨aD.refl _,x,hx,rx.keep (e.keep tw)⟩
theorem ab5 {K:ae}{H0:Hp}{W:ax->Prop}{g:Bool}{H1:Hp}{a:ax}{us:List V}{xs:List PV}(tw:∀a,W a->∃o,H1 a=some o/\gC o=true)(ha:∀W' H',Ev W H1 W' H'->aP K H' a us)(r:Reps K (Ms H0 W g) H1 us xs):qY K H0 W g H1 (m3 K a) xs:=by
 have lr:=r.length;refine⟨λW' H' i e hi=>⟨us,us[i]'(by omega),ha W' H' e,by simp⟩,λW' H' i v H2 e y hi=>?_,λW' H' e=>⟨us,ha W' H' e,by omega⟩⟩
 obtain⟨rfl,y⟩:=y
 obtain⟨x,hx,rx⟩:=r.get (y us (ha W' _ e))
 exact⟨aD.refl _,x,hx,rx.keep (e.keep tw)⟩
theorem oT {K:ae}{H0 Hs H:Hp}{W:ax->Prop}{σ:St}{ρ:b8}{g:Tg}{us:List V}{xs:List PV}(px:PX K H0 W σ ρ Hs)(hg:g = .rd->flats xs=true)(r:Reps K (Mg H0 W Hs g) H us xs):Reps K (Ms H0 W (zU g xs)) H us xs:=by
 cases g with
 |fr=>exact r.same (aD.refl _) λ_ z=>px.new z
 |nw=>exact r.same (aD.refl _) λ_ z=>z
 |sh=>
  show Reps K (Ms H0 W (flats xs)) H us xs;cases e:flats xs with
  |true=>exact r.flat e
  |false=>exact r.same (aD.refl _) λ_ z=>z
 |rd=>exact r.flat (hg rfl)
theorem aS9 (h:LI X (eC te) σ H R):ab4 X.K (LE X te) σ H R:=by
 obtain⟨W,ρ,Q,px,q,k⟩:=h
 refine⟨W,ρ,_,px,q,?_⟩;rintro v H1 x g s r ⟨xs,e,hg,q⟩;have px1:=px.mono s;have tw:∀a,W a->∃o,H1 a=some o/\gC o=true:=λa z=>(px1.wm a z).2
 cases r with
 |tup h r=>
  cases e;refine⟨_,rfl,.inr ⟨_,aP.of h,k _ _ _ _ s (ab5 tw (λW' H' e=>aP.of (e _ _ h (λz=>?_) rfl).1) (oT px (λz=>by have:=hg z;unfold flat at this;exact this) r)) q⟩⟩
  obtain⟨o,h',mu⟩:=tw _ z;rw[h]at h';cases h';cases mu
 |@lst a us xs' m h r=>
  cases e;have wa:¬W a:=by
   cases g with
   |fr=>exact (px.new m).1
   |nw=>exact m.1
   |sh=>exact m
   |rd=>have:=hg rfl;unfold flat at this;cases this
  exact⟨_,rfl,.inl ⟨_,aU.of h,k _ _ _ _ s (zV tw (λW' H' e=>aU.of (e _ _ h wa rfl).1) (oT px (λz=>by have:=hg z;unfold flat at this;cases this) r)) q⟩⟩
 |scr h=>
  cases e;refine⟨_,rfl,.inl ⟨_,h.sqL,k _ _ _ _ s (zV tw (λW' H' e=>(l0.keep (λa o u hz f=>(e _ _ hz (λz=>?_) f).1) h).sqL) (oT (g:=g) px (λz=>cH _) (Reps.intz _))) q⟩⟩
  obtain⟨o,h',mu⟩:=tw _ z;rw[hz]at h';cases h';cases mu
 |kt h r=>
  cases e
  exact⟨_,rfl,.inr ⟨_,.inr h,k _ _ _ _ s (ab5 tw (λW' H' e=>.inr h) (oT px (λz=>by have:=hg z;unfold flat at this;exact this) r)) q⟩⟩
 |fL h r=>
  cases e;refine⟨_,rfl,.inl ⟨_,.inl (.inr ⟨_,h⟩),k _ _ _ _ s (zV tw (λW' H' e=>.inl (.inr ⟨_,(e _ _ h (λz=>?_) rfl).1⟩)) (oT px (λz=>by have:=hg z;unfold flat at this;exact this) r)) q⟩⟩
  obtain⟨o,h',mu⟩:=tw _ z;rw[h]at h';cases h';cases mu
 |_=>cases e
def eD (lo:Int)(n:Nat):List PV:=(List.range n).map λ(i:Nat)=>PV.int (lo+(i:Int))
theorem gV (lo:Int)(n:Nat):(eD lo n).length=n:=by unfold eD;rw[bF1,bJ2]
theorem ab6 {lo:Int}{n i:Nat}(h:i<n):(eD lo n)[i]? = some (.int (lo+i)):=by unfold eD;rw[bG4,bS7 h];rfl
def gM (te:aG):gL:=λρ Q=>te ρ λx _=>∃j:Int,x = .int j/\-1000000<=j/\j<=1000000/\Q (eD 0 j.toNat) true
def zW (ta tb:aG):gL:=λρ Q=>ta ρ λx _=>tb ρ λy _=>∃i j:Int,x = .int i/\y = .int j/\(-1000000<=i/\i<=1000000/\-1000000<=j/\j<=1000000)/\Q (eD i (j-i).toNat) true
theorem ab7 {K:ae}{H0:Hp}{W:ax->Prop}{H1:Hp}(lo:Int)(n:Nat):qY K H0 W true H1 (qA lo n) (eD lo n):=by
 refine⟨λW' H' i e hi=>by rw[gV]at hi;exact hi,λW' H' i v H2 e y hi=>?_,λW' H' e=>by show n<=(eD lo n).length;rw[gV];exact bF7 _⟩;rw[gV]at hi
 obtain⟨rfl,rfl⟩:=y
 exact⟨aD.refl _,_,ab6 hi,.int _⟩
theorem aT0 (h:LI X (gM te) σ H R):Q2 (iY (LE X te) g9) σ H R:=by
 obtain⟨W,ρ,Q,px,q,k⟩:=h
 refine⟨W,ρ,_,px,q,?_⟩;rintro v H1 x g s r ⟨j,rfl,h1,h2,q⟩;cases r
 exact⟨j,rfl,by omega,by omega,k _ _ _ _ s (ab7 0 j.toNat) q⟩
theorem aT1 {ta tb:aG}(h:LI X (zW ta tb) σ H R):Q3 (iY (LE X ta) (iY (LE X tb) g9)) σ H R:=by
 obtain⟨W,ρ,Q,px,q,k⟩:=h
 refine⟨W,ρ,_,px,q,λv H1 x g s r q=>⟨W,ρ,_,px.mono s,q,?_⟩⟩;rintro w H2 y g' s2 r2 ⟨i,j,rfl,rfl,h,q⟩;cases r;cases r2
 exact⟨i,j,rfl,by omega,k _ _ _ _ (s.trans s2) (ab7 i (j-i).toNat) q⟩
end
abbrev mH:=PV->Bool->b8->(b8->Prop)->Prop
def qZ (K:ae)(own:Nat->Prop)(p:mH)(t:TG):Prop:=∀(H0:Hp) (W:ax->Prop) (σ:St) (ρ:b8) (H:Hp) (v:V) (x:PV) (g:Bool) (Q:b8->Prop) (Q':St->Hp->Prop),
 PX K H0 W σ ρ H->aI K (Ms H0 W g) H v x->p x g ρ Q->(∀σ' ρ',PX K H0 W σ' ρ' H->(∀i,¬own i->σ'[i]? = σ[i]?)->σ'.length=σ.length->Q ρ'->Q' σ' H)->t v σ H Q'
def bW (i:Nat):mH:=λx g ρ Q=>Q (ρ.set i (some (.sh (g||flat x) x)))
theorem r6 {K:ae}{H0 H:Hp}{W:ax->Prop}{v:V}{x:PV}{g:Bool}(r:aI K (Ms H0 W g) H v x):aI K (Ms H0 W (g||flat x)) H v x:=by
 cases g with
 |true=>exact r
 |false=>
  show aI K (Ms H0 W (flat x)) H v x;cases e:flat x with
  |true=>exact r.flat e
  |false=>exact r
theorem uM (K:ae)(i:Nat):qZ K (· = i) (bW i) (dN i):=by
 intro H0 W σ ρ H v x g Q Q' px r q k;exact k _ _ (px.setSh (r6 r)) (λj hj=>by rw[bH2 (Ne.symm hj)]) (bK3 ..) q
def k7 (i j:Nat):mH:=λx g ρ Q=>∃y z,x = .tup [y,z]/\Q ((ρ.set i (some (.sh (g||flat y) y))).set j (some (.sh (g||flat z) z)))
theorem zX (K:ae)(i j:Nat):qZ K (λk=>k=i∨k=j) (k7 i j) (nI K 2 (iB (dN i) (iB (dN j) nH))):=by
 intro H0 W σ ρ H v x g Q Q' px r q k
 obtain⟨y,z,rfl,q⟩:=q
 obtain⟨a,us,rfl,h,r⟩:=r.sqT
 obtain⟨u1,u2,rfl,r1,r2⟩:=r.two
 refine⟨a,_,rfl,aP.of h,rfl,u1,_,rfl,u2,_,rfl,rfl,k _ _ ((px.setSh (r6 r1)).setSh (r6 r2)) (λk hk=>?_) (by rw[bK3,bK3]) q⟩;rw[bH2 (λe=>hk (.inr e.symm)),bH2 (λe=>hk (.inl e.symm))]
section
variable {X:Cx}{σ:St}{H:Hp}{D:bP}
def e9 (ti:gL)(p:mH)(tb:aT):aT:=λD ρ=>ti ρ λxs g=>∃I:Nat->b8->Prop,I 0 ρ/\(∀i x ρ',xs[i]? = some x->I i ρ'->p x g ρ' λρ2=>tb { D with nx:=I (i+1),ct:=I (i+1),bk:=D.nx } ρ2)/\∀ρ',I xs.length ρ'->D.nx ρ'
theorem aT2 {ti:gL}{p:mH}{g:TG}{tb:aT}{own:Nat->Prop}(hg:qZ X.K own p g)(h:LS X (e9 ti p tb) D σ H):Q4 (LI X ti) g (LS X tb) D σ H:=by
 obtain⟨W,ρ,D',px,q,k⟩:=h
 refine⟨W,ρ,_,px,q,?_⟩;rintro J H1 xs gb s it ⟨I,i0,turn,fin⟩;refine⟨λi m σ2 H2=>m=xs.length-i/\i<=xs.length/\∃W2 ρ2,PX X.K X.H₀ W2 σ2 ρ2 H2/\Ev W H1 W2 H2/\I i ρ2,⟨xs.length,by omega,bI2 _,W,ρ,px.mono s,Ev.refl _ _,i0⟩,?_⟩;rintro i m σ2 H2 ⟨rfl,hi,W2,ρ2,px2,e2,i2⟩;have e0:Ev W H W2 H2:=(Ev.same s).trans e2;by_cases hlt:i<xs.length
 ·refine .inr ⟨it.go W2 H2 i e2 hlt,λσ3 H3=>∃W3 ρ3,PX X.K X.H₀ W3 σ3 ρ3 H3/\Ev W H1 W3 H3/\I (i+1) ρ3,λσ3 H3 ⟨W3,ρ3,a,b,c⟩=>⟨xs.length-(i+1),by omega,rfl,hlt,W3,ρ3,a,b,c⟩,λv H3 y=>?_⟩
  obtain⟨s3,x,hx,rx⟩:=it.yld W2 H2 i v H3 e2 y hlt
  refine hg X.H₀ W2 σ2 ρ2 H3 v x gb _ _ (px2.mono s3) rx (turn i x ρ2 hx i2) λσ4 ρ4 px4 _ _ q4=>?_
  have e3:Ev W H1 W2 H3:=e2.trans (Ev.same s3);have e3':Ev W H W2 H3:=e0.trans (Ev.same s3)
  exact⟨W2,ρ4,_,px4,q4,λW' σ' H' ρ' e p q=>⟨W',ρ',p,e3.trans e,q⟩,k.rt,λW' σ' H' ρ' e p q=>k.nx W' σ' H' ρ' (e3'.trans e) p q,λW' σ' H' ρ' e p q=>⟨W',ρ',p,e3.trans e,q⟩⟩
 ·have e:i=xs.length:=by omega
  subst e;exact .inl ⟨it.stop W2 H2 e2,k.nx W2 σ2 H2 ρ2 e0 px2 (fin ρ2 i2)⟩
end
def Slot.blk:Slot->Slot
 |.kp _ x ks=>.kp false x ks
 |.sh _ x=>.sh false x
 |.own x=>.sh false x
def oU (fr:List (Option Nat))(ρ:b8):b8:=fr.map λo=>o.bind λj=>(ρ[j]?).join.map Slot.blk
theorem cS.any {K:ae}{H0 H:Hp}{a:ax}{st un:List PV}(h:cS K H0 H a st un):cS K (λ_=>none) H a st un:=by
 obtain⟨C,dx,l1,l2,us1,us2,h1,h2,h⟩:=h
 exact⟨C,dx,l1,l2,us1,us2,h1,⟨rfl,rfl,rfl,rfl⟩,h⟩
theorem iF.any {K:ae}{H0 H:Hp}{ks:List (ax×List PV×List PV)}(h:iF K H0 H ks):iF K (λ_=>none) H ks:=⟨λk hk=>(h.1 k hk).any,h.2⟩
theorem Slot.blk_own {m:Slot}{x:PV}(h:m.blk = .own x):False:=by
 cases m<;>cases h
theorem aT3 {K:ae}{H0 H1 H1' H':Hp}{W W':ax->Prop}{v:V}{m:Slot}(r:u9 K H0 W H1 v m)(k:eW (λ_=>False) (λ_=>False) H1 H')(f:∀b o,H1 b=some o->gC o=false->H' b=some o)(rv:aI K (λa=>¬W' a) H' v m.val):u9 K H1' W' H' v m.blk:=by
 cases m with
 |sh g x=>exact rv
 |own x=>exact rv
 |kp g x ks=>exact⟨⟨r.1.1.keep k,r.1.2⟩,r.2.any.keep k f⟩
def nR (D:ax):ax->Prop:=λa=>a=D
theorem aT4 {K:ae}{H0:Hp}{W:ax->Prop}{σ:St}{ρ:b8}{H1 H':Hp}{D:ax}{acc:List V}{fr:List (Option Nat)}(px:PX K H0 W σ ρ H1)(hD:H1 D=none)(s:aD H1 H')(ha:H' D=some (.lst acc)) :
  PX K H1 (nR D) (gT fr σ) (oU fr ρ) H':=by
 have old:∀{a:ax}{o:HO},H1 a=some o->a≠D:=λ{a o} e z=>by rw[z,hD]at e;cases e
 refine⟨by unfold gT oU;rw[bF1,bF1],s,λa z=>by cases z;exact⟨hD,_,ha,rfl⟩,λi m h=>?_,λi j x y a h1=>?_⟩
 ·unfold oU at h
  rw[bG4]at h;cases ef:fr[i]? with
  |none=>rw[ef]at h;cases h
  |some o=>
   rw[ef]at h;cases o with
   |none=>cases h
   |some j=>
    have h:some ((ρ[j]?).join.map Slot.blk)=some (some m):=h;cases er:ρ[j]? with
    |none=>rw[er]at h;cases h
    |some o=>
     rw[er]at h;cases o with
     |none=>cases h
     |some m0=>
      cases h
      obtain⟨v,ev,r⟩:=px.sl j m0 er
      refine⟨v,?_,?_⟩
      ·unfold gT
       rw[bG4,ef];show some ((σ[j]?).join)=_;rw[ev];rfl
      ·have r':aI K (λ_=>True) H1 v m0.val:=(aa1 (Hs:=H1) r).same (aD.refl _) λ_ _=>trivial
       refine aT3 r (.same s λ_ z=>z) (λ_ _ e _=>s _ _ e) ?_;exact r'.keep ⟨λa _ _ e=>⟨old e,s _ _ e⟩,λa _ _ e=>⟨old e,s _ _ e⟩,λa _ _ e=>⟨old e,s _ _ e⟩,λ_ _ e=>s _ _ e,λ_ _ _ e _=>s _ _ e⟩
 ·unfold oU at h1
  rw[bG4]at h1;cases ef:fr[i]? with
  |none=>rw[ef]at h1;cases h1
  |some o=>
   rw[ef]at h1;cases o with
   |none=>cases h1
   |some j=>
    have h1:some ((ρ[j]?).join.map Slot.blk)=some (some (Slot.own x)):=h1;cases er:ρ[j]? with
    |none=>rw[er]at h1;cases h1
    |some o=>
     rw[er]at h1;cases o with
     |none=>cases h1
     |some m0=>exact (Slot.blk_own (bG9 (bG9 h1))).elim
section
variable {X:Cx}{σ:St}{H:Hp}{Q':VK}
abbrev _root_.L2.Cx.frm (X:Cx)(H1:Hp):Cx:={ X with H₀:=H1 }
def dH (ti:gL)(fr:List (Option Nat))(p:mH)(tc:cN)(te:aG):aG:=λρ Q=>ti ρ λxs g=>xs.length<=16000000/\∃I:Nat->List PV->Prop,I 0 []/\
 (∀i x acc,xs[i]? = some x->I i acc->p x false (oU fr ρ) λρ2=>tc ρ2 λb=>if b=true then te ρ2 λy gy=>Nw gy y/\I (i+1) (acc++[y]) else I (i+1) acc)/\∀acc,I xs.length acc->Q (.lst acc) .fr
theorem r9 {ti:gL}{fr:List (Option Nat)}{p:mH}{g:TG}{tc:cN}{te:aG}{own:Nat->Prop}(hg:qZ X.K own p g)(ho:∀i,own i->fr[i]? = some none)(h:LE X (dH ti fr p tc te) σ H Q') :
  yT (LI X ti) fr (λ_=>g) (λH1=>LT (X.frm H1) tc) (λH1=>LE (X.frm H1) te) σ H Q':=by
 obtain⟨W,ρ,Q,px,q,k⟩:=h
 refine⟨W,ρ,_,px,q,?_⟩;rintro J H1 xs gb s it ⟨hl,I,i0,turn,fin⟩ D hD;have px1:=px.mono s;refine⟨λi m acc H'=>m=xs.length-i/\i<=xs.length/\aD H1 H'/\H' D=some (.lst acc)/\∃ys,Reps X.K (Ms H1 (nR D) true) H' acc ys/\ys.length<=i/\I i ys,⟨xs.length,by omega,bI2 _,bL hD _,b6,[],.nil,bF7 _,i0⟩,?_⟩;rintro i m acc H' ⟨rfl,hi,sm,ha,ys,ry,hy,iy⟩;refine⟨ha,?_⟩;have ev:Ev W H1 (oR W D) H':=Ev.own sm hD;by_cases hlt:i<xs.length
 ·refine .inr ⟨it.go _ H' i ev hlt,λv H2 y=>?_⟩
  obtain⟨s2,x,hx,rx⟩:=it.yld _ H' i v H2 ev y hlt
  have ha2:=s2 _ _ ha;have pxb:PX X.K H1 (nR D) (gT fr σ) (oU fr ρ) H2:=aT4 px1 hD (sm.trans s2) ha2;have rx':aI X.K (Ms H1 (nR D) false) H2 v x:=rx.same (aD.refl _) λa z=>by
   cases gb with
   |true=>exact λe=>z.1 (.inr e)
   |false=>exact λe=>z (.inr e)
  refine hg H1 (nR D) _ _ H2 v x false _ _ pxb rx' (turn i x ys hx iy) λσ2 ρ2 px2 hown am q2=>⟨⟨am.symm,λj w e=>?_⟩,?_⟩
  ·by_cases oj:own j
   ·have:=ho j oj
    unfold gT at e;rw[bG4,this]at e;cases e
   ·rw[hown j oj];exact e
  ·refine⟨nR D,ρ2,_,px2,q2,λb H4 s4 q4=>?_⟩
   have ha4:=s4 _ _ ha2;have sm4:=(sm.trans s2).trans s4;cases b with
   |false=>
    refine aM ⟨xs.length-(i+1),by omega,rfl,hlt,sm4,ha4,ys,ry.same (s2.trans s4) λ_ z=>z,by omega,by simpa using q4⟩
   |true=>
    refine aY ⟨nR D,ρ2,_,px2.mono s4,by simpa using q4,?_⟩;rintro w H5 y gy s5 ryy ⟨nw,q5⟩;have ha5:=s5 _ _ ha4;have lr:=ry.length;refine⟨ha5,j4 (by omega),xs.length-(i+1),by omega,rfl,hlt,λb o e=>?_,b6,ys++[y],?_,by rw[bF4,bJ3];omega,q5⟩
    ·rw[aL (λz=>by rw[z,hD]at e;cases e)]
     exact s5 _ _ (sm4 _ _ e)
    ·exact ((ry.same ((s2.trans s4).trans s5) λ_ z=>z).append (.cons (Nw.rep (px2.mono s4) nw ryy) .nil)).keep (.upd ha5 rfl λb m=>⟨m.1,m⟩)
 ·have e:i=xs.length:=by omega
  subst e;refine .inl ⟨it.stop _ H' ev,k _ H' _ .fr (s.trans sm) (.lst (s.free hD) ha (ry.same (aD.refl _) λ_ z=>s.free z.2)) (fin ys iy)⟩
def iK:cN:=λ_ Q=>Q true
theorem aT5 {Qb:Bool->Hp->Prop}(h:LT X iK σ H Qb):yQ σ H Qb:=by
 obtain⟨W,ρ,Q,px,q,k⟩:=h
 exact k _ _ (aD.refl _) q
end
section
variable {κ:Type}[DecidableEq κ]
def bQ (ps:List (κ×PV))(k:κ):Option PV:=(ps.find? λp=>decide (p.1=k)).map (·.2)
def dX (ps:List (κ×PV))(k:κ)(x:PV):List (κ×PV):=if (ps.any λp=>decide (p.1=k))=true then ps.map (λp=>if p.1=k then (p.1,x) else p) else ps++[(k,x)]
variable {K:ae}{M:ax→Prop}{H:Hp}
theorem lB (k:κ):∀{kvs:List (κ×V)}{ps:List (κ×PV)},kvs.map (·.1)=ps.map (·.1)->Reps K M H (kvs.map (·.2)) (ps.map (·.2))->(bQ ps k=none->fE kvs k=none)/\∀x,bQ ps k=some x->∃v,fE kvs k=some v/\aI K M H v x
 |[],[],_,_=>⟨λ_=>rfl,λx h=>by cases h⟩
 |[],_::_,e,_=>by cases e
 |_::_,[],e,_=>by cases e
 |(k1,v)::kvs,(k2,x)::ps,e,r=>by
  injection e with e1 e2
  have e1:k1=k2:=e1;subst e1;cases r with
  |cons r t=>
   obtain⟨h1,h2⟩:=lB k e2 t
   unfold bQ fE at h1 h2 ⊢;by_cases e:k1=k
   ·simp only[bP1,e,decide_true,Option.map_some]
    exact⟨λz=>(by cases z),λy z=>(by cases z;exact⟨v,rfl,r⟩)⟩
   ·simp only[bP1,e,decide_false]
    exact⟨h1,h2⟩
theorem aT6 (k:κ){kvs:List (κ×V)}{ps:List (κ×PV)}(e:kvs.map (·.1)=ps.map (·.1)):(kvs.any λp=>decide (p.1=k))=ps.any λp=>decide (p.1=k):=by
 have h1:(kvs.any λp=>decide (p.1=k))=(kvs.map (·.1)).any λz=>decide (z=k):=by rw[List.any_map];rfl
 have h2:(ps.any λp=>decide (p.1=k))=(ps.map (·.1)).any λz=>decide (z=k):=by rw[List.any_map];rfl
 rw[h1,h2,e]
theorem ab8 (k:κ){w:V}{y:PV}(q:aI K M H w y):∀{kvs:List (κ×V)}{ps:List (κ×PV)},kvs.map (·.1)=ps.map (·.1)->Reps K M H (kvs.map (·.2)) (ps.map (·.2))->
  (kvs.map λkv=>if kv.1=k then (kv.1,w) else kv).map (·.1)=(ps.map λkv=>if kv.1=k then (kv.1,y) else kv).map (·.1)/\Reps K M H ((kvs.map λkv=>if kv.1=k then (kv.1,w) else kv).map (·.2)) ((ps.map λkv=>if kv.1=k then (kv.1,y) else kv).map (·.2))
 |[],[],_,_=>⟨rfl,.nil⟩
 |[],_::_,e,_=>by cases e
 |_::_,[],e,_=>by cases e
 |(k1,v)::kvs,(k2,x)::ps,e,r=>by
  injection e with e1 e2
  have e1:k1=k2:=e1;subst e1;cases r with
  |cons r t=>
   obtain⟨h1,h2⟩:=ab8 k q e2 t
   by_cases e:k1=k
   ·simp only[bL0,e,if_true]
    exact⟨by rw[h1],.cons q h2⟩
   ·simp only[bL0,e,bM7]
    exact⟨by rw[h1],.cons r h2⟩
theorem zY (k:κ){w:V}{y:PV}(q:aI K M H w y){kvs:List (κ×V)}{ps:List (κ×PV)}(e:kvs.map (·.1)=ps.map (·.1))(r:Reps K M H (kvs.map (·.2)) (ps.map (·.2))) :
  (eU kvs k w).map (·.1)=(dX ps k y).map (·.1)/\Reps K M H ((eU kvs k w).map (·.2)) ((dX ps k y).map (·.2)):=by
 unfold eU dX;rw[aT6 k e];split
 ·exact ab8 k q e r
 ·rw[bJ1,bJ1,bJ1,bJ1,e]
  exact⟨rfl,r.append (.cons q .nil)⟩
end
def kP:aF->PV
 |.inl i=>.int i
 |.inr x=>.str x
theorem zZ {K:ae}{M:ax->Prop}{H:Hp}{v:V}{k:aF}(r:aI K M H v (kP k)):v=kV k:=by
 cases k with
 |inl i=>cases r;rfl
 |inr x=>cases r;rfl
theorem A0 {K:ae}{M:ax->Prop}{H:Hp}:∀{ks:List aF}{us:List V},Reps K M H us (ks.map kP)->us=ks.map kV
 |[],_,.nil=>rfl
 |k::r,_,.cons q t=>by rw[zZ q,A0 t];rfl
def unF:PV->PV
 |.fK ps=>.dK ps
 |.fT ps=>.dT ps
 |x=>x
def A1 (x y:PV)(o:Option PV):Prop:=(∃ps k,unF x = .dK ps/\y=kP k/\o=bQ ps k)∨(∃ps k,unF x = .dT ps/\y = .tup (k.map kP)/\o=bQ ps k)
theorem uN {K:ae}{M M2:ax->Prop}{H:Hp}{v w:V}{x y:PV}{o:Option PV}(h:A1 x y o)(rx:aI K M H v x)(ry:aI K M2 H w y):∃a o',v = .ref a/\gB H a w o'/\(o=none->o'=none)/\∀z,o=some z->∃u,o'=some u/\aI K M H u z:=by
 rcases h with⟨ps,k,ex,rfl,rfl⟩|⟨ps,k,ex,rfl,rfl⟩
 ·obtain rfl:=zZ ry
  cases rx with
  |dK m h e r=>cases ex;exact⟨_,_,rfl,gB.k h,(lB k e r).1,(lB k e r).2⟩
  |fK h e r=>cases ex;exact⟨_,_,rfl,.inl ⟨_,k,.inr ⟨_,h⟩,rfl,rfl⟩,(lB k e r).1,(lB k e r).2⟩
  |_=>cases ex
 ·obtain⟨b,us,rfl,hb,rb⟩:=ry.sqT
  obtain rfl:=A0 rb;cases rx with
  |dT m h e r=>cases ex;exact⟨_,_,rfl,gB.t h hb,(lB k e r).1,(lB k e r).2⟩
  |fT h e r=>cases ex;exact⟨_,_,rfl,.inr ⟨_,k,b,.inr ⟨_,h⟩,rfl,hb,rfl⟩,(lB k e r).1,(lB k e r).2⟩
  |_=>cases ex
section
variable {X:Cx}{σ:St}{H:Hp}{D:bP}{tk td te:aG}{Q':VK}
def kB (neg:Bool)(tk td:aG):aG:=λρ Q=>tk ρ λy _=>td ρ λx _=>∃o,A1 x y o/\Q (.bl (if neg=true then !o.isSome else o.isSome)) .fr
theorem ab9 {α β:Type}{o:Option α}{o':Option β}{P:β->α->Prop}(h1:o=none->o'=none)(h2:∀z,o=some z->∃u,o'=some u/\P u z):o'.isSome=o.isSome:=by
 cases o with
 |none=>rw[h1 rfl];rfl
 |some z=>obtain⟨u,e,_⟩:=h2 z rfl;rw[e];rfl
theorem aT7 (h:LE X (kB false tk td) σ H Q'):V9 (LE X tk) (LE X td) σ H Q':=by
 obtain⟨W,ρ,Q,px,q,k⟩:=h
 refine⟨W,ρ,_,px,q,λw H1 y g s r q=>⟨W,ρ,_,px.mono s,q,?_⟩⟩;rintro v H2 x g' s2 r2 ⟨o,ak,q⟩
 obtain⟨a,o',rfl,dg,h1,h2⟩:=uN ak r2 (r.same s2 λ_ z=>z)
 refine⟨a,o',rfl,dg,?_⟩;rw[ab9 h1 h2];exact k _ _ _ .fr (s.trans s2) (.bl _) q
theorem ac0 (h:LE X (kB true tk td) σ H Q'):W0 (LE X tk) (LE X td) σ H Q':=by
 obtain⟨W,ρ,Q,px,q,k⟩:=h
 refine⟨W,ρ,_,px,q,λw H1 y g s r q=>⟨W,ρ,_,px.mono s,q,?_⟩⟩;rintro v H2 x g' s2 r2 ⟨o,ak,q⟩
 obtain⟨a,o',rfl,dg,h1,h2⟩:=uN ak r2 (r.same s2 λ_ z=>z)
 refine⟨a,o',rfl,dg,?_⟩;rw[ab9 h1 h2];exact k _ _ _ .fr (s.trans s2) (.bl _) q
def uO (td tk:aG):aG:=λρ Q=>td ρ λx g=>tk ρ λy _=>∃z,A1 x y (some z)/\Q z g
theorem aT8 (h:LE X (uO td tk) σ H Q'):V8 (LE X td) (LE X tk) σ H Q':=by
 obtain⟨W,ρ,Q,px,q,k⟩:=h
 refine⟨W,ρ,_,px,q,λv H1 x g s r q=>⟨W,ρ,_,px.mono s,q,?_⟩⟩;rintro w H2 y g' s2 r2 ⟨z,ak,q⟩
 obtain⟨a,o',rfl,dg,h1,h2⟩:=uN ak (r.same s2 λ_ z=>z) r2
 obtain⟨u,rfl,ru⟩:=h2 z rfl
 exact⟨a,u,rfl,dg,k _ _ _ g (s.trans s2) ru q⟩
theorem PX.updD {K:ae}{H0:Hp}{W:ax->Prop}{σ:St}{ρ:b8}{H:Hp}{i:Nat}{a:ax}{x:PV}{kvs:List (aF×V)}{ps:List (aF×PV)}(p:PX K H0 W σ ρ H)(hi:ρ[i]? = some (some (.own x)))(ha:σ[i]? = some (some (.ref a)))(wa:W a)(r:kvs.map (·.1)=ps.map (·.1)/\Reps K (Ms H0 W true) (upd H a (.dK kvs)) (kvs.map (·.2)) (ps.map (·.2))):PX K H0 W σ (ρ.set i (some (.own (.dK ps)))) (upd H a (.dK kvs)):=p.updOwn hi ha wa rfl (y:=.dK ps) ⟨kvs,b6,r⟩
theorem PX.updT {K:ae}{H0:Hp}{W:ax->Prop}{σ:St}{ρ:b8}{H:Hp}{i:Nat}{a:ax}{x:PV}{kvs:List (List aF×V)}{ps:List (List aF×PV)}(p:PX K H0 W σ ρ H)(hi:ρ[i]? = some (some (.own x)))(ha:σ[i]? = some (some (.ref a)))(wa:W a)(r:kvs.map (·.1)=ps.map (·.1)/\Reps K (Ms H0 W true) (upd H a (.dT kvs)) (kvs.map (·.2)) (ps.map (·.2))):PX K H0 W σ (ρ.set i (some (.own (.dT ps)))) (upd H a (.dT kvs)):=p.updOwn hi ha wa rfl (y:=.dT ps) ⟨kvs,b6,r⟩
theorem uP {κ α β:Type}{l:List (κ×α)}{m:List (κ×β)}(e:l.map (·.1)=m.map (·.1)):l.length=m.length:=by
 have:=congrArg List.length e
 rw[bF1,bF1]at this;exact this
def uQ (i:Nat)(tk te:aG):aT:=λD ρ=>te ρ λz g=>∃ps,ρ[i]? = some (some (.own (.dK ps)))/\tk ρ λy _=>∃k,y=kP k/\Nw g z/\ps.length<16000000/\D.nx (ρ.set i (some (.own (.dK (dX ps k z)))))
def A2 (i:Nat)(tk te:aG):aT:=λD ρ=>te ρ λz g=>∃ps,ρ[i]? = some (some (.own (.dT ps)))/\tk ρ λy _=>∃k,y = .tup (k.map kP)/\Nw g z/\ps.length<16000000/\D.nx (ρ.set i (some (.own (.dT (dX ps k z)))))
theorem aT9 {i:Nat}(h:LS X (uQ i tk te) D σ H):yK (eR i) (LE X tk) (LE X te) D σ H:=by
 obtain⟨W,ρ,D',px,q,k⟩:=h
 refine⟨W,ρ,_,px,q,?_⟩;rintro w H1 z g s rz ⟨ps,hi,q⟩
 obtain⟨v,ev,a,rfl,wa,kvs,ea,e1,r⟩:=(px.mono s).sl i _ hi
 refine⟨_,ev,W,ρ,_,px.mono s,q,?_⟩;rintro kv H2 y g' s2 ry ⟨kk,rfl,nw,hl,q⟩;obtain rfl:=zZ ry;have ea2:=s2 _ _ ea;refine⟨a,_,rfl,m9.k ea2 (j4 (by rw[uP e1];omega)),?_⟩;refine k.nx W σ _ _ ((Ev.same (s.trans s2)).trans (Ev.upd wa)) ((px.mono (s.trans s2)).updD hi ev wa ?_) q
 obtain⟨h1,h2⟩:=zY kk ((Nw.rep px nw rz).same s2 λ_ z=>z) e1 (r.same s2 λ_ z=>z)
 exact⟨h1,h2.keep (.upd ea2 rfl λb m=>⟨oS wa m,m⟩)⟩
theorem aU0 {i:Nat}(h:LS X (A2 i tk te) D σ H):yK (eR i) (LE X tk) (LE X te) D σ H:=by
 obtain⟨W,ρ,D',px,q,k⟩:=h
 refine⟨W,ρ,_,px,q,?_⟩;rintro w H1 z g s rz ⟨ps,hi,q⟩
 obtain⟨v,ev,a,rfl,wa,kvs,ea,e1,r⟩:=(px.mono s).sl i _ hi
 refine⟨_,ev,W,ρ,_,px.mono s,q,?_⟩;rintro kv H2 y g' s2 ry ⟨kk,rfl,nw,hl,q⟩
 obtain⟨b,us,rfl,hb,rb⟩:=ry.sqT
 obtain rfl:=A0 rb;have ea2:=s2 _ _ ea;refine⟨a,_,rfl,m9.t ea2 hb (j4 (by rw[uP e1];omega)),?_⟩;refine k.nx W σ _ _ ((Ev.same (s.trans s2)).trans (Ev.upd wa)) ((px.mono (s.trans s2)).updT hi ev wa ?_) q
 obtain⟨h1,h2⟩:=zY kk ((Nw.rep px nw rz).same s2 λ_ z=>z) e1 (r.same s2 λ_ z=>z)
 exact⟨h1,h2.keep (.upd ea2 rfl λb m=>⟨oS wa m,m⟩)⟩
theorem aU1 (h:LE X (qC (.dK [])) σ H Q'):W7 σ H Q':=by
 obtain⟨W,ρ,Q,px,q,k⟩:=h
 exact λp hp=>k _ _ _ .fr (bL hp _) (.dK hp b6 rfl .nil) q
theorem aU2 (h:LE X (qC (.dT [])) σ H Q'):W8 σ H Q':=by
 obtain⟨W,ρ,Q,px,q,k⟩:=h
 exact λp hp=>k _ _ _ .fr (bL hp _) (.dT hp b6 rfl .nil) q
def jJ (ps more:List (aF×PV)):List (aF×PV):=more.foldl (λacc kv=>dX acc kv.1 kv.2) ps
theorem ac1 {K:ae}{M:ax->Prop}{H:Hp}:∀{more:List (aF×V)}{mp:List (aF×PV)}{kvs:List (aF×V)}{ps:List (aF×PV)},more.map (·.1)=mp.map (·.1)->Reps K M H (more.map (·.2)) (mp.map (·.2))->kvs.map (·.1)=ps.map (·.1)->Reps K M H (kvs.map (·.2)) (ps.map (·.2))->
  (nN kvs more).map (·.1)=(jJ ps mp).map (·.1)/\Reps K M H ((nN kvs more).map (·.2)) ((jJ ps mp).map (·.2))
 |[],[],_,_,_,_,e,r=>⟨e,r⟩
 |[],_::_,_,_,e,_,_,_=>by cases e
 |_::_,[],_,_,e,_,_,_=>by cases e
 |(k1,v)::more,(k2,x)::mp,kvs,ps,e,r,e',r'=>by
  injection e with e1 e2
  have e1:k1=k2:=e1;subst e1;cases r with
  |cons q t=>
   obtain⟨h1,h2⟩:=zY k1 q e' r'
   exact ac1 (more:=more) (mp:=mp) e2 t h1 h2
def A3 (i:Nat)(te:aG):aT:=λD ρ=>∃ps,ρ[i]? = some (some (.own (.dK ps)))/\te ρ λy g=>∃mp,y = .dK mp/\(g = .fr∨(g = .nw/\False))/\ps.length+mp.length<=16000000/\D.nx (ρ.set i (some (.own (.dK (jJ ps mp)))))
theorem aU3 {i:Nat}(h:LS X (A3 i te) D σ H):lY (Z9 (eR i) (LE X te)) D σ H:=by
 obtain⟨W,ρ,D',px,⟨ps,hi,q⟩,k⟩:=h
 obtain⟨v,ev,a,rfl,wa,kvs,ea,e1,r⟩:=px.sl i _ hi
 refine⟨_,ev,a,rfl,.inl ⟨kvs,.inl ea⟩,W,ρ,_,px,q,?_⟩;rintro w H1 y g s ry ⟨mp,rfl,hg,hl,q⟩;rcases hg with rfl|⟨_,z⟩
 ·cases ry with
  |@dK b more _ m hb e2 rb=>
   have hab:a≠b:=λz=>by subst z;rw[show H a=none from m]at ea;cases ea
   have ea1:=s _ _ ea;refine⟨b,kvs,more,rfl,hab,ea1,hb,lim (by rw[uP e1,uP e2];exact hl),?_⟩;refine k.nx W σ _ _ ((Ev.same s).trans (Ev.upd wa)) ((px.mono s).updD hi ev wa ?_) q
   obtain⟨h1,h2⟩:=ac1 e2 (rb.same (M':=Ms X.H₀ W true) (aD.refl _) λ_ z=>px.new z) e1 (r.same s λ_ z=>z)
   exact⟨h1,h2.keep (.upd ea1 rfl λb m=>⟨oS wa m,m⟩)⟩
 ·exact z.elim
end
def cI:Nat->PV->PV->Bool
 |_,.non,.non=>true
 |_,.bl a,.bl b=>a==b
 |_,.int a,.int b=>a==b
 |_,.str a,.str b=>a==b
 |n+1,.tup xs,.tup ys=>(xs.zip ys).all (λp=>cI n p.1 p.2)&&xs.length==ys.length
 |n+1,.lst xs,.lst ys=>(xs.zip ys).all (λp=>cI n p.1 p.2)&&xs.length==ys.length
 |n+1,.kt xs,.kt ys=>(xs.zip ys).all (λp=>cI n p.1 p.2)&&xs.length==ys.length
 |_,_,_=>false
def eJ:Nat->PV->PV->Bool
 |_,.non,.non=>true
 |_,.bl _,.bl _=>true
 |_,.int _,.int _=>true
 |_,.str _,.str _=>true
 |_,.non,.int _=>true
 |_,.int _,.non=>true
 |n+1,.tup xs,.tup ys=>(xs.zip ys).all (λp=>eJ n p.1 p.2)
 |n+1,.lst xs,.lst ys=>(xs.zip ys).all (λp=>eJ n p.1 p.2)
 |n+1,.kt xs,.kt ys=>(xs.zip ys).all (λp=>eJ n p.1 p.2)
 |_+1,.non,.tup _=>true
 |_+1,.tup _,.non=>true
 |_,_,_=>false
theorem aU4 (n:Nat)(a b:Int):cI n (.int a) (.int b)=(a==b):=by cases n<;>rfl
theorem ac2 (n:Nat):∀(a b:ag),((((intz a).zip (intz b)).all λp=>cI n p.1 p.2)&&(intz a).length==(intz b).length)=decide (a=b)
 |[],[]=>rfl
 |[],_::_=>by simp
 |_::_,[]=>by simp
 |x::a,y::b=>by
  have ih:=ac2 n a b;simp only[bL0,List.zip_cons_cons,bP8,bH8,aU4]at ih ⊢;by_cases e:x=y
  ·subst e
   have:((intz a).length+1==(intz b).length+1)=((intz a).length==(intz b).length):=by simp
   rw[this,bJ8,Bool.true_and,ih];simp
  ·have:(x==y)=false:=bM4.mpr e
   rw[this,Bool.false_and,Bool.false_and];simp[e]
theorem A4 (n:Nat)(a b:ag):cI (n+1) (.tup (intz a)) (.tup (intz b))=decide (a=b):=ac2 n a b
theorem ac3 (n:Nat):∀(a b:ag),(((intz a).zip (intz b)).all λp=>eJ n p.1 p.2)=true
 |[],_=>by simp
 |_::_,[]=>by simp
 |x::a,y::b=>by
  simp only[bL0,List.zip_cons_cons,bP8,ac3 n a b,Bool.and_true];cases n<;>rfl
theorem A5 (n:Nat)(a b:ag):eJ (n+1) (.tup (intz a)) (.tup (intz b))=true:=ac3 n a b
def nS (ta:aG):aG:=λρ Q=>ta ρ λx _=>∃i,x = .int i/\Q (.int (-i)) .fr
def j6 (neg:Bool):PV->Tg->PV->Tg->PK->Prop:=λx _ y _ Q=>∃i ns,x = .int i/\iI y=some (intz ns)/\Q (.bl (if neg=true then !decide (i∈ns) else decide (i∈ns))) .fr
def uR:PV->Option String
 |.non=>some "NoneType"
 |.bl _=>some "bool"
 |.int _=>some "int"
 |.str _=>some "str"
 |.tup _=>some "tuple"
 |.kt _=>some "tuple"
 |.lst _=>some "list"
 |_=>none
def mI (K:ae)(n:String)(te:aG):aG:=λρ Q=>te ρ λx _=>∃T b,uR x=some T/\PySem.W.kitOne K (.type T) (.type n)=some b/\Q (.bl b) .fr
def rA (n:Nat)(neg:Bool):PV->Tg->PV->Tg->PK->Prop:=λx _ y _ Q=>((∃xs ys,x = .tup xs/\y = .tup ys)∨(∃xs ys,x = .lst xs/\y = .lst ys))/\eJ (n+1) x y=true/\Q (.bl (if neg=true then !cI (n+1) x y else cI (n+1) x y)) .fr
def A6 (n:Nat)(neg:Bool):PV->Tg->PV->Tg->PK->Prop:=λx _ y _ Q=>(∃xs ys,x = .kt xs/\y = .kt ys)/\eJ (n+1) x y=true/\Q (.bl (if neg=true then !cI (n+1) x y else cI (n+1) x y)) .fr
abbrev nT:=b8->(Option Int->Prop)->Prop
def eY (xs:List PV)(lo hi:Option Int):List PV:=(xs.drop (HT.b9 xs.length 0 lo)).take (HT.b9 xs.length xs.length hi-HT.b9 xs.length 0 lo)
def uS:PV->List PV->PV
 |.tup _,ys=>.tup ys
 |.kt _,ys=>.tup ys
 |_,ys=>.lst ys
def kC:nT:=λ_ Q=>Q none
def kD (te:aG):nT:=λρ Q=>te ρ λx _=>∃i,x = .int i/\Q (some i)
def kE (te:aG)(tl th:nT):aG:=λρ Q=>te ρ λx _=>tl ρ λlo=>th ρ λhi=>∃xs,seqT x=some xs/\flats xs=true/\Q (uS x (eY xs lo hi)) .fr
def gD (N:List Str)(xs:List PV):b8:=xs.map (λx=>some (.sh (flat x) x))++List.replicate (N.length-xs.length) none
abbrev gW (ta tb:aG):aG:=q2 (gK λi j=>.int (i+j)) ta tb
abbrev uT (ta tb:aG):aG:=q2 (gK λi j=>.int (i-j)) ta tb
abbrev rB (ta tb:aG):aG:=q2 (RI qD λi j=>.int (i*j)) ta tb
abbrev eL (ta tb:aG):aG:=q2 (RI xF λi j=>.int (i/j)) ta tb
abbrev cT (ta tb:aG):aG:=q2 (RI (λ_ j=>0<j) λi j=>.int (i%j)) ta tb
abbrev ac4 (ta tb:aG):aG:=q2 (RI xG λi j=>.int (i^j.toNat)) ta tb
abbrev kF (ta tb:aG):aG:=q2 (gK λi j=>.bl (decide (i<j))) ta tb
abbrev A7 (ta tb:aG):aG:=q2 (gK λi j=>.bl (decide (j<i))) ta tb
abbrev A8 (ta tb:aG):aG:=q2 (gK λi j=>.bl (decide (j<=i))) ta tb
abbrev gX (ta tb:aG):aG:=q2 (oQ false) ta tb
abbrev rC (ta tb:aG):aG:=q2 (oQ true) ta tb
abbrev A9 (ta tb:aG):aG:=q2 (mG false) ta tb
abbrev rD (ta tb:aG):aG:=q2 (mG true) ta tb
abbrev b5 (ta tb:aG):aG:=q2 zQ ta tb
def dY:List PV->(PV->Prop)->Prop:=λxs Q=>ab0 xs Q/\∀ns,xs≠[.scr ns]
def oV:aT:=λ_ _=>False
def QE (X:Cx)(e:Expr)(t:aG):Prop:=PE X e (LE X t)
def QT (X:Cx)(e:Expr)(t:cN):Prop:=PT X e (LT X t)
def QW (X:Cx)(e:Expr)(t:cN):Prop:=PW X e (LT X t)
def QA (X:Cx)(es:List Expr)(t:bV):Prop:=PA X es (LA X t)
def QS (X:Cx)(st:Stmt)(t:aT):Prop:=PS X st (LS X t)
def fG (X:Cx)(st:List Stmt)(t:aT):Prop:=dL X st (LS X t)
def QI (X:Cx)(tg iter:Expr)(t:gL):Prop:=PI X tg iter (LI X t)
section
variable {X:Cx}
theorem bX {e:Expr}{t t':TE}(h:PE X e t)(m:∀σ H Q,t' σ H Q->t σ H Q):PE X e t':=λah s σ H Q I q=>h ah s σ H Q I (m σ H Q q)
theorem nU {e:Expr}{t t':TT}(h:PT X e t)(m:∀σ H Q,t' σ H Q->t σ H Q):PT X e t':=λah s σ H Q I q=>h ah s σ H Q I (m σ H Q q)
theorem pwI {e:Expr}{t t':TT}(h:PW X e t)(m:∀σ H Q,t' σ H Q->t σ H Q):PW X e t':=λwh ah s σ H Q I q=>h wh ah s σ H Q I (m σ H Q q)
theorem paI {e:List Expr}{t t':TA}(h:PA X e t)(m:∀σ H Q,t' σ H Q->t σ H Q):PA X e t':=λpos ah s σ H Q I q=>h pos ah s σ H Q I (m σ H Q q)
theorem dE {e:Stmt}{t t':TS}(h:PS X e t)(m:∀D σ H,t' D σ H->t D σ H):PS X e t':=λah s σ H D I q=>h ah s σ H D I (m D σ H q)
theorem nV {e:List Stmt}{t t':TS}(h:dL X e t)(m:∀D σ H,t' D σ H->t D σ H):dL X e t':=λah s σ H D I q=>h ah s σ H D I (m D σ H q)
theorem uU {tg e:Expr}{t t':TI}(h:PI X tg e t)(m:∀σ H R,t' σ H R->t σ H R):PI X tg e t':=λah s σ H R I q=>h ah s σ H R I (m σ H R q)
variable {a b c e o:Expr}{es cX:List Expr}{ta tb te to tk:aG}{tr:bV}{tA tB' tc:cN}{pos p2 px:Pos}{st:Stmt}{sts:List Stmt}{t u:aT}
theorem qv (i:Nat){x:Str}{pos:Pos}(hN:X.N[i]? = some x:=by rfl)(hv:cO X.env.scope x:=by first|exact Or.inl rfl|exact Or.inr (Or.inl rfl)|exact Or.inr (Or.inr rfl))(hd:(x==("__debug__":Str))=false:=by decide)(hcd:(x==("__classdict__":Str))=false:=by decide):QE X (.Name x pos) (a5 i):=bX (dM hN hv hd hcd) λ_ _ _=>aP6
theorem aJ {i j}:QE X (.Constant (.int i) j pos) (qC (.int i)):=bX pW λ_ _ _=>oO λ_=>.int i
theorem gE {i j}:QE X (.Constant (.bool i) j pos) (qC (.bl i)):=bX aA6 λ_ _ _=>oO λ_=>.bl i
theorem jK {j}:QE X (.Constant .none j pos) (qC .non):=bX aA7 λ_ _ _=>oO λ_=>.non
theorem d9 {i j}:QE X (.Constant (.str i) j pos) (qC (.str i)):=bX aA8 λ_ _ _=>oO λ_=>.str i
theorem lC {op:Operator}{R:PV->Tg->PV->Tg->PK->Prop}{r:R2}(ho:cL X (binaryOp op) r)(cv:dU X R r)(ha:QE X a ta)(hb:QE X b tb):QE X (.BinOp a op b pos) (q2 R ta tb):=bX (aD3 ho ha hb) λ_ _ _=>uB cv
theorem gY (ha:QE X a ta)(hb:QE X b tb):QE X (.BinOp a .Add b pos) (q2 (gK λi j=>.int (i+j)) ta tb):=lC aD5 aa2 ha hb
theorem uV (ha:QE X a ta)(hb:QE X b tb):QE X (.BinOp a .Sub b pos) (q2 (gK λi j=>.int (i-j)) ta tb):=lC aD6 aa2 ha hb
theorem rE (ha:QE X a ta)(hb:QE X b tb):QE X (.BinOp a .Mult b pos) (q2 (RI qD λi j=>.int (i*j)) ta tb):=lC aD7 uC ha hb
theorem gZ (ha:QE X a ta)(hb:QE X b tb):QE X (.BinOp a .FloorDiv b pos) (q2 (RI xF λi j=>.int (i/j)) ta tb):=lC aD8 uC ha hb
theorem dI (ha:QE X a ta)(hb:QE X b tb):QE X (.BinOp a .Mod b pos) (q2 (RI (λ_ j=>0<j) λi j=>.int (i%j)) ta tb):=lC aD9 uC ha hb
theorem ac5 (ha:QE X a ta)(hb:QE X b tb):QE X (.BinOp a .Pow b pos) (q2 (RI xG λi j=>.int (i^j.toNat)) ta tb):=lC aE0 uC ha hb
theorem lD {op:CmpOp}{R:PV->Tg->PV->Tg->PK->Prop}{r:R2}(ho:cL X (compareOp op) r)(cv:dU X R r)(ha:QE X a ta)(hb:QE X b tb)(hm:behindInMarks op b=false):QE X (.Compare a [op] [b] pos) (q2 R ta tb):=bX (xK ho ha hb hm) λ_ _ _=>uB cv
theorem hG {op:CmpOp}{R:PV->Tg->PV->Tg->PK->Prop}{r:R2}(ho:cL X (compareOp op) r)(cv:dU X R r)(ha:QE X a ta)(hb:QE X b tb)(hm:behindInMarks op b=false):QT X (.Compare a [op] [b] pos) (aQ (q2 R ta tb)):=nU (aE3 ho ha hb hm) λ_ _ _ h=>uB cv (uD h)
theorem B0 (ha:QE X a ta)(hb:QE X b tb):QE X (.Compare a [.Lt] [b] pos) (q2 (gK λi j=>.bl (decide (i<j))) ta tb):=lD tH oP ha hb (eG _)
theorem aU5 (ha:QE X a ta)(hb:QE X b tb):QE X (.Compare a [.Gt] [b] pos) (q2 (gK λi j=>.bl (decide (j<i))) ta tb):=lD R6 oP ha hb (eG _)
theorem ac6 (ha:QE X a ta)(hb:QE X b tb):QE X (.Compare a [.GtE] [b] pos) (q2 (gK λi j=>.bl (decide (j<=i))) ta tb):=lD R7 oP ha hb (eG _)
theorem aU6 (ha:QE X a ta)(hb:QE X b tb):QE X (.Compare a [.Is] [b] pos) (q2 (mG false) ta tb):=lD R8 ab2 ha hb (eG _)
theorem aU7 (ha:QE X a ta)(hb:QE X b tb):QE X (.Compare a [.IsNot] [b] pos) (q2 (mG true) ta tb):=lD R9 ab3 ha hb (eG _)
theorem nW (ha:QE X a ta)(hb:QE X b tb):QT X (.Compare a [.Lt] [b] pos) (aQ (q2 (gK λi j=>.bl (decide (i<j))) ta tb)):=hG tH oP ha hb (eG _)
theorem ac7 (ha:QE X a ta)(hb:QE X b tb):QT X (.Compare a [.Gt] [b] pos) (aQ (q2 (gK λi j=>.bl (decide (j<i))) ta tb)):=hG R6 oP ha hb (eG _)
theorem aU8 (ha:QE X a ta)(hb:QE X b tb):QT X (.Compare a [.GtE] [b] pos) (aQ (q2 (gK λi j=>.bl (decide (j<=i))) ta tb)):=hG R7 oP ha hb (eG _)
theorem j7 (ha:QE X a ta)(hb:QE X b tb):QT X (.Compare a [.Eq] [b] pos) (aQ (q2 (oQ false) ta tb)):=hG xJ aP7 ha hb (eG _)
theorem uW (ha:QE X a ta)(hb:QE X b tb):QT X (.Compare a [.NotEq] [b] pos) (aQ (q2 (oQ true) ta tb)):=hG R5 aP8 ha hb (eG _)
theorem ac8 (ha:QE X a ta)(hb:QE X b tb):QT X (.Compare a [.Is] [b] pos) (aQ (q2 (mG false) ta tb)):=hG R8 ab2 ha hb (eG _)
theorem B1 (ha:QE X a ta)(hb:QE X b tb):QT X (.Compare a [.IsNot] [b] pos) (aQ (q2 (mG true) ta tb)):=hG R9 ab3 ha hb (eG _)
theorem aU9 (hu:X.A.units+1<cLine)(hk:QE X a tk)(hd:QE X b te)(hm:behindInMarks .In b=false:=by rfl):QT X (.Compare a [.In] [b] pos) (aQ (kB false tk te)):=nU (O5 (aK2 hu hk hd) hm) λ_ _ _ h=>aT7 (uD h)
theorem B2 (hu:X.A.units+1<cLine)(hk:QE X a tk)(hd:QE X b te)(hm:behindInMarks .NotIn b=false:=by rfl):QT X (.Compare a [.NotIn] [b] pos) (aQ (kB true tk te)):=nU (O5 (W5 hu hk hd) hm) λ_ _ _ h=>ac0 (uD h)
theorem aV0 (hu:X.A.units+1<cLine)(hk:QE X a tk)(hd:QE X b te)(hm:behindInMarks .NotIn b=false:=by rfl):QE X (.Compare a [.NotIn] [b] pos) (kB true tk te):=bX (aA9 (W5 hu hk hd) hm) λ_ _ _ h=>ac0 h
theorem eZ (h:QE X e te)(he:∀whole,isTrue e X.env whole=(do let v <- whole;standAt e.pos;holding [v] (truthy v)):=by intro _;rfl):QT X e (aQ te):=nU (aB0 h he) λ_ _ _ h=>uD h
theorem ac9 (h:QE X e te)(he:∀whole,isTrue e X.env whole=(do let v <- whole;standAt e.pos;holding [v] (truthy v)):=by intro _;rfl):QT X e (uK te):=nU (aE5 h he) λ_ _ _ h=>aS8 h
theorem B3 (ha:QT X a tA):QW X (.BoolOp .And [a] pos) tA:=aB1 ha
theorem mJ (ha:QT X a tA):QW X (.BoolOp .Or [a] pos) tA:=aB2 ha
theorem B4 (ha:QT X a tA)(hb:QW X (.BoolOp .And (b::cX) pos) tB'):QW X (.BoolOp .And (a::b::cX) pos) (qV tA tB'):=pwI (aB3 ha hb) λ_ _ _=>aP9
theorem iL (ha:QT X a tA)(hb:QW X (.BoolOp .Or (b::cX) pos) tB'):QW X (.BoolOp .Or (a::b::cX) pos) (fQ tA tB'):=pwI (aB4 ha hb) λ_ _ _=>aQ0
theorem jL (h:QW X e tA):QT X e tA:=PW.pt h
theorem fU (ha:QT X a tA):QT X (.UnaryOp .Not a pos) (eB tA):=nU (aB5 ha) λ_ _ _=>aQ1
theorem oW {op}(h:QE X a ta):QE X (.BoolOp op [a] pos) ta:=aB6 h
theorem oX (ha:QE X a ta)(hb:QE X (.BoolOp .And (b::cX) pos) tb):QE X (.BoolOp .And (a::b::cX) pos) (mE ta tb):=bX (aB7 ha hb) λ_ _ _=>aQ2
theorem ad0 (ha:QE X a ta):QE X (.UnaryOp .Not a pos) (uE ta):=bX (aB8 ha) λ_ _ _=>aQ3
theorem aC:QA X [] aB:=paI dO λ_ _ _=>aa5
theorem aA (ha:QE X e te)(hr:QA X es tr)(hs:starEach (e::es) X.env=(false,eval e X.env)::starEach es X.env:=by rfl):QA X (e::es) (a6 te tr):=paI (d8 ha hr hs) λ_ _ _=>aQ4
theorem dB {x1}(h:QA X es tr):QE X (.Tuple es x1 pos) (c7 tr):=bX (aG0 h) λ_ _ _=>aQ5
theorem hJ (h:QA X es tr):QE X (.List es pos) (eI tr):=bX (tJ h) λ_ _ _=>aQ6
theorem bA (ha:QE X a ta)(hb:QE X b tb)(hs:xX b:=by exact λ_ _=>rfl):QE X (.Subscript a b pos) (q2 zQ ta tb):=bX (oH U5 ha hb hs) λ_ _ _=>uB aR8
theorem ad1 (hu:X.A.units+1<cLine)(ha:QE X a ta)(hb:QE X b tb)(hs:yJ b:=by exact λ_ _=>rfl):QE X (.Subscript a b pos) (uO ta tb):=bX (aK1 hu ha hb hs) λ_ _ _=>aT8
theorem ad2:QE X (.Dict [] [] pos) (qC (.dK [])):=bX aK5 λ_ _ _=>aU1
theorem aV1:QE X (.Dict [] [] pos) (qC (.dT [])):=bX aK6 λ_ _ _=>aU2
theorem jM {x:Str}{id:String}{R:List PV->(PV->Prop)->Prop}{r:List V->Hp->VK->Prop}(hc:cG X (.builtin id) r)(cv:e8 X R r)(hg:Gl X x)(hm:X.mg x=none)(hv:bootBuiltins x=some (.builtin id))(ha:QA X (e::es) tr)(hn:x≠"__name__":=by decide)(hdb:(x==("__debug__":Str))=false:=by decide)(he:starEach (e::es) X.env=(false,eval e X.env)::starEach es X.env:=by rfl)(hpl:(backTo pos (starEach es X.env)).any (·.1)=false:=by rfl):QE X (.Call (.Name x p2) (e::es) [] pos) (aE R tr):=bX (oG hc hg hm hv ha hn hdb he hpl) λ_ _ _=>aa6 cv
theorem ad3 {x:Str}{T:String}{R:List PV->(PV->Prop)->Prop}{r:List V->Hp->VK->Prop}(hc:cG X (.type T) r)(cv:e8 X R r)(hg:Gl X x)(hm:X.mg x=none)(hv:bootBuiltins x=some (.type T))(ha:QA X (e::es) tr)(hn:x≠"__name__":=by decide)(hdb:(x==("__debug__":Str))=false:=by decide)(he:starEach (e::es) X.env=(false,eval e X.env)::starEach es X.env:=by rfl)(hpl:(backTo pos (starEach es X.env)).any (·.1)=false:=by rfl):QE X (.Call (.Name x p2) (e::es) [] pos) (aE R tr):=bX (T4 hc hg hm hv ha hn hdb he hpl) λ_ _ _=>aa6 cv
theorem bM:fG X [] bE:=nV aC0 λ_ _ _=>aQ7
theorem aO (h1:QS X st t)(h2:fG X sts u):fG X (st::sts) (aH t u):=nV (nE h1 h2) λ_ _ _=>aQ8
theorem aR (h1:QS X st t):fG X [st] t:=nF h1
theorem B5:QS X st oV:=dE aC3 λ_ _ _ ⟨_,_,_,_,h,_⟩=>h
theorem bK {i:Nat}{x:Str}(hN:X.N.Nodup)(he:QE X e te)(hi:X.N[i]? = some x:=by rfl)(hx:jD X.env.scope x:=by first|exact Or.inl rfl|exact Or.inr rfl)(hs:swapsWith e (some (.Name x p2)) pos.line X.env=pure false:=by rfl)(hf:X.fn x=true∨X.env.scope.names.lookup x=some .local:=by first|exact .inl rfl|exact .inr rfl) :
  QS X (.Assign [.Name x p2] e pos) (bC i te):=dE (tE hN hi hx he hs hf) λ_ _ _=>aa7
theorem jN {i:Nat}{x:Str}(hN:X.N.Nodup)(he:QE X e te)(hi:X.N[i]? = some x:=by rfl)(hx:jD X.env.scope x:=by first|exact Or.inl rfl|exact Or.inr rfl)(hs:swapsWith e (some (.Name x p2)) pos.line X.env=pure false:=by rfl)(hf:X.fn x=true∨X.env.scope.names.lookup x=some .local:=by first|exact .inl rfl|exact .inr rfl) :
  QS X (.Assign [.Name x p2] e pos) (iH i te):=dE (tE hN hi hx he hs hf) λ_ _ _=>aR1
theorem bD (he:QE X e te):QS X (.Return (some e) pos) (b7 te):=dE (oB he) λ_ _ _=>aR2
theorem oY (i:Nat){x:Str}(hN:X.N[i]? = some x:=by rfl)(hv:cO X.env.scope x:=by first|exact Or.inl rfl|exact Or.inr (Or.inl rfl)|exact Or.inr (Or.inr rfl))(hd:(x==("__debug__":Str))=false:=by decide)(hcd:(x==("__classdict__":Str))=false:=by decide) :
  QS X (.Return (some (.Name x p2)) pos) (mF i):=dE (oB (dM hN hv hd hcd)) λ_ _ _=>aR3
theorem bN {sa sb:List Stmt}(hc:QT X c tc)(ha:fG X sa t)(hb:fG X sb u):QS X (.If c sa sb pos) (bF tc t u):=dE (aC1 hc ha hb) λ_ _ _=>aR4
theorem ad4 {body:List Stmt}(hp:PassesOwn (model X.prog X.w) X.A X.env X.xe)(hc:QT X c tc)(hb:fG X body t):QS X (.While c body [] pos) (uG tc t):=dE (aC4 hp hc hb) λ_ _ _=>aR5
theorem mK (i:Nat){x:Str}{ai aj xpos:Pos}(he:QE X e te)(hN:X.N[i]? = some x:=by rfl)(hv:cO X.env.scope x:=by first|exact Or.inl rfl|exact Or.inr (Or.inl rfl)|exact Or.inr (Or.inr rfl))(hd:(x==("__debug__":Str))=false:=by decide)(hcd:(x==("__classdict__":Str))=false:=by decide)(hbase:attributeBase (.Name x xpos) "append" X.env (eval (.Name x xpos) X.env)=eval (.Name x xpos) X.env:=by rfl)(hfew:((backTo aj (starEach [e] X.env)).all (λx=>!x.1)&&(backToKw aj (keywordEach [] X.env)).all (λx=>x.1.isSome)&&decide (([e]:List Expr).length+([]:List Keyword).length+(if ([]:List Keyword).isEmpty then 0 else 1)<30))=true:=by rfl)(hline:(ai.endLine==aj.line)=true:=by rfl)(hs:starEach [e] X.env=(false,eval e X.env)::starEach [] X.env:=by rfl)(ar:(backTo aj (starEach [] X.env)).any (·.1)=false:=by rfl)(hsw:swapsWith (.Call (.Attribute (.Name x xpos) "append" ai) [e] [] aj) none pos.line X.env=pure false:=by rfl) :
  QS X (.Expr (.Call (.Attribute (.Name x xpos) "append" ai) [e] [] aj) pos) (j5 i te):=
 dE (lZ (tK bP6 bR2 bR3 qN (dM hN hv hd hcd) (d8 he dO hs) hbase hfew hline hs ar) hsw) λ_ _ _=>aR6
theorem ad5 {i:Nat}{x:Str}{xpos tpos:Pos}(hu:X.A.units+1<cLine)(hk:QE X a tk)(he:QE X e te)(hN:X.N[i]? = some x:=by rfl)(hv:cO X.env.scope x:=by first|exact Or.inl rfl|exact Or.inr (Or.inl rfl)|exact Or.inr (Or.inr rfl))(hd:(x==("__debug__":Str))=false:=by decide)(hcd:(x==("__classdict__":Str))=false:=by decide)(hs:swapsWith e (some (.Subscript (.Name x xpos) a tpos)) pos.line X.env=pure false:=by rfl):QS X (.Assign [.Subscript (.Name x xpos) a tpos] e pos) (uQ i tk te):=dE (W6 hu (dM hN hv hd hcd) hk he hs) λ_ _ _=>aT9
theorem aV2 {i:Nat}{x:Str}{xpos tpos:Pos}(hu:X.A.units+1<cLine)(hk:QE X a tk)(he:QE X e te)(hN:X.N[i]? = some x:=by rfl)(hv:cO X.env.scope x:=by first|exact Or.inl rfl|exact Or.inr (Or.inl rfl)|exact Or.inr (Or.inr rfl))(hd:(x==("__debug__":Str))=false:=by decide)(hcd:(x==("__classdict__":Str))=false:=by decide)(hs:swapsWith e (some (.Subscript (.Name x xpos) a tpos)) pos.line X.env=pure false:=by rfl):QS X (.Assign [.Subscript (.Name x xpos) a tpos] e pos) (A2 i tk te):=dE (W6 hu (dM hN hv hd hcd) hk he hs) λ_ _ _=>aU0
theorem aV3 {tg l:Expr}{tl:TE}(hl:PE X l tl):PI X tg l (ab4 X.K tl):=by
 intro ah s σ H R I h;refine aN (hl ah s σ H _ I h) λv s1 ⟨x,H1,I1,r1,q1⟩=>?_
 obtain⟨a,e,q⟩:=q1
 subst e;cases r1;rcases q with⟨xs,hq,q⟩|⟨xs,hq,q⟩
 ·obtain⟨its,rv,p,hz⟩:=I1.list hq
  refine wpAny_pyIter_list p.isList ?_;refine⟨s1.heap.objs.size,[s1.heap.objs.size],_,_,H1,rfl,I1.kept (t':=s1.toks) λb o e=>bF0 _ e,aC5 a _,⟨_,bG1 _ rfl,rfl,rfl⟩,λb hb=>?_,q⟩;have e:b=s1.heap.objs.size:=by simpa using hb
  subst e;exact I1.fpOk (bF7 _) (I1.hok.fresh (bF7 _))
 ·obtain⟨its,rv,p,hz⟩:=I1.tuple hq
  refine wpAny_pyIter_tuple (show s1.heap.IsTuple a its.toArray from p) ?_;refine⟨s1.heap.objs.size,[s1.heap.objs.size],_,_,H1,rfl,I1.kept (t':=s1.toks) λb o e=>bF0 _ e,P8 a _,⟨_,bG1 _ rfl,rfl,rfl⟩,λb hb=>?_,q⟩;have e:b=s1.heap.objs.size:=by simpa using hb
  subst e;exact I1.fpOk (bF7 _) (I1.hok.fresh (bF7 _))
theorem fH {tg l:Expr}(hl:QE X l te):QI X tg l (eC te):=uU (aV3 hl) λ_ _ _=>aS9
theorem jO {tg:Expr}(hg:Gl X "range")(hm:X.mg "range" = none)(ha:QE X a ta)(hs:starEach [a] X.env = [(false,eval a X.env)]:=by rfl):QI X tg (.Call (.Name "range" p2) [a] [] pos) (gM ta):=uU (aC8 hg hm (d8 ha dO hs) hs) λ_ _ _=>aT0
theorem aV4 {tg:Expr}(hg:Gl X "range")(hm:X.mg "range" = none)(ha:QE X a ta)(hb:QE X b tb)(hs:starEach [a,b] X.env = [(false,eval a X.env),(false,eval b X.env)]:=by rfl)(hs2:starEach [b] X.env = [(false,eval b X.env)]:=by rfl) :
  QI X tg (.Call (.Name "range" p2) [a,b] [] pos) (zW ta tb):=uU (aC9 hg hm (d8 ha (d8 hb dO hs2) (by rw[hs,hs2])) hs hs2) λ_ _ _=>aT1
theorem ad6 {tg:Expr}{body:List Stmt}{ti:gL}{p:mH}{g:TG}{own:Nat->Prop}(hp:PassesOwn (model X.prog X.w) X.A X.env X.xe)(hc:X.calm=true)(hi:QI X tg e ti)(hg:PG X tg g)(ht:qZ X.K own p g)(hb:fG X body t)(hs:∀x,foldedSetIterable e X.env x=pure x:=by intro _;rfl):QS X (.For tg e body [] pos) (e9 ti p t):=dE (Q5 hp hc hi hg hb hs) λ_ _ _=>aT2 ht
end
section
variable {X:Cx}{ah:List (ax×Obj)}{σ:St}{H:Hp}{s:aw}{K:ae}{M M':ax→Prop}
theorem lA.inj {a:ax}{us ws:List V}(h:lA K a us)(h':lA K a ws):us=ws:=by
 obtain⟨o,its,n,e1,_,e2,_,v⟩:=h
 obtain⟨o',its',n',e1',_,e2',_,v'⟩:=h'
 rw[e1]at e1';cases e1';rw[e2]at e2';cases e2';exact v.inj v'
theorem Reps.self_of {n:Nat}(ih:∀{v:V}{x y:PV},aI K M H v x->aI K M' H v y->eJ n x y=true->cI n x y=true):∀{vs:List V}{xs ys:List PV},Reps K M H vs xs->Reps K M' H vs ys->((xs.zip ys).all λp=>eJ n p.1 p.2)=true->(((xs.zip ys).all λp=>cI n p.1 p.2)&&xs.length==ys.length)=true
 |_,_,_,.nil,.nil,_=>rfl
 |_,_,_,.cons r t,.cons r' t',o=>by
  simp only[List.zip_cons_cons,bP8,bI4]at o;have h1:=ih r r' o.1;have h2:=Reps.self_of ih t t' o.2;simp only[List.zip_cons_cons,bP8,h1,Bool.true_and,bH8]at h2 ⊢;rw[<- h2];congr 1;simp
theorem aI.self:∀(n:Nat) {v:V}{x y:PV},aI K M H v x->aI K M' H v y->eJ n x y=true->cI n x y=true:=by
 intro n
 induction n with
 |zero=>
  intro v x y r r' o;cases r with
  |non=>cases r';rfl
  |bl b=>cases r';exact bJ8 b
  |int i=>cases r';exact bJ8 i
  |str z=>cases r';exact bJ8 z
  |_=>cases o
 |succ n ih=>
  intro v x y r r' o;cases r with
  |non=>cases r';rfl
  |bl b=>cases r';exact bJ8 b
  |int i=>cases r';exact bJ8 i
  |str z=>cases r';exact bJ8 z
  |tup h rr=>
   cases r' with
   |tup h' rr'=>rw[h]at h';cases h';exact Reps.self_of ih rr rr' o
   |_=>cases o
  |lst _ h rr=>
   cases r' with
   |lst _ h' rr'=>rw[h]at h';cases h';exact Reps.self_of ih rr rr' o
   |_=>cases o
  |kt h rr=>
   cases r' with
   |kt h' rr'=>cases lA.inj h h';exact Reps.self_of ih rr rr' o
   |_=>cases o
  |_=>cases o
theorem Reps.self (n:Nat){vs:List V}{xs ys:List PV}(r:Reps K M H vs xs)(r':Reps K M' H vs ys)(o:((xs.zip ys).all λp=>eJ n p.1 p.2)=true):(((xs.zip ys).all λp=>cI n p.1 p.2)&&xs.length==ys.length)=true:=Reps.self_of (aI.self n) r r' o
theorem lE (n:Nat)(xs ys:List PV):(List.range (min xs.length ys.length)).all (λj=>cI n (xs.getD j .non) (ys.getD j .non))=(xs.zip ys).all λp=>cI n p.1 p.2:=by
 rw[bL2];simp only[bN2,bR6];constructor
 ·intro h p hp
  obtain⟨j,hj,e⟩:=List.getElem_of_mem hp
  have hj':j<min xs.length ys.length:=by simpa using hj
  have:=h j hj'
  rw[List.getElem_zip]at e;subst e;have h1:j<xs.length:=by omega
  have h2:j<ys.length:=by omega
  simpa[bI0,h1,h2] using this
 ·intro h j hj
  have h1:j<xs.length:=by omega
  have h2:j<ys.length:=by omega
  have hz:j<(xs.zip ys).length:=by simp;omega
  have:=h _ (bP5 hz)
  rw[List.getElem_zip]at this;simpa[bI0,h1,h2] using this
theorem B6 (I:a7 X ah σ H s):∀(n:Nat) {A:az}{v w:V}{x y:PV}{a b:av},A.units+n<cLine->aI X.K M H v x->aI X.K M' H w y->aZ v a->aZ w b->eJ n x y=true->SeqAt.EqAt A s a b (cI n x y):=by
 intro n
 induction n with
 |zero=>
  intro A v w x y a b hu rx ry ra rb o;cases rx with
  |non=>
   cases ra;cases ry with
   |non=>cases rb;exact bT9 _
   |int i=>obtain⟨t',rfl⟩:=rb;exact SeqAt.EqAt.none_int _ _
   |_=>cases o
  |bl i=>
   cases ra;cases ry with
   |bl j=>cases rb;exact SeqAt.EqAt.bool_bool _ _
   |_=>cases o
  |int i=>
   obtain⟨t,rfl⟩:=ra
   cases ry with
   |int j=>obtain⟨t',rfl⟩:=rb;exact SeqAt.EqAt.int_int _ _ _ _
   |non=>cases rb;exact SeqAt.EqAt.int_none _ _
   |_=>cases o
  |str i=>
   obtain⟨t,rfl⟩:=ra
   cases ry with
   |str j=>obtain⟨t',rfl⟩:=rb;exact SeqAt.EqAt.str_str _ _ _ _
   |_=>cases o
  |_=>cases o
 |succ n ih=>
  intro A v w x y a b hu rx ry ra rb o;have items:∀{us ws:List V}{xs ys:List PV}{its aq:List av},Reps X.K M H us xs->Reps X.K M' H ws ys->aW us its->aW ws aq->((xs.zip ys).all λp=>eJ n p.1 p.2)=true->
    ∀j (h1:j<its.toArray.size) (h2:j<aq.toArray.size),SeqAt.EqAt A.in1 s its.toArray[j] aq.toArray[j] (cI n (xs.getD j .non) (ys.getD j .non)):=λ{us ws xs ys its aq} r1 r2 v1 v2 ok j h1 h2=>by
   have l1:=v1.length;have l2:=v2.length;have m1:=r1.length;have m2:=r2.length;have k1:j<its.length:=by simpa using h1
   have k2:j<aq.length:=by simpa using h2
   have j1:j<us.length:=by omega
   have j2:j<ws.length:=by omega
   have i1:j<xs.length:=by omega
   have i2:j<ys.length:=by omega
   obtain⟨u,hu',ru⟩:=v1.get (bF3 j1)
   obtain⟨u2,hu2',ru2⟩:=v2.get (bF3 j2)
   obtain⟨x,hx,rx⟩:=r1.get (bF3 j1)
   obtain⟨y,hy,ry⟩:=r2.get (bF3 j2)
   have e1:its.toArray[j]=u:=by
    rw[bF3 k1]at hu';simpa using hu'
   have e2:aq.toArray[j]=u2:=by
    rw[bF3 k2]at hu2';simpa using hu2'
   have ok':eJ n x y=true:=by
    rw[bN2]at ok;have hz:j<(xs.zip ys).length:=by simp;omega
    have:=ok _ (bP5 hz)
    rw[List.getElem_zip]at this;rw[bF3 i1]at hx;rw[bF3 i2]at hy;cases hx;cases hy;exact this
   rw[e1,e2];have g1:xs.getD j .non=x:=by rw[bI0,hx];rfl
   have g2:ys.getD j .non=y:=by rw[bI0,hy];rfl
   rw[g1,g2];exact ih (by show A.units+1+n<cLine;omega) rx ry ru ru2 ok'
  have huA:A.units<cLine:=by omega
  cases rx with
  |@kt p us xs h1 r1=>
   obtain⟨its,v1,p1,_⟩:=I.tuple (.inr h1)
   cases (show a=Value.ref p from ra);cases ry with
   |@kt p2 ws ys h2 r2=>
    obtain⟨aq,v2,p2',_⟩:=I.tuple (.inr h2)
    cases (show b=Value.ref p2 from rb);by_cases e:p=p2
    ·subst e
     have:=aI.self (K:=X.K) (M:=M) (M':=M') (n+1) (.kt h1 r1) (.kt h2 r2) o
     rw[this];exact bT9 _
    ·have:=SeqAt.RcAt.tuples p1 p2' huA (items r1 r2 v1 v2 o)
     refine .of_refs e ?_;have l1:=v1.length;have l2:=v2.length;have m1:=r1.length;have m2:=r2.length;rw[bF2,bF2,<- l1,<- l2,m1,m2,lE]at this;exact this
   |_=>cases o
  |@tup p us xs h1 r1=>
   obtain⟨its,v1,p1,_⟩:=I.tuple (aP.of (K:=X.K) h1)
   cases (show a=Value.ref p from ra);cases ry with
   |@tup p2 ws ys h2 r2=>
    obtain⟨aq,v2,p2',_⟩:=I.tuple (aP.of (K:=X.K) h2)
    cases (show b=Value.ref p2 from rb);by_cases e:p=p2
    ·subst e
     have:=aI.self (K:=X.K) (M:=M) (M':=M') (n+1) (.tup h1 r1) (.tup h2 r2) o
     rw[this];exact bT9 _
    ·have:=SeqAt.RcAt.tuples p1 p2' huA (items r1 r2 v1 v2 o)
     refine .of_refs e ?_;have l1:=v1.length;have l2:=v2.length;have m1:=r1.length;have m2:=r2.length;rw[bF2,bF2,<- l1,<- l2,m1,m2,lE]at this;exact this
   |non=>cases rb;exact SeqAt.EqAt.tuple_none p1 huA
   |_=>cases o
  |@lst p us xs _ h1 r1=>
   obtain⟨its,v1,p1,_⟩:=I.list (aU.of (K:=X.K) h1)
   cases (show a=Value.ref p from ra);cases ry with
   |@lst p2 ws ys _ h2 r2=>
    obtain⟨aq,v2,p2',_⟩:=I.list (aU.of (K:=X.K) h2)
    cases (show b=Value.ref p2 from rb);have l1:=v1.length;have l2:=v2.length;have m1:=r1.length;have m2:=r2.length;by_cases e:p=p2
    ·subst e
     rw[h1]at h2;cases h2
     have:=Reps.self n r1 r2 o
     show SeqAt.EqAt A s _ _ ((xs.zip ys).all (λp=>cI n p.1 p.2)&&xs.length==ys.length);rw[this];exact bT9 _
    ·refine .of_refs e ?_
     by_cases hl:xs.length=ys.length
     ·have:=SeqAt.RcAt.lists p1.isList p2'.isList (by rw[bF2,bF2];omega) huA (items r1 r2 v1 v2 o)
      have hm:min xs.length ys.length=its.length:=by omega
      rw[bF2,<- hm,lE]at this;show SeqAt.RcAt A s _ _ ((xs.zip ys).all (λp=>cI n p.1 p.2)&&xs.length==ys.length);rw[show (xs.length==ys.length)=true by simpa using hl,Bool.and_true];exact this
     ·have:=SeqAt.RcAt.lists_lengths (A:=A) p1.isList p2'.isList (by rw[bF2,bF2];simp;omega) huA
      show SeqAt.RcAt A s _ _ ((xs.zip ys).all (λp=>cI n p.1 p.2)&&xs.length==ys.length);rw[show (xs.length==ys.length)=false by simpa using hl,bT3];exact this
   |_=>cases o
  |non=>
   cases ra;cases ry with
   |non=>cases rb;exact bT9 _
   |int i=>obtain⟨t',rfl⟩:=rb;exact SeqAt.EqAt.none_int _ _
   |@tup p2 ws ys h2 r2=>
    obtain⟨aq,v2,p2',_⟩:=I.tuple (aP.of (K:=X.K) h2)
    cases (show b=Value.ref p2 from rb);exact SeqAt.EqAt.none_tuple p2' huA
   |_=>cases o
  |bl i=>
   cases ra;cases ry with
   |bl j=>cases rb;exact SeqAt.EqAt.bool_bool _ _
   |_=>cases o
  |int i=>
   obtain⟨t,rfl⟩:=ra
   cases ry with
   |int j=>obtain⟨t',rfl⟩:=rb;exact SeqAt.EqAt.int_int _ _ _ _
   |non=>cases rb;exact SeqAt.EqAt.int_none _ _
   |_=>cases o
  |str i=>
   obtain⟨t,rfl⟩:=ra
   cases ry with
   |str j=>obtain⟨t',rfl⟩:=rb;exact SeqAt.EqAt.str_str _ _ _ _
   |_=>cases o
  |_=>cases o
end
structure Bt (mg:Str->Option av):Prop where
 len:mg "len" = none
 range:mg "range" = none
 tuple:mg "tuple" = none
 list:mg "list" = none
 sorted:mg "sorted" = none
 all:mg "all" = none
 any:mg "any" = none
 zip:mg "zip" = none
 min:mg "min" = none
 max:mg "max" = none
 sum:mg "sum" = none
 isinst:mg "isinstance" = none
 int:mg "int" = none
 bool:mg "bool" = none
 enum:mg "enumerate" = none
section
variable {X:Cx}{a b c e o:Expr}{es cX:List Expr}{ta tb te to tk:aG}{tr:bV}{tA tB' tc:cN}{pos p2 px:Pos}{st:Stmt}{sts:List Stmt}{t u:aT}
theorem hU (B:Bt X.mg)(ha:QA X [e] tr)(hg:Gl X "len":=by rfl)(he:starEach [e] X.env=(false,eval e X.env)::starEach [] X.env:=by rfl)(hpl:(backTo pos (starEach [] X.env)).any (·.1)=false:=by rfl):QE X (.Call (.Name "len" p2) [e] [] pos) (aE fR tr):=
 jM (U9.or aL4) aR9 hg B.len PySem.boot_len ha (he:=he) (hpl:=hpl)
theorem fA (B:Bt X.mg)(ha:QA X [e] tr)(hg:Gl X "tuple":=by rfl)(he:starEach [e] X.env=(false,eval e X.env)::starEach [] X.env:=by rfl)(hpl:(backTo pos (starEach [] X.env)).any (·.1)=false:=by rfl):QE X (.Call (.Name "tuple" p2) [e] [] pos) (aE dY tr):=
 ad3 aI8 aS0 hg B.tuple PyProof.Rows.boot_tuple ha (he:=he) (hpl:=hpl)
theorem aV5 (B:Bt X.mg)(ha:QA X [e] tr)(hg:Gl X "list":=by rfl)(he:starEach [e] X.env=(false,eval e X.env)::starEach [] X.env:=by rfl)(hpl:(backTo pos (starEach [] X.env)).any (·.1)=false:=by rfl):QE X (.Call (.Name "list" p2) [e] [] pos) (aE zS tr):=
 ad3 aI7 aS1 hg B.list PyProof.Rows.boot_list ha (he:=he) (hpl:=hpl)
theorem ad7 (B:Bt X.mg)(ha:QA X [e] tr)(hg:Gl X "sorted":=by rfl)(he:starEach [e] X.env=(false,eval e X.env)::starEach [] X.env:=by rfl)(hpl:(backTo pos (starEach [] X.env)).any (·.1)=false:=by rfl):QE X (.Call (.Name "sorted" p2) [e] [] pos) (aE uH tr):=
 jM Y9 aS2 hg B.sorted bR4 ha (he:=he) (hpl:=hpl)
theorem ad8 (B:Bt X.mg)(hc:X.calm=true)(ha:QA X [e] tr)(hg:Gl X "all":=by rfl)(he:starEach [e] X.env=(false,eval e X.env)::starEach [] X.env:=by rfl)(hpl:(backTo pos (starEach [] X.env)).any (·.1)=false:=by rfl):QE X (.Call (.Name "all" p2) [e] [] pos) (aE uI tr):=
 jM (zH hc) aS3 hg B.all PyProof.Rows.boot_all ha (he:=he) (hpl:=hpl)
theorem aV6 (B:Bt X.mg)(hc:X.calm=true)(ha:QA X [a,b] tr)(hg:Gl X "min":=by rfl)(he:starEach [a,b] X.env=(false,eval a X.env)::starEach [b] X.env:=by rfl)(hpl:(backTo pos (starEach [b] X.env)).any (·.1)=false:=by rfl):QE X (.Call (.Name "min" p2) [a,b] [] pos) (aE zT tr):=
 jM (aE7 hc) aS4 hg B.min PyProof.Rows.boot_min ha (he:=he) (hpl:=hpl)
theorem ad9 (B:Bt X.mg)(hc:X.calm=true)(ha:QA X [a,b] tr)(hg:Gl X "max":=by rfl)(he:starEach [a,b] X.env=(false,eval a X.env)::starEach [b] X.env:=by rfl)(hpl:(backTo pos (starEach [b] X.env)).any (·.1)=false:=by rfl):QE X (.Call (.Name "max" p2) [a,b] [] pos) (aE uJ tr):=
 jM (aE6 hc) aS5 hg B.max PyProof.Rows.boot_max ha (he:=he) (hpl:=hpl)
theorem uX (ha:QE X a ta):QE X (.UnaryOp .USub a pos) (nS ta):=bX (aD4 aE1 ha) λσ H Q' h=>by
 obtain⟨W,ρ,Q,px,q,k⟩:=h
 refine⟨W,ρ,_,px,q,?_⟩;rintro v H1 x g s r ⟨i,rfl,q⟩;cases r
 exact⟨i,rfl,k _ _ _ .fr s (.int _) q⟩
theorem ae0 (x:Int):∀(xs:ag),qL (.int x) (xs.map V.int)=decide (x∈xs)
 |[]=>by simp[qL]
 |y::r=>by
  have ih:=ae0 x r;unfold qL at ih ⊢;rw[bL0,List.any_cons,ih];by_cases e:y=x
  ·subst e;simp[jF]
  ·have:jF (.int y) (.int x)=false:=by simpa[jF] using e
   rw[this,Bool.false_or,bL2];simp[Ne.symm e]
theorem ae1:∀(xs:ag),(xs.map V.int).all kW=true
 |[]=>rfl
 |_::r=>by rw[bL0,bP8,ae1 r];rfl
theorem B7 (neg:Bool):dU X (j6 neg) (yA X.K neg):=by
 rintro W Hs H u v x y g g' Q Q' s n r1 r2 ⟨i,ns,rfl,e,q⟩ k;cases r1
 obtain⟨a,us,rfl,hs,r⟩:=r2.seq e
 obtain rfl:=r.ofInts;refine⟨a,_,rfl,hs,rfl,ae1 ns,?_⟩
 have:=k _ _ _ .fr (aD.refl _) (.bl _) q
 rw[ae0];cases neg<;>exact this
theorem B8 (ha:QE X a ta)(hb:QE X b tb)(hm:behindInMarks .In b=false:=by rfl):QE X (.Compare a [.In] [b] pos) (q2 (j6 false) ta tb):=lD U8 (B7 false) ha hb hm
theorem B9 (ha:QE X a ta)(hb:QE X b tb)(hm:behindInMarks .In b=false:=by rfl):QT X (.Compare a [.In] [b] pos) (aQ (q2 (j6 false) ta tb)):=hG U8 (B7 false) ha hb hm
theorem aV7 (ha:QE X a ta)(hb:QE X b tb)(hm:behindInMarks .NotIn b=false:=by rfl):QT X (.Compare a [.NotIn] [b] pos) (aQ (q2 (j6 true) ta tb)):=hG aI6 (B7 true) ha hb hm
theorem aI.kt_ {K:ae}{M:ax->Prop}{H:Hp}{v:V}{xs:List PV}(r:aI K M H v (.kt xs)):∃a us,v = .ref a/\lA K a us/\Reps K M H us xs:=by
 cases r with
 |kt h r=>exact⟨_,_,rfl,h,r⟩
def ae2 (K:ae)(H:Hp)(x:V)(t:av):Prop:=gR K H x t∨∃a us,x = .ref a/\aP K H a us/\t = .type "tuple"
theorem aV8:cG X (.builtin "isinstance") (λxs H Q=>∃x t n b,xs = [x,.ty n]/\ae2 X.K H x t/\PySem.W.kitOne X.K t (.type n)=some b/\Q (.bl b) H):=by
 intro ah s σ H xs us Q I r h
 obtain⟨x,t,n,b,rfl,ty,e,q⟩:=h
 rcases ty with ty|⟨a,ws,rfl,hs,rfl⟩
 ·exact aN3 ah s σ H _ us Q I r ⟨x,t,n,b,rfl,ty,e,q⟩
 obtain⟨u,u',rfl,ru,ru'⟩:=qF r
 cases ru';cases (show u=Value.ref a from ru)
 obtain⟨its,_,⟨o,h1,h2,_⟩,_⟩:=I.tuple hs
 exact bL8 PySem.W.kitx_tuple I.kIn ⟨o,h1,h2⟩ e (λz=>nomatch z) λtk=>⟨.bl b,H,I.tok tk,rfl,q⟩
theorem aV9 {K:ae}{M:ax->Prop}{H:Hp}{v:V}{x:PV}{T:String}(r:aI K M H v x)(e:uR x=some T):ae2 K H v (.type T):=by
 cases r with
 |non=>cases e;exact .inl .non
 |bl b=>cases e;exact .inl (.bl b)
 |int i=>cases e;exact .inl (.int i)
 |str i=>cases e;exact .inl (.str i)
 |tup h _=>cases e;exact .inl (.tup h)
 |lst _ h _=>cases e;exact .inl (.lst h)
 |kt h _=>cases e;exact .inr ⟨_,_,rfl,.inr h,rfl⟩
 |_=>cases e
theorem C0 {x:Str}{n:String}(B:Bt X.mg)(hn:bootBuiltins x=some (.type n))(hm:X.mg x=none)(ha:QE X a ta)(hg:Gl X "isinstance":=by rfl)(hgx:Gl X x:=by rfl)(hx:x≠"__name__":=by decide)(hdx:(x==("__debug__":Str))=false:=by decide)(he:starEach [a,.Name x px] X.env=(false,eval a X.env)::starEach [.Name x px] X.env:=by rfl)(he2:starEach [.Name x px] X.env=(false,eval (.Name x px) X.env)::starEach [] X.env:=by rfl)(hpl:(backTo pos (starEach [.Name x px] X.env)).any (·.1)=false:=by rfl):QE X (.Call (.Name "isinstance" p2) [a,.Name x px] [] pos) (mI X.K n ta):=
 bX (oG aV8 hg B.isinst PyProof.Rows.boot_isinstance (d8 ha (d8 (O4 (v:=.ty n) hgx hm hn rfl hx hdx) dO he2) he) (he:=he) (hpl:=hpl)) λσ H Q' h=>by
  obtain⟨W,ρ,Q,px,q,k⟩:=h
  refine⟨W,ρ,_,px,q,?_⟩;rintro v H1 x g s r ⟨T,b,e,kt,q⟩
  exact⟨v,_,n,b,rfl,aV9 r e,kt,k _ _ _ .fr s (.bl _) q⟩
theorem aW0 (B:Bt X.mg)(ha:QE X a ta)(hg:Gl X "isinstance":=by rfl)(hgx:Gl X "int":=by rfl)(he:starEach [a,.Name "int" px] X.env=(false,eval a X.env)::starEach [.Name "int" px] X.env:=by rfl)(he2:starEach [.Name "int" px] X.env=(false,eval (.Name "int" px) X.env)::starEach [] X.env:=by rfl)(hpl:(backTo pos (starEach [.Name "int" px] X.env)).any (·.1)=false:=by rfl):QE X (.Call (.Name "isinstance" p2) [a,.Name "int" px] [] pos) (mI X.K "int" ta):=C0 B PyProof.Rows.boot_int B.int ha (hg:=hg) (hgx:=hgx) (he:=he) (he2:=he2) (hpl:=hpl)
theorem aW1 (B:Bt X.mg)(ha:QE X a ta)(hg:Gl X "isinstance":=by rfl)(hgx:Gl X "bool":=by rfl)(he:starEach [a,.Name "bool" px] X.env=(false,eval a X.env)::starEach [.Name "bool" px] X.env:=by rfl)(he2:starEach [.Name "bool" px] X.env=(false,eval (.Name "bool" px) X.env)::starEach [] X.env:=by rfl)(hpl:(backTo pos (starEach [.Name "bool" px] X.env)).any (·.1)=false:=by rfl):QE X (.Call (.Name "isinstance" p2) [a,.Name "bool" px] [] pos) (mI X.K "bool" ta):=C0 B PyProof.Rows.boot_bool B.bool ha (hg:=hg) (hgx:=hgx) (he:=he) (he2:=he2) (hpl:=hpl)
theorem ae3 (B:Bt X.mg)(ha:QE X a ta)(hg:Gl X "isinstance":=by rfl)(hgx:Gl X "tuple":=by rfl)(he:starEach [a,.Name "tuple" px] X.env=(false,eval a X.env)::starEach [.Name "tuple" px] X.env:=by rfl)(he2:starEach [.Name "tuple" px] X.env=(false,eval (.Name "tuple" px) X.env)::starEach [] X.env:=by rfl)(hpl:(backTo pos (starEach [.Name "tuple" px] X.env)).any (·.1)=false:=by rfl):QE X (.Call (.Name "isinstance" p2) [a,.Name "tuple" px] [] pos) (mI X.K "tuple" ta):=C0 B PyProof.Rows.boot_tuple B.tuple ha (hg:=hg) (hgx:=hgx) (he:=he) (he2:=he2) (hpl:=hpl)
def rF (K:ae)(n:Nat)(neg:Bool):R2:=λv w H Q=>∃x y,aI K (λ_=>True) H v x/\aI K (λ_=>True) H w y/\((∃xs ys,x = .tup xs/\y = .tup ys)∨(∃xs ys,x = .lst xs/\y = .lst ys)∨(∃xs ys,x = .kt xs/\y = .kt ys))/\eJ (n+1) x y=true/\Q (.bl (if neg=true then !cI (n+1) x y else cI (n+1) x y)) H
theorem oZ {ah:List (ax×Obj)}{σ:St}{H:Hp}{s:aw}{M M':ax->Prop}(I:a7 X ah σ H s){n:Nat}{A:az}(hu:A.units+(n+1)<cLine){us ws:List V}{xs ys:List PV}{its aq:List av}(r1:Reps X.K M H us xs)(r2:Reps X.K M' H ws ys)(v1:aW us its)(v2:aW ws aq)(ok:((xs.zip ys).all λp=>eJ n p.1 p.2)=true):∀j (h1:j<its.toArray.size) (h2:j<aq.toArray.size),SeqAt.EqAt A.in1 s its.toArray[j] aq.toArray[j] (cI n (xs.getD j .non) (ys.getD j .non)):=by
 intro j h1 h2;have l1:=v1.length;have l2:=v2.length;have m1:=r1.length;have m2:=r2.length;have k1:j<its.length:=by simpa using h1
 have k2:j<aq.length:=by simpa using h2
 have j1:j<us.length:=by omega
 have j2:j<ws.length:=by omega
 have i1:j<xs.length:=by omega
 have i2:j<ys.length:=by omega
 obtain⟨u,hu',ru⟩:=v1.get (bF3 j1)
 obtain⟨u2,hu2',ru2⟩:=v2.get (bF3 j2)
 obtain⟨x,hx,rx⟩:=r1.get (bF3 j1)
 obtain⟨y,hy,ry⟩:=r2.get (bF3 j2)
 have e1:its.toArray[j]=u:=by
  rw[bF3 k1]at hu';simpa using hu'
 have e2:aq.toArray[j]=u2:=by
  rw[bF3 k2]at hu2';simpa using hu2'
 have ok':eJ n x y=true:=by
  rw[bN2]at ok;have hz:j<(xs.zip ys).length:=by simp;omega
  have:=ok _ (bP5 hz)
  rw[List.getElem_zip]at this;rw[bF3 i1]at hx;rw[bF3 i2]at hy;cases hx;cases hy;exact this
 rw[e1,e2];have g1:xs.getD j .non=x:=by rw[bI0,hx];rfl
 have g2:ys.getD j .non=y:=by rw[bI0,hy];rfl
 rw[g1,g2];exact B6 I n (by show A.units+1+n<cLine;omega) rx ry ru ru2 ok'
theorem aW2 (n:Nat)(hu:X.A.units+(n+1)<cLine):cL X (compareOp .Eq) (rF X.K n false):=by
 intro ah s σ H v w a b Q I ra rb h
 obtain⟨x,y,rx,ry,kd,o,q⟩:=h
 have hu0:X.A.units<cLine:=by omega
 rcases kd with⟨xs,ys,rfl,rfl⟩|⟨xs,ys,rfl,rfl⟩|⟨xs,ys,rfl,rfl⟩
 ·obtain⟨p,us,rfl,h1,r1⟩:=rx.sqT
  obtain⟨p2,ws,rfl,h2,r2⟩:=ry.sqT
  cases ra;cases rb
  obtain⟨its,v1,p1,_⟩:=I.tuple (aP.of (K:=X.K) h1)
  obtain⟨aq,v2,p2',_⟩:=I.tuple (aP.of (K:=X.K) h2)
  have l1:=v1.length;have l2:=v2.length;have m1:=r1.length;have m2:=r2.length
  have:=SeqAt.RcAt.tuples p1 p2' hu0 (oZ I hu r1 r2 v1 v2 o)
  rw[bF2,bF2,<- l1,<- l2,m1,m2,lE]at this;exact this _ _ _ _ ⟨.bl _,H,I,rfl,q⟩
 ·obtain⟨p,us,rfl,_,h1,r1⟩:=rx.sqL
  obtain⟨p2,ws,rfl,_,h2,r2⟩:=ry.sqL
  cases ra;cases rb
  obtain⟨its,v1,p1,_⟩:=I.list (aU.of (K:=X.K) h1)
  obtain⟨aq,v2,p2',_⟩:=I.list (aU.of (K:=X.K) h2)
  have l1:=v1.length;have l2:=v2.length;have m1:=r1.length;have m2:=r2.length;have q:Q (.bl ((xs.zip ys).all (λp=>cI n p.1 p.2)&&xs.length==ys.length)) H:=q;by_cases hl:xs.length=ys.length
  ·have:=SeqAt.RcAt.lists p1.isList p2'.isList (by rw[bF2,bF2];omega) hu0 (oZ I hu r1 r2 v1 v2 o)
   have hm:min xs.length ys.length=its.length:=by omega
   rw[bF2,<- hm,lE]at this;rw[show (xs.length==ys.length)=true by simpa using hl,Bool.and_true]at q;exact this _ _ _ _ ⟨.bl _,H,I,rfl,q⟩
  ·have:=SeqAt.RcAt.lists_lengths (A:=X.A) p1.isList p2'.isList (by rw[bF2,bF2];simp;omega) hu0
   rw[show (xs.length==ys.length)=false by simpa using hl,bT3]at q;exact this _ _ _ _ ⟨.bl _,H,I,rfl,q⟩
 ·obtain⟨p,us,rfl,h1,r1⟩:=rx.kt_
  obtain⟨p2,ws,rfl,h2,r2⟩:=ry.kt_
  cases ra;cases rb
  obtain⟨its,v1,p1,_⟩:=I.tuple (.inr h1)
  obtain⟨aq,v2,p2',_⟩:=I.tuple (.inr h2)
  have l1:=v1.length;have l2:=v2.length;have m1:=r1.length;have m2:=r2.length
  have:=SeqAt.RcAt.tuples p1 p2' hu0 (oZ I hu r1 r2 v1 v2 o)
  rw[bF2,bF2,<- l1,<- l2,m1,m2,lE]at this;exact this _ _ _ _ ⟨.bl _,H,I,rfl,q⟩
theorem ae4 (n:Nat)(hu:X.A.units+(n+1)<cLine):cL X (compareOp .NotEq) (rF X.K n true):=by
 intro ah s σ H v w a b Q I ra rb h
 obtain⟨x,y,rx,ry,kd,o,q⟩:=h
 have hu0:X.A.units<cLine:=by omega
 rcases kd with⟨xs,ys,rfl,rfl⟩|⟨xs,ys,rfl,rfl⟩|⟨xs,ys,rfl,rfl⟩
 ·obtain⟨p,us,rfl,h1,r1⟩:=rx.sqT
  obtain⟨p2,ws,rfl,h2,r2⟩:=ry.sqT
  cases ra;cases rb
  obtain⟨its,v1,p1,_⟩:=I.tuple (aP.of (K:=X.K) h1)
  obtain⟨aq,v2,p2',_⟩:=I.tuple (aP.of (K:=X.K) h2)
  have l1:=v1.length;have l2:=v2.length;have m1:=r1.length;have m2:=r2.length
  have:=SeqAt.RcNeAt.tuples p1 p2' hu0 (oZ I hu r1 r2 v1 v2 o)
  rw[bF2,bF2,<- l1,<- l2,m1,m2,lE]at this;exact this _ _ _ _ ⟨.bl _,H,I,rfl,q⟩
 ·obtain⟨p,us,rfl,_,h1,r1⟩:=rx.sqL
  obtain⟨p2,ws,rfl,_,h2,r2⟩:=ry.sqL
  cases ra;cases rb
  obtain⟨its,v1,p1,_⟩:=I.list (aU.of (K:=X.K) h1)
  obtain⟨aq,v2,p2',_⟩:=I.list (aU.of (K:=X.K) h2)
  have l1:=v1.length;have l2:=v2.length;have m1:=r1.length;have m2:=r2.length;have q:Q (.bl (!((xs.zip ys).all (λp=>cI n p.1 p.2)&&xs.length==ys.length))) H:=q;by_cases hl:xs.length=ys.length
  ·have:=SeqAt.RcNeAt.lists p1.isList p2'.isList (by rw[bF2,bF2];omega) hu0 (oZ I hu r1 r2 v1 v2 o)
   have hm:min xs.length ys.length=its.length:=by omega
   rw[bF2,<- hm,lE]at this;rw[show (xs.length==ys.length)=true by simpa using hl,Bool.and_true]at q;exact this _ _ _ _ ⟨.bl _,H,I,rfl,q⟩
  ·have:=SeqAt.RcNeAt.lists_lengths (A:=X.A) p1.isList p2'.isList (by rw[bF2,bF2];simp;omega) hu0
   rw[show (xs.length==ys.length)=false by simpa using hl,bT3]at q;exact this _ _ _ _ ⟨.bl _,H,I,rfl,q⟩
 ·obtain⟨p,us,rfl,h1,r1⟩:=rx.kt_
  obtain⟨p2,ws,rfl,h2,r2⟩:=ry.kt_
  cases ra;cases rb
  obtain⟨its,v1,p1,_⟩:=I.tuple (.inr h1)
  obtain⟨aq,v2,p2',_⟩:=I.tuple (.inr h2)
  have l1:=v1.length;have l2:=v2.length;have m1:=r1.length;have m2:=r2.length
  have:=SeqAt.RcNeAt.tuples p1 p2' hu0 (oZ I hu r1 r2 v1 v2 o)
  rw[bF2,bF2,<- l1,<- l2,m1,m2,lE]at this;exact this _ _ _ _ ⟨.bl _,H,I,rfl,q⟩
theorem ae5 {n:Nat}{neg:Bool}:dU X (rA n neg) (rF X.K n neg):=by
 rintro W Hs H u v x y g g' Q Q' s n r1 r2 ⟨kd,o,q⟩ k
 exact⟨x,y,r1.same (aD.refl _) λ_ _=>trivial,r2.same (aD.refl _) λ_ _=>trivial,kd.elim .inl λz=>.inr (.inl z),o,k _ _ _ .fr (aD.refl _) (.bl _) q⟩
theorem aW3 {n:Nat}{neg:Bool}:dU X (A6 n neg) (rF X.K n neg):=by
 rintro W Hs H u v x y g g' Q Q' s n r1 r2 ⟨kd,o,q⟩ k
 exact⟨x,y,r1.same (aD.refl _) λ_ _=>trivial,r2.same (aD.refl _) λ_ _=>trivial,.inr (.inr kd),o,k _ _ _ .fr (aD.refl _) (.bl _) q⟩
theorem aW4 (hu:X.A.units+3<cLine)(ha:QE X a ta)(hb:QE X b tb):QE X (.Compare a [.Eq] [b] pos) (q2 (A6 2 false) ta tb):=lD (aW2 2 hu) aW3 ha hb (eG _)
theorem ae6 (hu:X.A.units+3<cLine)(ha:QE X a ta)(hb:QE X b tb):QT X (.Compare a [.NotEq] [b] pos) (aQ (q2 (rA 2 true) ta tb)):=hG (ae4 2 hu) ae5 ha hb (eG _)
end
end PP
namespace PP
open PySem L2 PyProof.Rows
def LO (X:Cx)(t:nT):TO:=λσ H Q'=>∃(W:ax->Prop) (ρ:b8) (Q:Option Int->Prop),PX X.K X.H₀ W σ ρ H/\t ρ Q/\∀o H',aD H H'->Q o->Q' o H'
def QO (X:Cx)(e:Option Expr)(t:nT):Prop:=PO X e (LO X t)
theorem Reps.cut {K:ae}{M:ax->Prop}{H:Hp}{us:List V}{xs:List PV}(r:Reps K M H us xs)(lo hi:Option Int):Reps K M H (fN us lo hi) (eY xs lo hi):=by
 unfold fN eY;rw[r.length];exact (r.drop _).take _
section
variable {X:Cx}{a b c e o:Expr}{es cX:List Expr}{ta tb te to tk:aG}{tr:bV}{tA tB' tc:cN}{pos p2 px:Pos}{st:Stmt}{sts:List Stmt}{t u:aT}
theorem lF:QO X none kC:=λah s σ H Q I h=>xT ah s σ H Q I (by
 obtain⟨W,ρ,Q1,px,q,k⟩:=h
 exact k _ _ (aD.refl _) q)
theorem lG (h:QE X e te):QO X (some e) (kD te):=λah s σ H Q I hq=>xU h ah s σ H Q I (by
 obtain⟨W,ρ,Q1,px,q,k⟩:=hq
 refine⟨W,ρ,_,px,q,?_⟩;rintro v H1 x g s r ⟨i,rfl,q⟩;cases r
 exact⟨i,rfl,k _ _ s q⟩)
theorem lH {lo hi:Option Expr}{tl th:nT}{sp:Pos}(he:QE X e te)(hl:QO X lo tl)(hh:QO X hi th):QE X (.Subscript e (.Slice lo hi none sp) pos) (kE te tl th):=bX (xV (U6.or Z8) he hl hh) λσ H Q' h=>by
 obtain⟨W,ρ,Q,px,q,k⟩:=h
 refine⟨W,ρ,_,px,q,λv H1 x g s1 r1 q1=>⟨W,ρ,_,px.mono s1,q1,λlo H2 s2 q2=>⟨W,ρ,_,px.mono (s1.trans s2),q2,?_⟩⟩⟩;rintro hi H3 s3 ⟨xs,e,f,q3⟩;have S:=(s1.trans s2).trans s3;have r3:=r1.same (M':=Mg X.H₀ W H g) (s2.trans s3) λ_ z=>z
 cases r3 with
 |tup h r=>
  cases e;refine .inr ⟨_,_,rfl,aP.of h,λp hp=>k _ _ _ .fr (S.trans (bL hp _)) (.tup b6 (((r.flat f).cut lo hi).same (bL hp _) λ_ z=>z)) q3,λec=>k _ _ _ .fr S (.tup h ?_) q3⟩
  have:=(r.flat (M':=Mg X.H₀ W H .fr) f).cut lo hi
  rw[ec]at this;exact this
 |lst m h r=>
  cases e;exact .inl ⟨_,_,rfl,aU.of h,λp hp=>k _ _ _ .fr (S.trans (bL hp _)) (.lst (S.free hp) b6 (((r.flat f).cut lo hi).same (bL hp _) λ_ z=>z)) q3⟩
 |scr h=>
  cases e;exact .inl ⟨_,_,rfl,h.sqL,λp hp=>k _ _ _ .fr (S.trans (bL hp _)) (.lst (S.free hp) b6 (((Reps.intz _).cut lo hi).same (bL hp _) λ_ z=>z)) q3⟩
 |fL h r=>
  cases e;exact .inl ⟨_,_,rfl,.inl (.inr ⟨_,h⟩),λp hp=>k _ _ _ .fr (S.trans (bL hp _)) (.lst (S.free hp) b6 (((r.flat f).cut lo hi).same (bL hp _) λ_ z=>z)) q3⟩
 |_=>cases e
structure Df (P:ay)(w:ba)(K:ae)(mg:Str->Option av)(base:Heap)(k:Nat)(x:Str)(ps:List Str)(p:bS):Prop where
 ex:∃f fd,bU P w K mg base fF k f fd ps (qX K p)/\dQ K fd ps []/\PySem.W.keepIn K (.ref f)=true/\mg x=some (.ref f)
theorem bI {k j:Nat}{x:Str}{ps:List Str}{p:bS}(d:Df X.prog X.w X.K X.mg X.base k x ps p)(hr:bJ j X.A)(ha:QA X (e::es) tr)(hkj:k<=j:=by decide)(hg:Gl X x:=by rfl)(hdb:(x==("__debug__":Str))=false:=by decide)(he:starEach (e::es) X.env=(false,eval e X.env)::starEach es X.env:=by rfl)(hpl:(backTo pos (starEach es X.env)).any (·.1)=false:=by rfl):QE X (.Call (.Name x p2) (e::es) [] pos) (aE p tr):=by
 obtain⟨f,fd,F,b,kp,m⟩:=d.ex
 exact bX (qH F (hr.mono hkj) hg m kp b .nil aL3 ha hdb he hpl) λ_ _ _=>aS6
theorem uY {K:ae}{H:Hp}{N:List Str}{vs:List V}{xs:List PV}(r:Reps K (λ_=>True) H vs xs):PX K H (λ_=>False) (L2.gA N vs) (gD N xs) H:=by
 have lr:=r.length;have own:∀{i:Nat}{m:Slot},(gD N xs)[i]? = some (some m)->∃x,xs[i]? = some x/\m = .sh (flat x) x:=λ{i m} h=>by
  unfold gD at h;by_cases hi:i<xs.length
  ·rw[bL5 (by simpa using hi),bG4]at h
   rw[bF3 hi]at h ⊢;cases h
   exact⟨_,rfl,rfl⟩
  ·rw[bO0 (by simpa using hi),List.getElem?_replicate]at h
   split at h<;>cases h
 refine⟨by unfold L2.gA gD;simp[lr],aD.refl _,λa z=>z.elim,λi m h=>?_,λi j x y a h1=>?_⟩
 ·obtain⟨x,hx,rfl⟩:=own h
  obtain⟨v,hv,rx⟩:=r.at hx
  refine⟨v,?_,r6 (g:=false) (rx.same (aD.refl _) λ_ _ z=>z)⟩;have hi:i<vs.length:=(bF6.mp hv).1;unfold L2.gA;rw[bL5 (by simpa using hi),bG4,hv];rfl
 ·obtain⟨x,_,e⟩:=own h1
  cases e
theorem Df.of {P:ay}{w:ba}{K:ae}{mg:Str->Option av}{base:Heap}{k:Nat}{x:Str}{ps N:List Str}{p:bS}{st:Stmt}{f:ax}{fd:FuncData}(F:cQ K x x st f fd)(m:mg x=some (.ref f))(S:FnScope N ps (aS st))(hb:∀(kV doc pm:av) (an:Option ax) (cdv ct:av) (us:List av),us.length=ps.length->bindArgs (PySem.W.fnOf x x (eV st) (cU st) (aS st) .none kV doc pm an cdv ct) ⟨us,[]⟩=pure (ps.zip us))(len:∀xs Q,p xs Q->xs.length=ps.length)(body:∀(cdv:av) (A:az) (outer:List Env) (s:aw) (H:Hp) (E:XK),bJ k (A.deeper (envOfC x (aS st) s.heap.objs.size f cdv))->
   ∃t,fG (cP fF P w K mg base N x (aS st) f cdv A outer s H E).nox (cU st) t/\∀xs Q,p xs Q->t { nx:=λ_=>Q .non,rt:=Q } (gD N xs)):Df P w K mg base (k+1) x ps p:=by
 refine⟨f,fd,F.ok S (λvs H Q E h=>?_) (λcdv A outer s H vs Q E hr h=>?_),F.binds hb,F.kp,m⟩
 ·obtain⟨xs,Qp,r,q,_⟩:=h
  rw[r.length];exact len xs Qp q
 ·obtain⟨xs,Qp,r,q,k⟩:=h
  obtain⟨t,ht,hq⟩:=body cdv A outer s H E hr
  refine⟨_,ht,λ_=>False,gD N xs,_,uY r,hq xs Qp q,?_,?_,?_,?_⟩
  ·exact λW' σ' H' ρ' e px q=>k _ _ _ px.same .non q
  ·exact λv H' x s r q=>k _ _ _ s r q
  ·exact λW' σ' H' ρ' e px q=>q
  ·exact λW' σ' H' ρ' e px q=>q
theorem hV (i:Nat){x:Str}{tp:Pos}{body:List Stmt}{ti:gL}(hN:X.N.Nodup)(hi:QI X (.Name x tp) e ti)(hb:fG X body t)(hx:X.N[i]? = some x:=by rfl)(hl:jD X.env.scope x:=by first|exact Or.inl rfl|exact Or.inr rfl)(hf:X.fn x=true∨X.env.scope.names.lookup x=some .local:=by first|exact .inl rfl|exact .inr rfl)(hp:PassesOwn (model X.prog X.w) X.A X.env X.xe:=by exact PassesOwn.never)(hc:X.calm=true:=by rfl)(hs:∀x,foldedSetIterable e X.env x=pure x:=by intro _;rfl):QS X (.For (.Name x tp) e body [] pos) (e9 ti (bW i) t):=
 ad6 hp hc hi (iA hN hx hl hf) (uM _ i) hb hs
theorem ae7 (i j:Nat){x y:Str}{tp xp yp:Pos}{kt:Nat}{body:List Stmt}{ti:gL}(hN:X.N.Nodup)(hi:QI X (.Tuple [.Name x xp,.Name y yp] kt tp) e ti)(hb:fG X body t)(hx:X.N[i]? = some x:=by rfl)(hy:X.N[j]? = some y:=by rfl)(hlx:jD X.env.scope x:=by first|exact Or.inl rfl|exact Or.inr rfl)(hly:jD X.env.scope y:=by first|exact Or.inl rfl|exact Or.inr rfl)(hfx:X.fn x=true∨X.env.scope.names.lookup x=some .local:=by first|exact .inl rfl|exact .inr rfl)(hfy:X.fn y=true∨X.env.scope.names.lookup y=some .local:=by first|exact .inl rfl|exact .inr rfl)(hp:PassesOwn (model X.prog X.w) X.A X.env X.xe:=by exact PassesOwn.never)(hc:X.calm=true:=by rfl)(hs:∀x,foldedSetIterable e X.env x=pure x:=by intro _;rfl):QS X (.For (.Tuple [.Name x xp,.Name y yp] kt tp) e body [] pos) (e9 ti (k7 i j) t):=
 ad6 hp hc hi (pY hc (jY (iA hN hx hlx hfx) (jY (iA hN hy hly hfy) pX))) (zX _ i j) hb hs
abbrev dC:av->aw->Prop:=λ_ _=>False
section
variable {scope:Scope}{N:List Str}{fr:List (Option Nat)}{x y:Str}{tp xp yp:Pos}{kt:Nat}{iter elt:Expr}{ti:gL}
theorem C1 {ifs:List Expr}{tcs:cN}(he:∀(s:aw) (H:Hp) (C:ax) (fp:List ax),QE (bZ X scope N s H C fp dC) elt te)(hi:∀(s:aw) (H:Hp) (C:ax) (fp:List ax),mC (bZ X scope N s H C fp dC) ifs (LT (bZ X scope N s H C fp dC) tcs))(hN:N.Nodup)(h0:N[0]? = some x)(hl:∀(s:aw) (H:Hp) (C:ax) (fp:List ax),(bZ X scope N s H C fp dC).env.scope.names.lookup x=some .local)(s:aw)(H:Hp) :
  oJ X scope N (.Name x tp) ifs elt s H (dN 0) (LT (X.frm H) tcs) (LE (X.frm H) te):=
 ⟨λC fp=>iA (X:=bZ X scope N s H C fp dC) hN h0 (.inl (hl s H C fp)) (.inr (hl s H C fp)),λC fp=>hi s H C fp,λC fp=>he s H C fp⟩
theorem ae8 {Y:Cx}:mC Y [] (LT Y iK):=λah s σ H Q I h=>tT ah s σ H Q I (aT5 h)
theorem rG (hi:QI X (.Name x tp) iter ti)(he:∀(s:aw) (H:Hp) (C:ax) (fp:List ax),QE (bZ X scope N s H C fp dC) elt te)(hc:X.calm=true:=by rfl)(S:dS X scope N fr:=by exact dS.of rfl rfl)(hN:N.Nodup:=by decide +kernel)(h0:N[0]? = some x:=by rfl)(hl:∀(s:aw) (H:Hp) (C:ax) (fp:List ax),(bZ X scope N s H C fp dC).env.scope.names.lookup x=some .local:=by intro _ _ _ _;rfl)(hf:fr[0]? = some none:=by rfl)(hs:∀x,foldedSetIterable iter X.env x=pure x:=by intro _;rfl):QE X (.ListComp elt [⟨.Name x tp,iter,[],0⟩] scope pos) (dH ti fr (bW 0) iK te):=
 bX (tV (gh:=λ_=>dN 0) (tch:=λH=>LT (X.frm H) iK) (teh:=λH=>LE (X.frm H) te) hc S hi (C1 he (λ_ _ _ _=>ae8) hN h0 hl) hs) λ_ _ _=>r9 (uM _ 0) (λi e=>by subst e;exact hf)
theorem mL {c:Expr}{tcs:cN}(hi:QI X (.Name x tp) iter ti)(ht:∀(s:aw) (H:Hp) (C:ax) (fp:List ax),QT (bZ X scope N s H C fp dC) c tcs)(he:∀(s:aw) (H:Hp) (C:ax) (fp:List ax),QE (bZ X scope N s H C fp dC) elt te)(hc:X.calm=true:=by rfl)(S:dS X scope N fr:=by exact dS.of rfl rfl)(hN:N.Nodup:=by decide +kernel)(h0:N[0]? = some x:=by rfl)(hl:∀(s:aw) (H:Hp) (C:ax) (fp:List ax),(bZ X scope N s H C fp dC).env.scope.names.lookup x=some .local:=by intro _ _ _ _;rfl)(hf:fr[0]? = some none:=by rfl)(hs:∀x,foldedSetIterable iter X.env x=pure x:=by intro _;rfl):QE X (.ListComp elt [⟨.Name x tp,iter,[c],0⟩] scope pos) (dH ti fr (bW 0) tcs te):=
 bX (tV (gh:=λ_=>dN 0) (tch:=λH=>LT (X.frm H) tcs) (teh:=λH=>LE (X.frm H) te) hc S hi (C1 he (λs H C fp=>yR (ht s H C fp)) hN h0 hl) hs) λ_ _ _=>r9 (uM _ 0) (λi e=>by subst e;exact hf)
theorem aW5 {c:Expr}{tcs:cN}{i:Nat}{z:Str}{zp:Pos}(nd:X.N.Nodup)(hi:QI X (.Name x tp) iter ti)(ht:∀(s:aw) (H:Hp) (C:ax) (fp:List ax),QT (bZ X scope N s H C fp dC) c tcs)(he:∀(s:aw) (H:Hp) (C:ax) (fp:List ax),QE (bZ X scope N s H C fp dC) elt te)(hz:X.N[i]? = some z:=by rfl)(hzl:X.env.scope.names.lookup z=some .local:=by rfl)(hsw:swapsWith (.ListComp elt [⟨.Name x tp,iter,[c],0⟩] scope p2) (some (.Name z zp)) pos.line X.env=pure true:=by rfl)(hc:X.calm=true:=by rfl)(S:dS X scope N fr:=by exact dS.of rfl rfl)(hN:N.Nodup:=by decide +kernel)(h0:N[0]? = some x:=by rfl)(hl:∀(s:aw) (H:Hp) (C:ax) (fp:List ax),(bZ X scope N s H C fp dC).env.scope.names.lookup x=some .local:=by intro _ _ _ _;rfl)(hf:fr[0]? = some none:=by rfl)(hs:∀x,foldedSetIterable iter X.env x=pure x:=by intro _;rfl):QS X (.Assign [.Name z zp] (.ListComp elt [⟨.Name x tp,iter,[c],0⟩] scope p2) pos) (bC i (dH ti fr (bW 0) tcs te)):=
 dE (aM1 (gh:=λ_=>dN 0) (tch:=λH=>LT (X.frm H) tcs) (teh:=λH=>LE (X.frm H) te) hc S hi (C1 he (λs H C fp=>yR (ht s H C fp)) hN h0 hl) nd hz hzl hsw hs) λD σ H h=>r9 (uM _ 0) (λi e=>by subst e;exact hf) (aa7 h)
end
theorem aW6:qM X "list.extend" (aa9 X.K):=λah s σ H x xs v us Q I rx rs h=>h.elim (aJ0 ah s σ H x xs v us Q I rx rs) (aP5 ah s σ H x xs v us Q I rx rs)
theorem aW7 (i:Nat){x:Str}{ai aj xpos:Pos}(he:QE X e te)(hN:X.N[i]? = some x:=by rfl)(hv:cO X.env.scope x:=by first|exact Or.inl rfl|exact Or.inr (Or.inl rfl)|exact Or.inr (Or.inr rfl))(hd:(x==("__debug__":Str))=false:=by decide)(hcd:(x==("__classdict__":Str))=false:=by decide)(hbase:attributeBase (.Name x xpos) "extend" X.env (eval (.Name x xpos) X.env)=eval (.Name x xpos) X.env:=by rfl)(hfew:((backTo aj (starEach [e] X.env)).all (λx=>!x.1)&&(backToKw aj (keywordEach [] X.env)).all (λx=>x.1.isSome)&&decide (([e]:List Expr).length+([]:List Keyword).length+(if ([]:List Keyword).isEmpty then 0 else 1)<30))=true:=by rfl)(hline:(ai.endLine==aj.line)=true:=by rfl)(hs:starEach [e] X.env=(false,eval e X.env)::starEach [] X.env:=by rfl)(ar:(backTo aj (starEach [] X.env)).any (·.1)=false:=by rfl)(hsw:swapsWith (.Call (.Attribute (.Name x xpos) "extend" ai) [e] [] aj) none pos.line X.env=pure false:=by rfl) :
  QS X (.Expr (.Call (.Attribute (.Name x xpos) "extend" ai) [e] [] aj) pos) (zP i te):=
 dE (lZ (tK bP6 PySem.F.slot_list_extend PySem.F.type_list_extend aW6 (dM hN hv hd hcd) (d8 he dO hs) hbase hfew hline hs ar) hsw) λ_ _ _=>aR7
theorem aW8 (i:Nat){x:Str}{ai aj xpos:Pos}(he:QE X e te)(hm:M1 X (.Name x xpos) "update" ai e aj:=by exact⟨rfl,rfl,rfl,rfl⟩)(hN:X.N[i]? = some x:=by rfl)(hv:cO X.env.scope x:=by first|exact Or.inl rfl|exact Or.inr (Or.inl rfl)|exact Or.inr (Or.inr rfl))(hd:(x==("__debug__":Str))=false:=by decide)(hcd:(x==("__classdict__":Str))=false:=by decide)(hsw:swapsWith (.Call (.Attribute (.Name x xpos) "update" ai) [e] [] aj) none pos.line X.env=pure false:=by rfl):QS X (.Expr (.Call (.Attribute (.Name x xpos) "update" ai) [e] [] aj) pos) (A3 i te):=
 dE (lZ (aP3 (dM hN hv hd hcd) he hm) hsw) λ_ _ _=>aU3
end
end PP
namespace SO
open PySem PyProof.Rows
variable {rk:Keyed→Int}
section
variable {κ:SortKind}{a0:Array Keyed}{pd:Array (Nat×Nat×Nat)}{st:SortSt}{prog:ay}{w:ba}{A:az}{E:av→aw→Prop}{s:aw}{Ok:Keyed→Prop}
abbrev DS:=Option (Option Nat)×Nat×Nat
end
abbrev LS:=Option (Array Keyed)×Array Keyed×Nat×Nat×Nat×Nat×Nat
abbrev LO:=Option (Array Keyed)×Array Keyed×Nat×Nat×Nat
variable {rk:Keyed→Int}{xs ys o:List Keyed}{i j:Nat}
variable {rk:Keyed→Int}{xs ys o:List Keyed}{i j:Nat}
variable {rk:Keyed→Int}
def Ch:Nat->List (Nat×Nat)->Nat->Prop
 |a,[],b=>a=b
 |a,(p,n)::r,b=>p=a/\0<n/\Ch (a+n) r b
variable {rk:Keyed→Int}{κ:SortKind}{a0:Array Keyed}{pd:Array (Nat×Nat×Nat)}{st:SortSt}{prog:ay}{w:ba}{A:az}{E:av→aw→Prop}{s:aw}{Ok:Keyed→Prop}
end SO
namespace L2
open PySem PySem.Spec PyProof.Rows
theorem bY.at {P:ay}{w:ba}{H:Hp}{h:Heap}{a:ax}{o:HO}(x:bY P w H h a o):∃ob,h.get? a=some ob:=by
 cases o with
 |lst xs=>obtain⟨_,_,_,_,e⟩:=x;exact⟨_,e⟩
 |tup xs=>obtain⟨_,_,_,⟨_,e,_⟩,_⟩:=x;exact⟨_,e⟩
 |dK kvs=>obtain⟨_,_,_,_,_,_,_,e,_⟩:=x;exact⟨_,e⟩
 |dT kvs=>obtain⟨_,_,_,_,_,_,_,e,_⟩:=x;exact⟨_,e⟩
 |set S n=>obtain⟨_,_,_,_,e,_⟩:=x;exact⟨_,e⟩
 |ins C dx fs=>obtain⟨_,_,_,e,_⟩:=x;exact⟨_,e⟩
 |own y=>exact x
 |xd fs=>obtain⟨_,⟨_,_,_,e,_⟩,_⟩:=x;exact⟨_,e⟩
 |rng lo hi=>obtain⟨_,_,_,e⟩:=x;exact⟨_,e⟩
 |frz ob u=>obtain⟨e,_⟩:=x;exact⟨_,e⟩
 |tbl ps=>exact⟨_,x⟩
 |met f y=>exact⟨_,x⟩
 |ext φ=>exact x.2.1
structure mM (P:ay)(w:ba)(outer:List Env)(H:Hp)(s:aw)(H':Hp)(B:Heap)(a C:ax)(s':aw):Prop where
 os:s'.os=s.os
 bare:AllBare s'.gens
 un:Un (cE outer) [] H H' s.heap s'.heap
 hok:cF P w H' s'.heap
 fly:∃a0,Heap.FlyingW B outer a (.ref C) a0 s'.heap
 b0:∀b o,s.heap.get? b=some o->b∉cE outer->∃o',B.get? b=some o'
 b1:∀b o,s.heap.get? b=some o->H b=none->b∉cE outer->B.get? b=some o
 b2:∀b u o,H' b=some u->s'.heap.get? b=some o->B.get? b=some o
def bR (P:ay)(w:ba):iZ:=λouter H s E e s'=>∃(H':Hp) (B:Heap) (a C:ax),e = .ref a/\mM P w outer H s H' B a C s'/\E (.ref C) none H'
section
variable {P:ay}{w:ba}{outer:List Env}{H H':Hp}{s s':aw}{B h2:Heap}{a C:ax}
theorem mM.fresh (f:mM P w outer H s H' B a C s'):H' a=none:=by
 cases q:H' a with
 |none=>rfl
 |some u=>
  obtain⟨ob,e⟩:=(f.hok a u q).at
  have z:=f.b2 a u ob q e
  obtain⟨_,_,n,_⟩:=f.fly
  rw[n]at z;cases z
theorem mM.hok2 (f:mM P w outer H s H' B a C s')(k:B.StaysIn h2):cF P w H' h2:=λb u e=>
 (f.hok b u e).stay (λc v hc q=>by
  rcases hc with z|z
  ·subst z;exact k _ _ (f.b2 _ _ _ e q)
  ·exact k _ _ (f.b2 _ _ _ z q)) (λ_ q=>q) λ_ _ q=>q
end
section
variable {P:ay}{w:ba}{K:ae}{mg:Str→Option av}{base:Heap}{N:List Str}{qual:Str}{scope:Scope}{f:ax}{cd:av}{A:az}{outer:List Env}{s₀:aw}{H₀:Hp}{E₀ E₁:XK}
theorem uZ {ah:List (ax×Obj)}{σ:St}{H:Hp}{s:aw}(I:a7 (cP (bR P w) P w K mg base N qual scope f cd A outer s₀ H₀ E₀) ah σ H s){b:ax}{o:Obj}(e:s₀.heap.get? b=some o)(n:b∉cE outer) :
  b∉cE (envOfC qual scope s₀.heap.objs.size f cd::outer):=λz=>by
 rcases bG0.mp (I.stkSub b z) with y|y
 ·have l:=bG6 e
  have y:b=s₀.heap.objs.size:=y;exact absurd l (by rw[y];exact bJ5 _)
 ·exact n y
theorem aW9 (hE:∀c d H',E₁ c d H'->E₀ c d H'):iC (bR P w) (cP (bR P w) P w K mg base N qual scope f cd A outer s₀ H₀ E₀) E₁:=by
 intro ah σ H s e s' I hx
 obtain⟨H',B,a,C,e1,fl,q⟩:=hx
 subst e1;have I':=I.call' fl.os fl.un fl.hok fl.bare (ch:=[]) (λb z=>absurd z (by simp))
 obtain⟨a0,fly⟩:=fl.fly
 refine wpAny_leaves_onW I.ok.frames rfl fly λh' fly' up=>?_
 have slot:∀b o,s₀.heap.get? b=some o->b∈cE outer->∃sl,h'.get? b=some { o with slots:=sl }:=λb o e hb=>by
  obtain⟨sl,e1⟩:=I'.base.slot b o e (I.ok.frf b hb) hb (λz=>nomatch z)
  obtain⟨_,o2,e2,nf⟩:=I.ok.funs.mem hb
  rw[show (cP (bR P w) P w K mg base N qual scope f cd A outer s₀ H₀ E₀).s₀=s₀ from rfl,e]at e2;cases e2
  obtain⟨sl',e3⟩:=up b _ e1 nf
  exact⟨sl',e3⟩
 have old:∀b o,s₀.heap.get? b=some o->H₀ b=none->b∉cE outer->B.get? b=some o:=λb o e n hb=>
  fl.b1 b o (I.base.keep b o e n hb (λz=>nomatch z)) (I.base.free b o e n (λz=>nomatch z)) (uZ I e hb)
 have old0:∀b o,s₀.heap.get? b=some o->b∉cE outer->∃o',B.get? b=some o':=λb o e hb=>by
  obtain⟨o1,e1⟩:=I.base.there b o e (λz=>nomatch z)
  exact fl.b0 b o1 e1 (uZ I e hb)
 refine⟨H',B,a,C,rfl,⟨I'.os,I'.bare,⟨λb o e n hb _=>fly'.1 _ _ (old b o e n hb),λb o e n hb _=>slot b o e hb,λb o e n hx=>I'.base.free b o e n hx,λb o e _=>?_,I'.base.tups,I'.base.frzs,I'.base.tbls⟩,fl.hok2 fly'.1,⟨a0,fly'⟩,old0,old,λb u o e h=>?_⟩,hE _ _ _ q⟩
 ·by_cases hb:b∈cE outer
  ·obtain⟨sl,e1⟩:=slot b o e hb
   exact⟨_,e1⟩
  ·obtain⟨o',e1⟩:=old0 b o e hb
   exact⟨o',fly'.1 _ _ e1⟩
 ·obtain⟨ob,e1⟩:=(fl.hok b u e).at
  have e2:=fl.b2 b u ob e e1;have e3:=fly'.1 _ _ e2;have h:h'.get? b=some o:=h;rw[h]at e3;cases e3;exact e2
theorem aX0 {ah:List (ax×Obj)}{σ:St}{H:Hp}{s:aw}{h':Heap}{e C:ax}{args:List av}(I:a7 (cP (bR P w) P w K mg base N qual scope f cd A outer s₀ H₀ E₀) ah σ H s)(mx:Heap.MadeExcOf s.heap h' e (.ref C) args)(q:E₀ (.ref C) none H) :
  (cP (bR P w) P w K mg base N qual scope f cd A outer s₀ H₀ E₀).xe (.ref e) { s with heap:=h' }:=by
 have tr:∀b u,H b=some u->b∉cE (envOfC qual scope s₀.heap.objs.size f cd::outer):=λb u z n=>by
  rw[I.stkFree b n]at z;cases z
 have inB:∀b o,s.heap.get? b=some o->b∉cE (envOfC qual scope s₀.heap.objs.size f cd::outer)->(PySem.W.hideAll s.heap (cE (envOfC qual scope s₀.heap.objs.size f cd::outer))).get? b=some o:=λb o z n=>PySem.W.hideAll_get _ z n
 refine wpAny_leaves_madeW (base:=PySem.W.hideAll s.heap (cE (envOfC qual scope s₀.heap.objs.size f cd::outer))) I.ok.frames rfl (λb o z=>PySem.W.of_hideAll _ z) (PySem.W.funFrames_hide I.stack λenv he b hb=>List.mem_filterMap.mpr ⟨env,he,hb⟩) mx λh'' t fly _ _ up=>?_
 have slot:∀b o,s₀.heap.get? b=some o->b∈cE outer->∃sl,h''.get? b=some { o with slots:=sl }:=λb o e hb=>by
  obtain⟨sl,e1⟩:=I.base.slot b o e (I.ok.frf b hb) hb (λz=>nomatch z)
  obtain⟨_,o2,e2,nf⟩:=I.ok.funs.mem hb
  rw[show (cP (bR P w) P w K mg base N qual scope f cd A outer s₀ H₀ E₀).s₀=s₀ from rfl,e]at e2;cases e2
  obtain⟨sl',e3⟩:=up b _ (mx.keeps _ _ e1) nf
  exact⟨sl',e3⟩
 have old:∀b o,s₀.heap.get? b=some o->H₀ b=none->b∉cE outer->(PySem.W.hideAll s.heap (cE (envOfC qual scope s₀.heap.objs.size f cd::outer))).get? b=some o:=λb o e n hb=>
  inB b o (I.base.keep b o e n hb (λz=>nomatch z)) (uZ I e hb)
 have old0:∀b o,s₀.heap.get? b=some o->b∉cE outer->∃o',(PySem.W.hideAll s.heap (cE (envOfC qual scope s₀.heap.objs.size f cd::outer))).get? b=some o':=λb o e hb=>by
  obtain⟨o1,e1⟩:=I.base.there b o e (λz=>nomatch z)
  exact⟨o1,inB b o1 e1 (uZ I e hb)⟩
 refine⟨H,_,e,C,rfl,⟨I.os,I.bare,⟨λb o e n hb _=>fly.1 _ _ (old b o e n hb),λb o e n hb _=>slot b o e hb,λb o e n hx=>I.base.free b o e n hx,λb o e _=>?_,I.base.tups,I.base.frzs,I.base.tbls⟩,λb u z=>?_,⟨_,fly⟩,old0,old,λb u o z h=>?_⟩,q⟩
 ·by_cases hb:b∈cE outer
  ·obtain⟨sl,e1⟩:=slot b o e hb
   exact⟨_,e1⟩
  ·obtain⟨o',e1⟩:=old0 b o e hb
   exact⟨o',fly.1 _ _ e1⟩
 ·refine (I.hok b u z).stay (λc v hc y=>?_) (λ_ y=>y) λ_ _ y=>y
  rcases hc with z'|z'
  ·subst z';exact fly.1 _ _ (inB _ _ y (tr _ _ z))
  ·exact fly.1 _ _ (inB _ _ y (tr _ _ z'))
 ·obtain⟨ob,e1⟩:=(I.hok b u z).at
  have e2:=inB b ob e1 (tr b u z);have e3:=fly.1 _ _ e2;have h:h''.get? b=some o:=h;rw[h]at e3;cases e3;exact e2
end
structure lI (X:Cx)(E:XK):Prop where
 pass:iC (bR X.prog X.w) X E
 made:∀(ah:List (ax×Obj)) (σ:St) (H:Hp) (s:aw) (h':Heap) (e C:ax) (args:List av),a7 X ah σ H s->Heap.MadeExcOf s.heap h' e (.ref C) args->E (.ref C) none H->X.xe (.ref e) { s with heap:=h' }
 own:PassesOwn (model X.prog X.w) X.A X.env X.xe
theorem v3 {P:ay}{w:ba}{K:ae}{mg:Str->Option av}{base:Heap}{N:List Str}{qual:Str}{scope:Scope}{f:ax}{cd:av}{A:az}{outer:List Env}{s₀:aw}{H₀:Hp}{E₀ E₁:XK}(hE:∀c d H',E₁ c d H'->E₀ c d H') :
  lI (cP (bR P w) P w K mg base N qual scope f cd A outer s₀ H₀ E₀) E₁:=
 ⟨aW9 hE,λ_ _ _ _ _ _ _ _ I mx q=>aX0 I mx (hE _ _ _ q),PassesOwn.leaving⟩
def ae9 (E:XK)(C:ax)(t:TA):TS:=λ_ σ H=>t σ H λvs H1=>vs.length<=sizeLine/\E (.ref C) none H1
theorem aX1 {X:Cx}{E:XK}{x:Str}{C:ax}{bm:List av}{B newId initId:String}{np aj pos:Pos}{e:Expr}{es:List Expr}{t:TA}(hX:lI X E)(hc:X.calm=true)(O:OwnCls x C bm newId X.mg X.base)(FB:ExcBaseFacts B newId initId bm)(ha:PA X (e::es) t)(hg:Gl X x)(hd:(x==("__debug__":Str))=false:=by decide)(he:starEach (e::es) X.env=(false,eval e X.env)::starEach es X.env:=by rfl)(hpl:(backTo aj (starEach es X.env)).any (·.1)=false:=by rfl) :
  PS X (.Raise (some (.Call (.Name x np) (e::es) [] aj)) none pos) (ae9 E C t):=by
 intro ah s σ H D I h
 obtain⟨tl,Na,nm,qn,bs,hx,sn,sub,ab,col,dd,k0,k1,k2,k3,k5,mN,hC,hN,hni,T⟩:=O.obj
 refine wpAny_Raise_call_subT (nm:=nm) (q:=qn) (N:=Na) (bs:=bs) (bm:=tl) (hdct:=hx) (sn:=sn) (sub:=sub) (ab:=ab) (col:=col) (dd:=dd) (k0:=k0) (k1:=k1) (k2:=k2) (k3:=k3) (k5:=k5) FB (C:=C) (mN:=mN) (T.hasType FB.hasBase) (I.ok.hd hc) (by rw[he];show (false||(backTo aj (starEach es X.env)).any (·.1))=false;rw[hpl];rfl) hni (oA I hg O.bound ⟨rfl,?_⟩ hd);have h1:=ha aj ah s σ H _ I h;rw[he]at h1 ⊢;refine bR9 (bK8 h1 (λus s2 h2=>?_) λ_ _ y=>y)
 obtain⟨vs,H2,I2,r,hl,q⟩:=h2
 have r:aW vs us:=r
 exact⟨rfl,by show us.length<=sizeLine;rw[<- r.length];exact hl,I2.bk _ _ hC,hN.keeps I2.bk,T.keeps I2.bk,λh' e' mx=>hX.made ah σ H2 s2 h' e' C _ I2 mx q⟩
theorem cQ.okX {P:ay}{w:ba}{K:ae}{mg:Str->Option av}{base:Heap}{x qual:Str}{st:Stmt}{f:ax}{fd:FuncData}{N ps:List Str}{k:Nat}{sp:Sp}(F:cQ K x qual st f fd)(S:FnScope N ps (aS st))(len:∀vs H Q E,sp vs H Q E->vs.length=ps.length)(hbody:∀(cdv:av) (A:az) (outer:List Env) (s:aw) (H:Hp) (vs:List V) (Q:VK) (E:XK),bJ k (A.deeper (envOfC qual (aS st) s.heap.objs.size f cdv))->sp vs H Q E->
   ∃t,dL (cP (bR P w) P w K mg base N qual (aS st) f cdv A outer s H E) (cU st) t/\t { nx:=λ_ H'=>Q .non H',rt:=Q } (gA N vs) H):bU P w K mg base (bR P w) (k+1) f fd ps sp:=by
 obtain⟨oc,od,kV,doc,pm,an,cdv,ct,osl,rfl,lk,hcd⟩:=F.ex
 exact T3 lk hcd S len λA outer s H vs Q E hr hsp=>hbody cdv A outer s H vs Q E hr hsp
section
variable {X:Cx}{ah:List (ax×Obj)}{σ:St}{H H1 H':Hp}{s s1 s':aw}{B h2:Heap}{a C:ax}
theorem v4 {oe:Obj}(I:a7 X ah σ H1 s1)(fl:mM X.prog X.w X.stack H1 s1 H' B a C s')(st:B.StaysIn h2)(up:s'.heap.UpToSlots h2)(he:h2.get? a=some oe) :
  a7 X ah σ (upd H' a (.frz oe (.own a))) { s' with heap:=h2 }:=by
 obtain⟨a0,fly⟩:=fl.fly
 have na:B.get? a=none:=fly.2.1;have nf:a∉cE X.stack:=λz=>by
  obtain⟨_,o,e,d⟩:=fly.2.2.1.mem z
  obtain⟨o2,vs,e2,_,d2,_⟩:=fly.first
  rw[e]at e2;cases e2;exact d vs d2
 have nb:∀b o,s1.heap.get? b=some o->b≠a:=λb o e z=>by
  subst z
  obtain⟨o',e'⟩:=fl.b0 _ o e nf
  rw[na]at e';cases e'
 have nt:∀b u,H' b=some u->b≠a:=λb u e z=>by
  subst z;rw[fl.fresh]at e;cases e
 have off:∀b,b≠X.env.locals->b∉X.fs->b∉cE X.stack:=λb n1 n2 z=>(bG0.mp (I.stkSub b z)).elim n1 n2
 have slot:∀b o,s1.heap.get? b=some o->b∈cE X.stack->∃sl,h2.get? b=some { o with slots:=sl }:=λb o e hb=>by
  obtain⟨sl,e1⟩:=fl.un.any e (I.stkFree b hb) (λz=>nomatch z)
  obtain⟨_,o2,e2,d⟩:=I.stack.mem hb
  rw[e]at e2;cases e2
  obtain⟨sl',e3⟩:=up b _ e1 d
  exact⟨sl',e3⟩
 have ns:∀m,s1.heap.Ns X.env.locals m->h2.Ns X.env.locals m:=λm hm=>by
  obtain⟨o,es,ep,e,r⟩:=hm
  obtain⟨sl,e1⟩:=fl.un.any e I.free (λz=>nomatch z)
  exact up.ns ⟨_,es,ep,e1,r⟩
 have hok:cF X.prog X.w (upd H' a (.frz oe (.own a))) h2:=λb u e=>by
  by_cases hb:b=a
  ·subst hb;rw[b6]at e;cases e;exact⟨he,_,he⟩
  ·rw[aL hb]at e
   exact (fl.hok2 st b u e).stay (λ_ _ _ q=>q) (λc q=>by rw[aL (nt c _ q)];exact q) λc xs q=>by rw[aL (nt c _ q)];exact q
 have bare:=fl.bare;have un:=fl.un;have b0:=fl.b0;have b1:=fl.b1;have os:=fl.os;clear fl fly up
 obtain⟨hh,g,d,t,os'⟩:=s'
 obtain rfl:os'=s1.os:=os;show a7 X ah σ _ { s1 with heap:=h2,gens:=g,drawn:=d,toks:=t };refine I.step (h':=h2) (g':=g) (d':=d) (t':=t) (ch:=[]) (λ_ z=>nomatch z) (λb o n1 n2 _ e n=>st _ _ (b1 b o e n (off b n1 n2))) (λb o n1 hb _ e n=>?_) (λb o _ e n=>by rw[aL (nb b o e)];exact un.free b o e n (λz=>nomatch z)) (λb o _ e=>?_)
  (λb xs q=>by rw[aL (nt b _ (un.tups b xs q))];exact un.tups b xs q) (λb o u q=>by rw[aL (nt b _ (un.frzs b o u q))];exact un.frzs b o u q) (λb ps q=>by
   obtain⟨more,q'⟩:=un.tbls b ps q
   exact⟨more,by rw[aL (nt b _ q')];exact q'⟩) ns hok bare
 ·by_cases hs:b∈cE X.stack
  ·exact slot b o e hs
  ·exact⟨o.slots,st _ _ (b1 b o e n hs)⟩
 ·by_cases hb:b∈cE X.stack
  ·obtain⟨sl,e1⟩:=slot b o e hb
   exact⟨_,e1⟩
  ·obtain⟨o',e1⟩:=b0 b o e hb
   exact⟨o',st _ _ e1⟩
abbrev Cx.suite (X:Cx)(a:ax):Cx:={ X with A:=X.A.mark (some (.ref a)),calm:=false,xe:=λ_ _=>False }
theorem Cx.Ok.suite {X:Cx}(ok:X.Ok)(a:ax):(X.suite a).Ok:=
 ⟨ok.mod,ok.kind,ok.glob,ok.blt,ok.above,ok.inj,ok.has,ok.cab,λz=>Bool.noConfusion z,ok.frames,ok.stk,ok.exf,ok.bs,ok.bsz,ok.noex,ok.exfs,ok.funs,ok.frf⟩
theorem a7.suite (I:a7 X ah σ H s)(a:ax):a7 (X.suite a) ah σ H s:=⟨I.ok.suite a,I.os,I.bare,I.base,I.loc,I.cell,I.free,I.freeC,I.pin,I.hok,I.len⟩
theorem a7.unsuite (I:a7 (X.suite a) ah σ H s)(ok:X.Ok):a7 X ah σ H s:=⟨ok,I.os,I.bare,I.base,I.loc,I.cell,I.free,I.freeC,I.pin,I.hok,I.len⟩
theorem v7 {M:Model}{A:az}{E:av->aw->Prop}{i:Nat}{x:Str}{pos:Pos}{Q:Unit->aw->Prop}(I:a7 X ah σ H s)(hN:X.N.Nodup)(hi:X.N[i]? = some x)(hk:X.env.scope.names.lookup x=some .local)(h:∀s',a7 X ah (σ.set i none) H s'->Q () s'):wpAny M A (do bindName X.env x .none;unbindBehindTheSuite X.env x pos) Q E s:=by
 obtain⟨m,hn,hl⟩:=id I.loc
 obtain⟨oL,_,_,hoL,_⟩:=id hn
 have ab:∀b o,X.s₀.heap.get? b=some o->b≠X.env.locals:=λb o e=>bI3 (bG2 (bG6 e) I.ok.above)
 refine wpAny_nameGoes_keeps hk hn (by rw[I.ok.kind];rfl) λh' v hn' hs=>?_
 refine h _ ⟨I.ok,I.os,I.bare,⟨λb o e n hb hx=>(hs.2 b (ab b o e)).trans (I.base.keep b o e n hb hx),λb o e n hb hx=>?_,I.base.free,λb o e hx=>?_,I.base.tups,I.base.frzs,I.base.tbls⟩,⟨_,hn',λj y v' e1 e2 e3=>?_⟩,λy c e=>?_,I.free,I.freeC,λp hp=>?_,λb u e=>?_,by simpa using I.len⟩
 ·obtain⟨sl,e1⟩:=I.base.slot b o e n hb hx
  exact⟨sl,(hs.2 b (ab b o e)).trans e1⟩
 ·obtain⟨o',e1⟩:=I.base.there b o e hx
  exact⟨o',(hs.2 b (ab b o e)).trans e1⟩
 ·by_cases hj:j=i
  ·subst hj
   have hjl:j<σ.length:=by rw[I.len];exact (bF6.mp hi).1
   rw[bK7 hjl]at e2;cases e2
  ·rw[bH2 (Ne.symm hj)]at e2
   obtain⟨u',r',q⟩:=hl j y v' e1 e2 e3
   refine⟨u',r',?_⟩;rcases q with⟨k,e⟩|⟨k,c,e,z⟩
   ·have ny:y≠x:=λz=>hj (x6 hN e1 (z▸hi))
    exact .inl ⟨k,by simp[ny,e]⟩
   ·exact .inr ⟨k,c,e,z.sameBut hs (I.cne y c e)⟩
 ·obtain⟨w',z⟩:=I.cell y c e
  exact⟨w',z.sameBut hs (I.cne y c e)⟩
 ·obtain⟨e,n,ne,nf,d⟩:=I.pin p hp
  exact⟨(hs.2 p.1 ne).trans e,n,ne,nf,d⟩
 ·refine (I.hok b u e).stay (λc v hc q=>(hs.2 c λz=>?_).trans q) (λ_ q=>q) λ_ _ q=>q
  subst z;rcases hc with z|z
  ·subst z;rw[I.free]at e;cases e
  ·rw[I.free]at z;cases z
theorem af0 {M:Model}{A:az}{E:av->aw->Prop}{K:ae}{e C D:ax}{oe:Obj}{Q:Bool->aw->Prop}(k:K.In s.heap)(he:s.heap.get? e=some oe)(hc:oe.cls = .ref C)(h1:(PySem.W.clsIn K D).isSome=true)(h2:PySem.W.typeIn K (.ref D)=some (.type "type"))(h3:PySem.W.subIn K (.ref D) (.type "BaseException")=some true)(h4:PySem.W.subIn K (.ref C) (.ref D)=some true)(hq:Q true s):wpAny M A (excMatches (.ref e) (.ref D)) Q E s:=by
 obtain⟨h,g,d,t,os⟩:=s
 have k:K.In h:=k;have he:h.get? e=some oe:=he;have l1:PySem.W.Looks M h (isType (.ref D)) true:=by
  unfold PySem.W.clsIn at h1;split at h1
  ·rename_i c' d' cd' sl' ho
   intro A' Q' E' s' kk q;unfold isType loadHead;exact bE9 (wpAny_loadPart (kk _ _ (k _ _ ho)) (bF5 q))
  ·cases h1
 have l2:PySem.W.Looks M h (typeOf (.ref D)) (.type "type"):=PySem.W.looks_typeIn k h2;have l3:PySem.W.Looks M h (isSubtype (.ref D) (.type "BaseException")) true:=PySem.W.looks_subIn k h3;have l4:PySem.W.Looks M h (isSubtype (.ref C) (.ref D)) true:=PySem.W.looks_subIn k h4;have l5:PySem.W.Looks M h (typeOf (.ref e)) (.ref C):=hc▸(PySem.W.Looks.ld he).andThen .now;have l6:PySem.W.Looks M h (isInstance (.ref D) (.type "tuple")) false:=l2.andThen (PySem.W.Looks.of_pure tc_notTuple);have l7:PySem.W.Looks M h (isExcClass (.ref D)) true:=by
  unfold isExcClass;exact l1.andThen (by simpa using l3)
 have f:=tc_notTuple;unfold excMatches
 repeat (first|exact hq|(with_reducible refine l2.at ?_)|(with_reducible refine l7.at ?_)|(with_reducible refine l1.at ?_)|(with_reducible refine l3.at ?_)|(with_reducible refine l5.at ?_)|(with_reducible refine l4.at ?_)|wp_step)
end
def C2 (D:bP)(i:Nat):bP:={ nx:=λσ H=>D.nx (σ.set i none) H,rt:=D.rt,bk:=λσ H=>D.bk (σ.set i none) H,ct:=λσ H=>D.ct (σ.set i none) H }
section
variable {X:Cx}{ah:List (ax×Obj)}{σ:St}{H H1 H':Hp}{s s1 s':aw}{B:Heap}{a C Ch:ax}{i:Nat}{x n:Str}{np pos hpos:Pos}{b₀:Stmt}{suite:List Stmt}{ts:TS}{D:bP}{cX:List ExceptHandler}
structure rH (K:ae)(Ch:ax):Prop where
 c1:(PySem.W.clsIn K Ch).isSome=true
 c2:PySem.W.typeIn K (.ref Ch)=some (.type "type")
 c3:PySem.W.subIn K (.ref Ch) (.type "BaseException")=some true
theorem aX2 (I:a7 X ah σ H1 s1)(fl:mM X.prog X.w X.stack H1 s1 H' B a C s')(hstk:X.stack=X.env::X.outer/\X.env.frame=some X.env.locals)(hg:Gl X x)(hm:X.mg x=some (.ref Ch))(ct:rH X.K Ch)(sub:PySem.W.subIn X.K (.ref C) (.ref Ch)=some true)(hN:X.N.Nodup)(hi:X.N[i]? = some n)(hl:X.env.scope.names.lookup n=some .local)(hs:dL (X.suite a) (b₀::suite) ts)(q:∀oe:Obj,oe.cls = .ref C->ts (C2 D i) (σ.set i (some (.ref a))) (upd H' a (.frz oe (.own a))))(hd:(x==("__debug__":Str))=false) :
  wpAny (model X.prog X.w) X.A (noteFrame (.ref a) X.env) (λ_ s₂=>wpAny (model X.prog X.w) X.A (setFlight (.ref a) none) (λ_ s₃=>wpAny (model X.prog X.w) X.A (handleBy (.ref a) X.env (.ExceptHandler (some (.Name x np)) (some n) (b₀::suite) hpos::cX)) (SP X ah D) X.xe s₃) X.xe s₂) X.xe s':=by
 obtain⟨a0,fly⟩:=fl.fly
 rw[hstk.1]at fly;refine wpAny_looks_onW (outer:=X.outer) (L:=X.env.locals) (by rw[I.ok.frames,hstk.1]) hstk.2 fly λh4 held up4=>wpAny_landsW held λh5 fly5 up5=>?_
 obtain⟨o5,v5,e5,c5,_⟩:=fly5.first
 have I5:=v4 I fl fly5.1 (up4.trans up5) e5;refine wpAny_handleBy_cons (codeAny_handlers_test (oA (I5.suite a) hg hm ?_ hd)) (by intro z;cases z);refine af0 I5.kIn e5 c5 ct.c1 ct.c2 ct.c3 sub ?_;show codeAny (model X.prog X.w) (X.A.mark (some (.ref a))) (.handlers (.ref a) [.ExceptHandler none (some n) (b₀::suite) hpos] X.env) _ _;refine codeAny_handlers_suite_as (lands_againW fly5 λh6 fly6 up6=>?_)
 obtain⟨o6,v6,e6,c6,_⟩:=fly6.first
 have I6:=v4 I fl fly6.1 ((up4.trans up5).trans up6) e6;refine x9 I6 hN hi (.inl hl) (v:=.ref a) rfl (λs7 I7=>?_) (.inr hl);refine bK8 (hs ah s7 _ _ (C2 D i) (I7.suite a) (q o6 c6)) (λf s8 h8=>?_) λ_ _ z=>z.elim
 show wpAny (model X.prog X.w) X.A (do bindName X.env n .none;unbindBehindTheSuite X.env n hpos) (λ_ s9=>SP X ah D f s9) X.xe s8;cases f with
 |next=>obtain⟨σ',H',J,q⟩:=h8;exact v7 (J.unsuite I.ok) hN hi hl λs9 J9=>⟨_,_,J9,q⟩
 |brk=>obtain⟨σ',H',J,q⟩:=h8;exact v7 (J.unsuite I.ok) hN hi hl λs9 J9=>⟨_,_,J9,q⟩
 |cont=>obtain⟨σ',H',J,q⟩:=h8;exact v7 (J.unsuite I.ok) hN hi hl λs9 J9=>⟨_,_,J9,q⟩
 |ret u=>obtain⟨v,σ',H',J,r,q⟩:=h8;exact v7 (J.unsuite I.ok) hN hi hl λs9 J9=>⟨v,_,_,J9,r,q⟩
end
abbrev TB:=bP->XK->St->Hp->Prop
def XB (X:Cx)(ah:List (ax×Obj))(σ:St)(Ex:XK):av->aw->Prop:=λe s'=>∃H1 s1,a7 X ah σ H1 s1/\bR X.prog X.w X.stack H1 s1 Ex e s'
def PB (X:Cx)(sts:List Stmt)(t:TB):Prop:=
 ∀(ah:List (ax×Obj)) (s:aw) (σ:St) (H:Hp) (D:bP) (Ex:XK),a7 X ah σ H s->t D Ex σ H->wpAny (model X.prog X.w) X.A (execs sts X.env) (SP X ah D) (XB X ah σ Ex) s
def aX3 (c:TT)(t u:TB):TB:=λD Ex σ H=>c σ H λb H1=>if b=true then t D Ex σ H1 else u D Ex σ H1
section
variable {X:Cx}{k:Nat}{f Ch:ax}{fd:FuncData}{ps:List Str}{sp:Sp}{x n:Str}{p cp pos np hpos:Pos}{e c:Expr}{es:List Expr}{t:TA}{tb ub:TB}{tc:TT}{sa sb body:List Stmt}{i:Nat}{b₀:Stmt}{suite:List Stmt}{ts:TS}
theorem aX4 (hc:∀E,PT (X.wish E) c tc)(ha:PB X sa tb)(hb:PB X sb ub):PB X [.If c sa sb pos] (aX3 tc tb ub):=by
 intro ah s σ H D Ex I h;refine wpAny_execs_cons (wpAny_If (aN (hc (XB X ah σ Ex) ah s σ H _ (I.wish _) h) λd s1 h1=>?_))
 obtain⟨H1,I1,q1⟩:=h1
 have I1:=I1.unwish;have fin:∀(fl:Flow) (s2:aw),SP X ah D fl s2->(match fl with|.next=>wpAny (model X.prog X.w) X.A (execs [] X.env) (SP X ah D) (XB X ah σ Ex) s2|fl=>SP X ah D fl s2):=λfl s2 q=>by
  cases fl with
  |next=>exact bS4 q
  |_=>exact q
 cases d with
 |true=>exact aN (ha ah s1 σ H1 D Ex I1 q1) fin
 |false=>exact aN (hb ah s1 σ H1 D Ex I1 q1) fin
def af1 (K:ae)(Ch:ax)(i:Nat)(tb:TB)(ts:TS):TS:=λD σ H=>
 tb D (λc _ H'=>∀(a C:ax) (oe:Obj),c = .ref C->H' a=none->oe.cls = .ref C->PySem.W.subIn K (.ref C) (.ref Ch)=some true/\ts (C2 D i) (σ.set i (some (.ref a))) (upd H' a (.frz oe (.own a)))) σ H
theorem aX5 (hstk:X.stack=X.env::X.outer/\X.env.frame=some X.env.locals)(hb:PB X body tb)(hg:Gl X x)(hm:X.mg x=some (.ref Ch))(ct:rH X.K Ch)(hN:X.N.Nodup)(hi:X.N[i]? = some n)(hl:X.env.scope.names.lookup n=some .local)(hs:∀a,dL (X.suite a) (b₀::suite) ts)(hd:(x==("__debug__":Str))=false:=by decide):PS X (.Try body [.ExceptHandler (some (.Name x np)) (some n) (b₀::suite) hpos] [] [] pos) (af1 X.K Ch i tb ts):=by
 intro ah s σ H D I h;refine wpAny_Try_except (bK8 (hb ah s σ H D _ I h) (λfl s1 q=>?_) (λev s1 q=>?_))
 ·cases fl with
  |next=>exact bS4 q
  |_=>exact q
 ·obtain⟨H1,s2,I1,H',B,a,C,e1,fl,q⟩:=q
  subst e1
  obtain⟨a0,fly⟩:=fl.fly
  obtain⟨o5,_,_,c5,_⟩:=fly.first
  exact aX2 I1 fl hstk hg hm ct (q a C o5 rfl fl.fresh c5).1 hN hi hl (hs a) (λoe hc=>(q a C oe rfl fl.fresh hc).2) hd
end
end L2
namespace L2
open PySem PySem.Spec PyProof.Rows PySem.Calls Builtin Builtin.ObjectAttr Builtin.Getset_descriptor
structure kG (K:ae)(D:ax):Prop where
 cls:(PySem.W.clsIn K D).isSome=true
 ga:PySem.W.findIn K (.ref D) "__getattribute__" = some (some (.builtin "BaseException.__getattribute__"))
 gt:PySem.W.findIn K (.ref D) "__getattr__" = some none
 fc:PySem.W.findIn K (.ref D) "__class__" = some (some (.builtin "object.__class__"))
 fg:PySem.W.specialIn K (.builtin "object.__class__") "__get__" = some (some (.builtin "getset_descriptor.__get__"))
 ft:PySem.W.takesIn K (.builtin "object.__class__")=some true
 ob:PySem.W.mroIn K D (.type "object")=some true
 be:PySem.W.mroIn K D (.type "BaseException")=some true
def mO (h:Heap)(x D:ax):Prop:=∃ox:Obj,h.get? x=some ox/\ox.cls = .ref D
theorem mO.type {h:Heap}{x D:ax}{M:Model}(I:mO h x D):PySem.W.Looks M h (typeOf (.ref x)) (.ref D):=by
 obtain⟨ox,e,c⟩:=I
 exact c▸(PySem.W.Looks.ld e).andThen .now
section
variable {prog:ay}{w:ba}{A:az}{E:av→aw→Prop}{K:ae}{x D:ax}{h:Heap}{g:Array GenState}{d:Drawn}{t:Nat}{os:OsState}
theorem aX6 {M:Model}(F:kG K D)(k:K.In h):PySem.W.Looks M h (find (.ref x) (.ref D) "__class__") (.bind (.builtin "getset_descriptor.__get__") (.builtin "object.__class__")):=by
 have L1:=PySem.W.looks_findIn (M:=M) k F.fc;have L2:=PySem.W.looks_specialIn (M:=M) k F.fg;have L3:=PySem.W.looks_takesIn (M:=M) k F.ft;unfold find;refine L1.andThen (PySem.W.Looks.andThen (a:=some (Value.builtin "getset_descriptor.__get__")) L2 ?_);refine PySem.W.Looks.andThen (a:=some (Value.builtin "getset_descriptor.__get__",Value.builtin "object.__class__")) ?_ (PySem.W.Looks.tag .now);unfold dataDescriptor?;exact L3.andThen .now
theorem aX7 {tp:av}{R:Result->aw->Prop}(F:kG K D)(k:K.In h)(I:mO h x D)(hq:R (.ok (.ret (.ref D))) ⟨h,g,d,t,os⟩):codeAny (model prog w) A (.call (.builtin "getset_descriptor.__get__") ⟨[.builtin "object.__class__",.ref x,tp],[]⟩) R ⟨h,g,d,t,os⟩:=by
 have L0:=I.type (M:=model prog w);have L1:=PySem.W.looks_mroIn (M:=model prog w) k F.ob;refine codeAny_call_builtin PySem.W.KF.slot_gs.plain PySem.W.KF.entry_gs (PySem.W.KF.slot_gs.check _ _ _ _ _ _ _ _ PySem.W.KF.type_class (PySem.W.KF.args_gs _ _ _) ?_);unfold Builtin.«getset_descriptor.__get__» descrGet;rw[PySem.W.dga_obj];refine bE9 (bF5 ?_);unfold descrGetter descrCheckInstance descrNameAndClass isInstance;simp only[PySem.W.KF.owner_class]
 repeat lk
 refine⟨Code.quiet_builtin _ (by decide +kernel),codeAny_builtin PySem.W.KF.entry_class ?_⟩;unfold Builtin.«object.__class__» shownTypeOf
 repeat lk
 exact hq
theorem aX8 {M:Model}{nameV:av}{Q:Unit->aw->Prop}(F:kG K D)(k:K.In h)(I:mO h x D)(hq:Q () ⟨h,g,d,t,os⟩):wpAny M A (checkBuiltinCall "BaseException.__getattribute__" ⟨[.ref x,nameV],[]⟩) Q E ⟨h,g,d,t,os⟩:=by
 have kd:builtinKind "BaseException.__getattribute__" = some .slot:=by decide +kernel
 have sp:splitId "BaseException.__getattribute__" = some ("BaseException","__getattribute__"):=by decide +kernel
 have L:PySem.W.Looks M h (isInstance (.ref x) (.type "BaseException")) true:=(I.type (M:=M)).andThen (PySem.W.looks_mroIn k F.be);have ha:=PySem.F.args_bexc_ga (.ref x) nameV;simp only[checkBuiltinCall,kd,sp];refine bE9 (L.at ?_)
 repeat (any_goals (first|assumption|wp_step))
theorem aX9 {tk:Tok}{Q:Fin->aw->Prop}(F:kG K D)(k:K.In h)(I:mO h x D)(hq:Q (.done (.ret (.ref D))) ⟨h,g,d,t,os⟩):wpAny (model prog w) A (Builtin.«object.__getattribute__» ⟨[.ref x,.str "__class__" tk],[]⟩) Q E ⟨h,g,d,t,os⟩:=by
 have L0:=I.type (M:=model prog w);have L1:=aX6 (M:=model prog w) F k (x:=x);refine bE9 (bF5 (bE9 (bF5 (bE9 (L0.at (bE9 (L1.at ?_)))))));show wpAny _ _ (holding [_] (call _ _) >>= ret) _ _ _;exact bE9 (bP7 (wpAny_call (aX7 F k I (bF5 hq))))
theorem aY0 {tk:Tok}{R:Result->aw->Prop}(F:kG K D)(k:K.In h)(I:mO h x D)(hq:R (.ok (.ret (.ref D))) ⟨h,g,d,t,os⟩):codeAny (model prog w) A (.call (.builtin "BaseException.__getattribute__") ⟨[.ref x,.str "__class__" tk],[]⟩) R ⟨h,g,d,t,os⟩:=
 codeAny_call_builtin PySem.F.excAttr_ValueError.ga.plain PySem.F.entry_bexc_ga (aX8 F k I (aX9 F k I hq))
theorem aY1 {Q:Option av->aw->Prop}(F:kG K D)(k:K.In h)(I:mO h x D)(hq:Q (some (.ref D)) ⟨h,g,d,t+1,os⟩):wpAny (model prog w) A (getAttr? (.ref x) "__class__") Q E ⟨h,g,d,t,os⟩:=by
 have L0:=I.type (M:=model prog w);have L1:=PySem.W.looks_findIn (M:=model prog w) k F.ga;have L2:=PySem.W.looks_findIn (M:=model prog w) k F.gt;have f3:=PySem.F.excAttr_ValueError.ga.bind (.ref x);unfold getAttr? getAttrBy? getAttrBy;refine bE9 (wpAny_mkText (bE9 (wpAny_attempt (bP7 (bE9 (L0.at (bE9 (L1.at ?_))))))));have nx:(onTheHeap (Value.ref D)&&Value.builtin "BaseException.__getattribute__"==Value.builtin "object.__getattribute__")=false:=by
  rw[show (Value.builtin "BaseException.__getattribute__"==Value.builtin "object.__getattribute__")=false by decide +kernel,bT3]
 dsimp only;rw[if_neg (by rw[nx];decide)];unfold getAttrByItsOwn hookBefore
 repeat (any_goals (first|assumption|(with_reducible refine L2.at ?_)|wp_step))
 exact aY0 F k I (PySem.W.handed_on rfl (bF5 hq))
end
theorem aY2 {K:ae}{x D:ax}(F:kG K D):PySem.W.KitX K (.ref x) (.ref D) (λh=>mO h x D) where
 ty:=λ_ _ _ I=>I.type
 it:=λM h k _=>by
  have z:=F.cls;unfold PySem.W.clsIn at z;split at z
  ·rename_i c' d' cd' sl' ho
   intro A' Q' E' s' kk q;unfold isType loadHead;exact bE9 (wpAny_loadPart (kk _ _ (k _ _ ho)) (bF5 q))
  ·cases z
 ne:=λh tp dd its n sl k htp=>by
  have z:=F.cls;refine bQ2.mpr λq=>?_
  obtain rfl:D=tp:=Value.ref.inj (bV0.mp q);unfold PySem.W.clsIn at z;split at z
  ·rename_i ho
   have y:=(k _ _ ho).symm.trans htp;cases y
  ·cases z
 ca:=λ{_ _ _ _ _ s} k I q=>by
  obtain⟨h,g,d,t,os⟩:=s
  exact aY1 F k I q
end L2
namespace L2
open PySem PySem.Spec PyProof.Rows
section
variable {X:Cx}{ah:List (ax×Obj)}{σ:St}{H H':Hp}{s:aw}{a:ax}
theorem a7.reH (I:a7 X ah σ H s)(d:∀b,b≠a->H' b=H b)(ha:∃x,H a=some x)(tup:∀xs,H a≠some (.tup xs))(frz:∀o v,X.H₀ a≠some (.frz o v))(tbl:∀ps,H a≠some (.tbl ps))(hok:cF X.prog X.w H' s.heap):a7 X ah σ H' s:=by
 have none:∀b,H b=none->H' b=none:=λb e=>by
  rw[d b λz=>?_];exact e
  obtain⟨x,hx⟩:=ha
  rw[z,hx]at e;cases e
 refine⟨I.ok,I.os,I.bare,⟨I.base.keep,I.base.slot,λb o e n hx=>none b (I.base.free b o e n hx),I.base.there,λb xs q=>?_,λb o u q=>?_,λb ps q=>?_⟩,I.loc,I.cell,none _ I.free,λx c e=>none c (I.freeC x c e),λp hp=>?_,hok,I.len⟩
 ·have e:=I.base.tups b xs q
  rw[d b λz=>tup xs (by rw[<- z];exact e)];exact e
 ·rw[d b λz=>frz o u (by rw[<- z];exact q)];exact I.base.frzs b o u q
 ·obtain⟨more,e⟩:=I.base.tbls b ps q
  exact⟨more,by rw[d b λz=>tbl _ (by rw[<- z];exact e)];exact e⟩
 ·obtain⟨e,n,r⟩:=I.pin p hp
  exact⟨e,none _ n,r⟩
end
end L2
namespace Core
open PySem L2 PP
def iM (ns:ag):Bool:=((ns.zip (ns.drop 1)).map λp=>decide (p.1<p.2)).all id
theorem rJ {α β:Type}{l:List α}{f:α->β}{i:Nat}{x:α}(h:l[i]? = some x):(l.take (i+1)).map f=(l.take i).map f++[f x]:=by
 rw[bO8,h];simp
theorem mP:∀{ns:ag},iM ns=true->ns.Pairwise (·<·)
 |[],_=>.nil
 |[x],_=>bH7 _ _
 |x::y::r,h=>by
  have e:iM (x::y::r)=(decide (x<y)&&iM (y::r)):=rfl;rw[e,bI4]at h;have ih:=mP h.2;refine bQ6.mpr ⟨λz hz=>?_,ih⟩;rcases bG0.mp hz with rfl|hz
  ·exact bO7 h.1
  ·exact Int.lt_trans (bO7 h.1) (List.rel_of_pairwise_cons ih hz)
theorem v8:∀{ns:ag},ns.Pairwise (·<·)->iM ns=true
 |[],_=>rfl
 |[x],_=>rfl
 |x::y::r,h=>by
  have e:iM (x::y::r)=(decide (x<y)&&iM (y::r)):=rfl;have h':=bQ6.mp h;rw[e,v8 h'.2,Bool.and_true];exact bG5 (h'.1 y bG7)
def kin (ws:ag)(ls:aa)(S:ag)(h:Int):Bool:=!decide (h∈S)&&decide (ws.getD h.toNat 0<=(((aX ls h).filter λx=>decide (x∈S)).length:Int))
def nextOf (ws:ag)(ls:aa)(S:ag):ag:=((List.range ws.length).map λ(i:Nat)=>(i:Int)).filter (kin ws ls S)
def aV (ws:ag)(ls:aa)(S:ag):Nat->ag
 |0=>S
 |k+1=>aV ws ls S k++nextOf ws ls (aV ws ls S k)
def dJ (ws:ag)(S:ag):Nat:=(((List.range ws.length).map λ(i:Nat)=>(i:Int)).filter λx=>!decide (x∈S)).length
theorem C3 {α:Type}(p q:α->Bool)(h:∀x,q x=true->p x=false):∀L:List α,(L.filter λx=>!p x&&!q x).length+(L.filter q).length=(L.filter λx=>!p x).length
 |[]=>rfl
 |x::r=>by
  have ih:=C3 p q h r;cases e1:p x with
  |true=>
   have e2:q x=false:=by
    cases e:q x with
    |false=>rfl
    |true=>have:=h x e;rw[e1]at this;cases this
   simp only[List.filter_cons,e1,e2,Bool.not_true,Bool.false_and,bI1,bM7];exact ih
  |false=>
   cases e2:q x with
   |true=>
    simp only[List.filter_cons,e1,e2,Bool.not_true,Bool.not_false,bT3,bI1,bM7,if_true,bH8];omega
   |false=>
    simp only[List.filter_cons,e1,e2,Bool.not_false,Bool.and_true,bI1,bM7,if_true,bH8];omega
theorem v9 {ws:ag}{ls:aa}{S:ag}{x:Int}(h:kin ws ls S x=true):decide (x∈S)=false:=by
 unfold kin at h;cases e:decide (x∈S) with
 |false=>rfl
 |true=>rw[e]at h;cases h
theorem vA (ws:ag)(ls:aa)(S:ag):dJ ws (S++nextOf ws ls S)+(nextOf ws ls S).length=dJ ws S:=by
 have e:=C3 (λx=>decide (x∈S)) (kin ws ls S) (λx h=>v9 h) ((List.range ws.length).map λ(i:Nat)=>(i:Int));unfold dJ;rw[<- e];congr 2;refine List.filter_congr λx hx=>?_
 have:decide (x∈S++nextOf ws ls S)=(decide (x∈S)||kin ws ls S x):=by
  rw[bL2];unfold nextOf;simp only[bH1,bJ0,bL7,Bool.or_eq_true]
  exact⟨λz=>z.elim .inl λz=>.inr z.2,λz=>z.elim .inl λz=>.inr ⟨hx,z⟩⟩
 rw[this];cases decide (x∈S)<;>cases kin ws ls S x<;>rfl
theorem aY3 (ws:ag)(S:ag):dJ ws S<=ws.length:=by
 unfold dJ;refine bH6 (bI9 _ _) ?_;rw[bF1,bJ2];exact bF7 _
theorem aY4 (ws:ag)(ls:aa)(S:ag):(nextOf ws ls S).length<=ws.length:=by
 unfold nextOf;refine bH6 (bI9 _ _) ?_;rw[bF1,bJ2];exact bF7 _
def after (ws:ag)(ls:aa)(S:ag)(m:Nat):af:=(List.range m).map λk=>nextOf ws ls (aV ws ls S k)
theorem C4 (ws:ag)(ls:aa)(S:ag)(m:Nat):after ws ls S (m+1)=after ws ls S m++[nextOf ws ls (aV ws ls S m)]:=by
 unfold after;rw[List.range_succ,bJ1];rfl
theorem C5 (ws:ag)(ls:aa)(ns:ag):∀k,(aV ws ls ns k).length+dJ ws (aV ws ls ns k)=ns.length+dJ ws ns
 |0=>rfl
 |k+1=>by
  have ih:=C5 ws ls ns k;have cs:=vA ws ls (aV ws ls ns k);show (aV ws ls ns k++nextOf ws ls (aV ws ls ns k)).length+dJ ws (aV ws ls ns k++nextOf ws ls (aV ws ls ns k))=_;rw[bF4];omega
theorem af2 {ws ns:ag}(hu:ns.Pairwise (·<·))(hin:∀x∈ns,0<=x/\x<(ws.length:Int)):ns.length+dJ ws ns<=ws.length:=by
 have nd:ns.Nodup:=hu.imp λh=>Int.ne_of_lt h
 have sub:ns ⊆ ((List.range ws.length).map λ(i:Nat)=>(i:Int)).filter λx=>decide (x∈ns):=λx hx=>by
  refine bL7.mpr ⟨bI7.mpr ⟨x.toNat,bR6.mpr ?_,?_⟩,bG5 hx⟩
  ·have:=hin x hx;omega
  ·have:=hin x hx;omega
 have h1:=nd.length_le_of_subset sub;have h2:=C3 (λ_=>false) (λx=>decide (x∈ns)) (λ_ _=>rfl) ((List.range ws.length).map λ(i:Nat)=>(i:Int));have h3:(((List.range ws.length).map λ(i:Nat)=>(i:Int)).filter λx=>!false&&!decide (x∈ns)).length=dJ ws ns:=rfl;have h4:(((List.range ws.length).map λ(i:Nat)=>(i:Int)).filter λx=>!false).length<=ws.length:=by
  refine bH6 (bI9 _ _) ?_;rw[bF1,bJ2];exact bF7 _
 rw[h3]at h2;omega
theorem rK (ws:ag)(ls:aa)(ns:ag):∀m,(ns::after ws ls ns m).flatten=aV ws ls ns m
 |0=>by simp[after,aV]
 |m+1=>by
  rw[C4,<- List.cons_append,bS8,rK ws ls ns m];simp[aV]
def bP (ws:ag)(ls:aa)(ns:ag)(m:Nat):Prop:=(∀k<m,nextOf ws ls (aV ws ls ns k)≠[])/\nextOf ws ls (aV ws ls ns m) = []
theorem af3 (k:Int):∀ls:aa,(∀l∈ls,l.1≠l.2)->(aX ls k).length<=ls.length
 |[],_=>bF7 _
 |l::r,h=>by
  have e:aX (l::r) k=((if l.1=k then [l.2] else [])++(if l.2=k then [l.1] else []))++aX r k:=rfl;have ih:=af3 k r λm hm=>h m (bG8 _ hm)
  have h0:=h l bG7;rw[e,bF4,bF4,bH8];by_cases h1:l.1=k
  ·rw[if_pos h1,if_neg (λz=>h0 (h1.trans z.symm))];simp;omega
  ·rw[if_neg h1]
   by_cases h2:l.2=k
   ·rw[if_pos h2];simp;omega
   ·rw[if_neg h2];simp;omega
theorem C6 {ws:ag}{ls:aa}{ns:ag}{m n:Nat}(h:bP ws ls ns m)(g:bP ws ls ns n):m=n:=by
 rcases Nat.lt_trichotomy m n with z|z|z
 ·exact absurd h.2 (g.1 m z)
 ·exact z
 ·exact absurd g.2 (h.1 n z)
theorem C7 {ws:ag}{ls:aa}{ns:ag}:∀(m:Nat),(∀k<m,nextOf ws ls (aV ws ls ns k)≠[])->m+dJ ws (aV ws ls ns m)<=ws.length
 |0,_=>by have:=aY3 ws ns;show 0+dJ ws ns<=_;omega
 |m+1,h=>by
  have ih:=C7 m λk hk=>h k (by omega)
  have cs:=vA ws ls (aV ws ls ns m)
  have:1<=(nextOf ws ls (aV ws ls ns m)).length:=by
   cases e:nextOf ws ls (aV ws ls ns m) with
   |nil=>exact absurd e (h m (by omega))
   |cons _ _=>exact Nat.succ_le_succ (bI2 _)
  show m+1+dJ ws (aV ws ls ns m++nextOf ws ls (aV ws ls ns m))<=_;omega
theorem jP {ns:ag}{i:Nat}{x:PV}(h:(intz ns)[i]? = some x):∃n,x = .int n/\ns[i]? = some n:=by
 rw[bG4]at h;cases e:ns[i]? with
 |none=>rw[e]at h;cases h
 |some n=>rw[e]at h;exact⟨n,(bG9 h).symm,rfl⟩
theorem j8 {lo:Int}{n i:Nat}{x:PV}(h:(eD lo n)[i]? = some x):x = .int (lo+i)/\i<n:=by
 have hi:i<n:=by
  have:=(bF6.mp h).1
  rwa [gV]at this
 rw[ab6 hi]at h
 exact⟨(bG9 h).symm,hi⟩
def rng (n:Nat):ag:=(List.range n).map λ(i:Nat)=>(i:Int)
theorem C8 (n:Nat):(rng n).length=n:=by unfold rng;rw[bF1,bJ2]
theorem C9 {n i:Nat}(h:i<n):(rng n)[i]? = some (i:Int):=by unfold rng;rw[bG4,bS7 h];rfl
theorem j9 {n:Nat}{x:Int}:x∈rng n↔0<=x/\x<(n:Int):=by
 unfold rng;rw[bI7];constructor
 ·rintro⟨i,hi,rfl⟩
  have:=bR6.mp hi
  omega
 ·intro h
  exact⟨x.toNat,bR6.mpr (by omega),by omega⟩
theorem iN {α:Type}{l:List α}{p:α->Bool}{i:Nat}{x:α}(h:l[i]? = some x):(l.take (i+1)).filter p=(l.take i).filter p++(if p x=true then [x] else []):=by
 rw[bO8,h,List.filter_append];congr 1;cases e:p x<;>simp[e]
theorem eM (a b:ag):intz (a++b)=intz a++intz b:=bJ1
theorem bO (a:ag):(intz a).length=a.length:=bF1 _
def bG (ws:ag)(ls:aa):PV:=.tup [.tup (intz ws),.tup (ls.map λl=>.tup [.int l.1,.int l.2])]
structure Wb (ws:ag)(ls:aa):Prop where
 few:ws.length<=40
 most:ls.length<=1700
 links:∀l∈ls,(0<=l.1/\l.1<ws.length)/\0<=l.2/\l.2<ws.length
def eN (x:PV)(ns:ag):Prop:=x = .tup (intz ns)∨x = .lst (intz ns)
theorem eN.seq {x:PV}{ns:ag}(h:eN x ns):iI x=some (intz ns):=by rcases h with rfl|rfl<;>rfl
theorem eN.seqT {x:PV}{ns:ag}(h:eN x ns):seqT x=some (intz ns):=by rcases h with rfl|rfl<;>rfl
theorem lJ:∀(ls:aa),flats (ls.map λl=>PV.tup [.int l.1,.int l.2])=true
 |[]=>rfl
 |l::r=>by
  show (flat (.tup [.int l.1,.int l.2])&&flats (r.map λl=>PV.tup [.int l.1,.int l.2]))=true;rw[lJ r];rfl
theorem p6 (ws:ag)(ls:aa):flat (bG ws ls)=true:=by
 show flats [.tup (intz ws),.tup (ls.map λl=>PV.tup [.int l.1,.int l.2])]=true;show (flat (.tup (intz ws))&&(flat (.tup (ls.map λl=>PV.tup [.int l.1,.int l.2]))&&true))=true;show (flats (intz ws)&&(flats (ls.map λl=>PV.tup [.int l.1,.int l.2])&&true))=true;rw[cH,lJ];rfl
theorem fV (ns:ag):flat (.tup (intz ns))=true:=cH ns
def hZ:bS:=λxs Q=>∃ws ls,xs = [bG ws ls]/\Q (.int ws.length)
def af4:aT:=(b7 (aE fR (a6 (b5 (a5 0) (qC (.int 0))) aB)))
abbrev cY (t:aT)(N:List Str)(p:bS):Prop:=∀xs Q,p xs Q->t { nx:=λ_=>Q .non,rt:=Q } (gD N xs)
theorem aY5:cY af4 ["web"] hZ:=by
 rintro xs Q ⟨ws,ls,rfl,q⟩;refine⟨_,rfl,_,_,_,rfl,rfl,rfl,_,_,rfl,rfl,trivial,?_⟩;rw[bO];exact q
def rL:bS:=λxs Q=>∃x ns,xs = [x]/\eN x ns/\ns.length<=1000/\Q (.bl (iM ns))
def inB (n:Nat)(x:Int):Bool:=decide (0<=x)&&decide (x<(n:Int))
def iO:bS:=λxs Q=>∃ws ls n,xs = [bG ws ls,.int n]/\Q (.bl (inB ws.length n))
def af5:aT:=(b7 (mE (A8 (a5 1) (qC (.int 0))) (kF (a5 1) (aE hZ (a6 (a5 0) aB)))))
theorem aY6:cY af5 ["web","number"] iO:=by
 rintro xs Q ⟨ws,ls,n,rfl,q⟩;refine⟨_,rfl,_,_,rfl,rfl,_,rfl,?_⟩;unfold inB at q;by_cases h:(0:Int)<=n
 ·rw[bG5 h]at q ⊢
  refine aY ⟨_,rfl,_,rfl,ws,ls,rfl,_,_,rfl,rfl,trivial,?_⟩;simpa using q
 ·rw[bF9 h]at q ⊢
  exact aM ⟨trivial,by simpa using q⟩
def cJ (n:Nat)(ns:ag):Bool:=iM ns&&(ns.map (inB n)).all id
def vB:bS:=λxs Q=>∃ws ls x ns,xs = [bG ws ls,x]/\eN x ns/\ns.length<=1000/\Q (.bl (cJ ws.length ns))
def af6:aT:=(b7 (mE (aE rL (a6 (a5 1) aB)) (aE uI (a6 (dH (eC (a5 1)) [none,some 0] (bW 0) iK (aE iO (a6 (a5 1) (a6 (a5 0) aB)))) aB))))
theorem vC {x:PV}{ns:ag}(h:eN x ns):(Slot.sh (flat x) x).tag = .rd->flat x=true:=by
 cases flat x<;>intro z<;>cases z
theorem aY7:cY af6 ["web","numbers"] vB:=by
 rintro xs Q ⟨ws,ls,x,ns,rfl,hx,hl,q⟩;refine⟨_,rfl,x,ns,rfl,hx,hl,_,rfl,?_⟩;unfold cJ at q;cases h:iM ns with
 |false=>rw[h]at q;exact aM ⟨trivial,q⟩
 |true=>
  rw[h]at q;refine aY ⟨_,rfl,_,hx.seq,vC hx,by rw[bO];omega,λi acc=>acc=(((ns.take i).map (inB ws.length)).map PV.bl),rfl,?_,?_⟩
  ·rintro i y acc hy rfl
   obtain⟨n,rfl,hn⟩:=jP hy
   have tk:((ns.take (i+1)).map (inB ws.length)).map PV.bl=((ns.take i).map (inB ws.length)).map PV.bl++[PV.bl (inB ws.length n)]:=by rw[rJ hn,bJ1];rfl
   exact⟨_,rfl,_,rfl,ws,ls,n,rfl,trivial,tk.symm⟩
  ·rintro acc rfl
   rw[bO,bI5]
   exact⟨_,rfl,trivial,by simpa using q⟩
def aY8:bS:=λxs Q=>∃ws ls x ns,xs = [bG ws ls,x]/\eN x ns/\ns.length<=1000/\cJ ws.length ns=true/\Q (.tup (intz ns))
theorem eN.noscr {x:PV}{ns:ag}(h:eN x ns):∀ms,([x]:List PV)≠[.scr ms]:=by
 rcases h with rfl|rfl<;>intro ms z<;>cases z
structure DS (ps:List (aF×PV))(S:ag):Prop where
 has:∀i:Int,(bQ ps (Sum.inl i:aF)).isSome=decide (i∈S)
 len:ps.length<=S.length
 fl:flats (ps.map (·.2))=true
theorem DS.nil:DS [] []:=⟨λi=>rfl,bF7 _,rfl⟩
section
variable {κ:Type}[DecidableEq κ]
theorem aY9 {k:κ}:bQ ([]:List (κ×PV)) k=none:=rfl
theorem jQ {p:κ×PV}{r:List (κ×PV)}{k:κ}(e:p.1=k):bQ (p::r) k=some p.2:=by simp[bQ,bP1,e]
theorem jR {p:κ×PV}{r:List (κ×PV)}{k:κ}(e:¬p.1=k):bQ (p::r) k=bQ r k:=by simp[bQ,bP1,e]
theorem rM (k:κ):∀kvs:List (κ×PV),(kvs.any λkv=>decide (kv.1=k))=(bQ kvs k).isSome
 |[]=>rfl
 |p::r=>by
  rw[List.any_cons];by_cases e:p.1=k
  ·simp only[jQ e,bG5 e,Bool.true_or,Option.isSome_some]
  ·rw[jR e,bF9 e,Bool.false_or];exact rM k r
theorem af7 (k j:κ)(y:PV):∀kvs:List (κ×PV),bQ (kvs.map λkv=>if kv.1=k then (kv.1,y) else kv) j=(bQ kvs j).map λx=>if j=k then y else x
 |[]=>rfl
 |p::r=>by
  have ih:=af7 k j y r;rw[bL0];by_cases h:p.1=k
  ·rw[if_pos h]
   by_cases e:p.1=j
   ·rw[jQ (p:=(p.1,y)) e,jQ e,Option.map_some,if_pos (e.symm.trans h)]
   ·rw[jR (p:=(p.1,y)) e,jR e,ih]
  ·rw[if_neg h]
   by_cases e:p.1=j
   ·rw[jQ (p:=p) e,jQ e,Option.map_some,if_neg (λz=>h (e.trans z))]
   ·rw[jR (p:=p) e,jR e,ih]
theorem af8 (k j:κ)(y:PV):∀kvs:List (κ×PV),bQ kvs k=none->bQ (kvs++[(k,y)]) j=if j=k then some y else bQ kvs j
 |[],_=>by
  by_cases e:k=j
  ·rw[if_pos e.symm];exact jQ (p:=(k,y)) e
  ·rw[if_neg (λz=>e z.symm)];exact jR (p:=(k,y)) e
 |p::r,hn=>by
  rw[List.cons_append];have hk:¬p.1=k:=λz=>by rw[jQ z]at hn;cases hn
  rw[jR hk]at hn;have ih:=af8 k j y r hn;by_cases e:p.1=j
  ·rw[jQ e,jQ e,if_neg (λz=>hk (e.trans z))]
  ·rw[jR e,jR e,ih]
theorem af9 (kvs:List (κ×PV))(k j:κ)(y:PV):bQ (dX kvs k y) j=if j=k then some y else bQ kvs j:=by
 unfold dX;by_cases a:(kvs.any λkv=>decide (kv.1=k))=true
 ·rw[if_pos a,af7]
  rw[rM]at a;by_cases e:j=k
  ·obtain⟨x,hx⟩:=Option.isSome_iff_exists.mp a
   rw[if_pos e,e,hx,Option.map_some,if_pos rfl]
  ·rw[if_neg e]
   cases bQ kvs j with
   |none=>rfl
   |some x=>rw[Option.map_some,if_neg e]
 ·rw[if_neg a]
  refine af8 k j y kvs ?_;rw[rM]at a;cases q:bQ kvs k with
  |none=>rfl
  |some x=>rw[q]at a;exact (a rfl).elim
theorem ag0 (kvs:List (κ×PV))(k:κ)(v:PV):(dX kvs k v).length<=kvs.length+1:=by
 unfold dX;split
 ·rw[bF1];omega
 ·rw[bF4,bH8,List.length_nil];omega
end
theorem ag1:∀(xs:List PV),flats xs=true↔∀x∈xs,flat x=true
 |[]=>by simp[flats]
 |x::r=>by
  unfold flats;rw[bI4,ag1 r];simp
theorem aZ0 {κ:Type}[DecidableEq κ]{ps:List (κ×PV)}{k:κ}{v:PV}{p:κ×PV}(h:p∈dX ps k v):p.2=v∨p∈ps:=by
 unfold dX at h;split at h
 ·obtain⟨q,hq,e⟩:=bI7.mp h
  split at e
  ·subst e;exact .inl rfl
  ·subst e;exact .inr hq
 ·rcases bJ0.mp h with h|h
  ·exact .inr h
  ·rw[bF8.mp h];exact .inl rfl
theorem ag2 {κ:Type}[DecidableEq κ]{ps:List (κ×PV)}{k:κ}{v:PV}(h:flats (ps.map (·.2))=true)(hv:flat v=true):flats ((dX ps k v).map (·.2))=true:=by
 rw[ag1]at h ⊢;intro x hx
 obtain⟨p,hp,rfl⟩:=bI7.mp hx
 rcases aZ0 hp with e|e
 ·rw[e];exact hv
 ·exact h _ (bI7.mpr ⟨p,e,rfl⟩)
theorem DS.put {ps:List (aF×PV)}{S:ag}(h:DS ps S)(x:Int)(v:PV)(hv:flat v=true):DS (dX ps (Sum.inl x:aF) v) (S++[x]):=by
 refine⟨λi=>?_,?_,ag2 h.fl hv⟩
 ·rw[af9]
  by_cases e:i=x
  ·subst e;rw[if_pos rfl];simp
  ·rw[if_neg (λz=>e (Sum.inl.inj z)),h.has]
   simp[e]
 ·have:=ag0 ps (Sum.inl x:aF) v
  have:=h.len
  rw[bF4,bJ3];omega
theorem DS.merge {S:ag}:∀{mp ps:List (aF×PV)}{T:ag},DS ps S->DS mp T->DS (jJ ps mp) (S++T):=by
 have key:∀(mp:List (aF×PV)) {ps:List (aF×PV)} (i:Int),(bQ (jJ ps mp) (Sum.inl i:aF)).isSome=((bQ ps (Sum.inl i:aF)).isSome||(bQ mp (Sum.inl i:aF)).isSome):=λmp=>by
  induction mp with
  |nil=>intro ps i;show (bQ ps (Sum.inl i:aF)).isSome=_;rw[aY9];simp
  |cons p r ih=>
   intro ps i;show (bQ (jJ (dX ps p.1 p.2) r) (Sum.inl i:aF)).isSome=_;rw[ih,af9];by_cases e:(Sum.inl i:aF)=p.1
   ·rw[if_pos e,jQ e.symm];simp
   ·rw[if_neg e,jR (Ne.symm e)]
 have keyl:∀(mp:List (aF×PV)) {ps:List (aF×PV)},(jJ ps mp).length<=ps.length+mp.length:=λmp=>by
  induction mp with
  |nil=>intro ps;exact bF7 _
  |cons p r ih=>
   intro ps;have h1:=ih (ps:=dX ps p.1 p.2);have h2:=ag0 ps p.1 p.2;show (jJ (dX ps p.1 p.2) r).length<=_;rw[bH8];omega
 have keyf:∀(mp:List (aF×PV)) {ps:List (aF×PV)},flats (ps.map (·.2))=true->flats (mp.map (·.2))=true->flats ((jJ ps mp).map (·.2))=true:=λmp=>by
  induction mp with
  |nil=>intro ps h _;exact h
  |cons p r ih=>
   intro ps h g;have g:(flat p.2&&flats (r.map (·.2)))=true:=g;rw[bI4]at g;exact ih (ps:=dX ps p.1 p.2) (ag2 h g.1) g.2
 intro mp ps T h g;refine⟨λi=>?_,?_,keyf mp h.fl g.fl⟩
 ·rw[key,h.has,g.has,bL2];simp
 ·have:=keyl mp (ps:=ps)
  have:=h.len
  have:=g.len
  rw[bF4];omega
def nX:bS:=λxs Q=>∃x ns,xs = [x]/\eN x ns/\ns.length<=1000/\∀ps,DS ps ns->Q (.dK ps)
def ag3:aT:=(aH (iH 1 (qC (.dK [])))
 (aH (e9 (eC (a5 0)) (bW 2)
  (uQ 1 (a5 2) (qC (.bl true))))
 (mF 1)))
theorem aZ1:cY ag3 ["hearths","inside","hearth"] nX:=by
 rintro xs Q ⟨x,ns,rfl,hx,hl,q⟩;refine⟨rfl,rfl,_,rfl,_,hx.seq,vC hx,λi ρ=>∃y ps,ρ = [some (.sh (flat x) x),some (.own (.dK ps)),y]/\DS ps (ns.take i),⟨none,[],rfl,DS.nil⟩,?_,?_⟩
 ·rintro i y ρ hy ⟨y0,ps,rfl,d⟩
  obtain⟨n,rfl,hn⟩:=jP hy
  have am:=d.len;rw[bI8]at am;refine⟨_,rfl,_,rfl,Sum.inl n,rfl,trivial,by omega,_,_,rfl,?_⟩;rw[bO8,hn];exact d.put n _ rfl
 ·rintro ρ ⟨y,ps,rfl,d⟩
  rw[bO,bI5]at d
  exact⟨_,rfl,trivial,q ps d⟩
def vD:bS:=λxs Q=>∃x ns ps S,xs = [x,.dK ps]/\eN x ns/\DS ps S/\ns.length<=10000/\Q (.int ((ns.filter λx=>decide (x∈S)).length:Nat))
def ag4:aT:=(b7 (aE fR (a6 (dH (eC (a5 0)) [none,some 1] (bW 0) (aQ (kB false (a5 0) (a5 1))) (a5 0)) aB)))
theorem aZ2:cY ag4 ["hearths","inside"] vD:=by
 rintro xs Q ⟨x,ns,ps,S,rfl,hx,d,hl,q⟩;refine⟨_,rfl,_,hx.seq,vC hx,by rw[bO];omega,λi acc=>acc=intz ((ns.take i).filter λx=>decide (x∈S)),rfl,?_,?_⟩
 ·rintro i y acc hy rfl
  obtain⟨n,rfl,hn⟩:=jP hy
  have tk:=iN (p:=λx=>decide (x∈S)) hn;refine⟨_,rfl,_,rfl,_,.inl ⟨ps,Sum.inl n,rfl,rfl,rfl⟩,_,rfl,?_⟩;show if (bQ ps (Sum.inl n:aF)).isSome=true then _ else _
  rw[d.has n];by_cases h:n∈S
  ·rw[bG5 h]at tk ⊢
   refine aY ⟨_,rfl,trivial,?_⟩;rw[if_pos rfl]at tk;show _=intz (List.filter _ (List.take (i+1) ns));rw[tk,eM];rfl
  ·rw[bF9 h]at tk ⊢
   refine aM ?_;rw[if_neg (by decide),bH4]at tk;show _=intz (List.filter _ (List.take (i+1) ns));rw[tk]
 ·rintro acc rfl
  rw[bO,bI5];refine⟨_,_,rfl,rfl,trivial,?_⟩;rw[bO];exact q
def mQ (n:Nat)(ls:aa):List PV:=(List.range n).map λ(k:Nat)=>PV.lst (intz (aX ls k))
def lK:bS:=λxs Q=>∃ws ls,xs = [bG ws ls]/\Wb ws ls/\Q (.lst (mQ ws.length ls))
theorem E1 {n:Nat}{ls:aa}{h:Int}(h0:0<=h)(h1:h<(n:Int)):atI (mQ n ls) h=some (.lst (intz (aX ls h))):=by
 refine nQ h0 ?_;unfold mQ;rw[bG4,bS7 (by omega)];show some (PV.lst (intz (aX ls ((h.toNat:Nat):Int))))=_;rw[show ((h.toNat:Nat):Int)=h by omega]
def vE:bS:=λxs Q=>∃ws ls ps S h,xs = [bG ws ls,.lst (mQ ws.length ls),.dK ps,.int h]/\Wb ws ls/\DS ps S/\0<=h/\h<(ws.length:Int)/\Q (.bl (kin ws ls S h))
def ag5:aT:=(b7 (mE (kB true (a5 3) (a5 2)) (A8 (aE vD (a6 (b5 (a5 1) (a5 3)) (a6 (a5 2) aB))) (b5 (b5 (a5 0) (qC (.int 0))) (a5 3)))))
theorem mR {ws:ag}{h:Int}(h0:0<=h)(h1:h<(ws.length:Int)):atI (intz ws) h=some (.int (ws.getD h.toNat 0)):=by
 refine nQ h0 ?_
 have:h.toNat<ws.length:=by omega
 rw[bG4,bI0,bF3 this];rfl
theorem aZ3:cY ag5 ["web","around","burning","hearth"] vE:=by
 rintro xs Q ⟨ws,ls,ps,S,h,rfl,wb,d,h0,h1,q⟩;refine⟨_,rfl,_,rfl,_,.inl ⟨ps,Sum.inl h,rfl,rfl,rfl⟩,_,rfl,?_⟩;show if (!(bQ ps (Sum.inl h:aF)).isSome)=true then _ else _
 rw[d.has h];unfold kin at q;by_cases hm:h∈S
 ·rw[bG5 hm]at q ⊢
  exact aM ⟨trivial,by simpa using q⟩
 ·rw[bF9 hm]at q ⊢
  have nl:=qU ls h
  have:=wb.most
  refine aY ⟨_,rfl,_,rfl,_,_,_,rfl,rfl,E1 h0 h1,_,rfl,_,aX ls h,ps,S,rfl,.inr rfl,d,by omega,_,rfl,_,_,_,rfl,rfl,rfl,_,rfl,_,_,_,rfl,rfl,mR h0 h1,_,_,rfl,rfl,trivial,?_⟩;simpa using q
def rN:bS:=λxs Q=>∃ws ls ps S,xs = [bG ws ls,.lst (mQ ws.length ls),.dK ps]/\Wb ws ls/\DS ps S/\Q (.tup (intz (nextOf ws ls S)))
def ag6:aT:=(b7 (aE dY (a6 (dH (gM (aE hZ (a6 (a5 0) aB))) [none,some 0,some 1,some 2] (bW 0) (aQ (aE vE (a6 (a5 1) (a6 (a5 2) (a6 (a5 3) (a6 (a5 0) aB)))))) (a5 0)) aB)))
theorem aZ4:cY ag6 ["web","around","burning"] rN:=by
 rintro xs Q ⟨ws,ls,ps,S,rfl,wb,d,q⟩;have few:=wb.few;refine⟨_,rfl,ws,ls,rfl,_,rfl,by omega,by omega,by rw[gV];omega,λi acc=>acc=intz (((rng ws.length).take i).filter (kin ws ls S)),rfl,?_,?_⟩
 ·rintro i y acc hy rfl
  obtain⟨rfl,hi⟩:=j8 hy
  have hi':i<ws.length:=by omega
  have tk:=iN (p:=kin ws ls S) (C9 hi');have e0:(0:Int)+(i:Int)=(i:Int):=by omega
  refine⟨_,rfl,_,rfl,_,rfl,_,rfl,ws,ls,ps,S,_,rfl,wb,d,by omega,by omega,_,rfl,?_⟩;show if kin ws ls S ((0:Int)+(i:Int))=true then _ else _
  rw[e0];cases h:kin ws ls S (i:Int) with
  |true=>
   refine aY ⟨_,rfl,trivial,?_⟩;rw[h,if_pos rfl]at tk;show _=intz (List.filter _ (List.take (i+1) _));rw[tk,eM];show _++[PV.int _]=_;rfl
  |false=>
   refine aM ?_;rw[h,if_neg (by decide),bH4]at tk;show _=intz (List.filter _ (List.take (i+1) _));rw[tk]
 ·rintro acc rfl
  rw[gV,List.take_of_length_le (by rw[C8];omega)]
  exact⟨⟨_,_,rfl,rfl,cH _,trivial,q⟩,λns z=>by cases z⟩
def tups (rs:af):List PV:=rs.map λr=>PV.tup (intz r)
theorem aZ5 {rs:af}{i:Nat}{x:PV}(h:(tups rs)[i]? = some x):∃r,x = .tup (intz r)/\rs[i]? = some r:=by
 unfold tups at h;rw[bG4]at h;cases e:rs[i]? with
 |none=>rw[e]at h;cases h
 |some n=>rw[e]at h;exact⟨n,(bG9 h).symm,rfl⟩
theorem ag7 (rs:af):(tups rs).length=rs.length:=bF1 _
theorem ag8:∀(rs:af),flats (tups rs)=true
 |[]=>rfl
 |r::t=>by
  show (flat (.tup (intz r))&&flats (tups t))=true;rw[fV,ag8 t];rfl
theorem jS {n:Nat}{ns:ag}(h:cJ n ns=true):iM ns=true/\∀x∈ns,0<=x/\x<(n:Int):=by
 unfold cJ at h;rw[bI4,bN2]at h;refine⟨h.1,λx hx=>?_⟩
 have:=h.2 _ (bI7.mpr ⟨x,hx,rfl⟩)
 unfold inB at this;simpa using this
theorem mS {n:Nat}{ns:ag}(h:cJ n ns=true):ns.length<=n:=by
 obtain⟨h1,h2⟩:=jS h
 have:=af2 (ws:=List.replicate n (0:Int)) (mP h1) (by rw[List.length_replicate];exact h2)
 rw[List.length_replicate]at this;omega
theorem mT {ws:ag}{ls:aa}{ns:ag}(h:cJ ws.length ns=true)(k:Nat):(aV ws ls ns k).length<=ws.length:=by
 have h1:=C5 ws ls ns k;have h2:=af2 (mP (jS h).1) (jS h).2;omega
end Core
namespace PP
open PySem L2
def ag9 (te:aG):aG:=λρ Q=>te ρ λx _=>∃n:Int,x = .int n/\0<=n/\n<=1000000/\Q (.lst (eD 0 n.toNat)) .fr
def E2:List PV->(PV->Prop)->Prop:=λxs Q=>∃ys:af,xs = [.lst (ys.map λr=>PV.tup (intz r))]/\ys.length<64/\(∀y∈ys,y≠[])/\∀zs:af,zs.Perm ys->zs.Pairwise (λu v=>HT.dR v u=false)->Q (.lst (zs.map λr=>PV.tup (intz r)))
end PP
namespace Core
open PySem L2 PP
theorem rO (g:Tg)(n:Int):Nw g (.int n):=by cases g<;>first|exact trivial|rfl
def rP (x:PV)(ns:ag):Prop:=x = .scr ns∨x = .lst (intz ns)
theorem rP.seq {x:PV}{ns:ag}(h:rP x ns):iI x=some (intz ns):=by rcases h with rfl|rfl<;>rfl
theorem rP.len {x:PV}{ns:ag}(h:rP x ns):zR x=some ns.length:=by
 rcases h with rfl|rfl
 ·rfl
 ·show some (intz ns).length=_
  rw[bO]
def jT:bS:=λxs Q=>∃x ns k,xs = [x,.int k]/\rP x ns/\0<=k/\Q (.int (ns.getD k.toNat 0))
def ah0:aT:=(aH (bF (aQ (kF (a5 1) (aE fR (a6 (a5 0) aB)))) (b7 (b5 (a5 0) (a5 1))) bE)
 (b7 (qC (.int 0))))
theorem aZ6:cY ah0 ["script","k"] jT:=by
 rintro xs Q ⟨x,ns,k,rfl,hx,h0,q⟩;refine⟨_,rfl,_,rfl,_,_,rfl,hx.len,_,_,rfl,rfl,_,rfl,?_⟩;by_cases h:k<(ns.length:Int)
 ·rw[bG5 h]
  exact aY ⟨_,rfl,_,rfl,_,_,_,hx.seq,rfl,mR h0 h,rO _ _,q⟩
 ·rw[bF9 h]
  rw[bI0,List.getElem?_eq_none (by omega)]at q;exact aM ⟨trivial,q⟩
def cC (ls:aa):List PV:=ls.map λl=>PV.tup [.int l.1,.int l.2]
theorem rQ (ls:aa):(cC ls).length=ls.length:=bF1 _
def iP (l m:Int×Int):Prop:=l.1<m.1∨(l.1=m.1/\l.2<m.2)
structure mU (n:Int)(ls:aa)(a b:Int):Prop where
 inn:∀l∈ls,0<=l.1/\l.1<l.2/\l.2<n
 ord:ls.Pairwise iP
 low:∀l∈ls,iP l (a,b)
theorem mU.mono {n a b a' b':Int}{ls:aa}(h:mU n ls a b)(m:a<a'∨(a=a'/\b<=b')):mU n ls a' b':=
 ⟨h.inn,h.ord,λl hl=>by have:=h.low l hl;unfold iP at *;dsimp only at *;omega⟩
theorem mU.add {n a b:Int}{ls:aa}(h:mU n ls a b)(h0:0<=a/\a<b/\b<n):mU n (ls++[(a,b)]) a (b+1):=by
 refine⟨λl hl=>?_,?_,λl hl=>?_⟩
 ·rcases bJ0.mp hl with hl|hl
  ·exact h.inn l hl
  ·rw[bF8.mp hl];exact h0
 ·exact List.pairwise_append.mpr ⟨h.ord,bH7 _ _,λl hl m hm=>by rw[bF8.mp hm];exact h.low l hl⟩
 ·rcases bJ0.mp hl with hl|hl
  ·have:=h.low l hl;unfold iP at *;dsimp only at *;omega
  ·rw[bF8.mp hl];unfold iP;dsimp only;omega
structure i3 (n:Int)(ws:ag)(ls:aa):Prop where
 many:(ws.length:Int)=n
 inn:∀l∈ls,0<=l.1/\l.1<l.2/\l.2<n
 most:ls.length<=63
 ord:ls.Pairwise iP
 pos:∀w∈ws,0<=w
abbrev si (n:Int):Option Slot:=some (.sh true (.int n))
def rR:bS:=λxs Q=>∃i,xs = [.int i]/\Q (.bl true)
def ah1 (K:ae):aT:=(b7 (mE (mI K "int" (a5 0)) (uE (mI K "bool" (a5 0)))))
theorem aZ7 {K:ae}(k1:PySem.W.kitOne K (.type "int") (.type "int")=some true)(k2:PySem.W.kitOne K (.type "int") (.type "bool")=some false):cY (ah1 K) ["found"] rR:=by
 rintro xs Q ⟨i,rfl,q⟩
 exact⟨_,rfl,_,_,rfl,k1,_,rfl,aY ⟨_,rfl,_,_,rfl,k2,_,rfl,trivial,q⟩⟩
theorem ah2 {ls:aa}{i:Nat}{x:PV}(h:(cC ls)[i]? = some x):∃l,x = .tup [.int l.1,.int l.2]/\ls[i]? = some l:=by
 unfold cC at h;rw[bG4]at h;cases e:ls[i]? with
 |none=>rw[e]at h;cases h
 |some n=>rw[e]at h;exact⟨n,(bG9 h).symm,rfl⟩
end Core
namespace PP
open PySem L2 PyProof.Rows
section
variable {X:Cx}{a b e:Expr}{ta tb te:aG}{tr:bV}{pos p2 p3 pos2:Pos}
theorem aZ8 {tA:TA}(hg:Gl X "range")(hm:X.mg "range" = none)(ha:PA X [a] tA)(hs:starEach [a] X.env = [(false,eval a X.env)]:=by rfl) :
  PE X (.Call (.Name "range" p2) [a] [] pos) (λσ H Q=>tA σ H λvs H1=>∃j:Int,vs = [.int j]/\∀r,H1 r=none->Q (.ref r) (upd H1 r (.rng 0 j))):=by
 intro ah s σ H Q I h;refine Call_ (kQ I hg hm boot_range (bM3 (aN (ha pos ah s σ H _ I h) λus s1 ⟨vs,H1,I1,r1,q1⟩=>?_) hs rfl))
 obtain⟨j,e,q⟩:=q1
 subst e;cases r1 with
 |cons r rr=>
  cases rr
  obtain⟨t,rfl⟩:=r
  refine call_range_1 ?_
  exact⟨.ref s1.heap.objs.size,_,I1.laid (o:=.rng 0 j) (λb ob q=>bF0 _ q) (bF7 _) ⟨_,_,_,bG1 _ rfl⟩,rfl,q _ (I1.hok.fresh (bF7 _))⟩
theorem ah3:∀{xs:List V}{us:List av},xs.length=us.length->(∀(i:Nat) x u,xs[i]? = some x->us[i]? = some u->aZ x u)->aW xs us
 |[],[],_,_=>.nil
 |x::xs,u::us,hl,h=>.cons (h 0 x u rfl rfl) (ah3 (by simpa using hl) λi y w h1 h2=>h (i+1) y w (by rw[bJ9];exact h1) (by rw[bJ9];exact h2))
theorem aZ9 {n:Nat}{acc:Array av}(h:ItemsOf (λi v=>∃t,v = .int (0+(i:Int)*1) t) acc n):aW (kY 0 n) acc.toList:=by
 obtain⟨h1,h2⟩:=h
 refine ah3 (by rw[yU];simp[h1]) λi x u hx hu=>?_
 have hi:i<n:=by
  have:=(bF6.mp hx).1
  rwa [yU]at this
 unfold kY at hx;rw[bG4,bS7 hi]at hx;cases hx
 obtain⟨t,rfl⟩:=h2 i u (by rw[<- Array.getElem?_toList];exact hu)
 exact⟨t,by congr 1;omega⟩
theorem ba0 (hc:X.calm=true):cG X (.type "list") (λxs H Q=>∃r j,xs = [.ref r]/\H r=some (.rng 0 j)/\0<=j/\j<=1000000/\∀l,H l=none->Q (.ref l) (upd H l (.lst (kY 0 j.toNat)))):=by
 intro ah s σ H xs us Q I r h
 obtain⟨p,j,rfl,hq,h0,h1,q⟩:=h
 obtain⟨u,rfl,rx⟩:=gI r
 cases rx
 obtain⟨t,u,v,ho⟩:=(show bY X.prog X.w H s.heap p (.rng 0 j) from I.hok p _ hq)
 refine PySem.call_list_range (a:=0) (b:=j) (c:=1) (n:=j.toNat) (I.ok.hd hc) ho (small_one (by decide) (by decide) (by omega) (by omega)) (by rw[rangeSize_one];split<;>omega) (by omega) λh' tk acc' c' kp e it=>?_
 have vv:=aZ9 it;have eq:acc'.toList.toArray=acc':=by simp
 exact⟨.ref s.heap.objs.size,_,I.laid (t':=tk) (o:=.lst (kY 0 j.toNat)) kp (bF7 _) ⟨by rw[yU];exact lim (by omega),acc'.toList,c',vv,by rw[eq];exact e⟩,rfl,q _ (I.hok.fresh (bF7 _))⟩
theorem ba1 {K:ae}{M:ax->Prop}{H:Hp}(lo:Int)(n:Nat):Reps K M H (kY lo n) (eD lo n):=by
 unfold kY eD;generalize List.range n=l
 induction l with
 |nil=>exact .nil
 |cons a r ih=>exact .cons (.int _) ih
theorem ba2 (B:Bt X.mg)(ha:QE X a ta)(hc:X.calm=true:=by rfl)(hg:Gl X "list":=by rfl)(hgr:Gl X "range":=by rfl)(hs:starEach [a] X.env = [(false,eval a X.env)]:=by rfl)(he:starEach [.Call (.Name "range" p3) [a] [] pos2] X.env=(false,eval (.Call (.Name "range" p3) [a] [] pos2) X.env)::starEach [] X.env:=by rfl)(hpl:(backTo pos (starEach [] X.env)).any (·.1)=false:=by rfl) :
  QE X (.Call (.Name "list" p2) [.Call (.Name "range" p3) [a] [] pos2] [] pos) (ag9 ta):=
 bX (T4 (ba0 hc) hg B.list PyProof.Rows.boot_list (d8 (aZ8 hgr B.range (d8 ha dO hs) hs) dO he) (he:=he) (hpl:=hpl)) λσ H Q' h=>by
  obtain⟨W,ρ,Q,px,q,k⟩:=h
  refine⟨W,ρ,_,px,q,?_⟩;rintro v H1 x g s r ⟨n,rfl,h0,h1,q⟩;cases r;refine⟨n,rfl,λr hr=>⟨r,n,rfl,b6,h0,h1,λl hl=>?_⟩⟩;have S:aD H (upd (upd H1 r (.rng 0 n)) l (.lst (kY 0 n.toNat))):=(s.trans (bL hr _)).trans (bL hl _);exact k _ _ _ .fr S (.lst (((s.trans (bL hr _))).free hl) b6 (ba1 0 n.toNat)) q
def E3:V->Int
 |.int i=>i
 |_=>0
def lM (H:Hp):V->ag
 |.ref a=>match H a with
  |some (.tup us)=>us.map E3
  |_=>[]
 |_=>[]
theorem ba3 {H:Hp}{a:ax}{ns:ag}(h:H a=some (.tup (ns.map V.int))):lM H (.ref a)=ns:=by
 show (match H a with|some (.tup us)=>us.map E3|_=>[])=ns;rw[h];show (ns.map V.int).map E3=ns;rw[bO3];exact List.map_id _
theorem E4 {K:ae}{M:ax->Prop}{H:Hp}:∀{us:List V}{ys:af},Reps K M H us (ys.map λr=>PV.tup (intz r))->us.map (lM H)=ys/\∀u∈us,∃b,u = .ref b/\H b=some (.tup ((lM H u).map V.int))
 |_,[],.nil=>⟨rfl,λu h=>nomatch h⟩
 |_,y::ys,.cons r t=>by
  obtain⟨a,us,rfl,h,r1⟩:=r.sqT
  obtain rfl:=r1.ofInts
  obtain⟨h1,h2⟩:=E4 t
  have hk:=ba3 h;refine⟨by rw[bL0,h1,hk],λu hu=>?_⟩;rcases bG0.mp hu with rfl|hu
  ·exact⟨a,rfl,by rw[hk];exact h⟩
  ·exact h2 u hu
theorem E5 {K:ae}{M:ax->Prop}{H:Hp}:∀{us:List V},(∀u∈us,∃b,u = .ref b/\H b=some (.tup ((lM H u).map V.int)))->Reps K M H us ((us.map (lM H)).map λr=>PV.tup (intz r))
 |[],_=>.nil
 |u::us,h=>by
  obtain⟨b,rfl,hb⟩:=h u bG7
  exact .cons (.tup hb (Reps.intz _)) (E5 λv hv=>h v (bG8 _ hv))
theorem ba4:e8 X E2 (Z0 X.K):=by
 rintro H vs xs Q Q' r ⟨ys,rfl,hl,hne,q⟩ k
 obtain⟨v,rfl,r1⟩:=r.one
 obtain⟨a,us,rfl,_,h,r2⟩:=r1.sqL
 obtain⟨h1,h2⟩:=E4 r2
 have lr:=r2.length;rw[bF1]at lr;refine⟨a,us,lM H,rfl,aU.of h,by omega,λy hy=>?_,λl zs hl' pm so=>?_⟩
 ·obtain⟨b,rfl,hb⟩:=h2 y hy
  refine⟨b,rfl,aP.of hb,hne _ ?_⟩;rw[<- h1];exact bI7.mpr ⟨_,hy,rfl⟩
 ·have hz:∀u∈zs,∃b,u = .ref b/\H b=some (.tup ((lM H u).map V.int)):=λu hu=>h2 u (pm.mem_iff.mp hu)
  refine k _ _ _ (bL hl' _) (.lst hl' b6 ((E5 hz).same (bL hl' _) λ_ z=>z)) (q _ ?_ ?_)
  ·rw[<- h1];exact pm.map _
  ·rw[bN6];exact so
theorem ba5 (B:Bt X.mg)(ha:QA X [e] tr)(hg:Gl X "sorted":=by rfl)(he:starEach [e] X.env=(false,eval e X.env)::starEach [] X.env:=by rfl)(hpl:(backTo pos (starEach [] X.env)).any (·.1)=false:=by rfl):QE X (.Call (.Name "sorted" p2) [e] [] pos) (aE E2 tr):=
 jM Z2 ba4 hg B.sorted bR4 ha (he:=he) (hpl:=hpl)
end
def ah4 (K:ae):Sp:=λvs H Q _=>∃(a:ax) (ns:ag),vs = [.ref a]/\(aP K H a (ns.map V.int)∨aU K H a (ns.map V.int))/\ns.length<=1000/\∀H',aD H H'->Q (.bl (Core.iM ns)) H'
def ah5:Sp:=λvs H Q _=>∃v ws ls,vs = [v]/\Z4 H v ws ls/\ws.length<=1000/\ls.length<=2000/\(∀l∈ls,(0<=l.1/\l.1<ws.length)/\0<=l.2/\l.2<ws.length)/\
 ∀(r:ax) (bs:List ax) (H':Hp),bs.length=ws.length->kZ H H' r bs (λk=>aX ls k)->Q (.ref r) H'
section
variable {P:ay}{w:ba}{K:ae}{mg:Str→Option av}{base:Heap}{f:ax}{fd:FuncData}{k:Nat}
theorem ba6 (F:bU P w K mg base fF k f fd ["things"] (ah4 K))(b:dQ K fd ["things"] [])(kp:PySem.W.keepIn K (.ref f)=true)(m:mg "rises" = some (.ref f)):Df P w K mg base k "rises" ["things"] Core.rL:=by
 refine⟨f,fd,F.imp λvs H Q E h=>?_,b,kp,m⟩
 obtain⟨xs,Qp,r,⟨x,ns,rfl,hx,hl,q⟩,k⟩:=h
 obtain⟨v,rfl,r1⟩:=r.one
 rcases hx with rfl|rfl
 ·obtain⟨a,us,rfl,h,r2⟩:=r1.sqT
  obtain rfl:=r2.ofInts
  exact⟨a,ns,rfl,.inl (aP.of h),hl,λH' s=>k _ H' _ s (.bl _) q⟩
 ·obtain⟨a,us,rfl,_,h,r2⟩:=r1.sqL
  obtain rfl:=r2.ofInts
  exact⟨a,ns,rfl,.inr (aU.of h),hl,λH' s=>k _ H' _ s (.bl _) q⟩
theorem ah6 {M:ax->Prop}{H:Hp}:∀{us:List V}{ls:aa},Reps K M H us (ls.map λl=>PV.tup [.int l.1,.int l.2])->qT H us ls
 |_,[],.nil=>.nil
 |_,l::ls,.cons r t=>by
  obtain⟨a,us,rfl,h,r1⟩:=r.sqT
  obtain⟨u1,u2,rfl,q1,q2⟩:=r1.two
  cases q1;cases q2;exact .cons ⟨a,rfl,h⟩ (ah6 t)
theorem ba7 {M:ax->Prop}{H:Hp}{v:V}{ws:ag}{ls:aa}(r:aI K M H v (Core.bG ws ls)):Z4 H v ws ls:=by
 obtain⟨a,us,rfl,h,r1⟩:=aI.sqT r
 obtain⟨u1,u2,rfl,q1,q2⟩:=r1.two
 obtain⟨p,up,rfl,hp,rp⟩:=q1.sqT
 obtain⟨q,uq,rfl,hq,rq⟩:=q2.sqT
 obtain rfl:=rp.ofInts
 exact⟨a,p,q,uq,rfl,h,hp,hq,ah6 rq⟩
theorem ah7 {M:ax->Prop}{H:Hp}:∀{bs:List ax}{ls:aa} (off:Nat),(∀b∈bs,M b)->(∀(k:Nat) b,bs[k]? = some b->H b=some (.lst ((aX ls ((off+k:Nat):Int)).map V.int)))->Reps K M H (bs.map V.ref) ((List.range' off bs.length).map λ(k:Nat)=>PV.lst (intz (aX ls k)))
 |[],_,_,_,_=>.nil
 |b::bs,ls,off,hm,h=>by
  refine .cons (.lst (hm b bG7) (h 0 b rfl) (Reps.intz _)) (ah7 (off+1) (λc hc=>hm c (bG8 _ hc)) λk c hk=>?_)
  have:=h (k+1) c (by rw[bJ9];exact hk)
  rw[show off+1+k=off+(k+1) by omega];exact this
theorem ba8 (F:bU P w K mg base fF k f fd ["web"] ah5)(b:dQ K fd ["web"] [])(kp:PySem.W.keepIn K (.ref f)=true)(m:mg "near_lists" = some (.ref f)):Df P w K mg base k "near_lists" ["web"] Core.lK:=by
 refine⟨f,fd,F.imp λvs H Q E h=>?_,b,kp,m⟩
 obtain⟨xs,Qp,r,⟨ws,ls,rfl,wb,q⟩,k⟩:=h
 obtain⟨v,rfl,r1⟩:=r.one
 have:=wb.few
 have:=wb.most
 refine⟨v,ws,ls,rfl,ba7 r1,by omega,by omega,wb.links,λt bs H' hb R=>k _ H' _ R.same (.lst R.new R.row ?_) q⟩
 have:=ah7 (K:=K) (M:=λa=>H a=none) (H:=H') (bs:=bs) (ls:=ls) 0 (λb hb=>(R.news b hb).1) λk b hk=>by rw[Nat.zero_add];exact R.rows k b hk
 rw[hb,<- List.range_eq_range']at this;exact this
end
end PP
namespace Core
open PySem L2 PP
theorem ba9 (n:Nat):eD 0 n=intz (rng n):=by
 unfold eD rng;show _=List.map PV.int (List.map (λ(i:Nat)=>(i:Int)) (List.range n));rw[bO3];refine List.map_congr_left λi _=>?_
 show PV.int (0+(i:Int))=PV.int (i:Int);rw[Int.zero_add]
theorem bb0 (n:Nat):(rng n).Nodup:=by
 unfold rng;rw[List.nodup_iff_pairwise_ne,bN6];exact (List.nodup_range (n:=n)).imp λh e=>h (by omega)
def two (l:Int×Int):ag:=[l.1,l.2]
def rS (r:ag):Int×Int:=(r.getD 0 0,r.getD 1 0)
theorem p7 (ls:aa):cC ls=(ls.map two).map λr=>PV.tup (intz r):=by
 unfold cC;rw[bO3];rfl
theorem ah8 {zs:af}{ls:aa}(h:zs.Perm (ls.map two)):∃ls':aa,zs=ls'.map two/\ls'.Perm ls:=by
 refine⟨zs.map rS,?_,?_⟩
 ·rw[bO3]
  have:∀z∈zs,(two ∘ rS) z=z:=λz hz=>by
   obtain⟨l,_,rfl⟩:=bI7.mp (h.mem_iff.mp hz)
   rfl
  rw[List.map_congr_left this,List.map_id']
 ·have:=h.map rS
  rw[bO3]at this;have e:ls.map (rS ∘ two)=ls:=by
   have:∀l∈ls,(rS ∘ two) l=id l:=λl _=>rfl
   rw[List.map_congr_left this,List.map_id]
  rw[e]at this;exact this
theorem bb1 {ls:aa}(so:(ls.map two).Pairwise λu v=>HT.dR v u=false)(nd:ls.Nodup):ls.Pairwise iP:=by
 rw[bN6]at so;refine (List.pairwise_and_iff.mpr ⟨so,nd⟩).imp λ{a b} h=>?_
 obtain⟨h1,h2⟩:=h
 unfold two at h1;rw[HT.m6]at h1;unfold iP;by_cases e:b.1=a.1
 ·rw[if_pos e,HT.m6]at h1
  by_cases e2:b.2=a.2
  ·exact absurd (Prod.ext e.symm e2.symm) h2
  ·rw[if_neg e2]at h1
   have:=bK4 h1
   omega
 ·rw[if_neg e]at h1
  have:=bK4 h1
  omega
theorem E6 (ws:ag)(ls:aa):flats [.tup (intz ws),.tup (cC ls)]=true:=p6 ws ls
def i4 (l:Int×Int):List aF:=[Sum.inl l.1,Sum.inl l.2]
structure DL (n:Int)(ps:List (List aF×PV))(i:Nat):Prop where
 key:∀p∈ps,∃l:Int×Int,p.1=i4 l/\0<=l.1/\l.1<l.2/\l.2<n
 len:ps.length<=i
 fl:flats (ps.map (·.2))=true
 nd:(ps.map (·.1)).Nodup
theorem bb2 (ns:ag){k:Int}(h:0<=k):eY (intz ns) (some k) none=intz (ns.drop k.toNat):=by
 unfold eY;have e1:HT.b9 (intz ns).length 0 (some k)=min k.toNat (intz ns).length:=by
  have:=HT.T6 (intz ns).length 0 k.toNat
  rw[show ((k.toNat:Nat):Int)=k by omega]at this;exact this
 have e2:HT.b9 (intz ns).length (intz ns).length none=(intz ns).length:=rfl;rw[e1,e2,bO];rw[List.take_of_length_le (by rw[bP4,bO];omega)];show _=List.map PV.int _;rw[List.map_drop];by_cases hk:k.toNat<=ns.length
 ·rw[Nat.min_eq_left hk]
 ·rw[Nat.min_eq_right (by omega),List.drop_of_length_le (by rw[bO];omega),List.drop_of_length_le (by rw[bO];omega)]
structure E7 (i:Int)(ms:ag):Prop where
 up:ms.Pairwise (·<·)
 inn:∀x∈ms,0<=x/\x<i
 len:(ms.length:Int)<=i
theorem E7.set {n:Nat}{ms:ag}(h:E7 (n:Int) ms):cJ n ms=true:=by
 unfold cJ;rw[v8 h.up,Bool.true_and,bN2];intro b hb
 obtain⟨x,hx,rfl⟩:=bI7.mp hb
 have:=h.inn x hx
 unfold inB;simp[this]
theorem bb3:∀{a b:ag},a.Perm b->a.Pairwise (· <= ·)->b.Pairwise (· <= ·)->a=b:=by
 intro a b h ha hb;exact h.eq_of_pairwise (λx y _ _ h1 h2=>Int.le_antisymm h1 h2) ha hb
def ah9:bS:=λxs Q=>∃ns:ag,xs = [.scr ns]/\ns.length<=63/\Q (.bl true)
structure bb4 (K:ae):Prop where
 ii:PySem.W.kitOne K (.type "int") (.type "int")=some true
 ib:PySem.W.kitOne K (.type "int") (.type "bool")=some false
 tt:PySem.W.kitOne K (.type "tuple") (.type "tuple")=some true
 ll:PySem.W.kitOne K (.type "list") (.type "list")=some true
 bb:PySem.W.kitOne K (.type "bool") (.type "bool")=some true
theorem E8 (K:ae):bb4 K:=by
 have same:∀n:String,PySem.W.kitMeta n=true->True:=λ_ _=>trivial
 refine⟨?_,?_,?_,?_,?_⟩
 ·unfold PySem.W.kitOne;rw[if_pos (by decide)]
 ·have e:(if PySem.W.kitMeta "bool" = true then (fastBuiltinMro "int").map (·.contains (Value.type "bool")) else none)=some false:=by decide +kernel
  unfold PySem.W.kitOne;rw[if_neg (by decide)];exact e
 ·unfold PySem.W.kitOne;rw[if_pos (by decide)]
 ·unfold PySem.W.kitOne;rw[if_pos (by decide)]
 ·unfold PySem.W.kitOne;rw[if_pos (by decide)]
theorem i3.wb {n:Int}{ws:ag}{ls:aa}(h:i3 n ws ls)(hn:n<=40):Wb ws ls:=
 ⟨by have:=h.many;omega,by have:=h.most;omega,λl hl=>by have:=h.inn l hl;have:=h.many;omega⟩
end Core
namespace PP
open PySem L2 PyProof.Rows
theorem bb5 {P:ay}{w:ba}{K:ae}{mg:Str->Option av}{base:Heap}{k:Nat}{x:Str}{ps N:List Str}{p:bS}{st:Stmt}{f:ax}{fd:FuncData}(F:cQ K x x st f fd)(S:FnScope N ps (aS st))(len:∀xs Q,p xs Q->xs.length=ps.length)(body:∀(cdv:av) (A:az) (outer:List Env) (s:aw) (H:Hp) (E:XK),bJ k (A.deeper (envOfC x (aS st) s.heap.objs.size f cdv))->
   ∃t,fG (cP fF P w K mg base N x (aS st) f cdv A outer s H E).nox (cU st) t/\∀xs Q,p xs Q->t { nx:=λ_=>Q .non,rt:=Q } (gD N xs)):bU P w K mg base fF (k+1) f fd ps (qX K p):=by
 refine F.ok S (λvs H Q E h=>?_) (λcdv A outer s H vs Q E hr h=>?_)
 ·obtain⟨xs,Qp,r,q,_⟩:=h
  rw[r.length];exact len xs Qp q
 ·obtain⟨xs,Qp,r,q,k⟩:=h
  obtain⟨t,ht,hq⟩:=body cdv A outer s H E hr
  refine⟨_,ht,λ_=>False,gD N xs,_,uY r,hq xs Qp q,?_,?_,?_,?_⟩
  ·exact λW' σ' H' ρ' e px q=>k _ _ _ px.same .non q
  ·exact λv H' x s r q=>k _ _ _ s r q
  ·exact λW' σ' H' ρ' e px q=>q
  ·exact λW' σ' H' ρ' e px q=>q
def vF (K:ae):Sp:=λvs H Q _=>∃(a:ax) (ns:ag),vs = [.ref a]/\l0 K H a ns/\ns.length<=63/\∀H',Q (.bl true) H'
theorem bb6 {P:ay}{w:ba}{K:ae}{mg:Str->Option av}{base:Heap}{k:Nat}{f:ax}{fd:FuncData}(F:bU P w K mg base fF k f fd ["script"] (qX K Core.ah9)):bU P w K mg base fF k f fd ["script"] (vF K):=
 F.imp λvs H Q E h=>by
  obtain⟨a,ns,rfl,hs,hl,q⟩:=h
  refine⟨[.scr ns],λz=>z = .bl true,.cons (.scr hs) .nil,⟨ns,rfl,hl,rfl⟩,?_⟩;rintro v H' x _ r rfl;cases r;exact q H'
theorem bb7 {K:ae}{H:Hp}{a:ax}{ns:ag}(hO:tL H)(h:aU K H a (ns.map V.int)):l0 K H a ns:=by
 rcases h with (h|⟨o,h⟩)|h
 ·rcases hO a with e|⟨o,xs,e⟩<;>(rw[h]at e;cases e)
 ·exact .inl ⟨o,h⟩
 ·exact .inr h
end PP
namespace PyProof.Rows
open PySem
section
variable {prog:ay}{w:ba}{A:az}{E:av→aw→Prop}{s:aw}
theorem E9 {l:ax}{vs:List av}{Q:List av->aw->Prop}(hl:s.heap.IsTuple l vs.toArray)(h:Q vs { s with heap:=(s.heap.push (seqObj "list" #[] 0)).update s.heap.objs.size (Obj.mapSeq (·++vs.toArray)) })(hsz:vs.length<=sizeLine) :
  wpAny (model prog w) A (collect (.ref l)) Q E s:=by
 obtain⟨o,ho,hc,n,hd⟩:=id hl
 unfold collect;refine bE9 (wpAny_runValue (codeAny_builtin entry_proto_collect' ?_));show wpAny _ _ (do again (.builtin "list.__iadd__" ⟨[<- newList [],.ref l],[]⟩)) _ _ s;refine bE9 (wpAny_newList (bF5 ⟨Code.quiet_builtin _ (by decide +kernel),codeAny_builtin entry_list_iadd' ?_⟩));show wpAny _ _ (Builtin.List.listExtendWith (.ref s.heap.objs.size) (.ref l) (.ref s.heap.objs.size)) _ _ { s with heap:=s.heap.push (seqObj "list" #[] 0) };unfold Builtin.List.listExtendWith;have ho':(s.heap.push (seqObj "list" #[] 0)).get? l=some o:=bF0 _ ho;refine bE9 (wpAny_typeOf (T:="tuple") ⟨o,ho',hc⟩ ?_);have ht:(Value.type "tuple"==Value.type "tuple")=true:=by rfl
 rw[if_pos (by rw[ht];simp)];refine bE9 (listItems_at ho' hd ?_);refine bE9 (listItems_at (xs:=#[]) (n:=0) (bG1 _ rfl) rfl ?_);rw[if_neg (by simp)];refine bE9 (listUpdate_at (xs:=#[]) (n:=0) (bG1 _ rfl) rfl ?_ (bI2 _) (by show (#[]++vs.toArray).size<=sizeLine+1;simp only[Array.size_append,bF2,List.length_nil];omega));refine bF5 ?_
 show wpAny (model prog w) A (do
   let o <- load s.heap.objs.size
   match o.data with
   |.seq xs _=>pure xs.toList
   |_=>unsupported "internal:collect") Q E { s with heap:=(s.heap.push (seqObj "list" #[] 0)).update s.heap.objs.size (Obj.mapSeq (·++vs.toArray)) }
 refine bE9 (wpAny_load (get?_update_seq (bG1 _ rfl) _) ?_);show wpAny _ _ (pure ((#[]:Array av)++vs.toArray).toList) Q E _;rw[show ((#[]:Array av)++vs.toArray).toList=vs by simp];exact bF5 h
theorem bb8 {l:ax}{vs:List av}{ns:ag}{Q:av->aw->Prop}(hl:s.heap.IsTuple l vs.toArray)(hI:IntsAre vs ns)(h64:vs.length<64)(h:∀(out:Array av) (ns':ag),IntsAre out.toList ns'->ns'.Perm ns->ns'.Pairwise (· <= ·)->Q (.ref (s.heap.objs.size+1)) { s with heap:=sortedAll s.heap vs out }) :
  wpAny (model prog w) A (call (.builtin "sorted") [.ref l]) Q E s:=by
 have hsl:vs.length<=sizeLine:=bH6 (bJ6 h64) (by decide);refine bQ5 kind_sorted plain_sorted entry_sorted (args_sorted1 _) ?_;unfold Builtin.«sorted»;refine bE9 (m:=checkCount "sorted" 1 1 _) (bF5 ?_);refine bE9 (E9 hl ?_ hsl);refine bE9 (wpAny_newList ?_);have hsz:((s.heap.push (seqObj "list" #[] 0)).update s.heap.objs.size (Obj.mapSeq (·++vs.toArray))).objs.size=s.heap.objs.size+1:=by
  rw[Heap.size_update,size_push']
 have hoL:(((s.heap.push (seqObj "list" #[] 0)).update s.heap.objs.size (Obj.mapSeq (·++vs.toArray))).push (seqObj "list" vs.toArray 0)).get? (s.heap.objs.size+1)=some (seqObj "list" vs.toArray 0):=by
  rw[<- hsz];exact bG1 _ rfl
 show wpAny _ _ _ _ _ { s with heap:=((s.heap.push (seqObj "list" #[] 0)).update s.heap.objs.size (Obj.mapSeq (·++vs.toArray))).push (seqObj "list" vs.toArray 0) };rw[hsz];refine bE9 (bP7 (bL9 slot_list_sort ⟨_,hoL,rfl⟩ entry_list_sort (list_sort_tree hoL hI h64 λout ns' a1 a2 a3=>⟨_,rfl,?_⟩) (args_list_sort _)));exact bF5 ⟨_,rfl,h out ns' a1 a2 a3⟩
end
end PyProof.Rows
namespace PP
open PySem L2 PyProof.Rows
section
variable {X:Cx}{a b e:Expr}{ta tb te:aG}{tr:bV}{pos p2:Pos}
theorem bb9:cG X (.builtin "sorted") (λxs H Q=>∃a ns,xs = [.ref a]/\(aU X.K H a (ns.map V.int)∨aP X.K H a (ns.map V.int))/\ns.length<64/\∀l (ms:ag),H l=none->ms.Perm ns->ms.Pairwise (· <= ·)->Q (.ref l) (upd H l (.lst (ms.map V.int)))):=by
 intro ah s σ H xs us Q I r h
 obtain⟨a,ns,rfl,hs,h64,q⟩:=h
 rcases hs with hs|hs
 ·exact Y9 ah s σ H _ us Q I r ⟨a,ns,rfl,hs,h64,q⟩
 obtain⟨u,rfl,ru⟩:=gI r
 cases ru
 obtain⟨its,rv,p,hz⟩:=I.tuple hs
 have hl:=rv.length;rw[bF1]at hl;refine bb8 p (jE rv) (by omega) λout ns' a1 a2 a3=>?_
 obtain⟨e,he⟩:=sortedAll_at s.heap its out
 have hn:s.heap.objs.size<=s.heap.objs.size+1:=bU8 _;have am:ns'.length=ns.length:=a2.length_eq;refine⟨.ref (s.heap.objs.size+1),upd H (s.heap.objs.size+1) (.lst (ns'.map V.int)),I.laid (t':=s.toks) (λ_ _=>sortedAll_old) hn ⟨?_,out.toList,e,qO a1,by simpa using he⟩,rfl,q _ ns' (I.hok.fresh hn) a2 a3⟩;rw[bF1,am];exact bJ6 (qP (by omega))
def F0:List PV->(PV->Prop)->Prop:=λxs Q=>∃x ns,xs = [x]/\iI x=some (intz ns)/\ns.length<64/\∀ms:ag,ms.Perm ns->ms.Pairwise (· <= ·)->Q (.lst (intz ms))
theorem bc0:e8 X F0 (λxs H Q=>∃a ns,xs = [.ref a]/\(aU X.K H a (ns.map V.int)∨aP X.K H a (ns.map V.int))/\ns.length<64/\∀l (ms:ag),H l=none->ms.Perm ns->ms.Pairwise (· <= ·)->Q (.ref l) (upd H l (.lst (ms.map V.int)))):=by
 rintro H vs xs Q Q' r ⟨x,ns,rfl,e,hl,q⟩ k
 obtain⟨v,rfl,r1⟩:=r.one
 obtain⟨a,us,rfl,hs,r2⟩:=r1.seq e
 obtain rfl:=r2.ofInts
 exact⟨a,ns,rfl,hs,hl,λl ms hl' p o=>k _ _ _ (bL hl' _) (.lst hl' b6 (Reps.intz ms)) (q ms p o)⟩
theorem bc1 (B:Bt X.mg)(ha:QA X [e] tr)(hg:Gl X "sorted":=by rfl)(he:starEach [e] X.env=(false,eval e X.env)::starEach [] X.env:=by rfl)(hpl:(backTo pos (starEach [] X.env)).any (·.1)=false:=by rfl):QE X (.Call (.Name "sorted" p2) [e] [] pos) (aE F0 tr):=
 jM bb9 bc0 hg B.sorted bR4 ha (he:=he) (hpl:=hpl)
def ai0:PV->Tg->PV->Tg->PK->Prop:=λx _ y _ Q=>∃xs ys,x = .lst xs/\y = .lst ys/\flats xs=true/\flats ys=true/\xs.length+ys.length<=16000000/\Q (.lst (xs++ys)) .fr
abbrev F1 (ta tb:aG):aG:=q2 ai0 ta tb
theorem bc2:dU X ai0 V3:=by
 rintro W Hs H u v x y g g' Q Q' s n r1 r2 ⟨xs,ys,rfl,rfl,f1,f2,hl,q⟩ k
 obtain⟨a,us,rfl,_,h1,q1⟩:=r1.sqL
 obtain⟨b,ws,rfl,_,h2,q2⟩:=r2.sqL
 have l1:=q1.length;have l2:=q2.length;refine⟨a,b,us,ws,rfl,rfl,h1,h2,lim (by omega),λp hp=>k _ _ _ .fr (bL hp _) (.lst (s.free hp) b6 (((q1.flat f1).append (q2.flat f2)).same (bL hp _) λ_ z=>z)) q⟩
theorem bc3 (ha:QE X a ta)(hb:QE X b tb):QE X (.BinOp a .Add b pos) (F1 ta tb):=lC aJ2 bc2 ha hb
end
end PP
namespace L2
open PySem PySem.Spec PyProof.Rows
def F3 (K:ae)(a:ax):It:=
  ⟨λi H=>∃xs x,aU K H a xs/\xs[i]? = some x,
   λi H v H'=>∃T x,H T=none/\v = .ref T/\H'=upd H T (.tup [.int i,x])/\∀xs,aU K H a xs->xs[i]? = some x,
   λi H=>∃xs,aU K H a xs/\xs.length<=i⟩
structure bc4 (e it a:ax)(i:Nat)(h:Heap):Prop where
 ee:∃old,IsEnum h e it i old
 s1:h.IsListIter it a i
theorem bc5 {P:ay}{w:ba}{K:ae}{elts:List Expr}{k:Nat}{pos:Pos}(a e it:ax)(d:e≠it) :
  kR P w K (.Tuple elts k pos) (F3 K a) [e,it] e (bc4 e it a):=by
 refine⟨by simp,λi h st c hc=>?_,λi h h' st kp=>?_,?_,?_,λA i s Q E st q=>?_⟩
 ·simp only[bG0,bH0,bL4]at hc
  obtain⟨old,ee⟩:=st.ee
  obtain⟨o1,f1,g1,d1⟩:=st.s1
  rcases hc with rfl|rfl
  ·exact⟨_,ee,λv q=>by cases q⟩
  ·exact⟨_,f1,λv q=>by rw[d1]at q;cases q⟩
 ·obtain⟨old,ee⟩:=st.ee
  exact⟨⟨old,kp e (by simp) _ ee⟩,st.s1.at λo z=>kp it (by simp) o z⟩
 ·intro X hP hw hK hc i ah s σ H E I hf st hg
  subst hP hw hK
  obtain⟨xs,x,ha,hx⟩:=hg
  obtain⟨us,ru,pu,lu⟩:=I.list ha
  obtain⟨ux,eux,rux⟩:=ru.get hx
  obtain⟨old,ee⟩:=st.ee
  refine wpAny_pyNext_enum_item ee st.s1 pu.isList (by simpa using eux) d λh' eo it' pr sz kp=>⟨_,rfl,?_⟩
  refine wpAny_letOwnedTupleGo_enum (s:={ s with heap:=h',toks:=s.toks+1 }) eo λg zz sb=>?_
  have hzl:e<s.heap.objs.size:=bG6 ee;have up:∀c o,c≠e->c≠it->s.heap.get? c=some o->g.get? c=some o:=λc o c1 c2 z=>sb.extBut c o c1 (kp c o c1 c2 z)
  have hT:H s.heap.objs.size=none:=I.hok.fresh (bF7 _);have prG:g.get? s.heap.objs.size=some { cls:=.type "tuple",data:=.seq #[.int i s.toks,ux] }:=sb.extBut _ _ (bN5 hzl) pr;have fpn:∀c u,H c=some u->c∉[e,it]:=λc u z hm=>by rw[(hf c hm).1]at z;cases z
  have upH:∀c o u,H c=some u->s.heap.get? c=some o->g.get? c=some o:=λc o u q z=>by
   have:=fpn c u q
   simp only[bG0,bH0,bL4,not_or]at this;exact up c o this.1 this.2 z
  have ns:∀m,s.heap.Ns X.env.locals m->g.Ns X.env.locals m:=λm hm=>by
   obtain⟨o,es,ep,e1,e2⟩:=hm
   exact⟨o,es,ep,up _ o (Ne.symm (hf e (by simp)).2.1) (Ne.symm (hf it (by simp)).2.1) e1,e2⟩
  have I2:a7 X ah σ (upd H s.heap.objs.size (.tup [.int i,x])) { s with heap:=g,toks:=s.toks+1 }:=by
   refine I.step (g':=s.gens) (d':=s.drawn) (ch:=[e,it]) (λc hc'=>?_) (λc o _ _ hc' z _=>?_) (λc o _ _ hc' z _=>⟨o.slots,?_⟩) (λc o _ z n=>?_) (λc o hc' z=>⟨o,?_⟩)
    (λc zs z=>by rw[aL (dG z hT)];exact z) (λc u zs z=>by rw[aL (dG z hT)];exact z) (λc ps z=>⟨#[],by rw[aL (dG z hT),z];simp⟩) ns (λc u z=>?_) I.bare
   ·exact⟨(hf c hc').2.2.2.1,(hf c hc').2.1,(hf c hc').2.2.2.2.1,(hf c hc').2.2.2.2.2⟩
   ·simp only[bG0,bH0,bL4,not_or]at hc'
    exact up c o hc'.1 hc'.2 z
   ·simp only[bG0,bH0,bL4,not_or]at hc'
    exact up c o hc'.1 hc'.2 z
   ·rw[aL (bI3 (bG6 z))];exact n
   ·simp only[bG0,bH0,bL4,not_or]at hc'
    exact up c o hc'.1 hc'.2 z
   ·by_cases hcT:c=s.heap.objs.size
    ·subst hcT
     rw[b6]at z;cases z
     exact⟨by show 2<=sizeLine;decide,[.int i s.toks,ux],.cons ⟨_,rfl⟩ (.cons rux .nil),⟨_,prG,rfl,_,rfl⟩,λu e=>by rw[prG]at e;cases e;rfl⟩
    ·rw[aL hcT]at z
     refine (I.hok c u z).stay (λc' o' hc2 q'=>?_) (λc' q'=>by rw[aL (dG q' hT)];exact q') λc' zs q'=>by rw[aL (dG q' hT)];exact q'
     rcases hc2 with rfl|hc2
     ·exact upH _ _ _ z q'
     ·exact upH _ _ _ hc2 q'
  refine⟨.ref s.heap.objs.size,_,I2,rfl,⟨_,x,hT,rfl,rfl,λxs' ha'=>?_⟩,⟨⟨ux,by push_cast;exact zz⟩,it'.at λo z=>sb.extBut _ o (Ne.symm d) z⟩,λc hc'=>?_⟩
  ·rw[I.list_inj ha' ha];exact hx
  ·obtain⟨o,z⟩:∃o,s.heap.get? c=some o:=by
    simp only[bG0,bH0,bL4]at hc'
    obtain⟨o1,f1,_⟩:=st.s1
    rcases hc' with rfl|rfl
    ·exact⟨_,ee⟩
    ·exact⟨_,f1⟩
   rw[aL (bI3 (bG6 z))];exact (hf c hc').1
 ·intro X hP hw hK hc i ah s σ H E I hf st hg
  subst hP hw hK
  obtain⟨xs,ha,hi⟩:=hg
  obtain⟨us,ru,pu,lu⟩:=I.list ha
  obtain⟨old,ee⟩:=st.ee
  have hh:X.A.handled=none:=I.ok.hd hc;have e1:=ru.length;refine wpAny_pyNext_enum_end hh ee st.s1 pu.isList (by rw[Array.getElem?_eq_none];simp only[bF2];omega) λg kp=>⟨rfl,?_⟩
  have fpn:∀c u,H c=some u->c∉[e,it]:=λc u z hm=>by rw[(hf c hm).1]at z;cases z
  have upH:∀c o u,H c=some u->s.heap.get? c=some o->g.get? c=some o:=λc o u q z=>by
   have:=fpn c u q
   simp only[bG0,bH0,bL4,not_or]at this;exact kp c o this.2 z
  have ns:∀m,s.heap.Ns X.env.locals m->g.Ns X.env.locals m:=λm hm=>by
   obtain⟨o,es,ep,e1,e2⟩:=hm
   exact⟨o,es,ep,kp _ o (Ne.symm (hf it (by simp)).2.1) e1,e2⟩
  refine I.step (g':=s.gens) (d':=s.drawn) (ch:=[it]) (λc hc'=>?_) (λc o _ _ hc' z _=>?_) (λc o _ _ hc' z _=>⟨o.slots,?_⟩) (λc o _ z n=>n) (λc o hc' z=>⟨o,?_⟩)
   (λc zs z=>z) (λc u zs z=>z) (λc ps z=>⟨#[],by rw[z];simp⟩) ns (λc u z=>?_) I.bare
  ·have hm:c∈[e,it]:=bG8 _ hc'
   exact⟨(hf c hm).2.2.2.1,(hf c hm).2.1,(hf c hm).2.2.2.2.1,(hf c hm).2.2.2.2.2⟩
  ·exact kp c o (λy=>hc' (by rw[y];simp)) z
  ·exact kp c o (λy=>hc' (by rw[y];simp)) z
  ·exact kp c o (λy=>hc' (by rw[y];simp)) z
  ·refine (I.hok c u z).stay (λc' o' hc2 q'=>?_) (λ_ q'=>q') λ_ _ q'=>q'
   rcases hc2 with rfl|hc2
   ·exact upH _ _ _ z q'
   ·exact upH _ _ _ hc2 q'
 ·obtain⟨old,ee⟩:=st.ee
  exact wpAny_pyIter_enum ee q
structure bE7 (e it a:ax)(i:Nat)(h:Heap):Prop where
 ee:∃old,IsEnum h e it i old
 s1:h.IsTupleIter it a i
section
variable {X:Cx}
def ai1 (K:ae)(ta:TA):TI:=λσ H R=>ta σ H λvs H1=>∃a xs,vs = [.ref a]/\aU K H1 a xs/\R (F3 K a) H1
theorem bc6 {elts:List Expr}{kt:Nat}{pt:Pos}{a:Expr}{ta:TA}{p pos:Pos}(hg:Gl X "enumerate")(hm:X.mg "enumerate" = none)(ha:PA X [a] ta)(hs:starEach [a] X.env = [(false,eval a X.env)]:=by rfl) :
  PI X (.Tuple elts kt pt) (.Call (.Name "enumerate" p) [a] [] pos) (ai1 X.K ta):=by
 intro ah s σ H R I h;refine Call_ (kQ I hg hm PyProof.Rows.boot_enumerate (bM3 (aN (ha pos ah s σ H _ I h) λus s1 ⟨vs,H1,I1,r1,q1⟩=>?_) (by rw[hs];rfl) (by rfl)))
 obtain⟨a',xs,e,h1,q⟩:=q1
 subst e;cases r1 with
 |cons r rr=>
  cases rr;cases r
  obtain⟨us,_,p1,_⟩:=I1.list h1
  refine call_enumerate_list p1.isList λh' z s1' sz kp=>wpAny_pyIter_enum z ?_
  have fresh:∀k,H1 (s1.heap.objs.size+k)=none:=λk=>I1.hok.fresh (bM1 _ _)
  refine⟨s1.heap.objs.size+1,[s1.heap.objs.size+1,s1.heap.objs.size],_,_,H1,rfl,I1.kept (t':=s1.toks) kp,
   bc5 a' _ _ (Nat.succ_ne_self _),⟨⟨_,z⟩,s1'⟩,λc hc=>?_,q⟩
  simp only[bG0,bH0,bL4]at hc;rcases hc with rfl|rfl
  ·exact I1.fpOk (bM1 _ _) (fresh 1)
  ·exact I1.fpOk (bF7 _) (fresh 0)
end
end L2
namespace Zp
open PySem PyProof.Rows
theorem bc7 (t b:ax)(xs ys:Array av)(n n2:Nat)(dd dd2:Option ax)(sl sl2:Array (Option av))(hx:xs.isEmpty=true):Meets (Builtin.«tuple.__add__» ⟨[.ref t,.ref b],[]⟩)
  (λ_ R s=>s.heap.get? t=some { cls:=.type "tuple",dict:=dd,data:=.seq xs n,slots:=sl }/\s.heap.get? b=some { cls:=.type "tuple",dict:=dd2,data:=.seq ys n2,slots:=sl2 }/\R (.ok (.ret (.ref b))) s):=
 .of_wp λprog w A R s h=>by
  obtain⟨h1,h2,h⟩:=h
  have sub:isSubtype (Value.type "tuple") (Value.type "tuple")=pure true:=rfl
  wp_walk
  exact⟨_,rfl,h⟩
end Zp
namespace L2
open PySem PySem.Spec PyProof.Rows
section
variable {X:Cx}
def F4 (K:ae):R2:=λx y H Q=>∃a b xs ys,x = .ref a/\y = .ref b/\aP K H a xs/\aP K H b ys/\xs.length+ys.length<=sizeLine/\
 (xs = []->Q (.ref b) H)/\(xs≠[]->ys = []->Q (.ref a) H)/\(xs≠[]->ys≠[]->∀p,H p=none->Q (.ref p) (upd H p (.tup (xs++ys))))
theorem ai2:cL X (binaryOp .Add) (F4 X.K):=by
 intro ah s σ H x y v u Q I rx ry h
 obtain⟨a,b,xs,ys,ex,ey,ha,hb,hz,q0,q1,q2⟩:=h
 by_cases hx:xs = []
 ·subst ex ey
  cases rx;cases ry
  obtain⟨its,r1,p1,_⟩:=I.tuple ha
  obtain⟨aq,r2,p2,_⟩:=I.tuple hb
  have hi:its = []:=r1.nil_iff.mpr hx
  obtain⟨⟨cls,dd,data,sl⟩,ho,hc,n,hd⟩:=id p1
  obtain⟨⟨cls2,dd2,data2,sl2⟩,ho2,hc2,n2,hd2⟩:=id p2
  simp only at hc hd hc2 hd2;subst hc hd hc2 hd2;exact concat_meets ⟨_,ho,rfl⟩ ⟨_,ho2,rfl⟩ noFill_tuple_add seq_tuple_add PySem.F.slot_tuple_add PySem.F.entry_tuple_add (PySem.F.args_tuple_add_2 _ _)
   (Zp.bc7 a b its.toArray aq.toArray n n2 dd dd2 sl sl2 (by simp[hi])) ⟨ho,ho2,⟨.ref b,H,I,rfl,q0 hx⟩⟩
 ·exact aH9 ah s σ H x y v u Q I rx ry ⟨a,b,xs,ys,ex,ey,ha,hb,hx,hz,q1 hx,q2 hx⟩
end
end L2
namespace PP
open PySem L2 PyProof.Rows
def mV (xs:List PV):List PV:=xs.mapIdx λi x=>PV.tup [.int (i:Int),x]
theorem vG (xs:List PV):(mV xs).length=xs.length:=by unfold mV;rw[List.length_mapIdx]
theorem bc8 {xs:List PV}{i:Nat}{x:PV}(h:xs[i]? = some x):(mV xs)[i]? = some (.tup [.int (i:Int),x]):=by
 unfold mV;rw[List.getElem?_mapIdx,h];rfl
theorem ai3 {xs:List PV}{i:Nat}{z:PV}(h:(mV xs)[i]? = some z):∃x,xs[i]? = some x/\z = .tup [.int (i:Int),x]:=by
 unfold mV at h;rw[List.getElem?_mapIdx]at h;cases e:xs[i]? with
 |none=>rw[e]at h;cases h
 |some x=>rw[e]at h;exact⟨x,rfl,(bG9 h).symm⟩
def rT (te:aG):gL:=λρ Q=>te ρ λx g=>∃xs,(x = .lst xs∨x = .lst xs)/\(g = .rd->flat x=true)/\Q (mV xs) (zU g xs)
theorem bc9 {K:ae}{H0:Hp}{W:ax->Prop}{g:Bool}{H1:Hp}{a:ax}{us:List V}{xs:List PV}(tw:∀a,W a->∃o,H1 a=some o/\gC o=true)(ha:∀W' H',Ev W H1 W' H'->aU K H' a us)(r:Reps K (Ms H0 W g) H1 us xs):qY K H0 W g H1 (F3 K a) (mV xs):=by
 have lr:=r.length;have ll:=vG xs;refine⟨λW' H' i e hi=>⟨us,us[i]'(by omega),ha W' H' e,by simp⟩,λW' H' i v H2 e y hi=>?_,λW' H' e=>⟨us,ha W' H' e,by omega⟩⟩
 obtain⟨T,x,hT,rfl,rfl,y⟩:=y
 obtain⟨z,hz,rz⟩:=r.get (y us (ha W' _ e))
 have sm:=bL hT (HO.tup [.int (i:Int),x])
 exact⟨sm,_,bc8 hz,.tup b6 (.cons (.int _) (.cons ((rz.keep (e.keep tw)).same sm λ_ q=>q) .nil))⟩
section
variable {X:Cx}{σ:L2.St}{H:Hp}{te:aG}{R:It→Hp→Prop}
theorem bd0 (h:LI X (rT te) σ H R):ai1 X.K (iY (LE X te) g9) σ H R:=by
 obtain⟨W,ρ,Q,px,q,k⟩:=h
 refine⟨W,ρ,_,px,q,?_⟩;rintro v H1 x g s r ⟨xs,hx,hg,q⟩;have px1:=px.mono s;have tw:∀a,W a->∃o,H1 a=some o/\gC o=true:=λa z=>(px1.wm a z).2
 obtain rfl:=hx.elim id id
 obtain⟨a,us,rfl,m,h,r⟩:=r.sqL
 have wa:¬W a:=by
  cases g with
  |fr=>exact (px.new m).1
  |nw=>exact m.1
  |sh=>exact m
  |rd=>have:=hg rfl;unfold flat at this;cases this
 exact⟨a,us,rfl,aU.of h,k _ _ _ _ s (bc9 tw (λW' H' e=>aU.of (e _ _ h wa rfl).1) (oT px (λz=>by have:=hg z;unfold flat at this;cases this) r)) q⟩
theorem ai4 {elts:List Expr}{kt:Nat}{pt p2 pos:Pos}{a:Expr}{ta:aG}(hg:Gl X "enumerate")(hm:X.mg "enumerate" = none)(ha:QE X a ta)(hs:starEach [a] X.env = [(false,eval a X.env)]:=by rfl):QI X (.Tuple elts kt pt) (.Call (.Name "enumerate" p2) [a] [] pos) (rT ta):=
 uU (bc6 hg hm (d8 ha dO hs) hs) λ_ _ _=>bd0
end
section
variable {X:Cx}{e:Expr}{te:aG}{pos p2:Pos}{scope:Scope}{N:List Str}{fr:List (Option Nat)}{x y:Str}{tp xp yp:Pos}{kt:Nat}{iter elt:Expr}{ti:gL}
abbrev rV (x y:Str)(xp yp:Pos)(kt:Nat)(tp:Pos):Expr:=.Tuple [.Name x xp,.Name y yp] kt tp
theorem ai5 {ifs:List Expr}{tcs:cN}(hc:X.calm=true)(he:∀(s:aw) (H:Hp) (C:ax) (fp:List ax),QE (bZ X scope N s H C fp dC) elt te)(hi:∀(s:aw) (H:Hp) (C:ax) (fp:List ax),mC (bZ X scope N s H C fp dC) ifs (LT (bZ X scope N s H C fp dC) tcs))(hN:N.Nodup)(h0:N[0]? = some x)(h1:N[1]? = some y)(hl:∀(s:aw) (H:Hp) (C:ax) (fp:List ax),(bZ X scope N s H C fp dC).env.scope.names.lookup x=some .local)(hl2:∀(s:aw) (H:Hp) (C:ax) (fp:List ax),(bZ X scope N s H C fp dC).env.scope.names.lookup y=some .local)(s:aw)(H:Hp) :
  oJ X scope N (rV x y xp yp kt tp) ifs elt s H (nI X.K 2 (iB (dN 0) (iB (dN 1) nH))) (LT (X.frm H) tcs) (LE (X.frm H) te):=
 ⟨λC fp=>pY (X:=bZ X scope N s H C fp dC) hc (jY (iA hN h0 (.inl (hl s H C fp)) (.inr (hl s H C fp))) (jY (iA hN h1 (.inl (hl2 s H C fp)) (.inr (hl2 s H C fp))) pX)),λC fp=>hi s H C fp,λC fp=>he s H C fp⟩
theorem bd1 (hi:QI X (rV x y xp yp kt tp) iter ti)(he:∀(s:aw) (H:Hp) (C:ax) (fp:List ax),QE (bZ X scope N s H C fp dC) elt te)(hc:X.calm=true:=by rfl)(S:dS X scope N fr:=by exact dS.of rfl rfl)(hN:N.Nodup:=by decide +kernel)(h0:N[0]? = some x:=by rfl)(h1:N[1]? = some y:=by rfl)(hl:∀(s:aw) (H:Hp) (C:ax) (fp:List ax),(bZ X scope N s H C fp dC).env.scope.names.lookup x=some .local:=by intro _ _ _ _;rfl)(hl2:∀(s:aw) (H:Hp) (C:ax) (fp:List ax),(bZ X scope N s H C fp dC).env.scope.names.lookup y=some .local:=by intro _ _ _ _;rfl)(hf:fr[0]? = some none:=by rfl)(hf2:fr[1]? = some none:=by rfl)(hs:∀x,foldedSetIterable iter X.env x=pure x:=by intro _;rfl):QE X (.ListComp elt [⟨rV x y xp yp kt tp,iter,[],0⟩] scope pos) (dH ti fr (k7 0 1) iK te):=
 bX (tV (gh:=λ_=>nI X.K 2 (iB (dN 0) (iB (dN 1) nH))) (tch:=λH=>LT (X.frm H) iK) (teh:=λH=>LE (X.frm H) te) hc S hi (ai5 hc he (λ_ _ _ _=>ae8) hN h0 h1 hl hl2) hs) λ_ _ _=>r9 (zX _ 0 1) (λi e=>by rcases e with e|e<;>(subst e;assumption))
theorem bd2 {c:Expr}{tcs:cN}(hi:QI X (rV x y xp yp kt tp) iter ti)(ht:∀(s:aw) (H:Hp) (C:ax) (fp:List ax),QT (bZ X scope N s H C fp dC) c tcs)(he:∀(s:aw) (H:Hp) (C:ax) (fp:List ax),QE (bZ X scope N s H C fp dC) elt te)(hc:X.calm=true:=by rfl)(S:dS X scope N fr:=by exact dS.of rfl rfl)(hN:N.Nodup:=by decide +kernel)(h0:N[0]? = some x:=by rfl)(h1:N[1]? = some y:=by rfl)(hl:∀(s:aw) (H:Hp) (C:ax) (fp:List ax),(bZ X scope N s H C fp dC).env.scope.names.lookup x=some .local:=by intro _ _ _ _;rfl)(hl2:∀(s:aw) (H:Hp) (C:ax) (fp:List ax),(bZ X scope N s H C fp dC).env.scope.names.lookup y=some .local:=by intro _ _ _ _;rfl)(hf:fr[0]? = some none:=by rfl)(hf2:fr[1]? = some none:=by rfl)(hs:∀x,foldedSetIterable iter X.env x=pure x:=by intro _;rfl):QE X (.ListComp elt [⟨rV x y xp yp kt tp,iter,[c],0⟩] scope pos) (dH ti fr (k7 0 1) tcs te):=
 bX (tV (gh:=λ_=>nI X.K 2 (iB (dN 0) (iB (dN 1) nH))) (tch:=λH=>LT (X.frm H) tcs) (teh:=λH=>LE (X.frm H) te) hc S hi (ai5 hc he (λs H C fp=>yR (ht s H C fp)) hN h0 h1 hl hl2) hs) λ_ _ _=>r9 (zX _ 0 1) (λi e=>by rcases e with e|e<;>(subst e;assumption))
end
section
variable {X:Cx}{a b e o f:Expr}{ta tb te td tk tx:aG}{pos p2 ai aj:Pos}{σ:L2.St}{H:Hp}{Q':VK}
def F5 (td tk tx:aG):aG:=λρ Q=>td ρ λx _=>∃ps,x = .dK ps/\tk ρ λy _=>tx ρ λz _=>∃k,y=kP k/\flat ((bQ ps k).getD z)=true/\Q ((bQ ps k).getD z) .fr
theorem bd3 (h:LE X (F5 td tk tx) σ H Q'):X1 (LE X td) (LE X tk) (LE X tx) σ H Q':=by
 obtain⟨W,ρ,Q,px,q,k⟩:=h
 refine⟨W,ρ,_,px,q,?_⟩;rintro v H1 x g s r ⟨ps,rfl,q⟩;have r0:=r;cases r with
 |@dK a kvs _ m h e rr=>
  refine⟨a,rfl,.inl ⟨kvs,.inl h⟩,W,ρ,_,px.mono s,q,λw H2 y g' s2 r2 q2=>⟨W,ρ,_,(px.mono s).mono s2,q2,?_⟩⟩;rintro w3 H3 z gz s3 r3 ⟨kk,rfl,fl,q⟩
  obtain⟨a',o',ea,dg,h1,h2⟩:=uN (.inl ⟨ps,kk,rfl,rfl,rfl⟩) (r0.same (s2.trans s3) λ_ z=>z) (r2.same s3 λ_ z=>z)
  cases ea;refine⟨o',dg,?_⟩;cases hv:bQ ps kk with
  |none=>
   rw[hv]at fl q;rw[h1 hv];exact k _ _ _ .fr ((s.trans s2).trans s3) (r3.flat fl) q
  |some z'=>
   rw[hv]at fl q
   obtain⟨u,rfl,ru⟩:=h2 z' hv
   exact k _ _ _ .fr ((s.trans s2).trans s3) (ru.flat fl) q
theorem bd4 (hu:X.A.units+1<cLine)(ho:QE X o td)(he:QE X e tk)(hf:QE X f tx)(m:M2 X o "get" ai e f aj:=by exact⟨rfl,rfl,rfl,rfl⟩):QE X (.Call (.Attribute o "get" ai) [e,f] [] aj) (F5 td tk tx):=bX (aK8 hu ho he hf m) λ_ _ _=>bd3
theorem bd5 {x:Str}{n:Int}{t:Nat}(hg:Gl X x)(hm:X.mg x=some (.int n t))(hd:(x==("__debug__":Str))=false:=by decide):QE X (.Name x pos) (qC (.int n)):=
 bX (t9 (v:=.int n) hg hm ⟨t,rfl⟩ hd) λ_ _ _=>oO λ_=>.int n
end
section
variable {X:Cx}{a b:Expr}{ta tb:aG}{pos:Pos}
def ai6:PV->Tg->PV->Tg->PK->Prop:=λx _ y _ Q=>∃xs ys,x = .tup xs/\y = .tup ys/\flats xs=true/\flats ys=true/\xs.length+ys.length<=16000000/\Q (.tup (xs++ys)) .fr
abbrev p9 (ta tb:aG):aG:=q2 ai6 ta tb
theorem bd6:dU X ai6 (F4 X.K):=by
 rintro W Hs H u v x y g g' Q Q' s n r1 r2 ⟨xs,ys,rfl,rfl,f1,f2,hl,q⟩ k
 obtain⟨a,us,rfl,h1,q1⟩:=r1.sqT
 obtain⟨b,ws,rfl,h2,q2⟩:=r2.sqT
 have l1:=q1.length;have l2:=q2.length;refine⟨a,b,us,ws,rfl,rfl,aP.of h1,aP.of h2,lim (by omega),λz=>?_,λ_ z=>?_,λ_ _ p hp=>k _ _ _ .fr (bL hp _) (.tup b6 (((q1.flat f1).append (q2.flat f2)).same (bL hp _) λ_ z=>z)) q⟩
 ·obtain rfl:xs = []:=by cases xs with
   |nil=>rfl
   |cons _ _=>rw[z]at l1;cases l1
  exact k _ _ _ .fr (aD.refl _) (.tup h2 (q2.flat f2)) q
 ·obtain rfl:ys = []:=by cases ys with
   |nil=>rfl
   |cons _ _=>rw[z]at l2;cases l2
  rw[bH4]at q;exact k _ _ _ .fr (aD.refl _) (.tup h1 (q1.flat f1)) q
theorem vH (ha:QE X a ta)(hb:QE X b tb):QE X (.BinOp a .Add b pos) (p9 ta tb):=lC ai2 bd6 ha hb
end
end PP
namespace Core
open PySem L2 PP
section
variable (ws:ag)(ls:aa)(os ns:ag)
def iQ:Nat->ag
 |0=>[]
 |k+1=>iQ k++(os.find? (kin ws ls (ns++iQ k))).toList
def rW (k:Nat):Option Int:=os.find? (kin ws ls (ns++iQ ws ls os ns k))
end
section
variable {ws:ag}{ls:aa}{os ns:ag}
theorem bd7 {k:Nat}{h:Int}(e:rW ws ls os ns k=some h):iQ ws ls os ns (k+1)=iQ ws ls os ns k++[h]:=by
 show iQ ws ls os ns k++(rW ws ls os ns k).toList=_;rw[e];rfl
def bd8 (ws:ag)(ls:aa)(T:ag):Prop:=∀h∈rng ws.length,kin ws ls T h=false
theorem bd9 {k:Nat}{h:Int}(e:rW ws ls os ns k=some h):h∈os/\h∉ns++iQ ws ls os ns k:=
 ⟨List.mem_of_find?_eq_some e,bK4 (v9 (List.find?_some e))⟩
theorem be0 (po:os.Perm (rng ws.length))(hs:cJ ws.length ns=true):∀k,(ns++iQ ws ls os ns k).Nodup/\∀x∈ns++iQ ws ls os ns k,x∈rng ws.length
 |0=>by
  rw[show iQ ws ls os ns 0 = [] from rfl,bH4]
  exact⟨(mP (jS hs).1).imp λh=>Int.ne_of_lt h,λx hx=>j9.mpr ((jS hs).2 x hx)⟩
 |k+1=>by
  obtain⟨i1,i2⟩:=be0 po hs k
  cases e:rW ws ls os ns k with
  |none=>
   have:iQ ws ls os ns (k+1)=iQ ws ls os ns k:=by
    show iQ ws ls os ns k++(rW ws ls os ns k).toList=_;rw[e];exact bH4 _
   rw[this];exact⟨i1,i2⟩
  |some h=>
   obtain⟨n1,n2⟩:=bd9 e
   rw[bd7 e,<- List.append_assoc];refine⟨bN7.mpr ⟨i1,bH7 _ _,λx hx y hy=>?_⟩,λx hx=>?_⟩
   ·rw[bF8.mp hy];intro z;subst z;exact n2 hx
   ·rcases bJ0.mp hx with hx|hx
    ·exact i2 x hx
    ·rw[bF8.mp hx];exact po.mem_iff.mp n1
theorem vI (hs:cJ ws.length ns=true):∀k,(aV ws ls ns k).Nodup
 |0=>(mP (jS hs).1).imp λh=>Int.ne_of_lt h
 |k+1=>by
  show (aV ws ls ns k++nextOf ws ls (aV ws ls ns k)).Nodup;refine bN7.mpr ⟨vI hs k,(bb0 ws.length).filter _,λx hx y hy=>?_⟩;intro z;subst z;exact bK4 (v9 (bL7.mp hy).2) hx
end
def F6:Option Int->PV
 |none=>.non
 |some h=>.int h
theorem i5 {i:Nat}{h:Int}{g:Bool}{ρ:b8}{Q:b8->Prop}(q:Q (ρ.set i (some (.sh true (.int h))))):bW i (.int h) g ρ Q:=by
 show Q (ρ.set i (some (.sh (g||true) (.int h))));rw[Bool.or_true];exact q
def be1 (ns S:ag):Int:=(ns.length:Int)-(((ns.filter λx=>decide (x∈S)).length:Nat):Int)
def nY:bS:=λxs Q=>∃x ns y ms,xs = [x,y]/\eN x ns/\eN y ms/\ns.length<=10000/\ms.length<=1000/\Q (.tup (intz (ns.filter λz=>!decide (z∈ms))))
def ai7:aT:=(aH (bC 2 (aE nX (a6 (a5 1) aB)))
 (b7 (aE dY (a6 (dH (eC (a5 0)) [none,some 2] (bW 0) (aQ (kB true (a5 0) (a5 1))) (a5 0)) aB))))
theorem be2:cY ai7 ["hearths","some","gone"] nY:=by
 rintro xs Q ⟨x,ns,y,ms,rfl,hx,hy,hl,hm,q⟩;refine⟨_,rfl,y,ms,rfl,hy,hm,λps d=>⟨trivial,?_⟩⟩;refine⟨_,rfl,_,hx.seq,vC hx,by rw[bO];omega,λi acc=>acc=intz ((ns.take i).filter λz=>!decide (z∈ms)),rfl,?_,?_⟩
 ·rintro i z acc hz rfl
  obtain⟨n,rfl,hn⟩:=jP hz
  have tk:=iN (p:=λz=>!decide (z∈ms)) hn;refine⟨_,rfl,_,rfl,_,.inl ⟨ps,Sum.inl n,rfl,rfl,rfl⟩,_,rfl,?_⟩;show if (!(bQ ps (Sum.inl n:aF)).isSome)=true then _ else _
  rw[d.has n];by_cases h:n∈ms
  ·rw[bG5 h]at tk ⊢
   refine aM ?_;show _=intz (List.filter _ (List.take (i+1) ns));rw[tk];exact congrArg intz (bH4 _).symm
  ·rw[bF9 h]at tk ⊢
   refine aY ⟨_,rfl,trivial,?_⟩;show _=intz (List.filter _ (List.take (i+1) ns));rw[tk,eM];rfl
 ·rintro acc rfl
  rw[bO,bI5]
  exact⟨⟨_,_,rfl,rfl,cH _,trivial,q⟩,λns z=>by cases z⟩
def be3 (ws:ag)(ls:aa)(S:ag)(h:Int):Bool:=decide (be1 (aX ls h) S<ws.getD h.toNat 0)
def stay (ws:ag)(ls:aa)(S:ag):ag:=S.filter (be3 ws ls S)
theorem be4 {n:Nat}{S:ag}(h:cJ n S=true)(p:Int->Bool):cJ n (S.filter p)=true:=by
 obtain⟨h1,h2⟩:=jS h
 have u:E7 (n:Int) (S.filter p):=⟨(mP h1).filter p,λx hx=>h2 x (bL7.mp hx).1,by
  have:=mS h
  have:=bI9 p S
  omega⟩
 exact u.set
end Core
namespace Raw
open PySem PySem.W PyProof.Rows
section
variable {prog:ay}{w:ba}{A:az}{E:av→aw→Prop}{s:aw}{T:String}{r d:ax}{n:Nat}{P:Nat→av→Prop}{OK:Heap→Prop}
theorem be5 {R:Result->aw->Prop}(K:KdlSrc prog w T r d n P OK)(hh:A.handled=none)(hok:OK s.heap)(hn:n<=sizeLine)(hR:∀h' tk acc c,(∀b o,b≠s.heap.objs.size->(s.heap.push { cls:=.type "list",data:=.seq ([]:List av).toArray }).get? b=some o->h'.get? b=some o)->h'.get? s.heap.objs.size=some { cls:=.type "list",dict:=none,data:=.seq acc c,slots:=#[] }->ItemsOf P acc n->R (.ok (.ret (.ref s.heap.objs.size))) { s with heap:=h',toks:=tk }) :
  codeAny (model prog w) A (.builtin "proto.collect" ⟨[.ref r],[]⟩) R s:=by
 have lt:=K.there _ hok;refine codeAny_builtin PySem.F.entry_proto_collect ?_;rw[Around.under_plainId PySem.F.plain_proto_collect _];show wpAny _ A.in1 (newList [] >>= λl=>again (.builtin "list.__iadd__" ⟨[l,.ref r],[]⟩)) _ _ s;refine bE9 (bM6 ?_);refine bF5 ⟨plainId_quiet PySem.F.plain_list_iadd _,codeAny_builtin PySem.F.entry_list_iadd ?_⟩;rw[Around.under_plainId PySem.F.plain_list_iadd _];show wpAny _ A.in1 (Builtin.List.listExtendWith (.ref s.heap.objs.size) (.ref r) (.ref s.heap.objs.size)) _ _ _;exact kdl_extend (s:={ s with heap:=s.heap.push { cls:=.type "list",data:=.seq ([]:List av).toArray } }) (R:=R) K hh (K.keep _ _ hok λb _ o e=>bF0 _ e) s.heap.objs.size (bN5 lt.1) (bN5 lt.2) _ 0 (bG1 _ rfl) hR hn
theorem be6 {Q:List av->aw->Prop}(K:KdlSrc prog w T r d n P OK)(hh:A.handled=none)(hok:OK s.heap)(hn:n<=sizeLine)(hQ:∀h' tk acc,(∀b o,s.heap.get? b=some o->h'.get? b=some o)->s.heap.objs.size<=h'.objs.size->ItemsOf P acc n->Q acc.toList { s with heap:=h',toks:=tk }) :
  wpAny (model prog w) A (collect (.ref r)) Q E s:=by
 unfold collect;refine bE9 (wpAny_runValue (be5 (s:=s) K hh hok hn λh' tk acc c kp at1 it=>?_));show wpAny _ A (load s.heap.objs.size >>= _) _ _ _;refine bE9 (wpAny_load at1 ?_);exact bF5 (hQ h' tk acc (λb o e=>kp b o (bI3 (bG6 e)) (bF0 _ e)) (bJ6 (bG6 at1)) it)
theorem be7 {Q:av->aw->Prop}{G:ag->Prop}(K:KdlSrc prog w T r d n P OK)(hh:A.handled=none)(hok:OK s.heap)(hn:n<64)(hI:∀acc,ItemsOf P acc n->∃ns,IntsAre acc.toList ns/\G ns)(h:∀h' tk a (out:Array av) (ns ns':ag) e,(∀b o,s.heap.get? b=some o->h'.get? b=some o)->s.heap.objs.size<=a->h'.get? a=some (seqObj "list" out e)->IntsAre out.toList ns'->G ns->ns'.Perm ns->ns'.Pairwise (· <= ·)->Q (.ref a) { s with heap:=h',toks:=tk }) :
  wpAny (model prog w) A (call (.builtin "sorted") [.ref r]) Q E s:=by
 have hsl:n<=sizeLine:=bH6 (bJ6 hn) (by decide);refine bQ5 kind_sorted plain_sorted entry_sorted (args_sorted1 _) ?_;unfold Builtin.«sorted»;refine bE9 (m:=checkCount "sorted" 1 1 _) (bF5 ?_);refine bE9 (be6 (s:=s) K hh hok hsl λh' tk acc kp hs it=>?_)
 obtain⟨ns,hi,g⟩:=hI acc it
 have hz:acc.toList.length<64:=by rw[Array.length_toList,it.1];exact hn
 refine bE9 (wpAny_newList ?_ (bH6 (bJ6 hz) (by decide)));have hoL:(h'.push (seqObj "list" acc.toList.toArray 0)).get? h'.objs.size=some (seqObj "list" acc.toList.toArray 0):=bG1 _ rfl;show wpAny _ _ _ _ _ { s with heap:=h'.push (seqObj "list" acc.toList.toArray 0),toks:=tk };refine bE9 (bP7 (bL9 slot_list_sort ⟨_,hoL,rfl⟩ entry_list_sort (list_sort_tree hoL hi hz λout ns' a1 a2 a3=>⟨_,rfl,?_⟩) (args_list_sort _)))
 obtain⟨e,he⟩:=sortedHeap_at (vs:=acc.toList) (out:=out) hoL
 refine bF5 ⟨_,rfl,h _ tk h'.objs.size out ns ns' e (λb o hb=>?_) hs he a1 g a2 a3⟩;have lt:=bG6 (kp b o hb);rw[sortedHeap_old (bI3 lt) (by rw[size_push'];exact Nat.lt_succ_of_lt lt)];exact bF0 _ (kp b o hb)
end
end Raw
namespace L2
open PySem PySem.Spec PyProof.Rows
section
variable {X:Cx}
theorem be8 (hc:X.calm=true):cG X (.builtin "sorted") (λxs H Q=>∃a kvs ns,xs = [.ref a]/\H a=some (.dK kvs)/\kvs.map (·.1)=ns.map Sum.inl/\ns.length<64/\∀l (ms:ag),H l=none->ms.Perm ns->ms.Pairwise (· <= ·)->Q (.ref l) (upd H l (.lst (ms.map V.int)))):=by
 intro ah s σ H xs us Q I r h
 obtain⟨a,kvs,ns,rfl,ha,hk,h64,q⟩:=h
 obtain⟨u,rfl,ru⟩:=gI r
 cases ru
 obtain⟨es,ep,rd,far,vk,z⟩:=aN1 I ha
 have hl:=vk.length;have hl2:=congrArg List.length hk;rw[bF1,bF1]at hl hl2;have hsz:es.toList.length=es.size:=Array.length_toList;have e1:(kvs.map λp=>kV p.1)=ns.map V.int:=by
  have:(kvs.map λp=>kV p.1)=(kvs.map (·.1)).map kV:=by rw[bO3];rfl
  rw[this,hk,bO3];rfl
 rw[e1]at vk;refine Raw.be7 (G:=λms=>ms=ns) (Raw.aM9 far) (I.ok.hd hc) rd (by omega) (λacc it=>⟨ns,by rw[aN2 it];exact jE vk,rfl⟩) λh' tk l out ns1 ns' e kp hn he a1 g a2 a3=>?_
 subst g;have am:ns'.length=ns1.length:=a2.length_eq;refine⟨.ref l,upd H l (.lst (ns'.map V.int)),I.laid (t':=tk) kp hn ⟨?_,out.toList,e,qO a1,by simpa using he⟩,rfl,q _ ns' (I.hok.fresh hn) a2 a3⟩;rw[bF1,am];exact bJ6 (qP (by omega))
end
end L2
namespace PP
open PySem L2 PyProof.Rows
section
variable {X:Cx}{a b e:Expr}{ta tb te:aG}{tr:bV}{pos p2:Pos}
def F7:List PV->(PV->Prop)->Prop:=λxs Q=>∃(ps:List (aF×PV)) (ns:ag),xs = [.dK ps]/\ps.map (·.1)=ns.map Sum.inl/\ns.length<64/\∀ms:ag,ms.Perm ns->ms.Pairwise (· <= ·)->Q (.lst (intz ms))
theorem be9:e8 X F7 (λxs H Q=>∃a kvs ns,xs = [.ref a]/\H a=some (.dK kvs)/\kvs.map (·.1)=ns.map Sum.inl/\ns.length<64/\∀l (ms:ag),H l=none->ms.Perm ns->ms.Pairwise (· <= ·)->Q (.ref l) (upd H l (.lst (ms.map V.int)))):=by
 rintro H vs xs Q Q' r ⟨ps,ns,rfl,e,hl,q⟩ k
 obtain⟨v,rfl,r1⟩:=r.one
 cases r1 with
 |@dK a kvs _ m h e2 r2=>
  exact⟨a,kvs,ns,rfl,h,e2.trans e,hl,λl ms hl' p o=>k _ _ _ (bL hl' _) (.lst hl' b6 (Reps.intz ms)) (q ms p o)⟩
theorem bf0 (B:Bt X.mg)(hc:X.calm=true)(ha:QA X [e] tr)(hg:Gl X "sorted":=by rfl)(he:starEach [e] X.env=(false,eval e X.env)::starEach [] X.env:=by rfl)(hpl:(backTo pos (starEach [] X.env)).any (·.1)=false:=by rfl):QE X (.Call (.Name "sorted" p2) [e] [] pos) (aE F7 tr):=
 jM (be8 hc) be9 hg B.sorted bR4 ha (he:=he) (hpl:=hpl)
theorem bf1 {x:Str}{a:ax}{us:List V}{xs:List PV}(hg:Gl X x)(hm:X.mg x=some (.ref a))(h:lA X.K a us)(hr:∀M H,Reps X.K M H us xs)(hd:(x==("__debug__":Str))=false:=by decide):QE X (.Name x pos) (qC (.kt xs)):=
 bX (t9 (v:=.ref a) hg hm rfl hd) λ_ _ _=>oO λ_=>.kt h (hr _ _)
def vJ (K:ae)(mg:Str->Option av):Prop:=∃a b,mg "CAUSE_OF_SEED" = some (.ref a)/\lA K a [.int 0,.ref b]/\lA K b []
theorem ai8 (c:vJ X.K X.mg)(hg:Gl X "CAUSE_OF_SEED":=by rfl):QE X (.Name "CAUSE_OF_SEED" pos) (qC (.kt [.int 0,.kt []])):=by
 obtain⟨a,b,hm,h1,h2⟩:=c
 exact bf1 hg hm h1 λ_ _=>.cons (.int 0) (.cons (.kt h2 .nil) .nil)
end
end PP
namespace Core
open PySem L2 PP
def gN (k:Nat)(r:ag):List (aF×PV):=r.map λh=>((Sum.inl h:aF),PV.int (k:Int))
def iR (rs:af):List (aF×PV):=(rs.mapIdx gN).flatten
theorem bf2 (rs:af)(r:ag):iR (rs++[r])=iR rs++gN rs.length r:=by
 unfold iR;rw[List.mapIdx_append,bS8];simp
theorem ai9 (k:Nat)(r:ag):(gN k r).map (·.1)=r.map Sum.inl:=by
 unfold gN;rw[bO3];rfl
theorem aj0:∀(rs:af) (g:Nat->Nat),((rs.mapIdx λi r=>gN (g i) r).flatten).map (·.1)=rs.flatten.map (Sum.inl:Int->aF)
 |[],_=>rfl
 |r::t,g=>by
  rw[List.mapIdx_cons,List.flatten_cons,List.flatten_cons,bJ1,bJ1,ai9,aj0 t λi=>g (i+1)]
theorem aj1 (rs:af):(iR rs).map (·.1)=rs.flatten.map (Sum.inl:Int->aF):=aj0 rs λi=>i
theorem bf3 {ps:List (aF×PV)}{h:Int}{v:PV}{S:ag}(e:ps.map (·.1)=S.map Sum.inl)(hn:h∉S):dX ps (Sum.inl h:aF) v=ps++[(Sum.inl h,v)]:=by
 unfold dX;rw[if_neg];intro z;rw[List.any_eq_true]at z
 obtain⟨p,hp,hq⟩:=z
 have:p.1∈ps.map (·.1):=bI7.mpr ⟨p,hp,rfl⟩
 rw[e,bO7 hq]at this
 obtain⟨y,hy,e2⟩:=bI7.mp this
 exact hn (Sum.inl.inj e2▸hy)
def bf4:bS:=λxs Q=>∃ws ls x ns,xs = [bG ws ls,x]/\Wb ws ls/\eN x ns/\cJ ws.length ns=true/\∀m,bP ws ls ns m->Q (.dK (iR (ns::after ws ls ns m)))
theorem bf5 {k:Nat}{r:ag}{i:Nat}{n:Int}(h:r[i]? = some n):gN k (r.take (i+1))=gN k (r.take i)++[(Sum.inl n,PV.int (k:Int))]:=by
 unfold gN;rw[bO8,h,bJ1];rfl
def dA (rs:af)(h:Int):Option Nat:=rs.findIdx? λr=>decide (h∈r)
theorem bf6 {ps qs:List (aF×PV)}{k:aF}:bQ (ps++qs) k=(bQ ps k).or (bQ qs k):=by
 unfold bQ;rw[List.find?_append];cases ps.find? _<;>rfl
theorem aj2 (k:Nat)(h:Int):∀r:ag,bQ (gN k r) (Sum.inl h:aF)=if h∈r then some (.int (k:Int)) else none
 |[]=>rfl
 |x::r=>by
  have ih:=aj2 k h r;show bQ ((Sum.inl x,PV.int (k:Int))::gN k r) (Sum.inl h)=_;by_cases e:x=h
  ·rw[jQ (p:=(Sum.inl x,PV.int (k:Int))) (congrArg Sum.inl e),if_pos (by rw[e];exact bG7)]
  ·rw[jR (p:=(Sum.inl x,PV.int (k:Int))) (λz=>e (Sum.inl.inj z)),ih]
   by_cases hm:h∈r
   ·rw[if_pos hm,if_pos (bG8 _ hm)]
   ·rw[if_neg hm,if_neg λz=>(bG0.mp z).elim (λq=>e q.symm) hm]
theorem aj3 (h:Int):∀(rs:af) (g:Nat->Nat),bQ ((rs.mapIdx λi r=>gN (g i) r).flatten) (Sum.inl h:aF)=(dA rs h).map λk=>PV.int (g k:Nat)
 |[],_=>rfl
 |r::t,g=>by
  rw[List.mapIdx_cons,List.flatten_cons,bf6,aj2,aj3 h t λi=>g (i+1)];unfold dA;rw[List.findIdx?_cons];by_cases hm:h∈r
  ·rw[if_pos hm,if_pos (bG5 hm)];rfl
  ·rw[if_neg hm,if_neg (by simpa using hm),Option.none_or,Option.map_map];rfl
theorem G0 (rs:af)(h:Int):bQ (iR rs) (Sum.inl h:aF)=(dA rs h).map λ(k:Nat)=>PV.int (k:Int):=aj3 h rs λi=>i
section
variable {ws:ag}{ls:aa}{ns:ag}{m:Nat}
def i6 (ws:ag)(ls:aa)(ns:ag):Nat->ag
 |0=>ns
 |k+1=>nextOf ws ls (aV ws ls ns k)
theorem G1 (k:Nat):(ns::after ws ls ns m)[k]? = if k<=m then some (i6 ws ls ns k) else none:=by
 cases k with
 |zero=>rw[if_pos (bI2 _)];rfl
 |succ k=>
  rw[bJ9];unfold after;rw[bG4];by_cases h:k+1<=m
  ·rw[if_pos h,bS7 (by omega)];rfl
  ·rw[if_neg h,List.getElem?_eq_none (by rw[bJ2];omega)];rfl
theorem iS {x:Int}:∀k,x∈aV ws ls ns k↔∃j,j<=k/\x∈i6 ws ls ns j
 |0=>by
  constructor
  ·exact λh=>⟨0,bF7 _,h⟩
  ·rintro⟨j,hj,h⟩
   obtain rfl:j=0:=by omega
   exact h
 |k+1=>by
  show x∈aV ws ls ns k++nextOf ws ls (aV ws ls ns k)↔_;rw[bJ0,iS k];constructor
  ·rintro (⟨j,hj,h⟩|h)
   ·exact⟨j,by omega,h⟩
   ·exact⟨k+1,bF7 _,h⟩
  ·rintro⟨j,hj,h⟩
   by_cases e:j=k+1
   ·subst e;exact .inr h
   ·exact .inl ⟨j,by omega,h⟩
theorem aj4 {x:Int}{k:Nat}(h:x∈i6 ws ls ns (k+1)):x∉aV ws ls ns k:=by
 have h:x∈nextOf ws ls (aV ws ls ns k):=h;unfold nextOf at h;exact bK4 (v9 (bL7.mp h).2)
theorem G2 {x:Int}{j k:Nat}(h1:x∈i6 ws ls ns j)(h2:x∈i6 ws ls ns k):j=k:=by
 rcases Nat.lt_trichotomy j k with h|h|h
 ·obtain⟨k',rfl⟩:∃k',k=k'+1:=⟨k-1,by omega⟩
  exact absurd ((iS k').mpr ⟨j,by omega,h1⟩) (aj4 h2)
 ·exact h
 ·obtain⟨j',rfl⟩:∃j',j=j'+1:=⟨j-1,by omega⟩
  exact absurd ((iS j').mpr ⟨k,by omega,h2⟩) (aj4 h1)
theorem jA {x:Int}{k:Nat}:dA (ns::after ws ls ns m) x=some k↔k<=m/\x∈i6 ws ls ns k:=by
 unfold dA;rw[List.findIdx?_eq_some_iff_getElem];constructor
 ·rintro⟨hk,h,_⟩
  have g:=G1 (ws:=ws) (ls:=ls) (ns:=ns) (m:=m) k;rw[bF3 hk]at g;by_cases e:k<=m
  ·rw[if_pos e]at g
   exact⟨e,by rw[<- bG9 g];exact bO7 h⟩
  ·rw[if_neg e]at g;cases g
 ·rintro⟨hk,h⟩
  have ln:(ns::after ws ls ns m).length=m+1:=by
   unfold after;rw[bH8,bF1,bJ2]
  have at_:∀j (hj:j<(ns::after ws ls ns m).length),(ns::after ws ls ns m)[j]=i6 ws ls ns j:=λj hj=>by
   have g:=G1 (ws:=ws) (ls:=ls) (ns:=ns) (m:=m) j;rw[bF3 hj,if_pos (by omega)]at g;exact bG9 g
  refine⟨by omega,?_,λj hj=>?_⟩
  ·rw[at_];exact bG5 h
  ·rw[at_]
   intro z
   have:=G2 (bO7 z) h
   omega
theorem pA {x:Int}:dA (ns::after ws ls ns m) x=none↔x∉aV ws ls ns m:=by
 rw[iS];constructor
 ·rintro h ⟨j,hj,hx⟩
  rw[jA.mpr ⟨hj,hx⟩]at h;cases h
 ·intro h
  cases e:dA (ns::after ws ls ns m) x with
  |none=>rfl
  |some k=>exact absurd ⟨k,jA.mp e⟩ h
end
def fW (rs:af)(o:Int):Int:=((dA rs o).getD 0:Nat)
def gF (rs:af)(k:Nat)(o:Int):Bool:=match dA rs o with
 |some j=>decide (j<k)
 |none=>false
theorem aj5 {ws:ag}{ls:aa}{ns:ag}{m k:Nat}(hk:k<=m)(o:Int):gF (ns::after ws ls ns m) (k+1) o=decide (o∈aV ws ls ns k):=by
 unfold gF;cases e:dA (ns::after ws ls ns m) o with
 |none=>
  have:=pA.mp e
  symm;refine bF9 λz=>this ?_
  rw[iS]at z ⊢
  obtain⟨j,hj,h⟩:=z
  exact⟨j,by omega,h⟩
 |some j=>
  obtain⟨h1,h2⟩:=jA.mp e
  show decide (j<k+1)=_;rw[decide_eq_decide,iS]
  exact⟨λh=>⟨j,by omega,h2⟩,λ⟨i,hi,h⟩=>by have:=G2 h2 h;omega⟩
def iT (rs:af)(l:ag)(k:Nat):af:=(l.filter (gF rs k)).map λo=>[fW rs o,o]
def lN (rs:af)(l:ag)(want:Int)(k:Nat)(bs:ag):Prop:=
 ∃zs:af,zs.Perm (iT rs l k)/\zs.Pairwise (λu v=>HT.dR v u=false)/\bs.Perm ((zs.take want.toNat).map λz=>z.getD 1 0)/\bs.Pairwise (· <= ·)
theorem bf7 {rs:af}{l l':ag}{k:Nat}(p:l.Perm l'):(iT rs l k).Perm (iT rs l' k):=(p.filter _).map _
theorem lN.eq {rs:af}{l l':ag}{want:Int}{k:Nat}{bs cs:ag}(h:lN rs l want k bs)(g:lN rs l' want k cs)(p:l.Perm l'):bs=cs:=by
 obtain⟨zs,p1,o1,b1,s1⟩:=h
 obtain⟨ys,p2,o2,b2,s2⟩:=g
 have e:zs=ys:=by
  refine (p1.trans ((bf7 p).trans p2.symm)).eq_of_pairwise (λx y hx hy h1 h2=>?_) o1 o2
  obtain⟨a,_,rfl⟩:=bI7.mp (p1.mem_iff.mp hx)
  obtain⟨b,_,rfl⟩:=bI7.mp (p2.mem_iff.mp hy)
  simp only[HT.m6,HT.T5]at h1 h2;by_cases e1:fW rs a=fW rs b
  ·rw[if_pos e1.symm]at h1
   rw[if_pos e1]at h2;by_cases e2:a=b
   ·rw[e2]
   ·rw[if_neg (λz=>e2 z.symm)]at h1
    rw[if_neg e2]at h2
    have:=bK4 h1
    have:=bK4 h2
    omega
  ·rw[if_neg (λz=>e1 z.symm)]at h1
   rw[if_neg e1]at h2
   have:=bK4 h1
   have:=bK4 h2
   omega
 subst e;exact (b1.trans b2.symm).eq_of_pairwise (λx y _ _ h1 h2=>Int.le_antisymm h1 h2) s1 s2
theorem G3 {xs:List PV}{w:Int}(h:0<=w):eY xs none (some w)=xs.take w.toNat:=by
 unfold eY;rw[HT.aG8,List.drop_zero,Nat.sub_zero]
 have:HT.b9 xs.length xs.length (some w)=min w.toNat xs.length:=by
  show (if w<0 then (w+(xs.length:Int)).toNat else min w.toNat xs.length)=_;rw[if_neg (by omega)]
 rw[this,<- List.take_take,bI5]
abbrev ktS:PV:=.kt [.int 0,.kt []]
def gO (rs:af)(ws:ag)(ls:aa)(h:Int)(c:PV):Prop:=
 (dA rs h=none/\c = .non)∨(dA rs h=some 0/\c=ktS)∨∃k bs,dA rs h=some (k+1)/\lN rs (aX ls h) (ws.getD h.toNat 0) (k+1) bs/\c = .tup [.int ((k+1:Nat):Int),.tup (intz bs)]
def rX:bS:=λxs Q=>∃ws ls rs h,xs = [bG ws ls,.lst (mQ ws.length ls),.dK (iR rs),.int h]/\i3 (ws.length:Int) ws ls/\ws.length<=40/\0<=h/\h<(ws.length:Int)/\∀c,gO rs ws ls h c->Q c
def aj6:aT:=(aH (bF (aQ (kB true (a5 3) (a5 2))) (b7 (qC .non)) bE)
 (aH (bC 4 (uO (a5 2) (a5 3)))
 (aH (bF (aQ (gX (a5 4) (qC (.int 0)))) (b7 (qC (.kt [.int 0,.kt []]))) bE)
 (aH (bC 5 (aE E2 (a6 (dH (eC (b5 (a5 1) (a5 3))) [none,some 4,some 2] (bW 0) (aQ (kF (F5 (a5 2) (a5 0) (a5 1)) (a5 1))) (c7 (a6 (uO (a5 2) (a5 0)) (a6 (a5 0) aB)))) aB)))
 (aH (bC 6 (kE (a5 5) kC (kD (b5 (b5 (a5 0) (qC (.int 0))) (a5 3)))))
 (b7 (c7 (a6 (a5 4) (a6 (aE dY (a6 (aE uH (a6 (dH (eC (a5 6)) [none,none] (k7 0 1) iK (a5 1)) aB)) aB)) aB)))))))))
theorem rY {n:Int}{ws:ag}{ls:aa}(w:i3 n ws ls)(h:Int):(aX ls h).length<=63:=
 bH6 (af3 h ls λl hl=>by have:=w.inn l hl;omega) w.most
theorem aj7 {n:Int}{ws:ag}{ls:aa}(w:i3 n ws ls)(k:Nat):0<=ws.getD k 0:=by
 rw[bI0];cases e:ws[k]? with
 |none=>exact Int.le_refl _
 |some x=>exact w.pos x (bJ7 e)
theorem bf8:cY aj6 ["web","around","ranks","hearth","rank","earlier","taken"] rX:=by
 rintro xs Q ⟨ws,ls,rs,h,rfl,w,few,h0,h1,q⟩;refine⟨_,rfl,_,rfl,_,.inl ⟨_,Sum.inl h,rfl,rfl,rfl⟩,_,rfl,?_⟩;show if (!(bQ (iR rs) (Sum.inl h:aF)).isSome)=true then _ else _
 rw[G0];cases hr:dA rs h with
 |none=>exact aY ⟨trivial,q _ (.inl ⟨hr,rfl⟩)⟩
 |some k=>
  refine aM ?_;refine⟨_,rfl,_,rfl,_,.inl ⟨_,Sum.inl h,rfl,rfl,(by rw[G0,hr];rfl)⟩,trivial,?_⟩;refine⟨_,rfl,.inl ⟨_,_,rfl,rfl,_,rfl,?_⟩⟩;cases k with
  |zero=>exact aY ⟨trivial,q _ (.inr (.inl ⟨hr,rfl⟩))⟩
  |succ k=>
   rw[bF9 (by omega)];refine aM ?_;have nl:=rY w h;have wp:=aj7 w h.toNat;refine⟨_,rfl,_,rfl,_,_,_,rfl,rfl,E1 h0 h1,_,rfl,(λz=>by cases z),by rw[bO];omega,λi acc=>acc=(((aX ls h).take i).filter (gF rs (k+1))).map (λo=>PV.tup (intz [fW rs o,o])),rfl,?_,?_⟩
   ·rintro i y acc hy rfl
    obtain⟨o,rfl,ho⟩:=jP hy
    have tk:=iN (p:=gF rs (k+1)) ho;refine⟨_,rfl,_,rfl,_,rfl,_,rfl,Sum.inl o,rfl,?_⟩;have vo:=G0 rs o;cases hk:dA rs o with
    |none=>
     have e:gF rs (k+1) o=false:=by unfold gF;rw[hk]
     rw[hk]at vo;rw[e,if_neg (by decide),bH4]at tk;rw[vo];refine⟨rfl,_,rfl,_,_,rfl,rfl,_,rfl,?_⟩;rw[bF9 (by omega)];refine aM ?_;show _=_;rw[tk]
    |some j=>
     have e:gF rs (k+1) o=decide (j<k+1):=by unfold gF;rw[hk]
     have er:fW rs o=(j:Int):=by unfold fW;rw[hk];rfl
     rw[hk]at vo;rw[vo];refine⟨rfl,_,rfl,_,_,rfl,rfl,_,rfl,?_⟩;by_cases hj:j<k+1
     ·rw[e,if_pos (bG5 hj)]at tk
      rw[bG5 (by omega)];refine aY ⟨_,rfl,_,rfl,_,.inl ⟨_,Sum.inl o,rfl,rfl,vo.symm⟩,_,rfl,by show 2<=1000;decide,rfl,trivial,?_⟩;show _=_;rw[tk,bJ1];show _++[PV.tup [PV.int (j:Int),PV.int o]]=_++[PV.tup [PV.int (fW rs o),PV.int o]];rw[er]
     ·rw[e,if_neg (by simpa using hj),bH4]at tk
      rw[bF9 (by omega)];refine aM ?_;show _=_;rw[tk]
   ·rintro acc rfl
    rw[bO,bI5];have pl:(iT rs (aX ls h) (k+1)).length<=63:=by
     unfold iT;rw[bF1];exact bH6 (bI9 _ _) nl
    refine⟨iT rs (aX ls h) (k+1),?_,by omega,?_,λzs pz so=>⟨trivial,?_⟩⟩
    ·unfold iT
     rw[bO3];rfl
    ·intro y hy z
     unfold iT at hy
     obtain⟨o,_,rfl⟩:=bI7.mp hy
     cases z
    refine⟨_,rfl,_,rfl,_,_,_,rfl,rfl,rfl,_,rfl,_,_,_,rfl,rfl,mR h0 h1,_,rfl,_,rfl,?_,trivial,?_⟩
    ·exact ag8 zs
    show _;have ct:eY (zs.map λr=>PV.tup (intz r)) none (some (ws.getD h.toNat 0))=(zs.take (ws.getD h.toNat 0).toNat).map λr=>PV.tup (intz r):=by
     rw[G3 wp,List.map_take]
    have z2:∀z∈zs,∃a b,z = [a,b]:=λz hz=>by
     have:=pz.mem_iff.mp hz
     unfold iT at this
     obtain⟨o,_,rfl⟩:=bI7.mp this
     exact⟨_,_,rfl⟩
    have zl:=pz.length_eq;generalize hts:zs.take (ws.getD h.toNat 0).toNat=ts at ct;have tl:ts.length<=63:=by rw[<- hts,bI8];omega
    have t2:∀z∈ts,∃a b,z = [a,b]:=λz hz=>z2 z (List.mem_of_mem_take (by rw[hts];exact hz))
    refine⟨_,rfl,_,rfl,_,rfl,(λz=>by cases z),?_,λi acc=>acc=intz ((ts.take i).map λz=>z.getD 1 0),rfl,?_,?_⟩
    ·have:=congrArg List.length ct
     rw[bF1]at this;exact bH6 (Nat.le_of_eq this) (by omega)
    ·rintro i y acc hy rfl
     have hy:=(congrArg (λl=>l[i]?) ct).symm.trans hy;rw[bG4]at hy;cases ht:ts[i]? with
     |none=>rw[ht]at hy;cases hy
     |some z=>
      rw[ht]at hy
      obtain⟨a,b,rfl⟩:=t2 z (bJ7 ht)
      cases hy;refine⟨_,_,rfl,_,rfl,rO _ _,?_⟩;show intz _++[PV.int b]=intz ((ts.take (i+1)).map λz:ag=>z.getD 1 0);rw[rJ ht,eM];rfl
    ·rintro acc rfl
     have le:=congrArg List.length ct;rw[bF1]at le;have e:(ts.take (eY (zs.map λr=>PV.tup (intz r)) none (some (ws.getD h.toNat 0))).length)=ts:=by rw[le,bI5]
     refine⟨ts.map (λz:ag=>z.getD 1 0),congrArg (λ(l:af)=>[PV.lst (intz (l.map λz:ag=>z.getD 1 0))]) e,by rw[bF1];omega,λbs bp bo=>⟨⟨_,_,rfl,rfl,cH _,by show 2<=1000;decide,?_,trivial,?_⟩,λns z=>by cases z⟩⟩
     ·show (flat (.tup (intz bs))&&true)=true
      rw[fV];rfl
     ·exact q _ (.inr (.inr ⟨k,bs,hr,⟨zs,pz,so,by rw[hts];exact bp,bo⟩,rfl⟩))
def aj8:bS:=λxs Q=>∃ws ls x ns,xs = [bG ws ls,x]/\i3 (ws.length:Int) ws ls/\ws.length<=40/\eN x ns/\cJ ws.length ns=true/\
 ∀m cs,bP ws ls ns m->cs.length=ws.length->(∀h:Nat,h<ws.length->∃c,cs[h]? = some c/\gO (ns::after ws ls ns m) ws ls h c)->Q (.lst cs)
def bf9:aT:=(aH (bC 2 (aE bf4 (a6 (a5 0) (a6 (a5 1) aB))))
 (aH (bC 3 (aE lK (a6 (a5 0) aB)))
 (b7 (dH (gM (aE hZ (a6 (a5 0) aB))) [none,some 0,some 3,some 2] (bW 0) iK (aE rX (a6 (a5 1) (a6 (a5 2) (a6 (a5 3) (a6 (a5 0) aB)))))))))
theorem bg0:cY bf9 ["web","seeds","ranks","around"] aj8:=by
 rintro xs Q ⟨ws,ls,x,ns,rfl,w,few,hx,hs,q⟩;have wb:=w.wb (by omega);refine⟨_,rfl,_,rfl,ws,ls,x,ns,rfl,wb,hx,hs,λm en=>⟨trivial,?_⟩⟩;refine⟨_,rfl,ws,ls,rfl,wb,trivial,?_⟩;refine⟨_,rfl,ws,ls,rfl,_,rfl,by omega,by omega,by rw[gV];omega,λi acc=>acc.length=i/\∀h:Nat,h<i->∃c,acc[h]? = some c/\gO (ns::after ws ls ns m) ws ls h c,⟨rfl,λh z=>absurd z (bS6 _)⟩,?_,?_⟩
 ·rintro i y acc hy ⟨hl,ha⟩
  obtain⟨rfl,hi⟩:=j8 hy
  refine⟨_,rfl,_,rfl,_,rfl,_,rfl,ws,ls,_,_,rfl,w,few,by omega,by omega,λc hc=>⟨trivial,?_⟩⟩;refine⟨by rw[bF4,hl];rfl,λh hh=>?_⟩;by_cases e:h=i
  ·subst e
   rw[show (0:Int)+(h:Int)=(h:Int) by omega]at hc
   exact⟨c,by rw[bO0 (by omega),hl,Nat.sub_self];rfl,hc⟩
  ·obtain⟨c',h1,h2⟩:=ha h (by omega)
   exact⟨c',by rw[bL5 (by omega)];exact h1,h2⟩
 ·rintro acc ⟨hl,ha⟩
  rw[gV]at hl ha
  exact⟨trivial,q m acc en (by omega) λh hh=>ha h (by omega)⟩
def vK:bS:=λxs Q=>∃c j r k,xs = [c,.int k]/\(c = .kt (.int j::r)∨c = .tup (.int j::r))/\Q (.bl (decide (j<k)))
def aj9:aT:=(b7 (mE (rD (a5 0) (qC .non)) (kF (b5 (a5 0) (qC (.int 0))) (a5 1))))
theorem bg1:cY aj9 ["cause","rank"] vK:=by
 rintro xs Q ⟨c,j,r,k,rfl,hc,q⟩;rcases hc with rfl|rfl
 ·refine⟨_,rfl,rfl,_,rfl,aY ⟨_,rfl,_,_,_,rfl,rfl,nQ (by decide) rfl,_,rfl,_,_,rfl,rfl,trivial,q⟩⟩
 ·refine⟨_,rfl,rfl,_,rfl,aY ⟨_,rfl,_,_,_,rfl,rfl,nQ (by decide) rfl,_,rfl,_,_,rfl,rfl,trivial,q⟩⟩
def ak0 (c:PV)(j:Int):Prop:=∃r,c = .kt (.int j::r)∨c = .tup (.int j::r)
def rZ:bS:=λxs Q=>∃want nb cs sd c,xs = [.int want,.lst (intz nb),.lst cs,.bl sd,c]/\nb.length<=1000/\(∀o∈nb,0<=o/\o<(cs.length:Int))/\
 ((sd=true/\c=ktS)∨(sd=false/\c = .non/\((nb.filter λo=>!iJ (cs.getD o.toNat .non)).length:Int)<want) ∨
  (sd=false/\∃k bs,c = .tup [.int k,.tup (intz bs)]/\1<=k/\(bs.length:Int)=want/\iM bs=true/\bs.length<=1000/\∀o∈bs,o∈nb/\∃j,ak0 (cs.getD o.toNat .non) j/\j<k))/\Q (.bl true)
def ak1:aT:=(aH (bF (uK (a5 3)) (b7 (q2 (A6 2 false) (a5 4) (qC (.kt [.int 0,.kt []])))) bE)
 (aH (bF (aQ (A9 (a5 4) (qC .non))) (b7 (kF (aE fR (a6 (dH (eC (a5 1)) [none,some 2] (bW 0) (aQ (rD (b5 (a5 1) (a5 0)) (qC .non))) (a5 0)) aB)) (a5 0))) bE)
 (aH (bC 5 (b5 (a5 4) (qC (.int 0))))
 (aH (bC 6 (b5 (a5 4) (qC (.int 1))))
 (aH (bF (fQ (aQ (kF (a5 5) (qC (.int 1)))) (fQ (aQ (rC (aE fR (a6 (a5 6) aB)) (a5 0))) (eB (aQ (aE rL (a6 (a5 6) aB)))))) (b7 (qC (.bl false))) bE)
 (b7 (aE uI (a6 (dH (eC (a5 6)) [none,some 1,some 5,some 2] (bW 0) iK (mE (q2 (j6 false) (a5 0) (a5 1)) (aE vK (a6 (b5 (a5 3) (a5 0)) (a6 (a5 2) aB))))) aB))))))))
theorem bg2 (g:Tg)(n:Int):uF g (.int n):=by cases g<;>first|exact trivial|rfl
theorem bg3 (g:Tg)(ns:ag):uF g (.tup (intz ns)):=by cases g<;>first|exact trivial|exact fV ns
theorem ak2 {cs:List PV}{o:Int}(h0:0<=o)(h1:o<(cs.length:Int)):atI cs o=some (cs.getD o.toNat .non):=by
 refine nQ h0 ?_
 have:o.toNat<cs.length:=by omega
 rw[bI0,bF3 this];rfl
theorem bg4:cY ak1 ["want","neighbours","told","is_seed","cause","rank","by"] rZ:=by
 rintro xs Q ⟨want,nb,cs,sd,c,rfl,nl,inn,hc,q⟩;rcases hc with⟨rfl,rfl⟩|⟨rfl,rfl,lt⟩|⟨rfl,k,bs,rfl,k1,bl,br,b1,hb⟩
 ·refine⟨_,rfl,true,rfl,aY ⟨_,rfl,⟨_,_,rfl,rfl⟩,rfl,trivial,q⟩⟩
 ·refine⟨_,rfl,false,rfl,aM ⟨_,rfl,rfl,_,rfl,aY ?_⟩⟩
  refine⟨_,rfl,_,rfl,(λz=>by cases z),by rw[bO];omega,λi acc=>acc=intz ((nb.take i).filter λo=>!iJ (cs.getD o.toNat .non)),rfl,?_,?_⟩
  ·rintro i y acc hy rfl
   obtain⟨o,rfl,ho⟩:=jP hy
   have tk:=iN (p:=λo=>!iJ (cs.getD o.toNat .non)) ho
   obtain⟨o0,o1⟩:=inn o (bJ7 ho)
   refine⟨_,rfl,_,rfl,_,_,_,rfl,rfl,ak2 o0 o1,rfl,_,rfl,?_⟩;show if (!iJ (cs.getD o.toNat .non))=true then _ else _
   cases hn:iJ (cs.getD o.toNat .non) with
   |false=>
    rw[hn,if_pos (by decide)]at tk;refine aY ⟨_,rfl,rO _ _,?_⟩;show _=_;rw[tk,eM];rfl
   |true=>
    rw[hn,if_neg (by decide),bH4]at tk;refine aM ?_;show _=_;rw[tk]
  ·rintro acc rfl
   rw[bO,bI5];refine⟨_,_,rfl,rfl,_,rfl,_,_,rfl,rfl,trivial,?_⟩;dsimp only;rw[bO,bG5 lt];exact q
 ·refine⟨_,rfl,false,rfl,aM ⟨_,rfl,rfl,_,rfl,aM ?_⟩⟩
  refine⟨_,rfl,_,_,_,rfl,rfl,rfl,bg2 _ _,?_⟩;refine⟨_,rfl,_,_,_,rfl,rfl,rfl,bg3 _ _,?_⟩;refine⟨_,rfl,_,_,rfl,rfl,_,rfl,?_⟩;rw[bF9 (by omega)];refine aM ⟨_,rfl,_,_,rfl,rfl,_,rfl,.inl ⟨_,_,rfl,rfl,_,rfl,?_⟩⟩;rw[bO];show if (!decide ((bs.length:Int)=want))=true then _ else _
  rw[bG5 bl];refine aM ⟨_,rfl,_,bs,rfl,.inl rfl,b1,_,rfl,?_⟩;rw[br];refine aM ⟨_,rfl,_,rfl,(λ_=>fV bs),by rw[bO];omega,λi acc=>acc=List.replicate i (PV.bl true)/\i<=bs.length,⟨rfl,bI2 _⟩,?_,?_⟩
  ·rintro i y acc hy ⟨rfl,il⟩
   obtain⟨o,rfl,ho⟩:=jP hy
   obtain⟨hn,j,rk,jk⟩:=hb o (bJ7 ho)
   obtain⟨o0,o1⟩:=inn o hn
   obtain⟨r,hr⟩:=rk
   refine⟨_,rfl,_,rfl,o,nb,rfl,rfl,_,rfl,?_⟩;show if decide (o∈nb)=true then _ else _
   rw[bG5 hn];refine aY ⟨_,rfl,_,rfl,_,_,_,rfl,rfl,ak2 o0 o1,_,rfl,_,j,r,k,rfl,hr,trivial,?_,?_⟩
   ·rw[bG5 jk,List.replicate_succ']
   ·exact (bF6.mp ho).1
  ·rintro acc ⟨rfl,_⟩
   refine⟨List.replicate (intz bs).length true,?_,trivial,?_⟩
   ·rw[List.map_replicate];rfl
   ·have:(List.replicate (intz bs).length true).all id=true:=by
     rw[bN2];intro x hx;exact (List.mem_replicate.mp hx).2
    rw[this];exact q
theorem ak3 {ls:aa}{h x:Int}:x∈aX ls h↔∃l∈ls,(l.1=h/\l.2=x)∨(l.2=h/\l.1=x):=by
 unfold aX;rw[List.mem_flatMap];constructor
 ·rintro⟨l,hl,hx⟩
  refine⟨l,hl,?_⟩;rcases bJ0.mp hx with hx|hx
  ·split at hx
   ·rename_i e;exact .inl ⟨e,(bF8.mp hx).symm⟩
   ·cases hx
  ·split at hx
   ·rename_i e;exact .inr ⟨e,(bF8.mp hx).symm⟩
   ·cases hx
 ·rintro⟨l,hl,⟨e1,e2⟩|⟨e1,e2⟩⟩
  ·exact⟨l,hl,List.mem_append_left _ (by rw[if_pos e1,e2];exact List.mem_singleton_self _)⟩
  ·exact⟨l,hl,bJ4 _ (by rw[if_pos e1,e2];exact List.mem_singleton_self _)⟩
theorem ak4 {h:Int}:∀{ls:aa},(∀l∈ls,l.1<l.2)->ls.Pairwise iP->(aX ls h).Nodup
 |[],_,_=>.nil
 |l::r,hl,hp=>by
  have ih:=ak4 (h:=h) (ls:=r) (λm hm=>hl m (bG8 _ hm)) (bQ6.mp hp).2;have h0:=hl l bG7;have e:aX (l::r) h=((if l.1=h then [l.2] else [])++(if l.2=h then [l.1] else []))++aX r h:=rfl;rw[e];refine bN7.mpr ⟨?_,ih,λx hx y hy q=>?_⟩
  ·by_cases e1:l.1=h
   ·rw[if_pos e1,if_neg (by omega),bH4];exact bH7 _ _
   ·rw[if_neg e1]
    split
    ·exact bH7 _ _
    ·exact .nil
  ·subst q
   obtain⟨m,hm,c⟩:=ak3.mp hy
   have h1:=hl m (bG8 _ hm);have h2:=(bQ6.mp hp).1 m hm;have c':(l.1=h/\l.2=x)∨(l.2=h/\l.1=x):=by
    rcases bJ0.mp hx with hx|hx
    ·split at hx
     ·rename_i e;exact .inl ⟨e,(bF8.mp hx).symm⟩
     ·cases hx
    ·split at hx
     ·rename_i e;exact .inr ⟨e,(bF8.mp hx).symm⟩
     ·cases hx
   unfold iP at h2;omega
theorem i3.nd {n:Int}{ws:ag}{ls:aa}(w:i3 n ws ls)(h:Int):(aX ls h).Nodup:=ak4 (λl hl=>(w.inn l hl).2.1) w.ord
theorem i3.nb {n:Int}{ws:ag}{ls:aa}(w:i3 n ws ls){h x:Int}(hx:x∈aX ls h):0<=x/\x<n:=by
 obtain⟨l,hl,c⟩:=ak3.mp hx
 have:=w.inn l hl
 omega
section
variable {ws:ag}{ls:aa}{ns:ag}{m:Nat}
theorem lN.right {n:Int}(w:i3 n ws ls){h:Int}{k:Nat}(hk:k<m)(hr:h∈i6 ws ls ns (k+1)){bs:ag}(c:lN (ns::after ws ls ns m) (aX ls h) (ws.getD h.toNat 0) (k+1) bs) :
  (bs.length:Int)=ws.getD h.toNat 0/\iM bs=true/\bs.length<=63/\∀o∈bs,o∈aX ls h/\∃j:Nat,dA (ns::after ws ls ns m) o=some j/\j<k+1:=by
 obtain⟨zs,pz,so,bp,bo⟩:=c
 have wp:=aj7 w h.toNat;have snd:((iT (ns::after ws ls ns m) (aX ls h) (k+1)).map λz=>z.getD 1 0)=(aX ls h).filter (gF (ns::after ws ls ns m) (k+1)):=by
  unfold iT;rw[bO3];exact List.map_id _
 have kc:ws.getD h.toNat 0<=(((aX ls h).filter (gF (ns::after ws ls ns m) (k+1))).length:Int):=by
  have hr:h∈nextOf ws ls (aV ws ls ns k):=hr;unfold nextOf at hr
  have:=(bL7.mp hr).2
  unfold kin at this;rw[bI4]at this
  have:=bO7 this.2
  rw[show (gF (ns::after ws ls ns m) (k+1))=λo=>decide (o∈aV ws ls ns k) from funext λo=>aj5 (by omega) o];exact this
 have zp:=pz.map λz=>z.getD 1 0
 rw[snd]at zp;have zl:zs.length=((aX ls h).filter (gF (ns::after ws ls ns m) (k+1))).length:=by
  have:=zp.length_eq
  rwa [bF1]at this
 have bl:bs.length=(ws.getD h.toNat 0).toNat:=by
  rw[bp.length_eq,bF1,bI8];omega
 have n63:=rY w h;have fl:=bI9 (gF (ns::after ws ls ns m) (k+1)) (aX ls h);have sub:List.Sublist ((zs.take (ws.getD h.toNat 0).toNat).map λz=>z.getD 1 0) (zs.map λz=>z.getD 1 0):=(List.take_sublist _ _).map _;have znd:(zs.map λz=>z.getD 1 0).Nodup:=zp.nodup_iff.mpr ((w.nd h).sublist List.filter_sublist);have bnd:bs.Nodup:=bp.nodup_iff.mpr (znd.sublist sub);refine⟨by omega,?_,by omega,λo ho=>?_⟩
 ·refine v8 ((List.pairwise_and_iff.mpr ⟨bo,bnd⟩).imp λ{a b} h=>?_)
  have h1:=h.1;have h2:a≠b:=h.2;omega
 ·have:=bL7.mp (zp.mem_iff.mp (sub.subset (bp.mem_iff.mp ho)))
  refine⟨this.1,?_⟩;have e:=this.2;unfold gF at e;cases q:dA (ns::after ws ls ns m) o with
  |none=>rw[q]at e;cases e
  |some j=>rw[q]at e;exact⟨j,rfl,bO7 e⟩
theorem gO.rank {h:Int}{c:PV}{rs:af}(hc:gO rs ws ls h c){j:Nat}(e:dA rs h=some j):ak0 c j:=by
 rcases hc with⟨h1,_⟩|⟨h1,rfl⟩|⟨k,bs,h1,_,rfl⟩
 ·rw[e]at h1;cases h1
 ·rw[e]at h1;cases h1;exact⟨_,.inl rfl⟩
 ·rw[e]at h1;cases h1;exact⟨_,.inr rfl⟩
theorem gO.non {h:Int}{c:PV}{rs:af}(hc:gO rs ws ls h c):iJ c=(dA rs h).isNone:=by
 rcases hc with⟨h1,rfl⟩|⟨h1,rfl⟩|⟨k,bs,h1,_,rfl⟩<;>rw[h1]<;>rfl
end
def ak5:bS:=λxs Q=>∃ws ls x ns cs m,xs = [bG ws ls,x,.lst cs]/\i3 (ws.length:Int) ws ls/\ws.length<=40/\eN x ns/\cJ ws.length ns=true/\bP ws ls ns m/\cs.length=ws.length/\
 (∀h:Nat,h<ws.length->∃c,cs[h]? = some c/\gO (ns::after ws ls ns m) ws ls h c)/\Q (.tup (intz ((rng ws.length).filter λh=>decide (h∈aV ws ls ns m))))
def bg5:aT:=(aH (bC 3 (aE aY8 (a6 (a5 0) (a6 (a5 1) aB))))
 (aH (bF (aQ (rC (aE fR (a6 (a5 2) aB)) (aE hZ (a6 (a5 0) aB)))) oV bE)
 (aH (bC 4 (aE lK (a6 (a5 0) aB)))
 (aH (e9 (gM (aE hZ (a6 (a5 0) aB))) (bW 5)
  (bF (eB (aQ (aE rZ (a6 (b5 (b5 (a5 0) (qC (.int 0))) (a5 5)) (a6 (b5 (a5 4) (a5 5)) (a6 (a5 2) (a6 (q2 (j6 false) (a5 5) (a5 3)) (a6 (b5 (a5 2) (a5 5)) aB)))))))) oV bE))
 (b7 (aE dY (a6 (dH (rT (a5 2)) [none,none] (k7 0 1) (aQ (rD (a5 1) (qC .non))) (a5 0)) aB)))))))
theorem bg6:cY bg5 ["web","seeds","told","lit","around","hearth"] ak5:=by
 rintro xs Q ⟨ws,ls,x,ns,cs,m,rfl,w,few,hx,hs,en,cl,hcs,q⟩;have wb:=w.wb (by omega);have ln:=mS hs;refine⟨_,rfl,_,rfl,ws,ls,x,ns,rfl,hx,by omega,hs,trivial,?_⟩;refine⟨_,rfl,_,_,rfl,rfl,_,rfl,ws,ls,rfl,.inl ⟨_,_,rfl,rfl,_,rfl,?_⟩⟩;show if (!decide ((cs.length:Int)=(ws.length:Int)))=true then _ else _
 rw[bG5 (by omega)];refine aM ?_;refine⟨_,rfl,ws,ls,rfl,wb,trivial,?_⟩;refine⟨_,rfl,ws,ls,rfl,_,rfl,by omega,by omega,λi ρ=>∃y,ρ = [some (.sh (flat (bG ws ls)) (bG ws ls)),some (.sh (flat x) x),some (.sh (flat (.lst cs)) (.lst cs)),some (.sh true (.tup (intz ns))),some (.sh true (.lst (mQ ws.length ls))),y],⟨none,rfl⟩,?_,?_⟩
 ·rintro i y ρ hy ⟨y0,rfl⟩
  obtain⟨rfl,hi⟩:=j8 hy
  obtain⟨c,hc,cp⟩:=hcs i (by omega)
  have e0:(0:Int)+(i:Int)=(i:Int):=by omega
  rw[e0];refine⟨_,rfl,_,_,_,rfl,rfl,rfl,_,rfl,_,_,_,rfl,rfl,mR (by omega) (by omega),_,rfl,_,rfl,_,_,_,rfl,rfl,E1 (by omega) (by omega),_,rfl,_,rfl,_,rfl,_,ns,rfl,rfl,_,rfl,_,rfl,_,_,_,rfl,rfl,qI hc,?_⟩;have n63:=rY w (i:Int);refine⟨_,aX ls i,cs,_,c,rfl,by omega,λo ho=>by have:=w.nb ho;omega,?_,_,rfl,aM ⟨_,rfl⟩⟩;have at_:∀o∈aX ls (i:Int),∃c,cs.getD o.toNat .non=c/\gO (ns::after ws ls ns m) ws ls o c:=λo ho=>by
   have:=w.nb ho
   obtain⟨c,h1,h2⟩:=hcs o.toNat (by omega)
   refine⟨c,by rw[bI0,h1];rfl,?_⟩;rw[show ((o.toNat:Nat):Int)=o by omega]at h2;exact h2
  have cp0:=cp;rcases cp with⟨h1,rfl⟩|⟨h1,rfl⟩|⟨k,bs,h1,h2,rfl⟩
  ·have hn:=pA.mp h1
   refine .inr (.inl ⟨bF9 λz=>hn ((iS m).mpr ⟨0,bI2 _,z⟩),rfl,?_⟩);have fe:((aX ls (i:Int)).filter λo=>!iJ (cs.getD o.toNat .non))=(aX ls (i:Int)).filter λo=>decide (o∈aV ws ls ns m):=by
    refine List.filter_congr λo ho=>?_
    obtain⟨c,h2,h3⟩:=at_ o ho
    rw[h2,h3.non];cases q:dA (ns::after ws ls ns m) o with
    |none=>rw[bF9 (pA.mp q)];rfl
    |some j=>
     rw[bG5 ((iS m).mpr ⟨j,jA.mp q⟩)];rfl
   rw[fe];have ex:=en.2;unfold nextOf at ex
   have:=List.filter_eq_nil_iff.mp ex (i:Int) (j9.mpr ⟨by omega,by omega⟩)
   unfold kin at this;rw[bF9 hn]at this;simp only[Bool.not_false,Bool.true_and,bH1]at this;omega
  ·exact .inl ⟨bG5 (jA.mp h1).2,rfl⟩
  ·obtain⟨hk,hrow⟩:=jA.mp h1
   obtain⟨r1,r2,r3,r4⟩:=h2.right w (by omega) hrow
   refine .inr (.inr ⟨?_,_,bs,rfl,by omega,r1,r2,by omega,λo ho=>?_⟩)
   ·refine bF9 λz=>?_
    have:=G2 (j:=0) (show (i:Int)∈i6 ws ls ns 0 from z) hrow
    omega
   ·obtain⟨o1,j,o2,o3⟩:=r4 o ho
    obtain⟨c,h5,h6⟩:=at_ o o1
    rw[h5]
    exact⟨o1,j,h6.rank o2,by omega⟩
 ·rintro ρ ⟨y,rfl⟩
  refine⟨_,rfl,cs,.inl rfl,(λz=>by cases z),by rw[vG];omega,λi acc=>acc=intz (((rng ws.length).take i).filter λh=>decide (h∈aV ws ls ns m)),rfl,?_,?_⟩
  ·rintro i y acc hy rfl
   obtain⟨c,hc,rfl⟩:=ai3 hy
   have il:i<ws.length:=by have:=(bF6.mp hc).1;omega
   obtain⟨c',hc',cp⟩:=hcs i il
   rw[hc]at hc';cases hc';have tk:=iN (p:=λh=>decide (h∈aV ws ls ns m)) (C9 il);refine⟨_,_,rfl,_,rfl,rfl,_,rfl,?_⟩;show if (!iJ c)=true then _ else _
   rw[cp.non];cases q:dA (ns::after ws ls ns m) (i:Int) with
   |none=>
    rw[if_neg (by simpa using pA.mp q),bH4]at tk;refine aM ?_;show _=_;rw[tk]
   |some j=>
    rw[if_pos (bG5 ((iS m).mpr ⟨j,jA.mp q⟩))]at tk;refine aY ⟨_,rfl,rO _ _,?_⟩;show _=_;rw[tk,eM];rfl
  ·rintro acc rfl
   rw[vG,cl,List.take_of_length_le (by rw[C8];omega)]
   exact⟨⟨_,_,rfl,rfl,cH _,trivial,q⟩,λns z=>by cases z⟩
theorem bg7 {ws:ag}{ls:aa}{ns:ag}(hs:cJ ws.length ns=true){k:Nat}{x:Int}(h:x∈aV ws ls ns k):0<=x/\x<(ws.length:Int):=by
 obtain⟨j,_,hj⟩:=(iS k).mp h
 cases j with
 |zero=>exact (jS hs).2 x hj
 |succ j=>
  have hj:x∈nextOf ws ls (aV ws ls ns j):=hj;unfold nextOf at hj;exact j9.mp (bL7.mp hj).1
def G4 (rs:af)(ws:ag)(ls:aa)(h:Int)(c:PV):Prop:=
 (dA rs h=none/\c = .non)∨(dA rs h=some 0/\c = .tup [.int 0,.tup []])∨∃k bs,dA rs h=some (k+1)/\lN rs (aX ls h) (ws.getD h.toNat 0) (k+1) bs/\c = .tup [.int ((k+1:Nat):Int),.tup (intz bs)]
def wnb (zs:List ((Int×Int)×Int))(k:Int):aa:=zs.flatMap λz=>(if z.1.1=k then [(z.1.2,z.2)] else [])++(if z.1.2=k then [(z.1.1,z.2)] else [])
def bg8 (want:Int)(hs:ag)(c:PV):Prop:=((hs.length:Int)<want/\c = .non)∨(want<=(hs.length:Int)/\∃zs:ag,zs.Perm hs/\zs.Pairwise (· <= ·)/\c = .int (zs.take want.toNat).sum)
theorem G5 {ns:ag}{w:Int}(h:0<=w):eY (intz ns) none (some w)=intz (ns.take w.toNat):=by
 rw[G3 h];exact List.map_take.symm
def bg9 (zs:ag)(s:Int):Nat:=((List.range zs.length).filter λi=>decide ((zs.take (i+1)).sum<=s)).length
structure bh0 (ws:ag)(ls:aa)(wts:ag)(os:List (Option Int)):Prop where
 len:os.length=ws.length
 due:∀h:Nat,h<ws.length->∃o,os[h]? = some o/\bg8 (ws.getD h 0) ((wnb (ls.zip wts) h).map (·.2)) (F6 o)
structure bh1 (ws:ag)(ls:aa)(wts zs:ag):Prop where
 ex:∃os,bh0 ws ls wts os/\zs.Perm (os.filterMap id)/\zs.Pairwise (· <= ·)
section
variable {ws:ag}{ls:aa}{ns wts:ag}{m:Nat}
def loose (ls:aa)(wts ns:ag):List ((Int×Int)×Int):=(ls.zip wts).filter λz=>!(decide (z.1.1∈ns)&&decide (z.1.2∈ns))
end
end Core
namespace PP
open PySem L2 PyProof.Rows
abbrev fB:=(Str->Prop)->bS
def EX (K:ae)(H0:Hp)(Ep:Str->Prop):XK:=λc d H'=>d=none/\aD H0 H'/\∃n C,c = .ref C/\PySem.W.nsIn K mainGlobals n=some (some (.ref C))/\Ep n
def spX (K:ae)(p:fB):Sp:=λvs H Q E=>∃xs Qp Ep,Reps K (λ_=>True) H vs xs/\p Ep xs Qp/\(∀v H' x,aD H H'->aI K (λa=>H a=none) H' v x->Qp x->Q v H')/\
 ∀n C H',aD H H'->PySem.W.nsIn K mainGlobals n=some (some (.ref C))->Ep n->E (.ref C) none H'
structure cK (P:ay)(w:ba)(K:ae)(mg:Str->Option av)(base:Heap)(k:Nat)(x:Str)(ps:List Str)(p:fB):Prop where
 ex:∃f fd,bU P w K mg base (bR P w) k f fd ps (spX K p)/\dQ K fd ps []/\PySem.W.keepIn K (.ref f)=true/\mg x=some (.ref f)
section
variable {X:Cx}{σ:L2.St}{H:Hp}{D:bP}{tr:bV}{Q':VK}{a b c e:Expr}{es:List Expr}{pos p2 cp np hp:Pos}{t:aT}{te:aG}{tc:cN}
def kH (Ep:Str->Prop)(p:fB)(t:bV):aG:=aE (p Ep) t
theorem ak6 {p:fB}{Ep:Str->Prop}(h:LE X (kH Ep p tr) σ H Q'):xP (spX X.K p) [] (EX X.K X.H₀ Ep) (LA X tr) σ H Q':=by
 obtain⟨W,ρ,Q,px,q,k⟩:=h
 refine⟨W,ρ,_,px,q,λvs H1 xs s1 r1 q1=>⟨_,_,Ep,by rw[bH4];exact r1.any,q1,λv H' x s2 r2 q2=>k v H' x .fr (s1.trans s2) (r2.same (aD.refl _) λ_ z=>s1.free z) q2,λn C H' s2 z1 z2=>⟨rfl,(px.same.trans s1).trans s2,n,C,rfl,z1,z2⟩⟩⟩
theorem mW {Ep:Str->Prop}{k j:Nat}{x:Str}{ps:List Str}{p:fB}(hX:lI X (EX X.K X.H₀ Ep))(d:cK X.prog X.w X.K X.mg X.base k x ps p)(hr:bJ j X.A)(ha:QA X (e::es) tr)(hkj:k<=j:=by decide)(hg:Gl X x:=by rfl)(hdb:(x==("__debug__":Str))=false:=by decide)(he:starEach (e::es) X.env=(false,eval e X.env)::starEach es X.env:=by rfl)(hpl:(backTo pos (starEach es X.env)).any (·.1)=false:=by rfl):QE X (.Call (.Name x p2) (e::es) [] pos) (kH Ep p tr):=by
 obtain⟨f,fd,F,b,kp,m⟩:=d.ex
 exact bX (qH F (hr.mono hkj) hg m kp b .nil hX.pass ha hdb he hpl) λ_ _ _=>ak6
theorem G6 {k j:Nat}{x:Str}{ps:List Str}{p:fB}(d:cK X.prog X.w X.K X.mg X.base k x ps p)(hr:bJ j X.A)(ha:QA X (e::es) tr)(hkj:k<=j:=by decide)(hg:Gl X x:=by rfl)(hdb:(x==("__debug__":Str))=false:=by decide)(he:starEach (e::es) X.env=(false,eval e X.env)::starEach es X.env:=by rfl)(hpl:(backTo pos (starEach es X.env)).any (·.1)=false:=by rfl):QE X (.Call (.Name x p2) (e::es) [] pos) (aE (p λ_=>False) tr):=by
 obtain⟨f,fd,F,b,kp,m⟩:=d.ex
 refine bX (qH F (E:=EX X.K X.H₀ λ_=>False) (hr.mono hkj) hg m kp b .nil (λ_ _ _ _ _ _ _ h=>?_) ha hdb he hpl) λ_ _ _ h=>ak6 (Ep:=λ_=>False) h
 obtain⟨_,_,_,_,_,_,_,_,_,_,_,_,z⟩:=h
 exact z.elim
def iU (Ep:Str->Prop)(n:Str)(t:bV):aT:=λ_ ρ=>t ρ λxs=>xs.length<=1000/\Ep n
theorem bh2 {Ep:Str->Prop}{n:Str}{C:ax}(hn:PySem.W.nsIn X.K mainGlobals n=some (some (.ref C)))(h:LS X (iU Ep n tr) D σ H):ae9 (EX X.K X.H₀ Ep) C (LA X tr) D σ H:=by
 obtain⟨W,ρ,D',px,q,k⟩:=h
 exact⟨W,ρ,_,px,q,λvs H1 xs s1 r z=>⟨by rw[r.length];exact zN z.1,rfl,px.same.trans s1,n,C,rfl,hn,z.2⟩⟩
structure Xc (K:ae)(mg:Str->Option av)(base:Heap)(n:Str):Prop where
 ex:∃C B newId initId bm,OwnCls n C bm newId mg base/\ExcBaseFacts B newId initId bm/\PySem.W.nsIn K mainGlobals n=some (some (.ref C))
theorem kI {Ep:Str->Prop}{n:Str}(hX:lI X (EX X.K X.H₀ Ep))(x:Xc X.K X.mg X.base n)(ha:QA X (e::es) tr)(hc:X.calm=true:=by rfl)(hg:Gl X n:=by rfl)(hd:(n==("__debug__":Str))=false:=by decide)(he:starEach (e::es) X.env=(false,eval e X.env)::starEach es X.env:=by rfl)(hpl:(backTo cp (starEach es X.env)).any (·.1)=false:=by rfl):QS X (.Raise (some (.Call (.Name n np) (e::es) [] cp)) none pos) (iU Ep n tr):=by
 obtain⟨C,B,newId,initId,bm,O,FB,hn⟩:=x.ex
 exact dE (aX1 hX hc O FB ha hg hd he hpl) λ_ _ _=>bh2 hn
abbrev pB:=iG->(Str->Prop)->b8->Prop
def LB (X:Cx)(t:pB):TB:=λD Ex σ H=>∃(W:ax->Prop) (ρ:b8) (D':iG) (Ep:Str->Prop),PX X.K X.H₀ W σ ρ H/\t D' Ep ρ/\qW X W H D' D/\∀n C H',aD H H'->PySem.W.nsIn X.K mainGlobals n=some (some (.ref C))->Ep n->Ex (.ref C) none H'
def QB (X:Cx)(sts:List Stmt)(t:pB):Prop:=PB X sts (LB X t)
theorem vL {sts:List Stmt}{t t':TB}(h:PB X sts t)(m:∀D Ex σ H,t' D Ex σ H->t D Ex σ H):PB X sts t':=λah s σ H D Ex I q=>h ah s σ H D Ex I (m D Ex σ H q)
def ak7 (D:iG)(i:Nat):iG:={ nx:=λρ=>D.nx (ρ.set i none),rt:=D.rt,bk:=λρ=>D.bk (ρ.set i none),ct:=λρ=>D.ct (ρ.set i none) }
def pC:List Str:=["BadWeb","BadSet","BadOrder","BadPrices","BadBoard","BadDeed","NotWood","NoPaper","NoSuch","TooMany","NoText","OddRound"]
def lO (n m:Str):Option Bool:=if pC.contains n then some (n==m||m=="HearthError"||m=="ValueError") else none
def G7 (m:Str)(i:Nat)(tb:pB)(ts:aT):aT:=λD ρ=>tb D (λn=>lO n m=some true/\ts (ak7 D i) (ρ.set i (some (.sh true (.exc n))))) ρ
theorem bh3 {m:Str}{Ch:ax}{i:Nat}{tb:pB}{ts:aT}(hs:∀n C,lO n m=some true->PySem.W.nsIn X.K mainGlobals n=some (some (.ref C))->PySem.W.subIn X.K (.ref C) (.ref Ch)=some true)(h:LS X (G7 m i tb ts) D σ H):af1 X.K Ch i (LB X tb) (LS X ts) D σ H:=by
 obtain⟨W,ρ,D',px,q,k⟩:=h
 refine⟨W,ρ,D',_,px,q,k,λn C H' s z1 z2 a C' oe hc na hcl=>?_⟩;cases hc;refine⟨hs n C z2.1 z1,W,_,ak7 D' i,(px.mono (s.trans (bL na _))).setSh (g:=true) (.exc b6 z1 hcl),z2.2,?_⟩;have k':=k.step (Ev.same (W:=W) (s.trans (bL na (.frz oe (.own a)))))
 exact⟨λW' σ' H2 ρ' ev px' q'=>k'.nx W' _ H2 _ ev px'.setNone q',k'.rt,λW' σ' H2 ρ' ev px' q'=>k'.bk W' _ H2 _ ev px'.setNone q',λW' σ' H2 ρ' ev px' q'=>k'.ct W' _ H2 _ ev px'.setNone q'⟩
structure sA (K:ae)(mg:Str->Option av)(m:Str):Prop where
 ex:∃Ch,mg m=some (.ref Ch)/\rH K Ch/\∀n C,lO n m=some true->PySem.W.nsIn K mainGlobals n=some (some (.ref C))->PySem.W.subIn K (.ref C) (.ref Ch)=some true
theorem bh4 (i:Nat){m n:Str}{b₀:Stmt}{suite body:List Stmt}{tb:pB}{ts:aT}(ct:sA X.K X.mg m)(hN:X.N.Nodup)(hb:QB X body tb)(hs:∀a,fG (X.suite a) (b₀::suite) ts)(hstk:X.stack=X.env::X.outer/\X.env.frame=some X.env.locals:=by exact⟨rfl,rfl⟩)(hi:X.N[i]? = some n:=by rfl)(hl:X.env.scope.names.lookup n=some .local:=by rfl)(hg:Gl X m:=by rfl)(hd:(m==("__debug__":Str))=false:=by decide):QS X (.Try body [.ExceptHandler (some (.Name m np)) (some n) (b₀::suite) hp] [] [] pos) (G7 m i tb ts):=by
 obtain⟨Ch,hm,c,sub⟩:=ct.ex
 exact dE (aX5 (ts:=LS X ts) hstk hb hg hm c hN hi hl (λa=>nV (hs a) λ_ _ _ ⟨W,ρ,D',px,q,k⟩=>⟨W,ρ,D',px,q,⟨k.nx,k.rt,k.bk,k.ct⟩⟩) hd) λ_ _ _=>bh3 sub
def jG:V->av
 |.ref a=>.ref a
 |.ty n=>.type n
 |_=>.none
def bh5 (K:ae):List V->Hp->VK->Prop:=λxs H Q=>∃v v2 b,xs = [v,v2]/\jG v2≠.none/\((∃a o C,v = .ref a/\H a=some (.frz o (.own a))/\o.cls = .ref C/\kG K C/\PySem.W.kitOne K (.ref C) (jG v2)=some b)∨(v = .non/\PySem.W.kitOne K (.type "NoneType") (jG v2)=some b))/\Q (.bl b) H
theorem bh6:cG X (.builtin "isinstance") (bh5 X.K):=by
 intro ah s σ H xs us Q I r h
 obtain⟨v,v2,b,rfl,hv,hk,q⟩:=h
 obtain⟨u,u',rfl,ru,ru'⟩:=qF r
 obtain rfl:u'=jG v2:=by
  cases v2<;>first|exact ru'|exact absurd rfl hv
 rcases hk with⟨a,o,C,rfl,hH,hc,F,e⟩|⟨rfl,e⟩
 ·obtain⟨h1,_⟩:=I.hok a _ hH
  cases (show u=Value.ref a from ru);exact bL8 (aY2 F) I.kIn ⟨o,h1,hc⟩ e (λz=>nomatch z) λtk=>⟨.bl b,H,I.tok tk,rfl,q⟩
 ·cases (show u=Value.none from ru)
  exact bL8 PySem.W.kitx_none I.kIn trivial e (λz=>nomatch z) λtk=>⟨.bl b,H,I.tok tk,rfl,q⟩
def bh7 (m:Str):PV->Option Bool
 |.exc n=>lO n m
 |.non=>some false
 |_=>none
def pD (m:Str)(te:aG):aG:=λρ Q=>te ρ λx _=>∃b,bh7 m x=some b/\Q (.bl b) .fr
structure G8 (K:ae)(m:Str)(v2:V):Prop where
 nn:jG v2≠.none
 ex:∀n C b,PySem.W.nsIn K mainGlobals n=some (some (.ref C))->lO n m=some b->kG K C/\PySem.W.kitOne K (.ref C) (jG v2)=some b
 no:PySem.W.kitOne K (.type "NoneType") (jG v2)=some false
theorem ak8 {x:Str}{v2:V}{px:Pos}(B:Bt X.mg)(A:G8 X.K x v2)(hx:PE X (.Name x px) (tC v2))(ha:QE X a te)(hg:Gl X "isinstance":=by rfl)(he:starEach [a,.Name x px] X.env=(false,eval a X.env)::starEach [.Name x px] X.env:=by rfl)(he2:starEach [.Name x px] X.env=(false,eval (.Name x px) X.env)::starEach [] X.env:=by rfl)(hpl:(backTo pos (starEach [.Name x px] X.env)).any (·.1)=false:=by rfl):QE X (.Call (.Name "isinstance" p2) [a,.Name x px] [] pos) (pD x te):=
 bX (oG bh6 hg B.isinst PyProof.Rows.boot_isinstance (d8 ha (d8 hx dO he2) he) (he:=he) (hpl:=hpl)) λσ H Q' h=>by
  obtain⟨W,ρ,Q,px,q,k⟩:=h
  refine⟨W,ρ,_,px,q,?_⟩;rintro v H1 y g s r ⟨b,e,q⟩;refine⟨v,v2,b,rfl,A.nn,?_,k _ _ _ .fr s (.bl _) q⟩;cases r with
  |exc h z c=>
   obtain⟨F,kt⟩:=A.ex _ _ _ z e
   exact .inl ⟨_,_,_,rfl,h,c,F,kt⟩
  |non=>cases e;exact .inr ⟨rfl,A.no⟩
  |_=>cases e
end
section
variable {X:Cx}{a:Expr}{pos p2 px:Pos}{te:aG}
structure sB (K:ae)(mg:Str->Option av)(m:Str):Prop where
 ex:∃C,mg m=some (.ref C)/\G8 K m (.ref C)
structure G9 (K:ae)(mg:Str->Option av):Prop where
 mg:mg "ValueError" = none
 is:G8 K "ValueError" (.ty "ValueError")
theorem ak9 {x:Str}(B:Bt X.mg)(A:sB X.K X.mg x)(ha:QE X a te)(hgx:Gl X x:=by rfl)(hdx:(x==("__debug__":Str))=false:=by decide)(hg:Gl X "isinstance":=by rfl)(he:starEach [a,.Name x px] X.env=(false,eval a X.env)::starEach [.Name x px] X.env:=by rfl)(he2:starEach [.Name x px] X.env=(false,eval (.Name x px) X.env)::starEach [] X.env:=by rfl)(hpl:(backTo pos (starEach [.Name x px] X.env)).any (·.1)=false:=by rfl):QE X (.Call (.Name "isinstance" p2) [a,.Name x px] [] pos) (pD x te):=by
 obtain⟨C,m,i⟩:=A.ex
 exact ak8 B i (t9 hgx m rfl hdx) ha hg he he2 hpl
theorem bh8 (B:Bt X.mg)(A:G9 X.K X.mg)(ha:QE X a te)(hgx:Gl X "ValueError":=by rfl)(hg:Gl X "isinstance":=by rfl)(he:starEach [a,.Name "ValueError" px] X.env=(false,eval a X.env)::starEach [.Name "ValueError" px] X.env:=by rfl)(he2:starEach [.Name "ValueError" px] X.env=(false,eval (.Name "ValueError" px) X.env)::starEach [] X.env:=by rfl)(hpl:(backTo pos (starEach [.Name "ValueError" px] X.env)).any (·.1)=false:=by rfl):QE X (.Call (.Name "isinstance" p2) [a,.Name "ValueError" px] [] pos) (pD "ValueError" te):=
 ak8 B A.is (O4 (v:=.ty "ValueError") hgx A.mg PyProof.Rows.Boot.«ValueError» rfl (by decide) (by decide)) ha hg he he2 hpl
end
structure lP (K:ae)(C:ax):Prop where
 cls:PySem.W.isClsIn K C=true
 ty:PySem.W.typeIn K (.ref C)=some (.type "type")
 ga:PySem.W.findIn K (.ref C) "__getattribute__" = some (some (.builtin "BaseException.__getattribute__"))
 gt:PySem.W.findIn K (.ref C) "__getattr__" = some none
 fc:PySem.W.findIn K (.ref C) "__class__" = some (some (.builtin "object.__class__"))
 fg:PySem.W.specialIn K (.builtin "object.__class__") "__get__" = some (some (.builtin "getset_descriptor.__get__"))
 ft:PySem.W.takesIn K (.builtin "object.__class__")=some true
 ob:PySem.W.mroIn K C (.type "object")=some true
 be:PySem.W.mroIn K C (.type "BaseException")=some true
theorem lP.exc {K:ae}{C:ax}(h:lP K C):kG K C:=⟨h.cls,h.ga,h.gt,h.fc,h.fg,h.ft,h.ob,h.be⟩
theorem J0 {K:ae}{h₀:Heap}{mg:Str->Option av}{x:Str}{C:ax}{bmB:List av}{newId:String}(X:K.In h₀)(m:mg x=some (.ref C))(q:PySem.W.excIn K C bmB newId=true):OwnCls x C bmB newId mg h₀:=by
 refine⟨m,?_⟩;unfold PySem.W.excIn at q;split at q
 case h_2=>cases q
 rename_i dd cd sl ho
 split at q
 case h_2=>cases q
 rename_i C' bm k0 k1 k2 k3 n k5 hm hs
 simp only[bI4,bV0,Bool.not_eq_true']at q
 obtain⟨⟨⟨⟨⟨rfl,rfl⟩,dl⟩,ht⟩,hok⟩,hni⟩:=q
 obtain⟨nm,bs,mro,ns,qn,hd,sn,sub,ab,col,del⟩:=cd
 dsimp only at hm dl hok hni;subst hm dl;obtain rfl:sl = #[k0,k1,k2,k3,some (.builtin n),k5]:=by
  obtain⟨l⟩:=sl
  exact congrArg Array.mk hs
 exact⟨bm,ns,nm,qn,bs,hd,sn,sub,ab,col,dd,k0,k1,k2,k3,k5,_,X _ _ ho,.of_isNs (PySem.W.isNs_of_in X hok),PySem.W.nsMap_none_of_in X hok hni,PySem.W.tail_of_in X ht⟩
theorem vM {n m:Str}{b:Bool}(h:lO n m=some b):n∈pC/\b=(n==m||m=="HearthError"||m=="ValueError"):=by
 unfold lO at h;split at h
 ·rename_i z
  exact⟨by simpa using z,by cases h;rfl⟩
 ·cases h
theorem pE {K:ae}{C D:ax}{b:Bool}(hd:lP K D)(ne:(C==D)=false)(s:PySem.W.subIn K (.ref C) (.ref D)=some b):PySem.W.kitOne K (.ref C) (.ref D)=some b:=by
 have ne':(Value.ref C==Value.ref D)=false:=by
  rw[bM4]at ne ⊢;exact λz=>ne (Value.ref.inj z)
 have c:=hd.cls;unfold PySem.W.isClsIn at c;unfold PySem.W.kitOne PySem.W.kitCls;rw[if_neg (by rw[ne'];decide)];dsimp only;rw[if_pos (by rw[c,hd.ty];decide)];exact s
theorem al0 {K:ae}{C:ax}:PySem.W.kitOne K (.ref C) (.ref C)=some true:=by
 unfold PySem.W.kitOne;rw[if_pos (bJ8 _)]
theorem vN {K:ae}{C:ax}(s:PySem.W.subIn K (.ref C) (.type "ValueError")=some true):PySem.W.kitOne K (.ref C) (.type "ValueError")=some true:=by
 unfold PySem.W.kitOne PySem.W.kitCls;rw[if_neg (λz=>by cases bV0.mp z)];dsimp only;rw[if_pos (by decide +kernel)];exact s
theorem al1 {K:ae}{D:ax}(hd:lP K D)(s:PySem.W.subIn K (.type "NoneType") (.ref D)=some false):PySem.W.kitOne K (.type "NoneType") (.ref D)=some false:=by
 have c:=hd.cls;unfold PySem.W.isClsIn at c;unfold PySem.W.kitOne PySem.W.kitCls;rw[if_neg (λz=>by cases bV0.mp z)];dsimp only;rw[if_pos (by rw[c,hd.ty];decide)];exact s
theorem bh9 {K:ae}:PySem.W.kitOne K (.type "NoneType") (.type "ValueError")=some false:=by
 have e:(if PySem.W.kitMeta "ValueError" = true then (fastBuiltinMro "NoneType").map (·.contains (Value.type "ValueError")) else none)=some false:=by decide +kernel
 unfold PySem.W.kitOne;rw[if_neg (by decide)];exact e
theorem cK.of {P:ay}{w:ba}{K:ae}{mg:Str->Option av}{base:Heap}{k:Nat}{x:Str}{ps N:List Str}{p:fB}{st:Stmt}{f:ax}{fd:FuncData}(F:cQ K x x st f fd)(m:mg x=some (.ref f))(S:FnScope N ps (aS st))(hb:∀(kV doc pm:av) (an:Option ax) (cdv ct:av) (us:List av),us.length=ps.length->bindArgs (PySem.W.fnOf x x (eV st) (cU st) (aS st) .none kV doc pm an cdv ct) ⟨us,[]⟩=pure (ps.zip us))(t:(Str->Prop)->aT)(len:∀Ep xs Q,p Ep xs Q->xs.length=ps.length)(rd:∀Ep xs Q,p Ep xs Q->t Ep { nx:=λ_=>Q .non,rt:=Q } (gD N xs))(body:∀(cdv:av) (A:az) (outer:List Env) (s:aw) (H:Hp) (E:XK) (Ep:Str->Prop),bJ k (A.deeper (envOfC x (aS st) s.heap.objs.size f cdv))->lI (cP (bR P w) P w K mg base N x (aS st) f cdv A outer s H E) (EX K H Ep)->
   fG (cP (bR P w) P w K mg base N x (aS st) f cdv A outer s H E) (cU st) (t Ep)):cK P w K mg base (k+1) x ps p:=by
 refine⟨f,fd,F.okX S (λvs H Q E h=>?_) (λcdv A outer s H vs Q E hr h=>?_),F.binds hb,F.kp,m⟩
 ·obtain⟨xs,Qp,Ep,r,q,_⟩:=h
  rw[r.length];exact len Ep xs Qp q
 ·obtain⟨xs,Qp,Ep,r,q,k,ke⟩:=h
  have ht:=body cdv A outer s H E Ep hr (v3 λc d H' z=>?_)
  ·refine⟨_,ht,λ_=>False,gD N xs,_,uY r,rd Ep xs Qp q,?_,?_,?_,?_⟩
   ·exact λW' σ' H' ρ' e px q=>k _ _ _ px.same .non q
   ·exact λv H' x s r q=>k _ _ _ s r q
   ·exact λW' σ' H' ρ' e px q=>q
   ·exact λW' σ' H' ρ' e px q=>q
  ·obtain⟨rfl,s1,n,C,rfl,z1,z2⟩:=z
   exact ke n C H' s1 z1 z2
end PP
namespace Core
open PySem L2 PP
abbrev mX (t:(Str->Prop)->aT)(N:List Str)(p:fB):Prop:=∀Ep xs Q,p Ep xs Q->t Ep { nx:=λ_=>Q .non,rt:=Q } (gD N xs)
def mY:fB:=λEp xs Q=>∃ws ls x ns,xs = [bG ws ls,x]/\eN x ns/\ns.length<=1000/\(cJ ws.length ns=true->Q (.tup (intz ns)))/\(cJ ws.length ns=false->Ep "BadSet")
def al2 (Ep:Str->Prop):aT:=(aH (bF (eB (aQ (aE vB (a6 (a5 0) (a6 (a5 1) aB))))) (iU Ep "BadSet" (a6 (qC (.str "a set is of rising hearths of the web")) aB)) bE)
 (b7 (aE dY (a6 (a5 1) aB))))
theorem bi0:mX al2 ["web","hearths"] mY:=by
 rintro Ep xs Q ⟨ws,ls,x,ns,rfl,hx,hl,q1,q2⟩;refine⟨_,rfl,_,rfl,ws,ls,x,ns,rfl,hx,hl,_,rfl,?_⟩;cases h:cJ ws.length ns with
 |true=>exact aM ⟨_,rfl,⟨_,_,rfl,hx.seqT,cH _,trivial,q1 h⟩,hx.noscr⟩
 |false=>exact aY ⟨by decide,q2 h⟩
end Core
namespace PP
open PySem L2
theorem us1 {us:List av}(h:us.length=1):∃a,us = [a]:=List.length_eq_one_iff.mp h
theorem us2 {us:List av}(h:us.length=2):∃a b,us = [a,b]:=by
 cases us with
 |nil=>cases h
 |cons a r=>
  obtain⟨b,rfl⟩:=us1 (us:=r) (by simpa using h)
  exact⟨a,b,rfl⟩
theorem vO {us:List av}(h:us.length=3):∃a b c,us = [a,b,c]:=by
 cases us with
 |nil=>cases h
 |cons a r=>
  obtain⟨b,c,rfl⟩:=us2 (us:=r) (by simpa using h)
  exact⟨a,b,c,rfl⟩
theorem J1 {us:List av}(h:us.length=4):∃a b c d,us = [a,b,c,d]:=by
 cases us with
 |nil=>cases h
 |cons a r=>
  obtain⟨b,c,d,rfl⟩:=vO (us:=r) (by simpa using h)
  exact⟨a,b,c,d,rfl⟩
theorem us5 {us:List av}(h:us.length=5):∃a b c d e,us = [a,b,c,d,e]:=by
 cases us with
 |nil=>cases h
 |cons a r=>
  obtain⟨b,c,d,e,rfl⟩:=J1 (us:=r) (by simpa using h)
  exact⟨a,b,c,d,e,rfl⟩
end PP
namespace Core
open PySem L2 PP
abbrev DK (n:Int)(ps:List (List aF×PV)):Prop:=DL n ps ps.length
theorem J2:∀(m:Nat) (l:List Nat),l.Nodup->(∀x∈l,x<m)->l.length<=m
 |0,[],_,_=>bF7 _
 |0,x::_,_,h=>absurd (h x bG7) (bS6 _)
 |m+1,l,nd,h=>by
  by_cases hm:m∈l
  ·have h1:=J2 m (l.erase m) (nd.erase m) λx hx=>by
    obtain⟨h2,h3⟩:=(nd.mem_erase_iff).mp hx
    have:=h x h3
    omega
   rw[List.length_erase_of_mem hm]at h1;omega
  ·have h1:=J2 m l nd λx hx=>by
    have:=h x hx
    have:x≠m:=λz=>hm (z▸hx)
    omega
   omega
structure WL (n:Int)(ws:ag)(ls:aa):Prop where
 many:(ws.length:Int)=n
 inn:∀l∈ls,0<=l.1/\l.1<l.2/\l.2<n
 most:ls.length<=1700
 ord:ls.Pairwise iP
 pos:∀w∈ws,0<=w
theorem WL.perm {n:Int}{ws:ag}{ls ls':aa}(h1:(ws.length:Int)=n)(h2:∀l∈ls,0<=l.1/\l.1<l.2/\l.2<n)(h3:ls.length<=1700)(nd:ls.Nodup)(h4:∀w∈ws,0<=w)(p:ls'.Perm ls)(so:(ls'.map two).Pairwise λu v=>HT.dR v u=false):WL n ws ls':=
 ⟨h1,λl hl=>h2 l (p.mem_iff.mp hl),by rw[p.length_eq];exact h3,bb1 so (p.nodup_iff.mpr nd),h4⟩
theorem WL.wb {n:Int}{ws:ag}{ls:aa}(h:WL n ws ls)(hn:n<=40):Wb ws ls:=
 ⟨by have:=h.many;omega,h.most,λl hl=>by have:=h.inn l hl;have:=h.many;omega⟩
def J3 (f:ag->aa->ag->(PV->Prop)->Prop):fB:=λEp xs Q=>∃ws ls x ns,xs = [bG ws ls,x]/\Wb ws ls/\eN x ns/\ns.length<=1000/\(cJ ws.length ns=true->f ws ls ns Q)/\(cJ ws.length ns=false->Ep "BadSet")
def vP:fB:=J3 λws ls ns Q=>∀m,bP ws ls ns m->Q (.lst (tups (ns::after ws ls ns m)))
def pF:fB:=J3 λws ls ns Q=>∀m,bP ws ls ns m->Q (.dK (iR (ns::after ws ls ns m)))
def vQ:fB:=J3 λws ls ns Q=>∀ms m,bP ws ls ns m->ms.Perm (aV ws ls ns m)->ms.Pairwise (· <= ·)->Q (.tup (intz ms))
def al3 (Ep:Str->Prop):aT:=(aH (iH 2 (eI (a6 (kH Ep mY (a6 (a5 0) (a6 (a5 1) aB))) aB)))
 (aH (iH 3 (aE nX (a6 (b5 (a5 2) (qC (.int 0))) aB)))
 (aH (bC 4 (aE lK (a6 (a5 0) aB)))
 (aH (bC 5 (aE rN (a6 (a5 0) (a6 (a5 4) (a6 (a5 3) aB)))))
 (aH (uG (uK (a5 5))
  (aH (j5 2 (a5 5))
  (aH (A3 3 (aE nX (a6 (a5 5) aB)))
  (bC 5 (aE rN (a6 (a5 0) (a6 (a5 4) (a6 (a5 3) aB))))))))
 (mF 2))))))
theorem bi1:mX al3 ["web","seeds","told","burning","around","lit"] vP:=by
 rintro Ep xs Q ⟨ws,ls,x,ns,rfl,wb,hx,hl,q,qe⟩;have few:=wb.few;refine⟨_,rfl,_,rfl,ws,ls,x,ns,rfl,hx,hl,λhs=>?_,qe⟩;have q:=q hs;have ln:=mS hs;refine⟨by show 1<=1000;decide,?_,rfl,?_,?_⟩
 ·show (flat (.tup (intz ns))&&true)=true
  rw[fV];rfl
 ·show (flat (.tup (intz ns))&&true)=true
  rw[fV];rfl
 refine⟨_,rfl,_,_,_,rfl,rfl,rfl,_,ns,rfl,.inl rfl,by omega,λps d=>⟨rfl,d.fl,?_⟩⟩;refine⟨_,rfl,ws,ls,rfl,wb,trivial,?_⟩;refine⟨_,rfl,_,rfl,_,rfl,ws,ls,ps,ns,rfl,wb,d,trivial,?_⟩
 refine⟨λn ρ=>∃k ps,ρ = [some (.sh (flat (bG ws ls)) (bG ws ls)),some (.sh (flat x) x),some (.own (.lst (tups (ns::after ws ls ns k)))),some (.own (.dK ps)),some (.sh true (.lst (mQ ws.length ls))),some (.sh true (.tup (intz (nextOf ws ls (aV ws ls ns k)))))]/\
   n=dJ ws (aV ws ls ns k)/\DS ps (aV ws ls ns k)/\∀j<k,nextOf ws ls (aV ws ls ns j)≠[],⟨_,0,ps,rfl,rfl,d,λ_ z=>absurd z (bS6 _)⟩,?_⟩
 rintro n ρ ⟨k,ps,rfl,rfl,d,ne⟩;refine⟨_,rfl,_,rfl,?_⟩;cases hn:nextOf ws ls (aV ws ls ns k) with
 |nil=>exact aM ⟨_,rfl,trivial,q k ⟨ne,hn⟩⟩
 |cons y yr=>
  refine aY ?_;rw[<- hn];have cs:=vA ws ls (aV ws ls ns k);have nl:1<=(nextOf ws ls (aV ws ls ns k)).length:=by rw[hn];exact Nat.succ_le_succ (bI2 _)
  have nle:=aY4 ws ls (aV ws ls ns k);have sl:=mT (ls:=ls) hs k;have dl:=d.len;have ke:=C7 k ne;refine⟨_,rfl,_,rfl,trivial,?_,?_⟩
  ·rw[ag7,bH8]
   unfold after;rw[bF1,bJ2];omega
  refine⟨_,rfl,_,rfl,_,_,rfl,.inl rfl,by omega,λmp dm=>⟨mp,rfl,.inl rfl,?_,?_⟩⟩
  ·have:=dm.len;omega
  have D7:DS (jJ ps mp) (aV ws ls ns (k+1)):=d.merge dm;refine⟨_,rfl,_,rfl,_,rfl,ws,ls,_,_,rfl,wb,D7,trivial,?_⟩;refine⟨_,?_,k+1,jJ ps mp,?_,rfl,D7,λj hj=>?_⟩
  ·show dJ ws (aV ws ls ns k++nextOf ws ls (aV ws ls ns k))<_
   omega
  ·rw[C4,<- List.cons_append]
   unfold tups;rw[bJ1];rfl
  ·by_cases e:j=k
   ·rw[e,hn];exact λz=>nomatch z
   ·exact ne j (by omega)
def al4 (Ep:Str->Prop):aT:=(aH (iH 2 (qC (.dK [])))
 (aH (e9 (rT (kH Ep vP (a6 (a5 0) (a6 (a5 1) aB)))) (k7 3 4)
  (e9 (eC (a5 4)) (bW 5)
   (uQ 2 (a5 5) (a5 3))))
 (mF 2)))
theorem bi2:mX al4 ["web","seeds","ranks","rank","lit","hearth"] pF:=by
 rintro Ep xs Q ⟨ws,ls,x,ns,rfl,wb,hx,hl,q,qe⟩;have few:=wb.few;refine⟨rfl,rfl,_,rfl,_,rfl,ws,ls,x,ns,rfl,wb,hx,hl,λhs m en=>⟨_,.inl rfl,λz=>(by cases z),?_⟩,qe⟩;have q:=q hs;have fl:=rK ws ls ns m;have sl:=mT (ls:=ls) hs m;have nd:=vI (ls:=ls) hs m;generalize hrs:ns::after ws ls ns m=rs at fl;rw[<- fl]at sl nd;refine⟨λi ρ=>∃y z u,ρ = [some (.sh (flat (bG ws ls)) (bG ws ls)),some (.sh (flat x) x),some (.own (.dK (iR (rs.take i)))),y,z,u],⟨none,none,none,rfl⟩,?_,?_⟩
 ·rintro i y ρ hy ⟨y0,z0,u0,rfl⟩
  obtain⟨y,hy2,rfl⟩:=ai3 hy
  obtain⟨r,rfl,hr⟩:=aZ5 hy2
  have tk:rs.take (i+1)=rs.take i++[r]:=by rw[bO8,hr];rfl
  have il:(rs.take i).length=i:=by
   have:=(bF6.mp hr).1
   rw[bI8];omega
  have nd2:((rs.take i).flatten++r).Nodup/\((rs.take i).flatten++r).length<=rs.flatten.length:=by
   have e:rs.flatten=((rs.take i).flatten++r)++(rs.drop (i+1)).flatten:=by
    rw[<- List.flatten_singleton (l:=r),<- bS8,<- tk,<- bS8,List.take_append_drop]
   rw[e]at nd ⊢
   exact⟨(bN7.mp nd).1,by rw[bF4 (as:=(rs.take i).flatten++r)];omega⟩
  refine⟨_,_,rfl,_,rfl,_,rfl,λz=>(by cases z),λj ρ=>∃u,ρ = [some (.sh (flat (bG ws ls)) (bG ws ls)),some (.sh (flat x) x),some (.own (.dK (iR (rs.take i)++gN i (r.take j)))),some (.sh true (.int (i:Int))),some (.sh true (.tup (intz r))),u],⟨u0,?_⟩,?_,?_⟩
  ·rw[show gN i (r.take 0) = [] from rfl,bH4]
   rfl
  ·rintro j y ρ hy ⟨u1,rfl⟩
   obtain⟨n,rfl,hn⟩:=jP hy
   have ke:(iR (rs.take i)++gN i (r.take j)).map (·.1)=((rs.take i).flatten++r.take j).map (Sum.inl:Int->aF):=by
    rw[bJ1,bJ1,aj1,ai9]
   have nn:n∉(rs.take i).flatten++r.take j:=by
    have:=nd2.1
    rw[<- List.take_append_drop j r,List.drop_eq_getElem_cons (bF6.mp hn).1,(bF6.mp hn).2,<- List.append_assoc]at this;exact λz=>(bN7.mp this).2.2 n z n bG7 rfl
   have le:(iR (rs.take i)++gN i (r.take j)).length<=40:=by
    have e1:=congrArg List.length ke;have e2:=nd2.2;rw[bF1,bF1,bF4,bF4,bI8]at e1;rw[bF4]at e2;rw[bF4];omega
   refine⟨_,rfl,_,rfl,_,rfl,Sum.inl n,rfl,trivial,by omega,si n,?_⟩;rw[bf3 ke nn,bf5 hn,List.append_assoc];rfl
  ·rintro ρ ⟨u,rfl⟩
   refine⟨some (.sh true (.int i)),some (.sh true (.tup (intz r))),u,?_⟩;rw[bO,bI5,tk,bf2,il]
 ·rintro ρ ⟨y,z,u,rfl⟩
  rw[vG,ag7,bI5,<- hrs]
  exact⟨_,rfl,trivial,q m en⟩
def al5 (Ep:Str->Prop):aT:=(b7 (aE dY (a6 (aE F7 (a6 (kH Ep pF (a6 (a5 0) (a6 (a5 1) aB))) aB)) aB)))
theorem bi3:mX al5 ["web","seeds"] vQ:=by
 rintro Ep xs Q ⟨ws,ls,x,ns,rfl,wb,hx,hl,q,qe⟩;have few:=wb.few;refine⟨_,rfl,_,rfl,ws,ls,x,ns,rfl,wb,hx,hl,λhs m en=>?_,qe⟩;have sl:=mT (ls:=ls) hs m;refine⟨_,aV ws ls ns m,rfl,?_,by omega,λms hp ho=>⟨⟨_,_,rfl,rfl,cH _,trivial,q hs ms m en hp ho⟩,λns z=>by cases z⟩⟩;rw[aj1,rK]
section
variable {ws:ag}{ls:aa}
def cne (ws:ag)(ls:aa)(S:ag):Bool:=!decide (S = [])&&decide (stay ws ls S=S)
end
end Core
namespace PP
open PySem L2
section
variable {X:Cx}{a b:Expr}{ta tb:aG}{pos:Pos}
theorem al6 {K:ae}{M M':ax->Prop}{H:Hp}{v:V}{m n:ag}(r1:aI K M H v (.tup (intz m)))(r2:aI K M' H v (.tup (intz n))):m=n:=by
 obtain⟨p,us,rfl,h1,q1⟩:=r1.sqT
 obtain⟨p2,ws,e,h2,q2⟩:=r2.sqT
 cases e;rw[h1]at h2;cases h2
 have:=(q1.ofInts).symm.trans q2.ofInts
 exact (List.map_inj_right λ_ _ e=>by cases e;rfl).mp this
end
end PP
namespace Core
open PySem L2 PP
def far (ns S:ag):Bool:=decide (((S.filter λx=>decide (x∈ns)).length:Int)=0)
def bi4 (ls:aa)(S U:ag):Prop:=∀x∈U,∀y∈aX ls x,y∈S->y∈U
noncomputable def bi5 (ls:aa)(S:ag)(h:Int):ag:=S.filter λx=>@decide (∀U:ag,bi4 ls S U->h∈U->x∈U) (Classical.propDecidable _)
section
variable {ws:ag}{ls:aa}{S:ag}{n:Nat}{h x:Int}
noncomputable def bi6 (ls:aa)(S:ag)(h:Int):Bool:=decide ((bi5 ls S h).head? = some h)
noncomputable def bi7 (ls:aa)(S:ag):ag:=S.filter (bi6 ls S)
end
def al7 (ws:ag)(ls:aa):ag->ag->Bool
 |_,[]=>true
 |B,h::R=>inB ws.length h&&(kin ws ls B h&&al7 ws ls (B++[h]) R)
def never (ws:ag)(h:Int):ag:=ws.set h.toNat (ws.length:Int)
structure LK (i j:Nat)(ls:aa):Prop where
 inn:∀l∈ls,0<=l.1/\l.1<l.2/\(l.2<(i:Int)∨(l.2=(i:Int)/\l.1<(j:Int)))
 nd:ls.Nodup
 few:ls.length<=40*i+j
end Core
namespace PP
open PySem L2
section
variable {X:Cx}{a b:Expr}{ta tb:aG}{pos:Pos}
def al8 (K:ae):R2:=λx y H Q=>∃p us ns,∃rs:af,y = .ref p/\H p=some (.tup us)/\aI K (λ_=>True) H x (.tup (intz ns))/\Reps K (λ_=>True) H us (rs.map λr=>PV.tup (intz r))/\Q (.bl (decide (ns∈rs))) H
open Classical in
theorem bi8 (hu:X.A.units+3<cLine):cL X (compareOp .In) (al8 X.K):=by
 intro ah s σ H x y v u Q I rx ry h
 obtain⟨p,us,ns,rs,rfl,hp,rn,rr,q⟩:=h
 cases ry
 obtain⟨its,r,pl,hz⟩:=I.tuple (aP.of (K:=X.K) hp)
 obtain⟨px,ws,rfl,hx,qx⟩:=rn.sqT
 have lr:=r.length;have lp:=rr.length;rw[bF1]at lp
 let f:av->Bool:=λw=>decide (∃v',aZ v' w/\aI X.K (λ_=>True) H v' (.tup (intz ns)))
 have key:∀j (w:av),its[j]? = some w->∃m,rs[j]? = some m/\SeqAt.EqAt X.A.in1 s w v (decide (m=ns))/\(f w=decide (m=ns)):=λj w hw=>by
  have hj:=(bF6.mp hw).1;have h1:j<us.length:=by omega
  obtain⟨w',hw',rw'⟩:=r.get (bF3 h1)
  rw[hw]at hw';cases hw'
  obtain⟨m',hm',rm⟩:=rr.get (bF3 h1)
  rw[bG4]at hm';cases hm:rs[j]? with
  |none=>rw[hm]at hm';cases hm'
  |some m=>
   rw[hm]at hm';cases hm';refine⟨m,hm,?_,?_⟩
   ·have:=B6 I 2 (A:=X.A.in1) (by show X.A.units+1+2<cLine;omega) rm rn rw' rx (by exact A5 1 m ns)
    rw[A4 1]at this;exact this
   ·have:(∃v',aZ v' w/\aI X.K (λ_=>True) H v' (.tup (intz ns)))↔m=ns:=by
     refine⟨λ⟨v',h1',h2'⟩=>?_,λe=>⟨_,rw',by rw[<- e];exact rm⟩⟩
     obtain⟨p1,w1,e1,_,_⟩:=rm.sqT
     obtain⟨p2,w2,e2,_,_⟩:=h2'.sqT
     rw[e1]at rw' rm;rw[e2]at h1' h2';cases rw';cases h1';exact al6 rm h2'
    show decide _=decide _;exact decide_eq_decide.mpr this
 refine SeqAt.in_tupleAt f pl (λw hw=>?_) ⟨.bl _,H,I,rfl,?_⟩
 ·have hw:w∈its:=by simpa using hw
  obtain⟨j,hj⟩:=bS0 hw
  obtain⟨m,_,h1,h2⟩:=key j w hj
  rw[h2];exact h1
 ·have:its.toArray.any f=decide (ns∈rs):=by
   rw[show its.toArray.any f=its.any f by simp,bL2,List.any_eq_true,bH1];refine⟨λ⟨w,hw,e⟩=>?_,λh=>?_⟩
   ·obtain⟨j,hj⟩:=bS0 hw
    obtain⟨m,hm,_,h2⟩:=key j w hj
    rw[h2,bH1]at e;rw[<- e];exact bJ7 hm
   ·obtain⟨j,hj⟩:=bS0 h
    have hl:=(bF6.mp hj).1
    obtain⟨m,hm,_,h2⟩:=key j its[j] (bF3 (by omega))
    rw[hj]at hm;cases hm
    exact⟨its[j]'(by omega),bP5 _,by rw[h2];exact bG5 rfl⟩
  rw[this];exact q
def vR:PV->Tg->PV->Tg->PK->Prop:=λx _ y _ Q=>∃ns,∃rs:af,x = .tup (intz ns)/\y = .tup (rs.map λr=>PV.tup (intz r))/\Q (.bl (decide (ns∈rs))) .fr
theorem bi9:dU X vR (al8 X.K):=by
 rintro W Hs H u v x y g g' Q Q' s n r1 r2 ⟨ns,rs,rfl,rfl,q⟩ k
 obtain⟨p,us,rfl,h,r⟩:=r2.sqT
 exact⟨p,us,ns,rs,rfl,h,r1.same (aD.refl _) (λ_ _=>trivial),r.same (aD.refl _) (λ_ _=>trivial),k _ _ _ .fr (aD.refl _) (.bl _) q⟩
theorem bj0 (hu:X.A.units+3<cLine)(ha:QE X a ta)(hb:QE X b tb)(hm:behindInMarks .In b=false:=by rfl):QE X (.Compare a [.In] [b] pos) (q2 vR ta tb):=lD (bi8 hu) bi9 ha hb hm
end
end PP
namespace Core
open PySem L2 PP
section
variable {ws:ag}{ls:aa}{ns S:ag}
theorem al9:∀k,(∀j<k,nextOf ws ls (aV ws ls ns j)≠[])->k<=(aV ws ls ns k).length
 |0,_=>bI2 _
 |k+1,h=>by
  have ih:=al9 k λj hj=>h j (by omega)
  have:=List.length_pos_iff.mpr (h k (by omega))
  show k+1<=(aV ws ls ns k++nextOf ws ls (aV ws ls ns k)).length;rw[bF4];omega
theorem vS (ws:ag)(ls:aa)(ns:ag):∃m,bP ws ls ns m:=by
 have key:∀k,(∃m,bP ws ls ns m)∨∀j<k,nextOf ws ls (aV ws ls ns j)≠[]:=λk=>by
  induction k with
  |zero=>exact .inr λj hj=>(by omega)
  |succ k ih=>
   rcases ih with h|h
   ·exact .inl h
   ·by_cases e:nextOf ws ls (aV ws ls ns k) = []
    ·exact .inl ⟨k,h,e⟩
    ·exact .inr λj hj=>if z:j=k then z▸e else h j (by omega)
 rcases key (ns.length+dJ ws ns+1) with h|h
 ·exact h
 ·have:=al9 _ h
  have:=C5 ws ls ns (ns.length+dJ ws ns+1)
  omega
end
end Core
namespace L2
open PySem PySem.Spec PyProof.Rows
section
variable {X:Cx}
theorem bj1 (hc:X.calm=true):cG X (.builtin "min") (λxs H Q=>∃(a:ax) (ns:ag),xs = [.ref a]/\aU X.K H a (ns.map V.int)/\ns≠[]/\∀M:Int,M∈ns->(∀x∈ns,M<=x)->Q (.int M) H):=by
 intro ah s σ H xs us Q I r h
 obtain⟨a,ns,rfl,hq,ne,q⟩:=h
 obtain⟨u,rfl,ru⟩:=gI r
 cases ru
 obtain⟨its,rv,p,hz⟩:=I.list hq
 have ia:=jE rv
 obtain⟨ys,ey⟩:=ia.allInts.items
 have en:ns=ys.toList.map (·.1):=by
  have e1:=nums_intItems ys;rw[<- ey]at e1;exact ia.numsOf.symm.trans e1
 have pos:0<ys.size:=Nat.pos_of_ne_zero λz=>ne (by rw[en,bQ7 z];rfl)
 have hl:s.heap.IsList a (intItems ys):=ey▸p.isList;refine min_intList (I.ok.hd hc) hl pos λv h' tk ev old=>?_
 obtain⟨t,rfl⟩:=intItems_at ev
 have best:=argBest_lt (numAt ys) (ys.size-1);have mem:∀x:Int,x∈ns↔∃j,j<ys.size/\numAt ys j=x:=λx=>by
  rw[en];constructor
  ·intro z
   obtain⟨j,hj,e⟩:=mem_getD z
   exact⟨j,by simpa using hj,by rw[numAt_eq];exact e⟩
  ·rintro⟨j,hj,rfl⟩
   rw[numAt_eq];exact getD_mem (by simpa using hj)
 refine⟨.int _,H,I.kept (t':=tk) (h':=h') old,⟨t,rfl⟩,q _ ?_ λx hx=>?_⟩
 ·exact (mem _).mpr ⟨_,by have:=best.1;omega,rfl⟩
 ·obtain⟨j,hj,rfl⟩:=(mem x).mp hx
  exact best.2 j (by omega)
end
end L2
namespace PP
open PySem L2
section
variable {X:Cx}{e:Expr}{tr:bV}{pos p2:Pos}
def am0:List PV->(PV->Prop)->Prop:=λxs Q=>∃ns:ag,xs = [.lst (intz ns)]/\ns≠[]/\∀M:Int,M∈ns->(∀x∈ns,M<=x)->Q (.int M)
theorem bj2:e8 X am0 (λxs H Q=>∃(a:ax) (ns:ag),xs = [.ref a]/\aU X.K H a (ns.map V.int)/\ns≠[]/\∀M:Int,M∈ns->(∀x∈ns,M<=x)->Q (.int M) H):=by
 rintro H vs xs Q Q' r ⟨ns,rfl,ne,q⟩ k
 obtain⟨v,rfl,r1⟩:=r.one
 obtain⟨a,us,rfl,_,h,r2⟩:=r1.sqL
 rw[r2.ofInts]at h
 exact⟨a,ns,rfl,aU.of h,ne,λM m1 m2=>k _ _ _ (aD.refl _) (.int M) (q M m1 m2)⟩
end
end PP
namespace L2
open PySem PySem.Spec PyProof.Rows
section
variable {X:Cx}
theorem bj3 (hc:X.calm=true):cG X (.builtin "max") (λxs H Q=>∃(a:ax) (ns:ag),xs = [.ref a]/\aU X.K H a (ns.map V.int)/\ns≠[]/\∀M:Int,M∈ns->(∀x∈ns,x<=M)->Q (.int M) H):=by
 intro ah s σ H xs us Q I r h
 obtain⟨a,ns,rfl,hq,ne,q⟩:=h
 obtain⟨u,rfl,ru⟩:=gI r
 cases ru
 obtain⟨its,rv,p,hz⟩:=I.list hq
 have ia:=jE rv
 obtain⟨ys,ey⟩:=ia.allInts.items
 have en:ns=ys.toList.map (·.1):=by
  have e1:=nums_intItems ys;rw[<- ey]at e1;exact ia.numsOf.symm.trans e1
 have pos:0<ys.size:=Nat.pos_of_ne_zero λz=>ne (by rw[en,bQ7 z];rfl)
 have hl:s.heap.IsList a (intItems ys):=ey▸p.isList;refine max_intList (I.ok.hd hc) hl pos λv h' tk ev old=>?_
 obtain⟨t,rfl⟩:=intItems_at ev
 have best:=argBest_gt (numAt ys) (ys.size-1);have mem:∀x:Int,x∈ns↔∃j,j<ys.size/\numAt ys j=x:=λx=>by
  rw[en];constructor
  ·intro z
   obtain⟨j,hj,e⟩:=mem_getD z
   exact⟨j,by simpa using hj,by rw[numAt_eq];exact e⟩
  ·rintro⟨j,hj,rfl⟩
   rw[numAt_eq];exact getD_mem (by simpa using hj)
 refine⟨.int _,H,I.kept (t':=tk) (h':=h') old,⟨t,rfl⟩,q _ ?_ λx hx=>?_⟩
 ·exact (mem _).mpr ⟨_,by have:=best.1;omega,rfl⟩
 ·obtain⟨j,hj,rfl⟩:=(mem x).mp hx
  exact best.2 j (by omega)
end
end L2
namespace PP
open PySem L2
section
variable {X:Cx}{a b e o:Expr}{ta tb te to:aG}{tr:bV}{pos p2 ai aj:Pos}{σ:St}{H:Hp}{Q':VK}
def am1:List PV->(PV->Prop)->Prop:=λxs Q=>∃ns:ag,xs = [.lst (intz ns)]/\ns≠[]/\∀M:Int,M∈ns->(∀x∈ns,x<=M)->Q (.int M)
theorem bj4:e8 X am1 (λxs H Q=>∃(a:ax) (ns:ag),xs = [.ref a]/\aU X.K H a (ns.map V.int)/\ns≠[]/\∀M:Int,M∈ns->(∀x∈ns,x<=M)->Q (.int M) H):=by
 rintro H vs xs Q Q' r ⟨ns,rfl,ne,q⟩ k
 obtain⟨v,rfl,r1⟩:=r.one
 obtain⟨a,us,rfl,_,h,r2⟩:=r1.sqL
 rw[r2.ofInts]at h
 exact⟨a,ns,rfl,aU.of h,ne,λM m1 m2=>k _ _ _ (aD.refl _) (.int M) (q M m1 m2)⟩
open Classical in
theorem bj5 {A:az}(hu:A.units+2<cLine){ah:List (ax×Obj)}{s:aw}{H:Hp}{us:List V}{its:List av}{rs:af}{ns:ag}{x:V}{v:av}(I:a7 X ah σ H s)(rx:aZ x v)(r:aW us its)(rn:aI X.K (λ_=>True) H x (.tup (intz ns)))(rr:Reps X.K (λ_=>True) H us (rs.map λr=>PV.tup (intz r))):∃f:av->Bool,∀(j:Nat) (w:av),its[j]? = some w->∃m,rs[j]? = some m/\SeqAt.EqAt A s w v (f w)/\f w=decide (m=ns):=by
 have lr:=r.length;have lp:=rr.length;rw[bF1]at lp;refine⟨λw=>decide (∃v',aZ v' w/\aI X.K (λ_=>True) H v' (.tup (intz ns))),λj w hw=>?_⟩;have hj:=(bF6.mp hw).1;have h1:j<us.length:=by omega
 obtain⟨w',hw',rw'⟩:=r.get (bF3 h1)
 rw[hw]at hw';cases hw'
 obtain⟨m',hm',rm⟩:=rr.get (bF3 h1)
 rw[bG4]at hm';cases hm:rs[j]? with
 |none=>rw[hm]at hm';cases hm'
 |some m=>
  rw[hm]at hm';cases hm';have e2:(decide (∃v',aZ v' w/\aI X.K (λ_=>True) H v' (.tup (intz ns))))=decide (m=ns):=by
   have:(∃v',aZ v' w/\aI X.K (λ_=>True) H v' (.tup (intz ns)))↔m=ns:=by
    refine⟨λ⟨v',h1',h2'⟩=>?_,λe=>⟨_,rw',by rw[<- e];exact rm⟩⟩
    obtain⟨p1,w1,e1,_,_⟩:=rm.sqT
    obtain⟨p2,w2,e2,_,_⟩:=h2'.sqT
    rw[e1]at rw' rm;rw[e2]at h1' h2';cases rw';cases h1';exact al6 rm h2'
   exact decide_eq_decide.mpr this
  refine⟨m,rfl,?_,e2⟩;show SeqAt.EqAt A s w v (decide _);rw[e2]
  have:=B6 I 2 (A:=A) hu rm rn rw' rx (by exact A5 1 m ns)
  rw[A4 1]at this;exact this
def am2 (K:ae):R2:=λx y H Q=>∃p us ns,∃rs:af,y = .ref p/\H p=some (.lst us)/\aI K (λ_=>True) H x (.tup (intz ns))/\Reps K (λ_=>True) H us (rs.map λr=>PV.tup (intz r))/\Q (.bl (!decide (ns∈rs))) H
theorem bj6 (hu:X.A.units+3<cLine):cL X (compareOp .NotIn) (am2 X.K):=by
 intro ah s σ H x y v u Q I rx ry h
 obtain⟨p,us,ns,rs,rfl,hp,rn,rr,q⟩:=h
 cases ry
 obtain⟨its,r,pl,hz⟩:=I.list (aU.of (K:=X.K) hp)
 have lr:=r.length;have lp:=rr.length;rw[bF1]at lp
 obtain⟨f,key⟩:=bj5 (A:=X.A.in1) (by show X.A.units+1+2<cLine;omega) I rx r rn rr
 refine SeqAt.notIn_listAt f pl.isList (λw hw=>?_) ⟨.bl _,H,I,rfl,?_⟩
 ·have hw:w∈its:=by simpa using hw
  obtain⟨j,hj⟩:=bS0 hw
  obtain⟨m,_,h1,h2⟩:=key j w hj
  exact h1
 ·have:its.toArray.any f=decide (ns∈rs):=by
   rw[show its.toArray.any f=its.any f by simp,bL2,List.any_eq_true,bH1];refine⟨λ⟨w,hw,e⟩=>?_,λh=>?_⟩
   ·obtain⟨j,hj⟩:=bS0 hw
    obtain⟨m,hm,_,h2⟩:=key j w hj
    rw[h2,bH1]at e;rw[<- e];exact bJ7 hm
   ·obtain⟨j,hj⟩:=bS0 h
    have hl:=(bF6.mp hj).1
    obtain⟨m,hm,_,h2⟩:=key j its[j] (bF3 (by omega))
    rw[hj]at hm;cases hm
    exact⟨its[j]'(by omega),bP5 _,by rw[h2];exact bG5 rfl⟩
  rw[this];exact q
def J4:PV->Tg->PV->Tg->PK->Prop:=λx _ y _ Q=>∃ns,∃rs:af,x = .tup (intz ns)/\y = .lst (rs.map λr=>PV.tup (intz r))/\Q (.bl (!decide (ns∈rs))) .fr
theorem bj7:dU X J4 (am2 X.K):=by
 rintro W Hs H u v x y g g' Q Q' s n r1 r2 ⟨ns,rs,rfl,rfl,q⟩ k
 obtain⟨p,us,rfl,_,h,r⟩:=r2.sqL
 exact⟨p,us,ns,rs,rfl,h,r1.same (aD.refl _) (λ_ _=>trivial),r.same (aD.refl _) (λ_ _=>trivial),k _ _ _ .fr (aD.refl _) (.bl _) q⟩
theorem bj8 (hu:X.A.units+3<cLine)(ha:QE X a ta)(hb:QE X b tb)(hm:behindInMarks .NotIn b=false:=by rfl):QT X (.Compare a [.NotIn] [b] pos) (aQ (q2 J4 ta tb)):=hG (bj6 hu) bj7 ha hb hm
end
section
variable {X:Cx}{a b e:Expr}{ta tb te:aG}{tr:bV}{pos:Pos}{σ:St}{H:Hp}{Q':VK}{es:List Expr}
def dZ (neg:Bool):PV->Tg->PV->Tg->PK->Prop:=λx _ y _ Q=>∃i j:Str,x = .str i/\y = .str j/\Q (.bl (if neg=true then !decide (i=j) else decide (i=j))) .fr
theorem bj9 (i j:Str):decide (V.str i=V.str j)=decide (i=j):=by
 rw[bL2,bH1,bH1];exact⟨λz=>V.str.inj z,λz=>congrArg V.str z⟩
theorem am3:dU X (dZ false) xH:=by
 rintro W Hs H u v x y g g' Q Q' s n r1 r2 ⟨i,j,rfl,rfl,q⟩ k;cases r1;cases r2
 exact⟨rfl,by rw[bj9];exact k _ _ _ _ (aD.refl _) (.bl _) q⟩
theorem am4 (ha:QE X a ta)(hb:QE X b tb):QE X (.Compare a [.Eq] [b] pos) (q2 (dZ false) ta tb):=lD xJ am3 ha hb (eG _)
theorem kJ (ha:QE X a ta)(hb:QE X b tb):QT X (.Compare a [.Eq] [b] pos) (aQ (q2 (dZ false) ta tb)):=hG xJ am3 ha hb (eG _)
end
end PP
namespace Core
open PySem L2 PP
def nZ (h:Int):ag->ag
 |[]=>[h]
 |a::r=>if h<=a then h::a::r else a::nZ h r
theorem J5 (h:Int):∀A:ag,(nZ h A).Perm (A++[h])
 |[]=>List.Perm.refl _
 |a::r=>by
  show (if h<=a then h::a::r else a::nZ h r).Perm _;split
  ·exact List.perm_append_comm (l₁:=[h]) (l₂:=a::r)
  ·exact (J5 h r).cons a
theorem am5 (h:Int):∀{A:ag},A.Pairwise (· <= ·)->(nZ h A).Pairwise (· <= ·)
 |[],_=>bH7 _ _
 |a::r,p=>by
  have p':=bQ6.mp p;show (if h<=a then h::a::r else a::nZ h r).Pairwise _;split
  ·rename_i z
   exact bQ6.mpr ⟨λx hx=>by
    rcases bG0.mp hx with rfl|hx
    ·exact z
    ·exact Int.le_trans z (p'.1 x hx),p⟩
  ·rename_i z
   exact bQ6.mpr ⟨λx hx=>by
    rcases bJ0.mp ((J5 h r).mem_iff.mp hx) with hx|hx
    ·exact p'.1 x hx
    ·rw[bF8]at hx;omega,am5 h p'.2⟩
theorem bk0 {motive:ag->Prop}(z:motive [])(sn:∀L x,motive L->motive (L++[x])):∀L,motive L:=λL=>by
 have:∀R:ag,motive R.reverse:=by
  intro R
  induction R with
  |nil=>exact z
  |cons x r ih=>rw[List.reverse_cons];exact sn _ _ ih
 have:=this L.reverse
 rwa [List.reverse_reverse]at this
def lQ (O:ag):ag:=O.foldl (λA h=>nZ h A) []
theorem bk1 (O:ag)(h:Int):lQ (O++[h])=nZ h (lQ O):=by unfold lQ;rw[List.foldl_append];rfl
theorem vT:∀O:ag,(lQ O).Perm O/\(lQ O).Pairwise (· <= ·):=by
 refine bk0 ⟨List.Perm.refl _,.nil⟩ ?_;rintro O h ⟨i1,i2⟩;rw[bk1]
 exact⟨(J5 h _).trans (i1.append_right [h]),am5 h i2⟩
theorem am6 {O ms:ag}(p:ms.Perm O)(s:ms.Pairwise (· <= ·)):ms=lQ O:=bb3 (p.trans (vT O).1.symm) s (vT O).2
theorem bk2 (O:ag):(lQ O).length=O.length:=(vT O).1.length_eq
def tX (ws:ag)(ls:aa)(ns R:ag):Prop:=al7 ws ls ns R=true/\bd8 ws ls (ns++R)
end Core
namespace L2
open PySem PySem.Spec PyProof.Rows PP
section
variable {prog:ay}{w:ba}{A:az}{R:Result→aw→Prop}{I S:ax}{n:Nat}{l:ax}{its:Array av}{s0:aw}{bt:Nat→Nat→Bool}
abbrev at_ (s:aw)(h:Heap)(k:Nat):aw:={ s with heap:=h,toks:=k }
end
end L2
namespace Core
open PySem L2 PP
def Bd (ws:ag)(ls:aa)(wts:ag)(b:Int):Prop:=∃zs,bh1 ws ls wts zs/\b=(ws.length:Int)-(bg9 zs wts.sum:Int)
noncomputable def bnd (ws:ag)(ls:aa)(wts:ag):Int:=Classical.epsilon (Bd ws ls wts)
def FB (L:af)(f:ag->Int)(r:ag):Prop:=∃i,L[i]? = some r/\(∀(j:Nat) (s:ag),j<i->L[j]? = some s->f s<f r)/\∀s∈L,f s<=f r
end Core
namespace L2
open PySem PySem.Spec PyProof.Rows
section
variable {prog:ay}{w:ba}{A:az}{E:av→aw→Prop}{s:aw}{l:ax}{xs:Array (Int×Tok)}
theorem am7 {Q:av->aw->Prop}(hl:s.heap.IsTuple l (intItems xs))(h:∀h2:Heap,(h2.IsTupleIter s.heap.objs.size l 0/\h2.IsTuple l (intItems xs))->(∀b∈[s.heap.objs.size,l],b<h2.objs.size)->l≠s.heap.objs.size->(∀b o,s.heap.get? b=some o->b∉[s.heap.objs.size]/\h2.get? b=some o)->Q (.ref s.heap.objs.size) { s with heap:=h2 }):wpAny (model prog w) A (pyIter (.ref l)) Q E s:=by
 have lb:l<s.heap.objs.size:=by obtain⟨_,e,_⟩:=hl;exact bG6 e
 refine wpAny_pyIter_tuple hl (h _ ⟨⟨_,bG1 _ rfl,rfl,rfl⟩,hl.push _⟩ (λb hb=>?_) (bI3 lb) λb o e=>⟨λhm=>?_,bF0 _ e⟩)
 ·rw[bP9]
  rcases bG0.mp hb with rfl|hb
  ·exact Nat.lt_succ_self _
  ·rw[bF8.mp hb];exact Nat.lt_succ_of_lt lb
 ·rw[bF8.mp hm]at e
  exact absurd (bG6 e) (bJ5 _)
theorem bk3 {Q:av->aw->Prop}(hh:A.handled=none)(hl:s.heap.IsTuple l (intItems xs))(hne:0<xs.size)(h:∀v h' tk,(intItems xs)[argBest (λi j=>decide (numAt xs i>numAt xs j)) (xs.size-1)]? = some v->(∀b o,s.heap.get? b=some o->h'.get? b=some o)->Q v { s with heap:=h',toks:=tk }):wpAny (model prog w) A (call (.builtin "max") [.ref l]) Q E s:=by
 refine call_max_walk (am7 hl λh2 st hfp ne old=>?_)
 exact⟨_,_,_,_,_,_,_,rfl,Walks.tuple (A:=A.in1) hh _ l ne (intItems xs),st,hfp,by simpa[intItems] using hne,CmpOf.ints_gt (numAt xs) (λ_ _=>intItems_at),λv h' tk hP hk=>h v h' tk (by simpa[intItems] using hP) λb o e=>hk b o (old b o e).1 (old b o e).2⟩
theorem bk4 {Q:av->aw->Prop}(hh:A.handled=none)(hl:s.heap.IsTuple l (intItems xs))(hne:0<xs.size)(h:∀v h' tk,(intItems xs)[argBest (λi j=>decide (numAt xs i<numAt xs j)) (xs.size-1)]? = some v->(∀b o,s.heap.get? b=some o->h'.get? b=some o)->Q v { s with heap:=h',toks:=tk }):wpAny (model prog w) A (call (.builtin "min") [.ref l]) Q E s:=by
 refine call_min_walk (am7 hl λh2 st hfp ne old=>?_)
 exact⟨_,_,_,_,_,_,_,rfl,Walks.tuple (A:=A.in1) hh _ l ne (intItems xs),st,hfp,by simpa[intItems] using hne,CmpOf.ints_lt (numAt xs) (λ_ _=>intItems_at),λv h' tk hP hk=>h v h' tk (by simpa[intItems] using hP) λb o e=>hk b o (old b o e).1 (old b o e).2⟩
end
section
variable {X:Cx}
theorem bk5 (hc:X.calm=true):cG X (.builtin "max") (λxs H Q=>∃(a:ax) (ns:ag),xs = [.ref a]/\aP X.K H a (ns.map V.int)/\ns≠[]/\∀M:Int,M∈ns->(∀x∈ns,x<=M)->Q (.int M) H):=by
 intro ah s σ H xs us Q I r h
 obtain⟨a,ns,rfl,hq,ne,q⟩:=h
 obtain⟨u,rfl,ru⟩:=gI r
 cases ru
 obtain⟨its,rv,p,hz⟩:=I.tuple hq
 have ia:=jE rv
 obtain⟨ys,ey⟩:=ia.allInts.items
 have en:ns=ys.toList.map (·.1):=by
  have e1:=nums_intItems ys;rw[<- ey]at e1;exact ia.numsOf.symm.trans e1
 have pos:0<ys.size:=Nat.pos_of_ne_zero λz=>ne (by rw[en,bQ7 z];rfl)
 have hl:s.heap.IsTuple a (intItems ys):=by rw[<- ey];exact p
 refine bk3 (I.ok.hd hc) hl pos λv h' tk ev old=>?_
 obtain⟨t,rfl⟩:=intItems_at ev
 have best:=argBest_gt (numAt ys) (ys.size-1);have mem:∀x:Int,x∈ns↔∃j,j<ys.size/\numAt ys j=x:=λx=>by
  rw[en];constructor
  ·intro z
   obtain⟨j,hj,e⟩:=mem_getD z
   exact⟨j,by simpa using hj,by rw[numAt_eq];exact e⟩
  ·rintro⟨j,hj,rfl⟩
   rw[numAt_eq];exact getD_mem (by simpa using hj)
 refine⟨.int _,H,I.kept (t':=tk) (h':=h') old,⟨t,rfl⟩,q _ ?_ λx hx=>?_⟩
 ·exact (mem _).mpr ⟨_,by have:=best.1;omega,rfl⟩
 ·obtain⟨j,hj,rfl⟩:=(mem x).mp hx
  exact best.2 j (by omega)
theorem bk6 (hc:X.calm=true):cG X (.builtin "min") (λxs H Q=>∃(a:ax) (ns:ag),xs = [.ref a]/\aP X.K H a (ns.map V.int)/\ns≠[]/\∀M:Int,M∈ns->(∀x∈ns,M<=x)->Q (.int M) H):=by
 intro ah s σ H xs us Q I r h
 obtain⟨a,ns,rfl,hq,ne,q⟩:=h
 obtain⟨u,rfl,ru⟩:=gI r
 cases ru
 obtain⟨its,rv,p,hz⟩:=I.tuple hq
 have ia:=jE rv
 obtain⟨ys,ey⟩:=ia.allInts.items
 have en:ns=ys.toList.map (·.1):=by
  have e1:=nums_intItems ys;rw[<- ey]at e1;exact ia.numsOf.symm.trans e1
 have pos:0<ys.size:=Nat.pos_of_ne_zero λz=>ne (by rw[en,bQ7 z];rfl)
 have hl:s.heap.IsTuple a (intItems ys):=by rw[<- ey];exact p
 refine bk4 (I.ok.hd hc) hl pos λv h' tk ev old=>?_
 obtain⟨t,rfl⟩:=intItems_at ev
 have best:=argBest_lt (numAt ys) (ys.size-1);have mem:∀x:Int,x∈ns↔∃j,j<ys.size/\numAt ys j=x:=λx=>by
  rw[en];constructor
  ·intro z
   obtain⟨j,hj,e⟩:=mem_getD z
   exact⟨j,by simpa using hj,by rw[numAt_eq];exact e⟩
  ·rintro⟨j,hj,rfl⟩
   rw[numAt_eq];exact getD_mem (by simpa using hj)
 refine⟨.int _,H,I.kept (t':=tk) (h':=h') old,⟨t,rfl⟩,q _ ?_ λx hx=>?_⟩
 ·exact (mem _).mpr ⟨_,by have:=best.1;omega,rfl⟩
 ·obtain⟨j,hj,rfl⟩:=(mem x).mp hx
  exact best.2 j (by omega)
end
end L2
namespace PP
open PySem L2
section
variable {X:Cx}{a b e:Expr}{ta tb:aG}{tr:bV}{pos p2:Pos}
def am8:List PV->(PV->Prop)->Prop:=λxs Q=>∃ns:ag,xs = [.tup (intz ns)]/\ns≠[]/\∀M:Int,M∈ns->(∀x∈ns,x<=M)->Q (.int M)
def am9:List PV->(PV->Prop)->Prop:=λxs Q=>∃ns:ag,xs = [.tup (intz ns)]/\ns≠[]/\∀M:Int,M∈ns->(∀x∈ns,M<=x)->Q (.int M)
theorem bk7:e8 X am8 (λxs H Q=>∃(a:ax) (ns:ag),xs = [.ref a]/\aP X.K H a (ns.map V.int)/\ns≠[]/\∀M:Int,M∈ns->(∀x∈ns,x<=M)->Q (.int M) H):=by
 rintro H vs xs Q Q' r ⟨ns,rfl,ne,q⟩ k
 obtain⟨v,rfl,r1⟩:=r.one
 obtain⟨a,us,rfl,h,r2⟩:=r1.sqT
 rw[r2.ofInts]at h
 exact⟨a,ns,rfl,aP.of h,ne,λM m1 m2=>k _ _ _ (aD.refl _) (.int M) (q M m1 m2)⟩
theorem bk8:e8 X am9 (λxs H Q=>∃(a:ax) (ns:ag),xs = [.ref a]/\aP X.K H a (ns.map V.int)/\ns≠[]/\∀M:Int,M∈ns->(∀x∈ns,M<=x)->Q (.int M) H):=by
 rintro H vs xs Q Q' r ⟨ns,rfl,ne,q⟩ k
 obtain⟨v,rfl,r1⟩:=r.one
 obtain⟨a,us,rfl,h,r2⟩:=r1.sqT
 rw[r2.ofInts]at h
 exact⟨a,ns,rfl,aP.of h,ne,λM m1 m2=>k _ _ _ (aD.refl _) (.int M) (q M m1 m2)⟩
end
end PP
namespace Core
open PySem L2 PP
def inL (S:ag)(l:Int×Int):Bool:=decide (l.1∈S)&&decide (l.2∈S)
section
variable {ws:ag}{ls:aa}{ns R:ag}{h:Int}
noncomputable def J6 (ws:ag)(ls:aa)(ns:ag):ag:=aV ws ls ns (Classical.choose (vS ws ls ns))
theorem bk9:bP ws ls ns (Classical.choose (vS ws ls ns)):=Classical.choose_spec (vS ws ls ns)
theorem bl0 {m:Nat}(en:bP ws ls ns m):aV ws ls ns m=J6 ws ls ns:=by unfold J6;rw[C6 en bk9]
end
end Core
namespace L2
open PySem PySem.Spec PyProof.Rows
def KeysOf (H:Hp):HO->List V->Prop
 |.dK kvs,ys=>ys=kvs.map λp=>kV p.1
 |.dT kvs,ys=>Paired (aN0 H) ys (kvs.map (·.1))
 |_,_=>False
end L2
namespace Core
open PySem L2 PP
theorem vU (a b:aa):cC (a++b)=cC a++cC b:=bJ1 ..
theorem bl1 {n:Nat}{l:ag}(nd:l.Nodup)(h:∀x∈l,x∈rng n):l.length<=n:=by
 have:=J2 n (l.map Int.toNat) (bN6.mpr (nd.imp_of_mem λ{a b} ha hb ne e=>ne (by have:=j9.mp (h a ha);have:=j9.mp (h b hb);omega))) λx hx=>by
  obtain⟨y,hy,rfl⟩:=bI7.mp hx
  have:=j9.mp (h y hy)
  omega
 rwa [bF1]at this
def J7 (r c:Int)(l:Int×Int):Bool:=decide (0<=l.1)&&(decide (l.1<r)&&(decide (0<=l.2)&&decide (l.2<c)))
def bl2 (l:Int×Int):aa:=[(l.1-1,l.2),(l.1,l.2-1),(l.1,l.2+1),(l.1+1,l.2)]
def J8 (r c:Int)(l:Int×Int):aa:=(bl2 l).filter (J7 r c)
section
variable {ls:aa}{n:Nat}{B:ag}
def ins (ls:aa)(S:ag)(h:Int):Nat:=((aX ls h).filter λx=>decide (x∈S)).length
end
def keep2 (ls:aa)(L:ag):ag:=L.filter λh=>decide (2<=ins ls L h)
end Core
namespace PP
open PySem L2 PyProof.Rows
section
variable {X:Cx}{a b e:Expr}{ta tb te:aG}{tr:bV}{pos p2:Pos}
theorem e8.or {R1 R2:List PV->(PV->Prop)->Prop}{r1 r2:List V->Hp->(V->Hp->Prop)->Prop}(h1:e8 X R1 r1)(h2:e8 X R2 r2):e8 X (λxs Q=>R1 xs Q∨R2 xs Q) (λxs H Q=>r1 xs H Q∨r2 xs H Q):=by
 rintro H vs xs Q Q' r (h|h) k
 ·exact .inl (h1 H vs xs Q Q' r h k)
 ·exact .inr (h2 H vs xs Q Q' r h k)
def an0:List PV->(PV->Prop)->Prop:=λxs Q=>am0 xs Q∨am9 xs Q
def an1:List PV->(PV->Prop)->Prop:=λxs Q=>am1 xs Q∨am8 xs Q
theorem bl3 (B:Bt X.mg)(hc:X.calm=true)(ha:QA X [e] tr)(hg:Gl X "min":=by rfl)(he:starEach [e] X.env=(false,eval e X.env)::starEach [] X.env:=by rfl)(hpl:(backTo pos (starEach [] X.env)).any (·.1)=false:=by rfl):QE X (.Call (.Name "min" p2) [e] [] pos) (aE an0 tr):=
 jM ((bj1 hc).or (bk6 hc)) (bj2.or bk8) hg B.min PyProof.Rows.boot_min ha (he:=he) (hpl:=hpl)
theorem bl4 (B:Bt X.mg)(hc:X.calm=true)(ha:QA X [e] tr)(hg:Gl X "max":=by rfl)(he:starEach [e] X.env=(false,eval e X.env)::starEach [] X.env:=by rfl)(hpl:(backTo pos (starEach [] X.env)).any (·.1)=false:=by rfl):QE X (.Call (.Name "max" p2) [e] [] pos) (aE an1 tr):=
 jM ((bj3 hc).or (bk5 hc)) (bj4.or bk7) hg B.max PyProof.Rows.boot_max ha (he:=he) (hpl:=hpl)
end
end PP
namespace L2
open PySem PySem.Spec PyProof.Rows SO
abbrev kk (l:Int×Int):List aF:=[Sum.inl l.1,Sum.inl l.2]
end L2
namespace Core
open PySem L2 PP
def i7 (K:aa):List (List aF×PV):=K.map λl=>(i4 l,PV.bl true)
theorem bl5 {a b:Int×Int}(h:i4 a=i4 b):a=b:=by
 unfold i4 at h;injection h with h1 h2
 injection h2 with h2
 exact Prod.ext (Sum.inl.inj h1) (Sum.inl.inj h2)
theorem bl6 (K:aa):(i7 K).length=K.length:=by unfold i7;rw[bF1]
theorem an2 (K:aa)(x:Int×Int):(bQ (i7 K) (i4 x)).isSome=decide (x∈K):=by
 rw[<- rM,bL2,List.any_eq_true,bH1];unfold i7;refine⟨λ⟨p,hp,e⟩=>?_,λh=>⟨_,bI7.mpr ⟨x,h,rfl⟩,bG5 rfl⟩⟩
 obtain⟨y,hy,rfl⟩:=bI7.mp hp
 rw[<- bl5 (bO7 e:i4 y=i4 x)];exact hy
theorem bl7 {K:aa}{x:Int×Int}(h:x∉K):dX (i7 K) (i4 x) (.bl true)=i7 (K++[x]):=by
 have:((i7 K).any λkv=>decide (kv.1=i4 x))=false:=by
  rw[rM,an2,bF9 h]
 unfold dX;rw[this];unfold i7;rw[bJ1];rfl
inductive sC (r c:Int)(S:aa):Int×Int->Prop
 |seed {x:Int×Int}:x∈S->sC r c S x
 |kin {x a b:Int×Int}:J7 r c x=true->a∈J8 r c x->b∈J8 r c x->a≠b->sC r c S a->sC r c S b->sC r c S x
def nbC (r c:Int)(P:aa)(x:Int×Int):Nat:=(P.filter λp=>decide (x∈J8 r c p)).length
structure Wk (r c:Int)(S K P:aa):Prop where
 nd:K.Nodup
 ndP:P.Nodup
 sub:∀x∈P,x∈K
 brn:∀x∈K,sC r c S x
 sd:∀x∈S,x∈K
 bd:∀x∈K,J7 r c x=true
 low:∀x,x∉K->nbC r c P x<2
theorem bl8 {α:Type}{l:List α}{i:Nat}{x:α}(nd:l.Nodup)(h:l[i]? = some x):x∉l.take i:=λz=>by
 have:(l.take (i+1)).Nodup:=nd.sublist (List.take_sublist _ _)
 rw[bO8,h]at this;exact (bN7.mp this).2.2 x z x (by simp) rfl
def vV:bS:=λxs Q=>∃(x:PV) (ls:aa),xs = [x]/\(x = .tup (cC ls)∨x = .lst (cC ls))/\ls.Nodup/\ls.length<=4096/\Q (.dT (i7 ls))
def an3:aT:=(aH (iH 1 (qC (.dT [])))
 (aH (e9 (eC (a5 0)) (bW 2)
  (A2 1 (a5 2) (qC (.bl true))))
 (mF 1)))
theorem bl9:cY an3 ["hearths","inside","hearth"] vV:=by
 rintro xs Q ⟨x,ls,rfl,hx,nd,hl,q⟩;have sx:iI x=some (cC ls):=by rcases hx with rfl|rfl<;>rfl
 have tg:(Slot.sh (flat x) x).tag = .rd->flat x=true:=by cases flat x<;>intro z<;>cases z
 refine⟨rfl,rfl,_,rfl,cC ls,sx,tg,λi ρ=>∃y,ρ = [some (.sh (flat x) x),some (.own (.dT (i7 (ls.take i)))),y],⟨none,rfl⟩,?_,?_⟩
 ·rintro i y ρ hy ⟨y0,rfl⟩
  obtain⟨l,rfl,h⟩:=ah2 hy
  have tk:dX (i7 (ls.take i)) (i4 l) (.bl true)=i7 (ls.take (i+1)):=by rw[bl7 (bl8 nd h),bO8,h];rfl
  refine⟨_,rfl,_,rfl,i4 l,rfl,trivial,by rw[bl6,bI8];omega,?_⟩;rw[tk]
  exact⟨_,rfl⟩
 ·rintro ρ ⟨y,rfl⟩
  rw[rQ,bI5]
  exact⟨_,rfl,trivial,q⟩
def sD:bS:=λxs Q=>∃(ns:ag) (k:Int),xs = [.scr ns,.int k]/\ns.length<=63/\0<=k/\k<=1000/\∀z:Int,Q (.int z)
def an4:aT:=(aH (bF (aQ (kF (a5 1) (aE fR (a6 (a5 0) aB)))) (b7 (b5 (a5 0) (a5 1))) bE)
 (aH (bC 2 (cT (rB (gW (gW (cT (aE jT (a6 (a5 0) (a6 (cT (a5 1) (aE uJ (a6 (qC (.int 1)) (a6 (aE fR (a6 (a5 0) aB)) aB)))) aB))) (qC (.int 1000000007))) (rB (qC (.int 977)) (a5 1))) (qC (.int 1))) (qC (.int 48271))) (qC (.int 2147483647))))
 (b7 (eL (cT (rB (a5 2) (a5 2)) (qC (.int 2147483647))) (qC (.int 8))))))
theorem bm0:cY an4 ["script","k","stir"] sD:=by
 rintro xs Q ⟨ns,k,rfl,hl,k0,k1,q⟩;refine⟨_,rfl,_,rfl,_,_,rfl,rfl,_,_,rfl,rfl,_,rfl,?_⟩;show if decide (k<(ns.length:Int))=true then _ else _
 by_cases h:k<(ns.length:Int)
 ·rw[bG5 h]
  have hk:L2.atI (intz ns) k=some (.int (ns.getD k.toNat 0)):=mR k0 h;exact aY ⟨_,rfl,_,rfl,_,_,_,rfl,rfl,hk,trivial,q _⟩
 ·rw[bF9 h]
  refine aM ?_;have mx:(0:Int)<(if (ns.length:Int)>1 then (ns.length:Int) else 1):=by split<;>omega
  refine⟨_,rfl,_,rfl,_,rfl,_,_,rfl,rfl,_,_,rfl,_,_,rfl,rfl,mx,_,ns,_,rfl,.inl rfl,bN1 _ (Int.ne_of_gt mx),?_⟩;refine⟨_,_,rfl,rfl,(by show (0:Int)<1000000007;decide),_,rfl,_,_,rfl,rfl,.inl ⟨by decide,by decide⟩,_,_,rfl,rfl,_,_,rfl,rfl,_,_,rfl,rfl,.inr ⟨by decide,by decide⟩,_,_,rfl,rfl,(by show (0:Int)<2147483647;decide),trivial,?_⟩;dsimp only;generalize hv:(ns.getD (k%(if (ns.length:Int)>1 then (ns.length:Int) else 1)).toNat 0%1000000007+977*k+1)*48271%2147483647=v;have v0:0<=v:=by rw[<- hv];exact bN1 _ (by decide)
  have v1:v<2147483647:=by rw[<- hv];exact bP2 _ (by decide)
  exact⟨_,rfl,_,rfl,_,_,rfl,rfl,.inl ⟨by omega,by omega⟩,_,_,rfl,rfl,(by show (0:Int)<2147483647;decide),_,_,rfl,rfl,⟨by decide,by decide⟩,trivial,q _⟩
theorem bm1 {x:Int×Int}{ls:aa}:decide (two x∈ls.map two)=decide (x∈ls):=by
 rw[bL2,bH1,bH1];refine⟨λh=>?_,λh=>bI7.mpr ⟨x,h,rfl⟩⟩
 obtain⟨y,hy,e⟩:=bI7.mp h
 unfold two at e;injection e with e1 e2
 injection e2 with e2
 rw[<- Prod.ext e1 e2];exact hy
end Core
namespace PP
open PySem L2
section
variable {X:Cx}{e:Expr}{tr:bV}{pos p2:Pos}
abbrev sE (rs:af):List PV:=rs.map λr=>PV.tup (intz r)
end
end PP
namespace Core
open PySem L2 PP
structure Bx where
 t:Int
 l:Int
 b:Int
 r:Int
deriving DecidableEq
def Bx.k (x:Bx):ag:=[x.t,x.l,x.b,x.r]
def okX (x:Bx):Prop:=x.t<=x.b/\x.l<=x.r
def inX (x:Bx)(p:Int×Int):Prop:=x.t<=p.1/\p.1<=x.b/\x.l<=p.2/\p.2<=x.r
def an5 (x a:Int×Int):Prop:=(a.1=x.1/\(a.2=x.2-1∨a.2=x.2+1))∨(a.2=x.2/\(a.1=x.1-1∨a.1=x.1+1))
def Clo (B:Bx)(U:Int×Int->Prop):Prop:=∀x a b,inX B x->an5 x a->an5 x b->a≠b->U a->U b->U x
section
variable {B:Bx}{U:Int×Int→Prop}
variable {t l b r:Int}
section
variable (cl:Clo B U){p1 p2:Int}(u:U (p1, p2))(ip:inX B (p1, p2))
include cl u ip
end
end
abbrev bxP (x:Bx):PV:=.tup (intz x.k)
theorem bm2 {i j:Nat}{a b:Int}{g:Bool}{ρ:b8}{Q:b8->Prop}(q:Q ((ρ.set i (si a)).set j (si b))):k7 i j (.tup [.int a,.int b]) g ρ Q:=by
 refine⟨_,_,rfl,?_⟩;rw[show flat (.int a)=true from rfl,show flat (.int b)=true from rfl,Bool.or_true];exact q
section
variable {ns:ag}{a r c z t l:Int}{Q:PV→Prop}(q:∀x:Bx, Q (bxP x))
include q
end
section
variable {ls:aa}{n:Nat}{U:ag}{v:Int}
noncomputable def mu (ls:aa)(U:ag):Int:=((ls.filter (inL U)).length:Int)-(U.length:Int)+((bi7 ls U).length:Int)
end
abbrev Wys:=List (Int×ag)
section
variable {ls:aa}{l:Int×Int}{n:Nat}{S U:ag}{h x y:Int}
theorem bm3 (hS:cJ n S=true):S.Nodup:=(mP (jS hS).1).imp λh=>Int.ne_of_lt h
end
abbrev Prs:=List (Int×Option Int)
abbrev K0:=List (Int×ag)
def ksB (W:K0):ag:=W.map (·.1)
section
variable {ws:ag}{n:Nat}{ls:aa}{P:Prs}{W T:K0}{D B:ag}{h x y c:Int}{e:Option Int}
structure qR (P:Prs)(W:K0)(D:ag)(x:Int)(B:ag):Prop where
 self:x∈B
 nd:B.Nodup
 up:∀y∈B,y=x∨(y∈ksB W/\∃e,(y,some e)∈P/\e∈B)
 dn:∀y∈B,∀c,(c,some y)∈P->c∈ksB W->c∈B
 inn:∀y∈B,y∈D
theorem bm4 (nd:B.Nodup)(so:B.Pairwise (· <= ·))(inn:∀x∈B,x∈rng n):cJ n B=true:=by
 have up:B.Pairwise (·<·):=(List.Pairwise.and so nd).imp λz=>Int.lt_iff_le_and_ne.mpr ⟨z.1,z.2⟩
 unfold cJ;rw[bI4,bN2];refine⟨v8 up,λb hb=>?_⟩
 obtain⟨x,hx,rfl⟩:=bI7.mp hb
 have:=j9.mp (inn x hx)
 show inB n x=true;unfold inB;simp only[bI4,bH1];omega
end
theorem bm5 {i:Nat}{b:ag}{g:Bool}{ρ:b8}{Q:b8->Prop}(q:Q (ρ.set i (some (.sh true (.tup (intz b)))))):bW i (.tup (intz b)) g ρ Q:=by
 show Q (ρ.set i (some (.sh (g||flats (intz b)) (.tup (intz b)))));rw[cH,Bool.or_true];exact q
abbrev Led:=aa
theorem bm6 {i:Nat}{a b:Int}{g:Bool}{ρ:b8}{Q:b8->Prop}(q:Q (ρ.set i (some (.sh true (.tup [.int a,.int b]))))):bW i (.tup [.int a,.int b]) g ρ Q:=by
 show Q (ρ.set i (some (.sh (g||true) (.tup [.int a,.int b]))));rw[Bool.or_true];exact q
end Core
namespace L2
open PySem PySem.Spec PyProof.Rows
section
variable {X:Cx}{ah:List (ax×Obj)}{σ:St}{H H1 H':Hp}{s s1 s':aw}{B:Heap}{a C Ch:ax}{x:Str}{np pos hpos:Pos}{b₀:Stmt}{suite body:List Stmt}{tb:TB}{ts:TS}{D:bP}{cX:List ExceptHandler}
theorem bm7 (I:a7 X ah σ H1 s1)(fl:mM X.prog X.w X.stack H1 s1 H' B a C s')(hstk:X.stack=X.env::X.outer/\X.env.frame=some X.env.locals)(hg:Gl X x)(hm:X.mg x=some (.ref Ch))(ct:rH X.K Ch)(sub:PySem.W.subIn X.K (.ref C) (.ref Ch)=some true)(hs:dL (X.suite a) (b₀::suite) ts)(q:∀oe:Obj,oe.cls = .ref C->ts D σ (upd H' a (.frz oe (.own a))))(hd:(x==("__debug__":Str))=false) :
  wpAny (model X.prog X.w) X.A (noteFrame (.ref a) X.env) (λ_ s₂=>wpAny (model X.prog X.w) X.A (setFlight (.ref a) none) (λ_ s₃=>wpAny (model X.prog X.w) X.A (handleBy (.ref a) X.env (.ExceptHandler (some (.Name x np)) none (b₀::suite) hpos::cX)) (SP X ah D) X.xe s₃) X.xe s₂) X.xe s':=by
 obtain⟨a0,fly⟩:=fl.fly
 rw[hstk.1]at fly;refine wpAny_looks_onW (outer:=X.outer) (L:=X.env.locals) (by rw[I.ok.frames,hstk.1]) hstk.2 fly λh4 held up4=>wpAny_landsW held λh5 fly5 up5=>?_
 obtain⟨o5,v5,e5,c5,_⟩:=fly5.first
 have I5:=v4 I fl fly5.1 (up4.trans up5) e5;refine wpAny_handleBy_cons (codeAny_handlers_test (oA (I5.suite a) hg hm ?_ hd)) (by intro z;cases z);refine af0 I5.kIn e5 c5 ct.c1 ct.c2 ct.c3 sub ?_;show codeAny (model X.prog X.w) (X.A.mark (some (.ref a))) (.handlers (.ref a) [.ExceptHandler none none (b₀::suite) hpos] X.env) _ _;refine codeAny_handlers_suite (lands_againW fly5 λh6 fly6 up6=>?_)
 obtain⟨o6,v6,e6,c6,_⟩:=fly6.first
 have I6:=v4 I fl fly6.1 ((up4.trans up5).trans up6) e6;refine bK8 (hs ah _ _ _ D (I6.suite a) (q o6 c6)) (λf s8 h8=>?_) λ_ _ z=>z.elim
 show SP X ah D f s8;cases f with
 |next=>obtain⟨σ',H',J,q⟩:=h8;exact⟨_,_,J.unsuite I.ok,q⟩
 |brk=>obtain⟨σ',H',J,q⟩:=h8;exact⟨_,_,J.unsuite I.ok,q⟩
 |cont=>obtain⟨σ',H',J,q⟩:=h8;exact⟨_,_,J.unsuite I.ok,q⟩
 |ret u=>obtain⟨v,σ',H',J,r,q⟩:=h8;exact⟨v,_,_,J.unsuite I.ok,r,q⟩
def an6 (K:ae)(Ch:ax)(tb:TB)(ts:TS):TS:=λD σ H=>
 tb D (λc _ H'=>∀(a C:ax) (oe:Obj),c = .ref C->H' a=none->oe.cls = .ref C->PySem.W.subIn K (.ref C) (.ref Ch)=some true/\ts D σ (upd H' a (.frz oe (.own a)))) σ H
theorem bm8 (hstk:X.stack=X.env::X.outer/\X.env.frame=some X.env.locals)(hb:PB X body tb)(hg:Gl X x)(hm:X.mg x=some (.ref Ch))(ct:rH X.K Ch)(hs:∀a,dL (X.suite a) (b₀::suite) ts)(hd:(x==("__debug__":Str))=false:=by decide):PS X (.Try body [.ExceptHandler (some (.Name x np)) none (b₀::suite) hpos] [] [] pos) (an6 X.K Ch tb ts):=by
 intro ah s σ H D I h;refine wpAny_Try_except (bK8 (hb ah s σ H D _ I h) (λfl s1 q=>?_) (λev s1 q=>?_))
 ·cases fl with
  |next=>exact bS4 q
  |_=>exact q
 ·obtain⟨H1,s2,I1,H',B,a,C,e1,fl,q⟩:=q
  subst e1
  obtain⟨a0,fly⟩:=fl.fly
  obtain⟨o5,_,_,c5,_⟩:=fly.first
  exact bm7 I1 fl hstk hg hm ct (q a C o5 rfl fl.fresh c5).1 (hs a) (λoe hc=>(q a C oe rfl fl.fresh hc).2) hd
end
end L2
namespace Core
open PySem L2 PP
def IsL (y:PV)(L:Led):Prop:=y = .tup (cC L)∨y = .lst (cC L)
end Core
namespace L2
open PySem PySem.Spec PyProof.Rows
theorem bm9 {prog:ay}{w:ba}{A:az}{E:av->aw->Prop}{s:aw}{l:ax}{vs:List av}{Q:av->aw->Prop}(hl:s.heap.IsTuple l vs.toArray)(few:vs.length<2)(q:Q (.ref (s.heap.objs.size+1)) { s with heap:=sortedAll s.heap vs vs.toArray }):wpAny (model prog w) A (call (.builtin "sorted") [.ref l]) Q E s:=by
 have big:vs.length<=sizeLine:=bH6 (bJ6 few) (by decide);apply bQ5 kind_sorted plain_sorted entry_sorted (args_sorted1 _);simp only[Builtin.«sorted»];apply bE9 (m:=checkCount "sorted" 1 1 _);apply bF5;apply bE9;refine E9 hl ?_ big;apply bE9;refine wpAny_newList ?_ big;have one:((s.heap.push (seqObj "list" #[] 0)).update s.heap.objs.size (Obj.mapSeq (·++vs.toArray))).objs.size=s.heap.objs.size+1:=(Heap.size_update _ _ _).trans (size_push' _ _);have at1:(((s.heap.push (seqObj "list" #[] 0)).update s.heap.objs.size (Obj.mapSeq (·++vs.toArray))).push (seqObj "list" vs.toArray 0)).get? (s.heap.objs.size+1)=some (seqObj "list" vs.toArray 0):=one▸bG1 _ rfl
 change wpAny _ _ _ _ _ { s with heap:=((s.heap.push (seqObj "list" #[] 0)).update s.heap.objs.size (Obj.mapSeq (·++vs.toArray))).push (seqObj "list" vs.toArray 0) }
 rw[one];apply bE9;apply bP7;refine bL9 slot_list_sort ⟨_,at1,rfl⟩ entry_list_sort ?_ (args_list_sort _);refine Y7 at1 few ⟨_,rfl,?_⟩;exact bF5 ⟨_,rfl,q⟩
open PySem.W in
theorem bn0 {prog:ay}{w:ba}{A:az}{E:av->aw->Prop}{s:aw}{h₀:Heap}{L:ax}{m:Str->Option av}{news:List (ax×Obj)}{vs:List av}{l:ax}{Q:av->aw->Prop}(F:Fr h₀ L s.heap m)(N:News h₀ L s.heap news)(hl:s.heap.IsTuple l vs.toArray)(two:2<=vs.length)(few:vs.length<64)(q:∀D e1 h',Fr h₀ L h' m->News h₀ L h' ((D,seqObj "list" #[] e1)::news)->(∀p∈news,p.1<D)->
   wpAny (model prog w) A.in1.in1 (keyKind' vs.toArray) (λκ s'=>(kas_sort vs.length).kasWp (kas_ask prog w A.in1.in1 κ vs) (λp s2=>KasFin h₀ L m D e1 (p.toList.map λi=>vs.getD i Value.none) (λs3=>Q (.ref D) s3) s2) s') (λ_ _=>False) { s with heap:=h' }) :
  wpAny (model prog w) A (call (.builtin "sorted") [.ref l]) Q E s:=by
 have big:vs.length<=sizeLine:=bH6 (bJ6 few) (by decide);apply bQ5 kind_sorted plain_sorted entry_sorted (args_sorted1 _);simp only[Builtin.«sorted»];apply bE9 (m:=checkCount "sorted" 1 1 _);apply bF5;apply bE9;refine E9 hl ?_ big;apply bE9;refine wpAny_newList ?_ big;have one:((s.heap.push (seqObj "list" #[] 0)).update s.heap.objs.size (Obj.mapSeq (·++vs.toArray))).objs.size=s.heap.objs.size+1:=(Heap.size_update _ _ _).trans (size_push' _ _);have at1:(((s.heap.push (seqObj "list" #[] 0)).update s.heap.objs.size (Obj.mapSeq (·++vs.toArray))).push (seqObj "list" vs.toArray 0)).get? (s.heap.objs.size+1)=some (seqObj "list" vs.toArray 0):=one▸bG1 _ rfl;have old:∀b o,s.heap.get? b=some o->(((s.heap.push (seqObj "list" #[] 0)).update s.heap.objs.size (Obj.mapSeq (·++vs.toArray))).push (seqObj "list" vs.toArray 0)).get? b=some o:=λb o z=>by
  have lt:=bG6 z;rw[Heap.get?_push_ne _ _ _ (one▸bI3 (Nat.lt_succ_of_lt lt)),Heap.get?_update_ne _ _ _ _ (bI3 lt),Heap.get?_push_ne _ _ _ (bI3 lt)];exact z
 have lL:L<s.heap.objs.size:=F.ns.lt;have ab:=F.above
 change wpAny _ _ _ _ _ { s with heap:=((s.heap.push (seqObj "list" #[] 0)).update s.heap.objs.size (Obj.mapSeq (·++vs.toArray))).push (seqObj "list" vs.toArray 0) }
 rw[one];apply bE9;apply bP7;refine bL9 slot_list_sort ⟨_,at1,rfl⟩ entry_list_sort ?_ (args_list_sort _);have lt:∀p∈news,p.1<s.heap.objs.size+1:=λp hp=>Nat.lt_succ_of_lt (bG6 (N p hp).1)
 refine kat_list_sort (F.kept old) (N.grown old) at1 (bN5 (Nat.lt_succ_of_lt lL)) (Heap.get?_none_of_le (bH6 ab (Nat.le_succ_of_le (bJ6 lL)))) (λp hp=>bI3 (lt p hp)) two few λe1 h' F' N'=>?_
 refine bK8 (q _ e1 h' F' N' lt) (λκ s' hk=>?_) λ_ _ x=>x
 rw[kat_ask_eq rfl]at hk ⊢;exact kas_wp_mono hk λp s2 z=>z.mono λs3 y=>⟨_,rfl,bF5 ⟨_,rfl,y⟩⟩
def bn1 (K:ae):List V->Hp->VK->Prop:=λxs H Q=>∃(a:ax) (ys:List V) (key:V->ag),xs = [.ref a]/\aP K H a ys/\ys.length<64/\(∀y∈ys,∃b,y = .ref b/\aP K H b ((key y).map V.int)/\key y≠[])/\
 ∀l (zs:List V),H l=none->zs.Perm ys->zs.Pairwise (λu v=>HT.dR (key v) (key u)=false)->Q (.ref l) (upd H l (.lst zs))
theorem bn2 {X:Cx}:cG X (.builtin "sorted") (bn1 X.K):=by
 intro ah s σ H xs us Q I r h
 obtain⟨a,ys,key,rfl,hs,h64,hk,q⟩:=h
 obtain⟨u,rfl,ru⟩:=gI r
 cases ru
 obtain⟨its,rv,p,hz⟩:=I.tuple hs
 have hl:=rv.length;by_cases h2:its.length<2
 ·
  refine bm9 p h2 ?_
  obtain⟨e,he⟩:=sortedAll_at s.heap its its.toArray
  have hn:s.heap.objs.size<=s.heap.objs.size+1:=bU8 _;refine⟨.ref (s.heap.objs.size+1),upd H (s.heap.objs.size+1) (.lst ys),I.laid (t':=s.toks) (λ_ _=>sortedAll_old) hn ⟨hz,its,e,rv,he⟩,rfl,q _ ys (I.hok.fresh hn) (List.Perm.refl _) ?_⟩
  match ys,hl with
  |[],_=>exact List.Pairwise.nil
  |[_],_=>exact bH7 _ _
  |_::_::_,hl=>simp at hl;omega
 ·obtain⟨m,F⟩:=I.fr
  have hL:∀{b:ax}{k:ag},aP X.K H b (k.map V.int)->b≠X.env.locals:=λ{b k} z e=>by
   obtain⟨its',_,⟨ob,e1,c1,_⟩,_⟩:=I.tuple z
   obtain⟨m',⟨o',es',ep',e2,d2,_⟩,_⟩:=I.loc
   rcases z with (z|⟨_,z⟩)|⟨o3,its3,n3,z3,zc,zd,_⟩
   ·rw[e,I.free]at z;cases z
   ·rw[e,I.free]at z;cases z
   ·have:=I.kIn b o3 z3
    rw[e,e2]at this;cases this;rw[d2]at zd;cases zd
  refine bn0 F (O3 (g:=X.base) (h:=s.heap) (L:=X.env.locals)) p (by omega) (by omega) λD e1 h' F' N' hD=>?_
  have keep:=I.newsAll (λp hp=>bG8 _ hp) F' N';have look:∀i,i<ys.length->∃(b:ax) (ob:Obj) (us:List av) (n:Nat),its.getD i Value.none = .ref b/\h'.get? b=some ob/\ob.cls = .type "tuple"/\ob.data = .seq us.toArray n/\IntsAre us (key (ys.getD i .non))/\key (ys.getD i .non)≠[]:=λi hi=>by
   have hy:ys.getD i .non∈ys:=by
    rw[bI0,bF3 hi];exact bP5 hi
   obtain⟨b,eb,sq,ne⟩:=hk _ hy
   have rr:=u6 i hi rv;rw[eb]at rr;have rr:its.getD i Value.none = .ref b:=rr
   obtain⟨us,ru,⟨ob,e1,c1,n1,d1⟩,_⟩:=I.tuple sq
   exact⟨b,ob,us,n1,rr,keep b ob (hL sq) e1,c1,d1,jE ru,ne⟩
  have firsts:∀{xs:List V}{vs:List av},aW xs vs->(∀y∈xs,∃b,y = .ref b/\aP X.K H b ((key y).map V.int)/\key y≠[])->∃fs:List av,PySem.W.KatTups h' vs fs/\fs.length=vs.length/\∀v∈fs,∃i t,v=Value.int i t:=by
   intro xs vs r
   induction r with
   |nil=>intro _;exact⟨[],PySem.W.KatTups.nil,rfl,λ_ z=>nomatch z⟩
   |@cons x v xs vs rx rt ih=>
    intro hh
    obtain⟨fs,t1,t2,t3⟩:=ih λy hy=>hh y (bG8 _ hy)
    obtain⟨b,eb,sq,ne⟩:=hh x bG7
    subst eb;cases rx
    obtain⟨us,ru,⟨ob,e1,c1,n1,d1⟩,_⟩:=I.tuple sq
    have ia:=jE ru;generalize key (V.ref b)=kk at ia ne;cases ia with
    |nil=>exact absurd rfl ne
    |@cons n t vs0 ns0 ht=>
     exact⟨Value.int n t::fs,PySem.W.KatTups.cons (keep b ob (hL sq) e1) c1 d1 (by simp) t1,by simp[t2],λv hv=>(bG0.mp hv).elim (λz=>⟨n,t,z⟩) (t3 v)⟩
  obtain⟨fs,t1,t2,t3⟩:=firsts rv hk
  refine PySem.W.kat_kind (T:=.type "int") t1 (by omega) (λv hv=>?_) (by decide) ?_
  ·obtain⟨i,t,rfl⟩:=t3 v hv
   exact PySem.W.Looks.now
  let c:Nat->Nat->Bool:=λi j=>HT.dR (key (ys.getD i .non)) (key (ys.getD j .non))
  have O:Srt.tX c:=⟨λh=>zA h,λh1 h2=>zB h1 h2⟩;have ok:=Srt.Y4 (n:=its.length) O (by omega);refine Srt.cR.run (I:=λs'=>s'={ s with heap:=h' }) (λi j C s' hi hj hI hC=>?_) (λpa s' hR hI=>?_) _ _ rfl ok
  ·subst hI
   obtain⟨b1,o1,u1,n1,g1,g2,_,g4,g5,_⟩:=look i (by omega)
   obtain⟨b2,o2,u2,n2,k1,k2,_,k4,k5,_⟩:=look j (by omega)
   show wpAny _ _ (keyLt' (tuples' (Value.type "int" != Value.type "tuple")) (its.getD i Value.none) (its.getD j Value.none)) _ _ _;rw[g1,k1];have eT:(Value.type "int" != Value.type "tuple")=true:=by decide
   rw[eT];refine PySem.W.kat_lt g2 g4 k2 k4 ?_
   have:=zC (prog:=X.prog) (w:=X.w) (A:=X.A.in1.in1) (s:={ s with heap:=h' }) (Q:=C) 0 g5 k5 (hC _ rfl)
   simpa using this
  ·subst hI
   obtain⟨hp,hasc⟩:=hR
   refine PySem.W.KasFin.intro F' N' (PySem.W.UpdF.head λp hp=>bI3 (hD p hp)) λh2 cc F2 N2=>?_
   have keep2:=I.newsAll (λp hp=>bG8 _ hp) F2 N2;have hDn:s.heap.get? D=none:=by
    cases z:s.heap.get? D with
    |none=>rfl
    |some o=>
     obtain⟨_,n1,n2⟩:=N2 (D,_) bG7
     exact absurd (hD _ (x5 n1 n2 z)) (bJ5 _)
   have hpl:∀i∈pa.toList,i<ys.length:=λi hi=>by
    have:=bR6.mp (hp.mem_iff.mp hi);omega
   have hp':pa.toList.Perm (List.range ys.length):=by rw[hl];exact hp
   have pm:=Y5 (d:=V.non) ys hp'
   obtain⟨hDo,hDL,hDb⟩:=N2 (D,_) bG7
   obtain⟨hHD,I2⟩:=I.laidF (t':=s.toks) (a:=D) (o:=.lst (pa.toList.map λi=>ys.getD i .non)) hDn keep2 (λm' hm'=>by
     have e:m'=m:=funext λnm=>Heap.Ns.agree hm' F.ns nm
     rw[e];exact F2.ns) ⟨by rw[pm.length_eq];exact hz,_,cc,z9 rv hpl,hDo⟩
   exact⟨.ref D,_,I2,rfl,q D _ hHD pm (Z1 hp hasc λi j hle=>hle)⟩
end L2
namespace PP
open PySem L2
abbrev Cau:=Option (Int×ag)
abbrev K1:PV:=.kt [.int 0,.kt []]
end PP
namespace L2
open PySem PySem.Spec PyProof.Rows SO
def an7 (K:ae):List V->Hp->VK->Prop:=λxs H Q=>∃(a:ax) (ys:List V) (key:V->ag),xs = [.ref a]/\(aU K H a ys∨aP K H a ys)/\ys.length<64/\(∀y∈ys,∃b,y = .ref b/\aP K H b ((key y).map V.int)/\key y≠[])/\
 ∀l (zs:List V),H l=none->zs.Perm ys->zs.Pairwise (λu v=>HT.dR (key v) (key u)=false)->Q (.ref l) (upd H l (.lst zs))
theorem bn3 {X:Cx}:cG X (.builtin "sorted") (an7 X.K):=by
 intro ah s σ H xs us Q I r h
 obtain⟨a,ys,key,hx,hs,hz,hk,q⟩:=h
 rcases hs with hs|hs
 ·exact Z2 ah s σ H xs us Q I r ⟨a,ys,key,hx,hs,hz,hk,q⟩
 ·exact bn2 ah s σ H xs us Q I r ⟨a,ys,key,hx,hs,hz,hk,q⟩
def KD (P:ay)(w:ba)(K:ae)(mg:Str->Option av)(x:Str)(kvs:List (aF×V)):Prop:=
 ∃a o,mg x=some (.ref a)/\K.lookup a=some o/\(a==sysModules)=false/\∀h:Heap,h.get? a=some o->∃vs,KV kvs vs/\h.DictOf (dF P w) a vs
def ao0 (kvs:List (aF×V))(ty:TE):TE:=λσ H Q=>ty σ H λy H2=>∃k,y=kV k/\Q ((fE kvs k).getD .non) H2
theorem bn4 {X:Cx}{x:Str}{xp ai aj:Pos}{e:Expr}{ty:TE}{kvs:List (aF×V)}(hg:Gl X x)(hd:KD X.prog X.w X.K X.mg x kvs)(he:PE X e ty)(m:M1 X (.Name x xp) "get" ai e aj)(hx:(x==("__debug__":Str))=false:=by decide):PE X (.Call (.Attribute (.Name x xp) "get" ai) [e] [] aj) (ao0 kvs ty):=by
 obtain⟨a,o,ha,hk,hs,hD⟩:=hd
 intro ah s σ H Q I h;refine wpAny_Call_method m.base m.few m.line PySem.F.plainAttrs_dict bT7 PySem.F.type_dict_get (aN (t9 (v:=.ref a) hg ha rfl hx ah s σ H (λv H1=>v = .ref a/\ty σ H1 λy H2=>∃k,y=kV k/\Q ((fE kvs k).getD .non) H2) I ⟨rfl,h⟩) λu s1 ⟨x,H1,I1,rx,ex,q1⟩=>?_);subst ex;obtain rfl:u=Value.ref a:=rx
 obtain⟨vs,rel,dd⟩:=hD _ (I1.kIn a o hk)
 refine⟨dd.typeIs,λb q=>?_,?_⟩
 ·cases q
  obtain⟨ob,_,_,h1,h2,_⟩:=dd
  exact⟨ob,h1,h2.2.1⟩
 rw[m.trees];refine bQ1 rfl (bR9 (Calls.spliced_cons (aN (he ah s1 σ H1 _ I1 q1) λiv s2 ⟨y,H2,I2,ry,k,ey,q2⟩=>Calls.spliced_nil ?_)));subst ey
 obtain⟨vs,rel,dd⟩:=hD _ (I2.kIn a o hk)
 exact call_meetsIn bT7 dd.typeIs PySem.F.entry_dict_get (PySem.F.args_dict_get_2 _ _) (meets_dict_get (dF X.prog X.w) a (nL ry) hs) ⟨_,dd.mapOf,_,H2,I2.tok _,(rel.val k).getD (show aZ .non Value.none from rfl),q2⟩
theorem bn5 {P:ay}{w:ba}{K:ae}{mg:Str->Option av}{x:Str}{a:ax}{o:Obj}{es:Array DictEntry}{ep:Nat}{kvs:List (aF×V)}(ha:mg x=some (.ref a))(hk:K.lookup a=some o)(ho:o.ExactDict)(hd:o.data = .dict es ep)(hs:(a==sysModules)=false)(hv:∃vs,KV kvs vs/\PySem.KeysOf (dF P w) es/\PySem.Pairs (dF P w) es.toList vs/\(vs.map (·.1)).Nodup):KD P w K mg x kvs:=by
 obtain⟨vs,h1,h2,h3,h4⟩:=hv
 exact⟨a,o,ha,hk,hs,λh e=>⟨vs,h1,o,es,ep,e,ho,hd,h2,h3,h4⟩⟩
end L2
namespace PP
open PySem L2
section
variable {X:Cx}{e a b:Expr}{tr:bV}{te ta tb:aG}{pos p2:Pos}
def pG:List PV->(PV->Prop)->Prop:=λxs Q=>∃ys:af,(xs = [.lst (sE ys)]∨xs = [.tup (sE ys)])/\ys.length<64/\(∀y∈ys,y≠[])/\∀zs:af,zs.Perm ys->zs.Pairwise (λu v=>HT.dR v u=false)->Q (.lst (sE zs))
theorem bn6:e8 X pG (an7 X.K):=by
 rintro H vs xs Q Q' r ⟨ys,hx,hl,hne,q⟩ k
 obtain⟨a,us,rfl,h,r2⟩:∃a us,vs = [.ref a]/\(aU X.K H a us∨aP X.K H a us)/\Reps X.K (λ_=>True) H us (sE ys):=by
  rcases hx with rfl|rfl
  ·obtain⟨v,rfl,r1⟩:=r.one
   obtain⟨a,us,rfl,_,h,r2⟩:=r1.sqL
   exact⟨a,us,rfl,.inl (aU.of h),r2⟩
  ·obtain⟨v,rfl,r1⟩:=r.one
   obtain⟨a,us,rfl,h,r2⟩:=r1.sqT
   exact⟨a,us,rfl,.inr (aP.of h),r2⟩
 obtain⟨h1,h2⟩:=E4 r2
 have lr:=r2.length;rw[bF1]at lr;refine⟨a,us,lM H,rfl,h,by omega,λy hy=>?_,λl zs hl' pm so=>?_⟩
 ·obtain⟨b,rfl,hb⟩:=h2 y hy
  refine⟨b,rfl,aP.of hb,hne _ ?_⟩;rw[<- h1];exact bI7.mpr ⟨_,hy,rfl⟩
 ·have hz:∀u∈zs,∃b,u = .ref b/\H b=some (.tup ((lM H u).map V.int)):=λu hu=>h2 u (pm.mem_iff.mp hu)
  refine k _ _ _ (bL hl' _) (.lst hl' b6 ((E5 hz).same (bL hl' _) λ_ z=>z)) (q _ ?_ ?_)
  ·rw[<- h1];exact pm.map _
  ·rw[bN6];exact so
theorem ao1 (B:Bt X.mg)(ha:QA X [e] tr)(hg:Gl X "sorted":=by rfl)(he:starEach [e] X.env=(false,eval e X.env)::starEach [] X.env:=by rfl)(hpl:(backTo pos (starEach [] X.env)).any (·.1)=false:=by rfl):QE X (.Call (.Name "sorted" p2) [e] [] pos) (aE pG tr):=
 jM bn3 bn6 hg B.sorted bR4 ha (he:=he) (hpl:=hpl)
def pH (ds:List (Str×Int)):List (aF×V):=ds.map λp=>(.inr p.1,.int p.2)
def K2 (ds:List (Str×Int))(te:aG):aG:=λρ Q=>te ρ λx _=>∃s,x = .str s/\Q (Core.F6 (ds.lookup s)) .fr
theorem bn7 (ds:List (Str×Int))(s:Str):(fE (pH ds) (.inr s)).getD .non=(match ds.lookup s with|some i=>V.int i|none=>V.non):=by
 induction ds with
 |nil=>rfl
 |cons p r ih=>
  obtain⟨x,i⟩:=p
  rw[bL1];by_cases e:s=x
  ·subst e
   rw[show (s==s)=true from bJ8 s];show (Option.map _ (List.find? _ (_::_))).getD _=_;rw[List.find?_cons_of_pos (by exact bG5 rfl)];rfl
  ·rw[show (s==x)=false from bM4.mpr e]
   show (Option.map _ (List.find? _ (_::_))).getD _=_;rw[List.find?_cons_of_neg (by simp;exact λz=>e z.symm)];exact ih
theorem bn8 {σ:St}{H:Hp}{Q':VK}{ds:List (Str×Int)}(h:LE X (K2 ds te) σ H Q'):ao0 (pH ds) (LE X te) σ H Q':=by
 obtain⟨W,ρ,Q,px,q,k⟩:=h
 refine⟨W,ρ,_,px,q,?_⟩;rintro v H1 x g s r ⟨t,rfl,q⟩;cases r;refine⟨.inr t,rfl,?_⟩;rw[bn7];cases e:ds.lookup t with
 |none=>rw[e]at q;exact k _ _ _ _ s .non q
 |some i=>rw[e]at q;exact k _ _ _ _ s (.int i) q
theorem bn9 {x:Str}{xp ai aj:Pos}{ds:List (Str×Int)}(hd:KD X.prog X.w X.K X.mg x (pH ds))(he:QE X e te)(hg:Gl X x:=by rfl)(m:M1 X (.Name x xp) "get" ai e aj:=by exact⟨rfl,rfl,rfl,rfl⟩)(hx:(x==("__debug__":Str))=false:=by decide):QE X (.Call (.Attribute (.Name x xp) "get" ai) [e] [] aj) (K2 ds te):=
 bX (bn4 hg hd he m hx) λ_ _ _=>bn8
def K3:PV->Tg->PV->Tg->PK->Prop:=λx _ y _ Q=>∃(i:Int) (o:Option Int),x=Core.F6 o/\y = .int i/\Q (.bl (!decide (o=some i))) .fr
theorem bo0:dU X K3 xI:=by
 rintro W Hs H u v x y g g' Q Q' s n r1 r2 ⟨i,o,rfl,rfl,q⟩ k;cases r2;cases o with
 |none=>
  cases r1
  exact⟨rfl,k _ _ _ .fr (aD.refl _) (.bl true) q⟩
 |some j=>
  cases r1;have e:decide (V.int j=V.int i)=decide (some j=some i):=decide_eq_decide.mpr ⟨λz=>by cases z;rfl,λz=>by cases z;rfl⟩;refine⟨rfl,?_⟩;rw[e];exact k _ _ _ .fr (aD.refl _) (.bl _) q
theorem bo1 (ha:QE X a ta)(hb:QE X b tb):QT X (.Compare a [.NotEq] [b] pos) (aQ (q2 K3 ta tb)):=hG R5 bo0 ha hb (eG _)
end
end PP
namespace Core
open PySem L2 PP
theorem jU:1<=1000:=by decide
theorem fX:2<=1000:=by decide
theorem sF:3<=1000:=by decide
theorem le5:5<=1000:=by decide
inductive lR|light (i:Int)|douse (i:Int)|want (i j:Int)|link (i j:Int)|cut (i j:Int)
def dP:lR->PV
 |.light i=>.tup [.str "light",.int i]
 |.douse i=>.tup [.str "douse",.int i]
 |.want i j=>.tup [.str "want",.int i,.int j]
 |.link i j=>.tup [.str "link",.int i,.int j]
 |.cut i j=>.tup [.str "cut",.int i,.int j]
theorem bo2 (d:lR):flat (dP d)=true:=by cases d<;>rfl
abbrev mm (i j:Int):Int×Int:=(if j<i then j else i,if j>i then j else i)
def tP:lR->PV
 |.light i=>.tup [.str "light",.int i]
 |.douse i=>.tup [.str "douse",.int i]
 |.want i j=>.tup [.str "want",.int i,.int j]
 |.link i j=>.tup [.str "link",.int (mm i j).1,.int (mm i j).2]
 |.cut i j=>.tup [.str "cut",.int (mm i j).1,.int (mm i j).2]
theorem ao2 (d:lR):flat (tP d)=true:=by cases d<;>rfl
def e7 (ws:ag)(ls:aa)(S:ag):lR->Bool
 |.light i=>!inB ws.length i||decide (i∈S)
 |.douse i=>!inB ws.length i||!decide (i∈S)
 |.want i j=>!inB ws.length i||(decide (j<0)||(decide (60<j)||decide (ws.getD i.toNat 0=j)))
 |.link i j=>!inB ws.length i||(!inB ws.length j||(decide (i=j)||decide (mm i j∈ls)))
 |.cut i j=>!inB ws.length i||(!inB ws.length j||(decide (i=j)||!decide (mm i j∈ls)))
def vW (ls:aa)(p:Int×Int)(ls':aa):Prop:=ls'.Perm (ls++[p])/\(ls'.map two).Pairwise (λu v=>HT.dR v u=false)
abbrev bT:=ag×aa×ag
def jV (ws:ag)(ls:aa)(S:ag):lR->bT->Prop
 |.light i,r=>r=(ws,ls,lQ (S++[i]))
 |.douse i,r=>r=(ws,ls,S.filter λz=>!decide (z∈[i]))
 |.want i j,r=>r=(ws.take i.toNat++[j]++ws.drop (i.toNat+1),ls,S)
 |.link i j,r=>∃ls',r=(ws,ls',S)/\vW ls (mm i j) ls'
 |.cut i j,r=>r=(ws,ls.filter λz=>!decide (z∈[mm i j]),S)
def dsP (r:bT):PV:=.tup [bG r.1 r.2.1,.tup (intz r.2.2)]
theorem jV.keeps {ws:ag}{ls:aa}{S:ag}{d:lR}{r:bT}(h:jV ws ls S d r)(st:cJ ws.length S=true)(ok:e7 ws ls S d=false):r.1.length=ws.length/\r.2.1.length<=ls.length+1/\cJ r.1.length r.2.2=true:=by
 cases d with
 |light i=>
  have h:r=_:=h;subst h;unfold e7 at ok;rw[Bool.or_eq_false_iff,Bool.not_eq_false',decide_eq_false_iff_not]at ok;unfold inB at ok;rw[bI4,bH1,bH1]at ok;refine⟨rfl,bU8 _,?_⟩
  obtain⟨p,so⟩:=vT (S++[i])
  refine bm4 (p.nodup_iff.mpr ?_) so λx hx=>?_
  ·exact bN7.mpr ⟨bm3 st,bH7 _ _,λa ha b hb e=>ok.2 (by rw[bF8.mp hb]at e;rw[<- e];exact ha)⟩
  ·rcases bJ0.mp (p.mem_iff.mp hx) with z|z
   ·exact j9.mpr ((jS st).2 x z)
   ·rw[bF8.mp z];exact j9.mpr ok.1
 |douse i=>
  have h:r=_:=h;subst h
  exact⟨rfl,bU8 _,be4 st _⟩
 |want i j=>
  have h:r=_:=h;subst h;unfold e7 at ok;rw[Bool.or_eq_false_iff,Bool.not_eq_false']at ok;have ok:=ok.1;unfold inB at ok;rw[bI4,bH1,bH1]at ok;have e:(ws.take i.toNat++[j]++ws.drop (i.toNat+1)).length=ws.length:=by
   rw[bF4,bF4,bI8,bP4,bJ3];omega
  exact⟨e,bU8 _,by show cJ (ws.take i.toNat++[j]++ws.drop (i.toNat+1)).length S=true;rw[e];exact st⟩
 |link i j=>
  obtain⟨l1,rfl,h⟩:=h
  refine⟨rfl,?_,st⟩
  have:=h.1.length_eq
  rw[bF4,bJ3]at this;exact Nat.le_of_eq this
 |cut i j=>
  have h:r=_:=h;subst h
  exact⟨rfl,Nat.le_succ_of_le (bI9 _ _),st⟩
def sG:bS:=λxs Q=>∃(ls:aa) (p:Int×Int),xs = [.tup (cC ls),.lst [.tup [.int p.1,.int p.2]]]/\ls.length<=10000/\Q (.tup (cC (ls.filter λz=>!decide (z∈[p]))))
def ao3:aT:=(aH (bC 2 (aE vV (a6 (a5 1) aB)))
 (b7 (aE dY (a6 (dH (eC (a5 0)) [none,some 2] (bW 0) (aQ (kB true (a5 0) (a5 1))) (a5 0)) aB))))
theorem bo3:cY ao3 ["hearths","some","gone"] sG:=by
 rintro xs Q ⟨ls,p,rfl,hl,q⟩;refine⟨_,rfl,_,[p],rfl,.inr rfl,bH7 _ _,(by show 1<=4096;decide),trivial,?_⟩;have fp:flat (.tup (cC ls))=true:=by unfold flat;exact lJ ls
 refine⟨_,rfl,cC ls,rfl,λ_=>fp,by rw[rQ];omega,λi acc=>acc=cC ((ls.take i).filter λz=>!decide (z∈[p])),rfl,?_,?_⟩
 ·rintro i z acc hz rfl
  obtain⟨l,rfl,hn⟩:=ah2 hz
  have tk:=iN (p:=λz=>!decide (z∈[p])) hn;refine bm6 ?_;refine⟨_,rfl,_,rfl,_,.inr ⟨i7 [p],i4 l,rfl,rfl,rfl⟩,_,rfl,?_⟩;show if (!(bQ (i7 [p]) (i4 l)).isSome)=true then _ else _
  rw[an2];cases h:decide (l∈[p]) with
  |true=>
   rw[h]at tk;refine aM ?_;show _=cC (List.filter _ (List.take (i+1) ls));rw[tk];exact congrArg cC (bH4 _).symm
  |false=>
   rw[h]at tk;refine aY ⟨_,rfl,trivial,?_⟩;show _=cC (List.filter _ (List.take (i+1) ls));rw[tk,vU];rfl
 ·rintro acc rfl
  rw[rQ,bI5]
  exact⟨⟨_,_,rfl,rfl,lJ _,trivial,q⟩,λns z=>by cases z⟩
def vX:List (Str×Int):=[("light",1),("douse",1),("want",2),("link",2),("cut",2)]
def pI:bS:=λxs Q=>∃d,xs = [dP d]/\Q (tP d)
def ao4:aT:=(aH (bF (aQ (q2 K3 (K2 vX (b5 (a5 0) (qC (.int 0)))) (uT (aE fR (a6 (a5 0) aB)) (qC (.int 1))))) oV bE)
 (aH (bF (fQ (aQ (q2 (dZ false) (b5 (a5 0) (qC (.int 0))) (qC (.str "link")))) (aQ (q2 (dZ false) (b5 (a5 0) (qC (.int 0))) (qC (.str "cut"))))) (b7 (c7 (a6 (b5 (a5 0) (qC (.int 0))) (a6 (aE an0 (a6 (kE (a5 0) (kD (qC (.int 1))) kC) aB)) (a6 (aE an1 (a6 (kE (a5 0) (kD (qC (.int 1))) kC) aB)) aB))))) bE)
 (b7 (aE dY (a6 (a5 0) aB)))))
theorem ao5 {i j M:Int}(h:M∈[i,j])(k:∀x∈[i,j],M<=x):M=(mm i j).1:=by
 have k1:=k i (by simp);have k2:=k j (by simp);show M=if j<i then j else i
 rcases bG0.mp h with e|h
 ·rw[if_neg (by omega)];exact e
 ·have e:=bF8.mp h
  split<;>omega
theorem ao6 {i j M:Int}(h:M∈[i,j])(k:∀x∈[i,j],x<=M):M=(mm i j).2:=by
 have k1:=k i (by simp);have k2:=k j (by simp);show M=if j>i then j else i
 rcases bG0.mp h with e|h
 ·rw[if_neg (by omega)];exact e
 ·have e:=bF8.mp h
  split<;>omega
theorem bo4:cY ao4 ["deed"] pI:=by
 rintro xs Q ⟨d,rfl,q⟩;cases d with
 |light i=>
  refine⟨_,rfl,_,_,_,rfl,rfl,rfl,"light",rfl,_,rfl,_,_,rfl,rfl,_,_,rfl,rfl,1,some 1,rfl,rfl,_,rfl,aM ?_⟩;refine⟨_,rfl,_,_,_,rfl,rfl,rfl,_,_,rfl,rfl,_,rfl,aM ⟨_,rfl,_,_,_,rfl,rfl,rfl,_,_,rfl,rfl,_,rfl,aM ?_⟩⟩
  exact⟨_,rfl,⟨_,_,rfl,rfl,rfl,trivial,q⟩,λns z=>by cases z⟩
 |douse i=>
  refine⟨_,rfl,_,_,_,rfl,rfl,rfl,"douse",rfl,_,rfl,_,_,rfl,rfl,_,_,rfl,rfl,1,some 1,rfl,rfl,_,rfl,aM ?_⟩;refine⟨_,rfl,_,_,_,rfl,rfl,rfl,_,_,rfl,rfl,_,rfl,aM ⟨_,rfl,_,_,_,rfl,rfl,rfl,_,_,rfl,rfl,_,rfl,aM ?_⟩⟩
  exact⟨_,rfl,⟨_,_,rfl,rfl,rfl,trivial,q⟩,λns z=>by cases z⟩
 |want i j=>
  refine⟨_,rfl,_,_,_,rfl,rfl,rfl,"want",rfl,_,rfl,_,_,rfl,rfl,_,_,rfl,rfl,2,some 2,rfl,rfl,_,rfl,aM ?_⟩;refine⟨_,rfl,_,_,_,rfl,rfl,rfl,_,_,rfl,rfl,_,rfl,aM ⟨_,rfl,_,_,_,rfl,rfl,rfl,_,_,rfl,rfl,_,rfl,aM ?_⟩⟩
  exact⟨_,rfl,⟨_,_,rfl,rfl,rfl,trivial,q⟩,λns z=>by cases z⟩
 |link i j=>
  refine⟨_,rfl,_,_,_,rfl,rfl,rfl,"link",rfl,_,rfl,_,_,rfl,rfl,_,_,rfl,rfl,2,some 2,rfl,rfl,_,rfl,aM ?_⟩;refine⟨_,rfl,_,_,_,rfl,rfl,rfl,_,_,rfl,rfl,_,rfl,aY (aY ?_)⟩;refine⟨_,rfl,_,_,_,rfl,rfl,rfl,_,rfl,1,rfl,_,rfl,rfl,.inr ⟨[i,j],rfl,(by simp),λM hm hM=>?_⟩⟩;refine⟨_,rfl,1,rfl,_,rfl,rfl,.inr ⟨[i,j],rfl,(by simp),λN hn hN=>?_⟩⟩;rw[ao5 hm hM,ao6 hn hN]
  exact⟨(by show 3<=1000;decide),rfl,trivial,q⟩
 |cut i j=>
  refine⟨_,rfl,_,_,_,rfl,rfl,rfl,"cut",rfl,_,rfl,_,_,rfl,rfl,_,_,rfl,rfl,2,some 2,rfl,rfl,_,rfl,aM ?_⟩;refine⟨_,rfl,_,_,_,rfl,rfl,rfl,_,_,rfl,rfl,_,rfl,aM ⟨_,rfl,_,_,_,rfl,rfl,rfl,_,_,rfl,rfl,_,rfl,aY ?_⟩⟩;refine⟨_,rfl,_,_,_,rfl,rfl,rfl,_,rfl,1,rfl,_,rfl,rfl,.inr ⟨[i,j],rfl,(by simp),λM hm hM=>?_⟩⟩;refine⟨_,rfl,1,rfl,_,rfl,rfl,.inr ⟨[i,j],rfl,(by simp),λN hn hN=>?_⟩⟩;rw[ao5 hm hM,ao6 hn hN]
  exact⟨(by show 3<=1000;decide),rfl,trivial,q⟩
def vY:fB:=λEp xs Q=>∃ws ls S d,xs = [bG ws ls,.tup (intz S),tP d]/\S.length<63/\(∃i,d = .light i∨d = .douse i)/\(e7 ws ls S d=true->Ep "BadDeed")/\(e7 ws ls S d=false->∀r,jV ws ls S d r->Q (.tup (intz r.2.2)))
def ao7 (Ep:Str->Prop):aT:=(aH (bC 3 (b5 (a5 2) (qC (.int 1))))
 (aH (bF (eB (aQ (aE iO (a6 (a5 0) (a6 (a5 3) aB))))) (iU Ep "BadDeed" (a6 (qC (.str "this is no hearth")) aB)) bE)
 (aH (bF (aQ (gX (q2 (j6 false) (a5 3) (a5 1)) (q2 (dZ false) (b5 (a5 2) (qC (.int 0))) (qC (.str "light"))))) (iU Ep "BadDeed" (a6 (qC (.str "the deed changes nothing")) aB)) bE)
 (aH (bF (aQ (q2 (dZ false) (b5 (a5 2) (qC (.int 0))) (qC (.str "light")))) (b7 (aE dY (a6 (aE F0 (a6 (p9 (a5 1) (c7 (a6 (a5 3) aB))) aB)) aB))) bE)
 (b7 (aE nY (a6 (a5 1) (a6 (eI (a6 (a5 3) aB)) aB))))))))
theorem bo5:mX ao7 ["web","seeds","deed","hearth"] vY:=by
 rintro Ep xs Q ⟨ws,ls,S,d,rfl,hl,⟨i,hd⟩,e,q⟩;have fS:flats (intz S)=true:=cH S;rcases hd with rfl|rfl
 ·refine⟨_,rfl,_,_,_,rfl,rfl,rfl,trivial,?_⟩
  refine⟨_,rfl,_,rfl,ws,ls,i,rfl,_,rfl,?_⟩;unfold e7 at e q;dsimp only at e q;cases h1:inB ws.length i with
  |false=>exact aY ⟨by decide,e (by rw[h1];rfl)⟩
  |true=>
   refine aM ⟨_,rfl,_,rfl,i,S,rfl,rfl,_,rfl,_,_,_,rfl,rfl,rfl,_,_,rfl,rfl,.inr ⟨_,_,rfl,rfl,_,rfl,?_⟩⟩;show if decide (decide (i∈S)=true)=true then _ else _
   cases h2:decide (i∈S) with
   |true=>exact aY ⟨by decide,e (by rw[h2,Bool.or_true])⟩
   |false=>
    refine aM ⟨_,rfl,_,_,_,rfl,rfl,rfl,_,_,rfl,rfl,_,rfl,aY ?_⟩;refine⟨_,rfl,_,rfl,jU,rfl,_,_,rfl,rfl,fS,rfl,(by rw[bO];show S.length+1<=16000000;omega),_,S++[i],rfl,?_,(by rw[bF4];show S.length+1<64;omega),λms pm so=>⟨⟨_,_,rfl,rfl,cH ms,trivial,?_⟩,λns z=>by cases z⟩⟩
    ·show some (intz S++[PV.int i])=_
     rw[eM];rfl
    ·rw[am6 pm so]
     exact q (by rw[h1,h2];rfl) _ rfl
 ·refine⟨_,rfl,_,_,_,rfl,rfl,rfl,trivial,?_⟩
  refine⟨_,rfl,_,rfl,ws,ls,i,rfl,_,rfl,?_⟩;unfold e7 at e q;dsimp only at e q;cases h1:inB ws.length i with
  |false=>exact aY ⟨by decide,e (by rw[h1];rfl)⟩
  |true=>
   refine aM ⟨_,rfl,_,rfl,i,S,rfl,rfl,_,rfl,_,_,_,rfl,rfl,rfl,_,_,rfl,rfl,.inr ⟨_,_,rfl,rfl,_,rfl,?_⟩⟩;show if decide (decide (i∈S)=false)=true then _ else _
   cases h2:decide (i∈S) with
   |false=>exact aY ⟨by decide,e (by rw[h2];exact Bool.or_true _)⟩
   |true=>
    refine aM ⟨_,rfl,_,_,_,rfl,rfl,rfl,_,_,rfl,rfl,_,rfl,aM ?_⟩;refine⟨_,rfl,_,rfl,jU,rfl,_,S,_,[i],rfl,.inl rfl,.inr rfl,by omega,jU,trivial,?_⟩;exact q (by rw[h1,h2];rfl) _ rfl
def vZ:fB:=λEp xs Q=>∃ws ls S i j,xs = [bG ws ls,tP (.want i j)]/\ws.length<=1000/\(e7 ws ls S (.want i j)=true->Ep "BadDeed")/\(e7 ws ls S (.want i j)=false->∀r,jV ws ls S (.want i j) r->Q (.tup (intz r.1)))
def ao8 (Ep:Str->Prop):aT:=(aH (bC 2 (b5 (a5 1) (qC (.int 1))))
 (aH (bC 3 (b5 (a5 1) (qC (.int 2))))
 (aH (bF (fQ (eB (aQ (aE iO (a6 (a5 0) (a6 (a5 2) aB))))) (fQ (aQ (kF (a5 3) (qC (.int 0)))) (aQ (A7 (a5 3) (qC (.int 60)))))) (iU Ep "BadDeed" (a6 (qC (.str "this is no hearth, or no want")) aB)) bE)
 (aH (bF (aQ (gX (b5 (b5 (a5 0) (qC (.int 0))) (a5 2)) (a5 3))) (iU Ep "BadDeed" (a6 (qC (.str "the deed changes nothing")) aB)) bE)
 (b7 (p9 (p9 (kE (b5 (a5 0) (qC (.int 0))) kC (kD (a5 2))) (c7 (a6 (a5 3) aB))) (kE (b5 (a5 0) (qC (.int 0))) (kD (gW (a5 2) (qC (.int 1)))) kC)))))))
theorem bo6 {n:Nat}{i:Int}:inB n i=true↔0<=i/\i<(n:Int):=by
 unfold inB;rw[bI4,bH1,bH1]
theorem bo7 {ws:ag}{i:Int}(h:0<=i):eY (intz ws) none (some i)=intz (ws.take i.toNat)/\eY (intz ws) (some (i+1)) none=intz (ws.drop (i.toNat+1)):=by
 refine⟨G5 h,?_⟩;rw[bb2 ws (show (0:Int)<=i+1 by omega),show (i+1).toNat=i.toNat+1 by omega]
theorem bo8:mX ao8 ["web","deed","hearth","want"] vZ:=by
 rintro Ep xs Q ⟨ws,ls,S,i,j,rfl,hl,e,q⟩;refine⟨_,rfl,_,_,_,rfl,rfl,rfl,trivial,?_⟩;refine⟨_,rfl,_,_,_,rfl,rfl,rfl,trivial,?_⟩;refine⟨_,rfl,_,rfl,ws,ls,i,rfl,_,rfl,?_⟩;unfold e7 at e q;dsimp only at e q;cases h1:inB ws.length i with
 |false=>exact aY (aY ⟨by decide,e (by rw[h1];rfl)⟩)
 |true=>
  rw[h1]at e q
  obtain⟨i0,i1⟩:=bo6.mp h1
  refine aM ⟨_,rfl,_,_,rfl,rfl,_,rfl,?_⟩;show if decide (j<0)=true then _ else _
  cases h2:decide (j<0) with
  |true=>exact aY (aY ⟨by decide,e (by rw[h2];rfl)⟩)
  |false=>
   rw[h2]at e q;refine aM ⟨_,rfl,_,_,rfl,rfl,_,rfl,?_⟩;show if decide (60<j)=true then _ else _
   cases h3:decide (60<j) with
   |true=>exact aY ⟨by decide,e (by rw[h3];rfl)⟩
   |false=>
    rw[h3]at e q;refine aM ⟨_,rfl,_,_,_,rfl,rfl,rfl,_,rfl,_,_,_,rfl,rfl,mR i0 i1,_,rfl,.inl ⟨_,_,rfl,rfl,_,rfl,?_⟩⟩;show if decide (ws.getD i.toNat 0=j)=true then _ else _
    cases h4:decide (ws.getD i.toNat 0=j) with
    |true=>exact aY ⟨by decide,e (by rw[h4];rfl)⟩
    |false=>
     obtain⟨c1,c2⟩:=bo7 (ws:=ws) i0
     have r1:uS (.tup (intz ws)) (eY (intz ws) none (some i)) = .tup (intz (ws.take i.toNat)):=by rw[c1];rfl
     have r2:uS (.tup (intz ws)) (eY (intz ws) (some (i+1)) none) = .tup (intz (ws.drop (i.toNat+1))):=by rw[c2];rfl
     refine aM ⟨_,rfl,_,_,_,rfl,rfl,rfl,_,rfl,_,rfl,intz ws,rfl,cH ws,_,rfl,jU,rfl,_,_,r1,rfl,cH _,rfl,?_,_,rfl,_,_,_,rfl,rfl,rfl,_,rfl,_,_,rfl,rfl,_,rfl,intz ws,rfl,cH ws,_,_,rfl,r2,?_,cH _,?_,trivial,?_⟩
     ·rw[bO,bI8];show min _ _+1<=16000000;omega
     ·show flats (intz (ws.take i.toNat)++intz [j])=true
      rw[<- eM];exact cH _
     ·rw[bF4,bO,bO,bI8,bP4];show min _ _+1+_<=16000000;omega
     ·have:=q (by rw[h4];rfl) _ rfl
      dsimp only at this;rw[eM,eM]at this;exact this
def w4:fB:=λEp xs Q=>∃ws ls S d,xs = [bG ws ls,tP d]/\ls.length<=62/\(∃i j,d = .link i j∨d = .cut i j)/\(e7 ws ls S d=true->Ep "BadDeed")/\(e7 ws ls S d=false->∀r,jV ws ls S d r->Q (.tup (cC r.2.1)))
def ao9 (Ep:Str->Prop):aT:=(aH (bC 2 (kE (a5 1) (kD (qC (.int 1))) kC))
 (aH (bF (fQ (eB (aQ (aE iO (a6 (a5 0) (a6 (b5 (a5 2) (qC (.int 0))) aB))))) (fQ (eB (aQ (aE iO (a6 (a5 0) (a6 (b5 (a5 2) (qC (.int 1))) aB))))) (aQ (gX (b5 (a5 2) (qC (.int 0))) (b5 (a5 2) (qC (.int 1))))))) (iU Ep "BadDeed" (a6 (qC (.str "these are no two hearths")) aB)) bE)
 (aH (bF (aQ (gX (q2 vR (a5 2) (b5 (a5 0) (qC (.int 1)))) (q2 (dZ false) (b5 (a5 1) (qC (.int 0))) (qC (.str "link"))))) (iU Ep "BadDeed" (a6 (qC (.str "the deed changes nothing")) aB)) bE)
 (aH (bF (aQ (q2 (dZ false) (b5 (a5 1) (qC (.int 0))) (qC (.str "link")))) (b7 (aE dY (a6 (aE pG (a6 (p9 (b5 (a5 0) (qC (.int 1))) (c7 (a6 (a5 2) aB))) aB)) aB))) bE)
 (b7 (aE sG (a6 (b5 (a5 0) (qC (.int 1))) (a6 (eI (a6 (a5 2) aB)) aB))))))))
theorem bo9 (n:Nat)(i j:Int):(!inB n (mm i j).1||(!inB n (mm i j).2||decide ((mm i j).1=(mm i j).2)))=(!inB n i||(!inB n j||decide (i=j))):=by
 show (!inB n (if j<i then j else i)||(!inB n (if j>i then j else i)||decide ((if j<i then j else i)=(if j>i then j else i))))=_;by_cases h:j<i
 ·rw[if_pos h,if_neg (by omega),bF9 (show ¬j=i by omega),bF9 (show ¬i=j by omega)]
  cases inB n j<;>cases inB n i<;>rfl
 ·rw[if_neg h]
  by_cases k:j>i
  ·rw[if_pos k]
  ·rw[if_neg k]
   have:i=j:=by omega
   subst this;rfl
theorem bp0 {ls:aa}{p:Int×Int}{Q:PV->Prop}(hl:ls.length<=62)(q:∀ls',vW ls p ls'->Q (.lst (cC ls'))):pG [.tup (cC ls++[.tup [.int p.1,.int p.2]])] Q:=by
 refine⟨(ls++[p]).map two,.inr ?_,?_,?_,λzs pm so=>?_⟩
 ·show [PV.tup (cC ls++_)] = [PV.tup ((List.map two (ls++[p])).map λr=>PV.tup (intz r))]
  rw[<- p7,vU];rfl
 ·rw[bF1,bF4];show ls.length+1<64;omega
 ·intro y hy
  obtain⟨l,_,rfl⟩:=bI7.mp hy
  exact λz=>by cases z
 ·obtain⟨ls',rfl,pm2⟩:=ah8 pm
  show Q (.lst ((ls'.map two).map λr=>PV.tup (intz r)));rw[<- p7];exact q ls' ⟨pm2,so⟩
section
variable {ws:ag}{ls:aa}{Ep:Str→Prop}{E:iG}{w:Str}{p:Int×Int}
def ap0 (Ep:Str->Prop):aT:=(aH (bF (aQ (gX (q2 vR (a5 2) (b5 (a5 0) (qC (.int 1)))) (q2 (dZ false) (b5 (a5 1) (qC (.int 0))) (qC (.str "link"))))) (iU Ep "BadDeed" (a6 (qC (.str "the deed changes nothing")) aB)) bE)
 (aH (bF (aQ (q2 (dZ false) (b5 (a5 1) (qC (.int 0))) (qC (.str "link")))) (b7 (aE dY (a6 (aE pG (a6 (p9 (b5 (a5 0) (qC (.int 1))) (c7 (a6 (a5 2) aB))) aB)) aB))) bE)
 (b7 (aE sG (a6 (b5 (a5 0) (qC (.int 1))) (a6 (eI (a6 (a5 2) aB)) aB))))))
theorem bp1 (hl:ls.length<=62)(hw:w="link"∨w="cut")(e:decide (p∈ls)=decide (w="link")->Ep "BadDeed")(q1:w="link"->decide (p∈ls)=false->∀ls',vW ls p ls'->E.rt (.tup (cC ls')))(q2:w="cut"->decide (p∈ls)=true->E.rt (.tup (cC (ls.filter λz=>!decide (z∈[p]))))) :
  ap0 Ep E [some (.sh true (bG ws ls)),some (.sh true (.tup [.str w,.int p.1,.int p.2])),some (.sh true (.tup [.int p.1,.int p.2]))]:=by
 have fl:flats (cC ls)=true:=lJ ls;refine⟨_,rfl,_,rfl,_,_,_,rfl,rfl,rfl,two p,ls.map two,rfl,(by rw[<- p7];rfl),_,rfl,_,_,_,rfl,rfl,rfl,_,_,rfl,rfl,.inr ⟨_,_,rfl,rfl,_,rfl,?_⟩⟩;show if decide (decide (two p∈ls.map two)=decide (w="link"))=true then _ else _
 rw[bm1];by_cases h:decide (p∈ls)=decide (w="link")
 ·rw[bG5 h]
  exact aY ⟨by decide,e h⟩
 ·rw[bF9 h]
  refine aM ⟨_,rfl,_,_,_,rfl,rfl,rfl,_,_,rfl,rfl,_,rfl,?_⟩;show if decide (w="link")=true then _ else _
  rcases hw with rfl|rfl
  ·have h2:decide (p∈ls)=false:=by
    cases z:decide (p∈ls) with
    |false=>rfl
    |true=>exact absurd (by rw[z];rfl) h
   refine aY ⟨_,rfl,_,_,_,rfl,rfl,rfl,_,rfl,jU,rfl,_,_,rfl,rfl,fl,rfl,?_,?_⟩
   ·rw[bF1];show ls.length+1<=16000000;omega
   ·dsimp only[aB]
    exact bp0 (p:=p) hl λls' k=>⟨⟨_,_,rfl,rfl,lJ ls',trivial,q1 rfl h2 ls' k⟩,λns z=>by cases z⟩
  ·have h2:decide (p∈ls)=true:=by
    cases z:decide (p∈ls) with
    |true=>rfl
    |false=>exact absurd (by rw[z];rfl) h
   exact aM ⟨_,rfl,_,_,_,rfl,rfl,rfl,_,rfl,jU,rfl,ls,p,rfl,by omega,trivial,q2 rfl h2⟩
end
theorem bp2:mX ao9 ["web","deed","link"] w4:=by
 rintro Ep xs Q ⟨ws,ls,S,d,rfl,hl,⟨i,j,hd⟩,e,q⟩
 obtain⟨w,hw,ed,eb,eq⟩:∃w:Str,(w="link"∨w="cut")/\tP d = .tup [.str w,.int (mm i j).1,.int (mm i j).2]/\e7 ws ls S d=((!inB ws.length i||(!inB ws.length j||decide (i=j)))||decide (decide (mm i j∈ls)=decide (w="link")))/\
   ((w="link"->∀ls',vW ls (mm i j) ls'->jV ws ls S d (ws,ls',S))/\(w="cut"->jV ws ls S d (ws,ls.filter λz=>!decide (z∈[mm i j]),S))):=by
  rcases hd with rfl|rfl
  ·refine⟨"link",.inl rfl,rfl,?_,λ_ ls' h=>⟨ls',rfl,h⟩,λz=>absurd z (by decide)⟩
   unfold e7;dsimp only;cases decide (mm i j∈ls)<;>cases inB ws.length i<;>cases inB ws.length j<;>cases decide (i=j)<;>rfl
  ·refine⟨"cut",.inr rfl,rfl,?_,λz=>absurd z (by decide),λ_=>rfl⟩
   unfold e7;dsimp only;cases decide (mm i j∈ls)<;>cases inB ws.length i<;>cases inB ws.length j<;>cases decide (i=j)<;>rfl
 rw[ed];rw[<- bo9]at eb;rw[eb]at e q;clear eb ed hd;generalize mm i j=p at e q eq
 obtain⟨a,b⟩:=p
 refine⟨_,rfl,1,rfl,_,rfl,rfl,trivial,?_⟩;refine⟨_,rfl,_,rfl,_,_,_,rfl,rfl,rfl,ws,ls,a,rfl,_,rfl,?_⟩;dsimp only at e q;cases h1:inB ws.length a with
 |false=>exact aY (aY ⟨by decide,e (by rw[h1];rfl)⟩)
 |true=>
  rw[h1]at e q;refine aM ⟨_,rfl,_,rfl,_,_,_,rfl,rfl,rfl,ws,ls,b,rfl,_,rfl,?_⟩;cases h2:inB ws.length b with
  |false=>exact aY (aY ⟨by decide,e (by rw[h2];rfl)⟩)
  |true=>
   rw[h2]at e q;refine aM ⟨_,rfl,_,_,_,rfl,rfl,rfl,_,rfl,_,_,_,rfl,rfl,rfl,.inl ⟨_,_,rfl,rfl,_,rfl,?_⟩⟩;show if decide (a=b)=true then _ else _
   cases h3:decide (a=b) with
   |true=>exact aY ⟨by decide,e (by rw[h3];rfl)⟩
   |false=>
    rw[h3]at e q;have fw:flat (bG ws ls)=true:=p6 ws ls;refine aM ?_;show ap0 Ep _ [some (.sh (flat (bG ws ls)) (bG ws ls)),_,_];rw[fw];refine bp1 (p:=(a,b)) hl hw (λz=>e ?_) (λhw z ls' k=>q ?_ _ (eq.1 hw ls' k)) (λhw z=>q ?_ _ (eq.2 hw))
    ·rw[bG5 z];rfl
    ·rw[z,hw];rfl
    ·rw[z,hw];rfl
def w5:fB:=λEp xs Q=>∃ws ls x S d,xs = [bG ws ls,x,dP d]/\eN x S/\S.length<=1000/\ws.length<=60/\ls.length<=62/\(cJ ws.length S=false->Ep "BadSet")/\(cJ ws.length S=true->(e7 ws ls S d=true->Ep "BadDeed")/\(e7 ws ls S d=false->∀r,jV ws ls S d r->Q (dsP r)))
def ap1 (Ep:Str->Prop):aT:=(aH (bC 3 (kH Ep mY (a6 (a5 0) (a6 (a5 1) aB))))
 (aH (bC 4 (aE pI (a6 (a5 2) aB)))
 (aH (bF (fQ (aQ (q2 (dZ false) (b5 (a5 4) (qC (.int 0))) (qC (.str "light")))) (aQ (q2 (dZ false) (b5 (a5 4) (qC (.int 0))) (qC (.str "douse"))))) (b7 (c7 (a6 (a5 0) (a6 (kH Ep vY (a6 (a5 0) (a6 (a5 3) (a6 (a5 4) aB)))) aB)))) bE)
 (aH (bF (aQ (q2 (dZ false) (b5 (a5 4) (qC (.int 0))) (qC (.str "want")))) (b7 (c7 (a6 (c7 (a6 (kH Ep vZ (a6 (a5 0) (a6 (a5 4) aB))) (a6 (b5 (a5 0) (qC (.int 1))) aB))) (a6 (a5 3) aB)))) bE)
 (b7 (c7 (a6 (c7 (a6 (b5 (a5 0) (qC (.int 0))) (a6 (kH Ep w4 (a6 (a5 0) (a6 (a5 4) aB))) aB))) (a6 (a5 3) aB))))))))
theorem sH {ws ws':ag}{ls:aa}{S:ag}:flats [bG ws ls,.tup (intz S)]=true:=by
 show (flat (bG ws ls)&&(flat (.tup (intz S))&&true))=true;rw[p6,fV];rfl
theorem K4 (ws:ag)(ls:aa):flats [PV.tup (intz ws),.tup (cC ls)]=true:=E6 ws ls
theorem bp3:mX ap1 ["web","seeds","deed","chosen","told"] w5:=by
 rintro Ep xs Q ⟨ws,ls,x,S,d,rfl,hx,hS,hw,hl,e1,e2⟩;refine⟨_,rfl,_,rfl,ws,ls,x,S,rfl,hx,hS,λst=>⟨trivial,?_⟩,e1⟩
 obtain⟨e,q⟩:=e2 st
 have sl:=mS st;refine⟨_,rfl,d,rfl,trivial,?_⟩;cases d with
 |light i=>
  refine⟨_,rfl,_,_,_,rfl,rfl,rfl,_,_,rfl,rfl,_,rfl,aY (aY ?_)⟩;refine⟨_,rfl,_,rfl,_,rfl,_,rfl,ws,ls,S,.light i,rfl,by omega,⟨i,.inl rfl⟩,e,λg r k=>⟨fX,sH (ws':=ws),trivial,?_⟩⟩;have k2:r=_:=k;subst k2;exact q g _ k
 |douse i=>
  refine⟨_,rfl,_,_,_,rfl,rfl,rfl,_,_,rfl,rfl,_,rfl,aM ⟨_,rfl,_,_,_,rfl,rfl,rfl,_,_,rfl,rfl,_,rfl,aY ?_⟩⟩;refine⟨_,rfl,_,rfl,_,rfl,_,rfl,ws,ls,S,.douse i,rfl,by omega,⟨i,.inr rfl⟩,e,λg r k=>⟨fX,sH (ws':=ws),trivial,?_⟩⟩;have k2:r=_:=k;subst k2;exact q g _ k
 |want i j=>
  refine⟨_,rfl,_,_,_,rfl,rfl,rfl,_,_,rfl,rfl,_,rfl,aM ⟨_,rfl,_,_,_,rfl,rfl,rfl,_,_,rfl,rfl,_,rfl,aM ?_⟩⟩;refine⟨_,rfl,_,_,_,rfl,rfl,rfl,_,_,rfl,rfl,_,rfl,aY ?_⟩;refine⟨_,rfl,_,rfl,ws,ls,S,i,j,rfl,by omega,e,λg r k=>⟨_,rfl,_,_,_,rfl,rfl,rfl,fX,?_,_,rfl,fX,?_,trivial,?_⟩⟩
  ·exact K4 _ _
  ·exact sH (ws':=ws)
  ·have k2:r=_:=k
   subst k2;exact q g _ k
 |link i j=>
  refine⟨_,rfl,_,_,_,rfl,rfl,rfl,_,_,rfl,rfl,_,rfl,aM ⟨_,rfl,_,_,_,rfl,rfl,rfl,_,_,rfl,rfl,_,rfl,aM ?_⟩⟩;refine⟨_,rfl,_,_,_,rfl,rfl,rfl,_,_,rfl,rfl,_,rfl,aM ?_⟩;refine⟨_,rfl,_,_,_,rfl,rfl,rfl,_,rfl,_,rfl,ws,ls,S,.link i j,rfl,hl,⟨i,j,.inl rfl⟩,e,λg r k=>⟨fX,?_,_,rfl,fX,?_,trivial,?_⟩⟩
  ·exact K4 _ _
  ·exact sH (ws':=ws)
  ·obtain⟨l1,rfl,k2⟩:=k
   exact q g _ ⟨l1,rfl,k2⟩
 |cut i j=>
  refine⟨_,rfl,_,_,_,rfl,rfl,rfl,_,_,rfl,rfl,_,rfl,aM ⟨_,rfl,_,_,_,rfl,rfl,rfl,_,_,rfl,rfl,_,rfl,aM ?_⟩⟩;refine⟨_,rfl,_,_,_,rfl,rfl,rfl,_,_,rfl,rfl,_,rfl,aM ?_⟩;refine⟨_,rfl,_,_,_,rfl,rfl,rfl,_,rfl,_,rfl,ws,ls,S,.cut i j,rfl,hl,⟨i,j,.inr rfl⟩,e,λg r k=>⟨fX,?_,_,rfl,fX,?_,trivial,?_⟩⟩
  ·exact K4 _ _
  ·exact sH (ws':=ws)
  ·have k2:r=_:=k
   subst k2;exact q g _ k
def w6:bS:=λxs Q=>∃c m:Int,xs = [.int c,.int m]/\0<=m/\m<=100/\∀d,Q (dP d)
def ap3:aT:=(aH (bC 2 (uT (cT (eL (a5 0) (qC (.int 5))) (gW (a5 1) (qC (.int 2)))) (qC (.int 1))))
 (aH (bC 3 (uT (cT (gW (eL (a5 0) (qC (.int 67))) (a5 0)) (gW (a5 1) (qC (.int 2)))) (qC (.int 1))))
 (aH (bF (aQ (gX (cT (a5 0) (qC (.int 41))) (qC (.int 7)))) (bC 3 (gW (a5 1) (cT (eL (a5 0) (qC (.int 41))) (ac4 (qC (.int 10)) (qC (.int 30)))))) bE)
 (aH (bC 4 (b5 (eI (a6 (qC (.str "light")) (a6 (qC (.str "douse")) (a6 (qC (.str "want")) (a6 (qC (.str "link")) (a6 (qC (.str "cut")) aB)))))) (cT (a5 0) (qC (.int 5)))))
 (aH (bF (fQ (aQ (q2 (dZ false) (a5 4) (qC (.str "light")))) (aQ (q2 (dZ false) (a5 4) (qC (.str "douse"))))) (b7 (c7 (a6 (a5 4) (a6 (a5 2) aB)))) bE)
 (aH (bF (aQ (q2 (dZ false) (a5 4) (qC (.str "want")))) (b7 (c7 (a6 (a5 4) (a6 (a5 2) (a6 (b5 (eI (a6 (cT (eL (a5 0) (qC (.int 71))) (qC (.int 4))) (a6 (cT (eL (a5 0) (qC (.int 71))) (qC (.int 63))) (a6 (nS (qC (.int 1))) (a6 (qC (.int 60)) (a6 (qC (.int 61)) aB)))))) (cT (eL (a5 0) (qC (.int 7))) (qC (.int 5)))) aB))))) bE)
 (b7 (c7 (a6 (a5 4) (a6 (a5 2) (a6 (a5 3) aB)))))))))))
def ap4:aT:=(aH (bC 4 (b5 (eI (a6 (qC (.str "light")) (a6 (qC (.str "douse")) (a6 (qC (.str "want")) (a6 (qC (.str "link")) (a6 (qC (.str "cut")) aB)))))) (cT (a5 0) (qC (.int 5)))))
 (aH (bF (fQ (aQ (q2 (dZ false) (a5 4) (qC (.str "light")))) (aQ (q2 (dZ false) (a5 4) (qC (.str "douse"))))) (b7 (c7 (a6 (a5 4) (a6 (a5 2) aB)))) bE)
 (aH (bF (aQ (q2 (dZ false) (a5 4) (qC (.str "want")))) (b7 (c7 (a6 (a5 4) (a6 (a5 2) (a6 (b5 (eI (a6 (cT (eL (a5 0) (qC (.int 71))) (qC (.int 4))) (a6 (cT (eL (a5 0) (qC (.int 71))) (qC (.int 63))) (a6 (nS (qC (.int 1))) (a6 (qC (.int 60)) (a6 (qC (.int 61)) aB)))))) (cT (eL (a5 0) (qC (.int 7))) (qC (.int 5)))) aB))))) bE)
 (b7 (c7 (a6 (a5 4) (a6 (a5 2) (a6 (a5 3) aB))))))))
theorem ap5 {j:Int}(h0:0<=j)(h1:j<5):j=0∨j=1∨j=2∨j=3∨j=4:=by omega
theorem ap6 {c m a b:Int}{s4:Option Slot}{Q:PV->Prop}(q:∀d,Q (dP d)):ap4 { nx:=λ_=>Q .non,rt:=Q } [si c,si m,si a,si b,s4]:=by
 have h0:0<=c%5:=bN1 _ (by decide);have h1:c%5<5:=bP2 _ (by decide)
 have cX:∀w:Str,L2.atI [PV.str "light",.str "douse",.str "want",.str "link",.str "cut"] (c%5)=some (.str w)->(∀ρ,ρ = [si c,si m,si a,si b,some (.sh true (.str w))]->(aH (bF (fQ (aQ (q2 (dZ false) (a5 4) (qC (.str "light")))) (aQ (q2 (dZ false) (a5 4) (qC (.str "douse"))))) (b7 (c7 (a6 (a5 4) (a6 (a5 2) aB)))) bE)
 (aH (bF (aQ (q2 (dZ false) (a5 4) (qC (.str "want")))) (b7 (c7 (a6 (a5 4) (a6 (a5 2) (a6 (b5 (eI (a6 (cT (eL (a5 0) (qC (.int 71))) (qC (.int 4))) (a6 (cT (eL (a5 0) (qC (.int 71))) (qC (.int 63))) (a6 (nS (qC (.int 1))) (a6 (qC (.int 60)) (a6 (qC (.int 61)) aB)))))) (cT (eL (a5 0) (qC (.int 7))) (qC (.int 5)))) aB))))) bE)
 (b7 (c7 (a6 (a5 4) (a6 (a5 2) (a6 (a5 3) aB))))))) { nx:=λ_=>Q .non,rt:=Q } ρ)->ap4 { nx:=λ_=>Q .non,rt:=Q } [si c,si m,si a,si b,s4]:=λw hw k=>
  ⟨by decide,rfl,_,rfl,_,_,rfl,rfl,(by show (0:Int)<5;decide),_,_,_,rfl,rfl,hw,trivial,k _ rfl⟩
 have k0:0<=c/7%5:=bN1 _ (by decide);have k1:c/7%5<5:=bP2 _ (by decide);rcases ap5 h0 h1 with e|e|e|e|e
 ·refine cX "light" (by rw[e];rfl) ?_
  rintro ρ rfl
  exact⟨_,rfl,_,_,rfl,rfl,_,rfl,aY (aY ⟨_,rfl,_,rfl,fX,rfl,trivial,q (.light a)⟩)⟩
 ·refine cX "douse" (by rw[e];rfl) ?_
  rintro ρ rfl
  exact⟨_,rfl,_,_,rfl,rfl,_,rfl,aM ⟨_,rfl,_,_,rfl,rfl,_,rfl,aY ⟨_,rfl,_,rfl,fX,rfl,trivial,q (.douse a)⟩⟩⟩
 ·refine cX "want" (by rw[e];rfl) ?_
  rintro ρ rfl;refine⟨_,rfl,_,_,rfl,rfl,_,rfl,aM ⟨_,rfl,_,_,rfl,rfl,_,rfl,aM ⟨_,rfl,_,_,rfl,rfl,_,rfl,aY ?_⟩⟩⟩
  obtain⟨z,hz⟩:∃z:Int,L2.atI [PV.int (c/71%4),.int (c/71%63),.int (-1),.int 60,.int 61] (c/7%5)=some (.int z):=by
   rcases ap5 k0 k1 with e|e|e|e|e<;>rw[e]<;>exact⟨_,rfl⟩
  exact⟨_,rfl,_,rfl,_,rfl,_,_,rfl,rfl,⟨by decide,by decide⟩,_,_,rfl,rfl,(by show (0:Int)<4;decide),_,rfl,_,_,rfl,rfl,⟨by decide,by decide⟩,_,_,rfl,rfl,(by show (0:Int)<63;decide),_,rfl,le5,rfl,_,rfl,_,_,rfl,rfl,⟨by decide,by decide⟩,_,_,rfl,rfl,(by show (0:Int)<5;decide),_,_,_,rfl,rfl,hz,sF,rfl,trivial,q (.want a z)⟩
 ·refine cX "link" (by rw[e];rfl) ?_
  rintro ρ rfl
  exact⟨_,rfl,_,_,rfl,rfl,_,rfl,aM ⟨_,rfl,_,_,rfl,rfl,_,rfl,aM ⟨_,rfl,_,_,rfl,rfl,_,rfl,aM ⟨_,rfl,_,rfl,_,rfl,sF,rfl,trivial,q (.link a b)⟩⟩⟩⟩
 ·refine cX "cut" (by rw[e];rfl) ?_
  rintro ρ rfl
  exact⟨_,rfl,_,_,rfl,rfl,_,rfl,aM ⟨_,rfl,_,_,rfl,rfl,_,rfl,aM ⟨_,rfl,_,_,rfl,rfl,_,rfl,aM ⟨_,rfl,_,rfl,_,rfl,sF,rfl,trivial,q (.cut a b)⟩⟩⟩⟩
theorem bp4:cY ap3 ["cell","many","one","other","word"] w6:=by
 rintro xs Q ⟨c,m,rfl,m0,m1,q⟩;have mp:(0:Int)<m+2:=by omega
 refine⟨_,rfl,_,_,rfl,rfl,⟨by decide,by decide⟩,_,rfl,_,_,rfl,rfl,_,_,rfl,rfl,mp,_,_,rfl,rfl,trivial,?_⟩;refine⟨_,rfl,_,_,rfl,rfl,⟨by decide,by decide⟩,_,rfl,_,_,rfl,rfl,_,rfl,_,_,rfl,rfl,_,_,rfl,rfl,mp,_,_,rfl,rfl,trivial,?_⟩;refine⟨_,rfl,_,_,rfl,rfl,(by show (0:Int)<41;decide),.inl ⟨_,_,rfl,rfl,_,rfl,?_⟩⟩;show if decide (c%41=7)=true then _ else _
 cases decide (c%41=7) with
 |false=>exact aM (ap6 q)
 |true=>
  refine aY ⟨_,rfl,_,rfl,_,_,rfl,rfl,⟨by decide,by decide⟩,_,_,rfl,rfl,⟨by decide,by decide,by decide⟩,_,_,rfl,rfl,(by show (0:Int)<10^(30:Int).toNat;decide),_,_,rfl,rfl,trivial,?_⟩;exact ap6 q
def ap7:aT:=(aH (iH 5 (eI aB))
  (aH (e9 (gM (a5 2)) (bW 6)
   (aH (j5 5 (cT (a5 4) (qC (.int 5))))
   (bC 4 (eL (a5 4) (qC (.int 5))))))
  (aH (e9 (gM (a5 2)) (bW 7)
   (e9 (zW (gW (a5 7) (qC (.int 1))) (a5 2)) (bW 8)
    (aH (bF (aQ (gX (cT (a5 4) (qC (.int 2))) (qC (.int 1)))) (j5 3 (c7 (a6 (a5 7) (a6 (a5 8) aB)))) bE)
    (bC 4 (eL (a5 4) (qC (.int 2)))))))
  (b7 (c7 (a6 (aE dY (a6 (a5 5) aB)) (a6 (aE dY (a6 (a5 3) aB)) aB)))))))
def ap8:aT:=(aH (bC 5 (aE dY (a6 (dH (gM (a5 2)) [none,some 0,some 1] (bW 0) iK (cT (aE sD (a6 (a5 1) (a6 (gW (a5 2) (a5 0)) aB))) (qC (.int 4)))) aB)))
 (aH (e9 (gM (rB (qC (.int 2)) (a5 2))) (bW 9)
  (aH (bC 4 (aE sD (a6 (a5 0) (a6 (gW (gW (a5 1) (a5 2)) (a5 9)) aB))))
  (aH (bC 7 (cT (a5 4) (a5 2)))
  (aH (bC 8 (cT (gW (eL (a5 4) (a5 2)) (rB (qC (.int 7)) (a5 4))) (a5 2)))
  (aH (bC 10 (c7 (a6 (aE zT (a6 (a5 7) (a6 (a5 8) aB))) (a6 (aE uJ (a6 (a5 7) (a6 (a5 8) aB))) aB))))
  (bF (qV (aQ (rC (a5 7) (a5 8))) (aQ (q2 J4 (a5 10) (a5 3)))) (j5 3 (a5 10)) bE))))))
 (b7 (c7 (a6 (a5 5) (a6 (aE dY (a6 (aE pG (a6 (a5 3) aB)) aB)) aB))))))
def ap9:aT:=(aH (iH 3 (eI aB))
 (aH (bC 4 (eL (aE jT (a6 (a5 0) (a6 (a5 1) aB))) (qC (.int 2))))
 (aH (bF (qV (aQ (gX (cT (aE jT (a6 (a5 0) (a6 (a5 1) aB))) (qC (.int 2))) (qC (.int 1)))) (aQ (kF (a5 2) (qC (.int 13))))) ap7 bE)
 ap8)))
theorem bp5 {P:ay}{w:ba}{t0 u0 t1 u1 t2 u2 t3 u3 t4 u4:Tok}:∃vs,KV (pH vX) vs/\PySem.KeysOf (dF P w) #[⟨hashStr w "light",.str "light" t0,.int 1 u0⟩,⟨hashStr w "douse",.str "douse" t1,.int 1 u1⟩,⟨hashStr w "want",.str "want" t2,.int 2 u2⟩,⟨hashStr w "link",.str "link" t3,.int 2 u3⟩,⟨hashStr w "cut",.str "cut" t4,.int 2 u4⟩]/\
  PySem.Pairs (dF P w) (#[⟨hashStr w "light",.str "light" t0,.int 1 u0⟩,⟨hashStr w "douse",.str "douse" t1,.int 1 u1⟩,⟨hashStr w "want",.str "want" t2,.int 2 u2⟩,⟨hashStr w "link",.str "link" t3,.int 2 u3⟩,⟨hashStr w "cut",.str "cut" t4,.int 2 u4⟩]:Array DictEntry).toList vs/\(vs.map (·.1)).Nodup:=by
 have k:∀x t,(dF P w).is (.inr x) (.str x t)=true:=O2
 refine⟨[(.inr "light",.int 1 u0),(.inr "douse",.int 1 u1),(.inr "want",.int 2 u2),(.inr "link",.int 2 u3),(.inr "cut",.int 2 u4)],?_,?_,.cons (k _ _) rfl (.cons (k _ _) rfl (.cons (k _ _) rfl (.cons (k _ _) rfl (.cons (k _ _) rfl .nil)))),by show List.Nodup [(.inr "light":aF),.inr "douse",.inr "want",.inr "link",.inr "cut"];decide⟩
 ·exact .cons ⟨rfl,_,rfl⟩ (.cons ⟨rfl,_,rfl⟩ (.cons ⟨rfl,_,rfl⟩ (.cons ⟨rfl,_,rfl⟩ (.cons ⟨rfl,_,rfl⟩ .nil))))
 ·intro e he
  simp only[List.mem_toArray,bG0,bH0,bL4]at he;rcases he with rfl|rfl|rfl|rfl|rfl<;>exact⟨_,k _ _,rfl⟩
end Core
namespace L2
open PySem PySem.Spec PyProof.Rows
def gP (H:Hp)(as:List ax):Hp:=λb=>if b∈as then none else H b
abbrev Cx.off (X:Cx)(as:List ax):Cx:={ X with H₀:=gP X.H₀ as,ex:=as }
section
variable {X:Cx}{ah:List (ax×Obj)}{σ:St}{H:Hp}{s:aw}{as:List ax}
theorem pJ {b:ax}(h:b∈as):gP H as b=none:=by unfold gP;rw[if_pos h]
theorem sI {b:ax}(h:b∉as):gP H as b=H b:=by unfold gP;rw[if_neg h]
theorem w9 {b:ax}{o:HO}(h:gP H as b=some o):H b=some o:=by
 unfold gP at h;split at h
 ·cases h
 ·exact h
def pK:HO->Bool
 |.tup _=>false
 |.frz _ _=>false
 |.tbl _=>false
 |_=>true
theorem a7.off (I:a7 X ah σ H s)(he:X.ex = [])(ha:∀b∈as,(∃o,X.H₀ b=some o)/\∃o,H b=some o):a7 (X.off as) ah σ H s:=by
 have ok:=I.ok;have tr:∀{b},b∈as->X.H₀ b≠none:=λ{b} h z=>by obtain⟨⟨o,e⟩,_⟩:=ha b h;rw[z]at e;cases e
 have out:∀{b},gP X.H₀ as b=none->b∉as->X.H₀ b=none:=λ{b} e n=>by rw[sI n]at e;exact e
 have no:∀{b},X.H₀ b=none->gP X.H₀ as b=none:=λ{b} e=>by
  by_cases z:b∈as
  ·exact pJ z
  ·rw[sI z];exact e
 have nex:∀b:ax,b∉X.ex:=λb z=>by rw[he]at z;cases z
 refine⟨⟨ok.mod,ok.kind,ok.glob,ok.blt,ok.above,ok.inj,ok.has,ok.cab,ok.hd,ok.frames,ok.stk,λb hb=>⟨?_,λx c e z=>?_⟩,λb o e=>⟨(ok.bs b o e).1,no (ok.bs b o e).2⟩,ok.bsz,λb o e z=>tr z (ok.bs b o e).2,λb hb z=>tr hb (ok.frf b z),ok.funs,λb hb=>no (ok.frf b hb)⟩,I.os,I.bare,
  ⟨λb o e n hb hx=>I.base.keep b o e (out n hx) hb (nex b),λb o e n hb hx=>I.base.slot b o e (out n hx) hb (nex b),λb o e n hx=>I.base.free b o e (out n hx) (nex b),λb o e _=>I.base.there b o e (nex b),λb xs e=>I.base.tups b xs (w9 e),λb o u e=>I.base.frzs b o u (w9 e),λb ps e=>I.base.tbls b ps (w9 e)⟩,I.loc,I.cell,I.free,I.freeC,I.pin,I.hok,I.len⟩
 ·obtain⟨_,o,e⟩:=ha b hb
  exact λz=>by rw[z,I.free]at e;cases e
 ·obtain⟨_,o,e2⟩:=ha b hb
  rw[<- z,I.freeC x c e]at e2;cases e2
theorem a7.on (ok0:X.Ok)(I:a7 (X.off as) ah σ H s)(he:X.ex = [])(ha:∀b∈as,∃o,X.H₀ b=some o/\pK o=true)(hH:∀b∈as,∃o,H b=some o):a7 X ah σ H s:=by
 have tr:∀{b},X.H₀ b=none->b∉as:=λ{b} z h=>by obtain⟨o,e,_⟩:=ha b h;rw[z]at e;cases e
 have no:∀{b},X.H₀ b=none->gP X.H₀ as b=none:=λ{b} e=>by rw[sI (tr e)];exact e
 have nt:∀{b o},X.H₀ b=some o->pK o=false->gP X.H₀ as b=some o:=λ{b o} e m=>by
  rw[sI λh=>?_]
  ·exact e
  ·obtain⟨o2,e2,m2⟩:=ha b h
   rw[e]at e2;cases e2;rw[m]at m2;cases m2
 refine⟨ok0,I.os,I.bare,⟨λb o e n hb _=>I.base.keep b o e (no n) hb (tr n),λb o e n hb _=>I.base.slot b o e (no n) hb (tr n),λb o e n _=>I.base.free b o e (no n) (tr n),λb o e _=>?_,λb xs e=>I.base.tups b xs (nt e rfl),λb o u e=>I.base.frzs b o u (nt e rfl),λb ps e=>I.base.tbls b ps (nt e rfl)⟩,I.loc,I.cell,I.free,I.freeC,I.pin,I.hok,I.len⟩;by_cases z:b∈as
 ·obtain⟨u,e2⟩:=hH b z
  exact (I.hok b u e2).at
 ·exact I.base.there b o e z
end
section
variable {X:Cx}{ah:List (ax×Obj)}{σ:St}{H:Hp}{s:aw}{l:ax}{us:List V}
theorem a7.reG {u u':HO}(I:a7 X ah σ H s)(h:H l=some u)(n1:∀xs,u≠.tup xs)(n2:∀y,u≠.own y)(n3:∀o v,u≠.frz o v)(n4:∀ps,u≠.tbl ps)(ok:bY X.prog X.w (upd H l u') s.heap l u'):a7 X ah σ (upd H l u') s:=by
 have own:∀{c y:ax},H c=some (.own y)->c≠l:=λ{c y} q z=>by rw[z,h]at q;exact n2 y (bG9 q)
 have tp:∀{c:ax}{xs:List V},H c=some (.tup xs)->c≠l:=λ{c xs} q z=>by rw[z,h]at q;exact n1 xs (bG9 q)
 refine I.reH (a:=l) (λb n=>aL n) ⟨_,h⟩ (λxs q=>by rw[h]at q;exact n1 xs (bG9 q)) (λo' v q=>by have:=I.base.frzs l o' v q;rw[h]at this;exact n3 _ _ (bG9 this)) (λps q=>by rw[h]at q;exact n4 _ (bG9 q)) λb v q=>?_
 by_cases hb:b=l
 ·subst hb;rw[b6]at q;cases q;exact ok
 ·rw[aL hb]at q
  exact (I.hok b v q).stay (λ_ _ _ q=>q) (λc q=>by rw[aL (own q)];exact q) λc xs q=>by rw[aL (tp q)];exact q
theorem a7.toK (I:a7 X ah σ H s)(h:H l=some (.lst us)):a7 X ah σ (upd H l (PP.kL l us)) s:=by
 refine I.reG h (λ_ z=>by cases z) (λ_ z=>by cases z) (λ_ _ z=>by cases z) (λ_ z=>by cases z) ?_
 obtain⟨hl,its,n,r,e⟩:=(show bY X.prog X.w H s.heap l (.lst us) from I.hok l _ h)
 exact⟨⟨hl,its,n,r,e⟩,⟨_,e⟩,λh1 h2 ⟨hl,its,n,r,e⟩ k=>⟨hl,its,n,r,k _ e⟩⟩
theorem a7.ofK (I:a7 X ah σ H s)(h:H l=some (PP.kL l us)):a7 X ah σ (upd H l (.lst us)) s:=by
 refine I.reG h (λ_ z=>by unfold PP.kL at z;cases z) (λ_ z=>by unfold PP.kL at z;cases z) (λ_ _ z=>by unfold PP.kL at z;cases z) (λ_ z=>by unfold PP.kL at z;cases z) ?_
 obtain⟨⟨hl,its,n,r,e⟩,_⟩:=(show bY X.prog X.w H s.heap l (PP.kL l us) from I.hok l _ h)
 exact⟨hl,its,n,r,e⟩
theorem K5 {H:Hp}{a:ax}{o u:HO}(h:H a=some o):upd (upd H a u) a o=H:=by
 rw[kN]
 funext b
 by_cases e:b=a
 ·subst e;rw[b6,h]
 ·rw[aL e]
abbrev wA (l:ax)(Q:VK):VK:=λv H'=>∃us',H' l=some (.lst us')/\Q v (upd H' l (PP.kL l us'))
theorem K6 {Q:VK}{u:av}{s':aw}(h:EP X ah σ (wA l Q) u s'):EP X ah σ Q u s':=by
 obtain⟨v,H',I',r,us',e,q⟩:=h
 exact⟨v,_,I'.toK e,r,q⟩
theorem jZ.thawK {id:String}{r:V->List V->Hp->VK->Prop}(h:jZ X id r):jZ X id (λx xs H Q=>∃l us,H l=some (PP.kL l us)/\r x xs (upd H l (.lst us)) (wA l Q)):=by
 rintro ah s σ H x xs v us Q I rx rv ⟨l,ws,e,q⟩;exact aN (h ah s σ _ x xs v us _ (I.ofK e) rx rv q) λ_ _ z=>K6 z
theorem cG.thawK {f:av}{r:List V->Hp->VK->Prop}(h:cG X f r):cG X f (λxs H Q=>∃l us,H l=some (PP.kL l us)/\r xs (upd H l (.lst us)) (wA l Q)):=by
 rintro ah s σ H xs us Q I rv ⟨l,ws,e,q⟩;exact aN (h ah s σ _ xs us _ (I.ofK e) rv q) λ_ _ z=>K6 z
theorem gS.thawK {r:R2}(h:gS X r):gS X (λx y H Q=>∃l us,H l=some (PP.kL l us)/\r x y (upd H l (.lst us)) (wA l Q)):=by
 rintro value slice ah s σ H x y v u Q I rx ry ⟨l,ws,e,q⟩ hs;exact aN (h value slice ah s σ _ x y v u _ (I.ofK e) rx ry q hs) λ_ _ z=>K6 z
def aq0 (t:TE):TE:=λσ H Q=>t σ H λv H1=>∃a us,v = .ref a/\H1 a=some (.lst us)/\Q v (upd H1 a (PP.kL a us))
theorem K7 {e:Expr}{t:TE}(h:PE X e t):PE X e (aq0 t):=by
 intro ah s σ H Q I hq;refine aN (h ah s σ H _ I hq) λv s1 h1=>?_
 obtain⟨x,H1,I1,r1,a,us,ex,ea,q⟩:=h1
 exact⟨x,_,I1.toK ea,r1,q⟩
end
section
variable {X:Cx}{o e:Expr}{es:List Expr}{to:TE}{t:TA}{name:Str}{id:String}{ai aj:Pos}{r:V→List V→Hp→VK→Prop}
def sJ (r:V->List V->Hp->VK->Prop)(to:TE)(t:TA):TE:=λσ H Q=>to σ H λx H1=>(∃l us,x = .ref l/\H1 l=some (PP.kL l us))/\t σ H1 λxs H2=>r x xs H2 Q
theorem aq1 (slot:Slot "list" name id)(hty:typeOf (.builtin id)=pure (.type "method_descriptor"))(hm:jZ X id r)(ho:PE X o to)(ha:PA X (e::es) t)(hbase:attributeBase o name X.env (eval o X.env)=eval o X.env:=by rfl)(hfew:((backTo aj (starEach (e::es) X.env)).all (λx=>!x.1)&&(backToKw aj (keywordEach [] X.env)).all (λx=>x.1.isSome)
  &&decide ((e::es).length+([]:List Keyword).length+(if ([]:List Keyword).isEmpty then 0 else 1)<30))=true:=by rfl)(hline:(ai.endLine==aj.line)=true:=by rfl)(hs:starEach (e::es) X.env=(false,eval e X.env)::starEach es X.env:=by rfl)(ar:(backTo aj (starEach es X.env)).any (·.1)=false:=by rfl) :
  PE X (.Call (.Attribute o name ai) (e::es) [] aj) (sJ r to t):=by
 intro ah s σ H Q I h;refine wpAny_Call_method_late hbase hfew hline rfl (aN (ho ah s σ H _ I h) λv s1 ⟨x,H1,I1,r1,⟨l,us,ex,el⟩,q1⟩=>?_);subst ex
 obtain⟨h1,h2⟩:=yB (I1.ofK el) r1 (oK (aU.of b6))
 refine⟨"list",id,bP6,slot,hty,h1,h2,?_⟩;have hA:=ha aj ah s1 σ H1 _ I1 q1;rw[hs]at hA ⊢;refine bQ1 (by show (false||(backTo aj (starEach es X.env)).any (·.1))=false;rw[ar]<;>rfl) (bR9 ?_);exact aN hA λus s2 ⟨vs,H2,I2,r2,q2⟩=>hm ah s2 σ H2 _ vs v us Q I2 r1 r2 q2
def wB (r:V->List V->Hp->VK->Prop)(to:TE):TE:=λσ H Q=>to σ H λx H1=>(∃l us,x = .ref l/\H1 l=some (PP.kL l us))/\r x [] H1 Q
theorem bp6 (slot:Slot "list" name id)(hty:typeOf (.builtin id)=pure (.type "method_descriptor"))(hm:jZ X id r)(ho:PE X o to)(hbase:attributeBase o name X.env (eval o X.env)=eval o X.env:=by rfl)(hline:(ai.endLine==aj.line)=true:=by rfl):PE X (.Call (.Attribute o name ai) [] [] aj) (wB r to):=by
 intro ah s σ H Q I h;refine wpAny_Call_method0_late hbase hline (aN (ho ah s σ H _ I h) λv s1 ⟨x,H1,I1,r1,⟨l,us,ex,el⟩,q1⟩=>?_);subst ex
 obtain⟨h1,h2⟩:=yB (I1.ofK el) r1 (oK (aU.of b6))
 exact⟨"list",id,bP6,slot,hty,h1,h2,bQ1 rfl (PySem.evalArgs_none (hm ah s1 σ H1 _ [] v [] Q I1 r1 .nil q1))⟩
def sK:V->List V->Hp->VK->Prop:=λx vs H Q=>∃l us y,x = .ref l/\vs = [y]/\H l=some (PP.kL l us)/\us.length<sizeLine/\Q .non (upd H l (PP.kL l (us++[y])))
theorem aq2:jZ X "list.append" sK:=by
 rintro ah s σ H x xs v us Q I rx rv ⟨l,ws,y,rfl,rfl,e,hl,q⟩;refine jZ.thawK (r:=yD) qN ah s σ H _ _ v us Q I rx rv ⟨l,ws,e,l,ws,y,rfl,rfl,b6,hl,_,b6,?_⟩;rw[kN,kN];exact q
def wC:V->List V->Hp->VK->Prop:=λx vs H Q=>∃l us y,x = .ref l/\vs = []/\H l=some (PP.kL l us)/\us[us.length-1]? = some y/\Q y (upd H l (PP.kL l us.dropLast))
theorem bp7:jZ X "list.pop" wC:=by
 rintro ah s σ H x xs v us Q I rx rv ⟨l,ws,y,rfl,rfl,e,hl,q⟩;refine jZ.thawK (r:=V2) aJ1 ah s σ H _ _ v us Q I rx rv ⟨l,ws,e,l,ws,y,rfl,rfl,b6,hl,_,b6,?_⟩;rw[kN,kN];exact q
def aq3:R2:=λx y H Q=>∃l us i v,x = .ref l/\y = .int i/\H l=some (PP.kL l us)/\atI us i=some v/\Q v H
theorem bp8:gS X aq3:=by
 rintro value slice ah s σ H x y v u Q I rx ry ⟨l,us,i,w,rfl,rfl,e,hw,q⟩ hs;refine gS.thawK U5 value slice ah s σ H _ _ v u Q I rx ry ⟨l,us,e,.inl ⟨l,us,i,w,rfl,rfl,aU.of b6,hw,_,b6,?_⟩⟩ hs;rw[K5 e];exact q
def bp9:List V->Hp->VK->Prop:=λxs H Q=>∃l us,xs = [.ref l]/\H l=some (PP.kL l us)/\Q (.int us.length) H
theorem bq0:cG X (.builtin "len") bp9:=by
 rintro ah s σ H xs us Q I rv ⟨l,ws,rfl,e,q⟩;refine cG.thawK U9 ah s σ H _ us Q I rv ⟨l,ws,e,l,ws,rfl,.inl (aU.of b6),_,b6,?_⟩;rw[K5 e];exact q
theorem bq1 {a:Expr}{ta:TE}(ha:PE X a ta)(he:∀whole,isTrue a X.env whole=(do let v <- whole;standAt a.pos;holding [v] (truthy v))) :
  PT X a (λσ H Q=>ta σ H λx H'=>∃l us,x = .ref l/\H' l=some (PP.kL l us)/\Q (!us.isEmpty) H'):=by
 intro ah s σ H Q I h;refine isTrue_plain (aN (ha ah s σ H _ I h) λv s1 ⟨x,H1,I1,r1,l,us,ex,el,q1⟩=>?_) (he _);subst ex;refine aN (S3 ah s1 σ _ (.ref l) v (λk H'=>H'=upd H1 l (.lst us)/\k = !us.isEmpty) (I1.ofK el) r1 ⟨!us.isEmpty,.inl ⟨us,aU.of b6,rfl⟩,rfl,rfl⟩) λb s2 z=>?_
 obtain⟨H2,I2,rfl,rfl⟩:=z
 have I3:=I2.toK (l:=l) (us:=us) b6;rw[K5 el]at I3
 exact⟨H1,I3,q1⟩
end
end L2
namespace PP
open PySem L2 PyProof.Rows
structure KC (K:ae)(C:ax):Prop where
 ns:PySem.W.nsIn K mainGlobals "Keeper" = some (some (.ref C))
 cls:gQ K C
 n1:m5 K C "standing"
 n2:m5 K C "undone"
theorem KC.eq {K:ae}{C D:ax}(h:KC K C)(e:PySem.W.nsIn K mainGlobals "Keeper" = some (some (.ref D))):D=C:=by
 have:=e.symm.trans h.ns
 cases this;rfl
def pL (ρ:b8)(i:Nat)(a:ax)(st un:List PV):Prop:=∃g,ρ[i]? = some (some (.kp g (.ob a) [(a,st,un)]))
theorem PX.kp {K:ae}{H0:Hp}{W:ax->Prop}{σ:L2.St}{ρ:b8}{H:Hp}{i:Nat}{a:ax}{st un:List PV}(px:PX K H0 W σ ρ H)(h:pL ρ i a st un):σ[i]? = some (some (.ref a))/\cS K (λ_=>none) H a st un:=by
 obtain⟨g,h⟩:=h
 obtain⟨v,ev,⟨r,_⟩,ks,_⟩:=px.sl i _ h
 cases r
 exact⟨ev,(ks _ bG7).any⟩
section
variable {X:Cx}{σ:L2.St}{H:Hp}{D:bP}{Q':VK}{C:ax}{i:Nat}{te tb:aG}{tr:bV}{a b e:Expr}{es:List Expr}{pos p2 p3 ai:Pos}{x m:Str}
theorem aq4 {K:ae}{M:ax->Prop}{H:Hp}{v:V}{x:PV}(r:aI K (λ_=>False) H v x):aI K M H v x:=r.same (aD.refl _) λ_ z=>z.elim
def wD (i:Nat)(tb:aG):aG:=λρ Q=>∃a st un,pL ρ i a st un/\tb ρ λy _=>∃n z,y = .int n/\L2.atI st n=some z/\Q z .fr
theorem bq2 (kc:KC X.K C)(h:LE X (wD i tb) σ H Q'):oE aq3 (kT X.K (eR i) "standing") (LE X tb) σ H Q':=by
 obtain⟨W,ρ,Q,px,⟨a,st,un,hk,q⟩,k⟩:=h
 obtain⟨ev,C',dx,l1,l2,us1,us2,h1,h2,h3,h4,h5,h6,h7,r1,r2⟩:=px.kp hk
 obtain rfl:=kc.eq h1;refine⟨_,ev,a,_,dx,_,_,rfl,h5,kc.cls,kc.n1,rfl,W,ρ,_,px,q,?_⟩;rintro v H1 y g s r ⟨n,z,rfl,hz,q⟩;cases r
 obtain⟨w,hw,rw⟩:=(r1.same s λ_ z=>z).atI hz
 exact⟨l1,us1,n,w,rfl,rfl,s _ _ h6,hw,k w H1 z .fr s (aq4 rw) q⟩
theorem aq5 (kc:KC X.K C)(i:Nat)(hb:QE X b tb)(hN:X.N[i]? = some x:=by rfl)(hv:cO X.env.scope x:=by first|exact Or.inl rfl|exact Or.inr (Or.inl rfl)|exact Or.inr (Or.inr rfl))(hd:(x==("__debug__":Str))=false:=by decide)(hcd:(x==("__classdict__":Str))=false:=by decide)(hbs:attributeBase (.Name x p2) "standing" X.env (eval (.Name x p2) X.env)=eval (.Name x p2) X.env:=by rfl)(hs:xX b:=by exact λ_ _=>rfl):QE X (.Subscript (.Attribute (.Name x p2) "standing" p3) b pos) (wD i tb):=
 bX (oH bp8 (oF (dM hN hv hd hcd) hbs) hb hs) λ_ _ _=>bq2 kc
def aq6 (i:Nat):aG:=λρ Q=>∃a st un,pL ρ i a st un/\Q (.int st.length) .fr
theorem bq3 (B:Bt X.mg)(kc:KC X.K C)(i:Nat)(hN:X.N[i]? = some x:=by rfl)(hv:cO X.env.scope x:=by first|exact Or.inl rfl|exact Or.inr (Or.inl rfl)|exact Or.inr (Or.inr rfl))(hd:(x==("__debug__":Str))=false:=by decide)(hcd:(x==("__classdict__":Str))=false:=by decide)(hbs:attributeBase (.Name x p2) "standing" X.env (eval (.Name x p2) X.env)=eval (.Name x p2) X.env:=by rfl)(hg:Gl X "len":=by rfl)(he:starEach [.Attribute (.Name x p2) "standing" p3] X.env=(false,eval (.Attribute (.Name x p2) "standing" p3) X.env)::starEach [] X.env:=by rfl)(hpl:(backTo pos (starEach [] X.env)).any (·.1)=false:=by rfl) :
  QE X (.Call (.Name "len" ai) [.Attribute (.Name x p2) "standing" p3] [] pos) (aq6 i):=
 bX (oG bq0 hg B.len PySem.boot_len (d8 (oF (dM hN hv hd hcd) hbs) dO he) (he:=he) (hpl:=hpl)) λσ H Q' h=>by
  obtain⟨W,ρ,Q,px,⟨a,st,un,hk,q⟩,k⟩:=h
  obtain⟨ev,C',dx,l1,l2,us1,us2,h1,h2,h3,h4,h5,h6,h7,r1,r2⟩:=px.kp hk
  obtain rfl:=kc.eq h1;refine⟨_,ev,a,_,dx,_,_,rfl,h5,kc.cls,kc.n1,rfl,l1,us1,rfl,h6,?_⟩;rw[r1.length];exact k _ H _ .fr (aD.refl _) (.int _) q
def aq7 (i:Nat):cN:=λρ Q=>∃a st un,pL ρ i a st un/\Q (!un.isEmpty)
theorem bq4 (kc:KC X.K C)(i:Nat)(hN:X.N[i]? = some x:=by rfl)(hv:cO X.env.scope x:=by first|exact Or.inl rfl|exact Or.inr (Or.inl rfl)|exact Or.inr (Or.inr rfl))(hd:(x==("__debug__":Str))=false:=by decide)(hcd:(x==("__classdict__":Str))=false:=by decide)(hbs:attributeBase (.Name x p2) "undone" X.env (eval (.Name x p2) X.env)=eval (.Name x p2) X.env:=by rfl)(he:∀whole,isTrue (.Attribute (.Name x p2) "undone" p3) X.env whole=(do let v <- whole;standAt (Expr.Attribute (.Name x p2) "undone" p3).pos;holding [v] (truthy v)):=by intro _;rfl) :
  QT X (.Attribute (.Name x p2) "undone" p3) (aq7 i):=
 nU (bq1 (oF (dM hN hv hd hcd) hbs) he) λσ H Q' h=>by
  obtain⟨W,ρ,Q,px,⟨a,st,un,hk,q⟩,k⟩:=h
  obtain⟨ev,C',dx,l1,l2,us1,us2,h1,h2,h3,h4,h5,h6,h7,r1,r2⟩:=px.kp hk
  obtain rfl:=kc.eq h1;refine⟨_,ev,a,_,dx,_,_,rfl,h5,kc.cls,kc.n2,rfl,l2,us2,rfl,h7,?_⟩;rw[uL r2.length];exact k _ H (aD.refl _) q
abbrev eO:=List PV->List PV->fB
def o4 (K:ae)(p:eO):Sp:=λvs H Q E=>∃a us xs st un Qp Ep,vs=V.ref a::us/\cS K (λ_=>none) H a st un/\Reps K (λ_=>True) H us xs/\p st un Ep xs Qp/\(∀v H' x,aD H H'->aI K (λa=>H a=none) H' v x->Qp x->Q v H')/\
 ∀n C H',aD H H'->PySem.W.nsIn K mainGlobals n=some (some (.ref C))->Ep n->E (.ref C) none H'
structure cD (P:ay)(w:ba)(K:ae)(mg:Str->Option av)(base:Heap)(k:Nat)(m:Str)(ps:List Str)(p:eO):Prop where
 ex:∃C f fd,KC K C/\eS K C m f/\bU P w K mg base (bR P w) k f fd ps (o4 K p)/\dQ K fd ps []
def cZ (Ep:Str->Prop)(i:Nat)(p:eO)(t:bV):aG:=λρ Q=>∃a st un,pL ρ i a st un/\t ρ λxs=>p st un Ep (xs.map (·.1)) λz=>Q z .fr
theorem aq8 {p:eO}{Ep:Str->Prop}(kc:KC X.K C)(hl:∀v w:V,([("standing",v),("undone",w)]:List (Str×V)).lookup m=none)(h:LE X (cZ Ep i p tr) σ H Q'):xQ C m (o4 X.K p) [] (EX X.K X.H₀ Ep) (eR i) (LA X tr) σ H Q':=by
 obtain⟨W,ρ,Q,px,⟨a,st,un,hk,q⟩,k⟩:=h
 obtain⟨ev,kp⟩:=px.kp hk
 have kp':=kp
 obtain⟨C',dx,l1,l2,us1,us2,h1,h2,h3,h4,h5,h6,h7,r1,r2⟩:=kp'
 obtain rfl:=kc.eq h1;refine⟨_,ev,a,dx,_,rfl,h5,hl _ _,W,ρ,_,px,q,λvs H1 xs s1 r1 q1=>?_⟩;show o4 X.K p (V.ref a::(vs++[])) H1 Q' (EX X.K X.H₀ Ep);rw[bH4]
 exact⟨a,vs,_,st,un,_,Ep,rfl,kp.keep (.same s1 λ_ z=>z) λ_ _ e _=>s1 _ _ e,r1.any,q1,λv H' x s2 r2 q2=>k v H' x .fr (s1.trans s2) (r2.same (aD.refl _) λ_ z=>s1.free z) q2,λn C H' s2 z1 z2=>⟨rfl,(px.same.trans s1).trans s2,n,C,rfl,z1,z2⟩⟩
theorem dD {X:Cx}:iC (bR X.prog X.w) X (EX X.K X.H₀ λ_=>False):=λ_ _ _ _ _ _ _ h=>by
 obtain⟨_,_,_,_,_,_,_,_,_,_,_,_,z⟩:=h
 exact z.elim
theorem sL {Ep:Str->Prop}{k j:Nat}{ps:List Str}{p:eO}(i:Nat)(hX:iC (bR X.prog X.w) X (EX X.K X.H₀ Ep))(d:cD X.prog X.w X.K X.mg X.base k m ps p)(hr:bJ j X.A)(ha:QA X (e::es) tr)(hkj:k<=j:=by decide)(hl:∀v w:V,([("standing",v),("undone",w)]:List (Str×V)).lookup m=none:=by intro _ _;rfl)(hN:X.N[i]? = some x:=by rfl)(hv:cO X.env.scope x:=by first|exact Or.inl rfl|exact Or.inr (Or.inl rfl)|exact Or.inr (Or.inr rfl))(hd:(x==("__debug__":Str))=false:=by decide)(hcd:(x==("__classdict__":Str))=false:=by decide){pl:Sem Bool}(hst:starEach (e::es) X.env=(false,eval e X.env)::starEach es X.env:=by rfl)(hpl:(backTo pos (starEach es X.env)).any (·.1)=false:=by rfl)(ht:eval (.Call (.Attribute (.Name x p2) m ai) (e::es) [] pos) X.env=(do
   let ov <- eval (.Name x p2) X.env
   standAt ai.atName
   let (f,first) <- holding [ov] (getMethod ov m pl)
   callWith pos f first (backTo pos (starEach (e::es) X.env)) (backToKw pos (keywordEach [] X.env))):=by rfl):QE X (.Call (.Attribute (.Name x p2) m ai) (e::es) [] pos) (cZ Ep i p tr):=by
 obtain⟨C,f,fd,kc,M,F,b⟩:=d.ex
 exact bX (aG2 (pl:=pl) (dM hN hv hd hcd) kc.cls M F (hr.mono hkj) b .nil hX ha hst hpl ht) λ_ _ _=>aq8 kc hl
theorem gG {Ep:Str->Prop}{k j:Nat}{ps:List Str}{p:eO}(i:Nat)(hX:iC (bR X.prog X.w) X (EX X.K X.H₀ Ep))(d:cD X.prog X.w X.K X.mg X.base k m ps p)(hr:bJ j X.A)(hkj:k<=j:=by decide)(hl:∀v w:V,([("standing",v),("undone",w)]:List (Str×V)).lookup m=none:=by intro _ _;rfl)(hN:X.N[i]? = some x:=by rfl)(hv:cO X.env.scope x:=by first|exact Or.inl rfl|exact Or.inr (Or.inl rfl)|exact Or.inr (Or.inr rfl))(hd:(x==("__debug__":Str))=false:=by decide)(hcd:(x==("__classdict__":Str))=false:=by decide){pl:Sem Bool}(ht:eval (.Call (.Attribute (.Name x p2) m ai) [] [] pos) X.env=(do
   let ov <- eval (.Name x p2) X.env
   standAt ai.atName
   let (f,first) <- holding [ov] (getMethod ov m pl)
   callWith pos f first (backTo pos (starEach [] X.env)) (backToKw pos (keywordEach [] X.env))):=by rfl):QE X (.Call (.Attribute (.Name x p2) m ai) [] [] pos) (cZ Ep i p aB):=by
 obtain⟨C,f,fd,kc,M,F,b⟩:=d.ex
 refine bX (aG3 (pl:=pl) (dM hN hv hd hcd) kc.cls M F (hr.mono hkj) b .nil hX ht) λσ H Q' h=>?_
 obtain⟨v,e1,a,dx,fs,e2,e3,e4,q⟩:=aq8 kc hl h
 exact⟨v,e1,a,dx,fs,e2,e3,e4,aa5 q⟩
end
def kK (N:List Str)(a:ax)(st un:List PV)(xs:List PV):b8:=some (.kp false (.ob a) [(a,st,un)])::(xs.map (λx=>some (.sh (flat x) x))++List.replicate (N.length-(xs.length+1)) none)
theorem K8 {K:ae}{H:Hp}{N:List Str}{a:ax}{st un:List PV}{us:List V}{xs:List PV}(hk:cS K (λ_=>none) H a st un)(r:Reps K (λ_=>True) H us xs):PX K H (λ_=>False) (L2.gA N (.ref a::us)) (kK N a st un xs) H:=by
 have lr:=r.length;have own:∀{i:Nat}{m:Slot},(xs.map (λx=>some (Slot.sh (flat x) x))++List.replicate (N.length-(xs.length+1)) none)[i]? = some (some m)->∃x,xs[i]? = some x/\m = .sh (flat x) x:=λ{i m} h=>by
  by_cases hi:i<xs.length
  ·rw[bL5 (by simpa using hi),bG4]at h
   rw[bF3 hi]at h ⊢;cases h
   exact⟨_,rfl,rfl⟩
  ·rw[bO0 (by simpa using hi),List.getElem?_replicate]at h
   split at h<;>cases h
 refine⟨by unfold L2.gA kK;simp[lr],aD.refl _,λa z=>z.elim,λi m h=>?_,λi j x y a h1=>?_⟩
 ·match i,h with
  |0,h=>cases h;exact⟨_,rfl,⟨.ob,rfl⟩,λk hk'=>by rw[bF8.mp hk'];exact hk,bH7 _ _⟩
  |i+1,h=>
   obtain⟨x,hx,rfl⟩:=own h
   obtain⟨v,hv,rx⟩:=r.at hx
   refine⟨v,?_,r6 (g:=false) (rx.same (aD.refl _) λ_ _ z=>z)⟩;have hi:i<us.length:=(bF6.mp hv).1;unfold L2.gA;rw[bL5 (by simpa using hi),bG4,bJ9,hv];rfl
 ·match i,h1 with
  |0,h1=>cases h1
  |i+1,h1=>
   obtain⟨x,_,e⟩:=own h1
   cases e
theorem cD.of {P:ay}{w:ba}{K:ae}{mg:Str->Option av}{base:Heap}{k:Nat}{x qual:Str}{C:ax}{ps N:List Str}{p:eO}{st:Stmt}{f:ax}{fd:FuncData}(kc:KC K C)(M:eS K C x f)(F:cQ K x qual st f fd)(S:FnScope N ps (aS st))(hb:∀(kV doc pm:av) (an:Option ax) (cdv ct:av) (us:List av),us.length=ps.length->bindArgs (PySem.W.fnOf x qual (eV st) (cU st) (aS st) .none kV doc pm an cdv ct) ⟨us,[]⟩=pure (ps.zip us))(t:(Str->Prop)->aT)(len:∀st un Ep xs Q,p st un Ep xs Q->xs.length+1=ps.length)(rd:∀a st un Ep xs Q,p st un Ep xs Q->t Ep { nx:=λ_=>Q .non,rt:=Q } (kK N a st un xs))(body:∀(cdv:av) (A:az) (outer:List Env) (s:aw) (H:Hp) (E:XK) (Ep:Str->Prop),bJ k (A.deeper (envOfC qual (aS st) s.heap.objs.size f cdv))->lI (cP (bR P w) P w K mg base N qual (aS st) f cdv A outer s H E) (EX K H Ep)->
   fG (cP (bR P w) P w K mg base N qual (aS st) f cdv A outer s H E) (cU st) (t Ep)):cD P w K mg base (k+1) x ps p:=by
 refine⟨C,f,fd,kc,M,F.okX S (λvs H Q E h=>?_) (λcdv A outer s H vs Q E hr h=>?_),F.binds hb⟩
 ·obtain⟨a,us,xs,st,un,Qp,Ep,rfl,_,r,q,_⟩:=h
  rw[bH8,r.length];exact len st un Ep xs Qp q
 ·obtain⟨a,us,xs,st,un,Qp,Ep,rfl,hk,r,q,k,ke⟩:=h
  have ht:=body cdv A outer s H E Ep hr (v3 λc d H' z=>?_)
  ·refine⟨_,ht,λ_=>False,kK N a st un xs,_,K8 hk r,rd a st un Ep xs Qp q,?_,?_,?_,?_⟩
   ·exact λW' σ' H' ρ' e px q=>k _ _ _ px.same .non q
   ·exact λv H' x s r q=>k _ _ _ s r q
   ·exact λW' σ' H' ρ' e px q=>q
   ·exact λW' σ' H' ρ' e px q=>q
  ·obtain⟨rfl,s1,n,C,rfl,z1,z2⟩:=z
   exact ke n C H' s1 z1 z2
def pM (H:Hp)(a b:ax):Prop:=b=a∨∃C dx l1 l2,H a=some (.ins C dx [("standing",.ref l1),("undone",.ref l2)])/\(b=l1∨b=l2)
structure fY (H H':Hp)(a:ax):Prop where
 keep:∀b o,H b=some o->¬pM H a b->H' b=some o
 new:∀b,pM H' a b->pM H a b∨H b=none
 dx:∀C D dx dy fs gs,H a=some (.ins C dx fs)->H' a=some (.ins D dy gs)->dy=dx
 th:∀b o,H b=some o->∃o',H' b=some o'
theorem K9 {H:Hp}{l:ax}{o:HO}:∀b u,H b=some u->∃o',upd H l o b=some o':=λb u e=>by
 by_cases z:b=l
 ·rw[z,b6];exact⟨_,rfl⟩
 ·rw[aL z];exact⟨_,e⟩
section
variable {K:ae}{H0 H H' H'':Hp}{a:ax}{st un st' un':List PV}
theorem cS.spot (h:cS K H0 H a st un):∀b,pM H a b->H0 b=none/\∃o,H b=some o/\oN o=true:=by
 obtain⟨C,dx,l1,l2,us1,us2,h1,⟨z1,z2,z3,z4⟩,h3,h4,h5,h6,h7,r1,r2⟩:=h
 rintro b (rfl|⟨C',dx',m1,m2,e,hb⟩)
 ·exact⟨z1,_,h5,rfl⟩
 ·rw[h5]at e;cases e
  rcases hb with rfl|rfl
  ·exact⟨z3,_,h6,rfl⟩
  ·exact⟨z4,_,h7,rfl⟩
theorem fY.trans (h:fY H H' a)(k:fY H' H'' a)(z:cS K (λ_=>none) H' a st un):fY H H'' a:=by
 refine⟨λb o e n=>k.keep b o (h.keep b o e n) λz=>?_,λb z=>?_,λC D dx dy fs gs e1 e2=>?_,λb o e=>let ⟨o1,e1⟩:=h.th b o e;k.th b o1 e1⟩
 ·rcases h.new b z with z|z
  ·exact n z
  ·rw[z]at e;cases e
 ·rcases k.new b z with z|z
  ·exact h.new b z
  ·cases e:H b with
   |none=>exact .inr rfl
   |some o=>
    by_cases w:pM H a b
    ·exact .inl w
    ·have:=h.keep b o e w;rw[z]at this;cases this
 ·obtain⟨C',dx',l1,l2,us1,us2,_,_,_,_,h5,_⟩:=z
  rw[k.dx _ _ _ _ _ _ h5 e2,h.dx _ _ _ _ _ _ e1 h5]
theorem fY.same (s:aD H H')(h:cS K H0 H a st un):fY H H' a:=by
 obtain⟨C,dx,l1,l2,us1,us2,h1,_,h3,h4,h5,h6,h7,r1,r2⟩:=h
 refine⟨λb o e _=>s _ _ e,?_,λC D dx dy fs gs e1 e2=>?_,λb o e=>⟨o,s _ _ e⟩⟩
 ·rintro b (rfl|⟨C',dx',m1,m2,e,hb⟩)
  ·exact .inl (.inl rfl)
  ·rw[s _ _ h5]at e;cases e
   exact .inl (.inr ⟨_,_,_,_,h5,hb⟩)
 ·rw[h5]at e1;rw[s _ _ h5]at e2;cases e1;cases e2;rfl
theorem cS.same (s:aD H H')(h:cS K H0 H a st un):cS K H0 H' a st un:=h.keep (.same s λ_ z=>z) λ_ _ e _=>s _ _ e
theorem aq9 {o:HO}(h:gC o=true):oN o=false:=by cases o<;>first|rfl|cases h
theorem fY.stay (ev:fY H H' a)(k:cS K (λ_=>none) H a st un){b:ax}{o:HO}(e:H b=some o)(f:oN o=false):H' b=some o:=ev.keep b o e λz=>by
 obtain⟨_,o',e',f'⟩:=k.spot b z
 rw[e]at e';cases e';rw[f]at f';cases f'
def i8 (ρ:b8)(i:Nat):Prop:=∀(j:Nat) (g:Bool) (x:PV) (ks:List (ax×List PV×List PV)),j≠i->ρ[j]?≠some (some (.kp g x ks))
theorem PX.mut {W:ax->Prop}{σ:L2.St}{ρ:b8}{i:Nat}(px:PX K H0 W σ ρ H)(hi:ρ[i]? = some (some (.kp true (.ob a) [(a,st,un)])))(nk:i8 ρ i)(ev:fY H H' a)(k':cS K (λ_=>none) H' a st' un') :
  PX K H0 W σ (ρ.set i (some (.kp true (.ob a) [(a,st',un')]))) H'/\Ev W H W H':=by
 obtain⟨v,evv,⟨r,_⟩,ks,_⟩:=px.sl i _ hi
 cases r;have kp:cS K H0 H a st un:=ks _ bG7;have sp0:=kp.spot;have kp0:=kp.any
 obtain⟨C,dx,l1,l2,us1,us2,h1,⟨z1,z2,z3,z4⟩,h3,h4,h5,h6,h7,r1,r2⟩:=kp
 have sty:∀b o,H b=some o->oN o=false->H' b=some o:=λb o e f=>ev.stay kp0 e f
 have E:Ev W H W H':=λb o e n f=>⟨sty b o e f,n⟩
 have tw:∀a,W a->∃o,H a=some o/\gC o=true:=λa z=>(px.wm a z).2
 have nn:∀b,pM H' a b->H0 b=none:=λb z=>(ev.new b z).elim (λw=>(sp0 b w).1) λw=>px.same.free w
 refine⟨⟨by rw[bK3];exact px.len,λb o e=>ev.keep b o (px.same b o e) λz=>(by rw[(sp0 b z).1]at e;cases e),λb z=>?_,λj m h=>?_,λj k x y b h1 h2 h3 h4=>?_⟩,E⟩
 ·obtain⟨w1,o,w2,w3⟩:=px.wm b z
  exact⟨w1,o,sty b o w2 (aq9 w3),w3⟩
 ·rcases dW h with⟨rfl,hl,e⟩|⟨hne,h⟩
  ·cases e
   obtain⟨C',dx',m1,m2,ws1,ws2,g1,_,g3,g4,g5,g6,g7,s1,s2⟩:=k'
   refine⟨_,evv,⟨.ob,rfl⟩,λk hk=>?_,bH7 _ _⟩;rw[bF8.mp hk]
   exact⟨C',dx',m1,m2,ws1,ws2,g1,⟨z1,by rw[ev.dx _ _ _ _ _ _ h5 g5];exact z2,nn _ (.inr ⟨_,_,_,_,g5,.inl rfl⟩),nn _ (.inr ⟨_,_,_,_,g5,.inr rfl⟩)⟩,g3,g4,g5,g6,g7,s1,s2⟩
  ·obtain⟨u,e,q⟩:=px.sl j m h
   refine⟨u,e,?_⟩;cases m with
   |sh g x=>exact aI.keep (E.keep tw) q
   |own x=>
    obtain⟨b,e1,e2,q⟩:=q
    refine⟨b,e1,e2,q.keep (E.keep tw) λo z=>?_⟩
    obtain⟨o',w2,w3⟩:=tw b e2
    rw[z]at w2;cases w2;exact sty b o z (aq9 w3)
   |kp g x ks=>exact absurd h (nk j g x ks hne)
 ·rcases dW h1 with⟨_,_,e⟩|⟨n1,h1⟩
  ·cases e
  ·rcases dW h2 with⟨_,_,e⟩|⟨n2,h2⟩
   ·cases e
   ·exact px.dis j k x y b h1 h2 h3 h4
end
abbrev eQ:=List PV->List PV->(Str->Prop)->List PV->(PV->List PV->List PV->Prop)->Prop
def kM (K:ae)(p:eQ):Sp:=λvs H Q E=>∃a us xs st un Qp Ep,vs=V.ref a::us/\cS K (λ_=>none) H a st un/\(Reps K (λ_=>False) H us xs/\flats xs=true)/\p st un Ep xs Qp/\
 (∀v H' x st' un',fY H H' a->cS K (λ_=>none) H' a st' un'->aI K (λ_=>False) H' v x->flat x=true->Qp x st' un'->Q v H')/\
 ∀n C H',aD H H'->PySem.W.nsIn K mainGlobals n=some (some (.ref C))->Ep n->E (.ref C) none H'
structure mZ (P:ay)(w:ba)(K:ae)(mg:Str->Option av)(base:Heap)(k:Nat)(m:Str)(ps:List Str)(p:eQ):Prop where
 ex:∃C f fd,KC K C/\eS K C m f/\bU P w K mg base (bR P w) k f fd ps (kM K p)/\dQ K fd ps []
structure L4 (P:ay)(w:ba)(K:ae)(mg:Str->Option av)(base:Heap)(k:Nat)(x:Str)(ps:List Str)(p:eQ):Prop where
 ex:∃f fd,bU P w K mg base (bR P w) k f fd ps (kM K p)/\dQ K fd ps []/\PySem.W.keepIn K (.ref f)=true/\mg x=some (.ref f)
section
variable {K:ae}{H:Hp}{a l1 l2 C dx p:ax}{st un:List PV}{us1 us2 ws:List V}
theorem wE {o:HO}{u:HO}{l:ax}(e:H l=some u)(n1:∀xs,u≠.tup xs)(n2:∀o v,u≠.frz o v):eW (λ_=>False) (λ_=>False) H (upd H l o):=
 ⟨λ_ _ z=>z.elim,λ_ _ z=>z.elim,λ_ _ z=>z.elim,λb xs h=>by rw[aL (λz=>by rw[z,e]at h;exact n1 _ (bG9 h))];exact h,λb o v h _=>by rw[aL (λz=>by rw[z,e]at h;exact n2 _ _ (bG9 h))];exact h⟩
theorem wF {l:ax}{us xs:List V}:kL l us≠.tup xs:=λz=>by unfold kL at z;cases z
theorem wG {l:ax}{us:List V}{o:Obj}{v:HO}:kL l us≠.frz o v:=λz=>by unfold kL at z;cases z
theorem ar0 {l x:ax}{us:List V}:kL l us≠.own x:=λz=>by unfold kL at z;cases z
theorem ar1 {l C dx:ax}{us:List V}{fs:List (Str×V)}:kL l us≠.ins C dx fs:=λz=>by unfold kL at z;cases z
structure eF (K:ae)(H:Hp)(a C dx l1 l2:ax)(us1 us2:List V)(st un:List PV):Prop where
 ns:PySem.W.nsIn K mainGlobals "Keeper" = some (some (.ref C))
 ne:l1≠l2
 od:H dx=some (.own a)
 oa:H a=some (.ins C dx [("standing",.ref l1),("undone",.ref l2)])
 o1:H l1=some (kL l1 us1)
 o2:H l2=some (kL l2 us2)
 r1:Reps K (λ_=>False) H us1 st
 r2:Reps K (λ_=>False) H us2 un
theorem cS.w (h:cS K (λ_=>none) H a st un):∃C dx l1 l2 us1 us2,eF K H a C dx l1 l2 us1 us2 st un:=by
 obtain⟨C,dx,l1,l2,us1,us2,h1,_,h3,h4,h5,h6,h7,r1,r2⟩:=h
 exact⟨C,dx,l1,l2,us1,us2,h1,h3,h4,h5,h6,h7,r1,r2⟩
theorem eF.at (h:eF K H a C dx l1 l2 us1 us2 st un):cS K (λ_=>none) H a st un:=⟨C,dx,l1,l2,us1,us2,h.ns,⟨rfl,rfl,rfl,rfl⟩,h.ne,h.od,h.oa,h.o1,h.o2,h.r1,h.r2⟩
theorem eF.dne (h:eF K H a C dx l1 l2 us1 us2 st un):(dx≠l1/\dx≠l2)/\a≠l1/\a≠l2:=by
 refine⟨⟨λz=>?_,λz=>?_⟩,λz=>?_,λz=>?_⟩
 ·have:=h.od;rw[z,h.o1]at this;exact ar0 (bG9 this)
 ·have:=h.od;rw[z,h.o2]at this;exact ar0 (bG9 this)
 ·have:=h.oa;rw[z,h.o1]at this;exact ar1 (bG9 this)
 ·have:=h.oa;rw[z,h.o2]at this;exact ar1 (bG9 this)
theorem eF.ev1 (h:eF K H a C dx l1 l2 us1 us2 st un){l:ax}(hl:l=l1∨l=l2)(o:HO):fY H (upd H l o) a:=by
 obtain⟨_,n1,n2⟩:=h.dne
 have na:a≠l:=by rcases hl with rfl|rfl<;>assumption
 refine⟨λb u e n=>?_,?_,λC' D dx' dy fs gs e1 e2=>?_,K9⟩
 ·rw[aL (λz=>n (.inr ⟨_,_,_,_,h.oa,by rw[z];exact hl⟩))];exact e
 ·rintro b (rfl|⟨C',dx',m1,m2,e,hb⟩)
  ·exact .inl (.inl rfl)
  ·rw[aL na]at e
   exact .inl (.inr ⟨_,_,_,_,e,hb⟩)
 ·rw[aL na,e1]at e2;cases e2;rfl
theorem eF.put1 (h:eF K H a C dx l1 l2 us1 us2 st un){ys:List PV}(r:Reps K (λ_=>False) H ws ys):eF K (upd H l1 (kL l1 ws)) a C dx l1 l2 ws us2 ys un:=by
 obtain⟨⟨d1,d2⟩,n1,n2⟩:=h.dne
 have k:eW (λ_=>False) (λ_=>False) H (upd H l1 (kL l1 ws)):=wE h.o1 (λ_=>wF) λ_ _=>wG
 exact⟨h.ns,h.ne,by rw[aL d1];exact h.od,by rw[aL n1];exact h.oa,b6,by rw[aL (Ne.symm h.ne)];exact h.o2,r.keep k,h.r2.keep k⟩
theorem eF.put2 (h:eF K H a C dx l1 l2 us1 us2 st un){ys:List PV}(r:Reps K (λ_=>False) H ws ys):eF K (upd H l2 (kL l2 ws)) a C dx l1 l2 us1 ws st ys:=by
 obtain⟨⟨d1,d2⟩,n1,n2⟩:=h.dne
 have k:eW (λ_=>False) (λ_=>False) H (upd H l2 (kL l2 ws)):=wE h.o2 (λ_=>wF) λ_ _=>wG
 exact⟨h.ns,h.ne,by rw[aL d2];exact h.od,by rw[aL n2];exact h.oa,by rw[aL h.ne];exact h.o1,b6,h.r1.keep k,r.keep k⟩
theorem eF.new2 (h:eF K H a C dx l1 l2 us1 us2 st un)(hp:H p=none):eF K (upd (upd H p (kL p [])) a (.ins C dx [("standing",.ref l1),("undone",.ref p)])) a C dx l1 p us1 [] st []/\fY H (upd (upd H p (kL p [])) a (.ins C dx [("standing",.ref l1),("undone",.ref p)])) a:=by
 have np:∀{b:ax}{o:HO},H b=some o->b≠p:=λ{b o} e z=>by rw[z,hp]at e;cases e
 obtain⟨⟨d1,d2⟩,n1,n2⟩:=h.dne
 have da:dx≠a:=λz=>by have:=h.od;rw[z,h.oa]at this;cases this
 have e0:upd H p (kL p []) a=some (.ins C dx [("standing",.ref l1),("undone",.ref l2)]):=by rw[aL (np h.oa)];exact h.oa
 have k:eW (λ_=>False) (λ_=>False) H (upd (upd H p (kL p [])) a (.ins C dx [("standing",.ref l1),("undone",.ref p)])):=by
  refine⟨λ_ _ z=>z.elim,λ_ _ z=>z.elim,λ_ _ z=>z.elim,λb xs e=>?_,λb o v e _=>?_⟩
  ·rw[aL (λz=>by rw[z,h.oa]at e;cases e),aL (np e)];exact e
  ·rw[aL (λz=>by rw[z,h.oa]at e;cases e),aL (np e)];exact e
 refine⟨⟨h.ns,np h.o1,?_,b6,?_,?_,h.r1.keep k,.nil⟩,λb u e n=>?_,?_,λC' D dx' dy fs gs e1 e2=>?_,λb u e=>let ⟨o1,e1⟩:=K9 b u e;K9 b o1 e1⟩
 ·rw[aL da,aL (np h.od)];exact h.od
 ·rw[aL (Ne.symm n1),aL (np h.o1)];exact h.o1
 ·rw[aL (λz=>np h.oa z.symm),b6]
 ·rw[aL (λz=>n (.inl z)),aL (np e)];exact e
 ·rintro b (rfl|⟨C',dx',m1,m2,e,hb⟩)
  ·exact .inl (.inl rfl)
  ·rw[b6]at e;cases e
   rcases hb with rfl|rfl
   ·exact .inl (.inr ⟨_,_,_,_,h.oa,.inl rfl⟩)
   ·exact .inr hp
 ·rw[b6]at e2;rw[h.oa]at e1;cases e1;cases e2;rfl
end
end PP
namespace L2
open PySem PySem.Spec PyProof.Rows
section
variable {X:Cx}{e:Expr}
def ar2 (X:Cx)(te:PP.aG):TE:=λσ H Q=>∃as,(∀b∈as,(∃o,X.H₀ b=some o/\pK o=true)/\∃o,H b=some o)/\PP.LE (X.off as) te σ H λv H'=>(∀b∈as,∃o,H' b=some o)/\Q v H'
theorem L5 {te:PP.aG}(h:∀as,PP.QE (X.off as) e te)(he:X.ex = []:=by rfl):PE X e (ar2 X te):=by
 rintro ah s σ H Q I ⟨as,ha,q⟩;have I1:=I.off he (as:=as) λb z=>let ⟨⟨o,e,_⟩,l⟩:=ha b z;⟨⟨o,e⟩,l⟩
 refine aN (h as ah s σ H _ I1 q) λu s' hq=>?_
 obtain⟨v,H',I2,r,z,q⟩:=hq
 exact⟨v,H',a7.on I.ok I2 he (λb z=>(ha b z).1) z,r,q⟩
end
end L2
namespace PP
open PySem L2 PyProof.Rows
structure gH (X:Cx)(as:List ax)(a:ax)(i:Nat)(σ:L2.St)(ρ:b8)(H:Hp):Prop where
 px:∃W,PX X.K (gP X.H₀ as) W σ ρ H
 ev:fY X.H₀ H a
 k0:∃st un,cS X.K (λ_=>none) X.H₀ a st un
 sm:∀b∈as,(∃o,X.H₀ b=some o/\pK o=true)/\∃o,H b=some o
 kp:∃st un,ρ[i]? = some (some (.kp true (.ob a) [(a,st,un)]))
 nk:i8 ρ i
structure sM where
 ad:ax
 nx:b8->Prop
 rt:PV->List PV->List PV->Prop
structure EK (X:Cx)(as:List ax)(i:Nat)(DK:sM)(D:bP):Prop where
 nx:∀σ' H' ρ',gH X as DK.ad i σ' ρ' H'->DK.nx ρ'->D.nx σ' H'
 rt:∀v H' x st un,fY X.H₀ H' DK.ad->cS X.K (λ_=>none) H' DK.ad st un->aI X.K (λ_=>False) H' v x->flat x=true->DK.rt x st un->D.rt v H'
abbrev fI:=sM->b8->Prop
def LK (X:Cx)(i:Nat)(t:fI):TS:=λD σ H=>∃as ρ DK,gH X as DK.ad i σ ρ H/\t DK ρ/\EK X as i DK D
abbrev QK (X:Cx)(i:Nat)(st:Stmt)(t:fI):Prop:=PS X st (LK X i t)
abbrev sN (X:Cx)(i:Nat)(sts:List Stmt)(t:fI):Prop:=dL X sts (LK X i t)
theorem ar3 {ρ:b8}{i:Nat}{m m':Option Slot}(h:ρ[i]? = some m):(ρ.set i m')[i]? = some m':=bK7 (bF6.mp h).1
theorem i8.set {ρ:b8}{i:Nat}{m:Option Slot}(h:i8 ρ i):i8 (ρ.set i m) i:=λj g x ks n z=>h j g x ks n (by rw[bH2 (Ne.symm n)]at z;exact z)
theorem i8.put {ρ:b8}{i j:Nat}{g:Bool}{x:PV}(h:i8 ρ i):i8 (ρ.set j (some (.sh g x))) i:=λk g x ks n z=>by
 rcases dW z with⟨_,_,e⟩|⟨_,z⟩
 ·cases e
 ·exact h k g x ks n z
section
variable {X:Cx}{as:List ax}{a:ax}{i:Nat}{σ:L2.St}{ρ:b8}{H H1 H2:Hp}{st un st' un':List PV}
theorem gH.at (k:gH X as a i σ ρ H)(hk:ρ[i]? = some (some (.kp true (.ob a) [(a,st,un)]))):σ[i]? = some (some (.ref a))/\cS X.K (λ_=>none) H a st un:=by
 obtain⟨W,px⟩:=k.px
 exact px.kp ⟨true,hk⟩
theorem gH.mono (k:gH X as a i σ ρ H)(s:aD H H1):gH X as a i σ ρ H1:=by
 obtain⟨W,px⟩:=k.px
 obtain⟨st,un,hk⟩:=k.kp
 have kp:=(k.at hk).2
 exact⟨⟨W,px.mono s⟩,k.ev.trans (fY.same s kp) kp,k.k0,λb hb=>let ⟨h1,o,e⟩:=k.sm b hb;⟨h1,o,s _ _ e⟩,k.kp,k.nk⟩
theorem gH.step (k:gH X as a i σ ρ H)(ev:fY H H2 a)(kp:cS X.K (λ_=>none) H2 a st' un'):gH X as a i σ (ρ.set i (some (.kp true (.ob a) [(a,st',un')]))) H2:=by
 obtain⟨W,px⟩:=k.px
 obtain⟨st,un,hk⟩:=k.kp
 exact⟨⟨W,(px.mut hk k.nk ev kp).1⟩,k.ev.trans ev (k.at hk).2,k.k0,λb hb=>let ⟨h1,o,e⟩:=k.sm b hb;⟨h1,ev.th b o e⟩,⟨_,_,ar3 hk⟩,k.nk.set⟩
theorem gH.set {j:Nat}{v:V}{x:PV}(k:gH X as a i σ ρ H)(ij:j≠i)(r:aI X.K (λ_=>False) H v x):gH X as a i (σ.set j (some v)) (ρ.set j (some (.sh true x))) H:=by
 obtain⟨W,px⟩:=k.px
 obtain⟨st,un,hk⟩:=k.kp
 exact⟨⟨W,px.setSh (aq4 r)⟩,k.ev,k.k0,k.sm,⟨st,un,by rw[bH2 ij];exact hk⟩,k.nk.put⟩
theorem eF.same {K:ae}{C dx l1 l2:ax}{us1 us2:List V}(h:eF K H a C dx l1 l2 us1 us2 st un)(s:aD H H1):eF K H1 a C dx l1 l2 us1 us2 st un:=
 ⟨h.ns,h.ne,s _ _ h.od,s _ _ h.oa,s _ _ h.o1,s _ _ h.o2,h.r1.same s λ_ z=>z,h.r2.same s λ_ z=>z⟩
theorem bq5 {s s' u u':List PV}{b c:ax}(h:ρ[i]? = some (some (.kp true (.ob b) [(b,s,u)])))(h':ρ[i]? = some (some (.kp true (.ob c) [(c,s',u')]))):s=s'/\u=u':=by
 rw[h]at h';cases h';exact⟨rfl,rfl⟩
end
section
variable {X:Cx}{i:Nat}{σ:L2.St}{H:Hp}{D:bP}{te:aG}{C:ax}{e:Expr}{es:List Expr}{x y m:Str}{pos p2 p3 p4 p5 ai aj:Pos}{st:Stmt}{sts:List Stmt}{t u:fI}
def pN (t u:fI):fI:=λDK ρ=>t { DK with nx:=u DK } ρ
theorem sO (h1:QK X i st t)(h2:sN X i sts u):sN X i (st::sts) (pN t u):=by
 refine nV (nE h1 h2) λD σ H h=>?_
 obtain⟨as,ρ,DK,ks,q,ek⟩:=h
 exact⟨as,ρ,{ DK with nx:=u DK },ks,q,λσ' H' ρ' ks' q'=>⟨as,ρ',DK,ks',q',ek⟩,ek.rt⟩
theorem sQ (h1:QK X i st t):sN X i [st] t:=nF h1
def L6 (i:Nat)(te:aG):fI:=λDK ρ=>te ρ λx _=>flat x=true/\∃st un,ρ[i]? = some (some (.kp true (.ob DK.ad) [(DK.ad,st,un)]))/\st.length<16000000/\DK.nx (ρ.set i (some (.kp true (.ob DK.ad) [(DK.ad,st++[x],un)])))
theorem bq6 (kc:KC X.K C)(h:LK X i (L6 i te) D σ H):lY (sJ sK (kT X.K (eR i) "standing") (iY (ar2 X te) g9)) D σ H:=by
 obtain⟨as,ρ,DK,ks,q,ek⟩:=h
 obtain⟨st0,un0,hk⟩:=ks.kp
 obtain⟨ev,kp⟩:=ks.at hk
 obtain⟨C',dx,l1,l2,us1,us2,kw⟩:=kp.w
 obtain rfl:=kc.eq kw.ns
 obtain⟨W,px⟩:=ks.px
 refine⟨_,ev,DK.ad,_,dx,_,_,rfl,kw.oa,kc.cls,kc.n1,rfl,⟨l1,us1,rfl,kw.o1⟩,as,ks.sm,W,ρ,_,px,q,?_⟩;rintro v H1 x g s r ⟨fl,st,un,hk',hl,q⟩
 obtain⟨rfl,rfl⟩:=bq5 hk hk'
 have kw1:=kw.same s;have lr:=kw.r1.length;refine⟨λb hb=>let ⟨_,o,e⟩:=ks.sm b hb;⟨o,s _ _ e⟩,l1,us1,v,rfl,rfl,kw1.o1,j4 (by omega),?_⟩;exact ek.nx _ _ _ ((ks.mono s).step (kw1.ev1 (.inl rfl) _) (kw1.put1 (kw1.r1.append (.cons (r.flat fl) .nil))).at) q
theorem bq7 (kc:KC X.K C)(i:Nat)(he:∀as,QE (X.off as) e te)(hex:X.ex = []:=by rfl)(hN:X.N[i]? = some x:=by rfl)(hv:cO X.env.scope x:=by first|exact Or.inl rfl|exact Or.inr (Or.inl rfl)|exact Or.inr (Or.inr rfl))(hd:(x==("__debug__":Str))=false:=by decide)(hcd:(x==("__classdict__":Str))=false:=by decide)(hbs:attributeBase (.Name x p2) "standing" X.env (eval (.Name x p2) X.env)=eval (.Name x p2) X.env:=by rfl)(hbase:attributeBase (.Attribute (.Name x p2) "standing" p3) "append" X.env (eval (.Attribute (.Name x p2) "standing" p3) X.env)=eval (.Attribute (.Name x p2) "standing" p3) X.env:=by rfl)(hfew:((backTo aj (starEach [e] X.env)).all (λx=>!x.1)&&(backToKw aj (keywordEach [] X.env)).all (λx=>x.1.isSome)&&decide (([e]:List Expr).length+([]:List Keyword).length+(if ([]:List Keyword).isEmpty then 0 else 1)<30))=true:=by rfl)(hline:(ai.endLine==aj.line)=true:=by rfl)(hs:starEach [e] X.env=(false,eval e X.env)::starEach [] X.env:=by rfl)(ar:(backTo aj (starEach [] X.env)).any (·.1)=false:=by rfl)(hsw:swapsWith (.Call (.Attribute (.Attribute (.Name x p2) "standing" p3) "append" ai) [e] [] aj) none pos.line X.env=pure false:=by rfl) :
  QK X i (.Expr (.Call (.Attribute (.Attribute (.Name x p2) "standing" p3) "append" ai) [e] [] aj) pos) (L6 i te):=
 dE (lZ (aq1 bR2 bR3 aq2 (oF (dM hN hv hd hcd) hbs) (d8 (L5 he hex) dO hs) hbase hfew hline hs ar) hsw) λ_ _ _=>bq6 kc
def L7 (i:Nat):fI:=λDK ρ=>∃st un,ρ[i]? = some (some (.kp true (.ob DK.ad) [(DK.ad,st,un)]))/\DK.nx (ρ.set i (some (.kp true (.ob DK.ad) [(DK.ad,st,[])])))
theorem bq8 (kc:KC X.K C)(h:LK X i (L7 i) D σ H):S6 X.K (eR i) (aq0 (xO g9)) "undone" D σ H:=by
 obtain⟨as,ρ,DK,ks,⟨st,un,hk,q⟩,ek⟩:=h
 obtain⟨ev,kp⟩:=ks.at hk
 obtain⟨C',dx,l1,l2,us1,us2,kw⟩:=kp.w
 obtain rfl:=kc.eq kw.ns;refine⟨bI2 _,λp hp=>⟨p,[],rfl,b6,_,ev,DK.ad,_,dx,[("standing",.ref l1),("undone",.ref l2)],rfl,?_,kc.cls,kc.n2,(by show 2<1000;decide),?_⟩⟩
 ·rw[kN,aL (λz=>by have:=kw.oa;rw[z,hp]at this;cases this)];exact kw.oa
 ·rw[kN]
  obtain⟨kw',ev'⟩:=kw.new2 hp
  exact ek.nx _ _ _ (ks.step ev' kw'.at) q
theorem bq9 (kc:KC X.K C)(i:Nat)(hN:X.N[i]? = some x:=by rfl)(hv:cO X.env.scope x:=by first|exact Or.inl rfl|exact Or.inr (Or.inl rfl)|exact Or.inr (Or.inr rfl))(hd:(x==("__debug__":Str))=false:=by decide)(hcd:(x==("__classdict__":Str))=false:=by decide)(hs:swapsWith (.List [] p5) (some (.Attribute (.Name x p2) "undone" p3)) pos.line X.env=pure false:=by rfl):QK X i (.Assign [.Attribute (.Name x p2) "undone" p3] (.List [] p5) pos) (L7 i):=
 dE (xN (dM hN hv hd hcd) (K7 (tJ dO)) hs) λ_ _ _=>bq8 kc
def L8 (i:Nat):fI:=λDK ρ=>∃st z un,ρ[i]? = some (some (.kp true (.ob DK.ad) [(DK.ad,st++[z],un)]))/\un.length<16000000/\DK.nx (ρ.set i (some (.kp true (.ob DK.ad) [(DK.ad,st,un++[z])])))
def L9 (i:Nat):fI:=λDK ρ=>∃st z un,ρ[i]? = some (some (.kp true (.ob DK.ad) [(DK.ad,st,un++[z])]))/\st.length<16000000/\DK.nx (ρ.set i (some (.kp true (.ob DK.ad) [(DK.ad,st++[z],un)])))
theorem ar4 {α:Type}(l:List α)(z:α):(l++[z])[(l++[z]).length-1]? = some z:=by simp
theorem set_set {ρ:b8}{m m':Option Slot}:(ρ.set i m).set i m'=ρ.set i m':=List.set_set ..
theorem br0 (kc:KC X.K C)(h:LK X i (L8 i) D σ H):lY (sJ sK (kT X.K (eR i) "undone") (iY (wB wC (kT X.K (eR i) "standing")) g9)) D σ H:=by
 obtain⟨as,ρ,DK,ks,⟨st,z,un,hk,hl,q⟩,ek⟩:=h
 obtain⟨ev,kp⟩:=ks.at hk
 obtain⟨C',dx,l1,l2,us1,us2,kw⟩:=kp.w
 obtain rfl:=kc.eq kw.ns
 obtain⟨vs,w,rfl,rv,rw'⟩:=kw.r1.snoc_inv
 have kw1:=kw.put1 rv;have lr:=kw.r2.length;refine⟨_,ev,DK.ad,_,dx,_,_,rfl,kw.oa,kc.cls,kc.n2,rfl,⟨l2,us2,rfl,kw.o2⟩,_,ev,DK.ad,_,dx,_,_,rfl,kw.oa,kc.cls,kc.n1,rfl,⟨l1,_,rfl,kw.o1⟩,l1,_,w,rfl,rfl,kw.o1,ar4 _ _,?_⟩;rw[List.dropLast_concat];refine⟨l2,us2,w,rfl,rfl,kw1.o2,j4 (by omega),?_⟩;have k1:=ks.step (kw.ev1 (.inl rfl) (kL l1 vs)) kw1.at;have kk:eW (λ_=>False) (λ_=>False) H (upd H l1 (kL l1 vs)):=wE kw.o1 (λ_=>wF) λ_ _=>wG
 have k2:=k1.step (kw1.ev1 (.inr rfl) (kL l2 (us2++[w]))) (kw1.put2 (kw1.r2.append (.cons (rw'.keep kk) .nil))).at;rw[set_set]at k2;exact ek.nx _ _ _ k2 q
theorem br1 (kc:KC X.K C)(h:LK X i (L9 i) D σ H):lY (sJ sK (kT X.K (eR i) "standing") (iY (wB wC (kT X.K (eR i) "undone")) g9)) D σ H:=by
 obtain⟨as,ρ,DK,ks,⟨st,z,un,hk,hl,q⟩,ek⟩:=h
 obtain⟨ev,kp⟩:=ks.at hk
 obtain⟨C',dx,l1,l2,us1,us2,kw⟩:=kp.w
 obtain rfl:=kc.eq kw.ns
 obtain⟨vs,w,rfl,rv,rw'⟩:=kw.r2.snoc_inv
 have kw1:=kw.put2 rv;have lr:=kw.r1.length;refine⟨_,ev,DK.ad,_,dx,_,_,rfl,kw.oa,kc.cls,kc.n1,rfl,⟨l1,us1,rfl,kw.o1⟩,_,ev,DK.ad,_,dx,_,_,rfl,kw.oa,kc.cls,kc.n2,rfl,⟨l2,_,rfl,kw.o2⟩,l2,_,w,rfl,rfl,kw.o2,ar4 _ _,?_⟩;rw[List.dropLast_concat];refine⟨l1,us1,w,rfl,rfl,kw1.o1,j4 (by omega),?_⟩;have k1:=ks.step (kw.ev1 (.inr rfl) (kL l2 vs)) kw1.at;have kk:eW (λ_=>False) (λ_=>False) H (upd H l2 (kL l2 vs)):=wE kw.o2 (λ_=>wF) λ_ _=>wG
 have k2:=k1.step (kw1.ev1 (.inl rfl) (kL l1 (us1++[w]))) (kw1.put1 (kw1.r1.append (.cons (rw'.keep kk) .nil))).at;rw[set_set]at k2;exact ek.nx _ _ _ k2 q
section
variable {f g:Str}
theorem ar5 (i:Nat)(hN:X.N[i]? = some x)(hv:cO X.env.scope x)(hd:(x==("__debug__":Str))=false)(hcd:(x==("__classdict__":Str))=false)(hbs:attributeBase (.Name x p2) f X.env (eval (.Name x p2) X.env)=eval (.Name x p2) X.env)(hbg:attributeBase (.Name x p4) g X.env (eval (.Name x p4) X.env)=eval (.Name x p4) X.env)(hbase:attributeBase (.Attribute (.Name x p2) f p3) "append" X.env (eval (.Attribute (.Name x p2) f p3) X.env)=eval (.Attribute (.Name x p2) f p3) X.env)(hbase2:attributeBase (.Attribute (.Name x p4) g p5) "pop" X.env (eval (.Attribute (.Name x p4) g p5) X.env)=eval (.Attribute (.Name x p4) g p5) X.env){ap2 cp2:Pos}(hfew:((backTo aj (starEach [.Call (.Attribute (.Attribute (.Name x p4) g p5) "pop" ap2) [] [] cp2] X.env)).all (λx=>!x.1)&&(backToKw aj (keywordEach [] X.env)).all (λx=>x.1.isSome)&&decide (([.Call (.Attribute (.Attribute (.Name x p4) g p5) "pop" ap2) [] [] cp2]:List Expr).length+([]:List Keyword).length+(if ([]:List Keyword).isEmpty then 0 else 1)<30))=true)(hline:(ai.endLine==aj.line)=true)(hline2:(ap2.endLine==cp2.line)=true)(hs:starEach [.Call (.Attribute (.Attribute (.Name x p4) g p5) "pop" ap2) [] [] cp2] X.env=(false,eval (.Call (.Attribute (.Attribute (.Name x p4) g p5) "pop" ap2) [] [] cp2) X.env)::starEach [] X.env)(ar:(backTo aj (starEach [] X.env)).any (·.1)=false)(hsw:swapsWith (.Call (.Attribute (.Attribute (.Name x p2) f p3) "append" ai) [.Call (.Attribute (.Attribute (.Name x p4) g p5) "pop" ap2) [] [] cp2] [] aj) none pos.line X.env=pure false) :
  PS X (.Expr (.Call (.Attribute (.Attribute (.Name x p2) f p3) "append" ai) [.Call (.Attribute (.Attribute (.Name x p4) g p5) "pop" ap2) [] [] cp2] [] aj) pos) (lY (sJ sK (kT X.K (eR i) f) (iY (wB wC (kT X.K (eR i) g)) g9))):=
 lZ (aq1 bR2 bR3 aq2 (oF (dM hN hv hd hcd) hbs) (d8 (bp6 PySem.F.slot_list_pop PySem.F.type_list_pop bp7 (oF (dM hN hv hd hcd) hbg) hbase2 hline2) dO hs) hbase hfew hline hs ar) hsw
end
def sR (i:Nat)(te:aG):fI:=λDK ρ=>te ρ λx _=>flat x=true/\∃st un,ρ[i]? = some (some (.kp true (.ob DK.ad) [(DK.ad,st,un)]))/\DK.rt x st un
theorem wH (i:Nat)(he:∀as,QE (X.off as) e te)(hex:X.ex = []:=by rfl):QK X i (.Return (some e) pos) (sR i te):=
 dE (oB (L5 he hex)) λD σ H h=>by
  obtain⟨as,ρ,DK,ks,q,ek⟩:=h
  obtain⟨W,px⟩:=ks.px
  refine⟨as,ks.sm,W,ρ,_,px,q,?_⟩;rintro v H1 x g s r ⟨fl,st,un,hk,q⟩;refine⟨λb hb=>let ⟨_,o,e⟩:=ks.sm b hb;⟨o,s _ _ e⟩,?_⟩;have k1:=ks.mono s;exact ek.rt v H1 x st un k1.ev (k1.at hk).2 (r.flat fl) fl q
def ar6 (i j:Nat)(te:aG):fI:=λDK ρ=>te ρ λx _=>flat x=true/\j≠i/\DK.nx (ρ.set j (some (.sh true x)))
theorem br2 (i:Nat){j:Nat}(hN:X.N.Nodup)(he:∀as,QE (X.off as) e te)(hex:X.ex = []:=by rfl)(hi:X.N[j]? = some y:=by rfl)(hx:jD X.env.scope y:=by first|exact Or.inl rfl|exact Or.inr rfl)(hs:swapsWith e (some (.Name y p2)) pos.line X.env=pure false:=by rfl)(hf:X.fn y=true∨X.env.scope.names.lookup y=some .local:=by first|exact .inl rfl|exact .inr rfl) :
  QK X i (.Assign [.Name y p2] e pos) (ar6 i j te):=dE (tE hN hi hx (L5 he hex) hs hf) λD σ H h=>by
 obtain⟨as,ρ,DK,ks,q,ek⟩:=h
 obtain⟨W,px⟩:=ks.px
 refine⟨as,ks.sm,W,ρ,_,px,q,?_⟩;rintro v H1 x g s r ⟨fl,ij,q⟩;refine⟨λb hb=>let ⟨_,o,e⟩:=ks.sm b hb;⟨o,s _ _ e⟩,?_⟩;exact ek.nx _ _ _ ((ks.mono s).set ij (r.flat fl)) q
end
abbrev jB:=sM->b8->Prop
def LF (X:Cx)(t:jB):TS:=λD σ H=>∃W ρ DK,PX X.K X.H₀ W σ ρ H/\(∃st un,cS X.K (λ_=>none) X.H₀ DK.ad st un)/\t DK ρ/\∀as i,EK X as i { DK with nx:=λ_=>False } D
abbrev wI (X:Cx)(sts:List Stmt)(t:jB):Prop:=dL X sts (LF X t)
def nC (t:aT)(u:jB):jB:=λDK ρ=>t { nx:=u DK,rt:=λ_=>False,bk:=λ_=>False,ct:=λ_=>False } ρ
def sS (i:Nat)(t:fI):jB:=λDK ρ=>∃st un,ρ[i]? = some (some (.kp false (.ob DK.ad) [(DK.ad,st,un)]))/\i8 ρ i/\t { DK with nx:=λ_=>False } (ρ.set i (some (.kp true (.ob DK.ad) [(DK.ad,st,un)])))
section
variable {X:Cx}{st:Stmt}{sts:List Stmt}{t:aT}{u:jB}{v:fI}{i:Nat}
theorem o7 (h1:QS X st t)(h2:wI X sts u):wI X (st::sts) (nC t u):=by
 refine nV (nE h1 h2) λD σ H h=>?_
 obtain⟨W,ρ,DK,px,k0,q,ek⟩:=h
 exact⟨W,ρ,_,px,q,λW' σ' H' ρ' e px' q'=>⟨W',ρ',DK,px',k0,q',ek⟩,λ_ _ _ _ _ z=>z.elim,λ_ _ _ _ _ _ z=>z.elim,λ_ _ _ _ _ _ z=>z.elim⟩
theorem br3 {K:ae}{H0:Hp}{W:ax->Prop}{σ:L2.St}{ρ:b8}{H:Hp}{as:List ax}{i:Nat}{a C dx l1 l2:ax}{us1 us2:List V}{st un:List PV}(px:PX K H0 W σ ρ H)(hk:ρ[i]? = some (some (.kp false (.ob a) [(a,st,un)])))(nk:i8 ρ i)(kw:eF K H a C dx l1 l2 us1 us2 st un)(ha:as = [a,dx,l1,l2]) :
  PX K (gP H0 as) W σ (ρ.set i (some (.kp true (.ob a) [(a,st,un)]))) H:=by
 have no:∀{b:ax},H0 b=none->gP H0 as b=none:=λ{b} e=>by
  by_cases z:b∈as
  ·exact pJ z
  ·rw[sI z];exact e
 have ms:∀{g:Bool}{b:ax},Ms H0 W g b->Ms (gP H0 as) W g b:=λ{g b} h=>by
  cases g with
  |true=>exact⟨h.1,no h.2⟩
  |false=>exact h
 refine⟨by rw[bK3];exact px.len,λb o e=>px.same b o (w9 e),λb z=>let ⟨h1,h2⟩:=px.wm b z;⟨no h1,h2⟩,λj m h=>?_,λj k x y b h1 h2 h3 h4=>?_⟩
 ·rcases dW h with⟨rfl,hl,e⟩|⟨hne,h⟩
  ·cases e
   obtain⟨v,ev,⟨r,_⟩,_⟩:=px.sl j _ hk
   cases r;refine⟨_,ev,⟨.ob,rfl⟩,λk hk=>?_,bH7 _ _⟩;rw[bF8.mp hk]
   exact⟨C,dx,l1,l2,us1,us2,kw.ns,⟨pJ (by simp[ha]),pJ (by simp[ha]),pJ (by simp[ha]),pJ (by simp[ha])⟩,kw.ne,kw.od,kw.oa,kw.o1,kw.o2,kw.r1,kw.r2⟩
  ·obtain⟨u,e,q⟩:=px.sl j m h
   refine⟨u,e,?_⟩;cases m with
   |sh g x=>exact aI.same q (aD.refl _) λ_ z=>ms z
   |own x=>
    obtain⟨b,e1,e2,q⟩:=q
    exact⟨b,e1,e2,q.keep (.same (aD.refl _) λ_ z=>ms (g:=true) z) λ_ z=>z⟩
   |kp g x ks=>exact absurd h (nk j g x ks hne)
 ·rcases dW h1 with⟨_,_,e⟩|⟨n1,h1⟩
  ·cases e
  ·rcases dW h2 with⟨_,_,e⟩|⟨n2,h2⟩
   ·cases e
   ·exact px.dis j k x y b h1 h2 h3 h4
theorem wJ (h:sN X i sts v):wI X sts (sS i v):=by
 refine nV h λD σ H h=>?_
 obtain⟨W,ρ,DK,px,⟨st0,un0,k0⟩,⟨st,un,hk,nk,q⟩,ek⟩:=h
 obtain⟨ev,kp⟩:=px.kp ⟨false,hk⟩
 obtain⟨C,dx,l1,l2,us1,us2,kw⟩:=kp.w
 obtain⟨C',dx',m1,m2,ws1,ws2,kw0⟩:=k0.w
 have ea:=px.same _ _ kw0.oa;rw[kw.oa]at ea;cases ea;refine⟨[DK.ad,dx,l1,l2],_,{ DK with nx:=λ_=>False },⟨⟨W,br3 px hk nk kw rfl⟩,fY.same px.same k0,⟨_,_,k0⟩,λb hb=>?_,⟨_,_,ar3 hk⟩,nk.set⟩,q,ek _ _⟩;simp only[bG0,bH0,bL4]at hb;rcases hb with rfl|rfl|rfl|rfl
 ·exact⟨⟨_,kw0.oa,rfl⟩,_,kw.oa⟩
 ·exact⟨⟨_,kw0.od,rfl⟩,_,kw.od⟩
 ·exact⟨⟨_,kw0.o1,rfl⟩,_,kw.o1⟩
 ·exact⟨⟨_,kw0.o2,rfl⟩,_,kw.o2⟩
end
theorem wK {P:ay}{w:ba}{K:ae}{mg:Str->Option av}{base:Heap}{k:Nat}{x qual:Str}{ps N:List Str}{p:eQ}{st:Stmt}{f:ax}{fd:FuncData}(F:cQ K x qual st f fd)(S:FnScope N ps (aS st))(t:(Str->Prop)->jB)(len:∀st un Ep xs Q,p st un Ep xs Q->xs.length+1=ps.length)(rd:∀a st un Ep xs Q,p st un Ep xs Q->flats xs=true->t Ep { ad:=a,nx:=λ_=>False,rt:=Q } (kK N a st un xs))(body:∀(cdv:av) (A:az) (outer:List Env) (s:aw) (H:Hp) (E:XK) (Ep:Str->Prop),bJ k (A.deeper (envOfC qual (aS st) s.heap.objs.size f cdv))->lI (cP (bR P w) P w K mg base N qual (aS st) f cdv A outer s H E) (EX K H Ep)->
   wI (cP (bR P w) P w K mg base N qual (aS st) f cdv A outer s H E) (cU st) (t Ep)):bU P w K mg base (bR P w) (k+1) f fd ps (kM K p):=by
 refine F.okX S (λvs H Q E h=>?_) (λcdv A outer s H vs Q E hr h=>?_)
 ·obtain⟨a,us,xs,st,un,Qp,Ep,rfl,_,r,q,_⟩:=h
  rw[bH8,r.1.length];exact len st un Ep xs Qp q
 ·obtain⟨a,us,xs,st,un,Qp,Ep,rfl,hk,⟨r,fl⟩,q,k,ke⟩:=h
  have ht:=body cdv A outer s H E Ep hr (v3 λc d H' z=>?_)
  ·refine⟨_,ht,λ_=>False,kK N a st un xs,{ ad:=a,nx:=λ_=>False,rt:=Qp },K8 hk (r.flat fl),⟨st,un,hk⟩,rd a st un Ep xs Qp q fl,λas i=>⟨λ_ _ _ _ z=>z.elim,?_⟩⟩
   exact λv H' x st' un' ev kp r fl q=>k v H' x st' un' ev kp r fl q
  ·obtain⟨rfl,s1,n,C,rfl,z1,z2⟩:=z
   exact ke n C H' s1 z1 z2
end PP
namespace L2
open PySem PySem.Spec PyProof.Rows
section
variable {X:Cx}{k:Nat}{f C:ax}{fd:FuncData}{ps:List Str}{sp:Sp}{x z m:Str}{p cp pos zp ai:Pos}{e:Expr}{es:List Expr}{t:TA}{i iv:Nat}{ah:List (ax×Obj)}{s:aw}{σ:St}{H:Hp}{Q:VK}{Ex:XK}
def tM (C:ax)(m:Str)(sp:Sp)(iv:Nat)(t:TA)(Q:VK)(Ex:XK):St->Hp->Prop:=λσ H=>∃a dx fs,σ[iv]? = some (some (.ref a))/\H a=some (.ins C dx fs)/\fs.lookup m=none/\t σ H λvs H1=>sp (.ref a::vs) H1 Q Ex
theorem ar7 (F:bU X.prog X.w X.K X.mg X.base (bR X.prog X.w) k f fd ps sp)(hr:bJ k X.A)(hb:dQ X.K fd ps []){us:List av}{vs:List V}(I:a7 X ah σ H s)(r:aW vs us)(q:sp vs H Q Ex) :
  wpAny (model X.prog X.w) X.A (call (.ref f) us) (EP X ah σ Q) (XB X ah σ Ex) s:=by
 have hl:us.length=ps.length:=by rw[<- r.length];exact F.len _ _ _ _ q
 have bd:=hb s us I.kIn (by rw[bH4];exact hl);rw[bH4]at bd;refine wpAny_call (codeAny_mono (F.run X.A X.stack s H ⟨us,[]⟩ us vs _ Ex hr I.env0 bd r q) λrs s' hq=>?_);cases rs with
 |error ev=>exact⟨H,s,I,hq⟩
 |ok fl=>
  cases fl with
  |ret u=>exact I.after hq
  |next=>exact False.elim hq
  |brk=>exact False.elim hq
  |cont=>exact False.elim hq
theorem ar8 {pl:Sem Bool}(c:gQ X.K C)(hm:eS X.K C m f)(F:bU X.prog X.w X.K X.mg X.base (bR X.prog X.w) k f fd ps sp)(hr:bJ k X.A)(hb:dQ X.K fd ps [])(ha:∀E,PA (X.wish E) (e::es) t)(I:a7 X ah σ H s)(h:tM C m sp iv t Q Ex σ H)(hN:X.N[iv]? = some x)(hv:cO X.env.scope x)(hd:(x==("__debug__":Str))=false)(hcd:(x==("__classdict__":Str))=false)(hst:starEach (e::es) X.env=(false,eval e X.env)::starEach es X.env)(hpl:(backTo cp (starEach es X.env)).any (·.1)=false)(ht:eval (.Call (.Attribute (.Name x p) m ai) (e::es) [] cp) X.env=(do
   let ov <- eval (.Name x p) X.env
   standAt ai.atName
   let (f,first) <- holding [ov] (getMethod ov m pl)
   callWith cp f first (backTo cp (starEach (e::es) X.env)) (backToKw cp (keywordEach [] X.env)))) :
  wpAny (model X.prog X.w) X.A (eval (.Call (.Attribute (.Name x p) m ai) (e::es) [] cp) X.env) (EP X ah σ Q) (XB X ah σ Ex) s:=by
 obtain⟨a,dx,fs,e1,e2,e3,q⟩:=h
 refine bT6 (pl:=pl) (aN (dM (X:=X.wish (XB X ah σ Ex)) (pos:=p) hN hv hd hcd ah s σ H (λv H'=>v = .ref a/\H'=H) (I.wish _) ⟨_,e1,rfl,rfl⟩) λu s1 ⟨v,H1,I1,rv,ev,eh⟩=>?_) ht;subst ev eh;obtain rfl:u=Value.ref a:=rv;have I1:=I1.unwish;refine qG I1 e2 c hm e3 ?_;refine PySem.W.callWith_K (first:=[.ref a]) (h₀:=X.base) I.ok.mod.kin hm.kp (aN (ha (XB X ah σ Ex) cp ah s1 σ H1 _ (I1.wish _) q) λus s2 h2=>⟨?_,?_⟩) hst hpl
 ·obtain⟨_,_,I2,_⟩:=h2
  exact I2.kIn
 ·obtain⟨vs,H2,I2,r,q2⟩:=h2
  exact ar7 (us:=.ref a::us) (vs:=.ref a::vs) F hr hb I2.unwish (.cons rfl r) q2
theorem br4 {pl:Sem Bool}(c:gQ X.K C)(hm:eS X.K C m f)(F:bU X.prog X.w X.K X.mg X.base (bR X.prog X.w) k f fd ps sp)(hr:bJ k X.A)(hb:dQ X.K fd ps [])(I:a7 X ah σ H s)(h:tM C m sp iv g9 Q Ex σ H)(hN:X.N[iv]? = some x)(hv:cO X.env.scope x)(hd:(x==("__debug__":Str))=false)(hcd:(x==("__classdict__":Str))=false)(ht:eval (.Call (.Attribute (.Name x p) m ai) [] [] cp) X.env=(do
   let ov <- eval (.Name x p) X.env
   standAt ai.atName
   let (f,first) <- holding [ov] (getMethod ov m pl)
   callWith cp f first (backTo cp (starEach [] X.env)) (backToKw cp (keywordEach [] X.env)))) :
  wpAny (model X.prog X.w) X.A (eval (.Call (.Attribute (.Name x p) m ai) [] [] cp) X.env) (EP X ah σ Q) (XB X ah σ Ex) s:=by
 obtain⟨a,dx,fs,e1,e2,e3,q⟩:=h
 refine bT6 (pl:=pl) (aN (dM (X:=X.wish (XB X ah σ Ex)) (pos:=p) hN hv hd hcd ah s σ H (λv H'=>v = .ref a/\H'=H) (I.wish _) ⟨_,e1,rfl,rfl⟩) λu s1 ⟨v,H1,I1,rv,ev,eh⟩=>?_) ht;subst ev eh;obtain rfl:u=Value.ref a:=rv;have I1:=I1.unwish;refine qG I1 e2 c hm e3 ?_;exact PySem.W.callWith_K0 (first:=[.ref a]) I1.kIn hm.kp (ar7 (us:=[.ref a]) (vs:=[.ref a]) F hr hb I1 (.cons rfl .nil) q)
def M0 (X:Cx)(e:Expr)(t:VK->XK->St->Hp->Prop):Prop:=∀(ah:List (ax×Obj)) (s:aw) (σ:St) (H:Hp) (Q:VK) (Ex:XK),a7 X ah σ H s->t Q Ex σ H->wpAny (model X.prog X.w) X.A (eval e X.env) (EP X ah σ Q) (XB X ah σ Ex) s
theorem M3 {t:VK->XK->St->Hp->Prop}(h:M0 X e t)(hsw:swapsWith e none pos.line X.env=pure false) :
  PB X [.Expr e pos] (λD Ex σ H=>t (λ_ H2=>D.nx σ H2) Ex σ H):=by
 intro ah s σ H D Ex I q;refine wpAny_execs_cons (wpAny_Expr_any (aN (h ah s σ H _ Ex I q) λu s1 h1=>?_) I.quiet hsw)
 obtain⟨v,H2,I2,rv,q2⟩:=h1
 exact bS4 ⟨σ,H2,I2,q2⟩
end
end L2
namespace PP
open PySem L2 PyProof.Rows
section
variable {X:Cx}{σ:L2.St}{H:Hp}{D:bP}{Ex:XK}{i j:Nat}{e:Expr}{es:List Expr}{tr:bV}{tc:cN}{c:Expr}{x z m:Str}{p2 cp pos zp ai np hp:Pos}
abbrev lS:=sM->(Str->Prop)->b8->Prop
def LBK (X:Cx)(i:Nat)(t:lS):TB:=λD Ex σ H=>∃as ρ DK Ep,gH X as DK.ad i σ ρ H/\t DK Ep ρ/\EK X as i DK D/\∀n C H',aD H H'->PySem.W.nsIn X.K mainGlobals n=some (some (.ref C))->Ep n->Ex (.ref C) none H'
abbrev pO (X:Cx)(i:Nat)(sts:List Stmt)(t:lS):Prop:=PB X sts (LBK X i t)
def qkM (i:Nat)(p:eQ)(t:bV)(ad:ax)(Ep:Str->Prop)(ρ:b8)(Q:PV->b8->Prop):Prop:=∃st un,ρ[i]? = some (some (.kp true (.ob ad) [(ad,st,un)]))/\t ρ λxs=>flats (xs.map (·.1))=true/\p st un Ep (xs.map (·.1)) λx st' un'=>Q x (ρ.set i (some (.kp true (.ob ad) [(ad,st',un')])))
def M4 (X:Cx)(tr:bV):TA:=λσ H Q=>∃as,(∀b∈as,(∃o,X.H₀ b=some o/\pK o=true)/\∃o,H b=some o)/\LA (X.off as) tr σ H λv H'=>(∀b∈as,∃o,H' b=some o)/\Q v H'
theorem br5 (h:∀as,QA (X.off as) es tr)(he:X.ex = []:=by rfl):PA X es (M4 X tr):=by
 rintro pos ah s σ H Q I ⟨as,ha,q⟩;have I1:=I.off he (as:=as) λb z=>let ⟨⟨o,e,_⟩,l⟩:=ha b z;⟨⟨o,e⟩,l⟩
 refine aN (h as pos ah s σ H _ I1 q) λu s' hq=>?_
 obtain⟨v,H',I2,r,z,q⟩:=hq
 exact⟨v,H',a7.on I.ok I2 he (λb z=>(ha b z).1) z,r,q⟩
def ar9 (X:Cx)(tc:cN):TT:=λσ H Q=>∃as,(∀b∈as,(∃o,X.H₀ b=some o/\pK o=true)/\∃o,H b=some o)/\LT (X.off as) tc σ H λv H'=>(∀b∈as,∃o,H' b=some o)/\Q v H'
theorem br6 (h:∀as,QT (X.off as) c tc)(he:X.ex = []:=by rfl):PT X c (ar9 X tc):=by
 rintro ah s σ H Q I ⟨as,ha,q⟩;have I1:=I.off he (as:=as) λb z=>let ⟨⟨o,e,_⟩,l⟩:=ha b z;⟨⟨o,e⟩,l⟩
 refine aN (h as ah s σ H _ I1 q) λu s' hq=>?_
 obtain⟨H',I2,z,q⟩:=hq
 exact⟨H',a7.on I.ok I2 he (λb z=>(ha b z).1) z,q⟩
theorem as0 {p:eQ}{as:List ax}{ρ:b8}{DK:sM}{C:ax}{Ep:Str->Prop}{Qp:PV->b8->Prop}{Q:VK}{T:TA}(kc:KC X.K C)(hl:∀v w:V,([("standing",v),("undone",w)]:List (Str×V)).lookup m=none)(ks:gH X as DK.ad i σ ρ H)(q:qkM i p tr DK.ad Ep ρ Qp)(hT:T=M4 X tr∨T=g9/\tr=aB)(ke:∀n C H',aD H H'->PySem.W.nsIn X.K mainGlobals n=some (some (.ref C))->Ep n->Ex (.ref C) none H')(k:∀v H' x ρ',gH X as DK.ad i σ ρ' H'->aI X.K (λ_=>False) H' v x->flat x=true->Qp x ρ'->Q v H'):tM C m (kM X.K p) i T Q Ex σ H:=by
 obtain⟨st,un,hk,q⟩:=q
 obtain⟨ev,kp⟩:=ks.at hk
 obtain⟨C',dx,l1,l2,us1,us2,kw⟩:=kp.w
 obtain rfl:=kc.eq kw.ns
 obtain⟨W,px⟩:=ks.px
 have fin:∀vs H1 xs,aD H H1->Reps X.K (λ_=>True) H1 vs xs->(flats xs=true/\p st un Ep xs λx st' un'=>Qp x (ρ.set i (some (.kp true (.ob DK.ad) [(DK.ad,st',un')]))))->kM X.K p (.ref DK.ad::vs) H1 Q Ex:=λvs H1 xs s1 r q1=>by
  have k1:=ks.mono s1
  exact⟨DK.ad,vs,_,st,un,_,Ep,rfl,(k1.at hk).2,⟨r.flat q1.1,q1.1⟩,q1.2,λv H' x st' un' ev' kp' rv fl q2=>k v H' x _ (k1.step ev' kp') rv fl q2,λn C H' s2 z1 z2=>ke n C H' (s1.trans s2) z1 z2⟩
 refine⟨DK.ad,dx,_,ev,kw.oa,hl _ _,?_⟩;rcases hT with rfl|⟨rfl,rfl⟩
 ·exact⟨as,ks.sm,W,ρ,_,px,q,λvs H1 xs s1 r q1=>⟨λb hb=>let ⟨_,o,e⟩:=ks.sm b hb;⟨o,s1 _ _ e⟩,fin vs H1 _ s1 r.any q1⟩⟩
 ·exact fin [] H [] (aD.refl _) .nil q
theorem br7 {C f:ax}{fd:FuncData}{k n:Nat}{ps:List Str}{p:eQ}{pl:Sem Bool}(kc:KC X.K C)(M:eS X.K C m f)(F:bU X.prog X.w X.K X.mg X.base (bR X.prog X.w) k f fd ps (kM X.K p))(hb:dQ X.K fd ps [])(hr:bJ n X.A)(hkj:k<=n)(ha:∀E as,QA ((X.wish E).off as) (e::es) tr)(hex:X.ex = [])(hN:X.N[i]? = some x)(hv:cO X.env.scope x)(hd:(x==("__debug__":Str))=false)(hcd:(x==("__classdict__":Str))=false)(hst:starEach (e::es) X.env=(false,eval e X.env)::starEach es X.env)(hpl:(backTo cp (starEach es X.env)).any (·.1)=false)(ht:eval (.Call (.Attribute (.Name x p2) m ai) (e::es) [] cp) X.env=(do
   let ov <- eval (.Name x p2) X.env
   standAt ai.atName
   let (f,first) <- holding [ov] (getMethod ov m pl)
   callWith cp f first (backTo cp (starEach (e::es) X.env)) (backToKw cp (keywordEach [] X.env)))) :
  M0 X (.Call (.Attribute (.Name x p2) m ai) (e::es) [] cp) (λQ Ex=>tM C m (kM X.K p) i (M4 X tr) Q Ex):=λah s σ H Q Ex I q=>
 ar8 (pl:=pl) kc.cls M F (hr.mono hkj) hb (λE=>br5 (X:=X.wish E) (λas=>ha E as) hex) I q hN hv hd hcd hst hpl ht
theorem br8 {C f:ax}{fd:FuncData}{k n:Nat}{ps:List Str}{p:eQ}{pl:Sem Bool}(kc:KC X.K C)(M:eS X.K C m f)(F:bU X.prog X.w X.K X.mg X.base (bR X.prog X.w) k f fd ps (kM X.K p))(hb:dQ X.K fd ps [])(hr:bJ n X.A)(hkj:k<=n)(hN:X.N[i]? = some x)(hv:cO X.env.scope x)(hd:(x==("__debug__":Str))=false)(hcd:(x==("__classdict__":Str))=false)(ht:eval (.Call (.Attribute (.Name x p2) m ai) [] [] cp) X.env=(do
   let ov <- eval (.Name x p2) X.env
   standAt ai.atName
   let (f,first) <- holding [ov] (getMethod ov m pl)
   callWith cp f first (backTo cp (starEach [] X.env)) (backToKw cp (keywordEach [] X.env)))) :
  M0 X (.Call (.Attribute (.Name x p2) m ai) [] [] cp) (λQ Ex=>tM C m (kM X.K p) i g9 Q Ex):=λah s σ H Q Ex I q=>
 br4 (pl:=pl) kc.cls M F (hr.mono hkj) hb I q hN hv hd hcd ht
def sT (i:Nat)(p:eQ)(t:bV):lS:=λDK Ep ρ=>qkM i p t DK.ad Ep ρ λ_ ρ'=>DK.nx ρ'
def M5 (c:cN)(t u:lS):lS:=λDK Ep ρ=>c ρ λb=>if b=true then t DK Ep ρ else u DK Ep ρ
section
variable {k n:Nat}{ps:List Str}{p:eQ}{pl:Sem Bool}
theorem br9 (i:Nat)(d:mZ X.prog X.w X.K X.mg X.base k m ps p)(hr:bJ n X.A)(ha:∀E as,QA ((X.wish E).off as) (e::es) tr)(hkj:k<=n:=by decide)(hex:X.ex = []:=by rfl)(hl:∀v w:V,([("standing",v),("undone",w)]:List (Str×V)).lookup m=none:=by intro _ _;rfl)(hN:X.N[i]? = some x:=by rfl)(hv:cO X.env.scope x:=by first|exact Or.inl rfl|exact Or.inr (Or.inl rfl)|exact Or.inr (Or.inr rfl))(hd:(x==("__debug__":Str))=false:=by decide)(hcd:(x==("__classdict__":Str))=false:=by decide)(hst:starEach (e::es) X.env=(false,eval e X.env)::starEach es X.env:=by rfl)(hpl:(backTo cp (starEach es X.env)).any (·.1)=false:=by rfl)(hsw:swapsWith (.Call (.Attribute (.Name x p2) m ai) (e::es) [] cp) none pos.line X.env=pure false:=by rfl)(ht:eval (.Call (.Attribute (.Name x p2) m ai) (e::es) [] cp) X.env=(do
   let ov <- eval (.Name x p2) X.env
   standAt ai.atName
   let (f,first) <- holding [ov] (getMethod ov m pl)
   callWith cp f first (backTo cp (starEach (e::es) X.env)) (backToKw cp (keywordEach [] X.env))):=by rfl):pO X i [.Expr (.Call (.Attribute (.Name x p2) m ai) (e::es) [] cp) pos] (sT i p tr):=by
 obtain⟨C,f,fd,kc,M,F,b⟩:=d.ex
 refine vL (M3 (br7 (pl:=pl) kc M F b hr hkj ha hex hN hv hd hcd hst hpl ht) hsw) λD Ex σ H h=>?_
 obtain⟨as,ρ,DK,Ep,ks,q,ek,ke⟩:=h
 exact as0 kc hl ks q (.inl rfl) ke λv H' x ρ' k' r fl q'=>ek.nx _ _ _ k' q'
theorem as1 (i:Nat)(d:mZ X.prog X.w X.K X.mg X.base k m ps p)(hr:bJ n X.A)(hkj:k<=n:=by decide)(hl:∀v w:V,([("standing",v),("undone",w)]:List (Str×V)).lookup m=none:=by intro _ _;rfl)(hN:X.N[i]? = some x:=by rfl)(hv:cO X.env.scope x:=by first|exact Or.inl rfl|exact Or.inr (Or.inl rfl)|exact Or.inr (Or.inr rfl))(hd:(x==("__debug__":Str))=false:=by decide)(hcd:(x==("__classdict__":Str))=false:=by decide)(hsw:swapsWith (.Call (.Attribute (.Name x p2) m ai) [] [] cp) none pos.line X.env=pure false:=by rfl)(ht:eval (.Call (.Attribute (.Name x p2) m ai) [] [] cp) X.env=(do
   let ov <- eval (.Name x p2) X.env
   standAt ai.atName
   let (f,first) <- holding [ov] (getMethod ov m pl)
   callWith cp f first (backTo cp (starEach [] X.env)) (backToKw cp (keywordEach [] X.env))):=by rfl):pO X i [.Expr (.Call (.Attribute (.Name x p2) m ai) [] [] cp) pos] (sT i p aB):=by
 obtain⟨C,f,fd,kc,M,F,b⟩:=d.ex
 refine vL (M3 (br8 (pl:=pl) kc M F b hr hkj hN hv hd hcd ht) hsw) λD Ex σ H h=>?_
 obtain⟨as,ρ,DK,Ep,ks,q,ek,ke⟩:=h
 exact as0 kc hl ks q (.inr ⟨rfl,rfl⟩) ke λv H' x ρ' k' r fl q'=>ek.nx _ _ _ k' q'
end
theorem as2 {sa sb:List Stmt}{tb ub:lS}(hc:∀E as,QT ((X.wish E).off as) c tc)(ha:pO X i sa tb)(hb:pO X i sb ub)(hex:X.ex = []:=by rfl):pO X i [.If c sa sb pos] (M5 tc tb ub):=by
 refine vL (aX4 (tc:=ar9 X tc) (λE=>br6 (X:=X.wish E) (λas=>hc E as) hex) ha hb) λD Ex σ H h=>?_
 obtain⟨as,ρ,DK,Ep,ks,q,ek,ke⟩:=h
 obtain⟨W,px⟩:=ks.px
 refine⟨as,ks.sm,W,ρ,_,px,q,λb H1 s1 q1=>⟨λb hb=>let ⟨_,o,e⟩:=ks.sm b hb;⟨o,s1 _ _ e⟩,?_⟩⟩;have ke':∀n C H',aD H1 H'->PySem.W.nsIn X.K mainGlobals n=some (some (.ref C))->Ep n->Ex (.ref C) none H':=λn C H' s2 z1 z2=>ke n C H' (s1.trans s2) z1 z2
 cases b with
 |true=>exact aY ⟨as,ρ,DK,Ep,ks.mono s1,by simpa using q1,ek,ke'⟩
 |false=>exact aM ⟨as,ρ,DK,Ep,ks.mono s1,by simpa using q1,ek,ke'⟩
def M6 (m:Str)(tb:lS)(ts:fI):fI:=λDK ρ=>tb DK (λn=>lO n m=some true/\ts DK ρ) ρ
theorem bs0 {m:Str}{Ch:ax}{tb:lS}{ts:fI}(hs:∀n C,lO n m=some true->PySem.W.nsIn X.K mainGlobals n=some (some (.ref C))->PySem.W.subIn X.K (.ref C) (.ref Ch)=some true)(h:LK X i (M6 m tb ts) D σ H):an6 X.K Ch (LBK X i tb) (LK X i ts) D σ H:=by
 obtain⟨as,ρ,DK,ks,q,ek⟩:=h
 refine⟨as,ρ,DK,_,ks,q,ek,λn C H' s z1 z2 a C' oe hc na hcl=>?_⟩;cases hc
 exact⟨hs n C z2.1 z1,as,ρ,DK,ks.mono (s.trans (bL na _)),z2.2,ek⟩
theorem bs1 {m:Str}{b₀:Stmt}{suite body:List Stmt}{tb:lS}{ts:fI}(ct:sA X.K X.mg m)(hb:pO X i body tb)(hs:∀a,sN (X.suite a) i (b₀::suite) ts)(hstk:X.stack=X.env::X.outer/\X.env.frame=some X.env.locals:=by exact⟨rfl,rfl⟩)(hg:Gl X m:=by rfl)(hd:(m==("__debug__":Str))=false:=by decide):QK X i (.Try body [.ExceptHandler (some (.Name m np)) none (b₀::suite) hp] [] [] pos) (M6 m tb ts):=by
 obtain⟨Ch,hm,c,sub⟩:=ct.ex
 refine dE (bm8 (ts:=LK X i ts) hstk hb hg hm c (λa=>nV (hs a) λD σ H h=>?_) hd) λ_ _ _=>bs0 sub
 obtain⟨as,ρ,DK,ks,q,ek⟩:=h
 exact⟨as,ρ,DK,⟨ks.px,ks.ev,ks.k0,ks.sm,ks.kp,ks.nk⟩,q,⟨λσ' H' ρ' k' q'=>ek.nx _ _ _ ⟨k'.px,k'.ev,k'.k0,k'.sm,k'.kp,k'.nk⟩ q',ek.rt⟩⟩
end
abbrev wL (x:PV):PV:=.tup [.non,x,.tup []]
def as3 (K:ae)(C:ax):Sp:=λvs H Q _=>∃x dx v pv,vs = [V.ref x,v]/\H x=some (.ins C dx [])/\H dx=some (.own x)/\(aI K (λ_=>True) H v pv/\flat pv=true)/\
 ∀H' l1 l2 us1,(∀b o,H b=some o->b≠x->H' b=some o)->H l1=none->H l2=none->eF K H' x C dx l1 l2 us1 [] [wL pv] []->Q .non H'
structure M7 (P:ay)(w:ba)(K:ae)(mg:Str->Option av)(base:Heap)(k:Nat):Prop where
 ex:∃C f fd,KC K C/\Mk K C f/\bU P w K mg base (bR P w) k f fd ["self","web"] (as3 K C)/\dQ K fd ["self","web"] []/\mg "Keeper" = some (.ref C)
def bs3:aG:=eI (a6 (c7 (a6 (qC .non) (a6 (a5 1) (a6 (c7 aB) aB)))) aB)
theorem bs4 {P:ay}{w:ba}{K:ae}{mg:Str->Option av}{base:Heap}{k:Nat}{x qual:Str}{st:Stmt}{f C:ax}{fd:FuncData}{e:Expr}{p1 p2 p3 p4 p5 q1 q2:Pos}(kc:KC K C)(F:cQ K x qual st f fd)(S:FnScope ["self","web"] ["self","web"] (aS st))(eb:cU st = [.Assign [.Attribute (.Name "self" p1) "standing" p2] e q1,.Assign [.Attribute (.Name "self" p3) "undone" p4] (.List [] p5) q2])(he:∀(cdv:av) (A:az) (outer:List Env) (s:aw) (H:Hp) (E:XK),QE (cP (bR P w) P w K mg base ["self","web"] qual (aS st) f cdv A outer s H E) e bs3)(hv:∀(cdv:av) (A:az) (outer:List Env) (s:aw) (H:Hp) (E:XK),cO (cP (bR P w) P w K mg base ["self","web"] qual (aS st) f cdv A outer s H E).env.scope "self")(h1:∀(cdv:av) (A:az) (outer:List Env) (s:aw) (H:Hp) (E:XK),swapsWith e (some (.Attribute (.Name "self" p1) "standing" p2)) q1.line (cP (bR P w) P w K mg base ["self","web"] qual (aS st) f cdv A outer s H E).env=pure false)(h2:∀(cdv:av) (A:az) (outer:List Env) (s:aw) (H:Hp) (E:XK),swapsWith (.List [] p5) (some (.Attribute (.Name "self" p3) "undone" p4)) q2.line (cP (bR P w) P w K mg base ["self","web"] qual (aS st) f cdv A outer s H E).env=pure false) :
  bU P w K mg base (bR P w) (k+1) f fd ["self","web"] (as3 K C):=by
 refine F.okX S (λvs H Q E h=>?_) (λcdv A outer s H vs Q E hr h=>?_)
 ·obtain⟨x,dx,v,pv,rfl,_⟩:=h;rfl
 ·obtain⟨x,dx,v,pv,rfl,hx,hdx,⟨r,fl⟩,k⟩:=h
  rw[eb];refine⟨_,nE (xN (dM (i:=0) rfl (hv cdv A outer s H E)) (K7 (he cdv A outer s H E)) (h1 cdv A outer s H E)) (nF (xN (dM (i:=0) rfl (hv cdv A outer s H E)) (K7 (tJ dO)) (h2 cdv A outer s H E))),?_⟩;have px:PX K H (λ_=>False) (L2.gA ["self","web"] [.ref x,v]) (gD ["self","web"] [.ob x,pv]) H:=uY (.cons .ob (.cons r .nil));have sv:flat pv=true->(gD ["self","web"] [.ob x,pv])[1]? = some (some (.sh true pv)):=λz=>by
   show some (some (Slot.sh (flat pv) pv))=_;rw[z]
  refine⟨λ_=>False,_,λz g=>z = .lst [wL pv]/\g = .fr,px,?_,?_⟩
  ·refine⟨_,sv fl,bI2 _,rfl,(by show 3<=1000;decide),?_,(by show 1<=1000;decide),?_,rfl,rfl⟩
   ·show (true&&(flat pv&&(true&&true)))=true
    rw[fl];rfl
   ·show (flat (.tup [.non,pv,.tup []])&&true)=true
    show ((true&&(flat pv&&(true&&true)))&&true)=true;rw[fl];rfl
  ·rintro u H1 z g s1 rz ⟨rfl,rfl⟩
   obtain⟨a,us,rfl,ma,ea,rs⟩:=rz.sqL
   have ma:H a=none:=ma;have xa:x≠a:=λz=>by rw[z,ma]at hx;cases hx
   have fs:flats [wL pv]=true:=by
    show ((true&&(flat pv&&(true&&true)))&&true)=true;rw[fl];rfl
   refine⟨a,us,rfl,ea,_,rfl,x,C,dx,[],rfl,?_,kc.cls,kc.n1,(by show 0<1000;decide),bI2 _,λp hp=>⟨p,[],rfl,b6,_,rfl,x,C,dx,[("standing",.ref a)],rfl,?_,kc.cls,kc.n2,(by show 1<1000;decide),?_⟩⟩
   ·rw[aL xa];exact s1 _ _ hx
   ·rw[kN,aL (λz=>by rw[<- z,b6]at hp;cases hp)];exact b6
   ·have px':x≠p:=λz=>by rw[<- z,b6]at hp;cases hp
    have pa:a≠p:=λz=>by rw[<- z,aL (Ne.symm xa),b6]at hp;cases hp
    have hp1:H1 p=none:=by rw[aL (Ne.symm px'),aL (Ne.symm pa)]at hp;exact hp
    have hp0:H p=none:=s1.free hp1;rw[kN];have dxx:dx≠x:=λz=>by rw[z,hx]at hdx;cases hdx
    have at_:∀{b:ax},b≠x->b≠p->b≠a->upd (upd (upd (upd H1 a (kL a us)) x (.ins C dx (fD "standing" (.ref a) []))) p (kL p [])) x (.ins C dx (fD "undone" (.ref p) [("standing",.ref a)])) b=H1 b:=λ{b} n1 n2 n3=>by rw[aL n1,aL n2,aL n1,aL n3]
    refine k _ a p us (λb o e n=>?_) ma hp0 ⟨kc.ns,pa,?_,b6,?_,?_,?_,.nil⟩
    ·rw[at_ n (λz=>by rw[z,hp0]at e;cases e) (λz=>by rw[z,ma]at e;cases e)];exact s1 _ _ e
    ·rw[at_ dxx (λz=>by rw[z,hp0]at hdx;cases hdx) (λz=>by rw[z,ma]at hdx;cases hdx)];exact s1 _ _ hdx
    ·rw[aL (Ne.symm xa),aL pa,aL (Ne.symm xa),b6]
    ·rw[aL (Ne.symm px'),b6]
    ·refine (rs.flat (M':=λ_=>False) fs).keep ⟨λ_ _ z=>z.elim,λ_ _ z=>z.elim,λ_ _ z=>z.elim,λb _ e=>?_,λb _ _ e _=>?_⟩
     ·rw[at_ (λz=>by rw[z,s1 _ _ hx]at e;cases e) (λz=>by rw[z,hp1]at e;cases e) (λz=>by rw[z,ea]at e;cases e)];exact e
     ·rw[at_ (λz=>by rw[z,s1 _ _ hx]at e;cases e) (λz=>by rw[z,hp1]at e;cases e) (λz=>by rw[z,ea]at e;cases e)];exact e
theorem PX.setKp {K:ae}{H0:Hp}{W:ax->Prop}{σ:L2.St}{ρ:b8}{H:Hp}{i:Nat}{a:ax}{st un:List PV}(p:PX K H0 W σ ρ H)(r:cS K H0 H a st un):PX K H0 W (σ.set i (some (.ref a))) (ρ.set i (some (.kp true (.ob a) [(a,st,un)]))) H:=by
 refine⟨by rw[bK3,bK3];exact p.len,p.same,p.wm,λj m h=>?_,λj k y z b h1 h2 h3 h4=>?_⟩
 ·rcases dW h with⟨rfl,hl,e⟩|⟨hne,h⟩
  ·cases e
   rw[p.len]at hl
   exact⟨_,bK7 hl,⟨.ob,rfl⟩,λk hk=>by rw[bF8.mp hk];exact r,bH7 _ _⟩
  ·obtain⟨u,e,q⟩:=p.sl j m h
   exact⟨u,by rw[bH2 (Ne.symm hne)];exact e,q⟩
 ·rcases dW h1 with⟨_,_,e⟩|⟨n1,h1⟩
  ·cases e
  ·rcases dW h2 with⟨_,_,e⟩|⟨n2,h2⟩
   ·cases e
   ·rw[bH2 (Ne.symm n1)]at h3
    rw[bH2 (Ne.symm n2)]at h4;exact p.dis j k y z b h1 h2 h3 h4
section
variable {X:Cx}{σ:L2.St}{H:Hp}{D:bP}{te:aG}{tr:bV}{e:Expr}{es:List Expr}{x y f:Str}{pos p2 p3 p4 cp:Pos}{i j:Nat}{p:eQ}
def as4 (j:Nat)(te:aG):aT:=λD ρ=>te ρ λx _=>flat x=true/\∀a,D.nx (ρ.set j (some (.kp true (.ob a) [(a,[wL x],[])])))
theorem bs5 (j:Nat){k n:Nat}(d:M7 X.prog X.w X.K X.mg X.base k)(hr:bJ n X.A)(hN:X.N.Nodup)(he:QE X e te)(hkj:k+1<=n:=by decide)(hg:Gl X "Keeper":=by rfl)(hi:X.N[j]? = some y:=by rfl)(hx:jD X.env.scope y:=by first|exact Or.inl rfl|exact Or.inr rfl)(hf:X.fn y=true∨X.env.scope.names.lookup y=some .local:=by first|exact .inl rfl|exact .inr rfl)(hst:starEach [e] X.env=(false,eval e X.env)::starEach [] X.env:=by rfl)(hpl:(backTo cp (starEach [] X.env)).any (·.1)=false:=by rfl)(hs:swapsWith (.Call (.Name "Keeper" p2) [e] [] cp) (some (.Name y p3)) pos.line X.env=pure false:=by rfl) :
  QS X (.Assign [.Name y p3] (.Call (.Name "Keeper" p2) [e] [] cp) pos) (as4 j te):=by
 obtain⟨C,f,fd,kc,M,F,b,m⟩:=d.ex
 refine dE (tE hN hi hx (aG5 (E:=EX X.K X.H₀ λ_=>False) M F (hr.mono hkj) hg m b .nil dD (d8 he dO hst) (by decide) hst hpl) hs hf) λD σ H h=>?_
 obtain⟨W,ρ,D',px,q,k⟩:=h
 refine⟨W,ρ,_,px,q,?_⟩;rintro v H1 pv g s r ⟨fl,q⟩;intro x dx nx ndx ne;have S1:aD H1 (upd (upd H1 dx (.own x)) x (.ins C dx [])):=λb o e=>by
  rw[aL (λz=>by rw[z,nx]at e;cases e),aL (λz=>by rw[z,ndx]at e;cases e)];exact e
 refine⟨x,dx,v,pv,rfl,b6,by rw[aL ne,b6],⟨(r.flat fl).same S1 λ_ z=>z,fl⟩,λH2 l1 l2 us1 kp n1 n2 kw=>⟨rfl,?_⟩⟩;have S2:aD H1 H2:=λb o e=>kp b o (S1 b o e) λz=>by rw[z,nx]at e;cases e
 have px2:=px.mono (s.trans S2);have h0:∀{b:ax},H1 b=none->X.H₀ b=none:=λ{b} e=>(px.same.trans s).free e
 exact k.nx W _ H2 _ (Ev.same (s.trans S2)) (px2.setKp ⟨C,dx,l1,l2,us1,[],kw.ns,⟨h0 nx,h0 ndx,h0 (S1.free n1),h0 (S1.free n2)⟩,kw.ne,kw.od,kw.oa,kw.o1,kw.o2,kw.r1,kw.r2⟩) (q x)
end
end PP
namespace Core
open PySem L2 PP
def wM:bS:=λxs Q=>∃(ns:ag) (t n:Int),xs = [.scr ns,.int t,.int n]/\ns.length<=63/\0<=t/\t<=100/\0<=n/\n<=31/\∀(ws:ag) (ls:aa),WL n ws ls->ls.length<=200->Q (bG ws ls)
theorem as5 {a b n:Int}(a0:0<=a)(a1:a<n)(b0:0<=b)(b1:b<n)(ne:a≠b):0<=(mm a b).1/\(mm a b).1<(mm a b).2/\(mm a b).2<n:=by
 unfold mm;dsimp only;split<;>split<;>omega
section
variable {ns:ag}{n c t:Int}{Q:PV→Prop}{E:iG}
theorem bs6 (n0:0<=n)(n1:n<13)(q:∀(ws:ag) (ls:aa),WL n ws ls->ls.length<=200->E.rt (bG ws ls)) :
  ap7 E [some (.sh true (.scr ns)),si t,si n,some (.own (.lst [])),si c,none,none,none,none,none,none]:=by
 refine⟨by decide,rfl,rfl,rfl,?_⟩;refine⟨_,rfl,_,rfl,by omega,by omega,λk ρ=>∃(c:Int) (ws:ag) (y6:Option Slot),ρ = [some (.sh true (.scr ns)),si t,si n,some (.own (.lst [])),si c,some (.own (.lst (intz ws))),y6,none,none,none,none]/\ws.length=k/\∀w∈ws,0<=w,⟨c,[],none,rfl,rfl,λ_ z=>nomatch z⟩,?_,?_⟩
 ·rintro k y ρ hy ⟨c,ws,y6,rfl,wl,wp⟩
  obtain⟨rfl,hk⟩:=j8 hy
  refine i5 ?_;refine⟨_,rfl,_,rfl,_,_,rfl,rfl,(by show (0:Int)<5;decide),trivial,by rw[bO];omega,_,rfl,_,_,rfl,rfl,⟨by decide,by decide⟩,trivial,?_⟩;refine⟨c/5,ws++[c%5],si (0+(k:Int)),?_,by rw[bF4,wl];rfl,λw hw=>(bJ0.mp hw).elim (wp w) λz=>by rw[bF8.mp z];exact bN1 _ (by decide)⟩;rw[eM];rfl
 rintro ρ ⟨c,ws,y6,rfl,wl,wp⟩;have lr:(eD 0 n.toNat).length=n.toNat:=by unfold eD;rw[bF1,bJ2]
 have wl:ws.length=n.toNat:=wl.trans lr;refine⟨_,rfl,_,rfl,by omega,by omega,λk ρ=>∃(c:Int) (ls:aa) (y7 y8:Option Slot),ρ = [some (.sh true (.scr ns)),si t,si n,some (.own (.lst (cC ls))),si c,some (.own (.lst (intz ws))),y6,y7,y8,none,none]/\ls.length<=12*k/\mU n ls k 0,⟨c,[],none,none,rfl,bI2 _,⟨(λ_ h=>nomatch h),.nil,(λ_ h=>nomatch h)⟩⟩,?_,?_⟩
 ·rintro k y ρ hy ⟨c,ls,y7,y8,rfl,hl,la⟩
  obtain⟨rfl,hk⟩:=j8 hy
  refine i5 ?_;refine⟨_,rfl,_,_,rfl,rfl,_,rfl,_,_,rfl,rfl,⟨by omega,by omega,by omega,by omega⟩,λj ρ=>∃(c:Int) (ls:aa) (y8:Option Slot),ρ = [some (.sh true (.scr ns)),si t,si n,some (.own (.lst (cC ls))),si c,some (.own (.lst (intz ws))),y6,si (0+(k:Int)),y8,none,none]/\ls.length<=12*k+j/\mU n ls k (k+1+j),⟨c,ls,y8,rfl,hl,la.mono (.inr ⟨rfl,by omega⟩)⟩,?_,?_⟩
  ·rintro j y ρ hy ⟨c,ls,y8,rfl,hl,la⟩
   obtain⟨rfl,hj⟩:=j8 hy
   refine i5 ?_;refine⟨_,rfl,_,_,rfl,rfl,(by show (0:Int)<2;decide),.inl ⟨_,_,rfl,rfl,_,rfl,?_⟩⟩;show if decide (c%2=1)=true then _ else _
   cases decide (c%2=1) with
   |true=>
    refine aY ⟨_,rfl,_,rfl,_,rfl,fX,rfl,trivial,by rw[rQ];omega,_,rfl,_,_,rfl,rfl,⟨by decide,by decide⟩,trivial,?_⟩;refine⟨c/2,ls++[(0+(k:Int),0+(k:Int)+1+(j:Int))],si (0+(k:Int)+1+(j:Int)),?_,by rw[bF4,bJ3];omega,?_⟩
    ·rw[vU];rfl
    ·have ad:=la.add (a:=(k:Int)) (b:=(k:Int)+1+(j:Int)) (by omega)
     rw[show (0:Int)+(k:Int)=(k:Int) by omega];exact ad.mono (.inr ⟨rfl,by omega⟩)
   |false=>
    exact aM ⟨_,rfl,_,_,rfl,rfl,⟨by decide,by decide⟩,trivial,_,ls,_,rfl,by omega,la.mono (.inr ⟨rfl,by omega⟩)⟩
  ·rintro ρ ⟨c,ls,y8,rfl,hl,la⟩
   have l2:(eD (0+(k:Int)+1) (n-(0+(k:Int)+1)).toNat).length=(n-(0+(k:Int)+1)).toNat:=by unfold eD;rw[bF1,bJ2]
   refine⟨c,ls,_,y8,rfl,?_,la.mono (.inl (by omega))⟩;rw[l2]at hl;omega
 ·rintro ρ ⟨c,ls,y7,y8,rfl,hl,la⟩
  rw[lr]at hl;refine⟨_,rfl,⟨_,_,rfl,rfl,cH ws,_,rfl,⟨_,_,rfl,rfl,lJ ls,fX,E6 ws ls,trivial,?_⟩,λns z=>by cases z⟩,λns z=>by cases z⟩;exact q ws ls ⟨by omega,la.inn,by omega,la.ord,wp⟩ (by omega)
theorem as6 (hn:ns.length<=63)(t0:0<=t)(t1:t<=100)(n0:0<=n)(n1:n<=31)(q:∀(ws:ag) (ls:aa),WL n ws ls->ls.length<=200->E.rt (bG ws ls)) :
  ap8 E [some (.sh true (.scr ns)),si t,si n,some (.own (.lst [])),si c,none,none,none,none,none,none]:=by
 have lr:∀m:Int,(eD 0 m.toNat).length=m.toNat:=λm=>by unfold eD;rw[bF1,bJ2]
 refine⟨_,rfl,_,rfl,by omega,by omega,by rw[lr];omega,λk acc=>∃ws:ag,acc=intz ws/\ws.length=k/\∀w∈ws,0<=w,⟨[],rfl,rfl,λ_ z=>nomatch z⟩,?_,?_⟩
 ·rintro k y acc hy ⟨ws,rfl,wl,wp⟩
  obtain⟨rfl,hk⟩:=j8 hy
  refine i5 ?_;refine⟨_,rfl,_,rfl,_,rfl,_,_,rfl,rfl,ns,_,rfl,hn,by omega,by omega,λz=>⟨_,_,rfl,rfl,(by show (0:Int)<4;decide),trivial,ws++[z%4],?_,by rw[bF4,wl];rfl,λw hw=>(bJ0.mp hw).elim (wp w) λz=>by rw[bF8.mp z];exact bN1 _ (by decide)⟩⟩;rw[eM];rfl
 rintro acc ⟨ws,rfl,wl,wp⟩;have wl:ws.length=n.toNat:=wl.trans (lr n);refine⟨⟨_,_,rfl,rfl,cH ws,trivial,?_⟩,λns z=>by cases z⟩;refine⟨_,rfl,_,_,rfl,rfl,.inl ⟨by decide,by decide⟩,_,rfl,by omega,by omega,λk ρ=>∃(ls:aa) (y4 y7 y8 y9 y10:Option Slot),ρ = [some (.sh true (.scr ns)),si t,si n,some (.own (.lst (cC ls))),y4,some (.sh true (.tup (intz ws))),none,y7,y8,y9,y10]/\ls.length<=k/\ls.Nodup/\∀l∈ls,0<=l.1/\l.1<l.2/\l.2<n,⟨[],_,_,_,_,_,rfl,bI2 _,.nil,λ_ z=>nomatch z⟩,?_,?_⟩
 ·rintro k y ρ hy ⟨ls,y4,y7,y8,y9,y10,rfl,hl,nd,inn⟩
  obtain⟨rfl,hk⟩:=j8 hy
  refine i5 ?_;refine⟨_,rfl,_,rfl,_,rfl,_,_,rfl,rfl,_,rfl,_,_,rfl,rfl,ns,_,rfl,hn,by omega,by omega,λz=>⟨trivial,?_⟩⟩;have np:(0:Int)<n:=by omega
  have ns':n<1073741824:=by omega
  refine⟨_,rfl,_,rfl,_,_,rfl,rfl,np,trivial,?_⟩;refine⟨_,rfl,_,rfl,_,_,rfl,rfl,⟨np,ns'⟩,_,rfl,_,_,rfl,rfl,.inl ⟨by decide,by decide⟩,_,_,rfl,rfl,_,rfl,_,_,rfl,rfl,np,trivial,?_⟩;dsimp only;have a0:=bN1 z (show n≠0 by omega);have a1:=bP2 z np;have b0:=bN1 (z/n+7*z) (show n≠0 by omega);have b1:=bP2 (z/n+7*z) np;generalize z%n=a at a0 a1;generalize (z/n+7*z)%n=b at b0 b1;refine⟨_,rfl,_,rfl,_,_,rfl,_,rfl,_,rfl,_,_,rfl,fX,rfl,trivial,?_⟩;refine⟨_,rfl,_,rfl,.inl ⟨_,_,rfl,rfl,_,rfl,?_⟩⟩;show if (!decide (a=b))=true then _ else _
  cases hab:decide (a=b) with
  |true=>exact aM (aM ⟨ls,_,_,_,_,_,rfl,by omega,nd,inn⟩)
  |false=>
   have hab:=bK4 hab;refine aY ⟨_,rfl,_,rfl,two (mm a b),ls.map two,rfl,(by rw[<- p7];rfl),_,rfl,?_⟩;show if (!decide (two (mm a b)∈ls.map two))=true then _ else _
   cases hin:decide (two (mm a b)∈ls.map two) with
   |true=>exact aM ⟨ls,_,_,_,_,_,rfl,by omega,nd,inn⟩
   |false=>
    have hin:=bK4 hin;refine aY ⟨_,rfl,_,rfl,trivial,by rw[rQ];have:=lr (2*n);omega,ls++[mm a b],si z,si a,si b,si (0+(k:Int)),some (.sh true (.tup [.int (mm a b).1,.int (mm a b).2])),?_,by rw[bF4,bJ3];omega,bN7.mpr ⟨nd,bH7 _ _,λx hx y hy e=>hin (bI7.mpr ⟨x,hx,by rw[e,bF8.mp hy]⟩)⟩,λl hl=>(bJ0.mp hl).elim (inn l) λz=>by rw[bF8.mp z];exact as5 a0 a1 b0 b1 hab⟩;rw[vU];rfl
 ·rintro ρ ⟨ls,y4,y7,y8,y9,y10,rfl,hl,nd,inn⟩
  have hl:ls.length<=(2*n).toNat:=bH6 hl (Nat.le_of_eq (lr _));refine⟨_,rfl,_,rfl,ls.map two,.inl ?_,by rw[bF1];omega,?_,λzs pm so=>?_⟩
  ·show [PV.lst (cC ls)] = [PV.lst ((ls.map two).map λr=>PV.tup (intz r))]
   rw[<- p7]
  ·intro y hy
   obtain⟨l,_,rfl⟩:=bI7.mp hy
   exact λz=>by cases z
  ·obtain⟨ls',rfl,pm2⟩:=ah8 pm
   have e:sE (ls'.map two)=cC ls':=(p7 ls').symm;rw[e]
   exact⟨⟨_,_,rfl,rfl,lJ ls',fX,E6 ws ls',trivial,q ws ls' (WL.perm (by omega) inn (by omega) nd wp pm2 so) (by rw[pm2.length_eq];omega)⟩,λns z=>by cases z⟩
end
abbrev bs7:aT:=ap9
theorem bs8:cY ap9 ["script","at","many","links","cell","wants","hearth","one","other","k","pair"] wM:=by
 rintro xs Q ⟨ns,t,n,rfl,hn,t0,t1,n0,n1,q⟩;refine⟨by decide,rfl,rfl,rfl,?_⟩;refine⟨_,rfl,_,rfl,_,ns,t,rfl,.inl rfl,t0,_,_,rfl,rfl,⟨by decide,by decide⟩,trivial,?_⟩;refine⟨_,rfl,_,rfl,_,ns,t,rfl,.inl rfl,t0,_,_,rfl,rfl,(by show (0:Int)<2;decide),.inl ⟨_,_,rfl,rfl,_,rfl,?_⟩⟩;dsimp only;generalize ns.getD t.toNat 0=c;show if decide (c%2=1)=true then _ else _
 cases decide (c%2=1) with
 |false=>exact aM (aM (as6 hn t0 t1 n0 n1 q))
 |true=>
  refine aY ⟨_,rfl,_,_,rfl,rfl,_,rfl,?_⟩;show if decide (n<13)=true then _ else _
  by_cases h:n<13
  ·rw[bG5 h]
   exact aY (bs6 n0 h q)
  ·rw[bF9 h]
   exact aM (as6 hn t0 t1 n0 n1 q)
abbrev Fx:Str->Prop:=λ_=>False
abbrev sP (x:PV)(r:bT):PV:=.tup [x,bG r.1 r.2.1,.tup (intz r.2.2)]
noncomputable def fZ (r:bT):ag:=lQ (J6 r.1 r.2.1 r.2.2)
def dif (a b:ag):ag:=a.filter λz=>!decide (z∈b)
noncomputable def sU (r:bT)(B:ag):PV:=.tup [.tup (intz (dif (fZ r) B)),.tup (intz (dif B (fZ r)))]
structure cV (r:bT):Prop where
 wl:WL (r.1.length:Int) r.1 r.2.1
 few:r.1.length<=40
 st:cJ r.1.length r.2.2=true
theorem cV.wb {r:bT}(h:cV r):Wb r.1 r.2.1:=h.wl.wb (by have:=h.few;omega)
theorem sV {r:bT}(h:cV r):(fZ r).length<=40:=by
 unfold fZ;rw[bk2];exact bH6 (mT h.st _) h.few
theorem as7 {r:bT}{ms:ag}{m:Nat}(en:bP r.1 r.2.1 r.2.2 m)(p:ms.Perm (aV r.1 r.2.1 r.2.2 m))(so:ms.Pairwise (· <= ·)):ms=fZ r:=by
 rw[bl0 en]at p;exact am6 p so
theorem as8 (l:List PV)(z:PV):L2.atI (l++[z]) (-1)=some z:=by
 unfold L2.atI;have e:kU (l++[z]).length (-1)=some l.length:=by
  unfold kU;simp;omega
 rw[e];simp
theorem bs9 {x:PV}(h:flat x=true)(r:bT):flat (sP x r)=true:=by
 show (flat x&&(flat (bG r.1 r.2.1)&&(flat (.tup (intz r.2.2))&&true)))=true;rw[h,p6,fV];rfl
theorem M8 (r:bT)(B:ag):flat (sU r B)=true:=by
 show (flat (.tup (intz _))&&(flat (.tup (intz _))&&true))=true;rw[fV,fV];rfl
def jC (st:List PV)(r:bT):Prop:=∃pre x,st=pre++[sP x r]
abbrev o8 (t:(Str->Prop)->aT)(N:List Str)(p:eO):Prop:=∀a st un Ep xs Q,p st un Ep xs Q->t Ep { nx:=λ_=>Q .non,rt:=Q } (kK N a st un xs)
abbrev wN (t:(Str->Prop)->jB)(N:List Str)(p:eQ):Prop:=∀a st un Ep xs Q,p st un Ep xs Q->flats xs=true->t Ep { ad:=a,nx:=λ_=>False,rt:=Q } (kK N a st un xs)
def i9:eO:=λst _ _ xs Q=>∃r,xs = []/\jC st r/\Q (bG r.1 r.2.1)
def as9 (_:Str->Prop):aT:=b7 (b5 (wD 0 (nS (qC (.int 1)))) (qC (.int 1)))
theorem bt0:o8 as9 ["self"] i9:=by
 rintro a st un Ep xs Q ⟨r,rfl,⟨pre,x,rfl⟩,q⟩
 exact⟨a,_,un,⟨false,rfl⟩,1,rfl,_,_,rfl,as8 _ _,_,_,_,rfl,rfl,rfl,trivial,q⟩
def iV:eO:=λst _ _ xs Q=>∃r,xs = []/\jC st r/\Q (.tup (intz r.2.2))
def at0 (_:Str->Prop):aT:=b7 (b5 (wD 0 (nS (qC (.int 1)))) (qC (.int 2)))
theorem bt1:o8 at0 ["self"] iV:=by
 rintro a st un Ep xs Q ⟨r,rfl,⟨pre,x,rfl⟩,q⟩
 exact⟨a,_,un,⟨false,rfl⟩,1,rfl,_,_,rfl,as8 _ _,_,_,_,rfl,rfl,rfl,trivial,q⟩
def iW:eO:=λst _ _ xs Q=>∃r,xs = []/\jC st r/\cV r/\Q (.tup (intz (fZ r)))
def at2 (_:Str->Prop):aT:=b7 (aE (vQ Fx) (a6 (cZ Fx 0 i9 aB) (a6 (cZ Fx 0 iV aB) aB)))
theorem bt2:o8 at2 ["self"] iW:=by
 rintro a st un Ep xs Q ⟨r,rfl,ls,ok,q⟩
 have:=mS ok.st
 have:=ok.few
 exact⟨a,st,un,⟨false,rfl⟩,r,rfl,ls,a,st,un,⟨false,rfl⟩,r,rfl,ls,_,_,_,_,rfl,ok.wb,.inl rfl,by omega,λ_ ms m en p so=>⟨trivial,by rw[as7 en p so];exact q⟩,λe=>by rw[ok.st]at e;cases e⟩
def lT:eO:=λst _ _ xs Q=>∃r B,xs = [.tup (intz B)]/\jC st r/\cV r/\B.length<=40/\Q (sU r B)
def at3 (_:Str->Prop):aT:=(aH (bC 2 (cZ Fx 0 iW aB))
 (b7 (c7 (a6 (aE nY (a6 (a5 2) (a6 (a5 1) aB))) (a6 (aE nY (a6 (a5 1) (a6 (a5 2) aB))) aB)))))
theorem bt3:o8 at3 ["self","before","now"] lT:=by
 rintro a st un Ep xs Q ⟨r,B,rfl,ls,ok,bl,q⟩
 have:=sV ok
 refine⟨a,st,un,⟨false,rfl⟩,r,rfl,ls,ok,trivial,?_⟩;refine⟨_,rfl,_,rfl,_,_,_,_,rfl,.inl rfl,.inl rfl,by omega,by omega,_,rfl,_,rfl,_,_,_,_,rfl,.inl rfl,.inl rfl,by omega,by omega,fX,?_,trivial,q⟩;show (flat (.tup (intz _))&&(flat (.tup (intz _))&&true))=true;rw[fV,fV];rfl
theorem cV.done {r r':bT}{d:lR}(ok:cV r)(few:r.2.1.length<62)(bd:e7 r.1 r.2.1 r.2.2 d=false)(h:jV r.1 r.2.1 r.2.2 d r'):cV r'/\r'.1.length=r.1.length/\r'.2.1.length<=r.2.1.length+1:=by
 obtain⟨k1,k2,k3⟩:=h.keeps ok.st bd
 refine⟨⟨?_,by rw[k1];exact ok.few,k3⟩,k1,k2⟩;cases d with
 |light i=>
  have h:r'=_:=h;subst h;exact ok.wl
 |douse i=>
  have h:r'=_:=h;subst h;exact ok.wl
 |want i j=>
  have h:r'=_:=h;subst h;unfold e7 at bd;simp only[Bool.or_eq_false_iff,decide_eq_false_iff_not]at bd;refine⟨rfl,λl hl=>?_,ok.wl.most,ok.wl.ord,λw hw=>?_⟩
  ·have:=ok.wl.inn l hl
   rw[show (((r.1.take i.toNat++[j]++r.1.drop (i.toNat+1),r.2.1,r.2.2):bT).1.length:Int)=r.1.length from congrArg Nat.cast k1];exact this
  ·have hw:w∈r.1.take i.toNat++[j]++r.1.drop (i.toNat+1):=hw
   rcases bJ0.mp hw with hw|hw
   ·rcases bJ0.mp hw with hw|hw
    ·exact ok.wl.pos w (List.mem_of_mem_take hw)
    ·rw[bF8.mp hw];omega
   ·exact ok.wl.pos w (List.mem_of_mem_drop hw)
 |link i j=>
  obtain⟨l1,rfl,h⟩:=h
  unfold e7 at bd;simp only[Bool.or_eq_false_iff,decide_eq_false_iff_not,Bool.not_eq_false']at bd
  obtain⟨b1,b2,b3,b4⟩:=bd
  unfold inB at b1 b2;simp only[bI4,bH1]at b1 b2;have nd:r.2.1.Nodup:=ok.wl.ord.imp λ{x y} z e=>by unfold iP at z;rw[e]at z;omega
  refine WL.perm (ls:=r.2.1++[mm i j]) rfl (λl hl=>?_) ?_ ?_ ok.wl.pos h.1 h.2
  ·rcases bJ0.mp hl with z|z
   ·exact ok.wl.inn l z
   ·rw[bF8.mp z];exact as5 b1.1 b1.2 b2.1 b2.2 b3
  ·rw[bF4,bJ3];omega
  ·exact bN7.mpr ⟨nd,bH7 _ _,λx hx y hy e=>b4 (by rw[<- bF8.mp hy,<- e];exact hx)⟩
 |cut i j=>
  have h:r'=_:=h;subst h
  exact⟨rfl,λl hl=>ok.wl.inn l (bL7.mp hl).1,bH6 (bI9 _ _) ok.wl.most,ok.wl.ord.sublist List.filter_sublist,ok.wl.pos⟩
def sW:eQ:=λst un Ep xs Q=>∃r d,xs = [dP d]/\jC st r/\cV r/\r.2.1.length<62/\st.length<1000000/\(e7 r.1 r.2.1 r.2.2 d=true->Ep "BadDeed")/\(e7 r.1 r.2.1 r.2.2 d=false->∀r',jV r.1 r.2.1 r.2.2 d r'->cV r'->r'.1.length=r.1.length->r'.2.1.length<=r.2.1.length+1->Q (sU r' (fZ r)) (st++[sP (tP d) r']) [])
def at5 (Ep:Str->Prop):jB:=nC (bC 2 (kH Ep w5 (a6 (cZ Fx 0 i9 aB) (a6 (cZ Fx 0 iV aB) (a6 (a5 1) aB)))))
 (nC (bC 3 (cZ Fx 0 iW aB))
 (sS 0 (pN (L6 0 (c7 (a6 (aE pI (a6 (a5 1) aB)) (a6 (b5 (a5 2) (qC (.int 0))) (a6 (b5 (a5 2) (qC (.int 1))) aB)))))
 (pN (L7 0)
 (sR 0 (cZ Fx 0 lT (a6 (a5 3) aB)))))))
theorem at6 {m:Option Slot}{g1 g2 g3:Bool}{x1 x2 x3:PV}:i8 [m,some (.sh g1 x1),some (.sh g2 x2),some (.sh g3 x3)] 0:=λj g x ks n z=>by
 match j,z with
 |0,_=>exact n rfl
 |1,z=>cases z
 |2,z=>cases z
 |3,z=>cases z
 |j+4,z=>cases z
theorem at7 {m:Option Slot}{g1:Bool}{x1:PV}:i8 [m,some (.sh g1 x1)] 0:=λj g x ks n z=>by
 match j,z with
 |0,_=>exact n rfl
 |1,z=>cases z
 |j+2,z=>cases z
theorem bt4:wN at5 ["self","deed","behind","before"] sW:=by
 rintro a st un Ep xs Q ⟨r,d,rfl,ls,ok,few,sl,qe,q⟩ fl;have sn:=mS ok.st;have wf:=ok.few;refine⟨a,st,un,⟨false,rfl⟩,r,rfl,ls,a,st,un,⟨false,rfl⟩,r,rfl,ls,_,rfl,_,_,_,_,d,rfl,.inl rfl,by omega,by omega,by have:=ok.wl.most;omega,λe=>(by rw[ok.st]at e;cases e),λ_=>⟨qe,λbd r' dn=>⟨trivial,?_⟩⟩⟩
 obtain⟨ok',k1,k2⟩:=ok.done few bd dn
 have q:=q bd r' dn ok' k1 k2;refine⟨a,st,un,⟨false,rfl⟩,r,rfl,ls,ok,trivial,st,un,rfl,at6,?_⟩;refine⟨_,rfl,d,rfl,_,rfl,_,_,_,rfl,rfl,rfl,_,rfl,_,_,_,rfl,rfl,rfl,sF,?_,bs9 (ao2 d) r',st,un,rfl,by omega,?_⟩
 ·show flats [tP d,bG r'.1 r'.2.1,.tup (intz r'.2.2)]=true
  show (flat (tP d)&&(flat (bG r'.1 r'.2.1)&&(flat (.tup (intz r'.2.2))&&true)))=true;rw[ao2,p6,fV];rfl
 refine⟨_,_,rfl,?_⟩
 have:=sV ok
 exact⟨a,_,_,⟨true,rfl⟩,_,rfl,r',fZ r,rfl,⟨st,_,rfl⟩,ok',by omega,M8 _ _,_,_,rfl,q⟩
def sX:eQ:=λst un Ep xs Q=>xs = []/\un.length<1000000/\((∃y,st = [y]/\Ep "NoSuch")∨∃pre x' r' x r,st=pre++[sP x' r']++[sP x r]/\cV r'/\cV r/\Q (sU r' (fZ r)) (pre++[sP x' r']) (un++[sP x r]))
def at8 (Ep:Str->Prop):jB:=nC (bF (aQ (kF (aq6 0) (qC (.int 2)))) (iU Ep "NoSuch" (a6 (qC (.str "no deed stands")) aB)) bE)
 (nC (bC 1 (cZ Fx 0 iW aB))
 (sS 0 (pN (L8 0)
 (sR 0 (cZ Fx 0 lT (a6 (a5 1) aB))))))
theorem bt5:wN at8 ["self","before"] sX:=by
 rintro a st un Ep xs Q ⟨rfl,ul,h⟩ fl;rcases h with⟨y,rfl,qe⟩|⟨pre,x',r',x,r,rfl,ok',ok,q⟩
 ·exact⟨a,_,un,⟨false,rfl⟩,_,_,rfl,rfl,_,rfl,aY ⟨jU,qe⟩⟩
 ·refine⟨a,_,un,⟨false,rfl⟩,_,_,rfl,rfl,_,rfl,?_⟩
  rw[bF9 (by rw[bF4,bF4,bJ3,bJ3];omega)];refine aM ?_;refine⟨a,_,un,⟨false,rfl⟩,r,rfl,⟨_,_,rfl⟩,ok,trivial,_,un,rfl,at7,?_⟩;refine⟨_,_,_,rfl,by omega,?_⟩
  have:=sV ok
  exact⟨a,_,_,⟨true,rfl⟩,_,rfl,r',fZ r,rfl,⟨pre,x',rfl⟩,ok',by omega,M8 _ _,_,_,rfl,q⟩
def sY:eQ:=λst un Ep xs Q=>xs = []/\st.length<1000000/\((un = []/\Ep "NoSuch")∨∃un' x' r' r,un=un'++[sP x' r']/\jC st r/\cV r'/\cV r/\Q (sU r' (fZ r)) (st++[sP x' r']) un')
def at9 (Ep:Str->Prop):jB:=nC (bF (eB (aq7 0)) (iU Ep "NoSuch" (a6 (qC (.str "no deed was taken back")) aB)) bE)
 (nC (bC 1 (cZ Fx 0 iW aB))
 (sS 0 (pN (L9 0)
 (sR 0 (cZ Fx 0 lT (a6 (a5 1) aB))))))
theorem bt6:wN at9 ["self","before"] sY:=by
 rintro a st un Ep xs Q ⟨rfl,sl,h⟩ fl;rcases h with⟨rfl,qe⟩|⟨un',x',r',r,rfl,ls,ok',ok,q⟩
 ·exact⟨a,st,[],⟨false,rfl⟩,aY ⟨jU,qe⟩⟩
 ·refine⟨a,st,_,⟨false,rfl⟩,?_⟩
  have e:(un'++[sP x' r']).isEmpty=false:=by cases un'<;>rfl
  rw[e];refine aM ?_;refine⟨a,st,_,⟨false,rfl⟩,r,rfl,ls,ok,trivial,st,_,rfl,at7,?_⟩;refine⟨_,_,_,rfl,by omega,?_⟩
  have:=sV ok
  exact⟨a,_,_,⟨true,rfl⟩,_,rfl,r',fZ r,rfl,⟨st,x',rfl⟩,ok',by omega,M8 _ _,_,_,rfl,q⟩
end Core
namespace PP
open PySem L2 PyProof.Rows
section
variable {X:Cx}{C:ax}{x:Str}{pos p2 p3 p4 p5 ai aj ap2 cp2:Pos}
theorem bt7 (kc:KC X.K C)(i:Nat)(hN:X.N[i]? = some x:=by rfl)(hv:cO X.env.scope x:=by first|exact Or.inl rfl|exact Or.inr (Or.inl rfl)|exact Or.inr (Or.inr rfl))(hd:(x==("__debug__":Str))=false:=by decide)(hcd:(x==("__classdict__":Str))=false:=by decide)(hbs:attributeBase (.Name x p2) "undone" X.env (eval (.Name x p2) X.env)=eval (.Name x p2) X.env:=by rfl)(hbg:attributeBase (.Name x p4) "standing" X.env (eval (.Name x p4) X.env)=eval (.Name x p4) X.env:=by rfl)(hbase:attributeBase (.Attribute (.Name x p2) "undone" p3) "append" X.env (eval (.Attribute (.Name x p2) "undone" p3) X.env)=eval (.Attribute (.Name x p2) "undone" p3) X.env:=by rfl)(hbase2:attributeBase (.Attribute (.Name x p4) "standing" p5) "pop" X.env (eval (.Attribute (.Name x p4) "standing" p5) X.env)=eval (.Attribute (.Name x p4) "standing" p5) X.env:=by rfl)(hfew:((backTo aj (starEach [.Call (.Attribute (.Attribute (.Name x p4) "standing" p5) "pop" ap2) [] [] cp2] X.env)).all (λx=>!x.1)&&(backToKw aj (keywordEach [] X.env)).all (λx=>x.1.isSome)&&decide (([.Call (.Attribute (.Attribute (.Name x p4) "standing" p5) "pop" ap2) [] [] cp2]:List Expr).length+([]:List Keyword).length+(if ([]:List Keyword).isEmpty then 0 else 1)<30))=true:=by rfl)(hline:(ai.endLine==aj.line)=true:=by rfl)(hline2:(ap2.endLine==cp2.line)=true:=by rfl)(hs:starEach [.Call (.Attribute (.Attribute (.Name x p4) "standing" p5) "pop" ap2) [] [] cp2] X.env=(false,eval (.Call (.Attribute (.Attribute (.Name x p4) "standing" p5) "pop" ap2) [] [] cp2) X.env)::starEach [] X.env:=by rfl)(ar:(backTo aj (starEach [] X.env)).any (·.1)=false:=by rfl)(hsw:swapsWith (.Call (.Attribute (.Attribute (.Name x p2) "undone" p3) "append" ai) [.Call (.Attribute (.Attribute (.Name x p4) "standing" p5) "pop" ap2) [] [] cp2] [] aj) none pos.line X.env=pure false:=by rfl) :
  QK X i (.Expr (.Call (.Attribute (.Attribute (.Name x p2) "undone" p3) "append" ai) [.Call (.Attribute (.Attribute (.Name x p4) "standing" p5) "pop" ap2) [] [] cp2] [] aj) pos) (L8 i):=
 dE (ar5 i hN hv hd hcd hbs hbg hbase hbase2 hfew hline hline2 hs ar hsw) λ_ _ _=>br0 kc
theorem bt8 (kc:KC X.K C)(i:Nat)(hN:X.N[i]? = some x:=by rfl)(hv:cO X.env.scope x:=by first|exact Or.inl rfl|exact Or.inr (Or.inl rfl)|exact Or.inr (Or.inr rfl))(hd:(x==("__debug__":Str))=false:=by decide)(hcd:(x==("__classdict__":Str))=false:=by decide)(hbs:attributeBase (.Name x p2) "standing" X.env (eval (.Name x p2) X.env)=eval (.Name x p2) X.env:=by rfl)(hbg:attributeBase (.Name x p4) "undone" X.env (eval (.Name x p4) X.env)=eval (.Name x p4) X.env:=by rfl)(hbase:attributeBase (.Attribute (.Name x p2) "standing" p3) "append" X.env (eval (.Attribute (.Name x p2) "standing" p3) X.env)=eval (.Attribute (.Name x p2) "standing" p3) X.env:=by rfl)(hbase2:attributeBase (.Attribute (.Name x p4) "undone" p5) "pop" X.env (eval (.Attribute (.Name x p4) "undone" p5) X.env)=eval (.Attribute (.Name x p4) "undone" p5) X.env:=by rfl)(hfew:((backTo aj (starEach [.Call (.Attribute (.Attribute (.Name x p4) "undone" p5) "pop" ap2) [] [] cp2] X.env)).all (λx=>!x.1)&&(backToKw aj (keywordEach [] X.env)).all (λx=>x.1.isSome)&&decide (([.Call (.Attribute (.Attribute (.Name x p4) "undone" p5) "pop" ap2) [] [] cp2]:List Expr).length+([]:List Keyword).length+(if ([]:List Keyword).isEmpty then 0 else 1)<30))=true:=by rfl)(hline:(ai.endLine==aj.line)=true:=by rfl)(hline2:(ap2.endLine==cp2.line)=true:=by rfl)(hs:starEach [.Call (.Attribute (.Attribute (.Name x p4) "undone" p5) "pop" ap2) [] [] cp2] X.env=(false,eval (.Call (.Attribute (.Attribute (.Name x p4) "undone" p5) "pop" ap2) [] [] cp2) X.env)::starEach [] X.env:=by rfl)(ar:(backTo aj (starEach [] X.env)).any (·.1)=false:=by rfl)(hsw:swapsWith (.Call (.Attribute (.Attribute (.Name x p2) "standing" p3) "append" ai) [.Call (.Attribute (.Attribute (.Name x p4) "undone" p5) "pop" ap2) [] [] cp2] [] aj) none pos.line X.env=pure false:=by rfl) :
  QK X i (.Expr (.Call (.Attribute (.Attribute (.Name x p2) "standing" p3) "append" ai) [.Call (.Attribute (.Attribute (.Name x p4) "undone" p5) "pop" ap2) [] [] cp2] [] aj) pos) (L9 i):=
 dE (ar5 i hN hv hd hcd hbs hbg hbase hbase2 hfew hline hline2 hs ar hsw) λ_ _ _=>br1 kc
end
end PP
namespace Core
open PySem L2 PP
def NK (y:Option Slot):Prop:=∀g x ks,y≠some (.kp g x ks)
theorem wO {g:Bool}{x:PV}:NK (some (.sh g x)):=λ_ _ _ z=>by cases z
theorem wP:NK none:=λ_ _ _ z=>by cases z
def pP:bS:=λxs Q=>∃ws ls h,xs = [bG ws ls,.int h]/\ls.length<=1700/\Q (.lst (intz (aX ls h)))
def au0:aT:=(aH (iH 2 (eI aB))
 (aH (e9 (eC (b5 (a5 0) (qC (.int 1)))) (k7 3 4)
  (aH (bF (aQ (gX (a5 3) (a5 1))) (j5 2 (a5 4)) bE)
  (bF (aQ (gX (a5 4) (a5 1))) (j5 2 (a5 3)) bE)))
 (mF 2)))
theorem bt9:cY au0 ["web","hearth","found","one","other"] pP:=by
 rintro xs Q ⟨ws,ls,h,rfl,ll,q⟩;refine⟨by decide,rfl,rfl,rfl,?_⟩;refine⟨_,rfl,_,_,_,rfl,rfl,rfl,_,rfl,(λ_=>?_),λk ρ=>∃y3 y4,ρ = [some (.sh (flat (bG ws ls)) (bG ws ls)),si h,some (.own (.lst (intz (aX (ls.take k) h)))),y3,y4],⟨none,none,rfl⟩,?_,?_⟩
 ·exact lJ ls
 ·rintro k y ρ hy ⟨y3,y4,rfl⟩
  rw[bG4]at hy;cases e:ls[k]? with
  |none=>rw[e]at hy;cases hy
  |some l=>
   rw[e]at hy;cases hy;have kl:=(bF6.mp e).1;have nl:(aX (ls.take k) h).length<=2*1700:=bH6 (qU _ _) (by rw[bI8];omega);refine bm2 ?_;have tail:∀A:ag,A.length<=2*1700+1->aX (ls.take (k+1)) h=A++(if l.2=h then [l.1] else [])->(bF (aQ (gX (a5 4) (a5 1))) (j5 2 (a5 3)) bE) { nx:=λρ=>∃y3 y4,ρ = [some (.sh (flat (bG ws ls)) (bG ws ls)),si h,some (.own (.lst (intz (aX (ls.take (k+1)) h)))),y3,y4],rt:=Q,bk:=λρ=>False,ct:=λρ=>∃y3 y4,ρ = [some (.sh (flat (bG ws ls)) (bG ws ls)),si h,some (.own (.lst (intz (aX (ls.take (k+1)) h)))),y3,y4] } [some (.sh (flat (bG ws ls)) (bG ws ls)),si h,some (.own (.lst (intz A))),si l.1,si l.2]:=λA al eA=>by
    refine⟨_,rfl,_,rfl,.inl ⟨_,_,rfl,rfl,_,rfl,?_⟩⟩;show if decide (l.2=h)=true then _ else _
    by_cases z:l.2=h
    ·rw[bG5 z]
     refine aY ⟨_,rfl,_,rfl,trivial,by rw[bO];omega,si l.1,si l.2,?_⟩;rw[eA,if_pos z,eM];rfl
    ·rw[bF9 z]
     refine aM ⟨si l.1,si l.2,?_⟩;rw[eA,if_neg z,bH4]
   refine⟨_,rfl,_,rfl,.inl ⟨_,_,rfl,rfl,_,rfl,?_⟩⟩;show if decide (l.1=h)=true then _ else _
   by_cases z:l.1=h
   ·rw[bG5 z]
    refine aY ⟨_,rfl,_,rfl,trivial,by rw[bO];omega,?_⟩
    have:=tail (aX (ls.take k) h++[l.2]) (by rw[bF4,bJ3];omega) (by rw[zD e,if_pos z,List.append_assoc])
    rw[eM]at this;exact this
   ·rw[bF9 z]
    refine aM ?_;exact tail _ (by omega) (by rw[zD e,if_neg z];rfl)
 ·rintro ρ ⟨y3,y4,rfl⟩
  rw[bF1,bI5]
  exact⟨_,rfl,trivial,q⟩
def wQ:bS:=λxs Q=>∃ws ls ns,xs = [bG ws ls,.tup (intz ns)]/\Wb ws ls/\cJ ws.length ns=true/\∀m,bP ws ls ns m->Q (.lst (tups (ns::after ws ls ns m)))
def au1:aT:=(aH (bC 7 (aE fR (a6 (dH (eC (aE pP (a6 (a5 0) (a6 (a5 6) aB)))) [none,some 2] (bW 0) (aQ (q2 (j6 false) (a5 0) (a5 1))) (a5 0)) aB)))
   (bF (qV (aQ (q2 (j6 true) (a5 6) (a5 2))) (aQ (A8 (a5 7) (b5 (b5 (a5 0) (qC (.int 0))) (a5 6))))) (j5 5 (a5 6)) bE))
def au2:aT:=(aH (iH 5 (eI aB))
  (aH (e9 (gM (aE fR (a6 (b5 (a5 0) (qC (.int 0))) aB))) (bW 6) au1)
  (aH (bC 4 (A7 (aE fR (a6 (a5 5) aB)) (qC (.int 0))))
  (aH (bF (aQ (a5 4)) (j5 3 (aE dY (a6 (a5 5) aB))) bE)
  (bC 2 (F1 (a5 2) (a5 5)))))))
def au3:aT:=(aH (bC 2 (aE zS (a6 (a5 1) aB)))
 (aH (iH 3 (eI (a6 (aE dY (a6 (a5 1) aB)) aB)))
 (aH (bC 4 (qC (.bl true)))
 (aH (uG (aQ (a5 4)) au2)
 (mF 3)))))
section
variable {ws:ag}{ls:aa}{ns S:ag}{T:List PV}{y4 y5 y6 y7:Option Slot}{E:iG}
abbrev nD (ws:ag)(ls:aa)(ns S:ag)(T:List PV)(y4 y5 y6 y7:Option Slot):b8:=[some (.sh (flat (bG ws ls)) (bG ws ls)),some (.sh (flat (.tup (intz ns))) (.tup (intz ns))),some (.sh true (.lst (intz S))),some (.own (.lst T)),y4,y5,y6,y7]
theorem bu0 {k:Nat}{A:ag}(kl:k<ws.length)(al:A.length≤40)(ll:ls.length≤1700)(q:∀y7, E.nx (nD ws ls ns S T y4 (some (.own (.lst (intz (A++if kin ws ls S k = true then [(k:Int)] else []))))) (si (k:Int)) y7)) :
    au1 E (nD ws ls ns S T y4 (some (.own (.lst (intz A)))) (si (k:Int)) y7) := by
  have nl:(aX ls (k:Int)).length≤2*1700 := bH6 (qU _ _) (by omega);refine⟨_, rfl, _, rfl, ws, ls, (k:Int), rfl, ll, _, rfl, (λz => by cases z), by rw[bO];omega, λi acc => acc = intz (((aX ls (k:Int)).take i).filter λx => decide (x∈S)), rfl, ?_, ?_⟩
  · rintro i y acc hy rfl
    rw[bG4]at hy;cases e:(aX ls (k:Int))[i]? with
    |none => rw[e]at hy;cases hy
    |some x =>
      rw[e]at hy;cases hy;refine i5 ?_;refine⟨_, rfl, _, rfl, x, S, rfl, rfl, _, rfl, ?_⟩;show if decide (x∈S) = true then _ else _
      by_cases z:x∈S
      · rw[bG5 z]
        refine aY ⟨_, rfl, trivial, ?_⟩;show intz (((aX ls (k:Int)).take i).filter λx => decide (x∈S))++[PV.int x] = intz (((aX ls (k:Int)).take (i+1)).filter λx => decide (x∈S));rw[iN e, bG5 z, if_pos rfl, eM];rfl
      · rw[bF9 z]
        refine aM ?_;show intz (((aX ls (k:Int)).take i).filter λx => decide (x∈S)) = intz (((aX ls (k:Int)).take (i+1)).filter λx => decide (x∈S));rw[iN e, bF9 z, if_neg (by decide), bH4]
  · rintro acc rfl
    rw[bO, bI5];refine⟨_, _, rfl, rfl, trivial, ?_⟩;refine⟨_, rfl, _, rfl, (k:Int), S, rfl, rfl, _, rfl, ?_⟩;rw[bO];have hk:kin ws ls S (k:Int) = (!decide ((k:Int)∈S)&&decide (ws.getD ((k:Int)).toNat 0≤(((aX ls (k:Int)).filter λx => decide (x∈S)).length:Int))) := rfl;show if (!decide ((k:Int)∈S)) = true then _ else _
    cases e:(!decide ((k:Int)∈S)) with
    |false =>
      rw[e, Bool.false_and]at hk;have q := q (si (((aX ls (k:Int)).filter λx => decide (x∈S)).length:Int));rw[hk, if_neg (by decide), bH4]at q;exact aM (aM q)
    |true =>
      rw[e, Bool.true_and]at hk;refine aY ⟨_, rfl, _, rfl, _, _, _, rfl, rfl, rfl, _, rfl, _, _, _, rfl, rfl, mR (by omega) (by omega), _, _, rfl, rfl, _, rfl, ?_⟩;have q := q (si (((aX ls (k:Int)).filter λx => decide (x∈S)).length:Int));rw[hk]at q;show if decide (ws.getD ((k:Int)).toNat 0≤(((aX ls (k:Int)).filter λx => decide (x∈S)).length:Int)) = true then _ else _
      cases e2:decide (ws.getD ((k:Int)).toNat 0≤(((aX ls (k:Int)).filter λx => decide (x∈S)).length:Int)) with
      |false =>
        rw[e2, if_neg (by decide), bH4]at q;exact aM q
      |true =>
        rw[e2, if_pos rfl, eM]at q;exact aY ⟨_, rfl, _, rfl, trivial, by rw[bO];omega, q⟩
theorem bu1 (wb:Wb ws ls)(tl:T.length≤60)(sl:S.length≤40)(q0:nextOf ws ls S = []→∀y6 y7, E.nx (nD ws ls ns S T (some (.sh true (.bl false))) (some (.own (.lst []))) y6 y7))(q1:nextOf ws ls S≠[]→∀y6 y7, E.nx (nD ws ls ns (S++nextOf ws ls S) (T++[.tup (intz (nextOf ws ls S))]) (some (.sh true (.bl true))) (some (.own (.lst (intz (nextOf ws ls S))))) y6 y7)) :
    au2 E (nD ws ls ns S T y4 y5 y6 y7) := by
  have few := wb.few;refine⟨by decide, rfl, rfl, rfl, ?_⟩;refine⟨_, rfl, _, _, _, rfl, rfl, rfl, _, _, rfl, rfl, _, rfl, by rw[bO];omega, by rw[bO];omega, λk ρ => ∃y6 y7, ρ = nD ws ls ns S T y4 (some (.own (.lst (intz (((rng ws.length).take k).filter (kin ws ls S)))))) y6 y7, ⟨y6, y7, rfl⟩, ?_, ?_⟩
  · rintro k y ρ hy ⟨y6, y7, rfl⟩
    obtain⟨rfl, hk⟩ := j8 hy
    have kl:k<ws.length := by rw[bO]at hk;omega
    refine i5 ?_;rw[show (0:Int)+(k:Int) = (k:Int) by omega];have e:(rng ws.length)[k]? = some (k:Int) := by
      unfold rng;rw[bG4, bS7 kl];rfl
    have al:(((rng ws.length).take k).filter (kin ws ls S)).length≤40 := by
      have h1 := bI9 (kin ws ls S) ((rng ws.length).take k);rw[bI8]at h1;omega
    refine bu0 kl al wb.most λy7 => ⟨si (k:Int), y7, ?_⟩
    rw[iN e]
  · rintro ρ ⟨y6, y7, rfl⟩
    have lr:(eD 0 ((intz ws).length:Int).toNat).length = (rng ws.length).length := by
      rw[gV, bO];unfold rng;rw[bF1, bJ2];rfl
    rw[lr, bI5];have en:(rng ws.length).filter (kin ws ls S) = nextOf ws ls S := rfl;rw[en];have nl:(nextOf ws ls S).length≤40 := by
      rw[← en];have h1 := bI9 (kin ws ls S) (rng ws.length);have h2:(rng ws.length).length = ws.length := by unfold rng;rw[bF1, bJ2]
      omega
    generalize nextOf ws ls S = A at q0 q1 nl;refine⟨_, rfl, _, _, rfl, rfl, _, _, rfl, rfl, trivial, ?_⟩;rw[bO];cases A with
    |nil =>
      refine⟨_, rfl, _, rfl, aM ?_⟩;refine⟨_, rfl, _, rfl, intz S, [], rfl, rfl, cH S, rfl, by rw[bO];show S.length+0≤_;omega, trivial, ?_⟩;rw[bH4];exact q0 rfl y6 y7
    |cons x r =>
      have dg:decide ((0:Int)<(((x::r).length:Nat):Int)) = true := bG5 (by rw[bH8];omega);have q1 := q1 (by intro z;cases z) y6 y7;show (aH (bF (aQ (a5 4)) (j5 3 (aE dY (a6 (a5 5) aB))) bE) (bC 2 (F1 (a5 2) (a5 5)))) E (nD ws ls ns S T (some (.sh true (.bl (decide ((0:Int)<(((x::r).length:Nat):Int)))))) (some (.own (.lst (intz (x::r))))) y6 y7);rw[dg];refine⟨_, rfl, _, rfl, aY ⟨_, rfl, _, rfl, ⟨_, _, rfl, rfl, cH _, trivial, by omega, ?_⟩, λns z => by cases z⟩⟩;refine⟨_, rfl, _, rfl, intz S, intz (x::r), rfl, rfl, cH S, cH _, by rw[bO, bO];omega, trivial, ?_⟩;rw[← eM];exact q1
end
theorem bu2 (L:af)(A:ag):tups (L++[A])=tups L++[.tup (intz A)]:=by unfold tups;rw[bJ1];rfl
theorem bu3:cY au3 ["web", "seeds", "burning", "told", "going", "now", "hearth", "lit"] wQ := by
  rintro xs Q ⟨ws, ls, ns, rfl, wb, hs, q⟩;have few := wb.few;have sn := mS hs;refine⟨_, rfl, _, _, rfl, rfl, cH ns, trivial, ?_⟩;refine⟨_, rfl, ⟨_, _, rfl, rfl, cH ns, ⟨by show 1≤1000;decide, ?_, rfl, ?_, ?_⟩⟩, λns z => by cases z⟩
  · show (flat (.tup (intz ns))&&true) = true
    rw[fV];rfl
  · show (flat (.tup (intz ns))&&true) = true
    rw[fV];rfl
  refine⟨trivial, λn ρ => ∃k b y5 y6 y7, ρ = nD ws ls ns (aV ws ls ns k) (tups (ns::after ws ls ns k)) (some (.sh true (.bl b))) y5 y6 y7∧(∀j<k, nextOf ws ls (aV ws ls ns j)≠[])∧(b = false→nextOf ws ls (aV ws ls ns k) = [])∧n = dJ ws (aV ws ls ns k)+(if b = true then 1 else 0), ⟨_, 0, true, none, none, none, rfl, λ_ z => absurd z (bS6 _), (λz => by cases z), rfl⟩, ?_⟩;rintro n ρ ⟨k, b, y5, y6, y7, rfl, ne, hb, rfl⟩;refine⟨_, rfl, b, rfl, ?_⟩;cases b with
  |false =>
    refine aM ⟨_, rfl, trivial, ?_⟩;exact q k ⟨ne, hb rfl⟩
  |true =>
    have tl:(tups (ns::after ws ls ns k)).length≤60 := by
      have few2:∀j, j≤k→j≤(aV ws ls ns j).length := λj => by
        induction j with
        |zero => intro _;exact bI2 _
        |succ j ih =>
          intro hj;have h1 := ih (by omega);have h2:0<(nextOf ws ls (aV ws ls ns j)).length := List.length_pos_iff.mpr (ne j (by omega));show j+1≤(aV ws ls ns j++nextOf ws ls (aV ws ls ns j)).length;rw[bF4];omega
      have := few2 k (bF7 _);have := mT (ls := ls) hs k;unfold tups;rw[bF1, bH8];unfold after;rw[bF1, bJ2];omega
    refine aY (bu1 wb tl (bH6 (mT hs k) few) (λz y6 y7 => ?_) λz y6 y7 => ?_)
    · exact⟨dJ ws (aV ws ls ns k), by show dJ ws (aV ws ls ns k)<dJ ws (aV ws ls ns k)+1;omega, k, false, _, y6, y7, rfl, ne, λ_ => z, rfl⟩
    · refine⟨dJ ws (aV ws ls ns (k+1))+1, ?_, k+1, true, some (.own (.lst (intz (nextOf ws ls (aV ws ls ns k))))), y6, y7, ?_, λj hj => ?_, (λz => by cases z), rfl⟩
      · have c := vA ws ls (aV ws ls ns k)
        have l1:0<(nextOf ws ls (aV ws ls ns k)).length := List.length_pos_iff.mpr z;show dJ ws (aV ws ls ns k++nextOf ws ls (aV ws ls ns k))+1<dJ ws (aV ws ls ns k)+1;omega
      · rw[C4, ← List.cons_append, bu2];rfl
      · by_cases e:j = k
        · rw[e];exact z
        · exact ne j (by omega)
end Core
namespace PP
open PySem L2 PyProof.Rows
section
variable {X:Cx}{C:ax}{x y m:Str}{pos p2 p3 sp ai cp:Pos}{lo hi:Option Expr}{tl th:nT}{a b e:Expr}{es:List Expr}{ta tb te:aG}{tr:bV}{i:Nat}{p:eQ}{st:Stmt}{t:aT}
def bu4 (i:Nat)(p:eQ)(tr:bV):aT:=λD ρ=>∃a st un,ρ[i]? = some (some (.kp true (.ob a) [(a,st,un)]))/\i8 ρ i/\tr ρ λxs=>flats (xs.map (·.1))=true/\p st un (λ_=>False) (xs.map (·.1)) λ_ st' un'=>D.nx (ρ.set i (some (.kp true (.ob a) [(a,st',un')])))
end
end PP
namespace Core
open PySem L2 PP
abbrev fJ:=lR×bT
def fP (p:fJ):PV:=sP (tP p.1) p.2
def bu5 (r:bT)(p:fJ):Prop:=e7 r.1 r.2.1 r.2.2 p.1=false/\jV r.1 r.2.1 r.2.2 p.1 p.2/\cV p.2/\p.2.1.length=r.1.length/\p.2.2.1.length<=r.2.1.length+1
def lU:bT->List fJ->Prop
 |_,[]=>True
 |r,p::l=>bu5 r p/\lU p.2 l
def fM:bT->List fJ->bT
 |r,[]=>r
 |_,p::l=>fM p.2 l
theorem au4:∀{r:bT}{a b:List fJ},fM r (a++b)=fM (fM r a) b
 |_,[],_=>rfl
 |_,p::a,b=>au4 (r:=p.2) (a:=a)
theorem M9 {r:bT}{a:List fJ}{p:fJ}:fM r (a++[p])=p.2:=au4
theorem lV:∀{r:bT}{a b:List fJ},lU r (a++b)↔lU r a/\lU (fM r a) b
 |_,[],_=>⟨λh=>⟨trivial,h⟩,λh=>h.2⟩
 |_,p::a,b=>⟨λh=>⟨⟨h.1,(lV.mp h.2).1⟩,(lV.mp h.2).2⟩,λh=>⟨h.1.1,lV.mpr ⟨h.1.2,h.2⟩⟩⟩
theorem pQ:∀{r:bT}{a:List fJ},cV r->lU r a->cV (fM r a)/\(fM r a).1.length=r.1.length/\(fM r a).2.1.length<=r.2.1.length+a.length
 |_,[],ok,_=>⟨ok,rfl,bF7 _⟩
 |r,p::a,ok,h=>by
  obtain⟨h1,h2,h3⟩:=pQ (r:=p.2) (a:=a) h.1.2.2.1 h.2
  refine⟨h1,h2.trans h.1.2.2.2.1,?_⟩
  have:=h.1.2.2.2.2
  show (fM p.2 a).2.1.length<=_;rw[bH8];omega
def lW (r:bT)(ds:List fJ):List PV:=sP .non r::ds.map fP
theorem wR {r:bT}{ds:List fJ}{p:fJ}:lW r (ds++[p])=lW r ds++[fP p]:=by
 unfold lW;rw[bJ1];rfl
theorem bu6 {r:bT}{ds:List fJ}:(lW r ds).length=1+ds.length:=by
 unfold lW;rw[bH8,bF1];omega
theorem N0 {α:Type}(l:List α):l = []∨∃a x,l=a++[x]:=by
 rcases List.eq_nil_or_concat l with h|⟨a,x,h⟩
 ·exact .inl h
 ·exact .inr ⟨a,x,h.trans (List.concat_eq_append)⟩
theorem sZ {r:bT}{ds:List fJ}:jC (lW r ds) (fM r ds):=by
 rcases N0 ds with rfl|⟨a,p,rfl⟩
 ·exact⟨[],.non,rfl⟩
 ·rw[M9,wR]
  exact⟨_,_,rfl⟩
def pR (n:Nat)(x:PV):Prop:=cI n x x=true/\eJ n x x=true
theorem bu7 (n:Nat)(a:Int):pR n (.int a):=by
 unfold pR;cases n<;>exact⟨bJ8 a,rfl⟩
theorem bu8 {n:Nat}{xs:List PV}(h:∀x∈xs,pR n x):pR (n+1) (.tup xs):=by
 have k:∀ys:List PV,(∀x∈ys,pR n x)->(ys.zip ys).all (λp=>cI n p.1 p.2)=true/\(ys.zip ys).all (λp=>eJ n p.1 p.2)=true:=λys=>by
  induction ys with
  |nil=>exact λ_=>⟨rfl,rfl⟩
  |cons y ys ih=>
   intro h
   obtain⟨h1,h2⟩:=ih λx hx=>h x (bG8 _ hx)
   obtain⟨g1,g2⟩:=h y bG7
   rw[List.zip_cons_cons,bP8,bP8,h1,h2,g1,g2]
   exact⟨rfl,rfl⟩
 obtain⟨h1,h2⟩:=k xs h
 refine⟨?_,h2⟩;show ((xs.zip xs).all (λp=>cI n p.1 p.2)&&xs.length==xs.length)=true;rw[h1,bJ8];rfl
theorem wS (n:Nat)(A:ag):pR (n+1) (.tup (intz A)):=bu8 λx hx=>by
 obtain⟨a,_,rfl⟩:=bI7.mp hx
 exact bu7 n a
def wT:List (Option Slot)->Prop
 |[]=>True
 |y::l=>NK y/\wT l
theorem N1:∀{l:List (Option Slot)}{j:Nat}{y:Option Slot},wT l->l[j]? = some y->NK y
 |[],_,_,_,h=>by cases h
 |_::_,0,_,h,e=>by cases e;exact h.1
 |_::_,j+1,_,h,e=>N1 h.2 e
theorem bu9 {m:Option Slot}(A B:List (Option Slot)){i:Nat}(hi:A.length=i)(hA:wT A)(hB:wT B):i8 (A++m::B) i:=λj g x ks n z=>by
 subst hi;rcases Nat.lt_or_ge j A.length with h|h
 ·rw[bL5 h]at z
  exact N1 hA z g x ks rfl
 ·rw[bO0 h]at z
  obtain⟨d,e⟩:∃d,j-A.length=d+1:=⟨j-A.length-1,by omega⟩
  rw[e]at z;exact N1 hB (by rw[bJ9]at z;exact z) g x ks rfl
end Core
namespace PP
open PySem L2 PyProof.Rows
structure t5 (P:ay)(w:ba)(K:ae)(mg:Str->Option av)(base:Heap)(k:Nat)(x:Str)(ps:List Str)(p:eO):Prop where
 ex:∃f fd,bU P w K mg base (bR P w) k f fd ps (o4 K p)/\dQ K fd ps []/\PySem.W.keepIn K (.ref f)=true/\mg x=some (.ref f)
theorem au5 {P:ay}{w:ba}{K:ae}{mg:Str->Option av}{base:Heap}{k:Nat}{x qual:Str}{ps N:List Str}{p:eO}{st:Stmt}{f:ax}{fd:FuncData}(F:cQ K x qual st f fd)(S:FnScope N ps (aS st))(t:(Str->Prop)->aT)(len:∀st un Ep xs Q,p st un Ep xs Q->xs.length+1=ps.length)(rd:∀a st un Ep xs Q,p st un Ep xs Q->t Ep { nx:=λ_=>Q .non,rt:=Q } (kK N a st un xs))(body:∀(cdv:av) (A:az) (outer:List Env) (s:aw) (H:Hp) (E:XK) (Ep:Str->Prop),bJ k (A.deeper (envOfC qual (aS st) s.heap.objs.size f cdv))->lI (cP (bR P w) P w K mg base N qual (aS st) f cdv A outer s H E) (EX K H Ep)->
   fG (cP (bR P w) P w K mg base N qual (aS st) f cdv A outer s H E) (cU st) (t Ep)):bU P w K mg base (bR P w) (k+1) f fd ps (o4 K p):=by
 refine F.okX S (λvs H Q E h=>?_) (λcdv A outer s H vs Q E hr h=>?_)
 ·obtain⟨a,us,xs,st,un,Qp,Ep,rfl,_,r,q,_⟩:=h
  rw[bH8,r.length];exact len st un Ep xs Qp q
 ·obtain⟨a,us,xs,st,un,Qp,Ep,rfl,hk,r,q,k,ke⟩:=h
  have ht:=body cdv A outer s H E Ep hr (v3 λc d H' z=>?_)
  ·refine⟨_,ht,λ_=>False,kK N a st un xs,_,K8 hk r,rd a st un Ep xs Qp q,?_,?_,?_,?_⟩
   ·exact λW' σ' H' ρ' e px q=>k _ _ _ px.same .non q
   ·exact λv H' x s r q=>k _ _ _ s r q
   ·exact λW' σ' H' ρ' e px q=>q
   ·exact λW' σ' H' ρ' e px q=>q
  ·obtain⟨rfl,s1,n,C,rfl,z1,z2⟩:=z
   exact ke n C H' s1 z1 z2
section
variable {X:Cx}{σ:L2.St}{H:Hp}{D:bP}{tr:bV}{e:Expr}{es:List Expr}{x y f m:Str}{pos p2 p3 p4 cp ai:Pos}{i j:Nat}
theorem N3 {Ep:Str->Prop}{p:eO}(i:Nat)(hX:iC (bR X.prog X.w) X (EX X.K X.H₀ Ep)){k n:Nat}{ps:List Str}(d:t5 X.prog X.w X.K X.mg X.base k f ps p)(hr:bJ n X.A)(ha:QA X es tr)(hkj:k<=n:=by decide)(hg:Gl X f:=by rfl)(hdb:(f==("__debug__":Str))=false:=by decide)(hi2:X.N[i]? = some x:=by rfl)(hv:cO X.env.scope x:=by first|exact Or.inl rfl|exact Or.inr (Or.inl rfl)|exact Or.inr (Or.inr rfl))(hd:(x==("__debug__":Str))=false:=by decide)(hcd:(x==("__classdict__":Str))=false:=by decide)(hst:starEach (.Name x p4::es) X.env=(false,eval (.Name x p4) X.env)::starEach es X.env:=by rfl)(hpl:(backTo cp (starEach es X.env)).any (·.1)=false:=by rfl) :
  QE X (.Call (.Name f p2) (.Name x p4::es) [] cp) (cZ Ep i p tr):=by
 obtain⟨fa,fd,F,b,kp,mf⟩:=d.ex
 refine bX (qH (E:=EX X.K X.H₀ Ep) F (hr.mono hkj) hg mf kp b .nil hX (d8 (dM hi2 hv hd hcd) ha hst) hdb hst hpl) λσ H Q' h=>?_
 obtain⟨W,ρ,Q,px,⟨a,st,un,hk,q⟩,k⟩:=h
 obtain⟨ev,kp⟩:=px.kp hk
 refine⟨_,ev,W,ρ,_,px,q,λvs H1 xs s1 r q1=>?_⟩;show o4 X.K p (.ref a::(vs++[])) H1 _ _;rw[bH4]
 exact⟨a,vs,_,st,un,_,Ep,rfl,kp.same s1,r.any,q1,λv H' x s2 r2 q2=>k v H' x .fr (s1.trans s2) (r2.same (aD.refl _) λ_ z=>s1.free z) q2,λn C H' s2 z1 z2=>⟨rfl,(px.same.trans s1).trans s2,n,C,rfl,z1,z2⟩⟩
def au6 (i:Nat)(p:eQ)(tr:bV):aT:=bu4 i p tr
theorem bv0 {p:eQ}(i:Nat){k n:Nat}{ps:List Str}(d:L4 X.prog X.w X.K X.mg X.base k f ps p)(hr:bJ n X.A)(ha:QA X es tr)(hkj:k<=n:=by decide)(hg:Gl X f:=by rfl)(hdb:(f==("__debug__":Str))=false:=by decide)(hi2:X.N[i]? = some x:=by rfl)(hv:cO X.env.scope x:=by first|exact Or.inl rfl|exact Or.inr (Or.inl rfl)|exact Or.inr (Or.inr rfl))(hd:(x==("__debug__":Str))=false:=by decide)(hcd:(x==("__classdict__":Str))=false:=by decide)(hst:starEach (.Name x p4::es) X.env=(false,eval (.Name x p4) X.env)::starEach es X.env:=by rfl)(hpl:(backTo cp (starEach es X.env)).any (·.1)=false:=by rfl)(hs:swapsWith (.Call (.Name f p2) (.Name x p4::es) [] cp) none pos.line X.env=pure false:=by rfl) :
  QS X (.Expr (.Call (.Name f p2) (.Name x p4::es) [] cp) pos) (au6 i p tr):=by
 obtain⟨fa,fd,F,b,kp,m⟩:=d.ex
 refine dE (lZ (qH (E:=EX X.K X.H₀ λ_=>False) F (hr.mono hkj) hg m kp b .nil dD (d8 (dM hi2 hv hd hcd) ha hst) hdb hst hpl) hs) λD σ H h=>?_
 obtain⟨W,ρ,D',px,⟨a,st,un,hk,nk,q⟩,k⟩:=h
 obtain⟨ev,_⟩:=px.kp ⟨true,hk⟩
 refine⟨_,ev,W,ρ,_,px,q,λvs H1 xs s1 r q1=>?_⟩;have px1:=px.mono s1;show kM X.K p (.ref a::(vs++[])) H1 _ _;rw[bH4];refine⟨a,vs,_,st,un,_,λ_=>False,rfl,(px1.kp ⟨true,hk⟩).2,⟨r.any.flat q1.1,q1.1⟩,q1.2,λv H' x st' un' ev' kp' rv fl q2=>?_,λn C H' s2 z1 z2=>z2.elim⟩
 obtain⟨px2,e2⟩:=px1.mut hk nk ev' kp'
 exact k.nx W _ H' _ ((Ev.same s1).trans e2) px2 q2
def au7 (i:Nat)(p:eO)(tr:bV):pB:=λD Ep ρ=>∃a st un,pL ρ i a st un/\tr ρ λxs=>p st un Ep (xs.map (·.1)) λ_=>D.nx ρ
theorem bv1 {p:eO}(i:Nat){k n:Nat}{ps:List Str}{pl:Sem Bool}(d:cD X.prog X.w X.K X.mg X.base k m ps p)(hr:bJ n X.A)(ha:∀E,QA (X.wish E) (e::es) tr)(hkj:k<=n:=by decide)(hl:∀v w:V,([("standing",v),("undone",w)]:List (Str×V)).lookup m=none:=by intro _ _;rfl)(hN:X.N[i]? = some x:=by rfl)(hv:cO X.env.scope x:=by first|exact Or.inl rfl|exact Or.inr (Or.inl rfl)|exact Or.inr (Or.inr rfl))(hd:(x==("__debug__":Str))=false:=by decide)(hcd:(x==("__classdict__":Str))=false:=by decide)(hst:starEach (e::es) X.env=(false,eval e X.env)::starEach es X.env:=by rfl)(hpl:(backTo cp (starEach es X.env)).any (·.1)=false:=by rfl)(hsw:swapsWith (.Call (.Attribute (.Name x p2) m ai) (e::es) [] cp) none pos.line X.env=pure false:=by rfl)(ht:eval (.Call (.Attribute (.Name x p2) m ai) (e::es) [] cp) X.env=(do
   let ov <- eval (.Name x p2) X.env
   standAt ai.atName
   let (f,first) <- holding [ov] (getMethod ov m pl)
   callWith cp f first (backTo cp (starEach (e::es) X.env)) (backToKw cp (keywordEach [] X.env))):=by rfl):QB X [.Expr (.Call (.Attribute (.Name x p2) m ai) (e::es) [] cp) pos] (au7 i p tr):=by
 obtain⟨C,f,fd,kc,M,F,b⟩:=d.ex
 refine vL (M3 (t:=λQ Ex σ H=>tM C m (o4 X.K p) i (LA X tr) Q Ex σ H) (λah s σ H Q Ex I h=>ar8 (t:=LA X tr) (pl:=pl) kc.cls M F (hr.mono hkj) b (λE=>ha E) I h hN hv hd hcd hst hpl ht) hsw) λD Ex σ H h=>?_
 obtain⟨W,ρ,D',Ep,px,⟨a,st,un,hk,q⟩,k,ke⟩:=h
 obtain⟨ev,kp⟩:=px.kp hk
 have kp0:=kp
 obtain⟨C',dx,l1,l2,us1,us2,kw⟩:=kp.w
 obtain rfl:=kc.eq kw.ns
 exact⟨a,dx,_,ev,kw.oa,hl _ _,W,ρ,_,px,q,λvs H1 xs s1 r q1=>⟨a,vs,_,st,un,_,Ep,rfl,kp0.same s1,r.any,q1,λv H' x s2 r2 q2=>k.nx W σ H' ρ (Ev.same (s1.trans s2)) (px.mono (s1.trans s2)) q2,λn C H' s2 z1 z2=>ke n C H' (s1.trans s2) z1 z2⟩⟩
end
section
variable {X:Cx}{a b:Expr}{ta tb:aG}{pos:Pos}
def au8 (K:ae):V->V->Hp->VK->Prop:=λv w H Q=>(aI K (λ_=>True) H v K1/\aI K (λ_=>True) H w (.tup [.int 0,.tup []])/\Q (.bl false) H)∨rF K 2 true v w H Q
theorem bv2 (hu:X.A.units+3<cLine):cL X (compareOp .NotEq) (au8 X.K):=by
 intro ah s σ H v w a b Q I ra rb h;rcases h with⟨rx,ry,q⟩|h
 ·have hu0:X.A.units<cLine:=by omega
  obtain⟨p1,us,rfl,h1,r1⟩:=rx.kt_
  obtain⟨p2,ws,rfl,h2,r2⟩:=ry.sqT
  cases ra;cases rb
  obtain⟨its,v1,p1',_⟩:=I.tuple (.inr h1)
  obtain⟨aq,v2,p2',_⟩:=I.tuple (aP.of (K:=X.K) h2)
  cases r1 with|cons ra1 r1=>
  cases r1 with|cons ra2 r1=>
  cases r1;cases r2 with|cons rb1 r2=>
  cases r2 with|cons rb2 r2=>
  cases r2;cases ra1;cases rb1
  obtain⟨q1,us1,rfl,g1,s1⟩:=ra2.kt_
  obtain⟨q2,us2,rfl,g2,s2⟩:=rb2.sqT
  cases s1;cases s2
  obtain⟨x1,x2,rfl,t1,t2⟩:=v1.two
  obtain⟨y1,y2,rfl,u1,u2⟩:=v2.two
  obtain⟨m1,w1,o1,_⟩:=I.tuple (.inr g1)
  obtain⟨m2,w2,o2,_⟩:=I.tuple (aP.of (K:=X.K) g2)
  obtain rfl:=w1.nil_iff.mpr rfl;obtain rfl:=w2.nil_iff.mpr rfl;cases (show x2=Value.ref q1 from t2);cases (show y2=Value.ref q2 from u2)
  obtain⟨k1,rfl⟩:=t1
  obtain⟨k2,rfl⟩:=u1
  have key:=SeqAt.RcNeAt.tuples (A:=X.A) (e:=λj=>true) p1' p2' hu0 λj h1 h2=>by
   match j,h1,h2 with
   |0,_,_=>exact SeqAt.EqAt.int_int _ _ _ _
   |1,_,_=>
    show SeqAt.EqAt _ _ (.ref q1) (.ref q2) true;by_cases hne:q1=q2
    ·rw[hne]
     exact bT9 _
    have:=SeqAt.RcAt.tuples (A:=X.A.in1) (s:=s) (e:=λ_=>true) o1 o2 (show X.A.units+1<cLine by omega) λj h1 h2=>absurd h2 (bS6 _)
    exact .of_refs hne this
   |j+2,h1,_=>exact absurd h1 (by simp)
  exact key _ _ _ _ ⟨.bl _,H,I,rfl,q⟩
 ·exact ae4 2 hu ah s σ H v w a b Q I ra rb h
def N4:PV->Tg->PV->Tg->PK->Prop:=λx g y g' Q=>(x=K1/\y = .tup [.int 0,.tup []]/\Q (.bl false) .fr)∨rA 2 true x g y g' Q
theorem bv3:dU X N4 (au8 X.K):=by
 rintro W Hs H u v x y g g' Q Q' s n r1 r2 (⟨rfl,rfl,q⟩|h) k
 ·exact .inl ⟨r1.same (aD.refl _) λ_ _=>trivial,r2.same (aD.refl _) λ_ _=>trivial,k _ _ _ .fr (aD.refl _) (.bl _) q⟩
 ·exact .inr (ae5 W Hs H u v x y g g' Q Q' s n r1 r2 h k)
theorem bv4 (hu:X.A.units+3<cLine)(ha:QE X a ta)(hb:QE X b tb):QT X (.Compare a [.NotEq] [b] pos) (aQ (q2 N4 ta tb)):=hG (bv2 hu) bv3 ha hb (eG _)
def au9:PV->Tg->PV->Tg->PK->Prop:=λx _ y _ Q=>∃xs ys,x = .tup xs/\xs≠[]/\(y = .tup ys∨y = .kt ys)/\flats xs=true/\flats ys=true/\xs.length+ys.length<=16000000/\Q (.tup (xs++ys)) .fr
abbrev N5 (ta tb:aG):aG:=q2 au9 ta tb
theorem bv5:dU X au9 (F4 X.K):=by
 rintro W Hs H u v x y g g' Q Q' s n r1 r2 ⟨xs,ys,rfl,ne,hy,f1,f2,hl,q⟩ k
 obtain⟨a,us,rfl,h1,q1⟩:=r1.sqT
 obtain⟨b,ws,rfl,h2,q2⟩:∃b ws,v = .ref b/\aP X.K H b ws/\Reps X.K (λ_=>True) H ws ys:=by
  rcases hy with rfl|rfl
  ·obtain⟨b,ws,rfl,h2,q2⟩:=r2.sqT
   exact⟨b,ws,rfl,aP.of h2,q2.same (aD.refl _) λ_ _=>trivial⟩
  ·obtain⟨b,ws,rfl,h2,q2⟩:=r2.kt_
   exact⟨b,ws,rfl,.inr h2,q2.same (aD.refl _) λ_ _=>trivial⟩
 have l1:=q1.length;have l2:=q2.length;refine⟨a,b,us,ws,rfl,rfl,aP.of h1,h2,lim (by omega),λz=>?_,λ_ z=>?_,λ_ _ p hp=>k _ _ _ .fr (bL hp _) (.tup b6 (((q1.flat f1).append (q2.flat f2)).same (bL hp _) λ_ z=>z)) q⟩
 ·cases xs with
  |nil=>exact absurd rfl ne
  |cons _ _=>rw[z]at l1;cases l1
 ·obtain rfl:ys = []:=by cases ys with
   |nil=>rfl
   |cons _ _=>rw[z]at l2;cases l2
  rw[bH4]at q;exact k _ _ _ .fr (aD.refl _) (.tup h1 (q1.flat f1)) q
theorem bv6 (ha:QE X a ta)(hb:QE X b tb):QE X (.BinOp a .Add b pos) (N5 ta tb):=lC ai2 bv5 ha hb
end
end PP
namespace Core
open PySem L2 PP
theorem av0 {n:Int}{ws:ag}{ls:aa}(w:WL n ws ls)(h:n<=9):ls.length<=36:=by
 have nd:ls.Pairwise (·≠·):=w.ord.imp λ{x y} z e=>by unfold iP at z;rw[e]at z;omega
 have key:=bl1 (n:=36) (l:=ls.map λl=>if l.1<=3 then l.1*9+l.2 else (7-l.1)*9+(8-l.2)) ?_ ?_
 ·rw[bF1]at key;exact key
 ·refine bN6.mpr (nd.imp_of_mem λ{x y} hx hy ne e=>ne ?_)
  have a:=w.inn x hx;have b:=w.inn y hy
  have:x.1=y.1/\x.2=y.2:=by
   split at e<;>split at e<;>omega
  exact Prod.ext this.1 this.2
 ·intro z hz
  obtain⟨l,hl,rfl⟩:=bI7.mp hz
  have a:=w.inn l hl;refine j9.mpr ?_;split<;>omega
theorem bv7 {n:Int}{ws:ag}{ls:aa}(w:WL n ws ls)(h:n<=9):i3 n ws ls:=⟨w.many,w.inn,bH6 (av0 w h) (by decide),w.ord,w.pos⟩
theorem cV.w63 {r:bT}(h:cV r)(f:r.1.length<=9):i3 (r.1.length:Int) r.1 r.2.1:=bv7 h.wl (by omega)
abbrev cW (r:bT)(m:Nat):af:=r.2.2::after r.1 r.2.1 r.2.2 m
def wU:bS:=aj8
def av1:aT:=(aH (bC 2 (aE (pF λ_=>False) (a6 (a5 0) (a6 (a5 1) aB))))
 (aH (bC 3 (aE lK (a6 (a5 0) aB)))
 (b7 (dH (gM (aE hZ (a6 (a5 0) aB))) [none,some 0,some 3,some 2] (bW 0) iK (aE rX (a6 (a5 1) (a6 (a5 2) (a6 (a5 3) (a6 (a5 0) aB)))))))))
theorem bv8:cY av1 ["web","seeds","ranks","around"] wU:=by
 rintro xs Q h
 obtain⟨m1,e1,m2,e2,ws,ls,x,ns,h1,wb,hx,hs,q⟩:=bg0 xs Q h
 refine⟨m1,e1,m2,e2,ws,ls,x,ns,h1,wb,hx,?_,λ_=>q,λz=>by rw[hs]at z;cases z⟩
 have:=mS hs
 have:=wb.few
 omega
def wV:bS:=ak5
def av2:aT:=(aH (bC 3 (aE (mY λ_=>False) (a6 (a5 0) (a6 (a5 1) aB))))
 (aH (bF (aQ (rC (aE fR (a6 (a5 2) aB)) (aE hZ (a6 (a5 0) aB)))) oV bE)
 (aH (bC 4 (aE lK (a6 (a5 0) aB)))
 (aH (e9 (gM (aE hZ (a6 (a5 0) aB))) (bW 5)
  (bF (eB (aQ (aE rZ (a6 (b5 (b5 (a5 0) (qC (.int 0))) (a5 5)) (a6 (b5 (a5 4) (a5 5)) (a6 (a5 2) (a6 (q2 (j6 false) (a5 5) (a5 3)) (a6 (b5 (a5 2) (a5 5)) aB)))))))) oV bE))
 (b7 (aE dY (a6 (dH (rT (a5 2)) [none,none] (k7 0 1) (aQ (rD (a5 1) (qC .non))) (a5 0)) aB)))))))
theorem bv9:cY av2 ["web","seeds","told","lit","around","hearth"] wV:=by
 rintro xs Q h
 obtain⟨m1,e1,m2,e2,ws,ls,x,ns,h1,hx,hl,hs,q⟩:=bg6 xs Q h
 exact⟨m1,e1,m2,e2,ws,ls,x,ns,h1,hx,hl,λ_=>q,λz=>by rw[hs]at z;cases z⟩
def lX:eO:=λst _ Ep xs Q=>∃(r:bT) (h:Int),xs = [.int h]/\jC st r/\cV r/\r.1.length<=9/\(inB r.1.length h=false->Ep "NoSuch")/\(inB r.1.length h=true->∀m c,bP r.1 r.2.1 r.2.2 m->gO (cW r m) r.1 r.2.1 h c->Q c)
def av3 (Ep:Str->Prop):aT:=(aH (bF (eB (aQ (aE iO (a6 (cZ Fx 0 i9 aB) (a6 (a5 1) aB))))) (iU Ep "NoSuch" (a6 (qC (.str "this is no hearth")) aB)) bE)
 (b7 (b5 (aE wU (a6 (cZ Fx 0 i9 aB) (a6 (cZ Fx 0 iV aB) aB))) (a5 1))))
theorem bw0:o8 av3 ["self","hearth"] lX:=by
 rintro a st un Ep xs Q ⟨r,h,rfl,ls,ok,few,qe,q⟩;refine⟨a,st,un,⟨false,rfl⟩,r,rfl,ls,_,rfl,_,_,h,rfl,_,rfl,?_⟩;cases hi:inB r.1.length h with
 |false=>exact aY ⟨jU,qe hi⟩
 |true=>
  refine aM ⟨a,st,un,⟨false,rfl⟩,r,rfl,ls,a,st,un,⟨false,rfl⟩,r,rfl,ls,_,_,_,_,rfl,ok.w63 few,by omega,.inl rfl,ok.st,λm cs en cl hc=>?_⟩;have hb:=hi;unfold inB at hb;simp only[bI4,bH1]at hb
  obtain⟨c,hc1,hc2⟩:=hc h.toNat (by omega)
  have e:((h.toNat:Nat):Int)=h:=by omega
  rw[e]at hc2;refine⟨_,rfl,cs,h,c,rfl,rfl,?_,trivial,q hi m c en hc2⟩;rw[<- e];exact qI hc1
def t6:eQ:=λst un Ep xs Q=>∃(r0:bT) (ds us:List fJ) (c n:Int),xs = [.int c,.int n]/\0<=n/\n<=100/\st=lW r0 ds/\un=us.map fP/\cV r0/\r0.1.length<=9/\lU r0 (ds++us.reverse)/\ds.length+us.length<=70/\
 ∀(b:Bool) (ds' us':List fJ),lU r0 (ds'++us'.reverse)->ds'.length+us'.length<=ds.length+us.length+1->Q (.bl b) (lW r0 ds') (us'.map fP)
def av4 (Ep:Str->Prop):jB:=(nC (bC 3 (qC (.bl true)))
 (sS 0 (pN (M6 "HearthError" (M5 (aQ (A7 (cT (a5 1) (qC (.int 8))) (qC (.int 5)))) (sT 0 sX aB) (M5 (aQ (gX (cT (a5 1) (qC (.int 8))) (qC (.int 5)))) (sT 0 sY aB) (sT 0 sW (a6 (aE w6 (a6 (eL (a5 1) (qC (.int 8))) (a6 (a5 2) aB))) aB)))) (ar6 0 3 (qC (.bl false))))
 (sR 0 (a5 3)))))
theorem bw1:wN av4 ["keeper","cell","many","done"] t6:=by
 rintro a st un Ep xs Q ⟨r0,ds,us,c,n,rfl,n0,n1,rfl,rfl,ok0,few0,ch,ln,q⟩ fl;have qn:=q false ds us ch (by omega);have cd:=(lV.mp ch).1
 obtain⟨ok,k1,k2⟩:=pQ ok0 cd
 have l36:=av0 ok.wl (by omega);have sl:=bu6 (r:=r0) (ds:=ds);refine⟨trivial,_,_,rfl,at6,?_⟩;refine⟨_,rfl,_,_,rfl,rfl,(by show (0:Int)<8;decide),_,_,rfl,rfl,_,rfl,?_⟩;dsimp only;cases decide (c%8>5) with
 |true=>
  refine aY ⟨_,_,rfl,rfl,rfl,by rw[bF1];omega,?_⟩;rcases N0 ds with rfl|⟨b,p,rfl⟩
  ·exact .inl ⟨_,rfl,rfl,rfl,(by decide),_,rfl,rfl,_,_,rfl,qn⟩
  ·have q:=q true b (us++[p]) (by rw[List.reverse_append];simpa using ch) (by rw[bF4]at *;simp at *;omega)
   have okb:=(pQ ok0 (lV.mp cd).1).1;rw[M9]at ok
   obtain⟨pre,x,e⟩:=sZ (r:=r0) (ds:=b)
   refine .inr ⟨pre,x,fM r0 b,tP p.1,p.2,?_,okb,ok,?_⟩
   ·rw[wR,e];rfl
   ·refine⟨_,rfl,rfl,_,_,rfl,?_⟩
    rw[bJ1,e]at q;exact q
 |false=>
  refine aM ⟨_,rfl,_,_,rfl,rfl,(by show (0:Int)<8;decide),.inl ⟨_,_,rfl,rfl,_,rfl,?_⟩⟩;dsimp only;cases decide (c%8=5) with
  |true=>
   refine aY ⟨_,_,rfl,rfl,rfl,by rw[sl];omega,?_⟩;rcases N0 us with rfl|⟨b,p,rfl⟩
   ·exact .inl ⟨rfl,rfl,rfl,(by decide),_,rfl,rfl,_,_,rfl,qn⟩
   ·rw[List.reverse_append]at ch
    have ch:lU r0 ((ds++[p])++b.reverse):=by simpa using ch
    have q:=q true (ds++[p]) b ch (by rw[bF4]at *;simp at *;omega);rw[wR]at q;have okp:cV p.2:=by
     have:=(pQ ok0 (lV.mp ch).1).1
     rw[M9]at this;exact this
    refine .inr ⟨b.map fP,tP p.1,p.2,fM r0 ds,by rw[bJ1];rfl,sZ,okp,ok,?_⟩
    exact⟨_,rfl,rfl,_,_,rfl,q⟩
  |false=>
   refine aM ⟨_,_,rfl,_,rfl,_,_,rfl,rfl,⟨(by decide),(by decide)⟩,_,rfl,_,_,rfl,n0,n1,λd=>?_⟩;refine⟨?_,fM r0 ds,d,rfl,sZ,ok,by omega,by rw[sl];omega,λbd=>⟨rfl,rfl,(by decide),_,rfl,rfl,_,_,rfl,qn⟩,λbd r' dn ok' l1 l2=>?_⟩
   ·show (flat (dP d)&&true)=true
    rw[bo2];rfl
   ·have q:=q true (ds++[(d,r')]) [] (by rw[List.reverse_nil,bH4];exact lV.mpr ⟨cd,⟨bd,dn,ok',l1,l2⟩,trivial⟩) (by rw[bF4];simp)
    rw[wR]at q
    exact⟨_,rfl,rfl,_,_,rfl,q⟩
def pS:eO:=λst _ _ xs Q=>∃(r:bT) (h:Int),xs = [.int h]/\jC st r/\cV r/\r.1.length<=9/\inB r.1.length h=false/\Q (.bl true)
def av5 (_:Str->Prop):aT:=(aH (bC 2 (qC .non))
 (aH (G7 "HearthError" 3 (au7 0 lX (a6 (a5 1) aB)) (bC 2 (a5 3)))
 (aH (bF (fQ (eB (aQ (pD "NoSuch" (a5 2)))) (eB (aQ (pD "ValueError" (a5 2))))) (b7 (qC (.bl false))) bE)
 (b7 (uE (pD "BadDeed" (a5 2)))))))
theorem bw2:o8 av5 ["keeper","hearth","caught","e"] pS:=by
 rintro a st un Ep xs Q ⟨r,h,rfl,ls,ok,few,hi,q⟩;refine⟨trivial,a,st,un,⟨false,rfl⟩,_,rfl,r,h,rfl,ls,ok,few,λ_=>⟨by decide,_,rfl,trivial,?_⟩,λz=>by rw[hi]at z;cases z⟩
 exact⟨_,rfl,_,rfl,_,rfl,aM ⟨_,rfl,_,rfl,_,rfl,aM ⟨_,rfl,_,rfl,_,rfl,trivial,q⟩⟩⟩
theorem N6 {a b c d:Int}(h:c<a∨(c=a/\d<=b)):HT.dR [a,b] [c,d]=false:=by
 rw[HT.m6];rcases h with h|⟨rfl,h⟩
 ·rw[if_neg (by omega)]
  exact bF9 (by omega)
 ·rw[if_pos rfl,HT.m6]
  split
  ·exact HT.T5
  ·exact bF9 (by omega)
section
variable {ws:ag}{ls:aa}{ns:ag}{m:Nat}
theorem bw3 {k:Nat}(hk:k<=m):((ns::after ws ls ns m).take (k+1)).flatten=aV ws ls ns k:=by
 rw[List.take_succ_cons];have e:(after ws ls ns m).take k=after ws ls ns k:=by
  unfold after;rw[<- List.map_take,List.take_range,Nat.min_eq_left hk]
 rw[e];exact rK ws ls ns k
theorem bw4 (S:ag):(nextOf ws ls S).Pairwise (·<·):=by
 unfold nextOf;refine List.Pairwise.filter _ (bN6.mpr ?_);exact List.pairwise_lt_range.imp λ{a b} h=>by show (a:Int)<(b:Int);omega
theorem av6 (hs:cJ ws.length ns=true):∀k,k<=m->(aV ws ls ns k).Pairwise λu v=>HT.dR [fW (ns::after ws ls ns m) v,v] [fW (ns::after ws ls ns m) u,u]=false
 |0,_=>by
  have h0:∀x∈ns,fW (ns::after ws ls ns m) x=0:=λx hx=>by
   unfold fW;rw[jA.mpr ⟨bI2 _,hx⟩];rfl
  have lt:ns.Pairwise (·<·):=mP (jS hs).1;refine lt.imp_of_mem λ{u v} hu hv z=>?_
  rw[h0 u hu,h0 v hv];exact N6 (.inr ⟨rfl,by omega⟩)
 |k+1,hk=>by
  have ih:=av6 hs k (by omega);have hN:∀x∈nextOf ws ls (aV ws ls ns k),fW (ns::after ws ls ns m) x=((k+1:Nat):Int):=λx hx=>by
   unfold fW;rw[(jA (k:=k+1)).mpr ⟨hk,hx⟩];rfl
  have hS:∀x∈aV ws ls ns k,fW (ns::after ws ls ns m) x<=(k:Int):=λx hx=>by
   obtain⟨j,hj,hx⟩:=(iS k).mp hx
   unfold fW;rw[(jA (k:=j)).mpr ⟨by omega,hx⟩];show ((j:Nat):Int)<=_;omega
  show (aV ws ls ns k++nextOf ws ls (aV ws ls ns k)).Pairwise _;refine List.pairwise_append.mpr ⟨ih,(bw4 _).imp_of_mem λ{u v} hu hv z=>?_,λu hu v hv=>?_⟩
  ·rw[hN u hu,hN v hv]
   exact N6 (.inr ⟨rfl,by omega⟩)
  ·have:=hS u hu
   rw[hN v hv];exact N6 (.inl (by omega))
theorem bw5 {h want:Int}{k:Nat}{bs:ag}(hs:cJ ws.length ns=true)(nd:(aX ls h).Nodup)(hk:k<=m)(w0:0<=want)(p:bs.Perm (((aV ws ls ns k).filter λx=>decide (x∈aX ls h)).take want.toNat))(so:bs.Pairwise (· <= ·)):lN (ns::after ws ls ns m) (aX ls h) want (k+1) bs:=by
 refine⟨((aV ws ls ns k).filter λx=>decide (x∈aX ls h)).map λo=>[fW (ns::after ws ls ns m) o,o],?_,?_,?_,so⟩
 ·unfold iT
  refine List.Perm.map _ ?_;refine (List.perm_ext_iff_of_nodup ((vI hs k).filter _) (nd.filter _)).mpr λx=>?_
  rw[bL7,bL7,aj5 hk,bH1,bH1];exact And.comm
 ·refine bN6.mpr ?_
  exact (av6 hs k hk).sublist List.filter_sublist
 ·rw[<- List.map_take,bO3]
  have e:((λz:ag=>z.getD 1 0) ∘ λo=>[fW (ns::after ws ls ns m) o,o])=id:=rfl;rw[e,List.map_id];exact p
end
def wW:bS:=λxs Q=>∃(r:bT) (m:Nat) (h:Int),xs = [bG r.1 r.2.1,.lst (tups (cW r m)),.int h]/\cV r/\r.1.length<=9/\bP r.1 r.2.1 r.2.2 m/\inB r.1.length h=true/\∀d,G4 (cW r m) r.1 r.2.1 h d->Q d
def av7:aT:=(aH (iH 4 (eI aB))
   (aH (e9 (eC (kE (a5 1) kC (kD (a5 3)))) (bW 5)
    (zP 4 (dH (eC (a5 5)) [none,some 0,some 2] (bW 0) (aQ (q2 (j6 false) (a5 0) (aE pP (a6 (a5 1) (a6 (a5 2) aB))))) (a5 0))))
   (aH (bF (aQ (gX (a5 3) (qC (.int 0)))) (b7 (c7 (a6 (qC (.int 0)) (a6 (c7 aB) aB)))) bE)
   (b7 (c7 (a6 (a5 3) (a6 (aE dY (a6 (aE uH (a6 (kE (a5 4) kC (kD (b5 (b5 (a5 0) (qC (.int 0))) (a5 2)))) aB)) aB)) aB)))))))
def av8:aT:=(aH (e9 (gM (aE fR (a6 (a5 1) aB))) (bW 3)
  (bF (aQ (q2 (j6 false) (a5 2) (b5 (a5 1) (a5 3)))) av7 bE))
 (b7 (qC .non)))
theorem bw6 {L:af}{k:Nat}{A:ag}(h:L[k]? = some A):L2.atI (tups L) (k:Int)=some (.tup (intz A)):=qI (by unfold tups;rw[bG4,h];rfl)
theorem av9:∀L:af,flats (tups L)=true
 |[]=>rfl
 |a::L=>by
  show (flat (.tup (intz a))&&flats (tups L))=true;rw[fV,av9 L];rfl
section
variable {r:bT}{m k:Nat}{h:Int}{Q:PV→Prop}{y4 y5:Option Slot}{E:iG}
abbrev N7 (r:bT)(m:Nat)(h:Int)(y3 y4 y5:Option Slot):b8:=[some (.sh (flat (bG r.1 r.2.1)) (bG r.1 r.2.1)),some (.sh (flat (.lst (tups (cW r m)))) (.lst (tups (cW r m)))),si h,y3,y4,y5]
theorem bw7 (ok:cV r)(few:r.1.length<=9)(en:bP r.1 r.2.1 r.2.2 m)(hi:inB r.1.length h=true)(hk:k<=m)(hr:h∈i6 r.1 r.2.1 r.2.2 k)(q:∀d,G4 (cW r m) r.1 r.2.1 h d->E.rt d) :
  av7 E (N7 r m h (si (k:Int)) y4 y5):=by
 have w:=ok.w63 few;have n63:=rY w h;have hb:=hi;unfold inB at hb;simp only[bI4,bH1]at hb;have rk:dA (cW r m) h=some k:=jA.mpr ⟨hk,hr⟩;have cut:eY (tups (cW r m)) none (some (k:Int))=tups ((cW r m).take k):=by
  rw[G3 (by omega)];unfold tups;rw[List.map_take];rfl
 have tot:∀j,((cW r m).take j).flatten.length<=9:=λj=>by
  have h1:=rK r.1 r.2.1 r.2.2 m;have h2:((cW r m).take j).flatten.length<=(cW r m).flatten.length:=by
   have e:=congrArg List.flatten (List.take_append_drop j (cW r m));rw[bS8]at e;rw[<- e,bF4];exact bM1 _ _
  rw[h1]at h2
  have:=mT (ls:=r.2.1) ok.st m
  omega
 refine⟨by decide,rfl,rfl,rfl,?_⟩;refine⟨_,rfl,_,rfl,(k:Int),rfl,_,rfl,av9 _,?_⟩;show ∃xs,iI (.lst (eY (tups (cW r m)) none (some (k:Int))))=some xs/\_
 rw[cut];refine⟨_,rfl,(λz=>by cases z),λi ρ=>∃y5,ρ=N7 r m h (si (k:Int)) (some (.own (.lst (intz ((((cW r m).take k).take i).flatten.filter λx=>decide (x∈aX r.2.1 h)))))) y5,⟨y5,rfl⟩,?_,?_⟩
 ·rintro i y ρ hy ⟨y5,rfl⟩
  unfold tups at hy;rw[bG4]at hy;cases e:((cW r m).take k)[i]? with
  |none=>rw[e]at hy;cases hy
  |some A=>
   rw[e]at hy;cases hy;refine bm5 ?_;have ef:(((cW r m).take k).take (i+1)).flatten=(((cW r m).take k).take i).flatten++A:=by
    rw[bO8,e,bS8];show _++[A].flatten=_;rw[List.flatten_singleton]
   have tl:=tot (min (i+1) k);rw[<- List.take_take,ef,bF4]at tl;refine⟨_,rfl,_,rfl,_,rfl,(λz=>by cases z),by rw[bO];omega,λj acc=>acc=intz ((A.take j).filter λx=>decide (x∈aX r.2.1 h)),rfl,?_,?_⟩
   ·rintro j y acc hy rfl
    rw[bG4]at hy;cases e2:A[j]? with
    |none=>rw[e2]at hy;cases hy
    |some x=>
     rw[e2]at hy;cases hy;refine i5 ?_;refine⟨_,rfl,_,rfl,_,rfl,r.1,r.2.1,h,rfl,by have:=w.most;omega,x,_,rfl,rfl,_,rfl,?_⟩;show if decide (x∈aX r.2.1 h)=true then _ else _
     by_cases z:x∈aX r.2.1 h
     ·rw[bG5 z]
      refine aY ⟨_,rfl,trivial,?_⟩;show intz ((A.take j).filter λx=>decide (x∈aX r.2.1 h))++[PV.int x]=intz ((A.take (j+1)).filter λx=>decide (x∈aX r.2.1 h));rw[iN e2,bG5 z,if_pos rfl,eM];rfl
     ·rw[bF9 z]
      refine aM ?_;show intz ((A.take j).filter λx=>decide (x∈aX r.2.1 h))=intz ((A.take (j+1)).filter λx=>decide (x∈aX r.2.1 h));rw[iN e2,bF9 z,if_neg (by decide),bH4]
   ·rintro acc rfl
    rw[bO,bI5];have f1:=bI9 (λx=>decide (x∈aX r.2.1 h)) A;have f2:=bI9 (λx=>decide (x∈aX r.2.1 h)) (((cW r m).take k).take i).flatten;refine⟨_,.inr rfl,.inr (cH _),by rw[bO,bO];omega,some (.sh true (.tup (intz A))),?_⟩;rw[ef,List.filter_append,eM];rfl
 ·rintro ρ ⟨y5,rfl⟩
  have el:(tups ((cW r m).take k)).length=((cW r m).take k).length:=by unfold tups;rw[bF1]
  rw[el,bI5];refine⟨_,rfl,.inl ⟨_,_,rfl,rfl,_,rfl,?_⟩⟩;show if decide ((k:Int)=0)=true then _ else _
  cases k with
  |zero=>
   refine aY ⟨bI2 _,rfl,fX,rfl,trivial,q _ (.inr (.inl ⟨rk,rfl⟩))⟩
  |succ k=>
   rw[bF9 (by omega)];refine aM ?_;rw[bw3 (by omega)];have wp:0<=r.1.getD h.toNat 0:=by
    refine w.pos _ ?_;rw[bI0,bF3 (by omega)];exact bP5 _
   refine⟨_,rfl,_,rfl,_,rfl,_,_,_,rfl,rfl,rfl,_,rfl,_,_,_,rfl,rfl,mR hb.1 hb.2,_,rfl,_,rfl,cH _,((aV r.1 r.2.1 r.2.2 k).filter λx=>decide (x∈aX r.2.1 h)).take (r.1.getD h.toNat 0).toNat,?_,?_,λbs p so=>?_⟩
   ·show [PV.lst (eY (intz _) none (some _))]=_
    rw[G5 wp]
   ·have f1:=bI9 (λx=>decide (x∈aX r.2.1 h)) (aV r.1 r.2.1 r.2.2 k)
    have:=mT (ls:=r.2.1) ok.st k
    rw[bI8];omega
   ·refine⟨⟨_,_,rfl,rfl,cH bs,fX,?_,trivial,?_⟩,λns z=>by cases z⟩
    ·show (flat (.tup (intz bs))&&true)=true
     rw[fV];rfl
    ·exact q _ (.inr (.inr ⟨k,bs,rk,bw5 ok.st (w.nd h) (by omega) wp p so,rfl⟩))
end
theorem bw8:cY av8 ["web","told_rounds","hearth","k","some","earlier"] wW:=by
 rintro xs Q ⟨r,m,h,rfl,ok,few,en,hi,q⟩;have ml:m<=40:=by
  have:=C7 m en.1
  have:=ok.few
  omega
 have rl:(tups (cW r m)).length=m+1:=by
  unfold tups cW after;rw[bF1,bH8,bF1,bJ2]
 refine⟨_,rfl,_,_,rfl,rfl,_,rfl,by rw[rl];omega,by rw[rl];omega,λk ρ=>∃y3,ρ=N7 r m h y3 none none/\∀j<k,h∉i6 r.1 r.2.1 r.2.2 j,⟨none,rfl,λ_ z=>absurd z (bS6 _)⟩,?_,?_⟩
 ·rintro k y ρ hy ⟨y3,rfl,no⟩
  obtain⟨rfl,hk⟩:=j8 hy
  have km:k<=m:=by rw[rl]at hk;omega
  refine i5 ?_;rw[show (0:Int)+(k:Int)=(k:Int) by omega];have at_:=bw6 (L:=cW r m) (k:=k) (A:=i6 r.1 r.2.1 r.2.2 k) (by show (r.2.2::after r.1 r.2.1 r.2.2 m)[k]? = _;rw[G1,if_pos km]);refine⟨_,rfl,_,rfl,_,rfl,_,_,_,rfl,rfl,at_,h,_,rfl,rfl,_,rfl,?_⟩;show if decide (h∈i6 r.1 r.2.1 r.2.2 k)=true then _ else _
  by_cases z:h∈i6 r.1 r.2.1 r.2.2 k
  ·rw[bG5 z]
   exact aY (bw7 ok few en hi km z q)
  ·rw[bF9 z]
   refine aM ⟨si (k:Int),rfl,λj hj=>?_⟩;by_cases e:j=k
   ·rw[e];exact z
   ·exact no j (by omega)
 ·rintro ρ ⟨y3,rfl,no⟩
  rw[gV,rl]at no;refine⟨trivial,q _ (.inl ⟨?_,rfl⟩)⟩;rw[pA];intro z
  obtain⟨j,hj,hx⟩:=(iS m).mp z
  exact no j (by omega) hx
def wX:bS:=λxs Q=>∃(r:bT) (m:Nat) (h:Int) (c d:PV),xs = [c,d]/\gO (cW r m) r.1 r.2.1 h c/\G4 (cW r m) r.1 r.2.1 h d/\(aX r.2.1 h).length<=63/\Q (.bl true)
def wY (K:ae):aT:=(aH (bF (aQ (A9 (a5 1) (qC .non))) (b7 (A9 (a5 0) (qC .non))) bE)
 (aH (bF (fQ (eB (aQ (mI K "tuple" (a5 0)))) (fQ (aQ (rC (aE fR (a6 (a5 0) aB)) (qC (.int 2)))) (fQ (eB (aQ (mI K "tuple" (b5 (a5 0) (qC (.int 1)))))) (aQ (q2 N4 (a5 0) (a5 1)))))) (b7 (qC (.bl false))) bE)
 (aH (e9 (eC (N5 (c7 (a6 (b5 (a5 0) (qC (.int 0))) aB)) (b5 (a5 0) (qC (.int 1))))) (bW 2)
  (bF (eB (aQ (aE rR (a6 (a5 2) aB)))) (b7 (qC (.bl false))) bE))
 (b7 (qC (.bl true))))))
theorem bw9 {rs:af}{l:ag}{want:Int}{k:Nat}{bs:ag}(h:lN rs l want k bs):bs.length<=l.length:=by
 obtain⟨zs,p,_,q,_⟩:=h
 have h1:=q.length_eq;have h2:=p.length_eq;unfold iT at h2;rw[bF1]at h1 h2;rw[bI8]at h1
 have:=bI9 (gF rs k) l
 omega
theorem bx0 {K:ae}:cY (wY K) ["found","due","number"] wX:=by
 have kk:=E8 K;rintro xs Q ⟨r,m,h,c,d,rfl,hc,hd,nl,q⟩;have fin:∀(k:Int) (b:PV) (bs:ag) (g1 g2:Bool),(c = .tup [.int k,.tup (intz bs)]/\b = .tup (intz bs))∨(c=K1/\k=0/\bs = []/\b = .kt [])->d = .tup [.int k,.tup (intz bs)]->bs.length<=63->
   wY K { nx:=λ_=>Q .non,rt:=Q } [some (.sh g1 c),some (.sh g2 d),none]:=λk b bs g1 g2 hcb hdd bl=>by
  subst hdd;have sq:iI c=some [.int k,b]/\uR c=some "tuple"/\zR c=some 2/\uR b=some "tuple":=by
   rcases hcb with⟨rfl,rfl⟩|⟨rfl,rfl,rfl,rfl⟩<;>exact⟨rfl,rfl,rfl,rfl⟩
  obtain⟨s1,s2,s3,s4⟩:=sq
  refine⟨_,rfl,rfl,_,rfl,aM ?_⟩;refine⟨_,rfl,_,_,s2,kk.tt,_,rfl,aM ⟨_,rfl,_,_,rfl,s3,.inl ⟨_,_,rfl,rfl,_,rfl,aM ⟨_,rfl,_,_,_,s1,rfl,rfl,_,_,s4,kk.tt,_,rfl,aM ?_⟩⟩⟩⟩
  have tail:(aH (e9 (eC (N5 (c7 (a6 (b5 (a5 0) (qC (.int 0))) aB)) (b5 (a5 0) (qC (.int 1))))) (bW 2)
    (bF (eB (aQ (aE rR (a6 (a5 2) aB)))) (b7 (qC (.bl false))) bE)) (b7 (qC (.bl true)))) { nx:=λ_=>Q .non,rt:=Q } [some (.sh g1 c),some (.sh g2 (.tup [.int k,.tup (intz bs)])),none]:=by
   have fl:flats (intz (k::bs))=true:=cH _;refine⟨_,rfl,_,_,_,s1,rfl,rfl,jU,rfl,_,rfl,_,_,_,s1,rfl,rfl,[.int k],intz bs,rfl,(λz=>by cases z),?_,rfl,cH bs,by rw[bO];show 1+bs.length<=_;omega,_,rfl,(λz=>by cases z),λi ρ=>∃y,ρ = [some (.sh g1 c),some (.sh g2 (.tup [.int k,.tup (intz bs)])),y],⟨none,rfl⟩,?_,?_⟩
   ·rcases hcb with⟨_,rfl⟩|⟨_,_,rfl,rfl⟩
    ·exact .inl rfl
    ·exact .inr rfl
   ·rintro i y ρ hy ⟨y2,rfl⟩
    have hy:(intz (k::bs))[i]? = some y:=hy
    obtain⟨n,rfl,_⟩:=jP hy
    refine i5 ?_
    exact⟨_,rfl,n,rfl,_,rfl,aM ⟨_,rfl⟩⟩
   ·rintro ρ ⟨y2,rfl⟩
    exact⟨trivial,q⟩
  rcases hcb with⟨rfl,rfl⟩|⟨rfl,rfl,rfl,rfl⟩
  ·refine⟨_,rfl,_,rfl,.inr ⟨.inl ⟨_,_,rfl,rfl⟩,?_,_,rfl,?_⟩⟩
   ·show (true&&(eJ 2 (.tup (intz bs)) (.tup (intz bs))&&true))=true
    rw[A5];rfl
   ·have e:cI 3 (.tup [.int k,.tup (intz bs)]) (.tup [.int k,.tup (intz bs)])=true:=by
     show (((k==k)&&(cI 2 (.tup (intz bs)) (.tup (intz bs))&&true))&&true)=true;rw[A4,bJ8,bG5 rfl];rfl
    show if (!cI 3 (.tup [.int k,.tup (intz bs)]) (.tup [.int k,.tup (intz bs)]))=true then _ else _
    rw[e];exact aM tail
  ·exact⟨_,rfl,_,rfl,.inl ⟨rfl,rfl,_,rfl,aM tail⟩⟩
 have fin:=λk b bs h1 h2 h3=>fin k b bs (flat c) (flat d) h1 h2 h3
 show wY K { nx:=λ_=>Q .non,rt:=Q } [some (.sh (flat c) c),some (.sh (flat d) d),none];rcases hd with⟨h1,rfl⟩|⟨h1,hd⟩|⟨k1,bs,h1,h2,hd⟩
 ·rcases hc with⟨g1,rfl⟩|⟨g1,_⟩|⟨k2,bs2,g1,g2,_⟩
  ·exact⟨_,rfl,rfl,_,rfl,aY ⟨_,rfl,rfl,trivial,q⟩⟩
  ·rw[h1]at g1;cases g1
  ·rw[h1]at g1;cases g1
 ·rcases hc with⟨g1,_⟩|⟨g1,hc⟩|⟨k2,bs2,g1,g2,_⟩
  ·rw[h1]at g1;cases g1
  ·exact fin 0 (.kt []) [] (.inr ⟨hc,rfl,rfl,rfl⟩) hd (bI2 _)
  ·rw[h1]at g1;cases g1
 ·rcases hc with⟨g1,_⟩|⟨g1,_⟩|⟨k2,bs2,g1,g2,hc⟩
  ·rw[h1]at g1;cases g1
  ·rw[h1]at g1;cases g1
  ·rw[h1]at g1
   cases g1;obtain rfl:=h2.eq g2 (List.Perm.refl _);exact fin _ _ bs (.inl ⟨hc,rfl⟩) hd (bH6 (bw9 h2) nl)
def pT:eO:=λst _ _ xs Q=>∃(r:bT) (hs:ag),xs = [.lst (intz hs)]/\jC st r/\cV r/\r.1.length<=9/\(∀h∈hs,inB r.1.length h=true)/\Q (.bl true)
def aw0 (_:Str->Prop):aT:=(aH (bC 2 (cZ Fx 0 i9 aB))
 (aH (bC 3 (aE wQ (a6 (a5 2) (a6 (cZ Fx 0 iV aB) aB))))
 (aH (e9 (eC (a5 1)) (bW 4)
  (bF (eB (aQ (aE wX (a6 (cZ Fx 0 lX (a6 (a5 4) aB)) (a6 (aE wW (a6 (a5 2) (a6 (a5 3) (a6 (a5 4) aB)))) aB))))) (b7 (qC (.bl false))) bE))
 (b7 (qC (.bl true))))))
theorem bx1:o8 aw0 ["keeper","hearths","web","told_rounds","hearth"] pT:=by
 rintro a st un Ep xs Q ⟨r,hs,rfl,ls,ok,few,inn,q⟩;refine⟨a,st,un,⟨false,rfl⟩,r,rfl,ls,trivial,?_⟩;refine⟨_,rfl,a,st,un,⟨false,rfl⟩,r,rfl,ls,_,_,_,rfl,ok.wb,ok.st,λm en=>⟨trivial,?_⟩⟩;refine⟨_,rfl,_,rfl,(λz=>by cases z),λk ρ=>∃y4,ρ = [some (.kp false (.ob a) [(a,st,un)]),some (.sh false (.lst (intz hs))),some (.sh true (bG r.1 r.2.1)),some (.sh true (.lst (tups (cW r m)))),y4],⟨none,rfl⟩,?_,?_⟩
 ·rintro k y ρ hy ⟨y4,rfl⟩
  obtain⟨h,rfl,hh⟩:=jP hy
  have hi:=inn h (bJ7 hh);refine i5 ?_;refine⟨a,st,un,⟨false,rfl⟩,_,rfl,r,h,rfl,ls,ok,few,(λz=>by rw[hi]at z;cases z),λ_ m' c en' hc=>?_⟩;obtain rfl:=C6 en en'
  exact⟨_,rfl,_,rfl,_,rfl,r,m,h,rfl,ok,few,en,hi,λd hd=>⟨r,m,h,c,d,rfl,hc,hd,rY (ok.w63 few) h,_,rfl,aM ⟨_,rfl⟩⟩⟩
 ·rintro ρ ⟨y4,rfl⟩
  exact⟨trivial,q⟩
def N8:bS:=ah9
def bx2:aT:=(aH (au6 2 t6 (a6 (a5 3) (a6 (a5 1) aB)))
  (bF (eB (aQ (cZ Fx 2 pT (a6 (eI (a6 (cT (eL (a5 3) (qC (.int 11))) (a5 1)) aB)) aB)))) (b7 (qC (.bl false))) bE))
def aw1:aT:=(aH (bC 6 (cT (eL (aE jT (a6 (a5 0) (a6 (qC (.int 1)) aB))) (qC (.int 3))) (ac4 (qC (.int 10)) (qC (.int 30)))))
 (b7 (cZ Fx 2 pS (a6 (b5 (eI (a6 (uT (nS (qC (.int 1))) (a5 6)) (a6 (a5 1) (a6 (gW (a5 1) (a5 6)) aB)))) (cT (aE jT (a6 (a5 0) (a6 (qC (.int 1)) aB))) (qC (.int 3)))) aB))))
def aw2:aT:=(aH (bF (eB (aQ (cZ Fx 2 pT (a6 (ag9 (a5 1)) aB)))) (b7 (qC (.bl false))) bE)
 (aH (bC 4 (dH (gM (a5 1)) [none,some 2] (bW 0) iK (cZ Fx 1 lX (a6 (a5 0) aB))))
 (aH (bC 5 (dH (gM (a5 1)) [none,some 4] (bW 0) (aQ (rD (b5 (a5 1) (a5 0)) (qC .non))) (a5 0)))
 (aH (bF (aQ (q2 (rA 2 true) (aE wV (a6 (cZ Fx 2 i9 aB) (a6 (cZ Fx 2 iV aB) (a6 (a5 4) aB)))) (aE dY (a6 (a5 5) aB)))) (b7 (qC (.bl false))) bE)
 (aH (bF (aQ (q2 (rA 2 true) (cZ Fx 2 iW aB) (aE dY (a6 (a5 5) aB)))) (b7 (qC (.bl false))) bE)
 aw1)))))
def aw3:aT:=(aH (bC 1 (gW (qC (.int 1)) (cT (aE jT (a6 (a5 0) (a6 (qC (.int 0)) aB))) (qC (.int 9)))))
 (aH (as4 2 (aE wM (a6 (a5 0) (a6 (qC (.int 2)) (a6 (a5 1) aB)))))
 (aH (e9 (eC (kE (a5 0) kC (kD (qC (.int 30))))) (bW 3) bx2)
 aw2)))
section
variable {ns:ag}{n:Int}{a:ax}{r r0:bT}{ds us:List fJ}{st un:List PV}{y3 y4 y5 y6:Option Slot}{E:iG}{Q:PV→Prop}
abbrev N9 (ns:ag)(n:Int)(a:ax)(st un:List PV)(y3 y4 y5 y6:Option Slot):b8:=[some (.sh true (.scr ns)),si n,some (.kp true (.ob a) [(a,st,un)]),y3,y4,y5,y6]
theorem O0 {n:Nat}{h:Int}(h0:0<=h)(h1:h<(n:Int)):inB n h=true:=by
 unfold inB;rw[bG5 h0,bG5 h1];rfl
theorem bx3 {n:Nat}{h:Int}(z:h<0∨(n:Int)<=h):inB n h=false:=by
 unfold inB;rcases z with z|z
 ·rw[bF9 (by omega)];rfl
 ·rw[bF9 (by omega:¬h<(n:Int)),bT3]
theorem bx4 (hn:(r.1.length:Int)=n)(n1:n<=9)(ls:jC st r)(ok:cV r)(q:E.rt (.bl true)):aw1 E (N9 ns n a st un y3 y4 y5 none):=by
 refine⟨_,rfl,_,ns,1,rfl,.inl rfl,by decide,_,_,rfl,rfl,⟨by decide,by decide⟩,_,_,rfl,rfl,⟨by decide,by decide⟩,_,_,rfl,rfl,(by show (0:Int)<10^30;decide),trivial,?_⟩;dsimp only;generalize ns.getD (1:Int).toNat 0=c;have f0:0<=c/3%10^(30:Int).toNat:=bN1 _ (by decide);generalize c/3%10^(30:Int).toNat=f at f0;have fin:∀z:Int,(z<0∨n<=z)->pS st un Fx [.int z] λz=>Nw .fr z/\E.rt z:=λz hz=>⟨r,z,rfl,ls,ok,by omega,bx3 (by omega),trivial,q⟩
 refine⟨a,st,un,⟨true,rfl⟩,1,rfl,_,rfl,_,_,rfl,rfl,_,rfl,_,rfl,_,rfl,_,_,rfl,rfl,sF,rfl,_,rfl,_,ns,1,rfl,.inl rfl,by decide,_,_,rfl,rfl,(by show (0:Int)<3;decide),?_⟩;dsimp only;have c0:0<=ns.getD (1:Int).toNat 0%3:=bN1 _ (by decide);have c1:ns.getD (1:Int).toNat 0%3<3:=bP2 _ (by decide);generalize ns.getD (1:Int).toNat 0%3=i at c0 c1
 have:i=0∨i=1∨i=2:=by omega
 rcases this with rfl|rfl|rfl
 ·exact⟨_,0,_,rfl,rfl,rfl,fin (-1-f) (by omega)⟩
 ·exact⟨_,1,_,rfl,rfl,rfl,fin n (by omega)⟩
 ·exact⟨_,2,_,rfl,rfl,rfl,fin (n+f) (by omega)⟩
theorem aw4 {r:bT}{m:Nat}(ok:cV r)(en:bP r.1 r.2.1 r.2.2 m):(rng r.1.length).filter (λh=>decide (h∈aV r.1 r.2.1 r.2.2 m))=fZ r:=by
 have so:((rng r.1.length).filter (λh=>decide (h∈aV r.1 r.2.1 r.2.2 m))).Pairwise (·<·):=by
  refine List.Pairwise.filter _ ?_;unfold rng;exact bN6.mpr (List.pairwise_lt_range.imp λ{a b} h=>by show (a:Int)<(b:Int);omega)
 refine as7 en ?_ (so.imp λ{a b} h=>by omega);refine (List.perm_ext_iff_of_nodup (so.imp λ{a b} h=>by omega) (vI ok.st m)).mpr λx=>?_
 rw[bL7,bH1]
 exact⟨λz=>z.2,λz=>⟨j9.mpr (bg7 ok.st z),z⟩⟩
theorem gO.isN {ws:ag}{ls:aa}{h:Int}{c:PV}{rs:af}(hc:gO rs ws ls h c):iJ c=(dA rs h).isNone:=by
 rcases hc with⟨h1,rfl⟩|⟨h1,rfl⟩|⟨k,bs,h1,_,rfl⟩<;>rw[h1]<;>rfl
theorem bx5 (hn:(r.1.length:Int)=n)(n1:n<=9)(ls:jC st r)(ok:cV r)(h3:NK y3)(q:E.rt (.bl true)):aw2 E (N9 ns n a st un y3 none none none):=by
 have few:r.1.length<=9:=by omega
 obtain⟨m,en⟩:=vS r.1 r.2.1 r.2.2
 have nn:n.toNat=r.1.length:=by omega
 refine⟨a,st,un,⟨true,rfl⟩,_,rfl,n,rfl,by omega,by omega,?_⟩;rw[nn,ba9];refine⟨r,rng r.1.length,rfl,ls,ok,few,λh hh=>(by have:=j9.mp hh;exact O0 this.1 this.2),_,rfl,aM ?_⟩;refine⟨_,rfl,n,rfl,by omega,by omega,by rw[gV];omega,λk acc=>acc.length=k/\∀h:Nat,h<k->∃c,acc[h]? = some c/\gO (cW r m) r.1 r.2.1 h c,⟨rfl,λ_ z=>absurd z (bS6 _)⟩,?_,?_⟩
 ·rintro k y acc hy ⟨al,ac⟩
  obtain⟨rfl,hk⟩:=j8 hy
  have kl:k<r.1.length:=by omega
  refine i5 ?_;rw[show (0:Int)+(k:Int)=(k:Int) by omega];have hi:inB r.1.length (k:Int)=true:=O0 (by omega) (by omega);refine⟨a,st,un,⟨_,rfl⟩,_,rfl,r,(k:Int),rfl,ls,ok,few,(λz=>by rw[hi]at z;cases z),λ_ m' c en' hc=>?_⟩;obtain rfl:=C6 en en';refine⟨trivial,by rw[bF4,al];rfl,λh hh=>?_⟩;by_cases e:h=k
  ·subst e
   exact⟨c,by rw[bO0 (by omega),al,Nat.sub_self];rfl,hc⟩
  ·obtain⟨c',h1,h2⟩:=ac h (by omega)
   exact⟨c',by rw[bL5 (by omega)];exact h1,h2⟩
 rintro cs ⟨cl,hc⟩;rw[gV,nn]at cl hc;refine⟨trivial,?_⟩;have at4:∀h:Nat,h<r.1.length->∃c,atI cs (h:Int)=some c/\gO (cW r m) r.1 r.2.1 h c:=λh hh=>by
  obtain⟨d,h1,h2⟩:=hc h hh
  exact⟨d,qI h1,h2⟩
 refine⟨_,rfl,n,rfl,by omega,by omega,by rw[gV];omega,λi acc=>acc=intz (((rng r.1.length).take i).filter λh=>decide (h∈aV r.1 r.2.1 r.2.2 m)),rfl,?_,?_⟩
 ·rintro i y acc hy rfl
  obtain⟨rfl,hi⟩:=j8 hy
  have il:i<r.1.length:=by omega
  refine i5 ?_;rw[show (0:Int)+(i:Int)=(i:Int) by omega]
  obtain⟨d,a4,hdd⟩:=at4 i il
  have tk:=iN (p:=λh=>decide (h∈aV r.1 r.2.1 r.2.2 m)) (C9 il);refine⟨_,rfl,_,rfl,_,_,_,rfl,rfl,a4,rfl,_,rfl,?_⟩;show if (!iJ d)=true then _ else _
  rw[hdd.isN];cases e:dA (cW r m) (i:Int) with
  |none=>
   rw[if_neg (by simpa using pA.mp e),bH4]at tk;refine aM ?_;show _=_;rw[tk]
  |some j=>
   rw[if_pos (bG5 ((iS m).mpr ⟨j,jA.mp e⟩))]at tk;refine aY ⟨_,rfl,rO _ _,?_⟩;show _=_;rw[tk,eM];rfl
 ·rintro acc rfl
  rw[gV,List.take_of_length_le (by rw[C8];omega),aw4 ok en];refine⟨trivial,?_⟩;have bl:=sV ok;refine⟨a,st,un,⟨true,rfl⟩,r,rfl,ls,a,st,un,⟨true,rfl⟩,r,rfl,ls,_,rfl,r.1,r.2.1,_,r.2.2,cs,m,rfl,ok.w63 few,by omega,.inl rfl,ok.st,en,by omega,hc,?_⟩;rw[aw4 ok en];refine⟨_,rfl,⟨_,_,rfl,rfl,cH _,.inl ⟨_,_,rfl,rfl⟩,(wS 2 _).2,_,rfl,?_⟩,λns z=>by cases z⟩;show if (!cI 3 (.tup (intz (fZ r))) (.tup (intz (fZ r))))=true then _ else _
  rw[(wS 2 _).1];refine aM ?_;refine⟨a,st,un,⟨true,rfl⟩,r,rfl,ls,ok,_,rfl,⟨_,_,rfl,rfl,cH _,.inl ⟨_,_,rfl,rfl⟩,(wS 2 _).2,_,rfl,?_⟩,λns z=>by cases z⟩;show if (!cI 3 (.tup (intz (fZ r))) (.tup (intz (fZ r))))=true then _ else _
  rw[(wS 2 _).1];refine aM ?_;exact bx4 hn n1 ls ok q
end
theorem bx6:cY aw3 ["script","many","keeper","cell","found","burning","far"] N8:=by
 rintro xs Q ⟨ns,rfl,hn,q⟩;refine⟨_,rfl,_,ns,0,rfl,.inl rfl,by decide,_,_,rfl,rfl,(by show (0:Int)<9;decide),_,_,rfl,rfl,trivial,?_⟩;dsimp only;have h9:∀x:Int,0<=x%9/\x%9<9:=λx=>⟨bN1 _ (by decide),bP2 _ (by decide)⟩
 have a0:=h9 (ns.getD (0:Int).toNat 0);generalize e:1+ns.getD (0:Int).toNat 0%9=n;have n0:1<=n:=by omega
 have n1:n<=9:=by omega
 refine⟨_,rfl,_,rfl,ns,2,n,rfl,hn,by decide,by decide,by omega,by omega,λws ls wl fl=>⟨p6 ws ls,λa=>?_⟩⟩;have wm:=wl.many;have ok:cV (ws,ls,[]):=⟨by rw[<- wm]at wl;exact wl,by show ws.length<=40;omega,rfl⟩;refine⟨_,rfl,30,rfl,_,rfl,cH ns,?_⟩;have cut:eY (intz ns) none (some 30)=intz (ns.take (30:Int).toNat):=G5 (by decide);show ∃xs,iI (uS (.scr ns) (eY (intz ns) none (some 30)))=some xs/\_
 rw[cut];refine⟨_,rfl,(λz=>by cases z),λk ρ=>∃(ds us:List fJ) (y3:Option Slot),NK y3/\lU (ws,ls,[]) (ds++us.reverse)/\ds.length+us.length<=k/\ρ=N9 ns n a (lW (ws,ls,[]) ds) (us.map fP) y3 none none none,⟨[],[],none,wP,trivial,bF7 _,rfl⟩,?_,?_⟩
 ·rintro k y ρ hy ⟨ds,us,y3,h3,ch,ln,rfl⟩
  obtain⟨c,rfl,hh⟩:=jP hy
  have kl:k<30:=by
   have:=(bF6.mp hh).1
   rw[bI8]at this
   have:k<(30:Int).toNat:=by omega
   exact this
  refine i5 ?_;refine⟨a,_,_,rfl,bu9 [some (.sh true (.scr ns)),si n] [si c,none,none,none] rfl ⟨wO,wO,trivial⟩ ⟨wO,wP,wP,wP,trivial⟩,_,rfl,_,rfl,rfl,(ws,ls,[]),ds,us,c,n,rfl,by omega,by omega,rfl,rfl,ok,by show ws.length<=9;omega,ch,by omega,λb ds' us' ch' ln'=>?_⟩
  obtain⟨okr,l1,_⟩:=pQ ok (lV.mp ch').1
  have l1:(fM (ws,ls,[]) ds').1.length=ws.length:=l1;refine⟨a,_,_,⟨true,rfl⟩,_,rfl,_,_,rfl,rfl,⟨by decide,by decide⟩,_,rfl,_,_,rfl,rfl,(by show 0<n;omega),jU,rfl,fM (ws,ls,[]) ds',[c/11%n],rfl,sZ,okr,by omega,λh hh=>?_,_,rfl,aM ⟨ds',us',si c,wO,ch',by omega,rfl⟩⟩;rw[bF8.mp hh];have b0:=bN1 (c/11) (show n≠0 by omega);have b1:=bP2 (c/11) (show 0<n by omega);exact O0 b0 (by omega)
 ·rintro ρ ⟨ds,us,y3,h3,ch,ln,rfl⟩
  obtain⟨okr,l1,_⟩:=pQ ok (lV.mp ch).1
  have l1:(fM (ws,ls,[]) ds).1.length=ws.length:=l1;exact bx5 (r:=fM (ws,ls,[]) ds) (by omega) n1 sZ okr h3 q
end Core
namespace K_k92
open PySem PySem.W L2 PP Core
theorem _root_.L2.FnScope.au {N P:List Str}{s:Scope}(a:s.kind=.function:=by rfl)(b:s.isCoroutine=false:=by rfl)(c:s.isGenerator=false:=by rfl)(d:N.Nodup:=by decide +kernel)(e:N.take P.length=P:=by rfl)(f:∀x∈P,s.names.lookup x=some .local∨s.names.lookup x=some .cell:=by decide +kernel)(g:∀y∈s.names,y.2≠.free:=by decide +kernel):FnScope N P s:=⟨a,b,c,d,e,f,g⟩
def bB (i:Nat):Stmt:=PySem.Challenge.pw_kindleweb_k92_whole_causes_kept.main.body.getD i (.Pass ⟨0,0,0,0⟩)
def bH (i j:Nat):Stmt:=match bB i with
 |.ClassDef _ _ _ b _ _ _ _ _ _ _=>b.getD j (.Pass ⟨0,0,0,0⟩)
 |_=>.Pass ⟨0,0,0,0⟩
structure FK (K:Frag)(n:Str)(i:Nat)(f:ax)(d:FuncData):Prop where
 a:nsIn K mainGlobals n=some (some (.ref f))
 F:cQ K n n (bB i) f d
structure FM (K:Frag)(mg:Str->Option av)(n:Str)(i:Nat)(f:ax)(d:FuncData):Prop where
 F:cQ K n n (bB i) f d
 m:mg n=some (.ref f)
theorem FK.M {K:Frag}{mg:Str->Option av}{n:Str}{i:Nat}{f:ax}{d:FuncData}{h:Heap}(z:FK K n i f d)(X:K.In h)(G:h.Ns mainGlobals mg):FM K mg n i f d:=⟨z.F,mg_of X G z.a⟩
abbrev Hb (x:Str)(ps:List Str)(i:Nat):Prop:=∀(kV doc pm:av) (an:Option ax) (cdv ct:av) (us:List av),us.length=ps.length->bindArgs (fnOf x x (eV (bB i)) (cU (bB i)) (aS (bB i)) .none kV doc pm an cdv ct) ⟨us,[]⟩=pure (ps.zip us)
theorem t7 {A:az}{k:Nat}(hr:bJ k A):A.units+3<cLine:=by have:=hr.units;omega
section
variable {P:ay}{w:ba}{K:Frag}{mg:Str→Option av}{base:Heap}{f:ax}{fd:FuncData}{k i:Nat}{x:Str}{ps N:List Str}
theorem Df.au {p:bS}(F:FM K mg x i f fd)(S:FnScope N ps (aS (bB i)))(body:∀(cdv:av) (A:az) (outer:List Env) (s:aw) (H:Hp) (E:XK),bJ k (A.deeper (PyProof.Rows.envOfC x (aS (bB i)) s.heap.objs.size f cdv))->∃t,fG (cP fF P w K mg base N x (aS (bB i)) f cdv A outer s H E).nox (cU (bB i)) t/\∀xs Q,p xs Q->t { nx:=λ_=>Q .non,rt:=Q } (gD N xs))(hb:Hb x ps i:=by intro _ _ _ _ _ _ us hl;first|(obtain⟨_,rfl⟩:=us1 hl;rfl)|(obtain⟨_,_,rfl⟩:=us2 hl;rfl)|(obtain⟨_,_,_,rfl⟩:=vO hl;rfl)|(obtain⟨_,_,_,_,rfl⟩:=J1 hl;rfl)|(obtain⟨_,_,_,_,_,rfl⟩:=us5 hl;rfl))(len:∀xs Q,p xs Q->xs.length=ps.length:=by intro xs Q h;repeat (first|(obtain⟨rfl,_⟩:=h;rfl)|(obtain⟨_,h⟩:=h))):Df P w K mg base (k+1) x ps p:=
 Df.of F.F F.m S hb len body
theorem cK.au {p:fB}(F:FM K mg x i f fd)(S:FnScope N ps (aS (bB i)))(t:(Str->Prop)->aT)(rd:∀Ep xs Q,p Ep xs Q->t Ep { nx:=λ_=>Q .non,rt:=Q } (gD N xs))(body:∀(cdv:av) (A:az) (outer:List Env) (s:aw) (H:Hp) (E:XK) (Ep:Str->Prop),bJ k (A.deeper (PyProof.Rows.envOfC x (aS (bB i)) s.heap.objs.size f cdv))->lI (cP (bR P w) P w K mg base N x (aS (bB i)) f cdv A outer s H E) (EX K H Ep)->fG (cP (bR P w) P w K mg base N x (aS (bB i)) f cdv A outer s H E) (cU (bB i)) (t Ep))(hb:Hb x ps i:=by intro _ _ _ _ _ _ us hl;first|(obtain⟨_,rfl⟩:=us1 hl;rfl)|(obtain⟨_,_,rfl⟩:=us2 hl;rfl)|(obtain⟨_,_,_,rfl⟩:=vO hl;rfl)|(obtain⟨_,_,_,_,rfl⟩:=J1 hl;rfl)|(obtain⟨_,_,_,_,_,rfl⟩:=us5 hl;rfl))(len:∀Ep xs Q,p Ep xs Q->xs.length=ps.length:=by intro Ep xs Q h;repeat (first|(obtain⟨rfl,_⟩:=h;rfl)|(obtain⟨_,h⟩:=h))):cK P w K mg base (k+1) x ps p:=
 cK.of F.F F.m S hb t len rd body
end
section
variable {P:ay}{w:ba}{K:Frag}{mg:Str→Option av}{base:Heap}{f:ax}{fd:FuncData}
theorem nd2:(["ahead","behind"]:List Str).Nodup:=by decide +kernel
abbrev aw5:Stmt:=bB 9
theorem scR:FnScope ["things"] ["things"] (aS aw5):=.au
theorem O1 {ns:ag}{i:Nat}{x y:V}(h1:(ns.map V.int)[i]? = some x)(h2:((ns.map V.int).drop 1)[i]? = some y):∃p q:Int,x = .int p/\y = .int q/\(ns.zip (ns.drop 1))[i]? = some (p,q):=by
 rw[bG4]at h1;rw[<- List.map_drop,bG4]at h2;cases e1:ns[i]? with
 |none=>rw[e1]at h1;cases h1
 |some p=>
  cases e2:(ns.drop 1)[i]? with
  |none=>rw[e2]at h2;cases h2
  |some q=>
   rw[e1]at h1;rw[e2]at h2
   exact⟨p,q,(bG9 h1).symm,(bG9 h2).symm,List.getElem?_zip_eq_some.mpr ⟨e1,e2⟩⟩
theorem bx7 (B:Bt mg)(F:cQ K "rises" "rises" aw5 f fd):bU P w K mg base fF 1 f fd ["things"] (ah4 K):=by
 refine F.ok scR (λvs H Q E h=>?_) (λcdv A outer s H vs Q E hr h=>?_)
 ·obtain⟨a,ns,rfl,_⟩:=h
  rfl
 obtain⟨a,ns,rfl,hS,hn,q⟩:=h
 have lz:((ns.map V.int).drop 1).length<=sizeLine:=bJ6 (j4 (by rw[bP4,bF1];omega));have lz2:((ns.map V.int).drop 1).length<=(ns.map V.int).length:=by rw[bP4];omega
 have lz3:(ns.zip (ns.drop 1)).length=((ns.map V.int).drop 1).length:=by rw[List.length_zip,bP4,bP4,bF1];omega
 rcases hS with hS|hS
 ·refine⟨_,nF (oB (oG (zH rfl) rfl B.all PyProof.Rows.boot_all (d8 (X6 (N:=["ahead","behind"]) (fr:=[none,none]) rfl (dS.of rfl rfl) (aO4 rfl B.zip (d8 (pv 0) (d8 (xV Z8 (pv 0) (xU pW) xT) dO)))
   ⟨λ_ _ _ _=>show PG _ _ (nI K 2 (iB (dN 0) (iB (dN 1) nH))) from pY rfl (jY (iA (i:=0) nd2 rfl (Or.inl rfl) (.inr rfl)) (jY (iA (i:=1) nd2 rfl (Or.inl rfl) (.inr rfl)) pX)),λ_ _ _ _=>tT,λ_ _ _ _=>xK tH (pv 0) (pv 1) (eG _)⟩) dO))),?_⟩
  refine⟨_,rfl,_,rfl,1,rfl,a,_,rfl,hS,λp hp=>?_,λe=>?_⟩
  ·have s1:=bL hp (.tup (fN (ns.map V.int) (some 1) none))
   have hb:aP K (upd H p (.tup (fN (ns.map V.int) (some 1) none))) p ((ns.map V.int).drop 1):=aP.of (by rw[b6,zK]);refine⟨a,p,_,_,rfl,s1.tup hS,hb,zJ (Z7 (s1.tup hS) hb lz2) (λi acc _=>acc=((ns.zip (ns.drop 1)).take i).map λ(p:Int×Int)=>V.bl (decide (p.1<p.2))) lz (λ_ _=>rfl) (λ_ _ _ _ _ h=>h) (λi x acc D H' hi hR c hP=>?_) (λD acc H' hD sm hDa am hP=>?_)⟩
   ·obtain⟨T,x1,y1,rfl,hT,h1,h2⟩:=hR
    obtain⟨m,k,rfl,rfl,hz⟩:=O1 h1 h2
    refine⟨T,_,rfl,aP.of hT,rfl,_,_,rfl,_,_,rfl,rfl,((Wk.refl _).set (i:=0) rfl).set (i:=1) rfl,u7 ⟨_,rfl,_,rfl,_,_,rfl,rfl,c.yes (aD.refl _) ?_⟩⟩;rw[rJ hz,hP]
   ·refine⟨D,(ns.zip (ns.drop 1)).map λ(p:Int×Int)=>decide (p.1<p.2),rfl,aU.of ?_,q _ (s1.trans sm)⟩
    rw[hDa,hP,<- lz3,bI5,bO3];rfl
  ·have hb:aP K H a ((ns.map V.int).drop 1):=by
    have:(ns.map V.int).drop 1=ns.map V.int:=by rw[<- zK];exact e
    rw[this];exact hS
   refine⟨a,a,_,_,rfl,hS,hb,zJ (Z7 hS hb lz2) (λi acc _=>acc=((ns.zip (ns.drop 1)).take i).map λ(p:Int×Int)=>V.bl (decide (p.1<p.2))) lz (λ_ _=>rfl) (λ_ _ _ _ _ h=>h) (λi x acc D H' hi hR c hP=>?_) (λD acc H' hD sm hDa am hP=>?_)⟩
   ·obtain⟨T,x1,y1,rfl,hT,h1,h2⟩:=hR
    obtain⟨m,k,rfl,rfl,hz⟩:=O1 h1 h2
    refine⟨T,_,rfl,aP.of hT,rfl,_,_,rfl,_,_,rfl,rfl,((Wk.refl _).set (i:=0) rfl).set (i:=1) rfl,u7 ⟨_,rfl,_,rfl,_,_,rfl,rfl,c.yes (aD.refl _) ?_⟩⟩;rw[rJ hz,hP]
   ·refine⟨D,(ns.zip (ns.drop 1)).map λ(p:Int×Int)=>decide (p.1<p.2),rfl,aU.of ?_,q _ sm⟩
    rw[hDa,hP,<- lz3,bI5,bO3];rfl
 ·refine⟨_,nF (oB (oG (zH rfl) rfl B.all PyProof.Rows.boot_all (d8 (X6 (N:=["ahead","behind"]) (fr:=[none,none]) rfl (dS.of rfl rfl) (aP0 rfl B.zip (d8 (pv 0) (d8 (xV U6 (pv 0) (xU pW) xT) dO)))
   ⟨λ_ _ _ _=>show PG _ _ (nI K 2 (iB (dN 0) (iB (dN 1) nH))) from pY rfl (jY (iA (i:=0) nd2 rfl (Or.inl rfl) (.inr rfl)) (jY (iA (i:=1) nd2 rfl (Or.inl rfl) (.inr rfl)) pX)),λ_ _ _ _=>tT,λ_ _ _ _=>xK tH (pv 0) (pv 1) (eG _)⟩) dO))),?_⟩
  refine⟨_,rfl,_,rfl,1,rfl,a,_,rfl,hS,λp hp=>?_⟩;have s1:=bL hp (.lst (fN (ns.map V.int) (some 1) none));have hb:aU K (upd H p (.lst (fN (ns.map V.int) (some 1) none))) p ((ns.map V.int).drop 1):=aU.of (by rw[b6,zK]);refine⟨a,p,_,_,rfl,s1.seq hS,hb,zJ (aP1 (s1.seq hS) hb lz2) (λi acc _=>acc=((ns.zip (ns.drop 1)).take i).map λ(p:Int×Int)=>V.bl (decide (p.1<p.2))) lz (λ_ _=>rfl) (λ_ _ _ _ _ h=>h) (λi x acc D H' hi hR c hP=>?_) (λD acc H' hD sm hDa am hP=>?_)⟩
  ·obtain⟨T,x1,y1,rfl,hT,h1,h2⟩:=hR
   obtain⟨m,k,rfl,rfl,hz⟩:=O1 h1 h2
   refine⟨T,_,rfl,aP.of hT,rfl,_,_,rfl,_,_,rfl,rfl,((Wk.refl _).set (i:=0) rfl).set (i:=1) rfl,u7 ⟨_,rfl,_,rfl,_,_,rfl,rfl,c.yes (aD.refl _) ?_⟩⟩;rw[rJ hz,hP]
  ·refine⟨D,(ns.zip (ns.drop 1)).map λ(p:Int×Int)=>decide (p.1<p.2),rfl,aU.of ?_,q _ (s1.trans sm)⟩
   rw[hDa,hP,<- lz3,bI5,bO3];rfl
abbrev aw6:Stmt:=bB 11
theorem wZ:FnScope ["web","around","one","other"] ["web"] (aS aw6):=.au
theorem bx8 (F:cQ K "near_lists" "near_lists" aw6 f fd):bU P w K mg base fF 1 f fd ["web"] ah5:=by
 refine F.ok wZ (λvs H Q E h=>?_) (λcdv A outer s H vs Q E hr h=>?_)
 ·obtain⟨v,ws,ls,rfl,_⟩:=h
  rfl
 obtain⟨v,ws,ls,rfl,W,hn,hm,hin,q⟩:=h
 refine⟨_,nE (aM0 (i:=1) (N:=["want"]) (fr:=[none]) rfl (dS.of rfl rfl) (P9 (oH xZ (pv 0) pW (λ_ _=>rfl)))
   ⟨λ_ _ _ _=>iA (i:=0) (bH7 _ _) rfl (Or.inl rfl) (.inr rfl),λ_ _ _ _=>tT,λ_ _ _ _=>tJ dO⟩ wZ.nd rfl rfl rfl)
  (nE (Q5 PassesOwn.never rfl (P9 (oH xZ (pv 0) pW (λ_ _=>rfl))) (pY (n:=2) rfl (jY (iA (i:=2) wZ.nd rfl (Or.inl rfl) (.inr rfl)) (jY (iA (i:=3) wZ.nd rfl (Or.inl rfl) (.inr rfl)) pX)) )
   (nE (lZ (tK bP6 bR2 bR3 qN (oH xY (pv 1) (pv 2) (λ_ _=>rfl)) (d8 (pv 3) dO)))
   (nF (lZ (tK bP6 bR2 bR3 qN (oH xY (pv 1) (pv 3) (λ_ _=>rfl)) (d8 (pv 2) dO))))))
  (nF (oB (pv 1)))),?_⟩
 obtain⟨a,p,q',ys,rfl,ha,hp,hq,hL⟩:=W.at_
 have lw:(ws.map V.int).length=ws.length:=bF1 _
 refine⟨_,rfl,a,_,_,_,rfl,rfl,aP.of ha,rfl,p,rfl,⟨_,aP.of hp⟩,aM3 (aM2 (aP.of hp)) (λi acc H'=>∃bs:List ax,acc=bs.map V.ref/\bs.length=i/\bs.Nodup/\∀b∈bs,H b=none/\H' b=some (.lst [])) (by rw[lw];exact bJ6 (qP hn))
  (λD hD=>⟨[],rfl,rfl,List.nodup_nil,λ_ z=>nomatch z⟩) (λi x acc D H' hx c hPv=>?_) (λD acc H' hD sm hDa am hPv=>?_)⟩
 ·obtain⟨bs,rfl,hbl,nd,hb⟩:=hPv
  refine⟨wk0 (n:=none),u7 ⟨bI2 _,λr hr'=>?_⟩⟩;have hrD:r≠D:=λz=>by rw[z,c.acc]at hr';cases hr'
  have hrH:H r=none:=c.same.free hr';refine c.yes (bL hr' _) ⟨bs++[r],by simp,by simp[hbl],?_,λb hm=>?_⟩
  ·refine bN7.mpr ⟨nd,bH7 _ _,λb hb1 b' hb2 e=>?_⟩
   rw[bF8.mp hb2]at e;rw[e]at hb1;rw[(hb r hb1).2]at hr';cases hr'
  ·rcases bJ0.mp hm with hm|hm
   ·have hbD:b≠D:=λz=>by
     rw[z]at hm
     have:=(hb D hm).2
     rw[c.acc]at this
     have:bs.map V.ref = []:=by injection this with e1;injection e1
     have:bs = []:=List.map_eq_nil_iff.mp this
     rw[this]at hm;simp at hm
    refine⟨(hb b hm).1,?_⟩;rw[aL hbD,aL (dG (hb b hm).2 hr')];exact (hb b hm).2
   ·rw[bF8.mp hm]
    exact⟨hrH,by rw[aL hrD,b6]⟩
 ·obtain⟨bs,rfl,hbl,nd,hb⟩:=hPv
  rw[lw]at hbl;have R0:kZ H H' D bs (λk=>aX (ls.take 0) k):=by
   refine⟨hD,λb hm=>⟨(hb b hm).1,λz=>?_⟩,nd,hDa,λk b hk=>(hb b (bJ7 hk)).2,sm⟩;rw[z]at hm
   have:=(hb D hm).2
   rw[hDa]at this
   have:bs.map V.ref = []:=by injection this with e1;injection e1
   have:bs = []:=List.map_eq_nil_iff.mp this
   rw[this]at hm;simp at hm
  have lL:=hL.length
  refine⟨_,rfl,a,_,_,_,rfl,rfl,aP.of (sm _ _ ha),rfl,q',rfl,⟨_,aP.of (sm _ _ hq)⟩,aD1 (K:=K) (a:=q') (xs:=ys) (λi σ H2=>∃x y:Option V,σ = [some (.ref a),some (.ref D),x,y]/\kZ H H2 D bs (λk=>aX (ls.take i) k))
   ⟨none,none,rfl,R0⟩ (λi σ H2 _ ⟨_,_,_,R⟩=>aP.of (R.same _ _ hq)) ?_ ?_⟩
  ·rintro i y σ H2 hi ⟨x1,x2,rfl,R⟩
   obtain⟨l,b,hl,rfl,hbt⟩:=hL.get hi
   have hlm:l∈ls:=bJ7 hl
   obtain⟨⟨h1,h2⟩,h3,h4⟩:=hin l hlm
   have k1:l.1.toNat<bs.length:=by omega
   have k2:l.2.toNat<bs.length:=by omega
   have e1:bs[l.1.toNat]? = some (bs[l.1.toNat]):=bF3 k1;have e2:bs[l.2.toNat]? = some (bs[l.2.toNat]):=bF3 k2;refine⟨b,_,rfl,aP.of (R.same _ _ hbt),rfl,_,_,rfl,_,_,rfl,rfl,?_⟩;refine⟨_,rfl,_,rfl,D,_,_,.ref bs[l.1.toNat],rfl,rfl,aU.of R.row,nQ h1 (by rw[bG4,e1];rfl),oK (aU.of (R.rows _ _ e1)),_,rfl,_,_,_,rfl,rfl,R.rows _ _ e1,?_,?_⟩
   ·rw[bF1]
    have:=qU (ls.take i) (l.1.toNat:Nat)
    rw[bI8]at this;exact j4 (by omega)
   ·have R1:=R.app e1 l.2
    refine⟨_,rfl,_,rfl,D,_,_,.ref bs[l.2.toNat],rfl,rfl,aU.of R1.row,nQ h3 (by rw[bG4,e2];rfl),oK (aU.of (R1.rows _ _ e2)),_,rfl,_,_,_,rfl,rfl,R1.rows _ _ e2,?_,?_⟩
    ·rw[bF1]
     have:=qU (ls.take i) (l.2.toNat:Nat)
     rw[bI8]at this;split
     ·rw[bF4,bJ3];exact j4 (by omega)
     ·exact j4 (by omega)
    ·have R2:=R1.app e2 l.1
     refine⟨_,_,rfl,R2.congr λk hk=>?_⟩;rw[zD hl];have c1:(k=l.1.toNat)↔l.1=(k:Int):=by omega
     have c2:(k=l.2.toNat)↔l.2=(k:Int):=by omega
     by_cases d1:k=l.1.toNat
     ·by_cases d2:k=l.2.toNat
      ·rw[if_pos d2,if_pos d1,if_pos (c1.mp d1),if_pos (c2.mp d2)];simp
      ·rw[if_neg d2,if_pos d1,if_pos (c1.mp d1),if_neg (λz=>d2 (c2.mpr z))];simp
     ·by_cases d2:k=l.2.toNat
      ·rw[if_pos d2,if_neg d1,if_neg (λz=>d1 (c1.mpr z)),if_pos (c2.mp d2)];simp
      ·rw[if_neg d2,if_neg d1,if_neg (λz=>d1 (c1.mpr z)),if_neg (λz=>d2 (c2.mpr z))];simp
  ·
   rintro σ H2 ⟨x1,x2,rfl,R⟩;refine⟨_,rfl,q D bs H2 hbl ?_⟩;rw[lL,bI5]at R;exact R
theorem bx9:FnScope ["web"] ["web"] (aS (bB 10)):=.au
theorem by0 (B:Bt mg)(F:FM K mg "hearths_in" 10 f fd) :Df P w K mg base 1 "hearths_in" ["web"] hZ:=
 Df.au F bx9 (λcdv A outer s H E hr=>by
  exact⟨(af4),(aR (bD (hU B (aA (bA (qv 0) aJ) aC)))),aY5⟩)
theorem x0:FnScope ["hearths","inside","hearth"] ["hearths"] (aS (bB 15)):=.au
theorem by1 (B:Bt mg)(F:FM K mg "marked" 15 f fd) :Df P w K mg base 1 "marked" ["hearths"] nX:=
 Df.au F x0 (λcdv A outer s H E hr=>by
  have nd:=x0.nd;have hu:=mB hr
  exact⟨(ag3),(aO (jN (i:=1) nd ad2)
   (aO (hV 2 nd (fH (qv 0))
    (aR (ad5 hu (i:=1) (qv 2) gE)))
   (aR (oY 1)))),aZ1⟩)
theorem by2 (B:Bt mg)(F:FM K mg "marked" 15 f fd) :Df P w K mg base 1 "marked" ["hearths"] vV:=
 Df.au F x0 (λcdv A outer s H E hr=>by
  have nd:=x0.nd;have hu:=mB hr
  exact⟨an3,(aO (jN (i:=1) nd aV1)
   (aO (hV 2 nd (fH (qv 0))
    (aR (aV2 hu (i:=1) (qv 2) gE)))
   (aR (oY 1)))),bl9⟩)
theorem by3:FnScope ["hearths","inside"] ["hearths","inside"] (aS (bB 16)):=.au
theorem by4 (B:Bt mg)(F:FM K mg "count_inside" 16 f fd) :Df P w K mg base 1 "count_inside" ["hearths","inside"] vD:=
 Df.au F by3 (λcdv A outer s H E hr=>by
  have hu:=mB hr
  exact⟨(ag4),(aR (bD (hU B (aA (mL (N:=["hearth","inside"]) (fr:=[none,some 1]) (fH (qv 0)) (λ_ _ _ _=>(aU9 hu (qv 0) (qv 1))) (λ_ _ _ _=>(qv 0))) aC)))),aZ2⟩)
theorem aw7:FnScope ["web","around","ranks","hearth","rank","earlier","taken"] ["web","around","ranks","hearth"] (aS (bB 27)):=.au
theorem by5 (B:Bt mg)(F:FM K mg "told_cause" 27 f fd)(cs:vJ K mg):Df P w K mg base 1 "told_cause" ["web","around","ranks","hearth"] rX:=
 Df.au F aw7 (λcdv A outer s H E hr=>by
  have nd:=aw7.nd;have hu:=mB hr
  exact⟨(aj6),(aO (bN (B2 hu (qv 3) (qv 2)) (aR (bD jK)) bM)
   (aO (bK (i:=4) nd (ad1 hu (qv 2) (qv 3)))
   (aO (bN (j7 (qv 4) aJ) (aR (bD (ai8 cs))) bM)
   (aO (bK (i:=5) nd (ba5 B (aA (mL (N:=["other","rank","ranks"]) (fr:=[none,some 4,some 2]) (fH (bA (qv 1) (qv 3))) (λ_ _ _ _=>(nW (bd4 hu (qv 2) (qv 0) (qv 1)) (qv 1))) (λ_ _ _ _=>(dB (aA (ad1 hu (qv 2) (qv 0)) (aA (qv 0) aC))))) aC)))
   (aO (bK (i:=6) nd (lH (qv 5) lF (lG (bA (bA (qv 0) aJ) (qv 3)))))
   (aR (bD (dB (aA (qv 4) (aA (fA B (aA (ad7 B (aA (bd1 (N:=["turn","other"]) (fr:=[none,none]) (fH (qv 6)) (λ_ _ _ _=>(qv 1))) aC)) aC)) aC)))))))))),bf8⟩)
theorem by6:FnScope ["cause","rank"] ["cause","rank"] (aS (bB 30)):=.au
theorem by7 (B:Bt mg)(F:FM K mg "is_earlier" 30 f fd) :Df P w K mg base 1 "is_earlier" ["cause","rank"] vK:=
 Df.au F by6 (λcdv A outer s H E hr=>by
  exact⟨(aj9),(aR (bD (oX (aU7 (qv 0) jK) (oW (B0 (bA (qv 0) aJ) (qv 1)))))),bg1⟩)
theorem by8:FnScope ["deed"] ["deed"] (aS (bB 34)):=.au
theorem by9 (B:Bt mg)(F:FM K mg "told_deed" 34 f fd)(kd_DEED_NUMBERS:KD P w K mg "DEED_NUMBERS" (pH vX)):Df P w K mg base 1 "told_deed" ["deed"] pI:=
 Df.au F by8 (λcdv A outer s H E hr=>by
  exact⟨(ao4),(aO (bN (bo1 (bn9 kd_DEED_NUMBERS (bA (qv 0) aJ)) (uV (hU B (aA (qv 0) aC)) aJ)) (aR B5) bM)
   (aO (bN (jL (iL (kJ (bA (qv 0) aJ) d9) (mJ (kJ (bA (qv 0) aJ) d9)))) (aR (bD (dB (aA (bA (qv 0) aJ) (aA (bl3 B rfl (aA (lH (qv 0) (lG aJ) lF) aC)) (aA (bl4 B rfl (aA (lH (qv 0) (lG aJ) lF) aC)) aC)))))) bM)
   (aR (bD (fA B (aA (qv 0) aC)))))),bo4⟩)
theorem bz0:FnScope ["self"] ["self"] (aS (bH 38 1)):=.au
theorem bz1 (B:Bt mg){CK:ax}(kc:KC K CK)(M:eS K CK "web_now" f)(F:cQ K "web_now" "Keeper.web_now" (bH 38 1) f fd) :cD P w K mg base 1 "web_now" ["self"] i9:=
 cD.of kc M F bz0 (λ_ _ _ _ _ _ us hl=>by obtain⟨_,rfl⟩:=us1 hl;rfl) as9 (λst un Ep xs Q h=>by unfold i9 at h;repeat (first|(obtain⟨rfl,_⟩:=h;rfl)|(obtain⟨_,h⟩:=h))) bt0 (λcdv A outer s H E Ep hr hX=>by
  exact (aR (bD (bA (aq5 kc 0 (uX aJ)) aJ))))
theorem bz2:FnScope ["self"] ["self"] (aS (bH 38 2)):=.au
theorem bz3 (B:Bt mg){CK:ax}(kc:KC K CK)(M:eS K CK "seeds_now" f)(F:cQ K "seeds_now" "Keeper.seeds_now" (bH 38 2) f fd) :cD P w K mg base 1 "seeds_now" ["self"] iV:=
 cD.of kc M F bz2 (λ_ _ _ _ _ _ us hl=>by obtain⟨_,rfl⟩:=us1 hl;rfl) at0 (λst un Ep xs Q h=>by unfold iV at h;repeat (first|(obtain⟨rfl,_⟩:=h;rfl)|(obtain⟨_,h⟩:=h))) bt1 (λcdv A outer s H E Ep hr hX=>by
  exact (aR (bD (bA (aq5 kc 0 (uX aJ)) aJ))))
theorem bz4:FnScope ["script","k"] ["script","k"] (aS (bB 40)):=.au
theorem bz5 (B:Bt mg)(F:FM K mg "_law_cell" 40 f fd) :Df P w K mg base 1 "_law_cell" ["script","k"] jT:=
 Df.au F bz4 (λcdv A outer s H E hr=>by
  exact⟨(ah0),(aO (bN (nW (qv 1) (hU B (aA (qv 0) aC))) (aR (bD (bA (qv 0) (qv 1)))) bM)
   (aR (bD aJ))),aZ6⟩)
theorem bz6:FnScope ["found"] ["found"] (aS (bB 42)):=.au
theorem bz7 (B:Bt mg)(F:FM K mg "_law_whole" 42 f fd) :Df P w K mg base 1 "_law_whole" ["found"] rR:=
 Df.au F bz6 (λcdv A outer s H E hr=>by
  exact⟨(ah1 K),(aR (bD (oX (aW0 B (qv 0)) (oW (ad0 (aW1 B (qv 0))))))),aZ7 (E8 K).ii (E8 K).ib⟩)
theorem aw8:FnScope ["web","hearth","found","one","other"] ["web","hearth"] (aS (bB 44)):=.au
theorem bz8 (B:Bt mg)(F:FM K mg "_law_beside" 44 f fd) :Df P w K mg base 1 "_law_beside" ["web","hearth"] pP:=
 Df.au F aw8 (λcdv A outer s H E hr=>by
  have nd:=aw8.nd
  exact⟨(au0),(aO (jN (i:=2) nd (hJ aC))
   (aO (ae7 3 4 nd (fH (bA (qv 0) aJ))
    (aO (bN (j7 (qv 3) (qv 1)) (aR (mK 2 (qv 4))) bM)
    (aR (bN (j7 (qv 4) (qv 1)) (aR (mK 2 (qv 3))) bM))))
   (aR (oY 2)))),bt9⟩)
theorem aw9:FnScope ["cell","many","one","other","word"] ["cell","many"] (aS (bB 46)):=.au
theorem bz9 (B:Bt mg)(F:FM K mg "_law_deed" 46 f fd) :Df P w K mg base 1 "_law_deed" ["cell","many"] w6:=
 Df.au F aw9 (λcdv A outer s H E hr=>by
  have nd:=aw9.nd
  exact⟨(ap3),(aO (bK (i:=2) nd (uV (dI (gZ (qv 0) aJ) (gY (qv 1) aJ)) aJ))
   (aO (bK (i:=3) nd (uV (dI (gY (gZ (qv 0) aJ) (qv 0)) (gY (qv 1) aJ)) aJ))
   (aO (bN (j7 (dI (qv 0) aJ) aJ) (aR (bK (i:=3) nd (gY (qv 1) (dI (gZ (qv 0) aJ) (ac5 aJ aJ))))) bM)
   (aO (bK (i:=4) nd (bA (hJ (aA d9 (aA d9 (aA d9 (aA d9 (aA d9 aC)))))) (dI (qv 0) aJ)))
   (aO (bN (jL (iL (kJ (qv 4) d9) (mJ (kJ (qv 4) d9)))) (aR (bD (dB (aA (qv 4) (aA (qv 2) aC))))) bM)
   (aO (bN (kJ (qv 4) d9) (aR (bD (dB (aA (qv 4) (aA (qv 2) (aA (bA (hJ (aA (dI (gZ (qv 0) aJ) aJ) (aA (dI (gZ (qv 0) aJ) aJ) (aA (uX aJ) (aA aJ (aA aJ aC)))))) (dI (gZ (qv 0) aJ) aJ)) aC)))))) bM)
   (aR (bD (dB (aA (qv 4) (aA (qv 2) (aA (qv 3) aC)))))))))))),bp4⟩)
theorem bA0:FnScope ["web","number"] ["web","number"] (aS (bB 12)):=.au
theorem bA1 (B:Bt mg)(F:FM K mg "is_hearth" 12 f fd)(d_hearths_in:Df P w K mg base 1 "hearths_in" ["web"] hZ):Df P w K mg base 2 "is_hearth" ["web","number"] iO:=
 Df.au F bA0 (λcdv A outer s H E hr=>by
  exact⟨(af5),(aR (bD (oX (ac6 (qv 1) aJ) (oW (B0 (qv 1) (bI d_hearths_in hr (aA (qv 0) aC))))))),aY6⟩)
theorem x4:FnScope ["hearths","some","gone"] ["hearths","some"] (aS (bB 17)):=.au
theorem bA2 (B:Bt mg)(F:FM K mg "without" 17 f fd)(d_marked:Df P w K mg base 1 "marked" ["hearths"] nX):Df P w K mg base 2 "without" ["hearths","some"] nY:=
 Df.au F x4 (λcdv A outer s H E hr=>by
  have nd:=x4.nd;have hu:=mB hr
  exact⟨(ai7),(aO (bK (i:=2) nd (bI d_marked hr (aA (qv 1) aC)))
   (aR (bD (fA B (aA (mL (N:=["hearth","gone"]) (fr:=[none,some 2]) (fH (qv 0)) (λ_ _ _ _=>(B2 hu (qv 0) (qv 1))) (λ_ _ _ _=>(qv 0))) aC))))),be2⟩)
theorem bA3 (B:Bt mg)(F:FM K mg "without" 17 f fd)(d_marked:Df P w K mg base 1 "marked" ["hearths"] vV):Df P w K mg base 2 "without" ["hearths","some"] sG:=
 Df.au F x4 (λcdv A outer s H E hr=>by
  have nd:=x4.nd;have hu:=mB hr
  exact⟨ao3,(aO (bK (i:=2) nd (bI d_marked hr (aA (qv 1) aC)))
   (aR (bD (fA B (aA (mL (N:=["hearth","gone"]) (fr:=[none,some 2]) (fH (qv 0)) (λ_ _ _ _=>(B2 hu (qv 0) (qv 1))) (λ_ _ _ _=>(qv 0))) aC))))),bo3⟩)
theorem bA4:FnScope ["web","around","burning","hearth"] ["web","around","burning","hearth"] (aS (bB 21)):=.au
theorem bA5 (B:Bt mg)(F:FM K mg "can_kindle" 21 f fd)(d_count_inside:Df P w K mg base 1 "count_inside" ["hearths","inside"] vD):Df P w K mg base 2 "can_kindle" ["web","around","burning","hearth"] vE:=
 Df.au F bA4 (λcdv A outer s H E hr=>by
  have hu:=mB hr
  exact⟨(ag5),(aR (bD (oX (aV0 hu (qv 3) (qv 2)) (oW (ac6 (bI d_count_inside hr (aA (bA (qv 1) (qv 3)) (aA (qv 2) aC))) (bA (bA (qv 0) aJ) (qv 3))))))),aZ3⟩)
theorem ax0:FnScope ["want","neighbours","told","is_seed","cause","rank","by"] ["want","neighbours","told","is_seed","cause"] (aS (bB 29)):=.au
theorem bA6 (B:Bt mg)(F:FM K mg "is_right_cause" 29 f fd)(d_rises:Df P w K mg base 1 "rises" ["things"] rL)(d_is_earlier:Df P w K mg base 1 "is_earlier" ["cause","rank"] vK)(cs:vJ K mg):Df P w K mg base 2 "is_right_cause" ["want","neighbours","told","is_seed","cause"] rZ:=
 Df.au F ax0 (λcdv A outer s H E hr=>by
  have nd:=ax0.nd;have hu3:=t7 hr
  exact⟨(ak1),(aO (bN (ac9 (qv 3)) (aR (bD (aW4 hu3 (qv 4) (ai8 cs)))) bM)
   (aO (bN (ac8 (qv 4) jK) (aR (bD (B0 (hU B (aA (mL (N:=["other","told"]) (fr:=[none,some 2]) (fH (qv 1)) (λ_ _ _ _=>(B1 (bA (qv 1) (qv 0)) jK)) (λ_ _ _ _=>(qv 0))) aC)) (qv 0)))) bM)
   (aO (bK (i:=5) nd (bA (qv 4) aJ))
   (aO (bK (i:=6) nd (bA (qv 4) aJ))
   (aO (bN (jL (iL (nW (qv 5) aJ) (iL (uW (hU B (aA (qv 6) aC)) (qv 0)) (mJ (fU (eZ (bI d_rises hr (aA (qv 6) aC)))))))) (aR (bD gE)) bM)
   (aR (bD (ad8 B rfl (aA (rG (N:=["other","neighbours","rank","told"]) (fr:=[none,some 1,some 5,some 2]) (fH (qv 6)) (λ_ _ _ _=>(oX (B8 (qv 0) (qv 1)) (oW (bI d_is_earlier hr (aA (bA (qv 3) (qv 0)) (aA (qv 2) aC))))))) aC))))))))),bg4⟩)
theorem bA7:FnScope ["self","web"] ["self","web"] (aS (bH 38 0)):=.au
theorem bA8 {CK:ax}(kc:KC K CK)(M:Mk K CK f)(F:cQ K "__init__" "Keeper.__init__" (bH 38 0) f fd)(m:mg "Keeper" = some (.ref CK)):M7 P w K mg base 1:=
 ⟨CK,f,fd,kc,M,bs4 kc F bA7 rfl (λcdv A outer s H E=>(hJ (aA (dB (aA jK (aA (qv 1) (aA (dB aC) aC)))) aC))) (λ_ _ _ _ _ _=>.inl rfl) (λ_ _ _ _ _ _=>rfl) (λ_ _ _ _ _ _=>rfl),F.binds (λ_ _ _ _ _ _ us hl=>by obtain⟨_,_,rfl⟩:=us2 hl;rfl),m⟩
theorem ax1:FnScope ["script","k","stir"] ["script","k"] (aS (bB 41)):=.au
theorem bA9 (B:Bt mg)(F:FM K mg "_law_number" 41 f fd)(d__law_cell:Df P w K mg base 1 "_law_cell" ["script","k"] jT):Df P w K mg base 2 "_law_number" ["script","k"] sD:=
 Df.au F ax1 (λcdv A outer s H E hr=>by
  have nd:=ax1.nd
  exact⟨(an4),(aO (bN (nW (qv 1) (hU B (aA (qv 0) aC))) (aR (bD (bA (qv 0) (qv 1)))) bM)
   (aO (bK (i:=2) nd (dI (rE (gY (gY (dI (bI d__law_cell hr (aA (qv 0) (aA (dI (qv 1) (ad9 B rfl (aA aJ (aA (hU B (aA (qv 0) aC)) aC)))) aC))) aJ) (rE aJ (qv 1))) aJ) aJ) aJ))
   (aR (bD (gZ (dI (rE (qv 2) (qv 2)) aJ) aJ))))),bm0⟩)
theorem ax2:FnScope ["web","seeds","burning","told","going","now","hearth","lit"] ["web","seeds"] (aS (bB 45)):=.au
theorem bB0 (B:Bt mg)(F:FM K mg "_law_rounds" 45 f fd)(d__law_beside:Df P w K mg base 1 "_law_beside" ["web","hearth"] pP):Df P w K mg base 2 "_law_rounds" ["web","seeds"] wQ:=
 Df.au F ax2 (λcdv A outer s H E hr=>by
  have nd:=ax2.nd
  exact⟨(au3),(aO (bK (i:=2) nd (aV5 B (aA (qv 1) aC)))
   (aO (jN (i:=3) nd (hJ (aA (fA B (aA (qv 1) aC)) aC)))
   (aO (bK (i:=4) nd gE)
   (aO (ad4 PassesOwn.never (eZ (qv 4))
    (aO (jN (i:=5) nd (hJ aC))
    (aO (hV 6 nd (jO rfl B.range (hU B (aA (bA (qv 0) aJ) aC)))
     (aO (bK (i:=7) nd (hU B (aA (mL (N:=["one","burning"]) (fr:=[none,some 2]) (fH (bI d__law_beside hr (aA (qv 0) (aA (qv 6) aC)))) (λ_ _ _ _=>(B9 (qv 0) (qv 1))) (λ_ _ _ _=>(qv 0))) aC)))
     (aR (bN (jL (B4 (aV7 (qv 6) (qv 2)) (B3 (aU8 (qv 7) (bA (bA (qv 0) aJ) (qv 6)))))) (aR (mK 5 (qv 6))) bM))))
    (aO (bK (i:=4) nd (aU5 (hU B (aA (qv 5) aC)) aJ))
    (aO (bN (eZ (qv 4)) (aR (mK 3 (fA B (aA (qv 5) aC)))) bM)
    (aR (bK (i:=2) nd (bc3 (qv 2) (qv 5)))))))))
   (aR (oY 3)))))),bu3⟩)
theorem ax3:FnScope ["web","told_rounds","hearth","k","some","earlier"] ["web","told_rounds","hearth"] (aS (bB 49)):=.au
theorem bB1 (B:Bt mg)(F:FM K mg "_law_cause" 49 f fd)(d__law_beside:Df P w K mg base 1 "_law_beside" ["web","hearth"] pP):Df P w K mg base 2 "_law_cause" ["web","told_rounds","hearth"] wW:=
 Df.au F ax3 (λcdv A outer s H E hr=>by
  have nd:=ax3.nd
  exact⟨(av8),(aO (hV 3 nd (jO rfl B.range (hU B (aA (qv 1) aC)))
    (aR (bN (B9 (qv 2) (bA (qv 1) (qv 3))) (aO (jN (i:=4) nd (hJ aC))
     (aO (hV 5 nd (fH (lH (qv 1) lF (lG (qv 3))))
      (aR (aW7 4 (mL (N:=["one","web","hearth"]) (fr:=[none,some 0,some 2]) (fH (qv 5)) (λ_ _ _ _=>(B9 (qv 0) (bI d__law_beside hr (aA (qv 1) (aA (qv 2) aC))))) (λ_ _ _ _=>(qv 0))))))
     (aO (bN (j7 (qv 3) aJ) (aR (bD (dB (aA aJ (aA (dB aC) aC))))) bM)
     (aR (bD (dB (aA (qv 3) (aA (fA B (aA (ad7 B (aA (lH (qv 4) lF (lG (bA (bA (qv 0) aJ) (qv 2)))) aC)) aC)) aC)))))))) bM)))
   (aR (bD jK))),bw8⟩)
theorem ax4:FnScope ["found","due","number"] ["found","due"] (aS (bB 50)):=.au
theorem bB2 (B:Bt mg)(F:FM K mg "_law_cause_is" 50 f fd)(d__law_whole:Df P w K mg base 1 "_law_whole" ["found"] rR):Df P w K mg base 2 "_law_cause_is" ["found","due"] wX:=
 Df.au F ax4 (λcdv A outer s H E hr=>by
  have nd:=ax4.nd;have hu3:=t7 hr
  exact⟨(wY K),(aO (bN (ac8 (qv 1) jK) (aR (bD (aU6 (qv 0) jK))) bM)
   (aO (bN (jL (iL (fU (eZ (ae3 B (qv 0)))) (iL (uW (hU B (aA (qv 0) aC)) aJ) (iL (fU (eZ (ae3 B (bA (qv 0) aJ)))) (mJ (bv4 hu3 (qv 0) (qv 1))))))) (aR (bD gE)) bM)
   (aO (hV 2 nd (fH (bv6 (dB (aA (bA (qv 0) aJ) aC)) (bA (qv 0) aJ)))
    (aR (bN (fU (eZ (bI d__law_whole hr (aA (qv 2) aC)))) (aR (bD gE)) bM)))
   (aR (bD gE))))),bx0⟩)
theorem bB3:FnScope ["web","numbers"] ["web","numbers"] (aS (bB 13)):=.au
theorem bB4 (B:Bt mg)(F:FM K mg "is_set" 13 f fd)(d_rises:Df P w K mg base 1 "rises" ["things"] rL)(d_is_hearth:Df P w K mg base 2 "is_hearth" ["web","number"] iO):Df P w K mg base 3 "is_set" ["web","numbers"] vB:=
 Df.au F bB3 (λcdv A outer s H E hr=>by
  exact⟨(af6),(aR (bD (oX (bI d_rises hr (aA (qv 1) aC)) (oW (ad8 B rfl (aA (rG (N:=["number","web"]) (fr:=[none,some 0]) (fH (qv 1)) (λ_ _ _ _=>(bI d_is_hearth hr (aA (qv 1) (aA (qv 0) aC))))) aC)))))),aY7⟩)
theorem bB5:FnScope ["web","around","burning"] ["web","around","burning"] (aS (bB 20)):=.au
theorem bB6 (B:Bt mg)(F:FM K mg "kindling" 20 f fd)(d_hearths_in:Df P w K mg base 1 "hearths_in" ["web"] hZ)(d_can_kindle:Df P w K mg base 2 "can_kindle" ["web","around","burning","hearth"] vE):Df P w K mg base 3 "kindling" ["web","around","burning"] rN:=
 Df.au F bB5 (λcdv A outer s H E hr=>by
  exact⟨(ag6),(aR (bD (fA B (aA (mL (N:=["hearth","web","around","burning"]) (fr:=[none,some 0,some 1,some 2]) (jO rfl B.range (bI d_hearths_in hr (aA (qv 0) aC))) (λ_ _ _ _=>(eZ (bI d_can_kindle hr (aA (qv 1) (aA (qv 2) (aA (qv 3) (aA (qv 0) aC))))))) (λ_ _ _ _=>(qv 0))) aC)))),aZ4⟩)
theorem ax5:FnScope ["web","seeds","deed","hearth"] ["web","seeds","deed"] (aS (bB 35)):=.au
theorem bB7 (B:Bt mg)(F:FM K mg "seeds_behind" 35 f fd)(d_is_hearth:Df P w K mg base 2 "is_hearth" ["web","number"] iO)(d_without:Df P w K mg base 2 "without" ["hearths","some"] nY)(x_BadDeed:Xc K mg base "BadDeed"):cK P w K mg base 3 "seeds_behind" ["web","seeds","deed"] vY:=
 cK.au F ax5 ao7 bo5 (λcdv A outer s H E Ep hr hX=>by
  have nd:=ax5.nd
  exact (aO (bK (i:=3) nd (bA (qv 2) aJ))
   (aO (bN (fU (eZ (bI d_is_hearth hr (aA (qv 0) (aA (qv 3) aC))))) (aR (kI hX x_BadDeed (aA d9 aC))) bM)
   (aO (bN (j7 (B8 (qv 3) (qv 1)) (am4 (bA (qv 2) aJ) d9)) (aR (kI hX x_BadDeed (aA d9 aC))) bM)
   (aO (bN (kJ (bA (qv 2) aJ) d9) (aR (bD (fA B (aA (bc1 B (aA (vH (qv 1) (dB (aA (qv 3) aC))) aC)) aC)))) bM)
   (aR (bD (bI d_without hr (aA (qv 1) (aA (hJ (aA (qv 3) aC)) aC))))))))))
theorem ax6:FnScope ["web","deed","hearth","want"] ["web","deed"] (aS (bB 36)):=.au
theorem bB8 (B:Bt mg)(F:FM K mg "wants_behind" 36 f fd)(d_is_hearth:Df P w K mg base 2 "is_hearth" ["web","number"] iO)(x_BadDeed:Xc K mg base "BadDeed"){u_MOST_WANTED:Nat}(m_MOST_WANTED:mg "MOST_WANTED" = some (.int 60 u_MOST_WANTED)):cK P w K mg base 3 "wants_behind" ["web","deed"] vZ:=
 cK.au F ax6 ao8 bo8 (λcdv A outer s H E Ep hr hX=>by
  have nd:=ax6.nd
  exact (aO (bK (i:=2) nd (bA (qv 1) aJ))
   (aO (bK (i:=3) nd (bA (qv 1) aJ))
   (aO (bN (jL (iL (fU (eZ (bI d_is_hearth hr (aA (qv 0) (aA (qv 2) aC))))) (iL (nW (qv 3) aJ) (mJ (ac7 (qv 3) (bd5 rfl m_MOST_WANTED)))))) (aR (kI hX x_BadDeed (aA d9 aC))) bM)
   (aO (bN (j7 (bA (bA (qv 0) aJ) (qv 2)) (qv 3)) (aR (kI hX x_BadDeed (aA d9 aC))) bM)
   (aR (bD (vH (vH (lH (bA (qv 0) aJ) lF (lG (qv 2))) (dB (aA (qv 3) aC))) (lH (bA (qv 0) aJ) (lG (gY (qv 2) aJ)) lF)))))))))
theorem ax7:FnScope ["web","deed","link"] ["web","deed"] (aS (bB 37)):=.au
theorem bB9 (B:Bt mg)(F:FM K mg "links_behind" 37 f fd)(d_is_hearth:Df P w K mg base 2 "is_hearth" ["web","number"] iO)(d_without:Df P w K mg base 2 "without" ["hearths","some"] sG)(x_BadDeed:Xc K mg base "BadDeed"):cK P w K mg base 3 "links_behind" ["web","deed"] w4:=
 cK.au F ax7 ao9 bp2 (λcdv A outer s H E Ep hr hX=>by
  have nd:=ax7.nd;have hu3:=t7 hr
  exact (aO (bK (i:=2) nd (lH (qv 1) (lG aJ) lF))
   (aO (bN (jL (iL (fU (eZ (bI d_is_hearth hr (aA (qv 0) (aA (bA (qv 2) aJ) aC))))) (iL (fU (eZ (bI d_is_hearth hr (aA (qv 0) (aA (bA (qv 2) aJ) aC))))) (mJ (j7 (bA (qv 2) aJ) (bA (qv 2) aJ)))))) (aR (kI hX x_BadDeed (aA d9 aC))) bM)
   (aO (bN (j7 (bj0 hu3 (qv 2) (bA (qv 0) aJ)) (am4 (bA (qv 1) aJ) d9)) (aR (kI hX x_BadDeed (aA d9 aC))) bM)
   (aO (bN (kJ (bA (qv 1) aJ) d9) (aR (bD (fA B (aA (ao1 B (aA (vH (bA (qv 0) aJ) (dB (aA (qv 2) aC))) aC)) aC)))) bM)
   (aR (bD (bI d_without hr (aA (bA (qv 0) aJ) (aA (hJ (aA (qv 2) aC)) aC))))))))))
theorem ax8:FnScope ["script","at","many","links","cell","wants","hearth","one","other","k","pair"] ["script","at","many"] (aS (bB 43)):=.au
theorem bC0 (B:Bt mg)(F:FM K mg "_law_web" 43 f fd)(d__law_cell:Df P w K mg base 1 "_law_cell" ["script","k"] jT)(d__law_number:Df P w K mg base 2 "_law_number" ["script","k"] sD):Df P w K mg base 3 "_law_web" ["script","at","many"] wM:=
 Df.au F ax8 (λcdv A outer s H E hr=>by
  have nd:=ax8.nd;have hu3:=t7 hr
  exact⟨(bs7),(aO (jN (i:=3) nd (hJ aC))
   (aO (bK (i:=4) nd (gZ (bI d__law_cell hr (aA (qv 0) (aA (qv 1) aC))) aJ))
   (aO (bN (jL (B4 (j7 (dI (bI d__law_cell hr (aA (qv 0) (aA (qv 1) aC))) aJ) aJ) (B3 (nW (qv 2) aJ)))) (aO (jN (i:=5) nd (hJ aC))
    (aO (hV 6 nd (jO rfl B.range (qv 2))
     (aO (mK 5 (dI (qv 4) aJ))
     (aR (bK (i:=4) nd (gZ (qv 4) aJ)))))
    (aO (hV 7 nd (jO rfl B.range (qv 2))
     (aR (hV 8 nd (aV4 rfl B.range (gY (qv 7) aJ) (qv 2))
      (aO (bN (j7 (dI (qv 4) aJ) aJ) (aR (mK 3 (dB (aA (qv 7) (aA (qv 8) aC))))) bM)
      (aR (bK (i:=4) nd (gZ (qv 4) aJ)))))))
    (aR (bD (dB (aA (fA B (aA (qv 5) aC)) (aA (fA B (aA (qv 3) aC)) aC)))))))) bM)
   (aO (bK (i:=5) nd (fA B (aA (rG (N:=["k","script","at"]) (fr:=[none,some 0,some 1]) (jO rfl B.range (qv 2)) (λ_ _ _ _=>(dI (bI d__law_number hr (aA (qv 1) (aA (gY (qv 2) (qv 0)) aC))) aJ))) aC)))
   (aO (hV 9 nd (jO rfl B.range (rE aJ (qv 2)))
    (aO (bK (i:=4) nd (bI d__law_number hr (aA (qv 0) (aA (gY (gY (qv 1) (qv 2)) (qv 9)) aC))))
    (aO (bK (i:=7) nd (dI (qv 4) (qv 2)))
    (aO (bK (i:=8) nd (dI (gY (gZ (qv 4) (qv 2)) (rE aJ (qv 4))) (qv 2)))
    (aO (bK (i:=10) nd (dB (aA (aV6 B rfl (aA (qv 7) (aA (qv 8) aC))) (aA (ad9 B rfl (aA (qv 7) (aA (qv 8) aC))) aC))))
    (aR (bN (jL (B4 (uW (qv 7) (qv 8)) (B3 (bj8 hu3 (qv 10) (qv 3))))) (aR (mK 3 (qv 10))) bM)))))))
   (aR (bD (dB (aA (qv 5) (aA (fA B (aA (ao1 B (aA (qv 3) aC)) aC)) aC)))))))))),bs8⟩)
theorem bC1:FnScope ["web","hearths"] ["web","hearths"] (aS (bB 14)):=.au
theorem bC2 (B:Bt mg)(F:FM K mg "made_set" 14 f fd)(d_is_set:Df P w K mg base 3 "is_set" ["web","numbers"] vB)(x_BadSet:Xc K mg base "BadSet"):cK P w K mg base 4 "made_set" ["web","hearths"] mY:=
 cK.au F bC1 al2 bi0 (λcdv A outer s H E Ep hr hX=>by
  exact (aO (bN (fU (eZ (bI d_is_set hr (aA (qv 0) (aA (qv 1) aC))))) (aR (kI hX x_BadSet (aA d9 aC))) bM)
   (aR (bD (fA B (aA (qv 1) aC))))))
theorem ax9:FnScope ["web","seeds","told","burning","around","lit"] ["web","seeds"] (aS (bB 19)):=.au
theorem bC3 (B:Bt mg)(F:FM K mg "rounds" 19 f fd)(d_made_set:cK P w K mg base 4 "made_set" ["web","hearths"] mY)(d_marked:Df P w K mg base 1 "marked" ["hearths"] nX)(d_near_lists:Df P w K mg base 1 "near_lists" ["web"] lK)(d_kindling:Df P w K mg base 3 "kindling" ["web","around","burning"] rN):cK P w K mg base 5 "rounds" ["web","seeds"] vP:=
 cK.au F ax9 al3 bi1 (λcdv A outer s H E Ep hr hX=>by
  have nd:=ax9.nd
  exact (aO (jN (i:=2) nd (hJ (aA (mW hX d_made_set hr (aA (qv 0) (aA (qv 1) aC))) aC)))
   (aO (jN (i:=3) nd (bI d_marked hr (aA (bA (qv 2) aJ) aC)))
   (aO (bK (i:=4) nd (bI d_near_lists hr (aA (qv 0) aC)))
   (aO (bK (i:=5) nd (bI d_kindling hr (aA (qv 0) (aA (qv 4) (aA (qv 3) aC)))))
   (aO (ad4 hX.own (ac9 (qv 5))
    (aO (mK 2 (qv 5))
    (aO (aW8 3 (bI d_marked hr (aA (qv 5) aC)))
    (aR (bK (i:=5) nd (bI d_kindling hr (aA (qv 0) (aA (qv 4) (aA (qv 3) aC)))))))))
   (aR (oY 2))))))))
theorem ay0:FnScope ["web","seeds","told","lit","around","hearth"] ["web","seeds","told"] (aS (bB 28)):=.au
theorem bC4 (B:Bt mg)(F:FM K mg "judged_causes" 28 f fd)(d_made_set:cK P w K mg base 4 "made_set" ["web","hearths"] mY)(d_hearths_in:Df P w K mg base 1 "hearths_in" ["web"] hZ)(d_near_lists:Df P w K mg base 1 "near_lists" ["web"] lK)(d_is_right_cause:Df P w K mg base 2 "is_right_cause" ["want","neighbours","told","is_seed","cause"] rZ):Df P w K mg base 5 "judged_causes" ["web","seeds","told"] wV:=
 Df.au F ay0 (λcdv A outer s H E hr=>by
  have nd:=ay0.nd
  exact⟨(av2),(aO (bK (i:=3) nd (G6 d_made_set hr (aA (qv 0) (aA (qv 1) aC))))
   (aO (bN (uW (hU B (aA (qv 2) aC)) (bI d_hearths_in hr (aA (qv 0) aC))) (aR B5) bM)
   (aO (bK (i:=4) nd (bI d_near_lists hr (aA (qv 0) aC)))
   (aO (hV 5 nd (jO rfl B.range (bI d_hearths_in hr (aA (qv 0) aC)))
    (aR (bN (fU (eZ (bI d_is_right_cause hr (aA (bA (bA (qv 0) aJ) (qv 5)) (aA (bA (qv 4) (qv 5)) (aA (qv 2) (aA (B8 (qv 5) (qv 3)) (aA (bA (qv 2) (qv 5)) aC)))))))) (aR B5) bM)))
   (aR (bD (fA B (aA (bd2 (N:=["hearth","cause"]) (fr:=[none,none]) (ai4 rfl B.enum (qv 2)) (λ_ _ _ _=>(B1 (qv 1) jK)) (λ_ _ _ _=>(qv 0))) aC)))))))),bv9⟩)
theorem ay1:FnScope ["web","seeds","deed","chosen","told"] ["web","seeds","deed"] (aS (bB 33)):=.au
theorem bC5 (B:Bt mg)(F:FM K mg "deed_done" 33 f fd)(d_made_set:cK P w K mg base 4 "made_set" ["web","hearths"] mY)(d_told_deed:Df P w K mg base 1 "told_deed" ["deed"] pI)(d_seeds_behind:cK P w K mg base 3 "seeds_behind" ["web","seeds","deed"] vY)(d_wants_behind:cK P w K mg base 3 "wants_behind" ["web","deed"] vZ)(d_links_behind:cK P w K mg base 3 "links_behind" ["web","deed"] w4):cK P w K mg base 5 "deed_done" ["web","seeds","deed"] w5:=
 cK.au F ay1 ap1 bp3 (λcdv A outer s H E Ep hr hX=>by
  have nd:=ay1.nd
  exact (aO (bK (i:=3) nd (mW hX d_made_set hr (aA (qv 0) (aA (qv 1) aC))))
   (aO (bK (i:=4) nd (bI d_told_deed hr (aA (qv 2) aC)))
   (aO (bN (jL (iL (kJ (bA (qv 4) aJ) d9) (mJ (kJ (bA (qv 4) aJ) d9)))) (aR (bD (dB (aA (qv 0) (aA (mW hX d_seeds_behind hr (aA (qv 0) (aA (qv 3) (aA (qv 4) aC)))) aC))))) bM)
   (aO (bN (kJ (bA (qv 4) aJ) d9) (aR (bD (dB (aA (dB (aA (mW hX d_wants_behind hr (aA (qv 0) (aA (qv 4) aC))) (aA (bA (qv 0) aJ) aC))) (aA (qv 3) aC))))) bM)
   (aR (bD (dB (aA (dB (aA (bA (qv 0) aJ) (aA (mW hX d_links_behind hr (aA (qv 0) (aA (qv 4) aC))) aC))) (aA (qv 3) aC))))))))))
theorem ay2:FnScope ["web","seeds","ranks","rank","lit","hearth"] ["web","seeds"] (aS (bB 22)):=.au
theorem bC6 (B:Bt mg)(F:FM K mg "ranks_of" 22 f fd)(d_rounds:cK P w K mg base 5 "rounds" ["web","seeds"] vP):cK P w K mg base 6 "ranks_of" ["web","seeds"] pF:=
 cK.au F ay2 al4 bi2 (λcdv A outer s H E Ep hr hX=>by
  have nd:=ay2.nd;have hu:=mB hr
  exact (aO (jN (i:=2) nd ad2)
   (aO (ae7 3 4 (hp:=hX.own) nd (ai4 rfl B.enum (mW hX d_rounds hr (aA (qv 0) (aA (qv 1) aC))))
    (aR (hV 5 (hp:=hX.own) nd (fH (qv 4))
     (aR (ad5 hu (i:=2) (qv 5) (qv 3))))))
   (aR (oY 2)))))
theorem bC7:FnScope ["web","seeds"] ["web","seeds"] (aS (bB 23)):=.au
theorem bC8 (B:Bt mg)(F:FM K mg "burnt" 23 f fd)(d_ranks_of:cK P w K mg base 6 "ranks_of" ["web","seeds"] pF):cK P w K mg base 7 "burnt" ["web","seeds"] vQ:=
 cK.au F bC7 al5 bi3 (λcdv A outer s H E Ep hr hX=>by
  exact (aR (bD (fA B (aA (bf0 B rfl (aA (mW hX d_ranks_of hr (aA (qv 0) (aA (qv 1) aC))) aC)) aC)))))
theorem ay3:FnScope ["web","seeds","ranks","around"] ["web","seeds"] (aS (bB 26)):=.au
theorem bC9 (B:Bt mg)(F:FM K mg "causes" 26 f fd)(d_ranks_of:cK P w K mg base 6 "ranks_of" ["web","seeds"] pF)(d_near_lists:Df P w K mg base 1 "near_lists" ["web"] lK)(d_told_cause:Df P w K mg base 1 "told_cause" ["web","around","ranks","hearth"] rX)(d_hearths_in:Df P w K mg base 1 "hearths_in" ["web"] hZ):Df P w K mg base 7 "causes" ["web","seeds"] wU:=
 Df.au F ay3 (λcdv A outer s H E hr=>by
  have nd:=ay3.nd
  exact⟨(av1),(aO (bK (i:=2) nd (G6 d_ranks_of hr (aA (qv 0) (aA (qv 1) aC))))
   (aO (bK (i:=3) nd (bI d_near_lists hr (aA (qv 0) aC)))
   (aR (bD (rG (N:=["hearth","web","around","ranks"]) (fr:=[none,some 0,some 3,some 2]) (jO rfl B.range (bI d_hearths_in hr (aA (qv 0) aC))) (λ_ _ _ _=>(bI d_told_cause hr (aA (qv 1) (aA (qv 2) (aA (qv 3) (aA (qv 0) aC))))))))))),bv8⟩)
theorem bD0:FnScope ["self"] ["self"] (aS (bH 38 3)):=.au
theorem bD1 (B:Bt mg){CK:ax}(kc:KC K CK)(M:eS K CK "burning" f)(F:cQ K "burning" "Keeper.burning" (bH 38 3) f fd)(d_burnt:cK P w K mg base 7 "burnt" ["web","seeds"] vQ)(d_Keeper_web_now:cD P w K mg base 1 "web_now" ["self"] i9)(d_Keeper_seeds_now:cD P w K mg base 1 "seeds_now" ["self"] iV):cD P w K mg base 8 "burning" ["self"] iW:=
 cD.of kc M F bD0 (λ_ _ _ _ _ _ us hl=>by obtain⟨_,rfl⟩:=us1 hl;rfl) at2 (λst un Ep xs Q h=>by unfold iW at h;repeat (first|(obtain⟨rfl,_⟩:=h;rfl)|(obtain⟨_,h⟩:=h))) bt2 (λcdv A outer s H E Ep hr hX=>by
  exact (aR (bD (G6 d_burnt hr (aA (gG 0 dD d_Keeper_web_now hr) (aA (gG 0 dD d_Keeper_seeds_now hr) aC))))))
theorem bD2:FnScope ["self","hearth"] ["self","hearth"] (aS (bH 38 4)):=.au
theorem bD3 (B:Bt mg){CK:ax}(kc:KC K CK)(M:eS K CK "cause_of" f)(F:cQ K "cause_of" "Keeper.cause_of" (bH 38 4) f fd)(d_is_hearth:Df P w K mg base 2 "is_hearth" ["web","number"] iO)(d_Keeper_web_now:cD P w K mg base 1 "web_now" ["self"] i9)(d_causes:Df P w K mg base 7 "causes" ["web","seeds"] wU)(d_Keeper_seeds_now:cD P w K mg base 1 "seeds_now" ["self"] iV)(x_NoSuch:Xc K mg base "NoSuch"):cD P w K mg base 8 "cause_of" ["self","hearth"] lX:=
 cD.of kc M F bD2 (λ_ _ _ _ _ _ us hl=>by obtain⟨_,_,rfl⟩:=us2 hl;rfl) av3 (λst un Ep xs Q h=>by unfold lX at h;repeat (first|(obtain⟨rfl,_⟩:=h;rfl)|(obtain⟨_,h⟩:=h))) bw0 (λcdv A outer s H E Ep hr hX=>by
  exact (aO (bN (fU (eZ (bI d_is_hearth hr (aA (gG 0 dD d_Keeper_web_now hr) (aA (qv 1) aC))))) (aR (kI hX x_NoSuch (aA d9 aC))) bM)
   (aR (bD (bA (bI d_causes hr (aA (gG 0 dD d_Keeper_web_now hr) (aA (gG 0 dD d_Keeper_seeds_now hr) aC))) (qv 1))))))
theorem ay4:FnScope ["self","before","now"] ["self","before"] (aS (bH 38 9)):=.au
theorem bD4 (B:Bt mg){CK:ax}(kc:KC K CK)(M:eS K CK "changes_since" f)(F:cQ K "changes_since" "Keeper.changes_since" (bH 38 9) f fd)(d_Keeper_burning:cD P w K mg base 8 "burning" ["self"] iW)(d_without:Df P w K mg base 2 "without" ["hearths","some"] nY):cD P w K mg base 9 "changes_since" ["self","before"] lT:=
 cD.of kc M F ay4 (λ_ _ _ _ _ _ us hl=>by obtain⟨_,_,rfl⟩:=us2 hl;rfl) at3 (λst un Ep xs Q h=>by unfold lT at h;repeat (first|(obtain⟨rfl,_⟩:=h;rfl)|(obtain⟨_,h⟩:=h))) bt3 (λcdv A outer s H E Ep hr hX=>by
  have nd:=ay4.nd
  exact (aO (bK (i:=2) nd (gG 0 dD d_Keeper_burning hr))
   (aR (bD (dB (aA (bI d_without hr (aA (qv 2) (aA (qv 1) aC))) (aA (bI d_without hr (aA (qv 1) (aA (qv 2) aC))) aC)))))))
theorem ay5:FnScope ["keeper","hearth","caught","e"] ["keeper","hearth"] (aS (bB 48)):=.au
theorem bD5 (B:Bt mg)(F:cQ K "_law_refused" "_law_refused" (bB 48) f fd)(m:mg "_law_refused" = some (.ref f))(d_Keeper_cause_of:cD P w K mg base 8 "cause_of" ["self","hearth"] lX)(cat_HearthError:sA K mg "HearthError")(is_BadDeed:sB K mg "BadDeed")(is_NoSuch:sB K mg "NoSuch")(is_ValueError:G9 K mg):t5 P w K mg base 9 "_law_refused" ["keeper","hearth"] pS:=
 ⟨f,fd,au5 F ay5 av5 (λst un Ep xs Q h=>by unfold pS at h;repeat (first|(obtain⟨rfl,_⟩:=h;rfl)|(obtain⟨_,h⟩:=h))) bw2 (λcdv A outer s H E Ep hr hX=>by
  have nd:=ay5.nd
  exact (aO (bK (i:=2) nd jK)
   (aO (bh4 3 cat_HearthError nd (bv1 0 d_Keeper_cause_of hr (λ_=>(aA (qv 1) aC))) (λ_=>(aR (bK (i:=2) nd (qv 3)))))
   (aO (bN (jL (iL (fU (eZ (ak9 B is_NoSuch (qv 2)))) (mJ (fU (eZ (bh8 B is_ValueError (qv 2))))))) (aR (bD gE)) bM)
   (aR (bD (ad0 (ak9 B is_BadDeed (qv 2))))))))),F.binds (λ_ _ _ _ _ _ us hl=>by obtain⟨_,_,rfl⟩:=us2 hl;rfl),F.kp,m⟩
theorem ay6:FnScope ["keeper","hearths","web","told_rounds","hearth"] ["keeper","hearths"] (aS (bB 51)):=.au
theorem bD6 (B:Bt mg)(F:cQ K "_law_all_good" "_law_all_good" (bB 51) f fd)(m:mg "_law_all_good" = some (.ref f))(d_Keeper_web_now:cD P w K mg base 1 "web_now" ["self"] i9)(d__law_rounds:Df P w K mg base 2 "_law_rounds" ["web","seeds"] wQ)(d_Keeper_seeds_now:cD P w K mg base 1 "seeds_now" ["self"] iV)(d__law_cause_is:Df P w K mg base 2 "_law_cause_is" ["found","due"] wX)(d_Keeper_cause_of:cD P w K mg base 8 "cause_of" ["self","hearth"] lX)(d__law_cause:Df P w K mg base 2 "_law_cause" ["web","told_rounds","hearth"] wW):t5 P w K mg base 9 "_law_all_good" ["keeper","hearths"] pT:=
 ⟨f,fd,au5 F ay6 aw0 (λst un Ep xs Q h=>by unfold pT at h;repeat (first|(obtain⟨rfl,_⟩:=h;rfl)|(obtain⟨_,h⟩:=h))) bx1 (λcdv A outer s H E Ep hr hX=>by
  have nd:=ay6.nd
  exact (aO (bK (i:=2) nd (gG 0 dD d_Keeper_web_now hr))
   (aO (bK (i:=3) nd (bI d__law_rounds hr (aA (qv 2) (aA (gG 0 dD d_Keeper_seeds_now hr) aC))))
   (aO (hV 4 (hp:=hX.own) nd (fH (qv 1))
    (aR (bN (fU (eZ (bI d__law_cause_is hr (aA (sL 0 dD d_Keeper_cause_of hr (aA (qv 4) aC)) (aA (bI d__law_cause hr (aA (qv 2) (aA (qv 3) (aA (qv 4) aC)))) aC))))) (aR (bD gE)) bM)))
   (aR (bD gE)))))),F.binds (λ_ _ _ _ _ _ us hl=>by obtain⟨_,_,rfl⟩:=us2 hl;rfl),F.kp,m⟩
theorem ay7:FnScope ["self","deed","behind","before"] ["self","deed"] (aS (bH 38 6)):=.au
theorem bD7 (B:Bt mg){CK:ax}(kc:KC K CK)(M:eS K CK "do" f)(F:cQ K "do" "Keeper.do" (bH 38 6) f fd)(d_deed_done:cK P w K mg base 5 "deed_done" ["web","seeds","deed"] w5)(d_Keeper_web_now:cD P w K mg base 1 "web_now" ["self"] i9)(d_Keeper_seeds_now:cD P w K mg base 1 "seeds_now" ["self"] iV)(d_Keeper_burning:cD P w K mg base 8 "burning" ["self"] iW)(d_told_deed:Df P w K mg base 1 "told_deed" ["deed"] pI)(d_Keeper_changes_since:cD P w K mg base 9 "changes_since" ["self","before"] lT):mZ P w K mg base 10 "do" ["self","deed"] sW:=
 ⟨CK,f,fd,kc,M,wK F ay7 at5 (λst un Ep xs Q h=>by unfold sW at h;repeat (first|(obtain⟨rfl,_⟩:=h;rfl)|(obtain⟨_,h⟩:=h))) bt4 (λcdv A outer s H E Ep hr hX=>by
  have nd:=ay7.nd
  exact (o7 (bK (i:=2) nd (mW hX d_deed_done hr (aA (gG 0 dD d_Keeper_web_now hr) (aA (gG 0 dD d_Keeper_seeds_now hr) (aA (qv 1) aC)))))
   (o7 (bK (i:=3) nd (gG 0 dD d_Keeper_burning hr))
   (wJ (sO (bq7 kc 0 (λ_=>(dB (aA (bI d_told_deed hr (aA (qv 1) aC)) (aA (bA (qv 2) aJ) (aA (bA (qv 2) aJ) aC))))))
   (sO (bq9 kc 0)
   (sQ (wH 0 (λ_=>(sL 0 dD d_Keeper_changes_since hr (aA (qv 3) aC))))))))))),F.binds (λ_ _ _ _ _ _ us hl=>by obtain⟨_,_,rfl⟩:=us2 hl;rfl)⟩
theorem ay8:FnScope ["self","before"] ["self"] (aS (bH 38 7)):=.au
theorem bD8 (B:Bt mg){CK:ax}(kc:KC K CK)(M:eS K CK "back" f)(F:cQ K "back" "Keeper.back" (bH 38 7) f fd)(d_Keeper_burning:cD P w K mg base 8 "burning" ["self"] iW)(d_Keeper_changes_since:cD P w K mg base 9 "changes_since" ["self","before"] lT)(x_NoSuch:Xc K mg base "NoSuch"):mZ P w K mg base 10 "back" ["self"] sX:=
 ⟨CK,f,fd,kc,M,wK F ay8 at8 (λst un Ep xs Q h=>by unfold sX at h;repeat (first|(obtain⟨rfl,_⟩:=h;rfl)|(obtain⟨_,h⟩:=h))) bt5 (λcdv A outer s H E Ep hr hX=>by
  have nd:=ay8.nd
  exact (o7 (bN (nW (bq3 B kc 0) aJ) (aR (kI hX x_NoSuch (aA d9 aC))) bM)
   (o7 (bK (i:=1) nd (gG 0 dD d_Keeper_burning hr))
   (wJ (sO (bt7 kc 0)
   (sQ (wH 0 (λ_=>(sL 0 dD d_Keeper_changes_since hr (aA (qv 1) aC)))))))))),F.binds (λ_ _ _ _ _ _ us hl=>by obtain⟨_,rfl⟩:=us1 hl;rfl)⟩
theorem ay9:FnScope ["self","before"] ["self"] (aS (bH 38 8)):=.au
theorem bD9 (B:Bt mg){CK:ax}(kc:KC K CK)(M:eS K CK "again" f)(F:cQ K "again" "Keeper.again" (bH 38 8) f fd)(d_Keeper_burning:cD P w K mg base 8 "burning" ["self"] iW)(d_Keeper_changes_since:cD P w K mg base 9 "changes_since" ["self","before"] lT)(x_NoSuch:Xc K mg base "NoSuch"):mZ P w K mg base 10 "again" ["self"] sY:=
 ⟨CK,f,fd,kc,M,wK F ay9 at9 (λst un Ep xs Q h=>by unfold sY at h;repeat (first|(obtain⟨rfl,_⟩:=h;rfl)|(obtain⟨_,h⟩:=h))) bt6 (λcdv A outer s H E Ep hr hX=>by
  have nd:=ay9.nd
  exact (o7 (bN (fU (bq4 kc 0)) (aR (kI hX x_NoSuch (aA d9 aC))) bM)
   (o7 (bK (i:=1) nd (gG 0 dD d_Keeper_burning hr))
   (wJ (sO (bt8 kc 0)
   (sQ (wH 0 (λ_=>(sL 0 dD d_Keeper_changes_since hr (aA (qv 1) aC)))))))))),F.binds (λ_ _ _ _ _ _ us hl=>by obtain⟨_,rfl⟩:=us1 hl;rfl)⟩
theorem az0:FnScope ["keeper","cell","many","done"] ["keeper","cell","many"] (aS (bB 47)):=.au
theorem bE0 (B:Bt mg)(F:cQ K "_law_thing_done" "_law_thing_done" (bB 47) f fd)(m:mg "_law_thing_done" = some (.ref f))(d_Keeper_back:mZ P w K mg base 10 "back" ["self"] sX)(d_Keeper_again:mZ P w K mg base 10 "again" ["self"] sY)(d_Keeper_do:mZ P w K mg base 10 "do" ["self","deed"] sW)(d__law_deed:Df P w K mg base 1 "_law_deed" ["cell","many"] w6)(cat_HearthError:sA K mg "HearthError"):L4 P w K mg base 11 "_law_thing_done" ["keeper","cell","many"] t6:=
 ⟨f,fd,wK F az0 av4 (λst un Ep xs Q h=>by unfold t6 at h;repeat (first|(obtain⟨rfl,_⟩:=h;rfl)|(obtain⟨_,h⟩:=h))) bw1 (λcdv A outer s H E Ep hr hX=>by
  have nd:=az0.nd
  exact (o7 (bK (i:=3) nd gE)
   (wJ (sO (bs1 cat_HearthError (as2 (λ_ _=>(ac7 (dI (qv 1) aJ) aJ)) (as1 0 d_Keeper_back hr) (as2 (λ_ _=>(j7 (dI (qv 1) aJ) aJ)) (as1 0 d_Keeper_again hr) (br9 0 d_Keeper_do hr (λ_ _=>(aA (bI d__law_deed hr (aA (gZ (qv 1) aJ) (aA (qv 2) aC))) aC))))) (λ_=>(sQ (br2 0 (j:=3) nd (λ_=>gE)))))
   (sQ (wH 0 (λ_=>(qv 3)))))))),F.binds (λ_ _ _ _ _ _ us hl=>by obtain⟨_,_,_,rfl⟩:=vO hl;rfl),F.kp,m⟩
theorem az1:FnScope ["script","many","keeper","cell","found","burning","far"] ["script"] (aS (bB 52)):=.au
theorem bE1 (B:Bt mg)(F:cQ K "law" "law" (bB 52) f fd)(d__law_cell:Df P w K mg base 1 "_law_cell" ["script","k"] jT)(d_Keeper___init__:M7 P w K mg base 1)(d__law_web:Df P w K mg base 3 "_law_web" ["script","at","many"] wM)(d__law_thing_done:L4 P w K mg base 11 "_law_thing_done" ["keeper","cell","many"] t6)(d__law_all_good:t5 P w K mg base 9 "_law_all_good" ["keeper","hearths"] pT)(d_Keeper_cause_of:cD P w K mg base 8 "cause_of" ["self","hearth"] lX)(d_judged_causes:Df P w K mg base 5 "judged_causes" ["web","seeds","told"] wV)(d_Keeper_web_now:cD P w K mg base 1 "web_now" ["self"] i9)(d_Keeper_seeds_now:cD P w K mg base 1 "seeds_now" ["self"] iV)(d_Keeper_burning:cD P w K mg base 8 "burning" ["self"] iW)(d__law_refused:t5 P w K mg base 9 "_law_refused" ["keeper","hearth"] pS):bU P w K mg base fF 12 f fd ["script"] (qX K N8):=
 bb5 F az1 (λxs Q h=>by unfold N8 at h;repeat (first|(obtain⟨rfl,_⟩:=h;rfl)|(obtain⟨_,h⟩:=h))) (λcdv A outer s H E hr=>by
  have nd:=az1.nd;have hu3:=t7 hr
  exact⟨(aw3),(aO (bK (i:=1) nd (gY aJ (dI (bI d__law_cell hr (aA (qv 0) (aA aJ aC))) aJ)))
   (aO (bs5 2 d_Keeper___init__ hr nd (bI d__law_web hr (aA (qv 0) (aA aJ (aA (qv 1) aC)))))
   (aO (hV 3 nd (fH (lH (qv 0) lF (lG aJ)))
    (aO (bv0 2 d__law_thing_done hr (aA (qv 3) (aA (qv 1) aC)))
    (aR (bN (fU (eZ (N3 2 dD d__law_all_good hr (aA (hJ (aA (dI (gZ (qv 3) aJ) (qv 1)) aC)) aC)))) (aR (bD gE)) bM))))
   (aO (bN (fU (eZ (N3 2 dD d__law_all_good hr (aA (ba2 B (qv 1)) aC)))) (aR (bD gE)) bM)
   (aO (bK (i:=4) nd (rG (N:=["hearth","keeper"]) (fr:=[none,some 2]) (jO rfl B.range (qv 1)) (λ_ _ _ _=>(sL 1 dD d_Keeper_cause_of hr (aA (qv 0) aC)))))
   (aO (aW5 (i:=5) nd (N:=["hearth","found"]) (fr:=[none,some 4]) (jO rfl B.range (qv 1)) (λ_ _ _ _=>(B1 (bA (qv 1) (qv 0)) jK)) (λ_ _ _ _=>(qv 0)))
   (aO (bN (ae6 hu3 (bI d_judged_causes hr (aA (gG 2 dD d_Keeper_web_now hr) (aA (gG 2 dD d_Keeper_seeds_now hr) (aA (qv 4) aC)))) (fA B (aA (qv 5) aC))) (aR (bD gE)) bM)
   (aO (bN (ae6 hu3 (gG 2 dD d_Keeper_burning hr) (fA B (aA (qv 5) aC))) (aR (bD gE)) bM)
   (aO (bK (i:=6) nd (dI (gZ (bI d__law_cell hr (aA (qv 0) (aA aJ aC))) aJ) (ac5 aJ aJ)))
   (aR (bD (N3 2 dD d__law_refused hr (aA (bA (hJ (aA (uV (uX aJ) (qv 6)) (aA (qv 1) (aA (gY (qv 1) (qv 6)) aC)))) (dI (bI d__law_cell hr (aA (qv 0) (aA aJ aC))) aJ)) aC))))))))))))),bx6⟩)
end
set_option autoImplicit true in
theorem bE2 {l:OpenLaw}{w:ba}{K:Frag}{h:Heap}{mg:Str->Option av}(X:K.In h)(G:h.Ns mainGlobals mg)(hfa:mg "law" = some (.ref fa))(h0:FK K "rises" 9 f0 d0)(h1:FK K "hearths_in" 10 f1 d1)(h2:FK K "near_lists" 11 f2 d2)(h3:FK K "marked" 15 f3 d3)(h4:FK K "count_inside" 16 f4 d4)(h5:FK K "told_cause" 27 f5 d5)(h6:FK K "is_earlier" 30 f6 d6)(h7:FK K "told_deed" 34 f7 d7){CK:ax}(aK:nsIn K mainGlobals "Keeper" = some (some (.ref CK)))(yK1:plainGet K CK Str.empty=true)(yK2:hasDictIn K CK=true)(yK3:plainOver K CK=true)(yK4:findIn K (.ref CK) "__setattr__" = some (some (.builtin "object.__setattr__")))(yK5:findIn K (.ref CK) "standing" = some none)(yK6:findIn K (.ref CK) "undone" = some none)(yK7:makesIn K CK=true)(yK8:keepIn K (.ref CK)=true)(a8:findIn K (.ref CK) "web_now" = some (some (.ref f8)))(n8:isFn K (.ref f8)=true)(l8:K.lookup f8=some ⟨oc8,od8,.func (fnOf "web_now" "Keeper.web_now" (eV (bH 38 1)) (cU (bH 38 1)) (aS (bH 38 1)) .none kV8 dc8 pm8 an8 cd8 ct8),sl8⟩)(c8:codeIn K cd8 "Keeper.web_now" = true)(k8:keepIn K (.ref f8)=true)(a9:findIn K (.ref CK) "seeds_now" = some (some (.ref f9)))(n9:isFn K (.ref f9)=true)(l9:K.lookup f9=some ⟨oc9,od9,.func (fnOf "seeds_now" "Keeper.seeds_now" (eV (bH 38 2)) (cU (bH 38 2)) (aS (bH 38 2)) .none kV9 dc9 pm9 an9 cd9 ct9),sl9⟩)(c9:codeIn K cd9 "Keeper.seeds_now" = true)(k9:keepIn K (.ref f9)=true)(h10:FK K "_law_cell" 40 f10 d10)(h11:FK K "_law_whole" 42 f11 d11)(h12:FK K "_law_beside" 44 f12 d12)(h13:FK K "_law_deed" 46 f13 d13)(h14:FK K "is_hearth" 12 f14 d14)(h15:FK K "without" 17 f15 d15)(h16:FK K "can_kindle" 21 f16 d16)(h17:FK K "is_right_cause" 29 f17 d17)(a18:findIn K (.ref CK) "__init__" = some (some (.ref f18)))(n18:isFn K (.ref f18)=true)(l18:K.lookup f18=some ⟨oc18,od18,.func (fnOf "__init__" "Keeper.__init__" (eV (bH 38 0)) (cU (bH 38 0)) (aS (bH 38 0)) .none kV18 dc18 pm18 an18 cd18 ct18),sl18⟩)(c18:codeIn K cd18 "Keeper.__init__" = true)(k18:keepIn K (.ref f18)=true)(h19:FK K "_law_number" 41 f19 d19)(h20:FK K "_law_rounds" 45 f20 d20)(h21:FK K "_law_cause" 49 f21 d21)(h22:FK K "_law_cause_is" 50 f22 d22)(h23:FK K "is_set" 13 f23 d23)(h24:FK K "kindling" 20 f24 d24)(h25:FK K "seeds_behind" 35 f25 d25)(h26:FK K "wants_behind" 36 f26 d26)(h27:FK K "links_behind" 37 f27 d27)(h28:FK K "_law_web" 43 f28 d28)(h29:FK K "made_set" 14 f29 d29)(h30:FK K "rounds" 19 f30 d30)(h31:FK K "judged_causes" 28 f31 d31)(h32:FK K "deed_done" 33 f32 d32)(h33:FK K "ranks_of" 22 f33 d33)(h34:FK K "burnt" 23 f34 d34)(h35:FK K "causes" 26 f35 d35)(a36:findIn K (.ref CK) "burning" = some (some (.ref f36)))(n36:isFn K (.ref f36)=true)(l36:K.lookup f36=some ⟨oc36,od36,.func (fnOf "burning" "Keeper.burning" (eV (bH 38 3)) (cU (bH 38 3)) (aS (bH 38 3)) .none kV36 dc36 pm36 an36 cd36 ct36),sl36⟩)(c36:codeIn K cd36 "Keeper.burning" = true)(k36:keepIn K (.ref f36)=true)(a37:findIn K (.ref CK) "cause_of" = some (some (.ref f37)))(n37:isFn K (.ref f37)=true)(l37:K.lookup f37=some ⟨oc37,od37,.func (fnOf "cause_of" "Keeper.cause_of" (eV (bH 38 4)) (cU (bH 38 4)) (aS (bH 38 4)) .none kV37 dc37 pm37 an37 cd37 ct37),sl37⟩)(c37:codeIn K cd37 "Keeper.cause_of" = true)(k37:keepIn K (.ref f37)=true)(a38:findIn K (.ref CK) "changes_since" = some (some (.ref f38)))(n38:isFn K (.ref f38)=true)(l38:K.lookup f38=some ⟨oc38,od38,.func (fnOf "changes_since" "Keeper.changes_since" (eV (bH 38 9)) (cU (bH 38 9)) (aS (bH 38 9)) .none kV38 dc38 pm38 an38 cd38 ct38),sl38⟩)(c38:codeIn K cd38 "Keeper.changes_since" = true)(k38:keepIn K (.ref f38)=true)(h39:FK K "_law_refused" 48 f39 d39)(h40:FK K "_law_all_good" 51 f40 d40)(a41:findIn K (.ref CK) "do" = some (some (.ref f41)))(n41:isFn K (.ref f41)=true)(l41:K.lookup f41=some ⟨oc41,od41,.func (fnOf "do" "Keeper.do" (eV (bH 38 6)) (cU (bH 38 6)) (aS (bH 38 6)) .none kV41 dc41 pm41 an41 cd41 ct41),sl41⟩)(c41:codeIn K cd41 "Keeper.do" = true)(k41:keepIn K (.ref f41)=true)(a42:findIn K (.ref CK) "back" = some (some (.ref f42)))(n42:isFn K (.ref f42)=true)(l42:K.lookup f42=some ⟨oc42,od42,.func (fnOf "back" "Keeper.back" (eV (bH 38 7)) (cU (bH 38 7)) (aS (bH 38 7)) .none kV42 dc42 pm42 an42 cd42 ct42),sl42⟩)(c42:codeIn K cd42 "Keeper.back" = true)(k42:keepIn K (.ref f42)=true)(a43:findIn K (.ref CK) "again" = some (some (.ref f43)))(n43:isFn K (.ref f43)=true)(l43:K.lookup f43=some ⟨oc43,od43,.func (fnOf "again" "Keeper.again" (eV (bH 38 8)) (cU (bH 38 8)) (aS (bH 38 8)) .none kV43 dc43 pm43 an43 cd43 ct43),sl43⟩)(c43:codeIn K cd43 "Keeper.again" = true)(k43:keepIn K (.ref f43)=true)(h44:FK K "_law_thing_done" 47 f44 d44)(a45:nsIn K mainGlobals "law" = some (some (.ref f45)))(l45:K.lookup f45=some ⟨oc45,od45,.func (fnOf "law" "law" (eV (bB 52)) (cU (bB 52)) (aS (bB 52)) .none kV45 dc45 pm45 an45 cd45 ct45),sl45⟩)(c45:codeIn K cd45 "law" = true)(k45:keepIn K (.ref f45)=true)(z_len:nsIn K mainGlobals "len" = some none)(z_range:nsIn K mainGlobals "range" = some none)(z_tuple:nsIn K mainGlobals "tuple" = some none)(z_list:nsIn K mainGlobals "list" = some none)(z_sorted:nsIn K mainGlobals "sorted" = some none)(z_all:nsIn K mainGlobals "all" = some none)(z_any:nsIn K mainGlobals "any" = some none)(z_zip:nsIn K mainGlobals "zip" = some none)(z_min:nsIn K mainGlobals "min" = some none)(z_max:nsIn K mainGlobals "max" = some none)(z_sum:nsIn K mainGlobals "sum" = some none)(z_isinstance:nsIn K mainGlobals "isinstance" = some none)(z_int:nsIn K mainGlobals "int" = some none)(z_bool:nsIn K mainGlobals "bool" = some none)(z_enumerate:nsIn K mainGlobals "enumerate" = some none){cA cB:ax}{odA odB:Option ax}{slA slB:Array (Option av)}{nA nB tA:Nat}(zc:nsIn K mainGlobals "CAUSE_OF_SEED" = some (some (.ref cA)))(lcA:K.lookup cA=some ⟨.type "tuple",odA,.seq #[.int 0 tA,.ref cB] nA,slA⟩)(lcB:K.lookup cB=some ⟨.type "tuple",odB,.seq #[] nB,slB⟩){kA:ax}{epK:Nat}{hK0 hK1 hK2 hK3 hK4:Int}{tK0 uK0 tK1 uK1 tK2 uK2 tK3 uK3 tK4 uK4:Tok}(zk:nsIn K mainGlobals "DEED_NUMBERS" = some (some (.ref kA)))(lkd:K.lookup kA=some ⟨.type "dict",none,.dict #[⟨hK0,.str "light" tK0,.int 1 uK0⟩,⟨hK1,.str "douse" tK1,.int 1 uK1⟩,⟨hK2,.str "want" tK2,.int 2 uK2⟩,⟨hK3,.str "link" tK3,.int 2 uK3⟩,⟨hK4,.str "cut" tK4,.int 2 uK4⟩] epK,#[]⟩)(skd:(kA==sysModules)=false)(hkd0:hK0=hashStr w "light")(hkd1:hK1=hashStr w "douse")(hkd2:hK2=hashStr w "want")(hkd3:hK3=hashStr w "link")(hkd4:hK4=hashStr w "cut"){u_MOST_WANTED:Nat}(z_MOST_WANTEDx:nsIn K mainGlobals "MOST_WANTED" = some (some (.int 60 u_MOST_WANTED))){C_HearthError C_BadSet C_BadDeed C_NoPaper C_NoSuch:ax}(aX_HE:nsIn K mainGlobals "HearthError" = some (some (.ref C_HearthError)))(aX_BS:nsIn K mainGlobals "BadSet" = some (some (.ref C_BadSet)))(aX_BD:nsIn K mainGlobals "BadDeed" = some (some (.ref C_BadDeed)))(aX_NP:nsIn K mainGlobals "NoPaper" = some (some (.ref C_NoPaper)))(aX_NS:nsIn K mainGlobals "NoSuch" = some (some (.ref C_NoSuch)))(zX_BW:nsIn K mainGlobals "BadWeb" = some none)(zX_BO:nsIn K mainGlobals "BadOrder" = some none)(zX_BP:nsIn K mainGlobals "BadPrices" = some none)(zX_BB:nsIn K mainGlobals "BadBoard" = some none)(zX_NW:nsIn K mainGlobals "NotWood" = some none)(zX_TM:nsIn K mainGlobals "TooMany" = some none)(zX_NT:nsIn K mainGlobals "NoText" = some none)(zX_OR:nsIn K mainGlobals "OddRound" = some none)(y_fg:specialIn K (.builtin "object.__class__") "__get__" = some (some (.builtin "getset_descriptor.__get__")))(y_ft:takesIn K (.builtin "object.__class__")=some true)(z_VE:nsIn K mainGlobals "ValueError" = some none)(y1_HE:isClsIn K C_HearthError=true)(y2_HE:typeIn K (.ref C_HearthError)=some (.type "type"))(y3_HE:findIn K (.ref C_HearthError) "__getattribute__" = some (some (.builtin "BaseException.__getattribute__")))(y4_HE:findIn K (.ref C_HearthError) "__getattr__" = some none)(y5_HE:findIn K (.ref C_HearthError) "__class__" = some (some (.builtin "object.__class__")))(y6_HE:mroIn K C_HearthError (.type "object")=some true)(y7_HE:mroIn K C_HearthError (.type "BaseException")=some true)(y1_BS:isClsIn K C_BadSet=true)(y2_BS:typeIn K (.ref C_BadSet)=some (.type "type"))(y3_BS:findIn K (.ref C_BadSet) "__getattribute__" = some (some (.builtin "BaseException.__getattribute__")))(y4_BS:findIn K (.ref C_BadSet) "__getattr__" = some none)(y5_BS:findIn K (.ref C_BadSet) "__class__" = some (some (.builtin "object.__class__")))(y6_BS:mroIn K C_BadSet (.type "object")=some true)(y7_BS:mroIn K C_BadSet (.type "BaseException")=some true)(y1_BD:isClsIn K C_BadDeed=true)(y2_BD:typeIn K (.ref C_BadDeed)=some (.type "type"))(y3_BD:findIn K (.ref C_BadDeed) "__getattribute__" = some (some (.builtin "BaseException.__getattribute__")))(y4_BD:findIn K (.ref C_BadDeed) "__getattr__" = some none)(y5_BD:findIn K (.ref C_BadDeed) "__class__" = some (some (.builtin "object.__class__")))(y6_BD:mroIn K C_BadDeed (.type "object")=some true)(y7_BD:mroIn K C_BadDeed (.type "BaseException")=some true)(y1_NP:isClsIn K C_NoPaper=true)(y2_NP:typeIn K (.ref C_NoPaper)=some (.type "type"))(y3_NP:findIn K (.ref C_NoPaper) "__getattribute__" = some (some (.builtin "BaseException.__getattribute__")))(y4_NP:findIn K (.ref C_NoPaper) "__getattr__" = some none)(y5_NP:findIn K (.ref C_NoPaper) "__class__" = some (some (.builtin "object.__class__")))(y6_NP:mroIn K C_NoPaper (.type "object")=some true)(y7_NP:mroIn K C_NoPaper (.type "BaseException")=some true)(y1_NS:isClsIn K C_NoSuch=true)(y2_NS:typeIn K (.ref C_NoSuch)=some (.type "type"))(y3_NS:findIn K (.ref C_NoSuch) "__getattribute__" = some (some (.builtin "BaseException.__getattribute__")))(y4_NS:findIn K (.ref C_NoSuch) "__getattr__" = some none)(y5_NS:findIn K (.ref C_NoSuch) "__class__" = some (some (.builtin "object.__class__")))(y6_NS:mroIn K C_NoSuch (.type "object")=some true)(y7_NS:mroIn K C_NoSuch (.type "BaseException")=some true)(sB_HE:subIn K (.ref C_HearthError) (.type "BaseException")=some true)(s_BS_HE:subIn K (.ref C_BadSet) (.ref C_HearthError)=some true)(s_BD_HE:subIn K (.ref C_BadDeed) (.ref C_HearthError)=some true)(s_NP_HE:subIn K (.ref C_NoPaper) (.ref C_HearthError)=some true)(s_NS_HE:subIn K (.ref C_NoSuch) (.ref C_HearthError)=some true)(sN_BD:subIn K (.type "NoneType") (.ref C_BadDeed)=some false)(s_BS_BD:subIn K (.ref C_BadSet) (.ref C_BadDeed)=some false)(n_BS_BD:(C_BadSet==C_BadDeed)=false)(s_NP_BD:subIn K (.ref C_NoPaper) (.ref C_BadDeed)=some false)(n_NP_BD:(C_NoPaper==C_BadDeed)=false)(s_NS_BD:subIn K (.ref C_NoSuch) (.ref C_BadDeed)=some false)(n_NS_BD:(C_NoSuch==C_BadDeed)=false)(sN_NS:subIn K (.type "NoneType") (.ref C_NoSuch)=some false)(s_BS_NS:subIn K (.ref C_BadSet) (.ref C_NoSuch)=some false)(n_BS_NS:(C_BadSet==C_NoSuch)=false)(s_BD_NS:subIn K (.ref C_BadDeed) (.ref C_NoSuch)=some false)(n_BD_NS:(C_BadDeed==C_NoSuch)=false)(s_NP_NS:subIn K (.ref C_NoPaper) (.ref C_NoSuch)=some false)(n_NP_NS:(C_NoPaper==C_NoSuch)=false)(sV_BS:subIn K (.ref C_BadSet) (.type "ValueError")=some true)(sV_BD:subIn K (.ref C_BadDeed) (.type "ValueError")=some true)(sV_NP:subIn K (.ref C_NoPaper) (.type "ValueError")=some true)(sV_NS:subIn K (.ref C_NoSuch) (.type "ValueError")=some true)(q_BD:excIn K C_BadDeed [.type "ValueError",.type "Exception",.type "BaseException",.type "object"] "ValueError.__new__" = true)(q_BS:excIn K C_BadSet [.type "ValueError",.type "Exception",.type "BaseException",.type "object"] "ValueError.__new__" = true)(q_NS:excIn K C_NoSuch [.type "ValueError",.type "Exception",.type "BaseException",.type "object"] "ValueError.__new__" = true)
 :∃fd:FuncData,(∀(s:aw) (v:av),BindsTo s fd ⟨[v],[]⟩ [("script",v)])/\∀base:Heap,K.In base->base.Ns mainGlobals mg->bU l.prog w K mg base fF 12 fa fd ["script"] (vF K):=by
 have e:=hfa.symm.trans (mg_of X G a45);cases e;have F8:=k6 (st:=bH 38 1) l8 c8 k8;have F9:=k6 (st:=bH 38 2) l9 c9 k9;have F18:=k6 (st:=bH 38 0) l18 c18 k18;have F36:=k6 (st:=bH 38 3) l36 c36 k36;have F37:=k6 (st:=bH 38 4) l37 c37 k37;have F38:=k6 (st:=bH 38 9) l38 c38 k38;have F41:=k6 (st:=bH 38 6) l41 c41 k41;have F42:=k6 (st:=bH 38 7) l42 c42 k42;have F43:=k6 (st:=bH 38 8) l43 c43 k43;have F45:=k6 (st:=bB 52) l45 c45 k45;have m45:=mg_of X G a45;have kc:KC K CK:=⟨aK,⟨yK1,yK2,yK3,yK4⟩,yK5,yK6⟩;have B:Bt mg:=⟨mg_none_of X G z_len,mg_none_of X G z_range,mg_none_of X G z_tuple,mg_none_of X G z_list,mg_none_of X G z_sorted,mg_none_of X G z_all,mg_none_of X G z_any,mg_none_of X G z_zip,mg_none_of X G z_min,mg_none_of X G z_max,mg_none_of X G z_sum,mg_none_of X G z_isinstance,mg_none_of X G z_int,mg_none_of X G z_bool,mg_none_of X G z_enumerate⟩
 have kd_DEED_NUMBERS:KD l.prog w K mg "DEED_NUMBERS" (pH vX):=bn5 (mg_of X G zk) lkd ⟨rfl,rfl,rfl⟩ rfl skd (by
  subst hkd0 hkd1 hkd2 hkd3 hkd4
  exact bp5)
 have m_MOST_WANTED:=mg_of X G z_MOST_WANTEDx;have cs:vJ K mg:=⟨cA,cB,mg_of X G zc,⟨_,_,_,lcA,rfl,rfl,(by show 2<=sizeLine;decide),.cons ⟨_,rfl⟩ (.cons rfl .nil)⟩,⟨_,_,_,lcB,rfl,rfl,bI2 _,.nil⟩⟩;refine⟨fnOf "law" "law" (eV (bB 52)) (cU (bB 52)) (aS (bB 52)) .none kV45 dc45 pm45 an45 cd45 ct45,λs v=>.of_eq rfl,λbase KB _=>?_⟩;have XK_HearthError:lP K C_HearthError:=⟨y1_HE,y2_HE,y3_HE,y4_HE,y5_HE,y_fg,y_ft,y6_HE,y7_HE⟩;have XK_BadSet:lP K C_BadSet:=⟨y1_BS,y2_BS,y3_BS,y4_BS,y5_BS,y_fg,y_ft,y6_BS,y7_BS⟩;have XK_BadDeed:lP K C_BadDeed:=⟨y1_BD,y2_BD,y3_BD,y4_BD,y5_BD,y_fg,y_ft,y6_BD,y7_BD⟩;have XK_NoPaper:lP K C_NoPaper:=⟨y1_NP,y2_NP,y3_NP,y4_NP,y5_NP,y_fg,y_ft,y6_NP,y7_NP⟩;have XK_NoSuch:lP K C_NoSuch:=⟨y1_NS,y2_NS,y3_NS,y4_NS,y5_NS,y_fg,y_ft,y6_NS,y7_NS⟩
 have cat_HearthError:sA K mg "HearthError":=⟨C_HearthError,mg_of X G aX_HE,⟨y1_HE,y2_HE,sB_HE⟩,λn C h2 h1=>by
  obtain⟨hm,hb⟩:=vM h2
  simp only[pC,bG0,bH0,bL4]at hm;rcases hm with rfl|rfl|rfl|rfl|rfl|rfl|rfl|rfl|rfl|rfl|rfl|rfl
  ·rw[zX_BW]at h1;cases h1
  ·rw[aX_BS]at h1;cases h1;exact s_BS_HE
  ·rw[zX_BO]at h1;cases h1
  ·rw[zX_BP]at h1;cases h1
  ·rw[zX_BB]at h1;cases h1
  ·rw[aX_BD]at h1;cases h1;exact s_BD_HE
  ·rw[zX_NW]at h1;cases h1
  ·rw[aX_NP]at h1;cases h1;exact s_NP_HE
  ·rw[aX_NS]at h1;cases h1;exact s_NS_HE
  ·rw[zX_TM]at h1;cases h1
  ·rw[zX_NT]at h1;cases h1
  ·rw[zX_OR]at h1;cases h1⟩
 have is_BadDeed:sB K mg "BadDeed":=⟨C_BadDeed,mg_of X G aX_BD,λz=>(by cases z),(λn C b h1 h2=>by
  obtain⟨hm,hb⟩:=vM h2
  simp only[pC,bG0,bH0,bL4]at hm;rcases hm with rfl|rfl|rfl|rfl|rfl|rfl|rfl|rfl|rfl|rfl|rfl|rfl
  ·rw[zX_BW]at h1;cases h1
  ·rw[aX_BS]at h1;cases h1;rw[hb,show (("BadSet":Str)=="BadDeed"||("BadDeed":Str)=="HearthError"||("BadDeed":Str)=="ValueError")=false by decide];exact⟨XK_BadSet.exc,pE XK_BadDeed n_BS_BD s_BS_BD⟩
  ·rw[zX_BO]at h1;cases h1
  ·rw[zX_BP]at h1;cases h1
  ·rw[zX_BB]at h1;cases h1
  ·rw[aX_BD]at h1;cases h1;rw[hb,show (("BadDeed":Str)=="BadDeed"||("BadDeed":Str)=="HearthError"||("BadDeed":Str)=="ValueError")=true by decide];exact⟨XK_BadDeed.exc,al0⟩
  ·rw[zX_NW]at h1;cases h1
  ·rw[aX_NP]at h1;cases h1;rw[hb,show (("NoPaper":Str)=="BadDeed"||("BadDeed":Str)=="HearthError"||("BadDeed":Str)=="ValueError")=false by decide];exact⟨XK_NoPaper.exc,pE XK_BadDeed n_NP_BD s_NP_BD⟩
  ·rw[aX_NS]at h1;cases h1;rw[hb,show (("NoSuch":Str)=="BadDeed"||("BadDeed":Str)=="HearthError"||("BadDeed":Str)=="ValueError")=false by decide];exact⟨XK_NoSuch.exc,pE XK_BadDeed n_NS_BD s_NS_BD⟩
  ·rw[zX_TM]at h1;cases h1
  ·rw[zX_NT]at h1;cases h1
  ·rw[zX_OR]at h1;cases h1),al1 XK_BadDeed sN_BD⟩
 have is_NoSuch:sB K mg "NoSuch":=⟨C_NoSuch,mg_of X G aX_NS,λz=>(by cases z),(λn C b h1 h2=>by
  obtain⟨hm,hb⟩:=vM h2
  simp only[pC,bG0,bH0,bL4]at hm;rcases hm with rfl|rfl|rfl|rfl|rfl|rfl|rfl|rfl|rfl|rfl|rfl|rfl
  ·rw[zX_BW]at h1;cases h1
  ·rw[aX_BS]at h1;cases h1;rw[hb,show (("BadSet":Str)=="NoSuch"||("NoSuch":Str)=="HearthError"||("NoSuch":Str)=="ValueError")=false by decide];exact⟨XK_BadSet.exc,pE XK_NoSuch n_BS_NS s_BS_NS⟩
  ·rw[zX_BO]at h1;cases h1
  ·rw[zX_BP]at h1;cases h1
  ·rw[zX_BB]at h1;cases h1
  ·rw[aX_BD]at h1;cases h1;rw[hb,show (("BadDeed":Str)=="NoSuch"||("NoSuch":Str)=="HearthError"||("NoSuch":Str)=="ValueError")=false by decide];exact⟨XK_BadDeed.exc,pE XK_NoSuch n_BD_NS s_BD_NS⟩
  ·rw[zX_NW]at h1;cases h1
  ·rw[aX_NP]at h1;cases h1;rw[hb,show (("NoPaper":Str)=="NoSuch"||("NoSuch":Str)=="HearthError"||("NoSuch":Str)=="ValueError")=false by decide];exact⟨XK_NoPaper.exc,pE XK_NoSuch n_NP_NS s_NP_NS⟩
  ·rw[aX_NS]at h1;cases h1;rw[hb,show (("NoSuch":Str)=="NoSuch"||("NoSuch":Str)=="HearthError"||("NoSuch":Str)=="ValueError")=true by decide];exact⟨XK_NoSuch.exc,al0⟩
  ·rw[zX_TM]at h1;cases h1
  ·rw[zX_NT]at h1;cases h1
  ·rw[zX_OR]at h1;cases h1),al1 XK_NoSuch sN_NS⟩
 have is_ValueError:G9 K mg:=⟨mg_none_of X G z_VE,λz=>(by cases z),(λn C b h1 h2=>by
  obtain⟨hm,hb⟩:=vM h2
  simp only[pC,bG0,bH0,bL4]at hm;rcases hm with rfl|rfl|rfl|rfl|rfl|rfl|rfl|rfl|rfl|rfl|rfl|rfl
  ·rw[zX_BW]at h1;cases h1
  ·rw[aX_BS]at h1;cases h1;rw[hb,show (("BadSet":Str)=="ValueError"||("ValueError":Str)=="HearthError"||("ValueError":Str)=="ValueError")=true by decide];exact⟨XK_BadSet.exc,vN sV_BS⟩
  ·rw[zX_BO]at h1;cases h1
  ·rw[zX_BP]at h1;cases h1
  ·rw[zX_BB]at h1;cases h1
  ·rw[aX_BD]at h1;cases h1;rw[hb,show (("BadDeed":Str)=="ValueError"||("ValueError":Str)=="HearthError"||("ValueError":Str)=="ValueError")=true by decide];exact⟨XK_BadDeed.exc,vN sV_BD⟩
  ·rw[zX_NW]at h1;cases h1
  ·rw[aX_NP]at h1;cases h1;rw[hb,show (("NoPaper":Str)=="ValueError"||("ValueError":Str)=="HearthError"||("ValueError":Str)=="ValueError")=true by decide];exact⟨XK_NoPaper.exc,vN sV_NP⟩
  ·rw[aX_NS]at h1;cases h1;rw[hb,show (("NoSuch":Str)=="ValueError"||("ValueError":Str)=="HearthError"||("ValueError":Str)=="ValueError")=true by decide];exact⟨XK_NoSuch.exc,vN sV_NS⟩
  ·rw[zX_TM]at h1;cases h1
  ·rw[zX_NT]at h1;cases h1
  ·rw[zX_OR]at h1;cases h1),bh9⟩
 have x_BadDeed:Xc K mg base "BadDeed":=⟨C_BadDeed,_,_,_,_,J0 KB (mg_of X G aX_BD) q_BD,PySem.F.excBase_ValueError,aX_BD⟩;have x_BadSet:Xc K mg base "BadSet":=⟨C_BadSet,_,_,_,_,J0 KB (mg_of X G aX_BS) q_BS,PySem.F.excBase_ValueError,aX_BS⟩;have x_NoSuch:Xc K mg base "NoSuch":=⟨C_NoSuch,_,_,_,_,J0 KB (mg_of X G aX_NS) q_NS,PySem.F.excBase_ValueError,aX_NS⟩;have D0:=ba6 (bx7 (P:=l.prog) (w:=w) (base:=base) B h0.F) (h0.F.binds (ps:=["things"]) λ_ _ _ _ _ _ us hl=>by obtain⟨_,rfl⟩:=us1 hl;rfl) h0.F.kp (mg_of X G h0.a);have D1:=by0 (P:=l.prog) (w:=w) (base:=base) B (h1.M X G);have D2:=ba8 (bx8 (P:=l.prog) (w:=w) (mg:=mg) (base:=base) h2.F) (h2.F.binds (ps:=["web"]) λ_ _ _ _ _ _ us hl=>by obtain⟨_,rfl⟩:=us1 hl;rfl) h2.F.kp (mg_of X G h2.a);have D3:=by1 (P:=l.prog) (w:=w) (base:=base) B (h3.M X G);have DD3:=by2 (P:=l.prog) (w:=w) (base:=base) B (h3.M X G);have D4:=by4 (P:=l.prog) (w:=w) (base:=base) B (h4.M X G);have D5:=by5 (P:=l.prog) (w:=w) (base:=base) B (h5.M X G)  cs;have D6:=by7 (P:=l.prog) (w:=w) (base:=base) B (h6.M X G);have D7:=by9 (P:=l.prog) (w:=w) (base:=base) B (h7.M X G)  kd_DEED_NUMBERS;have D8:=bz1 (P:=l.prog) (w:=w) (base:=base) B kc ⟨a8,n8,k8⟩ F8;have D9:=bz3 (P:=l.prog) (w:=w) (base:=base) B kc ⟨a9,n9,k9⟩ F9;have D10:=bz5 (P:=l.prog) (w:=w) (base:=base) B (h10.M X G);have D11:=bz7 (P:=l.prog) (w:=w) (base:=base) B (h11.M X G);have D12:=bz8 (P:=l.prog) (w:=w) (base:=base) B (h12.M X G);have D13:=bz9 (P:=l.prog) (w:=w) (base:=base) B (h13.M X G);have D14:=bA1 (P:=l.prog) (w:=w) (base:=base) B (h14.M X G) D1;have D15:=bA2 (P:=l.prog) (w:=w) (base:=base) B (h15.M X G) D3;have DD15:=bA3 (P:=l.prog) (w:=w) (base:=base) B (h15.M X G) DD3;have D16:=bA5 (P:=l.prog) (w:=w) (base:=base) B (h16.M X G) D4;have D17:=bA6 (P:=l.prog) (w:=w) (base:=base) B (h17.M X G) D0 D6 cs;have D18:=bA8 (P:=l.prog) (w:=w) (base:=base) kc ⟨yK7,a18,n18,yK8⟩ F18 (mg_of X G aK);have D19:=bA9 (P:=l.prog) (w:=w) (base:=base) B (h19.M X G) D10;have D20:=bB0 (P:=l.prog) (w:=w) (base:=base) B (h20.M X G) D12
 have D21:=bB1 (P:=l.prog) (w:=w) (base:=base) B (h21.M X G) D12;have D22:=bB2 (P:=l.prog) (w:=w) (base:=base) B (h22.M X G) D11;have D23:=bB4 (P:=l.prog) (w:=w) (base:=base) B (h23.M X G) D0 D14;have D24:=bB6 (P:=l.prog) (w:=w) (base:=base) B (h24.M X G) D1 D16;have D25:=bB7 (P:=l.prog) (w:=w) (base:=base) B (h25.M X G) D14 D15 x_BadDeed;have D26:=bB8 (P:=l.prog) (w:=w) (base:=base) B (h26.M X G) D14 x_BadDeed m_MOST_WANTED;have D27:=bB9 (P:=l.prog) (w:=w) (base:=base) B (h27.M X G) D14 DD15 x_BadDeed;have D28:=bC0 (P:=l.prog) (w:=w) (base:=base) B (h28.M X G) D10 D19;have D29:=bC2 (P:=l.prog) (w:=w) (base:=base) B (h29.M X G) D23 x_BadSet;have D30:=bC3 (P:=l.prog) (w:=w) (base:=base) B (h30.M X G) D29 D3 D2 D24;have D31:=bC4 (P:=l.prog) (w:=w) (base:=base) B (h31.M X G) D29 D1 D2 D17;have D32:=bC5 (P:=l.prog) (w:=w) (base:=base) B (h32.M X G) D29 D7 D25 D26 D27;have D33:=bC6 (P:=l.prog) (w:=w) (base:=base) B (h33.M X G) D30;have D34:=bC8 (P:=l.prog) (w:=w) (base:=base) B (h34.M X G) D33;have D35:=bC9 (P:=l.prog) (w:=w) (base:=base) B (h35.M X G) D33 D2 D5 D1;have D36:=bD1 (P:=l.prog) (w:=w) (base:=base) B kc ⟨a36,n36,k36⟩ F36 D34 D8 D9;have D37:=bD3 (P:=l.prog) (w:=w) (base:=base) B kc ⟨a37,n37,k37⟩ F37 D14 D8 D35 D9 x_NoSuch;have D38:=bD4 (P:=l.prog) (w:=w) (base:=base) B kc ⟨a38,n38,k38⟩ F38 D36 D15;have D39:=bD5 (P:=l.prog) (w:=w) (base:=base) B h39.F (mg_of X G h39.a) D37 cat_HearthError is_BadDeed is_NoSuch is_ValueError;have D40:=bD6 (P:=l.prog) (w:=w) (base:=base) B h40.F (mg_of X G h40.a) D8 D20 D9 D22 D37 D21;have D41:=bD7 (P:=l.prog) (w:=w) (base:=base) B kc ⟨a41,n41,k41⟩ F41 D32 D8 D9 D36 D7 D38;have D42:=bD8 (P:=l.prog) (w:=w) (base:=base) B kc ⟨a42,n42,k42⟩ F42 D36 D38 x_NoSuch;have D43:=bD9 (P:=l.prog) (w:=w) (base:=base) B kc ⟨a43,n43,k43⟩ F43 D36 D38 x_NoSuch;have D44:=bE0 (P:=l.prog) (w:=w) (base:=base) B h44.F (mg_of X G h44.a) D42 D43 D41 D13 cat_HearthError;exact bb6 (bE1 B F45 D10 D18 D28 D44 D40 D37 D31 D8 D9 D36 D39)
theorem bE3 {l:OpenLaw}{q:ay}{loose:List Str}{XP:(Str->Option av)->Heap->Prop}{YP:ba->Heap->Prop}{d:DefRec}{K:Params->Frag}(hn:l.most=some 63)(hdf:d.params.defaults = [])(hY:∀(w:ba) (h:Heap),YP w h->(K w.params).In h)(F:∀(w:ba) (mg:Str->Option av) (fa:ax) (h:Heap),(K w.params).In h->h.Ns mainGlobals mg->mg d.name=some (.ref fa)->
   ∃fd:FuncData,(∀(s:aw) (u:av),BindsTo s fd ⟨[u],[]⟩ [("script",u)])/\∀base:Heap,(K w.params).In base->base.Ns mainGlobals mg->bU l.prog w (K w.params) mg base fF 12 fa fd ["script"] (vF (K w.params))) :
  WalkO q loose XP YP l.row.toRowW d [] (λf vs=>PySem.call f vs):=
 L2.aL2 (n:=63) (k:=12) (x:="script") (CX:=λ_=>fF) (sp:=λw=>vF (K w.params)) hn (by decide) hdf ⟨rfl,by decide,by decide⟩ hY F (λ_ _ a ns hl hO hS=>⟨a,ns,rfl,bb7 hO hS,hl,λ_=>rfl⟩) λ_ _ _ _ _ z=>z
end K_k92
open PySem PySem.W PyProof.Rows
theorem PySem.W.Fast.te13052408679150730464 : True := trivial
theorem PySem.W.Fast.te16555476440528808052 : True := trivial
theorem PySem.W.Fast.te5369427470323729400 : True := trivial
set_option maxRecDepth 100000 in
set_option maxHeartbeats 0 in
theorem PySem.Challenge.cw_kindleweb_k92_whole_causes_kept_holds : PySem.Challenge.rw_kindleweb_k92_whole_causes_kept.Holds := by
 w_on;o_law;k_head;(case hw => w_witness2)
 k_fill
 refine K_k92.bE3 (l := PySem.Challenge.rw_kindleweb_k92_whole_causes_kept) rfl rfl (λw h Y => PySem.W.kIn_of Y) ?F
 case F =>
  intro w mg fa h KX G hmg
  refine' K_k92.bE2 KX G hmg ?h0 ?h1 ?h2 ?h3 ?h4 ?h5 ?h6 ?h7 ?aK ?yK1 ?yK2 ?yK3 ?yK4 ?yK5 ?yK6 ?yK7 ?yK8 ?n8 ?a8 ?l8 ?c8 ?k8 ?n9 ?a9 ?l9 ?c9 ?k9 ?h10 ?h11 ?h12 ?h13 ?h14 ?h15 ?h16 ?h17 ?n18 ?a18 ?l18 ?c18 ?k18 ?h19 ?h20 ?h21 ?h22 ?h23 ?h24 ?h25 ?h26 ?h27 ?h28 ?h29 ?h30 ?h31 ?h32 ?h33 ?h34 ?h35 ?n36 ?a36 ?l36 ?c36 ?k36 ?n37 ?a37 ?l37 ?c37 ?k37 ?n38 ?a38 ?l38 ?c38 ?k38 ?h39 ?h40 ?n41 ?a41 ?l41 ?c41 ?k41 ?n42 ?a42 ?l42 ?c42 ?k42 ?n43 ?a43 ?l43 ?c43 ?k43 ?h44 ?a45 ?l45 ?c45 ?k45 ?z_len ?z_range ?z_tuple ?z_list ?z_sorted ?z_all ?z_any ?z_zip ?z_min ?z_max ?z_sum ?z_isinstance ?z_int ?z_bool ?z_enumerate ?zc ?lcA ?lcB ?zk ?lkd ?skd ?hkd0 ?hkd1 ?hkd2 ?hkd3 ?hkd4 ?z_MOST_WANTEDx ?aX_HE ?aX_BS ?aX_BD ?aX_NP ?aX_NS ?zX_BW ?zX_BO ?zX_BP ?zX_BB ?zX_NW ?zX_TM ?zX_NT ?zX_OR ?y_fg ?y_ft ?z_VE ?y1_HE ?y2_HE ?y3_HE ?y4_HE ?y5_HE ?y6_HE ?y7_HE ?y1_BS ?y2_BS ?y3_BS ?y4_BS ?y5_BS ?y6_BS ?y7_BS ?y1_BD ?y2_BD ?y3_BD ?y4_BD ?y5_BD ?y6_BD ?y7_BD ?y1_NP ?y2_NP ?y3_NP ?y4_NP ?y5_NP ?y6_NP ?y7_NP ?y1_NS ?y2_NS ?y3_NS ?y4_NS ?y5_NS ?y6_NS ?y7_NS ?sB_HE ?s_BS_HE ?s_BD_HE ?s_NP_HE ?s_NS_HE ?sN_BD ?s_BS_BD ?n_BS_BD ?s_NP_BD ?n_NP_BD ?s_NS_BD ?n_NS_BD ?sN_NS ?s_BS_NS ?n_BS_NS ?s_BD_NS ?n_BD_NS ?s_NP_NS ?n_NP_NS ?sV_BS ?sV_BD ?sV_NP ?sV_NS ?q_BD ?q_BS ?q_NS
  (case h0|h1|h2|h3|h4|h5|h6|h7|h10|h11|h12|h13|h14|h15|h16|h17|h19|h20|h21|h22|h23|h24|h25|h26|h27|h28|h29|h30|h31|h32|h33|h34|h35|h39|h40|h44 => exact⟨by k_is, ⟨⟨_, _, _, _, _, _, _, _, _, rfl, by k_is, by k_is⟩, by k_is⟩⟩)
  (case aK|yK1|yK2|yK3|yK4|yK5|yK6|yK7|yK8|n8|a8|l8|c8|k8|n9|a9|l9|c9|k9|n18|a18|l18|c18|k18|n36|a36|l36|c36|k36|n37|a37|l37|c37|k37|n38|a38|l38|c38|k38|n41|a41|l41|c41|k41|n42|a42|l42|c42|k42|n43|a43|l43|c43|k43|a45|l45|c45|k45|z_len|z_range|z_tuple|z_list|z_sorted|z_all|z_any|z_zip|z_min|z_max|z_sum|z_isinstance|z_int|z_bool|z_enumerate|zc|lcA|lcB|zk|lkd => k_is)
  (case skd => decide)
  (case hkd0 => rfl)
  (case hkd1 => rfl)
  (case hkd2 => rfl)
  (case hkd3 => rfl)
  (case hkd4 => rfl)
  (case z_MOST_WANTEDx|aX_HE|aX_BS|aX_BD|aX_NP|aX_NS|zX_BW|zX_BO|zX_BP|zX_BB|zX_NW|zX_TM|zX_NT|zX_OR|y_fg|y_ft|z_VE|y1_HE|y2_HE|y3_HE|y4_HE|y5_HE|y6_HE|y7_HE|y1_BS|y2_BS|y3_BS|y4_BS|y5_BS|y6_BS|y7_BS|y1_BD|y2_BD|y3_BD|y4_BD|y5_BD|y6_BD|y7_BD|y1_NP|y2_NP|y3_NP|y4_NP|y5_NP|y6_NP|y7_NP|y1_NS|y2_NS|y3_NS|y4_NS|y5_NS|y6_NS|y7_NS|sB_HE|s_BS_HE|s_BD_HE|s_NP_HE|s_NS_HE|sN_BD|s_BS_BD => k_is)
  (case n_BS_BD => decide)
  (case s_NP_BD => k_is)
  (case n_NP_BD => decide)
  (case s_NS_BD => k_is)
  (case n_NS_BD => decide)
  (case sN_NS|s_BS_NS => k_is)
  (case n_BS_NS => decide)
  (case s_BD_NS => k_is)
  (case n_BD_NS => decide)
  (case s_NP_NS => k_is)
  (case n_NP_NS => decide)
  (case sV_BS|sV_BD|sV_NP|sV_NS => k_is)
  (case q_BD|q_BS|q_NS => k_exc)


