import PyProof.Rows.All
import Wide.All
import OpenK.AllK
import Wide.FinOn
import Lean
import PyProof.EqAt
import PyProof.EqKinds
import PyProof.TupleCall
import PyProof.NeKinds
import PyProof.Draws
import PyProof.ZipIter
import PyProof.DictUpdate
import PyProof.AutoSeq1
import PyProof.ListRange
import PyProof.ListMulRoad
import PyProof.FactsAll.tuple_2
import PyProof.Rows.SortShell
import PyProof.EnumFor
import PyProof.EnumMake
import PyProof.EnumStmt
import PyProof.Rows.SortWalk
import KE.KDictList
import PyProof.SumAny
import PyProof.ConsumeWalk
import PyProof.WalksMore
import PyProof.Rows.TupAssign
import PyProof.ExcArgsOwn
import PySem.Challenge.RW_kindleweb_k90_whole_from_the_begin
set_option Elab.async false
set_option linter.all false
set_option maxRecDepth 100000
set_option maxHeartbeats 4000000
section
open PySem PySem.Spec PyProof.Rows
def bx4:=@wpAny_bind
def bx5:=@Heap.get?_push_of_some
def bx6:=@List.size_toArray
def bx7:=@List.length_map
def bx8:=@List.length_append
def bx9:=@Nat.le_refl
def by0:=@List.mem_singleton
def by1:=@List.getElem?_eq_getElem
def by2:=@List.mem_cons
def by3:=@wpAny_pure
def by4:=@List.getElem?_eq_some_iff
def by5:=@decide_eq_false
def by6:=@wpS_bind
def by8:=@Heap.lt_size
def by9:=@decide_eq_true
def bz0:=@Heap.get?_push_size
def bz1:=@List.getElem?_map
def bz2:=@List.not_mem_nil
def bz3:=@Option.some.inj
def bz4:=@wpS_pure
def bz5:=@decide_eq_true_eq
def bz6:=@Nat.lt_of_lt_of_le
def bz7:=@Bool.false_ne_true
def bz8:=@List.mem_cons_self
def bz9:=@List.mem_cons_of_mem
def bA0:=@List.append_nil
def bA1:=@List.getElem?_set_ne
def bA2:=@List.append_assoc
def bA3:=@List.length_cons
def bA4:=@List.take_length
def bA5:=@List.pairwise_singleton
def bA6:=@Bool.false_eq_true
def bA7:=@List.take_append_drop
def bA8:=@Nat.ne_of_lt
def bA9:=@Nat.le_trans
def bB2:=@Nat.zero_le
def bB3:=@List.mem_append
def bB4:=@Bool.and_eq_true
def bB5:=@List.length_take
def bB6:=@List.length_singleton
def bB7:=@List.map_append
def bB8:=@List.mem_map
def bB9:=@List.mem_append_right
def bC0:=@List.getD_eq_getElem?_getD
def bC1:=@List.map_cons
def bC3:=@or_false
def bC4:=@Array.getElem_mem
def bC5:=@decide_eq_false_iff_not
def bC7:=@Bool.eq_iff_iff
def bC8:=@PySem.mem_of_lookup
def bC9:=@List.getElem?_set_self
def bD0:=@Nat.lt_or_ge
def bD2:=@List.pairwise_append
def bD3:=@List.lookup_cons
def bD4:=@Nat.le_add_right
def bD5:=@wpAny_field
def bD6:=@wpAny_callSpecial?_slot
def bD7:=@List.getElem?_append_left
def bD9:=@wpAny_call_entry
def bE1:=@beq_self_eq_true
def bE2:=@List.length_set
def bE3:=@Nat.le_of_lt
def bE4:=@List.length_range
def bE5:=@Nat.lt_irrefl
def bE6:=@wpAny_setField_rec
def bE8:=@Array.toList_append
def bF1:=@wpAny_newObj_type
def bF2:=@List.take_add_one
def bF4:=@List.pairwise_iff_getElem
def bF5:=@of_decide_eq_false
def bF6:=@wpS_forRange
def bF7:=@Heap.size_push
def bF8:=@if_false
def bF9:=@List.length_drop
def bG0:=@beq_eq_false_iff_ne
def bG1:=@wpAny_mono
def bG2:=@List.length_filter_le
def bG4:=@Nat.ne_of_gt
def bG5:=@PyProof.Rows.callWith_type1
def bG6:=@List.nodup_append
def bG7:=@List.getElem?_cons_succ
def bG9:=@List.getElem?_append_right
def bH0:=@List.mem_of_getElem?
def bH1:=@List.all_eq_true
def bH2:=@List.take_of_length_le
def bH6:=@List.mem_filter
def bH7:=@List.find?_cons
def bH8:=@Int.emod_nonneg
def bH9:=@PySem.F.plainAttrs_list
def bI0:=@List.getElem_mem
def bI1:=@List.all_cons
def bI6:=@PyProof.Rows.slot_tuple_getitem
def bI7:=@Array.getElem?_toList
def bI9:=@wpAny_pyIter_tuple
def bJ0:=@Array.eq_empty_of_size_eq_zero
def bJ1:=@Int.emod_lt_of_pos
def bJ5:=@PySem.F.slot_list_append
def bJ6:=@PySem.F.type_list_append
def bJ9:=@List.getElem?_of_mem
def bK2:=@List.flatten_append
def bK3:=@Calls.callWith_builtin
def bK4:=@List.map_map
def bK5:=@List.filter_cons
def bK9:=@wpAny_seqItems
def bL0:=@Nat.eq_or_lt_of_le
def bL2:=@PySem.W.methodCall_KW
def bL3:=@List.perm_append_comm
def bL4:=@wpAny_execs_nil
def bL5:=@wpAny_passesOwn
def bL8:=@List.mem_append_left
def bL9:=@wpAny_truthy_bool
def bM0:=@Nat.le_succ
def bM3:=@Calls.evalArgs_plain
def bM5:=@Int.le_refl
def bM6:=@wpS_mono
def bM7:=@List.mem_of_mem_take
def bM8:=@wpAny_holding
def bN1:=@wpAny_rule
def bN2:=@Bool.and_true
def bN4:=@List.drop_take
end
abbrev av:=PySem.Value
abbrev aw:=PySem.Shared
abbrev ax:=PySem.Addr
abbrev ay:=PySem.Program
abbrev az:=PySem.Around
abbrev ba:=PySem.World
abbrev aa:=List (Int×Int)
abbrev ac:=PySem.W.Frag
abbrev ae:=List (List Int)
abbrev af:=List Int
namespace L2
open PySem PySem.Spec PyProof.Rows
abbrev aG:=Sum Int Str
def nV:aG->av->Bool
 |.inl k,v=>Value.isInt k v
 |.inr x,v=>Value.isStrOf x v
def aw1 (w:ba):aG->Int
 |.inl k=>hashInt k
 |.inr x=>hashStr w x
theorem jK:∀{k:aG}{v:av},nV k v=true->(∃i t,k=Sum.inl i/\v=Value.int i t)∨(∃x t,k=Sum.inr x/\v=Value.str x t)
 |.inl i,v,h=>by
  obtain⟨t,e⟩:=Value.isInt_shape (k:=i) (v:=v) h
  exact .inl ⟨i,t,rfl,e⟩
 |.inr x,v,h=>by
  obtain⟨t,e⟩:=Value.isStrOf_shape (x:=x) (v:=v) h
  exact .inr ⟨x,t,rfl,e⟩
theorem aw2 (i:Int)(t:Tok):nV (.inl i) (.int i t)=true:=by simp[nV,Value.isInt]
theorem L0 (x:Str)(t:Tok):nV (.inr x) (.str x t)=true:=by simp[nV,Value.isStrOf]
theorem aw3 (a b:Int):decide ((Sum.inl a:aG)=Sum.inl b)=(a==b):=by
 by_cases e:a=b
 ·subst e;simp
 ·have h:¬(Sum.inl a:aG)=Sum.inl b:=λq=>e (Sum.inl.inj q)
  rw[by5 h];exact (bG0.mpr e).symm
theorem aw4 (a b:Str):decide ((Sum.inr a:aG)=Sum.inr b)=decide (a=b):=by
 by_cases e:a=b
 ·subst e;simp
 ·have h:¬(Sum.inr a:aG)=Sum.inr b:=λq=>e (Sum.inr.inj q)
  rw[by5 h,by5 e]
theorem aw5 (a:Int)(b:Str):decide ((Sum.inl a:aG)=Sum.inr b)=false:=by5 (λq=>nomatch q)
theorem aw6 (a:Str)(b:Int):decide ((Sum.inr a:aG)=Sum.inl b)=false:=by5 (λq=>nomatch q)
def dO (prog:ay)(w:ba):PySem.KeyKind prog w aG where
 is:=nV
 hash:=aw1 w
 inj:=λv a b ha hb=>by
  rcases jK ha with⟨i,t,rfl,rfl⟩|⟨x,t,rfl,rfl⟩
  ·rcases jK hb with⟨j,u,rfl,e⟩|⟨y,u,rfl,e⟩
   ·injection e with e1 _;rw[e1]
   ·exact nomatch e
  ·rcases jK hb with⟨j,u,rfl,e⟩|⟨y,u,rfl,e⟩
   ·exact nomatch e
   ·injection e with e1 _;rw[e1]
 byValue:=λk v h=>by
  rcases jK h with⟨i,t,rfl,rfl⟩|⟨x,t,rfl,rfl⟩<;>rfl
 pyHash:=λhv h=>by
  rcases jK hv with⟨i,t,rfl,rfl⟩|⟨x,t,rfl,rfl⟩
  ·exact wpAny_pyHash_int h
  ·exact wpAny_pyHash_str h
 eqBool:=λhu hv h=>by
  rcases jK hu with⟨i,t,rfl,rfl⟩|⟨x,t,rfl,rfl⟩
  ·rcases jK hv with⟨j,u,rfl,rfl⟩|⟨y,u,rfl,rfl⟩
   ·rw[aw3]at h;exact wpAny_eqBool_int h
   ·rw[aw5]at h;exact SeqAt.EqAt.int_str i t y u _ _ _ _ h
  ·rcases jK hv with⟨j,u,rfl,rfl⟩|⟨y,u,rfl,rfl⟩
   ·rw[aw6]at h;exact SeqAt.EqAt.str_int x t j u _ _ _ _ h
   ·rw[aw4]at h;exact wpAny_eqBool_str h
 «strs»:=λk x t v h=>by
  rcases jK h with⟨i,u,rfl,e⟩|⟨y,u,rfl,e⟩
  ·exact nomatch e
  ·injection e with e1 _
   subst e1;cases v<;>rfl
theorem aw7 (prog:ay)(w:ba)(i:Int)(t:Tok):(dO prog w).is (.inl i) (.int i t)=true:=aw2 i t
theorem aw8 (prog:ay)(w:ba)(x:Str)(t:Tok):(dO prog w).is (.inr x) (.str x t)=true:=L0 x t
inductive V where
 |non|bl (b:Bool)|int (i:Int)|str (x:Str)|byt (b:Array UInt8)|flt (b:UInt64)|ref (a:ax)|ty (n:String)
 deriving DecidableEq
def b7:V->av->Prop
 |.non,u=>u=Value.none
 |.bl b,u=>u=Value.bool b
 |.int i,u=>∃t,u=Value.int i t
 |.str x,u=>∃t,u=Value.str x t
 |.byt b,u=>∃t,u=Value.bytes b t
 |.flt b,u=>∃t,u=Value.float b t
 |.ref a,u=>u=Value.ref a
 |.ty n,u=>u=Value.type n
abbrev aX:List V->List av->Prop:=Paired b7
theorem aX.length {xs:List V}{us:List av}(r:aX xs us):xs.length=us.length:=Paired.length r
theorem aX.get:∀{xs:List V}{us:List av}{i:Nat}{x:V},aX xs us->xs[i]? = some x->∃u,us[i]? = some u/\b7 x u
 |_,_,_,_,.nil,e=>by simp at e
 |_,_,0,_,.cons r _,e=>by simp at e;subst e;exact⟨_,rfl,r⟩
 |_,_,i+1,x,.cons _ t,e=>by
  obtain⟨u,h1,h2⟩:=aX.get (i:=i) (x:=x) t (by simpa using e)
  exact⟨u,by simpa using h1,h2⟩
theorem aX.append:∀{xs ys:List V}{us ws:List av},aX xs us->aX ys ws->aX (xs++ys) (us++ws)
 |_,_,_,_,.nil,s=>s
 |_,_,_,_,.cons r t,s=>.cons r (aX.append t s)
theorem aX.take:∀{xs:List V}{us:List av} (n:Nat),aX xs us->aX (xs.take n) (us.take n)
 |_,_,0,_=>.nil
 |_,_,_+1,.nil=>.nil
 |_,_,n+1,.cons r t=>.cons r (aX.take n t)
theorem aX.drop:∀{xs:List V}{us:List av} (n:Nat),aX xs us->aX (xs.drop n) (us.drop n)
 |_,_,0,r=>r
 |_,_,_+1,.nil=>.nil
 |_,_,n+1,.cons _ t=>aX.drop n t
def fY:Option V->Option av->Prop
 |some v,some u=>b7 v u
 |none,none=>True
 |_,_=>False
def KV {κ:Type}:List (κ×V)->List (κ×av)->Prop:=Paired λ(p:κ×V) (q:κ×av)=>p.1=q.1/\b7 p.2 q.2
def kV:aG->V
 |.inl i=>.int i
 |.inr x=>.str x
inductive HO where
 |lst (xs:List V)
 |tup (xs:List V)
 |dK (kvs:List (aG×V))|dT (kvs:List (List aG×V))
 |set (S:Int->Bool) (n:Nat)
 |ins (C dx:ax) (fs:List (Str×V))
 |own (x:ax)
 |xd (fs:List (Str×V))
 |met (f x:ax)
 |rng (lo hi:Int)
 |frz (o:Obj) (u:HO)
 |tbl (ps:Array av)
 |ext (φ:Heap->Prop)
abbrev Hp:=ax->Option HO
def upd (H:Hp)(a:ax)(o:HO):Hp:=λb=>if b=a then some o else H b
theorem aY {H:Hp}{a:ax}{o:HO}:upd H a o a=some o:=by unfold upd;rw[if_pos rfl]
theorem aH {H:Hp}{a b:ax}{o:HO}(h:b≠a):upd H a o b=H b:=by unfold upd;rw[if_neg h]
theorem k9 {H:Hp}{a:ax}{o u:HO}:upd (upd H a o) a u=upd H a u:=by
 funext b;unfold upd;split<;>rfl
theorem aw9 {H:Hp}{a b:ax}{o u:HO}(h:H a=some o)(h':H b=some u)(d:o≠u):a≠b:=by
 intro e;subst e;rw[h]at h';exact d (bz3 h')
theorem dH {H:Hp}{a b:ax}{o:HO}(h:H a=some o)(h':H b=none):a≠b:=by
 intro e;subst e;rw[h]at h';cases h'
def jL (h:Heap)(a:ax):Prop:=∀o,h.get? a=some o->o.dict=none
theorem jL.new (h:Heap)(o:Obj)(d:o.dict=none)(s:o.isFreed=false:=by rfl):jL (h.push o) h.objs.size:=λu e=>by
 rw[bz0 h (o:=o) s]at e;cases e;exact d
theorem jL.stay {h h':Heap}{a:ax}{o:Obj}(n:jL h a)(e:h.get? a=some o)(e':h'.get? a=some o):jL h' a:=λu hu=>by
 rw[e']at hu;cases hu;exact n _ e
section
variable (P:ay)(w:ba)
def cV (H:Hp)(h:Heap)(a:ax):HO->Prop
 |.lst xs=>xs.length<=sizeLine/\∃(its:List av) (n:Nat),aX xs its/\h.get? a=some { cls:=.type "list",data:=.seq its.toArray n }
 |.tup xs=>xs.length<=sizeLine/\∃its:List av,aX xs its/\IsTup h a its.toArray/\jL h a
 |.dK kvs=>kvs.length<=sizeLine/\(a==sysModules)=false/\∃vs,KV kvs vs/\h.DictOf (dO P w) a vs
 |.dT kvs=>kvs.length<=sizeLine/\(a==sysModules)=false/\∃xs:List (List aG×ax×av),
   Paired (λ(p:List aG×V) (q:List aG×ax×av)=>p.1=q.1/\H q.2.1=some (.tup (p.1.map kV))/\b7 p.2 q.2.2) kvs xs/\
   ∃o es ep,h.get? a=some o/\o.ExactDict/\o.data = .dict es ep/\es.toList=xs.map (entryOfKey (tupleKind (dO P w)))/\(xs.map (·.1)).Nodup
 |.set S n=>h.SetOf (intKind P w) a S n
 |.ins C dx fs=>H dx=some (.own a)/\fs.length<=1000/\dx≠a/\h.get? a=some (PySem.W.instObj C dx)/\
   ∃mA,h.Ns1 dx mA/\(∀f,fY (fs.lookup f) (mA f))/\PySem.Within mA (fs.map (·.1))
 |.own _=>∃o,h.get? a=some o
 |.xd fs=>∃mA,h.Ns1 a mA/\∀f,fY (fs.lookup f) (mA f)
 |.rng lo hi=>∃t u v,h.get? a=some { cls:=.type "range",data:=.fields #[.int lo t,.int hi u,.int 1 v] }
 |.frz o u=>h.get? a=some o/\cV H h a u
 |.tbl ps=>h.get? a=some { cls:=.none,data:=.fields ps }
 |.met f x=>h.get? a=some (PySem.W.methodObj (.ref f) (.ref x))
 |.ext φ=>φ h/\(∃o,h.get? a=some o)/\∀h1 h2:Heap,φ h1->(∀o,h1.get? a=some o->h2.get? a=some o)->φ h2
def cF (H:Hp)(h:Heap):Prop:=∀a o,H a=some o->cV P w H h a o
end
section
variable {P:ay}{w:ba}{H H':Hp}{h h':Heap}{a:ax}{o:HO}
theorem cV.lt (x:cV P w H h a o):a<h.objs.size:=by
 cases o with
 |lst xs=>obtain⟨_,_,_,_,e⟩:=x;exact by8 e
 |tup xs=>obtain⟨_,_,_,p,_⟩:=x;exact p.lt
 |dK kvs=>obtain⟨_,_,_,_,o,_,_,e,_⟩:=x;exact by8 e
 |dT kvs=>obtain⟨_,_,_,_,o,_,_,e,_⟩:=x;exact by8 e
 |set S n=>obtain⟨o,_,_,_,e,_⟩:=x;exact by8 e
 |ins C dx fs=>obtain⟨_,_,_,e,_⟩:=x;exact by8 e
 |own y=>obtain⟨_,e⟩:=x;exact by8 e
 |xd fs=>obtain⟨_,⟨_,_,_,e,_⟩,_⟩:=x;exact by8 e
 |rng lo hi=>obtain⟨_,_,_,e⟩:=x;exact by8 e
 |frz ob u=>obtain⟨e,_⟩:=x;exact by8 e
 |tbl ps=>exact by8 (show h.get? a=some _ from x)
 |met f y=>exact by8 (show h.get? a=some _ from x)
 |ext φ=>obtain⟨_,⟨_,e⟩,_⟩:=x;exact by8 e
theorem Paired.mapP {α β:Type}{F G:α->β->Prop}:∀{l₁:List α}{l₂:List β},Paired F l₁ l₂->(∀a b,F a b->G a b)->Paired G l₁ l₂
 |_,_,.nil,_=>.nil
 |_,_,.cons r t,f=>.cons (f _ _ r) (Paired.mapP t f)
theorem cV.stay (x:cV P w H h a o)(k:∀b u,(b=a∨H b=some (.own a))->h.get? b=some u->h'.get? b=some u)(ho:∀b,H b=some (.own a)->H' b=some (.own a))(ht:∀b xs,H b=some (.tup xs)->H' b=some (.tup xs)):cV P w H' h' a o:=by
 induction o with
 |lst xs=>obtain⟨z,its,n,r,e⟩:=x;exact⟨z,its,n,r,k _ _ (.inl rfl) e⟩
 |tup xs=>obtain⟨z,its,r,⟨ob,e,c⟩,nd⟩:=x;exact⟨z,its,r,⟨ob,k _ _ (.inl rfl) e,c⟩,nd.stay e (k _ _ (.inl rfl) e)⟩
 |dK kvs=>obtain⟨z,y,vs,r,ob,es,ep,e,c⟩:=x;exact⟨z,y,vs,r,ob,es,ep,k _ _ (.inl rfl) e,c⟩
 |dT kvs=>
  obtain⟨z,y,xs,r,ob,es,ep,e,c⟩:=x
  exact⟨z,y,xs,Paired.mapP r λp q z=>⟨z.1,ht _ _ z.2.1,z.2.2⟩,ob,es,ep,k _ _ (.inl rfl) e,c⟩
 |set S n=>obtain⟨ob,es,ep,t,e,c⟩:=x;exact⟨ob,es,ep,t,k _ _ (.inl rfl) e,c⟩
 |ins C dx fs=>
  obtain⟨d,z,ne,e,mA,⟨od,es,ep,e2,c⟩,r⟩:=x
  exact⟨ho _ d,z,ne,k _ _ (.inl rfl) e,mA,⟨od,es,ep,k _ _ (.inr d) e2,c⟩,r⟩
 |own y=>obtain⟨ob,e⟩:=x;exact⟨ob,k _ _ (.inl rfl) e⟩
 |xd fs=>obtain⟨mA,⟨od,es,ep,e,c⟩,r⟩:=x;exact⟨mA,⟨od,es,ep,k _ _ (.inl rfl) e,c⟩,r⟩
 |rng lo hi=>obtain⟨t,u,v,e⟩:=x;exact⟨t,u,v,k _ _ (.inl rfl) e⟩
 |frz ob u ih=>obtain⟨e,q⟩:=x;exact⟨k _ _ (.inl rfl) e,ih q⟩
 |tbl ps=>
  have e:h.get? a=some { cls:=.none,data:=.fields ps }:=x;show h'.get? a=some { cls:=.none,data:=.fields ps };exact k a _ (.inl rfl) e
 |met f y=>
  have e:h.get? a=some (PySem.W.methodObj (.ref f) (.ref y)):=x;show h'.get? a=some (PySem.W.methodObj (.ref f) (.ref y));exact k a _ (.inl rfl) e
 |ext φ=>obtain⟨p,⟨o,e⟩,st⟩:=x;exact⟨st _ _ p λo q=>k _ _ (.inl rfl) q,⟨o,k _ _ (.inl rfl) e⟩,st⟩
theorem cF.lt (x:cF P w H h)(e:H a=some o):a<h.objs.size:=(x a o e).lt
theorem cF.fresh (x:cF P w H h)(e:h.objs.size<=a):H a=none:=by
 cases q:H a with
 |none=>rfl
 |some u=>exact absurd (bz6 (x.lt q) e) (bE5 _)
theorem cF.kept (x:cF P w H h)(k:∀b u,h.get? b=some u->h'.get? b=some u):cF P w H h':=λa o e=>
 (x a o e).stay (λb u _ q=>k b u q) (λ_ q=>q) λ_ _ q=>q
theorem cF.laid (x:cF P w H h)(k:∀b u,h.get? b=some u->h'.get? b=some u)(hp:h.objs.size<=a)(new:cV P w (upd H a o) h' a o):cF P w (upd H a o) h':=λb u e=>by
 have hn:=x.fresh hp;by_cases hb:b=a
 ·subst hb;rw[aY]at e;cases e;exact new
 ·rw[aH hb]at e
  exact (x b u e).stay (λc v _ q=>k c v q) (λc q=>by rw[aH (dH q hn)];exact q) λc xs q=>by rw[aH (dH q hn)];exact q
end
def Rd (H:Hp)(a:ax)(u:HO):Prop:=H a=some u∨∃o,H a=some (.frz o u)
theorem Rd.ok {P:ay}{w:ba}{H:Hp}{h:Heap}{a:ax}{u:HO}(r:Rd H a u)(x:cF P w H h):cV P w H h a u:=by
 rcases r with r|⟨o,r⟩
 ·exact x a u r
 ·obtain⟨_,q⟩:=x a _ r
  exact q
def pS:Option HO->Prop
 |some (.lst _)=>True
 |some (.dK _)=>True
 |some (.dT _)=>True
 |some (.set _ _)=>True
 |some (.ins _ _ _)=>True
 |some (.ext _)=>True
 |_=>False
section
variable {P:ay}{w:ba}{H:Hp}{h h':Heap}{x e:ax}{o':HO}
theorem cF.write (ok:cF P w H h)(mu:pS (H x))(he:e=x∨H e=some (.own x))(k:∀b u,b≠e->h.get? b=some u->h'.get? b=some u)(heo:∃u,h'.get? e=some u)(new:cV P w (upd H x o') h' x o'):cF P w (upd H x o') h':=λb u q=>by
 have nown:∀c y,H c=some (.own y)->c≠x:=λc y r z=>by subst z;rw[r]at mu;exact mu
 have ntup:∀c xs,H c=some (.tup xs)->c≠x:=λc xs r z=>by subst z;rw[r]at mu;exact mu
 by_cases hb:b=x
 ·subst hb;rw[aY]at q;cases q;exact new
 ·rw[aH hb]at q
  by_cases hbe:b=e
  ·have q':H b=some (.own x):=by
    rcases he with z|z
    ·exact absurd (hbe.trans z) hb
    ·rw[hbe];exact z
   rw[q]at q';cases q'
   obtain⟨v,hv⟩:=heo
   exact⟨v,by rw[hbe];exact hv⟩
  ·refine (ok b u q).stay (λc v hc r=>k c v ?_ r) (λc r=>by rw[aH (nown c b r)];exact r) λc xs r=>by rw[aH (ntup c xs r)];exact r
   rcases hc with rfl|hc
   ·exact hbe
   ·rintro rfl
    rcases he with z|z
    ·exact nown c b hc z
    ·rw[hc]at z;cases z;exact hb rfl
end
structure Un (fs ex:List ax)(H H':Hp)(h h':Heap):Prop where
 keep:∀b o,h.get? b=some o->H b=none->b∉fs->b∉ex->h'.get? b=some o
 slot:∀b o,h.get? b=some o->H b=none->b∈fs->b∉ex->∃sl,h'.get? b=some { o with slots:=sl }
 free:∀b o,h.get? b=some o->H b=none->b∉ex->H' b=none
 there:∀b o,h.get? b=some o->b∉ex->∃o',h'.get? b=some o'
 tups:∀b xs,H b=some (.tup xs)->H' b=some (.tup xs)
 frzs:∀b o u,H b=some (.frz o u)->H' b=some (.frz o u)
 tbls:∀b ps,H b=some (.tbl ps)->∃more,H' b=some (.tbl (ps++more))
section
variable {fs fs' ex ex':List ax}{H H1 H2:Hp}{h h1 h2 h':Heap}{a x e:ax}{o:HO}
theorem Un.any (u:Un fs ex H H1 h h1){b:ax}{ob:Obj}(q:h.get? b=some ob)(n:H b=none)(hx:b∉ex):∃sl,h1.get? b=some { ob with slots:=sl }:=by
 by_cases hb:b∈fs
 ·exact u.slot b ob q n hb hx
 ·exact⟨ob.slots,u.keep b ob q n hb hx⟩
theorem Un.kept (k:∀b u,h.get? b=some u->h'.get? b=some u):Un fs ex H H h h':=
 ⟨λb ob q _ _ _=>k b ob q,λb ob q _ _ _=>⟨ob.slots,k b ob q⟩,λ_ _ _ n _=>n,λb ob q _=>⟨ob,k b ob q⟩,λ_ _ q=>q,λ_ _ _ q=>q,λ_ ps q=>⟨#[],by rw[q];simp⟩⟩
theorem Un.refl:Un fs ex H H h h:=Un.kept λ_ _ q=>q
theorem Un.laid (k:∀b u,h.get? b=some u->h'.get? b=some u)(hp:h.objs.size<=a)(hn:H a=none):Un fs ex H (upd H a o) h h' where
 keep:=λb u q _ _ _=>k b u q
 slot:=λb u q _ _ _=>⟨u.slots,k b u q⟩
 free:=λb u q n _=>by rw[aH (bA8 (bz6 (by8 q) hp))];exact n
 there:=λb u q _=>⟨u,k b u q⟩
 tups:=λb xs q=>by rw[aH (dH q hn)];exact q
 frzs:=λb u xs q=>by rw[aH (dH q hn)];exact q
 tbls:=λb ps q=>⟨#[],by rw[aH (dH q hn),q];simp⟩
theorem Un.write (mu:pS (H x))(he:e=x∨H e=some (.own x))(k:∀b u,b≠e->h.get? b=some u->h'.get? b=some u)(heo:∃u,h'.get? e=some u):Un fs ex H (upd H x o) h h':=by
 have hx:∀b,H b=none->b≠x:=λb n z=>by subst z;rw[n]at mu;exact mu
 have hb:∀b,H b=none->b≠e:=λb n z=>by
  subst z;rcases he with r|r
  ·exact hx b n r
  ·rw[n]at r;cases r
 have hm:∀b u,H b=some u->¬pS (some u)->b≠x:=λb u q nm z=>by subst z;rw[q]at mu;exact nm mu
 refine⟨λb u q n _ _=>k b u (hb b n) q,λb u q n _ _=>⟨u.slots,k b u (hb b n) q⟩,λb u q n _=>by rw[aH (hx b n)];exact n,λb u q _=>?_,
  λb xs q=>by rw[aH (hm b _ q λz=>z)];exact q,λb u xs q=>by rw[aH (hm b _ q λz=>z)];exact q,λb ps q=>⟨#[],by rw[aH (hm b _ q λz=>z),q];simp⟩⟩
 by_cases hbe:b=e
 ·subst hbe;exact heo
 ·exact⟨u,k b u hbe q⟩
end
def sW (h:Heap)(H:Hp):List ax:=(List.range h.objs.size).filter λa=>(H a).isSome
def kB (h:Heap)(H:Hp):Heap:=PySem.W.hideAll h (sW h H)
theorem ax0 (h:Heap)(H:Hp):(kB h H).objs.size=h.objs.size:=PySem.W.hideAll_size _ _
theorem ax1 {h:Heap}{H:Hp}{b:ax}{o:Obj}(e:h.get? b=some o)(n:H b=none):(kB h H).get? b=some o:=
 PySem.W.hideAll_get _ e λhm=>by
  have q:(H b).isSome=true:=(bH6.mp hm).2;rw[n]at q;simp at q
theorem ax2 {h:Heap}{H:Hp}{b:ax}{o:Obj}(e:(kB h H).get? b=some o):h.get? b=some o/\H b=none:=by
 have e':h.get? b=some o:=PySem.W.of_hideAll (sW h H) e;refine⟨e',?_⟩;cases q:H b with
 |none=>rfl
 |some x=>
  have hm:b∈sW h H:=bH6.mpr ⟨List.mem_range.mpr (by8 e'),by simp[q]⟩;have z:(kB h H).get? b=none:=PySem.W.hideAll_none (sW h H) hm;rw[z]at e;cases e
def ax3 (g h:Heap)(L:ax):List (ax×Obj):=(List.range h.objs.size).filterMap λa=>if a=L∨(g.get? a).isSome=true then none else (h.get? a).map λo=>(a,o)
def d6 (g h:Heap)(L d:ax):List (ax×Obj):=(ax3 g h L).filter λp=>decide (p.1≠d)
structure Mod (K:ac)(mg:Str->Option av)(base:Heap):Prop where
 kin:K.In base
 glob:base.Ns mainGlobals mg
 blt:∃mb,base.Ns builtinsNs mb/\∀x:Str,x≠"__name__"->mb x=bootBuiltins x
 nolimit:base.NoLimit
structure Cx where
 prog:ay
 w:ba
 K:ac
 mg:Str->Option av
 base:Heap
 A:az
 N:List Str
 s₀:aw
 H₀:Hp
 env:Env
 outer:List Env
 stack:List Env
 ex:List ax
 fn:Str->Bool
 calm:Bool
 pn:List (ax×Obj)
 xe:av->aw->Prop
def cE (l:List Env):List ax:=l.filterMap (·.frame)
abbrev Cx.fs (X:Cx):List ax:=cE X.outer
def cK (sc:Scope)(x:Str):Prop:=sc.names.lookup x=some .local∨sc.names.lookup x=some .cell∨sc.names.lookup x=some .free
def gQ (sc:Scope)(x:Str):Prop:=sc.names.lookup x=some .local∨sc.names.lookup x=some .cell
def ax4 (env:Env)(h:Heap)(m:Str->Option av)(x:Str)(u:av):Prop:=
 (env.kindOf x=some .local/\m x=some u)∨((env.kindOf x=some .cell∨env.kindOf x=some .free)/\∃c,env.cells.lookup x=some c/\h.IsCell c (some u))
structure Cx.Ok (X:Cx):Prop where
 mod:Mod X.K X.mg X.base
 kind:X.env.scope.kind = .function
 glob:X.env.globals=mainGlobals
 blt:X.env.builtins=builtinsNs
 above:X.s₀.heap.objs.size<=X.env.locals
 inj:∀x y c,X.env.cells.lookup x=some c->X.env.cells.lookup y=some c->x=y
 has:∀x,(X.env.kindOf x=some .cell∨X.env.kindOf x=some .free)->∃c,X.env.cells.lookup x=some c
 cab:∀x c,X.fn x=true->X.env.cells.lookup x=some c->X.s₀.heap.objs.size<=c
 hd:X.calm=true->X.A.handled=none
 frames:X.A.frames=some X.stack
 stk:X.stack=X.outer∨(X.stack=X.env::X.outer/\X.env.frame=some X.env.locals)
 exf:∀b∈X.ex,b≠X.env.locals/\∀x c,X.env.cells.lookup x=some c->c≠b
 bs:∀b o,X.base.get? b=some o->X.s₀.heap.get? b=some o/\X.H₀ b=none
 bsz:X.base.objs.size<=X.s₀.heap.objs.size
 noex:∀b o,X.base.get? b=some o->b∉X.ex
 exfs:∀b∈X.ex,b∉X.fs
 funs:X.s₀.heap.FunFrames X.base X.outer
 frf:∀b∈X.fs,X.H₀ b=none
structure aA (X:Cx)(ag:List (ax×Obj))(σ:List (Option V))(H:Hp)(s:aw):Prop where
 ok:X.Ok
 os:s.os=X.s₀.os
 bare:AllBare s.gens
 base:Un X.fs X.ex X.H₀ H X.s₀.heap s.heap
 loc:∃m,s.heap.Ns X.env.locals m/\∀(i:Nat) (x:Str) (v:V),X.N[i]? = some x->σ[i]? = some (some v)->cK X.env.scope x->∃u,b7 v u/\ax4 X.env s.heap m x u
 cell:∀x c,X.env.cells.lookup x=some c->∃v,s.heap.IsCell c v
 free:H X.env.locals=none
 freeC:∀x c,X.env.cells.lookup x=some c->H c=none
 pin:∀p∈X.pn++ag,s.heap.get? p.1=some p.2/\H p.1=none/\p.1≠X.env.locals/\p.1∉X.fs/\∀v,p.2.data≠.cell v
 hok:cF X.prog X.w H s.heap
 len:σ.length=X.N.length
section
variable {X:Cx}{ag:List (ax×Obj)}{σ:List (Option V)}{H H':Hp}{s:aw}{h':Heap}
theorem Cx.Ok.nofr (ok:X.Ok){b:ax}{o:Obj}(e:X.base.get? b=some o):b∉X.fs:=λhb=>by
 have:=(ok.funs.mem hb).1
 rw[e]at this;cases this
theorem aA.bs (I:aA X ag σ H s):∀b o,X.base.get? b=some o->s.heap.get? b=some o/\H b=none:=λb o e=>
 ⟨I.base.keep b o (I.ok.bs b o e).1 (I.ok.bs b o e).2 (I.ok.nofr e) (I.ok.noex b o e),I.base.free b o (I.ok.bs b o e).1 (I.ok.bs b o e).2 (I.ok.noex b o e)⟩
theorem aA.bk (I:aA X ag σ H s):∀b o,X.base.get? b=some o->s.heap.get? b=some o:=λb o e=>(I.bs b o e).1
theorem aA.mod (I:aA X ag σ H s):Mod X.K X.mg X.base:=I.ok.mod
theorem aA.kIn (I:aA X ag σ H s):X.K.In s.heap:=I.ok.mod.kin.keeps I.bk
theorem aA.fr (I:aA X ag σ H s):∃m,Fr X.base X.env.locals s.heap m:=
 let ⟨m,hn,_⟩:=I.loc
 ⟨m,hn,I.bk,bA9 I.ok.bsz I.ok.above⟩
theorem aA.lt (I:aA X ag σ H s):X.env.locals<s.heap.objs.size:=let ⟨_,hn,_⟩:=I.loc;hn.lt
theorem aA.sz (I:aA X ag σ H s):X.s₀.heap.objs.size<=s.heap.objs.size:=bA9 I.ok.above (bE3 I.lt)
theorem aA.nofs (I:aA X ag σ H s){a:ax}(h:s.heap.objs.size<=a):a∉X.fs:=λhb=>by
 obtain⟨_,o,ho,_⟩:=I.ok.funs.mem hb
 exact absurd (bz6 (by8 ho) (bA9 I.sz h)) (bE5 _)
theorem aA.cne (I:aA X ag σ H s):∀x c,X.env.cells.lookup x=some c->c≠X.env.locals:=λx c e z=>by
 obtain⟨v,o,ho,hd⟩:=I.cell x c e
 obtain⟨m,⟨o',es,ep,ho',hd',_⟩,_⟩:=I.loc
 rw[z,ho']at ho;cases ho;rw[hd']at hd;cases hd
theorem aA.funs (I:aA X ag σ H s):s.heap.FunFrames X.base X.outer:=by
 have all:∀(l:List Env),(∀b∈cE l,b∈X.fs)->X.s₀.heap.FunFrames X.base l->s.heap.FunFrames X.base l:=by
  intro l
  induction l with
  |nil=>intro _ _;trivial
  |cons env r ih=>
   intro hs hl
   obtain⟨hk,⟨L,o,hf,hn,ho,hd⟩,hr⟩:=hl
   have hL:L∈X.fs:=hs L (by unfold cE;rw[List.filterMap_cons,hf];exact bz8)
   obtain⟨sl,e⟩:=I.base.slot L o ho (I.ok.frf L hL) hL λz=>I.ok.exfs L z hL
   exact⟨hk,⟨L,_,hf,hn,e,hd⟩,ih (λb hb=>hs b (by unfold cE;rw[List.filterMap_cons,hf];exact bz9 _ hb)) hr⟩
 exact all X.outer (λ_ hb=>hb) I.ok.funs
theorem aA.stack (I:aA X ag σ H s):s.heap.FunFrames X.base X.stack:=by
 rcases I.ok.stk with e|⟨e,hf⟩
 ·rw[e];exact I.funs
 ·rw[e]
  obtain⟨m,hn,_⟩:=I.loc
  refine .cons (by rw[I.ok.kind];decide) hf hn ?_ I.funs;exact Heap.get?_none_of_le (bA9 I.ok.bsz I.ok.above)
theorem aA.stkSub (I:aA X ag σ H s):∀b∈cE X.stack,b∈X.env.locals::X.fs:=λb hb=>by
 rcases I.ok.stk with e|⟨e,hf⟩
 ·rw[e]at hb;exact bz9 _ hb
 ·rw[e]at hb
  unfold cE at hb;rw[List.filterMap_cons,hf]at hb;exact hb
theorem aA.stkFree (I:aA X ag σ H s):∀b∈cE X.stack,H b=none:=λb hb=>by
 rcases by2.mp (I.stkSub b hb) with e|hb
 ·rw[e];exact I.free
 ·obtain⟨_,o,ho,_⟩:=I.ok.funs.mem hb
  exact I.base.free b o ho (I.ok.frf b hb) λz=>I.ok.exfs b z hb
theorem aA.step {g':Array GenState}{t':Nat}{d':Drawn}{ch:List ax}(I:aA X ag σ H s)(hch:∀b∈ch,(b∈X.ex∨X.s₀.heap.objs.size<=b)/\b≠X.env.locals/\(∀x c,X.env.cells.lookup x=some c->c≠b)/\∀p∈X.pn++ag,p.1≠b)(keep:∀b o,b≠X.env.locals->b∉X.fs->b∉ch->s.heap.get? b=some o->H b=none->h'.get? b=some o)(slot:∀b o,b≠X.env.locals->b∈X.fs->b∉ch->s.heap.get? b=some o->H b=none->∃sl,h'.get? b=some { o with slots:=sl })(free:∀b o,b∉ch->s.heap.get? b=some o->H b=none->H' b=none)(there:∀b o,b∉ch->s.heap.get? b=some o->∃o',h'.get? b=some o')(tups:∀b xs,H b=some (.tup xs)->H' b=some (.tup xs))(frzs:∀b o u,H b=some (.frz o u)->H' b=some (.frz o u))(tbls:∀b ps,H b=some (.tbl ps)->∃more,H' b=some (.tbl (ps++more)))(ns:∀m,s.heap.Ns X.env.locals m->h'.Ns X.env.locals m)(hok:cF X.prog X.w H' h')(hg:AllBare g') :
  aA X ag σ H' { s with heap:=h',gens:=g',drawn:=d',toks:=t' }:=by
 have neL:∀b o,X.s₀.heap.get? b=some o->b≠X.env.locals:=λb o e=>bA8 (bz6 (by8 e) I.ok.above)
 have neC:∀b o,X.s₀.heap.get? b=some o->b∉X.ex->b∉ch:=λb o e hx hb=>by
  rcases (hch b hb).1 with z|z
  ·exact hx z
  ·exact absurd (bz6 (by8 e) z) (bE5 _)
 have cellK:∀x c,X.env.cells.lookup x=some c->∀v,s.heap.IsCell c v->h'.IsCell c v:=λx c e v ⟨o,ho,hd⟩=>by
  have nch:c∉ch:=λz=>(hch c z).2.2.1 x c e rfl
  by_cases hc:c∈X.fs
  ·obtain⟨sl,q⟩:=slot c o (I.cne x c e) hc nch ho (I.freeC x c e)
   exact⟨_,q,hd⟩
  ·exact⟨o,keep c o (I.cne x c e) hc nch ho (I.freeC x c e),hd⟩
 refine⟨I.ok,I.os,hg,⟨λb o e n hb hx=>?_,λb o e n hb hx=>?_,λb o e n hx=>?_,λb o e hx=>?_,λb xs e=>tups b xs (I.base.tups b xs e),λb o xs e=>frzs b o xs (I.base.frzs b o xs e),λb ps e=>?_⟩,?_,λx c e=>?_,?_,λx c e=>?_,λp hp=>?_,hok,I.len⟩
 ·exact keep b o (neL b o e) hb (neC b o e hx) (I.base.keep b o e n hb hx) (I.base.free b o e n hx)
 ·obtain⟨sl,e1⟩:=I.base.slot b o e n hb hx
  obtain⟨sl',e2⟩:=slot b _ (neL b o e) hb (neC b o e hx) e1 (I.base.free b o e n hx)
  exact⟨sl',e2⟩
 ·obtain⟨o',e1⟩:=I.base.there b o e hx
  exact free b o' (neC b o e hx) e1 (I.base.free b o e n hx)
 ·obtain⟨o',e1⟩:=I.base.there b o e hx
  exact there b o' (neC b o e hx) e1
 ·obtain⟨m1,e1⟩:=I.base.tbls b ps e
  obtain⟨m2,e2⟩:=tbls b _ e1
  exact⟨m1++m2,by rw[e2,Array.append_assoc]⟩
 ·obtain⟨m,hn,hl⟩:=I.loc
  refine⟨m,ns m hn,λi x v e1 e2 e3=>?_⟩
  obtain⟨u,r,l⟩:=hl i x v e1 e2 e3
  refine⟨u,r,?_⟩;rcases l with l|⟨k,c,e,z⟩
  ·exact .inl l
  ·exact .inr ⟨k,c,e,cellK x c e _ z⟩
 ·obtain⟨v,z⟩:=I.cell x c e
  exact⟨v,cellK x c e v z⟩
 ·obtain⟨m,⟨o,_,_,ho,_⟩,_⟩:=I.loc
  exact free _ o (λz=>(hch _ z).2.1 rfl) ho I.free
 ·obtain⟨v,o,ho,hd⟩:=I.cell x c e
  exact free c o (λz=>(hch c z).2.2.1 x c e rfl) ho (I.freeC x c e)
 ·obtain⟨e,n,ne,nf,d⟩:=I.pin p hp
  have nch:p.1∉ch:=λz=>(hch p.1 z).2.2.2 p hp rfl
  exact⟨keep p.1 p.2 ne nf nch e n,free p.1 p.2 nch e n,ne,nf,d⟩
theorem aA.un {t':Nat}(I:aA X ag σ H s)(u:Un X.fs [] H H' s.heap h')(hok:cF X.prog X.w H' h'):aA X ag σ H' { s with heap:=h',toks:=t' }:=by
 obtain⟨m,⟨o,es,ep,ho,r⟩,_⟩:=id I.loc
 obtain⟨sl,hL⟩:=u.any ho I.free (by simp)
 exact I.step (g':=s.gens) (d':=s.drawn) (ch:=[]) (λ_ z=>nomatch z) (λb o _ hb _ e n=>u.keep b o e n hb (by simp)) (λb o _ hb _ e n=>u.slot b o e n hb (by simp)) (λb o _ e n=>u.free b o e n (by simp)) (λb o _ e=>u.there b o e (by simp)) u.tups u.frzs u.tbls (λm' hm=>by
  obtain⟨o',es',ep',ho',r'⟩:=hm
  rw[ho]at ho';cases ho'
  exact⟨_,es',ep',hL,r'⟩) hok I.bare
theorem aA.call {g':Array GenState}{t':Nat}{d':Drawn}{ch:List ax}(I:aA X ag σ H s)(u:Un (cE X.stack) ch H H' s.heap h')(hok:cF X.prog X.w H' h')(hg:AllBare g')(hch:∀b∈ch,(b∈X.ex∨X.s₀.heap.objs.size<=b)/\b≠X.env.locals/\(∀x c,X.env.cells.lookup x=some c->c≠b)/\∀p∈X.pn++ag,p.1≠b) :
  aA X ag σ H' { s with heap:=h',gens:=g',drawn:=d',toks:=t' }:=by
 obtain⟨m,⟨o,es,ep,ho,r⟩,_⟩:=id I.loc
 obtain⟨sl,hL⟩:=u.any ho I.free λz=>(hch _ z).2.1 rfl
 exact I.step (ch:=ch) hch (λb o hL hb hc e n=>u.keep b o e n (λz=>(by2.mp (I.stkSub b z)).elim hL hb) hc) (λb o _ _ hc e n=>u.any e n hc) (λb o hc e n=>u.free b o e n hc) (λb o hc e=>u.there b o e hc) u.tups u.frzs u.tbls (λm' hm=>by
  obtain⟨o',es',ep',ho',r'⟩:=hm
  rw[ho]at ho';cases ho'
  exact⟨_,es',ep',hL,r'⟩) hok hg
theorem aA.turned {t':Nat}{it:ax}(I:aA X ag σ H s)(k:∀b o,b≠it->s.heap.get? b=some o->h'.get? b=some o)(hn:H it=none)(hL:it≠X.env.locals)(h1:it∈X.ex∨X.s₀.heap.objs.size<=it)(h2:∀x c,X.env.cells.lookup x=some c->c≠it)(h3:∀p∈X.pn++ag,p.1≠it):aA X ag σ H { s with heap:=h',toks:=t' }:=by
 have nit:∀b u,H b=some u->b≠it:=λb u e z=>by rw[z,hn]at e;cases e
 refine I.step (g':=s.gens) (d':=s.drawn) (ch:=[it]) (λb hb=>?_) (λb o _ _ hc e _=>k b o (λz=>hc (by simp[z])) e) (λb o _ _ hc e _=>⟨o.slots,k b o (λz=>hc (by simp[z])) e⟩) (λ_ _ _ _ n=>n)
  (λb o hc e=>⟨o,k b o (λz=>hc (by simp[z])) e⟩) (λ_ _ e=>e) (λ_ _ _ e=>e) (λb ps e=>⟨#[],by rw[e];simp⟩) (λm hm=>?_) (λb u e=>?_) I.bare
 ·have e:b=it:=by simpa using hb
  subst e
  exact⟨h1,hL,h2,h3⟩
 ·obtain⟨o,es,ep,ho,r⟩:=hm
  exact⟨o,es,ep,k _ o (Ne.symm hL) ho,r⟩
 ·refine (I.hok b u e).stay (λc v hc q=>k c v ?_ q) (λ_ q=>q) λ_ _ q=>q
  rcases hc with z|z
  ·rw[z];exact nit b u e
  ·exact nit c _ z
theorem aA.tok (I:aA X ag σ H s)(t:Nat):aA X ag σ H { s with toks:=t }:=I.un (h':=s.heap) (t':=t) Un.refl I.hok
theorem aA.kept {t':Nat}(I:aA X ag σ H s)(k:∀b u,s.heap.get? b=some u->h'.get? b=some u):aA X ag σ H { s with heap:=h',toks:=t' }:=I.un (Un.kept k) (I.hok.kept k)
theorem aA.laid {a:ax}{o:HO}{t':Nat}(I:aA X ag σ H s)(k:∀b u,s.heap.get? b=some u->h'.get? b=some u)(hp:s.heap.objs.size<=a)(new:cV X.prog X.w (upd H a o) h' a o) :
  aA X ag σ (upd H a o) { s with heap:=h',toks:=t' }:=I.un (Un.laid k hp (I.hok.fresh hp)) (I.hok.laid k hp new)
theorem aA.write {x e:ax}{o:HO}{t':Nat}(I:aA X ag σ H s)(mu:pS (H x))(he:e=x∨H e=some (.own x))(k:∀b u,b≠e->s.heap.get? b=some u->h'.get? b=some u)(heo:∃u,h'.get? e=some u)(new:cV X.prog X.w (upd H x o) h' x o):aA X ag σ (upd H x o) { s with heap:=h',toks:=t' }:=I.un (Un.write mu he k heo) (I.hok.write mu he k heo new)
theorem aA.weak {σ':List (Option V)}(I:aA X ag σ H s)(hl:σ'.length=σ.length)(w:∀(i:Nat) v,σ'[i]? = some (some v)->σ[i]? = some (some v)):aA X ag σ' H s:=
 ⟨I.ok,I.os,I.bare,I.base,let ⟨m,hn,hl'⟩:=I.loc;⟨m,hn,λi x v e1 e2 e3=>hl' i x v e1 (w i v e2) e3⟩,I.cell,I.free,I.freeC,I.pin,I.hok,hl.trans I.len⟩
theorem aA.pins_of {pins':List (ax×Obj)}(I:aA X ag σ H s)(h:∀p∈pins',s.heap.get? p.1=some p.2/\H p.1=none/\p.1≠X.env.locals/\p.1∉X.fs/\∀v,p.2.data≠.cell v):aA X pins' σ H s:=
 ⟨I.ok,I.os,I.bare,I.base,I.loc,I.cell,I.free,I.freeC,λp hp=>(bB3.mp hp).elim (λz=>I.pin p (bL8 _ z)) (h p),I.hok,I.len⟩
theorem L1 {N:List Str}(hN:N.Nodup){i j:Nat}{x:Str}(a:N[i]? = some x)(b:N[j]? = some x):i=j:=by
 obtain⟨h1,e1⟩:=by4.mp a
 obtain⟨h2,e2⟩:=by4.mp b
 exact (List.getElem_inj hN).mp (e1.trans e2.symm)
theorem L3 {M:Model}{A:az}{E:av->aw->Prop}{i:Nat}{x:Str}{v:V}{u:av}{Q:Unit->aw->Prop}(I:aA X ag σ H s)(hN:X.N.Nodup)(hi:X.N[i]? = some x)(hx:gQ X.env.scope x)(r:b7 v u)(h:∀s',aA X ag (σ.set i (some v)) H s'->(∃a,Heap.SameBut a s.heap s'.heap/\(a=X.env.locals∨X.env.cells.lookup x=some a))->Q () s')(hf:X.fn x=true∨X.env.scope.names.lookup x=some .local:=by first|exact .inl rfl|exact .inr rfl|assumption):wpAny M A (storeName X.env x u) Q E s:=by
 obtain⟨m,hn,hl⟩:=id I.loc
 have hcls:(X.env.scope.kind==.class||(X.env.scope.kind==.module&&X.env.locals != X.env.globals))=false:=by rw[I.ok.kind];rfl
 have hiσ:i<σ.length:=by rw[I.len];exact (by4.mp hi).1
 have cne:=I.cne;have tracked:∀{a:ax}{h':Heap},(∃o,s.heap.get? a=some o/\H a=none)->Heap.SameBut a s.heap h'->cF X.prog X.w H h':=λ{a h'} ha hs b ob e=>by
  obtain⟨_,_,hfree⟩:=ha
  refine (I.hok b ob e).stay (λc w' hc q=>(hs.2 c ?_).trans q) (λ_ q=>q) λ_ _ q=>q
  rintro rfl;rcases hc with rfl|hc
  ·rw[hfree]at e;cases e
  ·rw[hfree]at hc;cases hc
 rcases hx with hk|hk
 ·refine wpAny_storeName_local hk hn (λh' hn' hs=>?_) hcls
  obtain⟨oL,_,_,hoL,_⟩:=id hn
  refine h _ ⟨I.ok,I.os,I.bare,⟨λb o e n hb hx=>?_,λb o e n hb hx=>?_,I.base.free,λb o e hx=>?_,I.base.tups,I.base.frzs,I.base.tbls⟩,⟨_,hn',λj y v' e1 e2 e3=>?_⟩,λy c e=>?_,I.free,I.freeC,λp hp=>?_,tracked ⟨oL,hoL,I.free⟩ hs,by simpa using I.len⟩ ⟨_,hs,.inl rfl⟩
  ·exact (hs.2 b (bA8 (bz6 (by8 e) I.ok.above))).trans (I.base.keep b o e n hb hx)
  ·obtain⟨sl,e1⟩:=I.base.slot b o e n hb hx
   exact⟨sl,(hs.2 b (bA8 (bz6 (by8 e) I.ok.above))).trans e1⟩
  ·obtain⟨o',e1⟩:=I.base.there b o e hx
   exact⟨o',(hs.2 b (bA8 (bz6 (by8 e) I.ok.above))).trans e1⟩
  ·by_cases hj:j=i
   ·subst hj
    rw[hi]at e1;cases e1;rw[bC9 hiσ]at e2;cases e2
    exact⟨u,r,.inl ⟨hk,by simp⟩⟩
   ·rw[bA1 (Ne.symm hj)]at e2
    obtain⟨u',r',q⟩:=hl j y v' e1 e2 e3
    refine⟨u',r',?_⟩;rcases q with⟨k,e⟩|⟨k,c,e,z⟩
    ·refine .inl ⟨k,?_⟩
     have:y≠x:=λe=>hj (L1 hN e1 (e▸hi))
     simp[this,e]
    ·exact .inr ⟨k,c,e,z.sameBut hs (cne y c e)⟩
  ·obtain⟨w',z⟩:=I.cell y c e
   exact⟨w',z.sameBut hs (cne y c e)⟩
  ·obtain⟨e,n,ne,nf,d⟩:=I.pin p hp
   exact⟨(hs.2 p.1 ne).trans e,n,ne,nf,d⟩
 ·have hfn:X.fn x=true:=by
   rcases hf with z|z
   ·exact z
   ·rw[z]at hk;cases hk
  obtain⟨c,hc⟩:=I.ok.has x (.inl hk)
  obtain⟨w',z⟩:=I.cell x c hc
  refine wpAny_storeName_cell I.ok.kind hk hc z (λh' hc' hs=>?_)
  obtain⟨oc,hoc,hocd⟩:=id z
  refine h { s with heap:=h' } ⟨I.ok,I.os,I.bare,⟨λb o e n hb hx=>?_,λb o e n hb hx=>?_,I.base.free,λb o e hx=>?_,I.base.tups,I.base.frzs,I.base.tbls⟩,⟨m,hn.sameBut hs (Ne.symm (cne x c hc)),λj y v' e1 e2 e3=>?_⟩,λy c' e=>?_,I.free,I.freeC,λp hp=>?_,tracked ⟨oc,hoc,I.freeC x c hc⟩ hs,by simpa using I.len⟩ ⟨c,hs,.inr hc⟩
  ·exact (hs.2 b (bA8 (bz6 (by8 e) (I.ok.cab x c hfn hc)))).trans (I.base.keep b o e n hb hx)
  ·obtain⟨sl,e1⟩:=I.base.slot b o e n hb hx
   exact⟨sl,(hs.2 b (bA8 (bz6 (by8 e) (I.ok.cab x c hfn hc)))).trans e1⟩
  ·obtain⟨o',e1⟩:=I.base.there b o e hx
   exact⟨o',(hs.2 b (bA8 (bz6 (by8 e) (I.ok.cab x c hfn hc)))).trans e1⟩
  ·by_cases hj:j=i
   ·subst hj
    rw[hi]at e1;cases e1;rw[bC9 hiσ]at e2;cases e2
    exact⟨u,r,.inr ⟨.inl hk,c,hc,hc'⟩⟩
   ·rw[bA1 (Ne.symm hj)]at e2
    obtain⟨u',r',q⟩:=hl j y v' e1 e2 e3
    refine⟨u',r',?_⟩;rcases q with q|⟨k,c',e,z'⟩
    ·exact .inl q
    ·refine .inr ⟨k,c',e,z'.sameBut hs ?_⟩
     rintro rfl;exact hj (L1 hN e1 (I.ok.inj _ _ _ e hc▸hi))
  ·by_cases hcc:c'=c
   ·subst hcc;exact⟨_,hc'⟩
   ·obtain⟨w2,z2⟩:=I.cell y c' e
    exact⟨w2,z2.sameBut hs hcc⟩
  ·obtain⟨e,n,ne,nf,d⟩:=I.pin p hp
   refine⟨(hs.2 p.1 ?_).trans e,n,ne,nf,d⟩;intro q;rw[q,hoc]at e;have q':oc=p.2:=bz3 e;exact d w' (by rw[<- q'];exact hocd)
theorem wI {M:Model}{A:az}{E:av->aw->Prop}{i:Nat}{x:Str}{v:V}{u:av}{Q:Unit->aw->Prop}(I:aA X ag σ H s)(hN:X.N.Nodup)(hi:X.N[i]? = some x)(hx:gQ X.env.scope x)(r:b7 v u)(h:∀s',aA X ag (σ.set i (some v)) H s'->Q () s')(hf:X.fn x=true∨X.env.scope.names.lookup x=some .local:=by first|exact .inl rfl|exact .inr rfl|assumption):wpAny M A (storeName X.env x u) Q E s:=
 L3 I hN hi hx r (λs' I' _=>h s' I') hf
theorem aA.call' {s':aw}{ch:List ax}(I:aA X ag σ H s)(ho:s'.os=s.os)(u:Un (cE X.stack) ch H H' s.heap s'.heap)(hok:cF X.prog X.w H' s'.heap)(hg:AllBare s'.gens)(hch:∀b∈ch,(b∈X.ex∨X.s₀.heap.objs.size<=b)/\b≠X.env.locals/\(∀x c,X.env.cells.lookup x=some c->c≠b)/\∀p∈X.pn++ag,p.1≠b):aA X ag σ H' s':=by
 obtain⟨h',g',d',t',o'⟩:=s'
 have e:o'=s.os:=ho;subst e;exact I.call (g':=g') (t':=t') (d':=d') u hok hg hch
end
abbrev XK:=av->Option ax->Hp->Prop
abbrev St:=List (Option V)
abbrev VK:=V->Hp->Prop
abbrev TE:=St->Hp->VK->Prop
abbrev TT:=St->Hp->(Bool->Hp->Prop)->Prop
abbrev TA:=St->Hp->(List V->Hp->Prop)->Prop
structure cB where
 nx:St->Hp->Prop
 rt:VK
 bk:St->Hp->Prop:=λ_ _=>False
 ct:St->Hp->Prop:=λ_ _=>False
abbrev TS:=cB->St->Hp->Prop
def EP (X:Cx)(ag:List (ax×Obj))(σ:St)(Q:VK)(u:av)(s':aw):Prop:=∃v H',aA X ag σ H' s'/\b7 v u/\Q v H'
def TP (X:Cx)(ag:List (ax×Obj))(σ:St)(Q:Bool->Hp->Prop)(b:Bool)(s':aw):Prop:=∃H',aA X ag σ H' s'/\Q b H'
def AP (X:Cx)(ag:List (ax×Obj))(σ:St)(Q:List V->Hp->Prop)(us:List av)(s':aw):Prop:=∃vs H',aA X ag σ H' s'/\aX vs us/\Q vs H'
def SP (X:Cx)(ag:List (ax×Obj))(D:cB)(f:Flow)(s':aw):Prop:=
 match f with
 |.next=>∃σ' H',aA X ag σ' H' s'/\D.nx σ' H'
 |.brk=>∃σ' H',aA X ag σ' H' s'/\D.bk σ' H'
 |.cont=>∃σ' H',aA X ag σ' H' s'/\D.ct σ' H'
 |.ret u=>∃v σ' H',aA X ag σ' H' s'/\b7 v u/\D.rt v H'
def PE (X:Cx)(e:Expr)(t:TE):Prop:=
 ∀(ag:List (ax×Obj)) (s:aw) (σ:St) (H:Hp) (Q:VK),aA X ag σ H s->t σ H Q->wpAny (model X.prog X.w) X.A (eval e X.env) (EP X ag σ Q) X.xe s
def PT (X:Cx)(e:Expr)(t:TT):Prop:=
 ∀(ag:List (ax×Obj)) (s:aw) (σ:St) (H:Hp) (Q:Bool->Hp->Prop),aA X ag σ H s->t σ H Q->wpAny (model X.prog X.w) X.A (isTrue e X.env (eval e X.env)) (TP X ag σ Q) X.xe s
def PW (X:Cx)(e:Expr)(t:TT):Prop:=
 ∀(whole:Sem av) (ag:List (ax×Obj)) (s:aw) (σ:St) (H:Hp) (Q:Bool->Hp->Prop),aA X ag σ H s->t σ H Q->wpAny (model X.prog X.w) X.A (isTrue e X.env whole) (TP X ag σ Q) X.xe s
theorem PW.pt {X:Cx}{e:Expr}{t:TT}(h:PW X e t):PT X e t:=h _
def PA (X:Cx)(es:List Expr)(t:TA):Prop:=
 ∀(pos:Pos) (ag:List (ax×Obj)) (s:aw) (σ:St) (H:Hp) (Q:List V->Hp->Prop),aA X ag σ H s->t σ H Q->wpAny (model X.prog X.w) X.A (spliced (backTo pos (starEach es X.env))) (AP X ag σ Q) X.xe s
def PS (X:Cx)(st:Stmt)(t:TS):Prop:=
 ∀(ag:List (ax×Obj)) (s:aw) (σ:St) (H:Hp) (D:cB),aA X ag σ H s->t D σ H->wpAny (model X.prog X.w) X.A (exec st X.env) (SP X ag D) X.xe s
def dW (X:Cx)(st:List Stmt)(t:TS):Prop:=
 ∀(ag:List (ax×Obj)) (s:aw) (σ:St) (H:Hp) (D:cB),aA X ag σ H s->t D σ H->wpAny (model X.prog X.w) X.A (execs st X.env) (SP X ag D) X.xe s
theorem aP {α:Type}{t:Sem α}{Q Q':α->aw->Prop}{M:Model}{A:az}{E:av->aw->Prop}{s:aw}(h:wpAny M A t Q E s)(hQ:∀a s,Q a s->Q' a s):wpAny M A t Q' E s:=bG1 h hQ λ_ _ x=>x
section
variable {X:Cx}
theorem bin {a b:Expr}{ta tb:TE}(ha:PE X a ta)(hb:PE X b tb){ag:List (ax×Obj)}{s:aw}{σ:St}{H:Hp}{R:V->V->Hp->Prop}(I:aA X ag σ H s)(h:ta σ H λx H1=>tb σ H1 λy H2=>R x y H2){α:Type}{Q:α->aw->Prop}{f:av->av->Sem α}(hf:∀v u s2 x y H2,aA X ag σ H2 s2->b7 x v->b7 y u->R x y H2->wpAny (model X.prog X.w) X.A (f v u) Q X.xe s2) :
  wpAny (model X.prog X.w) X.A (eval a X.env) (λv s₁=>wpAny (model X.prog X.w) X.A (eval b X.env) (λu s₂=>wpAny (model X.prog X.w) X.A (f v u) Q X.xe s₂) X.xe s₁) X.xe s:=by
 refine aP (ha ag s σ H _ I h) λv s1 ⟨x,H1,I1,r1,q1⟩=>?_
 refine aP (hb ag s1 σ H1 _ I1 q1) λu s2 ⟨y,H2,I2,r2,q2⟩=>?_
 exact hf v u s2 x y H2 I2 r1 r2 q2
def eQ (i:Nat):TE:=λσ H Q=>∃v,σ[i]? = some (some v)/\Q v H
def tC (v:V):TE:=λ_ H Q=>Q v H
theorem dI {i:Nat}{x:Str}{pos:Pos}(hN:X.N[i]? = some x)(hv:cK X.env.scope x)(hd:(x==("__debug__":Str))=false:=by decide)(hcd:(x==("__classdict__":Str))=false:=by decide):PE X (.Name x pos) (eQ i):=by
 intro ag s σ H Q I h
 obtain⟨v,e,h⟩:=h
 obtain⟨m,hn,hl⟩:=I.loc
 obtain⟨u,r,l⟩:=hl i x v hN e hv
 have fin:EP X ag σ Q u s:=⟨v,H,I,r,h⟩;rcases l with⟨hk,hm⟩|⟨hk,c,hc,hcell⟩
 ·exact wpAny_Name (wpAny_loadName_local I.ok.kind hk hn hm fin) hd
 ·rcases hk with hk|hk
  ·exact wpAny_Name (wpAny_loadName_cell I.ok.kind hk hc hcell fin) hd
  ·exact wpAny_Name (wpAny_loadName_free I.ok.kind hk hc hcell fin hcd) hd
theorem pT {i j pos}:PE X (.Constant (.int i) j pos) (tC (.int i)):=λ_ _ _ H _ I h=>wpAny_Constant_int ⟨.int i,H,I.tok _,⟨_,rfl⟩,h⟩
theorem ax5 {b j pos}:PE X (.Constant (.bool b) j pos) (tC (.bl b)):=λ_ _ _ H _ I h=>Constant_bool ⟨.bl b,H,I,rfl,h⟩
theorem ax6 {j pos}:PE X (.Constant .none j pos) (tC .non):=λ_ _ _ H _ I h=>Constant_none ⟨.non,H,I,rfl,h⟩
theorem ax7 {x j pos}:PE X (.Constant (.str x) j pos) (tC (.str x)):=λ_ _ _ H _ I h=>Calls.Constant_str ⟨.str x,H,I.tok _,⟨_,rfl⟩,h⟩
def Gl (X:Cx)(x:Str):Prop:=X.env.kindOf x=some .globalImplicit
theorem pU {E:av->aw->Prop}{ag:List (ax×Obj)}{s:aw}{σ:St}{H:Hp}{x:Str}{u:av}{pos:Pos}{Q:av->aw->Prop}(I:aA X ag σ H s)(hg:Gl X x)(hm:X.mg x=some u)(h:Q u s)(hd:(x==("__debug__":Str))=false:=by decide):wpAny (model X.prog X.w) X.A (eval (.Name x pos) X.env) Q E s:=
 Calls.Name_function_global I.ok.kind hg (Calls.loadGlobal_global (by rw[I.ok.glob];exact I.mod.glob.keeps I.bk) hm h) hd
theorem mH {E:av->aw->Prop}{ag:List (ax×Obj)}{s:aw}{σ:St}{H:Hp}{x:Str}{u:av}{pos:Pos}{Q:av->aw->Prop}(I:aA X ag σ H s)(hg:Gl X x)(hm:X.mg x=none)(hv:bootBuiltins x=some u)(h:Q u s)(hn:x≠"__name__":=by decide)(hd:(x==("__debug__":Str))=false:=by decide):wpAny (model X.prog X.w) X.A (eval (.Name x pos) X.env) Q E s:=by
 obtain⟨mb,h1,h2⟩:=I.mod.blt
 exact Calls.Name_function_global I.ok.kind hg (Calls.loadGlobal_builtin (by rw[I.ok.glob];exact I.mod.glob.keeps I.bk) hm (by rw[I.ok.blt];exact h1.keeps I.bk) ((h2 x hn).trans hv) h) hd
theorem L4 {x:Str}{v:V}{u:av}{pos:Pos}(hg:Gl X x)(hm:X.mg x=some u)(r:b7 v u)(hd:(x==("__debug__":Str))=false:=by decide):PE X (.Name x pos) (tC v):=
 λ_ _ _ H _ I h=>pU I hg hm ⟨v,H,I,r,h⟩ hd
variable {a b:Expr}{ta tb:TE}{pos:Pos}
def PC (X:Cx)(op:CmpOp)(a b:Expr)(t:TE):Prop:=
 ∀(ag:List (ax×Obj)) (s:aw) (σ:St) (H:Hp) (Q:VK),aA X ag σ H s->t σ H Q->
  wpAny (model X.prog X.w) X.A (eval a X.env) (λv s₁=>wpAny (model X.prog X.w) X.A (eval b X.env) (λu s₂=>wpAny (model X.prog X.w) X.A (compareOp op v u) (EP X ag σ Q) X.xe s₂) X.xe s₁) X.xe s
def tB (t:TE):TT:=λσ H Q=>t σ H λx H1=>∃c,x = .bl c/\Q c H1
theorem ax8 {op:CmpOp}{t:TE}(h:PC X op a b t)(h1:behindInMarks op b=false:=by first|exact nobehind _ (by decide) (by decide)|rfl):PE X (.Compare a [op] [b] pos) t:=λag s σ H Q I hw=>wpAny_Compare1 (h ag s σ H Q I hw) h1
theorem L5 {op:CmpOp}{t:TE}(h:PC X op a b t)(h1:behindInMarks op b=false:=by first|exact nobehind _ (by decide) (by decide)|rfl):PT X (.Compare a [op] [b] pos) (tB t):=by
 intro ag s σ H Q I hw;refine wpAny_isTrue_Compare1 (aP (h ag s σ H _ I hw) λv s1 h1=>aP h1 λu s2 h2=>aP h2 λc s3 ⟨x,H1,I1,r1,q1⟩=>?_) h1
 obtain⟨d,rfl,q⟩:=q1
 cases r1;exact bL9 ⟨H1,I1,q⟩
theorem ax9 {e:Expr}{t:TE}(h:PE X e t)(he:∀whole,isTrue e X.env whole=(do let v <- whole;standAt e.pos;holding [v] (truthy v)):=by intro _;rfl):PT X e (tB t):=by
 intro ag s σ H Q I hw;refine isTrue_plain (aP (h ag s σ H _ I hw) λv s1 ⟨x,H1,I1,r1,q1⟩=>?_) (he _)
 obtain⟨d,rfl,q⟩:=q1
 cases r1;exact bL9 ⟨H1,I1,q⟩
variable {tA tB':TT}{d6:List Expr}
def L6 (t u:TT):TT:=λσ H Q=>t σ H λc H1=>if c=true then u σ H1 Q else Q false H1
def L7 (t u:TT):TT:=λσ H Q=>t σ H λc H1=>if c=true then Q true H1 else u σ H1 Q
def L8 (t:TT):TT:=λσ H Q=>t σ H λc H1=>Q (!c) H1
theorem ay0 (ha:PT X a tA):PW X (.BoolOp .And [a] pos) tA:=by
 intro wh ag s σ H Q I h;refine isTrue_and (aP (ha ag s σ H Q I h) λc s1 e=>?_);cases c with
 |true=>exact isTrue_and_nil e
 |false=>exact e
theorem ay1 (ha:PT X a tA):PW X (.BoolOp .Or [a] pos) tA:=by
 intro wh ag s σ H Q I h;refine isTrue_or (aP (ha ag s σ H Q I h) λc s1 e=>?_);cases c with
 |false=>exact isTrue_or_nil e
 |true=>exact e
theorem ay2 (ha:PT X a tA)(hb:PW X (.BoolOp .And (b::d6) pos) tB'):PW X (.BoolOp .And (a::b::d6) pos) (L6 tA tB'):=by
 intro wh ag s σ H Q I h;refine isTrue_and (aP (ha ag s σ H _ I h) λc s1 ⟨H1,I1,q1⟩=>?_);cases c with
 |true=>exact hb wh ag s1 σ H1 Q I1 q1
 |false=>exact⟨H1,I1,q1⟩
theorem ay3 (ha:PT X a tA)(hb:PW X (.BoolOp .Or (b::d6) pos) tB'):PW X (.BoolOp .Or (a::b::d6) pos) (L7 tA tB'):=by
 intro wh ag s σ H Q I h;refine isTrue_or (aP (ha ag s σ H _ I h) λc s1 ⟨H1,I1,q1⟩=>?_);cases c with
 |true=>exact⟨H1,I1,q1⟩
 |false=>exact hb wh ag s1 σ H1 Q I1 q1
theorem ay4 (ha:PT X a tA):PT X (.UnaryOp .Not a pos) (L8 tA):=by
 intro ag s σ H Q I h;exact isTrue_not (ha ag s σ H (λc H1=>Q (!c) H1) I h)
def L9 (ta tb:TE):TE:=λσ H Q=>ta σ H λx H1=>∃c,x = .bl c/\if c=true then tb σ H1 Q else Q (.bl false) H1
theorem ay5 {op}{t:TE}(h:PE X a t):PE X (.BoolOp op [a] pos) t:=λag s σ H Q I hw=>BoolOp_one (h ag s σ H Q I hw)
theorem ay6 (ha:PE X a ta)(hb:PE X (.BoolOp .And (b::d6) pos) tb):PE X (.BoolOp .And (a::b::d6) pos) (L9 ta tb):=by
 intro ag s σ H Q I h;refine BoolOp_and (aP (ha ag s σ H _ I h) λv s1 ⟨x,H1,I1,r1,q1⟩=>?_)
 obtain⟨c,rfl,q1⟩:=q1
 cases r1;refine bL9 ?_;cases c with
 |true=>exact hb ag s1 σ H1 Q I1 q1
 |false=>exact⟨.bl false,H1,I1,rfl,q1⟩
def M0 (t:TT)(ta tb:TE):TE:=λσ H Q=>t σ H λc H1=>if c=true then ta σ H1 Q else tb σ H1 Q
theorem ay7 {c:Expr}(hc:PT X c tA)(ha:PE X a ta)(hb:PE X b tb):PE X (.IfExp c a b pos) (M0 tA ta tb):=by
 intro ag s σ H Q I h;refine wpAny_IfExp (aP (hc ag s σ H _ I h) λd s1 ⟨H1,I1,q1⟩=>?_);cases d with
 |true=>exact ha ag s1 σ H1 Q I1 q1
 |false=>exact hb ag s1 σ H1 Q I1 q1
end
def aR (K:ac)(H:Hp)(a:ax)(xs:List V):Prop:=
 Rd H a (.lst xs) ∨
  ∃(o:Obj) (its:Array av) (n:Nat),K.lookup a=some o/\o.cls = .type "list"/\o.dict=none/\o.data = .seq its n/\its.size<=sizeLine/\aX xs its.toList
def aS (K:ac)(H:Hp)(a:ax)(xs:List V):Prop:=
 Rd H a (.tup xs) ∨
  ∃(o:Obj) (its:Array av) (n:Nat),K.lookup a=some o/\o.cls = .type "tuple"/\o.data = .seq its n/\its.size<=sizeLine/\aX xs its.toList
def ay8:av->Option V
 |.none=>some .non
 |.bool b=>some (.bl b)
 |.int i _=>some (.int i)
 |.str x _=>some (.str x)
 |.bytes b _=>some (.byt b)
 |.float b _=>some (.flt b)
 |.ref a=>some (.ref a)
 |.type n=>some (.ty n)
 |_=>none
theorem b7.abs {x:V}{u:av}(r:b7 x u):ay8 u=some x:=by
 cases x with
 |non=>cases r;rfl
 |bl _=>cases r;rfl
 |int _=>obtain⟨t,rfl⟩:=r;rfl
 |str _=>obtain⟨t,rfl⟩:=r;rfl
 |byt _=>obtain⟨t,rfl⟩:=r;rfl
 |flt _=>obtain⟨t,rfl⟩:=r;rfl
 |ref _=>cases r;rfl
 |ty _=>cases r;rfl
theorem b7.inj {x y:V}{u:av}(r:b7 x u)(q:b7 y u):x=y:=bz3 (r.abs.symm.trans q.abs)
theorem aX.inj:∀{xs ys:List V}{us:List av},aX xs us->aX ys us->xs=ys
 |_,_,_,.nil,.nil=>rfl
 |_,_,_,.cons r t,.cons r' t'=>by rw[r.inj r',aX.inj t t']
section
variable {X:Cx}{ag:List (ax×Obj)}{σ:St}{H:Hp}{s:aw}{a:ax}{xs ys:List V}
theorem aR.of {K:ac}(h:H a=some (.lst xs)):aR K H a xs:=.inl (.inl h)
theorem aS.of {K:ac}(h:H a=some (.tup xs)):aS K H a xs:=.inl (.inl h)
theorem aA.list (I:aA X ag σ H s)(h:aR X.K H a xs):∃its:List av,aX xs its/\PlainL s.heap a its.toArray/\xs.length<=sizeLine:=by
 rcases h with h|⟨o,its,n,hk,hc,hd,hs,hz,r⟩
 ·obtain⟨z,its,n,r,e⟩:=h.ok I.hok
  exact⟨its,r,⟨_,n,e,rfl,rfl,rfl⟩,z⟩
 ·refine⟨its.toList,r,⟨o,n,I.kIn a o hk,hc,hd,by simpa using hs⟩,?_⟩
  have e:=r.length;simp only[Array.length_toList]at e;omega
theorem aA.tuple (I:aA X ag σ H s)(h:aS X.K H a xs):∃its:List av,aX xs its/\IsTup s.heap a its.toArray/\xs.length<=sizeLine:=by
 rcases h with h|⟨o,its,n,hk,hc,hs,hz,r⟩
 ·obtain⟨z,its,r,p,_⟩:=h.ok I.hok
  exact⟨its,r,p,z⟩
 ·refine⟨its.toList,r,⟨o,I.kIn a o hk,hc,n,by simpa using hs⟩,?_⟩
  have e:=r.length;simp only[Array.length_toList]at e;omega
theorem aA.list_inj (I:aA X ag σ H s)(h:aR X.K H a xs)(h':aR X.K H a ys):xs=ys:=by
 obtain⟨its,r,⟨o,n,e,_,_,d⟩,_⟩:=I.list h
 obtain⟨its',r',⟨o',n',e',_,_,d'⟩,_⟩:=I.list h'
 rw[e]at e';cases e';rw[d]at d';injection d' with d1 _
 have:its=its':=by simpa using congrArg Array.toList d1
 subst this;exact r.inj r'
theorem aA.tuple_inj (I:aA X ag σ H s)(h:aS X.K H a xs)(h':aS X.K H a ys):xs=ys:=by
 obtain⟨its,r,⟨o,e,_,n,d⟩,_⟩:=I.tuple h
 obtain⟨its',r',⟨o',e',_,n',d'⟩,_⟩:=I.tuple h'
 rw[e]at e';cases e';rw[d]at d';injection d' with d1 _
 have:its=its':=by simpa using congrArg Array.toList d1
 subst this;exact r.inj r'
end
abbrev Cx.wish (X:Cx)(E:av->aw->Prop):Cx:={ X with xe:=E }
abbrev Cx.nox (X:Cx):Cx:=X.wish λ_ _=>False
theorem Cx.Ok.wish {X:Cx}(ok:X.Ok)(E:av->aw->Prop):(X.wish E).Ok:=
 ⟨ok.mod,ok.kind,ok.glob,ok.blt,ok.above,ok.inj,ok.has,ok.cab,ok.hd,ok.frames,ok.stk,ok.exf,ok.bs,ok.bsz,ok.noex,ok.exfs,ok.funs,ok.frf⟩
theorem Cx.Ok.unwish {X:Cx}{E:av->aw->Prop}(ok:(X.wish E).Ok):X.Ok:=
 ⟨ok.mod,ok.kind,ok.glob,ok.blt,ok.above,ok.inj,ok.has,ok.cab,ok.hd,ok.frames,ok.stk,ok.exf,ok.bs,ok.bsz,ok.noex,ok.exfs,ok.funs,ok.frf⟩
section
variable {X:Cx}{ag:List (ax×Obj)}{σ:St}{H:Hp}{s:aw}{E:av→aw→Prop}
theorem aA.wish (I:aA X ag σ H s)(E:av->aw->Prop):aA (X.wish E) ag σ H s:=⟨I.ok.wish E,I.os,I.bare,I.base,I.loc,I.cell,I.free,I.freeC,I.pin,I.hok,I.len⟩
theorem aA.unwish (I:aA (X.wish E) ag σ H s):aA X ag σ H s:=⟨I.ok.unwish,I.os,I.bare,I.base,I.loc,I.cell,I.free,I.freeC,I.pin,I.hok,I.len⟩
theorem SP.unwish {D:cB}{f:Flow}{s':aw}(h:SP (X.wish E) ag D f s'):SP X ag D f s':=by
 cases f with
 |next=>obtain⟨σ',H',I,q⟩:=h;exact⟨σ',H',I.unwish,q⟩
 |brk=>obtain⟨σ',H',I,q⟩:=h;exact⟨σ',H',I.unwish,q⟩
 |cont=>obtain⟨σ',H',I,q⟩:=h;exact⟨σ',H',I.unwish,q⟩
 |ret u=>obtain⟨v,σ',H',I,r,q⟩:=h;exact⟨v,σ',H',I.unwish,r,q⟩
theorem dW.nox {st:List Stmt}{t:TS}(h:dW X.nox st t):dW X st t:=λag s σ H D I hw=>
 bG1 (h ag s σ H D (I.wish _) hw) (λ_ _ q=>q.unwish) λ_ _ z=>False.elim z
end
section
variable {X:Cx}{st:Stmt}{d6:List Stmt}{t u:TS}{e:Expr}{te:TE}{pos:Pos}
def M3:TS:=λD σ H=>D.nx σ H
def M4 (t u:TS):TS:=λD σ H=>t { D with nx:=u D } σ H
theorem ay9:dW X [] M3:=λ_ _ σ H _ I h=>bL4 ⟨σ,H,I,h⟩
theorem mI (h1:PS X st t)(h2:dW X d6 u):dW X (st::d6) (M4 t u):=by
 intro ag s σ H D I h;refine wpAny_execs_cons (aP (h1 ag s σ H { D with nx:=u D } I h) λf s1 q=>?_);cases f with
 |next=>
  obtain⟨σ',H',I',q⟩:=q
  exact h2 ag s1 σ' H' D I' q
 |ret v=>exact q
 |brk=>exact q
 |cont=>exact q
theorem mJ (h1:PS X st t):dW X [st] t:=by
 intro ag s σ H D I h;refine wpAny_execs_cons (aP (h1 ag s σ H D I h) λf s1 q=>?_);cases f with
 |next=>exact bL4 q
 |ret v=>exact q
 |brk=>exact q
 |cont=>exact q
theorem aA.quiet {ag:List (ax×Obj)}{σ:St}{H:Hp}{s:aw}(I:aA X ag σ H s):interactive X.env=false:=by simp[interactive,I.ok.kind]
def lE (te:TE):TS:=λD σ H=>te σ H λ_ H1=>D.nx σ H1
theorem lF (he:PE X e te)(hs:swapsWith e none pos.line X.env=pure false:=by rfl):PS X (.Expr e pos) (lE te):=by
 intro ag s σ H D I h;exact wpAny_Expr_any (aP (he ag s σ H _ I h) λv s1 ⟨x,H1,I1,r1,q1⟩=>⟨σ,H1,I1,q1⟩) I.quiet hs
def wJ (te:TE):TS:=λD σ H=>te σ H D.rt
theorem nW (he:PE X e te):PS X (.Return (some e) pos) (wJ te):=by
 intro ag s σ H D I h;exact wpAny_Return_some (aP (he ag s σ H _ I h) λv s1 ⟨x,H1,I1,r1,q1⟩=>⟨x,σ,H1,I1,r1,q1⟩)
def M5 (c:TT)(t u:TS):TS:=λD σ H=>c σ H λb H1=>if b=true then t D σ H1 else u D σ H1
theorem az0 {c:Expr}{a b:List Stmt}{tc:TT}(hc:PT X c tc)(ha:dW X a t)(hb:dW X b u):PS X (.If c a b pos) (M5 tc t u):=by
 intro ag s σ H D I h;refine wpAny_If (aP (hc ag s σ H _ I h) λd s1 ⟨H1,I1,q1⟩=>?_);cases d with
 |true=>exact ha ag s1 σ H1 D I1 q1
 |false=>exact hb ag s1 σ H1 D I1 q1
def az1:TS:=λ_ _ _=>False
theorem az2:PS X st az1:=λ_ _ _ _ _ _ h=>h.elim
end
abbrev TG:=V->St->Hp->(St->Hp->Prop)->Prop
abbrev mK:=List V->St->Hp->(St->Hp->Prop)->Prop
def PG (X:Cx)(target:Expr)(t:TG):Prop:=
 ∀(ag:List (ax×Obj)) (s:aw) (σ:St) (H:Hp) (v:V) (u:av) (Q:St->Hp->Prop),aA X ag σ H s->b7 v u->t v σ H Q->
  wpAny (model X.prog X.w) X.A (assign target X.env u) (λ_ s'=>∃σ' H',aA X ag σ' H' s'/\Q σ' H') X.xe s
def sX (X:Cx)(ts:List Expr)(t:mK):Prop:=
 ∀(ag:List (ax×Obj)) (s:aw) (σ:St) (H:Hp) (vs:List V) (us:List av) (Q:St->Hp->Prop),aA X ag σ H s->aX vs us->t vs σ H Q->
  wpAny (model X.prog X.w) X.A (assignInOrder ((assignEach ts X.env).map (·.2)) us) (λ_ s'=>∃σ' H',aA X ag σ' H' s'/\Q σ' H') X.xe s
section
variable {X:Cx}{pos:Pos}
def fJ (i:Nat):TG:=λv σ H Q=>Q (σ.set i (some v)) H
theorem hU {i:Nat}{x:Str}(hN:X.N.Nodup)(hi:X.N[i]? = some x)(hx:gQ X.env.scope x)(hf:X.fn x=true∨X.env.scope.names.lookup x=some .local:=by first|exact .inl rfl|exact .inr rfl|assumption):PG X (.Name x pos) (fJ i):=by
 intro ag s σ H v u Q I r h;exact wpAny_assign_Name (wI I hN hi hx r (λs' I'=>⟨_,H,I',h⟩) hf)
def pV:mK:=λvs σ H Q=>vs = []/\Q σ H
def kC (t:TG)(u:mK):mK:=λvs σ H Q=>∃v r,vs=v::r/\t v σ H λσ' H'=>u r σ' H' Q
theorem pW:sX X [] pV:=by
 intro ag s σ H vs us Q I r h
 obtain⟨e,h⟩:=h
 subst e;cases r;exact assignInOrder_nil ⟨σ,H,I,h⟩
theorem jM {e:Expr}{es:List Expr}{t:TG}{u:mK}(h1:PG X e t)(h2:sX X es u)(hs:(assignEach (e::es) X.env).map (·.2)=assign e X.env::(assignEach es X.env).map (·.2):=by rfl):sX X (e::es) (kC t u):=by
 intro ag s σ H vs us Q I r h
 obtain⟨v,vr,e1,h⟩:=h
 subst e1;cases r with
 |cons r rr=>
  rw[hs];refine assignInOrder_cons (aP (h1 ag s σ H _ _ _ I r h) λ_ s1 ⟨σ1,H1,I1,q1⟩=>?_);exact h2 ag s1 σ1 H1 _ _ Q I1 rr q1
def pX (K:ac)(n:Nat)(t:mK):TG:=λv σ H Q=>∃a xs,v = .ref a/\aS K H a xs/\xs.length=n/\t xs σ H Q
theorem pY {es:List Expr}{k:Nat}{t:mK}{n:Nat}(hc:X.calm=true)(h:sX X es t)(hn:(assignEach es X.env).length=n:=by rfl)(hst:(assignEach es X.env).findIdx? (·.1)=none:=by rfl):PG X (.Tuple es k pos) (pX X.K n t):=by
 intro ag s σ H v u Q I r hw
 obtain⟨a,xs,e1,hq,hl,hw⟩:=hw
 subst e1;cases r
 obtain⟨its,rv,ht,hz⟩:=I.tuple hq
 refine assign_Tuple_tuple (I.ok.hd hc) ht (by simp[hn,<- hl,rv.length]) hst λh' hx=>?_
 have I1:aA X ag σ H { s with heap:=h' }:=I.kept (t':=s.toks) λb o e=>hx b o (bA8 (by8 e)) e
 exact h ag _ σ H xs _ Q I1 (by simpa using rv) hw
def nX (te:TE)(g:TG):TS:=λD σ H=>te σ H λx H1=>g x σ H1 D.nx
theorem az3 {tg e:Expr}{te:TE}{g:TG}(he:PE X e te)(hg:PG X tg g)(hs:swapsWithSole [tg] e pos.line X.env=pure false:=by rfl)(hw:swappedStores [tg] e X.env=pure none:=by rfl)(h1:(assignEach [tg] X.env).map (·.2) = [assign tg X.env]:=by rfl):PS X (.Assign [tg] e pos) (nX te g):=by
 intro ag s σ H D I h;refine wpAny_Assign_stores (aP (he ag s σ H _ I h) λv s1 ⟨x,H1,I1,r1,q1⟩=>?_) hs hw;rw[h1];exact aP (hg ag s1 σ H1 x v _ I1 r1 q1) λ_ s2 q=>q
theorem pZ {i:Nat}{x:Str}{e:Expr}{te:TE}{pos':Pos}(hN:X.N.Nodup)(hi:X.N[i]? = some x)(hx:gQ X.env.scope x)(he:PE X e te)(hs:swapsWith e (some (.Name x pos')) pos.line X.env=pure false:=by rfl)(hf:X.fn x=true∨X.env.scope.names.lookup x=some .local:=by first|exact .inl rfl|exact .inr rfl|assumption) :
  PS X (.Assign [.Name x pos'] e pos) (nX te (fJ i)):=by
 intro ag s σ H D I h;refine wpAny_Assign_Name (aP (he ag s σ H _ I h) λv s1 ⟨y,H1,I1,r1,q1⟩=>?_) hs;exact wI I1 hN hi hx r1 (λs2 I2=>⟨_,H1,I2,q1⟩) hf
end
section
variable {X:Cx}{pos:Pos}
def M6 (c:TT)(tb:TS):TS:=λD σ H=>∃W:Nat->St->Hp->Prop,(∃m,W m σ H)/\∀m σ H,W m σ H->
 c σ H λb H1=>if b=true then ∃N:St->Hp->Prop,(∀σ' H',N σ' H'->∃m',m'<m/\W m' σ' H')/\tb { D with nx:=N,ct:=N,bk:=D.nx } σ H1 else D.nx σ H1
theorem az4 {c:Expr}{body:List Stmt}{tc:TT}{tb:TS}(hp:PassesOwn (model X.prog X.w) X.A X.env X.xe)(hc:PT X c tc)(hb:dW X body tb):PS X (.While c body [] pos) (M6 tc tb):=by
 intro ag s σ H D I h
 obtain⟨W,⟨m0,w0⟩,turn⟩:=h
 refine wpAny_While (codeAny_whileLoop (λn s'=>∃σ' H',aA X ag σ' H' s'/\W n σ' H') ?_ m0 ⟨σ,H,I,w0⟩);rintro n s1 ⟨σ1,H1,I1,w1⟩;refine bL5 hp (aP (hc ag s1 σ1 H1 _ I1 (turn n σ1 H1 w1)) λb s2 ⟨H2,I2,q2⟩=>?_);cases b with
 |true=>
  obtain⟨N,hN,q2⟩:=q2
  rw[if_pos rfl];refine bL5 hp (aP (hb ag s2 σ1 H2 _ I2 q2) λf s3 q3=>?_);cases f with
  |next=>
   obtain⟨σ3,H3,I3,n3⟩:=q3
   obtain⟨m',hm,w3⟩:=hN σ3 H3 n3
   exact⟨m',hm,σ3,H3,I3,w3⟩
  |cont=>
   obtain⟨σ3,H3,I3,n3⟩:=q3
   obtain⟨m',hm,w3⟩:=hN σ3 H3 n3
   exact⟨m',hm,σ3,H3,I3,w3⟩
  |brk=>exact q3
  |ret v=>exact q3
 |false=>
  rw[if_neg bz7];exact bL4 ⟨σ1,H2,I2,q2⟩
end
structure It where
 go:Nat->Hp->Prop
 yld:Nat->Hp->V->Hp->Prop
 stop:Nat->Hp->Prop
def iG (X:Cx)(ag:List (ax×Obj))(H:Hp)(b:ax):Prop:=
 H b=none/\b≠X.env.locals/\b∉X.fs/\(b∈X.ex∨X.s₀.heap.objs.size<=b)/\(∀x c,X.env.cells.lookup x=some c->c≠b)/\∀p∈X.pn++ag,p.1≠b
theorem aA.fpOk {X:Cx}{ag:List (ax×Obj)}{σ:St}{H H':Hp}{s:aw}{b:ax}(I:aA X ag σ H s)(hb:s.heap.objs.size<=b)(hn:H' b=none):iG X ag H' b:=by
 refine⟨hn,bG4 (bz6 I.lt hb),I.nofs hb,.inr (bA9 I.sz hb),λx c e z=>?_,λp hp z=>?_⟩
 ·obtain⟨v,q⟩:=I.cell x c e
  exact absurd (bz6 q.lt (by rw[z];exact hb)) (bE5 _)
 ·exact absurd (bz6 (by8 (I.pin p hp).1) (by rw[z];exact hb)) (bE5 _)
structure jN (P:ay)(w:ba)(K:ac)(tg:Expr)(J:It)(fp:List ax)(it:ax)(tn:Nat->Heap->Prop):Prop where
 mem:it∈fp
 obj:∀i h,tn i h->∀b∈fp,∃o,h.get? b=some o/\∀v,o.data≠.cell v
 keep:∀i h h',tn i h->(∀b∈fp,∀o,h.get? b=some o->h'.get? b=some o)->tn i h'
 item:∀(X:Cx),X.prog=P->X.w=w->X.K=K->X.calm=true->∀(i:Nat) (ag:List (ax×Obj)) (s:aw) (σ:St) (H:Hp) (E:av->aw->Prop),aA X ag σ H s->(∀b∈fp,iG X ag H b)->tn i s.heap->J.go i H->
  wpAny (model P w) X.A (pyNext (.ref it)) (λr s1=>∃u,r=some u/\
   wpAny (model P w) X.A (letOwnedTupleGo tg (.ref it) u) (λ_ s2=>∃x H',aA X ag σ H' s2/\b7 x u/\J.yld i H x H'/\tn (i+1) s2.heap/\∀b∈fp,H' b=none) E s1) E s
 done:∀(X:Cx),X.prog=P->X.w=w->X.K=K->X.calm=true->∀(i:Nat) (ag:List (ax×Obj)) (s:aw) (σ:St) (H:Hp) (E:av->aw->Prop),aA X ag σ H s->(∀b∈fp,iG X ag H b)->tn i s.heap->J.stop i H->
  wpAny (model P w) X.A (pyNext (.ref it)) (λr s1=>r=none/\aA X ag σ H s1) E s
 self:∀(A:az) (i:Nat) (s:aw) (Q:av->aw->Prop) (E:av->aw->Prop),tn i s.heap->Q (.ref it) s->wpAny (model P w) A (pyIter (.ref it)) Q E s
abbrev TI:=St->Hp->(It->Hp->Prop)->Prop
def M7 (X:Cx)(ag:List (ax×Obj))(σ:St)(tg:Expr)(R:It->Hp->Prop)(itv:av)(s2:aw):Prop:=
 ∃(it:ax) (fp:List ax) (tn:Nat->Heap->Prop) (J:It) (H':Hp),itv = .ref it/\aA X ag σ H' s2/\jN X.prog X.w X.K tg J fp it tn/\tn 0 s2.heap/\(∀b∈fp,iG X ag H' b)/\R J H'
def PI (X:Cx)(tg iter:Expr)(wi:TI):Prop:=
 ∀(ag:List (ax×Obj)) (s:aw) (σ:St) (H:Hp) (R:It->Hp->Prop),aA X ag σ H s->wi σ H R->
  wpAny (model X.prog X.w) X.A (eval iter X.env) (λv s1=>wpAny (model X.prog X.w) X.A (pyIter v) (M7 X ag σ tg R) X.xe s1) X.xe s
theorem wK {M:Model}{A:az}{E:av->aw->Prop}{s:aw}{tg:Expr}{it:ax}{u:av}{o:Obj}{n:String}{vs:Array av}{Q:Unit->aw->Prop}(ho:s.heap.get? it=some o)(hc:o.cls = .type n)(hd:o.data = .fields vs)(hn:["enumerate","zip","dict_itemiterator","dict_reverseitemiterator","odict_iterator","itertools.zip_longest","itertools.pairwise"].contains n=false)(hQ:Q () s):wpAny M A (letOwnedTupleGo tg (.ref it) u) Q E s:=by
  unfold letOwnedTupleGo;cases tg<;>first
    |exact by3 hQ
    |(cases u<;>first
        |exact by3 hQ
        | (refine bx4 (wpAny_load ho ?_)
           rw[hc,hd];show wpAny M A (if (["enumerate","zip","dict_itemiterator","dict_reverseitemiterator","odict_iterator","itertools.zip_longest","itertools.pairwise"].contains n&&vs[0]?==some (rawInt _))=true then _ else _) Q E s;rw[if_neg (by intro h;rw[hn,Bool.false_and]at h;cases h)]
           exact by3 hQ))
def nY (K:ac)(a:ax):It:=
 ⟨λi H=>∃xs x,aR K H a xs/\xs[i]? = some x,λi H x H'=>H'=H/\∀xs,aR K H a xs->xs[i]? = some x,λi H=>∃xs,aR K H a xs/\xs.length<=i⟩
def lG (K:ac)(a:ax):It:=
 ⟨λi H=>∃xs x,aS K H a xs/\xs[i]? = some x,λi H x H'=>H'=H/\∀xs,aS K H a xs->xs[i]? = some x,λi H=>∃xs,aS K H a xs/\xs.length<=i⟩
def qA (lo:Int)(n:Nat):It:=⟨λi _=>i<n,λi H x H'=>H'=H/\x = .int (lo+i),λi _=>n<=i⟩
theorem az5 {P:ay}{w:ba}{K:ac}{tg:Expr}(a it:ax):jN P w K tg (nY K a) [it] it (λi h=>h.IsListIter it a i) where
 mem:=by simp
 obj:=λi h st b hb=>by
  have e:b=it:=by simpa using hb
  subst e
  obtain⟨o,e,c,d⟩:=st
  exact⟨o,e,λv z=>by rw[d]at z;cases z⟩
 keep:=λi h h' st k=>st.at λo e=>k it (by simp) o e
 item:=by
  intro X hP hw hK hc i ag s σ H E I hf st hg;subst hP hw hK
  obtain⟨xs,x,hq,hx⟩:=hg
  obtain⟨its,rv,p,hz⟩:=I.list hq
  obtain⟨u,hu,ru⟩:=rv.get hx
  obtain⟨f0,f1,f2,f3,f4,f5⟩:=hf it (by simp)
  refine wpAny_pyNext_list_item st p.isList (x:=u) (by simpa using hu) λh' st' sb=>?_
  have I1:aA X ag σ H { s with heap:=h' }:=I.turned (t':=s.toks) (λb o hb e=>(sb.2 b hb).trans e) f0 f1 f3 f4 f5
  obtain⟨o,e,c,d⟩:=id st'
  exact⟨u,rfl,wK (s:={ s with heap:=h' }) e c d (by decide) ⟨x,H,I1,ru,⟨rfl,λys hy=>by rw[I.list_inj hy hq];exact hx⟩,st',λb hb=>(hf b hb).1⟩⟩
 done:=by
  intro X hP hw hK hc i ag s σ H E I hf st hg;subst hP hw hK
  obtain⟨xs,hq,hx⟩:=hg
  obtain⟨its,rv,p,hz⟩:=I.list hq
  obtain⟨f0,f1,f2,f3,f4,f5⟩:=hf it (by simp)
  have hl:=rv.length;exact wpAny_pyNext_list_end (I.ok.hd hc) st p.isList (by simp;omega) λh' eb=>⟨rfl,I.turned (t':=s.toks) (λb o hb e=>eb b o hb e) f0 f1 f3 f4 f5⟩
 self:=λ_ _ _ _ _ st h=>wpAny_pyIter_listiter st h
theorem M8 {P:ay}{w:ba}{K:ac}{tg:Expr}(a it:ax):jN P w K tg (lG K a) [it] it (λi h=>h.IsTupleIter it a i) where
 mem:=by simp
 obj:=λi h st b hb=>by
  have e:b=it:=by simpa using hb
  subst e
  obtain⟨o,e,c,d⟩:=st
  exact⟨o,e,λv z=>by rw[d]at z;cases z⟩
 keep:=λi h h' st k=>st.at λo e=>k it (by simp) o e
 item:=by
  intro X hP hw hK hc i ag s σ H E I hf st hg;subst hP hw hK
  obtain⟨xs,x,hq,hx⟩:=hg
  obtain⟨its,rv,p,hz⟩:=I.tuple hq
  obtain⟨u,hu,ru⟩:=rv.get hx
  obtain⟨f0,f1,f2,f3,f4,f5⟩:=hf it (by simp)
  refine wpAny_pyNext_tuple_item st (show s.heap.IsTuple a its.toArray from p) (x:=u) (by simpa using hu) λh' st' sb=>?_
  have I1:aA X ag σ H { s with heap:=h' }:=I.turned (t':=s.toks) (λb o hb e=>(sb.2 b hb).trans e) f0 f1 f3 f4 f5
  obtain⟨o,e,c,d⟩:=id st'
  exact⟨u,rfl,wK (s:={ s with heap:=h' }) e c d (by decide) ⟨x,H,I1,ru,⟨rfl,λys hy=>by rw[I.tuple_inj hy hq];exact hx⟩,st',λb hb=>(hf b hb).1⟩⟩
 done:=by
  intro X hP hw hK hc i ag s σ H E I hf st hg;subst hP hw hK
  obtain⟨xs,hq,hx⟩:=hg
  obtain⟨its,rv,p,hz⟩:=I.tuple hq
  obtain⟨f0,f1,f2,f3,f4,f5⟩:=hf it (by simp)
  have hl:=rv.length;exact wpAny_pyNext_tuple_end (I.ok.hd hc) st (show s.heap.IsTuple a its.toArray from p) (by simp;omega) λh' eb=>⟨rfl,I.turned (t':=s.toks) (λb o hb e=>eb b o hb e) f0 f1 f3 f4 f5⟩
 self:=λ_ _ _ _ _ st h=>wpAny_pyIter_tupleiter st h
theorem az6 {P:ay}{w:ba}{K:ac}{tg:Expr}(it:ax)(lo:Int)(n:Nat):jN P w K tg (qA lo n) [it] it (λi h=>IsRangeIter h it (lo+(i:Nat)*1) ((n:Int)-(i:Nat)) 1) where
 mem:=by simp
 obj:=λi h st b hb=>by
  have e:b=it:=by simpa using hb
  subst e
  exact⟨_,st,λv z=>by
   have z':Data.fields _=Data.cell v:=z
   cases z'⟩
 keep:=λi h h' st k=>k it (by simp) _ st
 item:=by
  intro X hP hw hK hc i ag s σ H E I hf st hg;subst hP hw hK
  obtain⟨f0,f1,f2,f3,f4,f5⟩:=hf it (by simp)
  have W:=Walks.range (prog:=X.prog) (w:=X.w) (I.ok.hd hc) it lo 1 n;refine W.item i s _ _ hg st λv h' tk hv st' kk=>?_
  obtain⟨t,rfl⟩:=hv
  have I1:aA X ag σ H { s with heap:=h',toks:=tk }:=I.turned (λb o hb e=>kk b o (by simpa using hb) e) f0 f1 f3 f4 f5;refine⟨_,rfl,wK (s:={ s with heap:=h',toks:=tk }) (n:="range_iterator") st' rfl rfl (by decide) ⟨.int (lo+i),H,I1,⟨t,?_⟩,⟨rfl,rfl⟩,st',λb hb=>(hf b hb).1⟩⟩;rw[Int.mul_one]
 done:=by
  intro X hP hw hK hc i ag s σ H E I hf st hg;subst hP hw hK
  obtain⟨f0,f1,f2,f3,f4,f5⟩:=hf it (by simp)
  exact wpAny_pyNext_range_end (I.ok.hd hc) st (by have:n<=i:=hg;omega) λh' eb=>⟨rfl,I.turned (t':=s.toks) (λb o hb e=>eb b o hb e) f0 f1 f3 f4 f5⟩
 self:=λ_ _ _ _ _ st h=>wpAny_pyIter_rangeiter st h
section
variable {X:Cx}{tg:Expr}
def az7 (K:ac)(tl:TE):TI:=λσ H R=>tl σ H λx H1=>∃a,x = .ref a/\(∃xs,aS K H1 a xs)/\R (lG K a) H1
theorem M9 {l:Expr}{tl:TE}(hl:PE X l tl):PI X tg l (az7 X.K tl):=by
 intro ag s σ H R I h;refine aP (hl ag s σ H _ I h) λv s1 ⟨x,H1,I1,r1,q1⟩=>?_
 obtain⟨a,e,⟨xs,hq⟩,q⟩:=q1
 subst e;cases r1
 obtain⟨its,rv,p,hz⟩:=I1.tuple hq
 refine bI9 (show s1.heap.IsTuple a its.toArray from p) ?_;refine⟨s1.heap.objs.size,[s1.heap.objs.size],_,_,H1,rfl,I1.kept (t':=s1.toks) λb o e=>bx5 _ e,M8 a _,⟨_,bz0 _ rfl,rfl,rfl⟩,λb hb=>?_,q⟩;have e:b=s1.heap.objs.size:=by simpa using hb
 subst e;exact I1.fpOk (bx9 _) (I1.hok.fresh (bx9 _))
theorem N0 {ag:List (ax×Obj)}{σ:St}{H:Hp}{s:aw}{R:It->Hp->Prop}{E:av->aw->Prop}{lo hi:Int}{t u v:Tok}{tk:Nat}(I:aA X ag σ H s)(h1:-(2^62)<=lo)(h2:lo<2^62)(h3:-(2^62)<=hi)(h4:hi<2^62)(q:R (qA lo (hi-lo).toNat) H):wpAny (model X.prog X.w) X.A (pyIter (.ref s.heap.objs.size)) (M7 X ag σ tg R) E { s with heap:=s.heap.push { cls:=.type "range",data:=.fields #[.int lo t,.int hi u,.int 1 v] },toks:=tk }:=by
 refine wpAny_pyIter_range (IsRange.new ..) (small_one h1 h2 h3 h4) ?_;have I1:aA X ag σ H { s with heap:=s.heap.push { cls:=.type "range",data:=.fields #[.int lo t,.int hi u,.int 1 v] },toks:=tk }:=I.kept λb o e=>bx5 _ e
 refine⟨(s.heap.push { cls:=.type "range",data:=.fields #[.int lo t,.int hi u,.int 1 v] }).objs.size,[(s.heap.push { cls:=.type "range",data:=.fields #[.int lo t,.int hi u,.int 1 v] }).objs.size],_,_,H,rfl,
  I1.kept (t':=tk) λb o e=>bx5 _ e,az6 _ lo (hi-lo).toNat,?_,λb hb=>?_,q⟩
 ·have e1:lo+((0:Nat):Int)*1=lo:=by simp
  have e2:(((hi-lo).toNat:Nat):Int)-((0:Nat):Int)=Builtin.Range.rangeSize lo hi 1:=by rw[rangeSize_one];split<;>omega
  show IsRangeIter _ _ (lo+((0:Nat):Int)*1) ((((hi-lo).toNat:Nat):Int)-((0:Nat):Int)) 1;rw[e1,e2];exact bz0 _ rfl
 ·have e:b=(s.heap.push { cls:=.type "range",data:=.fields #[.int lo t,.int hi u,.int 1 v] }).objs.size:=by simpa using hb
  subst e;exact I1.fpOk (bx9 _) (I1.hok.fresh (bx9 _))
def N1 (ta:TA):TI:=λσ H R=>ta σ H λvs H1=>∃j:Int,vs = [.int j]/\-(2^62)<=j/\j<2^62/\R (qA 0 j.toNat) H1
def N2 (ta:TA):TI:=λσ H R=>ta σ H λvs H1=>∃i j:Int,vs = [.int i,.int j]/\(-(2^62)<=i/\i<2^62/\-(2^62)<=j/\j<2^62)/\R (qA i (j-i).toNat) H1
theorem az8 {a:Expr}{ta:TA}{p pos:Pos}(hg:Gl X "range")(hm:X.mg "range" = none)(ha:PA X [a] ta)(hs:starEach [a] X.env = [(false,eval a X.env)]:=by rfl):PI X tg (.Call (.Name "range" p) [a] [] pos) (N1 ta):=by
 intro ag s σ H R I h;refine Call_ (mH I hg hm boot_range (bG5 (aP (ha pos ag s σ H _ I h) λus s1 ⟨vs,H1,I1,r1,q1⟩=>?_) hs rfl))
 obtain⟨j,e,q1,q2,q⟩:=q1
 subst e;cases r1 with
 |cons r rr=>
  cases rr
  obtain⟨t,rfl⟩:=r
  exact call_range_1 (N0 I1 (by omega) (by omega) q1 q2 (by simpa using q))
theorem az9 {a b:Expr}{ta:TA}{p pos:Pos}(hg:Gl X "range")(hm:X.mg "range" = none)(ha:PA X [a,b] ta)(hs:starEach [a,b] X.env = [(false,eval a X.env),(false,eval b X.env)]:=by rfl)(hs2:starEach [b] X.env = [(false,eval b X.env)]:=by rfl) :
  PI X tg (.Call (.Name "range" p) [a,b] [] pos) (N2 ta):=by
 intro ag s σ H R I h;refine Call_ (mH I hg hm boot_range (bG5 (aP (ha pos ag s σ H _ I h) λus s1 ⟨vs,H1,I1,r1,q1⟩=>?_) (by rw[hs,hs2]) (by rw[hs2];rfl)))
 obtain⟨i,j,e,⟨q1,q2,q3,q4⟩,q⟩:=q1
 subst e;cases r1 with
 |cons r rr=>
  cases rr with
  |cons r' rr=>
   cases rr
   obtain⟨t,rfl⟩:=r
   obtain⟨t',rfl⟩:=r'
   exact call_range_2 (N0 I1 q1 q2 q3 q4 q)
def N3 (wi:TI)(g:TG)(tb:TS):TS:=λD σ H=>wi σ H λJ H1=>∃W:Nat->Nat->St->Hp->Prop,(∃m,W 0 m σ H1)/\∀i m σ H,W i m σ H->
 (J.stop i H/\D.nx σ H)∨(J.go i H/\∃N:St->Hp->Prop,(∀σ' H',N σ' H'->∃m',m'<m/\W (i+1) m' σ' H')/\∀x H',J.yld i H x H'->g x σ H' λσ2 H2=>tb { D with nx:=N,ct:=N,bk:=D.nx } σ2 H2)
def qB (fp:List ax)(h:Heap):List (ax×Obj):=fp.filterMap λb=>(h.get? b).map λo=>(b,o)
theorem sY {fp:List ax}{h:Heap}{b:ax}{o:Obj}(hb:b∈fp)(e:h.get? b=some o):(b,o)∈qB fp h:=List.mem_filterMap.mpr ⟨b,hb,by rw[e];rfl⟩
theorem aA0 {fp:List ax}{h:Heap}{p:ax×Obj}(hp:p∈qB fp h):p.1∈fp/\h.get? p.1=some p.2:=by
 obtain⟨b,hb,e⟩:=List.mem_filterMap.mp hp
 cases q:h.get? b with
 |none=>rw[q]at e;cases e
 |some o=>
  rw[q]at e;have e':(b,o)=p:=bz3 e;subst e'
  exact⟨hb,q⟩
theorem aA.pinned {ag:List (ax×Obj)}{σ:St}{H:Hp}{s:aw}{fp:List ax}(I:aA X ag σ H s)(hf:∀b∈fp,iG X ag H b)(ho:∀b∈fp,∃o,s.heap.get? b=some o/\∀v,o.data≠.cell v):aA X (ag++qB fp s.heap) σ H s:=
 I.pins_of λp hp=>(bB3.mp hp).elim (λz=>I.pin p (bB9 _ z)) λz=>by
  obtain⟨hb,e⟩:=aA0 z
  obtain⟨f0,f1,f2,_⟩:=hf p.1 hb
  obtain⟨o,e',d⟩:=ho p.1 hb
  rw[e]at e';cases e'
  exact⟨e,f0,f1,f2,d⟩
theorem aA.unpinned {ag pl:List (ax×Obj)}{σ:St}{H:Hp}{s:aw}(I:aA X (ag++pl) σ H s):aA X ag σ H s:=I.pins_of λp hp=>I.pin p (bB9 _ (bL8 _ hp))
theorem N4 {iter:Expr}{body:List Stmt}{wi:TI}{g:TG}{tb:TS}{pos:Pos}(hp:PassesOwn (model X.prog X.w) X.A X.env X.xe)(hc:X.calm=true)(hi:PI X tg iter wi)(hg:PG X tg g)(hb:dW X body tb)(hs:∀x,foldedSetIterable iter X.env x=pure x:=by intro _;rfl):PS X (.For tg iter body [] pos) (N3 wi g tb):=by
 intro ag s σ H D I h;refine wpAny_For (aP (hi ag s σ H _ I h) λv s1 h1=>aP h1 λitv s2 h2=>?_) hs
 obtain⟨it,fp,tn,J,H2,e,I2,T,st2,f2,W,⟨m0,w0⟩,turn⟩:=h2
 subst e;have stat:∀{H':Hp},(∀b∈fp,H' b=none)->∀b∈fp,iG X ag H' b:=λhn b hb=>⟨hn b hb,(f2 b hb).2⟩
 refine codeAny_forLoop_any (λn s'=>∃i σ' H',aA X ag σ' H' s'/\tn i s'.heap/\(∀b∈fp,H' b=none)/\W i n σ' H') ?_ m0 ⟨0,σ,H2,I2,st2,λb hb=>(f2 b hb).1,w0⟩;rintro n s3 ⟨i,σ3,H3,I3,st3,fr3,w3⟩;rcases turn i n σ3 H3 w3 with⟨stop,qn⟩|⟨go,N,hN,step⟩
 ·refine bL5 hp (aP (T.done X rfl rfl rfl hc i ag s3 σ3 H3 X.xe I3 (stat fr3) st3 stop) λr s4 ⟨hr,I4⟩=>?_)
  subst hr;exact bL4 ⟨σ3,H3,I4,qn⟩
 ·refine bL5 hp (aP (T.item X rfl rfl rfl hc i ag s3 σ3 H3 X.xe I3 (stat fr3) st3 go) λr s4 ⟨u,hr,h4⟩=>?_)
  subst hr;refine bL5 hp (aP h4 λ_ s5 ⟨x,H5,I5,r5,y5,st5,fr5⟩=>?_);have I5':=I5.pinned (stat fr5) (T.obj _ _ st5);refine bL5 hp (aP (hg _ s5 σ3 H5 x u _ I5' r5 (step x H5 y5)) λ_ s6 ⟨σ6,H6,I6,q6⟩=>?_);refine bL5 hp (aP (hb _ s6 σ6 H6 _ I6 q6) λf s7 q7=>?_);have again:∀{σ7:St}{H7:Hp},aA X (ag++qB fp s5.heap) σ7 H7 s7->N σ7 H7->∃m,m<n/\∃i σ' H',aA X ag σ' H' s7/\tn i s7.heap/\(∀b∈fp,H' b=none)/\W i m σ' H':=λ{σ7 H7} I7 n7=>by
   obtain⟨m',hm,w7⟩:=hN σ7 H7 n7
   refine⟨m',hm,i+1,σ7,H7,I7.unpinned,T.keep _ _ _ st5 λb hb o e=>(I7.pin (b,o) (bB9 _ (bB9 _ (sY hb e)))).1,λb hb=>?_,w7⟩
   obtain⟨o,e,d⟩:=T.obj _ _ st5 b hb
   exact (I7.pin (b,o) (bB9 _ (bB9 _ (sY hb e)))).2.1
  cases f with
  |next=>obtain⟨σ7,H7,I7,n7⟩:=q7;exact again I7 n7
  |cont=>obtain⟨σ7,H7,I7,n7⟩:=q7;exact again I7 n7
  |brk=>obtain⟨σ7,H7,I7,q7⟩:=q7;exact⟨σ7,H7,I7.unpinned,q7⟩
  |ret v=>obtain⟨x7,σ7,H7,I7,r7,q7⟩:=q7;exact⟨x7,σ7,H7,I7.unpinned,r7,q7⟩
end
theorem bx0 {K:ac}{a:ax}{xs:List V}{g:TG}{tb:TS}{D:cB}{σ:St}{H:Hp}(Pv:Nat->St->Hp->Prop)(h0:Pv 0 σ H)(hl:∀i σ H,i<=xs.length->Pv i σ H->aR K H a xs)(hs:∀i x σ H,xs[i]? = some x->Pv i σ H->g x σ H λσ2 H2=>tb { D with nx:=Pv (i+1),ct:=Pv (i+1),bk:=D.nx } σ2 H2)(hd:∀σ H,Pv xs.length σ H->D.nx σ H) :
  ∃W:Nat->Nat->St->Hp->Prop,(∃m,W 0 m σ H)/\∀i m σ H,W i m σ H->
   ((nY K a).stop i H/\D.nx σ H)∨((nY K a).go i H/\∃N:St->Hp->Prop,(∀σ' H',N σ' H'->∃m',m'<m/\W (i+1) m' σ' H')/\∀x H',(nY K a).yld i H x H'->g x σ H' λσ2 H2=>tb { D with nx:=N,ct:=N,bk:=D.nx } σ2 H2):=by
 refine⟨λi m σ H=>m=xs.length-i/\i<=xs.length/\Pv i σ H,⟨xs.length,by simp,bB2 _,h0⟩,?_⟩;rintro i m σ H ⟨rfl,hi,p⟩;have q:=hl i σ H hi p;by_cases hlt:i<xs.length
 ·refine .inr ⟨⟨xs,xs[i],q,by simp[hlt]⟩,Pv (i+1),λσ' H' p'=>⟨xs.length-(i+1),by omega,rfl,hlt,p'⟩,λx H' y=>?_⟩
  obtain⟨e,y⟩:=y
  subst e;exact hs i x σ _ (y xs q) p
 ·have e:i=xs.length:=by omega
  subst e;exact .inl ⟨⟨xs,q,bx9 _⟩,hd σ H p⟩
theorem aA1 {K:ac}{a:ax}{xs:List V}{g:TG}{tb:TS}{D:cB}{σ:St}{H:Hp}(Pv:Nat->St->Hp->Prop)(h0:Pv 0 σ H)(hl:∀i σ H,i<=xs.length->Pv i σ H->aS K H a xs)(hs:∀i x σ H,xs[i]? = some x->Pv i σ H->g x σ H λσ2 H2=>tb { D with nx:=Pv (i+1),ct:=Pv (i+1),bk:=D.nx } σ2 H2)(hd:∀σ H,Pv xs.length σ H->D.nx σ H) :
  ∃W:Nat->Nat->St->Hp->Prop,(∃m,W 0 m σ H)/\∀i m σ H,W i m σ H->
   ((lG K a).stop i H/\D.nx σ H)∨((lG K a).go i H/\∃N:St->Hp->Prop,(∀σ' H',N σ' H'->∃m',m'<m/\W (i+1) m' σ' H')/\∀x H',(lG K a).yld i H x H'->g x σ H' λσ2 H2=>tb { D with nx:=N,ct:=N,bk:=D.nx } σ2 H2):=by
 refine⟨λi m σ H=>m=xs.length-i/\i<=xs.length/\Pv i σ H,⟨xs.length,by simp,bB2 _,h0⟩,?_⟩;rintro i m σ H ⟨rfl,hi,p⟩;have q:=hl i σ H hi p;by_cases hlt:i<xs.length
 ·refine .inr ⟨⟨xs,xs[i],q,by simp[hlt]⟩,Pv (i+1),λσ' H' p'=>⟨xs.length-(i+1),by omega,rfl,hlt,p'⟩,λx H' y=>?_⟩
  obtain⟨e,y⟩:=y
  subst e;exact hs i x σ _ (y xs q) p
 ·have e:i=xs.length:=by omega
  subst e;exact .inl ⟨⟨xs,q,bx9 _⟩,hd σ H p⟩
abbrev R2:=V->V->Hp->VK->Prop
def cR (X:Cx)(f:av->av->Sem av)(r:R2):Prop:=
 ∀(ag:List (ax×Obj)) (s:aw) (σ:St) (H:Hp) (x y:V) (v u:av) (Q:VK),aA X ag σ H s->b7 x v->b7 y u->r x y H Q->
  wpAny (model X.prog X.w) X.A (f v u) (EP X ag σ Q) X.xe s
def wL (X:Cx)(f:av->Sem av)(r:V->Hp->VK->Prop):Prop:=
 ∀(ag:List (ax×Obj)) (s:aw) (σ:St) (H:Hp) (x:V) (v:av) (Q:VK),aA X ag σ H s->b7 x v->r x H Q->
  wpAny (model X.prog X.w) X.A (f v) (EP X ag σ Q) X.xe s
def d7 (X:Cx)(f:av)(r:List V->Hp->VK->Prop):Prop:=
 ∀(ag:List (ax×Obj)) (s:aw) (σ:St) (H:Hp) (xs:List V) (us:List av) (Q:VK),aA X ag σ H s->aX xs us->r xs H Q->
  wpAny (model X.prog X.w) X.A (call f us) (EP X ag σ Q) X.xe s
def aA2 (X:Cx)(r:V->Hp->(Bool->Hp->Prop)->Prop):Prop:=
 ∀(ag:List (ax×Obj)) (s:aw) (σ:St) (H:Hp) (x:V) (v:av) (Q:Bool->Hp->Prop),aA X ag σ H s->b7 x v->r x H Q->
  wpAny (model X.prog X.w) X.A (truthy v) (TP X ag σ Q) X.xe s
def nZ (r:R2)(ta tb:TE):TE:=λσ H Q=>ta σ H λx H1=>tb σ H1 λy H2=>r x y H2 Q
def tUn (r:V->Hp->VK->Prop)(ta:TE):TE:=λσ H Q=>ta σ H λx H1=>r x H1 Q
def rI (C:Int->Int->Prop)(g:Int->Int->V):R2:=λx y H Q=>∃i j,x = .int i/\y = .int j/\C i j/\Q (g i j) H
def kD (g:Int->Int->V):R2:=λx y H Q=>∃i j,x = .int i/\y = .int j/\Q (g i j) H
def rU (g:Int->V):V->Hp->VK->Prop:=λx H Q=>∃i,x = .int i/\Q (g i) H
section
variable {X:Cx}{a b c:Expr}{ta tb tc:TE}{pos:Pos}
theorem wM (ha:PE X a ta)(hb:PE X b tb){ag:List (ax×Obj)}{s:aw}{σ:St}{H:Hp}{R:V->V->Hp->Prop}(I:aA X ag σ H s)(h:ta σ H λx H1=>tb σ H1 λy H2=>R x y H2){Q:av->aw->Prop}{f:av->av->Sem av}(hf:∀v u s2 x y H2,aA X ag σ H2 s2->b7 x v->b7 y u->R x y H2->wpAny (model X.prog X.w) X.A (f v u) Q X.xe s2) :
  wpAny (model X.prog X.w) X.A (eval a X.env) (λv s₁=>wpAny (model X.prog X.w) X.A (eval b X.env) (λu s₂=>wpAny (model X.prog X.w) X.A (f v u) Q X.xe s₂) X.xe s₁) X.xe s:=by
 refine aP (ha ag s σ H _ I h) λv s1 ⟨x,H1,I1,r1,q1⟩=>?_
 refine aP (hb ag s1 σ H1 _ I1 q1) λu s2 ⟨y,H2,I2,r2,q2⟩=>?_
 exact hf v u s2 x y H2 I2 r1 r2 q2
theorem aA3 {op:Operator}{r:R2}(ho:cR X (binaryOp op) r)(ha:PE X a ta)(hb:PE X b tb):PE X (.BinOp a op b pos) (nZ r ta tb):=by
 intro ag s σ H Q I h;exact wpAny_BinOp (wM ha hb I h λv u s2 x y H2 I2 rx ry q=>ho ag s2 σ H2 x y v u Q I2 rx ry q)
theorem aA4 {op:UnaryOp}{r:V->Hp->VK->Prop}(ho:wL X (unaryOp op) r)(ha:PE X a ta):PE X (.UnaryOp op a pos) (tUn r ta):=by
 intro ag s σ H Q I h;exact UnaryOp_ (aP (ha ag s σ H _ I h) λv s1 ⟨x,H1,I1,r1,q1⟩=>ho ag s1 σ H1 x v Q I1 r1 q1)
theorem sZ {f:av->av->Sem av}{C:Int->Int->Prop}{g:Int->Int->Int}(rule:∀(i j:Int) (t u:Tok) (s:aw) (Q:av->aw->Prop) (E:av->aw->Prop),C i j->Q (.int (g i j) s.toks) { s with toks:=s.toks+1 }->wpAny (model X.prog X.w) X.A (f (.int i t) (.int j u)) Q E s) :
  cR X f (rI C λi j=>.int (g i j)):=by
 intro ag s σ H x y v u Q I rx ry h
 obtain⟨i,j,rfl,rfl,hc,q⟩:=h
 obtain⟨t,rfl⟩:=rx
 obtain⟨t',rfl⟩:=ry
 exact rule i j t t' s _ _ hc ⟨.int (g i j),H,I.tok _,⟨_,rfl⟩,q⟩
theorem N5 {f:av->av->Sem av}{g:Int->Int->Int}(rule:∀(i j:Int) (t u:Tok) (s:aw) (Q:av->aw->Prop) (E:av->aw->Prop),Q (.int (g i j) s.toks) { s with toks:=s.toks+1 }->wpAny (model X.prog X.w) X.A (f (.int i t) (.int j u)) Q E s) :
  cR X f (kD λi j=>.int (g i j)):=by
 intro ag s σ H x y v u Q I rx ry h
 obtain⟨i,j,rfl,rfl,q⟩:=h
 obtain⟨t,rfl⟩:=rx
 obtain⟨t',rfl⟩:=ry
 exact rule i j t t' s _ _ ⟨.int (g i j),H,I.tok _,⟨_,rfl⟩,q⟩
theorem wN {f:av->av->Sem av}{g:Int->Int->Bool}(rule:∀(i j:Int) (t u:Tok) (s:aw) (Q:av->aw->Prop) (E:av->aw->Prop),Q (.bool (g i j)) s->wpAny (model X.prog X.w) X.A (f (.int i t) (.int j u)) Q E s) :
  cR X f (kD λi j=>.bl (g i j)):=by
 intro ag s σ H x y v u Q I rx ry h
 obtain⟨i,j,rfl,rfl,q⟩:=h
 obtain⟨t,rfl⟩:=rx
 obtain⟨t',rfl⟩:=ry
 exact rule i j t t' s _ _ ⟨.bl (g i j),H,I,rfl,q⟩
def wO (i j:Int):Prop:=0<j/\j<1073741824
def wP (i j:Int):Prop:=0<=j/\j<=1000000/\i.natAbs<2^64
def qD (i j:Int):Prop:=(-(2^64)<i/\i<2^64)∨(-(2^64)<j/\j<2^64)
theorem qD.ok {i j:Int}(h:qD i j):IntMulOk i j:=by
 rcases h with⟨h1,h2⟩|⟨h1,h2⟩
 ·exact .of_left (intBits_le_64 h1 h2)
 ·exact .of_right (intBits_le_64 h1 h2)
theorem aA5:cR X (binaryOp .Add) (kD λi j=>.int (i+j)):=N5 λ_ _ _ _ _ _ _ q=>add_int q
theorem aA6:cR X (binaryOp .Sub) (kD λi j=>.int (i-j)):=N5 λ_ _ _ _ _ _ _ q=>sub_int q
theorem aA7:cR X (binaryOp .Mult) (rI qD λi j=>.int (i*j)):=sZ λ_ _ _ _ _ _ _ hc q=>mul_int q hc.ok
theorem aA8:cR X (binaryOp .FloorDiv) (rI wO λi j=>.int (i/j)):=sZ λi j _ _ _ _ _ hc q=>by
 have h1:(0:Int)<j:=hc.1;have h2:j<1073741824:=hc.2;exact floordiv_int (by omega) (by rw[Int.fdiv_eq_ediv_of_nonneg i (by omega)];exact q) (.inl (PyProof.noPylong_small (by omega)))
theorem aA9:cR X (binaryOp .Mod) (rI (λ_ j=>0<j) λi j=>.int (i%j)):=sZ λi j _ _ _ _ _ hc q=>by
 have h1:(0:Int)<j:=hc;exact mod_int' (by omega) (by rw[Int.fmod_eq_emod_of_nonneg i (by omega)];exact q)
theorem aB0:cR X (binaryOp .Pow) (rI wP λi j=>.int (i^j.toNat)):=sZ λ_ _ _ _ _ _ _ hc q=>pow_int_small hc.1 hc.2.1 hc.2.2 q
theorem unI {f:av->Sem av}{g:Int->Int}(rule:∀(i:Int) (t:Tok) (s:aw) (Q:av->aw->Prop) (E:av->aw->Prop),Q (.int (g i) s.toks) { s with toks:=s.toks+1 }->wpAny (model X.prog X.w) X.A (f (.int i t)) Q E s) :
  wL X f (rU λi=>.int (g i)):=by
 intro ag s σ H x v Q I rx h
 obtain⟨i,rfl,q⟩:=h
 obtain⟨t,rfl⟩:=rx
 exact rule i t s _ _ ⟨.int (g i),H,I.tok _,⟨_,rfl⟩,q⟩
theorem aB1:wL X (unaryOp .USub) (rU λi=>.int (-i)):=unI λ_ _ _ _ _ q=>neg_int q
end
def N6:V->V->Bool
 |.non,.non=>true|.non,.int _=>true|.int _,.non=>true|.non,.bl _=>true|.bl _,.non=>true|.non,.str _=>true|.str _,.non=>true
 |.int _,.int _=>true|.bl _,.bl _=>true|.str _,.str _=>true|.byt _,.byt _=>true
 |.int _,.str _=>true|.str _,.int _=>true|.bl _,.str _=>true|.str _,.bl _=>true
 |_,_=>false
def wQ:R2:=λx y H Q=>N6 x y=true/\Q (.bl (decide (x=y))) H
def wR:R2:=λx y H Q=>N6 x y=true/\Q (.bl (!decide (x=y))) H
theorem N7 {i j:Int}:decide (V.int i=V.int j)=(i==j):=by
 rw[bC7];simp
theorem N8 {i j:Bool}:decide (V.bl i=V.bl j)=(i==j):=by
 rw[bC7];simp
theorem N9 {i j:Str}:decide (V.str i=V.str j)=(i==j):=by
 rw[bC7];simp
theorem O0 {i j:Array UInt8}:decide (V.byt i=V.byt j)=(i.toList==j.toList):=by
 rw[bC7];cases i;cases j;simp
section
variable {X:Cx}{a b c:Expr}{ta tb tc:TE}{pos:Pos}
theorem cL {ag:List (ax×Obj)}{σ:St}{H:Hp}{s:aw}{Q:VK}{k k':Bool}(I:aA X ag σ H s)(q:Q (.bl k) H)(e:k=k'):EP X ag σ Q (.bool k') s:=by
 subst e
 exact⟨.bl k,H,I,rfl,q⟩
theorem wS:cR X (compareOp .Eq) wQ:=by
 intro ag s σ H x y v u Q I rx ry h
 obtain⟨hs,q⟩:=h
 cases x with
 |non=>
  cases rx;cases y with
  |non=>cases ry;exact PySem.EqNone.eq_none_none (cL I q (by simp))
  |bl j=>cases ry;exact PySem.EqNone.eq_none_bool (cL I q (by simp))
  |int j=>obtain⟨t',rfl⟩:=ry;exact PySem.EqNone.eq_none_int (cL I q (by simp))
  |str j=>obtain⟨t',rfl⟩:=ry;exact PySem.EqNone.eq_none_str (cL I q (by simp))
  |_=>exact absurd (show false=true from hs) bz7
 |bl i=>
  cases rx;cases y with
  |non=>cases ry;exact PySem.EqNone.eq_bool_none (cL I q (by simp))
  |bl j=>cases ry;exact eq_bool (cL I q N8)
  |str j=>obtain⟨t',rfl⟩:=ry;exact PySem.EqMixed.eq_bool_str (cL I q (by simp))
  |_=>exact absurd (show false=true from hs) bz7
 |int i=>
  obtain⟨t,rfl⟩:=rx
  cases y with
  |non=>cases ry;exact PySem.EqNone.eq_int_none (cL I q (by simp))
  |int j=>obtain⟨t',rfl⟩:=ry;exact eq_int (cL I q N7)
  |str j=>obtain⟨t',rfl⟩:=ry;exact PySem.EqMixed.eq_int_str (cL I q (by simp))
  |_=>exact absurd (show false=true from hs) bz7
 |str i=>
  obtain⟨t,rfl⟩:=rx
  cases y with
  |non=>cases ry;exact PySem.EqNone.eq_str_none (cL I q (by simp))
  |bl j=>cases ry;exact PySem.EqMixed.eq_str_bool (cL I q (by simp))
  |int j=>obtain⟨t',rfl⟩:=ry;exact PySem.EqMixed.eq_str_int (cL I q (by simp))
  |str j=>obtain⟨t',rfl⟩:=ry;exact eq_str (cL I q N9)
  |_=>exact absurd (show false=true from hs) bz7
 |byt i=>
  obtain⟨t,rfl⟩:=rx
  cases y with
  |byt j=>obtain⟨t',rfl⟩:=ry;exact PySem.W.eq_bytes (cL I q O0)
  |_=>exact absurd (show false=true from hs) bz7
 |_=>cases y<;>exact absurd (show false=true from hs) bz7
theorem O1:cR X (compareOp .NotEq) wR:=by
 intro ag s σ H x y v u Q I rx ry h
 obtain⟨hs,q⟩:=h
 cases x with
 |non=>
  cases rx;cases y with
  |non=>cases ry;exact PySem.EqNone.ne_none_none (cL I q (by simp))
  |bl j=>cases ry;exact PySem.EqNone.ne_none_bool (cL I q (by simp))
  |int j=>obtain⟨t',rfl⟩:=ry;exact PySem.EqNone.ne_none_int (cL I q (by simp))
  |str j=>obtain⟨t',rfl⟩:=ry;exact PySem.EqNone.ne_none_str (cL I q (by simp))
  |_=>exact absurd (show false=true from hs) bz7
 |bl i=>
  cases rx;cases y with
  |non=>cases ry;exact PySem.EqNone.ne_bool_none (cL I q (by simp))
  |bl j=>cases ry;exact ne_bool (cL I q (congrArg not N8))
  |str j=>obtain⟨t',rfl⟩:=ry;exact PySem.EqMixed.ne_bool_str (cL I q (by simp))
  |_=>exact absurd (show false=true from hs) bz7
 |int i=>
  obtain⟨t,rfl⟩:=rx
  cases y with
  |non=>cases ry;exact PySem.EqNone.ne_int_none (cL I q (by simp))
  |int j=>obtain⟨t',rfl⟩:=ry;exact ne_int (cL I q (congrArg not N7))
  |str j=>obtain⟨t',rfl⟩:=ry;exact PySem.EqMixed.ne_int_str (cL I q (by simp))
  |_=>exact absurd (show false=true from hs) bz7
 |str i=>
  obtain⟨t,rfl⟩:=rx
  cases y with
  |non=>cases ry;exact PySem.EqNone.ne_str_none (cL I q (by simp))
  |bl j=>cases ry;exact PySem.EqMixed.ne_str_bool (cL I q (by simp))
  |int j=>obtain⟨t',rfl⟩:=ry;exact PySem.EqMixed.ne_str_int (cL I q (by simp))
  |str j=>obtain⟨t',rfl⟩:=ry;exact ne_str (cL I q (congrArg not N9))
  |_=>exact absurd (show false=true from hs) bz7
 |byt i=>
  obtain⟨t,rfl⟩:=rx
  cases y with
  |byt j=>obtain⟨t',rfl⟩:=ry;exact PySem.W.ne_bytes (cL I q (congrArg not O0))
  |_=>exact absurd (show false=true from hs) bz7
 |_=>cases y<;>exact absurd (show false=true from hs) bz7
theorem t5:cR X (compareOp .Lt) (kD λi j=>.bl (decide (i<j))):=wN λ_ _ _ _ _ _ _ q=>lt_int q
theorem O2:cR X (compareOp .Gt) (kD λi j=>.bl (decide (j<i))):=wN λ_ _ _ _ _ _ _ q=>gt_int q
theorem O3:cR X (compareOp .GtE) (kD λi j=>.bl (decide (j<=i))):=wN λ_ _ _ _ _ _ _ q=>ge_int q
theorem aB2:cR X (compareOp .Is) (λx y H Q=>y = .non/\Q (.bl (decide (x = .non))) H):=by
 intro ag s σ H x y v u Q I rx ry h
 obtain⟨rfl,q⟩:=h
 cases ry;refine is_none_gen (cL I q ?_);cases x<;>first
  |(cases rx;rfl)
  |(obtain⟨t,rfl⟩:=rx;rfl)
theorem fM (b:Expr){op:CmpOp}(h:op≠.In:=by decide)(h2:op≠.NotIn:=by decide):behindInMarks op b=false:=by
 have e1:(op==CmpOp.In)=false:=by cases op<;>first|rfl|exact absurd rfl h
 have e2:(op==CmpOp.NotIn)=false:=by cases op<;>first|rfl|exact absurd rfl h2
 cases b<;>simp[behindInMarks,e1,e2]
theorem wT {op:CmpOp}{r:R2}(ho:cR X (compareOp op) r)(ha:PE X a ta)(hb:PE X b tb)(hm:behindInMarks op b=false):PE X (.Compare a [op] [b] pos) (nZ r ta tb):=by
 intro ag s σ H Q I h;exact wpAny_Compare1 (wM ha hb I h λv u s2 x y H2 I2 rx ry q=>ho ag s2 σ H2 x y v u Q I2 rx ry q) hm
def aB3 (t:TE):TT:=λσ H Q=>t σ H λx H'=>∃k,x = .bl k/\Q k H'
theorem aB4 {op:CmpOp}{r:R2}(ho:cR X (compareOp op) r)(ha:PE X a ta)(hb:PE X b tb)(hm:behindInMarks op b=false):PT X (.Compare a [op] [b] pos) (aB3 (nZ r ta tb)):=by
 intro ag s σ H Q I h
 refine wpAny_isTrue_Compare1 (aP (ha ag s σ H _ I h) λv s1 ⟨x,H1,I1,r1,q1⟩=>aP (hb ag s1 σ H1 _ I1 q1) λu s2 ⟨y,H2,I2,r2,q2⟩=>
  aP (ho ag s2 σ H2 x y v u _ I2 r1 r2 q2) λc s3 ⟨z,H3,I3,r3,k,e,q3⟩=>?_) hm
 subst e;cases r3;exact bL9 ⟨H3,I3,q3⟩
def wU (K:ac)(x:V)(H:Hp)(k:Bool):Prop:=
 match x with
 |.non=>k=false
 |.bl b=>k=b
 |.int i=>k=(i != 0)
 |.str y=>y.length<=sizeLine/\k=((y.length:Int) != 0)
 |.byt y=>y.size<=sizeLine/\k=((y.size:Int) != 0)
 |.ref p=>(∃xs,aR K H p xs/\k = !xs.isEmpty)∨(∃xs,aS K H p xs/\k = !xs.isEmpty)∨∃kvs,H p=some (.dK kvs)/\k = !kvs.isEmpty
 |_=>False
theorem aB5 {κ:Type}{kvs:List (κ×V)}{vs:List (κ×av)}(r:KV kvs vs):(!vs.isEmpty) = !kvs.isEmpty:=by
 cases r<;>rfl
theorem O4 {xs:List V}{its:List av}(r:aX xs its):(!its.toArray.isEmpty) = !xs.isEmpty:=by
 cases r<;>simp
theorem qE:(sizeLine:Nat)<2^63:=by rw[sizeLine_eq];decide
theorem O5:aA2 X (λx H Q=>∃k,wU X.K x H k/\Q k H):=by
 intro ag s σ H x v Q I rx h
 obtain⟨k,e,q⟩:=h
 have hl:=qE;have hs:sizeLine=16777216:=sizeLine_eq;cases x with
 |non=>
  cases rx;have e':k=false:=e;subst e';exact truthy_none ⟨H,I,q⟩
 |bl b=>
  cases rx;have e':k=b:=e;subst e';exact bL9 ⟨H,I,q⟩
 |int i=>
  obtain⟨t,rfl⟩:=rx
  have e':k=(i != 0):=e;subst e';exact PySem.P.truthy_int ⟨H,I,q⟩
 |str y=>
  obtain⟨t,rfl⟩:=rx
  obtain⟨hy,e'⟩:y.length<=sizeLine/\k=((y.length:Int) != 0):=e
  subst e';exact PySem.P.truthy_str (by omega) ⟨H,I.tok _,q⟩
 |byt y=>
  obtain⟨t,rfl⟩:=rx
  obtain⟨hy,e'⟩:y.size<=sizeLine/\k=((y.size:Int) != 0):=e
  subst e';exact PySem.W.truthy_bytes (by omega) ⟨H,I.tok _,q⟩
 |ref p=>
  cases rx;have e':(∃xs,aR X.K H p xs/\k = !xs.isEmpty)∨(∃xs,aS X.K H p xs/\k = !xs.isEmpty)∨∃kvs,H p=some (.dK kvs)/\k = !kvs.isEmpty:=e
  rcases e' with⟨xs,hx,e'⟩|⟨xs,hx,e'⟩|⟨kvs,hx,e'⟩
  ·subst e'
   obtain⟨its,r,pl,hz⟩:=I.list hx
   have aj:=r.length;exact wpAny_truthy_list pl.isList (by simp only[bx6];omega) ⟨H,I.tok _,by rw[O4 r];exact q⟩
  ·subst e'
   obtain⟨its,r,pl,hz⟩:=I.tuple hx
   have aj:=r.length;exact truthy_tuple pl (by simp only[bx6];omega) ⟨H,I.tok _,by rw[O4 r];exact q⟩
  ·subst e'
   obtain⟨hz,hS,vs,r,m⟩:kvs.length<=sizeLine/\(p==sysModules)=false/\∃vs,KV kvs vs/\s.heap.DictOf (dO X.prog X.w) p vs:=I.hok p _ hx
   have aj:kvs.length=vs.length:=Paired.length r;exact wpAny_truthy_dict hS m (by omega) ⟨H,I.tok _,by rw[aB5 r];exact q⟩
 |_=>exact (show False from e).elim
theorem aB6 (ha:PE X a ta)(he:∀whole,isTrue a X.env whole=(do let v <- whole;standAt a.pos;holding [v] (truthy v))) :
  PT X a (λσ H Q=>ta σ H λx H'=>∃k,wU X.K x H' k/\Q k H'):=by
 intro ag s σ H Q I h;exact isTrue_plain (aP (ha ag s σ H _ I h) λv s1 ⟨x,H1,I1,r1,q1⟩=>O5 ag s1 σ H1 x v Q I1 r1 q1) (he _)
theorem hV {x:V}{us:List av}(r:aX [x] us):∃u,us = [u]/\b7 x u:=by
 cases r with
 |cons r1 r2=>cases r2;exact⟨_,rfl,r1⟩
theorem O6 {x y:V}{us:List av}(r:aX [x,y] us):∃u w',us = [u,w']/\b7 x u/\b7 y w':=by
 cases r with
 |cons r1 r2=>
  cases r2 with
  |cons r3 r4=>cases r4;exact⟨_,_,rfl,r1,r3⟩
theorem aB7 (hc:X.calm=true):d7 X (.builtin "max") (λxs H Q=>∃i j,xs = [.int i,.int j]/\Q (.int (if j>i then j else i)) H):=by
 intro ag s σ H xs us Q I r h
 obtain⟨i,j,rfl,q⟩:=h
 obtain⟨u,w',rfl,⟨t,rfl⟩,⟨t',rfl⟩⟩:=O6 r
 refine max_two_ints (I.ok.hd hc) λh' tk k=>⟨_,H,I.kept k,?_,q⟩
 by_cases hj:j>i
 ·rw[if_pos hj,if_pos hj];exact⟨_,rfl⟩
 ·rw[if_neg hj,if_neg hj];exact⟨_,rfl⟩
theorem aB8 (hc:X.calm=true):d7 X (.builtin "min") (λxs H Q=>∃i j,xs = [.int i,.int j]/\Q (.int (if j<i then j else i)) H):=by
 intro ag s σ H xs us Q I r h
 obtain⟨i,j,rfl,q⟩:=h
 obtain⟨u,w',rfl,⟨t,rfl⟩,⟨t',rfl⟩⟩:=O6 r
 refine min_two_ints (I.ok.hd hc) λh' tk k=>⟨_,H,I.kept k,?_,q⟩
 by_cases hj:j<i
 ·rw[if_pos hj,if_pos hj];exact⟨_,rfl⟩
 ·rw[if_neg hj,if_neg hj];exact⟨_,rfl⟩
end
structure mL (h:Heap)(x dx C:ax)(mA:Str->Option av):Prop where
 obj:h.get? x=some (PySem.W.instObj C dx)
 ns:h.Ns1 dx mA
 ne:dx≠x
theorem aB9 {h:Heap}{dx:ax}{mA:Str->Option av}(n:h.Ns1 dx mA):∃od,h.get? dx=some od/\∀name,PySem.W.lookIn name od=some (mA name):=by
 obtain⟨o,es,ep,ho,hd,hk,_,hm⟩:=n
 refine⟨o,ho,λname=>?_⟩;have e:=hm name;unfold nsFind findBy at e;rw[<- Array.find?_toList]at e;unfold PySem.W.lookIn;rw[hd];dsimp only;split
 ·rename_i y q
  rw[q]at e;exact congrArg some e
 ·rename_i q
  rw[q]at e;have a:es.toList.any (·.refKey)=false:=by
   rw[List.any_eq_false];intro y hy
   obtain⟨z,t,hkey⟩:=hk y (Array.mem_toList_iff.mp hy)
   simp[DictEntry.refKey,hkey]
  have a':¬es.toList.any (·.refKey)=true:=by rw[a];exact bz7
  rw[if_neg a'];exact congrArg some e
theorem mL.look {h:Heap}{x dx C:ax}{mA:Str->Option av}(I:mL h x dx C mA):∃od,PySem.W.InstAt h x (PySem.W.instObj C dx) C (some od)/\∀name,PySem.W.lookIn name od=some (mA name):=
 let ⟨od,ho,hl⟩:=aB9 I.ns
 ⟨od,⟨I.obj,rfl,rfl,ho⟩,hl⟩
section
variable {prog:ay}{w:ba}{A:az}{E:av→aw→Prop}{s:aw}{K:ac}{x dx C f:ax}{mA:Str→Option av}{name:Str}{v:av}
theorem aC0 {expr:Bool}{Q:av->aw->Prop}(X:K.In s.heap)(I:mL s.heap x dx C mA)(hg:PySem.W.plainGet K C name=true)(hh:PySem.W.hasDictIn K C=true)(ha:PySem.W.findIn K (.ref C) name=some none)(hv:mA name=some v)(hv':PySem.W.handedIn v=true)(h:Q v { s with toks:=s.toks+1 }) :
  wpAny (model prog w) A (getAttr (.ref x) name expr) Q E s:=by
 obtain⟨od,J,hl⟩:=I.look
 exact PySem.W.get_value X J (PySem.W.plainGet_of hg).1 (PySem.W.findObj_own hh ha rfl (by rw[hl,hv])) hv' h
theorem aC1 {pl:Sem Bool}{Q:av×List av->aw->Prop}(X:K.In s.heap)(I:mL s.heap x dx C mA)(hg:PySem.W.plainGet K C name=true)(hf:PySem.W.findIn K (.ref C) name=some (some (.ref f)))(ht:PySem.W.isFn K (.ref f)=true)(hv:mA name=none)(h:Q (.ref f,[.ref x]) s) :
  wpAny (model prog w) A (getMethod (.ref x) name pl) Q E s:=by
 obtain⟨od,J,hl⟩:=I.look
 exact PySem.W.method_fn X J (PySem.W.plainGet_of hg).1 (PySem.W.plainGet_of hg).2 hf (beq_iff_eq.mp ht) (by show (PySem.W.lookIn name od).map (·.isSome)=some false;rw[hl,hv];rfl) h
theorem aC2 {ns:List Str}{Q:Unit->aw->Prop}(X:K.In s.heap)(I:mL s.heap x dx C mA)(hs:PySem.W.findIn K (.ref C) "__setattr__" = some (some (.builtin "object.__setattr__")))(hp:PySem.W.plainOver K C=true)(ht:PySem.W.takerIn K C name=some none)(hh:PySem.W.hasDictIn K C=true)(hw:PySem.Within mA ns)(hsz:ns.length<=sizeLine)(h:∀h',mL h' x dx C (λy=>if y=name then some v else mA y)->Heap.SameBut dx s.heap h'->Q () { s with heap:=h',toks:=s.toks+2 }) :
  wpAny (model prog w) A (setAttr (.ref x) name v) Q E s:=by
 obtain⟨od,J,hl⟩:=I.look
 refine PySem.W.set_plain X J hs (PySem.W.osa_open (s:={ s with toks:=s.toks+1 }) (r:=none) X J hp ht λb=>?_)
 obtain⟨cd,hc,hd'⟩:=PySem.W.any_some hh
 have hx:s.heap.get? x=some ⟨.ref C,some dx,.plain,#[]⟩:=I.obj;refine bx4 (by3 (bx4 (bx4 (wpAny_loadPart hx (bx4 (PySem.W.Looks.here (s:={ s with toks:=s.toks+1 }) (PySem.W.looks_clsIn X hc) ?_))))));rw[hd'];refine by3 (a:=some dx) (bx4 (by3 (bx4 ?_)));refine wpAny_nsSet1 (s:={ s with toks:=s.toks+1 }) I.ns λh' hn2 hs2=>?_
 obtain⟨oD,esD,epD,hoD,hdD,hcD⟩:=hn2.count (PySem.Within.cons name v hw)
 refine bx4 (wpAny_lookBehind hoD (by rw[hdD];exact pastItsLine_dict (bA9 hcD (by rw[bA3];omega))) ?_);exact by3 (h _ ⟨(hs2.2 _ (Ne.symm I.ne)).trans I.obj,hn2,I.ne⟩ hs2)
theorem aC3 {R:Result->aw->Prop}{vs:List av}{kw:List (Str×av)}(X:K.In s.heap)(hm:PySem.W.makesIn K C=true)(hi:PySem.W.findIn K (.ref C) "__init__" = some (some (.ref f)))(hf:PySem.W.typeIn K (.ref f)=some (.type "function"))(h:codeAny (model prog w) (A.under (.builtin "type.__call__" ⟨.ref C::vs,kw⟩)) (.call (.ref f) ⟨.ref (s.heap.objs.size+1)::vs,kw⟩) (PySem.W.InitBack (s.heap.objs.size+1) R)
   { s with heap:=(s.heap.push PySem.W.emptyDict).push (PySem.W.instObj C s.heap.objs.size) }) :
  codeAny (model prog w) A (.call (.ref C) ⟨vs,kw⟩) R s:=by
 obtain⟨hh,g,d,t,os⟩:=s
 exact PySem.W.make_core (PySem.W.makes_of X hm) (PySem.W.looks_findIn X hi) (λself=>PySem.W.bind_fn X self hf) (.inl rfl) h
end
def fC (f:Str)(v:V):List (Str×V)->List (Str×V)
 |[]=>[(f,v)]
 |(g,x)::r=>if g=f then (g,v)::r else (g,x)::fC f v r
theorem O7 (f g:Str)(v:V):∀fs:List (Str×V),(fC f v fs).lookup g=if g=f then some v else fs.lookup g
 |[]=>by
  show List.lookup g [(f,v)]=_;by_cases h:g=f
  ·have hb:(g==f)=true:=beq_iff_eq.mpr h
   simp only[List.lookup,hb,if_pos h]
  ·have hb:(g==f)=false:=bG0.mpr h
   simp only[List.lookup,hb,if_neg h]
 |(k,x)::r=>by
  have ih:=O7 f g v r;rw[show fC f v ((k,x)::r)=(if k=f then (k,v)::r else (k,x)::fC f v r) from rfl];by_cases hk:k=f
  ·rw[if_pos hk]
   by_cases h:g=k
   ·have hb:(g==k)=true:=beq_iff_eq.mpr h
    simp only[List.lookup,hb,if_pos (h.trans hk)]
   ·have hb:(g==k)=false:=bG0.mpr h
    simp only[List.lookup,hb,if_neg (λe:g=f=>h (e.trans hk.symm))]
  ·rw[if_neg hk]
   by_cases h:g=k
   ·have hb:(g==k)=true:=beq_iff_eq.mpr h
    simp only[List.lookup,hb,if_neg (λe:g=f=>hk (h.symm.trans e))]
   ·have hb:(g==k)=false:=bG0.mpr h
    simp only[List.lookup,hb];exact ih
theorem wV (f:Str)(v:V):∀fs:List (Str×V),f∈(fC f v fs).map (·.1)/\∀g,g∈fs.map (·.1)->g∈(fC f v fs).map (·.1)
 |[]=>⟨by simp[fC],λg h=>by simp at h⟩
 |(k,x)::r=>by
  obtain⟨i1,i2⟩:=wV f v r
  rw[show fC f v ((k,x)::r)=(if k=f then (k,v)::r else (k,x)::fC f v r) from rfl];by_cases hk:k=f
  ·rw[if_pos hk]
   subst hk
   exact⟨by simp,λg h=>by simpa using h⟩
  ·rw[if_neg hk]
   refine⟨?_,λg h=>?_⟩
   ·rw[bC1]
    exact bz9 _ i1
   ·rw[bC1]at h ⊢
    rcases by2.mp h with e|e
    ·exact by2.mpr (.inl e)
    ·exact bz9 _ (i2 g e)
theorem O8 (f:Str)(v:V):∀fs:List (Str×V),(fC f v fs).length<=fs.length+1
 |[]=>by simp[fC]
 |(k,x)::r=>by
  have ih:=O8 f v r;rw[show fC f v ((k,x)::r)=(if k=f then (k,v)::r else (k,x)::fC f v r) from rfl];by_cases hk:k=f
  ·rw[if_pos hk,bA3,bA3];omega
  ·rw[if_neg hk,bA3,bA3];omega
theorem fY.some_of {v:V}{o:Option av}(r:fY (some v) o):∃u,o=some u/\b7 v u:=by
 cases o with
 |none=>exact (show False from r).elim
 |some u=>exact⟨u,rfl,r⟩
theorem fY.none_of {o:Option av}(r:fY none o):o=none:=by
 cases o with
 |none=>rfl
 |some u=>exact (show False from r).elim
theorem aC4 {v:V}{u:av}(r:b7 v u):PySem.W.handedIn u=true:=by
 cases v with
 |non=>cases (show u=Value.none from r);rfl
 |bl b=>cases (show u=Value.bool b from r);rfl
 |int i=>obtain⟨t,e⟩:=(show ∃t,u=Value.int i t from r);cases e;rfl
 |str x=>obtain⟨t,e⟩:=(show ∃t,u=Value.str x t from r);cases e;rfl
 |byt b=>obtain⟨t,e⟩:=(show ∃t,u=Value.bytes b t from r);cases e;rfl
 |flt b=>obtain⟨t,e⟩:=(show ∃t,u=Value.float b t from r);cases e;rfl
 |ref a=>cases (show u=Value.ref a from r);rfl
 |ty n=>cases (show u=Value.type n from r);rfl
section
variable {P:ay}{w:ba}{H H':Hp}{h h':Heap}{a C dx:ax}{fs fs':List (Str×V)}
theorem wW (hok:cF P w H h)(e:H a=some (.ins C dx fs)):∃mA,mL h a dx C mA/\(∀f,fY (fs.lookup f) (mA f))/\PySem.Within mA (fs.map (·.1))/\fs.length<=1000/\H dx=some (.own a):=by
 obtain⟨d,z,ne,ob,mA,n,r,q⟩:=(show cV P w H h a (.ins C dx fs) from hok a _ e)
 exact⟨mA,⟨ob,n,ne⟩,r,q,z,d⟩
end
structure hZ (K:ac)(C:ax):Prop where
 pg:PySem.W.plainGet K C Str.empty=true
 hd:PySem.W.hasDictIn K C=true
 po:PySem.W.plainOver K C=true
 sa:PySem.W.findIn K (.ref C) "__setattr__" = some (some (.builtin "object.__setattr__"))
theorem hZ.get {K:ac}{C:ax}(c:hZ K C)(f:Str):PySem.W.plainGet K C f=true:=c.pg
def lH (K:ac)(C:ax)(f:Str):Prop:=PySem.W.findIn K (.ref C) f=some none
theorem lH.taker {K:ac}{C:ax}{f:Str}(n:lH K C f):PySem.W.takerIn K C f=some none:=by
 unfold PySem.W.takerIn;rw[show PySem.W.findIn K (.ref C) f=some none from n];rfl
structure eR (K:ac)(C:ax)(m:Str)(f:ax):Prop where
 at_:PySem.W.findIn K (.ref C) m=some (some (.ref f))
 fn:PySem.W.isFn K (.ref f)=true
 kp:PySem.W.keepIn K (.ref f)=true
section
variable {X:Cx}{ag:List (ax×Obj)}{σ:St}{H:Hp}{s:aw}{a C dx:ax}{fs:List (Str×V)}{f:Str}{v:V}{A:az}{E:av→aw→Prop}
theorem aC5 {b:Bool}{Q:av->aw->Prop}(I:aA X ag σ H s)(e:H a=some (.ins C dx fs))(c:hZ X.K C)(n:lH X.K C f)(l:fs.lookup f=some v)(h:∀u s',aA X ag σ H s'->b7 v u->Q u s'):wpAny (model X.prog X.w) A (getAttr (.ref a) f b) Q E s:=by
 obtain⟨mA,O,r,_,_,_⟩:=wW I.hok e
 obtain⟨u,hu,ru⟩:=fY.some_of (v:=v) (o:=mA f) (by rw[<- l];exact r f)
 exact aC0 I.kIn O (c.get f) c.hd n hu (aC4 ru) (h u _ (I.tok _) ru)
theorem qF {m:Str}{g:ax}{pl:Sem Bool}{Q:av×List av->aw->Prop}(I:aA X ag σ H s)(e:H a=some (.ins C dx fs))(c:hZ X.K C)(k:eR X.K C m g)(l:fs.lookup m=none)(h:Q (.ref g,[.ref a]) s):wpAny (model X.prog X.w) A (getMethod (.ref a) m pl) Q E s:=by
 obtain⟨mA,O,r,_,_,_⟩:=wW I.hok e
 have hn:mA m=none:=fY.none_of (by rw[<- l];exact r m);exact aC1 I.kIn O (c.get m) k.at_ k.fn hn h
theorem aC6 {y:V}{u:av}{Q:Unit->aw->Prop}(I:aA X ag σ H s)(e:H a=some (.ins C dx fs))(c:hZ X.K C)(n:lH X.K C f)(hl:fs.length<1000)(ry:b7 y u)(h:∀s',aA X ag σ (upd H a (.ins C dx (fC f y fs))) s'->Q () s'):wpAny (model X.prog X.w) A (setAttr (.ref a) f u) Q E s:=by
 obtain⟨mA,O,r,wi,_,ho⟩:=wW I.hok e
 have hz:(fs.map (·.1)).length<=sizeLine:=by rw[bx7,sizeLine_eq];omega
 refine aC2 I.kIn O c.sa c.po n.taker c.hd wi hz λh' O' sb=>h _ ?_
 have hd:∃o,h'.get? dx=some o:=let ⟨o,_,_,e',_⟩:=O'.ns;⟨o,e'⟩
 refine I.write (x:=a) (e:=dx) (by rw[e];exact True.intro) (.inr ho) (λb q hb z=>(sb.2 b hb).trans z) hd ?_;refine⟨by rw[aH O.ne];exact ho,?_,O.ne,O'.obj,_,O'.ns,λg=>?_,λg hg=>?_⟩
 ·have:=O8 f y fs;omega
 ·show fY ((fC f y fs).lookup g) (if g=f then some u else mA g)
  rw[O7];by_cases q:g=f
  ·rw[if_pos q,if_pos q];exact ry
  ·rw[if_neg q,if_neg q];exact r g
 ·by_cases q:g=f
  ·rw[q];exact (wV f y fs).1
  ·refine (wV f y fs).2 g (wi g λz=>hg ?_)
   show (if g=f then some u else mA g)=none;rw[if_neg q];exact z
theorem aA.made (I:aA X ag σ H s):aA X ag σ (upd (upd H s.heap.objs.size (.own (s.heap.objs.size+1))) (s.heap.objs.size+1) (.ins C s.heap.objs.size []))
  { s with heap:=(s.heap.push PySem.W.emptyDict).push (PySem.W.instObj C s.heap.objs.size) }:=by
 have e1:(s.heap.push PySem.W.emptyDict).get? s.heap.objs.size=some PySem.W.emptyDict:=bz0 s.heap rfl;have e2:((s.heap.push PySem.W.emptyDict).push (PySem.W.instObj C s.heap.objs.size)).get? (s.heap.objs.size+1)=some (PySem.W.instObj C s.heap.objs.size):=by
  have:=bz0 (s.heap.push PySem.W.emptyDict) (o:=PySem.W.instObj C s.heap.objs.size) rfl
  rwa [bF7]at this
 have e3:(s.heap.push PySem.W.emptyDict).Ns s.heap.objs.size (λ_=>none):=⟨PySem.W.emptyDict,#[],_,e1,rfl,(λe he=>absurd he (by simp)),λ_=>rfl⟩;have I1:=I.laid (a:=s.heap.objs.size) (o:=.own (s.heap.objs.size+1)) (h':=s.heap.push PySem.W.emptyDict) (t':=s.toks) (λb u q=>bx5 _ q) (bx9 _) ⟨_,e1⟩;refine I1.laid (a:=s.heap.objs.size+1) (o:=.ins C s.heap.objs.size []) (t':=s.toks) (λb u q=>bx5 _ q) (Nat.le_of_eq (bF7 _ _)) ?_;have ne:s.heap.objs.size≠s.heap.objs.size+1:=bA8 (Nat.lt_succ_self _);refine⟨by rw[aH ne,aY],bB2 _,ne,e2,λ_=>none,(Heap.Ns1.of_empty e3).at λo q=>bx5 _ q,λ_=>True.intro,λy hy=>absurd rfl hy⟩
theorem aC7 {prog:ay}{w:ba}{env:Env}{e:Expr}{f:Str}{pos:Pos}{s:aw}{Q:av->aw->Prop}(hb:attributeBase e f env (eval e env)=eval e env)(h:wpAny (model prog w) A (eval e env) (λo s₁=>wpAny (model prog w) A (getAttr o f true) Q E s₁) E s):wpAny (model prog w) A (eval (.Attribute e f pos) env) Q E s:=
 Attribute_any_ h (by rw[arm_eval_Attribute,hb])
end
def kE (K:ac)(ta:TE)(f:Str):TE:=λσ H Q=>ta σ H λx H1=>∃a C dx fs v,x = .ref a/\H1 a=some (.ins C dx fs)/\hZ K C/\lH K C f/\fs.lookup f=some v/\Q v H1
def O9 (K:ac)(ta tv:TE)(f:Str):TS:=λD σ H=>tv σ H λy H1=>ta σ H1 λx H2=>∃a C dx fs,x = .ref a/\H2 a=some (.ins C dx fs)/\hZ K C/\lH K C f/\fs.length<1000/\
 D.nx σ (upd H2 a (.ins C dx (fC f y fs)))
section
variable {X:Cx}{o e value:Expr}{f:Str}{pos pos' tpos:Pos}{ta tv:TE}
theorem mM (he:PE X e ta)(hb:attributeBase e f X.env (eval e X.env)=eval e X.env):PE X (.Attribute e f pos) (kE X.K ta f):=by
 intro ag s σ H Q I h;refine aC7 hb (aP (he ag s σ H _ I h) λu s1 ⟨x,H1,I1,rx,a,C,dx,fs,v,ex,ea,c,n,l,q⟩=>?_);subst ex;obtain rfl:u=Value.ref a:=rx;exact aC5 I1 ea c n l λu' s2 I2 ru=>⟨v,H1,I2,ru,q⟩
theorem wX (ha:PE X o ta)(hv:PE X value tv)(hs:swapsWith value (some (.Attribute o f pos')) pos.line X.env=pure false):PS X (.Assign [.Attribute o f pos'] value pos) (O9 X.K ta tv f):=by
 intro ag s σ H D I h;refine plainObj_wpAny_Assign_Attribute (aP (hv ag s σ H _ I h) λu s1 ⟨y,H1,I1,ry,q⟩=>aP (ha ag s1 σ H1 _ I1 q) λov s2 ⟨x,H2,I2,rx,a,C,dx,fs,ex,ea,c,n,l,q2⟩=>?_) hs;subst ex;obtain rfl:ov=Value.ref a:=rx;exact aC6 I2 ea c n l ry λs3 I3=>⟨σ,_,I3,q2⟩
theorem bx1 {pl:Sem Bool}{m:Str}{ah:Pos}{args:List Expr}{ag:List (ax×Obj)}{s:aw}{σ:St}{H:Hp}{Q:av->aw->Prop}{te:TE}(he:PE X e te)(I:aA X ag σ H s)(h:te σ H λx H1=>∃a C dx fs g,x = .ref a/\H1 a=some (.ins C dx fs)/\hZ X.K C/\eR X.K C m g/\fs.lookup m=none/\
   ∀s1,aA X ag σ H1 s1->wpAny (model X.prog X.w) X.A (callWith pos (.ref g) [.ref a] (backTo pos (starEach args X.env)) (backToKw pos (keywordEach [] X.env))) Q X.xe s1)(ht:eval (.Call (.Attribute e m ah) args [] pos) X.env=(do
   let ov <- eval e X.env
   standAt ah.atName
   let (f,first) <- holding [ov] (getMethod ov m pl)
   callWith pos f first (backTo pos (starEach args X.env)) (backToKw pos (keywordEach [] X.env)))) :
  wpAny (model X.prog X.w) X.A (eval (.Call (.Attribute e m ah) args [] pos) X.env) Q X.xe s:=by
 refine bL2 (pl:=pl) (aP (he ag s σ H _ I h) λu s1 ⟨x,H1,I1,rx,a,C,dx,fs,g,ex,ea,c,k,l,q⟩=>?_) ht;subst ex;obtain rfl:u=Value.ref a:=rx;exact qF I1 ea c k l (q s1 I1)
end
structure bL (k:Nat)(A:az):Prop where
 hd:A.handled=none
 dp:A.depth+3*k+5<recursionLimit
 un:A.units+16*k+200<cLine
theorem bL.mono {j k:Nat}{A:az}(r:bL k A)(h:j<=k):bL j A:=⟨r.hd,by have:=r.dp;omega,by have:=r.un;omega⟩
theorem bL.deeper {k:Nat}{A:az}(r:bL (k+1) A)(env:Env):bL k (A.deeper env):=
 ⟨r.hd,by have:=r.dp;show A.depth+1+3*k+5<_;omega,by have:=r.un;show A.units+3+16*k+200<_;omega⟩
theorem aC8 {A:az}{C:ax}{us:List av}{kw:List (Str×av)}:(A.under (.builtin "type.__call__" ⟨.ref C::us,kw⟩)).depth=A.depth+1:=by
 first|rfl|simp[Around.under,Code.weight,Code.isCreation,Code.isGuard,Code.isCaller,Code.frames,Code.isFrame,guardIds]
theorem aC9 {A:az}{C:ax}{us:List av}{kw:List (Str×av)}:(A.under (.builtin "type.__call__" ⟨.ref C::us,kw⟩)).units=A.units+1:=by
 first|rfl|simp[Around.under,Code.cUnits,Code.frames,Code.isFrame]
theorem bL.make {k:Nat}{A:az}(r:bL (k+1) A)(C:ax)(us:List av)(kw:List (Str×av)):bL k (A.under (.builtin "type.__call__" ⟨.ref C::us,kw⟩)):=
 ⟨r.hd,by have:=r.dp;rw[aC8];omega,by have:=r.un;rw[aC9];omega⟩
theorem bL.depth {k:Nat}{A:az}(r:bL k A):A.depth<recursionLimit:=by have:=r.dp;omega
theorem bL.units {k:Nat}{A:az}(r:bL k A):A.units+64<cLine:=by have:=r.un;omega
def fZ:TA:=λ_ H Q=>Q [] H
def iH (ta:TE)(tr:TA):TA:=λσ H Q=>ta σ H λx H1=>tr σ H1 λxs H2=>Q (x::xs) H2
section
variable {X:Cx}{e:Expr}{es:List Expr}{te:TE}{t:TA}{pos:Pos}
theorem eS:PA X [] fZ:=λ_ _ _ _ H Q I h=>Calls.spliced_nil ⟨[],H,I,.nil,h⟩
theorem eC (ha:PE X e te)(hr:PA X es t)(hs:starEach (e::es) X.env=(false,eval e X.env)::starEach es X.env:=by rfl):PA X (e::es) (iH te t):=by
 intro pos ag s σ H Q I h;rw[hs];show wpAny _ _ (spliced ((false,eval e X.env)::backTo pos (starEach es X.env))) _ _ s;refine Calls.spliced_cons (aP (ha ag s σ H _ I h) λu s1 ⟨x,H1,I1,r1,q1⟩=>?_);exact aP (hr pos ag s1 σ H1 _ I1 q1) λus s2 ⟨xs,H2,I2,r2,q2⟩=>⟨x::xs,H2,I2,.cons r1 r2,q2⟩
def P0 (t:TA):TE:=λσ H Q=>t σ H λxs H1=>xs.length<=sizeLine/\∀p,H1 p=none->Q (.ref p) (upd H1 p (.tup xs))
def wY (t:TA):TE:=λσ H Q=>t σ H λxs H1=>xs.length<=sizeLine/\∀p,H1 p=none->Q (.ref p) (upd H1 p (.lst xs))
theorem aD0 {x1}(h:PA X es t):PE X (.Tuple es x1 pos) (P0 t):=by
 intro ag s σ H Q I hq;refine wpAny_Tuple_spliced (aP (h pos ag s σ H _ I hq) λus s1 ⟨xs,H1,I1,r,z,q⟩=>⟨by rw[<- r.length];exact z,?_⟩);have hf:H1 s1.heap.objs.size=none:=I1.hok.fresh (bx9 _);refine⟨.ref s1.heap.objs.size,upd H1 s1.heap.objs.size (.tup xs),I1.laid (t':=s1.toks) (λb u e=>bx5 _ e) (bx9 _) ?_,rfl,q _ hf⟩
 exact⟨z,us,r,⟨_,bz0 _ rfl,rfl,_,rfl⟩,jL.new _ _ rfl⟩
theorem t6 (h:PA X es t):PE X (.List es pos) (wY t):=by
 intro ag s σ H Q I hq;refine wpAny_List_spliced (aP (h pos ag s σ H _ I hq) λus s1 ⟨xs,H1,I1,r,z,q⟩=>⟨by rw[<- r.length];exact z,?_⟩);have hf:H1 s1.heap.objs.size=none:=I1.hok.fresh (bx9 _);refine⟨.ref s1.heap.objs.size,upd H1 s1.heap.objs.size (.lst xs),I1.laid (t':=s1.toks) (λb u e=>bx5 _ e) (bx9 _) ?_,rfl,q _ hf⟩
 exact⟨z,us,0,r,bz0 _ rfl⟩
end
abbrev Sp:=List V->Hp->VK->XK->Prop
abbrev iI:=List Env->Hp->aw->XK->av->aw->Prop
structure mO (P:ay)(w:ba)(K:ac)(mg:Str->Option av)(base:Heap)(A:az)(outer:List Env)(s:aw)(H:Hp):Prop where
 frames:A.frames=some outer
 mod:Mod K mg base
 bs:∀b o,base.get? b=some o->s.heap.get? b=some o/\H b=none
 bsz:base.objs.size<=s.heap.objs.size
 funs:s.heap.FunFrames base outer
 frf:∀b∈cE outer,H b=none
 hok:cF P w H s.heap
 bare:AllBare s.gens
def CE (outer:List Env)(P:ay)(w:ba)(H:Hp)(s:aw)(Q:VK)(u:av)(s':aw):Prop:=
 ∃v H',s'.os=s.os/\AllBare s'.gens/\Un (cE outer) [] H H' s.heap s'.heap/\cF P w H' s'.heap/\b7 v u/\Q v H'
def CR (CX:iI)(outer:List Env)(P:ay)(w:ba)(H:Hp)(s:aw)(Q:VK)(E:XK)(r:Result)(s':aw):Prop:=
 match r with
 |.ok (.ret u)=>CE outer P w H s Q u s'
 |.ok _=>False
 |.error e=>CX outer H s E e s'
structure bZ (P:ay)(w:ba)(K:ac)(mg:Str->Option av)(base:Heap)(CX:iI)(k:Nat)(f:ax)(fd:FuncData)(ps:List Str)(sp:Sp):Prop where
 len:∀vs H Q E,sp vs H Q E->vs.length=ps.length
 run:∀(A:az) (outer:List Env) (s:aw) (H:Hp) (args:Args) (us:List av) (vs:List V) (Q:VK) (E:XK),bL k A->mO P w K mg base A outer s H->BindsTo s fd args (ps.zip us)->aX vs us->sp vs H Q E->
  codeAny (model P w) A (.call (.ref f) args) (CR CX outer P w H s Q E) s
theorem bZ.imp {P:ay}{w:ba}{K:ac}{mg:Str->Option av}{base:Heap}{CX:iI}{k:Nat}{f:ax}{fd:FuncData}{ps:List Str}{sp sp':Sp}(F:bZ P w K mg base CX k f fd ps sp)(h:∀vs H Q E,sp' vs H Q E->sp vs H Q E):bZ P w K mg base CX k f fd ps sp':=
 ⟨λvs H Q E q=>F.len vs H Q E (h _ _ _ _ q),λA outer s H args us vs Q E hr he hb hv hs=>F.run A outer s H args us vs Q E hr he hb hv (h _ _ _ _ hs)⟩
theorem mO.make {P:ay}{w:ba}{K:ac}{mg:Str->Option av}{base:Heap}{A:az}{outer:List Env}{s:aw}{H:Hp}(e:mO P w K mg base A outer s H)(C:ax)(us:List av)(kw:List (Str×av)) :
  mO P w K mg base (A.under (.builtin "type.__call__" ⟨.ref C::us,kw⟩)) outer s H:=⟨by first|exact e.frames|(simpa[Around.under,Code.envs,Code.isFrame,pushEnvs] using e.frames),e.mod,e.bs,e.bsz,e.funs,e.frf,e.hok,e.bare⟩
section
variable {X:Cx}{ag:List (ax×Obj)}{σ:St}{H:Hp}{s s':aw}
theorem aA.env0 (I:aA X ag σ H s):mO X.prog X.w X.K X.mg X.base X.A X.stack s H:=
 ⟨I.ok.frames,I.ok.mod,I.bs,bA9 I.ok.bsz I.sz,I.stack,I.stkFree,I.hok,I.bare⟩
theorem aA.after {Q:VK}{u:av}(I:aA X ag σ H s)(h:CE X.stack X.prog X.w H s Q u s'):EP X ag σ Q u s':=by
 obtain⟨v,H',os,bare,un,hok,r,q⟩:=h
 obtain⟨hh,g,d,t,os'⟩:=s'
 obtain rfl:os'=s.os:=os
 exact⟨v,H',I.call (h':=hh) (g':=g) (d':=d) (t':=t) (ch:=[]) un hok bare (λb z=>absurd z (by simp)),r,q⟩
end
def wZ (sp:Sp)(dvs:List V)(E:XK)(t:TA):TE:=λσ H Q=>t σ H λvs H1=>sp (vs++dvs) H1 Q E
def x4 (C:ax)(m:Str)(sp:Sp)(dvs:List V)(E:XK)(ta:TE)(t:TA):TE:=λσ H Q=>ta σ H λx H1=>∃a dx fs,x = .ref a/\H1 a=some (.ins C dx fs)/\fs.lookup m=none/\
 t σ H1 λvs H2=>sp (x::(vs++dvs)) H2 Q E
def aD1 (C:ax)(sp:Sp)(dvs:List V)(E:XK)(t:TA):TE:=λσ H Q=>t σ H λvs H1=>∀x dx,H1 x=none->H1 dx=none->dx≠x->
 sp (.ref x::(vs++dvs)) (upd (upd H1 dx (.own x)) x (.ins C dx [])) (λv H2=>v = .non/\Q (.ref x) H2) E
def dQ (K:ac)(fd:FuncData)(ps:List Str)(ds:List av):Prop:=
 ∀(s:aw) (us:List av),K.In s.heap->(us++ds).length=ps.length->BindsTo s fd ⟨us,[]⟩ (ps.zip (us++ds))
theorem dQ.all {K:ac}{fd:FuncData}{ps:List Str}(h:∀us:List av,us.length=ps.length->bindArgs fd ⟨us,[]⟩=pure (ps.zip us)):dQ K fd ps []:=λs us _ hl=>by
 rw[bA0]at hl ⊢;exact .of_eq (h us hl)
def iJ (CX:iI)(X:Cx)(E:XK):Prop:=∀(ag:List (ax×Obj)) (σ:St) (H:Hp) (s:aw) (e:av) (s':aw),aA X ag σ H s->CX X.stack H s E e s'->X.xe e s'
section
variable {X:Cx}{CX:iI}{k:Nat}{f C:ax}{fd:FuncData}{ps:List Str}{sp:Sp}{dvs:List V}{ds:List av}{E:XK}{x m:Str}{p pos ah:Pos}{e o:Expr}{es:List Expr}{ta:TE}{t:TA}
theorem x5 {ag:List (ax×Obj)}{σ:St}{H:Hp}{s:aw}{Q:VK}{us:List av}{vs:List V}(F:bZ X.prog X.w X.K X.mg X.base CX k f fd ps sp)(hr:bL k X.A)(hb:dQ X.K fd ps ds)(hd:aX dvs ds)(hx:iJ CX X E)(I:aA X ag σ H s)(r:aX vs us)(h:sp (vs++dvs) H Q E):wpAny (model X.prog X.w) X.A (call (.ref f) us) (EP X ag σ Q) X.xe s:=by
 have r2:aX (vs++dvs) (us++ds):=r.append hd;have hl:(us++ds).length=ps.length:=by rw[<- r2.length];exact F.len _ _ _ _ h
 refine wpAny_call (codeAny_mono (F.run X.A X.stack s H ⟨us,[]⟩ (us++ds) (vs++dvs) Q E hr I.env0 (hb s us I.kIn hl) r2 h) λr s' hq=>?_);cases r with
 |error e=>exact hx ag σ H s e s' I hq
 |ok fl=>
  cases fl with
  |ret u=>exact I.after hq
  |next=>exact False.elim hq
  |brk=>exact False.elim hq
  |cont=>exact False.elim hq
theorem t7 (F:bZ X.prog X.w X.K X.mg X.base CX k f fd ps sp)(hr:bL k X.A)(hg:Gl X x)(hm:X.mg x=some (.ref f))(hk:PySem.W.keepIn X.K (.ref f)=true)(hb:dQ X.K fd ps ds)(hd:aX dvs ds)(hx:iJ CX X E)(ha:PA X (e::es) t)(hdb:(x==("__debug__":Str))=false:=by decide)(he:starEach (e::es) X.env=(false,eval e X.env)::starEach es X.env:=by rfl)(hpl:(backTo pos (starEach es X.env)).any (·.1)=false:=by rfl) :
  PE X (.Call (.Name x p) (e::es) [] pos) (wZ sp dvs E t):=by
 intro ag s σ H Q I h;refine wpAny_Call_Name_kw (pU I hg hm ?_ hdb);refine PySem.W.callWith_K (h₀:=X.base) I.ok.mod.kin hk (aP (ha pos ag s σ H _ I h) λus s1 ⟨vs,H1,I1,r,q⟩=>⟨I1.kIn,?_⟩) he hpl;exact x5 F hr hb hd hx I1 r q
theorem P3 {pl:Sem Bool}(he:PE X o ta)(c:hZ X.K C)(hm:eR X.K C m f)(F:bZ X.prog X.w X.K X.mg X.base CX k f fd ps sp)(hr:bL k X.A)(hb:dQ X.K fd ps ds)(hd:aX dvs ds)(hx:iJ CX X E)(ha:PA X (e::es) t)(hst:starEach (e::es) X.env=(false,eval e X.env)::starEach es X.env:=by rfl)(hpl:(backTo pos (starEach es X.env)).any (·.1)=false:=by rfl)(ht:eval (.Call (.Attribute o m ah) (e::es) [] pos) X.env=(do
   let ov <- eval o X.env
   standAt ah.atName
   let (f,first) <- holding [ov] (getMethod ov m pl)
   callWith pos f first (backTo pos (starEach (e::es) X.env)) (backToKw pos (keywordEach [] X.env))):=by rfl) :
  PE X (.Call (.Attribute o m ah) (e::es) [] pos) (x4 C m sp dvs E ta t):=by
 intro ag s σ H Q I h;refine bL2 (pl:=pl) (aP (he ag s σ H _ I h) λu s1 ⟨x,H1,I1,rx,a,dx,fs,ex,ea,l,q⟩=>?_) ht;subst ex;obtain rfl:u=Value.ref a:=rx;refine qF I1 ea c hm l ?_;refine PySem.W.callWith_K (first:=[.ref a]) (h₀:=X.base) I.ok.mod.kin hm.kp (aP (ha pos ag s1 σ H1 _ I1 q) λus s2 ⟨vs,H2,I2,r,q2⟩=>⟨I2.kIn,?_⟩) hst hpl;exact x5 (us:=.ref a::us) (vs:=.ref a::vs) F hr hb hd hx I2 (.cons rfl r) q2
theorem aD2 {pl:Sem Bool}(he:PE X o ta)(c:hZ X.K C)(hm:eR X.K C m f)(F:bZ X.prog X.w X.K X.mg X.base CX k f fd ps sp)(hr:bL k X.A)(hb:dQ X.K fd ps ds)(hd:aX dvs ds)(hx:iJ CX X E)(ht:eval (.Call (.Attribute o m ah) [] [] pos) X.env=(do
   let ov <- eval o X.env
   standAt ah.atName
   let (f,first) <- holding [ov] (getMethod ov m pl)
   callWith pos f first (backTo pos (starEach [] X.env)) (backToKw pos (keywordEach [] X.env))):=by rfl) :
  PE X (.Call (.Attribute o m ah) [] [] pos) (x4 C m sp dvs E ta fZ):=by
 intro ag s σ H Q I h;refine bL2 (pl:=pl) (aP (he ag s σ H _ I h) λu s1 ⟨x,H1,I1,rx,a,dx,fs,ex,ea,l,q⟩=>?_) ht;subst ex;obtain rfl:u=Value.ref a:=rx;refine qF I1 ea c hm l ?_;exact PySem.W.callWith_K0 (first:=[.ref a]) I1.kIn hm.kp (x5 (us:=[.ref a]) (vs:=[.ref a]) F hr hb hd hx I1 (.cons rfl .nil) q)
structure Mk (K:ac)(C f:ax):Prop where
 makes:PySem.W.makesIn K C=true
 init:PySem.W.findIn K (.ref C) "__init__" = some (some (.ref f))
 fn:PySem.W.isFn K (.ref f)=true
 kp:PySem.W.keepIn K (.ref C)=true
theorem aD3 {ag:List (ax×Obj)}{σ:St}{H:Hp}{s:aw}{Q:VK}{us:List av}{vs:List V}(M:Mk X.K C f)(F:bZ X.prog X.w X.K X.mg X.base CX k f fd ps sp)(hr:bL (k+1) X.A)(hb:dQ X.K fd ps ds)(hd:aX dvs ds)(hx:iJ CX X E)(I:aA X ag σ H s)(r:aX vs us)(h:∀x dx,H x=none->H dx=none->dx≠x->sp (.ref x::(vs++dvs)) (upd (upd H dx (.own x)) x (.ins C dx [])) (λv H2=>v = .non/\Q (.ref x) H2) E) :
  wpAny (model X.prog X.w) X.A (call (.ref C) us) (EP X ag σ Q) X.xe s:=by
 have hq:=h (s.heap.objs.size+1) s.heap.objs.size (I.hok.fresh (bM0 _)) (I.hok.fresh (bx9 _)) (bA8 (Nat.lt_succ_self _));have I2:=aA.made (C:=C) I;have r2:aX (V.ref (s.heap.objs.size+1)::(vs++dvs)) (Value.ref (s.heap.objs.size+1)::(us++ds)):=.cons rfl (r.append hd);have hl:(Value.ref (s.heap.objs.size+1)::us++ds).length=ps.length:=by
  have e:=r2.length;rw[F.len _ _ _ _ hq]at e;exact e.symm
 refine wpAny_call (aC3 (f:=f) I.kIn M.makes M.init (beq_iff_eq.mp M.fn) (codeAny_mono (F.run _ X.stack _ _ ⟨Value.ref (s.heap.objs.size+1)::us,[]⟩ (Value.ref (s.heap.objs.size+1)::(us++ds)) _ _ E (hr.make C us [])
  (I2.env0.make C us []) (hb _ (Value.ref (s.heap.objs.size+1)::us) I2.kIn hl) r2 hq) λr s' hq'=>?_))
 cases r with
 |error e=>exact hx ag σ _ _ e s' I2 hq'
 |ok fl=>
  cases fl with
  |ret u=>
   obtain⟨v,H',I3,rv,ev,q3⟩:=I2.after hq'
   subst ev
   exact⟨rv,⟨V.ref (s.heap.objs.size+1),H',I3,rfl,q3⟩⟩
  |next=>exact False.elim hq'
  |brk=>exact False.elim hq'
  |cont=>exact False.elim hq'
theorem aD4 (M:Mk X.K C f)(F:bZ X.prog X.w X.K X.mg X.base CX k f fd ps sp)(hr:bL (k+1) X.A)(hg:Gl X x)(hm:X.mg x=some (.ref C))(hb:dQ X.K fd ps ds)(hd:aX dvs ds)(hx:iJ CX X E)(ha:PA X (e::es) t)(hdb:(x==("__debug__":Str))=false:=by decide)(he:starEach (e::es) X.env=(false,eval e X.env)::starEach es X.env:=by rfl)(hpl:(backTo pos (starEach es X.env)).any (·.1)=false:=by rfl) :
  PE X (.Call (.Name x p) (e::es) [] pos) (aD1 C sp dvs E t):=by
 intro ag s σ H Q I h;refine wpAny_Call_Name_kw (pU I hg hm ?_ hdb);refine PySem.W.callWith_K (h₀:=X.base) I.ok.mod.kin M.kp (aP (ha pos ag s σ H _ I h) λus s1 ⟨vs,H1,I1,r,q⟩=>⟨I1.kIn,?_⟩) he hpl;exact aD3 M F hr hb hd hx I1 r q
end
def PK (X:Cx)(kws:List Keyword)(t:TA):Prop:=
 ∀(pos:Pos) (ag:List (ax×Obj)) (s:aw) (σ:St) (H:Hp) (Q:List V->Hp->Prop),aA X ag σ H s->t σ H Q->wpAny (model X.prog X.w) X.A (evalAll ((backToKw pos (keywordEach kws X.env)).map (·.2))) (AP X ag σ Q) X.xe s
structure FnScope (N P:List Str)(sc:Scope):Prop where
 kind:sc.kind = .function
 co:sc.isCoroutine=false
 gen:sc.isGenerator=false
 nd:N.Nodup
 pre:N.take P.length=P
 par:∀x∈P,sc.names.lookup x=some .local∨sc.names.lookup x=some .cell
 nofree:∀y∈sc.names,y.2≠.free
theorem P4 {kindOf:Str->Option NameKind}{x:Str}:∀{binds:List (Str×av)}{m:Str->Option av},(∀v,(x,v)∉binds)->bindL kindOf binds m x=m x
 |[],_,_=>rfl
 |(n,v)::r,m,h=>by
  unfold bindL;rw[P4 λw hw=>h w (bz9 _ hw)];split
  ·have:x≠n:=by rintro rfl;exact h v bz8
   simp[this]
  ·rfl
theorem P5 {kindOf:Str->Option NameKind}{x:Str}:∀{binds:List (Str×av)}{m:Str->Option av},(∀v,(x,v)∉binds)->bindC kindOf binds m x=m x
 |[],_,_=>rfl
 |(n,v)::r,m,h=>by
  unfold bindC;rw[P5 λw hw=>h w (bz9 _ hw)];split
  ·rfl
  ·have:x≠n:=by rintro rfl;exact h v bz8
   simp[this]
theorem P6 {kindOf:Str->Option NameKind}{x:Str}{v:av}:∀{P:List Str}{vs:List av}{i:Nat}{m:Str->Option av},P.Nodup->P[i]? = some x->vs[i]? = some v->kindOf x=some .local->
  bindL kindOf (P.zip vs) m x=some v
 |[],_,_,_,_,h,_,_=>by simp at h
 |_::_,[],_,_,_,_,h,_=>by simp at h
 |p::P,w::vs,0,m,nd,h1,h2,hk=>by
  simp at h1 h2;subst h1;subst h2;show bindL kindOf ((p,w)::P.zip vs) m p=_;unfold bindL;rw[P4 λv hv=>(List.nodup_cons.mp nd).1 (List.of_mem_zip hv).1,if_pos hk];simp
 |p::P,w::vs,i+1,m,nd,h1,h2,hk=>by
  show bindL kindOf ((p,w)::P.zip vs) m x=_;unfold bindL;exact P6 (i:=i) (List.nodup_cons.mp nd).2 (by simpa using h1) (by simpa using h2) hk
theorem P7 {kindOf:Str->Option NameKind}{x:Str}{v:av}:∀{P:List Str}{vs:List av}{i:Nat}{m:Str->Option av},P.Nodup->P[i]? = some x->vs[i]? = some v->kindOf x≠some .local->
  bindC kindOf (P.zip vs) m x=some v
 |[],_,_,_,_,h,_,_=>by simp at h
 |_::_,[],_,_,_,_,h,_=>by simp at h
 |p::P,w::vs,0,m,nd,h1,h2,hk=>by
  simp at h1 h2;subst h1;subst h2;show bindC kindOf ((p,w)::P.zip vs) m p=_;unfold bindC;rw[P5 λv hv=>(List.nodup_cons.mp nd).1 (List.of_mem_zip hv).1,if_neg hk];simp
 |p::P,w::vs,i+1,m,nd,h1,h2,hk=>by
  show bindC kindOf ((p,w)::P.zip vs) m x=_;unfold bindC;exact P7 (i:=i) (List.nodup_cons.mp nd).2 (by simpa using h1) (by simpa using h2) hk
def g9 (N:List Str)(vs:List V):St:=vs.map some++List.replicate (N.length-vs.length) none
def cW (CX:iI)(P:ay)(w:ba)(K:ac)(mg:Str->Option av)(base:Heap)(N:List Str)(qual:Str)(scope:Scope)(f:ax)(cd:av)(A:az)(outer:List Env)(s:aw)(H:Hp)(E:XK):Cx where
 prog:=P
 w:=w
 K:=K
 mg:=mg
 base:=base
 A:=A.deeper (envOfC qual scope s.heap.objs.size f cd)
 N:=N
 s₀:=s
 H₀:=H
 env:=envOfC qual scope s.heap.objs.size f cd
 outer:=outer
 stack:=envOfC qual scope s.heap.objs.size f cd::outer
 ex:=[]
 calm:=true
 fn:=λ_=>true
 pn:=[]
 xe:=λe s'=>wpAny (model P w) (A.deeper (envOfC qual scope s.heap.objs.size f cd)) (leaving (envOfC qual scope s.heap.objs.size f cd) e) (λ_ s''=>CX outer H s E e s'') (λe' s''=>CX outer H s E e' s'') s'
theorem P8 {sc:Scope}{n:Nat}{x:Str}(h:sc.names.lookup x=some .cell):∃c,(cellsFrom n sc.names []).lookup x=some c:=by
 have q:=PySem.W.cellsFrom_some sc.names n [] (.inl h);exact Option.isSome_iff_exists.mp q
theorem aD5 {CX:iI}{P:ay}{w:ba}{K:ac}{mg:Str->Option av}{base:Heap}{N ps:List Str}{qual:Str}{scope:Scope}{f:ax}{cd:av}{A:az}{outer:List Env}{s s1:aw}{H:Hp}{E:XK}{us:List av}{vs:List V}(S:FnScope N ps scope)(hd:A.handled=none)(e0:mO P w K mg base A outer s H)(hl:vs.length=ps.length)(r:aX vs us)(x:InCallC s s.heap.objs.size (bindL (envOfC qual scope s.heap.objs.size f cd).kindOf (ps.zip us) λ_=>none) (cellsFrom (s.heap.objs.size+1) scope.names []) (bindC (envOfC qual scope s.heap.objs.size f cd).kindOf (ps.zip us) λ_=>none) s1) :
  aA (cW CX P w K mg base N qual scope f cd A outer s H E) [] (g9 N vs) H s1:=by
 have hpl:ps.length<=N.length:=by have:=congrArg List.length S.pre;rw[bB5]at this;omega
 obtain⟨h1,tk,rfl,hk⟩:=x.done
 have noA:∀b:ax,b∉(cW CX P w K mg base N qual scope f cd A outer s H E).ex:=λb z=>absurd (show b∈([]:List ax) from z) (by simp)
 refine⟨⟨e0.mod,S.kind,rfl,rfl,bx9 _,λy z c h1 h2=>?_,λy hy=>?_,λy c _ h=>?_,λ_=>hd,Around.frames_deeper e0.frames,.inr ⟨rfl,rfl⟩,λb z=>absurd z (noA b),e0.bs,e0.bsz,λb _ _=>noA b,λb z=>absurd z (noA b),e0.funs,e0.frf⟩,
  rfl,e0.bare,Un.kept hk,⟨_,x.toInCall.ns,λi y v h1 h2 h3=>?_⟩,λy c h=>⟨_,x.cell y c h⟩,e0.hok.fresh (bx9 _),λy c h=>?_,λp hp=>absurd (show p∈([]:List (ax×Obj)) from hp) (by simp),e0.hok.kept hk,?_⟩
 ·exact name_of_addr x.apart (bC8 h1) (bC8 h2)
 ·have hy:scope.names.lookup y=some .cell∨scope.names.lookup y=some .free:=hy
  rcases hy with hy|hy
  ·exact P8 hy
  ·exact absurd rfl (S.nofree _ (bC8 hy))
 ·exact bE3 (x.above y c (bC8 h))
 ·have hi:i<vs.length:=by
   unfold g9 at h2;by_cases hi:i<vs.length
   ·exact hi
   ·rw[bG9 (by simpa using hi)]at h2
    rw[List.getElem?_replicate]at h2;split at h2<;>cases h2
  have ha:vs[i]? = some v:=by
   unfold g9 at h2;rw[bD7 (by simpa using hi),bz1]at h2;cases e:vs[i]? with
   |none=>rw[e]at h2;cases h2
   |some a=>rw[e]at h2;cases h2;rfl
  obtain⟨u,hu,rv⟩:=r.get ha
  have hp:ps[i]? = some y:=by
   rw[<- S.pre,List.getElem?_take_of_lt (by omega)];exact h1
  have ndP:ps.Nodup:=by rw[<- S.pre];exact S.nd.sublist (List.take_sublist _ _)
  refine⟨u,rv,?_⟩;rcases S.par y (bH0 hp) with k|k
  ·exact .inl ⟨k,P6 ndP hp hu k⟩
  ·obtain⟨c,e⟩:=P8 (n:=s.heap.objs.size+1) k
   refine .inr ⟨.inl k,c,e,?_⟩;have q:=x.cell y c e;rw[P7 ndP hp hu (by show scope.names.lookup y≠_;rw[k];decide)]at q;exact q
 ·exact e0.hok.fresh (bE3 (x.above y c (bC8 h)))
 ·unfold g9
  show _=N.length;rw[bx8,bx7,List.length_replicate];omega
theorem P9 {CX:iI}{P:ay}{w:ba}{K:ac}{mg:Str->Option av}{base:Heap}{k:Nat}{f:ax}{name qual:Str}{params:Arguments}{body:List Stmt}{scope:Scope}{dV kV doc pm cdv ct oc:av}{an od:Option ax}{osl:Array (Option av)}{N ps:List Str}{sp:Sp}(lk:K.lookup f=some ⟨oc,od,.func (PySem.W.fnOf name qual params body scope dV kV doc pm an cdv ct),osl⟩)(hcd:PySem.W.codeIn K cdv qual=true)(S:FnScope N ps scope)(len:∀vs H Q E,sp vs H Q E->vs.length=ps.length)(hbody:∀(A:az) (outer:List Env) (s:aw) (H:Hp) (vs:List V) (Q:VK) (E:XK),bL k (A.deeper (envOfC qual scope s.heap.objs.size f cdv))->sp vs H Q E->
   ∃t,dW (cW CX P w K mg base N qual scope f cdv A outer s H E) body t/\t { nx:=λ_ H'=>Q .non H',rt:=Q } (g9 N vs) H) :
  bZ P w K mg base CX (k+1) f (PySem.W.fnOf name qual params body scope dV kV doc pm an cdv ct) ps sp:=by
 refine⟨len,λA outer s H args us vs Q E hr e0 hb r hsp=>?_⟩;have hl:=len _ _ _ _ hsp;have KX:K.In s.heap:=e0.mod.kin.keeps λb o e=>(e0.bs b o e).1
 have lim:s.heap.NoLimit:=e0.mod.nolimit.keeps λb o e=>(e0.bs b o e).1
 have hkind:∀y∈ps.zip us,scope.names.lookup y.1=some .local∨(scope.names.lookup y.1=some .cell/\((cellsFrom (s.heap.objs.size+1) scope.names []).lookup y.1).isSome=true):=λ⟨n,v⟩ hy=>by
  rcases S.par n (List.of_mem_zip hy).1 with q|q
  ·exact .inl q
  ·exact .inr ⟨q,PySem.W.cellsFrom_some _ _ _ (.inl q)⟩
 refine codeAny_call_function hr.depth (KX _ _ lk) rfl S.co S.gen rfl (PySem.W.codeRec_of KX hcd) (hb _ _ _ _ ?_);refine wpAny_newFunctionEnv_cells S.kind hkind λenv he s1 x=>?_
 subst he;refine⟨lim.keeps x.toInCall.keep,codeAny_func ?_⟩
 obtain⟨t,ht,hq⟩:=hbody A outer s H vs Q E (hr.deeper _) hsp
 have I:aA (cW CX P w K mg base N qual scope f cdv A outer s H E) [] (g9 N vs) H s1:=aD5 S hr.hd e0 hl r x;refine bG1 (ht [] s1 (g9 N vs) H _ I hq) (λfl s' hs=>?_) λe s' hs=>hs
 have fin:∀{σ':St}{H':Hp}{v:V}{u:av},aA (cW CX P w K mg base N qual scope f cdv A outer s H E) [] σ' H' s'->b7 v u->Q v H'->CE outer P w H s Q u s':=
  λ{σ' H' v u} J rv q=>⟨v,H',J.os,J.bare,J.base,J.hok,rv,q⟩
 cases fl with
 |ret u=>
  obtain⟨v,σ',H',J,rv,q⟩:=hs
  exact fin J rv q
 |next=>
  obtain⟨σ',H',J,q⟩:=hs
  exact fin (v:=V.non) (u:=Value.none) J rfl q
 |brk=>
  obtain⟨_,_,_,q⟩:=hs
  exact False.elim q
 |cont=>
  obtain⟨_,_,_,q⟩:=hs
  exact False.elim q
section
variable {X:Cx}{x:Str}{p pos:Pos}{e:Expr}{es:List Expr}{t:TA}{id T:String}{r:List V→Hp→VK→Prop}
def x6 (r:List V->Hp->VK->Prop)(t:TA):TE:=λσ H Q=>t σ H λvs H1=>r vs H1 Q
theorem t8 (hc:d7 X (.builtin id) r)(hg:Gl X x)(hm:X.mg x=none)(hv:bootBuiltins x=some (.builtin id))(ha:PA X (e::es) t)(hn:x≠"__name__":=by decide)(hdb:(x==("__debug__":Str))=false:=by decide)(he:starEach (e::es) X.env=(false,eval e X.env)::starEach es X.env:=by rfl)(hpl:(backTo pos (starEach es X.env)).any (·.1)=false:=by rfl):PE X (.Call (.Name x p) (e::es) [] pos) (x6 r t):=by
 intro ag s σ H Q I h;refine wpAny_Call_Name_kw (mH I hg hm hv ?_ hn hdb);exact PyProof.Rows.callWith_builtin1 (aP (ha pos ag s σ H _ I h) λus s1 ⟨vs,H1,I1,r1,q1⟩=>hc ag s1 σ H1 vs us Q I1 r1 q1) he hpl
theorem aD6 (hc:d7 X (.type T) r)(hg:Gl X x)(hm:X.mg x=none)(hv:bootBuiltins x=some (.type T))(ha:PA X (e::es) t)(hn:x≠"__name__":=by decide)(hdb:(x==("__debug__":Str))=false:=by decide)(he:starEach (e::es) X.env=(false,eval e X.env)::starEach es X.env:=by rfl)(hpl:(backTo pos (starEach es X.env)).any (·.1)=false:=by rfl):PE X (.Call (.Name x p) (e::es) [] pos) (x6 r t):=by
 intro ag s σ H Q I h;refine wpAny_Call_Name_kw (mH I hg hm hv ?_ hn hdb);exact bG5 (aP (ha pos ag s σ H _ I h) λus s1 ⟨vs,H1,I1,r1,q1⟩=>hc ag s1 σ H1 vs us Q I1 r1 q1) he hpl
end
end L2
namespace HT
open PySem PyProof.Rows
def cX:af->af->Bool
 |[],[]=>false
 |[],_::_=>true
 |_::_,[]=>false
 |x::xs,y::ys=>if x=y then cX xs ys else decide (x<y)
theorem o0 (x y:Int)(xs ys:af):cX (x::xs) (y::ys)=if x=y then cX xs ys else decide (x<y):=rfl
section
variable {prog:ay}{w:ba}{A:az}{E:av→aw→Prop}{s:aw}
theorem aD7 {t b:ax}{vs ws:List av}{Q:av->aw->Prop}(ht:IsTup s.heap t vs.toArray)(hb:IsTup s.heap b ws.toArray)(hv:vs≠[])(h1:ws = []->Q (.ref t) s)(h2:ws≠[]->Q (.ref s.heap.objs.size) { s with heap:=s.heap.push { cls:=.type "tuple",data:=.seq (vs++ws).toArray } })(hsz:vs.length+ws.length<=sizeLine):wpAny (model prog w) A (binaryOp .Add (.ref t) (.ref b)) Q E s:=by
 obtain⟨⟨cls,dd,data,sl⟩,ho,hc,n,hd⟩:=id ht
 obtain⟨⟨cls2,dd2,data2,sl2⟩,ho2,hc2,n2,hd2⟩:=id hb
 simp only at hc hd hc2 hd2;subst hc hd hc2 hd2;have e:vs.toArray++ws.toArray=(vs++ws).toArray:=by simp
 by_cases hw:ws = []
 ·exact concat_meets ⟨_,ho,rfl⟩ ⟨_,ho2,rfl⟩ noFill_tuple_add seq_tuple_add PySem.F.slot_tuple_add PySem.F.entry_tuple_add (PySem.F.args_tuple_add_2 _ _)
   (tuple_addW1 t b vs.toArray ws.toArray n n2 dd dd2 sl sl2 (by simpa using hv) (by simp[hw])) ⟨ho,ho2,h1 hw⟩
 ·refine concat_meets ⟨_,ho,rfl⟩ ⟨_,ho2,rfl⟩ noFill_tuple_add seq_tuple_add PySem.F.slot_tuple_add PySem.F.entry_tuple_add (PySem.F.args_tuple_add_2 _ _)
   (tuple_addW2 t b vs.toArray ws.toArray n n2 dd dd2 sl sl2 (by simpa using hv) (by simpa using hw) (by rw[bx6,bx6];exact hsz)) ⟨ho,ho2,?_⟩
  rw[e];exact h2 hw
def bA (n d:Nat):Option Int->Nat
 |none=>d
 |some v=>if v<0 then (v+(n:Int)).toNat else min v.toNat n
theorem aD8 (n d:Nat):bA n d none=d:=rfl
theorem Q0 (n d k:Nat):bA n d (some (k:Int))=min k n:=by
 show (if (k:Int)<0 then ((k:Int)+(n:Int)).toNat else min (k:Int).toNat n)=min k n;rw[if_neg (by omega),Int.toNat_natCast]
theorem aD9 (n d:Nat)(hd:d<=n)(o:Option Int):bA n d o<=n:=by
 cases o with
 |none=>exact hd
 |some v=>
  show (if v<0 then (v+(n:Int)).toNat else min v.toNat n)<=n;by_cases hv:v<0
  ·rw[if_pos hv];omega
  ·rw[if_neg hv];exact Nat.min_le_right _ _
theorem Q2 (v:Int)(n d:Nat):(if v<0 then max (v+(n:Int)) 0 else min v (n:Int))=((bA n d (some v):Nat):Int):=by
 show (if v<0 then max (v+(n:Int)) 0 else min v (n:Int))=(((if v<0 then (v+(n:Int)).toNat else min v.toNat n):Nat):Int);by_cases hv:v<0
 ·simp only[if_pos hv];omega
 ·simp only[if_neg hv];omega
theorem aE0 (lo hi:Option Int)(n:Nat):Builtin.Slice.sliceAdjust lo hi 1 (n:Int)=(((bA n 0 lo:Nat):Int),((bA n n hi:Nat):Int)):=by
 have h1:¬((1:Int)<0):=by omega
 unfold Builtin.Slice.sliceAdjust;simp only[h1,bF8];refine Prod.ext ?_ ?_
 ·cases lo with
  |none=>rfl
  |some v=>exact Q2 v n 0
 ·cases hi with
  |none=>rfl
  |some v=>exact Q2 v n n
theorem aE1 (i j:Nat):Builtin.Slice.slicePlaces (i:Int) (j:Int) 1=j-i:=by
 unfold Builtin.Slice.slicePlaces;have h1:(1:Int)>0:=by omega
 simp only[h1,if_true,Int.ediv_one];split<;>omega
theorem Q3 {v:av}{o:Option Int}{Q:Option Int->aw->Prop}(p:IsPart v o)(h:Q o s):wpAny (model prog w) A (Builtin.Slice.slicePartIndex v) Q E s:=by
 cases p with
 |none=>exact slicePart_none h
 |int i t=>exact slicePart_int h
theorem Q4 {sl:ax}{vl vu:av}{lo hi:Option Int}{n:Nat}{Q:Int×Int×Nat->aw->Prop}(hs:s.heap.IsSliceOf sl vl vu .none)(pl:IsPart vl lo)(pu:IsPart vu hi)(h:Q (((bA n 0 lo:Nat):Int),1,bA n n hi-bA n 0 lo) s):wpAny (model prog w) A (Builtin.Slice.sliceApplied (.ref sl) (pure (n:Int))) Q E s:=by
 obtain⟨os,hos,hcs,hds⟩:=id hs
 unfold Builtin.Slice.sliceApplied Builtin.Slice.sliceFields;refine bx4 (bx4 (bD5 hos hds (x:=vl) rfl (bx4 (bD5 hos hds (x:=vu) rfl (bx4 (bD5 hos hds (x:=.none) rfl (by3 ?_)))))));refine bx4 (slicePart_none ?_);show wpAny _ _ (if ((1:Int)==0)=true then _ else _) _ _ s;rw[if_neg (by decide)];refine bx4 (Q3 pl (bx4 (Q3 pu (bx4 (by3 ?_)))));show wpAny _ _ (match Builtin.Slice.sliceAdjust lo hi 1 (n:Int) with|(lo,hi)=>pure (lo,(1:Int),Builtin.Slice.slicePlaces lo hi 1)) _ _ s;rw[aE0 lo hi n];show wpAny _ _ (pure (((bA n 0 lo:Nat):Int),(1:Int),Builtin.Slice.slicePlaces ((bA n 0 lo:Nat):Int) ((bA n n hi:Nat):Int) 1)) _ _ s;rw[aE1];exact by3 h
theorem aE2 (xs:Array av)(i k:Nat):((List.range k).filterMap λ(m:Nat)=>xs[((i:Int)+(m:Int)*1).toNat]?).toArray=((xs.toList.drop i).take k).toArray:=by
 have e:(λ(m:Nat)=>xs[((i:Int)+(m:Int)*1).toNat]?)=λm=>xs[i+m]?:=by
  funext m
  have:((i:Int)+(m:Int)*1).toNat=i+m:=by omega
  rw[this]
 rw[e]
 have:=pick_run xs i k
 rw[List.filterMap_map]at this;have e2:((λx=>xs[x]?) ∘ λx=>i+x)=λm=>xs[i+m]?:=rfl
 rw[e2]at this;rw[this]
theorem aE3 {t sl:ax}{items:Array av}{vl vu:av}{lo hi:Option Int}{Q:av->aw->Prop}(ht:IsTup s.heap t items)(hs:s.heap.IsSliceOf sl vl vu .none)(pl:IsPart vl lo)(pu:IsPart vu hi)(hw:¬(bA items.size 0 lo=0/\bA items.size items.size hi=items.size))(h:Q (.ref s.heap.objs.size) { s with heap:=s.heap.push { cls:=.type "tuple",data:=.seq ((items.toList.drop (bA items.size 0 lo)).take (bA items.size items.size hi-bA items.size 0 lo)).toArray } })(hsz:items.size<=sizeLine):wpAny (model prog w) A (getItem (.ref t) (.ref sl)) Q E s:=by
 have htake:sizeOk (.seq ((items.toList.drop (bA items.size 0 lo)).take (bA items.size items.size hi-bA items.size 0 lo)).toArray):=by
  show ((items.toList.drop (bA items.size 0 lo)).take (bA items.size items.size hi-bA items.size 0 lo)).toArray.size<=sizeLine;rw[bx6,bB5,bF9,Array.length_toList];omega
 have hj:bA items.size items.size hi<=items.size:=aD9 _ _ (bx9 _) hi
 obtain⟨os,hos,hcs,hds⟩:=id hs
 have hTs:s.TypeIs (.ref sl) "slice":=⟨os,hos,hcs⟩;unfold getItem
 try with_reducible refine bM8 ?_
 first|refine bx4 (by3 ?_)|skip
 refine bx4 (wpAny_sequenceKey ht.typeIs (by decide) ?_)
 refine bx4 (bD6 (name:=Str.ofString "__getitem__") ht.typeIs bI6
  (bD9 bI6 ht.typeIs entry_tuple_getitem ?_ (args_tuple_getitem _ _)))
 show wpAny _ _ (Builtin.Tuple.tupleItemsOf (.ref t) >>= _) _ _ s;refine bx4 (tupleItemsOf_ ht ?_);refine bx4 (wpAny_typeOf hTs ?_);rw[if_pos (by decide)];refine bx4 (Q4 hs pl pu ?_);have hno:¬((((bA items.size 0 lo:Nat):Int)==0&&(1:Int)==1&&(bA items.size items.size hi-bA items.size 0 lo)==items.size)=true):=by
  intro q;rw[bB4,bB4]at q;have q1:((bA items.size 0 lo:Nat):Int)=0:=eq_of_beq q.1.1;have q2:bA items.size items.size hi-bA items.size 0 lo=items.size:=eq_of_beq q.2;exact hw ⟨by omega,by omega⟩
 show wpAny _ _ (if (((bA items.size 0 lo:Nat):Int)==0&&(1:Int)==1&&(bA items.size items.size hi-bA items.size 0 lo)==items.size)=true then _ else _) _ _ s;rw[if_neg hno,aE2]
 first
  |exact bx4 (m:=Builtin.Tuple.tupleExact _) (bF1 (by3 ⟨_,rfl,by3 h⟩) htake)
  |exact bx4 (m:=Builtin.Tuple.tupleExact _) (bF1 (bx4 (by3 (by3 ⟨_,rfl,by3 h⟩))) htake)
  |exact bx4 (bx4 (m:=Builtin.Tuple.tupleExact _) (bF1 (by3 (by3 ⟨_,rfl,by3 h⟩)) htake))
  |exact bx4 (bx4 (m:=Builtin.Tuple.tupleExact _) (bF1 (by3 ⟨_,rfl,by3 h⟩) htake))
end
end HT
namespace L2
open PySem PySem.Spec PyProof.Rows
abbrev TO:=St->Hp->(Option Int->Hp->Prop)->Prop
def PO (X:Cx)(e:Option Expr)(t:TO):Prop:=
 ∀(ag:List (ax×Obj)) (s:aw) (σ:St) (H:Hp) (Q:Option Int->Hp->Prop),aA X ag σ H s->t σ H Q->
  wpAny (model X.prog X.w) X.A (evalPart e X.env) (λu s'=>∃o H',aA X ag σ H' s'/\IsPart u o/\Q o H') X.xe s
def aE4:TO:=λ_ H Q=>Q none H
def aE5 (t:TE):TO:=λσ H Q=>t σ H λx H1=>∃i,x = .int i/\Q (some i) H1
theorem lI {ns:af}:∀{us:List av},aX (ns.map V.int) us->IntsAre us ns:=by
 induction ns with
 |nil=>intro us r;rw[List.map_nil]at r;cases r;exact .nil
 |cons n ns ih=>
  intro us r;rw[bC1]at r;cases r with
  |cons r1 r2=>
   obtain⟨t,e⟩:=r1
   subst e;exact .cons n t (ih r2)
section
variable {X:Cx}{e:Expr}{te:TE}{lo hi:Option Expr}{tl th:TO}{pos p2:Pos}
theorem x8:PO X none aE4:=by
 intro ag s σ H Q I h;rw[evalPart_none];exact by3 ⟨none,H,I,.none,h⟩
theorem x9 (h:PE X e te):PO X (some e) (aE5 te):=by
 intro ag s σ H Q I hw;rw[evalPart_some];refine aP (h ag s σ H _ I hw) λu s1 ⟨x,H1,I1,r1,q1⟩=>?_
 obtain⟨i,rfl,q⟩:=q1
 obtain⟨t,rfl⟩:=r1
 exact⟨some i,H1,I1,.int i t,q⟩
def kF (X:Cx)(r:V->Option Int->Option Int->Hp->VK->Prop):Prop:=
 ∀(ag:List (ax×Obj)) (s:aw) (σ:St) (H:Hp) (x:V) (v vl vu:av) (lo hi:Option Int) (sl:ax) (Q:VK),aA X ag σ H s->b7 x v->s.heap.IsSliceOf sl vl vu .none->IsPart vl lo->IsPart vu hi->r x lo hi H Q->
  ∃T id,typeLookup (.type T) "__getitem__" = pure (some (.builtin id))/\s.TypeIs v T/\wpAny (model X.prog X.w) X.A (getItem v (.ref sl)) (EP X ag σ Q) X.xe s
theorem kF.or {r r':V->Option Int->Option Int->Hp->VK->Prop}(h:kF X r)(h':kF X r'):kF X (λx lo hi H Q=>r x lo hi H Q∨r' x lo hi H Q):=by
 intro ag s σ H x v vl vu lo hi sl Q I rx hs pl pu q;rcases q with q|q
 ·exact h ag s σ H x v vl vu lo hi sl Q I rx hs pl pu q
 ·exact h' ag s σ H x v vl vu lo hi sl Q I rx hs pl pu q
def tSl (r:V->Option Int->Option Int->Hp->VK->Prop)(te:TE)(tl th:TO):TE:=λσ H Q=>te σ H λx H1=>tl σ H1 λl H2=>th σ H2 λu H3=>r x l u H3 Q
theorem t9 {r:V->Option Int->Option Int->Hp->VK->Prop}(hr:kF X r)(he:PE X e te)(hl:PO X lo tl)(hu:PO X hi th):PE X (.Subscript e (.Slice lo hi none p2) pos) (tSl r te tl th):=by
 intro ag s σ H Q I h;refine Subscript_ (aP (he ag s σ H _ I h) λv s1 ⟨x,H1,I1,r1,q1⟩=>?_);refine wpAny_Slice (aP (hl ag s1 σ H1 _ I1 q1) λvl s2 ⟨l,H2,I2,pl,q2⟩=>aP (hu ag s2 σ H2 _ I2 q2) λvu s3 ⟨u,H3,I3,pu,q3⟩=>?_);rw[evalPart_none];refine by3 ?_;have I4:aA X ag σ H3 { s3 with heap:=s3.heap.push { cls:=.type "slice",data:=.fields #[vl,vu,.none] } }:=I3.kept (t':=s3.toks) λb ob q=>bx5 _ q
 obtain⟨T,id,hT,ht,hg⟩:=hr ag { s3 with heap:=s3.heap.push { cls:=.type "slice",data:=.fields #[vl,vu,.none] } } σ H3 x v vl vu l u s3.heap.objs.size Q I4 r1 (Heap.IsSliceOf.new ..) pl pu q3
 show wpAny (model X.prog X.w) X.A (subscriptTail e (.Slice lo hi none p2) v (.ref s3.heap.objs.size)) (EP X ag σ Q) X.xe { s3 with heap:=s3.heap.push { cls:=.type "slice",data:=.fields #[vl,vu,.none] } };exact tail_any (ops:=[.ref s3.heap.objs.size,v]) ht hT hg (by with_unfolding_all rfl)
def dX (xs:List V)(lo hi:Option Int):List V:=(xs.drop (HT.bA xs.length 0 lo)).take (HT.bA xs.length xs.length hi-HT.bA xs.length 0 lo)
theorem Q5 (xs:List V)(lo hi:Option Int):(dX xs lo hi).length<=xs.length:=by
 unfold dX;rw[bB5,bF9];omega
def aE6 (K:ac):V->Option Int->Option Int->Hp->VK->Prop:=λx lo hi H Q=>∃a xs,x = .ref a/\aS K H a xs/\
 ¬(HT.bA xs.length 0 lo=0/\HT.bA xs.length xs.length hi=xs.length)/\∀p,H p=none->Q (.ref p) (upd H p (.tup (dX xs lo hi)))
theorem aE7:kF X (aE6 X.K):=by
 intro ag s σ H x v vl vu lo hi sl Q I rx hs pl pu h
 obtain⟨a,xs,rfl,hx,hw,q⟩:=h
 cases rx
 obtain⟨its,r,ht,hz⟩:=I.tuple hx
 have aj:its.toArray.size=xs.length:=by rw[bx6];exact r.length.symm
 refine⟨"tuple",_,PyProof.Rows.slot_tuple_getitem.lookup,ht.typeIs,?_⟩;refine HT.aE3 ht hs pl pu (by rw[aj];exact hw) ?_ (by rw[aj];exact hz);rw[aj];refine⟨.ref s.heap.objs.size,_,I.laid (t':=s.toks) (o:=.tup (dX xs lo hi)) (λb ob q=>bx5 _ q) (bx9 _) ?_,rfl,q _ (I.hok.fresh (bx9 _))⟩
 exact⟨bA9 (Q5 xs lo hi) hz,_,(r.drop (HT.bA xs.length 0 lo)).take (HT.bA xs.length xs.length hi-HT.bA xs.length 0 lo),IsTup.new _ _,jL.new _ _ rfl⟩
def aE8 (K:ac):R2:=λx y H Q=>∃a b xs ys,x = .ref a/\y = .ref b/\aS K H a xs/\aS K H b ys/\xs≠[]/\xs.length+ys.length<=sizeLine/\
 (ys = []->Q (.ref a) H)/\(ys≠[]->∀p,H p=none->Q (.ref p) (upd H p (.tup (xs++ys))))
theorem aX.nil_iff {xs:List V}{us:List av}(r:aX xs us):us = []↔xs = []:=by
 cases r with
 |nil=>simp
 |cons _ _=>simp
theorem aE9:cR X (binaryOp .Add) (aE8 X.K):=by
 intro ag s σ H x y v u Q I rx ry h
 obtain⟨a,b,xs,ys,rfl,rfl,ha,hb,hx,hz,q1,q2⟩:=h
 cases rx;cases ry
 obtain⟨its,r1,p1,_⟩:=I.tuple ha
 obtain⟨ao,r2,p2,_⟩:=I.tuple hb
 refine HT.aD7 p1 p2 (λz=>hx (r1.nil_iff.mp z)) (λz=>⟨.ref a,H,I,rfl,q1 (r2.nil_iff.mp z)⟩) (λz=>?_) (by rw[<- r1.length,<- r2.length];exact hz);refine⟨.ref s.heap.objs.size,_,I.laid (t':=s.toks) (o:=.tup (xs++ys)) (λb ob q=>bx5 _ q) (bx9 _) ?_,rfl,q2 (λw=>z (r2.nil_iff.mpr w)) _ (I.hok.fresh (bx9 _))⟩
 exact⟨by rw[bx8];exact hz,_,r1.append r2,IsTup.new _ _,jL.new _ _ rfl⟩
end
def kG (n:Nat)(i:Int):Option Nat:=if 0<=i then (if i<n then some i.toNat else none) else if -(n:Int)<=i then some (i+n).toNat else none
def atI {α:Type}(xs:List α)(i:Int):Option α:=(kG xs.length i).bind λj=>xs[j]?
theorem aF0 {n:Nat}{i:Int}{j:Nat}(h:kG n i=some j):seqIndex? i n=some j/\j<n/\-(n:Int)<=i/\i<n:=by
 unfold kG at h;by_cases h0:0<=i
 ·rw[if_pos h0]at h
  by_cases h1:i<n
  ·rw[if_pos h1]at h
   have e:i.toNat=j:=bz3 h
   exact⟨by rw[seqIndex_of h0 h1,e],by omega,by omega,h1⟩
  ·rw[if_neg h1]at h;cases h
 ·rw[if_neg h0]at h
  by_cases h1:-(n:Int)<=i
  ·rw[if_pos h1]at h
   have e:(i+n).toNat=j:=bz3 h
   exact⟨by rw[seqIndex_neg (by omega) h1,e],by omega,h1,by omega⟩
  ·rw[if_neg h1]at h;cases h
theorem xA {α:Type}{xs:List α}{i:Int}{v:α}(h:atI xs i=some v):∃j,seqIndex? i xs.length=some j/\xs[j]? = some v/\j<xs.length/\-(xs.length:Int)<=i/\i<xs.length:=by
 unfold atI at h;cases e:kG xs.length i with
 |none=>rw[e]at h;cases h
 |some j=>
  rw[e]at h
  obtain⟨h1,h2,h3,h4⟩:=aF0 e
  exact⟨j,h1,h,h2,h3,h4⟩
theorem aF1 {α:Type}{xs:List α}{j:Nat}{v:α}(h:xs[j]? = some v):atI xs (j:Int)=some v:=by
 have hj:j<xs.length:=(by4.mp h).1;have e:kG xs.length (j:Int)=some j:=by
  unfold kG;rw[if_pos (by omega),if_pos (by omega)];simp
 unfold atI;rw[e];exact h
def xB (b:Expr):Prop:=∀o i,subscripted b false o i=operate [o,i] (getItem o i)
def gR (X:Cx)(r:R2):Prop:=
 ∀(value slice:Expr) (ag:List (ax×Obj)) (s:aw) (σ:St) (H:Hp) (x y:V) (v u:av) (Q:VK),aA X ag σ H s->b7 x v->b7 y u->r x y H Q->
  subscripted slice false v u=operate [v,u] (getItem v u)->wpAny (model X.prog X.w) X.A (subscriptTail value slice v u) (EP X ag σ Q) X.xe s
def jO (X:Cx)(id:String)(r:V->List V->Hp->VK->Prop):Prop:=
 ∀(ag:List (ax×Obj)) (s:aw) (σ:St) (H:Hp) (x:V) (xs:List V) (v:av) (us:List av) (Q:VK),aA X ag σ H s->b7 x v->aX xs us->r x xs H Q->
  wpAny (model X.prog X.w) X.A (call (.builtin id) (v::us)) (EP X ag σ Q) X.xe s
section
variable {X:Cx}{a b:Expr}{ta tb:TE}{pos:Pos}
theorem gR.or {r r':R2}(h:gR X r)(h':gR X r'):gR X (λx y H Q=>r x y H Q∨r' x y H Q):=by
 intro value slice ag s σ H x y v u Q I rx ry q hs;rcases q with q|q
 ·exact h value slice ag s σ H x y v u Q I rx ry q hs
 ·exact h' value slice ag s σ H x y v u Q I rx ry q hs
theorem o3 {r:R2}(hr:gR X r)(ha:PE X a ta)(hb:PE X b tb)(hs:xB b):PE X (.Subscript a b pos) (nZ r ta tb):=by
 intro ag s σ H Q I h;exact Subscript_ (wM ha hb I h λv u s2 x y H2 I2 rx ry q=>hr a b ag s2 σ H2 x y v u Q I2 rx ry q (hs _ _))
def Q6 (K:ac):R2:=λx y H Q=>∃p xs i v,x = .ref p/\y = .int i/\aR K H p xs/\atI xs i=some v/\Q v H
def Q7 (K:ac):R2:=λx y H Q=>∃p xs i v,x = .ref p/\y = .int i/\aS K H p xs/\atI xs i=some v/\Q v H
def Q8:R2:=λx y H Q=>∃z i c,x = .str z/\y = .int i/\z.length<=sizeLine/\atI z.cps.toList i=some c/\Q (.str ⟨#[c]⟩) H
theorem xC:gR X (Q6 X.K):=by
 intro value slice ag s σ H x y v u Q I rx ry h hs
 obtain⟨p,xs,i,z,rfl,rfl,hq,he,q⟩:=h
 cases rx
 obtain⟨t,rfl⟩:=ry
 obtain⟨its,r,pl,hz⟩:=I.list hq
 obtain⟨j,h1,h2,h3,h4,h5⟩:=xA he
 obtain⟨w,ew,rw'⟩:=r.get h2
 have hl:=r.length;have hn:=qE;have fin:EP X ag σ Q w s:=⟨z,H,I,rw',q⟩;by_cases h0:0<=i
 ·have hj:i.toNat=j:=by
   rw[seqIndex_of h0 h5]at h1;exact bz3 h1
  exact item_listR pl.isList h0 (by omega) (by rw[hj];simpa using ew) fin hs
 ·have hj:(i+(its.toArray.size:Int)).toNat=j:=by
   rw[seqIndex_neg (by omega) h4]at h1;rw[bx6,<- hl];exact bz3 h1
  exact subscriptTail_builtinR (x:=w) pl.isList.typeIs slot_list_getitem.lookup
   (wpAny_getItem_list_neg (Q:=λr s'=>r=w/\EP X ag σ Q r s') pl.isList (by omega) (by rw[bx6]<;>omega) (by omega) (by rw[hj];simpa using ew) ⟨rfl,fin⟩) hs
theorem xD:gR X (Q7 X.K):=by
 intro value slice ag s σ H x y v u Q I rx ry h hs
 obtain⟨p,xs,i,z,rfl,rfl,hq,he,q⟩:=h
 cases rx
 obtain⟨t,rfl⟩:=ry
 obtain⟨its,r,pl,hz⟩:=I.tuple hq
 obtain⟨j,h1,h2,h3,h4,h5⟩:=xA he
 obtain⟨w,ew,rw'⟩:=r.get h2
 have hl:=r.length;have hn:=qE;have fin:EP X ag σ Q w s:=⟨z,H,I,rw',q⟩;exact subscriptTail_builtinR (x:=w) pl.typeIs slot_tuple_getitem.lookup
  (getItem_tuple (j:=j) (Q:=λr s'=>r=w/\EP X ag σ Q r s') pl (by omega) (by omega) (by rw[bx6,<- hl];exact h1) (by simpa using ew) ⟨rfl,fin⟩) hs
theorem aF2:gR X Q8:=by
 intro value slice ag s σ H x y v u Q I rx ry h hs
 obtain⟨z,i,c,rfl,rfl,hz,he,q⟩:=h
 obtain⟨t,rfl⟩:=rx
 obtain⟨t',rfl⟩:=ry
 obtain⟨j,h1,h2,h3,h4,h5⟩:=xA he
 have hl:z.cps.toList.length=z.length:=by simp[Str.length]
 rw[hl]at h1 h4 h5;have hn:=qE
 exact tail_any (typeIs_str s z t) slot_str_getitem.lookup (getItem_str (c:=c) (by
  have e1:decide (i < -(2^63:Int))=false:=by5 (by omega);have e2:decide (i >= 2^63)=false:=by5 (by omega)
  rw[e1,e2,Bool.or_false]) (by rw[h1];simpa using h2) ⟨.str ⟨#[c]⟩,H,I.tok _,⟨_,rfl⟩,q⟩) hs
def Q9 (K:ac):R2:=λx y H Q=>Q6 K x y H Q∨Q7 K x y H Q∨Q8 x y H Q
theorem R3:gR X (Q9 X.K):=xC.or (xD.or aF2)
theorem aF3 (lo hi:Option Int)(n:Nat):(sliceBounds lo hi none n).1=((HT.bA n 0 lo:Nat):Int)/\(sliceBounds lo hi none n).2.1=((HT.bA n n hi:Nat):Int)/\(sliceBounds lo hi none n).2.2=1:=by
 refine⟨?_,?_,rfl⟩
 ·cases lo with
  |none=>simp[sliceBounds,HT.bA]
  |some i=>
   simp only[sliceBounds,HT.bA,Option.getD_none,show (1:Int)>0 by decide,if_true];by_cases h:i<0
   ·simp only[h,if_true]<;>omega
   ·simp only[h,bF8]<;>omega
 ·cases hi with
  |none=>simp[sliceBounds,HT.bA]
  |some i=>
   simp only[sliceBounds,HT.bA,Option.getD_none,show (1:Int)>0 by decide,if_true];by_cases h:i<0
   ·simp only[h,if_true]<;>omega
   ·simp only[h,bF8]<;>omega
theorem aF4 (its:List av)(lo hi:Option Int):slicePick its.toArray lo hi none=((its.drop (HT.bA its.length 0 lo)).take (HT.bA its.length its.length hi-HT.bA its.length 0 lo)).toArray:=by
 obtain⟨h1,h2,h3⟩:=aF3 lo hi its.toArray.size
 unfold slicePick;rw[h1,h2,h3];simp only[sliceRange_one,pick_run,bx6]<;>rfl
def aF5 (K:ac):V->Option Int->Option Int->Hp->VK->Prop:=λx lo hi H Q=>∃a xs,x = .ref a/\aR K H a xs/\∀p,H p=none->Q (.ref p) (upd H p (.lst (dX xs lo hi)))
theorem xE:kF X (aF5 X.K):=by
 intro ag s σ H x v vl vu lo hi sl Q I rx hs pl pu h
 obtain⟨a,xs,rfl,hx,q⟩:=h
 cases rx
 obtain⟨its,r,ht,hz⟩:=I.list hx
 have aj:=r.length;refine⟨"list",_,slot_list_getitem.lookup,ht.isList.typeIs,?_⟩;refine wpAny_getItem_list_slice ht.isList hs pl pu .none (by simp) ?_ (by rw[bx6]<;>omega);rw[aF4,<- aj];refine⟨.ref s.heap.objs.size,_,I.laid (t':=s.toks) (o:=.lst (dX xs lo hi)) (λb ob q=>bx5 _ q) (bx9 _) ?_,rfl,q _ (I.hok.fresh (bx9 _))⟩
 exact⟨bA9 (Q5 xs lo hi) hz,_,0,(r.drop (HT.bA xs.length 0 lo)).take (HT.bA xs.length xs.length hi-HT.bA xs.length 0 lo),bz0 _ rfl⟩
def kH:V->Bool
 |.non=>true
 |.bl _=>true
 |.int _=>true
 |.str _=>true
 |_=>false
def j5:V->V->Bool
 |.non,.non=>true
 |.bl a,.bl b=>a==b
 |.bl a,.int b=>(if a then 1 else 0)==b
 |.int a,.bl b=>a==(if b then 1 else 0)
 |.int a,.int b=>a==b
 |.str a,.str b=>a==b
 |_,_=>false
theorem aF6 {A:az}{s:aw}{y x:V}{u v:av}(ry:b7 y u)(rx:b7 x v)(fy:kH y=true)(fx:kH x=true):SeqAt.EqAt A s u v (j5 y x):=by
 cases y with
 |non=>
  cases ry;cases x with
  |non=>cases rx;exact SeqAt.EqAt.same _
  |bl b=>cases rx;exact SeqAt.EqAt.none_bool b
  |int b=>obtain⟨t,rfl⟩:=rx;exact SeqAt.EqAt.none_int b t
  |str b=>obtain⟨t,rfl⟩:=rx;exact SeqAt.EqAt.none_str b t
  |_=>exact absurd (show false=true from fx) bz7
 |bl a=>
  cases ry;cases x with
  |non=>cases rx;exact SeqAt.EqAt.bool_none a
  |bl b=>cases rx;exact SeqAt.EqAt.bool_bool a b
  |int b=>obtain⟨t,rfl⟩:=rx;exact SeqAt.EqAt.bool_int a b t
  |str b=>obtain⟨t,rfl⟩:=rx;exact SeqAt.EqAt.bool_str a b t
  |_=>exact absurd (show false=true from fx) bz7
 |int a=>
  obtain⟨t',rfl⟩:=ry
  cases x with
  |non=>cases rx;exact SeqAt.EqAt.int_none a t'
  |bl b=>cases rx;exact SeqAt.EqAt.int_bool a t' b
  |int b=>obtain⟨t,rfl⟩:=rx;exact SeqAt.EqAt.int_int a t' b t
  |str b=>obtain⟨t,rfl⟩:=rx;exact SeqAt.EqAt.int_str a t' b t
  |_=>exact absurd (show false=true from fx) bz7
 |str a=>
  obtain⟨t',rfl⟩:=ry
  cases x with
  |non=>cases rx;exact SeqAt.EqAt.str_none a t'
  |bl b=>cases rx;exact SeqAt.EqAt.str_bool a t' b
  |int b=>obtain⟨t,rfl⟩:=rx;exact SeqAt.EqAt.str_int a t' b t
  |str b=>obtain⟨t,rfl⟩:=rx;exact SeqAt.EqAt.str_str a t' b t
  |_=>exact absurd (show false=true from fx) bz7
 |_=>exact absurd (show false=true from fy) bz7
def gJ (x:V)(u:av):Bool:=match u with
 |.none=>j5 .non x
 |.bool b=>j5 (.bl b) x
 |.int i _=>j5 (.int i) x
 |.str z _=>j5 (.str z) x
 |_=>false
theorem R4 {x y:V}{u:av}(r:b7 y u)(f:kH y=true):gJ x u=j5 y x:=by
 cases y with
 |non=>cases r;rfl
 |bl b=>cases r;rfl
 |int i=>obtain⟨t,rfl⟩:=r;rfl
 |str z=>obtain⟨t,rfl⟩:=r;rfl
 |_=>exact absurd (show false=true from f) bz7
theorem qG {x:V}:∀{xs:List V}{us:List av},aX xs us->xs.all kH=true->us.any (gJ x)=xs.any λy=>j5 y x
 |_,_,.nil,_=>rfl
 |y::xs,u::us,.cons r t,f=>by
  rw[bI1,bB4]at f;rw[List.any_cons,List.any_cons,R4 r f.1,qG t f.2]
theorem qH {A:az}{s:aw}{x:V}{v:av}(rx:b7 x v)(fx:kH x=true):∀{xs:List V}{us:List av},aX xs us->xs.all kH=true->∀u∈us,SeqAt.EqAt A s u v (gJ x u)
 |_,_,.nil,_=>λu hu=>by cases hu
 |y::xs,u::us,.cons r t,f=>λu' hu=>by
  rw[bI1,bB4]at f;rcases by2.mp hu with rfl|hu
  ·rw[R4 r f.1];exact aF6 r rx f.1 fx
  ·exact qH rx fx t f.2 u' hu
def qI (x:V)(xs:List V):Bool:=xs.any λy=>j5 y x
def xF (K:ac)(neg:Bool):R2:=λx y H Q=>∃p xs,y = .ref p/\(aR K H p xs∨aS K H p xs)/\kH x=true/\xs.all kH=true/\Q (.bl (if neg then !qI x xs else qI x xs)) H
theorem R5:cR X (compareOp .In) (xF X.K false):=by
 intro ag s σ H x y v u Q I rx ry h
 obtain⟨p,xs,rfl,hq,fx,fs,q⟩:=h
 cases ry;rcases hq with hq|hq
 ·obtain⟨its,r,pl,hz⟩:=I.list hq
  refine SeqAt.in_listAt (gJ x) pl.isList (λw hw=>qH rx fx r fs w (by simpa using hw)) ⟨.bl _,H,I,rfl,?_⟩;rw[show its.toArray.any (gJ x)=its.any (gJ x) by simp,qG r fs];exact q
 ·obtain⟨its,r,pl,hz⟩:=I.tuple hq
  refine SeqAt.in_tupleAt (gJ x) pl (λw hw=>qH rx fx r fs w (by simpa using hw)) ⟨.bl _,H,I,rfl,?_⟩;rw[show its.toArray.any (gJ x)=its.any (gJ x) by simp,qG r fs];exact q
theorem aF7:cR X (compareOp .NotIn) (xF X.K true):=by
 intro ag s σ H x y v u Q I rx ry h
 obtain⟨p,xs,rfl,hq,fx,fs,q⟩:=h
 cases ry;rcases hq with hq|hq
 ·obtain⟨its,r,pl,hz⟩:=I.list hq
  refine SeqAt.notIn_listAt (gJ x) pl.isList (λw hw=>qH rx fx r fs w (by simpa using hw)) ⟨.bl _,H,I,rfl,?_⟩;rw[show its.toArray.any (gJ x)=its.any (gJ x) by simp,qG r fs];exact q
 ·obtain⟨its,r,pl,hz⟩:=I.tuple hq
  refine SeqAt.notIn_tupleAt (gJ x) pl (λw hw=>qH rx fx r fs w (by simpa using hw)) ⟨.bl _,H,I,rfl,?_⟩;rw[show its.toArray.any (gJ x)=its.any (gJ x) by simp,qG r fs];exact q
theorem R6:d7 X (.builtin "len") (λxs H Q=>∃p ys,xs = [.ref p]/\(aR X.K H p ys∨aS X.K H p ys)/\Q (.int ys.length) H):=by
 intro ag s σ H xs us Q I r h
 obtain⟨p,ys,rfl,hq,q⟩:=h
 obtain⟨u,rfl,rx⟩:=hV r
 cases rx;have hn:=qE;rcases hq with hq|hq
 ·obtain⟨its,r',pl,hz⟩:=I.list hq
  have aj:=r'.length;exact Calls.call_len_list pl.isList (by simp only[bx6]<;>omega) ⟨.int ys.length,H,I.tok _,⟨s.toks+1,by rw[bx6,aj]⟩,q⟩
 ·obtain⟨its,r',pl,hz⟩:=I.tuple hq
  have aj:=r'.length;exact len_tuple pl (by simp only[bx6]<;>omega) ⟨.int ys.length,H,I.tok _,⟨s.toks+1,by rw[bx6,aj]⟩,q⟩
theorem d7.or {f:av}{r r':List V->Hp->VK->Prop}(h:d7 X f r)(h':d7 X f r'):d7 X f (λxs H Q=>r xs H Q∨r' xs H Q):=by
 intro ag s σ H xs us Q I rs q;rcases q with q|q
 ·exact h ag s σ H xs us Q I rs q
 ·exact h' ag s σ H xs us Q I rs q
theorem aF8:d7 X (.type "list") (λxs H Q=>∃p ys,xs = [.ref p]/\(aR X.K H p ys∨aS X.K H p ys)/\∀l,H l=none->Q (.ref l) (upd H l (.lst ys))):=by
 intro ag s σ H xs us Q I r h
 obtain⟨p,ys,rfl,hq,q⟩:=h
 obtain⟨u,rfl,rx⟩:=hV r
 cases rx;have fin:∀(its:List av),aX ys its->ys.length<=sizeLine->∀(h':Heap) (c':Nat),(∀b o',s.heap.get? b=some o'->h'.get? b=some o')->
   h'.get? s.heap.objs.size=some { cls:=.type "list",dict:=none,data:=.seq its.toArray c',slots:=#[] }->EP X ag σ Q (.ref s.heap.objs.size) { s with heap:=h' }:=λits r' hz h' c' kp e=>
  ⟨.ref s.heap.objs.size,_,I.laid (t':=s.toks) kp (bx9 _) (show cV X.prog X.w _ h' _ (.lst ys) from ⟨hz,its,c',r',e⟩),rfl,q _ (I.hok.fresh (bx9 _))⟩
 rcases hq with hq|hq
 ·obtain⟨its,r',pl,hz⟩:=I.list hq
  have aj:=r'.length
  obtain⟨o,ho,hc,n,hd⟩:=pl.isList
  exact call_list_seq p (.inl rfl) ho hc hd (λh' c' kp e=>fin its r' hz h' c' kp e) (by simp only[bx6]<;>omega)
 ·obtain⟨its,r',pl,hz⟩:=I.tuple hq
  have aj:=r'.length
  obtain⟨o,ho,hc,n,hd⟩:=pl
  exact call_list_seq p (.inr rfl) ho hc hd (λh' c' kp e=>fin its r' hz h' c' kp e) (by simp only[bx6]<;>omega)
theorem aF9:d7 X (.type "tuple") (λxs H Q=>∃p ys,xs = [.ref p]/\((aR X.K H p ys/\∀l,H l=none->Q (.ref l) (upd H l (.tup ys)))∨(aS X.K H p ys/\Q (.ref p) H))):=by
 intro ag s σ H xs us Q I r h
 obtain⟨p,ys,rfl,h⟩:=h
 obtain⟨u,rfl,rx⟩:=hV r
 cases rx;rcases h with⟨hq,q⟩|⟨hq,q⟩
 ·obtain⟨its,r',pl,hz⟩:=I.list hq
  have aj:=r'.length;refine call_tuple_list pl.isList (λh' kp=>?_) (by simp only[bx6]<;>omega);have I1:aA X ag σ H { s with heap:=h' }:=I.kept (t':=s.toks) kp;have I2:aA X ag σ (upd H h'.objs.size (.tup ys)) { s with heap:=h'.push { cls:=.type "tuple",data:=.seq its.toArray } }:=
   I1.laid (t':=s.toks) (λb o e=>bx5 _ e) (bx9 _) (show cV X.prog X.w _ _ _ (.tup ys) from ⟨hz,its,r',IsTup.new _ _,jL.new _ _ rfl⟩)
  exact⟨.ref h'.objs.size,_,I2,rfl,q _ (I1.hok.fresh (bx9 _))⟩
 ·obtain⟨its,r',pl,hz⟩:=I.tuple hq
  exact call_tuple_same pl ⟨.ref p,H,I,rfl,q⟩
def tD (K:ac)(T:String)(x:V)(H:Hp):Prop:=match x with
 |.str _=>T="str"
 |.int _=>T="int"
 |.ref p=>(T="list"/\∃xs,aR K H p xs)∨(T="tuple"/\∃o,K.lookup p=some o/\o.cls = .type "tuple"/\o.dict=none) ∨
   (T="dict"/\((∃kvs,H p=some (.dK kvs))∨∃kvs,H p=some (.dT kvs)))∨(T="set"/\∃S n,H p=some (.set S n))
 |_=>False
theorem xG {ag:List (ax×Obj)}{σ:St}{H:Hp}{s:aw}{T:String}{x:V}{v:av}(I:aA X ag σ H s)(r:b7 x v)(ty:tD X.K T x H) :
  s.TypeIs v T/\∀a,v = .ref a->∃ob,s.heap.get? a=some ob/\ob.dict=none:=by
 cases x with
 |str z=>
  obtain⟨t,rfl⟩:=r
  cases (show T="str" from ty)
  exact⟨typeIs_str s z t,λ_ e=>nomatch e⟩
 |int i=>
  obtain⟨t,rfl⟩:=r
  cases (show T="int" from ty)
  exact⟨typeIs_int s i t,λ_ e=>nomatch e⟩
 |ref p=>
  cases r;rcases ty with⟨rfl,xs,hq⟩|⟨rfl,o,hk,hc,hd⟩|⟨rfl,hk⟩|⟨rfl,S,n,hk⟩
  ·obtain⟨its,_,pl,_⟩:=I.list hq
   refine⟨pl.isList.typeIs,λa e=>?_⟩;cases e
   obtain⟨o,n,e,c,hd,_⟩:=pl
   exact⟨o,e,hd⟩
  ·refine⟨⟨o,I.kIn p o hk,hc⟩,λa e=>?_⟩
   cases e
   exact⟨o,I.kIn _ o hk,hd⟩
  ·have z:∃o,s.heap.get? p=some o/\o.ExactDict:=by
    rcases hk with⟨kvs,hk⟩|⟨kvs,hk⟩
    ·obtain⟨_,_,_,_,o,_,_,e,ex,_⟩:=I.hok p _ hk
     exact⟨o,e,ex⟩
    ·obtain⟨_,_,_,_,o,_,_,e,ex,_⟩:=I.hok p _ hk
     exact⟨o,e,ex⟩
   obtain⟨o,e,ex⟩:=z
   refine⟨⟨o,e,ex.1⟩,λa e2=>?_⟩;cases e2
   exact⟨o,e,ex.2.1⟩
  ·obtain⟨o,_,_,_,e,ex,_⟩:=I.hok p _ hk
   refine⟨⟨o,e,ex.1⟩,λa e2=>?_⟩;cases e2
   exact⟨o,e,ex.2.1⟩
 |_=>exact False.elim ty
def xH (K:ac)(T:String)(r:V->List V->Hp->VK->Prop)(to:TE)(t:TA):TE:=λσ H Q=>to σ H λx H1=>tD K T x H1/\t σ H1 λxs H2=>r x xs H2 Q
variable {o e:Expr}{es:List Expr}{to:TE}{t:TA}{name:Str}{ah ai:Pos}{T id:String}{r:V→List V→Hp→VK→Prop}
theorem tE (pa:PlainAttrs T)(slot:Slot T name id)(hty:typeOf (.builtin id)=pure (.type "method_descriptor"))(hm:jO X id r)(ho:PE X o to)(ha:PA X (e::es) t)(hbase:attributeBase o name X.env (eval o X.env)=eval o X.env:=by rfl)(hfew:((backTo ai (starEach (e::es) X.env)).all (λx=>!x.1)&&(backToKw ai (keywordEach [] X.env)).all (λx=>x.1.isSome)
  &&decide ((e::es).length+([]:List Keyword).length+(if ([]:List Keyword).isEmpty then 0 else 1)<30))=true:=by rfl)(hline:(ah.endLine==ai.line)=true:=by rfl)(hs:starEach (e::es) X.env=(false,eval e X.env)::starEach es X.env:=by rfl)(aq:(backTo ai (starEach es X.env)).any (·.1)=false:=by rfl) :
  PE X (.Call (.Attribute o name ah) (e::es) [] ai) (xH X.K T r to t):=by
 intro ag s σ H Q I h;refine wpAny_Call_method_late hbase hfew hline rfl (aP (ho ag s σ H _ I h) λv s1 ⟨x,H1,I1,r1,ty,q1⟩=>?_)
 obtain⟨h1,h2⟩:=xG I1 r1 ty
 refine⟨T,id,pa,slot,hty,h1,h2,?_⟩;have hA:=ha ai ag s1 σ H1 _ I1 q1;rw[hs]at hA ⊢;refine bK3 (by show (false||(backTo ai (starEach es X.env)).any (·.1))=false;rw[aq]<;>rfl) (bM3 ?_);exact aP hA λus s2 ⟨vs,H2,I2,r2,q2⟩=>hm ag s2 σ H2 x vs v us Q I2 r1 r2 q2
end
def qJ (X:Cx)(id:String)(r:V->List V->Hp->VK->Prop):Prop:=
 ∀(ag:List (ax×Obj)) (s:aw) (σ:St) (H:Hp) (x:V) (xs:List V) (v:av) (us:List av) (Q:VK),aA X ag σ H s->b7 x v->aX xs us->r x xs H Q->
  wpAny (model X.prog X.w) X.A (call (.builtin id) (v::us)) (EP X ag σ Q) X.xe s
theorem aX.one {x:V}{us:List av}(h:aX [x] us):∃u,us = [u]/\b7 x u:=by
 cases h with
 |cons r t=>
  cases t
  exact⟨_,rfl,r⟩
theorem aX.zero:∀{us:List av},aX [] us->us = []
 |_,.nil=>rfl
theorem aX.dropLast {xs:List V}{us:List av}(h:aX xs us):aX xs.dropLast us.dropLast:=by
 induction h with
 |nil=>exact .nil
 |cons r t ih=>
  cases t with
  |nil=>exact .nil
  |cons q t'=>exact .cons r ih
theorem aG0 {α:Type}(l:List α):l.eraseIdx (l.length-1)=l.dropLast:=by
 induction l with
 |nil=>rfl
 |cons a r ih=>
  cases r with
  |nil=>rfl
  |cons b r=>
   have e:(a::b::r).length-1=((b::r).length-1)+1:=by
    have h1:(a::b::r).length=r.length+2:=rfl;have h2:(b::r).length=r.length+1:=rfl;omega
   rw[e,List.eraseIdx_cons_succ,ih]
   all_goals rfl
section
variable {X:Cx}{ag:List (ax×Obj)}{σ:St}{H:Hp}{s:aw}{l b:ax}{xs ys zs:List V}
theorem aA.lset {its its':List av}{n:Nat}{f:Array av->Array av}{t':Nat}(I:aA X ag σ H s)(hH:H l=some (.lst xs))(e:s.heap.get? l=some { cls:=.type "list",data:=.seq its.toArray n })(hf:f its.toArray=its'.toArray)(hv:aX ys its')(hz:ys.length<=sizeLine) :
  aA X ag σ (upd H l (.lst ys)) { s with heap:=s.heap.update l (Obj.mapSeq f),toks:=t' }:=by
 have q:=PySem.IsL.update e f;rw[hf]at q;refine I.write (x:=l) (e:=l) (by rw[hH];exact trivial) (.inl rfl) (λb' u hb hu=>(Heap.get?_update_other s.heap (Obj.mapSeq f) (Ne.symm hb)).trans hu) ⟨_,q⟩ ?_
 exact⟨hz,its',_,hv,q⟩
theorem aA.lnew {its:List av}{t':Nat}(I:aA X ag σ H s)(hv:aX ys its)(hz:ys.length<=sizeLine) :
  aA X ag σ (upd H s.heap.objs.size (.lst ys)) { s with heap:=s.heap.push { cls:=.type "list",data:=.seq its.toArray },toks:=t' }:=
 I.laid (λ_ _ q=>bx5 _ q) (bx9 _) ⟨hz,its,0,hv,bz0 _ rfl⟩
theorem aA.fresh (I:aA X ag σ H s):H s.heap.objs.size=none:=I.hok.fresh (bx9 _)
theorem aA.lstM (I:aA X ag σ H s)(hH:H l=some (.lst xs)):xs.length<=sizeLine/\∃(its:List av) (n:Nat),aX xs its/\xs.length=its.length/\s.heap.get? l=some { cls:=.type "list",data:=.seq its.toArray n }:=by
 obtain⟨z,its,n,r,e⟩:=I.hok l _ hH
 exact⟨z,its,n,r,r.length,e⟩
theorem R7 {n:Nat}(h:n<=sizeLine):Builtin.List.listTooLong n=false:=by
 unfold Builtin.List.listTooLong;exact by5 (by omega)
end
section
variable {X:Cx}
def xI:V->List V->Hp->VK->Prop:=λx vs H Q=>∃l xs y,x = .ref l/\vs = [y]/\H l=some (.lst xs)/\xs.length<sizeLine/\Q .non (upd H l (.lst (xs++[y])))
theorem qK:qJ X "list.append" xI:=by
 intro ag s σ H x vs v us Q I rx rv h
 obtain⟨l,xs,y,rfl,rfl,hH,hz,q⟩:=h
 cases rx
 obtain⟨u,rfl,ru⟩:=rv.one
 obtain⟨z,its,n,r,hl,e⟩:=I.lstM hH
 refine call_meets F.slot_list_append ⟨_,e,rfl⟩ F.entry_list_append (F.args_list_append_2 _ _) (PySem.list_append l its.toArray n u (by rw[bx6];omega)) ⟨e,?_⟩;refine⟨.non,_,I.lset (its':=its++[u]) hH e (by simp) (r.append (.cons ru .nil)) ?_,rfl,q⟩;rw[bx8,bB6];omega
def R8:V->List V->Hp->VK->Prop:=λx vs H Q=>∃l b xs zs,x = .ref l/\vs = [.ref b]/\H l=some (.lst xs)/\H b=some (.lst zs)/\xs.length+zs.length<=sizeLine/\Q .non (upd H l (.lst (xs++zs)))
theorem aG1:qJ X "list.extend" R8:=by
 intro ag s σ H x vs v us Q I rx rv h
 obtain⟨l,b,xs,zs,rfl,rfl,hH,hB,hz,q⟩:=h
 cases rx
 obtain⟨u,rfl,ru⟩:=rv.one
 cases ru
 obtain⟨z,its,n,r,hl,e⟩:=I.lstM hH
 obtain⟨z2,ao,n2,r2,hl2,e2⟩:=I.lstM hB
 have hsz:its.toArray.size+ao.toArray.size<=sizeLine:=by rw[bx6,bx6];omega
 have hlong:¬(!its.toArray.isEmpty&&Builtin.List.listTooLong (its.toArray.size+ao.toArray.size))=true:=by
  rw[R7 hsz,Bool.and_false];exact bz7
 refine call_meets F.slot_list_extend ⟨_,e,rfl⟩ F.entry_list_extend (F.args_list_extend_2 _ _)
  (AutoSeq1.list_extend_list_list_0 l its.toArray n b ao.toArray n2 hlong (by rw[bx6];omega) (by omega)) ⟨e,e2,?_⟩
 refine⟨.non,_,I.lset (its':=its++ao) hH e (by simp) (r.append r2) ?_,rfl,q⟩;rw[bx8];omega
def R9:V->List V->Hp->VK->Prop:=λx vs H Q=>∃l xs y,x = .ref l/\vs = []/\H l=some (.lst xs)/\xs[xs.length-1]? = some y/\Q y (upd H l (.lst xs.dropLast))
theorem aG2:qJ X "list.pop" R9:=by
 intro ag s σ H x vs v us Q I rx rv h
 obtain⟨l,xs,y,rfl,rfl,hH,hy,q⟩:=h
 cases rx;have hus:=rv.zero;subst hus
 obtain⟨z,its,n,r,hl,e⟩:=I.lstM hH
 obtain⟨u,hu,ru⟩:=r.get hy
 have hy':its.toArray[its.toArray.size-1]? = some u:=by
  show its.toArray[its.length-1]? = some u;rw[<- bI7,<- hl];exact hu
 refine call_meets F.slot_list_pop ⟨_,e,rfl⟩ F.entry_list_pop (F.args_list_pop_1 _) (MeetsSeq.list_pop_last l its.toArray n u hy' (by rw[bx6];omega)) ⟨e,?_⟩;refine⟨y,_,I.lset (its':=its.dropLast) hH e ?_ r.dropLast ?_,ru,q⟩
 ·show its.toArray.eraseIdxIfInBounds (its.toArray.size-1)=its.dropLast.toArray
  rw[bx6,List.eraseIdxIfInBounds_toArray,aG0]
 ·rw[List.length_dropLast]
  omega
def S0:R2:=λx y H Q=>∃l b xs zs,x = .ref l/\y = .ref b/\H l=some (.lst xs)/\H b=some (.lst zs)/\xs.length+zs.length<=sizeLine/\∀p,H p=none->Q (.ref p) (upd H p (.lst (xs++zs)))
theorem aG3:cR X (binaryOp .Add) S0:=by
 intro ag s σ H x y v u Q I rx ry h
 obtain⟨l,b,xs,zs,rfl,rfl,hH,hB,hz,q⟩:=h
 cases rx;cases ry
 obtain⟨z,its,n,r,hl,e⟩:=I.lstM hH
 obtain⟨z2,ao,n2,r2,hl2,e2⟩:=I.lstM hB
 refine PySem.P.add_list e e2 ?_ (by rw[bx6,bx6];omega);have ea:its.toArray++ao.toArray=(its++ao).toArray:=by simp
 rw[ea]
 exact⟨.ref _,_,I.lnew (t':=s.toks) (r.append r2) (by rw[bx8];omega),rfl,q _ I.fresh⟩
end
section
variable {κ:Type}[DecidableEq κ]
def fD (kvs:List (κ×V))(k:κ):Option V:=(kvs.find? λkv=>decide (kv.1=k)).map (·.2)
def eU (kvs:List (κ×V))(k:κ)(v:V):List (κ×V):=
 if (kvs.any λkv=>decide (kv.1=k))=true then kvs.map (λkv=>if kv.1=k then (kv.1,v) else kv) else kvs++[(k,v)]
theorem xJ {p:κ×V}{r:List (κ×V)}{k:κ}(e:p.1=k):fD (p::r) k=some p.2:=by simp[fD,bH7,e]
theorem xK {p:κ×V}{r:List (κ×V)}{k:κ}(e:¬p.1=k):fD (p::r) k=fD r k:=by simp[fD,bH7,e]
theorem S3 (k:κ):∀kvs:List (κ×V),(kvs.any λkv=>decide (kv.1=k))=(fD kvs k).isSome
 |[]=>rfl
 |p::r=>by
  rw[List.any_cons];by_cases e:p.1=k
  ·simp only[xJ e,by9 e,Bool.true_or,Option.isSome_some]
  ·rw[xK e,by5 e,Bool.false_or];exact S3 k r
theorem xL (kvs:List (κ×V))(k:κ)(v:V):(eU kvs k v).length<=kvs.length+1:=by
 unfold eU;split
 ·rw[bx7];omega
 ·rw[bx8,bA3,List.length_nil];omega
theorem fY.isSome_eq {o:Option V}{u:Option av}(r:fY o u):o.isSome=u.isSome:=by
 cases o with
 |none=>cases u with
  |none=>rfl
  |some _=>exact (show False from r).elim
 |some _=>cases u with
  |none=>exact (show False from r).elim
  |some _=>rfl
theorem fY.getD {o:Option V}{u:Option av}{d:V}{d':av}(r:fY o u)(rd:b7 d d'):b7 (o.getD d) (u.getD d'):=by
 cases o with
 |none=>cases u with
  |none=>exact rd
  |some _=>exact (show False from r).elim
 |some _=>cases u with
  |none=>exact (show False from r).elim
  |some _=>exact r
theorem KV.val {kvs:List (κ×V)}{vs:List (κ×av)}(r:KV kvs vs)(k:κ):fY (fD kvs k) (valueAt vs k):=by
 unfold KV at r
 induction r with
 |nil=>exact True.intro
 |@cons p q ps qs h t ih=>
  obtain⟨h1,h2⟩:=h
  by_cases e:p.1=k
  ·have e':q.1=k:=h1.symm.trans e
   have b:valueAt (q::qs) k=some q.2:=by simp[valueAt,bH7,e']
   rw[xJ e,b];exact h2
  ·have e':¬q.1=k:=λz=>e (h1.trans z)
   have b:valueAt (q::qs) k=valueAt qs k:=by simp[valueAt,bH7,e']
   rw[xK e,b];exact ih
theorem KV.any {kvs:List (κ×V)}{vs:List (κ×av)}(r:KV kvs vs)(k:κ):(kvs.any λkv=>decide (kv.1=k))=vs.any λkv=>decide (kv.1=k):=by
 unfold KV at r
 induction r with
 |nil=>rfl
 |cons h t ih=>rw[List.any_cons,List.any_cons,ih,h.1]
theorem KV.repl {kvs:List (κ×V)}{vs:List (κ×av)}(r:KV kvs vs)(k:κ){y:V}{u:av}(ry:b7 y u) :
  KV (kvs.map λkv=>if kv.1=k then (kv.1,y) else kv) (vs.map λkv=>if kv.1=k then (kv.1,u) else kv):=by
 unfold KV at r ⊢
 induction r with
 |nil=>exact .nil
 |@cons p q ps qs h t ih=>
  rw[bC1,bC1];refine .cons ?_ ih
  obtain⟨h1,h2⟩:=h
  by_cases e:p.1=k
  ·rw[if_pos e,if_pos (h1.symm.trans e)];exact⟨h1,ry⟩
  ·rw[if_neg e,if_neg (λz=>e (h1.trans z))];exact⟨h1,h2⟩
theorem KV.put {kvs:List (κ×V)}{vs:List (κ×av)}(r:KV kvs vs)(k:κ){y:V}{u:av}(ry:b7 y u):KV (eU kvs k y) (stored vs k u):=by
 unfold eU stored;rw[r.any k];by_cases e:(vs.any λkv=>decide (kv.1=k))=true
 ·rw[if_pos e,if_pos e];exact r.repl k ry
 ·rw[if_neg e,if_neg e];exact Paired.snoc r ⟨rfl,ry⟩
theorem KV.length {kvs:List (κ×V)}{vs:List (κ×av)}(r:KV kvs vs):kvs.length=vs.length:=Paired.length r
end
theorem qL {P:ay}{w:ba}{k:aG}{u:av}(r:b7 (kV k) u):(dO P w).is k u=true:=by
 cases k with
 |inl i=>obtain⟨t,e⟩:=(show ∃t,u=Value.int i t from r);subst e;exact aw7 P w i t
 |inr x=>obtain⟨t,e⟩:=(show ∃t,u=Value.str x t from r);subst e;exact aw8 P w x t
theorem S4 {P:ay}{w:ba}:∀{ks:List aG}{us:List av},aX (ks.map kV) us->ItemsAre (dO P w) ks us
 |[],_,r=>by rw[List.map_nil]at r;cases r;exact .nil
 |k::ks,_,r=>by
  rw[bC1]at r;cases r with
  |cons h t=>exact .cons (qL h) (S4 t)
abbrev KT (H:Hp):List (List aG×V)->List (List aG×ax×av)->Prop:=Paired λp q=>p.1=q.1/\H q.2.1=some (.tup (p.1.map kV))/\b7 p.2 q.2.2
theorem KT.val {H:Hp}{kvs:List (List aG×V)}{xs:List (List aG×ax×av)}(r:KT H kvs xs)(k:List aG):fY (fD kvs k) ((atKey xs k).map (·.2)):=by
 induction r with
 |nil=>exact True.intro
 |@cons p q ps qs h t ih=>
  obtain⟨h1,_,h2⟩:=h
  by_cases e:p.1=k
  ·have e':q.1=k:=h1.symm.trans e
   have b:atKey (q::qs) k=some q.2:=by simp[atKey,bH7,e']
   rw[xJ e,b];exact h2
  ·have e':¬q.1=k:=λz=>e (h1.trans z)
   have b:atKey (q::qs) k=atKey qs k:=by simp[atKey,bH7,e']
   rw[xK e,b];exact ih
theorem KT.repl {H:Hp}{kvs:List (List aG×V)}{xs:List (List aG×ax×av)}(r:KT H kvs xs)(k:List aG){y:V}{u:av}(ry:b7 y u) :
  KT H (kvs.map λkv=>if kv.1=k then (kv.1,y) else kv) (xs.map (putAt k u)):=by
 induction r with
 |nil=>exact .nil
 |@cons p q ps qs h t ih=>
  rw[bC1,bC1];refine .cons ?_ ih
  obtain⟨h1,h2,h3⟩:=h
  unfold putAt;by_cases e:p.1=k
  ·rw[if_pos e,if_pos (h1.symm.trans e)];exact⟨h1,h2,ry⟩
  ·rw[if_neg e,if_neg (λz=>e (h1.trans z))];exact⟨h1,h2,h3⟩
theorem KT.put {H:Hp}{kvs:List (List aG×V)}{xs:List (List aG×ax×av)}(r:KT H kvs xs)(k:List aG){b:ax}{y:V}{u:av}(hb:H b=some (.tup (k.map kV)))(ry:b7 y u) :
  KT H (eU kvs k y) (storedH xs k b u):=by
 have e:(kvs.any λkv=>decide (kv.1=k))=(atKey xs k).isSome:=by
  rw[S3,(r.val k).isSome_eq,Option.isSome_map]
 unfold eU storedH;rw[e];by_cases q:(atKey xs k).isSome=true
 ·rw[if_pos q,if_pos q];exact r.repl k ry
 ·rw[if_neg q,if_neg q];exact Paired.snoc r ⟨rfl,hb,ry⟩
theorem KT.keeps {H H':Hp}{kvs:List (List aG×V)}{xs:List (List aG×ax×av)}(r:KT H kvs xs)(ht:∀b ys,H b=some (.tup ys)->H' b=some (.tup ys)):KT H' kvs xs:=
 Paired.mapP r λ_ _ z=>⟨z.1,ht _ _ z.2.1,z.2.2⟩
section
variable {P:ay}{w:ba}{H:Hp}{h:Heap}{a:ax}
theorem S5 {u:HO}(ok:cF P w H h)(e:Rd H a u):cV P w H h a u:=e.ok ok
theorem qM {kvs:List (aG×V)}(ok:cF P w H h)(e:Rd H a (.dK kvs)):kvs.length<=sizeLine/\(a==sysModules)=false/\∃vs,KV kvs vs/\h.DictOf (dO P w) a vs:=
 show cV P w H h a (.dK kvs) from S5 ok e
theorem xM {kvs:List (aG×V)}(ok:cF P w H h)(e:H a=some (.dK kvs)):kvs.length<=sizeLine/\(a==sysModules)=false/\∃vs,KV kvs vs/\h.DictOf (dO P w) a vs:=qM ok (.inl e)
theorem tF {ks:List aG}(ok:cF P w H h)(e:H a=some (.tup (ks.map kV))):(tupleKind (dO P w)).is h ks a:=by
 obtain⟨_,its,r,⟨o,h1,h2,n,h3⟩,_⟩:=(show cV P w H h a (.tup (ks.map kV)) from ok a _ e)
 exact⟨o,its.toArray,n,h1,h2,h3,by simpa using S4 r⟩
theorem tG {kvs:List (List aG×V)}(ok:cF P w H h)(e:Rd H a (.dT kvs)):kvs.length<=sizeLine/\(a==sysModules)=false/\
  ∃xs,KT H kvs xs/\h.DictOfH (tupleKind (dO P w)) a xs:=by
 obtain⟨z,y,xs,r,o,es,ep,h1,h2,h3,h4,h5⟩:=(show cV P w H h a (.dT kvs) from S5 ok e)
 refine⟨z,y,xs,r,o,es,ep,h1,h2,h3,h4,λx hx=>?_,h5⟩;have all:∀{l:List (List aG×V)}{m:List (List aG×ax×av)},KT H l m->∀x∈m,(tupleKind (dO P w)).is h x.1 x.2.1:=by
  intro l m q
  induction q with
  |nil=>intro x hx;exact nomatch hx
  |@cons p q ps qs hq t ih=>
   intro x hx;rcases by2.mp hx with e|hx
   ·subst e
    exact tF ok (by rw[<- hq.1];exact hq.2.1)
   ·exact ih x hx
 exact all r x hx
theorem aG4 {kvs:List (List aG×V)}(ok:cF P w H h)(e:H a=some (.dT kvs)):kvs.length<=sizeLine/\(a==sysModules)=false/\
  ∃xs,KT H kvs xs/\h.DictOfH (tupleKind (dO P w)) a xs:=tG ok (.inl e)
end
def j6 (H:Hp)(a:ax)(y:V)(r:Option V):Prop:=
 (∃kvs k,Rd H a (.dK kvs)/\y=kV k/\r=fD kvs k)∨∃kvs k b,Rd H a (.dT kvs)/\y = .ref b/\H b=some (.tup (k.map kV))/\r=fD kvs k
def lJ (H:Hp)(a:ax)(y v:V)(H':Hp):Prop:=
 (∃kvs k,H a=some (.dK kvs)/\y=kV k/\kvs.length<sizeLine/\H'=upd H a (.dK (eU kvs k v))) ∨
 ∃kvs k b,H a=some (.dT kvs)/\y = .ref b/\H b=some (.tup (k.map kV))/\kvs.length<sizeLine/\H'=upd H a (.dT (eU kvs k v))
theorem j6.k {H:Hp}{a:ax}{kvs:List (aG×V)}{k:aG}(e:H a=some (.dK kvs)):j6 H a (kV k) (fD kvs k):=.inl ⟨kvs,k,.inl e,rfl,rfl⟩
theorem j6.t {H:Hp}{a b:ax}{kvs:List (List aG×V)}{k:List aG}(e:H a=some (.dT kvs))(eb:H b=some (.tup (k.map kV))):j6 H a (.ref b) (fD kvs k):=.inr ⟨kvs,k,b,.inl e,rfl,eb,rfl⟩
theorem lJ.k {H:Hp}{a:ax}{kvs:List (aG×V)}{k:aG}{v:V}(e:H a=some (.dK kvs))(hl:kvs.length<sizeLine):lJ H a (kV k) v (upd H a (.dK (eU kvs k v))):=.inl ⟨kvs,k,e,rfl,hl,rfl⟩
theorem lJ.t {H:Hp}{a b:ax}{kvs:List (List aG×V)}{k:List aG}{v:V}(e:H a=some (.dT kvs))(eb:H b=some (.tup (k.map kV)))(hl:kvs.length<sizeLine) :
  lJ H a (.ref b) v (upd H a (.dT (eU kvs k v))):=.inr ⟨kvs,k,b,e,rfl,eb,hl,rfl⟩
section
variable {X:Cx}{ag:List (ax×Obj)}{σ:St}{H:Hp}{s:aw}{a:ax}{y v:V}{u r:av}{o:Option V}{A:az}{E:av→aw→Prop}
theorem aA.big (I:aA X ag σ H s):sysModules<s.heap.objs.size:=by
 have h:mainGlobals<s.heap.objs.size:=(I.mod.glob.keeps I.bk).lt;exact Nat.lt_trans (by decide) h
theorem aG5 {Q:av->aw->Prop}(hu:A.units+1<cLine)(I:aA X ag σ H s)(g:j6 H a y o)(ry:b7 y u)(h:∀s',aA X ag σ H s'->Q (.bool o.isSome) s') :
  wpAny (model X.prog X.w) A (compareOp .In u (.ref a)) Q E s:=by
 rcases g with⟨kvs,k,e,ey,l⟩|⟨kvs,k,b,e,ey,eb,l⟩
 ·subst ey
  obtain⟨z,hd,vs,rel,dd⟩:=qM I.hok e
  refine wpAny_in_of (qL ry) hd dd.mapOf ?_;rw[<- (rel.val k).isSome_eq,<- l];exact h _ (I.tok _)
 ·subst ey
  cases (show u=Value.ref b from ry)
  obtain⟨z,hd,xs,rel,dd⟩:=tG I.hok e
  refine wpAny_in_heap (tupleKind_room_in1 hu) (tF I.hok eb) hd dd ?_;have q:=(rel.val k).isSome_eq;rw[Option.isSome_map]at q;rw[<- q,<- l];exact h _ (I.tok _)
theorem aG6 {Q:av->aw->Prop}(hu:A.units+1<cLine)(I:aA X ag σ H s)(g:j6 H a y o)(ry:b7 y u)(h:∀s',aA X ag σ H s'->Q (.bool (!o.isSome)) s') :
  wpAny (model X.prog X.w) A (compareOp .NotIn u (.ref a)) Q E s:=by
 rcases g with⟨kvs,k,e,ey,l⟩|⟨kvs,k,b,e,ey,eb,l⟩
 ·subst ey
  obtain⟨z,hd,vs,rel,dd⟩:=qM I.hok e
  refine wpAny_notIn_of (qL ry) hd dd.mapOf ?_;rw[<- (rel.val k).isSome_eq,<- l];exact h _ (I.tok _)
 ·subst ey
  cases (show u=Value.ref b from ry)
  obtain⟨z,hd,xs,rel,dd⟩:=tG I.hok e
  refine wpAny_notIn_heap (tupleKind_room_in1 hu) (tF I.hok eb) hd dd ?_;have q:=(rel.val k).isSome_eq;rw[Option.isSome_map]at q;rw[<- q,<- l];exact h _ (I.tok _)
theorem xN {h':Heap}{t':Nat}{ob:HO}(I:aA X ag σ H s)(mu:pS (H a))(hs:Heap.SameBut a s.heap h')(he:∃q,h'.get? a=some q)(new:cV X.prog X.w (upd H a ob) h' a ob) :
  aA X ag σ (upd H a ob) { s with heap:=h',toks:=t' }:=
 I.write (x:=a) (e:=a) mu (.inl rfl) (λb q hb z=>(hs.2 b hb).trans z) he new
theorem S6 {P:ay}{w:ba}{H':Hp}{h':Heap}{kvs:List (aG×V)}{vs:List (aG×av)}(z:kvs.length<=sizeLine)(hd:(a==sysModules)=false)(rel:KV kvs vs)(dd:h'.DictOf (dO P w) a vs) :
  cV P w H' h' a (.dK kvs):=⟨z,hd,vs,rel,dd⟩
theorem aG7 {H':Hp}{Q:Unit->aw->Prop}(hu:A.units+1<cLine)(I:aA X ag σ H s)(g:lJ H a y v H')(ry:b7 y u)(rv:b7 v r)(h:∀s',aA X ag σ H' s'->Q () s') :
  wpAny (model X.prog X.w) A (setItem (.ref a) u r) Q E s:=by
 rcases g with⟨kvs,k,e,ey,l,eH⟩|⟨kvs,k,b,e,ey,eb,l,eH⟩
 ·subst ey eH
  obtain⟨z,hd,vs,rel,dd⟩:=xM I.hok e
  have hz:vs.length<=sizeLine:=by rw[<- rel.length];exact z
  have hl:(eU kvs k v).length<=sizeLine:=by have:=xL kvs k v;omega
  refine wpAny_setItem_pairs (hsz:=hz) (qL ry) dd λh' dd' hs=>h _ ?_
  have he:∃q,h'.get? a=some q:=let ⟨q,_,_,hq,_⟩:=dd';⟨q,hq⟩
  exact xN I (by rw[e];exact True.intro) hs he (S6 hl hd (rel.put k rv) dd')
 ·subst ey eH
  cases (show u=Value.ref b from ry)
  obtain⟨z,hd,xs,rel,dd⟩:=aG4 I.hok e
  have hz:xs.length<=sizeLine:=by rw[<- Paired.length rel];exact z
  have hl:(eU kvs k v).length<=sizeLine:=by have:=xL kvs k v;omega
  refine wpAny_setItem_heap (hsz:=hz) (tupleKind_room_in1 hu) (tF I.hok eb) dd λh' dd' hs=>h _ ?_
  obtain⟨q,es,ep,hq,h2,h3,h4,_,h5⟩:=dd'
  refine xN I (by rw[e];exact True.intro) hs ⟨q,hq⟩ ⟨hl,hd,_,(rel.put k eb rv).keeps λc ys ec=>?_,q,es,ep,hq,h2,h3,h4,h5⟩;rw[aH (aw9 ec e (λz=>nomatch z))];exact ec
end
section
variable {X:Cx}{ag:List (ax×Obj)}{σ:St}{H:Hp}{s:aw}{a:ax}{kvs:List (aG×V)}{k:aG}{u:av}{A:az}{E:av→aw→Prop}
theorem aG8 {Q:av->aw->Prop}(I:aA X ag σ H s)(e:Rd H a (.dK kvs))(h:∀t s',aA X ag σ H s'->Q (.int kvs.length t) s'):wpAny (model X.prog X.w) A (call (.builtin "len") [.ref a]) Q E s:=by
 obtain⟨z,hd,vs,rel,dd⟩:=qM I.hok e
 refine call_len_dict hd dd (by rw[<- rel.length];rw[sizeLine_eq]at z;omega) ?_;rw[<- rel.length];exact h _ _ (I.tok _)
end
def S7 (ty td:TE):TE:=λσ H Q=>ty σ H λy H1=>td σ H1 λx H2=>∃a o,x = .ref a/\j6 H2 a y o/\Q (.bl o.isSome) H2
def S8 (ty td:TE):TE:=λσ H Q=>ty σ H λy H1=>td σ H1 λx H2=>∃a o,x = .ref a/\j6 H2 a y o/\Q (.bl (!o.isSome)) H2
def xO (td ty tv:TE):TS:=λD σ H=>tv σ H λv H1=>td σ H1 λx H2=>ty σ H2 λy H3=>∃a H4,x = .ref a/\lJ H3 a y v H4/\D.nx σ H4
section
variable {X:Cx}{o i e value:Expr}{pos pos' tpos:Pos}{td ty tv:TE}
theorem aG9 (hu:X.A.units+1<cLine)(hi:PE X i ty)(ho:PE X o td):PC X .In i o (S7 ty td):=by
 intro ag s σ H Q I h;refine aP (hi ag s σ H _ I h) λiv s1 ⟨y,H1,I1,ry,q1⟩=>aP (ho ag s1 σ H1 _ I1 q1) λu s2 ⟨x,H2,I2,rx,a,ov,ex,g,q2⟩=>?_
 subst ex;obtain rfl:u=Value.ref a:=rx;exact aG5 hu I2 g ry λs3 I3=>⟨.bl ov.isSome,H2,I3,rfl,q2⟩
theorem S9 (hu:X.A.units+1<cLine)(hi:PE X i ty)(ho:PE X o td):PC X .NotIn i o (S8 ty td):=by
 intro ag s σ H Q I h;refine aP (hi ag s σ H _ I h) λiv s1 ⟨y,H1,I1,ry,q1⟩=>aP (ho ag s1 σ H1 _ I1 q1) λu s2 ⟨x,H2,I2,rx,a,ov,ex,g,q2⟩=>?_
 subst ex;obtain rfl:u=Value.ref a:=rx;exact aG6 hu I2 g ry λs3 I3=>⟨.bl (!ov.isSome),H2,I3,rfl,q2⟩
theorem T0 (hu:X.A.units+1<cLine)(ho:PE X o td)(hi:PE X i ty)(hv:PE X value tv)(hs:swapsWith value (some (.Subscript o i pos')) pos.line X.env=pure false) :
  PS X (.Assign [.Subscript o i pos'] value pos) (xO td ty tv):=by
 intro ag s σ H D I h;refine wpAny_Assign_Subscript (aP (hv ag s σ H _ I h) λr s1 ⟨v,H1,I1,rv,q1⟩=>aP (ho ag s1 σ H1 _ I1 q1) λu s2 ⟨x,H2,I2,rx,q2⟩=>aP (hi ag s2 σ H2 _ I2 q2) λiv s3 ⟨y,H3,I3,ry,a,H4,ex,g,q3⟩=>?_) hs;subst ex;obtain rfl:u=Value.ref a:=rx;exact aG7 hu I3 g ry rv λs4 I4=>⟨σ,H4,I4,q3⟩
end
theorem aH0 {P:ay}{w:ba}{H:Hp}(h:Heap)(hb:sysModules<h.objs.size):cV P w H (h.push { cls:=.type "dict",data:=.dict #[] }) h.objs.size (.dK []):=
 ⟨bB2 _,bG0.mpr (Ne.symm (bA8 hb)),[],.nil,Heap.DictOf.new h⟩
theorem aH1 {P:ay}{w:ba}{H:Hp}(h:Heap)(hb:sysModules<h.objs.size):cV P w H (h.push { cls:=.type "dict",data:=.dict #[] }) h.objs.size (.dT []):=
 ⟨bB2 _,bG0.mpr (Ne.symm (bA8 hb)),[],.nil,_,#[],0,bz0 _ rfl,⟨rfl,rfl,rfl⟩,rfl,rfl,List.nodup_nil⟩
def T1:TE:=λ_ H Q=>∀p,H p=none->Q (.ref p) (upd H p (.dK []))
def T2:TE:=λ_ H Q=>∀p,H p=none->Q (.ref p) (upd H p (.dT []))
section
variable {X:Cx}{pos:Pos}
theorem aH2:PE X (.Dict [] [] pos) T1:=λag s σ H Q I h=>
 wpAny_Dict_empty ⟨.ref s.heap.objs.size,_,I.laid (a:=s.heap.objs.size) (o:=.dK []) (t':=s.toks) (λ_ _ q=>bx5 _ q) (bx9 _) (aH0 s.heap I.big),rfl,h _ (I.hok.fresh (bx9 _))⟩
theorem aH3:PE X (.Dict [] [] pos) T2:=λag s σ H Q I h=>
 wpAny_Dict_empty ⟨.ref s.heap.objs.size,_,I.laid (a:=s.heap.objs.size) (o:=.dT []) (t':=s.toks) (λ_ _ q=>bx5 _ q) (bx9 _) (aH1 s.heap I.big),rfl,h _ (I.hok.fresh (bx9 _))⟩
end
def mP (kvs more:List (aG×V)):List (aG×V):=more.foldl (λacc kv=>eU acc kv.1 kv.2) kvs
theorem KV.merge:∀{more:List (aG×V)}{rs:List (aG×av)}{kvs:List (aG×V)}{vs:List (aG×av)},KV more rs->KV kvs vs->KV (mP kvs more) (merged vs rs):=by
 intro more rs kvs vs r;unfold KV at r
 induction r generalizing kvs vs with
 |nil=>intro q;exact q
 |@cons p q ps qs h t ih=>
  intro r0;have e:KV (eU kvs p.1 p.2) (stored vs q.1 q.2):=by
   have:=r0.put p.1 h.2
   rw[<- h.1];exact this
  exact ih e
theorem T3:∀(more kvs:List (aG×V)),(mP kvs more).length<=kvs.length+more.length
 |[],kvs=>by show kvs.length<=kvs.length+0;omega
 |p::r,kvs=>by
  have h1:=T3 r (eU kvs p.1 p.2);have h2:=xL kvs p.1 p.2;show (mP (eU kvs p.1 p.2) r).length<=_;rw[bA3];omega
structure M1 (X:Cx)(o:Expr)(m:Str)(ah:Pos)(e:Expr)(ai:Pos):Prop where
 base:attributeBase o m X.env (eval o X.env)=eval o X.env
 few:((backTo ai (starEach [e] X.env)).all (λx=>!x.1)&&(backToKw ai (keywordEach [] X.env)).all (λx=>x.1.isSome)
 &&decide (([e]:List Expr).length+([]:List Keyword).length+(if ([]:List Keyword).isEmpty then 0 else 1)<30))=true
 line:(ah.endLine==ai.line)=true
 trees:backTo ai (starEach [e] X.env) = [(false,eval e X.env)]
structure M2 (X:Cx)(o:Expr)(m:Str)(ah:Pos)(e f:Expr)(ai:Pos):Prop where
 base:attributeBase o m X.env (eval o X.env)=eval o X.env
 few:((backTo ai (starEach [e,f] X.env)).all (λx=>!x.1)&&(backToKw ai (keywordEach [] X.env)).all (λx=>x.1.isSome)
 &&decide (([e,f]:List Expr).length+([]:List Keyword).length+(if ([]:List Keyword).isEmpty then 0 else 1)<30))=true
 line:(ah.endLine==ai.line)=true
 trees:backTo ai (starEach [e,f] X.env) = [(false,eval e X.env),(false,eval f X.env)]
def T4 (H:Hp)(a:ax):Prop:=(∃kvs,Rd H a (.dK kvs))∨∃kvs,Rd H a (.dT kvs)
theorem aH4 {X:Cx}{ag:List (ax×Obj)}{σ:St}{H:Hp}{s:aw}{a:ax}(I:aA X ag σ H s)(d:T4 H a) :
  s.TypeIs (.ref a) "dict"/\(∀b,Value.ref a = .ref b->∃ob,s.heap.get? b=some ob/\ob.dict=none)/\(a==sysModules)=false:=by
 rcases d with⟨kvs,e⟩|⟨kvs,e⟩
 ·obtain⟨_,hd,vs,_,dd⟩:=qM I.hok e
  refine⟨dd.typeIs,λb q=>?_,hd⟩;cases q
  obtain⟨ob,_,_,h1,h2,_⟩:=dd
  exact⟨ob,h1,h2.2.1⟩
 ·obtain⟨_,hd,xs,_,dd⟩:=tG I.hok e
  refine⟨dd.typeIs,λb q=>?_,hd⟩;cases q
  obtain⟨ob,_,_,h1,h2,_⟩:=dd
  exact⟨ob,h1,h2.2.1⟩
end L2
namespace Att
open PySem PySem.W PySem.Calls PyProof.Rows
theorem aH5 {P:Params}{h:Heap}:∀(ns:af) (vs:List av),WellAll P h vs (ns.map WData.int)->IntsAre vs ns:=by
 intro ns
 induction ns with
 |nil=>
  intro vs w;rw[List.map_nil]at w;cases w;exact .nil
 |cons n ns ih=>
  intro vs w;rw[bC1]at w;cases w with
  |cons a b=>
   cases a;exact .cons _ _ (ih _ b)
theorem T5 {l:OpenLaw}{n:Nat}(hn:l.most=some n){P:Params}{h:Heap}{args:List WData}{vals:List av}(hpre:l.row.toRowW.claim.pre args=true)(hwl:WellAll P h vals args) :
  ∃a vs ns,vals = [Value.ref a]/\args = [WData.list (ns.map WData.int)]/\h.get? a=some { cls:=.type "list",data:=.seq vs.toArray }/\IntsAre vs ns/\ns.length<=n:=by
 have hsh:WShape.hasAll [] args [.list .int]=true:=(pre_splitW hpre).1;have hc:l.pre.holds [] { args:=args }=true:=(pre_splitW hpre).2
 obtain⟨d,r,rfl,h1,h2⟩:=hasAllW_cons hsh
 obtain rfl:=hasAllW_nil h2
 obtain⟨xs,rfl,h3⟩:=hasW_list h1
 obtain⟨ns,rfl⟩:=items_int h3
 have aj:ns.length<=n:=by
  unfold OpenLaw.pre at hc;have h4:(WTm.not (.lt (.lit (.int (n:Int))) (.len (.arg 0)))).holds [] { args:=[.list (ns.map .int)] }=true:=by
   have h4:=(holds_andW hc).1;rw[hn]at h4;exact h4
  have h5:=condW_of h4 (w_not (w_lt w_lit (w_len_list (w_arg rfl))));rw[bx7]at h5;refine Nat.le_of_not_lt λq=>?_
  have q':(n:Int)<((ns.length:Nat):Int):=by omega
  first
   |(rw[by9 q']at h5;exact absurd h5 (by decide))
   |(simp at h5;omega)
 cases hwl with
 |cons w1 w2=>
  cases w2;cases w1 with
  |list ho hall=>exact⟨_,_,ns,rfl,rfl,ho,aH5 ns _ hall,aj⟩
theorem T6 (l:OpenLaw)(args:List WData):l.row.toRowW.claim.post args (.bool true) args=true:=
 postW_of (r:=l.row.toRowW) (X:=(true==true))
  (show WShape.has [] (.bool true) .bool=true by first|rfl|decide|simp[WShape.has,WShape.arms,WShape.armsAll])
  (show (WTm.eq .res (.lit (.bool true))).value [] { args:=args,res:=some (.bool true),after:=args }=some (.bool (true==true)) from w_eq_bool (w_res rfl) w_lit) rfl
theorem bx2 {l:OpenLaw}{n:Nat}{q:ay}{loose:List Str}{XP:(Str->Option av)->Heap->Prop}{YP:ba->Heap->Prop}{d:DefRec}{x:Str}(hn:l.most=some n)(hdf:d.params.defaults = [])(hbind:∀pm cd doc v:av,bindArgs (docDef d.name d.params d.body d.scope pm cd doc) ⟨[v],[]⟩=pure [(x,v)])(hx:d.scope.names.lookup x=some .local∨d.scope.names.lookup x=some .cell)(hk:d.scope.kind = .function)(hco:d.scope.isCoroutine=false)(hgen:d.scope.isGenerator=false)(body:∀(w:ba) (s₀ s₁ s:aw) (mg mb:Str->Option av) (fa:ax) (o:Obj) (pm cd doc:av) (a:ax) (vs:List av) (ns:af),
   Ground q loose [] XP w s₀ mg mb s₁.heap->YP w s₁.heap->
   s₁.heap.get? fa=some o->o.data = .func (docDef d.name d.params d.body d.scope pm cd doc)->s₁.heap.CodeRec cd d.name->mg d.name=some (.ref fa)->
   s₁.heap.get? a=some { cls:=.type "list",data:=.seq vs.toArray }->IntsAre vs ns->ns.length<=n->
   s.gens = #[]->s.os=s₁.os->
   Fr s₁.heap s₁.heap.objs.size s.heap (bindL (envOfC d.name d.scope s₁.heap.objs.size fa cd).kindOf [(x,.ref a)] λ_=>none)->
   Cl s₁.heap.objs.size (cellsFrom (s₁.heap.objs.size+1) d.scope.names []) s.heap (bindC (envOfC d.name d.scope s₁.heap.objs.size fa cd).kindOf [(x,.ref a)] λ_=>none)->
   wpAny (model l.prog w) (callerA.deeper (envOfC d.name d.scope s₁.heap.objs.size fa cd)) (execs d.body (envOfC d.name d.scope s₁.heap.objs.size fa cd))
    (λf s'=>f = .ret (.bool true)/\OldK s₁.heap s'.heap/\s'.os=s₁.os/\AllBare s'.gens) (λ_ _=>False) s) :
  WalkO q loose XP YP l.row.toRowW d [] (λf vs=>PySem.call f vs):=by
 intro w s₀ s₁ mg mb G Y fa o pm cd doc dV kV ho hd hcd hD hmg hg args vals as hpre hlay hrd hwl hlo;obtain rfl:dV = .none:=Dflts.none hD hdf;obtain rfl:kV = .none:=Dflts.noKw hD
 obtain⟨a,vs,ns,rfl,rfl,hobj,hints,aj⟩:=T5 hn hpre hwl
 refine enter_call ?_;refine call_cells_ret (o:=o) (by rw[depth_caller];decide) ho (fd_plain hd) G.T.nolimit hcd (hbind pm cd doc (.ref a)) (λy hy=>?_) (λh₁ tk F X=>?_) hco hgen hk
 ·obtain rfl:y=(x,Value.ref a):=by0.mp hy
  rcases hx with e|e
  ·exact .inl e
  ·exact .inr ⟨e,cellsFrom_some _ _ _ (.inl e)⟩
 ·refine bG1 (body w s₀ s₁ { s₁ with heap:=h₁,toks:=tk } mg mb fa o pm cd doc a vs ns G Y ho (fd_plain hd) hcd hmg hobj hints aj hg rfl F X) (λf s' hq=>?_) (λ_ _ hq=>hq)
  obtain⟨rfl,h2,h3,h4⟩:=hq
  exact⟨.inl ⟨.bool true,.bool true,[],rfl,λ_=>rfl,.bool true,T6 l _,λ_=>⟨List.Pairwise.nil,λ_ hm=>(nomatch hm)⟩⟩,h2,h3,h4⟩
theorem aH6 {l:OpenLaw}{n:Nat}{q:ay}{loose:List Str}{XP:(Str->Option av)->Heap->Prop}{YP:ba->Heap->Prop}{d:DefRec}(hn:l.most=some n)(hdf:d.params.defaults = [])(call:∀(w:ba) (s₀ s₁:aw) (mg mb:Str->Option av) (fa:ax) (o:Obj) (pm cd doc:av) (a:ax) (vs:List av) (ns:af),
   Ground q loose [] XP w s₀ mg mb s₁.heap->YP w s₁.heap->
   s₁.heap.get? fa=some o->o.data = .func (docDef d.name d.params d.body d.scope pm cd doc)->s₁.heap.CodeRec cd d.name->mg d.name=some (.ref fa)->
   s₁.heap.get? a=some { cls:=.type "list",data:=.seq vs.toArray }->IntsAre vs ns->ns.length<=n->s₁.gens = #[]->
   codeAny (model l.prog w) callerA (.call (.ref fa) ⟨[.ref a],[]⟩) (λr s'=>r = .ok (.ret (.bool true))/\OldK s₁.heap s'.heap/\s'.os=s₁.os/\AllBare s'.gens) s₁) :
  WalkO q loose XP YP l.row.toRowW d [] (λf vs=>PySem.call f vs):=by
 intro w s₀ s₁ mg mb G Y fa o pm cd doc dV kV ho hd hcd hD hmg hg args vals as hpre hlay hrd hwl hlo;obtain rfl:dV = .none:=Dflts.none hD hdf;obtain rfl:kV = .none:=Dflts.noKw hD
 obtain⟨a,vs,ns,rfl,rfl,hobj,hints,aj⟩:=T5 hn hpre hwl
 refine enter_call (codeAny_mono (call w s₀ s₁ mg mb fa o pm cd doc a vs ns G Y ho (fd_plain hd) hcd hmg hobj hints aj hg) λr s' hq=>?_)
 obtain⟨rfl,h2,h3,h4⟩:=hq
 exact⟨.inl ⟨.bool true,.bool true,[],rfl,λ_=>rfl,.bool true,T6 l _,λ_=>⟨List.Pairwise.nil,λ_ hm=>(nomatch hm)⟩⟩,h2,h3,h4⟩
end Att
namespace L2
open PySem PySem.Spec PyProof.Rows
theorem qN:∀{vs:List av}{ns:af},IntsAre vs ns->aX (ns.map V.int) vs
 |_,_,.nil=>.nil
 |_,_,.cons n t h=>.cons ⟨t,rfl⟩ (qN h)
def tH (H:Hp):Prop:=∀b,H b=none∨∃o xs,H b=some (.frz o (.lst xs))
theorem aH7 {P:ay}{w:ba}{K:ac}{mg mb:Str->Option av}{CX:iI}{k:Nat}{fa a:ax}{fd:FuncData}{x:Str}{sp:Sp}{s₁:aw}{vs:List av}{ns:af}(KX:K.In s₁.heap)(hns:s₁.heap.Ns mainGlobals mg)(hb:s₁.heap.Ns builtinsNs mb)(hbb:∀x:Str,x≠"__name__"->mb x=bootBuiltins x)(hlim:s₁.heap.NoLimit)(hg:s₁.gens = #[])(ha:s₁.heap.get? a=some { cls:=.type "list",data:=.seq vs.toArray })(hi:IntsAre vs ns)(hl:ns.length<=sizeLine)(hr:bL k callerA)(F:∀base:Heap,K.In base->base.Ns mainGlobals mg->bZ P w K mg base CX k fa fd [x] sp)(hbind:∀(s:aw) (u:av),BindsTo s fd ⟨[u],[]⟩ [(x,u)])(hsp:∀H:Hp,tH H->aR K H a (ns.map V.int)->sp [.ref a] H (λv _=>v = .bl true) λ_ _ _=>False)(hCX:∀H e s',CX [] H s₁ (λ_ _ _=>False) e s'->False) :
  codeAny (model P w) callerA (.call (.ref fa) ⟨[.ref a],[]⟩) (λr s'=>r = .ok (.ret (.bool true))/\OldK s₁.heap s'.heap/\s'.os=s₁.os/\AllBare s'.gens) s₁:=by
 have rv:=qN hi;have lenV:=hi.length;have core:∀H:Hp,tH H->aR K H a (ns.map V.int)->cF P w H s₁.heap->(∀b,H b≠none->b=a)->(H a≠none->K.lookup a=none)->
   codeAny (model P w) callerA (.call (.ref fa) ⟨[.ref a],[]⟩) (λr s'=>r = .ok (.ret (.bool true))/\OldK s₁.heap s'.heap/\s'.os=s₁.os/\AllBare s'.gens) s₁:=by
  intro H hO hS hok hA hK;have base_of:∀{b:ax}{o:Obj},s₁.heap.get? b=some o->H b=none->(kB s₁.heap H).get? b=some o:=λe n=>ax1 e n
  have noA:∀{b:ax}{o:Obj}{es:Array DictEntry}{ep:Nat},s₁.heap.get? b=some o->o.data = .dict es ep->H b=none:=λ{b o es ep} e d=>by
   cases q:H b with
   |none=>rfl
   |some u=>
    have e':b=a:=hA b (by rw[q];simp);subst e';rw[ha]at e;cases e;have d':Data.seq vs.toArray _=Data.dict es ep:=d;cases d'
  have nsK:∀{b:ax}{m:Str->Option av},s₁.heap.Ns b m->(kB s₁.heap H).Ns b m:=λ{b m} ⟨o,es,ep,e,d,r⟩=>⟨o,es,ep,base_of e (noA e d),d,r⟩
  have hKb:K.In (kB s₁.heap H):=λb o e=>base_of (KX b o e) (by
   cases q:H b with
   |none=>rfl
   |some u=>
    have e':b=a:=hA b (by rw[q];simp);subst e'
    rw[hK (by rw[q];simp)]at e;cases e)
  have hM:Mod K mg (kB s₁.heap H):=⟨hKb,nsK hns,⟨mb,nsK hb,hbb⟩,let ⟨mc,h1,h2⟩:=hlim;⟨mc,nsK h1,h2⟩⟩;have e0:mO P w K mg (kB s₁.heap H) callerA [] s₁ H:=⟨rfl,hM,λb o e=>ax2 e,Nat.le_of_eq (ax0 _ _),trivial,λb hb=>absurd (show b∈([]:List ax) from hb) (by simp),hok,.of_eq hg⟩;refine codeAny_mono ((F _ hKb (nsK hns)).run callerA [] s₁ H ⟨[.ref a],[]⟩ [.ref a] [.ref a] _ _ hr e0 (hbind s₁ (.ref a)) (.cons rfl .nil) (hsp H hO hS)) λr s' h=>?_
  cases r with
  |error e=>exact (hCX H e s' h).elim
  |ok fl=>
   cases fl with
   |next=>exact False.elim h
   |brk=>exact False.elim h
   |cont=>exact False.elim h
   |ret u=>
    obtain⟨v,H',os,bare,un,hok',r',q⟩:=h
    have q':v = .bl true:=q;subst q';obtain rfl:u=Value.bool true:=r';refine⟨rfl,OldK.of_keep λb o e=>?_,os,bare⟩;cases q:H b with
    |none=>exact un.keep b o e q (by intro z;exact absurd (show b∈([]:List ax) from z) (by simp)) (by simp)
    |some u=>
     rcases hO b with z|⟨ob,xs,z⟩
     ·rw[q]at z;cases z
     ·have z2:=un.frzs b ob _ z
      obtain⟨e1,_⟩:=hok b _ z
      obtain⟨e2,_⟩:=hok' b _ z2
      rw[e]at e1;cases e1;exact e2
 cases hk:K.lookup a with
 |some o=>
  have e:=KX a o hk;rw[ha]at e;cases e;refine core (λ_=>none) (λ_=>.inl rfl) (.inr ⟨_,vs.toArray,_,hk,rfl,rfl,rfl,by rw[bx6,lenV];exact hl,by simpa using rv⟩) (λb u z=>by have z':(none:Option HO)=some u:=z;cases z') (λb z=>absurd rfl z) λz=>absurd rfl z
 |none=>
  refine core (λb=>if b=a then some (.frz { cls:=.type "list",data:=.seq vs.toArray } (.lst (ns.map V.int))) else none) (λb=>?_) (.inl (.inr ⟨{ cls:=.type "list",data:=.seq vs.toArray },if_pos rfl⟩)) (λb u z=>?_) (λb z=>?_) λ_=>hk
  ·by_cases hb:b=a
   ·exact .inr ⟨_,_,if_pos hb⟩
   ·exact .inl (if_neg hb)
  ·by_cases hb:b=a
   ·have z':=(if_pos hb).symm.trans z
    cases z';subst hb
    exact⟨ha,by rw[bx7];exact hl,vs,_,rv,ha⟩
   ·have z':=(if_neg hb).symm.trans z
    cases z'
  ·by_cases hb:b=a
   ·exact hb
   ·exact absurd (if_neg hb) z
theorem aH8 {l:PySem.W.OpenLaw}{n k:Nat}{q:ay}{loose:List Str}{XP:(Str->Option av)->Heap->Prop}{YP:ba->Heap->Prop}{d:DefRec}{K:Params->ac}{CX:ba->iI}{sp:ba->Sp}{x:Str}(hn:l.most=some n)(hn2:n<=sizeLine)(hdf:d.params.defaults = [])(hr:bL k callerA)(hY:∀(w:ba) (h:Heap),YP w h->(K w.params).In h)(F:∀(w:ba) (mg:Str->Option av) (fa:ax) (h:Heap),(K w.params).In h->h.Ns mainGlobals mg->mg d.name=some (.ref fa)->
   ∃fd:FuncData,(∀(s:aw) (u:av),BindsTo s fd ⟨[u],[]⟩ [(x,u)])/\
    ∀base:Heap,(K w.params).In base->base.Ns mainGlobals mg->bZ l.prog w (K w.params) mg base (CX w) k fa fd [x] (sp w))(hsp:∀(w:ba) (H:Hp) (a:ax) (ns:af),ns.length<=n->tH H->aR (K w.params) H a (ns.map V.int)->sp w [.ref a] H (λv _=>v = .bl true) λ_ _ _=>False)(hCX:∀(w:ba) (H:Hp) (s:aw) (e:av) (s':aw),CX w [] H s (λ_ _ _=>False) e s'->False) :
  PySem.W.WalkO q loose XP YP l.row.toRowW d [] (λf vs=>PySem.call f vs):=by
 refine Att.aH6 hn hdf λw s₀ s₁ mg mb fa o pm cd doc a vs ns G Y ho hd hcd hmg hobj hints aj hg=>?_
 have KX:=hY w _ Y
 obtain⟨fd,hb,hF⟩:=F w mg fa _ KX G.T.g hmg
 exact aH7 KX G.T.g G.T.b G.T.builtins G.T.nolimit hg hobj hints (bA9 aj hn2) hr hF hb (λH hO hS=>hsp w H a ns aj hO hS) λH e s'=>hCX w H s₁ e s'
def eV (s:Stmt):Arguments:=match s with
 |.FunctionDef _ a _ _ _ _ _ _ _ _=>a
 |_=>{ posonlyargs:=[],args:=[],vararg:=none,kwonlyargs:=[],kw_defaults:=[],kwarg:=none,defaults:=[] }
def cY (s:Stmt):List Stmt:=match s with
 |.FunctionDef _ _ b _ _ _ _ _ _ _=>b
 |_=>[]
def aT (s:Stmt):Scope:=match s with
 |.FunctionDef _ _ _ _ _ _ sc _ _ _=>sc
 |_=>{ kind:=.function,names:=[],isGenerator:=false,isCoroutine:=false }
abbrev fE:iI:=λ_ _ _ _ _ _=>False
abbrev E0:XK:=λ_ _ _=>False
theorem aH9 {X:Cx}:iJ fE X E0:=λ_ _ _ _ _ _ _ h=>h.elim
structure d8 (K:ac)(x qual:Str)(st:Stmt)(f:ax)(fd:FuncData):Prop where
 ex:∃(oc:av) (od:Option ax) (kV doc pm:av) (an:Option ax) (cdv ct:av) (osl:Array (Option av)),
  fd=PySem.W.fnOf x qual (eV st) (cY st) (aT st) .none kV doc pm an cdv ct/\K.lookup f=some ⟨oc,od,.func fd,osl⟩/\PySem.W.codeIn K cdv qual=true
 kp:PySem.W.keepIn K (.ref f)=true
section
variable {P:ay}{w:ba}{K:ac}{mg:Str→Option av}{base:Heap}
theorem d8.ok {x qual:Str}{st:Stmt}{f:ax}{fd:FuncData}{N ps:List Str}{k:Nat}{sp:Sp}(F:d8 K x qual st f fd)(S:FnScope N ps (aT st))(len:∀vs H Q E,sp vs H Q E->vs.length=ps.length)(hbody:∀(cdv:av) (A:az) (outer:List Env) (s:aw) (H:Hp) (vs:List V) (Q:VK) (E:XK),bL k (A.deeper (envOfC qual (aT st) s.heap.objs.size f cdv))->sp vs H Q E->
   ∃t,dW (cW fE P w K mg base N qual (aT st) f cdv A outer s H E).nox (cY st) t/\t { nx:=λ_ H'=>Q .non H',rt:=Q } (g9 N vs) H):bZ P w K mg base fE (k+1) f fd ps sp:=by
 obtain⟨oc,od,kV,doc,pm,an,cdv,ct,osl,rfl,lk,hcd⟩:=F.ex
 refine P9 lk hcd S len λA outer s H vs Q E hr hsp=>?_
 obtain⟨t,h,q⟩:=hbody cdv A outer s H vs Q E hr hsp
 exact⟨t,h.nox,q⟩
theorem d8.binds {x qual:Str}{st:Stmt}{f:ax}{fd:FuncData}{ps:List Str}(F:d8 K x qual st f fd)(h:∀(kV doc pm:av) (an:Option ax) (cdv ct:av) (us:List av),us.length=ps.length->bindArgs (PySem.W.fnOf x qual (eV st) (cY st) (aT st) .none kV doc pm an cdv ct) ⟨us,[]⟩=pure (ps.zip us)):dQ K fd ps []:=by
 obtain⟨oc,od,kV,doc,pm,an,cdv,ct,osl,rfl,lk,hcd⟩:=F.ex
 exact .all (h kV doc pm an cdv ct)
theorem jP {x qual:Str}{st:Stmt}{f:ax}{oc:av}{od an:Option ax}{osl:Array (Option av)}{kV doc pm cdv ct:av}(l:K.lookup f=some ⟨oc,od,.func (PySem.W.fnOf x qual (eV st) (cY st) (aT st) .none kV doc pm an cdv ct),osl⟩)(c:PySem.W.codeIn K cdv qual=true)(k:PySem.W.keepIn K (.ref f)=true):d8 K x qual st f (PySem.W.fnOf x qual (eV st) (cY st) (aT st) .none kV doc pm an cdv ct):=⟨⟨oc,od,kV,doc,pm,an,cdv,ct,osl,rfl,l,c⟩,k⟩
end
theorem mQ {A:az}{k:Nat}(hr:bL k A):A.units+1<cLine:=Nat.lt_of_le_of_lt (Nat.add_le_add_left (by decide:1<=64) _) hr.units
theorem qO {n:Nat}(h:n<=1000):n<sizeLine:=Nat.lt_of_le_of_lt h (by decide)
section
variable {X:Cx}
theorem pv (i:Nat){x:Str}{pos:Pos}(hN:X.N[i]? = some x:=by rfl)(hv:cK X.env.scope x:=by first|exact Or.inl rfl|exact Or.inr (Or.inl rfl)|exact Or.inr (Or.inr rfl))(hd:(x==("__debug__":Str))=false:=by decide)(hcd:(x==("__classdict__":Str))=false:=by decide):PE X (.Name x pos) (eQ i):=dI hN hv hd hcd
theorem aI0:d7 X (.builtin "len") (λxs H Q=>∃a kvs,xs = [V.ref a]/\H a=some (.dK kvs)/\Q (.int kvs.length) H):=by
 intro ag s σ H xs us Q I r h
 obtain⟨a,kvs,rfl,ha,q⟩:=h
 obtain⟨u,rfl,ru⟩:=hV r
 cases ru;exact aG8 I (.inl ha) λt s' I'=>⟨.int kvs.length,H,I',⟨t,rfl⟩,q⟩
end
theorem aN {A B:Prop}(h:B):if false=true then A else B:=by
 rw[if_neg bz7];exact h
theorem aU {A B:Prop}(h:A):if true=true then A else B:=by
 rw[if_pos rfl];exact h
def aE (H H':Hp):Prop:=∀b o,H b=some o->H' b=some o
theorem aE.refl (H:Hp):aE H H:=λ_ _ h=>h
theorem aE.trans {H H1 H2:Hp}(a:aE H H1)(b:aE H1 H2):aE H H2:=λc o h=>b c o (a c o h)
theorem aE.free {H H':Hp}(e:aE H H'){l:ax}(h:H' l=Option.none):H l=Option.none:=by
 cases q:H l with
 |none=>rfl
 |some o=>
  rw[e l o q]at h;cases h
theorem aE.seq {K:ac}{H H':Hp}{a:ax}{xs:List V}(e:aE H H')(h:aR K H a xs):aR K H' a xs:=by
 rcases h with (h|⟨o,h⟩)|h
 ·exact .inl (.inl (e _ _ h))
 ·exact .inl (.inr ⟨o,e _ _ h⟩)
 ·exact .inr h
def fN (cells:List (Str×ax)):List (Str×NameKind)->List (Str×ax)->List (Str×ax)
 |[],cs=>cs
 |(n,k)::r,cs=>fN cells r (if k==.free then (n,(cells.lookup n).getD 0)::cs else cs)
theorem xP {env:Env}:∀(ns:List (Str×NameKind)) (cs:List (Str×ax)),(∀x∈ns,x.2 = .free->∃c,env.cells.lookup x.1=some c)->
  (forIn ns cs (λ(x:Str×NameKind) r=>(match x with
   |(name,kind)=>if (kind==.free)=true then (do let y <- cellOf env name;pure (ForInStep.yield ((name,y)::r))) else pure (ForInStep.yield r)):_->_->Sem _))=(pure (fN env.cells ns cs):Sem (List (Str×ax)))
 |[],cs,_=>by rw[List.forIn_nil];rfl
 |(n,k)::r,cs,h=>by
  rw[List.forIn_cons];have hr:∀x∈r,x.2 = .free->∃c,env.cells.lookup x.1=some c:=λx hx=>h x (bz9 _ hx)
  cases hk:(k==NameKind.free) with
  |true=>
   have e:k = .free:=by simpa using hk
   obtain⟨c,hc⟩:=h (n,k) bz8 e
   simp only[hk,if_true];have e1:cellOf env n=pure c:=by unfold cellOf;rw[hc]
   rw[e1];show ((pure c >>= λy=>pure (ForInStep.yield ((n,y)::cs))) >>= _:Sem _)=_;rw[pure_bind,pure_bind]
   have:=xP (env:=env) r ((n,c)::cs) hr
   refine this.trans ?_;unfold fN;simp only[hk,if_true,hc,Option.getD_some];cases r<;>rfl
  |false=>
   simp only[hk,bA6,bF8];rw[pure_bind]
   have:=xP (env:=env) r cs hr
   refine this.trans ?_
   conv=>rhs;unfold fN
   simp only[hk,bA6,bF8]
theorem xQ {scope:Scope}{env:Env}(h:∀x∈scope.names,x.2 = .free->∃c,env.cells.lookup x.1=some c):closureFor scope env=pure (fN env.cells scope.names []):=by
 have e:=xP (env:=env) scope.names [] h;unfold closureFor;rw[show (pure (fN env.cells scope.names []):Sem (List (Str×ax)))=(pure (fN env.cells scope.names []) >>= pure) by rw[pure_bind]];rw[<- e]
theorem tI {cells:List (Str×ax)}:∀(ns:List (Str×NameKind)) (cs:List (Str×ax)) {x:Str}{c:ax},(∀y∈ns,y.2 = .free->∃c,cells.lookup y.1=some c)->
  (∀x c,cs.lookup x=some c->cells.lookup x=some c)->(fN cells ns cs).lookup x=some c->cells.lookup x=some c
 |[],cs,x,c,_,hc,h=>hc x c h
 |(n,k)::r,cs,x,c,hn,hc,h=>by
  unfold fN at h;have hr:∀y∈r,y.2 = .free->∃c,cells.lookup y.1=some c:=λy hy=>hn y (bz9 _ hy)
  cases hk:(k==NameKind.free) with
  |false=>
   simp only[hk,bA6,bF8]at h;exact tI r cs hr hc h
  |true=>
   simp only[hk,if_true]at h;refine tI r _ hr (λy d e=>?_) h
   obtain⟨c0,h0⟩:=hn (n,k) bz8 (by simpa using hk)
   have h0:cells.lookup n=some c0:=h0;rw[h0]at e;rw[bD3]at e;by_cases hyn:y=n
   ·subst hyn
    simp only[bE1,Option.getD_some]at e;rw[h0];exact e
   ·have:(y==n)=false:=bG0.mpr hyn
    simp only[this]at e;exact hc y d e
theorem xR {cells:List (Str×ax)}:∀(ns:List (Str×NameKind)) (cs:List (Str×ax)) {x:Str},((x,NameKind.free)∈ns∨∃c,cs.lookup x=some c)->∃c,(fN cells ns cs).lookup x=some c
 |[],cs,x,h=>by
  rcases h with h|h
  ·simp at h
  ·exact h
 |(n,k)::r,cs,x,h=>by
  unfold fN;refine xR r _ ?_;rcases h with h|⟨c,h⟩
  ·rcases by2.mp h with e|e
   ·cases e
    exact .inr ⟨_,by simp[bD3];rfl⟩
   ·exact .inl e
  ·right
   cases hk:(k==NameKind.free) with
   |false=>exact⟨c,by simpa[hk] using h⟩
   |true=>
    simp only[if_true];rw[bD3];by_cases hxn:(x==n)=true
    ·simp only[hxn];exact⟨_,rfl⟩
    ·simp only[Bool.eq_false_iff.mpr hxn];exact⟨c,h⟩
theorem tJ {env:Env}:∀{names:List (Str×NameKind)}{x:Str}{k:NameKind},(names.map λ(n,k)=>if (k==NameKind.free&&env.scope.kind==.function&&env.kindOf n==some .cell) then (n,NameKind.cell) else (n,k)).lookup x=some k->
  names.lookup x=some k∨(names.lookup x=some .free/\k = .cell)
 |[],_,_,h=>by simp at h
 |(n,q)::r,x,k,h=>by
  have ih:=@tJ env r x k;rw[bC1]at h;by_cases hx:(x==n)=true
  ·have e:x=n:=by simpa using hx
   subst e;by_cases hc:(q==NameKind.free&&env.scope.kind==.function&&env.kindOf x==some .cell)=true
   ·simp only[hc,if_true,bD3,bE1]at h
    have hq:q = .free:=by simp at hc;exact hc.1.1
    exact .inr ⟨by simp[bD3,hq],(bz3 h).symm⟩
   ·simp only[hc,bA6,bF8,bD3,bE1]at h
    exact .inl (by simp[bD3];exact bz3 h)
  ·have hx':(x==n)=false:=Bool.eq_false_iff.mpr hx
   have h':(r.map λ(n,k)=>if (k==NameKind.free&&env.scope.kind==.function&&env.kindOf n==some .cell) then (n,NameKind.cell) else (n,k)).lookup x=some k:=by
    by_cases hc:(q==NameKind.free&&env.scope.kind==.function&&env.kindOf n==some .cell)=true
    ·simp only[hc,if_true,bD3,hx']at h;exact h
    ·simp only[hc,bA6,bF8,bD3,hx']at h;exact h
   simp only[bD3,hx'];exact ih h'
def gS (fr:List (Option Nat))(σ:St):St:=fr.map λo=>o.bind λj=>(σ[j]?).join
def Wk (σ₁ σ₂:St):Prop:=σ₁.length=σ₂.length/\∀(i:Nat) v,σ₁[i]? = some (some v)->σ₂[i]? = some (some v)
theorem Wk.refl (σ:St):Wk σ σ:=⟨rfl,λ_ _ h=>h⟩
theorem Wk.set {σ τ:St}{i:Nat}{v:V}(h:Wk σ τ)(hi:σ[i]? = some none):Wk σ (τ.set i (some v)):=by
 refine⟨by rw[bE2];exact h.1,λj w e=>?_⟩;by_cases hj:j=i
 ·subst hj;rw[hi]at e;cases e
 ·rw[bA1 (Ne.symm hj)];exact h.2 j w e
theorem kI:∀(ns:List (Str×NameKind)) (n:Nat) (cs:List (Str×ax)),cellsFrom n ns cs=cellsFrom n ns []++cs
 |[],_,_=>rfl
 |(x,k)::r,n,cs=>by
  unfold cellsFrom;split
  ·rw[kI r (n+1) ((x,n)::cs),kI r (n+1) [(x,n)]];simp
  ·exact kI r n cs
theorem xS:∀(ns:List (Str×NameKind)) (n:Nat) {x:Str}{c:ax},(x,c)∈cellsFrom n ns []->(x,NameKind.cell)∈ns
 |[],_,_,_,h=>by simp[cellsFrom]at h
 |(y,k)::r,n,x,c,h=>by
  unfold cellsFrom at h;split at h
  ·rename_i hk
   rw[kI]at h;rcases bB3.mp h with z|z
   ·exact bz9 _ (xS r _ z)
   ·rw[by0]at z
    cases z
    have:k = .cell:=by simpa using hk
    rw[this];exact bz8
  ·exact bz9 _ (xS r _ h)
theorem tK:∀(ns:List (Str×NameKind)) (n:Nat) {x:Str},(x,NameKind.cell)∈ns->∃c,(x,c)∈cellsFrom n ns []
 |(y,k)::r,n,x,h=>by
  unfold cellsFrom;rcases by2.mp h with z|z
  ·cases z
   rw[if_pos (by rfl),kI]
   exact⟨n,bB9 _ (by simp)⟩
  ·split
   ·obtain⟨c,hc⟩:=tK r (n+1) z
    rw[kI]
    exact⟨c,bL8 _ hc⟩
   ·exact tK r n z
theorem xT {α:Type}:∀{l:List (Str×α)}{x:Str}{c:α},(x,c)∈l->∃d,l.lookup x=some d
 |(y,v)::r,x,c,h=>by
  rw[bD3];cases hb:x==y with
  |true=>exact⟨v,rfl⟩
  |false=>
   rcases by2.mp h with z|z
   ·cases z;simp at hb
   ·exact xT z
theorem tL {α:Type}{x:Str}:∀(l r:List (Str×α)),(l++r).lookup x=(match l.lookup x with|some v=>some v|none=>r.lookup x)
 |[],_=>rfl
 |(y,v)::l,r=>by
  rw[List.cons_append,bD3,bD3];cases hb:x==y with
  |true=>rfl
  |false=>exact tL l r
def iK (X:Cx)(scope:Scope)(C:ax):List (Str×ax):=cellsFrom (C+1) scope.names (fN X.env.cells scope.names [])
theorem mR {X:Cx}{scope:Scope}{C:ax}{x:Str}{c:ax}(h:(iK X scope C).lookup x=some c) :
  (x,c)∈cellsFrom (C+1) scope.names []∨((∀d,(x,d)∉cellsFrom (C+1) scope.names [])/\(fN X.env.cells scope.names []).lookup x=some c):=by
 unfold iK at h;rw[kI,tL]at h;cases e:(cellsFrom (C+1) scope.names []).lookup x with
 |some v=>rw[e]at h;cases h;exact .inl (bC8 e)
 |none=>
  rw[e]at h;refine .inr ⟨λd hd=>?_,h⟩
  obtain⟨d',z⟩:=xT hd
  rw[e]at z;cases z
theorem aI1 {X:Cx}{scope:Scope}{C:ax}{x:Str}{c:ax}(hn:(x,NameKind.cell)∉scope.names)(h:(fN X.env.cells scope.names []).lookup x=some c):(iK X scope C).lookup x=some c:=by
 unfold iK;rw[kI,tL];cases e:(cellsFrom (C+1) scope.names []).lookup x with
 |some v=>exact absurd (xS _ _ (bC8 e)) hn
 |none=>exact h
theorem T7 {X:Cx}{scope:Scope}{C:ax}{x:Str}(h:(x,NameKind.cell)∈scope.names∨∃c,(fN X.env.cells scope.names []).lookup x=some c):∃c,(iK X scope C).lookup x=some c:=by
 unfold iK;rw[kI,tL];cases e:(cellsFrom (C+1) scope.names []).lookup x with
 |some v=>exact⟨v,rfl⟩
 |none=>
  rcases h with h|h
  ·obtain⟨c,hc⟩:=tK scope.names (C+1) h
   obtain⟨d,hd⟩:=xT hc
   rw[e]at hd;cases hd
  ·exact h
def eD (X:Cx)(scope:Scope)(N:List Str)(s:aw)(H:Hp)(C:ax)(fp:List ax)(E:av->aw->Prop):Cx:=
 { X with N:=N,s₀:=s,H₀:=H,env:=compEnvC scope (iK X scope C) C X.env,outer:=X.stack,ex:=fp,fn:=λx=>scope.names.lookup x==some .cell,pn:=[],xe:=E }
structure gA (X:Cx)(scope:Scope)(N:List Str)(fr:List (Option Nat)):Prop where
 kind:scope.kind = .function
 own:∀y∈scope.names,y.2 = .cell->scope.names.lookup y.1=some .cell
 names:∀y∈scope.names,y.2 = .local->scope.names.lookup y.1=some .local
 free:∀y∈scope.names,y.2 = .free->X.env.scope.names.lookup y.1=some .cell∨X.env.scope.names.lookup y.1=some .free
 len:fr.length=N.length
 from_:∀(i j:Nat),fr[i]? = some (some j)->∃x,N[i]? = some x/\X.N[j]? = some x/\scope.names.lookup x=some .free
section
variable {X:Cx}{ag:List (ax×Obj)}{σ:St}{H:Hp}{s:aw}{scope:Scope}{N:List Str}{fr:List (Option Nat)}
theorem gA.cells (S:gA X scope N fr)(I:aA X ag σ H s):∀y∈scope.names,y.2 = .free->∃c,X.env.cells.lookup y.1=some c:=λy hy hk=>I.ok.has y.1 (S.free y hy hk)
theorem aI2 {C D:ax}{fp:List ax}{E:av->aw->Prop}{h1:Heap}{tk:Nat}{m:Str->Option av}(S:gA X scope N fr)(I:aA X ag σ H s)(hf:∀b∈fp,iG X ag H b)(hfl:∀b∈fp,b<s.heap.objs.size)(hD:s.heap.objs.size<=D)(hC:s.heap.objs.size<=C)(hDC:D<C)(old:∀b o,s.heap.get? b=some o->h1.get? b=some o)(hns:h1.Ns C m)(hacc:h1.get? D=some { cls:=.type "list",data:=.seq #[] 0 })(hco:CellsOk h1 (C+1) (cellsFrom (C+1) scope.names [])) :
  aA (eD X scope N s H C fp E) [] (gS fr σ) (upd H D (.lst [])) { s with heap:=h1,toks:=tk }:=by
 have hHD:H D=none:=I.hok.fresh hD;have cl:=S.cells I;have cs:∀{x:Str}{c:ax},(fN X.env.cells scope.names []).lookup x=some c->X.env.cells.lookup x=some c:=λ{x c} h=>tI scope.names [] cl (λ_ _ z=>by simp at z) h
 have clt:∀{x:Str}{c:ax},X.env.cells.lookup x=some c->c<s.heap.objs.size:=λ{x c} h=>by obtain⟨v,z⟩:=I.cell x c h;exact z.lt
 have nge:∀{x:Str}{c:ax},(x,c)∈cellsFrom (C+1) scope.names []->C<c:=λ{x c} h=>(hco.empty x c h).2
 refine⟨⟨I.ok.mod,?_,I.ok.glob,I.ok.blt,hC,?_,?_,?_,I.ok.hd,I.ok.frames,.inl rfl,?_,I.bs,bA9 I.ok.bsz I.sz,?_,?_,I.stack,I.stkFree⟩,rfl,I.bare,Un.laid old hD hHD,⟨m,hns,?_⟩,?_,?_,?_,λp hp=>absurd (show p∈([]:List (ax×Obj)) from hp) (by simp),?_,?_⟩
 ·exact S.kind
 ·intro x y c h1 h2
  rcases mR h1 with a|⟨_,a⟩<;>rcases mR h2 with b|⟨_,b⟩
  ·exact name_of_addr hco.apart a b
  ·exact absurd (bz6 (Nat.lt_trans (nge a) (clt (cs b))) hC) (bE5 _)
  ·exact absurd (bz6 (Nat.lt_trans (nge b) (clt (cs a))) hC) (bE5 _)
  ·exact I.ok.inj x y c (cs a) (cs b)
 ·intro x hx
  have hx:(relabel scope X.env).names.lookup x=some .cell∨(relabel scope X.env).names.lookup x=some .free:=hx;have fin:(x,NameKind.free)∈scope.names->∃c,(iK X scope C).lookup x=some c:=λz=>T7 (.inr (xR scope.names [] (.inl z)))
  rcases hx with hx|hx
  ·rcases tJ hx with z|z
   ·exact T7 (.inl (bC8 z))
   ·exact fin (bC8 z.1)
  ·rcases tJ hx with z|z
   ·exact fin (bC8 z)
   ·exact absurd z.2 (by decide)
 ·intro x c hx h
  have hx:(scope.names.lookup x==some NameKind.cell)=true:=hx;have hx:scope.names.lookup x=some .cell:=by simpa using hx
  rcases mR h with a|⟨a,_⟩
  ·exact bA9 hC (bE3 (nge a))
  ·obtain⟨d,hd⟩:=tK scope.names (C+1) (bC8 hx)
   exact absurd hd (a d)
 ·intro b hb
  refine⟨bA8 (bz6 (hfl b hb) hC),λx c e=>?_⟩;rcases mR e with a|⟨_,a⟩
  ·exact bG4 (Nat.lt_trans (bz6 (hfl b hb) hC) (nge a))
  ·exact (hf b hb).2.2.2.2.1 x c (cs a)
 ·intro b o e hb
  rcases (hf b hb).2.2.2.1 with z|z
  ·exact I.ok.noex b o e z
  ·exact absurd (bz6 (by8 e) (bA9 I.ok.bsz z)) (bE5 _)
 ·intro b hb z
  rcases by2.mp (I.stkSub b z) with e|e
  ·exact (hf b hb).2.1 e
  ·exact (hf b hb).2.2.1 e
 ·intro i x v e1 e2 e3
  have e2:(fr.map λo=>o.bind λj=>(σ[j]?).join)[i]? = some (some v):=e2;rw[bz1]at e2;cases ef:fr[i]? with
  |none=>rw[ef]at e2;cases e2
  |some o=>
   rw[ef]at e2;cases o with
   |none=>cases e2
   |some j=>
    have e2:some ((σ[j]?).join)=some (some v):=e2;have ej:σ[j]? = some (some v):=by
     cases q:σ[j]? with
     |none=>rw[q]at e2;cases e2
     |some w=>rw[q]at e2;cases w with
      |none=>cases e2
      |some w=>cases e2;rfl
    obtain⟨y,a1,a2,a4⟩:=S.from_ i j ef
    have e1:N[i]? = some x:=e1;rw[e1]at a1;cases a1;have a3:(x,NameKind.free)∈scope.names:=bC8 a4;have vis:cK X.env.scope x:=(S.free _ a3 rfl).elim (λz=>.inr (.inl z)) λz=>.inr (.inr z)
    obtain⟨m0,hn0,hl0⟩:=I.loc
    obtain⟨u,r,l⟩:=hl0 j x v a2 ej vis
    refine⟨u,r,.inr ⟨?_,?_⟩⟩
    ·have e3:(relabel scope X.env).names.lookup x=some .local∨(relabel scope X.env).names.lookup x=some .cell∨(relabel scope X.env).names.lookup x=some .free:=e3
     rcases e3 with z|z|z
     ·rcases tJ z with y|y
      ·rw[a4]at y;cases y
      ·exact absurd y.2 (by decide)
     ·exact .inl z
     ·exact .inr z
    ·obtain⟨c,hc⟩:=xR (cells:=X.env.cells) scope.names [] (x:=x) (.inl a3)
     refine⟨c,aI1 (λz=>by have:=S.own _ z rfl;rw[a4]at this;cases this) hc,?_⟩;have hc':=cs hc;have S1:=S.free (x,.free) a3 rfl;rcases l with⟨k,_⟩|⟨_,c2,hc2,z⟩
     ·have k:X.env.scope.names.lookup x=some .local:=k
      rcases S1 with q|q<;>(have q:X.env.scope.names.lookup x=_:=q;rw[k]at q;cases q)
     ·rw[hc']at hc2;cases hc2
      obtain⟨oc,ho,hd⟩:=z
      exact⟨oc,old c oc ho,hd⟩
 ·intro x c e
  rcases mR e with a|⟨_,a⟩
  ·exact⟨_,(hco.empty x c a).1⟩
  ·obtain⟨v,oc,ho,hd⟩:=I.cell x c (cs a)
   exact⟨v,oc,old c oc ho,hd⟩
 ·show upd H D (.lst []) C=none
  rw[aH (bG4 hDC)];exact I.hok.fresh hC
 ·intro x c e
  show upd H D (.lst []) c=none;rcases mR e with a|⟨_,a⟩
  ·rw[aH (bG4 (Nat.lt_trans hDC (nge a)))];exact I.hok.fresh (bA9 hC (bE3 (nge a)))
  ·have q:=cs a
   rw[aH (bA8 (bz6 (clt q) hD))];exact I.freeC x c q
 ·exact I.hok.laid old hD ⟨bB2 _,[],0,.nil,hacc⟩
 ·show (gS fr σ).length=N.length
  unfold gS;rw[bx7];exact S.len
end
def mS (X:Cx)(ifs:List Expr)(t:TT):Prop:=
 ∀(ag:List (ax×Obj)) (s:aw) (σ:St) (H:Hp) (Q:Bool->Hp->Prop),aA X ag σ H s->t σ H Q->
  wpAny (model X.prog X.w) X.A (forIn ifs true λc r=>if r=true then do let ok <- isTrue c X.env (eval c X.env);pure (ForInStep.yield ok) else pure (ForInStep.yield r)) (TP X ag σ Q) X.xe s
def xU:TT:=λ_ H Q=>Q true H
theorem tN {X:Cx}:mS X [] xU:=λ_ _ _ H _ I h=>wpAny_tests_nil ⟨H,I,h⟩
theorem aI3 {X:Cx}{c:Expr}{t:TT}(h:PT X c t):mS X [c] t:=λag s σ H Q I hq=>wpAny_tests_one (h ag s σ H Q I hq)
section
variable {prog:ay}{w:ba}{A:az}
def xV (prog:ay)(w:ba)(A:az)(elt tg:Expr)(ifs:List Expr)(it acc:av)(env:Env)(lost:av->aw->Prop)(stop next:aw->Prop)(s:aw):Prop:=
 let M:=model prog w
 let tests:Sem Bool:=forIn ifs true λc r=>if r=true then do let ok <- isTrue c env (eval c env);pure (ForInStep.yield ok) else pure (ForInStep.yield r)
 let put:aw->Prop:=wpAny M A (eval elt env) (λx=>wpAny M A (call (.builtin "list.append") [acc,x]) (λ_=>next) lost) lost
 let taken:av->aw->Prop:=λv=>wpAny M A (letOwnedTupleGo tg it v) (λ_=>wpAny M A (assign tg env v) (λ_=>wpAny M A tests (λok s'=>if ok=true then put s' else next s') lost) lost) lost
 wpAny M A (pyNext it) (λr s'=>match r with
  |none=>stop s'
  |some v=>taken v s') lost s
theorem aI4 {R:Result->aw->Prop}{s:aw}{elt tg iter:Expr}{ifs:List Expr}{scope:Scope}{pos:Pos}{it acc:av}{env:Env}(I:Nat->aw->Prop)(turn:∀n s,I n s->xV prog w A elt tg ifs it acc env (notedBy (model prog w) A env λe=>R (.error e)) (R (.ok .next)) (λs'=>∃m,m<n/\I m s') s)(n:Nat)(h:I n s) :
  codeAny (model prog w) A (.compLoop (.ListComp elt [⟨tg,iter,ifs,0⟩] scope pos) 0 it acc env) R s:=by
 apply codeAny_loop rfl I _ n h;intro k s1 h1
 change wpAny _ A ((compTurn _ 0 it acc env).onRaise (λx=>do noteFrame x env;theTreesLotGoes x)) _ _ s1
 apply wpAny_noted;rw[compTurn_list];have t:=turn k s1 h1;unfold xV at t;apply bx4;apply wpAny_standAt;apply bx4;refine bG1 t (λr s2 h2=>?_) λ_ _ z=>z
 cases r with
 |none=>exact by3 h2
 |some v=>
  apply bx4;refine bG1 h2 (λ_ s3 h3=>?_) λ_ _ z=>z
  apply bx4;refine bG1 h3 (λ_ s4 h4=>?_) λ_ _ z=>z
  apply bx4;refine bG1 h4 (λok s5 h5=>?_) λ_ _ z=>z
  cases ok with
  |false=>exact by3 ⟨rfl,h5⟩
  |true=>
   apply bx4;apply bx4;refine bG1 h5 (λx s6 h6=>?_) λ_ _ z=>z
   apply bx4;exact bG1 h6 (λ_ s7 h7=>by3 (by3 ⟨rfl,h7⟩)) λ_ _ z=>z
end
def qP (g:TG)(tc:TT)(te:TE)(σ0:St)(J:It)(D:ax)(Q:VK)(W:Nat->Nat->List V->Hp->Prop):Prop:=
 ∀i m acc H',W i m acc H'->H' D=some (.lst acc)/\((J.stop i H'/\Q (.ref D) H')∨(J.go i H'/\∀x H2,J.yld i H' x H2->g x σ0 H2 λσ2 H3=>Wk σ0 σ2/\tc σ2 H3 λb H4=>
  if b=true then te σ2 H4 λv H5=>H5 D=some (.lst acc)/\acc.length<sizeLine/\∃m',m'<m/\W (i+1) m' (acc++[v]) (upd H5 D (.lst (acc++[v]))) else ∃m',m'<m/\W (i+1) m' acc H4))
def T8 (wi:TI)(fr:List (Option Nat))(g:TG)(tc:TT)(te:TE):TE:=λσ H Q=>wi σ H λJ H1=>∀D,H1 D=none->
 ∃W:Nat->Nat->List V->Hp->Prop,(∃m,W 0 m [] (upd H1 D (.lst [])))/\qP g tc te (gS fr σ) J D Q W
section
variable {M:Model}{A:az}{E:av→aw→Prop}{s:aw}
theorem aI5 {scope:Scope}{globals:ax}{cl:List (Str×ax)}{qual:Str}{func:Option ax}{code:av}{builtins:ax}{outer:Env}{Q:Env->aw->Prop}(hQ:∀h',h'.Ns s.heap.objs.size (λ_=>none)->(∀b o,s.heap.get? b=some o->h'.get? b=some o)->CellsOk h' (s.heap.objs.size+1) (cellsFrom (s.heap.objs.size+1) scope.names [])->
   Q (newEnv scope s.heap.objs.size globals (cellsFrom (s.heap.objs.size+1) scope.names cl) qual func code (some outer) builtins) { s with heap:=h' }) :
  wpAny M A (newFunctionEnv scope globals cl [] qual func code (some outer) builtins) Q E s:=by
 simp only[newFunctionEnv,Option.isSome_some,if_true];refine bx4 (wpAny_alloc ?_);refine bx4 (wpAny_layCells _ (λname kind cells=>by cases hkc:kind==NameKind.cell<;>simp[hkc]) _ _ _ _ ?_);have ok:=cellsFrom_ok scope.names (s.heap.push { cls:=.type "dict",data:=.dict #[] }) (s.heap.objs.size+1) [] ⟨λ_ _ hm=>(nomatch hm),List.Pairwise.nil⟩ (by rw[bF7];exact bx9 _);rw[bF7]at ok;rw[show ({ s with heap:=s.heap.push { cls:=.type "dict",data:=.dict #[] } }:aw).heap.objs.size=s.heap.objs.size+1 from bF7 ..];rw[List.forIn_nil];refine bx4 (by3 (by3 (hQ _ ((Heap.Ns.new s.heap (.type "dict")).keeps (pushCells_keeps _ _)) (λb o e=>pushCells_keeps _ _ b o (bx5 _ e)) ok)))
end
section
variable {X:Cx}{ag:List (ax×Obj)}{σ:St}{H:Hp}{s:aw}{scope:Scope}{N:List Str}{fr:List (Option Nat)}{tg iter elt:Expr}{ifs:List Expr}{pos:Pos}{wi:TI}{g:TG}{tc:TT}{te:TE}
structure tO (X:Cx)(scope:Scope)(N:List Str)(tg:Expr)(ifs:List Expr)(elt:Expr)(s:aw)(H:Hp)(g:TG)(tc:TT)(te:TE):Prop where
 tg:∀(C:ax) (fp:List ax),PG (eD X scope N s H C fp λ_ _=>False) tg g
 ifs:∀(C:ax) (fp:List ax),mS (eD X scope N s H C fp λ_ _=>False) ifs tc
 elt:∀(C:ax) (fp:List ax),PE (eD X scope N s H C fp λ_ _=>False) elt te
structure qQ (X:Cx)(scope:Scope)(N:List Str)(tg:Expr)(ifs:List Expr)(elt:Expr)(g:TG)(tc:TT)(te:TE):Prop where
 tg:∀(s:aw) (H:Hp) (C:ax) (fp:List ax),PG (eD X scope N s H C fp λ_ _=>False) tg g
 ifs:∀(s:aw) (H:Hp) (C:ax) (fp:List ax),mS (eD X scope N s H C fp λ_ _=>False) ifs tc
 elt:∀(s:aw) (H:Hp) (C:ax) (fp:List ax),PE (eD X scope N s H C fp λ_ _=>False) elt te
theorem qQ.at (B:qQ X scope N tg ifs elt g tc te)(s:aw)(H:Hp):tO X scope N tg ifs elt s H g tc te:=⟨B.tg s H,B.ifs s H,B.elt s H⟩
theorem aI6 {C:ax}{fp:List ax}{E:av->aw->Prop}{pins':List (ax×Obj)}{σ':St}{H':Hp}{s':aw}(I:aA X ag σ H s)(hf:∀b∈fp,iG X ag H b)(I':aA (eD X scope N s H C fp E) pins' σ' H' s'):aA X ag σ H' s':=
 I.call' (ch:=fp) I'.os I'.base I'.hok I'.bare λb hb=>⟨(hf b hb).2.2.2.1,(hf b hb).2.1,(hf b hb).2.2.2.2.1,(hf b hb).2.2.2.2.2⟩
theorem xW {Rr:av->ax->Result->aw->Prop}{J:It}{fp:List ax}{it:ax}{tn:Nat->Heap->Prop}{Q:VK}(hc:X.calm=true)(S:gA X scope N fr)(B:tO X scope N tg ifs elt s H g tc te)(I:aA X ag σ H s)(T:jN X.prog X.w X.K tg J fp it tn)(hst:tn 0 s.heap)(hf:∀b∈fp,iG X ag H b)(h:∀D,H D=none->∃W:Nat->Nat->List V->Hp->Prop,(∃m,W 0 m [] (upd H D (.lst [])))/\qP g tc te (gS fr σ) J D Q W)(hend:∀(D C:ax) (s':aw) (H':Hp) (m:Str->Option av),s.heap.objs.size<=C->s.heap.objs.size<=D->aA X ag σ H' s'->s'.heap.Ns C m->H' C=none->Q (.ref D) H'->Rr (.ref D) C (.ok .next) s') :
  wpAny (model X.prog X.w) X.A (newList []) (λacc s₃=>wpAny (model X.prog X.w) X.A (newFunctionEnv scope X.env.globals (fN X.env.cells scope.names []) [] X.env.qual none .none (some X.env)) (λcenv s₄=>
   codeAny (model X.prog X.w) X.A (.compStart (.ListComp elt [⟨tg,iter,ifs,0⟩] scope pos) 0 (.ref it) acc { cenv with scope:=relabel scope X.env }) (Rr acc cenv.locals) s₄) X.xe s₃) X.xe s:=by
 refine bF1 (aI5 (λh₁ hns₁ keep₁ hco₁=>?_));dsimp only at hns₁ keep₁ hco₁ ⊢;generalize hH2:s.heap.push { cls:=.type "list",dict:=none,data:=.seq ([]:List av).toArray }=H2 at hns₁ keep₁ hco₁ ⊢;have hC:H2.objs.size=s.heap.objs.size+1:=by rw[<- hH2,bF7]
 have hDC:s.heap.objs.size<H2.objs.size:=by rw[hC];exact Nat.lt_succ_self _
 have hCle:s.heap.objs.size<=H2.objs.size:=by rw[hC];exact bM0 _
 have old:∀b o,s.heap.get? b=some o->h₁.get? b=some o:=λb o e=>keep₁ b o (hH2▸bx5 _ e)
 have hacc:h₁.get? s.heap.objs.size=some { cls:=.type "list",data:=.seq #[] 0 }:=keep₁ _ _ (hH2▸bz0 _ rfl);have hfl:∀b∈fp,b<s.heap.objs.size:=λb hb=>by obtain⟨o,e,_⟩:=T.obj _ _ hst b hb;exact by8 e
 obtain⟨W,⟨m0,w0⟩,turn⟩:=h s.heap.objs.size (I.hok.fresh (bx9 _))
 have st1:tn 0 h₁:=T.keep _ _ _ hst λb _ o e=>old b o e
 have fr0:∀b∈fp,upd H s.heap.objs.size (.lst []) b=none:=λb hb=>by rw[aH (bA8 (hfl b hb))];exact (hf b hb).1
 have stat:∀{H':Hp},(∀b∈fp,H' b=none)->∀b∈fp,iG (eD X scope N s H H2.objs.size fp λ_ _=>False) [] H' b:=λ{H'} hn b hb=>by
  have f:=hf b hb;refine⟨hn b hb,bA8 (bz6 (hfl b hb) hCle),λz=>?_,.inl hb,λx c e=>(mR e).elim (λz=>bG4 (Nat.lt_trans (bz6 (hfl b hb) hCle) (hco₁.empty x c z).2)) λz=>f.2.2.2.2.1 x c (tI scope.names [] (S.cells I) (λ_ _ z=>by simp at z) z.2),λp hp=>absurd (show p∈([]:List (ax×Obj)) from hp) (by simp)⟩;rcases by2.mp (I.stkSub b z) with e|e
  ·exact f.2.1 e
  ·exact f.2.2.1 e
 generalize hX:eD X scope N s H H2.objs.size fp (λ_ _=>False)=Y at stat;have I0:aA Y [] (gS fr σ) (upd H s.heap.objs.size (.lst [])) { s with heap:=h₁ }:=hX▸aI2 S I hf hfl (bx9 _) hCle hDC old hns₁ hacc hco₁;have bt:PG Y tg g:=hX▸B.tg H2.objs.size fp;have bi:mS Y ifs tc:=hX▸B.ifs H2.objs.size fp;have be:PE Y elt te:=hX▸B.elt H2.objs.size fp;have eP:Y.prog=X.prog:=by rw[<- hX];rfl
 have ew:Y.w=X.w:=by rw[<- hX];rfl
 have eK:Y.K=X.K:=by rw[<- hX];rfl
 have eA:Y.A=X.A:=by rw[<- hX];rfl
 have eE:Y.env=compEnvC scope (iK X scope H2.objs.size) H2.objs.size X.env:=by rw[<- hX];rfl
 have eX:Y.xe=λ_ _=>False:=by rw[<- hX];rfl
 have ec:Y.calm=true:=by rw[<- hX];exact hc
 have never:∀{E:av->aw->Prop} (e:av) (s':aw),Y.xe e s'->E e s':=λ{E} e s' z=>by rw[eX]at z;exact z.elim
 have out:∀{pins' σ' H' s'},aA Y pins' σ' H' s'->aA X ag σ H' s':=λ{_ _ _ _} I'=>aI6 (C:=H2.objs.size) (E:=λ_ _=>False) (scope:=scope) (N:=N) I hf (hX▸I')
 have loop:codeAny (model X.prog X.w) X.A (.compLoop (.ListComp elt [⟨tg,iter,ifs,0⟩] scope pos) 0 (.ref it) (.ref s.heap.objs.size) (compEnvC scope (iK X scope H2.objs.size) H2.objs.size X.env))
   (Rr (.ref s.heap.objs.size) H2.objs.size) { s with heap:=h₁ }:=by
  refine aI4 (λn s'=>∃i acc H',aA Y [] (gS fr σ) H' s'/\tn i s'.heap/\(∀b∈fp,H' b=none)/\W i n acc H') ?_ m0 ⟨0,[],_,I0,st1,fr0,w0⟩;rintro n s3 ⟨i,acc,H3,I3,st3,fr3,w3⟩;unfold xV;dsimp only
  obtain⟨hD3,step⟩:=turn i n acc H3 w3
  rcases step with⟨stop,qn⟩|⟨go,step⟩
  ·have z:=T.done Y eP ew eK ec i [] s3 _ H3 (notedBy (model X.prog X.w) X.A (compEnvC scope (iK X scope H2.objs.size) H2.objs.size X.env) λe s'=>Rr (.ref s.heap.objs.size) H2.objs.size (.error e) s') I3 (stat fr3) st3 stop
   rw[eA]at z;refine aP z λr s4 ⟨hr,I4⟩=>?_
   subst hr
   obtain⟨m4,hn4,_⟩:=I4.loc
   rw[eE]at hn4;have f4:=I4.free;rw[eE]at f4;exact hend _ _ s4 H3 m4 hCle (bx9 _) (out I4) hn4 f4 qn
  ·have z:=T.item Y eP ew eK ec i [] s3 _ H3 (notedBy (model X.prog X.w) X.A (compEnvC scope (iK X scope H2.objs.size) H2.objs.size X.env) λe s'=>Rr (.ref s.heap.objs.size) H2.objs.size (.error e) s') I3 (stat fr3) st3 go
   rw[eA]at z;refine aP z λr s4 ⟨u,hr,h4⟩=>?_
   subst hr;refine aP h4 λ_ s5 ⟨x,H5,I5,r5,y5,st5,fr5⟩=>?_
   have I5':=I5.pinned (stat fr5) (T.obj _ _ st5);have q1:=bt _ s5 _ H5 x u _ I5' r5 (step x H5 y5);rw[eP,ew,eA,eE]at q1;refine bG1 q1 (λ_ s6 ⟨σ6,H6,I6,wk,q6⟩=>?_) never;have q2:=bi _ s6 σ6 H6 _ I6 q6;rw[eP,ew,eA,eE]at q2;refine bG1 q2 (λb s7 ⟨H7,I7,q7⟩=>?_) never;have again:∀{H8:Hp}{s8:aw}{acc':List V},aA Y ([]++qB fp s5.heap) σ6 H8 s8->(∃m',m'<n/\W (i+1) m' acc' H8)->∃m,m<n/\∃i acc H',aA Y [] (gS fr σ) H' s8/\tn i s8.heap/\(∀b∈fp,H' b=none)/\W i m acc H':=λ{H8 s8 acc'} I8 n8=>by
    obtain⟨m',hm,w8⟩:=n8
    refine⟨m',hm,i+1,acc',H8,(I8.unpinned).weak wk.1 wk.2,T.keep _ _ _ st5 λb hb o e=>(I8.pin (b,o) (bB9 _ (bB9 _ (sY hb e)))).1,λb hb=>?_,w8⟩
    obtain⟨o,e,d⟩:=T.obj _ _ st5 b hb
    exact (I8.pin (b,o) (bB9 _ (bB9 _ (sY hb e)))).2.1
   cases b with
   |false=>
    rw[if_neg bz7]at q7 ⊢;exact again I7 q7
   |true=>
    rw[if_pos rfl]at q7 ⊢;have q3:=be _ s7 σ6 H7 _ I7 q7;rw[eP,ew,eA,eE]at q3;refine bG1 q3 (λv s8 ⟨y,H8,I8,r8,hD8,hz8,q8⟩=>?_) never;have q4:=qK _ s8 σ6 H8 (.ref s.heap.objs.size) [y] (.ref s.heap.objs.size) [v] (λ_ H9=>∃m',m'<n/\W (i+1) m' (acc++[y]) H9) I8 rfl (.cons r8 .nil) ⟨_,_,_,rfl,rfl,hD8,hz8,q8⟩;rw[eP,ew,eA]at q4;exact bG1 q4 (λ_ s9 ⟨_,H9,I9,_,q9⟩=>again I9 q9) never
 exact codeAny_compStart_list loop (T.self _ 0 _ _ _ st1 loop)
end
section
variable {X:Cx}{scope:Scope}{N:List Str}{fr:List (Option Nat)}{tg iter elt:Expr}{ifs:List Expr}{pos:Pos}{wi:TI}{g:TG}{tc:TT}{te:TE}
theorem aA.drop {ag:List (ax×Obj)}{σ:St}{H H':Hp}{s s':aw}{C:ax}{h':Heap}(I0:aA X ag σ H s)(hC:s.heap.objs.size<=C){σ':St}(I:aA X ag σ' H' s')(hn:H' C=none)(sb:Heap.SameBut C s'.heap h'):aA X ag σ' H' { s' with heap:=h' }:=by
 refine I.turned (t':=s'.toks) (it:=C) (λb o hb e=>(sb.2 b hb).trans e) hn (bG4 (bz6 I0.lt hC)) (.inr (bA9 I0.sz hC)) (λx c e z=>?_) λp hp z=>?_
 ·obtain⟨v,q⟩:=I0.cell x c e
  exact absurd (bz6 q.lt (by rw[z];exact hC)) (bE5 _)
 ·exact absurd (bz6 (by8 (I0.pin p hp).1) (by rw[z];exact hC)) (bE5 _)
theorem T9 (hc:X.calm=true)(S:gA X scope N fr)(hi:PI X tg iter wi)(B:qQ X scope N tg ifs elt g tc te)(hs:∀x,foldedSetIterable iter X.env x=pure x:=by intro _;rfl):PE X (.ListComp elt [⟨tg,iter,ifs,0⟩] scope pos) (T8 wi fr g tc te):=by
 intro ag s σ H Q I h;rw[eval_ListComp];refine wpAny_comprehension_free (use:=none) rfl hs (xQ (S.cells I)) S.kind S.names (aP (hi ag s σ H _ I h) λv s1 h1=>aP h1 λitv s2 h2=>?_)
 obtain⟨it,fp,tn,J,H2,e,I2,T,st2,f2,hW⟩:=h2
 subst e;refine xW (Rr:=λacc C=>compPost (model X.prog X.w) X.A X.xe none (EP X ag σ Q) acc C) hc S (B.at _ _) I2 T st2 f2 hW ?_;intro D C s' H' m hC hD I' hns hHC q
 exact⟨m,hns,λh' sb=>⟨.ref D,H',I2.drop hC I' hHC sb,rfl,q⟩⟩
theorem aI7 {i:Nat}{x:Str}{px spos:Pos}(hc:X.calm=true)(S:gA X scope N fr)(hi:PI X tg iter wi)(B:qQ X scope N tg ifs elt g tc te)(hN:X.N.Nodup)(hix:X.N[i]? = some x)(hx:X.env.scope.names.lookup x=some .local)(hsw:swapsWith (.ListComp elt [⟨tg,iter,ifs,0⟩] scope pos) (some (.Name x px)) spos.line X.env=pure true)(hs:∀x,foldedSetIterable iter X.env x=pure x:=by intro _;rfl) :
  PS X (.Assign [.Name x px] (.ListComp elt [⟨tg,iter,ifs,0⟩] scope pos) spos) (nX (T8 wi fr g tc te) (fJ i)):=by
 intro ag s σ H D I h;rw[exec_Assign_Name_used _ _ _ _ hsw];refine bx4 (wpAny_standAt (bx4 ?_));show wpAny _ _ (do let _ <- comprehension (.ListComp elt [⟨tg,iter,ifs,0⟩] scope pos) scope X.env _ (newList []) false (eval iter X.env) (some (assign (.Name x px) X.env))) _ _ s
 refine bx4 (bG1 (wpAny_comprehension_free (Q:=λ_ s'=>SP X ag D .next s') (use:=some (assign (.Name x px) X.env)) rfl hs (xQ (S.cells I)) S.kind S.names (aP (hi ag s σ H _ I h) λv s1 h1=>aP h1 λitv s2 h2=>?_))
  (λ_ s' hq=>by3 (by3 hq)) λ_ _ e=>e)
 obtain⟨it,fp,tn,J,H2,e,I2,T,st2,f2,hW⟩:=h2
 subst e;refine xW (Rr:=λacc C=>compPost (model X.prog X.w) X.A X.xe (some (assign (.Name x px) X.env)) (λ_ s'=>SP X ag D .next s') acc C) hc S (B.at _ _) I2 T st2 f2 hW ?_;intro D' C s' H' m hC hD I' hns hHC q;refine wpAny_assign_Name (L3 I' hN hix (.inl hx) (v:=.ref D') rfl (λs'' I'' sb=>?_) (.inr hx))
 obtain⟨a,sb,ha⟩:=sb
 have hCa:C≠a:=by
  rcases ha with z|z
  ·rw[z];exact bG4 (bz6 I2.lt hC)
  ·intro e;subst e
   obtain⟨v,q⟩:=I2.cell x _ z
   exact absurd (bz6 q.lt hC) (bE5 _)
 exact⟨m,hns.sameBut sb hCa,λh' sb'=>⟨_,H',I2.drop hC I'' hHC sb',q⟩⟩
variable {gh:Hp→TG}{tch:Hp→TT}{teh:Hp→TE}
def U0 (wi:TI)(fr:List (Option Nat))(gh:Hp->TG)(tch:Hp->TT)(teh:Hp->TE):TE:=λσ H Q=>wi σ H λJ H1=>∀D,H1 D=none->
 ∃W:Nat->Nat->List V->Hp->Prop,(∃m,W 0 m [] (upd H1 D (.lst [])))/\qP (gh H1) (tch H1) (teh H1) (gS fr σ) J D Q W
theorem U1 (hc:X.calm=true)(S:gA X scope N fr)(hi:PI X tg iter wi)(B:∀(s:aw) (H:Hp),tO X scope N tg ifs elt s H (gh H) (tch H) (teh H))(hs:∀x,foldedSetIterable iter X.env x=pure x:=by intro _;rfl):PE X (.ListComp elt [⟨tg,iter,ifs,0⟩] scope pos) (U0 wi fr gh tch teh):=by
 intro ag s σ H Q I h;rw[eval_ListComp];refine wpAny_comprehension_free (use:=none) rfl hs (xQ (S.cells I)) S.kind S.names (aP (hi ag s σ H _ I h) λv s1 h1=>aP h1 λitv s2 h2=>?_)
 obtain⟨it,fp,tn,J,H2,e,I2,T,st2,f2,hW⟩:=h2
 subst e;refine xW (Rr:=λacc C=>compPost (model X.prog X.w) X.A X.xe none (EP X ag σ Q) acc C) hc S (B _ _) I2 T st2 f2 hW ?_;intro D C s' H' m hC hD I' hns hHC q
 exact⟨m,hns,λh' sb=>⟨.ref D,H',I2.drop hC I' hHC sb,rfl,q⟩⟩
end
theorem bS {H:Hp}{p:ax}(h:H p=none)(o:HO):aE H (upd H p o):=λb u q=>by rw[aH (dH q h)];exact q
theorem aE.tup {K:ac}{H H':Hp}{a:ax}{xs:List V}(e:aE H H')(h:aS K H a xs):aS K H' a xs:=by
 rcases h with (h|⟨o,h⟩)|h
 ·exact .inl (.inl (e _ _ h))
 ·exact .inl (.inr ⟨o,e _ _ h⟩)
 ·exact .inr h
structure U2 (H:Hp)(J:It)(xs:List V):Prop where
 go:∀i H',aE H H'->i<xs.length->J.go i H'
 yld:∀i H' x H2,aE H H'->J.yld i H' x H2->i<xs.length->xs[i]? = some x/\H2=H'
 stop:∀H',aE H H'->J.stop xs.length H'
theorem aI8 {K:ac}{H:Hp}{a:ax}{xs:List V}(h:aS K H a xs):U2 H (lG K a) xs:=
 ⟨λi H' e hi=>⟨xs,xs[i],e.tup h,by simp[hi]⟩,λi H' x H2 e y hi=>⟨y.2 xs (e.tup h),y.1⟩,λH' e=>⟨xs,e.tup h,bx9 _⟩⟩
def CW (H1:Hp)(D:ax)(n:Nat)(Pv:Nat->List V->Hp->Prop):Nat->Nat->List V->Hp->Prop:=λi m acc H'=>m=n-i/\i<=n/\acc.length<=i/\aE H1 H'/\H' D=some (.lst acc)/\Pv i acc H'
def xX (H1:Hp)(D:ax)(n:Nat)(Pv:Nat->List V->Hp->Prop)(i:Nat)(acc:List V)(v:V)(H5:Hp):Prop:=H5 D=some (.lst acc)/\acc.length<sizeLine/\∃m',m'<n-i/\CW H1 D n Pv (i+1) m' (acc++[v]) (upd H5 D (.lst (acc++[v])))
def U3 (H1:Hp)(D:ax)(n:Nat)(Pv:Nat->List V->Hp->Prop)(i:Nat)(acc:List V)(H4:Hp):Prop:=∃m',m'<n-i/\CW H1 D n Pv (i+1) m' acc H4
structure tQ (H1:Hp)(D:ax)(n i:Nat)(acc:List V)(H':Hp):Prop where
 lt:i<n
 few:acc.length<=i
 sz:n<=sizeLine
 same:aE H1 H'
 new:H1 D=none
 acc:H' D=some (.lst acc)
theorem tQ.yes {H1:Hp}{D:ax}{n i:Nat}{acc:List V}{H' H5:Hp}{Pv:Nat->List V->Hp->Prop}{v:V}(c:tQ H1 D n i acc H')(s:aE H' H5)(p:Pv (i+1) (acc++[v]) (upd H5 D (.lst (acc++[v])))):xX H1 D n Pv i acc v H5:=by
 refine⟨s _ _ c.acc,Nat.lt_of_le_of_lt c.few (bz6 c.lt c.sz),_,?_,rfl,c.lt,?_,λb o e=>?_,aY,p⟩
 ·have:=c.lt;omega
 ·rw[bx8,bB6];exact Nat.succ_le_succ c.few
 ·rw[aH (dH e c.new)];exact s _ _ (c.same _ _ e)
theorem aI9 {H1:Hp}{J:It}{xs:List V}{g:TG}{tc:TT}{te:TE}{σ0:St}{Q:VK}(O:U2 H1 J xs)(Pv:Nat->List V->Hp->Prop)(hn:xs.length<=sizeLine)(h0:∀D,H1 D=none->Pv 0 [] (upd H1 D (.lst [])))(hs:∀i x acc D H',xs[i]? = some x->tQ H1 D xs.length i acc H'->Pv i acc H'->g x σ0 H' λσ2 H3=>Wk σ0 σ2/\tc σ2 H3 λb H4=>
   if b=true then te σ2 H4 λv H5=>xX H1 D xs.length Pv i acc v H5 else U3 H1 D xs.length Pv i acc H4)(hd:∀D acc H',H1 D=none->aE H1 H'->H' D=some (.lst acc)->acc.length<=xs.length->Pv xs.length acc H'->Q (.ref D) H') :
  ∀D,H1 D=none->∃W:Nat->Nat->List V->Hp->Prop,(∃m,W 0 m [] (upd H1 D (.lst [])))/\qP g tc te σ0 J D Q W:=by
 intro D hD;refine⟨CW H1 D xs.length Pv,⟨xs.length,rfl,bB2 _,bx9 _,bS hD _,aY,h0 D hD⟩,?_⟩;rintro i m acc H' ⟨rfl,hi,ha,sm,hDa,p⟩;refine⟨hDa,?_⟩;by_cases hlt:i<xs.length
 ·refine .inr ⟨O.go i H' sm hlt,λx H2 y=>?_⟩
  obtain⟨hx,e⟩:=O.yld i H' x H2 sm y hlt
  subst e;exact hs i x acc D H2 hx ⟨hlt,ha,hn,sm,hD,hDa⟩ p
 ·have e:i=xs.length:=by omega
  subst e;exact .inl ⟨O.stop H' sm,hd D acc H' hD sm hDa ha p⟩
end L2
namespace Srt
open PySem PySem.W PyProof.Rows
abbrev G (p:Array Nat)(i:Nat):Nat:=p.getD i 0
def PP (n:Nat)(p:Array Nat):Prop:=p.toList.Perm (List.range n)
structure Ord (c:Nat->Nat->Bool):Prop where
 asym:∀{i j},c i j=true->c j i=false
 ntr:∀{i j k},c i j=false->c j k=false->c i k=false
end Srt
namespace L2
open PySem PySem.Spec PyProof.Rows
theorem xY:∀{xs:List V}{us:List av} (i:Nat),i<xs.length->aX xs us->b7 (xs.getD i .non) (us.getD i Value.none)
 |_,_,_,h,.nil=>by simp at h
 |_,_,0,_,.cons r _=>by simpa using r
 |_,_,i+1,h,.cons _ t=>by
  have:=xY i (by simpa using h) t
  simpa using this
theorem xZ {α:Type}:∀l:List α,(l.zip l).map (·.2)=l
 |[]=>rfl
 |a::l=>by
  show a::((l.zip l).map (·.2))=a::l;rw[xZ l]
theorem aJ0 {prog:ay}{w:ba}{A:az}{E:av->aw->Prop}{s:aw}{a:ax}{vs:List av}{n:Nat}{P:PySem.Fin->aw->Prop}(e:s.heap.get? a=some (seqObj "list" vs.toArray n))(few:vs.length<2)(q:P (.done (.ret .none)) { s with heap:=sortedHeap s.heap a vs vs.toArray }):wpAny (model prog w) A (Builtin.«list.sort» ⟨[.ref a],[]⟩) P E s:=by
 have big:vs.length<=sizeLine:=bA9 (bE3 few) (by decide);have la:=by8 e;have c:vs.toArray.size<2:=by simpa using few
 have same:(arrOf (SortSt.mk' general' (vs.toArray.zip vs.toArray) #[] 7 none)).map (·.2)=vs.toArray:=by
  change (vs.toArray.zip vs.toArray).map (·.2)=vs.toArray
  apply Array.ext';simpa using xZ vs
 obtain⟨k,ek⟩:∃k,(s.heap.update a (Obj.mapSeq λ_=>#[])).get? a=some (seqObj "list" #[] k):=⟨_,get?_update_seq e λ_=>#[]⟩
 have there:(((s.heap.update a (Obj.mapSeq λ_=>#[])).push (seqObj "tuple" vs.toArray 0)).push (seqObj "list" #[] 0)).get? a=some (seqObj "list" #[] k):=
  bx5 _ (bx5 _ ek)
 rw[list_sort_plain];apply bx4;apply listItems_at e rfl;apply bx4;refine listUpdate_at e rfl ?_ (by simpa using big) (bB2 _);apply bx4;apply seqEpoch_at ek rfl;apply bx4;refine wpAny_newTuple ?_ big;apply bx4;refine wpAny_newList ?_ (bB2 _);apply bM8;simp only[c,if_true,StateT.run_pure];apply bx4;apply by3;apply bx4;apply by3;apply bx4;apply seqEpoch_at there rfl;apply bx4;refine listUpdate_at there rfl ?_ (bB2 _) (by rw[same,bx6];exact Nat.le_succ_of_le big);rw[same];simp only[bne_self_eq_false,bA6,bF8];exact by3 q
def U4 (K:ac):List V->Hp->VK->Prop:=λxs H Q=>∃a ns,xs = [.ref a]/\aR K H a (ns.map V.int)/\ns.length<64/\∀l (ms:af),H l=none->ms.Perm ns->ms.Pairwise (· <= ·)->Q (.ref l) (upd H l (.lst (ms.map V.int)))
theorem U5 {X:Cx}:d7 X (.builtin "sorted") (U4 X.K):=by
 intro ag s σ H xs us Q I r h
 obtain⟨a,ns,rfl,hs,h64,q⟩:=h
 obtain⟨u,rfl,ru⟩:=hV r
 cases ru
 obtain⟨its,rv,p,hz⟩:=I.list hs
 have hl:=rv.length;rw[bx7]at hl;refine sorted_ints p.isList (lI rv) (by omega) λout ns' a1 a2 a3=>?_
 obtain⟨e,he⟩:=sortedAll_at s.heap its out
 have hn:s.heap.objs.size<=s.heap.objs.size+1:=bM0 _;have aj:ns'.length=ns.length:=a2.length_eq;refine⟨.ref (s.heap.objs.size+1),upd H (s.heap.objs.size+1) (.lst (ns'.map V.int)),I.laid (t':=s.toks) (λ_ _=>sortedAll_old) hn ⟨?_,out.toList,e,qN a1,by simpa using he⟩,rfl,q _ ns' (I.hok.fresh hn) a2 a3⟩;rw[bx7,aj];exact bE3 (qO (by omega))
theorem qR:∀{a b:af},HT.cX a b=true->HT.cX b a=false
 |[],[],h=>by cases h
 |[],_::_,_=>rfl
 |_::_,[],h=>by cases h
 |x::xs,y::ys,h=>by
  rw[HT.o0]at h ⊢;by_cases e:x=y
  ·rw[if_pos e]at h;rw[if_pos e.symm];exact qR h
  ·rw[if_neg e]at h;rw[if_neg (Ne.symm e)]
   have:=of_decide_eq_true h
   exact by5 (by omega)
theorem yA:∀{a b c:af},HT.cX a b=false->HT.cX b c=false->HT.cX a c=false
 |[],[],c,_,h=>h
 |[],_::_,_,h,_=>by cases h
 |_::_,[],[],_,_=>rfl
 |_::_,[],_::_,_,h=>by cases h
 |_::_,_::_,[],_,_=>rfl
 |x::xs,y::ys,z::zs,h1,h2=>by
  rw[HT.o0]at h1 h2 ⊢;by_cases e1:x=y
  ·rw[if_pos e1]at h1
   by_cases e2:y=z
   ·rw[if_pos e2]at h2;rw[if_pos (e1.trans e2)];exact yA h1 h2
   ·rw[if_neg e2]at h2;rw[if_neg (by rw[e1];exact e2)];rw[e1];exact h2
  ·rw[if_neg e1]at h1
   have k1:=bF5 h1;by_cases e2:y=z
   ·rw[<- e2,if_neg e1];exact h1
   ·rw[if_neg e2]at h2
    have k2:=bF5 h2;rw[if_neg (by omega)];exact by5 (by omega)
theorem yB:∀{a b:af},HT.cX a b=false->HT.cX b a=false->a=b
 |[],[],_,_=>rfl
 |[],_::_,h,_=>by cases h
 |_::_,[],_,h=>by cases h
 |x::xs,y::ys,h1,h2=>by
  rw[HT.o0]at h1 h2;by_cases e:x=y
  ·rw[if_pos e]at h1;rw[if_pos e.symm]at h2;rw[e,yB h1 h2]
  ·rw[if_neg e]at h1;rw[if_neg (Ne.symm e)]at h2
   have:=bF5 h1
   have:=bF5 h2
   omega
section
variable {prog:ay}{w:ba}{A:az}{s:aw}{Q:Bool→aw→Prop}
theorem U6:∀{us ws:List av}{xs ys:af} (i:Nat),IntsAre us xs->IntsAre ws ys->Q (HT.cX xs ys) s->PySem.W.KatLex prog w A true (decide (us.length<ws.length)) Q (us.zip ws) i s
 |_,_,_,_,_,.nil,.nil,h=>h
 |_,_,_,_,_,.nil,.cons _ _ _,h=>h
 |_,_,_,_,_,.cons _ _ _,.nil,h=>h
 |_,_,_,_,i,.cons (vs:=us) x t hx,.cons (vs:=ws) y u hy,h=>by
  refine PySem.W.kat_cons (wpAny_eqBool_int ?_);rw[HT.o0]at h;by_cases e:x=y
  ·rw[if_pos e]at h
   have eb:(x==y)=true:=by simpa using e
   rw[eb];refine PySem.W.kat_yes ?_;have e2:decide ((Value.int x t::us).length<(Value.int y u::ws).length)=decide (us.length<ws.length):=by simp
   rw[e2];exact U6 (i+1) hx hy h
  ·rw[if_neg e]at h
   have eb:(x==y)=false:=by simpa using e
   rw[eb];refine PySem.W.kat_no ?_;cases hi:(true&&i==0) with
   |true=>exact PySem.W.kat_lt_int h
   |false=>exact PySem.W.kat_one _ _ (lt_int h)
end
end L2
namespace Raw
open PySem PySem.W PySem.Calls PyProof.Rows
def iL (h:Heap)(d:ax)(es:Array DictEntry)(ep:Nat):Prop:=∃o,h.get? d=some o/\o.ExactDict/\o.data = .dict es ep
theorem iL.ty {s:aw}{d:ax}{es:Array DictEntry}{ep:Nat}(x:iL s.heap d es ep):s.TypeIs (.ref d) "dict":=x.elim λo y=>⟨o,y.1,y.2.1.1⟩
theorem iL.lt {h:Heap}{d:ax}{es:Array DictEntry}{ep:Nat}(x:iL h d es ep):d<h.objs.size:=x.elim λ_ y=>by8 y.1
theorem iL.keep {h h':Heap}{d:ax}{es:Array DictEntry}{ep:Nat}(x:iL h d es ep)(k:∀o,h.get? d=some o->h'.get? d=some o):iL h' d es ep:=x.elim λo y=>⟨o,k o y.1,y.2⟩
section
variable {prog:ay}{w:ba}{A:az}{E:av→aw→Prop}{s:aw}{d it:ax}{es:Array DictEntry}{ep i:Nat}
theorem made (far:(d==sysModules)=false)(x:iL s.heap d es ep){Q:av->aw->Prop}(q:Q (.ref s.heap.objs.size) { s with heap:=s.heap.push { cls:=.type "dict_keyiterator",data:=.fields #[.ref d,.int 0 0,.int es.size 0,.int ep 0] } }):wpAny (model prog w) A (pyIter (.ref d)) Q E s:=by
 have T:=x.ty
 obtain⟨o,e1,e2,e3⟩:=x
 apply wpAny_pyIter_slot T PySem.F.slot_dict_iter;apply bD9 PySem.F.slot_dict_iter T PySem.F.entry_dict_iter _ (PySem.F.args_dict_iter_1 _);simp only[Builtin.«dict.__iter__»,Builtin.Dict.dictSlotNone];apply bx4;apply bx4;apply wpAny_notOrdered_dict T;apply by3
 change wpAny _ _ (Builtin.Dict.showsAll d >>= _) _ _ s
 have far':Builtin.Dict.showsAll d=pure ():=by
  unfold Builtin.Dict.showsAll;simp only[far,bA6,bF8]
 rw[far',pure_bind];apply bx4;apply wpAny_dictEntries e1 e3;apply bx4;apply wpAny_dictEpoch e1 e3;apply bx4;refine bF1 (by3 ?_);refine⟨.ref s.heap.objs.size,rfl,"dict_keyiterator",_,⟨_,bz0 _ rfl,rfl⟩,PySem.F.slot_dict_keyiterator_next.lookup,?_⟩;simpa only[rawInt] using q
theorem turn (hh:A.handled=none)(hi:s.heap.IsKeyIter it d i es.size ep)(x:iL s.heap d es ep){Q:Option av->aw->Prop}(yes:∀(lt:i<es.size) h',h'.IsKeyIter it d (i+1) es.size ep->Heap.SameBut it s.heap h'->Q (some es[i].key) { s with heap:=h' })(no:es.size<=i->∀h',Heap.ExtBut it s.heap h'->Q none { s with heap:=h' }):wpAny (model prog w) A (pyNext (.ref it)) Q E s:=by
 have T:=hi.typeIs
 obtain⟨oi,f1,f2,f3⟩:=hi
 obtain⟨o,e1,e2,e3⟩:=x
 have slot:=PySem.F.slot_dict_keyiterator_next;have plain:Builtin.Dict_items.ownsTuple "dict_keyiterator" = false:=by decide
 have isref:(Value.ref d==Value.none)=false:=rfl;have nn:¬(i:Int)<0:=by omega
 unfold pyNext;apply bx4;apply wpAny_attempt;apply bD6 (name:=Str.ofString "__next__") T slot;apply bD9 slot T PySem.F.entry_dict_keyiterator_next _ (PySem.F.args_dict_keyiterator_next_1 _);apply bx4;apply by3;apply bx4;apply bx4;apply bx4
 first
  |apply wpAny_typeNameOfWhole_keyiter T
  |apply wpAny_typeNameOf_keyiter T
 apply by3;apply bx4;apply wpAny_fieldsOf f1 f3;simp only[plain,bA6,bF8]
 change wpAny _ _ (if (Value.ref d==Value.none)=true then _ else _) _ _ s
 have adr:Builtin.Dict_items.addrOf (Value.ref d)=pure d:=rfl;simp only[isref,bA6,bF8,adr,pure_bind];apply bx4;apply wpAny_dictEntries e1 e3;simp only[bne_self_eq_false,bA6,bF8];apply bx4;apply wpAny_dictEpoch e1 e3;simp only[bne_self_eq_false,bA6,bF8];apply by3;simp only[nn,bF8,Int.toNat_natCast];by_cases lt:i<es.size
 ·simp only[Array.getElem?_eq_getElem lt]
  apply bx4;apply bx4
  first
   |apply wpAny_typeNameOfWhole_keyiter T
   |apply wpAny_typeNameOf_keyiter T
  apply by3;apply bx4;apply wpAny_isOneOf_keyiter T
  change wpAny _ _ (setField (.ref it) 1 (rawInt ((i:Int)+1)) >>= _) _ _ s
  apply bx4;refine wpAny_setField f1 f3 (by simp) ?_;have again:(s.heap.update it (Obj.mapFields (·.setIfInBounds 1 (rawInt ((i:Int)+1))))).IsKeyIter it d (i+1) es.size ep:=by
   refine⟨_,Heap.get?_update_self _ f1 (Obj.isFreed_of_fields (Obj.data_mapFields f3 _)),?_,?_⟩
   ·rw[Obj.cls_mapFields];exact f2
   ·rw[Obj.data_mapFields f3];simp[rawInt]
  apply bx4;apply bM8;apply bx4;refine wpAny_isOneOf_keyiter (s:={ s with heap:=s.heap.update it (Obj.mapFields (·.setIfInBounds 1 (rawInt ((i:Int)+1)))) }) again.typeIs ?_
  change wpAny _ _ (pure es[i].key) _ _ _
  apply by3;apply by3
  exact⟨es[i].key,rfl,by3 (yes lt _ again (Heap.SameBut.update ..))⟩
 ·have ge:es.size<=i:=Nat.le_of_not_lt lt
  simp only[Array.getElem?_eq_none ge];apply bx4;apply bx4
  first
   |apply wpAny_typeNameOfWhole_keyiter T
   |apply wpAny_typeNameOf_keyiter T
  apply by3
  change wpAny _ _ (setField (.ref it) 0 .none >>= _) _ _ s
  apply bx4;refine wpAny_setField f1 f3 (by simp) ?_;apply bx4;simp only[newExc,newTuple];apply bx4;refine bF1 ?_ (by size_fits);apply bx4;refine wpAny_of_eq (a:=Value.none) (by first|rfl|(simp only[firstArgMember];rfl)) ?_;refine bF1 ?_ (by size_fits);unfold raiseNew;apply bx4;apply wpAny_handled;have quiet:A.in1.handled=none:=hh;rw[quiet];refine wpAny_throw ?_;apply bx4;refine wpAny_isInstance (T:="StopIteration") (b:=true) ⟨_,bz0 _ rfl,rfl⟩ isSubtype_stop ?_;exact by3 (no ge _ (((Heap.SameBut.update ..).extBut.push _).push _))
theorem aJ1 (hh:A.handled=none)(ne:d≠it):Walks prog w A it [it,d] [it] es.size (λi v=>∃lt:i<es.size,es[i].key=v) (λi h=>h.IsKeyIter it d i es.size ep/\iL h d es ep) where
 sub:=by intro b hb;rw[by0.mp hb];exact bz8
 frame:=by
  intro i h h' st hk
  exact⟨st.1.at (hk it bz8),st.2.keep (hk d (bz9 _ bz8))⟩
 item:=by
  intro i s Q E lt st hQ;refine turn hh st.1 st.2 (λlt' h' again sb=>?_) λge=>absurd lt (Nat.not_lt.mpr ge)
  exact hQ _ h' s.toks ⟨lt',rfl⟩ ⟨again,st.2.keep λo e=>sb.extBut d o ne e⟩ λb o hb e=>sb.extBut b o (λz=>hb (by0.mpr z)) e
 done:=by
  intro s Q E st hQ;refine turn hh st.1 st.2 (λlt=>absurd lt (bE5 _)) λ_ h' eb=>?_
  exact hQ h' s.toks λb o hb e=>eb b o (λz=>hb (by0.mpr z)) e
 self:=by intro i s Q E st hQ;exact wpAny_pyIter_keyiter st.1 hQ
theorem aJ2 (far:(d==sysModules)=false):KdlSrc prog w "dict" d d es.size (λi v=>∃lt:i<es.size,es[i].key=v) (λh=>iL h d es ep) where
 type:=λ_ x=>x.ty
 there:=λ_ x=>⟨x.lt,x.lt⟩
 keep:=λ_ _ x k=>x.keep (k d (.inl rfl))
 notList:=by decide
 notTuple:=by decide
 hint:=λ_ _ _ _ x q=>kdl_hint_dict x.ty q
 iter:=λ_ _ hh x=>⟨_,_,λ_ _ q=>made far x q,aJ1 hh (bA8 x.lt),⟨_,bz0 _ rfl,rfl,rfl⟩,x.keep λo e=>bx5 _ e⟩
end
end Raw
namespace L2
open PySem PySem.Spec PyProof.Rows
section
variable {X:Cx}{ag:List (ax×Obj)}{σ:St}{H:Hp}{s:aw}{a:ax}
def aJ3 (H:Hp)(y:V)(k:List aG):Prop:=∃q,y = .ref q/\H q=some (.tup (k.map kV))
theorem aJ4 {kvs:List (aG×V)}(I:aA X ag σ H s)(h:H a=some (.dK kvs)):∃es ep,Raw.iL s.heap a es ep/\(a==sysModules)=false/\aX (kvs.map λp=>kV p.1) (es.toList.map (·.key))/\kvs.length<=sizeLine:=by
 obtain⟨z,far,vs,rel,o,es,ep,e1,e2,e3,kk,pr,nd⟩:=(show cV X.prog X.w H s.heap a (.dK kvs) from I.hok a _ h)
 refine⟨es,ep,⟨o,e1,e2,e3⟩,far,?_,z⟩;clear z far e1 e2 e3 kk nd h;generalize es.toList=l at pr
 induction pr generalizing kvs with
 |nil=>cases rel;exact .nil
 |@cons e k es' kvs' h1 h2 _ ih=>
  cases rel with
  |@cons p q ps qs r rs=>
   refine .cons ?_ (ih rs)
   obtain⟨r1,_⟩:=r
   show b7 (kV p.1) e.key;rw[r1];rcases jK h1 with⟨n,t,e4,e5⟩|⟨x,t,e4,e5⟩
   ·rw[e4,e5];exact⟨t,rfl⟩
   ·rw[e4,e5];exact⟨t,rfl⟩
theorem aJ5 {es:Array DictEntry}{acc:Array av}(h:ItemsOf (λi v=>∃lt:i<es.size,es[i].key=v) acc es.size):acc.toList=es.toList.map (·.key):=by
 apply List.ext_getElem?;intro j;have h1:=h.1;by_cases hj:j<es.size
 ·have hj':j<acc.size:=by rw[h1];exact hj
  obtain⟨_,e⟩:=h.2 j acc[j] (by simp[hj'])
  rw[bz1];simp[hj,hj',e]
 ·have hj':¬j<acc.size:=by rw[h1];exact hj
  rw[bz1];simp[Nat.le_of_not_lt hj,Nat.le_of_not_lt hj']
end
def U7 (outer:List (Str×NameKind))(XN:List Str)(names:List (Str×NameKind))(N:List Str)(fr:List (Option Nat)):Bool:=
 names.all (λy=>!(y.2==.cell)||names.lookup y.1==some .cell)&&names.all (λy=>!(y.2==.local)||names.lookup y.1==some .local) &&
 names.all (λy=>!(y.2==.free)||(outer.lookup y.1==some .cell||outer.lookup y.1==some .free))&&fr.length==N.length &&
 (fr.zip N).all (λp=>match p.1 with
  |none=>true
  |some j=>XN[j]?==some p.2&&names.lookup p.2==some .free)
theorem gA.of {X:Cx}{scope:Scope}{N:List Str}{fr:List (Option Nat)}(hk:scope.kind = .function)(h:U7 X.env.scope.names X.N scope.names N fr=true):gA X scope N fr:=by
 unfold U7 at h;simp only[bB4]at h
 obtain⟨⟨⟨⟨h1,h2⟩,h3⟩,h4⟩,h5⟩:=h
 refine⟨hk,λy hy e=>?_,λy hy e=>?_,λy hy e=>?_,by simpa using h4,λi j e=>?_⟩
 ·have:=bH1.mp h1 y hy
  rw[e]at this;simpa using this
 ·have:=bH1.mp h2 y hy
  rw[e]at this;simpa using this
 ·have:=bH1.mp h3 y hy
  rw[e]at this;simpa using this
 ·have hl:fr.length=N.length:=by simpa using h4
  have hi:i<fr.length:=(by4.mp e).1;have m:(some j,N[i]'(by omega))∈fr.zip N:=by
   have:(fr.zip N)[i]? = some (some j,N[i]'(by omega)):=by
    rw[List.getElem?_zip_eq_some]
    exact⟨e,by simp⟩
   exact bH0 this
  have:=bH1.mp h5 _ m
  simp only[bB4,beq_iff_eq]at this
  exact⟨N[i]'(by omega),by simp,this.1,this.2⟩
theorem wk0 {n:Option V}{r:St}{v:V}:Wk (none::r) (some v::r):=(Wk.refl (none::r)).set (i:=0) rfl
def qS (H:Hp)(ys:List V)(ls:aa):Prop:=Paired (λy l=>∃b,y = .ref b/\H b=some (.tup [.int l.1,.int l.2])) ys ls
structure U8 (H:Hp)(v:V)(ws:af)(ls:aa):Prop where
 at_:∃a p q ys,v = .ref a/\H a=some (.tup [.ref p,.ref q])/\H p=some (.tup (ws.map V.int))/\H q=some (.tup ys)/\qS H ys ls
theorem qS.get {H:Hp}:∀{ys:List V}{ls:aa}{i:Nat}{y:V},qS H ys ls->ys[i]? = some y->∃l b,ls[i]? = some l/\y = .ref b/\H b=some (.tup [.int l.1,.int l.2])
 |_,_,_,_,.nil,e=>by simp at e
 |_,_,0,_,.cons (b:=l) ⟨b,h1,h2⟩ _,e=>by simp at e;subst e;exact⟨l,b,rfl,h1,h2⟩
 |_,_,i+1,_,.cons _ t,e=>by
  obtain⟨l,b,h1,h2⟩:=qS.get (i:=i) t (by simpa using e)
  exact⟨l,b,by simpa using h1,h2⟩
def bT (ls:aa)(k:Int):af:=ls.flatMap λl=>(if l.1=k then [l.2] else [])++(if l.2=k then [l.1] else [])
theorem aJ6 (ls:aa)(l:Int×Int)(k:Int):bT (ls++[l]) k=bT ls k++((if l.1=k then [l.2] else [])++(if l.2=k then [l.1] else [])):=by
 unfold bT;rw[List.flatMap_append];simp
theorem yC {ls:aa}{i:Nat}{l:Int×Int}(h:ls[i]? = some l)(k:Int):bT (ls.take (i+1)) k=bT (ls.take i) k++((if l.1=k then [l.2] else [])++(if l.2=k then [l.1] else [])):=by
 rw[bF2,h];exact aJ6 _ _ _
structure kJ (H H':Hp)(r:ax)(bs:List ax)(f:Nat->af):Prop where
 new:H r=none
 news:∀b∈bs,H b=none/\b≠r
 nd:bs.Nodup
 row:H' r=some (.lst (bs.map V.ref))
 rows:∀(k:Nat) (b:ax),bs[k]? = some b->H' b=some (.lst ((f k).map V.int))
 same:aE H H'
theorem kJ.congr {H H':Hp}{r:ax}{bs:List ax}{f g:Nat->af}(h:kJ H H' r bs f)(e:∀k,k<bs.length->f k=g k):kJ H H' r bs g:=
 ⟨h.new,h.news,h.nd,h.row,λk b hb=>by rw[<- e k (by4.mp hb).1];exact h.rows k b hb,h.same⟩
theorem kJ.app {H H':Hp}{r:ax}{bs:List ax}{f:Nat->af}(h:kJ H H' r bs f){k:Nat}{b:ax}(hb:bs[k]? = some b)(x:Int) :
  kJ H (upd H' b (.lst ((f k).map V.int++[V.int x]))) r bs (λj=>if j=k then f j++[x] else f j):=by
 have hm:b∈bs:=bH0 hb;refine⟨h.new,h.news,h.nd,by rw[aH (Ne.symm (h.news b hm).2)];exact h.row,λj c hc=>?_,λc o e=>by rw[aH (dH e (h.news b hm).1)];exact h.same c o e⟩;by_cases hj:j=k
 ·subst hj
  rw[hb]at hc;cases hc;rw[aY,if_pos rfl];simp
 ·rw[if_neg hj]
  have ne:c≠b:=λz=>by
   subst z
   obtain⟨i1,e1⟩:=by4.mp hb
   obtain⟨i2,e2⟩:=by4.mp hc
   refine hj (Nat.le_antisymm (Nat.le_of_not_lt λz=>?_) (Nat.le_of_not_lt λz=>?_))
   ·exact bF4.mp h.nd _ _ i1 i2 z (e1.trans e2.symm)
   ·exact bF4.mp h.nd _ _ i2 i1 z (e2.trans e1.symm)
  rw[aH ne];exact h.rows j c hc
theorem qT (ls:aa)(k:Int):(bT ls k).length<=2*ls.length:=by
 induction ls with
 |nil=>exact bx9 _
 |cons l r ih=>
  have e:bT (l::r) k=((if l.1=k then [l.2] else [])++(if l.2=k then [l.1] else []))++bT r k:=rfl;rw[e,bx8,bx8,bA3];have h1:(if l.1=k then [l.2] else []).length<=1:=by split<;>simp
  have h2:(if l.2=k then [l.1] else []).length<=1:=by split<;>simp
  omega
theorem qU {α:Type}{xs:List α}{i:Int}{v:α}(h0:0<=i)(h:xs[i.toNat]? = some v):atI xs i=some v:=by
 have:=aF1 h
 rwa [show ((i.toNat:Nat):Int)=i by omega]at this
theorem iM {n:Nat}(h:n<=16000000):n<sizeLine:=by rw[sizeLine_eq];omega
theorem tR {σ:St}{H:Hp}{A B:Hp->Prop}(h:A H):xU σ H λb H4=>if b=true then A H4 else B H4:=by
 show if true=true then A H else B H
 rw[if_pos rfl];exact h
theorem o4 {K:ac}{H:Hp}{p:ax}{xs:List V}(h:aR K H p xs):tD K "list" (.ref p) H:=.inl ⟨rfl,xs,h⟩
end L2
namespace Zp
open PySem PyProof.Rows
section
variable {prog:ay}{w:ba}{A:az}{E:av→aw→Prop}{s:aw}
theorem U9 {it t:ax}{i:Nat}{items:Array av}{x:av}{Q:av->aw->Prop}(hi:s.heap.IsTupleIter it t i)(ht:s.heap.IsTuple t items)(hx:items[i]? = some x)(q:∀h',h'.IsTupleIter it t (i+1)->Heap.SameBut it s.heap h'->Q x { s with heap:=h' }):wpAny (model prog w) A (Builtin.SmallTypes.nextOf (.ref it)) Q E s:=by
 have T:=hi.typeIs
 obtain⟨o,e1,e2,e3⟩:=hi
 obtain⟨u,f1,_,k,f3⟩:=ht
 have slot:=PySem.F.slot_tuple_iterator_next;have isref:(Value.ref t==Value.none)=false:=rfl;unfold Builtin.SmallTypes.nextOf;apply bx4;apply bD6 (name:=Str.ofString "__next__") T slot;apply bD9 slot T PySem.F.entry_tuple_iterator_next _ (PySem.F.args_tuple_iterator_next_1 _)
 change wpAny _ _ (field (.ref it) 0 >>= _) _ _ s
 apply bx4;refine bD5 e1 e3 (x:=.ref t) rfl ?_
 change wpAny _ _ (if (Value.ref t==Value.none)=true then _ else _) _ _ s
 simp only[isref,bA6,bF8]
 change wpAny _ _ (field (.ref it) 1 >>= _) _ _ s
 apply bx4;refine bD5 e1 e3 (x:=.int i 0) rfl ?_
 change wpAny _ _ (seqItems? (.ref t) >>= _) _ _ s
 apply bx4;apply bK9 f1 f3;simp only[Int.toNat_natCast,hx];apply bx4;refine wpAny_setField e1 e3 (by simp) ?_;apply by3;refine⟨x,rfl,by3 (q _ ⟨_,Heap.get?_update_self _ e1 (Obj.isFreed_of_fields (Obj.data_mapFields e3 _)),?_,?_⟩ (Heap.SameBut.update ..))⟩
 ·rw[Obj.cls_mapFields];exact e2
 ·rw[Obj.data_mapFields e3];simp[rawInt]
theorem V0 {it t:ax}{i:Nat}{items:Array av}{Q:av->aw->Prop}(hh:A.handled=none)(hi:s.heap.IsTupleIter it t i)(ht:s.heap.IsTuple t items)(hx:items[i]? = none)(q:∀h' e,Heap.ExtBut it s.heap h'->(∃o,h'.get? e=some o/\o.cls = .type "StopIteration")->E (.ref e) { s with heap:=h' }):wpAny (model prog w) A (Builtin.SmallTypes.nextOf (.ref it)) Q E s:=by
 have T:=hi.typeIs
 obtain⟨o,e1,e2,e3⟩:=hi
 obtain⟨u,f1,_,k,f3⟩:=ht
 have slot:=PySem.F.slot_tuple_iterator_next;have isref:(Value.ref t==Value.none)=false:=rfl;unfold Builtin.SmallTypes.nextOf;apply bx4;apply bD6 (name:=Str.ofString "__next__") T slot;apply bD9 slot T PySem.F.entry_tuple_iterator_next _ (PySem.F.args_tuple_iterator_next_1 _)
 change wpAny _ _ (field (.ref it) 0 >>= _) _ _ s
 apply bx4;refine bD5 e1 e3 (x:=.ref t) rfl ?_
 change wpAny _ _ (if (Value.ref t==Value.none)=true then _ else _) _ _ s
 simp only[isref,bA6,bF8]
 change wpAny _ _ (field (.ref it) 1 >>= _) _ _ s
 apply bx4;refine bD5 e1 e3 (x:=.int i 0) rfl ?_
 change wpAny _ _ (seqItems? (.ref t) >>= _) _ _ s
 apply bx4;apply bK9 f1 f3;simp only[Int.toNat_natCast,hx];apply bx4;apply bN1;apply bx4;refine wpAny_setField e1 e3 (by simp) ?_;apply bx4;simp only[newExc,newTuple];apply bx4;refine bF1 ?_ (by size_fits);apply bx4;refine wpAny_of_eq (a:=Value.none) (by first|rfl|(simp only[firstArgMember];rfl)) ?_;refine bF1 ?_ (by size_fits);unfold raiseNew;apply bx4;apply wpAny_handled;have quiet:A.in1.handled=none:=hh;rw[quiet];refine wpAny_throw ?_;exact q _ _ (((Heap.SameBut.update ..).extBut.push _).push _) ⟨_,bz0 _ rfl,rfl⟩
theorem aJ7 (hh:A.handled=none)(it t:ax)(ne:t≠it)(items:Array av):Draws prog w A it [it,t] items.size (λi v=>items[i]? = some v) (λi h=>h.IsTupleIter it t i/\h.IsTuple t items) where
 live:=λ_ _ st=>st.1.elim λo y=>⟨o,y.1⟩
 frame:=λ_ _ _ st k=>⟨st.1.at λo e=>k it bz8 o e,st.2.elim λo y=>⟨o,k t (bz9 _ bz8) o y.1,y.2⟩⟩
 item:=λi s Q E lt st q=>U9 st.1 st.2 (Array.getElem?_eq_getElem lt) λh' again sb=>q _ h' s.toks (Array.getElem?_eq_getElem lt) ⟨again,st.2.elim λo y=>⟨o,sb.extBut t o ne y.1,y.2⟩⟩ sb
 done:=λs Q E st q=>V0 hh st.1 st.2 (Array.getElem?_eq_none (bx9 _)) q
end
structure Ap (z TI TO i1 i2:ax)(fp1 fp2:List ax):Prop where
 TIz:TI≠z
 TOz:TO≠z
 TITO:TI≠TO
 z1:z∉fp1
 z2:z∉fp2
 o1:TO∉fp1
 o2:TO∉fp2
 t1:TI∉fp1
 t2:TI∉fp2
 m1:i1∈fp1
 m2:i2∈fp2
 n1:i1∉fp2
 n2:i2∉fp1
structure yD (z TI TO i1 i2:ax)(St1 St2:Nat->Heap->Prop)(f0:av)(i j:Nat)(h:Heap):Prop where
 zz:IsZip h z TI TO f0
 ti:IsPair h TI (.ref i1) (.ref i2)
 to_:∃a b,IsPair h TO a b
 s1:St1 i h
 s2:St2 j h
section
variable {prog:ay}{w:ba}{A:az}{E:av→aw→Prop}{s:aw}{z TI TO i1 i2:ax}{fp1 fp2:List ax}{n1 n2:Nat}{P1 P2:Nat→av→Prop}{St1 St2:Nat→Heap→Prop}
theorem o7 (ap:Ap z TI TO i1 i2 fp1 fp2){b:ax}(h:b∉fp1):b≠i1:=λe=>h (e▸ap.m1)
theorem tS (ap:Ap z TI TO i1 i2 fp1 fp2){b:ax}(h:b∉fp2):b≠i2:=λe=>h (e▸ap.m2)
theorem item (D1:Draws prog w A.in1 i1 fp1 n1 P1 St1)(D2:Draws prog w A.in1 i2 fp2 n2 P2 St2)(ap:Ap z TI TO i1 i2 fp1 fp2){i:Nat}(l1:i<n1)(l2:i<n2)(st:yD z TI TO i1 i2 St1 St2 .none i i s.heap){Q:Option av->aw->Prop}(q:∀x y h' tk,P1 i x->P2 i y->yD z TI TO i1 i2 St1 St2 (rawInt s.heap.objs.size) (i+1) (i+1) h'->IsPair h' s.heap.objs.size x y->(∀c o,c≠z->c≠TO->c≠i1->c≠i2->s.heap.get? c=some o->h'.get? c=some o)->
   h'.objs.size=s.heap.objs.size+1->Q (some (.ref s.heap.objs.size)) { s with heap:=h',toks:=tk }):wpAny (model prog w) A (pyNext (.ref z)) Q E s:=by
 obtain⟨hz,hti,⟨a,b,hto⟩,h1,h2⟩:=st
 have T:s.TypeIs (.ref z) "zip":=⟨_,hz,rfl⟩;have slot:=PySem.F.slot_zip_next;unfold pyNext;apply bx4;apply wpAny_attempt;apply bD6 (name:=Str.ofString "__next__") T slot;apply bD9 slot T PySem.F.entry_zip_next _ (PySem.F.args_zip_next_1 _)
 change wpAny _ _ (field (.ref z) 2 >>= _) _ _ _
 apply bx4;refine bD5 hz rfl (x:=.bool false) rfl ?_
 change wpAny _ _ (field (.ref z) 3 >>= _) _ _ _
 apply bx4;refine bD5 hz rfl (x:=.ref TI) rfl ?_;apply bx4;apply bK9 hti rfl
 change wpAny _ _ (Builtin.SmallTypes.ownedTupleIsFree (.ref z) >>= _) _ _ _
 apply bx4;unfold Builtin.SmallTypes.ownedTupleIsFree;apply bx4;refine bD5 hz rfl (x:=.none) rfl (by3 ?_);simp only[if_true];apply bx4;apply bN1;apply bx4;refine bD5 hz rfl (x:=.ref TO) rfl ?_;apply bx4;refine bE6 hz (by simp) λg1 hz1 sb1=>?_
 have k1:∀c o,c≠z->s.heap.get? c=some o->g1.get? c=some o:=λc o c1 e=>sb1.extBut c o c1 e
 apply bx4;simp only[List.zipIdx_cons,List.zipIdx_nil,List.forIn_cons,List.forIn_nil];apply bx4;apply bx4;apply wpAny_onRaise
 change wpAny _ _ (Builtin.SmallTypes.nextOf (.ref i1) >>= _) _ _ _
 apply bx4;refine D1.item i { s with heap:=g1 } _ _ l1 (D1.frame _ _ _ h1 λc hc o e=>k1 c o (λy=>ap.z1 (y▸hc)) e) λx g2 tk2 px st1 sb2=>by3 ?_
 have k2:∀c o,c≠z->c≠i1->s.heap.get? c=some o->g2.get? c=some o:=λc o c1 c2 e=>sb2.extBut c o c2 (k1 c o c1 e)
 have to2:IsPair g2 TO a b:=k2 _ _ ap.TOz (o7 ap ap.o1) hto;apply bx4;apply bK9 to2 rfl;apply bx4;refine wpAny_updateSeq_pair to2 λg3 to3 sb3=>?_
 have to3:IsPair g3 TO x b:=to3;apply bx4;apply wpAny_letGo;apply by3;apply bx4;apply bx4;apply wpAny_onRaise
 change wpAny _ _ (Builtin.SmallTypes.nextOf (.ref i2) >>= _) _ _ _
 apply bx4;have k3:∀c o,c≠z->c≠i1->c≠TO->s.heap.get? c=some o->g3.get? c=some o:=λc o c1 c2 c3 e=>sb3.extBut c o c3 (k2 c o c1 c2 e)
 refine D2.item i { s with heap:=g3,toks:=tk2 } _ _ l2 (D2.frame _ _ _ h2 λc hc o e=>k3 c o (λy=>ap.z2 (y▸hc)) (λy=>ap.n1 (y▸hc)) (λy=>ap.o2 (y▸hc)) e) λy g4 tk4 py st2 sb4=>by3 ?_
 have to4:IsPair g4 TO x b:=sb4.extBut _ _ (tS ap ap.o2) to3;apply bx4;apply bK9 to4 rfl;apply bx4;refine wpAny_updateSeq_pair to4 λg5 to5 sb5=>?_
 have to5:IsPair g5 TO x y:=to5;apply bx4;apply wpAny_letGo;apply by3;apply by3;apply bx4;apply bK9 to5 rfl;apply bx4;refine wpAny_newTuple ?_ (by show 2<=sizeLine;decide);have size:g5.objs.size=s.heap.objs.size:=by rw[sb5.1,sb4.1,sb3.1,sb2.1,sb1.1]
 have k5:∀c o,c≠z->c≠TO->c≠i1->c≠i2->s.heap.get? c=some o->g5.get? c=some o:=λc o c1 c2 c3 c4 e=>sb5.extBut c o c2 (sb4.extBut c o c4 (k3 c o c1 c3 c2 e))
 have z5:IsZip g5 z TI TO .ellipsis:=sb5.extBut _ _ (Ne.symm ap.TOz) (sb4.extBut _ _ (tS ap ap.z2) (sb3.extBut _ _ (Ne.symm ap.TOz) (sb2.extBut _ _ (o7 ap ap.z1) hz1)))
 change wpAny _ _ (Builtin.SmallTypes.ownedTupleHandOut (.ref z) (.ref g5.objs.size) >>= _) _ _ _
 apply bx4;unfold Builtin.SmallTypes.ownedTupleHandOut;apply bx4;have z6:IsZip (g5.push { cls:=.type "tuple",data:=.seq #[x,y] }) z TI TO .ellipsis:=bx5 _ z5;refine bE6 z6 (by simp) λg7 z7 sb7=>?_
 have z7:IsZip g7 z TI TO (rawInt g5.objs.size):=z7;refine bE6 z7 (by simp) λg8 z8 sb8=>?_
 have z8:IsZip g8 z TI TO (rawInt g5.objs.size):=z8;have zlt:z<g5.objs.size:=by8 z5;have up:∀c o,c≠z->g5.get? c=some o->g8.get? c=some o:=λc o c1 e=>sb8.extBut c o c1 (sb7.extBut c o c1 (bx5 _ e))
 have p8:IsPair g8 g5.objs.size x y:=sb8.extBut _ _ (bG4 zlt) (sb7.extBut _ _ (bG4 zlt) (bz0 _ rfl));have s8:g8.objs.size=g5.objs.size+1:=by rw[sb8.1,sb7.1,bF7]
 have f1:St1 (i+1) g8:=D1.frame _ _ _ st1 λc hc o e=>up c o (λy=>ap.z1 (y▸hc)) (sb5.extBut c o (λy=>ap.o1 (y▸hc)) (sb4.extBut c o (λy=>ap.n2 (y▸hc)) (sb3.extBut c o (λy=>ap.o1 (y▸hc)) e)))
 have f2:St2 (i+1) g8:=D2.frame _ _ _ st2 λc hc o e=>up c o (λy=>ap.z2 (y▸hc)) (sb5.extBut c o (λy=>ap.o2 (y▸hc)) e)
 have ti8:IsPair g8 TI (.ref i1) (.ref i2):=up _ _ ap.TIz (k5 _ _ ap.TIz ap.TITO (o7 ap ap.t1) (tS ap ap.t2) hti);rw[size]at z8 p8 s8;apply by3;refine⟨_,rfl,by3 ?_⟩
 change Q (some (.ref g5.objs.size)) _
 rw[size];exact q x y g8 tk4 px py ⟨z8,ti8,⟨x,y,up _ _ ap.TOz to5⟩,f1,f2⟩ p8 (λc o c1 c2 c3 c4 e=>up c o c1 (k5 c o c1 c2 c3 c4 e)) s8
theorem fin (D1:Draws prog w A.in1 i1 fp1 n1 P1 St1)(D2:Draws prog w A.in1 i2 fp2 n2 P2 St2)(ap:Ap z TI TO i1 i2 fp1 fp2){i:Nat}(le:i=n1∨(i<n1/\i=n2))(st:yD z TI TO i1 i2 St1 St2 .none i i s.heap){Q:Option av->aw->Prop}(q:∀h' tk,(∀c o,c≠z->c≠TO->c≠i1->c≠i2->s.heap.get? c=some o->h'.get? c=some o)->Q none { s with heap:=h',toks:=tk }):wpAny (model prog w) A (pyNext (.ref z)) Q E s:=by
 obtain⟨hz,hti,⟨a,b,hto⟩,h1,h2⟩:=st
 have T:s.TypeIs (.ref z) "zip":=⟨_,hz,rfl⟩;have slot:=PySem.F.slot_zip_next;unfold pyNext;apply bx4;apply wpAny_attempt;apply bD6 (name:=Str.ofString "__next__") T slot;apply bD9 slot T PySem.F.entry_zip_next _ (PySem.F.args_zip_next_1 _)
 change wpAny _ _ (field (.ref z) 2 >>= _) _ _ _
 apply bx4;refine bD5 hz rfl (x:=.bool false) rfl ?_
 change wpAny _ _ (field (.ref z) 3 >>= _) _ _ _
 apply bx4;refine bD5 hz rfl (x:=.ref TI) rfl ?_;apply bx4;apply bK9 hti rfl
 change wpAny _ _ (Builtin.SmallTypes.ownedTupleIsFree (.ref z) >>= _) _ _ _
 apply bx4;unfold Builtin.SmallTypes.ownedTupleIsFree;apply bx4;refine bD5 hz rfl (x:=.none) rfl (by3 ?_);simp only[if_true];apply bx4;apply bN1;apply bx4;refine bD5 hz rfl (x:=.ref TO) rfl ?_;apply bx4;refine bE6 hz (by simp) λg1 hz1 sb1=>?_
 have k1:∀c o,c≠z->s.heap.get? c=some o->g1.get? c=some o:=λc o c1 e=>sb1.extBut c o c1 e
 apply bx4;simp only[List.zipIdx_cons,List.zipIdx_nil,List.forIn_cons,List.forIn_nil];apply bx4;apply bx4;apply wpAny_onRaise
 change wpAny _ _ (Builtin.SmallTypes.nextOf (.ref i1) >>= _) _ _ _
 apply bx4;have z1:IsZip g1 z TI TO .ellipsis:=hz1;rcases le with rfl|⟨lt,rfl⟩
 ·refine D1.done { s with heap:=g1 } _ _ (D1.frame _ _ _ h1 λc hc o e=>k1 c o (λy=>ap.z1 (y▸hc)) e) λg2 e eb ex=>?_
  have z2:IsZip g2 z TI TO .ellipsis:=eb _ _ (o7 ap ap.z1) z1;refine bE6 z2 (by simp) λg3 z3 sb3=>?_
  obtain⟨oe,eo,co⟩:=ex
  have ne:e≠z:=λy=>by
   rw[y,z2]at eo
   have:=bz3 eo
   rw[<- this]at co;exact absurd (show Value.type "zip" = Value.type "StopIteration" from co) (by decide)
  apply bx4;refine wpAny_isInstance (T:="StopIteration") (b:=true) ⟨oe,sb3.extBut _ _ ne eo,co⟩ isSubtype_stop ?_;exact by3 (q g3 s.toks λc o c1 _ c3 _ e=>sb3.extBut c o c1 (eb c o c3 (k1 c o c1 e)))
 ·refine D1.item i { s with heap:=g1 } _ _ lt (D1.frame _ _ _ h1 λc hc o e=>k1 c o (λy=>ap.z1 (y▸hc)) e) λx g2 tk2 px st1 sb2=>by3 ?_
  have k2:∀c o,c≠z->c≠i1->s.heap.get? c=some o->g2.get? c=some o:=λc o c1 c2 e=>sb2.extBut c o c2 (k1 c o c1 e)
  have to2:IsPair g2 TO a b:=k2 _ _ ap.TOz (o7 ap ap.o1) hto;apply bx4;apply bK9 to2 rfl;apply bx4;refine wpAny_updateSeq_pair to2 λg3 to3 sb3=>?_
  apply bx4;apply wpAny_letGo;apply by3;apply bx4;apply bx4;apply wpAny_onRaise
  change wpAny _ _ (Builtin.SmallTypes.nextOf (.ref i2) >>= _) _ _ _
  apply bx4;have k3:∀c o,c≠z->c≠i1->c≠TO->s.heap.get? c=some o->g3.get? c=some o:=λc o c1 c2 c3 e=>sb3.extBut c o c3 (k2 c o c1 c2 e)
  refine D2.done { s with heap:=g3,toks:=tk2 } _ _ (D2.frame _ _ _ h2 λc hc o e=>k3 c o (λy=>ap.z2 (y▸hc)) (λy=>ap.n1 (y▸hc)) (λy=>ap.o2 (y▸hc)) e) λg4 e eb ex=>?_
  have z4:IsZip g4 z TI TO .ellipsis:=eb _ _ (tS ap ap.z2) (sb3.extBut _ _ (Ne.symm ap.TOz) (sb2.extBut _ _ (o7 ap ap.z1) z1));refine bE6 z4 (by simp) λg5 z5 sb5=>?_
  obtain⟨oe,eo,co⟩:=ex
  have ne:e≠z:=λy=>by
   rw[y,z4]at eo
   have:=bz3 eo
   rw[<- this]at co;exact absurd (show Value.type "zip" = Value.type "StopIteration" from co) (by decide)
  apply bx4;refine wpAny_isInstance (T:="StopIteration") (b:=true) ⟨oe,sb5.extBut _ _ ne eo,co⟩ isSubtype_stop ?_;exact by3 (q g5 tk2 λc o c1 c2 c3 c4 e=>sb5.extBut c o c1 (eb c o c4 (k3 c o c1 c3 c2 e)))
end
def i4 (h:Heap)(t u:ax):Heap:=
 ((((h.push { cls:=.type "tuple_iterator",data:=.fields #[.ref t,.int 0 0] }).push { cls:=.type "tuple_iterator",data:=.fields #[.ref u,.int 0 0] }).push { cls:=.type "tuple",data:=.seq #[.ref h.objs.size,.ref (h.objs.size+1)] }).push
  { cls:=.type "tuple",data:=.seq #[.none,.none] }).push { cls:=.type "zip",data:=.fields #[.none,.bool false,.bool false,.ref (h.objs.size+2),.ref (h.objs.size+3)] }
theorem aJ8 (t u:ax)(xs ys:Array av):Meets (Builtin.«zip.__new__» ⟨[.type "zip",.ref t,.ref u],[]⟩) (λ_ R s=>s.heap.IsTuple t xs/\s.heap.IsTuple u ys/\R (.ok (.ret (.ref (s.heap.objs.size+4)))) { s with heap:=i4 s.heap t u }):=
 .of_wp λprog w A R s h=>by
  obtain⟨hp,g,d,tk,os⟩:=s
  obtain⟨ht,hu,h⟩:=h
  have sub:=sub_zip;have a1:Heap.IsTuple (Shared.heap ⟨hp,g,d,tk,os⟩) t xs:=ht;have a2:Heap.IsTuple (Shared.heap ⟨hp.push { cls:=.type "tuple_iterator",data:=.fields #[.ref t,.int 0 0] },g,d,tk,os⟩) u ys:=hu.elim λo y=>⟨o,bx5 _ y.1,y.2⟩
  wp_walk using bI9 a1,bI9 a2
  have e:∀(o:Obj) (k:Heap),(k.push o).objs.size=k.objs.size+1:=λo k=>bF7 ..
  refine⟨_,rfl,?_⟩;simp only[i4,e]at h ⊢;exact h
section
variable {prog:ay}{w:ba}{A:az}{E:av→aw→Prop}{s:aw}
theorem aJ9 {t u:ax}{xs ys:Array av}{Q:av->aw->Prop}(ht:s.heap.IsTuple t xs)(hu:s.heap.IsTuple u ys)(q:∀h',IsZip h' (s.heap.objs.size+4) (s.heap.objs.size+2) (s.heap.objs.size+3) .none->IsPair h' (s.heap.objs.size+2) (.ref s.heap.objs.size) (.ref (s.heap.objs.size+1))->
   IsPair h' (s.heap.objs.size+3) .none .none->h'.IsTupleIter s.heap.objs.size t 0->h'.IsTupleIter (s.heap.objs.size+1) u 0->(∀c o,s.heap.get? c=some o->h'.get? c=some o)->Q (.ref (s.heap.objs.size+4)) { s with heap:=h' }) :
  wpAny (model prog w) A (call (.type "zip") [.ref t,.ref u]) Q E s:=by
 refine callType_new PySem.F.called_zip (by decide) (PySem.F.typeCall_zip_2 _ _) (PySem.F.newCall_zip_2 _ _) (λobj=>PySem.F.args_object_init_3 obj _ _) PySem.F.entry_zip_new (aJ8 t u xs ys) ⟨ht,hu,?_⟩;have e:∀(o:Obj) (k:Heap),(k.push o).objs.size=k.objs.size+1:=λo k=>bF7 ..
 have p0:∀(k:Heap) (o:Obj) (m:Nat),o.isFreed=false->m=k.objs.size->(k.push o).get? m=some o:=λk o m f z=>by rw[z];exact bz0 _ f
 have g0:(i4 s.heap t u).get? s.heap.objs.size=some { cls:=.type "tuple_iterator",data:=.fields #[.ref t,.int 0 0] }:=by
  unfold i4;exact bx5 _ (bx5 _ (bx5 _ (bx5 _ (p0 _ _ _ rfl rfl))))
 have g1:(i4 s.heap t u).get? (s.heap.objs.size+1)=some { cls:=.type "tuple_iterator",data:=.fields #[.ref u,.int 0 0] }:=by
  unfold i4;exact bx5 _ (bx5 _ (bx5 _ (p0 _ _ _ rfl (by simp only[e]))))
 have g2:(i4 s.heap t u).get? (s.heap.objs.size+2)=some { cls:=.type "tuple",data:=.seq #[.ref s.heap.objs.size,.ref (s.heap.objs.size+1)] }:=by
  unfold i4;exact bx5 _ (bx5 _ (p0 _ _ _ rfl (by simp only[e])))
 have g3:(i4 s.heap t u).get? (s.heap.objs.size+3)=some { cls:=.type "tuple",data:=.seq #[.none,.none] }:=by
  unfold i4;exact bx5 _ (p0 _ _ _ rfl (by simp only[e]))
 have g4:(i4 s.heap t u).get? (s.heap.objs.size+4)=some { cls:=.type "zip",data:=.fields #[.none,.bool false,.bool false,.ref (s.heap.objs.size+2),.ref (s.heap.objs.size+3)] }:=by
  unfold i4;exact p0 _ _ _ rfl (by simp only[e])
 refine⟨⟨_,g4,rfl⟩,q _ g4 g2 g3 ⟨_,g0,rfl,rfl⟩ ⟨_,g1,rfl,rfl⟩ λc o z=>?_⟩;unfold i4;exact bx5 _ (bx5 _ (bx5 _ (bx5 _ (bx5 _ z))))
end
end Zp
namespace L2
open PySem PySem.Spec PyProof.Rows
def yE (K:ac)(a b:ax):It:=
  ⟨λi H=>∃xs ys x y,aS K H a xs/\aS K H b ys/\xs[i]? = some x/\ys[i]? = some y,
   λi H v H'=>∃T x y,H T=none/\v = .ref T/\H'=upd H T (.tup [x,y])/\∀xs ys,aS K H a xs->aS K H b ys->xs[i]? = some x/\ys[i]? = some y,
   λi H=>∃xs ys,aS K H a xs/\aS K H b ys/\(i=xs.length∨(i<xs.length/\i=ys.length))⟩
def Sq (t:Bool)(K:ac)(H:Hp)(a:ax)(xs:List V):Prop:=match t with
 |true=>aS K H a xs
 |false=>aR K H a xs
def i5 (t:Bool)(h:Heap)(i a:ax)(n:Nat):Prop:=match t with
 |true=>h.IsTupleIter i a n
 |false=>h.IsListIter i a n
def V1 (t:Bool)(h:Heap)(a:ax)(xs:Array av):Prop:=match t with
 |true=>h.IsTuple a xs
 |false=>h.IsList a xs
theorem i5.at {h h':Heap}{i a:ax}{n:Nat}:∀{t:Bool},i5 t h i a n->(∀o,h.get? i=some o->h'.get? i=some o)->i5 t h' i a n
 |true,x,k=>Heap.IsTupleIter.at x k
 |false,x,k=>Heap.IsListIter.at x k
theorem i5.ob {h:Heap}{i a:ax}{n:Nat}:∀{t:Bool},i5 t h i a n->∃o,h.get? i=some o/\∀v,o.data≠.cell v
 |true,⟨o,f,_,d⟩=>⟨o,f,λv q=>by rw[d]at q;cases q⟩
 |false,⟨o,f,_,d⟩=>⟨o,f,λv q=>by rw[d]at q;cases q⟩
theorem i5.draws {prog:ay}{w:ba}{A:az}:∀(t:Bool) (hh:A.handled=none) (it a:ax) (ne:a≠it) (items:Array av),Draws prog w A it [it,a] items.size (λi v=>items[i]? = some v) (λi h=>i5 t h it a i/\V1 t h a items)
 |true,hh,it,a,ne,items=>Zp.aJ7 hh it a ne items
 |false,hh,it,a,ne,items=>Draws.list hh it a ne items
section
variable {X:Cx}{ag:List (ax×Obj)}{σ:St}{H:Hp}{s:aw}{a:ax}{xs ys:List V}
theorem Sq.get (I:aA X ag σ H s):∀{t:Bool},Sq t X.K H a xs->∃us,aX xs us/\V1 t s.heap a us.toArray
 |true,h=>by obtain⟨us,r,p,_⟩:=I.tuple h;exact⟨us,r,p⟩
 |false,h=>by obtain⟨us,r,p,_⟩:=I.list h;exact⟨us,r,p.isList⟩
theorem Sq.inj (I:aA X ag σ H s):∀{t:Bool},Sq t X.K H a xs->Sq t X.K H a ys->xs=ys
 |true,h,g=>I.tuple_inj h g
 |false,h,g=>I.list_inj h g
theorem Sq.off (I:aA X ag σ H s)(he:H a=none)(hb:X.base.get? a=none):∀{t:Bool},Sq t X.K H a xs->False
 |true,h=>by
  rcases h with (h|⟨_,h⟩)|⟨o,_,_,h,_⟩
  ·rw[he]at h;cases h
  ·rw[he]at h;cases h
  ·have:=I.ok.mod.kin a o h
   rw[hb]at this;cases this
 |false,h=>by
  rcases h with (h|⟨_,h⟩)|⟨o,_,_,h,_⟩
  ·rw[he]at h;cases h
  ·rw[he]at h;cases h
  ·have:=I.ok.mod.kin a o h
   rw[hb]at this;cases this
end
def aK0 (t1 t2:Bool)(K:ac)(a b:ax):It:=
  ⟨λi H=>∃xs ys x y,Sq t1 K H a xs/\Sq t2 K H b ys/\xs[i]? = some x/\ys[i]? = some y,
   λi H v H'=>∃T x y,H T=none/\v = .ref T/\H'=upd H T (.tup [x,y])/\∀xs ys,Sq t1 K H a xs->Sq t2 K H b ys->xs[i]? = some x/\ys[i]? = some y,
   λi H=>∃xs ys,Sq t1 K H a xs/\Sq t2 K H b ys/\(i=xs.length∨(i<xs.length/\i=ys.length))⟩
structure yF (t1 t2:Bool)(z TI TO i1 i2 a b:ax)(i:Nat)(h:Heap):Prop where
 zz:IsZip h z TI TO .none
 ti:IsPair h TI (.ref i1) (.ref i2)
 to_:∃x y,IsPair h TO x y
 s1:i5 t1 h i1 a i
 s2:i5 t2 h i2 b i
theorem V2 (t1 t2:Bool){P:ay}{w:ba}{K:ac}{elts:List Expr}{k:Nat}{pos:Pos}(a b z TI TO i1 i2:ax)(d:[z,TI,TO,i1,i2].Nodup) :
  jN P w K (.Tuple elts k pos) (aK0 t1 t2 K a b) [z,TI,TO,i1,i2] z (yF t1 t2 z TI TO i1 i2 a b):=by
 have nd:z≠TI/\z≠TO/\z≠i1/\z≠i2/\TI≠TO/\TI≠i1/\TI≠i2/\TO≠i1/\TO≠i2/\i1≠i2:=by
  simp only[List.nodup_cons,by2,bz2,bC3,not_or]at d
  obtain⟨⟨a1,a2,a3,a4⟩,⟨b1,b2,b3⟩,⟨c1,c2⟩,e1,_⟩:=d
  exact⟨a1,a2,a3,a4,b1,b2,b3,c1,c2,e1⟩
 obtain⟨n1,n2,n3,n4,n5,n6,n7,n8,n9,n10⟩:=nd
 have offBase:∀{X:Cx}{ag:List (ax×Obj)}{σ:St}{H:Hp}{s:aw},aA X ag σ H s->(∀c∈[z,TI,TO,i1,i2],iG X ag H c)->∀c∈[z,TI,TO,i1,i2],X.base.get? c=none:=by
  intro X ag σ H s I hf c hc;cases q:X.base.get? c with
  |none=>rfl
  |some o=>
   rcases (hf c hc).2.2.2.1 with h|h
   ·exact absurd h (I.ok.noex c o q)
   ·exact absurd (bz6 (by8 q) (bA9 I.ok.bsz h)) (bE5 _)
 have off:∀{t:Bool}{X:Cx}{ag:List (ax×Obj)}{σ:St}{H:Hp}{s:aw}{c:ax}{zs:List V},aA X ag σ H s->(∀c∈[z,TI,TO,i1,i2],iG X ag H c)->Sq t X.K H c zs->c∉[z,TI,TO,i1,i2]:=by
  intro t X ag σ H s c zs I hf hc hm;exact Sq.off I (hf c hm).1 (offBase I hf c hm) hc
 have ap:∀{c e:ax},c∉[z,TI,TO,i1,i2]->e∉[z,TI,TO,i1,i2]->Zp.Ap z TI TO i1 i2 [i1,c] [i2,e]:=λ{c e} hc he=>by
  simp only[by2,bz2,bC3,not_or]at hc he
  obtain⟨c1,c2,c3,c4,c5⟩:=hc
  obtain⟨e1,e2,e3,e4,e5⟩:=he
  have two:∀{q u v:ax},q≠u->q≠v->q∉[u,v]:=λ{q u v} h1 h2 hm=>by
   simp only[by2,bz2,bC3]at hm;exact hm.elim h1 h2
  exact⟨n1.symm,n2.symm,n5,two n3 (Ne.symm c1),two n4 (Ne.symm e1),two n8 (Ne.symm c3),two n9 (Ne.symm e3),two n6 (Ne.symm c2),two n7 (Ne.symm e2),bz8,bz8,two n10 (Ne.symm e4),two n10.symm (Ne.symm c5)⟩
 refine⟨by simp,λi h st c hc=>?_,λi h h' st kp=>?_,?_,?_,λA i s Q E st q=>wpAny_pyIter_zip st.zz q⟩
 ·simp only[by2,bz2,bC3]at hc
  obtain⟨x,y,to⟩:=st.to_
  rcases hc with rfl|rfl|rfl|rfl|rfl
  ·exact⟨_,st.zz,λv q=>by cases q⟩
  ·exact⟨_,st.ti,λv q=>by cases q⟩
  ·exact⟨_,to,λv q=>by cases q⟩
  ·exact st.s1.ob
  ·exact st.s2.ob
 ·obtain⟨x,y,to⟩:=st.to_
  exact⟨kp z (by simp) _ st.zz,kp TI (by simp) _ st.ti,⟨x,y,kp TO (by simp) _ to⟩,st.s1.at λo e=>kp i1 (by simp) o e,st.s2.at λo e=>kp i2 (by simp) o e⟩
 ·
  intro X hP hw hK hc i ag s σ H E I hf st hg;subst hP hw hK
  obtain⟨xs,ys,x,y,ha,hb,hx,hy⟩:=hg
  obtain⟨us,ru,pu⟩:=Sq.get I ha
  obtain⟨vs,rv,pv'⟩:=Sq.get I hb
  obtain⟨ux,eux,rux⟩:=ru.get hx
  obtain⟨vy,evy,rvy⟩:=rv.get hy
  have fa:=off I hf ha;have fb:=off I hf hb;have hh:X.A.in1.handled=none:=I.ok.hd hc;have l1:i<us.toArray.size:=by simpa using (by4.mp eux).1
  have l2:i<vs.toArray.size:=by simpa using (by4.mp evy).1
  have fa':a≠i1:=λq=>fa (by rw[q];simp)
  have fb':b≠i2:=λq=>fb (by rw[q];simp)
  have D1:=i5.draws t1 (prog:=X.prog) (w:=X.w) hh i1 a fa' us.toArray;have D2:=i5.draws t2 (prog:=X.prog) (w:=X.w) hh i2 b fb' vs.toArray;refine Zp.item D1 D2 (ap fa fb) l1 l2 ⟨st.zz,st.ti,st.to_,⟨st.s1,pu⟩,⟨st.s2,pv'⟩⟩ λp q h' tk hp hq st' pr kp sz=>⟨_,rfl,?_⟩
  obtain rfl:p=ux:=by
   have:us.toArray[i]? = some ux:=by simpa using eux
   rw[this]at hp;exact (bz3 hp).symm
  obtain rfl:q=vy:=by
   have:vs.toArray[i]? = some vy:=by simpa using evy
   rw[this]at hq;exact (bz3 hq).symm
  refine wpAny_letOwnedTupleGo_zip (s:={ s with heap:=h',toks:=tk }) st'.zz λg zz sb=>?_
  have hzl:z<s.heap.objs.size:=by8 st.zz;have up:∀c o,c≠z->c≠TO->c≠i1->c≠i2->s.heap.get? c=some o->g.get? c=some o:=λc o c1 c2 c3 c4 e=>sb.extBut c o c1 (kp c o c1 c2 c3 c4 e)
  have hT:H s.heap.objs.size=none:=I.hok.fresh (bx9 _);have prG:IsPair g s.heap.objs.size p q:=sb.extBut _ _ (bG4 hzl) pr;have fpn:∀c u,H c=some u->c∉[z,TI,TO,i1,i2]:=λc u e hm=>by rw[(hf c hm).1]at e;cases e
  have upH:∀c o u,H c=some u->s.heap.get? c=some o->g.get? c=some o:=λc o u e z=>by
   have:=fpn c u e
   simp only[by2,bz2,bC3,not_or]at this;exact up c o this.1 this.2.2.1 this.2.2.2.1 this.2.2.2.2 z
  have ns:∀m,s.heap.Ns X.env.locals m->g.Ns X.env.locals m:=λm hm=>by
   obtain⟨o,es,ep,e1,e2⟩:=hm
   exact⟨o,es,ep,up _ o (Ne.symm (hf z (by simp)).2.1) (Ne.symm (hf TO (by simp)).2.1) (Ne.symm (hf i1 (by simp)).2.1) (Ne.symm (hf i2 (by simp)).2.1) e1,e2⟩
  have I2:aA X ag σ (upd H s.heap.objs.size (.tup [x,y])) { s with heap:=g,toks:=tk }:=by
   refine I.step (g':=s.gens) (d':=s.drawn) (ch:=[z,TO,i1,i2]) (λc hc'=>?_) (λc o _ _ hc' e _=>?_) (λc o _ _ hc' e _=>⟨o.slots,?_⟩) (λc o _ e n=>?_) (λc o hc' e=>⟨o,?_⟩)
    (λc zs e=>by rw[aH (dH e hT)];exact e) (λc u zs e=>by rw[aH (dH e hT)];exact e) (λc ps e=>⟨#[],by rw[aH (dH e hT),e];simp⟩) ns (λc u e=>?_) I.bare
   ·have hm:c∈[z,TI,TO,i1,i2]:=by
     simp only[by2,bz2,bC3]at hc' ⊢;rcases hc' with h|h|h|h<;>simp[h]
    exact⟨(hf c hm).2.2.2.1,(hf c hm).2.1,(hf c hm).2.2.2.2.1,(hf c hm).2.2.2.2.2⟩
   ·simp only[by2,bz2,bC3,not_or]at hc'
    exact up c o hc'.1 hc'.2.1 hc'.2.2.1 hc'.2.2.2 e
   ·simp only[by2,bz2,bC3,not_or]at hc'
    exact up c o hc'.1 hc'.2.1 hc'.2.2.1 hc'.2.2.2 e
   ·rw[aH (bA8 (by8 e))];exact n
   ·simp only[by2,bz2,bC3,not_or]at hc'
    exact up c o hc'.1 hc'.2.1 hc'.2.2.1 hc'.2.2.2 e
   ·by_cases hcT:c=s.heap.objs.size
    ·subst hcT
     rw[aY]at e;cases e
     exact⟨by show 2<=sizeLine;decide,[p,q],.cons rux (.cons rvy .nil),⟨_,prG,rfl,_,rfl⟩,λu e=>by rw[prG]at e;cases e;rfl⟩
    ·rw[aH hcT]at e
     refine (I.hok c u e).stay (λc' o' hc2 q'=>?_) (λc' q'=>by rw[aH (dH q' hT)];exact q') λc' zs q'=>by rw[aH (dH q' hT)];exact q'
     rcases hc2 with rfl|hc2
     ·exact upH _ _ _ e q'
     ·exact upH _ _ _ hc2 q'
  obtain⟨x',y',to'⟩:=st'.to_
  refine⟨.ref s.heap.objs.size,_,I2,rfl,⟨_,x,y,hT,rfl,rfl,λxs' ys' ha' hb'=>?_⟩,⟨zz,sb.extBut _ _ n1.symm st'.ti,⟨x',y',sb.extBut _ _ n2.symm to'⟩,st'.s1.1.at λo e=>sb.extBut _ o n3.symm e,st'.s2.1.at λo e=>sb.extBut _ o n4.symm e⟩,λc hc'=>?_⟩
  ·rw[Sq.inj I ha' ha,Sq.inj I hb' hb];exact⟨hx,hy⟩
  ·obtain⟨o,e,_⟩:∃o,s.heap.get? c=some o/\True:=by
    simp only[by2,bz2,bC3]at hc'
    obtain⟨x2,y2,to2⟩:=st.to_
    obtain⟨o1,f1,_⟩:=st.s1.ob
    obtain⟨o2,f2,_⟩:=st.s2.ob
    rcases hc' with rfl|rfl|rfl|rfl|rfl
    ·exact⟨_,st.zz,trivial⟩
    ·exact⟨_,st.ti,trivial⟩
    ·exact⟨_,to2,trivial⟩
    ·exact⟨_,f1,trivial⟩
    ·exact⟨_,f2,trivial⟩
   rw[aH (bA8 (by8 e))];exact (hf c hc').1
 ·
  intro X hP hw hK hc i ag s σ H E I hf st hg;subst hP hw hK
  obtain⟨xs,ys,ha,hb,hi⟩:=hg
  obtain⟨us,ru,pu⟩:=Sq.get I ha
  obtain⟨vs,rv,pv'⟩:=Sq.get I hb
  have fa:=off I hf ha;have fb:=off I hf hb;have hh:X.A.in1.handled=none:=I.ok.hd hc;have fa':a≠i1:=λq=>fa (by rw[q];simp)
  have fb':b≠i2:=λq=>fb (by rw[q];simp)
  have D1:=i5.draws t1 (prog:=X.prog) (w:=X.w) hh i1 a fa' us.toArray;have D2:=i5.draws t2 (prog:=X.prog) (w:=X.w) hh i2 b fb' vs.toArray;have e1:=ru.length;have e2:=rv.length;refine Zp.fin D1 D2 (ap fa fb) (by simp only[bx6];omega) ⟨st.zz,st.ti,st.to_,⟨st.s1,pu⟩,⟨st.s2,pv'⟩⟩ λg tk kp=>⟨rfl,?_⟩
  have fpn:∀c u,H c=some u->c∉[z,TI,TO,i1,i2]:=λc u e hm=>by rw[(hf c hm).1]at e;cases e
  have upH:∀c o u,H c=some u->s.heap.get? c=some o->g.get? c=some o:=λc o u e z=>by
   have:=fpn c u e
   simp only[by2,bz2,bC3,not_or]at this;exact kp c o this.1 this.2.2.1 this.2.2.2.1 this.2.2.2.2 z
  have ns:∀m,s.heap.Ns X.env.locals m->g.Ns X.env.locals m:=λm hm=>by
   obtain⟨o,es,ep,e1,e2⟩:=hm
   exact⟨o,es,ep,kp _ o (Ne.symm (hf z (by simp)).2.1) (Ne.symm (hf TO (by simp)).2.1) (Ne.symm (hf i1 (by simp)).2.1) (Ne.symm (hf i2 (by simp)).2.1) e1,e2⟩
  refine I.step (g':=s.gens) (d':=s.drawn) (ch:=[z,TO,i1,i2]) (λc hc'=>?_) (λc o _ _ hc' e _=>?_) (λc o _ _ hc' e _=>⟨o.slots,?_⟩) (λc o _ e n=>n) (λc o hc' e=>⟨o,?_⟩)
   (λc zs e=>e) (λc u zs e=>e) (λc ps e=>⟨#[],by rw[e];simp⟩) ns (λc u e=>?_) I.bare
  ·have hm:c∈[z,TI,TO,i1,i2]:=by
    simp only[by2,bz2,bC3]at hc' ⊢;rcases hc' with h|h|h|h<;>simp[h]
   exact⟨(hf c hm).2.2.2.1,(hf c hm).2.1,(hf c hm).2.2.2.2.1,(hf c hm).2.2.2.2.2⟩
  ·simp only[by2,bz2,bC3,not_or]at hc'
   exact kp c o hc'.1 hc'.2.1 hc'.2.2.1 hc'.2.2.2 e
  ·simp only[by2,bz2,bC3,not_or]at hc'
   exact kp c o hc'.1 hc'.2.1 hc'.2.2.1 hc'.2.2.2 e
  ·simp only[by2,bz2,bC3,not_or]at hc'
   exact kp c o hc'.1 hc'.2.1 hc'.2.2.1 hc'.2.2.2 e
  ·refine (I.hok c u e).stay (λc' o' hc2 q'=>?_) (λ_ q'=>q') λ_ _ q'=>q'
   rcases hc2 with rfl|hc2
   ·exact upH _ _ _ e q'
   ·exact upH _ _ _ hc2 q'
abbrev aK1:=yF true true
theorem aK2 {P:ay}{w:ba}{K:ac}{elts:List Expr}{k:Nat}{pos:Pos}(a b z TI TO i1 i2:ax)(d:[z,TI,TO,i1,i2].Nodup) :
  jN P w K (.Tuple elts k pos) (yE K a b) [z,TI,TO,i1,i2] z (aK1 z TI TO i1 i2 a b):=V2 true true a b z TI TO i1 i2 d
section
variable {X:Cx}
def aK3 (K:ac)(ta:TA):TI:=λσ H R=>ta σ H λvs H1=>∃a b xs ys,vs = [.ref a,.ref b]/\aS K H1 a xs/\aS K H1 b ys/\R (yE K a b) H1
theorem aK4 {elts:List Expr}{kt:Nat}{pt:Pos}{a b:Expr}{ta:TA}{p pos:Pos}(hg:Gl X "zip")(hm:X.mg "zip" = none)(ha:PA X [a,b] ta)(hs:starEach [a,b] X.env = [(false,eval a X.env),(false,eval b X.env)]:=by rfl)(hs2:starEach [b] X.env = [(false,eval b X.env)]:=by rfl) :
  PI X (.Tuple elts kt pt) (.Call (.Name "zip" p) [a,b] [] pos) (aK3 X.K ta):=by
 intro ag s σ H R I h;refine Call_ (mH I hg hm PyProof.Rows.boot_zip (bG5 (aP (ha pos ag s σ H _ I h) λus s1 ⟨vs,H1,I1,r1,q1⟩=>?_) (by rw[hs,hs2]) (by rw[hs2];rfl)))
 obtain⟨a',b',xs,ys,e,h1,h2,q⟩:=q1
 subst e;cases r1 with
 |cons r rr=>
  cases rr with
  |cons r' rr=>
   cases rr;cases r;cases r'
   obtain⟨us,_,p1,_⟩:=I1.tuple h1
   obtain⟨ws,_,p2,_⟩:=I1.tuple h2
   refine Zp.aJ9 p1 p2 λh' z ti to s1' s2' kp=>wpAny_pyIter_zip z ?_
   have fresh:∀k,H1 (s1.heap.objs.size+k)=none:=λk=>I1.hok.fresh (bD4 _ _)
   refine⟨s1.heap.objs.size+4,[s1.heap.objs.size+4,s1.heap.objs.size+2,s1.heap.objs.size+3,s1.heap.objs.size,s1.heap.objs.size+1],_,_,H1,rfl,I1.kept (t':=s1.toks) kp,
    aK2 a' b' _ _ _ _ _ (by simp),⟨z,ti,⟨_,_,to⟩,s1',s2'⟩,λc hc=>?_,q⟩
   simp only[by2,bz2,bC3]at hc;rcases hc with rfl|rfl|rfl|rfl|rfl
   ·exact I1.fpOk (bD4 _ _) (fresh 4)
   ·exact I1.fpOk (bD4 _ _) (fresh 2)
   ·exact I1.fpOk (bD4 _ _) (fresh 3)
   ·exact I1.fpOk (bx9 _) (fresh 0)
   ·exact I1.fpOk (bD4 _ _) (fresh 1)
theorem yG (hc:X.calm=true):d7 X (.builtin "all") (λxs H Q=>∃(a:ax) (bs:List Bool),xs = [.ref a]/\aR X.K H a (bs.map V.bl)/\Q (.bl (bs.all id)) H):=by
 intro ag s σ H xs us Q I r h
 obtain⟨a,bs,rfl,hq,q⟩:=h
 obtain⟨u,rfl,ru⟩:=hV r
 cases ru
 obtain⟨its,rv,p,hz⟩:=I.list hq
 have hl:=rv.length;rw[bx7]at hl;have hlt:a<s.heap.objs.size:=by obtain⟨o,e,_⟩:=p.isList;exact by8 e
 refine call_all_walk (wpAny_pyIter_list p.isList ?_);have hh:X.A.in1.handled=none:=I.ok.hd hc;refine⟨s.heap.objs.size,_,_,_,_,_,λi=>bs.getD i false,rfl,Walks.list hh s.heap.objs.size a (bA8 hlt) its.toArray,⟨⟨_,bz0 _ rfl,rfl,rfl⟩,p.isList.push _⟩,?_,λh' tk kp=>?_⟩
 ·intro i v s' Q' E' hP hQ'
  have hi:its[i]? = some v:=by simpa using hP
  have hil:i<bs.length:=by rw[hl];exact (by4.mp hi).1
  obtain⟨u,e1,e2⟩:=rv.get (i:=i) (x:=.bl bs[i]) (by simp[hil])
  rw[hi]at e1;cases e1;cases e2
  have:bs.getD i false=bs[i]:=by rw[bC0,by1 hil];rfl
  have hQ2:Q' (bs.getD i false) s':=hQ';rw[this]at hQ2;exact bL9 hQ2
 ·have all_eq:(List.range its.toArray.size).all (λi=>bs.getD i false)=bs.all id:=by
   rw[bx6,<- hl];clear q rv hz hl hq hlt p hh kp
   induction bs with
   |nil=>rfl
   |cons b r ih=>
    rw[bA3,List.range_succ_eq_map,bI1,List.all_map,bI1,<- ih];rfl
  rw[all_eq];refine⟨.bl (bs.all id),H,I.kept (t':=tk) (h':=h') λb o e=>kp b o (λz=>?_) (bx5 _ e),rfl,q⟩;rw[by0.mp z]at e;exact absurd (by8 e) (bE5 _)
end
structure yH (H:Hp)(J:It)(n:Nat)(R:Nat->V->Hp->Prop):Prop where
 go:∀i H',aE H H'->i<n->J.go i H'
 yld:∀i H' x H2,aE H H'->J.yld i H' x H2->i<n->aE H' H2/\R i x H2
 stop:∀H',aE H H'->J.stop n H'
theorem yI {H1:Hp}{J:It}{n:Nat}{R:Nat->V->Hp->Prop}{g:TG}{tc:TT}{te:TE}{σ0:St}{Q:VK}(O:yH H1 J n R)(Pv:Nat->List V->Hp->Prop)(hn:n<=sizeLine)(h0:∀D,H1 D=none->Pv 0 [] (upd H1 D (.lst [])))(mono:∀i acc H' H2,aE H' H2->Pv i acc H'->Pv i acc H2)(hs:∀i x acc D H',i<n->R i x H'->tQ H1 D n i acc H'->Pv i acc H'->g x σ0 H' λσ2 H3=>Wk σ0 σ2/\tc σ2 H3 λb H4=>
   if b=true then te σ2 H4 λv H5=>xX H1 D n Pv i acc v H5 else U3 H1 D n Pv i acc H4)(hd:∀D acc H',H1 D=none->aE H1 H'->H' D=some (.lst acc)->acc.length<=n->Pv n acc H'->Q (.ref D) H') :
  ∀D,H1 D=none->∃W:Nat->Nat->List V->Hp->Prop,(∃m,W 0 m [] (upd H1 D (.lst [])))/\qP g tc te σ0 J D Q W:=by
 intro D hD;refine⟨CW H1 D n Pv,⟨n,rfl,bB2 _,bx9 _,bS hD _,aY,h0 D hD⟩,?_⟩;rintro i m acc H' ⟨rfl,hi,ha,sm,hDa,p⟩;refine⟨hDa,?_⟩;by_cases hlt:i<n
 ·refine .inr ⟨O.go i H' sm hlt,λx H2 y=>?_⟩
  obtain⟨s2,r2⟩:=O.yld i H' x H2 sm y hlt
  exact hs i x acc D H2 hlt r2 ⟨hlt,ha,hn,sm.trans s2,hD,s2 _ _ hDa⟩ (mono i acc H' H2 s2 p)
 ·have e:i=n:=by omega
  subst e;exact .inl ⟨O.stop H' sm,hd D acc H' hD sm hDa ha p⟩
theorem V3 {K:ac}{H:Hp}{a b:ax}{xs ys:List V}(ha:aS K H a xs)(hb:aS K H b ys)(hl:ys.length<=xs.length) :
  yH H (yE K a b) ys.length (λi v H2=>∃T x y,v = .ref T/\H2 T=some (.tup [x,y])/\xs[i]? = some x/\ys[i]? = some y):=by
 refine⟨λi H' sm hi=>⟨xs,ys,xs[i]'(by omega),ys[i],sm.tup ha,sm.tup hb,by simp,by simp⟩,λi H' v H2 sm y hi=>?_,λH' sm=>⟨xs,ys,sm.tup ha,sm.tup hb,by omega⟩⟩
 obtain⟨T,x,y',hT,hv,e,hxy⟩:=y
 subst e
 obtain⟨h1,h2⟩:=hxy xs ys (sm.tup ha) (sm.tup hb)
 exact⟨bS hT _,T,x,y',hv,aY,h1,h2⟩
end L2
namespace HT
open PySem PyProof.Rows
section
variable {prog:ay}{w:ba}{A:az}{E:av→aw→Prop}{s:aw}
theorem aK5 {t sl:ax}{items:Array av}{vl vu:av}{lo hi:Option Int}{Q:av->aw->Prop}(ht:IsTup s.heap t items)(hs:s.heap.IsSliceOf sl vl vu .none)(pl:IsPart vl lo)(pu:IsPart vu hi)(h1:bA items.size 0 lo=0)(h2:bA items.size items.size hi=items.size)(h:Q (.ref t) s):wpAny (model prog w) A (getItem (.ref t) (.ref sl)) Q E s:=by
 obtain⟨o,e1,e2,e3⟩:=id hs
 have T:s.TypeIs (.ref sl) "slice":=⟨o,e1,e2⟩;unfold getItem
 try with_reducible refine bM8 ?_
 first|refine bx4 (by3 ?_)|skip
 apply bx4;apply wpAny_sequenceKey ht.typeIs (by decide);apply bx4;apply bD6 (name:=Str.ofString "__getitem__") ht.typeIs bI6;apply bD9 bI6 ht.typeIs entry_tuple_getitem _ (args_tuple_getitem _ _)
 change wpAny _ _ (Builtin.Tuple.tupleItemsOf (.ref t) >>= _) _ _ s
 apply bx4;apply tupleItemsOf_ ht;apply bx4;apply wpAny_typeOf T;rw[if_pos (by decide)];apply bx4;apply Q4 hs pl pu;rw[h1,h2];have yes:((((0:Nat):Int)==0&&(1:Int)==1&&(items.size-0)==items.size)=true):=by simp
 change wpAny _ _ (if ((((0:Nat):Int)==0&&(1:Int)==1&&(items.size-0)==items.size)=true) then _ else _) _ _ s
 rw[if_pos yes];apply bx4;unfold Builtin.Tuple.tupleIsExact;apply bx4;apply wpAny_typeOf ht.typeIs;apply by3
 change wpAny _ _ (rule "tuple.getitem.whole" >>= λ_=>ret (Value.ref t)) _ _ s
 apply bx4;apply bN1;exact by3 ⟨_,rfl,by3 h⟩
end
end HT
namespace L2
open PySem PySem.Spec PyProof.Rows
section
variable {X:Cx}
def aK6 (K:ac):V->Option Int->Option Int->Hp->VK->Prop:=λx lo hi H Q=>∃a xs,x = .ref a/\aS K H a xs/\(∀p,H p=none->Q (.ref p) (upd H p (.tup (dX xs lo hi))))/\(dX xs lo hi=xs->Q (.ref a) H)
theorem V4:kF X (aK6 X.K):=by
 intro ag s σ H x v vl vu lo hi sl Q I rx hs pl pu h
 obtain⟨a,xs,ex,hx,q1,q2⟩:=h
 by_cases hw:HT.bA xs.length 0 lo=0/\HT.bA xs.length xs.length hi=xs.length
 ·subst ex
  cases rx
  obtain⟨its,r,ht,hz⟩:=I.tuple hx
  have aj:its.toArray.size=xs.length:=by rw[bx6];exact r.length.symm
  refine⟨"tuple",_,PyProof.Rows.slot_tuple_getitem.lookup,ht.typeIs,?_⟩;refine HT.aK5 ht hs pl pu (by rw[aj];exact hw.1) (by rw[aj];exact hw.2) ⟨.ref a,H,I,rfl,q2 ?_⟩;unfold dX;rw[hw.1,hw.2];simp
 ·exact aE7 ag s σ H x v vl vu lo hi sl Q I rx hs pl pu ⟨a,xs,ex,hx,hw,q1⟩
end
theorem yJ (xs:List V):dX xs (some 1) none=xs.drop 1:=by
 unfold dX;have e1:HT.bA xs.length 0 (some 1)=min 1 xs.length:=HT.Q0 xs.length 0 1;have e2:HT.bA xs.length xs.length none=xs.length:=rfl;rw[e1,e2];cases xs with
 |nil=>rfl
 |cons x r=>
  have:min 1 (x::r).length=1:=by simp
  rw[this];simp
def yK (K:ac)(a b:ax):It:=
  ⟨λi H=>∃xs ys x y,aR K H a xs/\aR K H b ys/\xs[i]? = some x/\ys[i]? = some y,
   λi H v H'=>∃T x y,H T=none/\v = .ref T/\H'=upd H T (.tup [x,y])/\∀xs ys,aR K H a xs->aR K H b ys->xs[i]? = some x/\ys[i]? = some y,
   λi H=>∃xs ys,aR K H a xs/\aR K H b ys/\(i=xs.length∨(i<xs.length/\i=ys.length))⟩
abbrev aK7:=yF false false
theorem aK8 {P:ay}{w:ba}{K:ac}{elts:List Expr}{k:Nat}{pos:Pos}(a b z TI TO i1 i2:ax)(d:[z,TI,TO,i1,i2].Nodup) :
  jN P w K (.Tuple elts k pos) (yK K a b) [z,TI,TO,i1,i2] z (aK7 z TI TO i1 i2 a b):=V2 false false a b z TI TO i1 i2 d
section
variable {X:Cx}
def aK9 (K:ac)(ta:TA):TI:=λσ H R=>ta σ H λvs H1=>∃a b xs ys,vs = [.ref a,.ref b]/\aR K H1 a xs/\aR K H1 b ys/\R (yK K a b) H1
theorem aL0 {elts:List Expr}{kt:Nat}{pt:Pos}{a b:Expr}{ta:TA}{p pos:Pos}(hg:Gl X "zip")(hm:X.mg "zip" = none)(ha:PA X [a,b] ta)(hs:starEach [a,b] X.env = [(false,eval a X.env),(false,eval b X.env)]:=by rfl)(hs2:starEach [b] X.env = [(false,eval b X.env)]:=by rfl) :
  PI X (.Tuple elts kt pt) (.Call (.Name "zip" p) [a,b] [] pos) (aK9 X.K ta):=by
 intro ag s σ H R I h;refine Call_ (mH I hg hm PyProof.Rows.boot_zip (bG5 (aP (ha pos ag s σ H _ I h) λus s1 ⟨vs,H1,I1,r1,q1⟩=>?_) (by rw[hs,hs2]) (by rw[hs2];rfl)))
 obtain⟨a',b',xs,ys,e,h1,h2,q⟩:=q1
 subst e;cases r1 with
 |cons r rr=>
  cases rr with
  |cons r' rr=>
   cases rr;cases r;cases r'
   obtain⟨us,_,p1,_⟩:=I1.list h1
   obtain⟨ws,_,p2,_⟩:=I1.list h2
   refine call_zip_2 p1.isList p2.isList λh' z ti to s1' s2' _ kp=>wpAny_pyIter_zip z ?_
   have fresh:∀k,H1 (s1.heap.objs.size+k)=none:=λk=>I1.hok.fresh (bD4 _ _)
   refine⟨s1.heap.objs.size+4,[s1.heap.objs.size+4,s1.heap.objs.size+2,s1.heap.objs.size+3,s1.heap.objs.size,s1.heap.objs.size+1],_,_,H1,rfl,I1.kept (t':=s1.toks) kp,
    aK8 a' b' _ _ _ _ _ (by simp),⟨z,ti,⟨_,_,to⟩,s1',s2'⟩,λc hc=>?_,q⟩
   simp only[by2,bz2,bC3]at hc;rcases hc with rfl|rfl|rfl|rfl|rfl
   ·exact I1.fpOk (bD4 _ _) (fresh 4)
   ·exact I1.fpOk (bD4 _ _) (fresh 2)
   ·exact I1.fpOk (bD4 _ _) (fresh 3)
   ·exact I1.fpOk (bx9 _) (fresh 0)
   ·exact I1.fpOk (bD4 _ _) (fresh 1)
end
theorem aL1 {K:ac}{H:Hp}{a b:ax}{xs ys:List V}(ha:aR K H a xs)(hb:aR K H b ys)(hl:ys.length<=xs.length) :
  yH H (yK K a b) ys.length (λi v H2=>∃T x y,v = .ref T/\H2 T=some (.tup [x,y])/\xs[i]? = some x/\ys[i]? = some y):=by
 refine⟨λi H' sm hi=>⟨xs,ys,xs[i]'(by omega),ys[i],sm.seq ha,sm.seq hb,by simp,by simp⟩,λi H' v H2 sm y hi=>?_,λH' sm=>⟨xs,ys,sm.seq ha,sm.seq hb,by omega⟩⟩
 obtain⟨T,x,y',hT,hv,e,hxy⟩:=y
 subst e
 obtain⟨h1,h2⟩:=hxy xs ys (sm.seq ha) (sm.seq hb)
 exact⟨bS hT _,T,x,y',hv,aY,h1,h2⟩
section
variable {X:Cx}{ag:List (ax×Obj)}{σ:St}{H:Hp}{s:aw}{a b:ax}{A:az}{E:av→aw→Prop}
theorem aL2 {kvs more:List (aG×V)}{Q:av->aw->Prop}(I:aA X ag σ H s)(ea:H a=some (.dK kvs))(eb:H b=some (.dK more))(hne:a≠b)(hl:kvs.length+more.length<=sizeLine)(h:∀s',aA X ag σ (upd H a (.dK (mP kvs more))) s'->Q .none s'):wpAny (model X.prog X.w) A (call (.builtin "dict.update") [.ref a,.ref b]) Q E s:=by
 obtain⟨z,hd,vs,rel,dd⟩:=xM I.hok ea
 obtain⟨z2,hd2,rs,rel2,dd2⟩:=xM I.hok eb
 have l1:=rel.length;have l2:=rel2.length;refine call_meetsIn PySem.F.slot_dict_update dd.typeIs PySem.F.entry_dict_update (PySem.F.args_dict_update_2 _ _) (meets_dict_update (dO X.prog X.w) a b hne hd2) ⟨vs,rs,dd,dd2,by omega,λh' dd' _ hs=>h _ ?_⟩;have he:∃q,h'.get? a=some q:=let ⟨q,_,_,hq,_⟩:=dd';⟨q,hq⟩
 refine xN I (by rw[ea];exact True.intro) hs he (S6 ?_ hd (rel2.merge rel) dd')
 have:=T3 more kvs
 omega
end
def V5 (td ty:TE):TE:=λσ H Q=>td σ H λx H1=>∃a,x = .ref a/\T4 H1 a/\ty σ H1 λy H2=>∃(b:ax) (kvs more:List (aG×V)),y = .ref b/\a≠b/\H2 a=some (.dK kvs)/\H2 b=some (.dK more)/\kvs.length+more.length<=sizeLine/\Q .non (upd H2 a (.dK (mP kvs more)))
section
variable {X:Cx}{o e:Expr}{ah ai:Pos}{td ty:TE}
theorem aL3 (ho:PE X o td)(he:PE X e ty)(m:M1 X o "update" ah e ai):PE X (.Call (.Attribute o "update" ah) [e] [] ai) (V5 td ty):=by
 intro ag s σ H Q I h;refine wpAny_Call_method m.base m.few m.line PySem.F.plainAttrs_dict PySem.F.slot_dict_update PySem.F.type_dict_update (aP (ho ag s σ H _ I h) λu s1 ⟨x,H1,I1,rx,a,ex,d,q1⟩=>?_);subst ex;obtain rfl:u=Value.ref a:=rx
 obtain⟨t1,t2,_⟩:=aH4 I1 d
 refine⟨t1,t2,?_⟩;rw[m.trees];refine bK3 rfl (bM3 (Calls.spliced_cons (aP (he ag s1 σ H1 _ I1 q1) λiv s2 ⟨y,H2,I2,ry,b,kvs,more,ey,ne,ea,eb,l,q2⟩=>Calls.spliced_nil ?_)));subst ey;obtain rfl:iv=Value.ref b:=ry;exact aL2 I2 ea eb ne l λs3 I3=>⟨.non,_,I3,rfl,q2⟩
end
theorem aL4 (l:ax)(items:Array av)(n:Nat)(b:ax)(items2:Array av)(n2:Nat)(dd:Option ax)(ss:Array (Option av))(h0:¬(!items.isEmpty&&Builtin.List.listTooLong (items.size+items2.size))=true)(h1:items.size<=sizeLine)(h2:items.size+items2.size<=sizeLine+1) :
  Meets (Builtin.«list.extend» ⟨[.ref l,.ref b],[]⟩) (λ_ R s=>s.heap.get? l=some { cls:=.type "list",dict:=none,data:=.seq items n,slots:=#[] }/\s.heap.get? b=some { cls:=.type "tuple",dict:=dd,data:=.seq items2 n2,slots:=ss }/\R (.ok (.ret Value.none)) { s with heap:=s.heap.update l (Obj.mapSeq λx=>x++items2),toks:=s.toks }):=
 .of_wp λprog w A R s h=>by
  obtain⟨hp,g,d,tk,os⟩:=s;obtain⟨hl,hb,h⟩:=h;have f2:=AutoSeq1.sub_tuple_tuple;have f3:=AutoSeq1.sub_list_list;have f4:=AutoSeq1.sub_tuple_list;have f5:=AutoSeq1.sub_list_tuple
  have hz':(items++items2).size<=sizeLine+1:=by rw[Array.size_append];exact h2
  wp_walk using (wpAny_updateSeq hl rfl (hz:=h1) (_hz':=hz')),AutoSeq1.wpAny_loadPart' hl,AutoSeq1.wpAny_loadPart' hb
  exact⟨_,rfl,h⟩
def V6 (K:ac):V->List V->Hp->VK->Prop:=λx vs H Q=>∃(l b:ax) (xs zs:List V),x = .ref l/\vs = [.ref b]/\H l=some (.lst xs)/\aS K H b zs/\xs.length+zs.length<=sizeLine/\Q .non (upd H l (.lst (xs++zs)))
theorem aL5 {X:Cx}:qJ X "list.extend" (V6 X.K):=by
 intro ag s σ H x vs v us Q I rx rv h
 obtain⟨l,b,xs,zs,rfl,rfl,hH,hB,hz,q⟩:=h
 cases rx
 obtain⟨u,rfl,ru⟩:=rv.one
 cases ru
 obtain⟨z,its,n,r,hl,e⟩:=I.lstM hH
 obtain⟨ao,r2,⟨⟨cls,dd,data,ss⟩,e2,hc,n2,hd⟩,z2⟩:=I.tuple hB
 cases hc;cases hd;have hl2:=r2.length;have hsz:its.toArray.size+ao.toArray.size<=sizeLine:=by rw[bx6,bx6];omega
 have hlong:¬(!its.toArray.isEmpty&&Builtin.List.listTooLong (its.toArray.size+ao.toArray.size))=true:=by
  rw[R7 hsz,Bool.and_false];exact bz7
 refine call_meets F.slot_list_extend ⟨_,e,rfl⟩ F.entry_list_extend (F.args_list_extend_2 _ _)
  (aL4 l its.toArray n b ao.toArray n2 dd ss hlong (by rw[bx6];omega) (by omega)) ⟨e,e2,?_⟩
 refine⟨.non,_,I.lset (its':=its++ao) hH e (by simp) (r.append r2) ?_,rfl,q⟩;rw[bx8];omega
end L2
namespace PP
open PySem L2
inductive PV where
 |non|bl (b:Bool)|int (i:Int)|str (x:Str)|tup (xs:List PV)|lst (xs:List PV)
 |dK (kvs:List (aG×PV))|dT (kvs:List (List aG×PV))|scr (ns:af)|kt (xs:List PV)|exc (c:Str)|fK (kvs:List (aG×PV))|fT (kvs:List (List aG×PV))|fL (xs:List PV)|fn (x:Str)|ob (a:ax)
mutual
def flat:PV->Bool
 |.tup xs=>flats xs
 |.lst _=>false
 |.dK _=>false
 |.dT _=>false
 |.non=>true
 |.bl _=>true
 |.int _=>true
 |.str _=>true
 |.scr _=>true
 |.kt xs=>flats xs
 |.exc _=>true
 |.fK _=>false
 |.fT _=>false
 |.fL xs=>flats xs
 |.fn _=>true
 |.ob _=>true
def flats:List PV->Bool
 |[]=>true
 |x::r=>flat x&&flats r
end
def kK (K:ac)(H:Hp)(a:ax)(ns:af):Prop:=(∃o,H a=some (.frz o (.lst (ns.map V.int)))) ∨
  ∃(o:Obj) (its:Array av) (n:Nat),K.lookup a=some o/\o.cls = .type "list"/\o.dict=none/\o.data = .seq its n/\its.size<=sizeLine/\aX (ns.map V.int) its.toList
def o8 (K:ac)(a:ax)(us:List V):Prop:=∃(o:Obj) (its:Array av) (n:Nat),K.lookup a=some o/\o.cls = .type "tuple"/\o.data = .seq its n/\its.size<=sizeLine/\aX us its.toList
mutual
inductive aI (K:ac)(M:ax->Prop)(H:Hp):V->PV->Prop
 |non:aI K M H .non .non
 |bl (b:Bool):aI K M H (.bl b) (.bl b)
 |int (i:Int):aI K M H (.int i) (.int i)
 |str (x:Str):aI K M H (.str x) (.str x)
 |tup {a:ax}{us:List V}{xs:List PV}:H a=some (.tup us)->Reps K M H us xs->aI K M H (.ref a) (.tup xs)
 |lst {a:ax}{us:List V}{xs:List PV}:M a->H a=some (.lst us)->Reps K M H us xs->aI K M H (.ref a) (.lst xs)
 |dK {a:ax}{kvs:List (aG×V)}{ps:List (aG×PV)}:M a->H a=some (.dK kvs)->kvs.map (·.1)=ps.map (·.1)->Reps K M H (kvs.map (·.2)) (ps.map (·.2))->aI K M H (.ref a) (.dK ps)
 |dT {a:ax}{kvs:List (List aG×V)}{ps:List (List aG×PV)}:M a->H a=some (.dT kvs)->kvs.map (·.1)=ps.map (·.1)->Reps K M H (kvs.map (·.2)) (ps.map (·.2))->aI K M H (.ref a) (.dT ps)
 |scr {a:ax}{ns:af}:kK K H a ns->aI K M H (.ref a) (.scr ns)
 |kt {a:ax}{us:List V}{xs:List PV}:o8 K a us->Reps K M H us xs->aI K M H (.ref a) (.kt xs)
 |exc {a C:ax}{o:Obj}{c:Str}:H a=some (.frz o (.own a))->PySem.W.nsIn K mainGlobals c=some (some (.ref C))->o.cls = .ref C->aI K M H (.ref a) (.exc c)
 |fK {a:ax}{o:Obj}{kvs:List (aG×V)}{ps:List (aG×PV)}:H a=some (.frz o (.dK kvs))->kvs.map (·.1)=ps.map (·.1)->Reps K M H (kvs.map (·.2)) (ps.map (·.2))->aI K M H (.ref a) (.fK ps)
 |fT {a:ax}{o:Obj}{kvs:List (List aG×V)}{ps:List (List aG×PV)}:H a=some (.frz o (.dT kvs))->kvs.map (·.1)=ps.map (·.1)->Reps K M H (kvs.map (·.2)) (ps.map (·.2))->aI K M H (.ref a) (.fT ps)
 |fL {a:ax}{o:Obj}{us:List V}{xs:List PV}:H a=some (.frz o (.lst us))->Reps K M H us xs->aI K M H (.ref a) (.fL xs)
 |fn {f:ax}{x:Str}:PySem.W.nsIn K mainGlobals x=some (some (.ref f))->aI K M H (.ref f) (.fn x)
 |ob {a:ax}:aI K M H (.ref a) (.ob a)
inductive Reps (K:ac)(M:ax->Prop)(H:Hp):List V->List PV->Prop
 |nil:Reps K M H [] []
 |cons {v:V}{x:PV}{vs:List V}{xs:List PV}:aI K M H v x->Reps K M H vs xs->Reps K M H (v::vs) (x::xs)
end
def yL:HO->Bool
 |.frz _ _=>true
 |_=>false
def o9:HO->Bool
 |.frz _ u=>yL u
 |.ins _ _ _=>true
 |.ext _=>true
 |_=>false
structure eW (M M':ax->Prop)(H H':Hp):Prop where
 lst:∀a us,M a->H a=some (.lst us)->M' a/\H' a=some (.lst us)
 dK:∀a kvs,M a->H a=some (.dK kvs)->M' a/\H' a=some (.dK kvs)
 dT:∀a kvs,M a->H a=some (.dT kvs)->M' a/\H' a=some (.dT kvs)
 tup:∀a us,H a=some (.tup us)->H' a=some (.tup us)
 frz:∀a o u,H a=some (.frz o u)->yL u=false->H' a=some (.frz o u)
theorem kK.keep {K:ac}{H H':Hp}{a:ax}{ns:af}(k:∀a o u,H a=some (.frz o u)->yL u=false->H' a=some (.frz o u))(h:kK K H a ns):kK K H' a ns:=
 h.elim (λ⟨o,e⟩=>.inl ⟨o,k _ _ _ e rfl⟩) .inr
mutual
theorem aI.keep {K:ac}{M M':ax->Prop}{H H':Hp}(k:eW M M' H H'):∀{v:V}{x:PV},aI K M H v x->aI K M' H' v x
 |_,_,.non=>.non
 |_,_,.bl b=>.bl b
 |_,_,.int i=>.int i
 |_,_,.str x=>.str x
 |_,_,.tup h r=>.tup (k.tup _ _ h) (Reps.keep k r)
 |_,_,.lst m h r=>.lst (k.lst _ _ m h).1 (k.lst _ _ m h).2 (Reps.keep k r)
 |_,_,.dK m h e r=>.dK (k.dK _ _ m h).1 (k.dK _ _ m h).2 e (Reps.keep k r)
 |_,_,.dT m h e r=>.dT (k.dT _ _ m h).1 (k.dT _ _ m h).2 e (Reps.keep k r)
 |_,_,.scr h=>.scr (h.keep k.frz)
 |_,_,.kt h r=>.kt h (Reps.keep k r)
 |_,_,.exc h e c=>.exc (k.frz _ _ _ h rfl) e c
 |_,_,.fK h e r=>.fK (k.frz _ _ _ h rfl) e (Reps.keep k r)
 |_,_,.fT h e r=>.fT (k.frz _ _ _ h rfl) e (Reps.keep k r)
 |_,_,.fL h r=>.fL (k.frz _ _ _ h rfl) (Reps.keep k r)
 |_,_,.fn h=>.fn h
 |_,_,.ob=>.ob
theorem Reps.keep {K:ac}{M M':ax->Prop}{H H':Hp}(k:eW M M' H H'):∀{vs:List V}{xs:List PV},Reps K M H vs xs->Reps K M' H' vs xs
 |_,_,.nil=>.nil
 |_,_,.cons r t=>.cons (aI.keep k r) (Reps.keep k t)
end
mutual
theorem aI.flat {K:ac}{M M':ax->Prop}{H:Hp}{v:V}{x:PV}(f:flat x=true)(r:aI K M H v x):aI K M' H v x:=by
 cases r with
 |non=>exact .non
 |bl b=>exact .bl b
 |int i=>exact .int i
 |str x=>exact .str x
 |tup h r=>exact .tup h (Reps.flat (by unfold PP.flat at f;exact f) r)
 |lst m h r=>unfold PP.flat at f;cases f
 |dK m h e r=>unfold PP.flat at f;cases f
 |dT m h e r=>unfold PP.flat at f;cases f
 |scr h=>exact .scr h
 |kt h r=>exact .kt h (Reps.flat (by unfold PP.flat at f;exact f) r)
 |exc h e c=>exact .exc h e c
 |fK h e r=>unfold PP.flat at f;cases f
 |fT h e r=>unfold PP.flat at f;cases f
 |fL h r=>exact .fL h (Reps.flat (by unfold PP.flat at f;exact f) r)
 |fn h=>exact .fn h
 |ob=>exact .ob
theorem Reps.flat {K:ac}{M M':ax->Prop}{H:Hp}{vs:List V}{xs:List PV}(f:flats xs=true)(r:Reps K M H vs xs):Reps K M' H vs xs:=by
 cases r with
 |nil=>exact .nil
 |cons r t=>
  unfold PP.flats at f;rw[bB4]at f;exact .cons (aI.flat f.1 r) (Reps.flat f.2 t)
end
theorem eW.same {M M':ax->Prop}{H H':Hp}(s:aE H H')(m:∀a,M a->M' a):eW M M' H H':=
 ⟨λa _ h e=>⟨m a h,s _ _ e⟩,λa _ h e=>⟨m a h,s _ _ e⟩,λa _ h e=>⟨m a h,s _ _ e⟩,λ_ _ e=>s _ _ e,λ_ _ _ e _=>s _ _ e⟩
theorem aI.same {K:ac}{M M':ax->Prop}{H H':Hp}{v:V}{x:PV}(r:aI K M H v x)(s:aE H H')(m:∀a,M a->M' a):aI K M' H' v x:=r.keep (.same s m)
theorem Reps.same {K:ac}{M M':ax->Prop}{H H':Hp}{v:List V}{x:List PV}(r:Reps K M H v x)(s:aE H H')(m:∀a,M a->M' a):Reps K M' H' v x:=r.keep (.same s m)
def fO:HO->Bool
 |.lst _=>true
 |.dK _=>true
 |.dT _=>true
 |_=>false
theorem eW.upd {M M':ax->Prop}{H:Hp}{a:ax}{o o':HO}(h:H a=some o')(mu:fO o'=true)(m:∀b,M b->b≠a/\M' b):eW M M' H (upd H a o):=
 ⟨λb _ hb e=>⟨(m b hb).2,by rw[aH (m b hb).1];exact e⟩,λb _ hb e=>⟨(m b hb).2,by rw[aH (m b hb).1];exact e⟩,λb _ hb e=>⟨(m b hb).2,by rw[aH (m b hb).1];exact e⟩,
  λb _ e=>by rw[aH (λz=>by rw[z,h]at e;cases e;cases mu)];exact e,
  λb _ _ e _=>by rw[aH (λz=>by rw[z,h]at e;cases e;cases mu)];exact e⟩
theorem Reps.length {K:ac}{M:ax->Prop}{H:Hp}:∀{vs:List V}{xs:List PV},Reps K M H vs xs->vs.length=xs.length
 |_,_,.nil=>rfl
 |_,_,.cons _ t=>congrArg (·+1) t.length
theorem Reps.get {K:ac}{M:ax->Prop}{H:Hp}:∀{vs:List V}{xs:List PV}{i:Nat}{v:V},Reps K M H vs xs->vs[i]? = some v->∃x,xs[i]? = some x/\aI K M H v x
 |_,_,_,_,.nil,e=>by simp at e
 |_,_,0,_,.cons r _,e=>by simp at e;subst e;exact⟨_,rfl,r⟩
 |_,_,i+1,v,.cons _ t,e=>by
  rw[bG7]at e
  obtain⟨x,h1,h2⟩:=t.get e
  exact⟨x,by rw[bG7];exact h1,h2⟩
theorem Reps.at {K:ac}{M:ax->Prop}{H:Hp}:∀{vs:List V}{xs:List PV}{i:Nat}{x:PV},Reps K M H vs xs->xs[i]? = some x->∃v,vs[i]? = some v/\aI K M H v x
 |_,_,_,_,.nil,e=>by simp at e
 |_,_,0,_,.cons r _,e=>by simp at e;subst e;exact⟨_,rfl,r⟩
 |_,_,i+1,v,.cons _ t,e=>by
  rw[bG7]at e
  obtain⟨x,h1,h2⟩:=t.at e
  exact⟨x,by rw[bG7];exact h1,h2⟩
theorem Reps.append {K:ac}{M:ax->Prop}{H:Hp}:∀{vs:List V}{xs:List PV}{us:List V}{ys:List PV},Reps K M H vs xs->Reps K M H us ys->Reps K M H (vs++us) (xs++ys)
 |_,_,_,_,.nil,s=>s
 |_,_,_,_,.cons r t,s=>.cons r (t.append s)
theorem Reps.take {K:ac}{M:ax->Prop}{H:Hp}:∀(n:Nat) {vs:List V}{xs:List PV},Reps K M H vs xs->Reps K M H (vs.take n) (xs.take n)
 |0,_,_,_=>by simp;exact .nil
 |_+1,_,_,.nil=>.nil
 |n+1,_,_,.cons r t=>.cons r (Reps.take n t)
theorem Reps.drop {K:ac}{M:ax->Prop}{H:Hp}:∀(n:Nat) {vs:List V}{xs:List PV},Reps K M H vs xs->Reps K M H (vs.drop n) (xs.drop n)
 |0,_,_,r=>r
 |_+1,_,_,.nil=>.nil
 |n+1,_,_,.cons _ t=>Reps.drop n t
abbrev intz (ns:af):List PV:=ns.map PV.int
theorem Reps.intz {K:ac}{M:ax->Prop}{H:Hp}:∀(ns:af),Reps K M H (ns.map V.int) (intz ns)
 |[]=>.nil
 |n::r=>.cons (.int n) (Reps.intz r)
theorem Reps.ofInts {K:ac}{M:ax->Prop}{H:Hp}:∀{ns:af}{us:List V},Reps K M H us (PP.intz ns)->us=ns.map V.int
 |[],_,.nil=>rfl
 |n::r,_,.cons q t=>by
  cases q;rw[Reps.ofInts t];rfl
theorem bV:∀(ns:af),flats (intz ns)=true
 |[]=>rfl
 |n::r=>by show (flat (.int n)&&flats (intz r))=true;rw[bV r];rfl
inductive Tg|rd|sh|nw|fr
inductive Slot|sh (g:Bool) (x:PV)|own (x:PV)|kp (g:Bool) (x:PV) (ks:List (ax×List PV×List PV))
def Slot.val:Slot->PV
 |.sh _ x=>x
 |.own x=>x
 |.kp _ x _=>x
def Slot.tag:Slot->Tg
 |.sh true _=>.nw
 |.sh false _=>.sh
 |.own _=>.rd
 |.kp _ _ _=>.nw
abbrev b8:=List (Option Slot)
def Ms (H0:Hp)(W:ax->Prop):Bool->ax->Prop
 |false,a=>¬W a
 |true,a=>¬W a/\H0 a=none
def Mg (H0:Hp)(W:ax->Prop)(Hs:Hp):Tg->ax->Prop
 |.rd,_=>True
 |.sh,a=>¬W a
 |.nw,a=>¬W a/\H0 a=none
 |.fr,a=>Hs a=none
def j7 (K:ac)(M:ax->Prop)(H:Hp)(a:ax):PV->Prop
 |.lst xs=>∃us,H a=some (.lst us)/\Reps K M H us xs
 |.dK ps=>∃kvs,H a=some (.dK kvs)/\kvs.map (·.1)=ps.map (·.1)/\Reps K M H (kvs.map (·.2)) (ps.map (·.2))
 |.dT ps=>∃kvs,H a=some (.dT kvs)/\kvs.map (·.1)=ps.map (·.1)/\Reps K M H (kvs.map (·.2)) (ps.map (·.2))
 |_=>False
def kL (l:ax)(us:List V):HO:=.ext λh=>us.length<=sizeLine/\∃(its:List av) (n:Nat),aX us its/\h.get? l=some { cls:=.type "list",data:=.seq its.toArray n }
def dA (K:ac)(H0 H:Hp)(a:ax)(st un:List PV):Prop:=∃(C dx l1 l2:ax) (us1 us2:List V),PySem.W.nsIn K mainGlobals "Keeper" = some (some (.ref C))/\(H0 a=none/\H0 dx=none/\H0 l1=none/\H0 l2=none)/\l1≠l2/\H dx=some (.own a)/\
 H a=some (.ins C dx [("standing",.ref l1),("undone",.ref l2)])/\H l1=some (kL l1 us1)/\H l2=some (kL l2 us2)/\Reps K (λ_=>False) H us1 st/\Reps K (λ_=>False) H us2 un
theorem dA.keep {K:ac}{H0 H H':Hp}{a:ax}{st un:List PV}(k:eW (λ_=>False) (λ_=>False) H H')(f:∀b o,H b=some o->fO o=false->H' b=some o)(h:dA K H0 H a st un):dA K H0 H' a st un:=by
 obtain⟨C,dx,l1,l2,us1,us2,h1,h2,h3,h4,h5,h6,h7,r1,r2⟩:=h
 exact⟨C,dx,l1,l2,us1,us2,h1,h2,h3,f _ _ h4 rfl,f _ _ h5 rfl,f _ _ h6 rfl,f _ _ h7 rfl,r1.keep k,r2.keep k⟩
def Ap2 (H:Hp)(a b:ax):Prop:=a≠b/\∀C D dx dy l1 l2 m1 m2,H a=some (.ins C dx [("standing",.ref l1),("undone",.ref l2)])->H b=some (.ins D dy [("standing",.ref m1),("undone",.ref m2)])->l1≠m1/\l1≠m2/\l2≠m1/\l2≠m2
def i6 (K:ac)(H0 H:Hp)(ks:List (ax×List PV×List PV)):Prop:=(∀k∈ks,dA K H0 H k.1 k.2.1 k.2.2)/\ks.Pairwise λk m=>Ap2 H k.1 m.1
theorem i6.keep {K:ac}{H0 H H':Hp}{ks:List (ax×List PV×List PV)}(k:eW (λ_=>False) (λ_=>False) H H')(f:∀b o,H b=some o->fO o=false->H' b=some o)(h:i6 K H0 H ks):i6 K H0 H' ks:=by
 refine⟨λx hx=>(h.1 x hx).keep k f,h.2.imp_of_mem λ{x y} hx hy r=>⟨r.1,λC D dx dy l1 l2 m1 m2 e1 e2=>?_⟩⟩
 obtain⟨C',dx',l1',l2',us1,us2,_,_,_,_,h5,_⟩:=h.1 x hx
 obtain⟨D',dy',m1',m2',ws1,ws2,_,_,_,_,g5,_⟩:=h.1 y hy
 have z1:=f _ _ h5 rfl;have z2:=f _ _ g5 rfl;rw[e1]at z1;rw[e2]at z2;cases z1;cases z2;exact r.2 _ _ _ _ _ _ _ _ h5 g5
theorem i6.same {K:ac}{H0 H H':Hp}{ks:List (ax×List PV×List PV)}(s:aE H H')(h:i6 K H0 H ks):i6 K H0 H' ks:=h.keep (.same s λ_ z=>z) λ_ _ e _=>s _ _ e
theorem i6.upd {K:ac}{H0 H:Hp}{c:ax}{o o':HO}{ks:List (ax×List PV×List PV)}(e:H c=some o')(mu:fO o'=true)(h:i6 K H0 H ks):i6 K H0 (upd H c o) ks:=
 h.keep (.upd e mu λ_ z=>z.elim) λb u e2 m2=>by rw[aH (λz=>by rw[z,e]at e2;cases e2;rw[mu]at m2;cases m2)];exact e2
def tT (K:ac)(H0:Hp)(W:ax->Prop)(H:Hp)(v:V):Slot->Prop
 |.sh g x=>aI K (Ms H0 W g) H v x
 |.own x=>∃a,v = .ref a/\W a/\j7 K (Ms H0 W true) H a x
 |.kp g x ks=>(aI K (λ_=>False) H v x/\flat x=true)/\i6 K (cond g H0 λ_=>none) H ks
structure PX (K:ac)(H0:Hp)(W:ax->Prop)(σ:St)(ρ:b8)(H:Hp):Prop where
 len:ρ.length=σ.length
 same:aE H0 H
 wm:∀a,W a->H0 a=none/\∃o,H a=some o/\fO o=true
 sl:∀(i:Nat) (m:Slot),ρ[i]? = some (some m)->∃v,σ[i]? = some (some v)/\tT K H0 W H v m
 dis:∀(i j:Nat) (x y:PV) (a:ax),ρ[i]? = some (some (.own x))->ρ[j]? = some (some (.own y))->σ[i]? = some (some (.ref a))->σ[j]? = some (some (.ref a))->i=j
theorem j7.keep {K:ac}{M M':ax->Prop}{H H':Hp}{a:ax}(k:eW M M' H H')(ha:∀o,H a=some o->H' a=some o):∀{x:PV},j7 K M H a x->j7 K M' H' a x
 |.lst _,⟨us,e,r⟩=>⟨us,ha _ e,r.keep k⟩
 |.dK _,⟨us,e,q,r⟩=>⟨us,ha _ e,q,r.keep k⟩
 |.dT _,⟨us,e,q,r⟩=>⟨us,ha _ e,q,r.keep k⟩
theorem j7.at {K:ac}{M:ax->Prop}{H:Hp}{a:ax}:∀{x:PV},j7 K M H a x->∃o,H a=some o/\fO o=true
 |.lst _,⟨us,e,r⟩=>⟨_,e,rfl⟩
 |.dK _,⟨us,e,q,r⟩=>⟨_,e,rfl⟩
 |.dT _,⟨us,e,q,r⟩=>⟨_,e,rfl⟩
theorem j7.rep {K:ac}{M M':ax->Prop}{H:Hp}{a:ax}(m:∀b,M b->M' b)(ha:M' a):∀{x:PV},j7 K M H a x->aI K M' H (.ref a) x
 |.lst _,⟨us,e,r⟩=>.lst ha e (r.same (aE.refl _) m)
 |.dK _,⟨us,e,q,r⟩=>.dK ha e q (r.same (aE.refl _) m)
 |.dT _,⟨us,e,q,r⟩=>.dT ha e q (r.same (aE.refl _) m)
section
variable {K:ac}{H0:Hp}{W W':ax→Prop}{σ:St}{ρ:b8}{H H':Hp}
theorem PX.mono (p:PX K H0 W σ ρ H)(s:aE H H'):PX K H0 W σ ρ H':=by
 refine⟨p.len,p.same.trans s,λa h=>⟨(p.wm a h).1,let ⟨o,e,m⟩:=(p.wm a h).2;⟨o,s _ _ e,m⟩⟩,λi m h=>?_,p.dis⟩
 obtain⟨v,e,r⟩:=p.sl i m h
 refine⟨v,e,?_⟩;cases m with
 |sh g x=>exact aI.same r s λ_ z=>z
 |own x=>
  obtain⟨a,e1,e2,r⟩:=r
  exact⟨a,e1,e2,r.keep (.same s λ_ z=>z) λ_ z=>s _ _ z⟩
 |kp g x ks=>exact⟨⟨r.1.1.same s λ_ z=>z,r.1.2⟩,r.2.same s⟩
theorem PX.new (p:PX K H0 W σ ρ H){a:ax}(h:H a=none):¬W a/\H0 a=none:=
 ⟨λz=>(by obtain⟨_,o,e,_⟩:=p.wm a z;rw[h]at e;cases e),p.same.free h⟩
theorem Mg.back {g:Tg}{H1:Hp}(s:aE H H1){a:ax}(h:Mg H0 W H1 g a):Mg H0 W H g a:=by
 cases g with
 |fr=>exact s.free h
 |rd=>exact h
 |sh=>exact h
 |nw=>exact h
end
abbrev PK:=PV->Tg->Prop
abbrev aL:=b8->PK->Prop
abbrev cM:=b8->(Bool->Prop)->Prop
abbrev c9:=b8->(List (PV×Tg)->Prop)->Prop
inductive j8 (K:ac)(H0:Hp)(W:ax->Prop)(Hs H:Hp):List V->List (PV×Tg)->Prop
 |nil:j8 K H0 W Hs H [] []
 |cons {v:V}{x:PV}{g:Tg}{vs:List V}{xs:List (PV×Tg)}:aI K (Mg H0 W Hs g) H v x->j8 K H0 W Hs H vs xs->j8 K H0 W Hs H (v::vs) ((x,g)::xs)
def tU (K:ac)(H0:Hp)(W:ax->Prop)(H:Hp)(Q:PK)(Q':VK):Prop:=∀v H' x g,aE H H'->aI K (Mg H0 W H g) H' v x->Q x g->Q' v H'
def LE (X:Cx)(t:aL):TE:=λσ H Q'=>∃(W:ax->Prop) (ρ:b8) (Q:PK),PX X.K X.H₀ W σ ρ H/\t ρ Q/\tU X.K X.H₀ W H Q Q'
def LT (X:Cx)(t:cM):TT:=λσ H Q'=>∃(W:ax->Prop) (ρ:b8) (Q:Bool->Prop),PX X.K X.H₀ W σ ρ H/\t ρ Q/\∀b H',aE H H'->Q b->Q' b H'
def LA (X:Cx)(t:c9):TA:=λσ H Q'=>∃(W:ax->Prop) (ρ:b8) (Q:List (PV×Tg)->Prop),PX X.K X.H₀ W σ ρ H/\t ρ Q/\∀vs H' xs,aE H H'->j8 X.K X.H₀ W H H' vs xs->Q xs->Q' vs H'
theorem j8.same {K:ac}{H0:Hp}{W:ax->Prop}{Hs Hs' H H':Hp}(s:aE H H')(b:aE Hs' Hs):∀{vs:List V}{xs:List (PV×Tg)},j8 K H0 W Hs H vs xs->j8 K H0 W Hs' H' vs xs
 |_,_,.nil=>.nil
 |_,_,.cons r t=>.cons (r.same s λ_ z=>Mg.back b z) (t.same s b)
theorem j8.any {K:ac}{H0:Hp}{W:ax->Prop}{Hs H:Hp}:∀{vs:List V}{xs:List (PV×Tg)},j8 K H0 W Hs H vs xs->Reps K (λ_=>True) H vs (xs.map (·.1))
 |_,_,.nil=>.nil
 |_,_,.cons r t=>.cons (r.same (aE.refl _) λ_ _=>trivial) t.any
def Nw:Tg->PV->Prop
 |.fr,_=>True
 |.nw,_=>True
 |_,x=>flat x=true
section
variable {K:ac}{H0 Hs H:Hp}{W:ax→Prop}{σ:St}{ρ:b8}
theorem Nw.rep {g:Tg}{x:PV}{v:V}(px:PX K H0 W σ ρ Hs)(n:Nw g x)(r:aI K (Mg H0 W Hs g) H v x):aI K (Ms H0 W true) H v x:=by
 cases g with
 |fr=>exact r.same (aE.refl _) λa z=>px.new z
 |nw=>exact r.same (aE.refl _) λa z=>z
 |sh=>exact r.flat n
 |rd=>exact r.flat n
theorem V7 {v:V}{m:Slot}(r:tT K H0 W H v m):aI K (Mg H0 W Hs m.tag) H v m.val:=by
 cases m with
 |sh g x=>
  cases g with
  |true=>exact aI.same r (aE.refl _) λ_ z=>z
  |false=>exact aI.same r (aE.refl _) λ_ z=>z
 |own x=>
  obtain⟨a,rfl,_,r⟩:=r
  exact r.rep (λ_ _=>trivial) trivial
 |kp g x ks=>exact r.1.1.flat r.1.2
end
section
variable {X:Cx}{σ:St}{H:Hp}{Q':VK}{ta tb:aL}
def a5 (i:Nat):aL:=λρ Q=>∃m,ρ[i]? = some (some m)/\Q m.val m.tag
def qC (x:PV):aL:=λ_ Q=>Q x .fr
theorem aL6 {i:Nat}(h:LE X (a5 i) σ H Q'):eQ i σ H Q':=by
 obtain⟨W,ρ,Q,px,⟨m,e,q⟩,k⟩:=h
 obtain⟨v,ev,r⟩:=px.sl i m e
 exact⟨v,ev,k v H _ _ (aE.refl _) (V7 r) q⟩
theorem qV {x:PV}{v:V}(hr:∀M,aI X.K M H v x)(h:LE X (qC x) σ H Q'):tC v σ H Q':=by
 obtain⟨W,ρ,Q,px,q,k⟩:=h
 exact k v H _ _ (aE.refl _) (hr _) q
def eY (X:Cx)(R:PV->Tg->PV->Tg->PK->Prop)(r:R2):Prop:=∀(W:ax->Prop) (Hs H:Hp) (u v:V) (x y:PV) (g g':Tg) (Q:PK) (Q':VK),aE Hs H->
 (∀a,Hs a=none->¬W a/\X.H₀ a=none)->aI X.K (Mg X.H₀ W Hs g) H u x->aI X.K (Mg X.H₀ W Hs g') H v y->R x g y g' Q->(∀w H' z gz,aE H H'->aI X.K (Mg X.H₀ W Hs gz) H' w z->Q z gz->Q' w H')->r u v H Q'
def q2 (R:PV->Tg->PV->Tg->PK->Prop)(ta tb:aL):aL:=λρ Q=>ta ρ λx g=>tb ρ λy g'=>R x g y g' Q
theorem tV {R:PV->Tg->PV->Tg->PK->Prop}{r:R2}(c:eY X R r)(h:LE X (q2 R ta tb) σ H Q'):nZ r (LE X ta) (LE X tb) σ H Q':=by
 obtain⟨W,ρ,Q,px,q,k⟩:=h
 refine⟨W,ρ,_,px,q,λu H1 x g s1 r1 q1=>⟨W,ρ,_,px.mono s1,q1,λv H2 y g' s2 r2 q2=>?_⟩⟩;exact c W H H2 u v x y g g' Q Q' (s1.trans s2) (λa z=>px.new z) (r1.same s2 λ_ z=>z) (r2.same (aE.refl _) λ_ z=>Mg.back s1 z) q2 λw H' z gz s3 r3 q3=>k w H' z gz ((s1.trans s2).trans s3) r3 q3
def RI (C:Int->Int->Prop)(f:Int->Int->PV):PV->Tg->PV->Tg->PK->Prop:=λx _ y _ Q=>∃i j,x = .int i/\y = .int j/\C i j/\Q (f i j) .fr
def gK (f:Int->Int->PV):PV->Tg->PV->Tg->PK->Prop:=λx _ y _ Q=>∃i j,x = .int i/\y = .int j/\Q (f i j) .fr
theorem tW {C:Int->Int->Prop}{f:Int->Int->Int}:eY X (RI C λi j=>.int (f i j)) (rI C λi j=>.int (f i j)):=by
 rintro W Hs H u v x y g g' Q Q' s n r1 r2 ⟨i,j,rfl,rfl,c,q⟩ k;cases r1;cases r2
 exact⟨i,j,rfl,rfl,c,k _ _ _ _ (aE.refl _) (.int _) q⟩
theorem V8 {f:Int->Int->Int}:eY X (gK λi j=>.int (f i j)) (kD λi j=>.int (f i j)):=by
 rintro W Hs H u v x y g g' Q Q' s n r1 r2 ⟨i,j,rfl,rfl,q⟩ k;cases r1;cases r2
 exact⟨i,j,rfl,rfl,k _ _ _ _ (aE.refl _) (.int _) q⟩
theorem oA {f:Int->Int->Bool}:eY X (gK λi j=>.bl (f i j)) (kD λi j=>.bl (f i j)):=by
 rintro W Hs H u v x y g g' Q Q' s n r1 r2 ⟨i,j,rfl,rfl,q⟩ k;cases r1;cases r2
 exact⟨i,j,rfl,rfl,k _ _ _ _ (aE.refl _) (.bl _) q⟩
def oB (neg:Bool):PV->Tg->PV->Tg->PK->Prop:=λx _ y _ Q=>(∃i j,x = .int i/\y = .int j/\Q (.bl (if neg=true then !decide (i=j) else decide (i=j))) .fr)∨(∃i j,x = .bl i/\y = .bl j/\Q (.bl (if neg=true then !decide (i=j) else decide (i=j))) .fr)
theorem V9 (i j:Int):decide (V.int i=V.int j)=decide (i=j):=by
 rw[bC7,bz5,bz5];exact⟨λz=>V.int.inj z,λz=>congrArg V.int z⟩
theorem W0 (i j:Bool):decide (V.bl i=V.bl j)=decide (i=j):=by
 rw[bC7,bz5,bz5];exact⟨λz=>V.bl.inj z,λz=>congrArg V.bl z⟩
theorem aL7:eY X (oB false) wQ:=by
 rintro W Hs H u v x y g g' Q Q' s n r1 r2 (⟨i,j,rfl,rfl,q⟩|⟨i,j,rfl,rfl,q⟩) k
 ·cases r1;cases r2
  exact⟨rfl,by rw[V9];exact k _ _ _ _ (aE.refl _) (.bl _) q⟩
 ·cases r1;cases r2
  exact⟨rfl,by rw[W0];exact k _ _ _ _ (aE.refl _) (.bl _) q⟩
theorem aL8:eY X (oB true) wR:=by
 rintro W Hs H u v x y g g' Q Q' s n r1 r2 (⟨i,j,rfl,rfl,q⟩|⟨i,j,rfl,rfl,q⟩) k
 ·cases r1;cases r2
  exact⟨rfl,by rw[V9];exact k _ _ _ _ (aE.refl _) (.bl _) q⟩
 ·cases r1;cases r2
  exact⟨rfl,by rw[W0];exact k _ _ _ _ (aE.refl _) (.bl _) q⟩
def aO (t:aL):cM:=λρ Q=>t ρ λx _=>∃b,x = .bl b/\Q b
theorem tX {t:aL}{Q':Bool->Hp->Prop}(h:LT X (aO t) σ H Q'):LE X t σ H λx H'=>∃k,x = .bl k/\Q' k H':=by
 obtain⟨W,ρ,Q,px,q,k⟩:=h
 refine⟨W,ρ,_,px,q,?_⟩;rintro v H1 x g s r ⟨b,rfl,q⟩;cases r
 exact⟨b,rfl,k _ _ s q⟩
def qW (t u:cM):cM:=λρ Q=>t ρ λc=>if c=true then u ρ Q else Q false
def dY (t u:cM):cM:=λρ Q=>t ρ λc=>if c=true then Q true else u ρ Q
def lK (t:cM):cM:=λρ Q=>t ρ λc=>Q (!c)
variable {t u:cM}{Qb:Bool→Hp→Prop}
theorem aL9 (h:LT X (qW t u) σ H Qb):L6 (LT X t) (LT X u) σ H Qb:=by
 obtain⟨W,ρ,Q,px,q,k⟩:=h
 refine⟨W,ρ,_,px,q,λb H1 s1 q1=>?_⟩;cases b with
 |true=>exact aU ⟨W,ρ,Q,px.mono s1,by simpa using q1,λb H2 s2 q2=>k _ _ (s1.trans s2) q2⟩
 |false=>exact aN (k _ _ s1 (by simpa using q1))
theorem aM0 (h:LT X (dY t u) σ H Qb):L7 (LT X t) (LT X u) σ H Qb:=by
 obtain⟨W,ρ,Q,px,q,k⟩:=h
 refine⟨W,ρ,_,px,q,λb H1 s1 q1=>?_⟩;cases b with
 |false=>exact aN ⟨W,ρ,Q,px.mono s1,by simpa using q1,λb H2 s2 q2=>k _ _ (s1.trans s2) q2⟩
 |true=>exact aU (k _ _ s1 (by simpa using q1))
theorem aM1 (h:LT X (lK t) σ H Qb):L8 (LT X t) σ H Qb:=by
 obtain⟨W,ρ,Q,px,q,k⟩:=h
 exact⟨W,ρ,_,px,q,λb H1 s1 q1=>k _ _ s1 q1⟩
def mT (ta tb:aL):aL:=λρ Q=>ta ρ λx _=>∃c,x = .bl c/\if c=true then tb ρ Q else Q (.bl false) .fr
theorem tU.back {K:ac}{H0:Hp}{W:ax->Prop}{H H1:Hp}{Q:PK}(k:tU K H0 W H Q Q')(s:aE H H1):tU K H0 W H1 Q Q':=λv H' x g s' r q=>k v H' x g (s.trans s') (r.same (aE.refl _) λ_ z=>Mg.back s z) q
theorem aM2 (h:LE X (mT ta tb) σ H Q'):L9 (LE X ta) (LE X tb) σ H Q':=by
 obtain⟨W,ρ,Q,px,q,k⟩:=h
 refine⟨W,ρ,_,px,q,?_⟩;rintro v H1 x g s1 r ⟨c,rfl,q⟩;cases r;refine⟨c,rfl,?_⟩;cases c with
 |true=>exact aU ⟨W,ρ,Q,px.mono s1,by simpa using q,k.back s1⟩
 |false=>exact aN (k _ _ _ _ s1 (.bl _) (by simpa using q))
def aC:c9:=λ_ Q=>Q []
def a9 (te:aL)(tr:c9):c9:=λρ Q=>te ρ λx g=>tr ρ λxs=>Q ((x,g)::xs)
variable {Qa:List V→Hp→Prop}{tr:c9}
theorem W5 (h:LA X aC σ H Qa):fZ σ H Qa:=by
 obtain⟨W,ρ,Q,px,q,k⟩:=h
 exact k _ _ _ (aE.refl _) .nil q
theorem aM3 (h:LA X (a9 ta tr) σ H Qa):iH (LE X ta) (LA X tr) σ H Qa:=by
 obtain⟨W,ρ,Q,px,q,k⟩:=h
 refine⟨W,ρ,_,px,q,λv H1 x g s1 r1 q1=>⟨W,ρ,_,px.mono s1,q1,λvs H2 xs s2 r2 q2=>?_⟩⟩;exact k _ _ _ (s1.trans s2) (.cons (r1.same s2 λ_ z=>z) (r2.same (aE.refl _) s1)) q2
def bJ (t:c9):aL:=λρ Q=>t ρ λxs=>xs.length<=1000/\flats (xs.map (·.1))=true/\Q (.tup (xs.map (·.1))) .fr
def fF (t:c9):aL:=λρ Q=>t ρ λxs=>xs.length<=1000/\flats (xs.map (·.1))=true/\Q (.lst (xs.map (·.1))) .fr
theorem j8.length {K:ac}{H0:Hp}{W:ax->Prop}{Hs H:Hp}:∀{vs:List V}{xs:List (PV×Tg)},j8 K H0 W Hs H vs xs->vs.length=xs.length
 |_,_,.nil=>rfl
 |_,_,.cons _ t=>congrArg (·+1) t.length
theorem yM {n:Nat}(h:n<=1000):n<=sizeLine:=bE3 (qO h)
theorem aM4 (h:LE X (bJ tr) σ H Q'):P0 (LA X tr) σ H Q':=by
 obtain⟨W,ρ,Q,px,q,k⟩:=h
 refine⟨W,ρ,_,px,q,?_⟩;rintro vs H1 xs s1 r ⟨hl,n,q⟩;refine⟨by rw[r.length];exact yM hl,λp hp=>k _ _ _ .fr (s1.trans (bS hp _)) (.tup aY ?_) q⟩;exact (r.any.flat n).same (bS hp _) λ_ z=>z
theorem aM5 (h:LE X (fF tr) σ H Q'):wY (LA X tr) σ H Q':=by
 obtain⟨W,ρ,Q,px,q,k⟩:=h
 refine⟨W,ρ,_,px,q,?_⟩;rintro vs H1 xs s1 r ⟨hl,n,q⟩;refine⟨by rw[r.length];exact yM hl,λp hp=>k _ _ _ .fr (s1.trans (bS hp _)) (.lst (s1.free hp) aY ?_) q⟩;exact (r.any.flat n).same (bS hp _) λ_ z=>z
def dZ (X:Cx)(R:List PV->(PV->Prop)->Prop)(r:List V->Hp->VK->Prop):Prop:=∀(H:Hp) (vs:List V) (xs:List PV) (Q:PV->Prop) (Q':VK),Reps X.K (λ_=>True) H vs xs->R xs Q->
 (∀w H' z,aE H H'->aI X.K (λa=>H a=none) H' w z->Q z->Q' w H')->r vs H Q'
def aM (R:List PV->(PV->Prop)->Prop)(t:c9):aL:=λρ Q=>t ρ λxs=>R (xs.map (·.1)) λz=>Q z .fr
theorem W6 {R:List PV->(PV->Prop)->Prop}{r:List V->Hp->VK->Prop}(c:dZ X R r)(h:LE X (aM R tr) σ H Q'):x6 r (LA X tr) σ H Q':=by
 obtain⟨W,ρ,Q,px,q,k⟩:=h
 refine⟨W,ρ,_,px,q,λvs H1 xs s1 r1 q1=>c H1 vs _ _ Q' r1.any q1 λw H' z s2 r2 q2=>k w H' z .fr (s1.trans s2) (r2.same (aE.refl _) λ_ z=>s1.free z) q2⟩
end
structure lM where
 nx:b8->Prop
 rt:PV->Prop
 bk:b8->Prop:=λ_=>False
 ct:b8->Prop:=λ_=>False
abbrev aV:=lM->b8->Prop
def Ev (W:ax->Prop)(H:Hp)(W':ax->Prop)(H':Hp):Prop:=∀b o,H b=some o->¬W b->o9 o=false->H' b=some o/\¬W' b
theorem Ev.trans {W W1 W2:ax->Prop}{H H1 H2:Hp}(a:Ev W H W1 H1)(b:Ev W1 H1 W2 H2):Ev W H W2 H2:=λc o h n z=>let ⟨h1,n1⟩:=a c o h n z;b c o h1 n1 z
theorem Ev.same {W:ax->Prop}{H H':Hp}(s:aE H H'):Ev W H W H':=λc o h n _=>⟨s _ _ h,n⟩
theorem Ev.refl (W:ax->Prop)(H:Hp):Ev W H W H:=Ev.same (aE.refl _)
structure tY (X:Cx)(W:ax->Prop)(H:Hp)(D':lM)(D:cB):Prop where
 nx:∀W' σ' H' ρ',Ev W H W' H'->PX X.K X.H₀ W' σ' ρ' H'->D'.nx ρ'->D.nx σ' H'
 rt:∀v H' x,aE X.H₀ H'->aI X.K (λa=>X.H₀ a=none) H' v x->D'.rt x->D.rt v H'
 bk:∀W' σ' H' ρ',Ev W H W' H'->PX X.K X.H₀ W' σ' ρ' H'->D'.bk ρ'->D.bk σ' H'
 ct:∀W' σ' H' ρ',Ev W H W' H'->PX X.K X.H₀ W' σ' ρ' H'->D'.ct ρ'->D.ct σ' H'
theorem tY.step {X:Cx}{W W1:ax->Prop}{H H1:Hp}{D':lM}{D:cB}(k:tY X W H D' D)(e:Ev W H W1 H1):tY X W1 H1 D' D:=
 ⟨λW' σ' H' ρ' e'=>k.nx W' σ' H' ρ' (e.trans e'),k.rt,λW' σ' H' ρ' e'=>k.bk W' σ' H' ρ' (e.trans e'),λW' σ' H' ρ' e'=>k.ct W' σ' H' ρ' (e.trans e')⟩
def LS (X:Cx)(t:aV):TS:=λD σ H=>∃(W:ax->Prop) (ρ:b8) (D':lM),PX X.K X.H₀ W σ ρ H/\t D' ρ/\tY X W H D' D
theorem eF {α:Type}{l:List α}{i j:Nat}{a b:α}(h:(l.set i a)[j]? = some b):(j=i/\i<l.length/\b=a)∨(j≠i/\l[j]? = some b):=by
 by_cases e:j=i
 ·subst e
  have hl:j<(l.set j a).length:=(by4.mp h).1;rw[bE2]at hl;rw[bC9 hl]at h;exact .inl ⟨rfl,hl,(bz3 h).symm⟩
 ·rw[bA1 (Ne.symm e)]at h
  exact .inr ⟨e,h⟩
section
variable {K:ac}{H0:Hp}{W W':ax→Prop}{σ:St}{ρ:b8}{H H' Hs:Hp}
theorem PX.setSh {i:Nat}{v:V}{g:Bool}{x:PV}(p:PX K H0 W σ ρ H)(r:aI K (Ms H0 W g) H v x):PX K H0 W (σ.set i (some v)) (ρ.set i (some (.sh g x))) H:=by
 refine⟨by rw[bE2,bE2];exact p.len,p.same,p.wm,λj m h=>?_,λj k y z a h1 h2 h3 h4=>?_⟩
 ·rcases eF h with⟨rfl,hl,e⟩|⟨hne,h⟩
  ·cases e
   rw[p.len]at hl
   exact⟨v,bC9 hl,r⟩
  ·obtain⟨u,e,q⟩:=p.sl j m h
   exact⟨u,by rw[bA1 (Ne.symm hne)];exact e,q⟩
 ·rcases eF h1 with⟨_,_,e⟩|⟨n1,h1⟩
  ·cases e
  ·rcases eF h2 with⟨_,_,e⟩|⟨n2,h2⟩
   ·cases e
   ·rw[bA1 (Ne.symm n1)]at h3
    rw[bA1 (Ne.symm n2)]at h4;exact p.dis j k y z a h1 h2 h3 h4
def oC (W:ax->Prop)(a:ax):ax->Prop:=λb=>W b∨b=a
theorem yN {g:Bool}{a b:ax}(n:b≠a)(h:Ms H0 W g b):Ms H0 (oC W a) g b:=by
 cases g with
 |true=>exact⟨λz=>z.elim h.1 n,h.2⟩
 |false=>exact λz=>z.elim h n
theorem PX.setOwn {i:Nat}{a:ax}{x:PV}(p:PX K H0 W σ ρ Hs)(s:aE Hs H)(ha:Hs a=none)(r:j7 K (Ms H0 (oC W a) true) H a x):PX K H0 (oC W a) (σ.set i (some (.ref a))) (ρ.set i (some (.own x))) H:=by
 have old:∀b o,Hs b=some o->b≠a:=λb o e z=>by rw[z,ha]at e;cases e
 have kp:∀g,eW (Ms H0 W g) (Ms H0 (oC W a) g) Hs H:=λg=>⟨λb _ m e=>⟨yN (old _ _ e) m,s _ _ e⟩,λb _ m e=>⟨yN (old _ _ e) m,s _ _ e⟩,λb _ m e=>⟨yN (old _ _ e) m,s _ _ e⟩,λ_ _ e=>s _ _ e,λ_ _ _ e _=>s _ _ e⟩
 have wa:¬W a:=(p.new ha).1;refine⟨by rw[bE2,bE2];exact p.len,p.same.trans s,λb z=>?_,λj m h=>?_,λj k y z b h1 h2 h3 h4=>?_⟩
 ·rcases z with z|rfl
  ·obtain⟨h1,o,h2,h3⟩:=p.wm b z
   exact⟨h1,o,s _ _ h2,h3⟩
  ·exact⟨(p.new ha).2,r.at⟩
 ·rcases eF h with⟨rfl,hl,e⟩|⟨hne,h⟩
  ·cases e
   rw[p.len]at hl
   exact⟨_,bC9 hl,a,rfl,.inr rfl,r⟩
  ·obtain⟨u,e,q⟩:=p.sl j m h
   refine⟨u,by rw[bA1 (Ne.symm hne)];exact e,?_⟩;cases m with
   |sh g y=>exact aI.keep (kp g) q
   |own y=>
    obtain⟨b,e1,e2,q⟩:=q
    exact⟨b,e1,.inl e2,q.keep (kp true) λo z=>s _ _ z⟩
   |kp g c ks=>exact⟨⟨q.1.1.same s λ_ z=>z,q.1.2⟩,q.2.same s⟩
 ·have ne:∀{j:Nat}{y:PV},ρ[j]? = some (some (.own y))->σ[j]?≠some (some (.ref a)):=λ{j y} h1 h2=>by
   obtain⟨u,e,c,e1,e2,_⟩:=p.sl j _ h1
   rw[h2]at e;cases e;cases e1;exact wa e2
  rcases eF h1 with⟨e1,l1,_⟩|⟨n1,h1⟩
  ·rcases eF h2 with⟨e2,_,_⟩|⟨n2,h2⟩
   ·rw[e1,e2]
   ·rw[e1,bC9 (by rw[<- p.len];exact l1)]at h3
    rw[bA1 (Ne.symm n2)]at h4;cases h3;exact absurd h4 (ne h2)
  ·rw[bA1 (Ne.symm n1)]at h3
   rcases eF h2 with⟨e2,l2,_⟩|⟨n2,h2⟩
   ·rw[e2,bC9 (by rw[<- p.len];exact l2)]at h4
    cases h4;exact absurd h3 (ne h1)
   ·rw[bA1 (Ne.symm n2)]at h4
    exact p.dis j k y z b h1 h2 h3 h4
theorem Ev.own {a:ax}(s:aE Hs H)(ha:Hs a=none):Ev W Hs (oC W a) H:=λb o e n _=>⟨s _ _ e,λz=>z.elim n λz=>by rw[z,ha]at e;cases e⟩
theorem oE {g:Bool}{a b:ax}(wa:W a)(h:Ms H0 W g b):b≠a:=by
 cases g with
 |true=>exact λz=>h.1 (by rw[z];exact wa)
 |false=>exact λz=>h (by rw[z];exact wa)
theorem PX.updOwn {i:Nat}{a:ax}{x y:PV}{o:HO}(p:PX K H0 W σ ρ H)(hi:ρ[i]? = some (some (.own x)))(ha:σ[i]? = some (some (.ref a)))(wa:W a)(mu:fO o=true)(r:j7 K (Ms H0 W true) (upd H a o) a y) :
  PX K H0 W σ (ρ.set i (some (.own y))) (upd H a o):=by
 obtain⟨w0,o',e',mu'⟩:=p.wm a wa
 have kp:∀g,eW (Ms H0 W g) (Ms H0 W g) H (upd H a o):=λg=>.upd e' mu' λb m=>⟨oE wa m,m⟩
 refine⟨by rw[bE2];exact p.len,λb u e=>by rw[aH (λz=>by rw[z,w0]at e;cases e)];exact p.same _ _ e,λb z=>?_,λj m h=>?_,λj k y' z b h1 h2 h3 h4=>?_⟩
 ·by_cases e:b=a
  ·subst e;exact⟨w0,o,aY,mu⟩
  ·obtain⟨h1,o2,h2,h3⟩:=p.wm b z
   exact⟨h1,o2,by rw[aH e];exact h2,h3⟩
 ·rcases eF h with⟨rfl,hl,e⟩|⟨hne,h⟩
  ·cases e
   exact⟨_,ha,a,rfl,wa,r⟩
  ·obtain⟨u,e,q⟩:=p.sl j m h
   refine⟨u,e,?_⟩;cases m with
   |sh g y=>exact aI.keep (kp g) q
   |own y=>
    obtain⟨b,e1,e2,q⟩:=q
    have hb:b≠a:=λz=>by
     subst e1;rw[z]at e;exact hne (p.dis j i _ _ a h hi e ha)
    exact⟨b,e1,e2,q.keep (kp true) λo z=>by rw[aH hb];exact z⟩
   |kp g c ks=>exact⟨⟨q.1.1.keep (.upd e' mu' λ_ z=>z.elim),q.1.2⟩,q.2.upd e' mu'⟩
 ·have g1:∃y,ρ[j]? = some (some (.own y)):=by
   rcases eF h1 with⟨e,_,_⟩|⟨_,h⟩
   ·exact⟨x,by rw[e];exact hi⟩
   ·exact⟨_,h⟩
  have g2:∃y,ρ[k]? = some (some (.own y)):=by
   rcases eF h2 with⟨e,_,_⟩|⟨_,h⟩
   ·exact⟨x,by rw[e];exact hi⟩
   ·exact⟨_,h⟩
  obtain⟨y1,g1⟩:=g1
  obtain⟨y2,g2⟩:=g2
  exact p.dis j k y1 y2 b g1 g2 h3 h4
theorem Ev.upd {a:ax}{o:HO}(wa:W a):Ev W H W (upd H a o):=λb u e n _=>⟨by rw[aH (λz=>n (by rw[z];exact wa))];exact e,n⟩
end
section
variable {X:Cx}{σ:St}{H:Hp}{D:cB}{te:aL}{t u:aV}
def bI:aV:=λD ρ=>D.nx ρ
def aJ (t u:aV):aV:=λD ρ=>t { D with nx:=u D } ρ
theorem aM6 (h:LS X bI D σ H):M3 D σ H:=by
 obtain⟨W,ρ,D',px,q,k⟩:=h
 exact k.nx W σ H ρ (Ev.refl _ _) px q
theorem aM7 (h:LS X (aJ t u) D σ H):M4 (LS X t) (LS X u) D σ H:=by
 obtain⟨W,ρ,D',px,q,k⟩:=h
 exact⟨W,ρ,_,px,q,λW' σ' H' ρ' e px' q'=>⟨W',ρ',D',px',q',k.step e⟩,k.rt,k.bk,k.ct⟩
def yO:Tg->PV->Bool
 |.fr,_=>true
 |.nw,_=>true
 |_,x=>flat x
def yP:Tg->PV->Prop
 |.rd,x=>flat x=true
 |_,_=>True
theorem W7 {K:ac}{H0 Hs H:Hp}{W:ax->Prop}{σ:St}{ρ:b8}{g:Tg}{x:PV}{v:V}(px:PX K H0 W σ ρ Hs)(n:yP g x)(r:aI K (Mg H0 W Hs g) H v x):aI K (Ms H0 W (yO g x)) H v x:=by
 cases g with
 |fr=>exact Nw.rep (g:=.fr) px trivial r
 |nw=>exact Nw.rep (g:=.nw) px trivial r
 |sh=>
  show aI K (Ms H0 W (flat x)) H v x;cases e:flat x with
  |true=>exact r.flat e
  |false=>exact r.same (aE.refl _) λ_ z=>z
 |rd=>exact r.flat n
def bE (i:Nat)(te:aL):aV:=λD ρ=>te ρ λx g=>yP g x/\D.nx (ρ.set i (some (.sh (yO g x) x)))
theorem aM8 {i:Nat}(h:LS X (bE i te) D σ H):nX (LE X te) (fJ i) D σ H:=by
 obtain⟨W,ρ,D',px,q,k⟩:=h
 refine⟨W,ρ,_,px,q,?_⟩;rintro v H1 x g s r ⟨n,q⟩;exact k.nx W _ H1 _ (Ev.same s) ((px.mono s).setSh (W7 px n r)) q
def W8:PV->Bool
 |.lst xs=>flats xs
 |.dK ps=>flats (ps.map (·.2))
 |.dT ps=>flats (ps.map (·.2))
 |_=>false
theorem aM9 {K:ac}{M:ax->Prop}{H:Hp}{v:V}{x:PV}(r:aI K M H v x)(o:W8 x=true):∃a,v = .ref a/\M a/\∀M',j7 K M' H a x:=by
 cases r with
 |lst m e r=>exact⟨_,rfl,m,λ_=>⟨_,e,r.flat o⟩⟩
 |dK m e q r=>exact⟨_,rfl,m,λ_=>⟨_,e,q,r.flat o⟩⟩
 |dT m e q r=>exact⟨_,rfl,m,λ_=>⟨_,e,q,r.flat o⟩⟩
 |_=>cases o
def i7 (i:Nat)(te:aL):aV:=λD ρ=>te ρ λx g=>g = .fr/\W8 x=true/\D.nx (ρ.set i (some (.own x)))
theorem aN0 {i:Nat}(h:LS X (i7 i te) D σ H):nX (LE X te) (fJ i) D σ H:=by
 obtain⟨W,ρ,D',px,q,k⟩:=h
 refine⟨W,ρ,_,px,q,?_⟩;rintro v H1 x g s r ⟨rfl,o,q⟩
 obtain⟨a,rfl,m,w⟩:=aM9 r o
 exact k.nx _ _ H1 _ (Ev.own s m) (px.setOwn s m (w _)) q
def bC (te:aL):aV:=λD ρ=>te ρ λx g=>Nw g x/\D.rt x
theorem aN1 (h:LS X (bC te) D σ H):wJ (LE X te) D σ H:=by
 obtain⟨W,ρ,D',px,q,k⟩:=h
 refine⟨W,ρ,_,px,q,?_⟩;rintro v H1 x g s r ⟨n,q⟩;exact k.rt v H1 x (px.same.trans s) ((Nw.rep px n r).same (aE.refl _) λ_ z=>z.2) q
def Slot.nw:Slot->Prop
 |.own _=>True
 |.kp _ _ _=>True
 |.sh true _=>True
 |.sh false x=>flat x=true
def lN (i:Nat):aV:=λD ρ=>∃m,ρ[i]? = some (some m)/\m.nw/\D.rt m.val
theorem aN2 {i:Nat}(h:LS X (lN i) D σ H):wJ (eQ i) D σ H:=by
 obtain⟨W,ρ,D',px,⟨m,hi,n,q⟩,k⟩:=h
 obtain⟨v,ev,r⟩:=px.sl i _ hi
 refine⟨v,ev,k.rt v H _ px.same ?_ q⟩;cases m with
 |own x=>
  obtain⟨a,rfl,wa,r⟩:=r
  exact r.rep (λ_ z=>z.2) (px.wm a wa).1
 |sh g x=>
  cases g with
  |true=>exact aI.same r (aE.refl _) λ_ z=>z.2
  |false=>exact aI.flat n r
 |kp g x ks=>exact r.1.1.flat r.1.2
def bF (c:cM)(t u:aV):aV:=λD ρ=>c ρ λb=>if b=true then t D ρ else u D ρ
theorem aN3 {c:cM}(h:LS X (bF c t u) D σ H):M5 (LT X c) (LS X t) (LS X u) D σ H:=by
 obtain⟨W,ρ,D',px,q,k⟩:=h
 refine⟨W,ρ,_,px,q,λb H1 s q1=>?_⟩;cases b with
 |true=>exact aU ⟨W,ρ,D',px.mono s,by simpa using q1,k.step (Ev.same s)⟩
 |false=>exact aN ⟨W,ρ,D',px.mono s,by simpa using q1,k.step (Ev.same s)⟩
def tZ (c:cM)(tb:aV):aV:=λD ρ=>∃I:Nat->b8->Prop,(∃m,I m ρ)/\∀m ρ',I m ρ'->c ρ' λb=>if b=true then tb { D with nx:=λρ2=>∃m',m'<m/\I m' ρ2,ct:=λρ2=>∃m',m'<m/\I m' ρ2,bk:=D.nx } ρ' else D.nx ρ'
theorem aN4 {c:cM}{tb:aV}(h:LS X (tZ c tb) D σ H):M6 (LT X c) (LS X tb) D σ H:=by
 obtain⟨W,ρ,D',px,⟨I,⟨m0,i0⟩,turn⟩,k⟩:=h
 refine⟨λm σ2 H2=>∃W2 ρ2,PX X.K X.H₀ W2 σ2 ρ2 H2/\Ev W H W2 H2/\I m ρ2,⟨m0,W,ρ,px,Ev.refl _ _,i0⟩,?_⟩;rintro m σ2 H2 ⟨W2,ρ2,px2,e2,i2⟩;refine⟨W2,ρ2,_,px2,turn m ρ2 i2,λb H3 s3 q3=>?_⟩;cases b with
 |true=>
  refine aU ⟨λσ4 H4=>∃W4 ρ4,PX X.K X.H₀ W4 σ4 ρ4 H4/\Ev W H W4 H4/\∃m',m'<m/\I m' ρ4,λσ4 H4 ⟨W4,ρ4,a,b,m',c,d⟩=>⟨m',c,W4,ρ4,a,b,d⟩,W2,ρ2,_,px2.mono s3,by simpa using q3,?_⟩;have e3:Ev W H W2 H3:=e2.trans (Ev.same s3)
  exact⟨λW' σ' H' ρ' e p q=>⟨W',ρ',p,e3.trans e,q⟩,k.rt,λW' σ' H' ρ' e p q=>k.nx W' σ' H' ρ' (e3.trans e) p q,λW' σ' H' ρ' e p q=>⟨W',ρ',p,e3.trans e,q⟩⟩
 |false=>exact aN (k.nx W2 σ2 H3 ρ2 (e2.trans (Ev.same s3)) (px2.mono s3) (by simpa using q3))
end
theorem lim {n:Nat}(h:n<=16000000):n<=sizeLine:=bE3 (iM h)
theorem aI.sqT {K:ac}{M:ax->Prop}{H:Hp}{v:V}{xs:List PV}(r:aI K M H v (.tup xs)):∃a us,v = .ref a/\H a=some (.tup us)/\Reps K M H us xs:=by
 cases r with
 |tup e r=>exact⟨_,_,rfl,e,r⟩
theorem aI.sqL {K:ac}{M:ax->Prop}{H:Hp}{v:V}{xs:List PV}(r:aI K M H v (.lst xs)):∃a us,v = .ref a/\M a/\H a=some (.lst us)/\Reps K M H us xs:=by
 cases r with
 |lst m e r=>exact⟨_,_,rfl,m,e,r⟩
theorem kK.sqL {K:ac}{H:Hp}{a:ax}{ns:af}(h:kK K H a ns):aR K H a (ns.map V.int):=h.elim (λz=>.inl (.inr z)) .inr
def j9:PV->Option (List PV)
 |.tup xs=>some xs
 |.lst xs=>some xs
 |.scr ns=>some (intz ns)
 |.kt xs=>some xs
 |.fL xs=>some xs
 |_=>none
theorem aI.seq {K:ac}{M:ax->Prop}{H:Hp}{v:V}{x:PV}{xs:List PV}(r:aI K M H v x)(e:j9 x=some xs):∃a us,v = .ref a/\(aR K H a us∨aS K H a us)/\Reps K M H us xs:=by
 cases r with
 |tup h r=>cases e;exact⟨_,_,rfl,.inr (aS.of h),r⟩
 |lst m h r=>cases e;exact⟨_,_,rfl,.inl (aR.of h),r⟩
 |scr h=>cases e;exact⟨_,_,rfl,.inl h.sqL,Reps.intz _⟩
 |kt h r=>cases e;exact⟨_,_,rfl,.inr (.inr h),r⟩
 |fL h r=>cases e;exact⟨_,_,rfl,.inl (.inl (.inr ⟨_,h⟩)),r⟩
 |_=>cases e
section
variable {X:Cx}{σ:St}{H:Hp}{D:cB}{te ti to:aL}{t u:aV}{Q':VK}
theorem _root_.PP.PX.updL {K:ac}{H0:Hp}{W:ax->Prop}{σ:St}{ρ:b8}{H:Hp}{i:Nat}{a:ax}{x:PV}{us:List V}{ys:List PV}(p:PX K H0 W σ ρ H)(hi:ρ[i]? = some (some (.own x)))(ha:σ[i]? = some (some (.ref a)))(wa:W a)(r:Reps K (Ms H0 W true) (upd H a (.lst us)) us ys) :
  PX K H0 W σ (ρ.set i (some (.own (.lst ys)))) (upd H a (.lst us)):=p.updOwn hi ha wa rfl (y:=.lst ys) ⟨us,aY,r⟩
def iN (i:Nat)(te:aL):aV:=λD ρ=>∃xs,ρ[i]? = some (some (.own (.lst xs)))/\te ρ λx g=>Nw g x/\xs.length<16000000/\D.nx (ρ.set i (some (.own (.lst (xs++[x])))))
theorem aN5 {i:Nat}(h:LS X (iN i te) D σ H):lE (xH X.K "list" xI (eQ i) (iH (LE X te) fZ)) D σ H:=by
 obtain⟨W,ρ,D',px,⟨xs,hi,q⟩,k⟩:=h
 obtain⟨v,ev,a,rfl,wa,us,ea,r⟩:=px.sl i _ hi
 refine⟨_,ev,o4 (aR.of ea),W,ρ,_,px,q,?_⟩;rintro w H1 x g s rx ⟨n,hl,q⟩;have ea1:=s _ _ ea;refine⟨a,us,w,rfl,rfl,ea1,iM (by rw[r.length];omega),?_⟩;refine k.nx W σ _ _ ((Ev.same s).trans (Ev.upd wa)) ((px.mono s).updL hi ev wa ?_) q;exact ((r.same s λ_ z=>z).append (.cons (Nw.rep px n rx) .nil)).keep (.upd ea1 rfl λb m=>⟨oE wa m,m⟩)
def W9 (K:ac):V->List V->Hp->VK->Prop:=λx vs H Q=>R8 x vs H Q∨V6 K x vs H Q
def yQ (i:Nat)(te:aL):aV:=λD ρ=>∃xs,ρ[i]? = some (some (.own (.lst xs)))/\te ρ λy g=>∃ys,(y = .tup ys∨y = .lst ys)/\(Nw g y∨flats ys=true)/\xs.length+ys.length<=16000000/\D.nx (ρ.set i (some (.own (.lst (xs++ys)))))
theorem aN6 {i:Nat}(h:LS X (yQ i te) D σ H):lE (xH X.K "list" (W9 X.K) (eQ i) (iH (LE X te) fZ)) D σ H:=by
 obtain⟨W,ρ,D',px,⟨xs,hi,q⟩,k⟩:=h
 obtain⟨v,ev,a,rfl,wa,us,ea,r⟩:=px.sl i _ hi
 refine⟨_,ev,o4 (aR.of ea),W,ρ,_,px,q,?_⟩;rintro w H1 y g s ry ⟨ys,hy,n,hl,q⟩;have ea1:=s _ _ ea;have key:∀(zs:List V),Reps X.K (Ms X.H₀ W true) H1 zs ys->D.nx σ (upd H1 a (.lst (us++zs))):=λzs rz=>by
  refine k.nx W σ _ _ ((Ev.same s).trans (Ev.upd wa)) ((px.mono s).updL hi ev wa ?_) q;exact ((r.same s λ_ z=>z).append rz).keep (.upd ea1 rfl λb m=>⟨oE wa m,m⟩)
 have lr:=r.length;rcases hy with rfl|rfl
 ·obtain⟨b,zs,rfl,eb,rz⟩:=ry.sqT
  have lz:=rz.length;refine .inr ⟨a,b,us,zs,rfl,rfl,ea1,aS.of eb,lim (by omega),key zs ?_⟩;rcases n with n|n
  ·obtain⟨b',zs',e1,e2,rz'⟩:=(Nw.rep px n ry).sqT
   cases e1;rw[eb]at e2;cases e2;exact rz'
  ·exact rz.flat n
 ·obtain⟨b,zs,rfl,_,eb,rz⟩:=ry.sqL
  have lz:=rz.length;refine .inl ⟨a,b,us,zs,rfl,rfl,ea1,eb,lim (by omega),key zs ?_⟩;rcases n with n|n
  ·obtain⟨b',zs',e1,_,e2,rz'⟩:=(Nw.rep px n ry).sqL
   cases e1;rw[eb]at e2;cases e2;exact rz'
  ·exact rz.flat n
theorem Reps.snoc_inv {K:ac}{M:ax->Prop}{H:Hp}{us:List V}{xs:List PV}{y:PV}(r:Reps K M H us (xs++[y])):∃vs v,us=vs++[v]/\Reps K M H vs xs/\aI K M H v y:=by
 have l:=r.length;have h1:=r.take xs.length;have h2:=r.drop xs.length;rw[List.take_left]at h1;rw[List.drop_left]at h2;generalize hd:us.drop xs.length=ds at h2;cases h2 with
 |cons q t=>
  cases t
  exact⟨_,_,by rw[<- hd,bA7],h1,q⟩
end
theorem Reps.atI {K:ac}{M:ax->Prop}{H:Hp}{us:List V}{xs:List PV}{i:Int}{z:PV}(r:Reps K M H us xs)(h:L2.atI xs i=some z):∃v,L2.atI us i=some v/\aI K M H v z:=by
 unfold L2.atI at h ⊢;rw[r.length];cases e:kG xs.length i with
 |none=>rw[e]at h;cases h
 |some j=>rw[e]at h;exact r.at h
section
variable {X:Cx}{σ:St}{H:Hp}{Q':VK}{ta tb te:aL}{tr:c9}
def yR:PV->Tg->PV->Tg->PK->Prop:=λx g y _ Q=>∃xs i z,j9 x=some xs/\y = .int i/\L2.atI xs i=some z/\Q z g
theorem aN7:eY X yR (Q9 X.K):=by
 rintro W Hs H u v x y g g' Q Q' s n r1 r2 ⟨xs,i,z,e,rfl,hz,q⟩ k;cases r2
 obtain⟨a,us,rfl,hs,r⟩:=r1.seq e
 obtain⟨v,hv,rv⟩:=r.atI hz
 rcases hs with hs|hs
 ·exact .inl ⟨a,us,i,v,rfl,rfl,hs,hv,k v H z g (aE.refl _) rv q⟩
 ·exact .inr (.inl ⟨a,us,i,v,rfl,rfl,hs,hv,k v H z g (aE.refl _) rv q⟩)
def X0:PV->Option Nat
 |.tup xs=>some xs.length
 |.lst xs=>some xs.length
 |.scr ns=>some ns.length
 |.dK ps=>some ps.length
 |.kt xs=>some xs.length
 |.fL xs=>some xs.length
 |_=>none
def i8:List PV->(PV->Prop)->Prop:=λxs Q=>∃x n,xs = [x]/\X0 x=some n/\Q (.int n)
theorem Reps.one {K:ac}{M:ax->Prop}{H:Hp}{vs:List V}{x:PV}(r:Reps K M H vs [x]):∃v,vs = [v]/\aI K M H v x:=by
 cases r with
 |cons r t=>cases t;exact⟨_,rfl,r⟩
theorem Reps.two {K:ac}{M:ax->Prop}{H:Hp}{vs:List V}{x y:PV}(r:Reps K M H vs [x,y]):∃v w,vs = [v,w]/\aI K M H v x/\aI K M H w y:=by
 cases r with
 |cons r t=>
  obtain⟨w,rfl,q⟩:=t.one
  exact⟨_,_,rfl,r,q⟩
theorem aN8:dZ X i8 (λxs H Q=>(∃p ys,xs = [.ref p]/\(aR X.K H p ys∨aS X.K H p ys)/\Q (.int ys.length) H)∨∃a kvs,xs = [V.ref a]/\H a=some (.dK kvs)/\Q (.int kvs.length) H):=by
 rintro H vs xs Q Q' r ⟨x,n,rfl,e,q⟩ k
 obtain⟨v,rfl,r1⟩:=r.one
 have fin:∀{m:Nat},m=n->Q' (.int m) H:=λ{m} z=>by rw[z];exact k _ _ _ (aE.refl _) (.int _) q
 cases r1 with
 |tup h r2=>cases e;exact .inl ⟨_,_,rfl,.inr (aS.of h),fin r2.length⟩
 |lst m h r2=>cases e;exact .inl ⟨_,_,rfl,.inl (aR.of h),fin r2.length⟩
 |scr h=>cases e;exact .inl ⟨_,_,rfl,.inl h.sqL,fin (by rw[bx7])⟩
 |kt h r2=>cases e;exact .inl ⟨_,_,rfl,.inr (.inr h),fin r2.length⟩
 |fL h r2=>cases e;exact .inl ⟨_,_,rfl,.inl (.inl (.inr ⟨_,h⟩)),fin r2.length⟩
 |dK m h e' r=>
  cases e;refine .inr ⟨_,_,rfl,h,fin ?_⟩
  have:=congrArg List.length e'
  rw[bx7,bx7]at this;exact this
 |_=>cases e
def seqT:PV->Option (List PV)
 |.kt _=>none
 |x=>j9 x
def X1:List PV->(PV->Prop)->Prop:=λxs Q=>∃x ys,xs = [x]/\seqT x=some ys/\flats ys=true/\Q (.tup ys)
def qX:List PV->(PV->Prop)->Prop:=λxs Q=>∃x ys,xs = [x]/\j9 x=some ys/\flats ys=true/\Q (.lst ys)
theorem aN9:dZ X (λxs Q=>X1 xs Q/\∀ns,xs≠[.scr ns]) (λxs H Q=>∃p ys,xs = [.ref p]/\((aR X.K H p ys/\∀l,H l=none->Q (.ref l) (upd H l (.tup ys)))∨(aS X.K H p ys/\Q (.ref p) H))):=by
 rintro H vs xs Q Q' r ⟨⟨x,ys,rfl,e,f,q⟩,nsc⟩ k
 obtain⟨v,rfl,r1⟩:=r.one
 cases r1 with
 |tup h r2=>cases e;exact⟨_,_,rfl,.inr ⟨aS.of h,k _ _ _ (aE.refl _) (.tup h (r2.flat f)) q⟩⟩
 |lst m h r2=>cases e;exact⟨_,_,rfl,.inl ⟨aR.of h,λl hl=>k _ _ _ (bS hl _) (.tup aY ((r2.flat f).same (bS hl _) λ_ z=>z)) q⟩⟩
 |scr h=>exact absurd rfl (nsc _)
 |fL h r2=>cases e;exact⟨_,_,rfl,.inl ⟨.inl (.inr ⟨_,h⟩),λl hl=>k _ _ _ (bS hl _) (.tup aY ((r2.flat f).same (bS hl _) λ_ z=>z)) q⟩⟩
 |_=>cases e
theorem aO0:dZ X qX (λxs H Q=>∃p ys,xs = [.ref p]/\(aR X.K H p ys∨aS X.K H p ys)/\∀l,H l=none->Q (.ref l) (upd H l (.lst ys))):=by
 rintro H vs xs Q Q' r ⟨x,ys,rfl,e,f,q⟩ k
 obtain⟨v,rfl,r1⟩:=r.one
 obtain⟨a,us,rfl,hs,r2⟩:=r1.seq e
 exact⟨_,_,rfl,hs,λl hl=>k _ _ _ (bS hl _) (.lst hl aY ((r2.flat f).same (bS hl _) λ_ z=>z)) q⟩
def u5:List PV->(PV->Prop)->Prop:=λxs Q=>∃ns,xs = [.lst (intz ns)]/\ns.length<64/\∀ms:af,ms.Perm ns->ms.Pairwise (· <= ·)->Q (.lst (intz ms))
theorem aO1:dZ X u5 (U4 X.K):=by
 rintro H vs xs Q Q' r ⟨ns,rfl,hl,q⟩ k
 obtain⟨v,rfl,r1⟩:=r.one
 obtain⟨a,us,rfl,_,h,r2⟩:=r1.sqL
 obtain rfl:=r2.ofInts
 exact⟨a,ns,rfl,aR.of h,hl,λl ms hl' p o=>k _ _ _ (bS hl' _) (.lst hl' aY (Reps.intz ms)) (q ms p o)⟩
def yS:List PV->(PV->Prop)->Prop:=λxs Q=>∃bs:List Bool,xs = [.lst (bs.map PV.bl)]/\Q (.bl (bs.all id))
theorem Reps.ofBls {K:ac}{M:ax->Prop}{H:Hp}:∀{ns:List Bool}{us:List V},Reps K M H us (ns.map PV.bl)->us=ns.map V.bl
 |[],_,.nil=>rfl
 |n::r,_,.cons q t=>by
  cases q;rw[Reps.ofBls t];rfl
theorem aO2:dZ X yS (λxs H Q=>∃(a:ax) (bs:List Bool),xs = [.ref a]/\aR X.K H a (bs.map V.bl)/\Q (.bl (bs.all id)) H):=by
 rintro H vs xs Q Q' r ⟨bs,rfl,q⟩ k
 obtain⟨v,rfl,r1⟩:=r.one
 obtain⟨a,us,rfl,_,h,r2⟩:=r1.sqL
 obtain rfl:=r2.ofBls
 exact⟨a,bs,rfl,aR.of h,k _ _ _ (aE.refl _) (.bl _) q⟩
def u6:List PV->(PV->Prop)->Prop:=λxs Q=>∃i j,xs = [.int i,.int j]/\Q (.int (if j<i then j else i))
def qY:List PV->(PV->Prop)->Prop:=λxs Q=>∃i j,xs = [.int i,.int j]/\Q (.int (if j>i then j else i))
theorem aO3:dZ X u6 (λxs H Q=>∃i j,xs = [.int i,.int j]/\Q (.int (if j<i then j else i)) H):=by
 rintro H vs xs Q Q' r ⟨i,j,rfl,q⟩ k
 obtain⟨v,w,rfl,r1,r2⟩:=r.two
 cases r1;cases r2
 exact⟨i,j,rfl,k _ _ _ (aE.refl _) (.int _) q⟩
theorem aO4:dZ X qY (λxs H Q=>∃i j,xs = [.int i,.int j]/\Q (.int (if j>i then j else i)) H):=by
 rintro H vs xs Q Q' r ⟨i,j,rfl,q⟩ k
 obtain⟨v,w,rfl,r1,r2⟩:=r.two
 cases r1;cases r2
 exact⟨i,j,rfl,k _ _ _ (aE.refl _) (.int _) q⟩
abbrev cG:=List PV->(PV->Prop)->Prop
def qZ (K:ac)(p:cG):Sp:=λvs H Q _=>∃xs Qp,Reps K (λ_=>True) H vs xs/\p xs Qp/\∀v H' x,aE H H'->aI K (λa=>H a=none) H' v x->Qp x->Q v H'
theorem aO5 {p:cG}{E:XK}(h:LE X (aM p tr) σ H Q'):wZ (qZ X.K p) [] E (LA X tr) σ H Q':=by
 obtain⟨W,ρ,Q,px,q,k⟩:=h
 refine⟨W,ρ,_,px,q,λvs H1 xs s1 r1 q1=>⟨_,_,by rw[bA0];exact r1.any,q1,λv H' x s2 r2 q2=>k v H' x .fr (s1.trans s2) (r2.same (aE.refl _) λ_ z=>s1.free z) q2⟩⟩
def aO6:PV->Option Bool
 |.non=>some false
 |.bl b=>some b
 |.int i=>some (i != 0)
 |.tup xs=>some (!xs.isEmpty)
 |.lst xs=>some (!xs.isEmpty)
 |.dK ps=>some (!ps.isEmpty)
 |_=>none
def yT (t:aL):cM:=λρ Q=>t ρ λx _=>∃b,aO6 x=some b/\Q b
theorem u7 {α β:Type}:∀{l:List α}{m:List β},l.length=m.length->l.isEmpty=m.isEmpty
 |[],[],_=>rfl
 |_::_,_::_,_=>rfl
theorem aO7 {t:aL}{Qb:Bool->Hp->Prop}(h:LT X (yT t) σ H Qb):LE X t σ H λx H'=>∃k,wU X.K x H' k/\Qb k H':=by
 obtain⟨W,ρ,Q,px,q,k⟩:=h
 refine⟨W,ρ,_,px,q,?_⟩;rintro v H1 x g s r ⟨b,e,q⟩;refine⟨b,?_,k _ _ s q⟩;cases r with
 |non=>cases e;rfl
 |bl b=>cases e;rfl
 |int i=>cases e;rfl
 |str x=>cases e
 |tup h r=>cases e;exact .inr (.inl ⟨_,aS.of h,by rw[u7 r.length]⟩)
 |lst m h r=>cases e;exact .inl ⟨_,aR.of h,by rw[u7 r.length]⟩
 |dK m h e' r=>
  cases e;refine .inr (.inr ⟨_,h,?_⟩)
  have:=congrArg List.length e'
  rw[bx7,bx7]at this;rw[u7 this]
 |dT m h e' r=>cases e
 |scr h=>cases e
 |kt h r=>cases e
 |exc h e' c=>cases e
 |fK h e' r=>cases e
 |fT h e' r=>cases e
 |fL h r=>cases e
 |fn h=>cases e
 |ob=>cases e
def yU:PV->Bool
 |.non=>true
 |_=>false
def yV (neg:Bool):PV->Tg->PV->Tg->PK->Prop:=λx _ y _ Q=>y = .non/\Q (.bl (if neg=true then !yU x else yU x)) .fr
theorem aO8 {K:ac}{M:ax->Prop}{H:Hp}{v:V}{x:PV}(r:aI K M H v x):decide (v = .non)=yU x:=by
 cases r<;>rfl
theorem aO9:eY X (yV false) (λx y H Q=>y = .non/\Q (.bl (decide (x = .non))) H):=by
 rintro W Hs H u v x y g g' Q Q' s n r1 r2 ⟨rfl,q⟩ k;cases r2
 exact⟨rfl,by rw[aO8 r1];exact k _ _ _ _ (aE.refl _) (.bl _) q⟩
end
structure oF (K:ac)(H0:Hp)(W:ax->Prop)(g:Bool)(H1:Hp)(J:It)(xs:List PV):Prop where
 go:∀W' H' i,Ev W H1 W' H'->i<xs.length->J.go i H'
 yld:∀W' H' i v H2,Ev W H1 W' H'->J.yld i H' v H2->i<xs.length->aE H' H2/\∃x,xs[i]? = some x/\aI K (Ms H0 W' g) H2 v x
 stop:∀W' H',Ev W H1 W' H'->J.stop xs.length H'
abbrev gT:=b8->(List PV->Bool->Prop)->Prop
def LI (X:Cx)(t:gT):TI:=λσ H R=>∃(W:ax->Prop) (ρ:b8) (Q:List PV->Bool->Prop),PX X.K X.H₀ W σ ρ H/\t ρ Q/\∀J H1 xs g,aE H H1->oF X.K X.H₀ W g H1 J xs->Q xs g->R J H1
theorem Ev.keep {H0:Hp}{W W':ax->Prop}{H H':Hp}{g:Bool}(e:Ev W H W' H')(tw:∀a,W a->∃o,H a=some o/\fO o=true):eW (Ms H0 W g) (Ms H0 W' g) H H':=by
 have m:∀{a:ax}{o:HO},Ms H0 W g a->H a=some o->o9 o=false->Ms H0 W' g a/\H' a=some o:=λ{a o} z h hk=>by
  cases g with
  |true=>
   obtain⟨h1,h2⟩:=e a _ h z.1 hk
   exact⟨⟨h2,z.2⟩,h1⟩
  |false=>
   obtain⟨h1,h2⟩:=e a _ h z hk
   exact⟨h2,h1⟩
 refine⟨λa _ z h=>m z h rfl,λa _ z h=>m z h rfl,λa _ z h=>m z h rfl,λa _ h=>(e a _ h (λz=>?_) rfl).1,λa _ _ h f=>(e a _ h (λz=>?_) f).1⟩
 ·obtain⟨o,h',mu⟩:=tw a z;rw[h]at h';cases h';cases mu
 ·obtain⟨o,h',mu⟩:=tw a z;rw[h]at h';cases h';cases mu
section
variable {X:Cx}{σ:St}{H:Hp}{te:aL}{tr:c9}{R:It→Hp→Prop}
def X2 (K:ac)(tl:TE):TI:=λσ H R=>tl σ H λx H1=>∃a,x = .ref a/\((∃xs,aR K H1 a xs/\R (nY K a) H1)∨(∃xs,aS K H1 a xs/\R (lG K a) H1))
def yW:Tg->List PV->Bool
 |.fr,_=>true
 |.nw,_=>true
 |_,xs=>flats xs
def eG (te:aL):gT:=λρ Q=>te ρ λx g=>∃xs,j9 x=some xs/\(g = .rd->flat x=true)/\Q xs (yW g xs)
theorem yX {K:ac}{H0:Hp}{W:ax->Prop}{g:Bool}{H1:Hp}{a:ax}{us:List V}{xs:List PV}(tw:∀a,W a->∃o,H1 a=some o/\fO o=true)(ha:∀W' H',Ev W H1 W' H'->aR K H' a us)(r:Reps K (Ms H0 W g) H1 us xs):oF K H0 W g H1 (nY K a) xs:=by
 have lr:=r.length;refine⟨λW' H' i e hi=>⟨us,us[i]'(by omega),ha W' H' e,by simp⟩,λW' H' i v H2 e y hi=>?_,λW' H' e=>⟨us,ha W' H' e,by omega⟩⟩
 obtain⟨rfl,y⟩:=y
 obtain⟨x,hx,rx⟩:=r.get (y us (ha W' _ e))
 exact⟨aE.refl _,x,hx,rx.keep (e.keep tw)⟩
theorem X3 {K:ac}{H0:Hp}{W:ax->Prop}{g:Bool}{H1:Hp}{a:ax}{us:List V}{xs:List PV}(tw:∀a,W a->∃o,H1 a=some o/\fO o=true)(ha:∀W' H',Ev W H1 W' H'->aS K H' a us)(r:Reps K (Ms H0 W g) H1 us xs):oF K H0 W g H1 (lG K a) xs:=by
 have lr:=r.length;refine⟨λW' H' i e hi=>⟨us,us[i]'(by omega),ha W' H' e,by simp⟩,λW' H' i v H2 e y hi=>?_,λW' H' e=>⟨us,ha W' H' e,by omega⟩⟩
 obtain⟨rfl,y⟩:=y
 obtain⟨x,hx,rx⟩:=r.get (y us (ha W' _ e))
 exact⟨aE.refl _,x,hx,rx.keep (e.keep tw)⟩
theorem mU {K:ac}{H0 Hs H:Hp}{W:ax->Prop}{σ:St}{ρ:b8}{g:Tg}{us:List V}{xs:List PV}(px:PX K H0 W σ ρ Hs)(hg:g = .rd->flats xs=true)(r:Reps K (Mg H0 W Hs g) H us xs):Reps K (Ms H0 W (yW g xs)) H us xs:=by
 cases g with
 |fr=>exact r.same (aE.refl _) λ_ z=>px.new z
 |nw=>exact r.same (aE.refl _) λ_ z=>z
 |sh=>
  show Reps K (Ms H0 W (flats xs)) H us xs;cases e:flats xs with
  |true=>exact r.flat e
  |false=>exact r.same (aE.refl _) λ_ z=>z
 |rd=>exact r.flat (hg rfl)
theorem aP0 (h:LI X (eG te) σ H R):X2 X.K (LE X te) σ H R:=by
 obtain⟨W,ρ,Q,px,q,k⟩:=h
 refine⟨W,ρ,_,px,q,?_⟩;rintro v H1 x g s r ⟨xs,e,hg,q⟩;have px1:=px.mono s;have tw:∀a,W a->∃o,H1 a=some o/\fO o=true:=λa z=>(px1.wm a z).2
 cases r with
 |tup h r=>
  cases e;refine⟨_,rfl,.inr ⟨_,aS.of h,k _ _ _ _ s (X3 tw (λW' H' e=>aS.of (e _ _ h (λz=>?_) rfl).1) (mU px (λz=>by have:=hg z;unfold flat at this;exact this) r)) q⟩⟩
  obtain⟨o,h',mu⟩:=tw _ z;rw[h]at h';cases h';cases mu
 |@lst a us xs' m h r=>
  cases e;have wa:¬W a:=by
   cases g with
   |fr=>exact (px.new m).1
   |nw=>exact m.1
   |sh=>exact m
   |rd=>have:=hg rfl;unfold flat at this;cases this
  exact⟨_,rfl,.inl ⟨_,aR.of h,k _ _ _ _ s (yX tw (λW' H' e=>aR.of (e _ _ h wa rfl).1) (mU px (λz=>by have:=hg z;unfold flat at this;cases this) r)) q⟩⟩
 |scr h=>
  cases e;refine⟨_,rfl,.inl ⟨_,h.sqL,k _ _ _ _ s (yX tw (λW' H' e=>(kK.keep (λa o u hz f=>(e _ _ hz (λz=>?_) f).1) h).sqL) (mU (g:=g) px (λz=>bV _) (Reps.intz _))) q⟩⟩
  obtain⟨o,h',mu⟩:=tw _ z;rw[hz]at h';cases h';cases mu
 |kt h r=>
  cases e
  exact⟨_,rfl,.inr ⟨_,.inr h,k _ _ _ _ s (X3 tw (λW' H' e=>.inr h) (mU px (λz=>by have:=hg z;unfold flat at this;exact this) r)) q⟩⟩
 |fL h r=>
  cases e;refine⟨_,rfl,.inl ⟨_,.inl (.inr ⟨_,h⟩),k _ _ _ _ s (yX tw (λW' H' e=>.inl (.inr ⟨_,(e _ _ h (λz=>?_) rfl).1⟩)) (mU px (λz=>by have:=hg z;unfold flat at this;exact this) r)) q⟩⟩
  obtain⟨o,h',mu⟩:=tw _ z;rw[h]at h';cases h';cases mu
 |_=>cases e
def gB (lo:Int)(n:Nat):List PV:=(List.range n).map λ(i:Nat)=>PV.int (lo+(i:Int))
theorem mV (lo:Int)(n:Nat):(gB lo n).length=n:=by unfold gB;rw[bx7,bE4]
theorem X4 {lo:Int}{n i:Nat}(h:i<n):(gB lo n)[i]? = some (.int (lo+i)):=by unfold gB;rw[bz1,List.getElem?_range h];rfl
def lO (te:aL):gT:=λρ Q=>te ρ λx _=>∃j:Int,x = .int j/\-1000000<=j/\j<=1000000/\Q (gB 0 j.toNat) true
def yY (ta tb:aL):gT:=λρ Q=>ta ρ λx _=>tb ρ λy _=>∃i j:Int,x = .int i/\y = .int j/\(-1000000<=i/\i<=1000000/\-1000000<=j/\j<=1000000)/\Q (gB i (j-i).toNat) true
theorem X5 {K:ac}{H0:Hp}{W:ax->Prop}{H1:Hp}(lo:Int)(n:Nat):oF K H0 W true H1 (qA lo n) (gB lo n):=by
 refine⟨λW' H' i e hi=>by rw[mV]at hi;exact hi,λW' H' i v H2 e y hi=>?_,λW' H' e=>by show n<=(gB lo n).length;rw[mV];exact bx9 _⟩;rw[mV]at hi
 obtain⟨rfl,rfl⟩:=y
 exact⟨aE.refl _,_,X4 hi,.int _⟩
theorem aP1 (h:LI X (lO te) σ H R):N1 (iH (LE X te) fZ) σ H R:=by
 obtain⟨W,ρ,Q,px,q,k⟩:=h
 refine⟨W,ρ,_,px,q,?_⟩;rintro v H1 x g s r ⟨j,rfl,h1,h2,q⟩;cases r
 exact⟨j,rfl,by omega,by omega,k _ _ _ _ s (X5 0 j.toNat) q⟩
theorem aP2 {ta tb:aL}(h:LI X (yY ta tb) σ H R):N2 (iH (LE X ta) (iH (LE X tb) fZ)) σ H R:=by
 obtain⟨W,ρ,Q,px,q,k⟩:=h
 refine⟨W,ρ,_,px,q,λv H1 x g s r q=>⟨W,ρ,_,px.mono s,q,?_⟩⟩;rintro w H2 y g' s2 r2 ⟨i,j,rfl,rfl,h,q⟩;cases r;cases r2
 exact⟨i,j,rfl,by omega,k _ _ _ _ (s.trans s2) (X5 i (j-i).toNat) q⟩
end
abbrev jQ:=PV->Bool->b8->(b8->Prop)->Prop
def oG (K:ac)(own:Nat->Prop)(p:jQ)(t:TG):Prop:=∀(H0:Hp) (W:ax->Prop) (σ:St) (ρ:b8) (H:Hp) (v:V) (x:PV) (g:Bool) (Q:b8->Prop) (Q':St->Hp->Prop),
 PX K H0 W σ ρ H->aI K (Ms H0 W g) H v x->p x g ρ Q->(∀σ' ρ',PX K H0 W σ' ρ' H->(∀i,¬own i->σ'[i]? = σ[i]?)->σ'.length=σ.length->Q ρ'->Q' σ' H)->t v σ H Q'
def cH (i:Nat):jQ:=λx g ρ Q=>Q (ρ.set i (some (.sh (g||flat x) x)))
theorem r6 {K:ac}{H0 H:Hp}{W:ax->Prop}{v:V}{x:PV}{g:Bool}(r:aI K (Ms H0 W g) H v x):aI K (Ms H0 W (g||flat x)) H v x:=by
 cases g with
 |true=>exact r
 |false=>
  show aI K (Ms H0 W (flat x)) H v x;cases e:flat x with
  |true=>exact r.flat e
  |false=>exact r
theorem yZ (K:ac)(i:Nat):oG K (· = i) (cH i) (fJ i):=by
 intro H0 W σ ρ H v x g Q Q' px r q k;exact k _ _ (px.setSh (r6 r)) (λj hj=>by rw[bA1 (Ne.symm hj)]) (bE2 ..) q
def lP (i j:Nat):jQ:=λx g ρ Q=>∃y z,x = .tup [y,z]/\Q ((ρ.set i (some (.sh (g||flat y) y))).set j (some (.sh (g||flat z) z)))
theorem X6 (K:ac)(i j:Nat):oG K (λk=>k=i∨k=j) (lP i j) (pX K 2 (kC (fJ i) (kC (fJ j) pV))):=by
 intro H0 W σ ρ H v x g Q Q' px r q k
 obtain⟨y,z,rfl,q⟩:=q
 obtain⟨a,us,rfl,h,r⟩:=r.sqT
 obtain⟨u1,u2,rfl,r1,r2⟩:=r.two
 refine⟨a,_,rfl,aS.of h,rfl,u1,_,rfl,u2,_,rfl,rfl,k _ _ ((px.setSh (r6 r1)).setSh (r6 r2)) (λk hk=>?_) (by rw[bE2,bE2]) q⟩;rw[bA1 (λe=>hk (.inr e.symm)),bA1 (λe=>hk (.inl e.symm))]
section
variable {X:Cx}{σ:St}{H:Hp}{D:cB}
def fG (ti:gT)(p:jQ)(tb:aV):aV:=λD ρ=>ti ρ λxs g=>∃I:Nat->b8->Prop,I 0 ρ/\(∀i x ρ',xs[i]? = some x->I i ρ'->p x g ρ' λρ2=>tb { D with nx:=I (i+1),ct:=I (i+1),bk:=D.nx } ρ2)/\∀ρ',I xs.length ρ'->D.nx ρ'
theorem aP3 {ti:gT}{p:jQ}{g:TG}{tb:aV}{own:Nat->Prop}(hg:oG X.K own p g)(h:LS X (fG ti p tb) D σ H):N3 (LI X ti) g (LS X tb) D σ H:=by
 obtain⟨W,ρ,D',px,q,k⟩:=h
 refine⟨W,ρ,_,px,q,?_⟩;rintro J H1 xs gb s it ⟨I,i0,turn,fin⟩;refine⟨λi m σ2 H2=>m=xs.length-i/\i<=xs.length/\∃W2 ρ2,PX X.K X.H₀ W2 σ2 ρ2 H2/\Ev W H1 W2 H2/\I i ρ2,⟨xs.length,by omega,bB2 _,W,ρ,px.mono s,Ev.refl _ _,i0⟩,?_⟩;rintro i m σ2 H2 ⟨rfl,hi,W2,ρ2,px2,e2,i2⟩;have e0:Ev W H W2 H2:=(Ev.same s).trans e2;by_cases hlt:i<xs.length
 ·refine .inr ⟨it.go W2 H2 i e2 hlt,λσ3 H3=>∃W3 ρ3,PX X.K X.H₀ W3 σ3 ρ3 H3/\Ev W H1 W3 H3/\I (i+1) ρ3,λσ3 H3 ⟨W3,ρ3,a,b,c⟩=>⟨xs.length-(i+1),by omega,rfl,hlt,W3,ρ3,a,b,c⟩,λv H3 y=>?_⟩
  obtain⟨s3,x,hx,rx⟩:=it.yld W2 H2 i v H3 e2 y hlt
  refine hg X.H₀ W2 σ2 ρ2 H3 v x gb _ _ (px2.mono s3) rx (turn i x ρ2 hx i2) λσ4 ρ4 px4 _ _ q4=>?_
  have e3:Ev W H1 W2 H3:=e2.trans (Ev.same s3);have e3':Ev W H W2 H3:=e0.trans (Ev.same s3)
  exact⟨W2,ρ4,_,px4,q4,λW' σ' H' ρ' e p q=>⟨W',ρ',p,e3.trans e,q⟩,k.rt,λW' σ' H' ρ' e p q=>k.nx W' σ' H' ρ' (e3'.trans e) p q,λW' σ' H' ρ' e p q=>⟨W',ρ',p,e3.trans e,q⟩⟩
 ·have e:i=xs.length:=by omega
  subst e;exact .inl ⟨it.stop W2 H2 e2,k.nx W2 σ2 H2 ρ2 e0 px2 (fin ρ2 i2)⟩
end
def Slot.blk:Slot->Slot
 |.kp _ x ks=>.kp false x ks
 |.sh _ x=>.sh false x
 |.own x=>.sh false x
def oH (fr:List (Option Nat))(ρ:b8):b8:=fr.map λo=>o.bind λj=>(ρ[j]?).join.map Slot.blk
theorem dA.any {K:ac}{H0 H:Hp}{a:ax}{st un:List PV}(h:dA K H0 H a st un):dA K (λ_=>none) H a st un:=by
 obtain⟨C,dx,l1,l2,us1,us2,h1,h2,h⟩:=h
 exact⟨C,dx,l1,l2,us1,us2,h1,⟨rfl,rfl,rfl,rfl⟩,h⟩
theorem i6.any {K:ac}{H0 H:Hp}{ks:List (ax×List PV×List PV)}(h:i6 K H0 H ks):i6 K (λ_=>none) H ks:=⟨λk hk=>(h.1 k hk).any,h.2⟩
theorem Slot.blk_own {m:Slot}{x:PV}(h:m.blk = .own x):False:=by
 cases m<;>cases h
theorem aP4 {K:ac}{H0 H1 H1' H':Hp}{W W':ax->Prop}{v:V}{m:Slot}(r:tT K H0 W H1 v m)(k:eW (λ_=>False) (λ_=>False) H1 H')(f:∀b o,H1 b=some o->fO o=false->H' b=some o)(rv:aI K (λa=>¬W' a) H' v m.val):tT K H1' W' H' v m.blk:=by
 cases m with
 |sh g x=>exact rv
 |own x=>exact rv
 |kp g x ks=>exact⟨⟨r.1.1.keep k,r.1.2⟩,r.2.any.keep k f⟩
def mW (D:ax):ax->Prop:=λa=>a=D
theorem aP5 {K:ac}{H0:Hp}{W:ax->Prop}{σ:St}{ρ:b8}{H1 H':Hp}{D:ax}{acc:List V}{fr:List (Option Nat)}(px:PX K H0 W σ ρ H1)(hD:H1 D=none)(s:aE H1 H')(ha:H' D=some (.lst acc)) :
  PX K H1 (mW D) (gS fr σ) (oH fr ρ) H':=by
 have old:∀{a:ax}{o:HO},H1 a=some o->a≠D:=λ{a o} e z=>by rw[z,hD]at e;cases e
 refine⟨by unfold gS oH;rw[bx7,bx7],s,λa z=>by cases z;exact⟨hD,_,ha,rfl⟩,λi m h=>?_,λi j x y a h1=>?_⟩
 ·unfold oH at h
  rw[bz1]at h;cases ef:fr[i]? with
  |none=>rw[ef]at h;cases h
  |some o=>
   rw[ef]at h;cases o with
   |none=>cases h
   |some j=>
    have h:some ((ρ[j]?).join.map Slot.blk)=some (some m):=h;cases er:ρ[j]? with
    |none=>rw[er]at h;cases h
    |some o=>
     rw[er]at h;cases o with
     |none=>cases h
     |some m0=>
      cases h
      obtain⟨v,ev,r⟩:=px.sl j m0 er
      refine⟨v,?_,?_⟩
      ·unfold gS
       rw[bz1,ef];show some ((σ[j]?).join)=_;rw[ev];rfl
      ·have r':aI K (λ_=>True) H1 v m0.val:=(V7 (Hs:=H1) r).same (aE.refl _) λ_ _=>trivial
       refine aP4 r (.same s λ_ z=>z) (λ_ _ e _=>s _ _ e) ?_;exact r'.keep ⟨λa _ _ e=>⟨old e,s _ _ e⟩,λa _ _ e=>⟨old e,s _ _ e⟩,λa _ _ e=>⟨old e,s _ _ e⟩,λ_ _ e=>s _ _ e,λ_ _ _ e _=>s _ _ e⟩
 ·unfold oH at h1
  rw[bz1]at h1;cases ef:fr[i]? with
  |none=>rw[ef]at h1;cases h1
  |some o=>
   rw[ef]at h1;cases o with
   |none=>cases h1
   |some j=>
    have h1:some ((ρ[j]?).join.map Slot.blk)=some (some (Slot.own x)):=h1;cases er:ρ[j]? with
    |none=>rw[er]at h1;cases h1
    |some o=>
     rw[er]at h1;cases o with
     |none=>cases h1
     |some m0=>exact (Slot.blk_own (bz3 (bz3 h1))).elim
section
variable {X:Cx}{σ:St}{H:Hp}{Q':VK}
abbrev _root_.L2.Cx.frm (X:Cx)(H1:Hp):Cx:={ X with H₀:=H1 }
def gL (ti:gT)(fr:List (Option Nat))(p:jQ)(tc:cM)(te:aL):aL:=λρ Q=>ti ρ λxs g=>xs.length<=16000000/\∃I:Nat->List PV->Prop,I 0 []/\
 (∀i x acc,xs[i]? = some x->I i acc->p x false (oH fr ρ) λρ2=>tc ρ2 λb=>if b=true then te ρ2 λy gy=>Nw gy y/\I (i+1) (acc++[y]) else I (i+1) acc)/\∀acc,I xs.length acc->Q (.lst acc) .fr
theorem X7 {ti:gT}{fr:List (Option Nat)}{p:jQ}{g:TG}{tc:cM}{te:aL}{own:Nat->Prop}(hg:oG X.K own p g)(ho:∀i,own i->fr[i]? = some none)(h:LE X (gL ti fr p tc te) σ H Q') :
  U0 (LI X ti) fr (λ_=>g) (λH1=>LT (X.frm H1) tc) (λH1=>LE (X.frm H1) te) σ H Q':=by
 obtain⟨W,ρ,Q,px,q,k⟩:=h
 refine⟨W,ρ,_,px,q,?_⟩;rintro J H1 xs gb s it ⟨hl,I,i0,turn,fin⟩ D hD;have px1:=px.mono s;refine⟨λi m acc H'=>m=xs.length-i/\i<=xs.length/\aE H1 H'/\H' D=some (.lst acc)/\∃ys,Reps X.K (Ms H1 (mW D) true) H' acc ys/\ys.length<=i/\I i ys,⟨xs.length,by omega,bB2 _,bS hD _,aY,[],.nil,bx9 _,i0⟩,?_⟩;rintro i m acc H' ⟨rfl,hi,sm,ha,ys,ry,hy,iy⟩;refine⟨ha,?_⟩;have ev:Ev W H1 (oC W D) H':=Ev.own sm hD;by_cases hlt:i<xs.length
 ·refine .inr ⟨it.go _ H' i ev hlt,λv H2 y=>?_⟩
  obtain⟨s2,x,hx,rx⟩:=it.yld _ H' i v H2 ev y hlt
  have ha2:=s2 _ _ ha;have pxb:PX X.K H1 (mW D) (gS fr σ) (oH fr ρ) H2:=aP5 px1 hD (sm.trans s2) ha2;have rx':aI X.K (Ms H1 (mW D) false) H2 v x:=rx.same (aE.refl _) λa z=>by
   cases gb with
   |true=>exact λe=>z.1 (.inr e)
   |false=>exact λe=>z (.inr e)
  refine hg H1 (mW D) _ _ H2 v x false _ _ pxb rx' (turn i x ys hx iy) λσ2 ρ2 px2 hown aj q2=>⟨⟨aj.symm,λj w e=>?_⟩,?_⟩
  ·by_cases oj:own j
   ·have:=ho j oj
    unfold gS at e;rw[bz1,this]at e;cases e
   ·rw[hown j oj];exact e
  ·refine⟨mW D,ρ2,_,px2,q2,λb H4 s4 q4=>?_⟩
   have ha4:=s4 _ _ ha2;have sm4:=(sm.trans s2).trans s4;cases b with
   |false=>
    refine aN ⟨xs.length-(i+1),by omega,rfl,hlt,sm4,ha4,ys,ry.same (s2.trans s4) λ_ z=>z,by omega,by simpa using q4⟩
   |true=>
    refine aU ⟨mW D,ρ2,_,px2.mono s4,by simpa using q4,?_⟩;rintro w H5 y gy s5 ryy ⟨nw,q5⟩;have ha5:=s5 _ _ ha4;have lr:=ry.length;refine⟨ha5,iM (by omega),xs.length-(i+1),by omega,rfl,hlt,λb o e=>?_,aY,ys++[y],?_,by rw[bx8,bB6];omega,q5⟩
    ·rw[aH (λz=>by rw[z,hD]at e;cases e)]
     exact s5 _ _ (sm4 _ _ e)
    ·exact ((ry.same ((s2.trans s4).trans s5) λ_ z=>z).append (.cons (Nw.rep (px2.mono s4) nw ryy) .nil)).keep (.upd ha5 rfl λb m=>⟨m.1,m⟩)
 ·have e:i=xs.length:=by omega
  subst e;refine .inl ⟨it.stop _ H' ev,k _ H' _ .fr (s.trans sm) (.lst (s.free hD) ha (ry.same (aE.refl _) λ_ z=>s.free z.2)) (fin ys iy)⟩
def mX:cM:=λ_ Q=>Q true
theorem aP6 {Qb:Bool->Hp->Prop}(h:LT X mX σ H Qb):xU σ H Qb:=by
 obtain⟨W,ρ,Q,px,q,k⟩:=h
 exact k _ _ (aE.refl _) q
end
section
variable {κ:Type}[DecidableEq κ]
def cJ (ps:List (κ×PV))(k:κ):Option PV:=(ps.find? λp=>decide (p.1=k)).map (·.2)
def dL (ps:List (κ×PV))(k:κ)(x:PV):List (κ×PV):=if (ps.any λp=>decide (p.1=k))=true then ps.map (λp=>if p.1=k then (p.1,x) else p) else ps++[(k,x)]
variable {K:ac}{M:ax→Prop}{H:Hp}
theorem kM (k:κ):∀{kvs:List (κ×V)}{ps:List (κ×PV)},kvs.map (·.1)=ps.map (·.1)->Reps K M H (kvs.map (·.2)) (ps.map (·.2))->(cJ ps k=none->fD kvs k=none)/\∀x,cJ ps k=some x->∃v,fD kvs k=some v/\aI K M H v x
 |[],[],_,_=>⟨λ_=>rfl,λx h=>by cases h⟩
 |[],_::_,e,_=>by cases e
 |_::_,[],e,_=>by cases e
 |(k1,v)::kvs,(k2,x)::ps,e,r=>by
  injection e with e1 e2
  have e1:k1=k2:=e1;subst e1;cases r with
  |cons r t=>
   obtain⟨h1,h2⟩:=kM k e2 t
   unfold cJ fD at h1 h2 ⊢;by_cases e:k1=k
   ·simp only[bH7,e,decide_true,Option.map_some]
    exact⟨λz=>(by cases z),λy z=>(by cases z;exact⟨v,rfl,r⟩)⟩
   ·simp only[bH7,e,decide_false]
    exact⟨h1,h2⟩
theorem aP7 (k:κ){kvs:List (κ×V)}{ps:List (κ×PV)}(e:kvs.map (·.1)=ps.map (·.1)):(kvs.any λp=>decide (p.1=k))=ps.any λp=>decide (p.1=k):=by
 have h1:(kvs.any λp=>decide (p.1=k))=(kvs.map (·.1)).any λz=>decide (z=k):=by rw[List.any_map];rfl
 have h2:(ps.any λp=>decide (p.1=k))=(ps.map (·.1)).any λz=>decide (z=k):=by rw[List.any_map];rfl
 rw[h1,h2,e]
theorem X8 (k:κ){w:V}{y:PV}(q:aI K M H w y):∀{kvs:List (κ×V)}{ps:List (κ×PV)},kvs.map (·.1)=ps.map (·.1)->Reps K M H (kvs.map (·.2)) (ps.map (·.2))->
  (kvs.map λkv=>if kv.1=k then (kv.1,w) else kv).map (·.1)=(ps.map λkv=>if kv.1=k then (kv.1,y) else kv).map (·.1)/\Reps K M H ((kvs.map λkv=>if kv.1=k then (kv.1,w) else kv).map (·.2)) ((ps.map λkv=>if kv.1=k then (kv.1,y) else kv).map (·.2))
 |[],[],_,_=>⟨rfl,.nil⟩
 |[],_::_,e,_=>by cases e
 |_::_,[],e,_=>by cases e
 |(k1,v)::kvs,(k2,x)::ps,e,r=>by
  injection e with e1 e2
  have e1:k1=k2:=e1;subst e1;cases r with
  |cons r t=>
   obtain⟨h1,h2⟩:=X8 k q e2 t
   by_cases e:k1=k
   ·simp only[bC1,e,if_true]
    exact⟨by rw[h1],.cons q h2⟩
   ·simp only[bC1,e,bF8]
    exact⟨by rw[h1],.cons r h2⟩
theorem z9 (k:κ){w:V}{y:PV}(q:aI K M H w y){kvs:List (κ×V)}{ps:List (κ×PV)}(e:kvs.map (·.1)=ps.map (·.1))(r:Reps K M H (kvs.map (·.2)) (ps.map (·.2))) :
  (eU kvs k w).map (·.1)=(dL ps k y).map (·.1)/\Reps K M H ((eU kvs k w).map (·.2)) ((dL ps k y).map (·.2)):=by
 unfold eU dL;rw[aP7 k e];split
 ·exact X8 k q e r
 ·rw[bB7,bB7,bB7,bB7,e]
  exact⟨rfl,r.append (.cons q .nil)⟩
end
def kP:aG->PV
 |.inl i=>.int i
 |.inr x=>.str x
theorem zA {K:ac}{M:ax->Prop}{H:Hp}{v:V}{k:aG}(r:aI K M H v (kP k)):v=kV k:=by
 cases k with
 |inl i=>cases r;rfl
 |inr x=>cases r;rfl
theorem zB {K:ac}{M:ax->Prop}{H:Hp}:∀{ks:List aG}{us:List V},Reps K M H us (ks.map kP)->us=ks.map kV
 |[],_,.nil=>rfl
 |k::r,_,.cons q t=>by rw[zA q,zB t];rfl
def X9:PV->PV
 |.fK ps=>.dK ps
 |.fT ps=>.dT ps
 |x=>x
def Y0 (x y:PV)(o:Option PV):Prop:=(∃ps k,X9 x = .dK ps/\y=kP k/\o=cJ ps k)∨(∃ps k,X9 x = .dT ps/\y = .tup (k.map kP)/\o=cJ ps k)
theorem Y1 {K:ac}{M M2:ax->Prop}{H:Hp}{v w:V}{x y:PV}{o:Option PV}(h:Y0 x y o)(rx:aI K M H v x)(ry:aI K M2 H w y):∃a o',v = .ref a/\j6 H a w o'/\(o=none->o'=none)/\∀z,o=some z->∃u,o'=some u/\aI K M H u z:=by
 rcases h with⟨ps,k,ex,rfl,rfl⟩|⟨ps,k,ex,rfl,rfl⟩
 ·obtain rfl:=zA ry
  cases rx with
  |dK m h e r=>cases ex;exact⟨_,_,rfl,j6.k h,(kM k e r).1,(kM k e r).2⟩
  |fK h e r=>cases ex;exact⟨_,_,rfl,.inl ⟨_,k,.inr ⟨_,h⟩,rfl,rfl⟩,(kM k e r).1,(kM k e r).2⟩
  |_=>cases ex
 ·obtain⟨b,us,rfl,hb,rb⟩:=ry.sqT
  obtain rfl:=zB rb;cases rx with
  |dT m h e r=>cases ex;exact⟨_,_,rfl,j6.t h hb,(kM k e r).1,(kM k e r).2⟩
  |fT h e r=>cases ex;exact⟨_,_,rfl,.inr ⟨_,k,b,.inr ⟨_,h⟩,rfl,hb,rfl⟩,(kM k e r).1,(kM k e r).2⟩
  |_=>cases ex
section
variable {X:Cx}{σ:St}{H:Hp}{D:cB}{tk td te:aL}{Q':VK}
def kN (neg:Bool)(tk td:aL):aL:=λρ Q=>tk ρ λy _=>td ρ λx _=>∃o,Y0 x y o/\Q (.bl (if neg=true then !o.isSome else o.isSome)) .fr
theorem Y2 {α β:Type}{o:Option α}{o':Option β}{P:β->α->Prop}(h1:o=none->o'=none)(h2:∀z,o=some z->∃u,o'=some u/\P u z):o'.isSome=o.isSome:=by
 cases o with
 |none=>rw[h1 rfl];rfl
 |some z=>obtain⟨u,e,_⟩:=h2 z rfl;rw[e];rfl
theorem aP8 (h:LE X (kN false tk td) σ H Q'):S7 (LE X tk) (LE X td) σ H Q':=by
 obtain⟨W,ρ,Q,px,q,k⟩:=h
 refine⟨W,ρ,_,px,q,λw H1 y g s r q=>⟨W,ρ,_,px.mono s,q,?_⟩⟩;rintro v H2 x g' s2 r2 ⟨o,ak,q⟩
 obtain⟨a,o',rfl,dg,h1,h2⟩:=Y1 ak r2 (r.same s2 λ_ z=>z)
 refine⟨a,o',rfl,dg,?_⟩;rw[Y2 h1 h2];exact k _ _ _ .fr (s.trans s2) (.bl _) q
theorem Y3 (h:LE X (kN true tk td) σ H Q'):S8 (LE X tk) (LE X td) σ H Q':=by
 obtain⟨W,ρ,Q,px,q,k⟩:=h
 refine⟨W,ρ,_,px,q,λw H1 y g s r q=>⟨W,ρ,_,px.mono s,q,?_⟩⟩;rintro v H2 x g' s2 r2 ⟨o,ak,q⟩
 obtain⟨a,o',rfl,dg,h1,h2⟩:=Y1 ak r2 (r.same s2 λ_ z=>z)
 refine⟨a,o',rfl,dg,?_⟩;rw[Y2 h1 h2];exact k _ _ _ .fr (s.trans s2) (.bl _) q
theorem PX.updD {K:ac}{H0:Hp}{W:ax->Prop}{σ:St}{ρ:b8}{H:Hp}{i:Nat}{a:ax}{x:PV}{kvs:List (aG×V)}{ps:List (aG×PV)}(p:PX K H0 W σ ρ H)(hi:ρ[i]? = some (some (.own x)))(ha:σ[i]? = some (some (.ref a)))(wa:W a)(r:kvs.map (·.1)=ps.map (·.1)/\Reps K (Ms H0 W true) (upd H a (.dK kvs)) (kvs.map (·.2)) (ps.map (·.2))):PX K H0 W σ (ρ.set i (some (.own (.dK ps)))) (upd H a (.dK kvs)):=p.updOwn hi ha wa rfl (y:=.dK ps) ⟨kvs,aY,r⟩
theorem PX.updT {K:ac}{H0:Hp}{W:ax->Prop}{σ:St}{ρ:b8}{H:Hp}{i:Nat}{a:ax}{x:PV}{kvs:List (List aG×V)}{ps:List (List aG×PV)}(p:PX K H0 W σ ρ H)(hi:ρ[i]? = some (some (.own x)))(ha:σ[i]? = some (some (.ref a)))(wa:W a)(r:kvs.map (·.1)=ps.map (·.1)/\Reps K (Ms H0 W true) (upd H a (.dT kvs)) (kvs.map (·.2)) (ps.map (·.2))):PX K H0 W σ (ρ.set i (some (.own (.dT ps)))) (upd H a (.dT kvs)):=p.updOwn hi ha wa rfl (y:=.dT ps) ⟨kvs,aY,r⟩
theorem u8 {κ α β:Type}{l:List (κ×α)}{m:List (κ×β)}(e:l.map (·.1)=m.map (·.1)):l.length=m.length:=by
 have:=congrArg List.length e
 rw[bx7,bx7]at this;exact this
def u9 (i:Nat)(tk te:aL):aV:=λD ρ=>te ρ λz g=>∃ps,ρ[i]? = some (some (.own (.dK ps)))/\tk ρ λy _=>∃k,y=kP k/\Nw g z/\ps.length<16000000/\D.nx (ρ.set i (some (.own (.dK (dL ps k z)))))
def zC (i:Nat)(tk te:aL):aV:=λD ρ=>te ρ λz g=>∃ps,ρ[i]? = some (some (.own (.dT ps)))/\tk ρ λy _=>∃k,y = .tup (k.map kP)/\Nw g z/\ps.length<16000000/\D.nx (ρ.set i (some (.own (.dT (dL ps k z)))))
theorem aP9 {i:Nat}(h:LS X (u9 i tk te) D σ H):xO (eQ i) (LE X tk) (LE X te) D σ H:=by
 obtain⟨W,ρ,D',px,q,k⟩:=h
 refine⟨W,ρ,_,px,q,?_⟩;rintro w H1 z g s rz ⟨ps,hi,q⟩
 obtain⟨v,ev,a,rfl,wa,kvs,ea,e1,r⟩:=(px.mono s).sl i _ hi
 refine⟨_,ev,W,ρ,_,px.mono s,q,?_⟩;rintro kv H2 y g' s2 ry ⟨kk,rfl,nw,hl,q⟩;obtain rfl:=zA ry;have ea2:=s2 _ _ ea;refine⟨a,_,rfl,lJ.k ea2 (iM (by rw[u8 e1];omega)),?_⟩;refine k.nx W σ _ _ ((Ev.same (s.trans s2)).trans (Ev.upd wa)) ((px.mono (s.trans s2)).updD hi ev wa ?_) q
 obtain⟨h1,h2⟩:=z9 kk ((Nw.rep px nw rz).same s2 λ_ z=>z) e1 (r.same s2 λ_ z=>z)
 exact⟨h1,h2.keep (.upd ea2 rfl λb m=>⟨oE wa m,m⟩)⟩
theorem aQ0 {i:Nat}(h:LS X (zC i tk te) D σ H):xO (eQ i) (LE X tk) (LE X te) D σ H:=by
 obtain⟨W,ρ,D',px,q,k⟩:=h
 refine⟨W,ρ,_,px,q,?_⟩;rintro w H1 z g s rz ⟨ps,hi,q⟩
 obtain⟨v,ev,a,rfl,wa,kvs,ea,e1,r⟩:=(px.mono s).sl i _ hi
 refine⟨_,ev,W,ρ,_,px.mono s,q,?_⟩;rintro kv H2 y g' s2 ry ⟨kk,rfl,nw,hl,q⟩
 obtain⟨b,us,rfl,hb,rb⟩:=ry.sqT
 obtain rfl:=zB rb;have ea2:=s2 _ _ ea;refine⟨a,_,rfl,lJ.t ea2 hb (iM (by rw[u8 e1];omega)),?_⟩;refine k.nx W σ _ _ ((Ev.same (s.trans s2)).trans (Ev.upd wa)) ((px.mono (s.trans s2)).updT hi ev wa ?_) q
 obtain⟨h1,h2⟩:=z9 kk ((Nw.rep px nw rz).same s2 λ_ z=>z) e1 (r.same s2 λ_ z=>z)
 exact⟨h1,h2.keep (.upd ea2 rfl λb m=>⟨oE wa m,m⟩)⟩
theorem aQ1 (h:LE X (qC (.dK [])) σ H Q'):T1 σ H Q':=by
 obtain⟨W,ρ,Q,px,q,k⟩:=h
 exact λp hp=>k _ _ _ .fr (bS hp _) (.dK hp aY rfl .nil) q
theorem aQ2 (h:LE X (qC (.dT [])) σ H Q'):T2 σ H Q':=by
 obtain⟨W,ρ,Q,px,q,k⟩:=h
 exact λp hp=>k _ _ _ .fr (bS hp _) (.dT hp aY rfl .nil) q
def jA (ps more:List (aG×PV)):List (aG×PV):=more.foldl (λacc kv=>dL acc kv.1 kv.2) ps
theorem Y4 {K:ac}{M:ax->Prop}{H:Hp}:∀{more:List (aG×V)}{mp:List (aG×PV)}{kvs:List (aG×V)}{ps:List (aG×PV)},more.map (·.1)=mp.map (·.1)->Reps K M H (more.map (·.2)) (mp.map (·.2))->kvs.map (·.1)=ps.map (·.1)->Reps K M H (kvs.map (·.2)) (ps.map (·.2))->
  (mP kvs more).map (·.1)=(jA ps mp).map (·.1)/\Reps K M H ((mP kvs more).map (·.2)) ((jA ps mp).map (·.2))
 |[],[],_,_,_,_,e,r=>⟨e,r⟩
 |[],_::_,_,_,e,_,_,_=>by cases e
 |_::_,[],_,_,e,_,_,_=>by cases e
 |(k1,v)::more,(k2,x)::mp,kvs,ps,e,r,e',r'=>by
  injection e with e1 e2
  have e1:k1=k2:=e1;subst e1;cases r with
  |cons q t=>
   obtain⟨h1,h2⟩:=z9 k1 q e' r'
   exact Y4 (more:=more) (mp:=mp) e2 t h1 h2
def zD (i:Nat)(te:aL):aV:=λD ρ=>∃ps,ρ[i]? = some (some (.own (.dK ps)))/\te ρ λy g=>∃mp,y = .dK mp/\(g = .fr∨(g = .nw/\False))/\ps.length+mp.length<=16000000/\D.nx (ρ.set i (some (.own (.dK (jA ps mp)))))
theorem aQ3 {i:Nat}(h:LS X (zD i te) D σ H):lE (V5 (eQ i) (LE X te)) D σ H:=by
 obtain⟨W,ρ,D',px,⟨ps,hi,q⟩,k⟩:=h
 obtain⟨v,ev,a,rfl,wa,kvs,ea,e1,r⟩:=px.sl i _ hi
 refine⟨_,ev,a,rfl,.inl ⟨kvs,.inl ea⟩,W,ρ,_,px,q,?_⟩;rintro w H1 y g s ry ⟨mp,rfl,hg,hl,q⟩;rcases hg with rfl|⟨_,z⟩
 ·cases ry with
  |@dK b more _ m hb e2 rb=>
   have hab:a≠b:=λz=>by subst z;rw[show H a=none from m]at ea;cases ea
   have ea1:=s _ _ ea;refine⟨b,kvs,more,rfl,hab,ea1,hb,lim (by rw[u8 e1,u8 e2];exact hl),?_⟩;refine k.nx W σ _ _ ((Ev.same s).trans (Ev.upd wa)) ((px.mono s).updD hi ev wa ?_) q
   obtain⟨h1,h2⟩:=Y4 e2 (rb.same (M':=Ms X.H₀ W true) (aE.refl _) λ_ z=>px.new z) e1 (r.same s λ_ z=>z)
   exact⟨h1,h2.keep (.upd ea1 rfl λb m=>⟨oE wa m,m⟩)⟩
 ·exact z.elim
end
def cC:Nat->PV->PV->Bool
 |_,.non,.non=>true
 |_,.bl a,.bl b=>a==b
 |_,.int a,.int b=>a==b
 |_,.str a,.str b=>a==b
 |n+1,.tup xs,.tup ys=>(xs.zip ys).all (λp=>cC n p.1 p.2)&&xs.length==ys.length
 |n+1,.lst xs,.lst ys=>(xs.zip ys).all (λp=>cC n p.1 p.2)&&xs.length==ys.length
 |n+1,.kt xs,.kt ys=>(xs.zip ys).all (λp=>cC n p.1 p.2)&&xs.length==ys.length
 |_,_,_=>false
def eZ:Nat->PV->PV->Bool
 |_,.non,.non=>true
 |_,.bl _,.bl _=>true
 |_,.int _,.int _=>true
 |_,.str _,.str _=>true
 |_,.non,.int _=>true
 |_,.int _,.non=>true
 |n+1,.tup xs,.tup ys=>(xs.zip ys).all (λp=>eZ n p.1 p.2)
 |n+1,.lst xs,.lst ys=>(xs.zip ys).all (λp=>eZ n p.1 p.2)
 |n+1,.kt xs,.kt ys=>(xs.zip ys).all (λp=>eZ n p.1 p.2)
 |_+1,.non,.tup _=>true
 |_+1,.tup _,.non=>true
 |_,_,_=>false
theorem aQ4 (n:Nat)(a b:Int):cC n (.int a) (.int b)=(a==b):=by cases n<;>rfl
theorem Y5 (n:Nat):∀(a b:af),((((intz a).zip (intz b)).all λp=>cC n p.1 p.2)&&(intz a).length==(intz b).length)=decide (a=b)
 |[],[]=>rfl
 |[],_::_=>by simp
 |_::_,[]=>by simp
 |x::a,y::b=>by
  have ih:=Y5 n a b;simp only[bC1,List.zip_cons_cons,bI1,bA3,aQ4]at ih ⊢;by_cases e:x=y
  ·subst e
   have:((intz a).length+1==(intz b).length+1)=((intz a).length==(intz b).length):=by simp
   rw[this,bE1,Bool.true_and,ih];simp
  ·have:(x==y)=false:=bG0.mpr e
   rw[this,Bool.false_and,Bool.false_and];simp[e]
theorem Y6 (n:Nat)(a b:af):cC (n+1) (.tup (intz a)) (.tup (intz b))=decide (a=b):=Y5 n a b
theorem Y7 (n:Nat):∀(a b:af),(((intz a).zip (intz b)).all λp=>eZ n p.1 p.2)=true
 |[],_=>by simp
 |_::_,[]=>by simp
 |x::a,y::b=>by
  simp only[bC1,List.zip_cons_cons,bI1,Y7 n a b,bN2];cases n<;>rfl
theorem Y8 (n:Nat)(a b:af):eZ (n+1) (.tup (intz a)) (.tup (intz b))=true:=Y7 n a b
def oI (ta:aL):aL:=λρ Q=>ta ρ λx _=>∃i,x = .int i/\Q (.int (-i)) .fr
def iO (neg:Bool):PV->Tg->PV->Tg->PK->Prop:=λx _ y _ Q=>∃i ns,x = .int i/\j9 y=some (intz ns)/\Q (.bl (if neg=true then !decide (i∈ns) else decide (i∈ns))) .fr
def iP (n:Nat)(neg:Bool):PV->Tg->PV->Tg->PK->Prop:=λx _ y _ Q=>((∃xs ys,x = .tup xs/\y = .tup ys)∨(∃xs ys,x = .lst xs/\y = .lst ys))/\eZ (n+1) x y=true/\Q (.bl (if neg=true then !cC (n+1) x y else cC (n+1) x y)) .fr
abbrev lQ:=b8->(Option Int->Prop)->Prop
def fQ (xs:List PV)(lo hi:Option Int):List PV:=(xs.drop (HT.bA xs.length 0 lo)).take (HT.bA xs.length xs.length hi-HT.bA xs.length 0 lo)
def r9:PV->List PV->PV
 |.tup _,ys=>.tup ys
 |.kt _,ys=>.tup ys
 |_,ys=>.lst ys
def iQ:lQ:=λ_ Q=>Q none
def iR (te:aL):lQ:=λρ Q=>te ρ λx _=>∃i,x = .int i/\Q (some i)
def jB (te:aL)(tl th:lQ):aL:=λρ Q=>te ρ λx _=>tl ρ λlo=>th ρ λhi=>∃xs,seqT x=some xs/\flats xs=true/\Q (r9 x (fQ xs lo hi)) .fr
def eI (N:List Str)(xs:List PV):b8:=xs.map (λx=>some (.sh (flat x) x))++List.replicate (N.length-xs.length) none
abbrev gC (ta tb:aL):aL:=q2 (gK λi j=>.int (i+j)) ta tb
abbrev zE (ta tb:aL):aL:=q2 (gK λi j=>.int (i-j)) ta tb
abbrev rA (ta tb:aL):aL:=q2 (RI qD λi j=>.int (i*j)) ta tb
abbrev eJ (ta tb:aL):aL:=q2 (RI wO λi j=>.int (i/j)) ta tb
abbrev cS (ta tb:aL):aL:=q2 (RI (λ_ j=>0<j) λi j=>.int (i%j)) ta tb
abbrev aQ5 (ta tb:aL):aL:=q2 (RI wP λi j=>.int (i^j.toNat)) ta tb
abbrev jR (ta tb:aL):aL:=q2 (gK λi j=>.bl (decide (i<j))) ta tb
abbrev rB (ta tb:aL):aL:=q2 (gK λi j=>.bl (decide (j<i))) ta tb
abbrev rC (ta tb:aL):aL:=q2 (gK λi j=>.bl (decide (j<=i))) ta tb
abbrev fR (ta tb:aL):aL:=q2 (oB false) ta tb
abbrev zF (ta tb:aL):aL:=q2 (oB true) ta tb
abbrev zG (ta tb:aL):aL:=q2 (yV false) ta tb
abbrev b6 (ta tb:aL):aL:=q2 yR ta tb
def dG:List PV->(PV->Prop)->Prop:=λxs Q=>X1 xs Q/\∀ns,xs≠[.scr ns]
def Y9:aV:=λ_ _=>False
def QE (X:Cx)(e:Expr)(t:aL):Prop:=PE X e (LE X t)
def QT (X:Cx)(e:Expr)(t:cM):Prop:=PT X e (LT X t)
def QW (X:Cx)(e:Expr)(t:cM):Prop:=PW X e (LT X t)
def QA (X:Cx)(es:List Expr)(t:c9):Prop:=PA X es (LA X t)
def QS (X:Cx)(st:Stmt)(t:aV):Prop:=PS X st (LS X t)
def gD (X:Cx)(st:List Stmt)(t:aV):Prop:=dW X st (LS X t)
def QI (X:Cx)(tg iter:Expr)(t:gT):Prop:=PI X tg iter (LI X t)
section
variable {X:Cx}
theorem cN {e:Expr}{t t':TE}(h:PE X e t)(m:∀σ H Q,t' σ H Q->t σ H Q):PE X e t':=λag s σ H Q I q=>h ag s σ H Q I (m σ H Q q)
theorem mY {e:Expr}{t t':TT}(h:PT X e t)(m:∀σ H Q,t' σ H Q->t σ H Q):PT X e t':=λag s σ H Q I q=>h ag s σ H Q I (m σ H Q q)
theorem Z0 {e:Expr}{t t':TT}(h:PW X e t)(m:∀σ H Q,t' σ H Q->t σ H Q):PW X e t':=λwh ag s σ H Q I q=>h wh ag s σ H Q I (m σ H Q q)
theorem Z1 {e:List Expr}{t t':TA}(h:PA X e t)(m:∀σ H Q,t' σ H Q->t σ H Q):PA X e t':=λpos ag s σ H Q I q=>h pos ag s σ H Q I (m σ H Q q)
theorem dF {e:Stmt}{t t':TS}(h:PS X e t)(m:∀D σ H,t' D σ H->t D σ H):PS X e t':=λag s σ H D I q=>h ag s σ H D I (m D σ H q)
theorem oJ {e:List Stmt}{t t':TS}(h:dW X e t)(m:∀D σ H,t' D σ H->t D σ H):dW X e t':=λag s σ H D I q=>h ag s σ H D I (m D σ H q)
theorem uA {tg e:Expr}{t t':TI}(h:PI X tg e t)(m:∀σ H R,t' σ H R->t σ H R):PI X tg e t':=λag s σ H R I q=>h ag s σ H R I (m σ H R q)
variable {a b c e o:Expr}{es d6:List Expr}{ta tb te to tk:aL}{tr:c9}{tA tB' tc:cM}{pos p2 px:Pos}{st:Stmt}{sts:List Stmt}{t u:aV}
theorem qv (i:Nat){x:Str}{pos:Pos}(hN:X.N[i]? = some x:=by rfl)(hv:cK X.env.scope x:=by first|exact Or.inl rfl|exact Or.inr (Or.inl rfl)|exact Or.inr (Or.inr rfl))(hd:(x==("__debug__":Str))=false:=by decide)(hcd:(x==("__classdict__":Str))=false:=by decide):QE X (.Name x pos) (a5 i):=cN (dI hN hv hd hcd) λ_ _ _=>aL6
theorem aF {i j}:QE X (.Constant (.int i) j pos) (qC (.int i)):=cN pT λ_ _ _=>qV λ_=>.int i
theorem oK {i j}:QE X (.Constant (.bool i) j pos) (qC (.bl i)):=cN ax5 λ_ _ _=>qV λ_=>.bl i
theorem iS {j}:QE X (.Constant .none j pos) (qC .non):=cN ax6 λ_ _ _=>qV λ_=>.non
theorem cO {i j}:QE X (.Constant (.str i) j pos) (qC (.str i)):=cN ax7 λ_ _ _=>qV λ_=>.str i
theorem lR {op:Operator}{R:PV->Tg->PV->Tg->PK->Prop}{r:R2}(ho:cR X (binaryOp op) r)(cv:eY X R r)(ha:QE X a ta)(hb:QE X b tb):QE X (.BinOp a op b pos) (q2 R ta tb):=cN (aA3 ho ha hb) λ_ _ _=>tV cv
theorem gM (ha:QE X a ta)(hb:QE X b tb):QE X (.BinOp a .Add b pos) (q2 (gK λi j=>.int (i+j)) ta tb):=lR aA5 V8 ha hb
theorem zH (ha:QE X a ta)(hb:QE X b tb):QE X (.BinOp a .Sub b pos) (q2 (gK λi j=>.int (i-j)) ta tb):=lR aA6 V8 ha hb
theorem rD (ha:QE X a ta)(hb:QE X b tb):QE X (.BinOp a .Mult b pos) (q2 (RI qD λi j=>.int (i*j)) ta tb):=lR aA7 tW ha hb
theorem gU (ha:QE X a ta)(hb:QE X b tb):QE X (.BinOp a .FloorDiv b pos) (q2 (RI wO λi j=>.int (i/j)) ta tb):=lR aA8 tW ha hb
theorem dM (ha:QE X a ta)(hb:QE X b tb):QE X (.BinOp a .Mod b pos) (q2 (RI (λ_ j=>0<j) λi j=>.int (i%j)) ta tb):=lR aA9 tW ha hb
theorem aQ6 (ha:QE X a ta)(hb:QE X b tb):QE X (.BinOp a .Pow b pos) (q2 (RI wP λi j=>.int (i^j.toNat)) ta tb):=lR aB0 tW ha hb
theorem mZ {op:CmpOp}{R:PV->Tg->PV->Tg->PK->Prop}{r:R2}(ho:cR X (compareOp op) r)(cv:eY X R r)(ha:QE X a ta)(hb:QE X b tb)(hm:behindInMarks op b=false):QE X (.Compare a [op] [b] pos) (q2 R ta tb):=cN (wT ho ha hb hm) λ_ _ _=>tV cv
theorem i9 {op:CmpOp}{R:PV->Tg->PV->Tg->PK->Prop}{r:R2}(ho:cR X (compareOp op) r)(cv:eY X R r)(ha:QE X a ta)(hb:QE X b tb)(hm:behindInMarks op b=false):QT X (.Compare a [op] [b] pos) (aO (q2 R ta tb)):=mY (aB4 ho ha hb hm) λ_ _ _ h=>tV cv (tX h)
theorem aQ7 (ha:QE X a ta)(hb:QE X b tb):QE X (.Compare a [.Lt] [b] pos) (q2 (gK λi j=>.bl (decide (i<j))) ta tb):=mZ t5 oA ha hb (fM _)
theorem aQ8 (ha:QE X a ta)(hb:QE X b tb):QE X (.Compare a [.Gt] [b] pos) (q2 (gK λi j=>.bl (decide (j<i))) ta tb):=mZ O2 oA ha hb (fM _)
theorem Z2 (ha:QE X a ta)(hb:QE X b tb):QE X (.Compare a [.GtE] [b] pos) (q2 (gK λi j=>.bl (decide (j<=i))) ta tb):=mZ O3 oA ha hb (fM _)
theorem lS (ha:QE X a ta)(hb:QE X b tb):QT X (.Compare a [.Lt] [b] pos) (aO (q2 (gK λi j=>.bl (decide (i<j))) ta tb)):=i9 t5 oA ha hb (fM _)
theorem zI (ha:QE X a ta)(hb:QE X b tb):QT X (.Compare a [.Gt] [b] pos) (aO (q2 (gK λi j=>.bl (decide (j<i))) ta tb)):=i9 O2 oA ha hb (fM _)
theorem zJ (ha:QE X a ta)(hb:QE X b tb):QT X (.Compare a [.GtE] [b] pos) (aO (q2 (gK λi j=>.bl (decide (j<=i))) ta tb)):=i9 O3 oA ha hb (fM _)
theorem gV (ha:QE X a ta)(hb:QE X b tb):QT X (.Compare a [.Eq] [b] pos) (aO (q2 (oB false) ta tb)):=i9 wS aL7 ha hb (fM _)
theorem Z3 (ha:QE X a ta)(hb:QE X b tb):QT X (.Compare a [.NotEq] [b] pos) (aO (q2 (oB true) ta tb)):=i9 O1 aL8 ha hb (fM _)
theorem zK (ha:QE X a ta)(hb:QE X b tb):QT X (.Compare a [.Is] [b] pos) (aO (q2 (yV false) ta tb)):=i9 aB2 aO9 ha hb (fM _)
theorem aQ9 (hu:X.A.units+1<cLine)(hk:QE X a tk)(hd:QE X b te)(hm:behindInMarks .In b=false:=by rfl):QT X (.Compare a [.In] [b] pos) (aO (kN false tk te)):=mY (L5 (aG9 hu hk hd) hm) λ_ _ _ h=>aP8 (tX h)
theorem Z4 (hu:X.A.units+1<cLine)(hk:QE X a tk)(hd:QE X b te)(hm:behindInMarks .NotIn b=false:=by rfl):QT X (.Compare a [.NotIn] [b] pos) (aO (kN true tk te)):=mY (L5 (S9 hu hk hd) hm) λ_ _ _ h=>Y3 (tX h)
theorem aR0 (hu:X.A.units+1<cLine)(hk:QE X a tk)(hd:QE X b te)(hm:behindInMarks .NotIn b=false:=by rfl):QE X (.Compare a [.NotIn] [b] pos) (kN true tk te):=cN (ax8 (S9 hu hk hd) hm) λ_ _ _ h=>Y3 h
theorem lT (h:QE X e te)(he:∀whole,isTrue e X.env whole=(do let v <- whole;standAt e.pos;holding [v] (truthy v)):=by intro _;rfl):QT X e (aO te):=mY (ax9 h he) λ_ _ _ h=>tX h
theorem aR1 (h:QE X e te)(he:∀whole,isTrue e X.env whole=(do let v <- whole;standAt e.pos;holding [v] (truthy v)):=by intro _;rfl):QT X e (yT te):=mY (aB6 h he) λ_ _ _ h=>aO7 h
theorem zL (ha:QT X a tA):QW X (.BoolOp .And [a] pos) tA:=ay0 ha
theorem jS (ha:QT X a tA):QW X (.BoolOp .Or [a] pos) tA:=ay1 ha
theorem zM (ha:QT X a tA)(hb:QW X (.BoolOp .And (b::d6) pos) tB'):QW X (.BoolOp .And (a::b::d6) pos) (qW tA tB'):=Z0 (ay2 ha hb) λ_ _ _=>aL9
theorem gN (ha:QT X a tA)(hb:QW X (.BoolOp .Or (b::d6) pos) tB'):QW X (.BoolOp .Or (a::b::d6) pos) (dY tA tB'):=Z0 (ay3 ha hb) λ_ _ _=>aM0
theorem iA (h:QW X e tA):QT X e tA:=PW.pt h
theorem oM (ha:QT X a tA):QT X (.UnaryOp .Not a pos) (lK tA):=mY (ay4 ha) λ_ _ _=>aM1
theorem uB {op}(h:QE X a ta):QE X (.BoolOp op [a] pos) ta:=ay5 h
theorem rE (ha:QE X a ta)(hb:QE X (.BoolOp .And (b::d6) pos) tb):QE X (.BoolOp .And (a::b::d6) pos) (mT ta tb):=cN (ay6 ha hb) λ_ _ _=>aM2
theorem aD:QA X [] aC:=Z1 eS λ_ _ _=>W5
theorem aB (ha:QE X e te)(hr:QA X es tr)(hs:starEach (e::es) X.env=(false,eval e X.env)::starEach es X.env:=by rfl):QA X (e::es) (a9 te tr):=Z1 (eC ha hr hs) λ_ _ _=>aM3
theorem cA {x1}(h:QA X es tr):QE X (.Tuple es x1 pos) (bJ tr):=cN (aD0 h) λ_ _ _=>aM4
theorem iT (h:QA X es tr):QE X (.List es pos) (fF tr):=cN (t6 h) λ_ _ _=>aM5
theorem bD (ha:QE X a ta)(hb:QE X b tb)(hs:xB b:=by exact λ_ _=>rfl):QE X (.Subscript a b pos) (q2 yR ta tb):=cN (o3 R3 ha hb hs) λ_ _ _=>tV aN7
theorem Z5:QE X (.Dict [] [] pos) (qC (.dK [])):=cN aH2 λ_ _ _=>aQ1
theorem aR2:QE X (.Dict [] [] pos) (qC (.dT [])):=cN aH3 λ_ _ _=>aQ2
theorem jT {x:Str}{id:String}{R:List PV->(PV->Prop)->Prop}{r:List V->Hp->VK->Prop}(hc:d7 X (.builtin id) r)(cv:dZ X R r)(hg:Gl X x)(hm:X.mg x=none)(hv:bootBuiltins x=some (.builtin id))(ha:QA X (e::es) tr)(hn:x≠"__name__":=by decide)(hdb:(x==("__debug__":Str))=false:=by decide)(he:starEach (e::es) X.env=(false,eval e X.env)::starEach es X.env:=by rfl)(hpl:(backTo pos (starEach es X.env)).any (·.1)=false:=by rfl):QE X (.Call (.Name x p2) (e::es) [] pos) (aM R tr):=cN (t8 hc hg hm hv ha hn hdb he hpl) λ_ _ _=>W6 cv
theorem Z6 {x:Str}{T:String}{R:List PV->(PV->Prop)->Prop}{r:List V->Hp->VK->Prop}(hc:d7 X (.type T) r)(cv:dZ X R r)(hg:Gl X x)(hm:X.mg x=none)(hv:bootBuiltins x=some (.type T))(ha:QA X (e::es) tr)(hn:x≠"__name__":=by decide)(hdb:(x==("__debug__":Str))=false:=by decide)(he:starEach (e::es) X.env=(false,eval e X.env)::starEach es X.env:=by rfl)(hpl:(backTo pos (starEach es X.env)).any (·.1)=false:=by rfl):QE X (.Call (.Name x p2) (e::es) [] pos) (aM R tr):=cN (aD6 hc hg hm hv ha hn hdb he hpl) λ_ _ _=>W6 cv
theorem bW:gD X [] bI:=oJ ay9 λ_ _ _=>aM6
theorem aQ (h1:QS X st t)(h2:gD X sts u):gD X (st::sts) (aJ t u):=oJ (mI h1 h2) λ_ _ _=>aM7
theorem aW (h1:QS X st t):gD X [st] t:=mJ h1
theorem aR3:QS X st Y9:=dF az2 λ_ _ _ ⟨_,_,_,_,h,_⟩=>h
theorem bK {i:Nat}{x:Str}(hN:X.N.Nodup)(he:QE X e te)(hi:X.N[i]? = some x:=by rfl)(hx:gQ X.env.scope x:=by first|exact Or.inl rfl|exact Or.inr rfl)(hs:swapsWith e (some (.Name x p2)) pos.line X.env=pure false:=by rfl)(hf:X.fn x=true∨X.env.scope.names.lookup x=some .local:=by first|exact .inl rfl|exact .inr rfl) :
  QS X (.Assign [.Name x p2] e pos) (bE i te):=dF (pZ hN hi hx he hs hf) λ_ _ _=>aM8
theorem jC {i:Nat}{x:Str}(hN:X.N.Nodup)(he:QE X e te)(hi:X.N[i]? = some x:=by rfl)(hx:gQ X.env.scope x:=by first|exact Or.inl rfl|exact Or.inr rfl)(hs:swapsWith e (some (.Name x p2)) pos.line X.env=pure false:=by rfl)(hf:X.fn x=true∨X.env.scope.names.lookup x=some .local:=by first|exact .inl rfl|exact .inr rfl) :
  QS X (.Assign [.Name x p2] e pos) (i7 i te):=dF (pZ hN hi hx he hs hf) λ_ _ _=>aN0
theorem bN (he:QE X e te):QS X (.Return (some e) pos) (bC te):=dF (nW he) λ_ _ _=>aN1
theorem oN (i:Nat){x:Str}(hN:X.N[i]? = some x:=by rfl)(hv:cK X.env.scope x:=by first|exact Or.inl rfl|exact Or.inr (Or.inl rfl)|exact Or.inr (Or.inr rfl))(hd:(x==("__debug__":Str))=false:=by decide)(hcd:(x==("__classdict__":Str))=false:=by decide) :
  QS X (.Return (some (.Name x p2)) pos) (lN i):=dF (nW (dI hN hv hd hcd)) λ_ _ _=>aN2
theorem bU {sa sb:List Stmt}(hc:QT X c tc)(ha:gD X sa t)(hb:gD X sb u):QS X (.If c sa sb pos) (bF tc t u):=dF (az0 hc ha hb) λ_ _ _=>aN3
theorem Z7 {body:List Stmt}(hp:PassesOwn (model X.prog X.w) X.A X.env X.xe)(hc:QT X c tc)(hb:gD X body t):QS X (.While c body [] pos) (tZ tc t):=dF (az4 hp hc hb) λ_ _ _=>aN4
theorem lU (i:Nat){x:Str}{ah ai xpos:Pos}(he:QE X e te)(hN:X.N[i]? = some x:=by rfl)(hv:cK X.env.scope x:=by first|exact Or.inl rfl|exact Or.inr (Or.inl rfl)|exact Or.inr (Or.inr rfl))(hd:(x==("__debug__":Str))=false:=by decide)(hcd:(x==("__classdict__":Str))=false:=by decide)(hbase:attributeBase (.Name x xpos) "append" X.env (eval (.Name x xpos) X.env)=eval (.Name x xpos) X.env:=by rfl)(hfew:((backTo ai (starEach [e] X.env)).all (λx=>!x.1)&&(backToKw ai (keywordEach [] X.env)).all (λx=>x.1.isSome)&&decide (([e]:List Expr).length+([]:List Keyword).length+(if ([]:List Keyword).isEmpty then 0 else 1)<30))=true:=by rfl)(hline:(ah.endLine==ai.line)=true:=by rfl)(hs:starEach [e] X.env=(false,eval e X.env)::starEach [] X.env:=by rfl)(aq:(backTo ai (starEach [] X.env)).any (·.1)=false:=by rfl)(hsw:swapsWith (.Call (.Attribute (.Name x xpos) "append" ah) [e] [] ai) none pos.line X.env=pure false:=by rfl) :
  QS X (.Expr (.Call (.Attribute (.Name x xpos) "append" ah) [e] [] ai) pos) (iN i te):=
 dF (lF (tE bH9 bJ5 bJ6 qK (dI hN hv hd hcd) (eC he eS hs) hbase hfew hline hs aq) hsw) λ_ _ _=>aN5
theorem Z8 {i:Nat}{x:Str}{xpos tpos:Pos}(hu:X.A.units+1<cLine)(hk:QE X a tk)(he:QE X e te)(hN:X.N[i]? = some x:=by rfl)(hv:cK X.env.scope x:=by first|exact Or.inl rfl|exact Or.inr (Or.inl rfl)|exact Or.inr (Or.inr rfl))(hd:(x==("__debug__":Str))=false:=by decide)(hcd:(x==("__classdict__":Str))=false:=by decide)(hs:swapsWith e (some (.Subscript (.Name x xpos) a tpos)) pos.line X.env=pure false:=by rfl):QS X (.Assign [.Subscript (.Name x xpos) a tpos] e pos) (u9 i tk te):=dF (T0 hu (dI hN hv hd hcd) hk he hs) λ_ _ _=>aP9
theorem aR4 {i:Nat}{x:Str}{xpos tpos:Pos}(hu:X.A.units+1<cLine)(hk:QE X a tk)(he:QE X e te)(hN:X.N[i]? = some x:=by rfl)(hv:cK X.env.scope x:=by first|exact Or.inl rfl|exact Or.inr (Or.inl rfl)|exact Or.inr (Or.inr rfl))(hd:(x==("__debug__":Str))=false:=by decide)(hcd:(x==("__classdict__":Str))=false:=by decide)(hs:swapsWith e (some (.Subscript (.Name x xpos) a tpos)) pos.line X.env=pure false:=by rfl):QS X (.Assign [.Subscript (.Name x xpos) a tpos] e pos) (zC i tk te):=dF (T0 hu (dI hN hv hd hcd) hk he hs) λ_ _ _=>aQ0
theorem aR5 {tg l:Expr}{tl:TE}(hl:PE X l tl):PI X tg l (X2 X.K tl):=by
 intro ag s σ H R I h;refine aP (hl ag s σ H _ I h) λv s1 ⟨x,H1,I1,r1,q1⟩=>?_
 obtain⟨a,e,q⟩:=q1
 subst e;cases r1;rcases q with⟨xs,hq,q⟩|⟨xs,hq,q⟩
 ·obtain⟨its,rv,p,hz⟩:=I1.list hq
  refine wpAny_pyIter_list p.isList ?_;refine⟨s1.heap.objs.size,[s1.heap.objs.size],_,_,H1,rfl,I1.kept (t':=s1.toks) λb o e=>bx5 _ e,az5 a _,⟨_,bz0 _ rfl,rfl,rfl⟩,λb hb=>?_,q⟩;have e:b=s1.heap.objs.size:=by simpa using hb
  subst e;exact I1.fpOk (bx9 _) (I1.hok.fresh (bx9 _))
 ·obtain⟨its,rv,p,hz⟩:=I1.tuple hq
  refine bI9 (show s1.heap.IsTuple a its.toArray from p) ?_;refine⟨s1.heap.objs.size,[s1.heap.objs.size],_,_,H1,rfl,I1.kept (t':=s1.toks) λb o e=>bx5 _ e,M8 a _,⟨_,bz0 _ rfl,rfl,rfl⟩,λb hb=>?_,q⟩;have e:b=s1.heap.objs.size:=by simpa using hb
  subst e;exact I1.fpOk (bx9 _) (I1.hok.fresh (bx9 _))
theorem fU {tg l:Expr}(hl:QE X l te):QI X tg l (eG te):=uA (aR5 hl) λ_ _ _=>aP0
theorem oO {tg:Expr}(hg:Gl X "range")(hm:X.mg "range" = none)(ha:QE X a ta)(hs:starEach [a] X.env = [(false,eval a X.env)]:=by rfl):QI X tg (.Call (.Name "range" p2) [a] [] pos) (lO ta):=uA (az8 hg hm (eC ha eS hs) hs) λ_ _ _=>aP1
theorem aR6 {tg:Expr}(hg:Gl X "range")(hm:X.mg "range" = none)(ha:QE X a ta)(hb:QE X b tb)(hs:starEach [a,b] X.env = [(false,eval a X.env),(false,eval b X.env)]:=by rfl)(hs2:starEach [b] X.env = [(false,eval b X.env)]:=by rfl) :
  QI X tg (.Call (.Name "range" p2) [a,b] [] pos) (yY ta tb):=uA (az9 hg hm (eC ha (eC hb eS hs2) (by rw[hs,hs2])) hs hs2) λ_ _ _=>aP2
theorem Z9 {tg:Expr}{body:List Stmt}{ti:gT}{p:jQ}{g:TG}{own:Nat->Prop}(hp:PassesOwn (model X.prog X.w) X.A X.env X.xe)(hc:X.calm=true)(hi:QI X tg e ti)(hg:PG X tg g)(ht:oG X.K own p g)(hb:gD X body t)(hs:∀x,foldedSetIterable e X.env x=pure x:=by intro _;rfl):QS X (.For tg e body [] pos) (fG ti p t):=dF (N4 hp hc hi hg hb hs) λ_ _ _=>aP3 ht
end
section
variable {X:Cx}{ag:List (ax×Obj)}{σ:St}{H:Hp}{s:aw}{K:ac}{M M':ax→Prop}
theorem o8.inj {a:ax}{us ws:List V}(h:o8 K a us)(h':o8 K a ws):us=ws:=by
 obtain⟨o,its,n,e1,_,e2,_,v⟩:=h
 obtain⟨o',its',n',e1',_,e2',_,v'⟩:=h'
 rw[e1]at e1';cases e1';rw[e2]at e2';cases e2';exact v.inj v'
theorem Reps.self_of {n:Nat}(ih:∀{v:V}{x y:PV},aI K M H v x->aI K M' H v y->eZ n x y=true->cC n x y=true):∀{vs:List V}{xs ys:List PV},Reps K M H vs xs->Reps K M' H vs ys->((xs.zip ys).all λp=>eZ n p.1 p.2)=true->(((xs.zip ys).all λp=>cC n p.1 p.2)&&xs.length==ys.length)=true
 |_,_,_,.nil,.nil,_=>rfl
 |_,_,_,.cons r t,.cons r' t',o=>by
  simp only[List.zip_cons_cons,bI1,bB4]at o;have h1:=ih r r' o.1;have h2:=Reps.self_of ih t t' o.2;simp only[List.zip_cons_cons,bI1,h1,Bool.true_and,bA3]at h2 ⊢;rw[<- h2];congr 1;simp
theorem aI.self:∀(n:Nat) {v:V}{x y:PV},aI K M H v x->aI K M' H v y->eZ n x y=true->cC n x y=true:=by
 intro n
 induction n with
 |zero=>
  intro v x y r r' o;cases r with
  |non=>cases r';rfl
  |bl b=>cases r';exact bE1 b
  |int i=>cases r';exact bE1 i
  |str z=>cases r';exact bE1 z
  |_=>cases o
 |succ n ih=>
  intro v x y r r' o;cases r with
  |non=>cases r';rfl
  |bl b=>cases r';exact bE1 b
  |int i=>cases r';exact bE1 i
  |str z=>cases r';exact bE1 z
  |tup h rr=>
   cases r' with
   |tup h' rr'=>rw[h]at h';cases h';exact Reps.self_of ih rr rr' o
   |_=>cases o
  |lst _ h rr=>
   cases r' with
   |lst _ h' rr'=>rw[h]at h';cases h';exact Reps.self_of ih rr rr' o
   |_=>cases o
  |kt h rr=>
   cases r' with
   |kt h' rr'=>cases o8.inj h h';exact Reps.self_of ih rr rr' o
   |_=>cases o
  |_=>cases o
theorem Reps.self (n:Nat){vs:List V}{xs ys:List PV}(r:Reps K M H vs xs)(r':Reps K M' H vs ys)(o:((xs.zip ys).all λp=>eZ n p.1 p.2)=true):(((xs.zip ys).all λp=>cC n p.1 p.2)&&xs.length==ys.length)=true:=Reps.self_of (aI.self n) r r' o
theorem kO (n:Nat)(xs ys:List PV):(List.range (min xs.length ys.length)).all (λj=>cC n (xs.getD j .non) (ys.getD j .non))=(xs.zip ys).all λp=>cC n p.1 p.2:=by
 rw[bC7];simp only[bH1,List.mem_range];constructor
 ·intro h p hp
  obtain⟨j,hj,e⟩:=List.getElem_of_mem hp
  have hj':j<min xs.length ys.length:=by simpa using hj
  have:=h j hj'
  rw[List.getElem_zip]at e;subst e;have h1:j<xs.length:=by omega
  have h2:j<ys.length:=by omega
  simpa[bC0,h1,h2] using this
 ·intro h j hj
  have h1:j<xs.length:=by omega
  have h2:j<ys.length:=by omega
  have hz:j<(xs.zip ys).length:=by simp;omega
  have:=h _ (bI0 hz)
  rw[List.getElem_zip]at this;simpa[bC0,h1,h2] using this
theorem zN (I:aA X ag σ H s):∀(n:Nat) {A:az}{v w:V}{x y:PV}{a b:av},A.units+n<cLine->aI X.K M H v x->aI X.K M' H w y->b7 v a->b7 w b->eZ n x y=true->SeqAt.EqAt A s a b (cC n x y):=by
 intro n
 induction n with
 |zero=>
  intro A v w x y a b hu rx ry ra rb o;cases rx with
  |non=>
   cases ra;cases ry with
   |non=>cases rb;exact SeqAt.EqAt.same _
   |int i=>obtain⟨t',rfl⟩:=rb;exact SeqAt.EqAt.none_int _ _
   |_=>cases o
  |bl i=>
   cases ra;cases ry with
   |bl j=>cases rb;exact SeqAt.EqAt.bool_bool _ _
   |_=>cases o
  |int i=>
   obtain⟨t,rfl⟩:=ra
   cases ry with
   |int j=>obtain⟨t',rfl⟩:=rb;exact SeqAt.EqAt.int_int _ _ _ _
   |non=>cases rb;exact SeqAt.EqAt.int_none _ _
   |_=>cases o
  |str i=>
   obtain⟨t,rfl⟩:=ra
   cases ry with
   |str j=>obtain⟨t',rfl⟩:=rb;exact SeqAt.EqAt.str_str _ _ _ _
   |_=>cases o
  |_=>cases o
 |succ n ih=>
  intro A v w x y a b hu rx ry ra rb o;have items:∀{us ws:List V}{xs ys:List PV}{its ao:List av},Reps X.K M H us xs->Reps X.K M' H ws ys->aX us its->aX ws ao->((xs.zip ys).all λp=>eZ n p.1 p.2)=true->
    ∀j (h1:j<its.toArray.size) (h2:j<ao.toArray.size),SeqAt.EqAt A.in1 s its.toArray[j] ao.toArray[j] (cC n (xs.getD j .non) (ys.getD j .non)):=λ{us ws xs ys its ao} r1 r2 v1 v2 ok j h1 h2=>by
   have l1:=v1.length;have l2:=v2.length;have m1:=r1.length;have m2:=r2.length;have k1:j<its.length:=by simpa using h1
   have k2:j<ao.length:=by simpa using h2
   have j1:j<us.length:=by omega
   have j2:j<ws.length:=by omega
   have i1:j<xs.length:=by omega
   have i2:j<ys.length:=by omega
   obtain⟨u,hu',ru⟩:=v1.get (by1 j1)
   obtain⟨u2,hu2',ru2⟩:=v2.get (by1 j2)
   obtain⟨x,hx,rx⟩:=r1.get (by1 j1)
   obtain⟨y,hy,ry⟩:=r2.get (by1 j2)
   have e1:its.toArray[j]=u:=by
    rw[by1 k1]at hu';simpa using hu'
   have e2:ao.toArray[j]=u2:=by
    rw[by1 k2]at hu2';simpa using hu2'
   have ok':eZ n x y=true:=by
    rw[bH1]at ok;have hz:j<(xs.zip ys).length:=by simp;omega
    have:=ok _ (bI0 hz)
    rw[List.getElem_zip]at this;rw[by1 i1]at hx;rw[by1 i2]at hy;cases hx;cases hy;exact this
   rw[e1,e2];have g1:xs.getD j .non=x:=by rw[bC0,hx];rfl
   have g2:ys.getD j .non=y:=by rw[bC0,hy];rfl
   rw[g1,g2];exact ih (by show A.units+1+n<cLine;omega) rx ry ru ru2 ok'
  have huA:A.units<cLine:=by omega
  cases rx with
  |@kt p us xs h1 r1=>
   obtain⟨its,v1,p1,_⟩:=I.tuple (.inr h1)
   cases (show a=Value.ref p from ra);cases ry with
   |@kt p2 ws ys h2 r2=>
    obtain⟨ao,v2,p2',_⟩:=I.tuple (.inr h2)
    cases (show b=Value.ref p2 from rb);by_cases e:p=p2
    ·subst e
     have:=aI.self (K:=X.K) (M:=M) (M':=M') (n+1) (.kt h1 r1) (.kt h2 r2) o
     rw[this];exact SeqAt.EqAt.same _
    ·have:=SeqAt.RcAt.tuples p1 p2' huA (items r1 r2 v1 v2 o)
     refine .of_refs e ?_;have l1:=v1.length;have l2:=v2.length;have m1:=r1.length;have m2:=r2.length;rw[bx6,bx6,<- l1,<- l2,m1,m2,kO]at this;exact this
   |_=>cases o
  |@tup p us xs h1 r1=>
   obtain⟨its,v1,p1,_⟩:=I.tuple (aS.of (K:=X.K) h1)
   cases (show a=Value.ref p from ra);cases ry with
   |@tup p2 ws ys h2 r2=>
    obtain⟨ao,v2,p2',_⟩:=I.tuple (aS.of (K:=X.K) h2)
    cases (show b=Value.ref p2 from rb);by_cases e:p=p2
    ·subst e
     have:=aI.self (K:=X.K) (M:=M) (M':=M') (n+1) (.tup h1 r1) (.tup h2 r2) o
     rw[this];exact SeqAt.EqAt.same _
    ·have:=SeqAt.RcAt.tuples p1 p2' huA (items r1 r2 v1 v2 o)
     refine .of_refs e ?_;have l1:=v1.length;have l2:=v2.length;have m1:=r1.length;have m2:=r2.length;rw[bx6,bx6,<- l1,<- l2,m1,m2,kO]at this;exact this
   |non=>cases rb;exact SeqAt.EqAt.tuple_none p1 huA
   |_=>cases o
  |@lst p us xs _ h1 r1=>
   obtain⟨its,v1,p1,_⟩:=I.list (aR.of (K:=X.K) h1)
   cases (show a=Value.ref p from ra);cases ry with
   |@lst p2 ws ys _ h2 r2=>
    obtain⟨ao,v2,p2',_⟩:=I.list (aR.of (K:=X.K) h2)
    cases (show b=Value.ref p2 from rb);have l1:=v1.length;have l2:=v2.length;have m1:=r1.length;have m2:=r2.length;by_cases e:p=p2
    ·subst e
     rw[h1]at h2;cases h2
     have:=Reps.self n r1 r2 o
     show SeqAt.EqAt A s _ _ ((xs.zip ys).all (λp=>cC n p.1 p.2)&&xs.length==ys.length);rw[this];exact SeqAt.EqAt.same _
    ·refine .of_refs e ?_
     by_cases hl:xs.length=ys.length
     ·have:=SeqAt.RcAt.lists p1.isList p2'.isList (by rw[bx6,bx6];omega) huA (items r1 r2 v1 v2 o)
      have hm:min xs.length ys.length=its.length:=by omega
      rw[bx6,<- hm,kO]at this;show SeqAt.RcAt A s _ _ ((xs.zip ys).all (λp=>cC n p.1 p.2)&&xs.length==ys.length);rw[show (xs.length==ys.length)=true by simpa using hl,bN2];exact this
     ·have:=SeqAt.RcAt.lists_lengths (A:=A) p1.isList p2'.isList (by rw[bx6,bx6];simp;omega) huA
      show SeqAt.RcAt A s _ _ ((xs.zip ys).all (λp=>cC n p.1 p.2)&&xs.length==ys.length);rw[show (xs.length==ys.length)=false by simpa using hl,Bool.and_false];exact this
   |_=>cases o
  |non=>
   cases ra;cases ry with
   |non=>cases rb;exact SeqAt.EqAt.same _
   |int i=>obtain⟨t',rfl⟩:=rb;exact SeqAt.EqAt.none_int _ _
   |@tup p2 ws ys h2 r2=>
    obtain⟨ao,v2,p2',_⟩:=I.tuple (aS.of (K:=X.K) h2)
    cases (show b=Value.ref p2 from rb);exact SeqAt.EqAt.none_tuple p2' huA
   |_=>cases o
  |bl i=>
   cases ra;cases ry with
   |bl j=>cases rb;exact SeqAt.EqAt.bool_bool _ _
   |_=>cases o
  |int i=>
   obtain⟨t,rfl⟩:=ra
   cases ry with
   |int j=>obtain⟨t',rfl⟩:=rb;exact SeqAt.EqAt.int_int _ _ _ _
   |non=>cases rb;exact SeqAt.EqAt.int_none _ _
   |_=>cases o
  |str i=>
   obtain⟨t,rfl⟩:=ra
   cases ry with
   |str j=>obtain⟨t',rfl⟩:=rb;exact SeqAt.EqAt.str_str _ _ _ _
   |_=>cases o
  |_=>cases o
end
structure Bt (mg:Str->Option av):Prop where
 len:mg "len" = none
 range:mg "range" = none
 tuple:mg "tuple" = none
 list:mg "list" = none
 sorted:mg "sorted" = none
 all:mg "all" = none
 any:mg "any" = none
 zip:mg "zip" = none
 min:mg "min" = none
 max:mg "max" = none
 sum:mg "sum" = none
 isinst:mg "isinstance" = none
 int:mg "int" = none
 bool:mg "bool" = none
 enum:mg "enumerate" = none
section
variable {X:Cx}{a b c e o:Expr}{es d6:List Expr}{ta tb te to tk:aL}{tr:c9}{tA tB' tc:cM}{pos p2 px:Pos}{st:Stmt}{sts:List Stmt}{t u:aV}
theorem jD (B:Bt X.mg)(ha:QA X [e] tr)(hg:Gl X "len":=by rfl)(he:starEach [e] X.env=(false,eval e X.env)::starEach [] X.env:=by rfl)(hpl:(backTo pos (starEach [] X.env)).any (·.1)=false:=by rfl):QE X (.Call (.Name "len" p2) [e] [] pos) (aM i8 tr):=
 jT (R6.or aI0) aN8 hg B.len PySem.boot_len ha (he:=he) (hpl:=hpl)
theorem eM (B:Bt X.mg)(ha:QA X [e] tr)(hg:Gl X "tuple":=by rfl)(he:starEach [e] X.env=(false,eval e X.env)::starEach [] X.env:=by rfl)(hpl:(backTo pos (starEach [] X.env)).any (·.1)=false:=by rfl):QE X (.Call (.Name "tuple" p2) [e] [] pos) (aM dG tr):=
 Z6 aF9 aN9 hg B.tuple PyProof.Rows.boot_tuple ha (he:=he) (hpl:=hpl)
theorem zO (B:Bt X.mg)(ha:QA X [e] tr)(hg:Gl X "list":=by rfl)(he:starEach [e] X.env=(false,eval e X.env)::starEach [] X.env:=by rfl)(hpl:(backTo pos (starEach [] X.env)).any (·.1)=false:=by rfl):QE X (.Call (.Name "list" p2) [e] [] pos) (aM qX tr):=
 Z6 aF8 aO0 hg B.list PyProof.Rows.boot_list ha (he:=he) (hpl:=hpl)
theorem aa0 (B:Bt X.mg)(ha:QA X [e] tr)(hg:Gl X "sorted":=by rfl)(he:starEach [e] X.env=(false,eval e X.env)::starEach [] X.env:=by rfl)(hpl:(backTo pos (starEach [] X.env)).any (·.1)=false:=by rfl):QE X (.Call (.Name "sorted" p2) [e] [] pos) (aM u5 tr):=
 jT U5 aO1 hg B.sorted PyProof.Rows.boot_sorted ha (he:=he) (hpl:=hpl)
theorem aR7 (B:Bt X.mg)(hc:X.calm=true)(ha:QA X [e] tr)(hg:Gl X "all":=by rfl)(he:starEach [e] X.env=(false,eval e X.env)::starEach [] X.env:=by rfl)(hpl:(backTo pos (starEach [] X.env)).any (·.1)=false:=by rfl):QE X (.Call (.Name "all" p2) [e] [] pos) (aM yS tr):=
 jT (yG hc) aO2 hg B.all PyProof.Rows.boot_all ha (he:=he) (hpl:=hpl)
theorem aa1 (B:Bt X.mg)(hc:X.calm=true)(ha:QA X [a,b] tr)(hg:Gl X "min":=by rfl)(he:starEach [a,b] X.env=(false,eval a X.env)::starEach [b] X.env:=by rfl)(hpl:(backTo pos (starEach [b] X.env)).any (·.1)=false:=by rfl):QE X (.Call (.Name "min" p2) [a,b] [] pos) (aM u6 tr):=
 jT (aB8 hc) aO3 hg B.min PyProof.Rows.boot_min ha (he:=he) (hpl:=hpl)
theorem zP (B:Bt X.mg)(hc:X.calm=true)(ha:QA X [a,b] tr)(hg:Gl X "max":=by rfl)(he:starEach [a,b] X.env=(false,eval a X.env)::starEach [b] X.env:=by rfl)(hpl:(backTo pos (starEach [b] X.env)).any (·.1)=false:=by rfl):QE X (.Call (.Name "max" p2) [a,b] [] pos) (aM qY tr):=
 jT (aB7 hc) aO4 hg B.max PyProof.Rows.boot_max ha (he:=he) (hpl:=hpl)
theorem zQ (ha:QE X a ta):QE X (.UnaryOp .USub a pos) (oI ta):=cN (aA4 aB1 ha) λσ H Q' h=>by
 obtain⟨W,ρ,Q,px,q,k⟩:=h
 refine⟨W,ρ,_,px,q,?_⟩;rintro v H1 x g s r ⟨i,rfl,q⟩;cases r
 exact⟨i,rfl,k _ _ _ .fr s (.int _) q⟩
theorem aa2 (x:Int):∀(xs:af),qI (.int x) (xs.map V.int)=decide (x∈xs)
 |[]=>by simp[qI]
 |y::r=>by
  have ih:=aa2 x r;unfold qI at ih ⊢;rw[bC1,List.any_cons,ih];by_cases e:y=x
  ·subst e;simp[j5]
  ·have:j5 (.int y) (.int x)=false:=by simpa[j5] using e
   rw[this,Bool.false_or,bC7];simp[Ne.symm e]
theorem aa3:∀(xs:af),(xs.map V.int).all kH=true
 |[]=>rfl
 |_::r=>by rw[bC1,bI1,aa3 r];rfl
theorem zR (neg:Bool):eY X (iO neg) (xF X.K neg):=by
 rintro W Hs H u v x y g g' Q Q' s n r1 r2 ⟨i,ns,rfl,e,q⟩ k;cases r1
 obtain⟨a,us,rfl,hs,r⟩:=r2.seq e
 obtain rfl:=r.ofInts;refine⟨a,_,rfl,hs,rfl,aa3 ns,?_⟩
 have:=k _ _ _ .fr (aE.refl _) (.bl _) q
 rw[aa2];cases neg<;>exact this
theorem aR8 (ha:QE X a ta)(hb:QE X b tb)(hm:behindInMarks .In b=false:=by rfl):QE X (.Compare a [.In] [b] pos) (q2 (iO false) ta tb):=mZ R5 (zR false) ha hb hm
theorem zS (ha:QE X a ta)(hb:QE X b tb)(hm:behindInMarks .In b=false:=by rfl):QT X (.Compare a [.In] [b] pos) (aO (q2 (iO false) ta tb)):=i9 R5 (zR false) ha hb hm
theorem aa4 (ha:QE X a ta)(hb:QE X b tb)(hm:behindInMarks .NotIn b=false:=by rfl):QT X (.Compare a [.NotIn] [b] pos) (aO (q2 (iO true) ta tb)):=i9 aF7 (zR true) ha hb hm
theorem aI.kt_ {K:ac}{M:ax->Prop}{H:Hp}{v:V}{xs:List PV}(r:aI K M H v (.kt xs)):∃a us,v = .ref a/\o8 K a us/\Reps K M H us xs:=by
 cases r with
 |kt h r=>exact⟨_,_,rfl,h,r⟩
def zT (K:ac)(n:Nat)(neg:Bool):R2:=λv w H Q=>∃x y,aI K (λ_=>True) H v x/\aI K (λ_=>True) H w y/\((∃xs ys,x = .tup xs/\y = .tup ys)∨(∃xs ys,x = .lst xs/\y = .lst ys)∨(∃xs ys,x = .kt xs/\y = .kt ys))/\eZ (n+1) x y=true/\Q (.bl (if neg=true then !cC (n+1) x y else cC (n+1) x y)) H
theorem oP {ag:List (ax×Obj)}{σ:St}{H:Hp}{s:aw}{M M':ax->Prop}(I:aA X ag σ H s){n:Nat}{A:az}(hu:A.units+(n+1)<cLine){us ws:List V}{xs ys:List PV}{its ao:List av}(r1:Reps X.K M H us xs)(r2:Reps X.K M' H ws ys)(v1:aX us its)(v2:aX ws ao)(ok:((xs.zip ys).all λp=>eZ n p.1 p.2)=true):∀j (h1:j<its.toArray.size) (h2:j<ao.toArray.size),SeqAt.EqAt A.in1 s its.toArray[j] ao.toArray[j] (cC n (xs.getD j .non) (ys.getD j .non)):=by
 intro j h1 h2;have l1:=v1.length;have l2:=v2.length;have m1:=r1.length;have m2:=r2.length;have k1:j<its.length:=by simpa using h1
 have k2:j<ao.length:=by simpa using h2
 have j1:j<us.length:=by omega
 have j2:j<ws.length:=by omega
 have i1:j<xs.length:=by omega
 have i2:j<ys.length:=by omega
 obtain⟨u,hu',ru⟩:=v1.get (by1 j1)
 obtain⟨u2,hu2',ru2⟩:=v2.get (by1 j2)
 obtain⟨x,hx,rx⟩:=r1.get (by1 j1)
 obtain⟨y,hy,ry⟩:=r2.get (by1 j2)
 have e1:its.toArray[j]=u:=by
  rw[by1 k1]at hu';simpa using hu'
 have e2:ao.toArray[j]=u2:=by
  rw[by1 k2]at hu2';simpa using hu2'
 have ok':eZ n x y=true:=by
  rw[bH1]at ok;have hz:j<(xs.zip ys).length:=by simp;omega
  have:=ok _ (bI0 hz)
  rw[List.getElem_zip]at this;rw[by1 i1]at hx;rw[by1 i2]at hy;cases hx;cases hy;exact this
 rw[e1,e2];have g1:xs.getD j .non=x:=by rw[bC0,hx];rfl
 have g2:ys.getD j .non=y:=by rw[bC0,hy];rfl
 rw[g1,g2];exact zN I n (by show A.units+1+n<cLine;omega) rx ry ru ru2 ok'
theorem aR9 (n:Nat)(hu:X.A.units+(n+1)<cLine):cR X (compareOp .Eq) (zT X.K n false):=by
 intro ag s σ H v w a b Q I ra rb h
 obtain⟨x,y,rx,ry,kd,o,q⟩:=h
 have hu0:X.A.units<cLine:=by omega
 rcases kd with⟨xs,ys,rfl,rfl⟩|⟨xs,ys,rfl,rfl⟩|⟨xs,ys,rfl,rfl⟩
 ·obtain⟨p,us,rfl,h1,r1⟩:=rx.sqT
  obtain⟨p2,ws,rfl,h2,r2⟩:=ry.sqT
  cases ra;cases rb
  obtain⟨its,v1,p1,_⟩:=I.tuple (aS.of (K:=X.K) h1)
  obtain⟨ao,v2,p2',_⟩:=I.tuple (aS.of (K:=X.K) h2)
  have l1:=v1.length;have l2:=v2.length;have m1:=r1.length;have m2:=r2.length
  have:=SeqAt.RcAt.tuples p1 p2' hu0 (oP I hu r1 r2 v1 v2 o)
  rw[bx6,bx6,<- l1,<- l2,m1,m2,kO]at this;exact this _ _ _ _ ⟨.bl _,H,I,rfl,q⟩
 ·obtain⟨p,us,rfl,_,h1,r1⟩:=rx.sqL
  obtain⟨p2,ws,rfl,_,h2,r2⟩:=ry.sqL
  cases ra;cases rb
  obtain⟨its,v1,p1,_⟩:=I.list (aR.of (K:=X.K) h1)
  obtain⟨ao,v2,p2',_⟩:=I.list (aR.of (K:=X.K) h2)
  have l1:=v1.length;have l2:=v2.length;have m1:=r1.length;have m2:=r2.length;have q:Q (.bl ((xs.zip ys).all (λp=>cC n p.1 p.2)&&xs.length==ys.length)) H:=q;by_cases hl:xs.length=ys.length
  ·have:=SeqAt.RcAt.lists p1.isList p2'.isList (by rw[bx6,bx6];omega) hu0 (oP I hu r1 r2 v1 v2 o)
   have hm:min xs.length ys.length=its.length:=by omega
   rw[bx6,<- hm,kO]at this;rw[show (xs.length==ys.length)=true by simpa using hl,bN2]at q;exact this _ _ _ _ ⟨.bl _,H,I,rfl,q⟩
  ·have:=SeqAt.RcAt.lists_lengths (A:=X.A) p1.isList p2'.isList (by rw[bx6,bx6];simp;omega) hu0
   rw[show (xs.length==ys.length)=false by simpa using hl,Bool.and_false]at q;exact this _ _ _ _ ⟨.bl _,H,I,rfl,q⟩
 ·obtain⟨p,us,rfl,h1,r1⟩:=rx.kt_
  obtain⟨p2,ws,rfl,h2,r2⟩:=ry.kt_
  cases ra;cases rb
  obtain⟨its,v1,p1,_⟩:=I.tuple (.inr h1)
  obtain⟨ao,v2,p2',_⟩:=I.tuple (.inr h2)
  have l1:=v1.length;have l2:=v2.length;have m1:=r1.length;have m2:=r2.length
  have:=SeqAt.RcAt.tuples p1 p2' hu0 (oP I hu r1 r2 v1 v2 o)
  rw[bx6,bx6,<- l1,<- l2,m1,m2,kO]at this;exact this _ _ _ _ ⟨.bl _,H,I,rfl,q⟩
theorem aa5 (n:Nat)(hu:X.A.units+(n+1)<cLine):cR X (compareOp .NotEq) (zT X.K n true):=by
 intro ag s σ H v w a b Q I ra rb h
 obtain⟨x,y,rx,ry,kd,o,q⟩:=h
 have hu0:X.A.units<cLine:=by omega
 rcases kd with⟨xs,ys,rfl,rfl⟩|⟨xs,ys,rfl,rfl⟩|⟨xs,ys,rfl,rfl⟩
 ·obtain⟨p,us,rfl,h1,r1⟩:=rx.sqT
  obtain⟨p2,ws,rfl,h2,r2⟩:=ry.sqT
  cases ra;cases rb
  obtain⟨its,v1,p1,_⟩:=I.tuple (aS.of (K:=X.K) h1)
  obtain⟨ao,v2,p2',_⟩:=I.tuple (aS.of (K:=X.K) h2)
  have l1:=v1.length;have l2:=v2.length;have m1:=r1.length;have m2:=r2.length
  have:=SeqAt.RcNeAt.tuples p1 p2' hu0 (oP I hu r1 r2 v1 v2 o)
  rw[bx6,bx6,<- l1,<- l2,m1,m2,kO]at this;exact this _ _ _ _ ⟨.bl _,H,I,rfl,q⟩
 ·obtain⟨p,us,rfl,_,h1,r1⟩:=rx.sqL
  obtain⟨p2,ws,rfl,_,h2,r2⟩:=ry.sqL
  cases ra;cases rb
  obtain⟨its,v1,p1,_⟩:=I.list (aR.of (K:=X.K) h1)
  obtain⟨ao,v2,p2',_⟩:=I.list (aR.of (K:=X.K) h2)
  have l1:=v1.length;have l2:=v2.length;have m1:=r1.length;have m2:=r2.length;have q:Q (.bl (!((xs.zip ys).all (λp=>cC n p.1 p.2)&&xs.length==ys.length))) H:=q;by_cases hl:xs.length=ys.length
  ·have:=SeqAt.RcNeAt.lists p1.isList p2'.isList (by rw[bx6,bx6];omega) hu0 (oP I hu r1 r2 v1 v2 o)
   have hm:min xs.length ys.length=its.length:=by omega
   rw[bx6,<- hm,kO]at this;rw[show (xs.length==ys.length)=true by simpa using hl,bN2]at q;exact this _ _ _ _ ⟨.bl _,H,I,rfl,q⟩
  ·have:=SeqAt.RcNeAt.lists_lengths (A:=X.A) p1.isList p2'.isList (by rw[bx6,bx6];simp;omega) hu0
   rw[show (xs.length==ys.length)=false by simpa using hl,Bool.and_false]at q;exact this _ _ _ _ ⟨.bl _,H,I,rfl,q⟩
 ·obtain⟨p,us,rfl,h1,r1⟩:=rx.kt_
  obtain⟨p2,ws,rfl,h2,r2⟩:=ry.kt_
  cases ra;cases rb
  obtain⟨its,v1,p1,_⟩:=I.tuple (.inr h1)
  obtain⟨ao,v2,p2',_⟩:=I.tuple (.inr h2)
  have l1:=v1.length;have l2:=v2.length;have m1:=r1.length;have m2:=r2.length
  have:=SeqAt.RcNeAt.tuples p1 p2' hu0 (oP I hu r1 r2 v1 v2 o)
  rw[bx6,bx6,<- l1,<- l2,m1,m2,kO]at this;exact this _ _ _ _ ⟨.bl _,H,I,rfl,q⟩
theorem zU {n:Nat}{neg:Bool}:eY X (iP n neg) (zT X.K n neg):=by
 rintro W Hs H u v x y g g' Q Q' s n r1 r2 ⟨kd,o,q⟩ k
 exact⟨x,y,r1.same (aE.refl _) λ_ _=>trivial,r2.same (aE.refl _) λ_ _=>trivial,kd.elim .inl λz=>.inr (.inl z),o,k _ _ _ .fr (aE.refl _) (.bl _) q⟩
theorem zV (hu:X.A.units+3<cLine)(ha:QE X a ta)(hb:QE X b tb):QT X (.Compare a [.NotEq] [b] pos) (aO (q2 (iP 2 true) ta tb)):=i9 (aa5 2 hu) zU ha hb (fM _)
theorem zW (hu:X.A.units+3<cLine)(ha:QE X a ta)(hb:QE X b tb):QE X (.Compare a [.Eq] [b] pos) (q2 (iP 2 false) ta tb):=mZ (aR9 2 hu) zU ha hb (fM _)
end
end PP
namespace PP
open PySem L2 PyProof.Rows
def LO (X:Cx)(t:lQ):TO:=λσ H Q'=>∃(W:ax->Prop) (ρ:b8) (Q:Option Int->Prop),PX X.K X.H₀ W σ ρ H/\t ρ Q/\∀o H',aE H H'->Q o->Q' o H'
def QO (X:Cx)(e:Option Expr)(t:lQ):Prop:=PO X e (LO X t)
theorem Reps.cut {K:ac}{M:ax->Prop}{H:Hp}{us:List V}{xs:List PV}(r:Reps K M H us xs)(lo hi:Option Int):Reps K M H (dX us lo hi) (fQ xs lo hi):=by
 unfold dX fQ;rw[r.length];exact (r.drop _).take _
section
variable {X:Cx}{a b c e o:Expr}{es d6:List Expr}{ta tb te to tk:aL}{tr:c9}{tA tB' tc:cM}{pos p2 px:Pos}{st:Stmt}{sts:List Stmt}{t u:aV}
theorem kQ:QO X none iQ:=λag s σ H Q I h=>x8 ag s σ H Q I (by
 obtain⟨W,ρ,Q1,px,q,k⟩:=h
 exact k _ _ (aE.refl _) q)
theorem kR (h:QE X e te):QO X (some e) (iR te):=λag s σ H Q I hq=>x9 h ag s σ H Q I (by
 obtain⟨W,ρ,Q1,px,q,k⟩:=hq
 refine⟨W,ρ,_,px,q,?_⟩;rintro v H1 x g s r ⟨i,rfl,q⟩;cases r
 exact⟨i,rfl,k _ _ s q⟩)
theorem lV {lo hi:Option Expr}{tl th:lQ}{sp:Pos}(he:QE X e te)(hl:QO X lo tl)(hh:QO X hi th):QE X (.Subscript e (.Slice lo hi none sp) pos) (jB te tl th):=cN (t9 (xE.or V4) he hl hh) λσ H Q' h=>by
 obtain⟨W,ρ,Q,px,q,k⟩:=h
 refine⟨W,ρ,_,px,q,λv H1 x g s1 r1 q1=>⟨W,ρ,_,px.mono s1,q1,λlo H2 s2 q2=>⟨W,ρ,_,px.mono (s1.trans s2),q2,?_⟩⟩⟩;rintro hi H3 s3 ⟨xs,e,f,q3⟩;have S:=(s1.trans s2).trans s3;have r3:=r1.same (M':=Mg X.H₀ W H g) (s2.trans s3) λ_ z=>z
 cases r3 with
 |tup h r=>
  cases e;refine .inr ⟨_,_,rfl,aS.of h,λp hp=>k _ _ _ .fr (S.trans (bS hp _)) (.tup aY (((r.flat f).cut lo hi).same (bS hp _) λ_ z=>z)) q3,λec=>k _ _ _ .fr S (.tup h ?_) q3⟩
  have:=(r.flat (M':=Mg X.H₀ W H .fr) f).cut lo hi
  rw[ec]at this;exact this
 |lst m h r=>
  cases e;exact .inl ⟨_,_,rfl,aR.of h,λp hp=>k _ _ _ .fr (S.trans (bS hp _)) (.lst (S.free hp) aY (((r.flat f).cut lo hi).same (bS hp _) λ_ z=>z)) q3⟩
 |scr h=>
  cases e;exact .inl ⟨_,_,rfl,h.sqL,λp hp=>k _ _ _ .fr (S.trans (bS hp _)) (.lst (S.free hp) aY (((Reps.intz _).cut lo hi).same (bS hp _) λ_ z=>z)) q3⟩
 |fL h r=>
  cases e;exact .inl ⟨_,_,rfl,.inl (.inr ⟨_,h⟩),λp hp=>k _ _ _ .fr (S.trans (bS hp _)) (.lst (S.free hp) aY (((r.flat f).cut lo hi).same (bS hp _) λ_ z=>z)) q3⟩
 |_=>cases e
structure Df (P:ay)(w:ba)(K:ac)(mg:Str->Option av)(base:Heap)(k:Nat)(x:Str)(ps:List Str)(p:cG):Prop where
 ex:∃f fd,bZ P w K mg base fE k f fd ps (qZ K p)/\dQ K fd ps []/\PySem.W.keepIn K (.ref f)=true/\mg x=some (.ref f)
theorem bX {k j:Nat}{x:Str}{ps:List Str}{p:cG}(d:Df X.prog X.w X.K X.mg X.base k x ps p)(hr:bL j X.A)(ha:QA X (e::es) tr)(hkj:k<=j:=by decide)(hg:Gl X x:=by rfl)(hdb:(x==("__debug__":Str))=false:=by decide)(he:starEach (e::es) X.env=(false,eval e X.env)::starEach es X.env:=by rfl)(hpl:(backTo pos (starEach es X.env)).any (·.1)=false:=by rfl):QE X (.Call (.Name x p2) (e::es) [] pos) (aM p tr):=by
 obtain⟨f,fd,F,b,kp,m⟩:=d.ex
 exact cN (t7 F (hr.mono hkj) hg m kp b .nil aH9 ha hdb he hpl) λ_ _ _=>aO5
theorem uC {K:ac}{H:Hp}{N:List Str}{vs:List V}{xs:List PV}(r:Reps K (λ_=>True) H vs xs):PX K H (λ_=>False) (L2.g9 N vs) (eI N xs) H:=by
 have lr:=r.length;have own:∀{i:Nat}{m:Slot},(eI N xs)[i]? = some (some m)->∃x,xs[i]? = some x/\m = .sh (flat x) x:=λ{i m} h=>by
  unfold eI at h;by_cases hi:i<xs.length
  ·rw[bD7 (by simpa using hi),bz1]at h
   rw[by1 hi]at h ⊢;cases h
   exact⟨_,rfl,rfl⟩
  ·rw[bG9 (by simpa using hi),List.getElem?_replicate]at h
   split at h<;>cases h
 refine⟨by unfold L2.g9 eI;simp[lr],aE.refl _,λa z=>z.elim,λi m h=>?_,λi j x y a h1=>?_⟩
 ·obtain⟨x,hx,rfl⟩:=own h
  obtain⟨v,hv,rx⟩:=r.at hx
  refine⟨v,?_,r6 (g:=false) (rx.same (aE.refl _) λ_ _ z=>z)⟩;have hi:i<vs.length:=(by4.mp hv).1;unfold L2.g9;rw[bD7 (by simpa using hi),bz1,hv];rfl
 ·obtain⟨x,_,e⟩:=own h1
  cases e
theorem Df.of {P:ay}{w:ba}{K:ac}{mg:Str->Option av}{base:Heap}{k:Nat}{x:Str}{ps N:List Str}{p:cG}{st:Stmt}{f:ax}{fd:FuncData}(F:d8 K x x st f fd)(m:mg x=some (.ref f))(S:FnScope N ps (aT st))(hb:∀(kV doc pm:av) (an:Option ax) (cdv ct:av) (us:List av),us.length=ps.length->bindArgs (PySem.W.fnOf x x (eV st) (cY st) (aT st) .none kV doc pm an cdv ct) ⟨us,[]⟩=pure (ps.zip us))(len:∀xs Q,p xs Q->xs.length=ps.length)(body:∀(cdv:av) (A:az) (outer:List Env) (s:aw) (H:Hp) (E:XK),bL k (A.deeper (envOfC x (aT st) s.heap.objs.size f cdv))->
   ∃t,gD (cW fE P w K mg base N x (aT st) f cdv A outer s H E).nox (cY st) t/\∀xs Q,p xs Q->t { nx:=λ_=>Q .non,rt:=Q } (eI N xs)):Df P w K mg base (k+1) x ps p:=by
 refine⟨f,fd,F.ok S (λvs H Q E h=>?_) (λcdv A outer s H vs Q E hr h=>?_),F.binds hb,F.kp,m⟩
 ·obtain⟨xs,Qp,r,q,_⟩:=h
  rw[r.length];exact len xs Qp q
 ·obtain⟨xs,Qp,r,q,k⟩:=h
  obtain⟨t,ht,hq⟩:=body cdv A outer s H E hr
  refine⟨_,ht,λ_=>False,eI N xs,_,uC r,hq xs Qp q,?_,?_,?_,?_⟩
  ·exact λW' σ' H' ρ' e px q=>k _ _ _ px.same .non q
  ·exact λv H' x s r q=>k _ _ _ s r q
  ·exact λW' σ' H' ρ' e px q=>q
  ·exact λW' σ' H' ρ' e px q=>q
theorem iU (i:Nat){x:Str}{tp:Pos}{body:List Stmt}{ti:gT}(hN:X.N.Nodup)(hi:QI X (.Name x tp) e ti)(hb:gD X body t)(hx:X.N[i]? = some x:=by rfl)(hl:gQ X.env.scope x:=by first|exact Or.inl rfl|exact Or.inr rfl)(hf:X.fn x=true∨X.env.scope.names.lookup x=some .local:=by first|exact .inl rfl|exact .inr rfl)(hp:PassesOwn (model X.prog X.w) X.A X.env X.xe:=by exact PassesOwn.never)(hc:X.calm=true:=by rfl)(hs:∀x,foldedSetIterable e X.env x=pure x:=by intro _;rfl):QS X (.For (.Name x tp) e body [] pos) (fG ti (cH i) t):=
 Z9 hp hc hi (hU hN hx hl hf) (yZ _ i) hb hs
theorem aa6 (i j:Nat){x y:Str}{tp xp yp:Pos}{kt:Nat}{body:List Stmt}{ti:gT}(hN:X.N.Nodup)(hi:QI X (.Tuple [.Name x xp,.Name y yp] kt tp) e ti)(hb:gD X body t)(hx:X.N[i]? = some x:=by rfl)(hy:X.N[j]? = some y:=by rfl)(hlx:gQ X.env.scope x:=by first|exact Or.inl rfl|exact Or.inr rfl)(hly:gQ X.env.scope y:=by first|exact Or.inl rfl|exact Or.inr rfl)(hfx:X.fn x=true∨X.env.scope.names.lookup x=some .local:=by first|exact .inl rfl|exact .inr rfl)(hfy:X.fn y=true∨X.env.scope.names.lookup y=some .local:=by first|exact .inl rfl|exact .inr rfl)(hp:PassesOwn (model X.prog X.w) X.A X.env X.xe:=by exact PassesOwn.never)(hc:X.calm=true:=by rfl)(hs:∀x,foldedSetIterable e X.env x=pure x:=by intro _;rfl):QS X (.For (.Tuple [.Name x xp,.Name y yp] kt tp) e body [] pos) (fG ti (lP i j) t):=
 Z9 hp hc hi (pY hc (jM (hU hN hx hlx hfx) (jM (hU hN hy hly hfy) pW))) (X6 _ i j) hb hs
abbrev jU:av->aw->Prop:=λ_ _=>False
section
variable {scope:Scope}{N:List Str}{fr:List (Option Nat)}{x y:Str}{tp xp yp:Pos}{kt:Nat}{iter elt:Expr}{ti:gT}
theorem aa7 {ifs:List Expr}{tcs:cM}(he:∀(s:aw) (H:Hp) (C:ax) (fp:List ax),QE (eD X scope N s H C fp jU) elt te)(hi:∀(s:aw) (H:Hp) (C:ax) (fp:List ax),mS (eD X scope N s H C fp jU) ifs (LT (eD X scope N s H C fp jU) tcs))(hN:N.Nodup)(h0:N[0]? = some x)(hl:∀(s:aw) (H:Hp) (C:ax) (fp:List ax),(eD X scope N s H C fp jU).env.scope.names.lookup x=some .local)(s:aw)(H:Hp) :
  tO X scope N (.Name x tp) ifs elt s H (fJ 0) (LT (X.frm H) tcs) (LE (X.frm H) te):=
 ⟨λC fp=>hU (X:=eD X scope N s H C fp jU) hN h0 (.inl (hl s H C fp)) (.inr (hl s H C fp)),λC fp=>hi s H C fp,λC fp=>he s H C fp⟩
theorem aS0 {Y:Cx}:mS Y [] (LT Y mX):=λag s σ H Q I h=>tN ag s σ H Q I (aP6 h)
theorem zX (hi:QI X (.Name x tp) iter ti)(he:∀(s:aw) (H:Hp) (C:ax) (fp:List ax),QE (eD X scope N s H C fp jU) elt te)(hc:X.calm=true:=by rfl)(S:gA X scope N fr:=by exact gA.of rfl rfl)(hN:N.Nodup:=by decide +kernel)(h0:N[0]? = some x:=by rfl)(hl:∀(s:aw) (H:Hp) (C:ax) (fp:List ax),(eD X scope N s H C fp jU).env.scope.names.lookup x=some .local:=by intro _ _ _ _;rfl)(hf:fr[0]? = some none:=by rfl)(hs:∀x,foldedSetIterable iter X.env x=pure x:=by intro _;rfl):QE X (.ListComp elt [⟨.Name x tp,iter,[],0⟩] scope pos) (gL ti fr (cH 0) mX te):=
 cN (U1 (gh:=λ_=>fJ 0) (tch:=λH=>LT (X.frm H) mX) (teh:=λH=>LE (X.frm H) te) hc S hi (aa7 he (λ_ _ _ _=>aS0) hN h0 hl) hs) λ_ _ _=>X7 (yZ _ 0) (λi e=>by subst e;exact hf)
theorem lW {c:Expr}{tcs:cM}(hi:QI X (.Name x tp) iter ti)(ht:∀(s:aw) (H:Hp) (C:ax) (fp:List ax),QT (eD X scope N s H C fp jU) c tcs)(he:∀(s:aw) (H:Hp) (C:ax) (fp:List ax),QE (eD X scope N s H C fp jU) elt te)(hc:X.calm=true:=by rfl)(S:gA X scope N fr:=by exact gA.of rfl rfl)(hN:N.Nodup:=by decide +kernel)(h0:N[0]? = some x:=by rfl)(hl:∀(s:aw) (H:Hp) (C:ax) (fp:List ax),(eD X scope N s H C fp jU).env.scope.names.lookup x=some .local:=by intro _ _ _ _;rfl)(hf:fr[0]? = some none:=by rfl)(hs:∀x,foldedSetIterable iter X.env x=pure x:=by intro _;rfl):QE X (.ListComp elt [⟨.Name x tp,iter,[c],0⟩] scope pos) (gL ti fr (cH 0) tcs te):=
 cN (U1 (gh:=λ_=>fJ 0) (tch:=λH=>LT (X.frm H) tcs) (teh:=λH=>LE (X.frm H) te) hc S hi (aa7 he (λs H C fp=>aI3 (ht s H C fp)) hN h0 hl) hs) λ_ _ _=>X7 (yZ _ 0) (λi e=>by subst e;exact hf)
end
theorem aS1:qJ X "list.extend" (W9 X.K):=λag s σ H x xs v us Q I rx rs h=>h.elim (aG1 ag s σ H x xs v us Q I rx rs) (aL5 ag s σ H x xs v us Q I rx rs)
theorem aS2 (i:Nat){x:Str}{ah ai xpos:Pos}(he:QE X e te)(hN:X.N[i]? = some x:=by rfl)(hv:cK X.env.scope x:=by first|exact Or.inl rfl|exact Or.inr (Or.inl rfl)|exact Or.inr (Or.inr rfl))(hd:(x==("__debug__":Str))=false:=by decide)(hcd:(x==("__classdict__":Str))=false:=by decide)(hbase:attributeBase (.Name x xpos) "extend" X.env (eval (.Name x xpos) X.env)=eval (.Name x xpos) X.env:=by rfl)(hfew:((backTo ai (starEach [e] X.env)).all (λx=>!x.1)&&(backToKw ai (keywordEach [] X.env)).all (λx=>x.1.isSome)&&decide (([e]:List Expr).length+([]:List Keyword).length+(if ([]:List Keyword).isEmpty then 0 else 1)<30))=true:=by rfl)(hline:(ah.endLine==ai.line)=true:=by rfl)(hs:starEach [e] X.env=(false,eval e X.env)::starEach [] X.env:=by rfl)(aq:(backTo ai (starEach [] X.env)).any (·.1)=false:=by rfl)(hsw:swapsWith (.Call (.Attribute (.Name x xpos) "extend" ah) [e] [] ai) none pos.line X.env=pure false:=by rfl) :
  QS X (.Expr (.Call (.Attribute (.Name x xpos) "extend" ah) [e] [] ai) pos) (yQ i te):=
 dF (lF (tE bH9 PySem.F.slot_list_extend PySem.F.type_list_extend aS1 (dI hN hv hd hcd) (eC he eS hs) hbase hfew hline hs aq) hsw) λ_ _ _=>aN6
theorem aS3 (i:Nat){x:Str}{ah ai xpos:Pos}(he:QE X e te)(hm:M1 X (.Name x xpos) "update" ah e ai:=by exact⟨rfl,rfl,rfl,rfl⟩)(hN:X.N[i]? = some x:=by rfl)(hv:cK X.env.scope x:=by first|exact Or.inl rfl|exact Or.inr (Or.inl rfl)|exact Or.inr (Or.inr rfl))(hd:(x==("__debug__":Str))=false:=by decide)(hcd:(x==("__classdict__":Str))=false:=by decide)(hsw:swapsWith (.Call (.Attribute (.Name x xpos) "update" ah) [e] [] ai) none pos.line X.env=pure false:=by rfl):QS X (.Expr (.Call (.Attribute (.Name x xpos) "update" ah) [e] [] ai) pos) (zD i te):=
 dF (lF (aL3 (dI hN hv hd hcd) he hm) hsw) λ_ _ _=>aQ3
end
end PP
namespace SO
open PySem PyProof.Rows
section
variable (rk:Keyed→Int)
def Kr (xs:Array Keyed)(i:Nat):Int:=((xs[i]?).map rk).getD 0
def Up (xs:Array Keyed)(lo hi:Nat):Prop:=∀i j,lo<=i->i<=j->j<hi->Kr rk xs i<=Kr rk xs j
def Dn (xs:Array Keyed)(lo hi:Nat):Prop:=∀i j,lo<=i->i<=j->j<hi->Kr rk xs j<=Kr rk xs i
end
variable {rk:Keyed→Int}
theorem nA {xs ys:Array Keyed}{i j:Nat}(h:xs[i]? = ys[j]?):Kr rk xs i=Kr rk ys j:=by unfold Kr;rw[h]
theorem uD {xs:Array Keyed}{i j:Nat}(hj:j<=xs.size)(k:Nat):Kr rk (mirror xs i j ((j-i)/2)) k=Kr rk xs (if i<=k/\k<j then i+j-1-k else k):=by
 refine nA ?_;rw[getElem?_mirror_all hj];split<;>rfl
theorem zY {xs:Array Keyed}{i j:Nat}(hj:j<=xs.size)(e:∀k,i<=k->k<j->Kr rk xs k=Kr rk xs (j-1))(k:Nat):Kr rk (mirror xs i j ((j-i)/2)) k=Kr rk xs k:=by
 rw[uD hj];split
 ·rename_i h;rw[e k h.1 h.2,e _ (by omega) (by omega)]
 ·rfl
theorem aS4 {xs:Array Keyed}{src d:Nat}(hs:src<xs.size)(hd:d<=src)(k:Nat):Kr rk (bubble xs src d) k=Kr rk xs (if k=src-d then src else if src-d<k/\k<=src then k-1 else k):=by
 refine nA ?_;rw[getElem?_bubble hs d hd]
 repeat' split
 all_goals rfl
structure SB (κ:SortKind)(a0:Array Keyed)(pd:Array (Nat×Nat×Nat))(st:SortSt):Prop where
 pm:(arrOf st).Perm a0
 kd:kindOf st=κ
 ok:failedOf st=none
 pd:pendingOf st=pd
section
variable {κ:SortKind}{a0:Array Keyed}{pd:Array (Nat×Nat×Nat)}{st:SortSt}{prog:ay}{w:ba}{A:az}{E:av→aw→Prop}{s:aw}{Ok:Keyed→Prop}
theorem SB.sz (h:SB κ a0 pd st):(arrOf st).size=a0.size:=h.pm.size_eq
theorem SB.put (h:SB κ a0 pd st){xs:Array Keyed}(hp:xs.Perm (arrOf st)):SB κ a0 pd (setArr st xs):=⟨hp.trans h.pm,h.kd,h.ok,h.pd⟩
def dC (prog:ay)(w:ba)(A:az)(E:av->aw->Prop)(s:aw)(κ:SortKind)(Ok:Keyed->Prop)(rk:Keyed->Int):Prop:=
 ∀(x y:Keyed),Ok x->Ok y->∀(st:SortSt) (Q:Option Bool->SortSt->Prop),kindOf st=κ->Q (some (decide (rk x<rk y))) st->wpS (model prog w) A E s (lt' x y) Q st
def cD (Ok:Keyed->Prop)(xs:Array Keyed):Prop:=∀x∈xs,Ok x
theorem SB.all (h:SB κ a0 pd st)(o:cD Ok a0):cD Ok (arrOf st):=λx hx=>o x (h.pm.mem_iff.mp hx)
theorem dN {xs:Array Keyed}{i:Nat}{Q:Keyed->SortSt->Prop}(hi:i<xs.size)(h:Q xs[i] st):wpS (model prog w) A E s (elem' xs i) Q st:=by
 rw[elem'_eq,getElem?_pos xs i hi];exact bz4 h
theorem cT {xs:Array Keyed}{i:Nat}(hi:i<xs.size):Kr rk xs i=rk xs[i]:=by unfold Kr;rw[getElem?_pos xs i hi];rfl
theorem rF (c:dC prog w A E s κ Ok rk)(o:cD Ok a0)(b:SB κ a0 pd st){i j:Nat}{Q:Option Bool->SortSt->Prop}(hi:i<a0.size)(hj:j<a0.size)(h:Q (some (decide (Kr rk (arrOf st) i<Kr rk (arrOf st) j))) st):wpS (model prog w) A E s (ltAt' i j) Q st:=by
 have hi':i<(arrOf st).size:=by rw[b.sz];exact hi
 have hj':j<(arrOf st).size:=by rw[b.sz];exact hj
 rw[ltAt'_eq];refine by6 (wpS_get (by6 (dN hi' (by6 (dN hj' ?_)))));refine c _ _ (b.all o _ (bC4 hi')) (b.all o _ (bC4 hj')) st Q b.kd ?_;rw[<- cT (rk:=rk) hi',<- cT (rk:=rk) hj'];exact h
theorem uE {i j:Nat}{Q:Unit->SortSt->Prop}(h:Q () (setArr st (mirror (arrOf st) i j ((j-i)/2)))):wpS (model prog w) A E s (reverseSlice' i j) Q st:=by
 rw[reverseSlice'_eq];exact wpS_modify h
abbrev CS:=Option (Option Nat)×Nat
abbrev DS:=Option (Option Nat)×Nat×Nat
def rG (lo b am:Nat):StateT SortSt Sem CS:=forIn [b:am] ((none,b):CS) λ_ r=>do
 match <- ltAt' (lo+r.2) (lo+r.2-1) with
 |some q=>if q=true then pure (ForInStep.done (none,r.2)) else pure (ForInStep.yield (none,r.2+1))
 |_=>pure (ForInStep.done (some none,r.2))
def zZ (lo b am:Nat):StateT SortSt Sem DS:=forIn [b:am] ((none,b,0):DS) λ_ r=>do
 match <- ltAt' (lo+r.2.1) (lo+r.2.1-1) with
 |some q=>
  if q=true then (if r.2.2>0 then do reverseSlice' (lo+r.2.1-(r.2.2+1)) (lo+r.2.1);pure (ForInStep.yield (none,r.2.1+1,0)) else pure (ForInStep.yield (none,r.2.1+1,0)))
  else do
   match <- ltAt' (lo+r.2.1-1) (lo+r.2.1) with
   |some q=>if q=true then pure (ForInStep.done (none,r.2.1,r.2.2)) else pure (ForInStep.yield (none,r.2.1+1,r.2.2+1))
   |_=>pure (ForInStep.done (some none,r.2.1,r.2.2))
 |_=>pure (ForInStep.done (some none,r.2.1,r.2.2))
theorem aa8 (c:dC prog w A E s κ Ok rk)(o:cD Ok a0)(b:SB κ a0 pd st){lo n am:Nat}{Q:CS->SortSt->Prop}(hz:lo+am<=a0.size)(h1:1<=n)(hn:n<=am)(u:Up rk (arrOf st) lo (lo+n))(h:∀m,n<=m->m<=am->Up rk (arrOf st) lo (lo+m)->(m=am∨Kr rk (arrOf st) (lo+m)<Kr rk (arrOf st) (lo+m-1))->Q (none,m) st):wpS (model prog w) A E s (rG lo n am) Q st:=by
 unfold rG;refine bF6 (I:=λx r st'=>st'=st/\r=(none,x)/\Up rk (arrOf st) lo (lo+x)) ?_ ?_ ⟨rfl,rfl,u⟩
 ·rintro x r st' hx hx' ⟨rfl,rfl,u'⟩
  refine by6 (rF c o b (by omega) (by omega) ?_);by_cases hq:Kr rk (arrOf st') (lo+x)<Kr rk (arrOf st') (lo+x-1)
  ·rw[by9 hq]
   exact bz4 (h x hx (by omega) u' (.inr hq))
  ·rw[by5 hq]
   refine bz4 ⟨rfl,rfl,λi j hi hij hj=>?_⟩;rcases bD0 j (lo+x) with z|z
   ·exact u' i j hi hij z
   ·have ej:j=lo+x:=by omega
    subst ej;rcases bL0 hij with z|z
    ·rw[z];exact bM5 _
    ·have:=u' i (lo+x-1) hi (by omega) (by omega)
     omega
 ·rintro r st' ⟨rfl,rfl,u'⟩
  have em:max n am=am:=by omega
  rw[em]at u' ⊢;exact h am hn (bx9 _) u' (.inl rfl)
structure rH (rk:Keyed->Int)(xs ys:Array Keyed)(lo m q:Nat):Prop where
 dn:Dn rk ys lo (lo+m)
 le:q+1<=m
 eq:∀i,lo+m-(q+1)<=i->i<lo+m->Kr rk ys i=Kr rk ys (lo+m-1)
 low:∀i,i<lo->Kr rk ys i=Kr rk xs i
theorem aS5 (c:dC prog w A E s κ Ok rk)(o:cD Ok a0)(b:SB κ a0 pd st){lo n am:Nat}{xs:Array Keyed}{Q:DS->SortSt->Prop}(hz:lo+am<=a0.size)(h1:1<=n)(hn:n<=am)(u:rH rk xs (arrOf st) lo n 0)(h:∀m q st',SB κ a0 pd st'->n<=m->m<=am->rH rk xs (arrOf st') lo m q->Q (none,m,q) st'):wpS (model prog w) A E s (zZ lo n am) Q st:=by
 unfold zZ;refine bF6 (I:=λx r st'=>∃q,r=(none,x,q)/\SB κ a0 pd st'/\rH rk xs (arrOf st') lo x q) ?_ ?_ ⟨0,rfl,b,u⟩
 ·rintro x r st' hx hx' ⟨q,rfl,b',f⟩
  have sz:=b'.sz;dsimp only;refine by6 (rF c o b' (by omega) (by omega) ?_);by_cases hq:Kr rk (arrOf st') (lo+x)<Kr rk (arrOf st') (lo+x-1)
  ·rw[by9 hq]
   have nx:∀ys:Array Keyed,(∀k,Kr rk ys k=Kr rk (arrOf st') k)->rH rk xs ys lo (x+1) 0:=λys e=>by
    refine⟨λi j hi hij hj=>?_,by omega,λi h1 h2=>by rw[show i=lo+(x+1)-1 by omega],λi hi=>(e i).trans (f.low i hi)⟩;rw[e,e];rcases bD0 j (lo+x) with z|z
    ·exact f.dn i j hi hij z
    ·have ej:j=lo+x:=by omega
     subst ej;rcases bL0 hij with z|z
     ·rw[z];exact bM5 _
     ·have:=f.dn i (lo+x-1) hi (by omega) (by omega)
      omega
   dsimp only;rw[if_pos rfl];by_cases hp:q>0
   ·rw[if_pos hp]
    exact by6 (uE (bz4 ⟨0,rfl,b'.put (mirror_perm _ _ _ _),nx _ (zY (by omega) f.eq)⟩))
   ·rw[if_neg hp]
    exact bz4 ⟨0,rfl,b',nx _ λ_=>rfl⟩
  ·rw[by5 hq]
   dsimp only;rw[if_neg bz7];refine by6 (rF c o b' (by omega) (by omega) ?_);by_cases hl:Kr rk (arrOf st') (lo+x-1)<Kr rk (arrOf st') (lo+x)
   ·rw[by9 hl]
    exact bz4 (h x q st' b' hx (by omega) f)
   ·rw[by5 hl]
    have ex:Kr rk (arrOf st') (lo+x)=Kr rk (arrOf st') (lo+x-1):=by omega
    refine bz4 ⟨q+1,rfl,b',λi j hi hij hj=>?_,by have:=f.le;omega,λi h1 h2=>?_,f.low⟩
    ·rcases bD0 j (lo+x) with z|z
     ·exact f.dn i j hi hij z
     ·have ej:j=lo+x:=by omega
      subst ej;rcases bL0 hij with z|z
      ·rw[z];exact bM5 _
      ·rw[ex];exact f.dn i (lo+x-1) hi (by omega) (by omega)
    ·rw[show lo+(x+1)-1=lo+x by omega]
     rcases bD0 i (lo+x) with z|z
     ·rw[ex];exact f.eq i (by omega) z
     ·rw[show i=lo+x by omega]
 ·rintro r st' ⟨q,rfl,b',f⟩
  have em:max n am=am:=by omega
  rw[em]at f ⊢;exact h am q st' b' hn (bx9 _) f
theorem aa9 (c:dC prog w A E s κ Ok rk)(o:cD Ok a0)(b:SB κ a0 pd st){lo am:Nat}(n:Nat){xs:Array Keyed}{Q:Option Nat->SortSt->Prop}{K:DS->StateT SortSt Sem (Option Nat)}{k:CS->StateT SortSt Sem (Option Nat)}(hz:lo+am<=a0.size)(hn:n+1<=am)(hK:∀m q,K (none,m,q)=if q>0 then reverseSlice' (lo+m-(q+1)) (lo+m) >>= λ_=>reverseSlice' lo (lo+m) >>= λ_=>rG lo m am >>= k else reverseSlice' lo (lo+m) >>= λ_=>rG lo m am >>= k)(hk:∀m,k (none,m)=pure (some m))(u:rH rk xs (arrOf st) lo (n+1) 0)(h:∀m st',SB κ a0 pd st'->1<=m->m<=am->Up rk (arrOf st') lo (lo+m)->(∀i,i<lo->Kr rk (arrOf st') i=Kr rk xs i)->Q (some m) st'):wpS (model prog w) A E s (liftM (rule "list.sort.descending-run") >>= λ_=>zZ lo (n+1) am >>= K) Q st:=by
 refine by6 (wpS_lift (bN1 ⟨rfl,?_⟩));refine by6 (aS5 c o b hz (by omega) hn u λm q st1 b1 m1 m2 f=>?_);have fin:∀st2:SortSt,SB κ a0 pd st2->(∀k,Kr rk (arrOf st2) k=Kr rk (arrOf st1) k)->
   wpS (model prog w) A E s (reverseSlice' lo (lo+m) >>= λ_=>rG lo m am >>= k) Q st2:=λst2 b2 e=>by
  have sz:=b2.sz;have low:∀i,i<lo->Kr rk (mirror (arrOf st2) lo (lo+m) ((lo+m-lo)/2)) i=Kr rk xs i:=λi hi=>by
   rw[uD (by omega),if_neg (by omega),e];exact f.low i hi
  refine by6 (uE (by6 (aa8 (κ:=κ) c o (b2.put (mirror_perm _ _ _ _)) hz (by omega) m2 ?_ λm' h1 h2 up _=>by rw[hk];exact bz4 (h m' _ (b2.put (mirror_perm _ _ _ _)) (by omega) h2 up low))))
  ·intro i j hi hij hj
   show Kr rk (mirror (arrOf st2) lo (lo+m) _) i<=Kr rk (mirror (arrOf st2) lo (lo+m) _) j;rw[uD (by omega),uD (by omega),if_pos (by omega),if_pos (by omega),e,e];exact f.dn _ _ (by omega) (by omega) (by omega)
 rw[hK];by_cases hp:q>0
 ·rw[if_pos hp]
  have sz:=b1.sz;exact by6 (uE (fin _ (b1.put (mirror_perm _ _ _ _)) (zY (by omega) f.eq)))
 ·rw[if_neg hp]
  exact fin st1 b1 λ_=>rfl
theorem aS6 (c:dC prog w A E s κ Ok rk)(o:cD Ok a0)(b:SB κ a0 pd st){lo am:Nat}{Q:Option Nat->SortSt->Prop}(hz:lo+am<=a0.size)(h1:1<=am)(h:∀m st',SB κ a0 pd st'->1<=m->m<=am->Up rk (arrOf st') lo (lo+m)->(∀i,i<lo->Kr rk (arrOf st') i=Kr rk (arrOf st) i)->Q (some m) st'):wpS (model prog w) A E s (countRun' lo am) Q st:=by
 rw[countRun'_eq];refine by6 (aa8 (n:=1) c o b hz (bx9 _) h1 (λi j hi hij hj=>by rw[show i=j by omega];exact bM5 _) λn n1 n2 un on=>?_);dsimp only;by_cases en:(n==am)=true
 ·rw[if_pos en]
  exact bz4 (h n st b n1 n2 un λ_ _=>rfl)
 ·rw[if_neg en]
  have en':n≠am:=by simpa using en
  have lt:=on.resolve_left en';have sz:=b.sz;by_cases g:n>1
  ·rw[if_pos g]
   refine by6 (rF c o b (by omega) (by omega) ?_);by_cases hq:Kr rk (arrOf st) lo<Kr rk (arrOf st) (lo+n-1)
   ·rw[by9 hq]
    exact bz4 (h n st b n1 n2 un λ_ _=>rfl)
   ·rw[by5 hq]
    dsimp only;rw[if_neg bz7];have all:∀k,lo<=k->k<lo+n->Kr rk (arrOf st) k=Kr rk (arrOf st) (lo+n-1):=λk k1 k2=>by
     have a1:=un lo k (bx9 _) k1 k2;have a2:=un k (lo+n-1) k1 (by omega) (by omega);omega
    have sm:=zY (rk:=rk) (xs:=arrOf st) (i:=lo) (j:=lo+n) (by omega) all;refine by6 (uE (aa9 (xs:=arrOf st) (κ:=κ) c o (b.put (mirror_perm _ _ _ _)) n hz (by omega) (λ_ _=>rfl) (λ_=>rfl) ⟨λi j hi hij hj=>?_,by omega,λi h1 h2=>by rw[show i=lo+(n+1)-1 by omega],λi _=>sm i⟩ h));show Kr rk (mirror (arrOf st) lo (lo+n) _) j<=Kr rk (mirror (arrOf st) lo (lo+n) _) i;rw[sm,sm];rcases bD0 j (lo+n) with z|z
    ·rw[all i hi (by omega),all j (by omega) z];exact bM5 _
    ·have ej:j=lo+n:=by omega
     subst ej;rcases bL0 hij with z|z
     ·rw[z];exact bM5 _
     ·rw[all i hi (by omega)];exact Int.le_of_lt lt
  ·rw[if_neg g]
   have e1:n=1:=by omega
   subst e1;refine aa9 (xs:=arrOf st) c o b 1 hz (by omega) (λ_ _=>rfl) (λ_=>rfl) ⟨λi j hi hij hj=>?_,by omega,λi h1 h2=>by rw[show i=lo+(1+1)-1 by omega],λi _=>rfl⟩ h;rcases bL0 hij with z|z
   ·rw[z];exact bM5 _
   ·have ei:i=lo+1-1:=by omega
    have ej:j=lo+1:=by omega
    rw[ei,ej];exact Int.le_of_lt lt
theorem aS7 (c:dC prog w A E s κ Ok rk)(o:cD Ok a0)(b:SB κ a0 pd st){lo n q:Nat}{Q:Bool->SortSt->Prop}(hz:lo+n<=a0.size)(hq:q<=n)(u:Up rk (arrOf st) lo (lo+q))(h:∀st',SB κ a0 pd st'->Up rk (arrOf st') lo (lo+n)->(∀i,i<lo->Kr rk (arrOf st') i=Kr rk (arrOf st) i)->Q true st'):wpS (model prog w) A E s (binarySort' lo n q) Q st:=by
 rw[binarySort'_eq]
 refine by6 (bM6 (bF6 (I:=λk r st'=>r=(none,())/\SB κ a0 pd st'/\Up rk (arrOf st') lo (lo+min k n)/\∀i,i<lo->Kr rk (arrOf st') i=Kr rk (arrOf st) i)
  (Q:=λr st'=>r=(none,())/\SB κ a0 pd st'/\Up rk (arrOf st') lo (lo+n)/\∀i,i<lo->Kr rk (arrOf st') i=Kr rk (arrOf st) i) ?_ ?_ ?_) ?_)
 ·rintro k r st1 hk hkn ⟨rfl,b1,u1,l1⟩
  rw[show min k n=k by omega]at u1;have hk0:lo+k<a0.size:=by omega
  have sz:=b1.sz
  refine by6 (bM6 (bF6 (I:=λx r st'=>st'=st1/\∃l g,r=(none,l,g)/\l<=g/\g<=k/\g-l<=k-x/\(∀i,i<l->Kr rk (arrOf st1) (lo+i)<=Kr rk (arrOf st1) (lo+k))/\∀i,g<=i->i<k->Kr rk (arrOf st1) (lo+k)<Kr rk (arrOf st1) (lo+i))
   (Q:=λr st'=>st'=st1/\∃l g,r=(none,l,g)/\l<=k/\(∀i,i<l->Kr rk (arrOf st1) (lo+i)<=Kr rk (arrOf st1) (lo+k))/\∀i,l<=i->i<k->Kr rk (arrOf st1) (lo+k)<Kr rk (arrOf st1) (lo+i)) ?_ ?_ ?_) ?_)
  ·rintro x r st2 _ hx ⟨rfl,l,g,rfl,d1,d2,d3,f1,f2⟩
   dsimp only;by_cases hlg:l >= g
   ·rw[if_pos hlg]
    have e:g=l:=by omega
    subst e;exact bz4 ⟨rfl,g,g,rfl,d2,f1,f2⟩
   ·rw[if_neg hlg]
    refine by6 (rF c o b1 hk0 (by omega) ?_);by_cases hc:Kr rk (arrOf st2) (lo+k)<Kr rk (arrOf st2) (lo+(l+g)/2)
    ·rw[by9 hc]
     refine bz4 ⟨rfl,l,(l+g)/2,rfl,by omega,by omega,by omega,f1,λi i1 i2=>?_⟩
     have:=u1 (lo+(l+g)/2) (lo+i) (by omega) (by omega) (by omega)
     omega
    ·rw[by5 hc]
     refine bz4 ⟨rfl,(l+g)/2+1,g,rfl,by omega,d2,by omega,λi i1=>?_,f2⟩
     have:=u1 (lo+i) (lo+(l+g)/2) (by omega) (by omega) (by omega)
     omega
  ·rintro r st2 ⟨rfl,l,g,rfl,d1,d2,d3,f1,f2⟩
   have e:g=l:=by omega
   subst e
   exact⟨rfl,g,g,rfl,d2,f1,f2⟩
  ·exact⟨rfl,0,k,rfl,by omega,by omega,by omega,λi hi=>absurd hi (by omega),λi i1 i2=>absurd i1 (by omega)⟩
  ·rintro r st2 ⟨rfl,l,g,rfl,d,f1,f2⟩
   dsimp only;rw[moveDown'_eq];have kb:∀i,Kr rk (bubble (arrOf st2) (lo+k) (lo+k-(lo+l))) i=Kr rk (arrOf st2) (if i=lo+l then lo+k else if lo+l<i/\i<=lo+k then i-1 else i):=λi=>by
    rw[aS4 (by omega) (by omega),show lo+k-(lo+k-(lo+l))=lo+l by omega]
   refine by6 (wpS_modify (bz4 ⟨rfl,b1.put (bubble_perm _ _ _),λi j hi hij hj=>?_,λi hi=>?_⟩))
   ·show Kr rk (bubble (arrOf st2) (lo+k) (lo+k-(lo+l))) i<=Kr rk (bubble (arrOf st2) (lo+k) (lo+k-(lo+l))) j
    rw[kb,kb];rw[show min (k+1) n=k+1 by omega]at hj;have v1:∀p,lo<=p->p<lo+l->Kr rk (arrOf st2) p<=Kr rk (arrOf st2) (lo+k):=λp p1 p2=>by have:=f1 (p-lo) (by omega);rwa [show lo+(p-lo)=p by omega]at this
    have v2:∀p,lo+l<=p->p<lo+k->Kr rk (arrOf st2) (lo+k)<Kr rk (arrOf st2) p:=λp p1 p2=>by have:=f2 (p-lo) (by omega) (by omega);rwa [show lo+(p-lo)=p by omega]at this
    repeat' split
    all_goals first
     |(exfalso;omega)
     |exact bM5 _
     |exact v1 _ (by omega) (by omega)
     |exact Int.le_of_lt (v2 _ (by omega) (by omega))
     |exact u1 _ _ (by omega) (by omega) (by omega)
   ·show Kr rk (bubble (arrOf st2) (lo+k) (lo+k-(lo+l))) i=_
    rw[kb,if_neg (by omega),if_neg (by omega)];exact l1 i hi
 ·rintro r st1 ⟨rfl,b1,u1,l1⟩
  rw[show min (max (max q 1) n) n=n by omega]at u1
  exact⟨rfl,b1,u1,l1⟩
 ·refine⟨rfl,b,λi j hi hij hj=>?_,λ_ _=>rfl⟩
  rcases bD0 j (lo+q) with z|z
  ·exact u i j hi hij z
  ·rw[show i=j by omega];exact bM5 _
 ·rintro r st1 ⟨rfl,b1,u1,l1⟩
  exact bz4 (h st1 b1 u1 l1)
end
def lX:Bool->Keyed->Array Keyed->Nat->Nat->Nat->StateT SortSt Sem (Option Nat):=sortPriv% PySem.Builtin.gallop
def nB (lf:Bool)(key:Keyed)(xs:Array Keyed)(bs i:Nat):StateT SortSt Sem (Option Bool):=do
 let z <- elem' xs (bs+i)
 if lf then lt' z key else return (<- lt' key z).map (!·)
theorem aS8 (lf:Bool)(key:Keyed)(xs:Array Keyed)(bs n h:Nat):lX lf key xs bs n h=(do
 let mut la:=0
 let mut of:=1
 let mut l:=0
 let mut g:=0
 let some rt <- nB lf key xs bs h|return none
 if rt then
  let mx:=n-h
  for _ in [0:n] do
   if of >= mx then break
   let some mr <- nB lf key xs bs (h+of)|return none
   if !mr then break
   la:=of
   of:=2*of+1
  l:=h+la+1
  g:=h+min of mx
 else
  let mx:=h+1
  for _ in [0:n] do
   if of >= mx then break
   let some fd <- nB lf key xs bs (h-of)|return none
   if fd then break
   la:=of
   of:=2*of+1
  l:=h+1-min of mx
  g:=h-la
 for _ in [0:n] do
  if l >= g then break
  let m:=l+(g-l)/2
  let some mr <- nB lf key xs bs m|return none
  if mr then l:=m+1 else g:=m
 return some g):=rfl
section
variable {rk:Keyed→Int}{κ:SortKind}{st:SortSt}{prog:ay}{w:ba}{A:az}{E:av→aw→Prop}{s:aw}{Ok:Keyed→Prop}
def cP (rk:Keyed->Int)(lf:Bool)(key:Keyed)(xs:Array Keyed)(bs i:Nat):Bool:=if lf then decide (Kr rk xs (bs+i)<rk key) else decide (Kr rk xs (bs+i)<=rk key)
theorem uF (c:dC prog w A E s κ Ok rk)(hk:kindOf st=κ){lf:Bool}{key:Keyed}{xs:Array Keyed}{bs i:Nat}{Q:Option Bool->SortSt->Prop}(ok:Ok key)(o:cD Ok xs)(hi:bs+i<xs.size)(h:Q (some (cP rk lf key xs bs i)) st):wpS (model prog w) A E s (nB lf key xs bs i) Q st:=by
 unfold nB;refine by6 (dN hi ?_);unfold cP at h;rw[cT hi]at h;cases lf with
 |true=>
  simp only[if_true]at h ⊢;exact c _ _ (o _ (bC4 hi)) ok st Q hk h
 |false=>
  simp only[bA6,bF8]at h ⊢;refine by6 (c _ _ ok (o _ (bC4 hi)) st _ hk (bz4 ?_));have e:(!decide (rk key<rk xs[bs+i]))=decide (rk xs[bs+i]<=rk key):=by
   by_cases z:rk xs[bs+i]<=rk key
   ·rw[by9 z,by5 (by omega)];rfl
   ·rw[by5 z,by9 (by omega)];rfl
  show Q (some (!decide (rk key<rk xs[bs+i]))) st;rw[e];exact h
abbrev GS:=Option (Option Nat)×Nat×Nat
def ab0 (lf:Bool)(key:Keyed)(xs:Array Keyed)(bs n l g:Nat):StateT SortSt Sem GS:=forIn [0:n] ((none,l,g):GS) λ_ r=>
 if r.2.1 >= r.2.2 then pure (ForInStep.done (none,r.2.1,r.2.2)) else do
  match <- nB lf key xs bs (r.2.1+(r.2.2-r.2.1)/2) with
  |some q=>if q=true then pure (ForInStep.yield (none,r.2.1+(r.2.2-r.2.1)/2+1,r.2.2)) else pure (ForInStep.yield (none,r.2.1,r.2.1+(r.2.2-r.2.1)/2))
  |_=>pure (ForInStep.done (some none,r.2.1,r.2.2))
theorem ab1 (c:dC prog w A E s κ Ok rk)(hk:kindOf st=κ){lf:Bool}{key:Keyed}{xs:Array Keyed}{bs n l g:Nat}{Q:GS->SortSt->Prop}(ok:Ok key)(o:cD Ok xs)(hz:bs+n<=xs.size)(mono:∀i j,i<=j->j<n->cP rk lf key xs bs j=true->cP rk lf key xs bs i=true)(hlg:l<=g)(hg:g<=n)(h1:∀i,i<l->cP rk lf key xs bs i=true)(h2:∀i,g<=i->i<n->cP rk lf key xs bs i=false)(hq:∀k,k<=n->(∀i,i<k->cP rk lf key xs bs i=true)->(∀i,k<=i->i<n->cP rk lf key xs bs i=false)->Q (none,k,k) st):wpS (model prog w) A E s (ab0 lf key xs bs n l g) Q st:=by
 unfold ab0;refine bF6 (I:=λx r st'=>st'=st/\∃l g,r=(none,l,g)/\l<=g/\g<=n/\g-l<=n-x/\(∀i,i<l->cP rk lf key xs bs i=true)/\∀i,g<=i->i<n->cP rk lf key xs bs i=false) ?_ ?_ ⟨rfl,l,g,rfl,hlg,hg,by omega,h1,h2⟩
 ·rintro x r st' _ hx ⟨rfl,l,g,rfl,d1,d2,d3,f1,f2⟩
  dsimp only;by_cases hc:l >= g
  ·rw[if_pos hc]
   have e:g=l:=by omega
   subst e;exact bz4 (hq g d2 f1 f2)
  ·rw[if_neg hc]
   refine by6 (uF c hk ok o (by omega) ?_);cases z:cP rk lf key xs bs (l+(g-l)/2) with
   |true=>exact bz4 ⟨rfl,_,_,rfl,by omega,d2,by omega,λi hi=>mono i (l+(g-l)/2) (by omega) (by omega) z,f2⟩
   |false=>
    refine bz4 ⟨rfl,_,_,rfl,by omega,by omega,by omega,f1,λi i1 i2=>?_⟩;cases y:cP rk lf key xs bs i with
    |false=>rfl
    |true=>rw[mono _ i i1 i2 y]at z;cases z
 ·rintro r st' ⟨rfl,l,g,rfl,d1,d2,d3,f1,f2⟩
  have e:g=l:=by omega
  subst e;exact hq g d2 f1 f2
theorem oQ (c:dC prog w A E s κ Ok rk)(hk:kindOf st=κ){lf:Bool}{key:Keyed}{xs:Array Keyed}{bs n h:Nat}{Q:Option Nat->SortSt->Prop}(ok:Ok key)(o:cD Ok xs)(hh:h<n)(hz:bs+n<=xs.size)(u:Up rk xs bs (bs+n))(hq:∀k,k<=n->(∀i,i<k->cP rk lf key xs bs i=true)->(∀i,k<=i->i<n->cP rk lf key xs bs i=false)->Q (some k) st):wpS (model prog w) A E s (lX lf key xs bs n h) Q st:=by
 have mono:∀i j,i<=j->j<n->cP rk lf key xs bs j=true->cP rk lf key xs bs i=true:=λi j hij hj e=>by
  have:=u (bs+i) (bs+j) (by omega) (by omega) (by omega)
  unfold cP at e ⊢;cases lf with
  |true=>simp only[if_true,bz5]at e ⊢;omega
  |false=>simp only[bA6,bF8,bz5]at e ⊢;omega
 have monf:∀i j,i<=j->j<n->cP rk lf key xs bs i=false->cP rk lf key xs bs j=false:=λi j hij hj e=>by
  cases z:cP rk lf key xs bs j with
  |false=>rfl
  |true=>rw[mono i j hij hj z]at e;cases e
 rw[aS8];refine by6 (uF c hk ok o (by omega) ?_);dsimp only;cases z:cP rk lf key xs bs h with
 |true=>
  rw[if_pos rfl]
  refine by6 (bM6 (bF6 (I:=λx r st'=>st'=st/\∃la of,r=(none,la,of)/\la<of/\x<of/\h+la<n/\cP rk lf key xs bs (h+la)=true)
   (Q:=λr st'=>st'=st/\∃la of,r=(none,la,of)/\la<of/\h+la<n/\cP rk lf key xs bs (h+la)=true/\(of<n-h->cP rk lf key xs bs (h+of)=false)) ?_ ?_ ⟨rfl,0,1,rfl,by omega,by omega,by omega,z⟩) ?_)
  ·rintro x r st' _ hx ⟨rfl,la,of,rfl,d1,d2,d3,f⟩
   dsimp only;by_cases hc:of >= n-h
   ·rw[if_pos hc]
    exact bz4 ⟨rfl,la,of,rfl,d1,d3,f,λy=>absurd y (by omega)⟩
   ·rw[if_neg hc]
    refine by6 (uF c hk ok o (by omega) ?_);cases y:cP rk lf key xs bs (h+of) with
    |true=>exact bz4 ⟨rfl,of,2*of+1,rfl,by omega,by omega,by omega,y⟩
    |false=>exact bz4 ⟨rfl,la,of,rfl,d1,d3,f,λ_=>y⟩
  ·rintro r st' ⟨rfl,la,of,rfl,d1,d2,d3,f⟩
   exact⟨rfl,la,of,rfl,d1,d3,f,λy=>absurd y (by omega)⟩
  ·rintro r st' ⟨rfl,la,of,rfl,d1,d3,f,ft⟩
   dsimp only;refine by6 (ab1 (l:=h+la+1) (g:=h+min of (n-h)) c hk ok o hz mono (by omega) (by omega) (λi hi=>mono i (h+la) (by omega) d3 f) (λi i1 i2=>?_) λk k1 k2 k3=>bz4 (hq k k1 k2 k3));rcases bD0 of (n-h) with y|y
   ·exact monf (h+of) i (by omega) i2 (ft y)
   ·exact absurd i1 (by omega)
 |false=>
  rw[if_neg bz7]
  refine by6 (bM6 (bF6 (I:=λx r st'=>st'=st/\∃la of,r=(none,la,of)/\la<of/\x<of/\la<=h/\cP rk lf key xs bs (h-la)=false)
   (Q:=λr st'=>st'=st/\∃la of,r=(none,la,of)/\la<of/\la<=h/\cP rk lf key xs bs (h-la)=false/\(of<h+1->cP rk lf key xs bs (h-of)=true)) ?_ ?_ ⟨rfl,0,1,rfl,by omega,by omega,by omega,z⟩) ?_)
  ·rintro x r st' _ hx ⟨rfl,la,of,rfl,d1,d2,d3,f⟩
   dsimp only;by_cases hc:of >= h+1
   ·rw[if_pos hc]
    exact bz4 ⟨rfl,la,of,rfl,d1,d3,f,λy=>absurd y (by omega)⟩
   ·rw[if_neg hc]
    refine by6 (uF c hk ok o (by omega) ?_);cases y:cP rk lf key xs bs (h-of) with
    |false=>exact bz4 ⟨rfl,of,2*of+1,rfl,by omega,by omega,by omega,y⟩
    |true=>exact bz4 ⟨rfl,la,of,rfl,d1,d3,f,λ_=>y⟩
  ·rintro r st' ⟨rfl,la,of,rfl,d1,d2,d3,f⟩
   exact⟨rfl,la,of,rfl,d1,d3,f,λy=>absurd y (by omega)⟩
  ·rintro r st' ⟨rfl,la,of,rfl,d1,d3,f,ft⟩
   dsimp only;refine by6 (ab1 (l:=h+1-min of (h+1)) (g:=h-la) c hk ok o hz mono (by omega) (by omega) (λi hi=>?_) (λi i1 i2=>monf (h-la) i i1 i2 f) λk k1 k2 k3=>bz4 (hq k k1 k2 k3));rcases bD0 of (h+1) with y|y
   ·exact mono i (h-of) (by omega) (by omega) (ft y)
   ·exact absurd hi (by omega)
end
def oR:Nat->StateT SortSt Sem Unit:=sortPriv% PySem.Builtin.setMinGallop
def A0:Array Keyed->Array Keyed->StateT SortSt Sem (Array Keyed):=sortPriv% PySem.Builtin.mergeLo
theorem aS9 (g:Nat):oR g=modify (λst=>SortSt.mk' (kindOf st) (arrOf st) (pendingOf st) g (failedOf st)):=rfl
abbrev LS:=Option (Array Keyed)×Array Keyed×Nat×Nat×Nat×Nat×Nat
abbrev A1:=Option (Array Keyed)×Array Keyed×Nat×Nat×Nat×Nat
abbrev LO:=Option (Array Keyed)×Array Keyed×Nat×Nat×Nat
def uG (x y o:Array Keyed)(i j mg p q:Nat):StateT SortSt Sem (ForInStep LS):=do
 let v <- elem' x i
 if (i+1+1==x.size)=true then pure (.done (some (o.push v++y.extract j y.size++x.extract (i+1) x.size),o.push v,i+1,j,mg,p,q))
 else if (decide (p<7)&&decide (q<7))=true then pure (.done (none,o.push v,i+1,j,mg,p,q)) else pure (.yield (none,o.push v,i+1,j,mg,p,q))
def uH (x y o:Array Keyed)(i j mg p q:Nat):StateT SortSt Sem (ForInStep LS):=do
 let v <- elem' y j
 if (j+1==y.size)=true then pure (.done (some (o.push v++x.extract i x.size++y.extract (j+1) y.size),o.push v,i,j+1,mg,p,q)) else do
  let u <- elem' x i
  match <- lX true u y (j+1) (y.size-(j+1)) 0 with
  |some k=>
   if k>0 then
    if (j+1+k==y.size)=true then pure (.done (some (o.push v++y.extract (j+1) (j+1+k)++x.extract i x.size++y.extract (j+1+k) y.size),o.push v++y.extract (j+1) (j+1+k),i,j+1+k,mg,p,k))
    else uG x y (o.push v++y.extract (j+1) (j+1+k)) i (j+1+k) mg p k
   else uG x y (o.push v) i (j+1) mg p k
  |_=>pure (.done (some (o.push v++x.extract i x.size++y.extract (j+1) y.size),o.push v,i,j+1,mg,p,q))
def uI (x y o:Array Keyed)(i j mg p q:Nat):StateT SortSt Sem (ForInStep LS):=do
 oR mg
 let v <- elem' y j
 match <- lX false v x i (x.size-i) 0 with
 |some k=>
  if k>0 then
   if (i+k+1==x.size)=true then pure (.done (some (o++x.extract i (i+k)++y.extract j y.size++x.extract (i+k) x.size),o++x.extract i (i+k),i+k,j,mg,k,q))
   else if (i+k==x.size)=true then pure (.done (some (o++x.extract i (i+k)++x.extract (i+k) x.size++y.extract j y.size),o++x.extract i (i+k),i+k,j,mg,k,q))
   else uH x y (o++x.extract i (i+k)) (i+k) j mg k q
  else uH x y o i j mg k q
 |_=>pure (.done (some (o++x.extract i x.size++y.extract j y.size),o,i,j,mg,p,q))
def A2 (x y o:Array Keyed)(i j mg p q:Nat):StateT SortSt Sem LS:=forIn [0:x.size+y.size] ((none,o,i,j,mg,p,q):LS) λ_ r=>
 if r.2.2.2.2.1>1 then uI x y r.2.1 r.2.2.1 r.2.2.2.1 (r.2.2.2.2.1-1) r.2.2.2.2.2.1 r.2.2.2.2.2.2 else uI x y r.2.1 r.2.2.1 r.2.2.2.1 r.2.2.2.2.1 r.2.2.2.2.2.1 r.2.2.2.2.2.2
def A3 (x y o:Array Keyed)(i j mg:Nat):StateT SortSt Sem A1:=forIn [0:x.size+y.size] ((none,o,i,j,0,0):A1) λ_ r=>do
 let v <- elem' y r.2.2.2.1
 let u <- elem' x r.2.2.1
 match <- lt' v u with
 |some q=>
  if q=true then do
   let v <- elem' y r.2.2.2.1
   if (r.2.2.2.1+1==y.size)=true then pure (.done (some (r.2.1.push v++x.extract r.2.2.1 x.size++y.extract (r.2.2.2.1+1) y.size),r.2.1.push v,r.2.2.1,r.2.2.2.1+1,0,r.2.2.2.2.2+1))
   else if r.2.2.2.2.2+1 >= mg then pure (.done (none,r.2.1.push v,r.2.2.1,r.2.2.2.1+1,0,r.2.2.2.2.2+1)) else pure (.yield (none,r.2.1.push v,r.2.2.1,r.2.2.2.1+1,0,r.2.2.2.2.2+1))
  else do
   let u <- elem' x r.2.2.1
   if (r.2.2.1+1+1==x.size)=true then pure (.done (some (r.2.1.push u++y.extract r.2.2.2.1 y.size++x.extract (r.2.2.1+1) x.size),r.2.1.push u,r.2.2.1+1,r.2.2.2.1,r.2.2.2.2.1+1,0))
   else if r.2.2.2.2.1+1 >= mg then pure (.done (none,r.2.1.push u,r.2.2.1+1,r.2.2.2.1,r.2.2.2.2.1+1,0)) else pure (.yield (none,r.2.1.push u,r.2.2.1+1,r.2.2.2.1,r.2.2.2.2.1+1,0))
 |_=>pure (.done (some (r.2.1++x.extract r.2.2.1 x.size++y.extract r.2.2.2.1 y.size),r.2.1,r.2.2.1,r.2.2.2.1,r.2.2.2.2.1,r.2.2.2.2.2))
def mlp (x y o:Array Keyed)(i j mg:Nat):StateT SortSt Sem LO:=forIn [0:x.size+y.size] ((none,o,i,j,mg):LO) λ_ r=>do
 let u <- A3 x y r.2.1 r.2.2.1 r.2.2.2.1 r.2.2.2.2
 match u.1 with
 |some z=>pure (.done (some z,u.2.1,u.2.2.1,u.2.2.2.1,r.2.2.2.2))
 |none=>do
  liftM (rule "list.sort.gallop")
  let v <- A2 x y u.2.1 u.2.2.1 u.2.2.2.1 (r.2.2.2.2+1) u.2.2.2.2.1 u.2.2.2.2.2
  match v.1 with
  |some z=>pure (.done (some z,v.2.1,v.2.2.1,v.2.2.2.1,v.2.2.2.2.1))
  |none=>do
   oR (v.2.2.2.2.1+1)
   pure (.yield (none,v.2.1,v.2.2.1,v.2.2.2.1,v.2.2.2.2.1+1))
theorem aT0 (x y:Array Keyed):A0 x y=(do
 liftM (rule "list.sort.merge-lo")
 let v <- elem' y 0
 if (1==y.size)=true then pure (#[v]++x.extract 0 x.size++y.extract 1 y.size)
 else if (0+1==x.size)=true then pure (#[v]++y.extract 1 y.size++x.extract 0 x.size)
 else do
  let z <- get
  let r <- mlp x y #[v] 0 1 (gallopOf z)
  match r.1 with
  |some z=>pure z
  |none=>unsupported "internal:list.sort.merge-bound"):=by kernel_rfl
section
variable (rk:Keyed→Int)
def Sd (l:List Keyed):Prop:=l.Pairwise λa b=>rk a<=rk b
structure MI (xs ys o:List Keyed)(i j:Nat):Prop where
 pm:o.Perm (xs.take i++ys.take j)
 sx:Sd rk (o++xs.drop i)
 sy:Sd rk (o++ys.drop j)
end
variable {rk:Keyed→Int}{xs ys o:List Keyed}{i j:Nat}
theorem Sd.ins {o a b d:List Keyed}(h1:Sd rk (o++a))(h2:Sd rk (o++(b++d)))(h:∀u∈b,∀t∈a,rk u<=rk t):Sd rk ((o++b)++a):=by
 unfold Sd at *;rw[bA2]
 obtain⟨p1,p2,p3⟩:=bD2.mp h1
 obtain⟨q1,q2,q3⟩:=bD2.mp h2
 obtain⟨r1,r2,r3⟩:=bD2.mp q2
 refine bD2.mpr ⟨p1,bD2.mpr ⟨r1,p2,h⟩,λu hu t ht=>?_⟩;rcases bB3.mp ht with z|z
 ·exact q3 u hu t (bL8 _ z)
 ·exact p3 u hu t z
theorem MI.ofy (m:MI rk xs ys o i j)(k:Nat)(h:∀u∈(ys.drop j).take k,∀t∈xs.drop i,rk u<=rk t):MI rk xs ys (o++(ys.drop j).take k) i (j+k):=by
 have e:(ys.drop j).take k++ys.drop (j+k)=ys.drop j:=by rw[<- List.drop_drop];exact bA7 k _
 refine⟨?_,Sd.ins m.sx (d:=ys.drop (j+k)) (by rw[e];exact m.sy) h,by rw[bA2,e];exact m.sy⟩;rw[List.take_add,<- bA2];exact m.pm.append_right _
theorem MI.ofx (m:MI rk xs ys o i j)(k:Nat)(h:∀u∈(xs.drop i).take k,∀t∈ys.drop j,rk u<=rk t):MI rk xs ys (o++(xs.drop i).take k) (i+k) j:=by
 have e:(xs.drop i).take k++xs.drop (i+k)=xs.drop i:=by rw[<- List.drop_drop];exact bA7 k _
 refine⟨?_,by rw[bA2,e];exact m.sx,Sd.ins m.sy (d:=xs.drop (i+k)) (by rw[e];exact m.sx) h⟩;rw[List.take_add];refine (m.pm.append_right _).trans ?_;rw[bA2,bA2];exact (bL3).append_left _
theorem MI.fin (m:MI rk xs ys o i j)(h:xs.length<=i∨ys.length<=j):(o++xs.drop i++ys.drop j).Perm (xs++ys)/\Sd rk (o++xs.drop i++ys.drop j):=by
 refine⟨?_,?_⟩
 ·rw[bA2]
  refine (m.pm.append_right _).trans ?_;have e1:xs=xs.take i++xs.drop i:=(bA7 i xs).symm;have e2:ys=ys.take j++ys.drop j:=(bA7 j ys).symm
  conv=>rhs;rw[e1,e2]
  rw[bA2,bA2];refine List.Perm.append_left _ ?_;rw[<- bA2,<- bA2];exact (bL3).append_right _
 ·rcases h with h|h
  ·rw[List.drop_eq_nil_of_le h,bA0];exact m.sy
  ·rw[List.drop_eq_nil_of_le h,bA0];exact m.sx
theorem MI.lst (m:MI rk xs ys o i j)(h:∀u∈ys,∀t∈xs.drop i,rk u<=rk t):(o++ys.drop j++xs.drop i).Perm (xs++ys)/\Sd rk (o++ys.drop j++xs.drop i):=by
 have m2:=m.ofy ys.length λu hu t ht=>h u (List.mem_of_mem_drop (bM7 hu)) t ht
 have e:(ys.drop j).take ys.length=ys.drop j:=bH2 (by simp);rw[e]at m2;have f:=m2.fin (.inr (by omega));rw[List.drop_eq_nil_of_le (as:=ys) (i:=j+ys.length) (by omega),bA0]at f;exact f
theorem ab2 {x:Array Keyed}{i k:Nat}{u:Keyed}(h:u∈(x.toList.drop i).take k):∃t,t<k/\i+t<x.size/\rk u=Kr rk x (i+t):=by
 obtain⟨t,ht,e⟩:=List.getElem_of_mem h
 have h1:t<k/\i+t<x.size:=by simp at ht;omega
 refine⟨t,h1.1,h1.2,?_⟩;rw[cT h1.2,<- e];simp
theorem rJ {x:Array Keyed}{i:Nat}{u:Keyed}(h:u∈x.toList.drop i):∃t,i+t<x.size/\rk u=Kr rk x (i+t):=by
 obtain⟨t,ht,e⟩:=List.getElem_of_mem h
 have h1:i+t<x.size:=by simp at ht;omega
 refine⟨t,h1,?_⟩;rw[cT h1,<- e];simp
theorem Sd.up {x:Array Keyed}(h:Sd rk x.toList)(lo hi:Nat)(hh:hi<=x.size):Up rk x lo hi:=λi j _ hij hj=>by
 rw[cT (by omega:i<x.size),cT (by omega:j<x.size)];rcases bL0 hij with z|z
 ·subst z;exact bM5 _
 ·have:=bF4.mp h i j (by simp;omega) (by simp;omega) z
  simpa using this
theorem ab3 (x:Array Keyed)(i k:Nat):(x.extract i (i+k)).toList=(x.toList.drop i).take k:=by
 simp[List.extract]
theorem uJ (x:Array Keyed)(i:Nat):(x.extract i x.size).toList=x.toList.drop i:=by
 simp[List.extract];exact bH2 (by simp)
theorem nC {x:Array Keyed}{i:Nat}(h:i<x.size):[x[i]]=(x.toList.drop i).take 1:=by
 rw[List.drop_eq_getElem_cons (by simpa using h)];simp
structure Gq (st st':SortSt):Prop where
 kd:kindOf st'=kindOf st
 ar:arrOf st'=arrOf st
 pd:pendingOf st'=pendingOf st
 ok:failedOf st'=failedOf st
theorem Gq.refl (st:SortSt):Gq st st:=⟨rfl,rfl,rfl,rfl⟩
section
variable {κ:SortKind}{st:SortSt}{prog:ay}{w:ba}{A:az}{E:av→aw→Prop}{s:aw}{Ok:Keyed→Prop}
theorem uK {st0:SortSt}{g:Nat}{Q:Unit->SortSt->Prop}(q:Gq st0 st)(h:∀st',Gq st0 st'->Q () st'):wpS (model prog w) A E s (oR g) Q st:=by
 rw[aS9];exact wpS_modify (h _ ⟨q.kd,q.ar,q.pd,q.ok⟩)
def fH (rk:Keyed->Int)(x y r:Array Keyed):Prop:=r.toList.Perm (x.toList++y.toList)/\Sd rk r.toList
theorem MI.y1 {x y o:Array Keyed}(m:MI rk x.toList y.toList o.toList i j)(hj:j<y.size)(h:∀t,i+t<x.size->rk y[j]<=Kr rk x (i+t)):MI rk x.toList y.toList (o.push y[j]).toList i (j+1):=by
 have:=m.ofy 1 λu hu t ht=>?_
 ·rw[<- nC hj]at this;simpa using this
 ·rw[<- nC hj,by0]at hu
  subst hu
  obtain⟨q,q1,q2⟩:=rJ (rk:=rk) ht
  rw[q2];exact h q q1
theorem MI.x1 {x y o:Array Keyed}(m:MI rk x.toList y.toList o.toList i j)(hi:i<x.size)(h:∀t,j+t<y.size->rk x[i]<=Kr rk y (j+t)):MI rk x.toList y.toList (o.push x[i]).toList (i+1) j:=by
 have:=m.ofx 1 λu hu t ht=>?_
 ·rw[<- nC hi]at this;simpa using this
 ·rw[<- nC hi,by0]at hu
  subst hu
  obtain⟨q,q1,q2⟩:=rJ (rk:=rk) ht
  rw[q2];exact h q q1
theorem MI.yk {x y o:Array Keyed}(m:MI rk x.toList y.toList o.toList i j)(k:Nat)(h:∀p t,p<k->j+p<y.size->i+t<x.size->Kr rk y (j+p)<=Kr rk x (i+t)):MI rk x.toList y.toList (o++y.extract j (j+k)).toList i (j+k):=by
 have:=m.ofy k λu hu t ht=>?_
 ·rw[<- ab3]at this;rw[bE8];exact this
 ·obtain⟨p,p1,p2,p3⟩:=ab2 (rk:=rk) hu
  obtain⟨q,q1,q2⟩:=rJ (rk:=rk) ht
  rw[q2,p3];exact h p q p1 p2 q1
theorem MI.xk {x y o:Array Keyed}(m:MI rk x.toList y.toList o.toList i j)(k:Nat)(h:∀p t,p<k->i+p<x.size->j+t<y.size->Kr rk x (i+p)<=Kr rk y (j+t)):MI rk x.toList y.toList (o++x.extract i (i+k)).toList (i+k) j:=by
 have:=m.ofx k λu hu t ht=>?_
 ·rw[<- ab3]at this;rw[bE8];exact this
 ·obtain⟨p,p1,p2,p3⟩:=ab2 (rk:=rk) hu
  obtain⟨q,q1,q2⟩:=rJ (rk:=rk) ht
  rw[q2,p3];exact h p q p1 p2 q1
theorem oS {key:Keyed}{xs:Array Keyed}{bs i:Nat}:cP rk false key xs bs i=decide (Kr rk xs (bs+i)<=rk key):=rfl
theorem oT {key:Keyed}{xs:Array Keyed}{bs i:Nat}:cP rk true key xs bs i=decide (Kr rk xs (bs+i)<rk key):=rfl
def GI (rk:Keyed->Int)(x y:Array Keyed)(lb:Nat)(st:SortSt)(c:LS)(st':SortSt):Prop:=Gq st st'/\∃o i j mg p q,c=(none,o,i,j,mg,p,q)/\MI rk x.toList y.toList o.toList i j/\i+1<x.size/\j<y.size/\lb<=i+j
def GQ (rk:Keyed->Int)(x y:Array Keyed)(lb:Nat)(st:SortSt)(c:LS)(st':SortSt):Prop:=Gq st st'/\((∃r o i j mg p q,c=(some r,o,i,j,mg,p,q)/\fH rk x y r)∨∃o i j mg p q,c=(none,o,i,j,mg,p,q)/\MI rk x.toList y.toList o.toList i j/\i+1<x.size/\j<y.size/\lb<=i+j)
def GR (rk:Keyed->Int)(x y:Array Keyed)(lb:Nat)(st:SortSt)(r:ForInStep LS)(st':SortSt):Prop:=match r with|.done c=>GQ rk x y lb st c st'|.yield c=>GI rk x y lb st c st'
theorem MI.done {x y o:Array Keyed}(m:MI rk x.toList y.toList o.toList i j)(hh:x.size<=i∨y.size<=j):fH rk x y (o++x.extract i x.size++y.extract j y.size):=by
 unfold fH;rw[bE8,bE8,uJ,uJ];exact m.fin (by simpa using hh)
theorem MI.last {x y o:Array Keyed}(m:MI rk x.toList y.toList o.toList i j)(x0:0<x.size)(hl:∀u∈y.toList,rk u<=rk x[x.size-1])(hh:i+1=x.size):fH rk x y (o++y.extract j y.size++x.extract i x.size):=by
 unfold fH;rw[bE8,bE8,uJ,uJ];refine m.lst λu hu t ht=>?_
 obtain⟨q,q1,q2⟩:=rJ (rk:=rk) ht
 have e:i+q=x.size-1:=by omega
 rw[q2,e,cT (by omega)];exact hl u hu
theorem ab4 {st0:SortSt}{x y o:Array Keyed}{mg p q lb:Nat}(x0:0<x.size)(hl:∀u∈y.toList,rk u<=rk x[x.size-1])(g:Gq st0 st)(m:MI rk x.toList y.toList o.toList i j)(hi:i+1<x.size)(hj:j<y.size)(hb:lb<=i+j)(hm:∀t,j+t<y.size->rk x[i]<=Kr rk y (j+t)):wpS (model prog w) A E s (uG x y o i j mg p q) (GR rk x y lb st0) st:=by
 unfold uG;have hi':i<x.size:=by omega
 have m':=m.x1 hi' hm;refine by6 (dN hi' ?_);by_cases he:(i+1+1==x.size)=true
 ·rw[if_pos he]
  have he:i+1+1=x.size:=by simpa using he
  exact bz4 ⟨g,.inl ⟨_,_,_,_,_,_,_,rfl,m'.last x0 hl he⟩⟩
 ·rw[if_neg he]
  have he:i+1+1≠x.size:=by simpa using he
  split
  ·exact bz4 ⟨g,.inr ⟨_,_,_,_,_,_,rfl,m',by omega,hj,by omega⟩⟩
  ·exact bz4 ⟨g,_,_,_,_,_,_,rfl,m',by omega,hj,by omega⟩
theorem ab5 (c:dC prog w A E s κ Ok rk){st0:SortSt}(hk:kindOf st0=κ){x y o:Array Keyed}{mg p q lb:Nat}(ox:cD Ok x)(oy:cD Ok y)(sx:Sd rk x.toList)(sy:Sd rk y.toList)(x0:0<x.size)(hl:∀u∈y.toList,rk u<=rk x[x.size-1])(g:Gq st0 st)(m:MI rk x.toList y.toList o.toList i j)(hi:i+1<x.size)(hj:j<y.size)(hb:lb<=i+j)(hm:∀t,i+t<x.size->rk y[j]<=Kr rk x (i+t)):wpS (model prog w) A E s (uH x y o i j mg p q) (GR rk x y lb st0) st:=by
 unfold uH;have hi':i<x.size:=by omega
 have m':=m.y1 hj hm;refine by6 (dN hj ?_);by_cases he:(j+1==y.size)=true
 ·rw[if_pos he]
  have he:j+1=y.size:=by simpa using he
  exact bz4 ⟨g,.inl ⟨_,_,_,_,_,_,_,rfl,m'.done (.inr (by omega))⟩⟩
 ·rw[if_neg he]
  have he:j+1≠y.size:=by simpa using he
  refine by6 (dN hi' (by6 (oQ c (g.kd.trans hk) (ox _ (bC4 hi')) oy (by omega) (by omega) (sy.up _ _ (by omega)) λk k1 k2 k3=>?_)));dsimp only;have ux:=sx.up 0 _ (bx9 x.size);have mk:=m'.yk k λp t hp _ ht=>by
   have a1:=k2 p hp;rw[oT,bz5]at a1;have a2:=ux i (i+t) (by omega) (by omega) ht;rw[cT hi']at a2;omega
  have km:∀t,j+1+k+t<y.size->rk x[i]<=Kr rk y (j+1+k+t):=λt ht=>by
   have a1:=k3 (k+t) (by omega) (by omega);rw[oT,bC5,<- Nat.add_assoc]at a1;omega
  by_cases hk0:k>0
  ·rw[if_pos hk0]
   by_cases hf:(j+1+k==y.size)=true
   ·rw[if_pos hf]
    have hf:j+1+k=y.size:=by simpa using hf
    exact bz4 ⟨g,.inl ⟨_,_,_,_,_,_,_,rfl,mk.done (.inr (by omega))⟩⟩
   ·rw[if_neg hf]
    have hf:j+1+k≠y.size:=by simpa using hf
    exact ab4 x0 hl g mk hi (by omega) (by omega) km
  ·rw[if_neg hk0]
   have e0:k=0:=by omega
   subst e0;exact ab4 x0 hl g m' hi (by omega) (by omega) km
theorem ab6 (c:dC prog w A E s κ Ok rk){st0:SortSt}(hk:kindOf st0=κ){x y o:Array Keyed}{mg p q lb:Nat}(ox:cD Ok x)(oy:cD Ok y)(sx:Sd rk x.toList)(sy:Sd rk y.toList)(x0:0<x.size)(hl:∀u∈y.toList,rk u<=rk x[x.size-1])(g:Gq st0 st)(m:MI rk x.toList y.toList o.toList i j)(hi:i+1<x.size)(hj:j<y.size)(hb:lb<=i+j) :
  wpS (model prog w) A E s (uI x y o i j mg p q) (GR rk x y lb st0) st:=by
 unfold uI;refine by6 (uK g λst4 q4=>by6 (dN hj (by6 (oQ c (q4.kd.trans hk) (oy _ (bC4 hj)) ox (by omega) (by omega) (sx.up _ _ (by omega)) λk k1 k2 k3=>?_))));dsimp only;have uy:=sy.up 0 _ (bx9 y.size);have mk:=m.xk k λp t hp _ ht=>by
  have a1:=k2 p hp;rw[oS,bz5]at a1;have a2:=uy j (j+t) (by omega) (by omega) ht;rw[cT hj]at a2;omega
 have km:∀t,i+k+t<x.size->rk y[j]<=Kr rk x (i+k+t):=λt ht=>by
  have a1:=k3 (k+t) (by omega) (by omega);rw[oS,bC5,<- Nat.add_assoc]at a1;omega
 by_cases hk0:k>0
 ·rw[if_pos hk0]
  by_cases he:(i+k+1==x.size)=true
  ·rw[if_pos he]
   exact bz4 ⟨q4,.inl ⟨_,_,_,_,_,_,_,rfl,mk.last x0 hl (by simpa using he)⟩⟩
  ·rw[if_neg he]
   have he:i+k+1≠x.size:=by simpa using he
   by_cases hf:(i+k==x.size)=true
   ·rw[if_pos hf]
    have hf:i+k=x.size:=by simpa using hf
    exact bz4 ⟨q4,.inl ⟨_,_,_,_,_,_,_,rfl,mk.done (.inl (by omega))⟩⟩
   ·rw[if_neg hf]
    have hf:i+k≠x.size:=by simpa using hf
    exact ab5 c hk ox oy sx sy x0 hl q4 mk (by omega) hj (by omega) km
 ·rw[if_neg hk0]
  have e0:k=0:=by omega
  subst e0;exact ab5 c hk ox oy sx sy x0 hl q4 m hi hj hb km
theorem aT1 (c:dC prog w A E s κ Ok rk){st0:SortSt}(hk:kindOf st0=κ){x y o:Array Keyed}{mg p q lb:Nat}(ox:cD Ok x)(oy:cD Ok y)(sx:Sd rk x.toList)(sy:Sd rk y.toList)(x0:0<x.size)(hl:∀u∈y.toList,rk u<=rk x[x.size-1])(g:Gq st0 st)(m:MI rk x.toList y.toList o.toList i j)(hi:i+1<x.size)(hj:j<y.size)(hb:lb<=i+j) :
  wpS (model prog w) A E s (A2 x y o i j mg p q) (GQ rk x y lb st0) st:=by
 unfold A2;refine bF6 (I:=λ_=>GI rk x y lb st0) ?_ ?_ ⟨g,o,i,j,_,p,q,rfl,m,hi,hj,hb⟩
 ·rintro t c3 st3 _ _ ⟨q3,o,i,j,mg,p,q,rfl,m,hi,hj,pr3⟩
  dsimp only;split
  ·exact bM6 (ab6 c hk ox oy sx sy x0 hl q3 m hi hj pr3) λr _ hr=>by cases r<;>exact hr
  ·exact bM6 (ab6 c hk ox oy sx sy x0 hl q3 m hi hj pr3) λr _ hr=>by cases r<;>exact hr
 ·rintro c3 st3 ⟨q3,o,i,j,mg,p,q,rfl,m,hi,hj,pr3⟩
  exact⟨q3,.inr ⟨_,_,_,_,_,_,rfl,m,hi,hj,pr3⟩⟩
theorem aT2 (c:dC prog w A E s κ Ok rk){st0:SortSt}(hk:kindOf st0=κ){x y o:Array Keyed}{mg:Nat}{Q:A1->SortSt->Prop}(ox:cD Ok x)(oy:cD Ok y)(sx:Sd rk x.toList)(sy:Sd rk y.toList)(x0:0<x.size)(hl:∀u∈y.toList,rk u<=rk x[x.size-1])(g:Gq st0 st)(m:MI rk x.toList y.toList o.toList i j)(hi:i+1<x.size)(hj:j<y.size)(h1:∀r o' i' j' p q st',Gq st0 st'->fH rk x y r->Q (some r,o',i',j',p,q) st')(h2:∀o' i' j' p q st',Gq st0 st'->MI rk x.toList y.toList o'.toList i' j'->i'+1<x.size->j'<y.size->i+j+1<=i'+j'->Q (none,o',i',j',p,q) st') :
  wpS (model prog w) A E s (A3 x y o i j mg) Q st:=by
 have ux:Up rk x 0 x.size:=sx.up 0 _ (bx9 _);have uy:Up rk y 0 y.size:=sy.up 0 _ (bx9 _);unfold A3;refine bF6 (I:=λt c st'=>Gq st0 st'/\∃o i' j' p q,c=(none,o,i',j',p,q)/\MI rk x.toList y.toList o.toList i' j'/\i'+1<x.size/\j'<y.size/\i+j+t<=i'+j') ?_ ?_ ⟨g,o,i,j,0,0,rfl,m,hi,hj,by omega⟩
 ·rintro t c2 st2 _ ht ⟨q2,o,i',j',p,q,rfl,m,hi,hj,pr2⟩
  dsimp only;have hi':i'<x.size:=by omega
  refine by6 (dN hj (by6 (dN hi' (by6 (c _ _ (oy _ (bC4 hj)) (ox _ (bC4 hi')) st2 _ (q2.kd.trans hk) ?_)))));by_cases hc:rk y[j']<rk x[i']
  ·rw[by9 hc]
   dsimp only;rw[if_pos rfl];have m':=m.y1 hj λt ht=>by
    have:=ux i' (i'+t) (by omega) (by omega) ht
    rw[cT hi']at this;omega
   refine by6 (dN hj ?_);by_cases he:(j'+1==y.size)=true
   ·rw[if_pos he]
    have he:j'+1=y.size:=by simpa using he
    exact bz4 (h1 _ _ _ _ _ _ _ q2 (m'.done (.inr (by omega))))
   ·rw[if_neg he]
    have he:j'+1≠y.size:=by simpa using he
    split
    ·exact bz4 (h2 _ _ _ _ _ _ q2 m' hi (by omega) (by omega))
    ·exact bz4 ⟨q2,_,_,_,_,_,rfl,m',hi,by omega,by omega⟩
  ·rw[by5 hc]
   dsimp only;rw[if_neg bz7];have m':=m.x1 hi' λt ht=>by
    have:=uy j' (j'+t) (by omega) (by omega) ht
    rw[cT hj]at this;omega
   refine by6 (dN hi' ?_);by_cases he:(i'+1+1==x.size)=true
   ·rw[if_pos he]
    exact bz4 (h1 _ _ _ _ _ _ _ q2 (m'.last x0 hl (by simpa using he)))
   ·rw[if_neg he]
    have he:i'+1+1≠x.size:=by simpa using he
    split
    ·exact bz4 (h2 _ _ _ _ _ _ q2 m' (by omega) hj (by omega))
    ·exact bz4 ⟨q2,_,_,_,_,_,rfl,m',by omega,hj,by omega⟩
 ·rintro c2 st2 ⟨q2,o,i',j',p,q,rfl,m,hi,hj,pr2⟩
  exact h2 _ _ _ _ _ _ q2 m hi hj (by omega)
theorem aT3 (c:dC prog w A E s κ Ok rk)(hk:kindOf st=κ){x y:Array Keyed}{Q:Array Keyed->SortSt->Prop}(ox:cD Ok x)(oy:cD Ok y)(sx:Sd rk x.toList)(sy:Sd rk y.toList)(x0:0<x.size)(y0:0<y.size)(hf:∀t∈x.toList,rk y[0]<=rk t)(hl:∀u∈y.toList,rk u<=rk x[x.size-1])(h:∀r st',Gq st st'->fH rk x y r->Q r st'):wpS (model prog w) A E s (A0 x y) Q st:=by
 rw[aT0];refine by6 (wpS_lift (bN1 ⟨rfl,by6 (dN y0 ?_)⟩));have m0:MI rk x.toList y.toList (#[y[0]]:Array Keyed).toList 0 1:=by
  have mm:MI rk x.toList y.toList [] 0 0:=⟨by simp,sx,sy⟩
  have:=mm.ofy 1 λu hu t ht=>?_
  ·rw[<- nC y0]at this;exact this
  ·rw[<- nC y0,by0]at hu
   subst hu;exact hf t ht
 by_cases e1:(1==y.size)=true
 ·rw[if_pos e1]
  have e1:1=y.size:=by simpa using e1
  exact bz4 (h _ st (Gq.refl st) (m0.done (.inr (by omega))))
 ·rw[if_neg e1]
  have e1:1≠y.size:=by simpa using e1
  by_cases e2:(0+1==x.size)=true
  ·rw[if_pos e2]
   exact bz4 (h _ st (Gq.refl st) (m0.last x0 hl (by simpa using e2)))
  ·rw[if_neg e2]
   have e2:0+1≠x.size:=by simpa using e2
   refine by6 (wpS_get ?_);unfold mlp
   refine by6 (bM6 (bF6
    (I:=λn c st'=>Gq st st'/\∃o i j mg,c=(none,o,i,j,mg)/\MI rk x.toList y.toList o.toList i j/\i+1<x.size/\j<y.size/\n+1<=i+j)
    (Q:=λc st'=>Gq st st'/\∃r o i j mg,c=(some r,o,i,j,mg)/\fH rk x y r) ?_ ?_ ⟨Gq.refl st,_,0,1,_,rfl,m0,by omega,by omega,by omega⟩) ?_)
   ·rintro n c1 st1 _ hn ⟨q1,o,i,j,mg,rfl,m,hi,hj,pr⟩
    dsimp only;refine by6 (aT2 c hk ox oy sx sy x0 hl q1 m hi hj (λr o' i' j' p q st' g md=>bz4 ⟨g,r,_,_,_,_,rfl,md⟩) λo' i' j' p q st' g m' hi' hj' pr'=>?_);refine by6 (wpS_lift (bN1 ⟨rfl,?_⟩));refine by6 (bM6 (aT1 c hk ox oy sx sy x0 hl g m' hi' hj' pr') ?_);rintro c3 st3 ⟨q3,⟨r,o,i3,j3,mg,p,q,rfl,md⟩|⟨o,i3,j3,mg,p,q,rfl,m,hi,hj,pr3⟩⟩
    ·exact bz4 ⟨q3,r,_,_,_,_,rfl,md⟩
    ·exact by6 (uK q3 λst4 q4=>bz4 ⟨q4,o,i3,j3,_,rfl,m,hi,hj,by omega⟩)
   ·rintro c1 st1 ⟨q1,o,i,j,mg,rfl,m,hi,hj,pr⟩
    exact absurd pr (by omega)
   ·rintro c1 st1 ⟨q1,r,o,i,j,mg,rfl,md⟩
    exact bz4 (h r _ q1 md)
end
def A4:Array Keyed->Array Keyed->StateT SortSt Sem (Array Keyed):=sortPriv% PySem.Builtin.mergeHi
abbrev LH:=Option (Array Keyed)×Nat×Nat×Array Keyed×Nat×Nat×Nat
abbrev A5:=Option (Array Keyed)×Nat×Nat×Array Keyed×Nat×Nat
abbrev LP:=Option (Array Keyed)×Nat×Nat×Array Keyed×Nat
def uL (x y o:Array Keyed)(i j mg p q:Nat):StateT SortSt Sem (ForInStep LH):=do
 let v <- elem' x (i-1)
 if (i-1==0)=true then pure (.done (some (x.extract 0 (i-1)++y.extract 0 j++(o.push v).reverse),i-1,j,o.push v,mg,p,q))
 else if (decide (p<7)&&decide (q<7))=true then pure (.done (none,i-1,j,o.push v,mg,p,q)) else pure (.yield (none,i-1,j,o.push v,mg,p,q))
def uM (x y o:Array Keyed)(i j mg p q:Nat):StateT SortSt Sem (ForInStep LH):=do
 let v <- elem' y (j-1)
 if (j-1==1)=true then pure (.done (some (y.extract 0 (j-1)++x.extract 0 i++(o.push v).reverse),i,j-1,o.push v,mg,p,q)) else do
  let u <- elem' x (i-1)
  match <- lX true u y 0 (j-1) (j-1-1) with
  |some z=>
   if j-1-z>0 then
    if (z==1)=true then pure (.done (some (y.extract 0 z++x.extract 0 i++(o.push v++(y.extract z (j-1)).reverse).reverse),i,z,o.push v++(y.extract z (j-1)).reverse,mg,p,j-1-z))
    else if (z==0)=true then pure (.done (some (x.extract 0 i++y.extract 0 z++(o.push v++(y.extract z (j-1)).reverse).reverse),i,z,o.push v++(y.extract z (j-1)).reverse,mg,p,j-1-z))
    else uL x y (o.push v++(y.extract z (j-1)).reverse) i z mg p (j-1-z)
   else uL x y (o.push v) i (j-1) mg p (j-1-z)
  |_=>pure (.done (some (x.extract 0 i++y.extract 0 (j-1)++(o.push v).reverse),i,j-1,o.push v,mg,p,q))
def uN (x y o:Array Keyed)(i j mg p q:Nat):StateT SortSt Sem (ForInStep LH):=do
 oR mg
 let v <- elem' y (j-1)
 match <- lX false v x 0 i (i-1) with
 |some z=>
  if i-z>0 then
   if (z==0)=true then pure (.done (some (x.extract 0 z++y.extract 0 j++(o++(x.extract z i).reverse).reverse),z,j,o++(x.extract z i).reverse,mg,i-z,q))
   else uM x y (o++(x.extract z i).reverse) z j mg (i-z) q
  else uM x y o i j mg (i-z) q
 |_=>pure (.done (some (x.extract 0 i++y.extract 0 j++o.reverse),i,j,o,mg,p,q))
def A6 (x y o:Array Keyed)(i j mg p q:Nat):StateT SortSt Sem LH:=forIn [0:x.size+y.size] ((none,i,j,o,mg,p,q):LH) λ_ r=>
 if r.2.2.2.2.1>1 then uN x y r.2.2.2.1 r.2.1 r.2.2.1 (r.2.2.2.2.1-1) r.2.2.2.2.2.1 r.2.2.2.2.2.2 else uN x y r.2.2.2.1 r.2.1 r.2.2.1 r.2.2.2.2.1 r.2.2.2.2.2.1 r.2.2.2.2.2.2
def A7 (x y o:Array Keyed)(i j mg:Nat):StateT SortSt Sem A5:=forIn [0:x.size+y.size] ((none,i,j,o,0,0):A5) λ_ r=>do
 let v <- elem' y (r.2.2.1-1)
 let u <- elem' x (r.2.1-1)
 match <- lt' v u with
 |some q=>
  if q=true then do
   let u <- elem' x (r.2.1-1)
   if (r.2.1-1==0)=true then pure (.done (some (x.extract 0 (r.2.1-1)++y.extract 0 r.2.2.1++(r.2.2.2.1.push u).reverse),r.2.1-1,r.2.2.1,r.2.2.2.1.push u,r.2.2.2.2.1+1,0))
   else if r.2.2.2.2.1+1 >= mg then pure (.done (none,r.2.1-1,r.2.2.1,r.2.2.2.1.push u,r.2.2.2.2.1+1,0)) else pure (.yield (none,r.2.1-1,r.2.2.1,r.2.2.2.1.push u,r.2.2.2.2.1+1,0))
  else do
   let v <- elem' y (r.2.2.1-1)
   if (r.2.2.1-1==1)=true then pure (.done (some (y.extract 0 (r.2.2.1-1)++x.extract 0 r.2.1++(r.2.2.2.1.push v).reverse),r.2.1,r.2.2.1-1,r.2.2.2.1.push v,0,r.2.2.2.2.2+1))
   else if r.2.2.2.2.2+1 >= mg then pure (.done (none,r.2.1,r.2.2.1-1,r.2.2.2.1.push v,0,r.2.2.2.2.2+1)) else pure (.yield (none,r.2.1,r.2.2.1-1,r.2.2.2.1.push v,0,r.2.2.2.2.2+1))
 |_=>pure (.done (some (x.extract 0 r.2.1++y.extract 0 r.2.2.1++r.2.2.2.1.reverse),r.2.1,r.2.2.1,r.2.2.2.1,r.2.2.2.2.1,r.2.2.2.2.2))
def hml (x y o:Array Keyed)(i j mg:Nat):StateT SortSt Sem LP:=forIn [0:x.size+y.size] ((none,i,j,o,mg):LP) λ_ r=>do
 let u <- A7 x y r.2.2.2.1 r.2.1 r.2.2.1 r.2.2.2.2
 match u.1 with
 |some z=>pure (.done (some z,u.2.1,u.2.2.1,u.2.2.2.1,r.2.2.2.2))
 |none=>do
  liftM (rule "list.sort.gallop")
  let v <- A6 x y u.2.2.2.1 u.2.1 u.2.2.1 (r.2.2.2.2+1) u.2.2.2.2.1 u.2.2.2.2.2
  match v.1 with
  |some z=>pure (.done (some z,v.2.1,v.2.2.1,v.2.2.2.1,v.2.2.2.2.1))
  |none=>do
   oR (v.2.2.2.2.1+1)
   pure (.yield (none,v.2.1,v.2.2.1,v.2.2.2.1,v.2.2.2.2.1+1))
theorem aT4 (x y:Array Keyed):A4 x y=(do
 liftM (rule "list.sort.merge-hi")
 let v <- elem' x (x.size-1)
 if (x.size-1==0)=true then pure (x.extract 0 (x.size-1)++y.extract 0 y.size++(#[v]:Array Keyed).reverse)
 else if (y.size==1)=true then pure (y.extract 0 y.size++x.extract 0 (x.size-1)++(#[v]:Array Keyed).reverse)
 else do
  let z <- get
  let r <- hml x y #[v] (x.size-1) y.size (gallopOf z)
  match r.1 with
  |some z=>pure z
  |none=>unsupported "internal:list.sort.merge-bound"):=by kernel_rfl
structure MH (rk:Keyed->Int)(xs ys o:List Keyed)(i j:Nat):Prop where
 pm:o.Perm (xs.drop i++ys.drop j)
 sx:Sd rk (xs.take i++o)
 sy:Sd rk (ys.take j++o)
variable {rk:Keyed→Int}{xs ys o:List Keyed}{i j:Nat}
theorem Sd.insR {o a b d:List Keyed}(h1:Sd rk (a++o))(h2:Sd rk ((d++b)++o))(h:∀t∈a,∀u∈b,rk t<=rk u):Sd rk (a++(b++o)):=by
 unfold Sd at *
 obtain⟨p1,p2,p3⟩:=bD2.mp h1
 obtain⟨q1,q2,q3⟩:=bD2.mp h2
 obtain⟨r1,r2,r3⟩:=bD2.mp q1
 refine bD2.mpr ⟨p1,bD2.mpr ⟨r2,p2,λu hu t ht=>q3 u (bB9 _ hu) t ht⟩,λu hu t ht=>?_⟩;rcases bB3.mp ht with z|z
 ·exact h u hu t z
 ·exact p3 u hu t z
theorem uO (l:List Keyed){z j:Nat}(h:z<=j):l.take z++(l.take j).drop z=l.take j:=by
 have e:l.take z=(l.take j).take z:=by rw[List.take_take,Nat.min_eq_left h]
 rw[e];exact bA7 z _
theorem A8 (l:List Keyed){z j:Nat}(h:z<=j):(l.take j).drop z++l.drop j=l.drop z:=by
 rw[bN4,show l.drop j=(l.drop z).drop (j-z) by rw[List.drop_drop,Nat.add_sub_cancel' h]];exact bA7 _ _
theorem MH.ofy (m:MH rk xs ys o i j){z:Nat}(hz:z<=j)(h:∀t∈xs.take i,∀u∈(ys.take j).drop z,rk t<=rk u):MH rk xs ys ((ys.take j).drop z++o) i z:=by
 refine⟨?_,Sd.insR m.sx (d:=ys.take z) (by rw[uO _ hz];exact m.sy) h,by rw[<- bA2,uO _ hz];exact m.sy⟩;rw[<- A8 ys hz];refine (m.pm.append_left _).trans ?_;rw[<- bA2,<- bA2];exact (bL3).append_right _
theorem MH.ofx (m:MH rk xs ys o i j){z:Nat}(hz:z<=i)(h:∀t∈ys.take j,∀u∈(xs.take i).drop z,rk t<=rk u):MH rk xs ys ((xs.take i).drop z++o) z j:=by
 refine⟨?_,by rw[<- bA2,uO _ hz];exact m.sx,Sd.insR m.sy (d:=xs.take z) (by rw[uO _ hz];exact m.sx) h⟩;rw[<- A8 xs hz,bA2];exact m.pm.append_left _
theorem MH.fin (m:MH rk xs ys o i j)(h:i=0∨j=0):(xs.take i++ys.take j++o).Perm (xs++ys)/\Sd rk (xs.take i++ys.take j++o):=by
 refine⟨?_,?_⟩
 ·have e1:xs=xs.take i++xs.drop i:=(bA7 i xs).symm
  have e2:ys=ys.take j++ys.drop j:=(bA7 j ys).symm
  conv=>rhs;rw[e1,e2]
  rw[bA2,bA2];refine List.Perm.append_left _ ((m.pm.append_left _).trans ?_);rw[<- bA2,<- bA2];exact (bL3).append_right _
 ·rcases h with h|h
  ·subst h;simpa using m.sy
  ·subst h;simpa using m.sx
theorem MH.fst (m:MH rk xs ys o i j)(h:∀t∈ys.take j,∀u∈xs,rk t<=rk u):(ys.take j++xs.take i++o).Perm (xs++ys)/\Sd rk (ys.take j++xs.take i++o):=by
 have m2:=m.ofx (bB2 i) λt ht u hu=>h t ht u (bM7 (List.mem_of_mem_drop hu))
 have f:=m2.fin (.inl rfl);simpa using f
theorem rK {x:Array Keyed}{i:Nat}{u:Keyed}(h:u∈x.toList.take i):∃t,t<i/\t<x.size/\rk u=Kr rk x t:=by
 obtain⟨t,ht,e⟩:=List.getElem_of_mem h
 have h1:t<i/\t<x.size:=by simp at ht;omega
 refine⟨t,h1.1,h1.2,?_⟩;rw[cT h1.2,<- e];simp
theorem rL {x:Array Keyed}{z i:Nat}{u:Keyed}(h:u∈(x.toList.take i).drop z):∃t,z<=t/\t<i/\t<x.size/\rk u=Kr rk x t:=by
 obtain⟨t,ht,e⟩:=List.getElem_of_mem h
 have h1:z+t<i/\z+t<x.size:=by simp at ht;omega
 refine⟨z+t,by omega,h1.1,h1.2,?_⟩;rw[cT h1.2,<- e];simp
theorem nD (x:Array Keyed)(z i:Nat):(x.extract z i).toList=(x.toList.take i).drop z:=by
 rw[bN4];simp[List.extract]
theorem uP (x:Array Keyed)(i:Nat):(x.extract 0 i).toList=x.toList.take i:=by
 simp[List.extract]
theorem rM {x:Array Keyed}{i:Nat}(h:i<x.size):[x[i]]=(x.toList.take (i+1)).drop i:=by
 rw[bN4,nC h,show i+1-i=1 by omega]
section
variable {κ:SortKind}{st:SortSt}{prog:ay}{w:ba}{A:az}{E:av→aw→Prop}{s:aw}{Ok:Keyed→Prop}
theorem MH.y1 {x y o:Array Keyed}(m:MH rk x.toList y.toList o.toList.reverse i (j+1))(hj:j<y.size)(h:∀t,t<i->t<x.size->Kr rk x t<=rk y[j]):MH rk x.toList y.toList (o.push y[j]).toList.reverse i j:=by
 have:=m.ofy (bM0 j) λt ht u hu=>?_
 ·rw[<- rM hj]at this;simpa using this
 ·rw[<- rM hj,by0]at hu
  subst hu
  obtain⟨q,q1,q2,q3⟩:=rK (rk:=rk) ht
  rw[q3];exact h q q1 q2
theorem MH.x1 {x y o:Array Keyed}(m:MH rk x.toList y.toList o.toList.reverse (i+1) j)(hi:i<x.size)(h:∀t,t<j->t<y.size->Kr rk y t<=rk x[i]):MH rk x.toList y.toList (o.push x[i]).toList.reverse i j:=by
 have:=m.ofx (bM0 i) λt ht u hu=>?_
 ·rw[<- rM hi]at this;simpa using this
 ·rw[<- rM hi,by0]at hu
  subst hu
  obtain⟨q,q1,q2,q3⟩:=rK (rk:=rk) ht
  rw[q3];exact h q q1 q2
theorem MH.yk {x y o:Array Keyed}(m:MH rk x.toList y.toList o.toList.reverse i j){z:Nat}(hz:z<=j)(h:∀t p,t<i->t<x.size->z<=p->p<j->p<y.size->Kr rk x t<=Kr rk y p):MH rk x.toList y.toList (o++(y.extract z j).reverse).toList.reverse i z:=by
 have:=m.ofy hz λt ht u hu=>?_
 ·rw[<- nD]at this;simpa using this
 ·obtain⟨q,q1,q2,q3⟩:=rK (rk:=rk) ht
  obtain⟨p,p1,p2,p3,p4⟩:=rL (rk:=rk) hu
  rw[q3,p4];exact h q p q1 q2 p1 p2 p3
theorem MH.xk {x y o:Array Keyed}(m:MH rk x.toList y.toList o.toList.reverse i j){z:Nat}(hz:z<=i)(h:∀t p,t<j->t<y.size->z<=p->p<i->p<x.size->Kr rk y t<=Kr rk x p):MH rk x.toList y.toList (o++(x.extract z i).reverse).toList.reverse z j:=by
 have:=m.ofx hz λt ht u hu=>?_
 ·rw[<- nD]at this;simpa using this
 ·obtain⟨q,q1,q2,q3⟩:=rK (rk:=rk) ht
  obtain⟨p,p1,p2,p3,p4⟩:=rL (rk:=rk) hu
  rw[q3,p4];exact h q p q1 q2 p1 p2 p3
theorem MH.done {x y o:Array Keyed}(m:MH rk x.toList y.toList o.toList.reverse i j)(hh:i=0∨j=0):fH rk x y (x.extract 0 i++y.extract 0 j++o.reverse):=by
 unfold fH;rw[bE8,bE8,uP,uP,Array.toList_reverse];exact m.fin hh
theorem MH.frst {x y o:Array Keyed}(m:MH rk x.toList y.toList o.toList.reverse i j)(y0:0<y.size)(hf:∀t∈x.toList,rk y[0]<=rk t)(hh:j=1):fH rk x y (y.extract 0 j++x.extract 0 i++o.reverse):=by
 unfold fH;rw[bE8,bE8,uP,uP,Array.toList_reverse];refine m.fst λt ht u hu=>?_
 subst hh
 obtain⟨q,q1,q2,q3⟩:=rK (rk:=rk) ht
 have e:q=0:=by omega
 subst e;rw[q3,cT y0];exact hf u hu
structure HB (rk:Keyed->Int)(x y:Array Keyed)(lb i j:Nat)(o:Array Keyed):Prop where
 m:MH rk x.toList y.toList o.toList.reverse i j
 i0:0<i
 i1:i<x.size
 j0:1<j
 j1:j<=y.size
 pr:i+j+lb<=x.size+y.size
def HI (rk:Keyed->Int)(x y:Array Keyed)(lb:Nat)(st:SortSt)(c:LH)(st':SortSt):Prop:=Gq st st'/\∃i j o mg p q,c=(none,i,j,o,mg,p,q)/\HB rk x y lb i j o
def HQ (rk:Keyed->Int)(x y:Array Keyed)(lb:Nat)(st:SortSt)(c:LH)(st':SortSt):Prop:=Gq st st'/\((∃r i j o mg p q,c=(some r,i,j,o,mg,p,q)/\fH rk x y r)∨∃i j o mg p q,c=(none,i,j,o,mg,p,q)/\HB rk x y lb i j o)
def HR (rk:Keyed->Int)(x y:Array Keyed)(lb:Nat)(st:SortSt)(r:ForInStep LH)(st':SortSt):Prop:=match r with|.done c=>HQ rk x y lb st c st'|.yield c=>HI rk x y lb st c st'
theorem ab7 {st0:SortSt}{x y o:Array Keyed}{i j mg p q lb:Nat}(g:Gq st0 st)(b:HB rk x y lb (i+1) j o)(hm:∀(hi:i<x.size) t,t<j->t<y.size->Kr rk y t<=rk x[i]):wpS (model prog w) A E s (uL x y o (i+1) j mg p q) (HR rk x y lb st0) st:=by
 unfold uL
 obtain⟨m,i0,i1,j0,j1,pr⟩:=b
 have hi':i<x.size:=by omega
 have m':=m.x1 hi' (hm hi');simp only[Nat.add_sub_cancel];refine by6 (dN hi' ?_);by_cases he:(i==0)=true
 ·rw[if_pos he]
  have he:i=0:=by simpa using he
  exact bz4 ⟨g,.inl ⟨_,_,_,_,_,_,_,rfl,m'.done (.inl he)⟩⟩
 ·rw[if_neg he]
  have he:i≠0:=by simpa using he
  split
  ·exact bz4 ⟨g,.inr ⟨_,_,_,_,_,_,rfl,m',by omega,by omega,j0,j1,by omega⟩⟩
  ·exact bz4 ⟨g,_,_,_,_,_,_,rfl,m',by omega,by omega,j0,j1,by omega⟩
theorem ab8 (c:dC prog w A E s κ Ok rk){st0:SortSt}(hk:kindOf st0=κ){x y o:Array Keyed}{i j mg p q lb:Nat}(ox:cD Ok x)(oy:cD Ok y)(sx:Sd rk x.toList)(sy:Sd rk y.toList)(y0:0<y.size)(hf:∀t∈x.toList,rk y[0]<=rk t)(g:Gq st0 st)(b:HB rk x y lb (i+1) (j+1) o)(hm:∀(hj:j<y.size) t,t<i+1->t<x.size->Kr rk x t<=rk y[j]):wpS (model prog w) A E s (uM x y o (i+1) (j+1) mg p q) (HR rk x y lb st0) st:=by
 unfold uM
 obtain⟨m,i0,i1,j0,j1,pr⟩:=b
 have hi':i<x.size:=by omega
 have hj:j<y.size:=by omega
 have m':=m.y1 hj (hm hj);simp only[Nat.add_sub_cancel];refine by6 (dN hj ?_);by_cases he:(j==1)=true
 ·rw[if_pos he]
  have he:j=1:=by simpa using he
  exact bz4 ⟨g,.inl ⟨_,_,_,_,_,_,_,rfl,m'.frst y0 hf he⟩⟩
 ·rw[if_neg he]
  have he:j≠1:=by simpa using he
  refine by6 (dN hi' (by6 (oQ c (g.kd.trans hk) (ox _ (bC4 hi')) oy (by omega) (by omega) (sy.up _ _ (by omega)) λz k1 k2 k3=>?_)));dsimp only;have ux:=sx.up 0 _ (bx9 x.size);have mk:=m'.yk k1 λt p ht ht' hp hp' _=>by
   have a1:=k3 p hp hp';rw[oT,bC5,Nat.zero_add]at a1;have a2:=ux t i (by omega) (by omega) hi';rw[cT (i:=i) hi']at a2;omega
  have km:∀(hi:i<x.size) t,t<z->t<y.size->Kr rk y t<=rk x[i]:=λ_ t ht _=>by
   have a1:=k2 t ht;rw[oT,bz5,Nat.zero_add]at a1;omega
  by_cases hk0:j-z>0
  ·rw[if_pos hk0]
   by_cases h1:(z==1)=true
   ·rw[if_pos h1]
    have h1:z=1:=by simpa using h1
    exact bz4 ⟨g,.inl ⟨_,_,_,_,_,_,_,rfl,mk.frst y0 hf h1⟩⟩
   ·rw[if_neg h1]
    have h1:z≠1:=by simpa using h1
    by_cases h0:(z==0)=true
    ·rw[if_pos h0]
     have h0:z=0:=by simpa using h0
     exact bz4 ⟨g,.inl ⟨_,_,_,_,_,_,_,rfl,mk.done (.inr h0)⟩⟩
    ·rw[if_neg h0]
     have h0:z≠0:=by simpa using h0
     exact ab7 g ⟨mk,by omega,i1,by omega,by omega,by omega⟩ km
  ·rw[if_neg hk0]
   have e0:z=j:=by omega
   subst e0;exact ab7 g ⟨m',by omega,i1,by omega,by omega,by omega⟩ km
theorem ab9 (c:dC prog w A E s κ Ok rk){st0:SortSt}(hk:kindOf st0=κ){x y o:Array Keyed}{i j mg p q lb:Nat}(ox:cD Ok x)(oy:cD Ok y)(sx:Sd rk x.toList)(sy:Sd rk y.toList)(y0:0<y.size)(hf:∀t∈x.toList,rk y[0]<=rk t)(g:Gq st0 st)(b:HB rk x y lb i (j+1) o) :
  wpS (model prog w) A E s (uN x y o i (j+1) mg p q) (HR rk x y lb st0) st:=by
 unfold uN
 obtain⟨m,i0,i1,j0,j1,pr⟩:=b
 have hj:j<y.size:=by omega
 simp only[Nat.add_sub_cancel];refine by6 (uK g λst4 q4=>by6 (dN hj (by6 (oQ c (q4.kd.trans hk) (oy _ (bC4 hj)) ox (by omega) (by omega) (sx.up _ _ (by omega)) λz k1 k2 k3=>?_))));dsimp only;have uy:=sy.up 0 _ (bx9 y.size);have mk:=m.xk k1 λt p ht ht' hp hp' _=>by
  have a1:=k3 p hp hp';rw[oS,bC5,Nat.zero_add]at a1;have a2:=uy t j (by omega) (by omega) hj;rw[cT (i:=j) hj]at a2;omega
 have km:∀(hj:j<y.size) t,t<z->t<x.size->Kr rk x t<=rk y[j]:=λ_ t ht _=>by
  have a1:=k2 t ht;rw[oS,bz5,Nat.zero_add]at a1;exact a1
 by_cases hk0:i-z>0
 ·rw[if_pos hk0]
  by_cases he:(z==0)=true
  ·rw[if_pos he]
   exact bz4 ⟨q4,.inl ⟨_,_,_,_,_,_,_,rfl,mk.done (.inl (by simpa using he))⟩⟩
  ·rw[if_neg he]
   have he:z≠0:=by simpa using he
   obtain⟨z2,rfl⟩:∃z2,z=z2+1:=⟨z-1,by omega⟩
   exact ab8 c hk ox oy sx sy y0 hf q4 ⟨mk,by omega,by omega,j0,j1,by omega⟩ km
 ·rw[if_neg hk0]
  have e0:z=i:=by omega
  subst e0
  obtain⟨z2,rfl⟩:∃z2,z=z2+1:=⟨z-1,by omega⟩
  exact ab8 c hk ox oy sx sy y0 hf q4 ⟨m,i0,i1,j0,j1,pr⟩ km
theorem aT5 (c:dC prog w A E s κ Ok rk){st0:SortSt}(hk:kindOf st0=κ){x y o:Array Keyed}{i j mg p q lb:Nat}(ox:cD Ok x)(oy:cD Ok y)(sx:Sd rk x.toList)(sy:Sd rk y.toList)(y0:0<y.size)(hf:∀t∈x.toList,rk y[0]<=rk t)(g:Gq st0 st)(b:HB rk x y lb i j o) :
  wpS (model prog w) A E s (A6 x y o i j mg p q) (HQ rk x y lb st0) st:=by
 unfold A6;refine bF6 (I:=λ_=>HI rk x y lb st0) ?_ ?_ ⟨g,i,j,o,_,p,q,rfl,b⟩
 ·rintro t c3 st3 _ _ ⟨q3,i,j,o,mg,p,q,rfl,b3⟩
  obtain⟨j3,rfl⟩:∃j3,j=j3+1:=⟨j-1,by have:=b3.j0;omega⟩
  dsimp only;split
  ·exact bM6 (ab9 c hk ox oy sx sy y0 hf q3 b3) λr _ hr=>by cases r<;>exact hr
  ·exact bM6 (ab9 c hk ox oy sx sy y0 hf q3 b3) λr _ hr=>by cases r<;>exact hr
 ·rintro c3 st3 ⟨q3,i,j,o,mg,p,q,rfl,b3⟩
  exact⟨q3,.inr ⟨_,_,_,_,_,_,rfl,b3⟩⟩
theorem aT6 (c:dC prog w A E s κ Ok rk){st0:SortSt}(hk:kindOf st0=κ){x y o:Array Keyed}{i j mg n:Nat}{Q:A5->SortSt->Prop}(ox:cD Ok x)(oy:cD Ok y)(sx:Sd rk x.toList)(sy:Sd rk y.toList)(y0:0<y.size)(hf:∀t∈x.toList,rk y[0]<=rk t)(g:Gq st0 st)(b:HB rk x y n i j o)(h1:∀r i' j' o' p q st',Gq st0 st'->fH rk x y r->Q (some r,i',j',o',p,q) st')(h2:∀i' j' o' p q st',Gq st0 st'->HB rk x y (n+1) i' j' o'->Q (none,i',j',o',p,q) st') :
  wpS (model prog w) A E s (A7 x y o i j mg) Q st:=by
 have ux:Up rk x 0 x.size:=sx.up 0 _ (bx9 _);have uy:Up rk y 0 y.size:=sy.up 0 _ (bx9 _);unfold A7;refine bF6 (I:=λt c st'=>Gq st0 st'/\∃i j o p q,c=(none,i,j,o,p,q)/\HB rk x y (n+t) i j o) ?_ ?_ ⟨g,i,j,o,0,0,rfl,b⟩
 ·rintro t c2 st2 _ ht ⟨q2,i',j',o,p,q,rfl,m,i0,i1,j0,j1,pr⟩
  obtain⟨i2,rfl⟩:∃i2,i'=i2+1:=⟨i'-1,by omega⟩
  obtain⟨j2,rfl⟩:∃j2,j'=j2+1:=⟨j'-1,by omega⟩
  simp only[Nat.add_sub_cancel];have hi:i2<x.size:=by omega
  have hj:j2<y.size:=by omega
  refine by6 (dN hj (by6 (dN hi (by6 (c _ _ (oy _ (bC4 hj)) (ox _ (bC4 hi)) st2 _ (q2.kd.trans hk) ?_)))));by_cases hc:rk y[j2]<rk x[i2]
  ·rw[by9 hc]
   dsimp only;rw[if_pos rfl];have m':=m.x1 hi λt ht _=>by
    have:=uy t j2 (by omega) (by omega) hj
    rw[cT hj]at this;omega
   refine by6 (dN hi ?_);by_cases he:(i2==0)=true
   ·rw[if_pos he]
    exact bz4 (h1 _ _ _ _ _ _ _ q2 (m'.done (.inl (by simpa using he))))
   ·rw[if_neg he]
    have he:i2≠0:=by simpa using he
    split
    ·exact bz4 (h2 _ _ _ _ _ _ q2 ⟨m',by omega,by omega,j0,j1,by omega⟩)
    ·exact bz4 ⟨q2,_,_,_,_,_,rfl,m',by omega,by omega,j0,j1,by omega⟩
  ·rw[by5 hc]
   dsimp only;rw[if_neg bz7];have m':=m.y1 hj λt ht _=>by
    have:=ux t i2 (by omega) (by omega) hi
    rw[cT hi]at this;omega
   refine by6 (dN hj ?_);by_cases he:(j2==1)=true
   ·rw[if_pos he]
    exact bz4 (h1 _ _ _ _ _ _ _ q2 (m'.frst y0 hf (by simpa using he)))
   ·rw[if_neg he]
    have he:j2≠1:=by simpa using he
    split
    ·exact bz4 (h2 _ _ _ _ _ _ q2 ⟨m',i0,i1,by omega,by omega,by omega⟩)
    ·exact bz4 ⟨q2,_,_,_,_,_,rfl,m',i0,i1,by omega,by omega,by omega⟩
 ·rintro c2 st2 ⟨q2,i',j',o,p,q,rfl,m,i0,i1,j0,j1,pr⟩
  exact h2 _ _ _ _ _ _ q2 ⟨m,i0,i1,j0,j1,by omega⟩
theorem aT7 (c:dC prog w A E s κ Ok rk)(hk:kindOf st=κ){x y:Array Keyed}{Q:Array Keyed->SortSt->Prop}(ox:cD Ok x)(oy:cD Ok y)(sx:Sd rk x.toList)(sy:Sd rk y.toList)(x0:0<x.size)(y0:0<y.size)(hf:∀t∈x.toList,rk y[0]<=rk t)(hl:∀u∈y.toList,rk u<=rk x[x.size-1])(h:∀r st',Gq st st'->fH rk x y r->Q r st'):wpS (model prog w) A E s (A4 x y) Q st:=by
 rw[aT4];refine by6 (wpS_lift (bN1 ⟨rfl,by6 (dN (by omega:x.size-1<x.size) ?_)⟩));have m0:MH rk x.toList y.toList (#[x[x.size-1]]:Array Keyed).toList.reverse (x.size-1) y.size:=by
  have mm:MH rk x.toList y.toList [] x.size y.size:=⟨by simp,by rw[bH2 (by simp),bA0];exact sx,by rw[bH2 (by simp),bA0];exact sy⟩;have e:=rM (x:=x) (i:=x.size-1) (by omega);rw[show x.size-1+1=x.size by omega]at e
  have:=mm.ofx (Nat.sub_le x.size 1) λt ht u hu=>?_
  ·rw[<- e]at this;simpa using this
  ·rw[<- e,by0]at hu
   subst hu;exact hl t (bM7 ht)
 by_cases e1:(x.size-1==0)=true
 ·rw[if_pos e1]
  exact bz4 (h _ st (Gq.refl st) (m0.done (.inl (by simpa using e1))))
 ·rw[if_neg e1]
  have e1:x.size-1≠0:=by simpa using e1
  by_cases e2:(y.size==1)=true
  ·rw[if_pos e2]
   exact bz4 (h _ st (Gq.refl st) (m0.frst y0 hf (by simpa using e2)))
  ·rw[if_neg e2]
   have e2:y.size≠1:=by simpa using e2
   refine by6 (wpS_get ?_);unfold hml
   refine by6 (bM6 (bF6
    (I:=λn c st'=>Gq st st'/\∃i j o mg,c=(none,i,j,o,mg)/\HB rk x y (n+1) i j o)
    (Q:=λc st'=>Gq st st'/\∃r i j o mg,c=(some r,i,j,o,mg)/\fH rk x y r) ?_ ?_ ⟨Gq.refl st,_,_,_,_,rfl,m0,by omega,by omega,by omega,by omega,by omega⟩) ?_)
   ·rintro n c1 st1 _ hn ⟨q1,i,j,o,mg,rfl,b⟩
    dsimp only;refine by6 (aT6 c hk ox oy sx sy y0 hf q1 b (λr o' i' j' p q st' g md=>bz4 ⟨g,r,_,_,_,_,rfl,md⟩) λi' j' o' p q st' g b'=>?_);refine by6 (wpS_lift (bN1 ⟨rfl,?_⟩));refine by6 (bM6 (aT5 c hk ox oy sx sy y0 hf g b') ?_);rintro c3 st3 ⟨q3,⟨r,i3,j3,o,mg,p,q,rfl,md⟩|⟨i3,j3,o,mg,p,q,rfl,b3⟩⟩
    ·exact bz4 ⟨q3,r,_,_,_,_,rfl,md⟩
    ·exact by6 (uK q3 λst4 q4=>bz4 ⟨q4,i3,j3,o,_,rfl,b3⟩)
   ·rintro c1 st1 ⟨q1,i,j,o,mg,rfl,b⟩
    have:=b.pr
    exact absurd this (by omega)
   ·rintro c1 st1 ⟨q1,r,i,j,o,mg,rfl,md⟩
    exact bz4 (h r _ q1 md)
end
theorem aT8 (i:Nat):mergeAt' i=(do
 let z <- get
 let (some (sa,na,pw),some (sb,nb,_)):=((pendingOf z)[i]?,(pendingOf z)[i+1]?)|unsupported "internal:list.sort.pending"
 set (SortSt.mk' (kindOf z) (arrOf z) (((pendingOf z).setIfInBounds i (sa,na+nb,pw)).eraseIdxIfInBounds (i+1)) (gallopOf z) (failedOf z))
 let some k <- lX false (<- elem' (arrOf z) sb) (arrOf z) sa na 0|return false
 let (sa,na):=(sa+k,na-k)
 if na==0 then return true
 let some nb <- lX true (<- elem' (arrOf z) (sa+na-1)) (arrOf z) sb nb (nb-1)|return false
 if nb==0 then return true
 let x:=(arrOf z).extract sa sb
 let y:=(arrOf z).extract sb (sb+nb)
 let m <- if na<=nb then A0 x y else A4 x y
 modify λz=>setArr z (m.toList.zipIdx.foldl (λa (p,j)=>a.setIfInBounds (sa+j) p) (arrOf z))
 return (failedOf (<- get)).isNone):=rfl
variable {rk:Keyed→Int}
theorem aT9 {σ:Type}{M:Model}{A:az}{E:av->aw->Prop}{s:aw}{a b:σ}{Q:PUnit->σ->Prop}(h:Q ⟨⟩ a):wpS M A E s (set a:StateT σ Sem PUnit) Q b:=by
 unfold wpS;rw[StateT.run_set];exact by3 ⟨rfl,h⟩
theorem ac0 (o:Nat):∀(m:List Keyed) (n:Nat) (a:Array Keyed) (t:Nat),o+n+m.length<=a.size->
  ((m.zipIdx n).foldl (λa (p,j)=>a.setIfInBounds (o+j) p) a)[t]? = if o+n<=t/\t<o+n+m.length then m[t-(o+n)]? else a[t]?
 |[],n,a,t,_=>by
  show a[t]? = _;rw[if_neg (λz=>Nat.not_lt_of_ge z.1 z.2)]
 |p::m,n,a,t,h=>by
  rw[List.zipIdx_cons,List.foldl_cons];have h':o+(n+1)+m.length<=(a.setIfInBounds (o+n) p).size:=by rw[Array.size_setIfInBounds];simp at h;omega
  have ih:=ac0 o m (n+1) (a.setIfInBounds (o+n) p) t h';refine ih.trans ?_;have hs:o+n<a.size:=by simp at h;omega
  rw[Array.getElem?_setIfInBounds];by_cases e:o+n=t
  ·subst e
   rw[if_neg (by omega),if_pos rfl,if_pos hs,if_pos (by simp),Nat.sub_self];rfl
  ·rw[if_neg e]
   by_cases c:o+n<=t/\t<o+n+(p::m).length
   ·rw[if_pos c,if_pos (by simp at c;omega)]
    rw[show t-(o+n)=(t-(o+(n+1)))+1 by omega];rfl
   ·rw[if_neg c,if_neg (by simp at c ⊢;omega)]
theorem ac1 {a:Array Keyed}{lo hi:Nat}(u:Up rk a lo hi)(hh:hi<=a.size):Sd rk (a.extract lo hi).toList:=by
 unfold Sd;rw[bF4];intro i j hi' hj hij;have h2:lo+j<hi:=by simp at hj;omega
 have:=u (lo+i) (lo+j) (by omega) (by omega) h2
 rw[cT (by omega:lo+i<a.size),cT (by omega:lo+j<a.size)]at this;simpa using this
theorem ac2 {a:Array Keyed}{lo mid hi:Nat}(u:Up rk a lo mid)(v:Up rk a mid hi)(h0:lo<mid)(h1:mid<hi)(h:Kr rk a (mid-1)<=Kr rk a mid):Up rk a lo hi:=λi j hi' hij hj=>by
 rcases bD0 j mid with z|z
 ·exact u i j hi' hij z
 ·rcases bD0 i mid with y|y
  ·have a1:=u i (mid-1) hi' (by omega) (by omega)
   have a2:=v mid j (bx9 _) z hj;omega
  ·exact v i j y hij hj
theorem ac3 {a:Array Keyed}{lo hi t:Nat}(h:t<hi-lo)(hh:hi<=a.size):Kr rk (a.extract lo hi) t=Kr rk a (lo+t):=by
 refine nA ?_;rw[Array.getElem?_extract_of_lt (by omega)];exact (getElem?_pos a (lo+t) (by omega)).symm
section
variable {κ:SortKind}{a0:Array Keyed}{pd:Array (Nat×Nat×Nat)}{st:SortSt}{prog:ay}{w:ba}{A:az}{E:av→aw→Prop}{s:aw}{Ok:Keyed→Prop}
theorem aU0 {a m:Array Keyed}{p x e:Nat}(hpx:p<=x)(hxe:x<=e)(he:e<=a.size)(md:fH rk (a.extract p x) (a.extract x e) m) :
  let r:=m.toList.zipIdx.foldl (λa (q,j)=>a.setIfInBounds (p+j) q) a
  r.Perm a/\(∀t,(t<p∨e<=t)->Kr rk r t=Kr rk a t)/\(∀t t',p<=t->t<=t'->t'<e->Kr rk r t<=Kr rk r t')/\∀t,p<=t->t<e->∃t',p<=t'/\t'<e/\Kr rk r t=Kr rk a t':=by
 intro r;have ml:m.toList.length=e-p:=by
  rw[md.1.length_eq];simp;omega
 have g:∀t,r[t]? = if p<=t/\t<e then m[t-p]? else a[t]?:=λt=>by
  have:=ac0 p m.toList 0 a t (by omega)
  rw[show r=(m.toList.zipIdx 0).foldl (λa (q,j)=>a.setIfInBounds (p+j) q) a from rfl,this];simp only[Nat.add_zero,ml,show p+(e-p)=e by omega,bI7]
 have ex:(a.extract p x).toList++(a.extract x e).toList=(a.toList.take e).drop p:=by
  rw[nD,nD,bN4,bN4,bN4];rw[show x=p+(x-p) by omega,<- List.drop_drop,show p+(x-p)-p=x-p by omega,show e-(p+(x-p))=(e-p)-(x-p) by omega]
  have:=bA7 (x-p) ((a.toList.drop p).take (e-p))
  rw[List.take_take,bN4,Nat.min_eq_left (by omega)]at this;exact this
 have rl:r.toList=a.toList.take p++(m.toList++a.toList.drop e):=by
  apply List.ext_getElem?;intro t;rw[bI7,g];rcases bD0 t p with z|z
  ·rw[if_neg (by omega),bD7 (by simp;omega),List.getElem?_take_of_lt z,bI7]
  ·rw[bG9 (by simp;omega)]
   have lp:(a.toList.take p).length=p:=by simp;omega
   rw[lp];rcases bD0 t e with y|y
   ·rw[if_pos ⟨z,y⟩,bD7 (by omega),bI7]
   ·rw[if_neg (by omega),bG9 (by omega),ml,List.getElem?_drop,bI7]
    congr 1;omega
 have mp:m.toList.Perm ((a.toList.take e).drop p):=ex▸md.1;refine⟨?_,λt ht=>nA (by rw[g,if_neg (by omega)]),λt t' h1 h2 h3=>?_,λt h1 h2=>?_⟩
 ·refine Array.perm_iff_toList_perm.mpr ?_
  rw[rl]
  have:a.toList=a.toList.take p++((a.toList.take e).drop p++a.toList.drop e):=by
   rw[A8 _ (by omega:p<=e)];exact (bA7 p _).symm
  conv=>rhs;rw[this]
  exact (mp.append_right _).append_left _
 ·have e1:Kr rk r t=Kr rk m (t-p):=nA (by rw[g,if_pos (by omega)])
  have e2:Kr rk r t'=Kr rk m (t'-p):=nA (by rw[g,if_pos (by omega)]);rw[e1,e2];have ms:m.size=e-p:=by rw[<- ml];simp
  exact md.2.up 0 m.size (bx9 _) (t-p) (t'-p) (by omega) (by omega) (by omega)
 ·have e1:Kr rk r t=Kr rk m (t-p):=nA (by rw[g,if_pos (by omega)])
  have ms:m.size=e-p:=by rw[<- ml];simp
  have hm:t-p<m.size:=by omega
  have mm:m[t-p]∈(a.toList.take e).drop p:=mp.mem_iff.mp (by simp)
  obtain⟨t',q1,q2,q3,q4⟩:=rL (rk:=rk) mm
  exact⟨t',q1,q2,by rw[e1,cT hm];exact q4⟩
theorem aU1 (c:dC prog w A E s κ Ok rk)(o:cD Ok a0)(b:SB κ a0 pd st){i sa na pw sb nb pw':Nat}{Q:Bool->SortSt->Prop}(e1:pd[i]? = some (sa,na,pw))(e2:pd[i+1]? = some (sb,nb,pw'))(hs:sb=sa+na)(n0:0<na)(m0:0<nb)(hz:sb+nb<=a0.size)(u:Up rk (arrOf st) sa sb)(v:Up rk (arrOf st) sb (sb+nb))(h:∀st',SB κ a0 ((pd.setIfInBounds i (sa,na+nb,pw)).eraseIdxIfInBounds (i+1)) st'->Up rk (arrOf st') sa (sb+nb)->(∀t,(t<sa∨sb+nb<=t)->Kr rk (arrOf st') t=Kr rk (arrOf st) t)->Q true st'):wpS (model prog w) A E s (mergeAt' i) Q st:=by
 have sz:=b.sz;rw[aT8];refine by6 (wpS_get ?_);rw[b.pd,e1,e2];dsimp only;refine by6 (aT9 ?_);generalize hst:SortSt.mk' (kindOf st) (arrOf st) ((pd.setIfInBounds i (sa,na+nb,pw)).eraseIdxIfInBounds (i+1)) (gallopOf st) (failedOf st)=st1;have b1:SB κ a0 ((pd.setIfInBounds i (sa,na+nb,pw)).eraseIdxIfInBounds (i+1)) st1:=by rw[<- hst];exact⟨b.pm,b.kd,b.ok,rfl⟩
 have ar:arrOf st1=arrOf st:=by rw[<- hst]
 have oa:=b.all o;have hsb:sb<(arrOf st).size:=by omega
 refine by6 (dN hsb (by6 (oQ c b1.kd (oa _ (bC4 hsb)) oa n0 (by omega) (hs▸u) λk k1 k2 k3=>?_)));dsimp only;have k2':∀t,sa<=t->t<sa+k->Kr rk (arrOf st) t<=Kr rk (arrOf st) sb:=λt t1 t2=>by
  have:=k2 (t-sa) (by omega)
  rw[oS,bz5,show sa+(t-sa)=t by omega]at this;rw[cT hsb];exact this
 have k3':∀t,sa+k<=t->t<sb->Kr rk (arrOf st) sb<Kr rk (arrOf st) t:=λt t1 t2=>by
  have:=k3 (t-sa) (by omega) (by omega)
  rw[oS,bC5,show sa+(t-sa)=t by omega]at this;rw[cT hsb];omega
 by_cases ek:(na-k==0)=true
 ·rw[if_pos ek]
  have ek:na-k=0:=by simpa using ek
  refine bz4 (h st1 b1 ?_ λt _=>by rw[ar]);rw[ar];exact ac2 u v (by omega) (by omega) (k2' (sb-1) (by omega) (by omega))
 ·rw[if_neg ek]
  have ek:na-k≠0:=by simpa using ek
  have el:sa+k+(na-k)-1=sb-1:=by omega
  rw[el];have hsl:sb-1<(arrOf st).size:=by omega
  refine by6 (dN hsl (by6 (oQ c b1.kd (oa _ (bC4 hsl)) oa (by omega) (by omega) v λl l1 l2 l3=>?_)));dsimp only;have l2':∀t,sb<=t->t<sb+l->Kr rk (arrOf st) t<Kr rk (arrOf st) (sb-1):=λt t1 t2=>by
   have:=l2 (t-sb) (by omega)
   rw[oT,bz5,show sb+(t-sb)=t by omega]at this;rw[cT hsl];exact this
  have l3':∀t,sb+l<=t->t<sb+nb->Kr rk (arrOf st) (sb-1)<=Kr rk (arrOf st) t:=λt t1 t2=>by
   have:=l3 (t-sb) (by omega) (by omega)
   rw[oT,bC5,show sb+(t-sb)=t by omega]at this;rw[cT hsl];omega
  by_cases en:(l==0)=true
  ·rw[if_pos en]
   have en:l=0:=by simpa using en
   subst en;refine bz4 (h st1 b1 ?_ λt _=>by rw[ar]);rw[ar];exact ac2 u v (by omega) (by omega) (l3' sb (by omega) (by omega))
  ·rw[if_neg en]
   have en:l≠0:=by simpa using en
   have sub:∀p e,cD Ok ((arrOf st).extract p e):=λp e z hz=>oa z (by
    have:z∈((arrOf st).extract p e).toList:=Array.mem_toList_iff.mpr hz
    rw[nD]at this
    exact Array.mem_toList_iff.mp (bM7 (List.mem_of_mem_drop this)))
   have sx:Sd rk ((arrOf st).extract (sa+k) sb).toList:=ac1 (λi j h1 h2 h3=>u i j (by omega) h2 h3) (by omega);have sy:Sd rk ((arrOf st).extract sb (sb+l)).toList:=ac1 (λi j h1 h2 h3=>v i j h1 h2 (by omega)) (by omega);have x0:0<((arrOf st).extract (sa+k) sb).size:=by simp;omega
   have y0:0<((arrOf st).extract sb (sb+l)).size:=by simp;omega
   have hf:∀t∈((arrOf st).extract (sa+k) sb).toList,rk ((arrOf st).extract sb (sb+l))[0]<=rk t:=λt ht=>by
    rw[nD]at ht
    obtain⟨t',q1,q2,q3,q4⟩:=rL (rk:=rk) ht
    rw[q4,<- cT (rk:=rk) y0,ac3 (by omega) (by omega)];exact Int.le_of_lt (k3' t' q1 q2)
   have hl:∀t∈((arrOf st).extract sb (sb+l)).toList,rk t<=rk ((arrOf st).extract (sa+k) sb)[((arrOf st).extract (sa+k) sb).size-1]:=λt ht=>by
    rw[nD]at ht
    obtain⟨t',q1,q2,q3,q4⟩:=rL (rk:=rk) ht
    have e:((arrOf st).extract (sa+k) sb).size=sb-(sa+k):=by simp;omega
    rw[q4,<- cT (rk:=rk) (by omega),ac3 (by omega) (by omega),e,show sa+k+(sb-(sa+k)-1)=sb-1 by omega];exact Int.le_of_lt (l2' t' q1 q2)
   have fin:∀(m:Array Keyed) (st2:SortSt),Gq st1 st2->fH rk ((arrOf st).extract (sa+k) sb) ((arrOf st).extract sb (sb+l)) m->
     wpS (model prog w) A E s (do modify (λz=>setArr z (m.toList.zipIdx.foldl (λa (p,j)=>a.setIfInBounds (sa+k+j) p) (arrOf z)));return (failedOf (<- get)).isNone) Q st2:=λm st2 g md=>by
    have b2:SB κ a0 ((pd.setIfInBounds i (sa,na+nb,pw)).eraseIdxIfInBounds (i+1)) st2:=⟨by rw[g.ar];exact b1.pm,g.kd.trans b1.kd,g.ok.trans b1.ok,g.pd.trans b1.pd⟩;have a2:arrOf st2=arrOf st:=g.ar.trans ar
    obtain⟨r1,r2,r3,r4⟩:=aU0 (by omega) (by omega) (by omega) md
    generalize hr:m.toList.zipIdx.foldl (λa (q,j)=>a.setIfInBounds (sa+k+j) q) (arrOf st)=r at r1 r2 r3 r4;refine by6 (wpS_modify (by6 (wpS_get (bz4 ?_))));have b3:=b2.put (xs:=m.toList.zipIdx.foldl (λa (q,j)=>a.setIfInBounds (sa+k+j) q) (arrOf st2)) (by rw[a2,hr];exact r1);have er:arrOf (setArr st2 (m.toList.zipIdx.foldl (λa (q,j)=>a.setIfInBounds (sa+k+j) q) (arrOf st2)))=r:=by rw[<- hr,a2]
    have tr:(failedOf (setArr st2 (m.toList.zipIdx.foldl (λa (q,j)=>a.setIfInBounds (sa+k+j) q) (arrOf st2)))).isNone=true:=by rw[b3.ok];rfl
    rw[tr];refine h _ b3 (λi j hi hij hj=>?_) λt ht=>?_
    ·rw[er]
     have bl:∀t,sa<=t->t<sa+k->∀t',sa+k<=t'->t'<sb+l->Kr rk (arrOf st) t<=Kr rk (arrOf st) t':=λt t1 t2 t' t3 t4=>by
      rcases bD0 t' sb with z|z
      ·exact u t t' t1 (by omega) z
      ·have a1:=k2' t t1 t2
       have a2:=v sb t' (bx9 _) z (by omega);omega
     have br:∀t,sb+l<=t->t<sb+nb->∀t',sa+k<=t'->t'<sb+l->Kr rk (arrOf st) t'<=Kr rk (arrOf st) t:=λt t1 t2 t' t3 t4=>by
      rcases bD0 t' sb with z|z
      ·have a1:=u t' (sb-1) (by omega) (by omega) (by omega)
       have a2:=l3' t t1 t2;omega
      ·exact v t' t z (by omega) t2
     have blr:∀t,sa<=t->t<sa+k->∀t',sb+l<=t'->t'<sb+nb->Kr rk (arrOf st) t<=Kr rk (arrOf st) t':=λt t1 t2 t' t3 t4=>by
      have a1:=bl t t1 t2 (sb-1) (by omega) (by omega);have a2:=l3' t' t3 t4;omega
     rcases bD0 i (sa+k) with z|z
     ·rw[r2 i (.inl z)]
      rcases bD0 j (sa+k) with y|y
      ·rw[r2 j (.inl y)];exact u i j hi hij (by omega)
      ·rcases bD0 j (sb+l) with x|x
       ·obtain⟨t',q1,q2,q3⟩:=r4 j y x
        rw[q3];exact bl i hi z t' q1 q2
       ·rw[r2 j (.inr x)];exact blr i hi z j x hj
     ·rcases bD0 j (sb+l) with x|x
      ·exact r3 i j z hij x
      ·rw[r2 j (.inr x)]
       rcases bD0 i (sb+l) with y|y
       ·obtain⟨t',q1,q2,q3⟩:=r4 i z y
        rw[q3];exact br j x hj t' q1 q2
       ·rw[r2 i (.inr y)];exact v i j (by omega) hij hj
    ·rw[er];exact r2 t (by omega)
   by_cases hle:na-k<=l
   ·rw[if_pos hle]
    exact by6 (aT3 c b1.kd (sub _ _) (sub _ _) sx sy x0 y0 hf hl λm st2 g md=>fin m st2 g md)
   ·rw[if_neg hle]
    exact by6 (aT7 c b1.kd (sub _ _) (sub _ _) sx sy x0 y0 hf hl λm st2 g md=>fin m st2 g md)
end
def Ch:Nat->List (Nat×Nat)->Nat->Prop
 |a,[],b=>a=b
 |a,(p,n)::r,b=>p=a/\0<n/\Ch (a+n) r b
theorem Ch.split:∀{l l':List (Nat×Nat)}{a b:Nat},Ch a (l++l') b->∃m,Ch a l m/\Ch m l' b
 |[],_,a,_,h=>⟨a,rfl,h⟩
 |(p,n)::l,l',a,b,h=>by
  obtain⟨h1,h2,h3⟩:=h
  obtain⟨m,q1,q2⟩:=Ch.split h3
  exact⟨m,⟨h1,h2,q1⟩,q2⟩
theorem Ch.join:∀{l l':List (Nat×Nat)}{a m b:Nat},Ch a l m->Ch m l' b->Ch a (l++l') b
 |[],_,a,m,_,h,h'=>by cases (show a=m from h);exact h'
 |(p,n)::l,l',a,m,b,h,h'=>⟨h.1,h.2.1,Ch.join h.2.2 h'⟩
theorem Ch.len:∀{l:List (Nat×Nat)}{a b:Nat},Ch a l b->a+l.length<=b
 |[],a,b,h=>by cases (show a=b from h);simp
 |(p,n)::l,a,b,h=>by
  have:=Ch.len h.2.2
  have:=h.2.1
  simp;omega
theorem Ch.mem:∀{l:List (Nat×Nat)}{a b:Nat}{r:Nat×Nat},Ch a l b->r∈l->a<=r.1/\r.1+r.2<=b/\0<r.2
 |(p,n)::l,a,b,r,h,hr=>by
  obtain⟨h1,h2,h3⟩:=h
  have hb:=Ch.len h3;rcases by2.mp hr with e|e
  ·subst e
   have h1:p=a:=h1;refine⟨?_,?_,h2⟩
   ·show a<=p;omega
   ·show p+n<=b;omega
  ·have:=Ch.mem h3 e
   exact⟨by omega,this.2.1,this.2.2⟩
def sk (pd:Array (Nat×Nat×Nat)):List (Nat×Nat):=pd.toList.map λr=>(r.1,r.2.1)
theorem uQ (pd:Array (Nat×Nat×Nat)):(sk pd).length=pd.size:=by simp[sk]
structure Rn (rk:Keyed->Int)(a:Array Keyed)(l:List (Nat×Nat))(lo:Nat):Prop where
 ch:Ch 0 l lo
 up:∀r∈l,Up rk a r.1 (r.1+r.2)
variable {rk:Keyed→Int}{κ:SortKind}{a0:Array Keyed}{pd:Array (Nat×Nat×Nat)}{st:SortSt}{prog:ay}{w:ba}{A:az}{E:av→aw→Prop}{s:aw}{Ok:Keyed→Prop}
theorem Rn.same {a b:Array Keyed}{l:List (Nat×Nat)}{lo:Nat}(h:Rn rk a l lo)(e:∀t,t<lo->Kr rk b t=Kr rk a t):Rn rk b l lo:=⟨h.ch,λr hr i j hi hij hj=>by
 have:=(h.ch.mem hr).2.1
 rw[e i (by omega),e j (by omega)]
 exact h.up r hr i j hi hij hj⟩
theorem ac4 (c:dC prog w A E s κ Ok rk)(o:cD Ok a0)(b:SB κ a0 pd st){i lo:Nat}{Q:Bool->SortSt->Prop}(hi:i+1<pd.size)(hz:lo<=a0.size)(rn:Rn rk (arrOf st) (sk pd) lo)(h:∀pd' st',SB κ a0 pd' st'->pd'.size+1=pd.size->Rn rk (arrOf st') (sk pd') lo->(∀t,lo<=t->Kr rk (arrOf st') t=Kr rk (arrOf st) t)->Q true st'):wpS (model prog w) A E s (mergeAt' i) Q st:=by
 obtain⟨⟨sa,na,pw⟩,e1⟩:∃r,pd[i]? = some r:=⟨pd[i],getElem?_pos pd i (by omega)⟩
 obtain⟨⟨sb,nb,pw'⟩,e2⟩:∃r,pd[i+1]? = some r:=⟨pd[i+1],getElem?_pos pd (i+1) hi⟩
 have d1:pd.toList=pd.toList.take i++(sa,na,pw)::(sb,nb,pw')::pd.toList.drop (i+2):=by
  have hl:i<pd.toList.length:=by simp;omega
  have hl2:i+1<pd.toList.length:=by simpa using hi
  have g1:pd.toList[i]=(sa,na,pw):=by rw[getElem?_pos pd i (by omega)]at e1;simpa using e1
  have g2:pd.toList[i+1]=(sb,nb,pw'):=by rw[getElem?_pos pd (i+1) hi]at e2;simpa using e2
  have:=bA7 i pd.toList
  rw[List.drop_eq_getElem_cons hl,List.drop_eq_getElem_cons hl2,g1,g2]at this;exact this.symm
 have li:(pd.toList.take i).length=i:=by simp;omega
 have d2:((pd.setIfInBounds i (sa,na+nb,pw)).eraseIdxIfInBounds (i+1)).toList=pd.toList.take i++(sa,na+nb,pw)::pd.toList.drop (i+2):=by
  have e:((pd.setIfInBounds i (sa,na+nb,pw)).eraseIdxIfInBounds (i+1)).toList=(pd.toList.set i (sa,na+nb,pw)).eraseIdx (i+1):=by
   unfold Array.eraseIdxIfInBounds;rw[dif_pos (by rw[Array.size_setIfInBounds];exact hi),Array.toList_eraseIdx,Array.toList_setIfInBounds]
  rw[e]
  conv=>lhs;rw[d1]
  rw[List.set_append_right _ _ (by omega),li,Nat.sub_self,List.set_cons_zero,List.eraseIdx_append_of_length_le (by omega),li,show i+1-i=1 by omega];rfl
 have k1:sk pd=(pd.toList.take i).map (λr=>(r.1,r.2.1))++(sa,na)::(sb,nb)::(pd.toList.drop (i+2)).map (λr=>(r.1,r.2.1)):=by
  unfold sk;conv=>lhs;rw[d1]
  simp
 have k2:sk ((pd.setIfInBounds i (sa,na+nb,pw)).eraseIdxIfInBounds (i+1))=(pd.toList.take i).map (λr=>(r.1,r.2.1))++(sa,na+nb)::(pd.toList.drop (i+2)).map (λr=>(r.1,r.2.1)):=by
  unfold sk;rw[d2];simp
 have ch:=rn.ch;rw[k1]at ch
 obtain⟨m,c1,c2⟩:=ch.split
 obtain⟨f1,f2,f3,f4,f5⟩:=c2
 have f1:sa=m:=f1;have f3:sb=m+na:=f3;have up:=rn.up;rw[k1]at up;have lo2:=f5.len;refine aU1 c o b e1 e2 (by omega) f2 f4 (by omega) (by have:=up (sa,na) (by simp);rw[f3,<- f1];exact this) (up (sb,nb) (by simp)) λst' b' u' fr=>h _ st' b' ?_ ⟨?_,?_⟩ λt ht=>fr t (by omega)
 ·rw[<- uQ,<- uQ,k1,k2];simp;omega
 ·rw[k2]
  refine c1.join ⟨f1,by omega,?_⟩;rw[<- Nat.add_assoc];exact f5
 ·intro r hr
  rw[k2]at hr;rcases bB3.mp hr with z|z
  ·intro p q h1 h2 h3
   have:=(c1.mem z).2.1
   rw[fr p (by omega),fr q (by omega)];exact up r (bL8 _ z) p q h1 h2 h3
  ·rcases by2.mp z with z|z
   ·subst z
    show Up rk (arrOf st') sa (sa+(na+nb));rw[show sa+(na+nb)=sb+nb by omega];exact u'
   ·intro p q h1 h2 h3
    have:=(f5.mem z).1
    rw[fr p (by omega),fr q (by omega)];exact up r (bB9 _ (bz9 _ (bz9 _ z))) p q h1 h2 h3
abbrev RS:=Option Unit×Nat
def mrg (sz pw:Nat):StateT SortSt Sem (Option Unit×Unit):=forIn [0:sz] ((none,()):Option Unit×Unit) λ_ _=>do
 let z <- get
 match (if (pendingOf z).size>1 then (pendingOf z)[(pendingOf z).size-2]? else none) with
 |some (_,_,o)=>if o<=pw then pure (.done (none,())) else do
   let q <- mergeAt' ((pendingOf z).size-2)
   if (!q)=true then pure (.done (some (),())) else pure (.yield (none,()))
 |_=>pure (.done (none,()))
def jn (sz lo n:Nat):StateT SortSt Sem (ForInStep RS):=do
 let z <- get
 match (pendingOf z).back? with
 |some (s1,n1,_)=>do
  let r <- mrg sz (power' sz (2*s1+n1) (2*s1+n1+n1+n) sz)
  match r.1 with
  |some u=>pure (.done (some u,lo))
  |none=>do
   modify λs=>setPending s ((pendingOf s).modify ((pendingOf s).size-1) λx=>(x.1,x.2.1,power' sz (2*s1+n1) (2*s1+n1+n1+n) sz))
   modify λs=>setPending s ((pendingOf s).push (lo,n,0))
   pure (.yield (none,lo+n))
 |_=>do
  modify λs=>setPending s ((pendingOf s).push (lo,n,0))
  pure (.yield (none,lo+n))
def rbd (sz mr lo:Nat):StateT SortSt Sem (ForInStep RS):=if lo >= sz then pure (.done (none,lo)) else do
 match <- countRun' lo (sz-lo) with
 |some n=>
  if n<mr then
   liftM (rule "list.sort.binary-insertion")
   let q <- binarySort' lo (min (sz-lo) mr) n
   if (!q)=true then pure (.done (some (),lo)) else jn sz lo (min (sz-lo) mr)
  else jn sz lo n
 |_=>pure (.done (some (),lo))
def ac5 (sz:Nat):StateT SortSt Sem (Option Unit×Unit):=forIn [0:sz] ((none,()):Option Unit×Unit) λ_ _=>do
 let z <- get
 if (pendingOf z).size<=1 then pure (.done (none,())) else do
  let q <- mergeAt' (if ((if (pendingOf z).size-2>0 then (pendingOf z)[(pendingOf z).size-2-1]?.map (·.2.1) else none).any (·<((pendingOf z)[(pendingOf z).size-2+1]?.elim 0 (·.2.1))))=true then (pendingOf z).size-2-1 else (pendingOf z).size-2)
  if (!q)=true then pure (.done (some (),())) else pure (.yield (none,()))
theorem aU2:sortRuns'=(do
 let z <- get
 let r <- (forIn [0:(arrOf z).size] ((none,0):RS) λ_ r=>rbd (arrOf z).size (minRun' (arrOf z).size (arrOf z).size 0) r.2)
 match r.1 with
 |some u=>pure u
 |none=>do
  let q <- ac5 (arrOf z).size
  match q.1 with
  |some u=>pure u
  |none=>pure ()):=by kernel_rfl
theorem ac6 {lo nn:Nat}(n1:0<nn){pd:Array (Nat×Nat×Nat)}{a:Array Keyed}(r:Rn rk a (sk pd) lo)(u:Up rk a lo (lo+nn)):Rn rk a (sk (pd.push (lo,nn,0))) (lo+nn):=by
 have e:sk (pd.push (lo,nn,0))=sk pd++[(lo,nn)]:=by simp[sk]
 refine⟨by rw[e];exact r.ch.join ⟨rfl,n1,rfl⟩,λq hq=>?_⟩;rw[e]at hq;rcases bB3.mp hq with z|z
 ·exact r.up q z
 ·rw[by0]at z
  subst z;exact u
theorem ac7 (c:dC prog w A E s κ Ok rk)(o:cD Ok a0)(b:SB κ a0 pd st){lo n:Nat}{Q:ForInStep RS->SortSt->Prop}(n1:1<=n)(n2:lo+n<=a0.size)(rn:Rn rk (arrOf st) (sk pd) lo)(u:Up rk (arrOf st) lo (lo+n))(h:∀pd' st',SB κ a0 pd' st'->Rn rk (arrOf st') (sk pd') (lo+n)->Q (.yield (none,lo+n)) st'):wpS (model prog w) A E s (jn a0.size lo n) Q st:=by
 unfold jn;refine by6 (wpS_get ?_);rw[b.pd];cases hb:pd.back? with
 |none=>exact by6 (wpS_modify (bz4 (h (pd.push (lo,n,0)) _ ⟨b.pm,b.kd,b.ok,by show (pendingOf st).push _=_;rw[b.pd]⟩ (ac6 n1 rn u))))
 |some q=>
  obtain⟨s1,m1,q3⟩:=q
  dsimp only;generalize power' a0.size (2*s1+m1) (2*s1+m1+m1+n) a0.size=pw;unfold mrg
  refine by6 (bM6 (bF6
   (I:=λ_ r st'=>r=(none,())/\∃pd,SB κ a0 pd st'/\Rn rk (arrOf st') (sk pd) lo/\Up rk (arrOf st') lo (lo+n))
   (Q:=λr st'=>r=(none,())/\∃pd,SB κ a0 pd st'/\Rn rk (arrOf st') (sk pd) lo/\Up rk (arrOf st') lo (lo+n)) ?_ (λ_ _ z=>z) ⟨rfl,pd,b,rn,u⟩) ?_)
  ·rintro t r st4 _ ht ⟨rfl,pd4,b4,r4,u4⟩
   refine by6 (wpS_get ?_);rw[b4.pd];cases ho:(if pd4.size>1 then pd4[pd4.size-2]? else none) with
   |none=>exact bz4 ⟨rfl,pd4,b4,r4,u4⟩
   |some z=>
    obtain⟨z1,z2,z3⟩:=z
    have h1:pd4.size>1:=by
     by_cases y:pd4.size>1
     ·exact y
     ·rw[if_neg y]at ho;cases ho
    dsimp only;by_cases hp:z3<=pw
    ·rw[if_pos hp]
     exact bz4 ⟨rfl,pd4,b4,r4,u4⟩
    ·rw[if_neg hp]
     refine by6 (ac4 c o b4 (by omega) (by omega) r4 λpd5 st5 b5 _ r5 f5=>?_);exact bz4 ⟨rfl,pd5,b5,r5,λi j hi hij hj=>by rw[f5 i hi,f5 j (by omega)];exact u4 i j hi hij hj⟩
  ·rintro r st4 ⟨rfl,pd4,b4,r4,u4⟩
   refine by6 (wpS_modify (by6 (wpS_modify (bz4 ?_))));have e:sk (pd4.modify (pd4.size-1) λx=>(x.1,x.2.1,pw))=sk pd4:=by
    unfold sk;rw[Array.toList_modify];apply List.ext_getElem?;intro t;rw[bz1,bz1,List.getElem?_modify];cases pd4.toList[t]? with
    |none=>simp
    |some v=>by_cases y:pd4.size-1=t<;>simp[y]
   refine h ((pd4.modify (pd4.size-1) λx=>(x.1,x.2.1,pw)).push (lo,n,0)) _ ⟨b4.pm,b4.kd,b4.ok,?_⟩ (ac6 n1 (by rw[e];exact r4) u4);show ((pendingOf st4).modify ((pendingOf st4).size-1) λx=>(x.1,x.2.1,pw)).push _=_;rw[b4.pd]
theorem aU3 (c:dC prog w A E s κ Ok rk)(o:cD Ok a0)(b:SB κ a0 #[] st){Q:Unit->SortSt->Prop}(h2:1<=a0.size)(h:∀st',(arrOf st').Perm a0->failedOf st'=none->Up rk (arrOf st') 0 a0.size->Q () st'):wpS (model prog w) A E s sortRuns' Q st:=by
 rw[aU2];refine by6 (wpS_get ?_);rw[b.sz];generalize minRun' a0.size a0.size 0=mr
 refine by6 (bM6 (bF6
  (I:=λx r st'=>∃lo pd,r=(none,lo)/\x<=lo/\lo<=a0.size/\SB κ a0 pd st'/\Rn rk (arrOf st') (sk pd) lo)
  (Q:=λr st'=>∃pd,r=(none,a0.size)/\SB κ a0 pd st'/\Rn rk (arrOf st') (sk pd) a0.size) ?_ ?_ ⟨0,#[],rfl,bx9 _,bB2 _,b,⟨rfl,λr hr=>absurd hr (by simp[sk])⟩⟩) ?_)
 ·rintro x r st1 _ hx ⟨lo,pd,rfl,xl,lz,b1,rn⟩
  unfold rbd;dsimp only;by_cases hd:lo >= a0.size
  ·rw[if_pos hd]
   have e:lo=a0.size:=by omega
   subst e;exact bz4 ⟨pd,rfl,b1,rn⟩
  ·rw[if_neg hd]
   refine by6 (aS6 c o b1 (by omega) (by omega) λn st2 b2 n1 n2 u2 l2=>?_);have rn2:=rn.same l2;dsimp only;by_cases hmr:n<mr
   ·rw[if_pos hmr]
    refine by6 (wpS_lift (bN1 ⟨rfl,?_⟩));refine by6 (aS7 c o b2 (by omega) (by omega) u2 λst3 b3 u3 l3=>?_);rw[if_neg (by decide)];exact ac7 c o b3 (by omega) (by omega) (rn2.same l3) u3 λpd' st' b' r'=>⟨_,pd',rfl,by omega,by omega,b',r'⟩
   ·rw[if_neg hmr]
    exact ac7 c o b2 n1 (by omega) rn2 u2 λpd' st' b' r'=>⟨lo+n,pd',rfl,by omega,by omega,b',r'⟩
 ·rintro r st1 ⟨lo,pd,rfl,xl,lz,b1,rn⟩
  have e:lo=a0.size:=by omega
  subst e
  exact⟨pd,rfl,b1,rn⟩
 ·rintro r st1 ⟨pd,rfl,b1,rn⟩
  dsimp only;unfold ac5
  refine by6 (bM6 (bF6
   (I:=λt r st'=>r=(none,())/\∃pd,SB κ a0 pd st'/\Rn rk (arrOf st') (sk pd) a0.size/\(pd.size+t<=a0.size∨pd.size<=1))
   (Q:=λr st'=>r=(none,())/\∃pd,SB κ a0 pd st'/\Rn rk (arrOf st') (sk pd) a0.size/\pd.size<=1) ?_ ?_ ⟨rfl,pd,b1,rn,.inl (by have:=rn.ch.len;rw[uQ]at this;omega)⟩) ?_)
  ·rintro t r st2 _ ht ⟨rfl,pd,b2,rn2,pr⟩
   refine by6 (wpS_get ?_);rw[b2.pd];by_cases h1:pd.size<=1
   ·rw[if_pos h1]
    exact bz4 ⟨rfl,pd,b2,rn2,h1⟩
   ·rw[if_neg h1]
    refine by6 (ac4 c o b2 ?_ (bx9 _) rn2 λpd' st3 b3 sz3 rn3 _=>?_)
    ·split<;>split<;>omega
    ·exact bz4 ⟨rfl,pd',b3,rn3,by omega⟩
  ·rintro r st2 ⟨rfl,pd,b2,rn2,pr⟩
   exact⟨rfl,pd,b2,rn2,by omega⟩
  ·rintro r st2 ⟨rfl,pd,b2,rn2,pr⟩
   refine bz4 (h st2 b2.pm b2.ok ?_);have ch:=rn2.ch;have up:=rn2.up;rw[<- uQ]at pr;cases e:sk pd with
   |nil=>rw[e]at ch;exact absurd (show 0=a0.size from ch) (by omega)
   |cons r l=>
    rw[e]at ch up pr;have el:l = []:=List.eq_nil_of_length_eq_zero (by have:=pr;rw[bA3]at this;omega);subst el
    obtain⟨p,n⟩:=r
    obtain⟨q1,q2,q3⟩:=ch
    have q1:p=0:=q1;have q3:0+n=a0.size:=q3;subst q1
    have:=up (0,n) (by simp)
    rw[<- q3];exact this
end SO
namespace L2
open PySem PySem.Spec PyProof.Rows SO
abbrev gW (h:Heap)(a:ax)(vs:List av):Heap:=((h.update a (Obj.mapSeq λ_=>#[])).push (seqObj "tuple" vs.toArray 0)).push (seqObj "list" #[] 0)
abbrev gX (h:Heap)(vs:List av):Heap:=((h.push (seqObj "list" #[] 0)).update h.objs.size (Obj.mapSeq (·++vs.toArray))).push (seqObj "list" vs.toArray 0)
theorem aU4 {h:Heap}{vs:List av}{b:ax}{o:Obj}(e:h.get? b=some o):(gX h vs).get? b=some o:=by
 have l:=by8 e;refine bx5 _ ?_;rw[Heap.get?_update_ne _ _ _ _ (bA8 l)];exact bx5 _ e
theorem aU5 {h:Heap}{vs:List av}{a b:ax}{o:Obj}(hb:b≠a)(e:h.get? b=some o):(gW h a vs).get? b=some o:=by
 refine bx5 _ (bx5 _ ?_);rw[Heap.get?_update_ne _ _ _ _ hb];exact e
theorem aU6 {prog:ay}{w:ba}{A:az}{E:av->aw->Prop}{s:aw}{a:ax}{vs:List av}{n:Nat}{P:PySem.Fin->aw->Prop}{κ:SortKind}{Ok:Keyed->Prop}{rk:Keyed->Int}(e:s.heap.get? a=some (seqObj "list" vs.toArray n))(h2:2<=vs.length)(big:vs.length<=sizeLine)(hk:∀Q:SortKind->aw->Prop,Q κ { s with heap:=gW s.heap a vs }->wpAny (model prog w) A (keyKind' vs.toArray) Q E { s with heap:=gW s.heap a vs })(c:dC prog w A E { s with heap:=gW s.heap a vs } κ Ok rk)(o:∀v∈vs,Ok (v,v))(q:∀out:List av,out.Perm vs->out.Pairwise (λu v=>rk (u,u)<=rk (v,v))->P (.done (.ret .none)) { s with heap:=sortedHeap s.heap a vs out.toArray }):wpAny (model prog w) A (Builtin.«list.sort» ⟨[.ref a],[]⟩) P E s:=by
 have la:=by8 e;have cc:¬vs.toArray.size<2:=by simpa using h2
 obtain⟨k,ek⟩:∃k,(s.heap.update a (Obj.mapSeq λ_=>#[])).get? a=some (seqObj "list" #[] k):=⟨_,get?_update_seq e λ_=>#[]⟩
 have there:(gW s.heap a vs).get? a=some (seqObj "list" #[] k):=bx5 _ (bx5 _ ek);rw[list_sort_plain];apply bx4;apply listItems_at e rfl;apply bx4;refine listUpdate_at e rfl ?_ (by simpa using big) (bB2 _);apply bx4;apply seqEpoch_at ek rfl;apply bx4;refine wpAny_newTuple ?_ big;apply bx4;refine wpAny_newList ?_ (bB2 _);apply bM8;simp only[cc,bF8];apply bx4;refine hk _ ?_;have zl:(vs.toArray.zip vs.toArray).toList=vs.zip vs:=by simp
 apply bx4;refine bG1 (aU3 (a0:=vs.toArray.zip vs.toArray) (Q:=λ_ st'=>(arrOf st').Perm (vs.toArray.zip vs.toArray)/\failedOf st'=none/\Up rk (arrOf st') 0 (vs.toArray.zip vs.toArray).size) c (λx hx=>?_) ⟨Array.Perm.refl _,rfl,rfl,rfl⟩ (by simp;omega) λst' a1 a2 a3=>⟨a1,a2,a3⟩) ?_ λ_ _ z=>z
 ·have hx':x∈vs.zip vs:=by rw[<- zl];exact Array.mem_toList_iff.mpr hx
  obtain⟨y1,y2⟩:=mem_zip_self hx'
  have:=o x.1 y2
  have ex:x=(x.1,x.1):=Prod.ext rfl y1.symm;rw[ex];exact this
 ·rintro⟨⟨⟩,st'⟩ s' ⟨rfl,pm,ok,up⟩
  have lp:(arrOf st').toList.Perm (vs.zip vs):=by rw[<- zl];exact Array.perm_iff_toList_perm.mp pm
  have out:(arrOf st').map (·.2)=((arrOf st').toList.map (·.2)).toArray:=by apply Array.toList_inj.mp;rw[Array.toList_map]
  have op:((arrOf st').toList.map (·.2)).Perm vs:=by
   have:=lp.map (·.2)
   rw[xZ]at this;exact this
  have sz:(arrOf st').size=vs.length:=by rw[pm.size_eq];simp
  dsimp only;apply bx4;apply seqEpoch_at there rfl;apply bx4;refine listUpdate_at there rfl ?_ (bB2 _) (by rw[Array.size_map,sz];exact Nat.le_succ_of_le big);rw[ok];simp only[bne_self_eq_false,bA6,bF8];refine by3 ?_;have hq:=q _ op ?_
  ·rw[<- out]at hq;exact hq
  ·rw[List.pairwise_map,bF4]
   intro i j hi hj hij;have hi':i<(arrOf st').size:=by simpa using hi
   have hj':j<(arrOf st').size:=by simpa using hj
   have h1:=up i j (bB2 _) (bE3 hij) (by simp;omega);rw[cT hi',cT hj']at h1;have dg:∀x∈(arrOf st').toList,(x.2,x.2)=x:=λx hx=>Prod.ext (mem_zip_self (lp.mem_iff.mp hx)).1.symm rfl
   rw[dg _ (bI0 hi),dg _ (bI0 hj)];simpa using h1
theorem aU7 {vs vs':List av}(h:vs.Perm vs'):∀{xs:List V},aX xs vs->∃xs',xs'.Perm xs/\aX xs' vs':=by
 induction h with
 |nil=>intro xs r;exact⟨xs,List.Perm.refl _,r⟩
 |cons v _ ih=>
  intro xs r;cases r with
  |cons r t=>
   obtain⟨xs',p,r'⟩:=ih t
   exact⟨_::xs',p.cons _,.cons r r'⟩
 |swap u v l=>
  intro xs r;cases r with
  |cons r t=>cases t with
   |cons r2 t2=>exact⟨_,List.Perm.swap _ _ _,.cons r2 (.cons r t2)⟩
 |trans _ _ ih1 ih2=>
  intro xs r
  obtain⟨x1,p1,r1⟩:=ih1 r
  obtain⟨x2,p2,r2⟩:=ih2 r1
  exact⟨x2,p2.trans p1,r2⟩
end L2
namespace L2
open PySem PySem.Spec PyProof.Rows
theorem cV.at {P:ay}{w:ba}{H:Hp}{h:Heap}{a:ax}{o:HO}(x:cV P w H h a o):∃ob,h.get? a=some ob:=by
 cases o with
 |lst xs=>obtain⟨_,_,_,_,e⟩:=x;exact⟨_,e⟩
 |tup xs=>obtain⟨_,_,_,⟨_,e,_⟩,_⟩:=x;exact⟨_,e⟩
 |dK kvs=>obtain⟨_,_,_,_,_,_,_,e,_⟩:=x;exact⟨_,e⟩
 |dT kvs=>obtain⟨_,_,_,_,_,_,_,e,_⟩:=x;exact⟨_,e⟩
 |set S n=>obtain⟨_,_,_,_,e,_⟩:=x;exact⟨_,e⟩
 |ins C dx fs=>obtain⟨_,_,_,e,_⟩:=x;exact⟨_,e⟩
 |own y=>exact x
 |xd fs=>obtain⟨_,⟨_,_,_,e,_⟩,_⟩:=x;exact⟨_,e⟩
 |rng lo hi=>obtain⟨_,_,_,e⟩:=x;exact⟨_,e⟩
 |frz ob u=>obtain⟨e,_⟩:=x;exact⟨_,e⟩
 |tbl ps=>exact⟨_,x⟩
 |met f y=>exact⟨_,x⟩
 |ext φ=>exact x.2.1
structure nE (P:ay)(w:ba)(outer:List Env)(H:Hp)(s:aw)(H':Hp)(B:Heap)(a C:ax)(s':aw):Prop where
 os:s'.os=s.os
 bare:AllBare s'.gens
 un:Un (cE outer) [] H H' s.heap s'.heap
 hok:cF P w H' s'.heap
 fly:∃a0,Heap.FlyingW B outer a (.ref C) a0 s'.heap
 b0:∀b o,s.heap.get? b=some o->b∉cE outer->∃o',B.get? b=some o'
 b1:∀b o,s.heap.get? b=some o->H b=none->b∉cE outer->B.get? b=some o
 b2:∀b u o,H' b=some u->s'.heap.get? b=some o->B.get? b=some o
def bY (P:ay)(w:ba):iI:=λouter H s E e s'=>∃(H':Hp) (B:Heap) (a C:ax),e = .ref a/\nE P w outer H s H' B a C s'/\E (.ref C) none H'
section
variable {P:ay}{w:ba}{outer:List Env}{H H':Hp}{s s':aw}{B h2:Heap}{a C:ax}
theorem nE.fresh (f:nE P w outer H s H' B a C s'):H' a=none:=by
 cases q:H' a with
 |none=>rfl
 |some u=>
  obtain⟨ob,e⟩:=(f.hok a u q).at
  have z:=f.b2 a u ob q e
  obtain⟨_,_,n,_⟩:=f.fly
  rw[n]at z;cases z
theorem nE.hok2 (f:nE P w outer H s H' B a C s')(k:B.StaysIn h2):cF P w H' h2:=λb u e=>
 (f.hok b u e).stay (λc v hc q=>by
  rcases hc with z|z
  ·subst z;exact k _ _ (f.b2 _ _ _ e q)
  ·exact k _ _ (f.b2 _ _ _ z q)) (λ_ q=>q) λ_ _ q=>q
end
section
variable {P:ay}{w:ba}{K:ac}{mg:Str→Option av}{base:Heap}{N:List Str}{qual:Str}{scope:Scope}{f:ax}{cd:av}{A:az}{outer:List Env}{s₀:aw}{H₀:Hp}{E₀ E₁:XK}
theorem uR {ag:List (ax×Obj)}{σ:St}{H:Hp}{s:aw}(I:aA (cW (bY P w) P w K mg base N qual scope f cd A outer s₀ H₀ E₀) ag σ H s){b:ax}{o:Obj}(e:s₀.heap.get? b=some o)(n:b∉cE outer) :
  b∉cE (envOfC qual scope s₀.heap.objs.size f cd::outer):=λz=>by
 rcases by2.mp (I.stkSub b z) with y|y
 ·have l:=by8 e
  have y:b=s₀.heap.objs.size:=y;exact absurd l (by rw[y];exact bE5 _)
 ·exact n y
theorem aU8 (hE:∀c d H',E₁ c d H'->E₀ c d H'):iJ (bY P w) (cW (bY P w) P w K mg base N qual scope f cd A outer s₀ H₀ E₀) E₁:=by
 intro ag σ H s e s' I hx
 obtain⟨H',B,a,C,e1,fl,q⟩:=hx
 subst e1;have I':=I.call' fl.os fl.un fl.hok fl.bare (ch:=[]) (λb z=>absurd z (by simp))
 obtain⟨a0,fly⟩:=fl.fly
 refine wpAny_leaves_onW I.ok.frames rfl fly λh' fly' up=>?_
 have slot:∀b o,s₀.heap.get? b=some o->b∈cE outer->∃sl,h'.get? b=some { o with slots:=sl }:=λb o e hb=>by
  obtain⟨sl,e1⟩:=I'.base.slot b o e (I.ok.frf b hb) hb (λz=>nomatch z)
  obtain⟨_,o2,e2,nf⟩:=I.ok.funs.mem hb
  rw[show (cW (bY P w) P w K mg base N qual scope f cd A outer s₀ H₀ E₀).s₀=s₀ from rfl,e]at e2;cases e2
  obtain⟨sl',e3⟩:=up b _ e1 nf
  exact⟨sl',e3⟩
 have old:∀b o,s₀.heap.get? b=some o->H₀ b=none->b∉cE outer->B.get? b=some o:=λb o e n hb=>
  fl.b1 b o (I.base.keep b o e n hb (λz=>nomatch z)) (I.base.free b o e n (λz=>nomatch z)) (uR I e hb)
 have old0:∀b o,s₀.heap.get? b=some o->b∉cE outer->∃o',B.get? b=some o':=λb o e hb=>by
  obtain⟨o1,e1⟩:=I.base.there b o e (λz=>nomatch z)
  exact fl.b0 b o1 e1 (uR I e hb)
 refine⟨H',B,a,C,rfl,⟨I'.os,I'.bare,⟨λb o e n hb _=>fly'.1 _ _ (old b o e n hb),λb o e n hb _=>slot b o e hb,λb o e n hx=>I'.base.free b o e n hx,λb o e _=>?_,I'.base.tups,I'.base.frzs,I'.base.tbls⟩,fl.hok2 fly'.1,⟨a0,fly'⟩,old0,old,λb u o e h=>?_⟩,hE _ _ _ q⟩
 ·by_cases hb:b∈cE outer
  ·obtain⟨sl,e1⟩:=slot b o e hb
   exact⟨_,e1⟩
  ·obtain⟨o',e1⟩:=old0 b o e hb
   exact⟨o',fly'.1 _ _ e1⟩
 ·obtain⟨ob,e1⟩:=(fl.hok b u e).at
  have e2:=fl.b2 b u ob e e1;have e3:=fly'.1 _ _ e2;have h:h'.get? b=some o:=h;rw[h]at e3;cases e3;exact e2
theorem aU9 {ag:List (ax×Obj)}{σ:St}{H:Hp}{s:aw}{h':Heap}{e C:ax}{args:List av}(I:aA (cW (bY P w) P w K mg base N qual scope f cd A outer s₀ H₀ E₀) ag σ H s)(mx:Heap.MadeExcOf s.heap h' e (.ref C) args)(q:E₀ (.ref C) none H) :
  (cW (bY P w) P w K mg base N qual scope f cd A outer s₀ H₀ E₀).xe (.ref e) { s with heap:=h' }:=by
 have tr:∀b u,H b=some u->b∉cE (envOfC qual scope s₀.heap.objs.size f cd::outer):=λb u z n=>by
  rw[I.stkFree b n]at z;cases z
 have inB:∀b o,s.heap.get? b=some o->b∉cE (envOfC qual scope s₀.heap.objs.size f cd::outer)->(PySem.W.hideAll s.heap (cE (envOfC qual scope s₀.heap.objs.size f cd::outer))).get? b=some o:=λb o z n=>PySem.W.hideAll_get _ z n
 refine wpAny_leaves_madeW (base:=PySem.W.hideAll s.heap (cE (envOfC qual scope s₀.heap.objs.size f cd::outer))) I.ok.frames rfl (λb o z=>PySem.W.of_hideAll _ z) (PySem.W.funFrames_hide I.stack λenv he b hb=>List.mem_filterMap.mpr ⟨env,he,hb⟩) mx λh'' t fly _ _ up=>?_
 have slot:∀b o,s₀.heap.get? b=some o->b∈cE outer->∃sl,h''.get? b=some { o with slots:=sl }:=λb o e hb=>by
  obtain⟨sl,e1⟩:=I.base.slot b o e (I.ok.frf b hb) hb (λz=>nomatch z)
  obtain⟨_,o2,e2,nf⟩:=I.ok.funs.mem hb
  rw[show (cW (bY P w) P w K mg base N qual scope f cd A outer s₀ H₀ E₀).s₀=s₀ from rfl,e]at e2;cases e2
  obtain⟨sl',e3⟩:=up b _ (mx.keeps _ _ e1) nf
  exact⟨sl',e3⟩
 have old:∀b o,s₀.heap.get? b=some o->H₀ b=none->b∉cE outer->(PySem.W.hideAll s.heap (cE (envOfC qual scope s₀.heap.objs.size f cd::outer))).get? b=some o:=λb o e n hb=>
  inB b o (I.base.keep b o e n hb (λz=>nomatch z)) (uR I e hb)
 have old0:∀b o,s₀.heap.get? b=some o->b∉cE outer->∃o',(PySem.W.hideAll s.heap (cE (envOfC qual scope s₀.heap.objs.size f cd::outer))).get? b=some o':=λb o e hb=>by
  obtain⟨o1,e1⟩:=I.base.there b o e (λz=>nomatch z)
  exact⟨o1,inB b o1 e1 (uR I e hb)⟩
 refine⟨H,_,e,C,rfl,⟨I.os,I.bare,⟨λb o e n hb _=>fly.1 _ _ (old b o e n hb),λb o e n hb _=>slot b o e hb,λb o e n hx=>I.base.free b o e n hx,λb o e _=>?_,I.base.tups,I.base.frzs,I.base.tbls⟩,λb u z=>?_,⟨_,fly⟩,old0,old,λb u o z h=>?_⟩,q⟩
 ·by_cases hb:b∈cE outer
  ·obtain⟨sl,e1⟩:=slot b o e hb
   exact⟨_,e1⟩
  ·obtain⟨o',e1⟩:=old0 b o e hb
   exact⟨o',fly.1 _ _ e1⟩
 ·refine (I.hok b u z).stay (λc v hc y=>?_) (λ_ y=>y) λ_ _ y=>y
  rcases hc with z'|z'
  ·subst z';exact fly.1 _ _ (inB _ _ y (tr _ _ z))
  ·exact fly.1 _ _ (inB _ _ y (tr _ _ z'))
 ·obtain⟨ob,e1⟩:=(I.hok b u z).at
  have e2:=inB b ob e1 (tr b u z);have e3:=fly.1 _ _ e2;have h:h''.get? b=some o:=h;rw[h]at e3;cases e3;exact e2
end
structure lY (X:Cx)(E:XK):Prop where
 pass:iJ (bY X.prog X.w) X E
 made:∀(ag:List (ax×Obj)) (σ:St) (H:Hp) (s:aw) (h':Heap) (e C:ax) (args:List av),aA X ag σ H s->Heap.MadeExcOf s.heap h' e (.ref C) args->E (.ref C) none H->X.xe (.ref e) { s with heap:=h' }
 own:PassesOwn (model X.prog X.w) X.A X.env X.xe
theorem A9 {P:ay}{w:ba}{K:ac}{mg:Str->Option av}{base:Heap}{N:List Str}{qual:Str}{scope:Scope}{f:ax}{cd:av}{A:az}{outer:List Env}{s₀:aw}{H₀:Hp}{E₀ E₁:XK}(hE:∀c d H',E₁ c d H'->E₀ c d H') :
  lY (cW (bY P w) P w K mg base N qual scope f cd A outer s₀ H₀ E₀) E₁:=
 ⟨aU8 hE,λ_ _ _ _ _ _ _ _ I mx q=>aU9 I mx (hE _ _ _ q),PassesOwn.leaving⟩
def ac8 (E:XK)(C:ax)(t:TA):TS:=λ_ σ H=>t σ H λvs H1=>vs.length<=sizeLine/\E (.ref C) none H1
theorem aV0 {X:Cx}{E:XK}{x:Str}{C:ax}{bm:List av}{B newId initId:String}{np ai pos:Pos}{e:Expr}{es:List Expr}{t:TA}(hX:lY X E)(hc:X.calm=true)(O:OwnCls x C bm newId X.mg X.base)(FB:ExcBaseFacts B newId initId bm)(ha:PA X (e::es) t)(hg:Gl X x)(hd:(x==("__debug__":Str))=false:=by decide)(he:starEach (e::es) X.env=(false,eval e X.env)::starEach es X.env:=by rfl)(hpl:(backTo ai (starEach es X.env)).any (·.1)=false:=by rfl) :
  PS X (.Raise (some (.Call (.Name x np) (e::es) [] ai)) none pos) (ac8 E C t):=by
 intro ag s σ H D I h
 obtain⟨tl,Na,nm,qn,bs,hx,sn,sub,ab,col,dd,k0,k1,k2,k3,k5,mN,hC,hN,hni,T⟩:=O.obj
 refine wpAny_Raise_call_subT (nm:=nm) (q:=qn) (N:=Na) (bs:=bs) (bm:=tl) (hdct:=hx) (sn:=sn) (sub:=sub) (ab:=ab) (col:=col) (dd:=dd) (k0:=k0) (k1:=k1) (k2:=k2) (k3:=k3) (k5:=k5) FB (C:=C) (mN:=mN) (T.hasType FB.hasBase) (I.ok.hd hc) (by rw[he];show (false||(backTo ai (starEach es X.env)).any (·.1))=false;rw[hpl];rfl) hni (pU I hg O.bound ⟨rfl,?_⟩ hd);have h1:=ha ai ag s σ H _ I h;rw[he]at h1 ⊢;refine bM3 (bG1 h1 (λus s2 h2=>?_) λ_ _ y=>y)
 obtain⟨vs,H2,I2,r,hl,q⟩:=h2
 have r:aX vs us:=r
 exact⟨rfl,by show us.length<=sizeLine;rw[<- r.length];exact hl,I2.bk _ _ hC,hN.keeps I2.bk,T.keeps I2.bk,λh' e' mx=>hX.made ag σ H2 s2 h' e' C _ I2 mx q⟩
theorem d8.okX {P:ay}{w:ba}{K:ac}{mg:Str->Option av}{base:Heap}{x qual:Str}{st:Stmt}{f:ax}{fd:FuncData}{N ps:List Str}{k:Nat}{sp:Sp}(F:d8 K x qual st f fd)(S:FnScope N ps (aT st))(len:∀vs H Q E,sp vs H Q E->vs.length=ps.length)(hbody:∀(cdv:av) (A:az) (outer:List Env) (s:aw) (H:Hp) (vs:List V) (Q:VK) (E:XK),bL k (A.deeper (envOfC qual (aT st) s.heap.objs.size f cdv))->sp vs H Q E->
   ∃t,dW (cW (bY P w) P w K mg base N qual (aT st) f cdv A outer s H E) (cY st) t/\t { nx:=λ_ H'=>Q .non H',rt:=Q } (g9 N vs) H):bZ P w K mg base (bY P w) (k+1) f fd ps sp:=by
 obtain⟨oc,od,kV,doc,pm,an,cdv,ct,osl,rfl,lk,hcd⟩:=F.ex
 exact P9 lk hcd S len λA outer s H vs Q E hr hsp=>hbody cdv A outer s H vs Q E hr hsp
section
variable {X:Cx}{ag:List (ax×Obj)}{σ:St}{H H1 H':Hp}{s s1 s':aw}{B h2:Heap}{a C:ax}
theorem ac9 {oe:Obj}(I:aA X ag σ H1 s1)(fl:nE X.prog X.w X.stack H1 s1 H' B a C s')(st:B.StaysIn h2)(up:s'.heap.UpToSlots h2)(he:h2.get? a=some oe) :
  aA X ag σ (upd H' a (.frz oe (.own a))) { s' with heap:=h2 }:=by
 obtain⟨a0,fly⟩:=fl.fly
 have na:B.get? a=none:=fly.2.1;have nf:a∉cE X.stack:=λz=>by
  obtain⟨_,o,e,d⟩:=fly.2.2.1.mem z
  obtain⟨o2,vs,e2,_,d2,_⟩:=fly.first
  rw[e]at e2;cases e2;exact d vs d2
 have nb:∀b o,s1.heap.get? b=some o->b≠a:=λb o e z=>by
  subst z
  obtain⟨o',e'⟩:=fl.b0 _ o e nf
  rw[na]at e';cases e'
 have nt:∀b u,H' b=some u->b≠a:=λb u e z=>by
  subst z;rw[fl.fresh]at e;cases e
 have off:∀b,b≠X.env.locals->b∉X.fs->b∉cE X.stack:=λb n1 n2 z=>(by2.mp (I.stkSub b z)).elim n1 n2
 have slot:∀b o,s1.heap.get? b=some o->b∈cE X.stack->∃sl,h2.get? b=some { o with slots:=sl }:=λb o e hb=>by
  obtain⟨sl,e1⟩:=fl.un.any e (I.stkFree b hb) (λz=>nomatch z)
  obtain⟨_,o2,e2,d⟩:=I.stack.mem hb
  rw[e]at e2;cases e2
  obtain⟨sl',e3⟩:=up b _ e1 d
  exact⟨sl',e3⟩
 have ns:∀m,s1.heap.Ns X.env.locals m->h2.Ns X.env.locals m:=λm hm=>by
  obtain⟨o,es,ep,e,r⟩:=hm
  obtain⟨sl,e1⟩:=fl.un.any e I.free (λz=>nomatch z)
  exact up.ns ⟨_,es,ep,e1,r⟩
 have hok:cF X.prog X.w (upd H' a (.frz oe (.own a))) h2:=λb u e=>by
  by_cases hb:b=a
  ·subst hb;rw[aY]at e;cases e;exact⟨he,_,he⟩
  ·rw[aH hb]at e
   exact (fl.hok2 st b u e).stay (λ_ _ _ q=>q) (λc q=>by rw[aH (nt c _ q)];exact q) λc xs q=>by rw[aH (nt c _ q)];exact q
 have bare:=fl.bare;have un:=fl.un;have b0:=fl.b0;have b1:=fl.b1;have os:=fl.os;clear fl fly up
 obtain⟨hh,g,d,t,os'⟩:=s'
 obtain rfl:os'=s1.os:=os;show aA X ag σ _ { s1 with heap:=h2,gens:=g,drawn:=d,toks:=t };refine I.step (h':=h2) (g':=g) (d':=d) (t':=t) (ch:=[]) (λ_ z=>nomatch z) (λb o n1 n2 _ e n=>st _ _ (b1 b o e n (off b n1 n2))) (λb o n1 hb _ e n=>?_) (λb o _ e n=>by rw[aH (nb b o e)];exact un.free b o e n (λz=>nomatch z)) (λb o _ e=>?_)
  (λb xs q=>by rw[aH (nt b _ (un.tups b xs q))];exact un.tups b xs q) (λb o u q=>by rw[aH (nt b _ (un.frzs b o u q))];exact un.frzs b o u q) (λb ps q=>by
   obtain⟨more,q'⟩:=un.tbls b ps q
   exact⟨more,by rw[aH (nt b _ q')];exact q'⟩) ns hok bare
 ·by_cases hs:b∈cE X.stack
  ·exact slot b o e hs
  ·exact⟨o.slots,st _ _ (b1 b o e n hs)⟩
 ·by_cases hb:b∈cE X.stack
  ·obtain⟨sl,e1⟩:=slot b o e hb
   exact⟨_,e1⟩
  ·obtain⟨o',e1⟩:=b0 b o e hb
   exact⟨o',st _ _ e1⟩
abbrev Cx.suite (X:Cx)(a:ax):Cx:={ X with A:=X.A.mark (some (.ref a)),calm:=false,xe:=λ_ _=>False }
theorem Cx.Ok.suite {X:Cx}(ok:X.Ok)(a:ax):(X.suite a).Ok:=
 ⟨ok.mod,ok.kind,ok.glob,ok.blt,ok.above,ok.inj,ok.has,ok.cab,λz=>Bool.noConfusion z,ok.frames,ok.stk,ok.exf,ok.bs,ok.bsz,ok.noex,ok.exfs,ok.funs,ok.frf⟩
theorem aA.suite (I:aA X ag σ H s)(a:ax):aA (X.suite a) ag σ H s:=⟨I.ok.suite a,I.os,I.bare,I.base,I.loc,I.cell,I.free,I.freeC,I.pin,I.hok,I.len⟩
theorem aA.unsuite (I:aA (X.suite a) ag σ H s)(ok:X.Ok):aA X ag σ H s:=⟨ok,I.os,I.bare,I.base,I.loc,I.cell,I.free,I.freeC,I.pin,I.hok,I.len⟩
theorem aV1 {M:Model}{A:az}{E:av->aw->Prop}{K:ac}{e C D:ax}{oe:Obj}{Q:Bool->aw->Prop}(k:K.In s.heap)(he:s.heap.get? e=some oe)(hc:oe.cls = .ref C)(h1:(PySem.W.clsIn K D).isSome=true)(h2:PySem.W.typeIn K (.ref D)=some (.type "type"))(h3:PySem.W.subIn K (.ref D) (.type "BaseException")=some true)(h4:PySem.W.subIn K (.ref C) (.ref D)=some true)(hq:Q true s):wpAny M A (excMatches (.ref e) (.ref D)) Q E s:=by
 obtain⟨h,g,d,t,os⟩:=s
 have k:K.In h:=k;have he:h.get? e=some oe:=he;have l1:PySem.W.Looks M h (isType (.ref D)) true:=by
  unfold PySem.W.clsIn at h1;split at h1
  ·rename_i c' d' cd' sl' ho
   intro A' Q' E' s' kk q;unfold isType loadHead;exact bx4 (wpAny_loadPart (kk _ _ (k _ _ ho)) (by3 q))
  ·cases h1
 have l2:PySem.W.Looks M h (typeOf (.ref D)) (.type "type"):=PySem.W.looks_typeIn k h2;have l3:PySem.W.Looks M h (isSubtype (.ref D) (.type "BaseException")) true:=PySem.W.looks_subIn k h3;have l4:PySem.W.Looks M h (isSubtype (.ref C) (.ref D)) true:=PySem.W.looks_subIn k h4;have l5:PySem.W.Looks M h (typeOf (.ref e)) (.ref C):=hc▸(PySem.W.Looks.ld he).andThen .now;have l6:PySem.W.Looks M h (isInstance (.ref D) (.type "tuple")) false:=l2.andThen (PySem.W.Looks.of_pure tc_notTuple);have l7:PySem.W.Looks M h (isExcClass (.ref D)) true:=by
  unfold isExcClass;exact l1.andThen (by simpa using l3)
 have f:=tc_notTuple;unfold excMatches
 repeat (first|exact hq|(with_reducible refine l2.at ?_)|(with_reducible refine l7.at ?_)|(with_reducible refine l1.at ?_)|(with_reducible refine l3.at ?_)|(with_reducible refine l5.at ?_)|(with_reducible refine l4.at ?_)|wp_step)
end
section
variable {X:Cx}{ag:List (ax×Obj)}{σ:St}{H H1 H':Hp}{s s1 s':aw}{B:Heap}{a C Ch:ax}{i:Nat}{x n:Str}{np pos hpos:Pos}{b₀:Stmt}{suite:List Stmt}{ts:TS}{D:cB}{d6:List ExceptHandler}
structure B0 (K:ac)(Ch:ax):Prop where
 c1:(PySem.W.clsIn K Ch).isSome=true
 c2:PySem.W.typeIn K (.ref Ch)=some (.type "type")
 c3:PySem.W.subIn K (.ref Ch) (.type "BaseException")=some true
end
abbrev TB:=cB->XK->St->Hp->Prop
def XB (X:Cx)(ag:List (ax×Obj))(σ:St)(Ex:XK):av->aw->Prop:=λe s'=>∃H1 s1,aA X ag σ H1 s1/\bY X.prog X.w X.stack H1 s1 Ex e s'
def PB (X:Cx)(sts:List Stmt)(t:TB):Prop:=
 ∀(ag:List (ax×Obj)) (s:aw) (σ:St) (H:Hp) (D:cB) (Ex:XK),aA X ag σ H s->t D Ex σ H->wpAny (model X.prog X.w) X.A (execs sts X.env) (SP X ag D) (XB X ag σ Ex) s
def aV2 (c:TT)(t u:TB):TB:=λD Ex σ H=>c σ H λb H1=>if b=true then t D Ex σ H1 else u D Ex σ H1
section
variable {X:Cx}{k:Nat}{f Ch:ax}{fd:FuncData}{ps:List Str}{sp:Sp}{x n:Str}{p cp pos np hpos:Pos}{e c:Expr}{es:List Expr}{t:TA}{tb ub:TB}{tc:TT}{sa sb body:List Stmt}{i:Nat}{b₀:Stmt}{suite:List Stmt}{ts:TS}
theorem aV3 (hc:∀E,PT (X.wish E) c tc)(ha:PB X sa tb)(hb:PB X sb ub):PB X [.If c sa sb pos] (aV2 tc tb ub):=by
 intro ag s σ H D Ex I h;refine wpAny_execs_cons (wpAny_If (aP (hc (XB X ag σ Ex) ag s σ H _ (I.wish _) h) λd s1 h1=>?_))
 obtain⟨H1,I1,q1⟩:=h1
 have I1:=I1.unwish;have fin:∀(fl:Flow) (s2:aw),SP X ag D fl s2->(match fl with|.next=>wpAny (model X.prog X.w) X.A (execs [] X.env) (SP X ag D) (XB X ag σ Ex) s2|fl=>SP X ag D fl s2):=λfl s2 q=>by
  cases fl with
  |next=>exact bL4 q
  |_=>exact q
 cases d with
 |true=>exact aP (ha ag s1 σ H1 D Ex I1 q1) fin
 |false=>exact aP (hb ag s1 σ H1 D Ex I1 q1) fin
end
section
variable {X:Cx}{ag:List (ax×Obj)}{σ:St}{H H':Hp}{s:aw}{a:ax}
theorem aA.reH (I:aA X ag σ H s)(d:∀b,b≠a->H' b=H b)(ha:∃x,H a=some x)(tup:∀xs,H a≠some (.tup xs))(frz:∀o v,X.H₀ a≠some (.frz o v))(tbl:∀ps,H a≠some (.tbl ps))(hok:cF X.prog X.w H' s.heap):aA X ag σ H' s:=by
 have none:∀b,H b=none->H' b=none:=λb e=>by
  rw[d b λz=>?_];exact e
  obtain⟨x,hx⟩:=ha
  rw[z,hx]at e;cases e
 refine⟨I.ok,I.os,I.bare,⟨I.base.keep,I.base.slot,λb o e n hx=>none b (I.base.free b o e n hx),I.base.there,λb xs q=>?_,λb o u q=>?_,λb ps q=>?_⟩,I.loc,I.cell,none _ I.free,λx c e=>none c (I.freeC x c e),λp hp=>?_,hok,I.len⟩
 ·have e:=I.base.tups b xs q
  rw[d b λz=>tup xs (by rw[<- z];exact e)];exact e
 ·rw[d b λz=>frz o u (by rw[<- z];exact q)];exact I.base.frzs b o u q
 ·obtain⟨more,e⟩:=I.base.tbls b ps q
  exact⟨more,by rw[d b λz=>tbl _ (by rw[<- z];exact e)];exact e⟩
 ·obtain⟨e,n,r⟩:=I.pin p hp
  exact⟨e,none _ n,r⟩
end
end L2
namespace Core
open PySem L2 PP
def jE (ns:af):Bool:=((ns.zip (ns.drop 1)).map λp=>decide (p.1<p.2)).all id
theorem uS {α β:Type}{l:List α}{f:α->β}{i:Nat}{x:α}(h:l[i]? = some x):(l.take (i+1)).map f=(l.take i).map f++[f x]:=by
 rw[bF2,h];simp
theorem nF:∀{ns:af},jE ns=true->ns.Pairwise (·<·)
 |[],_=>.nil
 |[x],_=>bA5 _ _
 |x::y::r,h=>by
  have e:jE (x::y::r)=(decide (x<y)&&jE (y::r)):=rfl;rw[e,bB4]at h;have ih:=nF h.2;refine List.pairwise_cons.mpr ⟨λz hz=>?_,ih⟩;rcases by2.mp hz with rfl|hz
  ·exact of_decide_eq_true h.1
  ·exact Int.lt_trans (of_decide_eq_true h.1) (List.rel_of_pairwise_cons ih hz)
theorem B1:∀{ns:af},ns.Pairwise (·<·)->jE ns=true
 |[],_=>rfl
 |[x],_=>rfl
 |x::y::r,h=>by
  have e:jE (x::y::r)=(decide (x<y)&&jE (y::r)):=rfl;have h':=List.pairwise_cons.mp h;rw[e,B1 h'.2,bN2];exact by9 (h'.1 y bz8)
def kin (ws:af)(ls:aa)(S:af)(h:Int):Bool:=!decide (h∈S)&&decide (ws.getD h.toNat 0<=(((bT ls h).filter λx=>decide (x∈S)).length:Int))
def nextOf (ws:af)(ls:aa)(S:af):af:=((List.range ws.length).map λ(i:Nat)=>(i:Int)).filter (kin ws ls S)
def b9 (ws:af)(ls:aa)(S:af):Nat->af
 |0=>S
 |k+1=>b9 ws ls S k++nextOf ws ls (b9 ws ls S k)
def dJ (ws:af)(S:af):Nat:=(((List.range ws.length).map λ(i:Nat)=>(i:Int)).filter λx=>!decide (x∈S)).length
theorem B2 {α:Type}(p q:α->Bool)(h:∀x,q x=true->p x=false):∀L:List α,(L.filter λx=>!p x&&!q x).length+(L.filter q).length=(L.filter λx=>!p x).length
 |[]=>rfl
 |x::r=>by
  have ih:=B2 p q h r;cases e1:p x with
  |true=>
   have e2:q x=false:=by
    cases e:q x with
    |false=>rfl
    |true=>have:=h x e;rw[e1]at this;cases this
   simp only[bK5,e1,e2,Bool.not_true,Bool.false_and,bA6,bF8];exact ih
  |false=>
   cases e2:q x with
   |true=>
    simp only[bK5,e1,e2,Bool.not_true,Bool.not_false,Bool.and_false,bA6,bF8,if_true,bA3];omega
   |false=>
    simp only[bK5,e1,e2,Bool.not_false,bN2,bA6,bF8,if_true,bA3];omega
theorem B3 {ws:af}{ls:aa}{S:af}{x:Int}(h:kin ws ls S x=true):decide (x∈S)=false:=by
 unfold kin at h;cases e:decide (x∈S) with
 |false=>rfl
 |true=>rw[e]at h;cases h
theorem uT (ws:af)(ls:aa)(S:af):dJ ws (S++nextOf ws ls S)+(nextOf ws ls S).length=dJ ws S:=by
 have e:=B2 (λx=>decide (x∈S)) (kin ws ls S) (λx h=>B3 h) ((List.range ws.length).map λ(i:Nat)=>(i:Int));unfold dJ;rw[<- e];congr 2;refine List.filter_congr λx hx=>?_
 have:decide (x∈S++nextOf ws ls S)=(decide (x∈S)||kin ws ls S x):=by
  rw[bC7];unfold nextOf;simp only[bz5,bB3,bH6,Bool.or_eq_true]
  exact⟨λz=>z.elim .inl λz=>.inr z.2,λz=>z.elim .inl λz=>.inr ⟨hx,z⟩⟩
 rw[this];cases decide (x∈S)<;>cases kin ws ls S x<;>rfl
theorem aV4 (ws:af)(S:af):dJ ws S<=ws.length:=by
 unfold dJ;refine bA9 (bG2 _ _) ?_;rw[bx7,bE4];exact bx9 _
theorem aV5 (ws:af)(ls:aa)(S:af):(nextOf ws ls S).length<=ws.length:=by
 unfold nextOf;refine bA9 (bG2 _ _) ?_;rw[bx7,bE4];exact bx9 _
def after (ws:af)(ls:aa)(S:af)(m:Nat):ae:=(List.range m).map λk=>nextOf ws ls (b9 ws ls S k)
theorem B4 (ws:af)(ls:aa)(S:af)(m:Nat):after ws ls S (m+1)=after ws ls S m++[nextOf ws ls (b9 ws ls S m)]:=by
 unfold after;rw[List.range_succ,bB7];rfl
theorem B5 (ws:af)(ls:aa)(ns:af):∀k,(b9 ws ls ns k).length+dJ ws (b9 ws ls ns k)=ns.length+dJ ws ns
 |0=>rfl
 |k+1=>by
  have ih:=B5 ws ls ns k;have cs:=uT ws ls (b9 ws ls ns k);show (b9 ws ls ns k++nextOf ws ls (b9 ws ls ns k)).length+dJ ws (b9 ws ls ns k++nextOf ws ls (b9 ws ls ns k))=_;rw[bx8];omega
theorem ad0 {ws ns:af}(hu:ns.Pairwise (·<·))(hin:∀x∈ns,0<=x/\x<(ws.length:Int)):ns.length+dJ ws ns<=ws.length:=by
 have nd:ns.Nodup:=hu.imp λh=>Int.ne_of_lt h
 have sub:ns ⊆ ((List.range ws.length).map λ(i:Nat)=>(i:Int)).filter λx=>decide (x∈ns):=λx hx=>by
  refine bH6.mpr ⟨bB8.mpr ⟨x.toNat,List.mem_range.mpr ?_,?_⟩,by9 hx⟩
  ·have:=hin x hx;omega
  ·have:=hin x hx;omega
 have h1:=nd.length_le_of_subset sub;have h2:=B2 (λ_=>false) (λx=>decide (x∈ns)) (λ_ _=>rfl) ((List.range ws.length).map λ(i:Nat)=>(i:Int));have h3:(((List.range ws.length).map λ(i:Nat)=>(i:Int)).filter λx=>!false&&!decide (x∈ns)).length=dJ ws ns:=rfl;have h4:(((List.range ws.length).map λ(i:Nat)=>(i:Int)).filter λx=>!false).length<=ws.length:=by
  refine bA9 (bG2 _ _) ?_;rw[bx7,bE4];exact bx9 _
 rw[h3]at h2;omega
theorem rN (ws:af)(ls:aa)(ns:af):∀m,(ns::after ws ls ns m).flatten=b9 ws ls ns m
 |0=>by simp[after,b9]
 |m+1=>by
  rw[B4,<- List.cons_append,bK2,rN ws ls ns m];simp[b9]
def cB (ws:af)(ls:aa)(ns:af)(m:Nat):Prop:=(∀k<m,nextOf ws ls (b9 ws ls ns k)≠[])/\nextOf ws ls (b9 ws ls ns m) = []
theorem aV6 {ws:af}{ls:aa}{ns:af}{m n:Nat}(h:cB ws ls ns m)(g:cB ws ls ns n):m=n:=by
 rcases Nat.lt_trichotomy m n with z|z|z
 ·exact absurd h.2 (g.1 m z)
 ·exact z
 ·exact absurd g.2 (h.1 n z)
theorem ad1 {ws:af}{ls:aa}{ns:af}:∀(m:Nat),(∀k<m,nextOf ws ls (b9 ws ls ns k)≠[])->m+dJ ws (b9 ws ls ns m)<=ws.length
 |0,_=>by have:=aV4 ws ns;show 0+dJ ws ns<=_;omega
 |m+1,h=>by
  have ih:=ad1 m λk hk=>h k (by omega)
  have cs:=uT ws ls (b9 ws ls ns m)
  have:1<=(nextOf ws ls (b9 ws ls ns m)).length:=by
   cases e:nextOf ws ls (b9 ws ls ns m) with
   |nil=>exact absurd e (h m (by omega))
   |cons _ _=>exact Nat.succ_le_succ (bB2 _)
  show m+1+dJ ws (b9 ws ls ns m++nextOf ws ls (b9 ws ls ns m))<=_;omega
theorem oU {ns:af}{i:Nat}{x:PV}(h:(intz ns)[i]? = some x):∃n,x = .int n/\ns[i]? = some n:=by
 rw[bz1]at h;cases e:ns[i]? with
 |none=>rw[e]at h;cases h
 |some n=>rw[e]at h;exact⟨n,(bz3 h).symm,rfl⟩
theorem nG {lo:Int}{n i:Nat}{x:PV}(h:(gB lo n)[i]? = some x):x = .int (lo+i)/\i<n:=by
 have hi:i<n:=by
  have:=(by4.mp h).1
  rwa [mV]at this
 rw[X4 hi]at h
 exact⟨(bz3 h).symm,hi⟩
def rng (n:Nat):af:=(List.range n).map λ(i:Nat)=>(i:Int)
theorem aV7 (n:Nat):(rng n).length=n:=by unfold rng;rw[bx7,bE4]
theorem aV8 {n i:Nat}(h:i<n):(rng n)[i]? = some (i:Int):=by unfold rng;rw[bz1,List.getElem?_range h];rfl
theorem uU {n:Nat}{x:Int}:x∈rng n↔0<=x/\x<(n:Int):=by
 unfold rng;rw[bB8];constructor
 ·rintro⟨i,hi,rfl⟩
  have:=List.mem_range.mp hi
  omega
 ·intro h
  exact⟨x.toNat,List.mem_range.mpr (by omega),by omega⟩
theorem jF {α:Type}{l:List α}{p:α->Bool}{i:Nat}{x:α}(h:l[i]? = some x):(l.take (i+1)).filter p=(l.take i).filter p++(if p x=true then [x] else []):=by
 rw[bF2,h,List.filter_append];congr 1;cases e:p x<;>simp[e]
theorem dR (a b:af):intz (a++b)=intz a++intz b:=bB7
theorem bM (a:af):(intz a).length=a.length:=bx7 _
def aZ (ws:af)(ls:aa):PV:=.tup [.tup (intz ws),.tup (ls.map λl=>.tup [.int l.1,.int l.2])]
structure Wb (ws:af)(ls:aa):Prop where
 few:ws.length<=40
 most:ls.length<=1700
 links:∀l∈ls,(0<=l.1/\l.1<ws.length)/\0<=l.2/\l.2<ws.length
def gE (x:PV)(ns:af):Prop:=x = .tup (intz ns)∨x = .lst (intz ns)
theorem gE.seq {x:PV}{ns:af}(h:gE x ns):j9 x=some (intz ns):=by rcases h with rfl|rfl<;>rfl
theorem gE.seqT {x:PV}{ns:af}(h:gE x ns):seqT x=some (intz ns):=by rcases h with rfl|rfl<;>rfl
theorem iV:∀(ls:aa),flats (ls.map λl=>PV.tup [.int l.1,.int l.2])=true
 |[]=>rfl
 |l::r=>by
  show (flat (.tup [.int l.1,.int l.2])&&flats (r.map λl=>PV.tup [.int l.1,.int l.2]))=true;rw[iV r];rfl
theorem kS (ws:af)(ls:aa):flat (aZ ws ls)=true:=by
 show flats [.tup (intz ws),.tup (ls.map λl=>PV.tup [.int l.1,.int l.2])]=true;show (flat (.tup (intz ws))&&(flat (.tup (ls.map λl=>PV.tup [.int l.1,.int l.2]))&&true))=true;show (flats (intz ws)&&(flats (ls.map λl=>PV.tup [.int l.1,.int l.2])&&true))=true;rw[bV,iV];rfl
theorem iB (ns:af):flat (.tup (intz ns))=true:=bV ns
def oV:cG:=λxs Q=>∃ws ls,xs = [aZ ws ls]/\Q (.int ws.length)
def ad2:aV:=(bC (aM i8 (a9 (b6 (a5 0) (qC (.int 0))) aC)))
abbrev e8 (t:aV)(N:List Str)(p:cG):Prop:=∀xs Q,p xs Q->t { nx:=λ_=>Q .non,rt:=Q } (eI N xs)
theorem aV9:e8 ad2 ["web"] oV:=by
 rintro xs Q ⟨ws,ls,rfl,q⟩;refine⟨_,rfl,_,_,_,rfl,rfl,rfl,_,_,rfl,rfl,trivial,?_⟩;rw[bM];exact q
def B6:cG:=λxs Q=>∃x ns,xs = [x]/\gE x ns/\ns.length<=1000/\Q (.bl (jE ns))
def inB (n:Nat)(x:Int):Bool:=decide (0<=x)&&decide (x<(n:Int))
def jG:cG:=λxs Q=>∃ws ls n,xs = [aZ ws ls,.int n]/\Q (.bl (inB ws.length n))
def ad3:aV:=(bC (mT (rC (a5 1) (qC (.int 0))) (jR (a5 1) (aM oV (a9 (a5 0) aC)))))
theorem aW0:e8 ad3 ["web","number"] jG:=by
 rintro xs Q ⟨ws,ls,n,rfl,q⟩;refine⟨_,rfl,_,_,rfl,rfl,_,rfl,?_⟩;unfold inB at q;by_cases h:(0:Int)<=n
 ·rw[by9 h]at q ⊢
  refine aU ⟨_,rfl,_,rfl,ws,ls,rfl,_,_,rfl,rfl,trivial,?_⟩;simpa using q
 ·rw[by5 h]at q ⊢
  exact aN ⟨trivial,by simpa using q⟩
def dB (n:Nat)(ns:af):Bool:=jE ns&&(ns.map (inB n)).all id
def uV:cG:=λxs Q=>∃ws ls x ns,xs = [aZ ws ls,x]/\gE x ns/\ns.length<=1000/\Q (.bl (dB ws.length ns))
def ad4:aV:=(bC (mT (aM B6 (a9 (a5 1) aC)) (aM yS (a9 (gL (eG (a5 1)) [none,some 0] (cH 0) mX (aM jG (a9 (a5 1) (a9 (a5 0) aC)))) aC))))
theorem uW {x:PV}{ns:af}(h:gE x ns):(Slot.sh (flat x) x).tag = .rd->flat x=true:=by
 cases flat x<;>intro z<;>cases z
theorem aW1:e8 ad4 ["web","numbers"] uV:=by
 rintro xs Q ⟨ws,ls,x,ns,rfl,hx,hl,q⟩;refine⟨_,rfl,x,ns,rfl,hx,hl,_,rfl,?_⟩;unfold dB at q;cases h:jE ns with
 |false=>rw[h]at q;exact aN ⟨trivial,q⟩
 |true=>
  rw[h]at q;refine aU ⟨_,rfl,_,hx.seq,uW hx,by rw[bM];omega,λi acc=>acc=(((ns.take i).map (inB ws.length)).map PV.bl),rfl,?_,?_⟩
  ·rintro i y acc hy rfl
   obtain⟨n,rfl,hn⟩:=oU hy
   have tk:((ns.take (i+1)).map (inB ws.length)).map PV.bl=((ns.take i).map (inB ws.length)).map PV.bl++[PV.bl (inB ws.length n)]:=by rw[uS hn,bB7];rfl
   exact⟨_,rfl,_,rfl,ws,ls,n,rfl,trivial,tk.symm⟩
  ·rintro acc rfl
   rw[bM,bA4]
   exact⟨_,rfl,trivial,by simpa using q⟩
theorem gE.noscr {x:PV}{ns:af}(h:gE x ns):∀ms,([x]:List PV)≠[.scr ms]:=by
 rcases h with rfl|rfl<;>intro ms z<;>cases z
structure DS (ps:List (aG×PV))(S:af):Prop where
 has:∀i:Int,(cJ ps (Sum.inl i:aG)).isSome=decide (i∈S)
 len:ps.length<=S.length
 fl:flats (ps.map (·.2))=true
theorem DS.nil:DS [] []:=⟨λi=>rfl,bx9 _,rfl⟩
section
variable {κ:Type}[DecidableEq κ]
theorem aW2 {k:κ}:cJ ([]:List (κ×PV)) k=none:=rfl
theorem jV {p:κ×PV}{r:List (κ×PV)}{k:κ}(e:p.1=k):cJ (p::r) k=some p.2:=by simp[cJ,bH7,e]
theorem jW {p:κ×PV}{r:List (κ×PV)}{k:κ}(e:¬p.1=k):cJ (p::r) k=cJ r k:=by simp[cJ,bH7,e]
theorem rO (k:κ):∀kvs:List (κ×PV),(kvs.any λkv=>decide (kv.1=k))=(cJ kvs k).isSome
 |[]=>rfl
 |p::r=>by
  rw[List.any_cons];by_cases e:p.1=k
  ·simp only[jV e,by9 e,Bool.true_or,Option.isSome_some]
  ·rw[jW e,by5 e,Bool.false_or];exact rO k r
theorem ad5 (k j:κ)(y:PV):∀kvs:List (κ×PV),cJ (kvs.map λkv=>if kv.1=k then (kv.1,y) else kv) j=(cJ kvs j).map λx=>if j=k then y else x
 |[]=>rfl
 |p::r=>by
  have ih:=ad5 k j y r;rw[bC1];by_cases h:p.1=k
  ·rw[if_pos h]
   by_cases e:p.1=j
   ·rw[jV (p:=(p.1,y)) e,jV e,Option.map_some,if_pos (e.symm.trans h)]
   ·rw[jW (p:=(p.1,y)) e,jW e,ih]
  ·rw[if_neg h]
   by_cases e:p.1=j
   ·rw[jV (p:=p) e,jV e,Option.map_some,if_neg (λz=>h (e.trans z))]
   ·rw[jW (p:=p) e,jW e,ih]
theorem ad6 (k j:κ)(y:PV):∀kvs:List (κ×PV),cJ kvs k=none->cJ (kvs++[(k,y)]) j=if j=k then some y else cJ kvs j
 |[],_=>by
  by_cases e:k=j
  ·rw[if_pos e.symm];exact jV (p:=(k,y)) e
  ·rw[if_neg (λz=>e z.symm)];exact jW (p:=(k,y)) e
 |p::r,hn=>by
  rw[List.cons_append];have hk:¬p.1=k:=λz=>by rw[jV z]at hn;cases hn
  rw[jW hk]at hn;have ih:=ad6 k j y r hn;by_cases e:p.1=j
  ·rw[jV e,jV e,if_neg (λz=>hk (e.trans z))]
  ·rw[jW e,jW e,ih]
theorem ad7 (kvs:List (κ×PV))(k j:κ)(y:PV):cJ (dL kvs k y) j=if j=k then some y else cJ kvs j:=by
 unfold dL;by_cases a:(kvs.any λkv=>decide (kv.1=k))=true
 ·rw[if_pos a,ad5]
  rw[rO]at a;by_cases e:j=k
  ·obtain⟨x,hx⟩:=Option.isSome_iff_exists.mp a
   rw[if_pos e,e,hx,Option.map_some,if_pos rfl]
  ·rw[if_neg e]
   cases cJ kvs j with
   |none=>rfl
   |some x=>rw[Option.map_some,if_neg e]
 ·rw[if_neg a]
  refine ad6 k j y kvs ?_;rw[rO]at a;cases q:cJ kvs k with
  |none=>rfl
  |some x=>rw[q]at a;exact (a rfl).elim
theorem ad8 (kvs:List (κ×PV))(k:κ)(v:PV):(dL kvs k v).length<=kvs.length+1:=by
 unfold dL;split
 ·rw[bx7];omega
 ·rw[bx8,bA3,List.length_nil];omega
end
theorem ad9:∀(xs:List PV),flats xs=true↔∀x∈xs,flat x=true
 |[]=>by simp[flats]
 |x::r=>by
  unfold flats;rw[bB4,ad9 r];simp
theorem aW3 {κ:Type}[DecidableEq κ]{ps:List (κ×PV)}{k:κ}{v:PV}{p:κ×PV}(h:p∈dL ps k v):p.2=v∨p∈ps:=by
 unfold dL at h;split at h
 ·obtain⟨q,hq,e⟩:=bB8.mp h
  split at e
  ·subst e;exact .inl rfl
  ·subst e;exact .inr hq
 ·rcases bB3.mp h with h|h
  ·exact .inr h
  ·rw[by0.mp h];exact .inl rfl
theorem ae0 {κ:Type}[DecidableEq κ]{ps:List (κ×PV)}{k:κ}{v:PV}(h:flats (ps.map (·.2))=true)(hv:flat v=true):flats ((dL ps k v).map (·.2))=true:=by
 rw[ad9]at h ⊢;intro x hx
 obtain⟨p,hp,rfl⟩:=bB8.mp hx
 rcases aW3 hp with e|e
 ·rw[e];exact hv
 ·exact h _ (bB8.mpr ⟨p,e,rfl⟩)
theorem DS.put {ps:List (aG×PV)}{S:af}(h:DS ps S)(x:Int)(v:PV)(hv:flat v=true):DS (dL ps (Sum.inl x:aG) v) (S++[x]):=by
 refine⟨λi=>?_,?_,ae0 h.fl hv⟩
 ·rw[ad7]
  by_cases e:i=x
  ·subst e;rw[if_pos rfl];simp
  ·rw[if_neg (λz=>e (Sum.inl.inj z)),h.has]
   simp[e]
 ·have:=ad8 ps (Sum.inl x:aG) v
  have:=h.len
  rw[bx8,bB6];omega
theorem DS.merge {S:af}:∀{mp ps:List (aG×PV)}{T:af},DS ps S->DS mp T->DS (jA ps mp) (S++T):=by
 have key:∀(mp:List (aG×PV)) {ps:List (aG×PV)} (i:Int),(cJ (jA ps mp) (Sum.inl i:aG)).isSome=((cJ ps (Sum.inl i:aG)).isSome||(cJ mp (Sum.inl i:aG)).isSome):=λmp=>by
  induction mp with
  |nil=>intro ps i;show (cJ ps (Sum.inl i:aG)).isSome=_;rw[aW2];simp
  |cons p r ih=>
   intro ps i;show (cJ (jA (dL ps p.1 p.2) r) (Sum.inl i:aG)).isSome=_;rw[ih,ad7];by_cases e:(Sum.inl i:aG)=p.1
   ·rw[if_pos e,jV e.symm];simp
   ·rw[if_neg e,jW (Ne.symm e)]
 have keyl:∀(mp:List (aG×PV)) {ps:List (aG×PV)},(jA ps mp).length<=ps.length+mp.length:=λmp=>by
  induction mp with
  |nil=>intro ps;exact bx9 _
  |cons p r ih=>
   intro ps;have h1:=ih (ps:=dL ps p.1 p.2);have h2:=ad8 ps p.1 p.2;show (jA (dL ps p.1 p.2) r).length<=_;rw[bA3];omega
 have keyf:∀(mp:List (aG×PV)) {ps:List (aG×PV)},flats (ps.map (·.2))=true->flats (mp.map (·.2))=true->flats ((jA ps mp).map (·.2))=true:=λmp=>by
  induction mp with
  |nil=>intro ps h _;exact h
  |cons p r ih=>
   intro ps h g;have g:(flat p.2&&flats (r.map (·.2)))=true:=g;rw[bB4]at g;exact ih (ps:=dL ps p.1 p.2) (ae0 h g.1) g.2
 intro mp ps T h g;refine⟨λi=>?_,?_,keyf mp h.fl g.fl⟩
 ·rw[key,h.has,g.has,bC7];simp
 ·have:=keyl mp (ps:=ps)
  have:=h.len
  have:=g.len
  rw[bx8];omega
def nH:cG:=λxs Q=>∃x ns,xs = [x]/\gE x ns/\ns.length<=1000/\∀ps,DS ps ns->Q (.dK ps)
def ae1:aV:=(aJ (i7 1 (qC (.dK [])))
 (aJ (fG (eG (a5 0)) (cH 2)
  (u9 1 (a5 2) (qC (.bl true))))
 (lN 1)))
theorem aW4:e8 ae1 ["hearths","inside","hearth"] nH:=by
 rintro xs Q ⟨x,ns,rfl,hx,hl,q⟩;refine⟨rfl,rfl,_,rfl,_,hx.seq,uW hx,λi ρ=>∃y ps,ρ = [some (.sh (flat x) x),some (.own (.dK ps)),y]/\DS ps (ns.take i),⟨none,[],rfl,DS.nil⟩,?_,?_⟩
 ·rintro i y ρ hy ⟨y0,ps,rfl,d⟩
  obtain⟨n,rfl,hn⟩:=oU hy
  have aj:=d.len;rw[bB5]at aj;refine⟨_,rfl,_,rfl,Sum.inl n,rfl,trivial,by omega,_,_,rfl,?_⟩;rw[bF2,hn];exact d.put n _ rfl
 ·rintro ρ ⟨y,ps,rfl,d⟩
  rw[bM,bA4]at d
  exact⟨_,rfl,trivial,q ps d⟩
def uX:cG:=λxs Q=>∃x ns ps S,xs = [x,.dK ps]/\gE x ns/\DS ps S/\ns.length<=10000/\Q (.int ((ns.filter λx=>decide (x∈S)).length:Nat))
def ae2:aV:=(bC (aM i8 (a9 (gL (eG (a5 0)) [none,some 1] (cH 0) (aO (kN false (a5 0) (a5 1))) (a5 0)) aC)))
theorem aW5:e8 ae2 ["hearths","inside"] uX:=by
 rintro xs Q ⟨x,ns,ps,S,rfl,hx,d,hl,q⟩;refine⟨_,rfl,_,hx.seq,uW hx,by rw[bM];omega,λi acc=>acc=intz ((ns.take i).filter λx=>decide (x∈S)),rfl,?_,?_⟩
 ·rintro i y acc hy rfl
  obtain⟨n,rfl,hn⟩:=oU hy
  have tk:=jF (p:=λx=>decide (x∈S)) hn;refine⟨_,rfl,_,rfl,_,.inl ⟨ps,Sum.inl n,rfl,rfl,rfl⟩,_,rfl,?_⟩;show if (cJ ps (Sum.inl n:aG)).isSome=true then _ else _
  rw[d.has n];by_cases h:n∈S
  ·rw[by9 h]at tk ⊢
   refine aU ⟨_,rfl,trivial,?_⟩;rw[if_pos rfl]at tk;show _=intz (List.filter _ (List.take (i+1) ns));rw[tk,dR];rfl
  ·rw[by5 h]at tk ⊢
   refine aN ?_;rw[if_neg (by decide),bA0]at tk;show _=intz (List.filter _ (List.take (i+1) ns));rw[tk]
 ·rintro acc rfl
  rw[bM,bA4];refine⟨_,_,rfl,rfl,trivial,?_⟩;rw[bM];exact q
def oW (n:Nat)(ls:aa):List PV:=(List.range n).map λ(k:Nat)=>PV.lst (intz (bT ls k))
def B7:cG:=λxs Q=>∃ws ls,xs = [aZ ws ls]/\Wb ws ls/\Q (.lst (oW ws.length ls))
theorem aW6 {n:Nat}{ls:aa}{h:Int}(h0:0<=h)(h1:h<(n:Int)):atI (oW n ls) h=some (.lst (intz (bT ls h))):=by
 refine qU h0 ?_;unfold oW;rw[bz1,List.getElem?_range (by omega)];show some (PV.lst (intz (bT ls ((h.toNat:Nat):Int))))=_;rw[show ((h.toNat:Nat):Int)=h by omega]
def uY:cG:=λxs Q=>∃ws ls ps S h,xs = [aZ ws ls,.lst (oW ws.length ls),.dK ps,.int h]/\Wb ws ls/\DS ps S/\0<=h/\h<(ws.length:Int)/\Q (.bl (kin ws ls S h))
def ae3:aV:=(bC (mT (kN true (a5 3) (a5 2)) (rC (aM uX (a9 (b6 (a5 1) (a5 3)) (a9 (a5 2) aC))) (b6 (b6 (a5 0) (qC (.int 0))) (a5 3)))))
theorem oX {ws:af}{h:Int}(h0:0<=h)(h1:h<(ws.length:Int)):atI (intz ws) h=some (.int (ws.getD h.toNat 0)):=by
 refine qU h0 ?_
 have:h.toNat<ws.length:=by omega
 rw[bz1,bC0,by1 this];rfl
theorem aW7:e8 ae3 ["web","around","burning","hearth"] uY:=by
 rintro xs Q ⟨ws,ls,ps,S,h,rfl,wb,d,h0,h1,q⟩;refine⟨_,rfl,_,rfl,_,.inl ⟨ps,Sum.inl h,rfl,rfl,rfl⟩,_,rfl,?_⟩;show if (!(cJ ps (Sum.inl h:aG)).isSome)=true then _ else _
 rw[d.has h];unfold kin at q;by_cases hm:h∈S
 ·rw[by9 hm]at q ⊢
  exact aN ⟨trivial,by simpa using q⟩
 ·rw[by5 hm]at q ⊢
  have nl:=qT ls h
  have:=wb.most
  refine aU ⟨_,rfl,_,rfl,_,_,_,rfl,rfl,aW6 h0 h1,_,rfl,_,bT ls h,ps,S,rfl,.inr rfl,d,by omega,_,rfl,_,_,_,rfl,rfl,rfl,_,rfl,_,_,_,rfl,rfl,oX h0 h1,_,_,rfl,rfl,trivial,?_⟩;simpa using q
def rP:cG:=λxs Q=>∃ws ls ps S,xs = [aZ ws ls,.lst (oW ws.length ls),.dK ps]/\Wb ws ls/\DS ps S/\Q (.tup (intz (nextOf ws ls S)))
def ae4:aV:=(bC (aM dG (a9 (gL (lO (aM oV (a9 (a5 0) aC))) [none,some 0,some 1,some 2] (cH 0) (aO (aM uY (a9 (a5 1) (a9 (a5 2) (a9 (a5 3) (a9 (a5 0) aC)))))) (a5 0)) aC)))
theorem aW8:e8 ae4 ["web","around","burning"] rP:=by
 rintro xs Q ⟨ws,ls,ps,S,rfl,wb,d,q⟩;have few:=wb.few;refine⟨_,rfl,ws,ls,rfl,_,rfl,by omega,by omega,by rw[mV];omega,λi acc=>acc=intz (((rng ws.length).take i).filter (kin ws ls S)),rfl,?_,?_⟩
 ·rintro i y acc hy rfl
  obtain⟨rfl,hi⟩:=nG hy
  have hi':i<ws.length:=by omega
  have tk:=jF (p:=kin ws ls S) (aV8 hi');have e0:(0:Int)+(i:Int)=(i:Int):=by omega
  refine⟨_,rfl,_,rfl,_,rfl,_,rfl,ws,ls,ps,S,_,rfl,wb,d,by omega,by omega,_,rfl,?_⟩;show if kin ws ls S ((0:Int)+(i:Int))=true then _ else _
  rw[e0];cases h:kin ws ls S (i:Int) with
  |true=>
   refine aU ⟨_,rfl,trivial,?_⟩;rw[h,if_pos rfl]at tk;show _=intz (List.filter _ (List.take (i+1) _));rw[tk,dR];show _++[PV.int _]=_;rfl
  |false=>
   refine aN ?_;rw[h,if_neg (by decide),bA0]at tk;show _=intz (List.filter _ (List.take (i+1) _));rw[tk]
 ·rintro acc rfl
  rw[mV,bH2 (by rw[aV7];omega)]
  exact⟨⟨_,_,rfl,rfl,bV _,trivial,q⟩,λns z=>by cases z⟩
def tups (rs:ae):List PV:=rs.map λr=>PV.tup (intz r)
theorem aW9 {rs:ae}{i:Nat}{x:PV}(h:(tups rs)[i]? = some x):∃r,x = .tup (intz r)/\rs[i]? = some r:=by
 unfold tups at h;rw[bz1]at h;cases e:rs[i]? with
 |none=>rw[e]at h;cases h
 |some n=>rw[e]at h;exact⟨n,(bz3 h).symm,rfl⟩
theorem ae5 (rs:ae):(tups rs).length=rs.length:=bx7 _
theorem kT {n:Nat}{ns:af}(h:dB n ns=true):jE ns=true/\∀x∈ns,0<=x/\x<(n:Int):=by
 unfold dB at h;rw[bB4,bH1]at h;refine⟨h.1,λx hx=>?_⟩
 have:=h.2 _ (bB8.mpr ⟨x,hx,rfl⟩)
 unfold inB at this;simpa using this
theorem nI {n:Nat}{ns:af}(h:dB n ns=true):ns.length<=n:=by
 obtain⟨h1,h2⟩:=kT h
 have:=ad0 (ws:=List.replicate n (0:Int)) (nF h1) (by rw[List.length_replicate];exact h2)
 rw[List.length_replicate]at this;omega
theorem nJ {ws:af}{ls:aa}{ns:af}(h:dB ws.length ns=true)(k:Nat):(b9 ws ls ns k).length<=ws.length:=by
 have h1:=B5 ws ls ns k;have h2:=ad0 (nF (kT h).1) (kT h).2;omega
theorem aX0 (g:Tg)(n:Int):Nw g (.int n):=by cases g<;>first|exact trivial|rfl
def rQ (x:PV)(ns:af):Prop:=x = .scr ns∨x = .lst (intz ns)
theorem rQ.seq {x:PV}{ns:af}(h:rQ x ns):j9 x=some (intz ns):=by rcases h with rfl|rfl<;>rfl
theorem rQ.len {x:PV}{ns:af}(h:rQ x ns):X0 x=some ns.length:=by
 rcases h with rfl|rfl
 ·rfl
 ·show some (intz ns).length=_
  rw[bM]
def jH:cG:=λxs Q=>∃x ns k,xs = [x,.int k]/\rQ x ns/\0<=k/\Q (.int (ns.getD k.toNat 0))
def ae6:aV:=(aJ (bF (aO (jR (a5 1) (aM i8 (a9 (a5 0) aC)))) (bC (b6 (a5 0) (a5 1))) bI)
 (bC (qC (.int 0))))
theorem aX1:e8 ae6 ["script","k"] jH:=by
 rintro xs Q ⟨x,ns,k,rfl,hx,h0,q⟩;refine⟨_,rfl,_,rfl,_,_,rfl,hx.len,_,_,rfl,rfl,_,rfl,?_⟩;by_cases h:k<(ns.length:Int)
 ·rw[by9 h]
  exact aU ⟨_,rfl,_,rfl,_,_,_,hx.seq,rfl,oX h0 h,aX0 _ _,q⟩
 ·rw[by5 h]
  rw[bC0,List.getElem?_eq_none (by omega)]at q;exact aN ⟨trivial,q⟩
def bP (ls:aa):List PV:=ls.map λl=>PV.tup [.int l.1,.int l.2]
theorem lZ (ls:aa):(bP ls).length=ls.length:=bx7 _
def kU (l m:Int×Int):Prop:=l.1<m.1∨(l.1=m.1/\l.2<m.2)
structure m3 (n:Int)(ls:aa)(a b:Int):Prop where
 inn:∀l∈ls,0<=l.1/\l.1<l.2/\l.2<n
 ord:ls.Pairwise kU
 low:∀l∈ls,kU l (a,b)
theorem m3.mono {n a b a' b':Int}{ls:aa}(h:m3 n ls a b)(m:a<a'∨(a=a'/\b<=b')):m3 n ls a' b':=
 ⟨h.inn,h.ord,λl hl=>by have:=h.low l hl;unfold kU at *;dsimp only at *;omega⟩
theorem m3.add {n a b:Int}{ls:aa}(h:m3 n ls a b)(h0:0<=a/\a<b/\b<n):m3 n (ls++[(a,b)]) a (b+1):=by
 refine⟨λl hl=>?_,?_,λl hl=>?_⟩
 ·rcases bB3.mp hl with hl|hl
  ·exact h.inn l hl
  ·rw[by0.mp hl];exact h0
 ·exact bD2.mpr ⟨h.ord,bA5 _ _,λl hl m hm=>by rw[by0.mp hm];exact h.low l hl⟩
 ·rcases bB3.mp hl with hl|hl
  ·have:=h.low l hl;unfold kU at *;dsimp only at *;omega
  ·rw[by0.mp hl];unfold kU;dsimp only;omega
abbrev si (n:Int):Option Slot:=some (.sh true (.int n))
theorem B8 {ls:aa}{i:Nat}{x:PV}(h:(bP ls)[i]? = some x):∃l,x = .tup [.int l.1,.int l.2]/\ls[i]? = some l:=by
 unfold bP at h;rw[bz1]at h;cases e:ls[i]? with
 |none=>rw[e]at h;cases h
 |some n=>rw[e]at h;exact⟨n,(bz3 h).symm,rfl⟩
end Core
namespace PP
open PySem L2 PyProof.Rows
section
variable {X:Cx}{a b e:Expr}{ta tb te:aL}{tr:c9}{pos p2 p3 pos2:Pos}
def B9:V->Int
 |.int i=>i
 |_=>0
def nK (H:Hp):V->af
 |.ref a=>match H a with
  |some (.tup us)=>us.map B9
  |_=>[]
 |_=>[]
theorem aX2 {H:Hp}{a:ax}{ns:af}(h:H a=some (.tup (ns.map V.int))):nK H (.ref a)=ns:=by
 show (match H a with|some (.tup us)=>us.map B9|_=>[])=ns;rw[h];show (ns.map V.int).map B9=ns;rw[bK4];exact List.map_id _
theorem ae7 {K:ac}{M:ax->Prop}{H:Hp}:∀{us:List V}{ys:ae},Reps K M H us (ys.map λr=>PV.tup (intz r))->us.map (nK H)=ys/\∀u∈us,∃b,u = .ref b/\H b=some (.tup ((nK H u).map V.int))
 |_,[],.nil=>⟨rfl,λu h=>nomatch h⟩
 |_,y::ys,.cons r t=>by
  obtain⟨a,us,rfl,h,r1⟩:=r.sqT
  obtain rfl:=r1.ofInts
  obtain⟨h1,h2⟩:=ae7 t
  have hk:=aX2 h;refine⟨by rw[bC1,h1,hk],λu hu=>?_⟩;rcases by2.mp hu with rfl|hu
  ·exact⟨a,rfl,by rw[hk];exact h⟩
  ·exact h2 u hu
theorem ae8 {K:ac}{M:ax->Prop}{H:Hp}:∀{us:List V},(∀u∈us,∃b,u = .ref b/\H b=some (.tup ((nK H u).map V.int)))->Reps K M H us ((us.map (nK H)).map λr=>PV.tup (intz r))
 |[],_=>.nil
 |u::us,h=>by
  obtain⟨b,rfl,hb⟩:=h u bz8
  exact .cons (.tup hb (Reps.intz _)) (ae8 λv hv=>h v (bz9 _ hv))
end
def ae9 (K:ac):Sp:=λvs H Q _=>∃(a:ax) (ns:af),vs = [.ref a]/\(aS K H a (ns.map V.int)∨aR K H a (ns.map V.int))/\ns.length<=1000/\∀H',aE H H'->Q (.bl (Core.jE ns)) H'
def af0:Sp:=λvs H Q _=>∃v ws ls,vs = [v]/\U8 H v ws ls/\ws.length<=1000/\ls.length<=2000/\(∀l∈ls,(0<=l.1/\l.1<ws.length)/\0<=l.2/\l.2<ws.length)/\
 ∀(r:ax) (bs:List ax) (H':Hp),bs.length=ws.length->kJ H H' r bs (λk=>bT ls k)->Q (.ref r) H'
section
variable {P:ay}{w:ba}{K:ac}{mg:Str→Option av}{base:Heap}{f:ax}{fd:FuncData}{k:Nat}
theorem aX3 (F:bZ P w K mg base fE k f fd ["things"] (ae9 K))(b:dQ K fd ["things"] [])(kp:PySem.W.keepIn K (.ref f)=true)(m:mg "rises" = some (.ref f)):Df P w K mg base k "rises" ["things"] Core.B6:=by
 refine⟨f,fd,F.imp λvs H Q E h=>?_,b,kp,m⟩
 obtain⟨xs,Qp,r,⟨x,ns,rfl,hx,hl,q⟩,k⟩:=h
 obtain⟨v,rfl,r1⟩:=r.one
 rcases hx with rfl|rfl
 ·obtain⟨a,us,rfl,h,r2⟩:=r1.sqT
  obtain rfl:=r2.ofInts
  exact⟨a,ns,rfl,.inl (aS.of h),hl,λH' s=>k _ H' _ s (.bl _) q⟩
 ·obtain⟨a,us,rfl,_,h,r2⟩:=r1.sqL
  obtain rfl:=r2.ofInts
  exact⟨a,ns,rfl,.inr (aR.of h),hl,λH' s=>k _ H' _ s (.bl _) q⟩
theorem af1 {M:ax->Prop}{H:Hp}:∀{us:List V}{ls:aa},Reps K M H us (ls.map λl=>PV.tup [.int l.1,.int l.2])->qS H us ls
 |_,[],.nil=>.nil
 |_,l::ls,.cons r t=>by
  obtain⟨a,us,rfl,h,r1⟩:=r.sqT
  obtain⟨u1,u2,rfl,q1,q2⟩:=r1.two
  cases q1;cases q2;exact .cons ⟨a,rfl,h⟩ (af1 t)
theorem aX4 {M:ax->Prop}{H:Hp}{v:V}{ws:af}{ls:aa}(r:aI K M H v (Core.aZ ws ls)):U8 H v ws ls:=by
 obtain⟨a,us,rfl,h,r1⟩:=aI.sqT r
 obtain⟨u1,u2,rfl,q1,q2⟩:=r1.two
 obtain⟨p,up,rfl,hp,rp⟩:=q1.sqT
 obtain⟨q,uq,rfl,hq,rq⟩:=q2.sqT
 obtain rfl:=rp.ofInts
 exact⟨a,p,q,uq,rfl,h,hp,hq,af1 rq⟩
theorem af2 {M:ax->Prop}{H:Hp}:∀{bs:List ax}{ls:aa} (off:Nat),(∀b∈bs,M b)->(∀(k:Nat) b,bs[k]? = some b->H b=some (.lst ((bT ls ((off+k:Nat):Int)).map V.int)))->Reps K M H (bs.map V.ref) ((List.range' off bs.length).map λ(k:Nat)=>PV.lst (intz (bT ls k)))
 |[],_,_,_,_=>.nil
 |b::bs,ls,off,hm,h=>by
  refine .cons (.lst (hm b bz8) (h 0 b rfl) (Reps.intz _)) (af2 (off+1) (λc hc=>hm c (bz9 _ hc)) λk c hk=>?_)
  have:=h (k+1) c (by rw[bG7];exact hk)
  rw[show off+1+k=off+(k+1) by omega];exact this
theorem aX5 (F:bZ P w K mg base fE k f fd ["web"] af0)(b:dQ K fd ["web"] [])(kp:PySem.W.keepIn K (.ref f)=true)(m:mg "near_lists" = some (.ref f)):Df P w K mg base k "near_lists" ["web"] Core.B7:=by
 refine⟨f,fd,F.imp λvs H Q E h=>?_,b,kp,m⟩
 obtain⟨xs,Qp,r,⟨ws,ls,rfl,wb,q⟩,k⟩:=h
 obtain⟨v,rfl,r1⟩:=r.one
 have:=wb.few
 have:=wb.most
 refine⟨v,ws,ls,rfl,aX4 r1,by omega,by omega,wb.links,λt bs H' hb R=>k _ H' _ R.same (.lst R.new R.row ?_) q⟩
 have:=af2 (K:=K) (M:=λa=>H a=none) (H:=H') (bs:=bs) (ls:=ls) 0 (λb hb=>(R.news b hb).1) λk b hk=>by rw[Nat.zero_add];exact R.rows k b hk
 rw[hb,<- List.range_eq_range']at this;exact this
end
end PP
namespace Core
open PySem L2 PP
theorem aX6 (n:Nat):(rng n).Nodup:=by
 unfold rng;rw[List.nodup_iff_pairwise_ne,List.pairwise_map];exact (List.nodup_range (n:=n)).imp λh e=>h (by omega)
def two (l:Int×Int):af:=[l.1,l.2]
def rR (r:af):Int×Int:=(r.getD 0 0,r.getD 1 0)
theorem nL (ls:aa):bP ls=(ls.map two).map λr=>PV.tup (intz r):=by
 unfold bP;rw[bK4];rfl
theorem af3 {zs:ae}{ls:aa}(h:zs.Perm (ls.map two)):∃ls':aa,zs=ls'.map two/\ls'.Perm ls:=by
 refine⟨zs.map rR,?_,?_⟩
 ·rw[bK4]
  have:∀z∈zs,(two ∘ rR) z=z:=λz hz=>by
   obtain⟨l,_,rfl⟩:=bB8.mp (h.mem_iff.mp hz)
   rfl
  rw[List.map_congr_left this,List.map_id']
 ·have:=h.map rR
  rw[bK4]at this;have e:ls.map (rR ∘ two)=ls:=by
   have:∀l∈ls,(rR ∘ two) l=id l:=λl _=>rfl
   rw[List.map_congr_left this,List.map_id]
  rw[e]at this;exact this
theorem aX7 {ls:aa}(so:(ls.map two).Pairwise λu v=>HT.cX v u=false)(nd:ls.Nodup):ls.Pairwise kU:=by
 rw[List.pairwise_map]at so;refine (List.pairwise_and_iff.mpr ⟨so,nd⟩).imp λ{a b} h=>?_
 obtain⟨h1,h2⟩:=h
 unfold two at h1;rw[HT.o0]at h1;unfold kU;by_cases e:b.1=a.1
 ·rw[if_pos e,HT.o0]at h1
  by_cases e2:b.2=a.2
  ·exact absurd (Prod.ext e.symm e2.symm) h2
  ·rw[if_neg e2]at h1
   have:=bF5 h1
   omega
 ·rw[if_neg e]at h1
  have:=bF5 h1
  omega
theorem oY (ws:af)(ls:aa):flats [.tup (intz ws),.tup (bP ls)]=true:=kS ws ls
def gY (l:Int×Int):List aG:=[Sum.inl l.1,Sum.inl l.2]
structure DL (n:Int)(ps:List (List aG×PV))(i:Nat):Prop where
 key:∀p∈ps,∃l:Int×Int,p.1=gY l/\0<=l.1/\l.1<l.2/\l.2<n
 len:ps.length<=i
 fl:flats (ps.map (·.2))=true
 nd:(ps.map (·.1)).Nodup
theorem aX8 (ns:af){k:Int}(h:0<=k):fQ (intz ns) (some k) none=intz (ns.drop k.toNat):=by
 unfold fQ;have e1:HT.bA (intz ns).length 0 (some k)=min k.toNat (intz ns).length:=by
  have:=HT.Q0 (intz ns).length 0 k.toNat
  rw[show ((k.toNat:Nat):Int)=k by omega]at this;exact this
 have e2:HT.bA (intz ns).length (intz ns).length none=(intz ns).length:=rfl;rw[e1,e2,bM];rw[bH2 (by rw[bF9,bM];omega)];show _=List.map PV.int _;rw[List.map_drop];by_cases hk:k.toNat<=ns.length
 ·rw[Nat.min_eq_left hk]
 ·rw[Nat.min_eq_right (by omega),List.drop_of_length_le (by rw[bM];omega),List.drop_of_length_le (by rw[bM];omega)]
structure C0 (i:Int)(ms:af):Prop where
 up:ms.Pairwise (·<·)
 inn:∀x∈ms,0<=x/\x<i
 len:(ms.length:Int)<=i
theorem C0.set {n:Nat}{ms:af}(h:C0 (n:Int) ms):dB n ms=true:=by
 unfold dB;rw[B1 h.up,Bool.true_and,bH1];intro b hb
 obtain⟨x,hx,rfl⟩:=bB8.mp hb
 have:=h.inn x hx
 unfold inB;simp[this]
theorem af4:∀{a b:af},a.Perm b->a.Pairwise (· <= ·)->b.Pairwise (· <= ·)->a=b:=by
 intro a b h ha hb;exact h.eq_of_pairwise (λx y _ _ h1 h2=>Int.le_antisymm h1 h2) ha hb
def af5:cG:=λxs Q=>∃ns:af,xs = [.scr ns]/\ns.length<=63/\Q (.bl true)
end Core
namespace PP
open PySem L2 PyProof.Rows
theorem aX9 {P:ay}{w:ba}{K:ac}{mg:Str->Option av}{base:Heap}{k:Nat}{x:Str}{ps N:List Str}{p:cG}{st:Stmt}{f:ax}{fd:FuncData}(F:d8 K x x st f fd)(S:FnScope N ps (aT st))(len:∀xs Q,p xs Q->xs.length=ps.length)(body:∀(cdv:av) (A:az) (outer:List Env) (s:aw) (H:Hp) (E:XK),bL k (A.deeper (envOfC x (aT st) s.heap.objs.size f cdv))->
   ∃t,gD (cW fE P w K mg base N x (aT st) f cdv A outer s H E).nox (cY st) t/\∀xs Q,p xs Q->t { nx:=λ_=>Q .non,rt:=Q } (eI N xs)):bZ P w K mg base fE (k+1) f fd ps (qZ K p):=by
 refine F.ok S (λvs H Q E h=>?_) (λcdv A outer s H vs Q E hr h=>?_)
 ·obtain⟨xs,Qp,r,q,_⟩:=h
  rw[r.length];exact len xs Qp q
 ·obtain⟨xs,Qp,r,q,k⟩:=h
  obtain⟨t,ht,hq⟩:=body cdv A outer s H E hr
  refine⟨_,ht,λ_=>False,eI N xs,_,uC r,hq xs Qp q,?_,?_,?_,?_⟩
  ·exact λW' σ' H' ρ' e px q=>k _ _ _ px.same .non q
  ·exact λv H' x s r q=>k _ _ _ s r q
  ·exact λW' σ' H' ρ' e px q=>q
  ·exact λW' σ' H' ρ' e px q=>q
def uZ (K:ac):Sp:=λvs H Q _=>∃(a:ax) (ns:af),vs = [.ref a]/\kK K H a ns/\ns.length<=63/\∀H',Q (.bl true) H'
theorem aY0 {P:ay}{w:ba}{K:ac}{mg:Str->Option av}{base:Heap}{k:Nat}{f:ax}{fd:FuncData}(F:bZ P w K mg base fE k f fd ["script"] (qZ K Core.af5)):bZ P w K mg base fE k f fd ["script"] (uZ K):=
 F.imp λvs H Q E h=>by
  obtain⟨a,ns,rfl,hs,hl,q⟩:=h
  refine⟨[.scr ns],λz=>z = .bl true,.cons (.scr hs) .nil,⟨ns,rfl,hl,rfl⟩,?_⟩;rintro v H' x _ r rfl;cases r;exact q H'
theorem aY1 {K:ac}{H:Hp}{a:ax}{ns:af}(hO:tH H)(h:aR K H a (ns.map V.int)):kK K H a ns:=by
 rcases h with (h|⟨o,h⟩)|h
 ·rcases hO a with e|⟨o,xs,e⟩<;>(rw[h]at e;cases e)
 ·exact .inl ⟨o,h⟩
 ·exact .inr h
end PP
namespace PyProof.Rows
open PySem
section
variable {prog:ay}{w:ba}{A:az}{E:av→aw→Prop}{s:aw}
theorem af6 {l:ax}{vs:List av}{Q:List av->aw->Prop}(hl:s.heap.IsTuple l vs.toArray)(h:Q vs { s with heap:=(s.heap.push (seqObj "list" #[] 0)).update s.heap.objs.size (Obj.mapSeq (·++vs.toArray)) })(hsz:vs.length<=sizeLine) :
  wpAny (model prog w) A (collect (.ref l)) Q E s:=by
 obtain⟨o,ho,hc,n,hd⟩:=id hl
 unfold collect;refine bx4 (wpAny_runValue (codeAny_builtin entry_proto_collect' ?_));show wpAny _ _ (do again (.builtin "list.__iadd__" ⟨[<- newList [],.ref l],[]⟩)) _ _ s;refine bx4 (wpAny_newList (by3 ⟨Code.quiet_builtin _ (by decide +kernel),codeAny_builtin entry_list_iadd' ?_⟩));show wpAny _ _ (Builtin.List.listExtendWith (.ref s.heap.objs.size) (.ref l) (.ref s.heap.objs.size)) _ _ { s with heap:=s.heap.push (seqObj "list" #[] 0) };unfold Builtin.List.listExtendWith;have ho':(s.heap.push (seqObj "list" #[] 0)).get? l=some o:=bx5 _ ho;refine bx4 (wpAny_typeOf (T:="tuple") ⟨o,ho',hc⟩ ?_);have ht:(Value.type "tuple"==Value.type "tuple")=true:=by rfl
 rw[if_pos (by rw[ht];simp)];refine bx4 (listItems_at ho' hd ?_);refine bx4 (listItems_at (xs:=#[]) (n:=0) (bz0 _ rfl) rfl ?_);rw[if_neg (by simp)];refine bx4 (listUpdate_at (xs:=#[]) (n:=0) (bz0 _ rfl) rfl ?_ (bB2 _) (by show (#[]++vs.toArray).size<=sizeLine+1;simp only[Array.size_append,bx6,List.length_nil];omega));refine by3 ?_
 show wpAny (model prog w) A (do
   let o <- load s.heap.objs.size
   match o.data with
   |.seq xs _=>pure xs.toList
   |_=>unsupported "internal:collect") Q E { s with heap:=(s.heap.push (seqObj "list" #[] 0)).update s.heap.objs.size (Obj.mapSeq (·++vs.toArray)) }
 refine bx4 (wpAny_load (get?_update_seq (bz0 _ rfl) _) ?_);show wpAny _ _ (pure ((#[]:Array av)++vs.toArray).toList) Q E _;rw[show ((#[]:Array av)++vs.toArray).toList=vs by simp];exact by3 h
theorem aY2 {l:ax}{vs:List av}{ns:af}{Q:av->aw->Prop}(hl:s.heap.IsTuple l vs.toArray)(hI:IntsAre vs ns)(h64:vs.length<64)(h:∀(out:Array av) (ns':af),IntsAre out.toList ns'->ns'.Perm ns->ns'.Pairwise (· <= ·)->Q (.ref (s.heap.objs.size+1)) { s with heap:=sortedAll s.heap vs out }) :
  wpAny (model prog w) A (call (.builtin "sorted") [.ref l]) Q E s:=by
 have hsl:vs.length<=sizeLine:=bA9 (bE3 h64) (by decide);refine Calls.call_function_entry kind_sorted plain_sorted entry_sorted (args_sorted1 _) ?_;unfold Builtin.«sorted»;refine bx4 (m:=checkCount "sorted" 1 1 _) (by3 ?_);refine bx4 (af6 hl ?_ hsl);refine bx4 (wpAny_newList ?_);have hsz:((s.heap.push (seqObj "list" #[] 0)).update s.heap.objs.size (Obj.mapSeq (·++vs.toArray))).objs.size=s.heap.objs.size+1:=by
  rw[Heap.size_update,size_push']
 have hoL:(((s.heap.push (seqObj "list" #[] 0)).update s.heap.objs.size (Obj.mapSeq (·++vs.toArray))).push (seqObj "list" vs.toArray 0)).get? (s.heap.objs.size+1)=some (seqObj "list" vs.toArray 0):=by
  rw[<- hsz];exact bz0 _ rfl
 show wpAny _ _ _ _ _ { s with heap:=((s.heap.push (seqObj "list" #[] 0)).update s.heap.objs.size (Obj.mapSeq (·++vs.toArray))).push (seqObj "list" vs.toArray 0) };rw[hsz];refine bx4 (bM8 (bD9 slot_list_sort ⟨_,hoL,rfl⟩ entry_list_sort (list_sort_tree hoL hI h64 λout ns' a1 a2 a3=>⟨_,rfl,?_⟩) (args_list_sort _)));exact by3 ⟨_,rfl,h out ns' a1 a2 a3⟩
end
end PyProof.Rows
namespace PP
open PySem L2 PyProof.Rows
section
variable {X:Cx}{a b e:Expr}{ta tb te:aL}{tr:c9}{pos p2:Pos}
theorem aY3:d7 X (.builtin "sorted") (λxs H Q=>∃a ns,xs = [.ref a]/\(aR X.K H a (ns.map V.int)∨aS X.K H a (ns.map V.int))/\ns.length<64/\∀l (ms:af),H l=none->ms.Perm ns->ms.Pairwise (· <= ·)->Q (.ref l) (upd H l (.lst (ms.map V.int)))):=by
 intro ag s σ H xs us Q I r h
 obtain⟨a,ns,rfl,hs,h64,q⟩:=h
 rcases hs with hs|hs
 ·exact U5 ag s σ H _ us Q I r ⟨a,ns,rfl,hs,h64,q⟩
 obtain⟨u,rfl,ru⟩:=hV r
 cases ru
 obtain⟨its,rv,p,hz⟩:=I.tuple hs
 have hl:=rv.length;rw[bx7]at hl;refine aY2 p (lI rv) (by omega) λout ns' a1 a2 a3=>?_
 obtain⟨e,he⟩:=sortedAll_at s.heap its out
 have hn:s.heap.objs.size<=s.heap.objs.size+1:=bM0 _;have aj:ns'.length=ns.length:=a2.length_eq;refine⟨.ref (s.heap.objs.size+1),upd H (s.heap.objs.size+1) (.lst (ns'.map V.int)),I.laid (t':=s.toks) (λ_ _=>sortedAll_old) hn ⟨?_,out.toList,e,qN a1,by simpa using he⟩,rfl,q _ ns' (I.hok.fresh hn) a2 a3⟩;rw[bx7,aj];exact bE3 (qO (by omega))
def rS:List PV->(PV->Prop)->Prop:=λxs Q=>∃x ns,xs = [x]/\j9 x=some (intz ns)/\ns.length<64/\∀ms:af,ms.Perm ns->ms.Pairwise (· <= ·)->Q (.lst (intz ms))
theorem aY4:dZ X rS (λxs H Q=>∃a ns,xs = [.ref a]/\(aR X.K H a (ns.map V.int)∨aS X.K H a (ns.map V.int))/\ns.length<64/\∀l (ms:af),H l=none->ms.Perm ns->ms.Pairwise (· <= ·)->Q (.ref l) (upd H l (.lst (ms.map V.int)))):=by
 rintro H vs xs Q Q' r ⟨x,ns,rfl,e,hl,q⟩ k
 obtain⟨v,rfl,r1⟩:=r.one
 obtain⟨a,us,rfl,hs,r2⟩:=r1.seq e
 obtain rfl:=r2.ofInts
 exact⟨a,ns,rfl,hs,hl,λl ms hl' p o=>k _ _ _ (bS hl' _) (.lst hl' aY (Reps.intz ms)) (q ms p o)⟩
theorem af7 (B:Bt X.mg)(ha:QA X [e] tr)(hg:Gl X "sorted":=by rfl)(he:starEach [e] X.env=(false,eval e X.env)::starEach [] X.env:=by rfl)(hpl:(backTo pos (starEach [] X.env)).any (·.1)=false:=by rfl):QE X (.Call (.Name "sorted" p2) [e] [] pos) (aM rS tr):=
 jT aY3 aY4 hg B.sorted PyProof.Rows.boot_sorted ha (he:=he) (hpl:=hpl)
def af8:PV->Tg->PV->Tg->PK->Prop:=λx _ y _ Q=>∃xs ys,x = .lst xs/\y = .lst ys/\flats xs=true/\flats ys=true/\xs.length+ys.length<=16000000/\Q (.lst (xs++ys)) .fr
abbrev v3 (ta tb:aL):aL:=q2 af8 ta tb
theorem aY5:eY X af8 S0:=by
 rintro W Hs H u v x y g g' Q Q' s n r1 r2 ⟨xs,ys,rfl,rfl,f1,f2,hl,q⟩ k
 obtain⟨a,us,rfl,_,h1,q1⟩:=r1.sqL
 obtain⟨b,ws,rfl,_,h2,q2⟩:=r2.sqL
 have l1:=q1.length;have l2:=q2.length;refine⟨a,b,us,ws,rfl,rfl,h1,h2,lim (by omega),λp hp=>k _ _ _ .fr (bS hp _) (.lst (s.free hp) aY (((q1.flat f1).append (q2.flat f2)).same (bS hp _) λ_ z=>z)) q⟩
theorem af9 (ha:QE X a ta)(hb:QE X b tb):QE X (.BinOp a .Add b pos) (v3 ta tb):=lR aG3 aY5 ha hb
end
end PP
namespace L2
open PySem PySem.Spec PyProof.Rows
def C1 (K:ac)(a:ax):It:=
  ⟨λi H=>∃xs x,aR K H a xs/\xs[i]? = some x,
   λi H v H'=>∃T x,H T=none/\v = .ref T/\H'=upd H T (.tup [.int i,x])/\∀xs,aR K H a xs->xs[i]? = some x,
   λi H=>∃xs,aR K H a xs/\xs.length<=i⟩
structure aY6 (e it a:ax)(i:Nat)(h:Heap):Prop where
 ee:∃old,IsEnum h e it i old
 s1:h.IsListIter it a i
theorem aY7 {P:ay}{w:ba}{K:ac}{elts:List Expr}{k:Nat}{pos:Pos}(a e it:ax)(d:e≠it) :
  jN P w K (.Tuple elts k pos) (C1 K a) [e,it] e (aY6 e it a):=by
 refine⟨by simp,λi h st c hc=>?_,λi h h' st kp=>?_,?_,?_,λA i s Q E st q=>?_⟩
 ·simp only[by2,bz2,bC3]at hc
  obtain⟨old,ee⟩:=st.ee
  obtain⟨o1,f1,g1,d1⟩:=st.s1
  rcases hc with rfl|rfl
  ·exact⟨_,ee,λv q=>by cases q⟩
  ·exact⟨_,f1,λv q=>by rw[d1]at q;cases q⟩
 ·obtain⟨old,ee⟩:=st.ee
  exact⟨⟨old,kp e (by simp) _ ee⟩,st.s1.at λo z=>kp it (by simp) o z⟩
 ·intro X hP hw hK hc i ag s σ H E I hf st hg
  subst hP hw hK
  obtain⟨xs,x,ha,hx⟩:=hg
  obtain⟨us,ru,pu,lu⟩:=I.list ha
  obtain⟨ux,eux,rux⟩:=ru.get hx
  obtain⟨old,ee⟩:=st.ee
  refine wpAny_pyNext_enum_item ee st.s1 pu.isList (by simpa using eux) d λh' eo it' pr sz kp=>⟨_,rfl,?_⟩
  refine wpAny_letOwnedTupleGo_enum (s:={ s with heap:=h',toks:=s.toks+1 }) eo λg zz sb=>?_
  have hzl:e<s.heap.objs.size:=by8 ee;have up:∀c o,c≠e->c≠it->s.heap.get? c=some o->g.get? c=some o:=λc o c1 c2 z=>sb.extBut c o c1 (kp c o c1 c2 z)
  have hT:H s.heap.objs.size=none:=I.hok.fresh (bx9 _);have prG:g.get? s.heap.objs.size=some { cls:=.type "tuple",data:=.seq #[.int i s.toks,ux] }:=sb.extBut _ _ (bG4 hzl) pr;have fpn:∀c u,H c=some u->c∉[e,it]:=λc u z hm=>by rw[(hf c hm).1]at z;cases z
  have upH:∀c o u,H c=some u->s.heap.get? c=some o->g.get? c=some o:=λc o u q z=>by
   have:=fpn c u q
   simp only[by2,bz2,bC3,not_or]at this;exact up c o this.1 this.2 z
  have ns:∀m,s.heap.Ns X.env.locals m->g.Ns X.env.locals m:=λm hm=>by
   obtain⟨o,es,ep,e1,e2⟩:=hm
   exact⟨o,es,ep,up _ o (Ne.symm (hf e (by simp)).2.1) (Ne.symm (hf it (by simp)).2.1) e1,e2⟩
  have I2:aA X ag σ (upd H s.heap.objs.size (.tup [.int i,x])) { s with heap:=g,toks:=s.toks+1 }:=by
   refine I.step (g':=s.gens) (d':=s.drawn) (ch:=[e,it]) (λc hc'=>?_) (λc o _ _ hc' z _=>?_) (λc o _ _ hc' z _=>⟨o.slots,?_⟩) (λc o _ z n=>?_) (λc o hc' z=>⟨o,?_⟩)
    (λc zs z=>by rw[aH (dH z hT)];exact z) (λc u zs z=>by rw[aH (dH z hT)];exact z) (λc ps z=>⟨#[],by rw[aH (dH z hT),z];simp⟩) ns (λc u z=>?_) I.bare
   ·exact⟨(hf c hc').2.2.2.1,(hf c hc').2.1,(hf c hc').2.2.2.2.1,(hf c hc').2.2.2.2.2⟩
   ·simp only[by2,bz2,bC3,not_or]at hc'
    exact up c o hc'.1 hc'.2 z
   ·simp only[by2,bz2,bC3,not_or]at hc'
    exact up c o hc'.1 hc'.2 z
   ·rw[aH (bA8 (by8 z))];exact n
   ·simp only[by2,bz2,bC3,not_or]at hc'
    exact up c o hc'.1 hc'.2 z
   ·by_cases hcT:c=s.heap.objs.size
    ·subst hcT
     rw[aY]at z;cases z
     exact⟨by show 2<=sizeLine;decide,[.int i s.toks,ux],.cons ⟨_,rfl⟩ (.cons rux .nil),⟨_,prG,rfl,_,rfl⟩,λu e=>by rw[prG]at e;cases e;rfl⟩
    ·rw[aH hcT]at z
     refine (I.hok c u z).stay (λc' o' hc2 q'=>?_) (λc' q'=>by rw[aH (dH q' hT)];exact q') λc' zs q'=>by rw[aH (dH q' hT)];exact q'
     rcases hc2 with rfl|hc2
     ·exact upH _ _ _ z q'
     ·exact upH _ _ _ hc2 q'
  refine⟨.ref s.heap.objs.size,_,I2,rfl,⟨_,x,hT,rfl,rfl,λxs' ha'=>?_⟩,⟨⟨ux,by push_cast;exact zz⟩,it'.at λo z=>sb.extBut _ o (Ne.symm d) z⟩,λc hc'=>?_⟩
  ·rw[I.list_inj ha' ha];exact hx
  ·obtain⟨o,z⟩:∃o,s.heap.get? c=some o:=by
    simp only[by2,bz2,bC3]at hc'
    obtain⟨o1,f1,_⟩:=st.s1
    rcases hc' with rfl|rfl
    ·exact⟨_,ee⟩
    ·exact⟨_,f1⟩
   rw[aH (bA8 (by8 z))];exact (hf c hc').1
 ·intro X hP hw hK hc i ag s σ H E I hf st hg
  subst hP hw hK
  obtain⟨xs,ha,hi⟩:=hg
  obtain⟨us,ru,pu,lu⟩:=I.list ha
  obtain⟨old,ee⟩:=st.ee
  have hh:X.A.handled=none:=I.ok.hd hc;have e1:=ru.length;refine wpAny_pyNext_enum_end hh ee st.s1 pu.isList (by rw[Array.getElem?_eq_none];simp only[bx6];omega) λg kp=>⟨rfl,?_⟩
  have fpn:∀c u,H c=some u->c∉[e,it]:=λc u z hm=>by rw[(hf c hm).1]at z;cases z
  have upH:∀c o u,H c=some u->s.heap.get? c=some o->g.get? c=some o:=λc o u q z=>by
   have:=fpn c u q
   simp only[by2,bz2,bC3,not_or]at this;exact kp c o this.2 z
  have ns:∀m,s.heap.Ns X.env.locals m->g.Ns X.env.locals m:=λm hm=>by
   obtain⟨o,es,ep,e1,e2⟩:=hm
   exact⟨o,es,ep,kp _ o (Ne.symm (hf it (by simp)).2.1) e1,e2⟩
  refine I.step (g':=s.gens) (d':=s.drawn) (ch:=[it]) (λc hc'=>?_) (λc o _ _ hc' z _=>?_) (λc o _ _ hc' z _=>⟨o.slots,?_⟩) (λc o _ z n=>n) (λc o hc' z=>⟨o,?_⟩)
   (λc zs z=>z) (λc u zs z=>z) (λc ps z=>⟨#[],by rw[z];simp⟩) ns (λc u z=>?_) I.bare
  ·have hm:c∈[e,it]:=bz9 _ hc'
   exact⟨(hf c hm).2.2.2.1,(hf c hm).2.1,(hf c hm).2.2.2.2.1,(hf c hm).2.2.2.2.2⟩
  ·exact kp c o (λy=>hc' (by rw[y];simp)) z
  ·exact kp c o (λy=>hc' (by rw[y];simp)) z
  ·exact kp c o (λy=>hc' (by rw[y];simp)) z
  ·refine (I.hok c u z).stay (λc' o' hc2 q'=>?_) (λ_ q'=>q') λ_ _ q'=>q'
   rcases hc2 with rfl|hc2
   ·exact upH _ _ _ z q'
   ·exact upH _ _ _ hc2 q'
 ·obtain⟨old,ee⟩:=st.ee
  exact wpAny_pyIter_enum ee q
end L2
namespace Zp
open PySem PyProof.Rows
section
variable {prog:ay}{w:ba}{A:az}{E:av→aw→Prop}{s:aw}
theorem aY8 {e it t:ax}{i:Nat}{items:Array av}{x old:av}{Q:Option av->aw->Prop}(he:IsEnum s.heap e it i old)(hi:s.heap.IsTupleIter it t i)(ht:s.heap.IsTuple t items)(hx:items[i]? = some x)(ne:e≠it)(q:∀h',IsEnumOut h' e it ((i:Int)+1) x s.heap.objs.size->h'.IsTupleIter it t (i+1)->h'.get? s.heap.objs.size=some { cls:=.type "tuple",data:=.seq #[.int i s.toks,x] }->h'.objs.size=s.heap.objs.size+1->
   (∀b o,b≠e->b≠it->s.heap.get? b=some o->h'.get? b=some o)->Q (some (.ref s.heap.objs.size)) { s with heap:=h',toks:=s.toks+1 }):wpAny (model prog w) A (pyNext (.ref e)) Q E s:=by
 have T:s.TypeIs (.ref e) "enumerate":=⟨_,he,rfl⟩;have slot:=PySem.F.slot_enumerate_next;unfold pyNext;apply bx4;apply wpAny_attempt;apply bD6 (name:=Str.ofString "__next__") T slot;apply bD9 slot T PySem.F.entry_enumerate_next _ (PySem.F.args_enumerate_next_1 _)
 change wpAny _ _ (field (.ref e) 2 >>= _) _ _ _
 apply bx4;refine bD5 he rfl (x:=.ref it) rfl ?_;apply bx4;refine U9 hi ht hx λg1 it1 sb1=>?_
 have e1:IsEnum g1 e it i old:=sb1.extBut _ _ ne he
 change wpAny _ _ (field (.ref e) 3 >>= _) _ _ _
 apply bx4;refine bD5 e1 rfl (x:=rawInt i) rfl ?_
 change wpAny _ _ (field (.ref e) 4 >>= _) _ _ _
 apply bx4;refine bD5 e1 rfl (x:=.none) rfl ?_
 change wpAny _ _ (mkInt i >>= _) _ _ _
 apply bx4;refine wpAny_mkInt ?_
 change wpAny _ _ (setField (.ref e) 3 (rawInt ((i:Int)+1)) >>= _) _ _ _
 apply bx4;refine bE6 e1 (by simp) λg2 e2 sb2=>?_
 apply bx4;refine bE6 e2 (by simp) λg3 e3 sb3=>?_
 have e3:IsEnum g3 e it ((i:Int)+1) old:=e3;apply bx4;refine wpAny_newTuple ?_ (by show 2<=sizeLine;decide);have e4:IsEnum (g3.push { cls:=.type "tuple",data:=.seq #[.int i s.toks,x] }) e it ((i:Int)+1) old:=bx5 _ e3;have size:g3.objs.size=s.heap.objs.size:=by rw[sb3.1,sb2.1,sb1.1]
 change wpAny _ _ (Builtin.SmallTypes.ownedTupleIsFree (.ref e) >>= _) _ _ _
 apply bx4;unfold Builtin.SmallTypes.ownedTupleIsFree;apply bx4;refine bD5 e4 rfl (x:=.none) rfl (by3 ?_);simp only[if_true];apply bx4;apply bN1;apply bx4;refine bD5 e4 rfl (x:=old) rfl ?_;apply bx4;refine bE6 e4 (by simp) λg5 e5 sb5=>?_
 apply bx4;unfold Builtin.SmallTypes.ownedTupleHandOut;apply bx4;refine bE6 e5 (by simp) λg6 e6 sb6=>?_
 refine bE6 e6 (by simp) λg7 e7 sb7=>?_
 have e7:IsEnumOut g7 e it ((i:Int)+1) x g3.objs.size:=e7;have elt:e<g3.objs.size:=by8 e3;have up:∀c o,c≠e->(g3.push { cls:=.type "tuple",data:=.seq #[.int i s.toks,x] }).get? c=some o->g7.get? c=some o:=λc o c1 z=>sb7.extBut c o c1 (sb6.extBut c o c1 (sb5.extBut c o c1 z))
 have up3:∀c o,c≠e->g1.get? c=some o->g7.get? c=some o:=λc o c1 z=>up c o c1 (bx5 _ (sb3.extBut c o c1 (sb2.extBut c o c1 z)))
 have p7:g7.get? g3.objs.size=some { cls:=.type "tuple",data:=.seq #[.int i s.toks,x] }:=up _ _ (bG4 elt) (bz0 _ rfl);have s7:g7.objs.size=g3.objs.size+1:=by rw[sb7.1,sb6.1,sb5.1,bF7]
 apply bx4;apply wpAny_letGo;apply by3;rw[size]at e7 p7 s7;refine⟨_,rfl,by3 ?_⟩
 change Q (some (.ref g3.objs.size)) _
 rw[size];exact q g7 e7 (it1.at λo z=>up3 it o (Ne.symm ne) z) p7 s7 λb o b1 b2 z=>up3 b o b1 (sb1.extBut b o b2 z)
theorem aY9 {e it t:ax}{i:Nat}{items:Array av}{old:av}{Q:Option av->aw->Prop}(hh:A.handled=none)(he:IsEnum s.heap e it i old)(hi:s.heap.IsTupleIter it t i)(ht:s.heap.IsTuple t items)(hx:items[i]? = none)(q:∀h',Heap.ExtBut it s.heap h'->Q none { s with heap:=h' }):wpAny (model prog w) A (pyNext (.ref e)) Q E s:=by
 have T:s.TypeIs (.ref e) "enumerate":=⟨_,he,rfl⟩;have slot:=PySem.F.slot_enumerate_next;unfold pyNext;apply bx4;apply wpAny_attempt;apply bD6 (name:=Str.ofString "__next__") T slot;apply bD9 slot T PySem.F.entry_enumerate_next _ (PySem.F.args_enumerate_next_1 _)
 change wpAny _ _ (field (.ref e) 2 >>= _) _ _ _
 apply bx4;refine bD5 he rfl (x:=.ref it) rfl ?_;apply bx4;refine V0 hh hi ht hx λg2 ex eb exo=>?_
 obtain⟨oe,eo,co⟩:=exo
 apply bx4;refine wpAny_isInstance (T:="StopIteration") (b:=true) ⟨oe,eo,co⟩ isSubtype_stop ?_;exact by3 (q g2 eb)
theorem aZ0 {M:Model}{A:az}{E:av->aw->Prop}{s:aw}{α:Type}{c:Prop}[Decidable c]{m n:Sem α}{Q:α->aw->Prop}(h1:wpAny M A m Q E s)(h2:wpAny M A n Q E s):wpAny M A (if c then m else n) Q E s:=by
 split
 ·exact h1
 ·exact h2
theorem aZ1 (t:ax)(xs:Array av):Meets (Builtin.«enumerate.__new__» ⟨[.type "enumerate",.ref t],[]⟩) (λ_ R s=>s.heap.IsTuple t xs/\R (.ok (.ret (.ref (s.heap.objs.size+1)))) { s with heap:=(s.heap.push { cls:=.type "tuple_iterator",data:=.fields #[.ref t,.int 0 0] }).push { cls:=.type "enumerate",data:=.fields #[.none,.bool false,.ref s.heap.objs.size,rawInt 0,.none,.none] } }):=
 .of_wp λprog w A R s h=>by
  obtain⟨hp,g,d,tk,os⟩:=s
  obtain⟨ht,h⟩:=h
  have sub:=sub_enumerate;have a1:Heap.IsTuple (Shared.heap ⟨hp,g,d,tk,os⟩) t xs:=ht
  wp_walk using bI9 a1
  refine wpAny_stack_any λst=>by3 ?_
  refine aZ0 ?_ ?_
  all_goals
   apply bx4;refine wpAny_of_eq (a:=(Value.ref t,none)) rfl ?_
   wp_walk using bI9 a1
   have e:∀(o:Obj) (k:Heap),(k.push o).objs.size=k.objs.size+1:=λo k=>bF7 ..
   refine⟨_,rfl,?_⟩;simp only[e]at h ⊢;exact h
theorem aZ2 {t:ax}{xs:Array av}{Q:av->aw->Prop}(ht:s.heap.IsTuple t xs)(q:∀h',IsEnum h' (s.heap.objs.size+1) s.heap.objs.size 0 .none->h'.IsTupleIter s.heap.objs.size t 0->h'.objs.size=s.heap.objs.size+2->(∀c o,s.heap.get? c=some o->h'.get? c=some o)->Q (.ref (s.heap.objs.size+1)) { s with heap:=h' }) :
  wpAny (model prog w) A (call (.type "enumerate") [.ref t]) Q E s:=by
 refine callType_new PySem.F.called_enumerate (by decide) (PySem.F.typeCall_enumerate_1 _) (PySem.F.newCall_enumerate_1 _) (λobj=>PySem.F.args_object_init_2 obj _) PySem.F.entry_enumerate_new (aZ1 t xs) ⟨ht,?_⟩;have e:∀(o:Obj) (k:Heap),(k.push o).objs.size=k.objs.size+1:=λo k=>bF7 ..
 have g0:((s.heap.push { cls:=.type "tuple_iterator",data:=.fields #[.ref t,.int 0 0] }).push { cls:=.type "enumerate",data:=.fields #[.none,.bool false,.ref s.heap.objs.size,rawInt 0,.none,.none] }).get? s.heap.objs.size=some { cls:=.type "tuple_iterator",data:=.fields #[.ref t,.int 0 0] }:=bx5 _ (bz0 _ rfl);have g1:((s.heap.push { cls:=.type "tuple_iterator",data:=.fields #[.ref t,.int 0 0] }).push { cls:=.type "enumerate",data:=.fields #[.none,.bool false,.ref s.heap.objs.size,rawInt 0,.none,.none] }).get? (s.heap.objs.size+1)=some { cls:=.type "enumerate",data:=.fields #[.none,.bool false,.ref s.heap.objs.size,rawInt 0,.none,.none] }:=by
  have:=bz0 (h:=s.heap.push { cls:=.type "tuple_iterator",data:=.fields #[.ref t,.int 0 0] }) (o:={ cls:=.type "enumerate",data:=.fields #[.none,.bool false,.ref s.heap.objs.size,rawInt 0,.none,.none] }) rfl
  rw[e]at this;exact this
 exact⟨⟨_,g1,rfl⟩,q _ g1 ⟨_,g0,rfl,rfl⟩ (by rw[e,e]) λc o z=>bx5 _ (bx5 _ z)⟩
end
end Zp
namespace L2
open PySem PySem.Spec PyProof.Rows
def C2 (K:ac)(a:ax):It:=
  ⟨λi H=>∃xs x,aS K H a xs/\xs[i]? = some x,
   λi H v H'=>∃T x,H T=none/\v = .ref T/\H'=upd H T (.tup [.int i,x])/\∀xs,aS K H a xs->xs[i]? = some x,
   λi H=>∃xs,aS K H a xs/\xs.length<=i⟩
structure aZ3 (e it a:ax)(i:Nat)(h:Heap):Prop where
 ee:∃old,IsEnum h e it i old
 s1:h.IsTupleIter it a i
theorem aZ4 {P:ay}{w:ba}{K:ac}{elts:List Expr}{k:Nat}{pos:Pos}(a e it:ax)(d:e≠it) :
  jN P w K (.Tuple elts k pos) (C2 K a) [e,it] e (aZ3 e it a):=by
 refine⟨by simp,λi h st c hc=>?_,λi h h' st kp=>?_,?_,?_,λA i s Q E st q=>?_⟩
 ·simp only[by2,bz2,bC3]at hc
  obtain⟨old,ee⟩:=st.ee
  obtain⟨o1,f1,g1,d1⟩:=st.s1
  rcases hc with rfl|rfl
  ·exact⟨_,ee,λv q=>by cases q⟩
  ·exact⟨_,f1,λv q=>by rw[d1]at q;cases q⟩
 ·obtain⟨old,ee⟩:=st.ee
  exact⟨⟨old,kp e (by simp) _ ee⟩,st.s1.at λo z=>kp it (by simp) o z⟩
 ·intro X hP hw hK hc i ag s σ H E I hf st hg
  subst hP hw hK
  obtain⟨xs,x,ha,hx⟩:=hg
  obtain⟨us,ru,pu,lu⟩:=I.tuple ha
  obtain⟨ux,eux,rux⟩:=ru.get hx
  obtain⟨old,ee⟩:=st.ee
  refine Zp.aY8 ee st.s1 pu (by simpa using eux) d λh' eo it' pr sz kp=>⟨_,rfl,?_⟩
  refine wpAny_letOwnedTupleGo_enum (s:={ s with heap:=h',toks:=s.toks+1 }) eo λg zz sb=>?_
  have hzl:e<s.heap.objs.size:=by8 ee;have up:∀c o,c≠e->c≠it->s.heap.get? c=some o->g.get? c=some o:=λc o c1 c2 z=>sb.extBut c o c1 (kp c o c1 c2 z)
  have hT:H s.heap.objs.size=none:=I.hok.fresh (bx9 _);have prG:g.get? s.heap.objs.size=some { cls:=.type "tuple",data:=.seq #[.int i s.toks,ux] }:=sb.extBut _ _ (bG4 hzl) pr;have fpn:∀c u,H c=some u->c∉[e,it]:=λc u z hm=>by rw[(hf c hm).1]at z;cases z
  have upH:∀c o u,H c=some u->s.heap.get? c=some o->g.get? c=some o:=λc o u q z=>by
   have:=fpn c u q
   simp only[by2,bz2,bC3,not_or]at this;exact up c o this.1 this.2 z
  have ns:∀m,s.heap.Ns X.env.locals m->g.Ns X.env.locals m:=λm hm=>by
   obtain⟨o,es,ep,e1,e2⟩:=hm
   exact⟨o,es,ep,up _ o (Ne.symm (hf e (by simp)).2.1) (Ne.symm (hf it (by simp)).2.1) e1,e2⟩
  have I2:aA X ag σ (upd H s.heap.objs.size (.tup [.int i,x])) { s with heap:=g,toks:=s.toks+1 }:=by
   refine I.step (g':=s.gens) (d':=s.drawn) (ch:=[e,it]) (λc hc'=>?_) (λc o _ _ hc' z _=>?_) (λc o _ _ hc' z _=>⟨o.slots,?_⟩) (λc o _ z n=>?_) (λc o hc' z=>⟨o,?_⟩)
    (λc zs z=>by rw[aH (dH z hT)];exact z) (λc u zs z=>by rw[aH (dH z hT)];exact z) (λc ps z=>⟨#[],by rw[aH (dH z hT),z];simp⟩) ns (λc u z=>?_) I.bare
   ·exact⟨(hf c hc').2.2.2.1,(hf c hc').2.1,(hf c hc').2.2.2.2.1,(hf c hc').2.2.2.2.2⟩
   ·simp only[by2,bz2,bC3,not_or]at hc'
    exact up c o hc'.1 hc'.2 z
   ·simp only[by2,bz2,bC3,not_or]at hc'
    exact up c o hc'.1 hc'.2 z
   ·rw[aH (bA8 (by8 z))];exact n
   ·simp only[by2,bz2,bC3,not_or]at hc'
    exact up c o hc'.1 hc'.2 z
   ·by_cases hcT:c=s.heap.objs.size
    ·subst hcT
     rw[aY]at z;cases z
     exact⟨by show 2<=sizeLine;decide,[.int i s.toks,ux],.cons ⟨_,rfl⟩ (.cons rux .nil),⟨_,prG,rfl,_,rfl⟩,λu e=>by rw[prG]at e;cases e;rfl⟩
    ·rw[aH hcT]at z
     refine (I.hok c u z).stay (λc' o' hc2 q'=>?_) (λc' q'=>by rw[aH (dH q' hT)];exact q') λc' zs q'=>by rw[aH (dH q' hT)];exact q'
     rcases hc2 with rfl|hc2
     ·exact upH _ _ _ z q'
     ·exact upH _ _ _ hc2 q'
  refine⟨.ref s.heap.objs.size,_,I2,rfl,⟨_,x,hT,rfl,rfl,λxs' ha'=>?_⟩,⟨⟨ux,by push_cast;exact zz⟩,it'.at λo z=>sb.extBut _ o (Ne.symm d) z⟩,λc hc'=>?_⟩
  ·rw[I.tuple_inj ha' ha];exact hx
  ·obtain⟨o,z⟩:∃o,s.heap.get? c=some o:=by
    simp only[by2,bz2,bC3]at hc'
    obtain⟨o1,f1,_⟩:=st.s1
    rcases hc' with rfl|rfl
    ·exact⟨_,ee⟩
    ·exact⟨_,f1⟩
   rw[aH (bA8 (by8 z))];exact (hf c hc').1
 ·intro X hP hw hK hc i ag s σ H E I hf st hg
  subst hP hw hK
  obtain⟨xs,ha,hi⟩:=hg
  obtain⟨us,ru,pu,lu⟩:=I.tuple ha
  obtain⟨old,ee⟩:=st.ee
  have hh:X.A.handled=none:=I.ok.hd hc;have e1:=ru.length;refine Zp.aY9 hh ee st.s1 pu (by rw[Array.getElem?_eq_none];simp only[bx6];omega) λg kp=>⟨rfl,?_⟩
  have fpn:∀c u,H c=some u->c∉[e,it]:=λc u z hm=>by rw[(hf c hm).1]at z;cases z
  have upH:∀c o u,H c=some u->s.heap.get? c=some o->g.get? c=some o:=λc o u q z=>by
   have:=fpn c u q
   simp only[by2,bz2,bC3,not_or]at this;exact kp c o this.2 z
  have ns:∀m,s.heap.Ns X.env.locals m->g.Ns X.env.locals m:=λm hm=>by
   obtain⟨o,es,ep,e1,e2⟩:=hm
   exact⟨o,es,ep,kp _ o (Ne.symm (hf it (by simp)).2.1) e1,e2⟩
  refine I.step (g':=s.gens) (d':=s.drawn) (ch:=[it]) (λc hc'=>?_) (λc o _ _ hc' z _=>?_) (λc o _ _ hc' z _=>⟨o.slots,?_⟩) (λc o _ z n=>n) (λc o hc' z=>⟨o,?_⟩)
   (λc zs z=>z) (λc u zs z=>z) (λc ps z=>⟨#[],by rw[z];simp⟩) ns (λc u z=>?_) I.bare
  ·have hm:c∈[e,it]:=bz9 _ hc'
   exact⟨(hf c hm).2.2.2.1,(hf c hm).2.1,(hf c hm).2.2.2.2.1,(hf c hm).2.2.2.2.2⟩
  ·exact kp c o (λy=>hc' (by rw[y];simp)) z
  ·exact kp c o (λy=>hc' (by rw[y];simp)) z
  ·exact kp c o (λy=>hc' (by rw[y];simp)) z
  ·refine (I.hok c u z).stay (λc' o' hc2 q'=>?_) (λ_ q'=>q') λ_ _ q'=>q'
   rcases hc2 with rfl|hc2
   ·exact upH _ _ _ z q'
   ·exact upH _ _ _ hc2 q'
 ·obtain⟨old,ee⟩:=st.ee
  exact wpAny_pyIter_enum ee q
section
variable {X:Cx}
def ag0 (K:ac)(ta:TA):TI:=λσ H R=>ta σ H λvs H1=>∃a,vs = [.ref a]/\((∃xs,aR K H1 a xs/\R (C1 K a) H1)∨(∃xs,aS K H1 a xs/\R (C2 K a) H1))
theorem aZ5 {elts:List Expr}{kt:Nat}{pt:Pos}{a:Expr}{ta:TA}{p pos:Pos}(hg:Gl X "enumerate")(hm:X.mg "enumerate" = none)(ha:PA X [a] ta)(hs:starEach [a] X.env = [(false,eval a X.env)]:=by rfl) :
  PI X (.Tuple elts kt pt) (.Call (.Name "enumerate" p) [a] [] pos) (ag0 X.K ta):=by
 intro ag s σ H R I h;refine Call_ (mH I hg hm PyProof.Rows.boot_enumerate (bG5 (aP (ha pos ag s σ H _ I h) λus s1 ⟨vs,H1,I1,r1,q1⟩=>?_) (by rw[hs];rfl) (by rfl)))
 obtain⟨a',e,q⟩:=q1
 subst e;have fresh:∀k,H1 (s1.heap.objs.size+k)=none:=λk=>I1.hok.fresh (bD4 _ _)
 cases r1 with
 |cons r rr=>
  cases rr;cases r;rcases q with⟨xs,h1,q⟩|⟨xs,h1,q⟩
  ·obtain⟨us,_,p1,_⟩:=I1.list h1
   refine call_enumerate_list p1.isList λh' z s1' sz kp=>wpAny_pyIter_enum z ?_
   refine⟨s1.heap.objs.size+1,[s1.heap.objs.size+1,s1.heap.objs.size],_,_,H1,rfl,I1.kept (t':=s1.toks) kp,
    aY7 a' _ _ (Nat.succ_ne_self _),⟨⟨_,z⟩,s1'⟩,λc hc=>?_,q⟩
   simp only[by2,bz2,bC3]at hc;rcases hc with rfl|rfl
   ·exact I1.fpOk (bD4 _ _) (fresh 1)
   ·exact I1.fpOk (bx9 _) (fresh 0)
  ·obtain⟨us,_,p1,_⟩:=I1.tuple h1
   refine Zp.aZ2 p1 λh' z s1' sz kp=>wpAny_pyIter_enum z ?_
   refine⟨s1.heap.objs.size+1,[s1.heap.objs.size+1,s1.heap.objs.size],_,_,H1,rfl,I1.kept (t':=s1.toks) kp,
    aZ4 a' _ _ (Nat.succ_ne_self _),⟨⟨_,z⟩,s1'⟩,λc hc=>?_,q⟩
   simp only[by2,bz2,bC3]at hc;rcases hc with rfl|rfl
   ·exact I1.fpOk (bD4 _ _) (fresh 1)
   ·exact I1.fpOk (bx9 _) (fresh 0)
end
end L2
namespace Zp
open PySem PyProof.Rows
theorem aZ6 (t b:ax)(xs ys:Array av)(n n2:Nat)(dd dd2:Option ax)(sl sl2:Array (Option av))(hx:xs.isEmpty=true):Meets (Builtin.«tuple.__add__» ⟨[.ref t,.ref b],[]⟩)
  (λ_ R s=>s.heap.get? t=some { cls:=.type "tuple",dict:=dd,data:=.seq xs n,slots:=sl }/\s.heap.get? b=some { cls:=.type "tuple",dict:=dd2,data:=.seq ys n2,slots:=sl2 }/\R (.ok (.ret (.ref b))) s):=
 .of_wp λprog w A R s h=>by
  obtain⟨h1,h2,h⟩:=h
  have sub:isSubtype (Value.type "tuple") (Value.type "tuple")=pure true:=rfl
  wp_walk
  exact⟨_,rfl,h⟩
end Zp
namespace L2
open PySem PySem.Spec PyProof.Rows
section
variable {X:Cx}
def ag1 (K:ac):R2:=λx y H Q=>∃a b xs ys,x = .ref a/\y = .ref b/\aS K H a xs/\aS K H b ys/\xs.length+ys.length<=sizeLine/\
 (xs = []->Q (.ref b) H)/\(xs≠[]->ys = []->Q (.ref a) H)/\(xs≠[]->ys≠[]->∀p,H p=none->Q (.ref p) (upd H p (.tup (xs++ys))))
theorem aZ7:cR X (binaryOp .Add) (ag1 X.K):=by
 intro ag s σ H x y v u Q I rx ry h
 obtain⟨a,b,xs,ys,ex,ey,ha,hb,hz,q0,q1,q2⟩:=h
 by_cases hx:xs = []
 ·subst ex ey
  cases rx;cases ry
  obtain⟨its,r1,p1,_⟩:=I.tuple ha
  obtain⟨ao,r2,p2,_⟩:=I.tuple hb
  have hi:its = []:=r1.nil_iff.mpr hx
  obtain⟨⟨cls,dd,data,sl⟩,ho,hc,n,hd⟩:=id p1
  obtain⟨⟨cls2,dd2,data2,sl2⟩,ho2,hc2,n2,hd2⟩:=id p2
  simp only at hc hd hc2 hd2;subst hc hd hc2 hd2;exact concat_meets ⟨_,ho,rfl⟩ ⟨_,ho2,rfl⟩ noFill_tuple_add seq_tuple_add PySem.F.slot_tuple_add PySem.F.entry_tuple_add (PySem.F.args_tuple_add_2 _ _)
   (Zp.aZ6 a b its.toArray ao.toArray n n2 dd dd2 sl sl2 (by simp[hi])) ⟨ho,ho2,⟨.ref b,H,I,rfl,q0 hx⟩⟩
 ·exact aE9 ag s σ H x y v u Q I rx ry ⟨a,b,xs,ys,ex,ey,ha,hb,hx,hz,q1 hx,q2 hx⟩
end
end L2
namespace PP
open PySem L2 PyProof.Rows
def kW (xs:List PV):List PV:=xs.mapIdx λi x=>PV.tup [.int (i:Int),x]
theorem C3 (xs:List PV):(kW xs).length=xs.length:=by unfold kW;rw[List.length_mapIdx]
theorem ag2 {xs:List PV}{i:Nat}{x:PV}(h:xs[i]? = some x):(kW xs)[i]? = some (.tup [.int (i:Int),x]):=by
 unfold kW;rw[List.getElem?_mapIdx,h];rfl
theorem aZ8 {xs:List PV}{i:Nat}{z:PV}(h:(kW xs)[i]? = some z):∃x,xs[i]? = some x/\z = .tup [.int (i:Int),x]:=by
 unfold kW at h;rw[List.getElem?_mapIdx]at h;cases e:xs[i]? with
 |none=>rw[e]at h;cases h
 |some x=>rw[e]at h;exact⟨x,rfl,(bz3 h).symm⟩
def C4 (te:aL):gT:=λρ Q=>te ρ λx g=>∃xs,(x = .lst xs∨x = .tup xs)/\(g = .rd->flat x=true)/\Q (kW xs) (yW g xs)
theorem aZ9 {K:ac}{H0:Hp}{W:ax->Prop}{g:Bool}{H1:Hp}{a:ax}{us:List V}{xs:List PV}(tw:∀a,W a->∃o,H1 a=some o/\fO o=true)(ha:∀W' H',Ev W H1 W' H'->aR K H' a us)(r:Reps K (Ms H0 W g) H1 us xs):oF K H0 W g H1 (C1 K a) (kW xs):=by
 have lr:=r.length;have ll:=C3 xs;refine⟨λW' H' i e hi=>⟨us,us[i]'(by omega),ha W' H' e,by simp⟩,λW' H' i v H2 e y hi=>?_,λW' H' e=>⟨us,ha W' H' e,by omega⟩⟩
 obtain⟨T,x,hT,rfl,rfl,y⟩:=y
 obtain⟨z,hz,rz⟩:=r.get (y us (ha W' _ e))
 have sm:=bS hT (HO.tup [.int (i:Int),x])
 exact⟨sm,_,ag2 hz,.tup aY (.cons (.int _) (.cons ((rz.keep (e.keep tw)).same sm λ_ q=>q) .nil))⟩
theorem ba0 {K:ac}{H0:Hp}{W:ax->Prop}{g:Bool}{H1:Hp}{a:ax}{us:List V}{xs:List PV}(tw:∀a,W a->∃o,H1 a=some o/\fO o=true)(ha:∀W' H',Ev W H1 W' H'->aS K H' a us)(r:Reps K (Ms H0 W g) H1 us xs):oF K H0 W g H1 (C2 K a) (kW xs):=by
 have lr:=r.length;have ll:=C3 xs;refine⟨λW' H' i e hi=>⟨us,us[i]'(by omega),ha W' H' e,by simp⟩,λW' H' i v H2 e y hi=>?_,λW' H' e=>⟨us,ha W' H' e,by omega⟩⟩
 obtain⟨T,x,hT,rfl,rfl,y⟩:=y
 obtain⟨z,hz,rz⟩:=r.get (y us (ha W' _ e))
 have sm:=bS hT (HO.tup [.int (i:Int),x])
 exact⟨sm,_,ag2 hz,.tup aY (.cons (.int _) (.cons ((rz.keep (e.keep tw)).same sm λ_ q=>q) .nil))⟩
section
variable {X:Cx}{σ:L2.St}{H:Hp}{te:aL}{R:It→Hp→Prop}
theorem ba1 (h:LI X (C4 te) σ H R):ag0 X.K (iH (LE X te) fZ) σ H R:=by
 obtain⟨W,ρ,Q,px,q,k⟩:=h
 refine⟨W,ρ,_,px,q,?_⟩;rintro v H1 x g s r ⟨xs,hx,hg,q⟩;have px1:=px.mono s;have tw:∀a,W a->∃o,H1 a=some o/\fO o=true:=λa z=>(px1.wm a z).2
 rcases hx with rfl|rfl
 ·obtain⟨a,us,rfl,m,h,r⟩:=r.sqL
  have wa:¬W a:=by
   cases g with
   |fr=>exact (px.new m).1
   |nw=>exact m.1
   |sh=>exact m
   |rd=>have:=hg rfl;unfold flat at this;cases this
  exact⟨a,rfl,.inl ⟨us,aR.of h,k _ _ _ _ s (aZ9 tw (λW' H' e=>aR.of (e _ _ h wa rfl).1) (mU px (λz=>by have:=hg z;unfold flat at this;cases this) r)) q⟩⟩
 ·obtain⟨a,us,rfl,h,r⟩:=r.sqT
  refine⟨a,rfl,.inr ⟨us,aS.of h,k _ _ _ _ s (ba0 tw (λW' H' e=>aS.of (e _ _ h (λz=>?_) rfl).1) (mU px (λz=>by have:=hg z;unfold flat at this;exact this) r)) q⟩⟩
  obtain⟨o,h',mu⟩:=tw _ z;rw[h]at h';cases h';cases mu
theorem ba2 {elts:List Expr}{kt:Nat}{pt p2 pos:Pos}{a:Expr}{ta:aL}(hg:Gl X "enumerate")(hm:X.mg "enumerate" = none)(ha:QE X a ta)(hs:starEach [a] X.env = [(false,eval a X.env)]:=by rfl):QI X (.Tuple elts kt pt) (.Call (.Name "enumerate" p2) [a] [] pos) (C4 ta):=
 uA (aZ5 hg hm (eC ha eS hs) hs) λ_ _ _=>ba1
end
section
variable {X:Cx}{a b e o f:Expr}{ta tb te td tk tx:aL}{pos p2 ah ai:Pos}{σ:L2.St}{H:Hp}{Q':VK}
theorem ba3 {x:Str}{n:Int}{t:Nat}(hg:Gl X x)(hm:X.mg x=some (.int n t))(hd:(x==("__debug__":Str))=false:=by decide):QE X (.Name x pos) (qC (.int n)):=
 cN (L4 (v:=.int n) hg hm ⟨t,rfl⟩ hd) λ_ _ _=>qV λ_=>.int n
end
section
variable {X:Cx}{a b:Expr}{ta tb:aL}{pos:Pos}
def ag3:PV->Tg->PV->Tg->PK->Prop:=λx _ y _ Q=>∃xs ys,x = .tup xs/\y = .tup ys/\flats xs=true/\flats ys=true/\xs.length+ys.length<=16000000/\Q (.tup (xs++ys)) .fr
abbrev iC (ta tb:aL):aL:=q2 ag3 ta tb
theorem ba4:eY X ag3 (ag1 X.K):=by
 rintro W Hs H u v x y g g' Q Q' s n r1 r2 ⟨xs,ys,rfl,rfl,f1,f2,hl,q⟩ k
 obtain⟨a,us,rfl,h1,q1⟩:=r1.sqT
 obtain⟨b,ws,rfl,h2,q2⟩:=r2.sqT
 have l1:=q1.length;have l2:=q2.length;refine⟨a,b,us,ws,rfl,rfl,aS.of h1,aS.of h2,lim (by omega),λz=>?_,λ_ z=>?_,λ_ _ p hp=>k _ _ _ .fr (bS hp _) (.tup aY (((q1.flat f1).append (q2.flat f2)).same (bS hp _) λ_ z=>z)) q⟩
 ·obtain rfl:xs = []:=by cases xs with
   |nil=>rfl
   |cons _ _=>rw[z]at l1;cases l1
  exact k _ _ _ .fr (aE.refl _) (.tup h2 (q2.flat f2)) q
 ·obtain rfl:ys = []:=by cases ys with
   |nil=>rfl
   |cons _ _=>rw[z]at l2;cases l2
  rw[bA0]at q;exact k _ _ _ .fr (aE.refl _) (.tup h1 (q1.flat f1)) q
theorem m5 (ha:QE X a ta)(hb:QE X b tb):QE X (.BinOp a .Add b pos) (iC ta tb):=lR aZ7 ba4 ha hb
end
end PP
namespace Core
open PySem L2 PP
section
variable (ws:af)(ls:aa)(os ns:af)
def iD:Nat->af
 |0=>[]
 |k+1=>iD k++(os.find? (kin ws ls (ns++iD k))).toList
def rT (k:Nat):Option Int:=os.find? (kin ws ls (ns++iD ws ls os ns k))
end
section
variable {ws:af}{ls:aa}{os ns:af}
theorem ba5 {k:Nat}{h:Int}(e:rT ws ls os ns k=some h):iD ws ls os ns (k+1)=iD ws ls os ns k++[h]:=by
 show iD ws ls os ns k++(rT ws ls os ns k).toList=_;rw[e];rfl
def ba6 (ws:af)(ls:aa)(T:af):Prop:=∀h∈rng ws.length,kin ws ls T h=false
theorem ba7 {k:Nat}{h:Int}(e:rT ws ls os ns k=some h):h∈os/\h∉ns++iD ws ls os ns k:=
 ⟨List.mem_of_find?_eq_some e,bF5 (B3 (List.find?_some e))⟩
theorem ba8 (po:os.Perm (rng ws.length))(hs:dB ws.length ns=true):∀k,(ns++iD ws ls os ns k).Nodup/\∀x∈ns++iD ws ls os ns k,x∈rng ws.length
 |0=>by
  rw[show iD ws ls os ns 0 = [] from rfl,bA0]
  exact⟨(nF (kT hs).1).imp λh=>Int.ne_of_lt h,λx hx=>uU.mpr ((kT hs).2 x hx)⟩
 |k+1=>by
  obtain⟨i1,i2⟩:=ba8 po hs k
  cases e:rT ws ls os ns k with
  |none=>
   have:iD ws ls os ns (k+1)=iD ws ls os ns k:=by
    show iD ws ls os ns k++(rT ws ls os ns k).toList=_;rw[e];exact bA0 _
   rw[this];exact⟨i1,i2⟩
  |some h=>
   obtain⟨n1,n2⟩:=ba7 e
   rw[ba5 e,<- bA2];refine⟨bG6.mpr ⟨i1,bA5 _ _,λx hx y hy=>?_⟩,λx hx=>?_⟩
   ·rw[by0.mp hy];intro z;subst z;exact n2 hx
   ·rcases bB3.mp hx with hx|hx
    ·exact i2 x hx
    ·rw[by0.mp hx];exact po.mem_iff.mp n1
theorem C5 (hs:dB ws.length ns=true):∀k,(b9 ws ls ns k).Nodup
 |0=>(nF (kT hs).1).imp λh=>Int.ne_of_lt h
 |k+1=>by
  show (b9 ws ls ns k++nextOf ws ls (b9 ws ls ns k)).Nodup;refine bG6.mpr ⟨C5 hs k,(aX6 ws.length).filter _,λx hx y hy=>?_⟩;intro z;subst z;exact bF5 (B3 (bH6.mp hy).2) hx
end
def ag4:Option Int->PV
 |none=>.non
 |some h=>.int h
theorem kX {i:Nat}{h:Int}{g:Bool}{ρ:b8}{Q:b8->Prop}(q:Q (ρ.set i (some (.sh true (.int h))))):cH i (.int h) g ρ Q:=by
 show Q (ρ.set i (some (.sh (g||true) (.int h))));rw[Bool.or_true];exact q
def ba9 (ns S:af):Int:=(ns.length:Int)-(((ns.filter λx=>decide (x∈S)).length:Nat):Int)
def nM:cG:=λxs Q=>∃x ns y ms,xs = [x,y]/\gE x ns/\gE y ms/\ns.length<=10000/\ms.length<=1000/\Q (.tup (intz (ns.filter λz=>!decide (z∈ms))))
def ag5:aV:=(aJ (bE 2 (aM nH (a9 (a5 1) aC)))
 (bC (aM dG (a9 (gL (eG (a5 0)) [none,some 2] (cH 0) (aO (kN true (a5 0) (a5 1))) (a5 0)) aC))))
theorem bb0:e8 ag5 ["hearths","some","gone"] nM:=by
 rintro xs Q ⟨x,ns,y,ms,rfl,hx,hy,hl,hm,q⟩;refine⟨_,rfl,y,ms,rfl,hy,hm,λps d=>⟨trivial,?_⟩⟩;refine⟨_,rfl,_,hx.seq,uW hx,by rw[bM];omega,λi acc=>acc=intz ((ns.take i).filter λz=>!decide (z∈ms)),rfl,?_,?_⟩
 ·rintro i z acc hz rfl
  obtain⟨n,rfl,hn⟩:=oU hz
  have tk:=jF (p:=λz=>!decide (z∈ms)) hn;refine⟨_,rfl,_,rfl,_,.inl ⟨ps,Sum.inl n,rfl,rfl,rfl⟩,_,rfl,?_⟩;show if (!(cJ ps (Sum.inl n:aG)).isSome)=true then _ else _
  rw[d.has n];by_cases h:n∈ms
  ·rw[by9 h]at tk ⊢
   refine aN ?_;show _=intz (List.filter _ (List.take (i+1) ns));rw[tk];exact congrArg intz (bA0 _).symm
  ·rw[by5 h]at tk ⊢
   refine aU ⟨_,rfl,trivial,?_⟩;show _=intz (List.filter _ (List.take (i+1) ns));rw[tk,dR];rfl
 ·rintro acc rfl
  rw[bM,bA4]
  exact⟨⟨_,_,rfl,rfl,bV _,trivial,q⟩,λns z=>by cases z⟩
def bb1 (ws:af)(ls:aa)(S:af)(h:Int):Bool:=decide (ba9 (bT ls h) S<ws.getD h.toNat 0)
def stay (ws:af)(ls:aa)(S:af):af:=S.filter (bb1 ws ls S)
theorem bb2 {n:Nat}{S:af}(h:dB n S=true)(p:Int->Bool):dB n (S.filter p)=true:=by
 obtain⟨h1,h2⟩:=kT h
 have u:C0 (n:Int) (S.filter p):=⟨(nF h1).filter p,λx hx=>h2 x (bH6.mp hx).1,by
  have:=nI h
  have:=bG2 p S
  omega⟩
 exact u.set
end Core
namespace Raw
open PySem PySem.W PyProof.Rows
section
variable {prog:ay}{w:ba}{A:az}{E:av→aw→Prop}{s:aw}{T:String}{r d:ax}{n:Nat}{P:Nat→av→Prop}{OK:Heap→Prop}
theorem bb3 {R:Result->aw->Prop}(K:KdlSrc prog w T r d n P OK)(hh:A.handled=none)(hok:OK s.heap)(hn:n<=sizeLine)(hR:∀h' tk acc c,(∀b o,b≠s.heap.objs.size->(s.heap.push { cls:=.type "list",data:=.seq ([]:List av).toArray }).get? b=some o->h'.get? b=some o)->h'.get? s.heap.objs.size=some { cls:=.type "list",dict:=none,data:=.seq acc c,slots:=#[] }->ItemsOf P acc n->R (.ok (.ret (.ref s.heap.objs.size))) { s with heap:=h',toks:=tk }) :
  codeAny (model prog w) A (.builtin "proto.collect" ⟨[.ref r],[]⟩) R s:=by
 have lt:=K.there _ hok;refine codeAny_builtin PySem.F.entry_proto_collect ?_;rw[Around.under_plainId PySem.F.plain_proto_collect _];show wpAny _ A.in1 (newList [] >>= λl=>again (.builtin "list.__iadd__" ⟨[l,.ref r],[]⟩)) _ _ s;refine bx4 (bF1 ?_);refine by3 ⟨plainId_quiet PySem.F.plain_list_iadd _,codeAny_builtin PySem.F.entry_list_iadd ?_⟩;rw[Around.under_plainId PySem.F.plain_list_iadd _];show wpAny _ A.in1 (Builtin.List.listExtendWith (.ref s.heap.objs.size) (.ref r) (.ref s.heap.objs.size)) _ _ _;exact kdl_extend (s:={ s with heap:=s.heap.push { cls:=.type "list",data:=.seq ([]:List av).toArray } }) (R:=R) K hh (K.keep _ _ hok λb _ o e=>bx5 _ e) s.heap.objs.size (bG4 lt.1) (bG4 lt.2) _ 0 (bz0 _ rfl) hR hn
theorem bb4 {Q:List av->aw->Prop}(K:KdlSrc prog w T r d n P OK)(hh:A.handled=none)(hok:OK s.heap)(hn:n<=sizeLine)(hQ:∀h' tk acc,(∀b o,s.heap.get? b=some o->h'.get? b=some o)->s.heap.objs.size<=h'.objs.size->ItemsOf P acc n->Q acc.toList { s with heap:=h',toks:=tk }) :
  wpAny (model prog w) A (collect (.ref r)) Q E s:=by
 unfold collect;refine bx4 (wpAny_runValue (bb3 (s:=s) K hh hok hn λh' tk acc c kp at1 it=>?_));show wpAny _ A (load s.heap.objs.size >>= _) _ _ _;refine bx4 (wpAny_load at1 ?_);exact by3 (hQ h' tk acc (λb o e=>kp b o (bA8 (by8 e)) (bx5 _ e)) (bE3 (by8 at1)) it)
theorem bb5 {Q:av->aw->Prop}{G:af->Prop}(K:KdlSrc prog w T r d n P OK)(hh:A.handled=none)(hok:OK s.heap)(hn:n<64)(hI:∀acc,ItemsOf P acc n->∃ns,IntsAre acc.toList ns/\G ns)(h:∀h' tk a (out:Array av) (ns ns':af) e,(∀b o,s.heap.get? b=some o->h'.get? b=some o)->s.heap.objs.size<=a->h'.get? a=some (seqObj "list" out e)->IntsAre out.toList ns'->G ns->ns'.Perm ns->ns'.Pairwise (· <= ·)->Q (.ref a) { s with heap:=h',toks:=tk }) :
  wpAny (model prog w) A (call (.builtin "sorted") [.ref r]) Q E s:=by
 have hsl:n<=sizeLine:=bA9 (bE3 hn) (by decide);refine Calls.call_function_entry kind_sorted plain_sorted entry_sorted (args_sorted1 _) ?_;unfold Builtin.«sorted»;refine bx4 (m:=checkCount "sorted" 1 1 _) (by3 ?_);refine bx4 (bb4 (s:=s) K hh hok hsl λh' tk acc kp hs it=>?_)
 obtain⟨ns,hi,g⟩:=hI acc it
 have hz:acc.toList.length<64:=by rw[Array.length_toList,it.1];exact hn
 refine bx4 (wpAny_newList ?_ (bA9 (bE3 hz) (by decide)));have hoL:(h'.push (seqObj "list" acc.toList.toArray 0)).get? h'.objs.size=some (seqObj "list" acc.toList.toArray 0):=bz0 _ rfl;show wpAny _ _ _ _ _ { s with heap:=h'.push (seqObj "list" acc.toList.toArray 0),toks:=tk };refine bx4 (bM8 (bD9 slot_list_sort ⟨_,hoL,rfl⟩ entry_list_sort (list_sort_tree hoL hi hz λout ns' a1 a2 a3=>⟨_,rfl,?_⟩) (args_list_sort _)))
 obtain⟨e,he⟩:=sortedHeap_at (vs:=acc.toList) (out:=out) hoL
 refine by3 ⟨_,rfl,h _ tk h'.objs.size out ns ns' e (λb o hb=>?_) hs he a1 g a2 a3⟩;have lt:=by8 (kp b o hb);rw[sortedHeap_old (bA8 lt) (by rw[size_push'];exact Nat.lt_succ_of_lt lt)];exact bx5 _ (kp b o hb)
end
end Raw
namespace L2
open PySem PySem.Spec PyProof.Rows
section
variable {X:Cx}
theorem bb6 (hc:X.calm=true):d7 X (.builtin "sorted") (λxs H Q=>∃a kvs ns,xs = [.ref a]/\H a=some (.dK kvs)/\kvs.map (·.1)=ns.map Sum.inl/\ns.length<64/\∀l (ms:af),H l=none->ms.Perm ns->ms.Pairwise (· <= ·)->Q (.ref l) (upd H l (.lst (ms.map V.int)))):=by
 intro ag s σ H xs us Q I r h
 obtain⟨a,kvs,ns,rfl,ha,hk,h64,q⟩:=h
 obtain⟨u,rfl,ru⟩:=hV r
 cases ru
 obtain⟨es,ep,rd,far,vk,z⟩:=aJ4 I ha
 have hl:=vk.length;have hl2:=congrArg List.length hk;rw[bx7,bx7]at hl hl2;have hsz:es.toList.length=es.size:=Array.length_toList;have e1:(kvs.map λp=>kV p.1)=ns.map V.int:=by
  have:(kvs.map λp=>kV p.1)=(kvs.map (·.1)).map kV:=by rw[bK4];rfl
  rw[this,hk,bK4];rfl
 rw[e1]at vk;refine Raw.bb5 (G:=λms=>ms=ns) (Raw.aJ2 far) (I.ok.hd hc) rd (by omega) (λacc it=>⟨ns,by rw[aJ5 it];exact lI vk,rfl⟩) λh' tk l out ns1 ns' e kp hn he a1 g a2 a3=>?_
 subst g;have aj:ns'.length=ns1.length:=a2.length_eq;refine⟨.ref l,upd H l (.lst (ns'.map V.int)),I.laid (t':=tk) kp hn ⟨?_,out.toList,e,qN a1,by simpa using he⟩,rfl,q _ ns' (I.hok.fresh hn) a2 a3⟩;rw[bx7,aj];exact bE3 (qO (by omega))
end
end L2
namespace PP
open PySem L2 PyProof.Rows
section
variable {X:Cx}{a b e:Expr}{ta tb te:aL}{tr:c9}{pos p2:Pos}
def C6:List PV->(PV->Prop)->Prop:=λxs Q=>∃(ps:List (aG×PV)) (ns:af),xs = [.dK ps]/\ps.map (·.1)=ns.map Sum.inl/\ns.length<64/\∀ms:af,ms.Perm ns->ms.Pairwise (· <= ·)->Q (.lst (intz ms))
theorem bb7:dZ X C6 (λxs H Q=>∃a kvs ns,xs = [.ref a]/\H a=some (.dK kvs)/\kvs.map (·.1)=ns.map Sum.inl/\ns.length<64/\∀l (ms:af),H l=none->ms.Perm ns->ms.Pairwise (· <= ·)->Q (.ref l) (upd H l (.lst (ms.map V.int)))):=by
 rintro H vs xs Q Q' r ⟨ps,ns,rfl,e,hl,q⟩ k
 obtain⟨v,rfl,r1⟩:=r.one
 cases r1 with
 |@dK a kvs _ m h e2 r2=>
  exact⟨a,kvs,ns,rfl,h,e2.trans e,hl,λl ms hl' p o=>k _ _ _ (bS hl' _) (.lst hl' aY (Reps.intz ms)) (q ms p o)⟩
theorem bb8 (B:Bt X.mg)(hc:X.calm=true)(ha:QA X [e] tr)(hg:Gl X "sorted":=by rfl)(he:starEach [e] X.env=(false,eval e X.env)::starEach [] X.env:=by rfl)(hpl:(backTo pos (starEach [] X.env)).any (·.1)=false:=by rfl):QE X (.Call (.Name "sorted" p2) [e] [] pos) (aM C6 tr):=
 jT (bb6 hc) bb7 hg B.sorted PyProof.Rows.boot_sorted ha (he:=he) (hpl:=hpl)
end
end PP
namespace Core
open PySem L2 PP
def iW (k:Nat)(r:af):List (aG×PV):=r.map λh=>((Sum.inl h:aG),PV.int (k:Int))
def kY (rs:ae):List (aG×PV):=(rs.mapIdx iW).flatten
theorem bb9 (rs:ae)(r:af):kY (rs++[r])=kY rs++iW rs.length r:=by
 unfold kY;rw[List.mapIdx_append,bK2];simp
theorem ag6 (k:Nat)(r:af):(iW k r).map (·.1)=r.map Sum.inl:=by
 unfold iW;rw[bK4];rfl
theorem ag7:∀(rs:ae) (g:Nat->Nat),((rs.mapIdx λi r=>iW (g i) r).flatten).map (·.1)=rs.flatten.map (Sum.inl:Int->aG)
 |[],_=>rfl
 |r::t,g=>by
  rw[List.mapIdx_cons,List.flatten_cons,List.flatten_cons,bB7,bB7,ag6,ag7 t λi=>g (i+1)]
theorem ag8 (rs:ae):(kY rs).map (·.1)=rs.flatten.map (Sum.inl:Int->aG):=ag7 rs λi=>i
theorem bc0 {ps:List (aG×PV)}{h:Int}{v:PV}{S:af}(e:ps.map (·.1)=S.map Sum.inl)(hn:h∉S):dL ps (Sum.inl h:aG) v=ps++[(Sum.inl h,v)]:=by
 unfold dL;rw[if_neg];intro z;rw[List.any_eq_true]at z
 obtain⟨p,hp,hq⟩:=z
 have:p.1∈ps.map (·.1):=bB8.mpr ⟨p,hp,rfl⟩
 rw[e,of_decide_eq_true hq]at this
 obtain⟨y,hy,e2⟩:=bB8.mp this
 exact hn (Sum.inl.inj e2▸hy)
theorem bc1 {k:Nat}{r:af}{i:Nat}{n:Int}(h:r[i]? = some n):iW k (r.take (i+1))=iW k (r.take i)++[(Sum.inl n,PV.int (k:Int))]:=by
 unfold iW;rw[bF2,h,bB7];rfl
theorem bc2 {xs:List PV}{w:Int}(h:0<=w):fQ xs none (some w)=xs.take w.toNat:=by
 unfold fQ;rw[HT.aD8,List.drop_zero,Nat.sub_zero]
 have:HT.bA xs.length xs.length (some w)=min w.toNat xs.length:=by
  show (if w<0 then (w+(xs.length:Int)).toNat else min w.toNat xs.length)=_;rw[if_neg (by omega)]
 rw[this,<- List.take_take,bA4]
theorem ag9 {ns:af}{w:Int}(h:0<=w):fQ (intz ns) none (some w)=intz (ns.take w.toNat):=by
 rw[bc2 h];exact List.map_take.symm
section
variable {ws:af}{ls:aa}{ns wts:af}{m:Nat}
def loose (ls:aa)(wts ns:af):List ((Int×Int)×Int):=(ls.zip wts).filter λz=>!(decide (z.1.1∈ns)&&decide (z.1.2∈ns))
end
end Core
namespace PP
open PySem L2 PyProof.Rows
section
variable {X:Cx}{a b e:Expr}{ta tb te:aL}{D:cB}{σ:L2.St}{H:Hp}{pos p2:Pos}
def v4 (p:jQ)(te:aL):aV:=λD ρ=>te ρ λx g=>yP g x/\p x (yO g x) ρ λρ2=>D.nx ρ2
theorem bc3 {p:jQ}{g:TG}{own:Nat->Prop}(hg:oG X.K own p g)(h:LS X (v4 p te) D σ H):nX (LE X te) g D σ H:=by
 obtain⟨W,ρ,D',px,q,k⟩:=h
 refine⟨W,ρ,_,px,q,?_⟩;rintro v H1 x gt s r ⟨st,q⟩;refine hg X.H₀ W σ ρ H1 v x _ _ _ (px.mono s) (W7 px st r) q λσ' ρ' px' _ _ q'=>?_
 exact k.nx W σ' H1 ρ' (Ev.same s) px' q'
theorem ah0 (i j:Nat){x y:Str}{tp xp yp:Pos}{kt:Nat}(hN:X.N.Nodup)(he:QE X e te)(hx:X.N[i]? = some x:=by rfl)(hy:X.N[j]? = some y:=by rfl)(hlx:gQ X.env.scope x:=by first|exact Or.inl rfl|exact Or.inr rfl)(hly:gQ X.env.scope y:=by first|exact Or.inl rfl|exact Or.inr rfl)(hfx:X.fn x=true∨X.env.scope.names.lookup x=some .local:=by first|exact .inl rfl|exact .inr rfl)(hfy:X.fn y=true∨X.env.scope.names.lookup y=some .local:=by first|exact .inl rfl|exact .inr rfl)(hc:X.calm=true:=by rfl)(hs:swapsWithSole [.Tuple [.Name x xp,.Name y yp] kt tp] e pos.line X.env=pure false:=by rfl)(hw:swappedStores [.Tuple [.Name x xp,.Name y yp] kt tp] e X.env=pure none:=by rfl):QS X (.Assign [.Tuple [.Name x xp,.Name y yp] kt tp] e pos) (v4 (lP i j) te):=by
 have g:PG X (.Tuple [.Name x xp,.Name y yp] kt tp) (pX X.K 2 (kC (fJ i) (kC (fJ j) pV))):=pY hc (jM (hU hN hx hlx hfx) (jM (hU hN hy hly hfy) pW));exact dF (az3 he g hs hw) λ_ _ _=>bc3 (X6 _ i j)
end
abbrev fA:=(Str->Prop)->cG
def EX (K:ac)(H0:Hp)(Ep:Str->Prop):XK:=λc d H'=>d=none/\aE H0 H'/\∃n C,c = .ref C/\PySem.W.nsIn K mainGlobals n=some (some (.ref C))/\Ep n
def spX (K:ac)(p:fA):Sp:=λvs H Q E=>∃xs Qp Ep,Reps K (λ_=>True) H vs xs/\p Ep xs Qp/\(∀v H' x,aE H H'->aI K (λa=>H a=none) H' v x->Qp x->Q v H')/\
 ∀n C H',aE H H'->PySem.W.nsIn K mainGlobals n=some (some (.ref C))->Ep n->E (.ref C) none H'
structure cI (P:ay)(w:ba)(K:ac)(mg:Str->Option av)(base:Heap)(k:Nat)(x:Str)(ps:List Str)(p:fA):Prop where
 ex:∃f fd,bZ P w K mg base (bY P w) k f fd ps (spX K p)/\dQ K fd ps []/\PySem.W.keepIn K (.ref f)=true/\mg x=some (.ref f)
section
variable {X:Cx}{σ:L2.St}{H:Hp}{D:cB}{tr:c9}{Q':VK}{a b c e:Expr}{es:List Expr}{pos p2 cp np hp:Pos}{t:aV}{te:aL}{tc:cM}
def jX (Ep:Str->Prop)(p:fA)(t:c9):aL:=aM (p Ep) t
theorem ah1 {p:fA}{Ep:Str->Prop}(h:LE X (jX Ep p tr) σ H Q'):wZ (spX X.K p) [] (EX X.K X.H₀ Ep) (LA X tr) σ H Q':=by
 obtain⟨W,ρ,Q,px,q,k⟩:=h
 refine⟨W,ρ,_,px,q,λvs H1 xs s1 r1 q1=>⟨_,_,Ep,by rw[bA0];exact r1.any,q1,λv H' x s2 r2 q2=>k v H' x .fr (s1.trans s2) (r2.same (aE.refl _) λ_ z=>s1.free z) q2,λn C H' s2 z1 z2=>⟨rfl,(px.same.trans s1).trans s2,n,C,rfl,z1,z2⟩⟩⟩
theorem m6 {Ep:Str->Prop}{k j:Nat}{x:Str}{ps:List Str}{p:fA}(hX:lY X (EX X.K X.H₀ Ep))(d:cI X.prog X.w X.K X.mg X.base k x ps p)(hr:bL j X.A)(ha:QA X (e::es) tr)(hkj:k<=j:=by decide)(hg:Gl X x:=by rfl)(hdb:(x==("__debug__":Str))=false:=by decide)(he:starEach (e::es) X.env=(false,eval e X.env)::starEach es X.env:=by rfl)(hpl:(backTo pos (starEach es X.env)).any (·.1)=false:=by rfl):QE X (.Call (.Name x p2) (e::es) [] pos) (jX Ep p tr):=by
 obtain⟨f,fd,F,b,kp,m⟩:=d.ex
 exact cN (t7 F (hr.mono hkj) hg m kp b .nil hX.pass ha hdb he hpl) λ_ _ _=>ah1
theorem ah2 {k j:Nat}{x:Str}{ps:List Str}{p:fA}(d:cI X.prog X.w X.K X.mg X.base k x ps p)(hr:bL j X.A)(ha:QA X (e::es) tr)(hkj:k<=j:=by decide)(hg:Gl X x:=by rfl)(hdb:(x==("__debug__":Str))=false:=by decide)(he:starEach (e::es) X.env=(false,eval e X.env)::starEach es X.env:=by rfl)(hpl:(backTo pos (starEach es X.env)).any (·.1)=false:=by rfl):QE X (.Call (.Name x p2) (e::es) [] pos) (aM (p λ_=>False) tr):=by
 obtain⟨f,fd,F,b,kp,m⟩:=d.ex
 refine cN (t7 F (E:=EX X.K X.H₀ λ_=>False) (hr.mono hkj) hg m kp b .nil (λ_ _ _ _ _ _ _ h=>?_) ha hdb he hpl) λ_ _ _ h=>ah1 (Ep:=λ_=>False) h
 obtain⟨_,_,_,_,_,_,_,_,_,_,_,_,z⟩:=h
 exact z.elim
def iX (Ep:Str->Prop)(n:Str)(t:c9):aV:=λ_ ρ=>t ρ λxs=>xs.length<=1000/\Ep n
theorem bc4 {Ep:Str->Prop}{n:Str}{C:ax}(hn:PySem.W.nsIn X.K mainGlobals n=some (some (.ref C)))(h:LS X (iX Ep n tr) D σ H):ac8 (EX X.K X.H₀ Ep) C (LA X tr) D σ H:=by
 obtain⟨W,ρ,D',px,q,k⟩:=h
 exact⟨W,ρ,_,px,q,λvs H1 xs s1 r z=>⟨by rw[r.length];exact yM z.1,rfl,px.same.trans s1,n,C,rfl,hn,z.2⟩⟩
structure Xc (K:ac)(mg:Str->Option av)(base:Heap)(n:Str):Prop where
 ex:∃C B newId initId bm,OwnCls n C bm newId mg base/\ExcBaseFacts B newId initId bm/\PySem.W.nsIn K mainGlobals n=some (some (.ref C))
theorem kZ {Ep:Str->Prop}{n:Str}(hX:lY X (EX X.K X.H₀ Ep))(x:Xc X.K X.mg X.base n)(ha:QA X (e::es) tr)(hc:X.calm=true:=by rfl)(hg:Gl X n:=by rfl)(hd:(n==("__debug__":Str))=false:=by decide)(he:starEach (e::es) X.env=(false,eval e X.env)::starEach es X.env:=by rfl)(hpl:(backTo cp (starEach es X.env)).any (·.1)=false:=by rfl):QS X (.Raise (some (.Call (.Name n np) (e::es) [] cp)) none pos) (iX Ep n tr):=by
 obtain⟨C,B,newId,initId,bm,O,FB,hn⟩:=x.ex
 exact dF (aV0 hX hc O FB ha hg hd he hpl) λ_ _ _=>bc4 hn
theorem C7 {sts:List Stmt}{t t':TB}(h:PB X sts t)(m:∀D Ex σ H,t' D Ex σ H->t D Ex σ H):PB X sts t':=λag s σ H D Ex I q=>h ag s σ H D Ex I (m D Ex σ H q)
def C8:List Str:=["BadWeb","BadSet","BadOrder","BadPrices","BadBoard","BadDeed","NotWood","NoPaper","NoSuch","TooMany","NoText","OddRound"]
def rV (n m:Str):Option Bool:=if C8.contains n then some (n==m||m=="HearthError"||m=="ValueError") else none
structure C9 (K:ac)(mg:Str->Option av)(m:Str):Prop where
 ex:∃Ch,mg m=some (.ref Ch)/\B0 K Ch/\∀n C,rV n m=some true->PySem.W.nsIn K mainGlobals n=some (some (.ref C))->PySem.W.subIn K (.ref C) (.ref Ch)=some true
def tD:V->av
 |.ref a=>.ref a
 |.ty n=>.type n
 |_=>.none
end
structure v7 (K:ac)(C:ax):Prop where
 cls:PySem.W.isClsIn K C=true
 ty:PySem.W.typeIn K (.ref C)=some (.type "type")
 ga:PySem.W.findIn K (.ref C) "__getattribute__" = some (some (.builtin "BaseException.__getattribute__"))
 gt:PySem.W.findIn K (.ref C) "__getattr__" = some none
 fc:PySem.W.findIn K (.ref C) "__class__" = some (some (.builtin "object.__class__"))
 fg:PySem.W.specialIn K (.builtin "object.__class__") "__get__" = some (some (.builtin "getset_descriptor.__get__"))
 ft:PySem.W.takesIn K (.builtin "object.__class__")=some true
 ob:PySem.W.mroIn K C (.type "object")=some true
 be:PySem.W.mroIn K C (.type "BaseException")=some true
theorem E1 {K:ac}{h₀:Heap}{mg:Str->Option av}{x:Str}{C:ax}{bmB:List av}{newId:String}(X:K.In h₀)(m:mg x=some (.ref C))(q:PySem.W.excIn K C bmB newId=true):OwnCls x C bmB newId mg h₀:=by
 refine⟨m,?_⟩;unfold PySem.W.excIn at q;split at q
 case h_2=>cases q
 rename_i dd cd sl ho
 split at q
 case h_2=>cases q
 rename_i C' bm k0 k1 k2 k3 n k5 hm hs
 simp only[bB4,beq_iff_eq,Bool.not_eq_true']at q
 obtain⟨⟨⟨⟨⟨rfl,rfl⟩,dl⟩,ht⟩,hok⟩,hni⟩:=q
 obtain⟨nm,bs,mro,ns,qn,hd,sn,sub,ab,col,del⟩:=cd
 dsimp only at hm dl hok hni;subst hm dl;obtain rfl:sl = #[k0,k1,k2,k3,some (.builtin n),k5]:=by
  obtain⟨l⟩:=sl
  exact congrArg Array.mk hs
 exact⟨bm,ns,nm,qn,bs,hd,sn,sub,ab,col,dd,k0,k1,k2,k3,k5,_,X _ _ ho,.of_isNs (PySem.W.isNs_of_in X hok),PySem.W.nsMap_none_of_in X hok hni,PySem.W.tail_of_in X ht⟩
theorem bc5 {n m:Str}{b:Bool}(h:rV n m=some b):n∈C8/\b=(n==m||m=="HearthError"||m=="ValueError"):=by
 unfold rV at h;split at h
 ·rename_i z
  exact⟨by simpa using z,by cases h;rfl⟩
 ·cases h
theorem cI.of {P:ay}{w:ba}{K:ac}{mg:Str->Option av}{base:Heap}{k:Nat}{x:Str}{ps N:List Str}{p:fA}{st:Stmt}{f:ax}{fd:FuncData}(F:d8 K x x st f fd)(m:mg x=some (.ref f))(S:FnScope N ps (aT st))(hb:∀(kV doc pm:av) (an:Option ax) (cdv ct:av) (us:List av),us.length=ps.length->bindArgs (PySem.W.fnOf x x (eV st) (cY st) (aT st) .none kV doc pm an cdv ct) ⟨us,[]⟩=pure (ps.zip us))(t:(Str->Prop)->aV)(len:∀Ep xs Q,p Ep xs Q->xs.length=ps.length)(rd:∀Ep xs Q,p Ep xs Q->t Ep { nx:=λ_=>Q .non,rt:=Q } (eI N xs))(body:∀(cdv:av) (A:az) (outer:List Env) (s:aw) (H:Hp) (E:XK) (Ep:Str->Prop),bL k (A.deeper (envOfC x (aT st) s.heap.objs.size f cdv))->lY (cW (bY P w) P w K mg base N x (aT st) f cdv A outer s H E) (EX K H Ep)->
   gD (cW (bY P w) P w K mg base N x (aT st) f cdv A outer s H E) (cY st) (t Ep)):cI P w K mg base (k+1) x ps p:=by
 refine⟨f,fd,F.okX S (λvs H Q E h=>?_) (λcdv A outer s H vs Q E hr h=>?_),F.binds hb,F.kp,m⟩
 ·obtain⟨xs,Qp,Ep,r,q,_⟩:=h
  rw[r.length];exact len Ep xs Qp q
 ·obtain⟨xs,Qp,Ep,r,q,k,ke⟩:=h
  have ht:=body cdv A outer s H E Ep hr (A9 λc d H' z=>?_)
  ·refine⟨_,ht,λ_=>False,eI N xs,_,uC r,rd Ep xs Qp q,?_,?_,?_,?_⟩
   ·exact λW' σ' H' ρ' e px q=>k _ _ _ px.same .non q
   ·exact λv H' x s r q=>k _ _ _ s r q
   ·exact λW' σ' H' ρ' e px q=>q
   ·exact λW' σ' H' ρ' e px q=>q
  ·obtain⟨rfl,s1,n,C,rfl,z1,z2⟩:=z
   exact ke n C H' s1 z1 z2
end PP
namespace Core
open PySem L2 PP
abbrev m7 (t:(Str->Prop)->aV)(N:List Str)(p:fA):Prop:=∀Ep xs Q,p Ep xs Q->t Ep { nx:=λ_=>Q .non,rt:=Q } (eI N xs)
def oZ:fA:=λEp xs Q=>∃ws ls x ns,xs = [aZ ws ls,x]/\gE x ns/\ns.length<=1000/\(dB ws.length ns=true->Q (.tup (intz ns)))/\(dB ws.length ns=false->Ep "BadSet")
def ah3 (Ep:Str->Prop):aV:=(aJ (bF (lK (aO (aM uV (a9 (a5 0) (a9 (a5 1) aC))))) (iX Ep "BadSet" (a9 (qC (.str "a set is of rising hearths of the web")) aC)) bI)
 (bC (aM dG (a9 (a5 1) aC))))
theorem bc6:m7 ah3 ["web","hearths"] oZ:=by
 rintro Ep xs Q ⟨ws,ls,x,ns,rfl,hx,hl,q1,q2⟩;refine⟨_,rfl,_,rfl,ws,ls,x,ns,rfl,hx,hl,_,rfl,?_⟩;cases h:dB ws.length ns with
 |true=>exact aN ⟨_,rfl,⟨_,_,rfl,hx.seqT,bV _,trivial,q1 h⟩,hx.noscr⟩
 |false=>exact aU ⟨by decide,q2 h⟩
end Core
namespace PP
open PySem L2
theorem us1 {us:List av}(h:us.length=1):∃a,us = [a]:=List.length_eq_one_iff.mp h
theorem us2 {us:List av}(h:us.length=2):∃a b,us = [a,b]:=by
 cases us with
 |nil=>cases h
 |cons a r=>
  obtain⟨b,rfl⟩:=us1 (us:=r) (by simpa using h)
  exact⟨a,b,rfl⟩
theorem v8 {us:List av}(h:us.length=3):∃a b c,us = [a,b,c]:=by
 cases us with
 |nil=>cases h
 |cons a r=>
  obtain⟨b,c,rfl⟩:=us2 (us:=r) (by simpa using h)
  exact⟨a,b,c,rfl⟩
theorem us4 {us:List av}(h:us.length=4):∃a b c d,us = [a,b,c,d]:=by
 cases us with
 |nil=>cases h
 |cons a r=>
  obtain⟨b,c,d,rfl⟩:=v8 (us:=r) (by simpa using h)
  exact⟨a,b,c,d,rfl⟩
end PP
namespace Core
open PySem L2 PP
abbrev DK (n:Int)(ps:List (List aG×PV)):Prop:=DL n ps ps.length
structure WL (n:Int)(ws:af)(ls:aa):Prop where
 many:(ws.length:Int)=n
 inn:∀l∈ls,0<=l.1/\l.1<l.2/\l.2<n
 most:ls.length<=1700
 ord:ls.Pairwise kU
 pos:∀w∈ws,0<=w
theorem WL.perm {n:Int}{ws:af}{ls ls':aa}(h1:(ws.length:Int)=n)(h2:∀l∈ls,0<=l.1/\l.1<l.2/\l.2<n)(h3:ls.length<=1700)(nd:ls.Nodup)(h4:∀w∈ws,0<=w)(p:ls'.Perm ls)(so:(ls'.map two).Pairwise λu v=>HT.cX v u=false):WL n ws ls':=
 ⟨h1,λl hl=>h2 l (p.mem_iff.mp hl),by rw[p.length_eq];exact h3,aX7 so (p.nodup_iff.mpr nd),h4⟩
theorem WL.wb {n:Int}{ws:af}{ls:aa}(h:WL n ws ls)(hn:n<=40):Wb ws ls:=
 ⟨by have:=h.many;omega,h.most,λl hl=>by have:=h.inn l hl;have:=h.many;omega⟩
def E2 (f:af->aa->af->(PV->Prop)->Prop):fA:=λEp xs Q=>∃ws ls x ns,xs = [aZ ws ls,x]/\Wb ws ls/\gE x ns/\ns.length<=1000/\(dB ws.length ns=true->f ws ls ns Q)/\(dB ws.length ns=false->Ep "BadSet")
def v9:fA:=E2 λws ls ns Q=>∀m,cB ws ls ns m->Q (.lst (tups (ns::after ws ls ns m)))
def vA:fA:=E2 λws ls ns Q=>∀m,cB ws ls ns m->Q (.dK (kY (ns::after ws ls ns m)))
def vB:fA:=E2 λws ls ns Q=>∀ms m,cB ws ls ns m->ms.Perm (b9 ws ls ns m)->ms.Pairwise (· <= ·)->Q (.tup (intz ms))
def ah4 (Ep:Str->Prop):aV:=(aJ (i7 2 (fF (a9 (jX Ep oZ (a9 (a5 0) (a9 (a5 1) aC))) aC)))
 (aJ (i7 3 (aM nH (a9 (b6 (a5 2) (qC (.int 0))) aC)))
 (aJ (bE 4 (aM B7 (a9 (a5 0) aC)))
 (aJ (bE 5 (aM rP (a9 (a5 0) (a9 (a5 4) (a9 (a5 3) aC)))))
 (aJ (tZ (yT (a5 5))
  (aJ (iN 2 (a5 5))
  (aJ (zD 3 (aM nH (a9 (a5 5) aC)))
  (bE 5 (aM rP (a9 (a5 0) (a9 (a5 4) (a9 (a5 3) aC))))))))
 (lN 2))))))
theorem bc7:m7 ah4 ["web","seeds","told","burning","around","lit"] v9:=by
 rintro Ep xs Q ⟨ws,ls,x,ns,rfl,wb,hx,hl,q,qe⟩;have few:=wb.few;refine⟨_,rfl,_,rfl,ws,ls,x,ns,rfl,hx,hl,λhs=>?_,qe⟩;have q:=q hs;have ln:=nI hs;refine⟨by show 1<=1000;decide,?_,rfl,?_,?_⟩
 ·show (flat (.tup (intz ns))&&true)=true
  rw[iB];rfl
 ·show (flat (.tup (intz ns))&&true)=true
  rw[iB];rfl
 refine⟨_,rfl,_,_,_,rfl,rfl,rfl,_,ns,rfl,.inl rfl,by omega,λps d=>⟨rfl,d.fl,?_⟩⟩;refine⟨_,rfl,ws,ls,rfl,wb,trivial,?_⟩;refine⟨_,rfl,_,rfl,_,rfl,ws,ls,ps,ns,rfl,wb,d,trivial,?_⟩
 refine⟨λn ρ=>∃k ps,ρ = [some (.sh (flat (aZ ws ls)) (aZ ws ls)),some (.sh (flat x) x),some (.own (.lst (tups (ns::after ws ls ns k)))),some (.own (.dK ps)),some (.sh true (.lst (oW ws.length ls))),some (.sh true (.tup (intz (nextOf ws ls (b9 ws ls ns k)))))]/\
   n=dJ ws (b9 ws ls ns k)/\DS ps (b9 ws ls ns k)/\∀j<k,nextOf ws ls (b9 ws ls ns j)≠[],⟨_,0,ps,rfl,rfl,d,λ_ z=>absurd z (Nat.not_lt_zero _)⟩,?_⟩
 rintro n ρ ⟨k,ps,rfl,rfl,d,ne⟩;refine⟨_,rfl,_,rfl,?_⟩;cases hn:nextOf ws ls (b9 ws ls ns k) with
 |nil=>exact aN ⟨_,rfl,trivial,q k ⟨ne,hn⟩⟩
 |cons y yr=>
  refine aU ?_;rw[<- hn];have cs:=uT ws ls (b9 ws ls ns k);have nl:1<=(nextOf ws ls (b9 ws ls ns k)).length:=by rw[hn];exact Nat.succ_le_succ (bB2 _)
  have nle:=aV5 ws ls (b9 ws ls ns k);have sl:=nJ (ls:=ls) hs k;have dl:=d.len;have ke:=ad1 k ne;refine⟨_,rfl,_,rfl,trivial,?_,?_⟩
  ·rw[ae5,bA3]
   unfold after;rw[bx7,bE4];omega
  refine⟨_,rfl,_,rfl,_,_,rfl,.inl rfl,by omega,λmp dm=>⟨mp,rfl,.inl rfl,?_,?_⟩⟩
  ·have:=dm.len;omega
  have D7:DS (jA ps mp) (b9 ws ls ns (k+1)):=d.merge dm;refine⟨_,rfl,_,rfl,_,rfl,ws,ls,_,_,rfl,wb,D7,trivial,?_⟩;refine⟨_,?_,k+1,jA ps mp,?_,rfl,D7,λj hj=>?_⟩
  ·show dJ ws (b9 ws ls ns k++nextOf ws ls (b9 ws ls ns k))<_
   omega
  ·rw[B4,<- List.cons_append]
   unfold tups;rw[bB7];rfl
  ·by_cases e:j=k
   ·rw[e,hn];exact λz=>nomatch z
   ·exact ne j (by omega)
def ah5 (Ep:Str->Prop):aV:=(aJ (i7 2 (qC (.dK [])))
 (aJ (fG (C4 (jX Ep v9 (a9 (a5 0) (a9 (a5 1) aC)))) (lP 3 4)
  (fG (eG (a5 4)) (cH 5)
   (u9 2 (a5 5) (a5 3))))
 (lN 2)))
theorem bc8:m7 ah5 ["web","seeds","ranks","rank","lit","hearth"] vA:=by
 rintro Ep xs Q ⟨ws,ls,x,ns,rfl,wb,hx,hl,q,qe⟩;have few:=wb.few;refine⟨rfl,rfl,_,rfl,_,rfl,ws,ls,x,ns,rfl,wb,hx,hl,λhs m en=>⟨_,.inl rfl,λz=>(by cases z),?_⟩,qe⟩;have q:=q hs;have fl:=rN ws ls ns m;have sl:=nJ (ls:=ls) hs m;have nd:=C5 (ls:=ls) hs m;generalize hrs:ns::after ws ls ns m=rs at fl;rw[<- fl]at sl nd;refine⟨λi ρ=>∃y z u,ρ = [some (.sh (flat (aZ ws ls)) (aZ ws ls)),some (.sh (flat x) x),some (.own (.dK (kY (rs.take i)))),y,z,u],⟨none,none,none,rfl⟩,?_,?_⟩
 ·rintro i y ρ hy ⟨y0,z0,u0,rfl⟩
  obtain⟨y,hy2,rfl⟩:=aZ8 hy
  obtain⟨r,rfl,hr⟩:=aW9 hy2
  have tk:rs.take (i+1)=rs.take i++[r]:=by rw[bF2,hr];rfl
  have il:(rs.take i).length=i:=by
   have:=(by4.mp hr).1
   rw[bB5];omega
  have nd2:((rs.take i).flatten++r).Nodup/\((rs.take i).flatten++r).length<=rs.flatten.length:=by
   have e:rs.flatten=((rs.take i).flatten++r)++(rs.drop (i+1)).flatten:=by
    rw[<- List.flatten_singleton (l:=r),<- bK2,<- tk,<- bK2,bA7]
   rw[e]at nd ⊢
   exact⟨(bG6.mp nd).1,by rw[bx8 (as:=(rs.take i).flatten++r)];omega⟩
  refine⟨_,_,rfl,_,rfl,_,rfl,λz=>(by cases z),λj ρ=>∃u,ρ = [some (.sh (flat (aZ ws ls)) (aZ ws ls)),some (.sh (flat x) x),some (.own (.dK (kY (rs.take i)++iW i (r.take j)))),some (.sh true (.int (i:Int))),some (.sh true (.tup (intz r))),u],⟨u0,?_⟩,?_,?_⟩
  ·rw[show iW i (r.take 0) = [] from rfl,bA0]
   rfl
  ·rintro j y ρ hy ⟨u1,rfl⟩
   obtain⟨n,rfl,hn⟩:=oU hy
   have ke:(kY (rs.take i)++iW i (r.take j)).map (·.1)=((rs.take i).flatten++r.take j).map (Sum.inl:Int->aG):=by
    rw[bB7,bB7,ag8,ag6]
   have nn:n∉(rs.take i).flatten++r.take j:=by
    have:=nd2.1
    rw[<- bA7 j r,List.drop_eq_getElem_cons (by4.mp hn).1,(by4.mp hn).2,<- bA2]at this;exact λz=>(bG6.mp this).2.2 n z n bz8 rfl
   have le:(kY (rs.take i)++iW i (r.take j)).length<=40:=by
    have e1:=congrArg List.length ke;have e2:=nd2.2;rw[bx7,bx7,bx8,bx8,bB5]at e1;rw[bx8]at e2;rw[bx8];omega
   refine⟨_,rfl,_,rfl,_,rfl,Sum.inl n,rfl,trivial,by omega,si n,?_⟩;rw[bc0 ke nn,bc1 hn,bA2];rfl
  ·rintro ρ ⟨u,rfl⟩
   refine⟨some (.sh true (.int i)),some (.sh true (.tup (intz r))),u,?_⟩;rw[bM,bA4,tk,bb9,il]
 ·rintro ρ ⟨y,z,u,rfl⟩
  rw[C3,ae5,bA4,<- hrs]
  exact⟨_,rfl,trivial,q m en⟩
def ah6 (Ep:Str->Prop):aV:=(bC (aM dG (a9 (aM C6 (a9 (jX Ep vA (a9 (a5 0) (a9 (a5 1) aC))) aC)) aC)))
theorem bc9:m7 ah6 ["web","seeds"] vB:=by
 rintro Ep xs Q ⟨ws,ls,x,ns,rfl,wb,hx,hl,q,qe⟩;have few:=wb.few;refine⟨_,rfl,_,rfl,ws,ls,x,ns,rfl,wb,hx,hl,λhs m en=>?_,qe⟩;have sl:=nJ (ls:=ls) hs m;refine⟨_,b9 ws ls ns m,rfl,?_,by omega,λms hp ho=>⟨⟨_,_,rfl,rfl,bV _,trivial,q hs ms m en hp ho⟩,λns z=>by cases z⟩⟩;rw[ag8,rN]
section
variable {ws:af}{ls:aa}
def cne (ws:af)(ls:aa)(S:af):Bool:=!decide (S = [])&&decide (stay ws ls S=S)
theorem bd0 {a b:ae}(h:a.Perm b)(ha:a.Pairwise λu v=>HT.cX v u=false)(hb:b.Pairwise λu v=>HT.cX v u=false):a=b:=
 h.eq_of_pairwise (λx y _ _ h1 h2=>yB h2 h1) ha hb
theorem bd1 {a b:Int×Int}(e:two a=two b):a=b:=by
 unfold two at e;injection e with e1 e2
 injection e2 with e2 _
 exact Prod.ext e1 e2
end
end Core
namespace PP
open PySem L2
section
variable {X:Cx}{a b:Expr}{ta tb:aL}{pos:Pos}
theorem ah7 {K:ac}{M M':ax->Prop}{H:Hp}{v:V}{m n:af}(r1:aI K M H v (.tup (intz m)))(r2:aI K M' H v (.tup (intz n))):m=n:=by
 obtain⟨p,us,rfl,h1,q1⟩:=r1.sqT
 obtain⟨p2,ws,e,h2,q2⟩:=r2.sqT
 cases e;rw[h1]at h2;cases h2
 have:=(q1.ofInts).symm.trans q2.ofInts
 exact (List.map_inj_right λ_ _ e=>by cases e;rfl).mp this
end
end PP
namespace Core
open PySem L2 PP
def far (ns S:af):Bool:=decide (((S.filter λx=>decide (x∈ns)).length:Int)=0)
def bd2 (ls:aa)(S U:af):Prop:=∀x∈U,∀y∈bT ls x,y∈S->y∈U
noncomputable def bd3 (ls:aa)(S:af)(h:Int):af:=S.filter λx=>@decide (∀U:af,bd2 ls S U->h∈U->x∈U) (Classical.propDecidable _)
section
variable {ws:af}{ls:aa}{S:af}{n:Nat}{h x:Int}
noncomputable def bd4 (ls:aa)(S:af)(h:Int):Bool:=decide ((bd3 ls S h).head? = some h)
noncomputable def bd5 (ls:aa)(S:af):af:=S.filter (bd4 ls S)
end
def ah8 (ws:af)(ls:aa):af->af->Bool
 |_,[]=>true
 |B,h::R=>inB ws.length h&&(kin ws ls B h&&ah8 ws ls (B++[h]) R)
def never (ws:af)(h:Int):af:=ws.set h.toNat (ws.length:Int)
structure LK (i j:Nat)(ls:aa):Prop where
 inn:∀l∈ls,0<=l.1/\l.1<l.2/\(l.2<(i:Int)∨(l.2=(i:Int)/\l.1<(j:Int)))
 nd:ls.Nodup
 few:ls.length<=40*i+j
end Core
namespace PP
open PySem L2
section
variable {X:Cx}{a b:Expr}{ta tb:aL}{pos:Pos}
def ah9 (K:ac):R2:=λx y H Q=>∃p us ns,∃rs:ae,y = .ref p/\H p=some (.tup us)/\aI K (λ_=>True) H x (.tup (intz ns))/\Reps K (λ_=>True) H us (rs.map λr=>PV.tup (intz r))/\Q (.bl (decide (ns∈rs))) H
open Classical in
theorem bd6 (hu:X.A.units+3<cLine):cR X (compareOp .In) (ah9 X.K):=by
 intro ag s σ H x y v u Q I rx ry h
 obtain⟨p,us,ns,rs,rfl,hp,rn,rr,q⟩:=h
 cases ry
 obtain⟨its,r,pl,hz⟩:=I.tuple (aS.of (K:=X.K) hp)
 obtain⟨px,ws,rfl,hx,qx⟩:=rn.sqT
 have lr:=r.length;have lp:=rr.length;rw[bx7]at lp
 let f:av->Bool:=λw=>decide (∃v',b7 v' w/\aI X.K (λ_=>True) H v' (.tup (intz ns)))
 have key:∀j (w:av),its[j]? = some w->∃m,rs[j]? = some m/\SeqAt.EqAt X.A.in1 s w v (decide (m=ns))/\(f w=decide (m=ns)):=λj w hw=>by
  have hj:=(by4.mp hw).1;have h1:j<us.length:=by omega
  obtain⟨w',hw',rw'⟩:=r.get (by1 h1)
  rw[hw]at hw';cases hw'
  obtain⟨m',hm',rm⟩:=rr.get (by1 h1)
  rw[bz1]at hm';cases hm:rs[j]? with
  |none=>rw[hm]at hm';cases hm'
  |some m=>
   rw[hm]at hm';cases hm';refine⟨m,hm,?_,?_⟩
   ·have:=zN I 2 (A:=X.A.in1) (by show X.A.units+1+2<cLine;omega) rm rn rw' rx (by exact Y8 1 m ns)
    rw[Y6 1]at this;exact this
   ·have:(∃v',b7 v' w/\aI X.K (λ_=>True) H v' (.tup (intz ns)))↔m=ns:=by
     refine⟨λ⟨v',h1',h2'⟩=>?_,λe=>⟨_,rw',by rw[<- e];exact rm⟩⟩
     obtain⟨p1,w1,e1,_,_⟩:=rm.sqT
     obtain⟨p2,w2,e2,_,_⟩:=h2'.sqT
     rw[e1]at rw' rm;rw[e2]at h1' h2';cases rw';cases h1';exact ah7 rm h2'
    show decide _=decide _;exact decide_eq_decide.mpr this
 refine SeqAt.in_tupleAt f pl (λw hw=>?_) ⟨.bl _,H,I,rfl,?_⟩
 ·have hw:w∈its:=by simpa using hw
  obtain⟨j,hj⟩:=bJ9 hw
  obtain⟨m,_,h1,h2⟩:=key j w hj
  rw[h2];exact h1
 ·have:its.toArray.any f=decide (ns∈rs):=by
   rw[show its.toArray.any f=its.any f by simp,bC7,List.any_eq_true,bz5];refine⟨λ⟨w,hw,e⟩=>?_,λh=>?_⟩
   ·obtain⟨j,hj⟩:=bJ9 hw
    obtain⟨m,hm,_,h2⟩:=key j w hj
    rw[h2,bz5]at e;rw[<- e];exact bH0 hm
   ·obtain⟨j,hj⟩:=bJ9 h
    have hl:=(by4.mp hj).1
    obtain⟨m,hm,_,h2⟩:=key j its[j] (by1 (by omega))
    rw[hj]at hm;cases hm
    exact⟨its[j]'(by omega),bI0 _,by rw[h2];exact by9 rfl⟩
  rw[this];exact q
def rW:PV->Tg->PV->Tg->PK->Prop:=λx _ y _ Q=>∃ns,∃rs:ae,x = .tup (intz ns)/\y = .tup (rs.map λr=>PV.tup (intz r))/\Q (.bl (decide (ns∈rs))) .fr
theorem bd7:eY X rW (ah9 X.K):=by
 rintro W Hs H u v x y g g' Q Q' s n r1 r2 ⟨ns,rs,rfl,rfl,q⟩ k
 obtain⟨p,us,rfl,h,r⟩:=r2.sqT
 exact⟨p,us,ns,rs,rfl,h,r1.same (aE.refl _) (λ_ _=>trivial),r.same (aE.refl _) (λ_ _=>trivial),k _ _ _ .fr (aE.refl _) (.bl _) q⟩
theorem ai0 (hu:X.A.units+3<cLine)(ha:QE X a ta)(hb:QE X b tb)(hm:behindInMarks .In b=false:=by rfl):QE X (.Compare a [.In] [b] pos) (q2 rW ta tb):=mZ (bd6 hu) bd7 ha hb hm
end
end PP
namespace Core
open PySem L2 PP
section
variable {ws:af}{ls:aa}{ns S:af}
theorem ai1:∀k,(∀j<k,nextOf ws ls (b9 ws ls ns j)≠[])->k<=(b9 ws ls ns k).length
 |0,_=>bB2 _
 |k+1,h=>by
  have ih:=ai1 k λj hj=>h j (by omega)
  have:=List.length_pos_iff.mpr (h k (by omega))
  show k+1<=(b9 ws ls ns k++nextOf ws ls (b9 ws ls ns k)).length;rw[bx8];omega
theorem E3 (ws:af)(ls:aa)(ns:af):∃m,cB ws ls ns m:=by
 have key:∀k,(∃m,cB ws ls ns m)∨∀j<k,nextOf ws ls (b9 ws ls ns j)≠[]:=λk=>by
  induction k with
  |zero=>exact .inr λj hj=>(by omega)
  |succ k ih=>
   rcases ih with h|h
   ·exact .inl h
   ·by_cases e:nextOf ws ls (b9 ws ls ns k) = []
    ·exact .inl ⟨k,h,e⟩
    ·exact .inr λj hj=>if z:j=k then z▸e else h j (by omega)
 rcases key (ns.length+dJ ws ns+1) with h|h
 ·exact h
 ·have:=ai1 _ h
  have:=B5 ws ls ns (ns.length+dJ ws ns+1)
  omega
end
end Core
namespace L2
open PySem PySem.Spec PyProof.Rows
theorem bd8 {a b c:af}(h1:HT.cX a b=true)(h2:HT.cX b c=true):HT.cX a c=true:=by
 cases e:HT.cX a c with
 |true=>rfl
 |false=>
  have ca:=yA (qR h2) (qR h1)
  have:=yB e ca
  subst this
  have:=qR h1
  rw[h2]at this;cases this
theorem E4 {α:Type}{p q:α->Bool}:∀{l:List α},(∀x∈l,p x=true->q x=true)->(l.filter p).length<=(l.filter q).length
 |[],_=>bx9 _
 |x::l,h=>by
  have ih:=E4 (l:=l) λy hy=>h y (bz9 _ hy)
  have hx:=h x bz8;rw[bK5,bK5];cases ep:p x with
  |false=>cases q x<;>simp<;>omega
  |true=>rw[hx ep];simp;omega
theorem ai2 {α:Type}{p q:α->Bool}:∀{l:List α},(∀x∈l,p x=true->q x=true)->(∃x∈l,q x=true/\p x=false)->(l.filter p).length<(l.filter q).length
 |[],_,e=>by obtain⟨_,z,_⟩:=e;cases z
 |x::l,h,e=>by
  have hx:=h x bz8;have h':∀y∈l,p y=true->q y=true:=λy hy=>h y (bz9 _ hy)
  have le:=E4 h';rw[bK5,bK5]
  obtain⟨y,hy,qy,py⟩:=e
  rcases by2.mp hy with rfl|hy
  ·rw[qy,py];simp;omega
  ·have ih:=ai2 h' ⟨y,hy,qy,py⟩
   cases ep:p x with
   |false=>cases q x<;>simp<;>omega
   |true=>rw[hx ep];simp;omega
def nN (ys:ae)(x:af):Nat:=(ys.filter λy=>HT.cX y x).length
theorem ai3 {ys:ae}{u v:af}(hu:u∈ys)(hv:v∈ys):HT.cX u v=decide ((nN ys u:Int)<(nN ys v:Int)):=by
 have irr:∀a:af,HT.cX a a=false:=λa=>by
  cases e:HT.cX a a with
  |false=>rfl
  |true=>have:=qR e;rw[e]at this;cases this
 cases e:HT.cX u v with
 |true=>
  have:nN ys u<nN ys v:=ai2 (λx _ h=>bd8 h e) ⟨u,hu,e,irr u⟩
  exact (by9 (by omega)).symm
 |false=>
  have:nN ys v<=nN ys u:=E4 λx _ h=>by
   cases e2:HT.cX x u with
   |true=>rfl
   |false=>have:=yA e2 e;rw[h]at this;cases this
  exact (by5 (by omega)).symm
end L2
namespace L2
open PySem PySem.Spec PyProof.Rows SO
section
variable {prog:ay}{w:ba}{A:az}{E:av→aw→Prop}{s:aw}
structure p6 (h:Heap)(v:av)(ns:af):Prop where
 at_:∃b ob us n,v = .ref b/\h.get? b=some ob/\ob.cls = .type "tuple"/\ob.data = .seq (List.toArray us) n/\IntsAre us ns
def E5 (h:Heap)(v:av):af:=match v with
 |.ref b=>match h.get? b with
  |some ob=>match ob.data with
   |.seq us _=>us.toList.map numOf
   |_=>[]
  |none=>[]
 |_=>[]
theorem ai4:∀{us:List av}{ns:af},IntsAre us ns->us.map numOf=ns
 |_,_,.nil=>rfl
 |_,_,.cons _ _ h=>by rw[bC1,ai4 h];rfl
theorem p6.ints {h:Heap}{v:av}{ns:af}(z:p6 h v ns):E5 h v=ns:=by
 obtain⟨b,ob,us,n,rfl,e2,_,e4,e5⟩:=z.at_
 unfold E5;dsimp only;rw[e2];dsimp only;rw[e4];exact ai4 e5
def p9 (h:Heap)(ys:ae)(x:Keyed):Int:=(nN ys (E5 h x.1):Int)
end
end L2
namespace L2
open PySem PySem.Spec PyProof.Rows
section
variable {X:Cx}
theorem bd9 (hc:X.calm=true):d7 X (.builtin "min") (λxs H Q=>∃(a:ax) (ns:af),xs = [.ref a]/\aR X.K H a (ns.map V.int)/\ns≠[]/\∀M:Int,M∈ns->(∀x∈ns,M<=x)->Q (.int M) H):=by
 intro ag s σ H xs us Q I r h
 obtain⟨a,ns,rfl,hq,ne,q⟩:=h
 obtain⟨u,rfl,ru⟩:=hV r
 cases ru
 obtain⟨its,rv,p,hz⟩:=I.list hq
 have ia:=lI rv
 obtain⟨ys,ey⟩:=ia.allInts.items
 have en:ns=ys.toList.map (·.1):=by
  have e1:=nums_intItems ys;rw[<- ey]at e1;exact ia.numsOf.symm.trans e1
 have pos:0<ys.size:=Nat.pos_of_ne_zero λz=>ne (by rw[en,bJ0 z];rfl)
 have hl:s.heap.IsList a (intItems ys):=ey▸p.isList;refine min_intList (I.ok.hd hc) hl pos λv h' tk ev old=>?_
 obtain⟨t,rfl⟩:=intItems_at ev
 have best:=argBest_lt (numAt ys) (ys.size-1);have mem:∀x:Int,x∈ns↔∃j,j<ys.size/\numAt ys j=x:=λx=>by
  rw[en];constructor
  ·intro z
   obtain⟨j,hj,e⟩:=mem_getD z
   exact⟨j,by simpa using hj,by rw[numAt_eq];exact e⟩
  ·rintro⟨j,hj,rfl⟩
   rw[numAt_eq];exact getD_mem (by simpa using hj)
 refine⟨.int _,H,I.kept (t':=tk) (h':=h') old,⟨t,rfl⟩,q _ ?_ λx hx=>?_⟩
 ·exact (mem _).mpr ⟨_,by have:=best.1;omega,rfl⟩
 ·obtain⟨j,hj,rfl⟩:=(mem x).mp hx
  exact best.2 j (by omega)
end
end L2
namespace PP
open PySem L2
section
variable {X:Cx}{e:Expr}{tr:c9}{pos p2:Pos}
def ai5:List PV->(PV->Prop)->Prop:=λxs Q=>∃ns:af,xs = [.lst (intz ns)]/\ns≠[]/\∀M:Int,M∈ns->(∀x∈ns,M<=x)->Q (.int M)
theorem be0:dZ X ai5 (λxs H Q=>∃(a:ax) (ns:af),xs = [.ref a]/\aR X.K H a (ns.map V.int)/\ns≠[]/\∀M:Int,M∈ns->(∀x∈ns,M<=x)->Q (.int M) H):=by
 rintro H vs xs Q Q' r ⟨ns,rfl,ne,q⟩ k
 obtain⟨v,rfl,r1⟩:=r.one
 obtain⟨a,us,rfl,_,h,r2⟩:=r1.sqL
 rw[r2.ofInts]at h
 exact⟨a,ns,rfl,aR.of h,ne,λM m1 m2=>k _ _ _ (aE.refl _) (.int M) (q M m1 m2)⟩
end
end PP
namespace L2
open PySem PySem.Spec PyProof.Rows
section
variable {X:Cx}
theorem be1 (hc:X.calm=true):d7 X (.builtin "max") (λxs H Q=>∃(a:ax) (ns:af),xs = [.ref a]/\aR X.K H a (ns.map V.int)/\ns≠[]/\∀M:Int,M∈ns->(∀x∈ns,x<=M)->Q (.int M) H):=by
 intro ag s σ H xs us Q I r h
 obtain⟨a,ns,rfl,hq,ne,q⟩:=h
 obtain⟨u,rfl,ru⟩:=hV r
 cases ru
 obtain⟨its,rv,p,hz⟩:=I.list hq
 have ia:=lI rv
 obtain⟨ys,ey⟩:=ia.allInts.items
 have en:ns=ys.toList.map (·.1):=by
  have e1:=nums_intItems ys;rw[<- ey]at e1;exact ia.numsOf.symm.trans e1
 have pos:0<ys.size:=Nat.pos_of_ne_zero λz=>ne (by rw[en,bJ0 z];rfl)
 have hl:s.heap.IsList a (intItems ys):=ey▸p.isList;refine max_intList (I.ok.hd hc) hl pos λv h' tk ev old=>?_
 obtain⟨t,rfl⟩:=intItems_at ev
 have best:=argBest_gt (numAt ys) (ys.size-1);have mem:∀x:Int,x∈ns↔∃j,j<ys.size/\numAt ys j=x:=λx=>by
  rw[en];constructor
  ·intro z
   obtain⟨j,hj,e⟩:=mem_getD z
   exact⟨j,by simpa using hj,by rw[numAt_eq];exact e⟩
  ·rintro⟨j,hj,rfl⟩
   rw[numAt_eq];exact getD_mem (by simpa using hj)
 refine⟨.int _,H,I.kept (t':=tk) (h':=h') old,⟨t,rfl⟩,q _ ?_ λx hx=>?_⟩
 ·exact (mem _).mpr ⟨_,by have:=best.1;omega,rfl⟩
 ·obtain⟨j,hj,rfl⟩:=(mem x).mp hx
  exact best.2 j (by omega)
end
end L2
namespace PP
open PySem L2
section
variable {X:Cx}{a b e o:Expr}{ta tb te to:aL}{tr:c9}{pos p2 ah ai:Pos}{σ:St}{H:Hp}{Q':VK}
def ai6:List PV->(PV->Prop)->Prop:=λxs Q=>∃ns:af,xs = [.lst (intz ns)]/\ns≠[]/\∀M:Int,M∈ns->(∀x∈ns,x<=M)->Q (.int M)
theorem be2:dZ X ai6 (λxs H Q=>∃(a:ax) (ns:af),xs = [.ref a]/\aR X.K H a (ns.map V.int)/\ns≠[]/\∀M:Int,M∈ns->(∀x∈ns,x<=M)->Q (.int M) H):=by
 rintro H vs xs Q Q' r ⟨ns,rfl,ne,q⟩ k
 obtain⟨v,rfl,r1⟩:=r.one
 obtain⟨a,us,rfl,_,h,r2⟩:=r1.sqL
 rw[r2.ofInts]at h
 exact⟨a,ns,rfl,aR.of h,ne,λM m1 m2=>k _ _ _ (aE.refl _) (.int M) (q M m1 m2)⟩
open Classical in
theorem be3 {A:az}(hu:A.units+2<cLine){ag:List (ax×Obj)}{s:aw}{H:Hp}{us:List V}{its:List av}{rs:ae}{ns:af}{x:V}{v:av}(I:aA X ag σ H s)(rx:b7 x v)(r:aX us its)(rn:aI X.K (λ_=>True) H x (.tup (intz ns)))(rr:Reps X.K (λ_=>True) H us (rs.map λr=>PV.tup (intz r))):∃f:av->Bool,∀(j:Nat) (w:av),its[j]? = some w->∃m,rs[j]? = some m/\SeqAt.EqAt A s w v (f w)/\f w=decide (m=ns):=by
 have lr:=r.length;have lp:=rr.length;rw[bx7]at lp;refine⟨λw=>decide (∃v',b7 v' w/\aI X.K (λ_=>True) H v' (.tup (intz ns))),λj w hw=>?_⟩;have hj:=(by4.mp hw).1;have h1:j<us.length:=by omega
 obtain⟨w',hw',rw'⟩:=r.get (by1 h1)
 rw[hw]at hw';cases hw'
 obtain⟨m',hm',rm⟩:=rr.get (by1 h1)
 rw[bz1]at hm';cases hm:rs[j]? with
 |none=>rw[hm]at hm';cases hm'
 |some m=>
  rw[hm]at hm';cases hm';have e2:(decide (∃v',b7 v' w/\aI X.K (λ_=>True) H v' (.tup (intz ns))))=decide (m=ns):=by
   have:(∃v',b7 v' w/\aI X.K (λ_=>True) H v' (.tup (intz ns)))↔m=ns:=by
    refine⟨λ⟨v',h1',h2'⟩=>?_,λe=>⟨_,rw',by rw[<- e];exact rm⟩⟩
    obtain⟨p1,w1,e1,_,_⟩:=rm.sqT
    obtain⟨p2,w2,e2,_,_⟩:=h2'.sqT
    rw[e1]at rw' rm;rw[e2]at h1' h2';cases rw';cases h1';exact ah7 rm h2'
   exact decide_eq_decide.mpr this
  refine⟨m,rfl,?_,e2⟩;show SeqAt.EqAt A s w v (decide _);rw[e2]
  have:=zN I 2 (A:=A) hu rm rn rw' rx (by exact Y8 1 m ns)
  rw[Y6 1]at this;exact this
def ai7 (K:ac):R2:=λx y H Q=>∃p us ns,∃rs:ae,y = .ref p/\H p=some (.lst us)/\aI K (λ_=>True) H x (.tup (intz ns))/\Reps K (λ_=>True) H us (rs.map λr=>PV.tup (intz r))/\Q (.bl (!decide (ns∈rs))) H
theorem be4 (hu:X.A.units+3<cLine):cR X (compareOp .NotIn) (ai7 X.K):=by
 intro ag s σ H x y v u Q I rx ry h
 obtain⟨p,us,ns,rs,rfl,hp,rn,rr,q⟩:=h
 cases ry
 obtain⟨its,r,pl,hz⟩:=I.list (aR.of (K:=X.K) hp)
 have lr:=r.length;have lp:=rr.length;rw[bx7]at lp
 obtain⟨f,key⟩:=be3 (A:=X.A.in1) (by show X.A.units+1+2<cLine;omega) I rx r rn rr
 refine SeqAt.notIn_listAt f pl.isList (λw hw=>?_) ⟨.bl _,H,I,rfl,?_⟩
 ·have hw:w∈its:=by simpa using hw
  obtain⟨j,hj⟩:=bJ9 hw
  obtain⟨m,_,h1,h2⟩:=key j w hj
  exact h1
 ·have:its.toArray.any f=decide (ns∈rs):=by
   rw[show its.toArray.any f=its.any f by simp,bC7,List.any_eq_true,bz5];refine⟨λ⟨w,hw,e⟩=>?_,λh=>?_⟩
   ·obtain⟨j,hj⟩:=bJ9 hw
    obtain⟨m,hm,_,h2⟩:=key j w hj
    rw[h2,bz5]at e;rw[<- e];exact bH0 hm
   ·obtain⟨j,hj⟩:=bJ9 h
    have hl:=(by4.mp hj).1
    obtain⟨m,hm,_,h2⟩:=key j its[j] (by1 (by omega))
    rw[hj]at hm;cases hm
    exact⟨its[j]'(by omega),bI0 _,by rw[h2];exact by9 rfl⟩
  rw[this];exact q
def E6:PV->Tg->PV->Tg->PK->Prop:=λx _ y _ Q=>∃ns,∃rs:ae,x = .tup (intz ns)/\y = .lst (rs.map λr=>PV.tup (intz r))/\Q (.bl (!decide (ns∈rs))) .fr
theorem be5:eY X E6 (ai7 X.K):=by
 rintro W Hs H u v x y g g' Q Q' s n r1 r2 ⟨ns,rs,rfl,rfl,q⟩ k
 obtain⟨p,us,rfl,_,h,r⟩:=r2.sqL
 exact⟨p,us,ns,rs,rfl,h,r1.same (aE.refl _) (λ_ _=>trivial),r.same (aE.refl _) (λ_ _=>trivial),k _ _ _ .fr (aE.refl _) (.bl _) q⟩
theorem be6 (hu:X.A.units+3<cLine)(ha:QE X a ta)(hb:QE X b tb)(hm:behindInMarks .NotIn b=false:=by rfl):QT X (.Compare a [.NotIn] [b] pos) (aO (q2 E6 ta tb)):=i9 (be4 hu) be5 ha hb hm
end
section
variable {X:Cx}{a b e:Expr}{ta tb te:aL}{tr:c9}{pos:Pos}{σ:St}{H:Hp}{Q':VK}{es:List Expr}
def cQ (neg:Bool):PV->Tg->PV->Tg->PK->Prop:=λx _ y _ Q=>∃i j:Str,x = .str i/\y = .str j/\Q (.bl (if neg=true then !decide (i=j) else decide (i=j))) .fr
theorem be7 (i j:Str):decide (V.str i=V.str j)=decide (i=j):=by
 rw[bC7,bz5,bz5];exact⟨λz=>V.str.inj z,λz=>congrArg V.str z⟩
theorem ai8:eY X (cQ false) wQ:=by
 rintro W Hs H u v x y g g' Q Q' s n r1 r2 ⟨i,j,rfl,rfl,q⟩ k;cases r1;cases r2
 exact⟨rfl,by rw[be7];exact k _ _ _ _ (aE.refl _) (.bl _) q⟩
theorem E7 (ha:QE X a ta)(hb:QE X b tb):QE X (.Compare a [.Eq] [b] pos) (q2 (cQ false) ta tb):=mZ wS ai8 ha hb (fM _)
theorem gZ (ha:QE X a ta)(hb:QE X b tb):QT X (.Compare a [.Eq] [b] pos) (aO (q2 (cQ false) ta tb)):=i9 wS ai8 ha hb (fM _)
end
end PP
namespace Core
open PySem L2 PP
def nO (h:Int):af->af
 |[]=>[h]
 |a::r=>if h<=a then h::a::r else a::nO h r
theorem E8 (h:Int):∀A:af,(nO h A).Perm (A++[h])
 |[]=>List.Perm.refl _
 |a::r=>by
  show (if h<=a then h::a::r else a::nO h r).Perm _;split
  ·exact bL3 (l₁:=[h]) (l₂:=a::r)
  ·exact (E8 h r).cons a
theorem ai9 (h:Int):∀{A:af},A.Pairwise (· <= ·)->(nO h A).Pairwise (· <= ·)
 |[],_=>bA5 _ _
 |a::r,p=>by
  have p':=List.pairwise_cons.mp p;show (if h<=a then h::a::r else a::nO h r).Pairwise _;split
  ·rename_i z
   exact List.pairwise_cons.mpr ⟨λx hx=>by
    rcases by2.mp hx with rfl|hx
    ·exact z
    ·exact Int.le_trans z (p'.1 x hx),p⟩
  ·rename_i z
   exact List.pairwise_cons.mpr ⟨λx hx=>by
    rcases bB3.mp ((E8 h r).mem_iff.mp hx) with hx|hx
    ·exact p'.1 x hx
    ·rw[by0]at hx;omega,ai9 h p'.2⟩
theorem be8 {motive:af->Prop}(z:motive [])(sn:∀L x,motive L->motive (L++[x])):∀L,motive L:=λL=>by
 have:∀R:af,motive R.reverse:=by
  intro R
  induction R with
  |nil=>exact z
  |cons x r ih=>rw[List.reverse_cons];exact sn _ _ ih
 have:=this L.reverse
 rwa [List.reverse_reverse]at this
def l0 (O:af):af:=O.foldl (λA h=>nO h A) []
theorem be9 (O:af)(h:Int):l0 (O++[h])=nO h (l0 O):=by unfold l0;rw[List.foldl_append];rfl
theorem pA:∀O:af,(l0 O).Perm O/\(l0 O).Pairwise (· <= ·):=by
 refine be8 ⟨List.Perm.refl _,.nil⟩ ?_;rintro O h ⟨i1,i2⟩;rw[be9]
 exact⟨(E8 h _).trans (i1.append_right [h]),ai9 h i2⟩
theorem E9 {O ms:af}(p:ms.Perm O)(s:ms.Pairwise (· <= ·)):ms=l0 O:=af4 (p.trans (pA O).1.symm) s (pA O).2
theorem bf0 (O:af):(l0 O).length=O.length:=(pA O).1.length_eq
def Ord (ws:af)(ls:aa)(ns R:af):Prop:=ah8 ws ls ns R=true/\ba6 ws ls (ns++R)
end Core
namespace L2
open PySem PySem.Spec PyProof.Rows PP
section
variable {prog:ay}{w:ba}{A:az}{R:Result→aw→Prop}{I S:ax}{n:Nat}{l:ax}{its:Array av}{s0:aw}{bt:Nat→Nat→Bool}
abbrev at_ (s:aw)(h:Heap)(k:Nat):aw:={ s with heap:=h,toks:=k }
abbrev bf1 (g h:Heap):Prop:=∀b o,g.get? b=some o->h.get? b=some o
def dC (prog:ay)(w:ba)(A:az)(s0:aw)(its:Array av)(bt:Nat->Nat->Bool):Prop:=
 ∀(i j:Nat) (v u:av) (h:Heap) (k:Nat) (Q E:av->aw->Prop),its[i]? = some v->its[j]? = some u->bf1 s0.heap h->Q (.bool (bt i j)) (at_ s0 h k)->wpAny (model prog w) A (richCompare .Lt v u) Q E (at_ s0 h k)
end
end L2
namespace Core
open PySem L2 PP
def FB (L:ae)(f:af->Int)(r:af):Prop:=∃i,L[i]? = some r/\(∀(j:Nat) (s:af),j<i->L[j]? = some s->f s<f r)/\∀s∈L,f s<=f r
end Core
namespace L2
open PySem PySem.Spec PyProof.Rows
section
variable {prog:ay}{w:ba}{A:az}{E:av→aw→Prop}{s:aw}{l:ax}{xs:Array (Int×Tok)}
theorem aj0 {Q:av->aw->Prop}(hl:s.heap.IsTuple l (intItems xs))(h:∀h2:Heap,(h2.IsTupleIter s.heap.objs.size l 0/\h2.IsTuple l (intItems xs))->(∀b∈[s.heap.objs.size,l],b<h2.objs.size)->l≠s.heap.objs.size->(∀b o,s.heap.get? b=some o->b∉[s.heap.objs.size]/\h2.get? b=some o)->Q (.ref s.heap.objs.size) { s with heap:=h2 }):wpAny (model prog w) A (pyIter (.ref l)) Q E s:=by
 have lb:l<s.heap.objs.size:=by obtain⟨_,e,_⟩:=hl;exact by8 e
 refine bI9 hl (h _ ⟨⟨_,bz0 _ rfl,rfl,rfl⟩,hl.push _⟩ (λb hb=>?_) (bA8 lb) λb o e=>⟨λhm=>?_,bx5 _ e⟩)
 ·rw[bF7]
  rcases by2.mp hb with rfl|hb
  ·exact Nat.lt_succ_self _
  ·rw[by0.mp hb];exact Nat.lt_succ_of_lt lb
 ·rw[by0.mp hm]at e
  exact absurd (by8 e) (bE5 _)
theorem bf2 {Q:av->aw->Prop}(hh:A.handled=none)(hl:s.heap.IsTuple l (intItems xs))(hne:0<xs.size)(h:∀v h' tk,(intItems xs)[argBest (λi j=>decide (numAt xs i>numAt xs j)) (xs.size-1)]? = some v->(∀b o,s.heap.get? b=some o->h'.get? b=some o)->Q v { s with heap:=h',toks:=tk }):wpAny (model prog w) A (call (.builtin "max") [.ref l]) Q E s:=by
 refine call_max_walk (aj0 hl λh2 st hfp ne old=>?_)
 exact⟨_,_,_,_,_,_,_,rfl,Walks.tuple (A:=A.in1) hh _ l ne (intItems xs),st,hfp,by simpa[intItems] using hne,CmpOf.ints_gt (numAt xs) (λ_ _=>intItems_at),λv h' tk hP hk=>h v h' tk (by simpa[intItems] using hP) λb o e=>hk b o (old b o e).1 (old b o e).2⟩
theorem bf3 {Q:av->aw->Prop}(hh:A.handled=none)(hl:s.heap.IsTuple l (intItems xs))(hne:0<xs.size)(h:∀v h' tk,(intItems xs)[argBest (λi j=>decide (numAt xs i<numAt xs j)) (xs.size-1)]? = some v->(∀b o,s.heap.get? b=some o->h'.get? b=some o)->Q v { s with heap:=h',toks:=tk }):wpAny (model prog w) A (call (.builtin "min") [.ref l]) Q E s:=by
 refine call_min_walk (aj0 hl λh2 st hfp ne old=>?_)
 exact⟨_,_,_,_,_,_,_,rfl,Walks.tuple (A:=A.in1) hh _ l ne (intItems xs),st,hfp,by simpa[intItems] using hne,CmpOf.ints_lt (numAt xs) (λ_ _=>intItems_at),λv h' tk hP hk=>h v h' tk (by simpa[intItems] using hP) λb o e=>hk b o (old b o e).1 (old b o e).2⟩
end
section
variable {X:Cx}
theorem bf4 (hc:X.calm=true):d7 X (.builtin "max") (λxs H Q=>∃(a:ax) (ns:af),xs = [.ref a]/\aS X.K H a (ns.map V.int)/\ns≠[]/\∀M:Int,M∈ns->(∀x∈ns,x<=M)->Q (.int M) H):=by
 intro ag s σ H xs us Q I r h
 obtain⟨a,ns,rfl,hq,ne,q⟩:=h
 obtain⟨u,rfl,ru⟩:=hV r
 cases ru
 obtain⟨its,rv,p,hz⟩:=I.tuple hq
 have ia:=lI rv
 obtain⟨ys,ey⟩:=ia.allInts.items
 have en:ns=ys.toList.map (·.1):=by
  have e1:=nums_intItems ys;rw[<- ey]at e1;exact ia.numsOf.symm.trans e1
 have pos:0<ys.size:=Nat.pos_of_ne_zero λz=>ne (by rw[en,bJ0 z];rfl)
 have hl:s.heap.IsTuple a (intItems ys):=by rw[<- ey];exact p
 refine bf2 (I.ok.hd hc) hl pos λv h' tk ev old=>?_
 obtain⟨t,rfl⟩:=intItems_at ev
 have best:=argBest_gt (numAt ys) (ys.size-1);have mem:∀x:Int,x∈ns↔∃j,j<ys.size/\numAt ys j=x:=λx=>by
  rw[en];constructor
  ·intro z
   obtain⟨j,hj,e⟩:=mem_getD z
   exact⟨j,by simpa using hj,by rw[numAt_eq];exact e⟩
  ·rintro⟨j,hj,rfl⟩
   rw[numAt_eq];exact getD_mem (by simpa using hj)
 refine⟨.int _,H,I.kept (t':=tk) (h':=h') old,⟨t,rfl⟩,q _ ?_ λx hx=>?_⟩
 ·exact (mem _).mpr ⟨_,by have:=best.1;omega,rfl⟩
 ·obtain⟨j,hj,rfl⟩:=(mem x).mp hx
  exact best.2 j (by omega)
theorem bf5 (hc:X.calm=true):d7 X (.builtin "min") (λxs H Q=>∃(a:ax) (ns:af),xs = [.ref a]/\aS X.K H a (ns.map V.int)/\ns≠[]/\∀M:Int,M∈ns->(∀x∈ns,M<=x)->Q (.int M) H):=by
 intro ag s σ H xs us Q I r h
 obtain⟨a,ns,rfl,hq,ne,q⟩:=h
 obtain⟨u,rfl,ru⟩:=hV r
 cases ru
 obtain⟨its,rv,p,hz⟩:=I.tuple hq
 have ia:=lI rv
 obtain⟨ys,ey⟩:=ia.allInts.items
 have en:ns=ys.toList.map (·.1):=by
  have e1:=nums_intItems ys;rw[<- ey]at e1;exact ia.numsOf.symm.trans e1
 have pos:0<ys.size:=Nat.pos_of_ne_zero λz=>ne (by rw[en,bJ0 z];rfl)
 have hl:s.heap.IsTuple a (intItems ys):=by rw[<- ey];exact p
 refine bf3 (I.ok.hd hc) hl pos λv h' tk ev old=>?_
 obtain⟨t,rfl⟩:=intItems_at ev
 have best:=argBest_lt (numAt ys) (ys.size-1);have mem:∀x:Int,x∈ns↔∃j,j<ys.size/\numAt ys j=x:=λx=>by
  rw[en];constructor
  ·intro z
   obtain⟨j,hj,e⟩:=mem_getD z
   exact⟨j,by simpa using hj,by rw[numAt_eq];exact e⟩
  ·rintro⟨j,hj,rfl⟩
   rw[numAt_eq];exact getD_mem (by simpa using hj)
 refine⟨.int _,H,I.kept (t':=tk) (h':=h') old,⟨t,rfl⟩,q _ ?_ λx hx=>?_⟩
 ·exact (mem _).mpr ⟨_,by have:=best.1;omega,rfl⟩
 ·obtain⟨j,hj,rfl⟩:=(mem x).mp hx
  exact best.2 j (by omega)
end
end L2
namespace PP
open PySem L2
section
variable {X:Cx}{a b e:Expr}{ta tb:aL}{tr:c9}{pos p2:Pos}
def aj1:List PV->(PV->Prop)->Prop:=λxs Q=>∃ns:af,xs = [.tup (intz ns)]/\ns≠[]/\∀M:Int,M∈ns->(∀x∈ns,x<=M)->Q (.int M)
def aj2:List PV->(PV->Prop)->Prop:=λxs Q=>∃ns:af,xs = [.tup (intz ns)]/\ns≠[]/\∀M:Int,M∈ns->(∀x∈ns,M<=x)->Q (.int M)
theorem bf6:dZ X aj1 (λxs H Q=>∃(a:ax) (ns:af),xs = [.ref a]/\aS X.K H a (ns.map V.int)/\ns≠[]/\∀M:Int,M∈ns->(∀x∈ns,x<=M)->Q (.int M) H):=by
 rintro H vs xs Q Q' r ⟨ns,rfl,ne,q⟩ k
 obtain⟨v,rfl,r1⟩:=r.one
 obtain⟨a,us,rfl,h,r2⟩:=r1.sqT
 rw[r2.ofInts]at h
 exact⟨a,ns,rfl,aS.of h,ne,λM m1 m2=>k _ _ _ (aE.refl _) (.int M) (q M m1 m2)⟩
theorem bf7:dZ X aj2 (λxs H Q=>∃(a:ax) (ns:af),xs = [.ref a]/\aS X.K H a (ns.map V.int)/\ns≠[]/\∀M:Int,M∈ns->(∀x∈ns,M<=x)->Q (.int M) H):=by
 rintro H vs xs Q Q' r ⟨ns,rfl,ne,q⟩ k
 obtain⟨v,rfl,r1⟩:=r.one
 obtain⟨a,us,rfl,h,r2⟩:=r1.sqT
 rw[r2.ofInts]at h
 exact⟨a,ns,rfl,aS.of h,ne,λM m1 m2=>k _ _ _ (aE.refl _) (.int M) (q M m1 m2)⟩
end
end PP
namespace Core
open PySem L2 PP
def inL (S:af)(l:Int×Int):Bool:=decide (l.1∈S)&&decide (l.2∈S)
section
variable {ws:af}{ls:aa}{ns R:af}{h:Int}
noncomputable def vC (ws:af)(ls:aa)(ns:af):af:=b9 ws ls ns (Classical.choose (E3 ws ls ns))
theorem bf8:cB ws ls ns (Classical.choose (E3 ws ls ns)):=Classical.choose_spec (E3 ws ls ns)
theorem bf9 {m:Nat}(en:cB ws ls ns m):b9 ws ls ns m=vC ws ls ns:=by unfold vC;rw[aV6 en bf8]
theorem bg0 (hs:dB ws.length ns=true):(vC ws ls ns).Nodup:=C5 hs _
end
end Core
namespace L2
open PySem PySem.Spec PyProof.Rows
def KeysOf (H:Hp):HO->List V->Prop
 |.dK kvs,ys=>ys=kvs.map λp=>kV p.1
 |.dT kvs,ys=>Paired (aJ3 H) ys (kvs.map (·.1))
 |_,_=>False
end L2
namespace Core
open PySem L2 PP
theorem rX (a b:aa):bP (a++b)=bP a++bP b:=bB7 ..
def F0 (r c:Int)(l:Int×Int):Bool:=decide (0<=l.1)&&(decide (l.1<r)&&(decide (0<=l.2)&&decide (l.2<c)))
def bg1 (l:Int×Int):aa:=[(l.1-1,l.2),(l.1,l.2-1),(l.1,l.2+1),(l.1+1,l.2)]
def F1 (r c:Int)(l:Int×Int):aa:=(bg1 l).filter (F0 r c)
section
variable {ls:aa}{n:Nat}{B:af}
def ins (ls:aa)(S:af)(h:Int):Nat:=((bT ls h).filter λx=>decide (x∈S)).length
end
end Core
namespace PP
open PySem L2 PyProof.Rows
section
variable {X:Cx}{a b e:Expr}{ta tb te:aL}{tr:c9}{pos p2:Pos}
theorem dZ.or {R1 R2:List PV->(PV->Prop)->Prop}{r1 r2:List V->Hp->(V->Hp->Prop)->Prop}(h1:dZ X R1 r1)(h2:dZ X R2 r2):dZ X (λxs Q=>R1 xs Q∨R2 xs Q) (λxs H Q=>r1 xs H Q∨r2 xs H Q):=by
 rintro H vs xs Q Q' r (h|h) k
 ·exact .inl (h1 H vs xs Q Q' r h k)
 ·exact .inr (h2 H vs xs Q Q' r h k)
def aj3:List PV->(PV->Prop)->Prop:=λxs Q=>ai5 xs Q∨aj2 xs Q
def aj4:List PV->(PV->Prop)->Prop:=λxs Q=>ai6 xs Q∨aj1 xs Q
theorem bg2 (B:Bt X.mg)(hc:X.calm=true)(ha:QA X [e] tr)(hg:Gl X "min":=by rfl)(he:starEach [e] X.env=(false,eval e X.env)::starEach [] X.env:=by rfl)(hpl:(backTo pos (starEach [] X.env)).any (·.1)=false:=by rfl):QE X (.Call (.Name "min" p2) [e] [] pos) (aM aj3 tr):=
 jT ((bd9 hc).or (bf5 hc)) (be0.or bf7) hg B.min PyProof.Rows.boot_min ha (he:=he) (hpl:=hpl)
theorem bg3 (B:Bt X.mg)(hc:X.calm=true)(ha:QA X [e] tr)(hg:Gl X "max":=by rfl)(he:starEach [e] X.env=(false,eval e X.env)::starEach [] X.env:=by rfl)(hpl:(backTo pos (starEach [] X.env)).any (·.1)=false:=by rfl):QE X (.Call (.Name "max" p2) [e] [] pos) (aM aj4 tr):=
 jT ((be1 hc).or (bf4 hc)) (be2.or bf6) hg B.max PyProof.Rows.boot_max ha (he:=he) (hpl:=hpl)
end
end PP
namespace L2
open PySem PySem.Spec PyProof.Rows SO
abbrev kk (l:Int×Int):List aG:=[Sum.inl l.1,Sum.inl l.2]
end L2
namespace Core
open PySem L2 PP
def hG (K:aa):List (List aG×PV):=K.map λl=>(gY l,PV.bl true)
theorem bg4 {a b:Int×Int}(h:gY a=gY b):a=b:=by
 unfold gY at h;injection h with h1 h2
 injection h2 with h2
 exact Prod.ext (Sum.inl.inj h1) (Sum.inl.inj h2)
theorem bg5 (K:aa):(hG K).length=K.length:=by unfold hG;rw[bx7]
theorem aj5 (K:aa)(x:Int×Int):(cJ (hG K) (gY x)).isSome=decide (x∈K):=by
 rw[<- rO,bC7,List.any_eq_true,bz5];unfold hG;refine⟨λ⟨p,hp,e⟩=>?_,λh=>⟨_,bB8.mpr ⟨x,h,rfl⟩,by9 rfl⟩⟩
 obtain⟨y,hy,rfl⟩:=bB8.mp hp
 rw[<- bg4 (of_decide_eq_true e:gY y=gY x)];exact hy
theorem bg6 {K:aa}{x:Int×Int}(h:x∉K):dL (hG K) (gY x) (.bl true)=hG (K++[x]):=by
 have:((hG K).any λkv=>decide (kv.1=gY x))=false:=by
  rw[rO,aj5,by5 h]
 unfold dL;rw[this];unfold hG;rw[bB7];rfl
inductive rY (r c:Int)(S:aa):Int×Int->Prop
 |seed {x:Int×Int}:x∈S->rY r c S x
 |kin {x a b:Int×Int}:F0 r c x=true->a∈F1 r c x->b∈F1 r c x->a≠b->rY r c S a->rY r c S b->rY r c S x
def nbC (r c:Int)(P:aa)(x:Int×Int):Nat:=(P.filter λp=>decide (x∈F1 r c p)).length
structure Wk (r c:Int)(S K P:aa):Prop where
 nd:K.Nodup
 ndP:P.Nodup
 sub:∀x∈P,x∈K
 brn:∀x∈K,rY r c S x
 sd:∀x∈S,x∈K
 bd:∀x∈K,F0 r c x=true
 low:∀x,x∉K->nbC r c P x<2
theorem bg7 {α:Type}{l:List α}{i:Nat}{x:α}(nd:l.Nodup)(h:l[i]? = some x):x∉l.take i:=λz=>by
 have:(l.take (i+1)).Nodup:=nd.sublist (List.take_sublist _ _)
 rw[bF2,h]at this;exact (bG6.mp this).2.2 x z x (by simp) rfl
def vD:cG:=λxs Q=>∃(x:PV) (ls:aa),xs = [x]/\(x = .tup (bP ls)∨x = .lst (bP ls))/\ls.Nodup/\ls.length<=4096/\Q (.dT (hG ls))
def aj6:aV:=(aJ (i7 1 (qC (.dT [])))
 (aJ (fG (eG (a5 0)) (cH 2)
  (zC 1 (a5 2) (qC (.bl true))))
 (lN 1)))
theorem bg8:e8 aj6 ["hearths","inside","hearth"] vD:=by
 rintro xs Q ⟨x,ls,rfl,hx,nd,hl,q⟩;have sx:j9 x=some (bP ls):=by rcases hx with rfl|rfl<;>rfl
 have tg:(Slot.sh (flat x) x).tag = .rd->flat x=true:=by cases flat x<;>intro z<;>cases z
 refine⟨rfl,rfl,_,rfl,bP ls,sx,tg,λi ρ=>∃y,ρ = [some (.sh (flat x) x),some (.own (.dT (hG (ls.take i)))),y],⟨none,rfl⟩,?_,?_⟩
 ·rintro i y ρ hy ⟨y0,rfl⟩
  obtain⟨l,rfl,h⟩:=B8 hy
  have tk:dL (hG (ls.take i)) (gY l) (.bl true)=hG (ls.take (i+1)):=by rw[bg6 (bg7 nd h),bF2,h];rfl
  refine⟨_,rfl,_,rfl,gY l,rfl,trivial,by rw[bg5,bB5];omega,?_⟩;rw[tk]
  exact⟨_,rfl⟩
 ·rintro ρ ⟨y,rfl⟩
  rw[lZ,bA4]
  exact⟨_,rfl,trivial,q⟩
def rZ:cG:=λxs Q=>∃(ns:af) (k:Int),xs = [.scr ns,.int k]/\ns.length<=63/\0<=k/\k<=1000/\∀z:Int,Q (.int z)
def aj7:aV:=(aJ (bF (aO (jR (a5 1) (aM i8 (a9 (a5 0) aC)))) (bC (b6 (a5 0) (a5 1))) bI)
 (aJ (bE 2 (cS (rA (gC (gC (cS (aM jH (a9 (a5 0) (a9 (cS (a5 1) (aM qY (a9 (qC (.int 1)) (a9 (aM i8 (a9 (a5 0) aC)) aC)))) aC))) (qC (.int 1000000007))) (rA (qC (.int 977)) (a5 1))) (qC (.int 1))) (qC (.int 48271))) (qC (.int 2147483647))))
 (bC (eJ (cS (rA (a5 2) (a5 2)) (qC (.int 2147483647))) (qC (.int 8))))))
theorem bg9:e8 aj7 ["script","k","stir"] rZ:=by
 rintro xs Q ⟨ns,k,rfl,hl,k0,k1,q⟩;refine⟨_,rfl,_,rfl,_,_,rfl,rfl,_,_,rfl,rfl,_,rfl,?_⟩;show if decide (k<(ns.length:Int))=true then _ else _
 by_cases h:k<(ns.length:Int)
 ·rw[by9 h]
  have hk:L2.atI (intz ns) k=some (.int (ns.getD k.toNat 0)):=oX k0 h;exact aU ⟨_,rfl,_,rfl,_,_,_,rfl,rfl,hk,trivial,q _⟩
 ·rw[by5 h]
  refine aN ?_;have mx:(0:Int)<(if (ns.length:Int)>1 then (ns.length:Int) else 1):=by split<;>omega
  refine⟨_,rfl,_,rfl,_,rfl,_,_,rfl,rfl,_,_,rfl,_,_,rfl,rfl,mx,_,ns,_,rfl,.inl rfl,bH8 _ (Int.ne_of_gt mx),?_⟩;refine⟨_,_,rfl,rfl,(by show (0:Int)<1000000007;decide),_,rfl,_,_,rfl,rfl,.inl ⟨by decide,by decide⟩,_,_,rfl,rfl,_,_,rfl,rfl,_,_,rfl,rfl,.inr ⟨by decide,by decide⟩,_,_,rfl,rfl,(by show (0:Int)<2147483647;decide),trivial,?_⟩;dsimp only;generalize hv:(ns.getD (k%(if (ns.length:Int)>1 then (ns.length:Int) else 1)).toNat 0%1000000007+977*k+1)*48271%2147483647=v;have v0:0<=v:=by rw[<- hv];exact bH8 _ (by decide)
  have v1:v<2147483647:=by rw[<- hv];exact bJ1 _ (by decide)
  exact⟨_,rfl,_,rfl,_,_,rfl,rfl,.inl ⟨by omega,by omega⟩,_,_,rfl,rfl,(by show (0:Int)<2147483647;decide),_,_,rfl,rfl,⟨by decide,by decide⟩,trivial,q _⟩
theorem aj8 {x:Int×Int}{ls:aa}:decide (two x∈ls.map two)=decide (x∈ls):=by
 rw[bC7,bz5,bz5];refine⟨λh=>?_,λh=>bB8.mpr ⟨x,h,rfl⟩⟩
 obtain⟨y,hy,e⟩:=bB8.mp h
 unfold two at e;injection e with e1 e2
 injection e2 with e2
 rw[<- Prod.ext e1 e2];exact hy
end Core
namespace L2
open PySem PySem.Spec PyProof.Rows SO
def sA (h:Heap)(ys:ae)(v:av):Prop:=∃ns∈ys,ns≠[]/\p6 h v ns
theorem bh0 {prog:ay}{w:ba}{A:az}{E:av->aw->Prop}{s:aw}(ys:ae):SO.dC prog w A E s (tuples' true) (λx=>sA s.heap ys x.1) (p9 s.heap ys):=by
 rintro x y ⟨ns,m1,_,z⟩ ⟨ms,m2,_,z'⟩ st Q hk hq;unfold p9 at hq;rw[z.ints,z'.ints,<- ai3 m1 m2]at hq
 obtain⟨b,ob,us,n,e1,e2,e3,e4,e5⟩:=z.at_
 obtain⟨b',ob',us',n',e1',e2',e3',e4',e5'⟩:=z'.at_
 rw[lt'_eq];refine by6 (wpS_get ?_);rw[hk,e1,e1'];refine by6 (wpS_lift (wpAny_attempt (PySem.W.kat_lt e2 e4 e2' e4' ?_)))
 have:=U6 (prog:=prog) (w:=w) (A:=A) (s:=s) (Q:=λa s'=>s'=s/\wpS (model prog w) A E s (pure (some a)) Q st) 0 e5 e5' ⟨rfl,bz4 hq⟩
 simpa using this
theorem bh1 {h:Heap}{ys:ae}:∀{vs:List av},(∀v∈vs,sA h ys v)->∃fs:List av,PySem.W.KatTups h vs fs/\fs.length=vs.length/\∀v∈fs,∃i t,v=Value.int i t:=by
 intro vs
 induction vs with
 |nil=>intro _;exact⟨[],PySem.W.KatTups.nil,rfl,λ_ z=>nomatch z⟩
 |cons v vs ih=>
  intro hh
  obtain⟨fs,t1,t2,t3⟩:=ih λy hy=>hh y (bz9 _ hy)
  obtain⟨ns,_,ne,z⟩:=hh v bz8
  obtain⟨b,ob,us,n,rfl,e2,e3,e4,e5⟩:=z.at_
  cases e5 with
  |nil=>exact absurd rfl ne
  |cons p t e6=>exact⟨Value.int p t::fs,PySem.W.KatTups.cons e2 e3 e4 (by simp) t1,by simp[t2],λv hv=>(by2.mp hv).elim (λz=>⟨p,t,z⟩) (t3 v)⟩
theorem bh2 {M:Model}{A:az}{E:av->aw->Prop}{s:aw}{ys:ae}{vs:List av}{Q:SortKind->aw->Prop}(hh:∀v∈vs,sA s.heap ys v)(h2:2<=vs.length)(hQ:Q (tuples' true) s):wpAny M A (keyKind' vs.toArray) Q E s:=by
 obtain⟨fs,t1,t2,t3⟩:=bh1 hh
 refine PySem.W.kat_kind (T:=.type "int") t1 (by omega) (λv hv=>?_) (by decide) ?_
 ·obtain⟨i,t,rfl⟩:=t3 v hv
  exact PySem.W.Looks.now
 ·have eT:(Value.type "int" != Value.type "tuple")=true:=by decide
  rw[eT];exact hQ
theorem bh3 {h:Heap}{ys:ae}{u v:av}{p q:af}(z:p6 h u p)(z':p6 h v q)(hp:p∈ys)(hq:q∈ys)(le:p9 h ys (u,u)<=p9 h ys (v,v)):HT.cX q p=false:=by
 unfold p9 at le;rw[z.ints,z'.ints]at le;rw[ai3 hq hp];exact by5 (by omega)
end L2
namespace PP
open PySem L2
section
variable {X:Cx}{e:Expr}{tr:c9}{pos p2:Pos}
abbrev sB (rs:ae):List PV:=rs.map λr=>PV.tup (intz r)
end
end PP
namespace Core
open PySem L2 PP
structure Bx where
 t:Int
 l:Int
 b:Int
 r:Int
deriving DecidableEq
def Bx.k (x:Bx):af:=[x.t,x.l,x.b,x.r]
def okX (x:Bx):Prop:=x.t<=x.b/\x.l<=x.r
def inX (x:Bx)(p:Int×Int):Prop:=x.t<=p.1/\p.1<=x.b/\x.l<=p.2/\p.2<=x.r
def aj9 (x a:Int×Int):Prop:=(a.1=x.1/\(a.2=x.2-1∨a.2=x.2+1))∨(a.2=x.2/\(a.1=x.1-1∨a.1=x.1+1))
def Clo (B:Bx)(U:Int×Int->Prop):Prop:=∀x a b,inX B x->aj9 x a->aj9 x b->a≠b->U a->U b->U x
section
variable {B:Bx}{U:Int×Int→Prop}
variable {t l b r:Int}
section
variable (cl:Clo B U){p1 p2:Int}(u:U (p1, p2))(ip:inX B (p1, p2))
include cl u ip
end
end
abbrev bxP (x:Bx):PV:=.tup (intz x.k)
theorem bh4 {i j:Nat}{a b:Int}{g:Bool}{ρ:b8}{Q:b8->Prop}(q:Q ((ρ.set i (si a)).set j (si b))):lP i j (.tup [.int a,.int b]) g ρ Q:=by
 refine⟨_,_,rfl,?_⟩;rw[show flat (.int a)=true from rfl,show flat (.int b)=true from rfl,Bool.or_true];exact q
section
variable {ns:af}{a r c z t l:Int}{Q:PV→Prop}(q:∀x:Bx, Q (bxP x))
include q
end
section
variable {ls:aa}{n:Nat}{U:af}{v:Int}
noncomputable def mu (ls:aa)(U:af):Int:=((ls.filter (inL U)).length:Int)-(U.length:Int)+((bd5 ls U).length:Int)
end
abbrev Wys:=List (Int×af)
section
variable {ls:aa}{l:Int×Int}{n:Nat}{S U:af}{h x y:Int}
theorem bh5 (hS:dB n S=true):S.Nodup:=(nF (kT hS).1).imp λh=>Int.ne_of_lt h
end
abbrev Prs:=List (Int×Option Int)
abbrev F2:=List (Int×af)
def ksB (W:F2):af:=W.map (·.1)
section
variable {ws:af}{n:Nat}{ls:aa}{P:Prs}{W T:F2}{D B:af}{h x y c:Int}{e:Option Int}
structure qQ (P:Prs)(W:F2)(D:af)(x:Int)(B:af):Prop where
 self:x∈B
 nd:B.Nodup
 up:∀y∈B,y=x∨(y∈ksB W/\∃e,(y,some e)∈P/\e∈B)
 dn:∀y∈B,∀c,(c,some y)∈P->c∈ksB W->c∈B
 inn:∀y∈B,y∈D
theorem bh6 (nd:B.Nodup)(so:B.Pairwise (· <= ·))(inn:∀x∈B,x∈rng n):dB n B=true:=by
 have up:B.Pairwise (·<·):=(List.Pairwise.and so nd).imp λz=>Int.lt_iff_le_and_ne.mpr ⟨z.1,z.2⟩
 unfold dB;rw[bB4,bH1];refine⟨B1 up,λb hb=>?_⟩
 obtain⟨x,hx,rfl⟩:=bB8.mp hb
 have:=uU.mp (inn x hx)
 show inB n x=true;unfold inB;simp only[bB4,bz5];omega
end
theorem bh7 {i:Nat}{b:af}{g:Bool}{ρ:b8}{Q:b8->Prop}(q:Q (ρ.set i (some (.sh true (.tup (intz b)))))):cH i (.tup (intz b)) g ρ Q:=by
 show Q (ρ.set i (some (.sh (g||flats (intz b)) (.tup (intz b)))));rw[bV,Bool.or_true];exact q
abbrev Led:=aa
theorem ak0 {i:Nat}{a b:Int}{g:Bool}{ρ:b8}{Q:b8->Prop}(q:Q (ρ.set i (some (.sh true (.tup [.int a,.int b]))))):cH i (.tup [.int a,.int b]) g ρ Q:=by
 show Q (ρ.set i (some (.sh (g||true) (.tup [.int a,.int b]))));rw[Bool.or_true];exact q
end Core
namespace L2
open PySem PySem.Spec PyProof.Rows
section
variable {X:Cx}{ag:List (ax×Obj)}{σ:St}{H H1 H':Hp}{s s1 s':aw}{B:Heap}{a C Ch:ax}{x:Str}{np pos hpos:Pos}{b₀:Stmt}{suite body:List Stmt}{tb:TB}{ts:TS}{D:cB}{d6:List ExceptHandler}
theorem bh8 (I:aA X ag σ H1 s1)(fl:nE X.prog X.w X.stack H1 s1 H' B a C s')(hstk:X.stack=X.env::X.outer/\X.env.frame=some X.env.locals)(hg:Gl X x)(hm:X.mg x=some (.ref Ch))(ct:B0 X.K Ch)(sub:PySem.W.subIn X.K (.ref C) (.ref Ch)=some true)(hs:dW (X.suite a) (b₀::suite) ts)(q:∀oe:Obj,oe.cls = .ref C->ts D σ (upd H' a (.frz oe (.own a))))(hd:(x==("__debug__":Str))=false) :
  wpAny (model X.prog X.w) X.A (noteFrame (.ref a) X.env) (λ_ s₂=>wpAny (model X.prog X.w) X.A (setFlight (.ref a) none) (λ_ s₃=>wpAny (model X.prog X.w) X.A (handleBy (.ref a) X.env (.ExceptHandler (some (.Name x np)) none (b₀::suite) hpos::d6)) (SP X ag D) X.xe s₃) X.xe s₂) X.xe s':=by
 obtain⟨a0,fly⟩:=fl.fly
 rw[hstk.1]at fly;refine wpAny_looks_onW (outer:=X.outer) (L:=X.env.locals) (by rw[I.ok.frames,hstk.1]) hstk.2 fly λh4 held up4=>wpAny_landsW held λh5 fly5 up5=>?_
 obtain⟨o5,v5,e5,c5,_⟩:=fly5.first
 have I5:=ac9 I fl fly5.1 (up4.trans up5) e5;refine wpAny_handleBy_cons (codeAny_handlers_test (pU (I5.suite a) hg hm ?_ hd)) (by intro z;cases z);refine aV1 I5.kIn e5 c5 ct.c1 ct.c2 ct.c3 sub ?_;show codeAny (model X.prog X.w) (X.A.mark (some (.ref a))) (.handlers (.ref a) [.ExceptHandler none none (b₀::suite) hpos] X.env) _ _;refine codeAny_handlers_suite (lands_againW fly5 λh6 fly6 up6=>?_)
 obtain⟨o6,v6,e6,c6,_⟩:=fly6.first
 have I6:=ac9 I fl fly6.1 ((up4.trans up5).trans up6) e6;refine bG1 (hs ag _ _ _ D (I6.suite a) (q o6 c6)) (λf s8 h8=>?_) λ_ _ z=>z.elim
 show SP X ag D f s8;cases f with
 |next=>obtain⟨σ',H',J,q⟩:=h8;exact⟨_,_,J.unsuite I.ok,q⟩
 |brk=>obtain⟨σ',H',J,q⟩:=h8;exact⟨_,_,J.unsuite I.ok,q⟩
 |cont=>obtain⟨σ',H',J,q⟩:=h8;exact⟨_,_,J.unsuite I.ok,q⟩
 |ret u=>obtain⟨v,σ',H',J,r,q⟩:=h8;exact⟨v,_,_,J.unsuite I.ok,r,q⟩
def ak1 (K:ac)(Ch:ax)(tb:TB)(ts:TS):TS:=λD σ H=>
 tb D (λc _ H'=>∀(a C:ax) (oe:Obj),c = .ref C->H' a=none->oe.cls = .ref C->PySem.W.subIn K (.ref C) (.ref Ch)=some true/\ts D σ (upd H' a (.frz oe (.own a)))) σ H
theorem bh9 (hstk:X.stack=X.env::X.outer/\X.env.frame=some X.env.locals)(hb:PB X body tb)(hg:Gl X x)(hm:X.mg x=some (.ref Ch))(ct:B0 X.K Ch)(hs:∀a,dW (X.suite a) (b₀::suite) ts)(hd:(x==("__debug__":Str))=false:=by decide):PS X (.Try body [.ExceptHandler (some (.Name x np)) none (b₀::suite) hpos] [] [] pos) (ak1 X.K Ch tb ts):=by
 intro ag s σ H D I h;refine wpAny_Try_except (bG1 (hb ag s σ H D _ I h) (λfl s1 q=>?_) (λev s1 q=>?_))
 ·cases fl with
  |next=>exact bL4 q
  |_=>exact q
 ·obtain⟨H1,s2,I1,H',B,a,C,e1,fl,q⟩:=q
  subst e1
  obtain⟨a0,fly⟩:=fl.fly
  obtain⟨o5,_,_,c5,_⟩:=fly.first
  exact bh8 I1 fl hstk hg hm ct (q a C o5 rfl fl.fresh c5).1 (hs a) (λoe hc=>(q a C oe rfl fl.fresh hc).2) hd
end
end L2
namespace Core
open PySem L2 PP
def IsL (y:PV)(L:Led):Prop:=y = .tup (bP L)∨y = .lst (bP L)
end Core
namespace PP
open PySem L2
section
variable {X:Cx}{a b c:Expr}{ta tb:aL}{tc:cM}{pos:Pos}{σ:St}{H:Hp}{Q':VK}
def pB (t:cM)(ta tb:aL):aL:=λρ Q=>t ρ λd=>if d=true then ta ρ Q else tb ρ Q
theorem bi0 (h:LE X (pB tc ta tb) σ H Q'):M0 (LT X tc) (LE X ta) (LE X tb) σ H Q':=by
 obtain⟨W,ρ,Q,px,q,k⟩:=h
 refine⟨W,ρ,_,px,q,λd H1 s1 q1=>?_⟩;cases d with
 |true=>exact aU ⟨W,ρ,Q,px.mono s1,by simpa using q1,λw H' z g s3 r3 q3=>k w H' z g (s1.trans s3) (r3.same (aE.refl _) λ_ y=>Mg.back s1 y) q3⟩
 |false=>exact aN ⟨W,ρ,Q,px.mono s1,by simpa using q1,λw H' z g s3 r3 q3=>k w H' z g (s1.trans s3) (r3.same (aE.refl _) λ_ y=>Mg.back s1 y) q3⟩
theorem ak2 (hc:QT X c tc)(ha:QE X a ta)(hb:QE X b tb):QE X (.IfExp c a b pos) (pB tc ta tb):=cN (ay7 hc ha hb) λ_ _ _=>bi0
end
abbrev Cau:=Option (Int×af)
end PP
namespace L2
open PySem PySem.Spec PyProof.Rows SO
theorem bi1 {prog:ay}{w:ba}{A:az}{E:av->aw->Prop}{s:aw}{l:ax}{vs:List av}{Q:List av->aw->Prop}(hl:s.heap.IsList l vs.toArray∨s.heap.IsTuple l vs.toArray)(big:vs.length<=sizeLine)(q:Q vs { s with heap:=(s.heap.push (seqObj "list" #[] 0)).update s.heap.objs.size (Obj.mapSeq (·++vs.toArray)) }):wpAny (model prog w) A (collect (.ref l)) Q E s:=
 hl.elim (λhl=>collect_list hl q big) (λhl=>af6 hl q big)
theorem bi2 {prog:ay}{w:ba}{A:az}{E:av->aw->Prop}{s:aw}{l:ax}{vs:List av}{Q:av->aw->Prop}{κ:SortKind}{Ok:Keyed->Prop}{rk:Keyed->Int}(hl:s.heap.IsList l vs.toArray∨s.heap.IsTuple l vs.toArray)(big:vs.length<=sizeLine)(hk:2<=vs.length->∀(A:az) (E:av->aw->Prop) (Q:SortKind->aw->Prop),Q κ { s with heap:=gW (gX s.heap vs) (s.heap.objs.size+1) vs }->wpAny (model prog w) A (keyKind' vs.toArray) Q E { s with heap:=gW (gX s.heap vs) (s.heap.objs.size+1) vs })(c:∀(A:az) (E:av->aw->Prop),SO.dC prog w A E { s with heap:=gW (gX s.heap vs) (s.heap.objs.size+1) vs } κ Ok rk)(o:∀v∈vs,Ok (v,v))(q:∀out:List av,out.Perm vs->out.Pairwise (λu v=>rk (u,u)<=rk (v,v))->Q (.ref (s.heap.objs.size+1)) { s with heap:=sortedAll s.heap vs out.toArray }):wpAny (model prog w) A (call (.builtin "sorted") [.ref l]) Q E s:=by
 apply Calls.call_function_entry kind_sorted plain_sorted entry_sorted (args_sorted1 _);simp only[Builtin.«sorted»];apply bx4 (m:=checkCount "sorted" 1 1 _);apply by3;apply bx4;refine bi1 hl big ?_;apply bx4;refine wpAny_newList ?_ big;have one:((s.heap.push (seqObj "list" #[] 0)).update s.heap.objs.size (Obj.mapSeq (·++vs.toArray))).objs.size=s.heap.objs.size+1:=(Heap.size_update _ _ _).trans (size_push' _ _);have at1:(gX s.heap vs).get? (s.heap.objs.size+1)=some (seqObj "list" vs.toArray 0):=one▸bz0 _ rfl
 change wpAny _ _ _ _ _ { s with heap:=gX s.heap vs }
 rw[one];apply bx4;apply bM8;refine bD9 slot_list_sort ⟨_,at1,rfl⟩ entry_list_sort ?_ (args_list_sort _);by_cases h2:vs.length<2
 ·refine aJ0 (s:={ s with heap:=gX s.heap vs }) at1 h2 ⟨_,rfl,by3 ⟨_,rfl,q vs (List.Perm.refl _) ?_⟩⟩
  match vs,h2 with
  |[],_=>exact List.Pairwise.nil
  |[_],_=>exact bA5 _ _
  |_::_::_,h2=>simp at h2;omega
 ·exact aU6 (s:={ s with heap:=gX s.heap vs }) at1 (by omega) big (hk (by omega) _ _) (c _ _) o λout a1 a2=>⟨_,rfl,by3 ⟨_,rfl,q out a1 a2⟩⟩
def ak3 (K:ac):List V->Hp->VK->Prop:=λxs H Q=>∃(a:ax) (ys:List V) (key:V->af),xs = [.ref a]/\(aR K H a ys∨aS K H a ys)/\ys.length<=4096/\(∀y∈ys,∃b,y = .ref b/\aS K H b ((key y).map V.int)/\key y≠[])/\
 ∀l (zs:List V),H l=none->zs.Perm ys->zs.Pairwise (λu v=>HT.cX (key v) (key u)=false)->Q (.ref l) (upd H l (.lst zs))
theorem bi3 {X:Cx}:d7 X (.builtin "sorted") (ak3 X.K):=by
 intro ag s σ H xs us Q I r h
 obtain⟨a,ys,key,rfl,hs,hz4,hk,q⟩:=h
 obtain⟨u,rfl,ru⟩:=hV r
 cases ru
 obtain⟨its,rv,p,hz⟩:∃its:List av,aX ys its/\(s.heap.IsList a its.toArray∨s.heap.IsTuple a its.toArray)/\ys.length<=sizeLine:=by
  rcases hs with hs|hs
  ·obtain⟨its,rv,p,hz⟩:=I.list hs
   exact⟨its,rv,.inl p.isList,hz⟩
  ·obtain⟨its,rv,p,hz⟩:=I.tuple hs
   exact⟨its,rv,.inr p,hz⟩
 have hl:=rv.length;have hn:s.heap.objs.size<=s.heap.objs.size+1:=bM0 _;have pv:∀{y:V}{v:av},b7 y v->y∈ys->p6 (gW (gX s.heap its) (s.heap.objs.size+1) its) v (key y):=λ{y v} ry hy=>by
  obtain⟨b,rfl,sq,_⟩:=hk y hy
  cases ry
  obtain⟨us,ru,⟨ob,e1,c1,n1,d1⟩,_⟩:=I.tuple sq
  exact⟨b,ob,us,n1,rfl,aU5 (bA8 (Nat.lt_succ_of_lt (by8 e1))) (aU4 e1),c1,d1,lI ru⟩
 have pvs:∀{xs:List V}{vs:List av},aX xs vs->(∀y∈xs,y∈ys)->∀v∈vs,sA (gW (gX s.heap its) (s.heap.objs.size+1) its) (ys.map key) v:=by
  intro xs vs r
  induction r with
  |nil=>intro _ v hv;cases hv
  |cons rx rt ih=>
   intro hh v hv;rcases by2.mp hv with z|z
   ·subst z
    obtain⟨_,_,_,ne⟩:=hk _ (hh _ bz8)
    exact⟨_,bB8.mpr ⟨_,hh _ bz8,rfl⟩,ne,pv rx (hh _ bz8)⟩
   ·exact ih (λy hy=>hh y (bz9 _ hy)) v z
 have allp:=pvs rv λ_ h=>h
 refine bi2 (κ:=tuples' true) (Ok:=λx=>sA (gW (gX s.heap its) (s.heap.objs.size+1) its) (ys.map key) x.1) (rk:=p9 (gW (gX s.heap its) (s.heap.objs.size+1) its) (ys.map key)) p (by rw[<- hl];exact hz)
  (λh2 A E Q hQ=>bh2 (s:={ s with heap:=gW (gX s.heap its) (s.heap.objs.size+1) its }) allp h2 hQ) (λA E=>bh0 (s:={ s with heap:=gW (gX s.heap its) (s.heap.objs.size+1) its }) (ys.map key)) (λv hv=>allp v hv) λout pm so=>?_
 obtain⟨zs,pz,rz⟩:=aU7 pm.symm rv
 obtain⟨e,he⟩:=sortedAll_at s.heap its out.toArray
 refine⟨.ref (s.heap.objs.size+1),upd H (s.heap.objs.size+1) (.lst zs),I.laid (t':=s.toks) (λ_ _=>sortedAll_old) hn ⟨by rw[pz.length_eq];exact hz,out,e,rz,he⟩,rfl,q _ zs (I.hok.fresh hn) pz ?_⟩;have lz:=rz.length;rw[bF4];intro i j hi hj hij;have s1:=bF4.mp so i j (by omega) (by omega) hij;have gi:=xY i hi rz;have gj:=xY j hj rz;simp only[bC0,by1 hi,by1 hj,by1 (show i<out.length by omega),by1 (show j<out.length by omega),Option.getD_some]at gi gj;have mi:=pz.mem_iff.mp (bI0 hi);have mj:=pz.mem_iff.mp (bI0 hj);exact bh3 (pv gi mi) (pv gj mj) (bB8.mpr ⟨_,mi,rfl⟩) (bB8.mpr ⟨_,mj,rfl⟩) s1
def KD (P:ay)(w:ba)(K:ac)(mg:Str->Option av)(x:Str)(kvs:List (aG×V)):Prop:=
 ∃a o,mg x=some (.ref a)/\K.lookup a=some o/\(a==sysModules)=false/\∀h:Heap,h.get? a=some o->∃vs,KV kvs vs/\h.DictOf (dO P w) a vs
def ak4 (kvs:List (aG×V))(ty:TE):TE:=λσ H Q=>ty σ H λy H2=>∃k,y=kV k/\Q ((fD kvs k).getD .non) H2
theorem bi4 {X:Cx}{x:Str}{xp ah ai:Pos}{e:Expr}{ty:TE}{kvs:List (aG×V)}(hg:Gl X x)(hd:KD X.prog X.w X.K X.mg x kvs)(he:PE X e ty)(m:M1 X (.Name x xp) "get" ah e ai)(hx:(x==("__debug__":Str))=false:=by decide):PE X (.Call (.Attribute (.Name x xp) "get" ah) [e] [] ai) (ak4 kvs ty):=by
 obtain⟨a,o,ha,hk,hs,hD⟩:=hd
 intro ag s σ H Q I h;refine wpAny_Call_method m.base m.few m.line PySem.F.plainAttrs_dict PySem.F.slot_dict_get PySem.F.type_dict_get (aP (L4 (v:=.ref a) hg ha rfl hx ag s σ H (λv H1=>v = .ref a/\ty σ H1 λy H2=>∃k,y=kV k/\Q ((fD kvs k).getD .non) H2) I ⟨rfl,h⟩) λu s1 ⟨x,H1,I1,rx,ex,q1⟩=>?_);subst ex;obtain rfl:u=Value.ref a:=rx
 obtain⟨vs,rel,dd⟩:=hD _ (I1.kIn a o hk)
 refine⟨dd.typeIs,λb q=>?_,?_⟩
 ·cases q
  obtain⟨ob,_,_,h1,h2,_⟩:=dd
  exact⟨ob,h1,h2.2.1⟩
 rw[m.trees];refine bK3 rfl (bM3 (Calls.spliced_cons (aP (he ag s1 σ H1 _ I1 q1) λiv s2 ⟨y,H2,I2,ry,k,ey,q2⟩=>Calls.spliced_nil ?_)));subst ey
 obtain⟨vs,rel,dd⟩:=hD _ (I2.kIn a o hk)
 exact call_meetsIn PySem.F.slot_dict_get dd.typeIs PySem.F.entry_dict_get (PySem.F.args_dict_get_2 _ _) (meets_dict_get (dO X.prog X.w) a (qL ry) hs) ⟨_,dd.mapOf,_,H2,I2.tok _,(rel.val k).getD (show b7 .non Value.none from rfl),q2⟩
theorem bi5 {P:ay}{w:ba}{K:ac}{mg:Str->Option av}{x:Str}{a:ax}{o:Obj}{es:Array DictEntry}{ep:Nat}{kvs:List (aG×V)}(ha:mg x=some (.ref a))(hk:K.lookup a=some o)(ho:o.ExactDict)(hd:o.data = .dict es ep)(hs:(a==sysModules)=false)(hv:∃vs,KV kvs vs/\PySem.KeysOf (dO P w) es/\PySem.Pairs (dO P w) es.toList vs/\(vs.map (·.1)).Nodup):KD P w K mg x kvs:=by
 obtain⟨vs,h1,h2,h3,h4⟩:=hv
 exact⟨a,o,ha,hk,hs,λh e=>⟨vs,h1,o,es,ep,e,ho,hd,h2,h3,h4⟩⟩
end L2
namespace PP
open PySem L2
section
variable {X:Cx}{e a b:Expr}{tr:c9}{te ta tb:aL}{pos p2:Pos}
def nP:List PV->(PV->Prop)->Prop:=λxs Q=>∃ys:ae,(xs = [.lst (sB ys)]∨xs = [.tup (sB ys)])/\ys.length<=4096/\(∀y∈ys,y≠[])/\∀zs:ae,zs.Perm ys->zs.Pairwise (λu v=>HT.cX v u=false)->Q (.lst (sB zs))
theorem bi6:dZ X nP (ak3 X.K):=by
 rintro H vs xs Q Q' r ⟨ys,hx,hl,hne,q⟩ k
 obtain⟨a,us,rfl,h,r2⟩:∃a us,vs = [.ref a]/\(aR X.K H a us∨aS X.K H a us)/\Reps X.K (λ_=>True) H us (sB ys):=by
  rcases hx with rfl|rfl
  ·obtain⟨v,rfl,r1⟩:=r.one
   obtain⟨a,us,rfl,_,h,r2⟩:=r1.sqL
   exact⟨a,us,rfl,.inl (aR.of h),r2⟩
  ·obtain⟨v,rfl,r1⟩:=r.one
   obtain⟨a,us,rfl,h,r2⟩:=r1.sqT
   exact⟨a,us,rfl,.inr (aS.of h),r2⟩
 obtain⟨h1,h2⟩:=ae7 r2
 have lr:=r2.length;rw[bx7]at lr;refine⟨a,us,nK H,rfl,h,by omega,λy hy=>?_,λl zs hl' pm so=>?_⟩
 ·obtain⟨b,rfl,hb⟩:=h2 y hy
  refine⟨b,rfl,aS.of hb,hne _ ?_⟩;rw[<- h1];exact bB8.mpr ⟨_,hy,rfl⟩
 ·have hz:∀u∈zs,∃b,u = .ref b/\H b=some (.tup ((nK H u).map V.int)):=λu hu=>h2 u (pm.mem_iff.mp hu)
  refine k _ _ _ (bS hl' _) (.lst hl' aY ((ae8 hz).same (bS hl' _) λ_ z=>z)) (q _ ?_ ?_)
  ·rw[<- h1];exact pm.map _
  ·rw[List.pairwise_map];exact so
theorem F3 (B:Bt X.mg)(ha:QA X [e] tr)(hg:Gl X "sorted":=by rfl)(he:starEach [e] X.env=(false,eval e X.env)::starEach [] X.env:=by rfl)(hpl:(backTo pos (starEach [] X.env)).any (·.1)=false:=by rfl):QE X (.Call (.Name "sorted" p2) [e] [] pos) (aM nP tr):=
 jT bi3 bi6 hg B.sorted PyProof.Rows.boot_sorted ha (he:=he) (hpl:=hpl)
def pC (ds:List (Str×Int)):List (aG×V):=ds.map λp=>(.inr p.1,.int p.2)
def F4 (ds:List (Str×Int))(te:aL):aL:=λρ Q=>te ρ λx _=>∃s,x = .str s/\Q (Core.ag4 (ds.lookup s)) .fr
theorem bi7 (ds:List (Str×Int))(s:Str):(fD (pC ds) (.inr s)).getD .non=(match ds.lookup s with|some i=>V.int i|none=>V.non):=by
 induction ds with
 |nil=>rfl
 |cons p r ih=>
  obtain⟨x,i⟩:=p
  rw[bD3];by_cases e:s=x
  ·subst e
   rw[show (s==s)=true from bE1 s];show (Option.map _ (List.find? _ (_::_))).getD _=_;rw[List.find?_cons_of_pos (by exact by9 rfl)];rfl
  ·rw[show (s==x)=false from bG0.mpr e]
   show (Option.map _ (List.find? _ (_::_))).getD _=_;rw[List.find?_cons_of_neg (by simp;exact λz=>e z.symm)];exact ih
theorem bi8 {σ:St}{H:Hp}{Q':VK}{ds:List (Str×Int)}(h:LE X (F4 ds te) σ H Q'):ak4 (pC ds) (LE X te) σ H Q':=by
 obtain⟨W,ρ,Q,px,q,k⟩:=h
 refine⟨W,ρ,_,px,q,?_⟩;rintro v H1 x g s r ⟨t,rfl,q⟩;cases r;refine⟨.inr t,rfl,?_⟩;rw[bi7];cases e:ds.lookup t with
 |none=>rw[e]at q;exact k _ _ _ _ s .non q
 |some i=>rw[e]at q;exact k _ _ _ _ s (.int i) q
theorem bi9 {x:Str}{xp ah ai:Pos}{ds:List (Str×Int)}(hd:KD X.prog X.w X.K X.mg x (pC ds))(he:QE X e te)(hg:Gl X x:=by rfl)(m:M1 X (.Name x xp) "get" ah e ai:=by exact⟨rfl,rfl,rfl,rfl⟩)(hx:(x==("__debug__":Str))=false:=by decide):QE X (.Call (.Attribute (.Name x xp) "get" ah) [e] [] ai) (F4 ds te):=
 cN (bi4 hg hd he m hx) λ_ _ _=>bi8
def F5:PV->Tg->PV->Tg->PK->Prop:=λx _ y _ Q=>∃(i:Int) (o:Option Int),x=Core.ag4 o/\y = .int i/\Q (.bl (!decide (o=some i))) .fr
theorem bj0:eY X F5 wR:=by
 rintro W Hs H u v x y g g' Q Q' s n r1 r2 ⟨i,o,rfl,rfl,q⟩ k;cases r2;cases o with
 |none=>
  cases r1
  exact⟨rfl,k _ _ _ .fr (aE.refl _) (.bl true) q⟩
 |some j=>
  cases r1;have e:decide (V.int j=V.int i)=decide (some j=some i):=decide_eq_decide.mpr ⟨λz=>by cases z;rfl,λz=>by cases z;rfl⟩;refine⟨rfl,?_⟩;rw[e];exact k _ _ _ .fr (aE.refl _) (.bl _) q
theorem bj1 (ha:QE X a ta)(hb:QE X b tb):QT X (.Compare a [.NotEq] [b] pos) (aO (q2 F5 ta tb)):=i9 O1 bj0 ha hb (fM _)
end
end PP
namespace Core
open PySem L2 PP
theorem jI:1<=1000:=by decide
theorem dD:2<=1000:=by decide
theorem vE:3<=1000:=by decide
theorem le5:5<=1000:=by decide
inductive gF|light (i:Int)|douse (i:Int)|want (i j:Int)|link (i j:Int)|cut (i j:Int)
def dP:gF->PV
 |.light i=>.tup [.str "light",.int i]
 |.douse i=>.tup [.str "douse",.int i]
 |.want i j=>.tup [.str "want",.int i,.int j]
 |.link i j=>.tup [.str "link",.int i,.int j]
 |.cut i j=>.tup [.str "cut",.int i,.int j]
theorem ak5 (d:gF):flat (dP d)=true:=by cases d<;>rfl
abbrev mm (i j:Int):Int×Int:=(if j<i then j else i,if j>i then j else i)
def tP:gF->PV
 |.light i=>.tup [.str "light",.int i]
 |.douse i=>.tup [.str "douse",.int i]
 |.want i j=>.tup [.str "want",.int i,.int j]
 |.link i j=>.tup [.str "link",.int (mm i j).1,.int (mm i j).2]
 |.cut i j=>.tup [.str "cut",.int (mm i j).1,.int (mm i j).2]
theorem pD (d:gF):flat (tP d)=true:=by cases d<;>rfl
def bO (ws:af)(ls:aa)(S:af):gF->Bool
 |.light i=>!inB ws.length i||decide (i∈S)
 |.douse i=>!inB ws.length i||!decide (i∈S)
 |.want i j=>!inB ws.length i||(decide (j<0)||(decide (60<j)||decide (ws.getD i.toNat 0=j)))
 |.link i j=>!inB ws.length i||(!inB ws.length j||(decide (i=j)||decide (mm i j∈ls)))
 |.cut i j=>!inB ws.length i||(!inB ws.length j||(decide (i=j)||!decide (mm i j∈ls)))
def l9 (ls:aa)(p:Int×Int)(ls':aa):Prop:=ls'.Perm (ls++[p])/\(ls'.map two).Pairwise (λu v=>HT.cX v u=false)
theorem l9.uniq {ls a b:aa}{p:Int×Int}(h:l9 ls p a)(k:l9 ls p b):a=b:=by
 have e:=bd0 ((h.1.trans k.1.symm).map two) h.2 k.2;clear h k
 induction a generalizing b with
 |nil=>cases b with
  |nil=>rfl
  |cons y b=>cases e
 |cons x a ih=>cases b with
  |nil=>cases e
  |cons y b=>
   rw[bC1,bC1]at e;injection e with e1 e2
   rw[bd1 e1,ih e2]
abbrev bR:=af×aa×af
def e9 (ws:af)(ls:aa)(S:af):gF->bR->Prop
 |.light i,r=>r=(ws,ls,l0 (S++[i]))
 |.douse i,r=>r=(ws,ls,S.filter λz=>!decide (z∈[i]))
 |.want i j,r=>r=(ws.take i.toNat++[j]++ws.drop (i.toNat+1),ls,S)
 |.link i j,r=>∃ls',r=(ws,ls',S)/\l9 ls (mm i j) ls'
 |.cut i j,r=>r=(ws,ls.filter λz=>!decide (z∈[mm i j]),S)
theorem e9.uniq {ws:af}{ls:aa}{S:af}{d:gF}{a b:bR}(h:e9 ws ls S d a)(k:e9 ws ls S d b):a=b:=by
 cases d with
 |link i j=>
  obtain⟨l1,rfl,h⟩:=h
  obtain⟨l2,rfl,k⟩:=k
  rw[h.uniq k]
 |_=>exact (show a=_ from h).trans (show b=_ from k).symm
def eN (r:bR):PV:=.tup [aZ r.1 r.2.1,.tup (intz r.2.2)]
theorem e9.keeps {ws:af}{ls:aa}{S:af}{d:gF}{r:bR}(h:e9 ws ls S d r)(st:dB ws.length S=true)(ok:bO ws ls S d=false):r.1.length=ws.length/\r.2.1.length<=ls.length+1/\dB r.1.length r.2.2=true:=by
 cases d with
 |light i=>
  have h:r=_:=h;subst h;unfold bO at ok;rw[Bool.or_eq_false_iff,Bool.not_eq_false',bC5]at ok;unfold inB at ok;rw[bB4,bz5,bz5]at ok;refine⟨rfl,bM0 _,?_⟩
  obtain⟨p,so⟩:=pA (S++[i])
  refine bh6 (p.nodup_iff.mpr ?_) so λx hx=>?_
  ·exact bG6.mpr ⟨bh5 st,bA5 _ _,λa ha b hb e=>ok.2 (by rw[by0.mp hb]at e;rw[<- e];exact ha)⟩
  ·rcases bB3.mp (p.mem_iff.mp hx) with z|z
   ·exact uU.mpr ((kT st).2 x z)
   ·rw[by0.mp z];exact uU.mpr ok.1
 |douse i=>
  have h:r=_:=h;subst h
  exact⟨rfl,bM0 _,bb2 st _⟩
 |want i j=>
  have h:r=_:=h;subst h;unfold bO at ok;rw[Bool.or_eq_false_iff,Bool.not_eq_false']at ok;have ok:=ok.1;unfold inB at ok;rw[bB4,bz5,bz5]at ok;have e:(ws.take i.toNat++[j]++ws.drop (i.toNat+1)).length=ws.length:=by
   rw[bx8,bx8,bB5,bF9,bB6];omega
  exact⟨e,bM0 _,by show dB (ws.take i.toNat++[j]++ws.drop (i.toNat+1)).length S=true;rw[e];exact st⟩
 |link i j=>
  obtain⟨l1,rfl,h⟩:=h
  refine⟨rfl,?_,st⟩
  have:=h.1.length_eq
  rw[bx8,bB6]at this;exact Nat.le_of_eq this
 |cut i j=>
  have h:r=_:=h;subst h
  exact⟨rfl,Nat.le_succ_of_le (bG2 _ _),st⟩
def sC:cG:=λxs Q=>∃(ls:aa) (p:Int×Int),xs = [.tup (bP ls),.lst [.tup [.int p.1,.int p.2]]]/\ls.length<=10000/\Q (.tup (bP (ls.filter λz=>!decide (z∈[p]))))
def ak6:aV:=(aJ (bE 2 (aM vD (a9 (a5 1) aC)))
 (bC (aM dG (a9 (gL (eG (a5 0)) [none,some 2] (cH 0) (aO (kN true (a5 0) (a5 1))) (a5 0)) aC))))
theorem bj2:e8 ak6 ["hearths","some","gone"] sC:=by
 rintro xs Q ⟨ls,p,rfl,hl,q⟩;refine⟨_,rfl,_,[p],rfl,.inr rfl,bA5 _ _,(by show 1<=4096;decide),trivial,?_⟩;have fp:flat (.tup (bP ls))=true:=by unfold flat;exact iV ls
 refine⟨_,rfl,bP ls,rfl,λ_=>fp,by rw[lZ];omega,λi acc=>acc=bP ((ls.take i).filter λz=>!decide (z∈[p])),rfl,?_,?_⟩
 ·rintro i z acc hz rfl
  obtain⟨l,rfl,hn⟩:=B8 hz
  have tk:=jF (p:=λz=>!decide (z∈[p])) hn;refine ak0 ?_;refine⟨_,rfl,_,rfl,_,.inr ⟨hG [p],gY l,rfl,rfl,rfl⟩,_,rfl,?_⟩;show if (!(cJ (hG [p]) (gY l)).isSome)=true then _ else _
  rw[aj5];cases h:decide (l∈[p]) with
  |true=>
   rw[h]at tk;refine aN ?_;show _=bP (List.filter _ (List.take (i+1) ls));rw[tk];exact congrArg bP (bA0 _).symm
  |false=>
   rw[h]at tk;refine aU ⟨_,rfl,trivial,?_⟩;show _=bP (List.filter _ (List.take (i+1) ls));rw[tk,rX];rfl
 ·rintro acc rfl
  rw[lZ,bA4]
  exact⟨⟨_,_,rfl,rfl,iV _,trivial,q⟩,λns z=>by cases z⟩
def vF:List (Str×Int):=[("light",1),("douse",1),("want",2),("link",2),("cut",2)]
def pE:cG:=λxs Q=>∃d,xs = [dP d]/\Q (tP d)
def ak7:aV:=(aJ (bF (aO (q2 F5 (F4 vF (b6 (a5 0) (qC (.int 0)))) (zE (aM i8 (a9 (a5 0) aC)) (qC (.int 1))))) Y9 bI)
 (aJ (bF (dY (aO (q2 (cQ false) (b6 (a5 0) (qC (.int 0))) (qC (.str "link")))) (aO (q2 (cQ false) (b6 (a5 0) (qC (.int 0))) (qC (.str "cut"))))) (bC (bJ (a9 (b6 (a5 0) (qC (.int 0))) (a9 (aM aj3 (a9 (jB (a5 0) (iR (qC (.int 1))) iQ) aC)) (a9 (aM aj4 (a9 (jB (a5 0) (iR (qC (.int 1))) iQ) aC)) aC))))) bI)
 (bC (aM dG (a9 (a5 0) aC)))))
theorem ak8 {i j M:Int}(h:M∈[i,j])(k:∀x∈[i,j],M<=x):M=(mm i j).1:=by
 have k1:=k i (by simp);have k2:=k j (by simp);show M=if j<i then j else i
 rcases by2.mp h with e|h
 ·rw[if_neg (by omega)];exact e
 ·have e:=by0.mp h
  split<;>omega
theorem ak9 {i j M:Int}(h:M∈[i,j])(k:∀x∈[i,j],x<=M):M=(mm i j).2:=by
 have k1:=k i (by simp);have k2:=k j (by simp);show M=if j>i then j else i
 rcases by2.mp h with e|h
 ·rw[if_neg (by omega)];exact e
 ·have e:=by0.mp h
  split<;>omega
theorem bj3:e8 ak7 ["deed"] pE:=by
 rintro xs Q ⟨d,rfl,q⟩;cases d with
 |light i=>
  refine⟨_,rfl,_,_,_,rfl,rfl,rfl,"light",rfl,_,rfl,_,_,rfl,rfl,_,_,rfl,rfl,1,some 1,rfl,rfl,_,rfl,aN ?_⟩;refine⟨_,rfl,_,_,_,rfl,rfl,rfl,_,_,rfl,rfl,_,rfl,aN ⟨_,rfl,_,_,_,rfl,rfl,rfl,_,_,rfl,rfl,_,rfl,aN ?_⟩⟩
  exact⟨_,rfl,⟨_,_,rfl,rfl,rfl,trivial,q⟩,λns z=>by cases z⟩
 |douse i=>
  refine⟨_,rfl,_,_,_,rfl,rfl,rfl,"douse",rfl,_,rfl,_,_,rfl,rfl,_,_,rfl,rfl,1,some 1,rfl,rfl,_,rfl,aN ?_⟩;refine⟨_,rfl,_,_,_,rfl,rfl,rfl,_,_,rfl,rfl,_,rfl,aN ⟨_,rfl,_,_,_,rfl,rfl,rfl,_,_,rfl,rfl,_,rfl,aN ?_⟩⟩
  exact⟨_,rfl,⟨_,_,rfl,rfl,rfl,trivial,q⟩,λns z=>by cases z⟩
 |want i j=>
  refine⟨_,rfl,_,_,_,rfl,rfl,rfl,"want",rfl,_,rfl,_,_,rfl,rfl,_,_,rfl,rfl,2,some 2,rfl,rfl,_,rfl,aN ?_⟩;refine⟨_,rfl,_,_,_,rfl,rfl,rfl,_,_,rfl,rfl,_,rfl,aN ⟨_,rfl,_,_,_,rfl,rfl,rfl,_,_,rfl,rfl,_,rfl,aN ?_⟩⟩
  exact⟨_,rfl,⟨_,_,rfl,rfl,rfl,trivial,q⟩,λns z=>by cases z⟩
 |link i j=>
  refine⟨_,rfl,_,_,_,rfl,rfl,rfl,"link",rfl,_,rfl,_,_,rfl,rfl,_,_,rfl,rfl,2,some 2,rfl,rfl,_,rfl,aN ?_⟩;refine⟨_,rfl,_,_,_,rfl,rfl,rfl,_,_,rfl,rfl,_,rfl,aU (aU ?_)⟩;refine⟨_,rfl,_,_,_,rfl,rfl,rfl,_,rfl,1,rfl,_,rfl,rfl,.inr ⟨[i,j],rfl,(by simp),λM hm hM=>?_⟩⟩;refine⟨_,rfl,1,rfl,_,rfl,rfl,.inr ⟨[i,j],rfl,(by simp),λN hn hN=>?_⟩⟩;rw[ak8 hm hM,ak9 hn hN]
  exact⟨(by show 3<=1000;decide),rfl,trivial,q⟩
 |cut i j=>
  refine⟨_,rfl,_,_,_,rfl,rfl,rfl,"cut",rfl,_,rfl,_,_,rfl,rfl,_,_,rfl,rfl,2,some 2,rfl,rfl,_,rfl,aN ?_⟩;refine⟨_,rfl,_,_,_,rfl,rfl,rfl,_,_,rfl,rfl,_,rfl,aN ⟨_,rfl,_,_,_,rfl,rfl,rfl,_,_,rfl,rfl,_,rfl,aU ?_⟩⟩;refine⟨_,rfl,_,_,_,rfl,rfl,rfl,_,rfl,1,rfl,_,rfl,rfl,.inr ⟨[i,j],rfl,(by simp),λM hm hM=>?_⟩⟩;refine⟨_,rfl,1,rfl,_,rfl,rfl,.inr ⟨[i,j],rfl,(by simp),λN hn hN=>?_⟩⟩;rw[ak8 hm hM,ak9 hn hN]
  exact⟨(by show 3<=1000;decide),rfl,trivial,q⟩
def vG:fA:=λEp xs Q=>∃ws ls S d,xs = [aZ ws ls,.tup (intz S),tP d]/\S.length<63/\(∃i,d = .light i∨d = .douse i)/\(bO ws ls S d=true->Ep "BadDeed")/\(bO ws ls S d=false->∀r,e9 ws ls S d r->Q (.tup (intz r.2.2)))
def al0 (Ep:Str->Prop):aV:=(aJ (bE 3 (b6 (a5 2) (qC (.int 1))))
 (aJ (bF (lK (aO (aM jG (a9 (a5 0) (a9 (a5 3) aC))))) (iX Ep "BadDeed" (a9 (qC (.str "this is no hearth")) aC)) bI)
 (aJ (bF (aO (fR (q2 (iO false) (a5 3) (a5 1)) (q2 (cQ false) (b6 (a5 2) (qC (.int 0))) (qC (.str "light"))))) (iX Ep "BadDeed" (a9 (qC (.str "the deed changes nothing")) aC)) bI)
 (aJ (bF (aO (q2 (cQ false) (b6 (a5 2) (qC (.int 0))) (qC (.str "light")))) (bC (aM dG (a9 (aM rS (a9 (iC (a5 1) (bJ (a9 (a5 3) aC))) aC)) aC))) bI)
 (bC (aM nM (a9 (a5 1) (a9 (fF (a9 (a5 3) aC)) aC))))))))
theorem bj4:m7 al0 ["web","seeds","deed","hearth"] vG:=by
 rintro Ep xs Q ⟨ws,ls,S,d,rfl,hl,⟨i,hd⟩,e,q⟩;have fS:flats (intz S)=true:=bV S;rcases hd with rfl|rfl
 ·refine⟨_,rfl,_,_,_,rfl,rfl,rfl,trivial,?_⟩
  refine⟨_,rfl,_,rfl,ws,ls,i,rfl,_,rfl,?_⟩;unfold bO at e q;dsimp only at e q;cases h1:inB ws.length i with
  |false=>exact aU ⟨by decide,e (by rw[h1];rfl)⟩
  |true=>
   refine aN ⟨_,rfl,_,rfl,i,S,rfl,rfl,_,rfl,_,_,_,rfl,rfl,rfl,_,_,rfl,rfl,.inr ⟨_,_,rfl,rfl,_,rfl,?_⟩⟩;show if decide (decide (i∈S)=true)=true then _ else _
   cases h2:decide (i∈S) with
   |true=>exact aU ⟨by decide,e (by rw[h2,Bool.or_true])⟩
   |false=>
    refine aN ⟨_,rfl,_,_,_,rfl,rfl,rfl,_,_,rfl,rfl,_,rfl,aU ?_⟩;refine⟨_,rfl,_,rfl,jI,rfl,_,_,rfl,rfl,fS,rfl,(by rw[bM];show S.length+1<=16000000;omega),_,S++[i],rfl,?_,(by rw[bx8];show S.length+1<64;omega),λms pm so=>⟨⟨_,_,rfl,rfl,bV ms,trivial,?_⟩,λns z=>by cases z⟩⟩
    ·show some (intz S++[PV.int i])=_
     rw[dR];rfl
    ·rw[E9 pm so]
     exact q (by rw[h1,h2];rfl) _ rfl
 ·refine⟨_,rfl,_,_,_,rfl,rfl,rfl,trivial,?_⟩
  refine⟨_,rfl,_,rfl,ws,ls,i,rfl,_,rfl,?_⟩;unfold bO at e q;dsimp only at e q;cases h1:inB ws.length i with
  |false=>exact aU ⟨by decide,e (by rw[h1];rfl)⟩
  |true=>
   refine aN ⟨_,rfl,_,rfl,i,S,rfl,rfl,_,rfl,_,_,_,rfl,rfl,rfl,_,_,rfl,rfl,.inr ⟨_,_,rfl,rfl,_,rfl,?_⟩⟩;show if decide (decide (i∈S)=false)=true then _ else _
   cases h2:decide (i∈S) with
   |false=>exact aU ⟨by decide,e (by rw[h2];exact Bool.or_true _)⟩
   |true=>
    refine aN ⟨_,rfl,_,_,_,rfl,rfl,rfl,_,_,rfl,rfl,_,rfl,aN ?_⟩;refine⟨_,rfl,_,rfl,jI,rfl,_,S,_,[i],rfl,.inl rfl,.inr rfl,by omega,jI,trivial,?_⟩;exact q (by rw[h1,h2];rfl) _ rfl
def vH:fA:=λEp xs Q=>∃ws ls S i j,xs = [aZ ws ls,tP (.want i j)]/\ws.length<=1000/\(bO ws ls S (.want i j)=true->Ep "BadDeed")/\(bO ws ls S (.want i j)=false->∀r,e9 ws ls S (.want i j) r->Q (.tup (intz r.1)))
def al1 (Ep:Str->Prop):aV:=(aJ (bE 2 (b6 (a5 1) (qC (.int 1))))
 (aJ (bE 3 (b6 (a5 1) (qC (.int 2))))
 (aJ (bF (dY (lK (aO (aM jG (a9 (a5 0) (a9 (a5 2) aC))))) (dY (aO (jR (a5 3) (qC (.int 0)))) (aO (rB (a5 3) (qC (.int 60)))))) (iX Ep "BadDeed" (a9 (qC (.str "this is no hearth, or no want")) aC)) bI)
 (aJ (bF (aO (fR (b6 (b6 (a5 0) (qC (.int 0))) (a5 2)) (a5 3))) (iX Ep "BadDeed" (a9 (qC (.str "the deed changes nothing")) aC)) bI)
 (bC (iC (iC (jB (b6 (a5 0) (qC (.int 0))) iQ (iR (a5 2))) (bJ (a9 (a5 3) aC))) (jB (b6 (a5 0) (qC (.int 0))) (iR (gC (a5 2) (qC (.int 1)))) iQ)))))))
theorem m8 {n:Nat}{i:Int}:inB n i=true↔0<=i/\i<(n:Int):=by
 unfold inB;rw[bB4,bz5,bz5]
theorem al2 {ws:af}{i:Int}(h:0<=i):fQ (intz ws) none (some i)=intz (ws.take i.toNat)/\fQ (intz ws) (some (i+1)) none=intz (ws.drop (i.toNat+1)):=by
 refine⟨ag9 h,?_⟩;rw[aX8 ws (show (0:Int)<=i+1 by omega),show (i+1).toNat=i.toNat+1 by omega]
theorem bj5:m7 al1 ["web","deed","hearth","want"] vH:=by
 rintro Ep xs Q ⟨ws,ls,S,i,j,rfl,hl,e,q⟩;refine⟨_,rfl,_,_,_,rfl,rfl,rfl,trivial,?_⟩;refine⟨_,rfl,_,_,_,rfl,rfl,rfl,trivial,?_⟩;refine⟨_,rfl,_,rfl,ws,ls,i,rfl,_,rfl,?_⟩;unfold bO at e q;dsimp only at e q;cases h1:inB ws.length i with
 |false=>exact aU (aU ⟨by decide,e (by rw[h1];rfl)⟩)
 |true=>
  rw[h1]at e q
  obtain⟨i0,i1⟩:=m8.mp h1
  refine aN ⟨_,rfl,_,_,rfl,rfl,_,rfl,?_⟩;show if decide (j<0)=true then _ else _
  cases h2:decide (j<0) with
  |true=>exact aU (aU ⟨by decide,e (by rw[h2];rfl)⟩)
  |false=>
   rw[h2]at e q;refine aN ⟨_,rfl,_,_,rfl,rfl,_,rfl,?_⟩;show if decide (60<j)=true then _ else _
   cases h3:decide (60<j) with
   |true=>exact aU ⟨by decide,e (by rw[h3];rfl)⟩
   |false=>
    rw[h3]at e q;refine aN ⟨_,rfl,_,_,_,rfl,rfl,rfl,_,rfl,_,_,_,rfl,rfl,oX i0 i1,_,rfl,.inl ⟨_,_,rfl,rfl,_,rfl,?_⟩⟩;show if decide (ws.getD i.toNat 0=j)=true then _ else _
    cases h4:decide (ws.getD i.toNat 0=j) with
    |true=>exact aU ⟨by decide,e (by rw[h4];rfl)⟩
    |false=>
     obtain⟨c1,c2⟩:=al2 (ws:=ws) i0
     have r1:r9 (.tup (intz ws)) (fQ (intz ws) none (some i)) = .tup (intz (ws.take i.toNat)):=by rw[c1];rfl
     have r2:r9 (.tup (intz ws)) (fQ (intz ws) (some (i+1)) none) = .tup (intz (ws.drop (i.toNat+1))):=by rw[c2];rfl
     refine aN ⟨_,rfl,_,_,_,rfl,rfl,rfl,_,rfl,_,rfl,intz ws,rfl,bV ws,_,rfl,jI,rfl,_,_,r1,rfl,bV _,rfl,?_,_,rfl,_,_,_,rfl,rfl,rfl,_,rfl,_,_,rfl,rfl,_,rfl,intz ws,rfl,bV ws,_,_,rfl,r2,?_,bV _,?_,trivial,?_⟩
     ·rw[bM,bB5];show min _ _+1<=16000000;omega
     ·show flats (intz (ws.take i.toNat)++intz [j])=true
      rw[<- dR];exact bV _
     ·rw[bx8,bM,bM,bB5,bF9];show min _ _+1+_<=16000000;omega
     ·have:=q (by rw[h4];rfl) _ rfl
      dsimp only at this;rw[dR,dR]at this;exact this
def vI:fA:=λEp xs Q=>∃ws ls S d,xs = [aZ ws ls,tP d]/\ls.length<=4000/\(∃i j,d = .link i j∨d = .cut i j)/\(bO ws ls S d=true->Ep "BadDeed")/\(bO ws ls S d=false->∀r,e9 ws ls S d r->Q (.tup (bP r.2.1)))
def al3 (Ep:Str->Prop):aV:=(aJ (bE 2 (jB (a5 1) (iR (qC (.int 1))) iQ))
 (aJ (bF (dY (lK (aO (aM jG (a9 (a5 0) (a9 (b6 (a5 2) (qC (.int 0))) aC))))) (dY (lK (aO (aM jG (a9 (a5 0) (a9 (b6 (a5 2) (qC (.int 1))) aC))))) (aO (fR (b6 (a5 2) (qC (.int 0))) (b6 (a5 2) (qC (.int 1))))))) (iX Ep "BadDeed" (a9 (qC (.str "these are no two hearths")) aC)) bI)
 (aJ (bF (aO (fR (q2 rW (a5 2) (b6 (a5 0) (qC (.int 1)))) (q2 (cQ false) (b6 (a5 1) (qC (.int 0))) (qC (.str "link"))))) (iX Ep "BadDeed" (a9 (qC (.str "the deed changes nothing")) aC)) bI)
 (aJ (bF (aO (q2 (cQ false) (b6 (a5 1) (qC (.int 0))) (qC (.str "link")))) (bC (aM dG (a9 (aM nP (a9 (iC (b6 (a5 0) (qC (.int 1))) (bJ (a9 (a5 2) aC))) aC)) aC))) bI)
 (bC (aM sC (a9 (b6 (a5 0) (qC (.int 1))) (a9 (fF (a9 (a5 2) aC)) aC))))))))
theorem al4 (n:Nat)(i j:Int):(!inB n (mm i j).1||(!inB n (mm i j).2||decide ((mm i j).1=(mm i j).2)))=(!inB n i||(!inB n j||decide (i=j))):=by
 show (!inB n (if j<i then j else i)||(!inB n (if j>i then j else i)||decide ((if j<i then j else i)=(if j>i then j else i))))=_;by_cases h:j<i
 ·rw[if_pos h,if_neg (by omega),by5 (show ¬j=i by omega),by5 (show ¬i=j by omega)]
  cases inB n j<;>cases inB n i<;>rfl
 ·rw[if_neg h]
  by_cases k:j>i
  ·rw[if_pos k]
  ·rw[if_neg k]
   have:i=j:=by omega
   subst this;rfl
theorem al5 {ls:aa}{p:Int×Int}{Q:PV->Prop}(hl:ls.length<=4000)(q:∀ls',l9 ls p ls'->Q (.lst (bP ls'))):nP [.tup (bP ls++[.tup [.int p.1,.int p.2]])] Q:=by
 refine⟨(ls++[p]).map two,.inr ?_,?_,?_,λzs pm so=>?_⟩
 ·show [PV.tup (bP ls++_)] = [PV.tup ((List.map two (ls++[p])).map λr=>PV.tup (intz r))]
  rw[<- nL,rX];rfl
 ·rw[bx7,bx8];show ls.length+1<=4096;omega
 ·intro y hy
  obtain⟨l,_,rfl⟩:=bB8.mp hy
  exact λz=>by cases z
 ·obtain⟨ls',rfl,pm2⟩:=af3 pm
  show Q (.lst ((ls'.map two).map λr=>PV.tup (intz r)));rw[<- nL];exact q ls' ⟨pm2,so⟩
section
variable {ws:af}{ls:aa}{Ep:Str→Prop}{E:lM}{w:Str}{p:Int×Int}
def al6 (Ep:Str->Prop):aV:=(aJ (bF (aO (fR (q2 rW (a5 2) (b6 (a5 0) (qC (.int 1)))) (q2 (cQ false) (b6 (a5 1) (qC (.int 0))) (qC (.str "link"))))) (iX Ep "BadDeed" (a9 (qC (.str "the deed changes nothing")) aC)) bI)
 (aJ (bF (aO (q2 (cQ false) (b6 (a5 1) (qC (.int 0))) (qC (.str "link")))) (bC (aM dG (a9 (aM nP (a9 (iC (b6 (a5 0) (qC (.int 1))) (bJ (a9 (a5 2) aC))) aC)) aC))) bI)
 (bC (aM sC (a9 (b6 (a5 0) (qC (.int 1))) (a9 (fF (a9 (a5 2) aC)) aC))))))
theorem bj6 (hl:ls.length<=4000)(hw:w="link"∨w="cut")(e:decide (p∈ls)=decide (w="link")->Ep "BadDeed")(q1:w="link"->decide (p∈ls)=false->∀ls',l9 ls p ls'->E.rt (.tup (bP ls')))(q2:w="cut"->decide (p∈ls)=true->E.rt (.tup (bP (ls.filter λz=>!decide (z∈[p]))))) :
  al6 Ep E [some (.sh true (aZ ws ls)),some (.sh true (.tup [.str w,.int p.1,.int p.2])),some (.sh true (.tup [.int p.1,.int p.2]))]:=by
 have fl:flats (bP ls)=true:=iV ls;refine⟨_,rfl,_,rfl,_,_,_,rfl,rfl,rfl,two p,ls.map two,rfl,(by rw[<- nL];rfl),_,rfl,_,_,_,rfl,rfl,rfl,_,_,rfl,rfl,.inr ⟨_,_,rfl,rfl,_,rfl,?_⟩⟩;show if decide (decide (two p∈ls.map two)=decide (w="link"))=true then _ else _
 rw[aj8];by_cases h:decide (p∈ls)=decide (w="link")
 ·rw[by9 h]
  exact aU ⟨by decide,e h⟩
 ·rw[by5 h]
  refine aN ⟨_,rfl,_,_,_,rfl,rfl,rfl,_,_,rfl,rfl,_,rfl,?_⟩;show if decide (w="link")=true then _ else _
  rcases hw with rfl|rfl
  ·have h2:decide (p∈ls)=false:=by
    cases z:decide (p∈ls) with
    |false=>rfl
    |true=>exact absurd (by rw[z];rfl) h
   refine aU ⟨_,rfl,_,_,_,rfl,rfl,rfl,_,rfl,jI,rfl,_,_,rfl,rfl,fl,rfl,?_,?_⟩
   ·rw[bx7];show ls.length+1<=16000000;omega
   ·dsimp only[aC]
    exact al5 (p:=p) hl λls' k=>⟨⟨_,_,rfl,rfl,iV ls',trivial,q1 rfl h2 ls' k⟩,λns z=>by cases z⟩
  ·have h2:decide (p∈ls)=true:=by
    cases z:decide (p∈ls) with
    |true=>rfl
    |false=>exact absurd (by rw[z];rfl) h
   exact aN ⟨_,rfl,_,_,_,rfl,rfl,rfl,_,rfl,jI,rfl,ls,p,rfl,by omega,trivial,q2 rfl h2⟩
end
theorem bj7:m7 al3 ["web","deed","link"] vI:=by
 rintro Ep xs Q ⟨ws,ls,S,d,rfl,hl,⟨i,j,hd⟩,e,q⟩
 obtain⟨w,hw,ed,eb,eq⟩:∃w:Str,(w="link"∨w="cut")/\tP d = .tup [.str w,.int (mm i j).1,.int (mm i j).2]/\bO ws ls S d=((!inB ws.length i||(!inB ws.length j||decide (i=j)))||decide (decide (mm i j∈ls)=decide (w="link")))/\
   ((w="link"->∀ls',l9 ls (mm i j) ls'->e9 ws ls S d (ws,ls',S))/\(w="cut"->e9 ws ls S d (ws,ls.filter λz=>!decide (z∈[mm i j]),S))):=by
  rcases hd with rfl|rfl
  ·refine⟨"link",.inl rfl,rfl,?_,λ_ ls' h=>⟨ls',rfl,h⟩,λz=>absurd z (by decide)⟩
   unfold bO;dsimp only;cases decide (mm i j∈ls)<;>cases inB ws.length i<;>cases inB ws.length j<;>cases decide (i=j)<;>rfl
  ·refine⟨"cut",.inr rfl,rfl,?_,λz=>absurd z (by decide),λ_=>rfl⟩
   unfold bO;dsimp only;cases decide (mm i j∈ls)<;>cases inB ws.length i<;>cases inB ws.length j<;>cases decide (i=j)<;>rfl
 rw[ed];rw[<- al4]at eb;rw[eb]at e q;clear eb ed hd;generalize mm i j=p at e q eq
 obtain⟨a,b⟩:=p
 refine⟨_,rfl,1,rfl,_,rfl,rfl,trivial,?_⟩;refine⟨_,rfl,_,rfl,_,_,_,rfl,rfl,rfl,ws,ls,a,rfl,_,rfl,?_⟩;dsimp only at e q;cases h1:inB ws.length a with
 |false=>exact aU (aU ⟨by decide,e (by rw[h1];rfl)⟩)
 |true=>
  rw[h1]at e q;refine aN ⟨_,rfl,_,rfl,_,_,_,rfl,rfl,rfl,ws,ls,b,rfl,_,rfl,?_⟩;cases h2:inB ws.length b with
  |false=>exact aU (aU ⟨by decide,e (by rw[h2];rfl)⟩)
  |true=>
   rw[h2]at e q;refine aN ⟨_,rfl,_,_,_,rfl,rfl,rfl,_,rfl,_,_,_,rfl,rfl,rfl,.inl ⟨_,_,rfl,rfl,_,rfl,?_⟩⟩;show if decide (a=b)=true then _ else _
   cases h3:decide (a=b) with
   |true=>exact aU ⟨by decide,e (by rw[h3];rfl)⟩
   |false=>
    rw[h3]at e q;have fw:flat (aZ ws ls)=true:=kS ws ls;refine aN ?_;show al6 Ep _ [some (.sh (flat (aZ ws ls)) (aZ ws ls)),_,_];rw[fw];refine bj6 (p:=(a,b)) hl hw (λz=>e ?_) (λhw z ls' k=>q ?_ _ (eq.1 hw ls' k)) (λhw z=>q ?_ _ (eq.2 hw))
    ·rw[by9 z];rfl
    ·rw[z,hw];rfl
    ·rw[z,hw];rfl
def pF:fA:=λEp xs Q=>∃ws ls x S d,xs = [aZ ws ls,x,dP d]/\gE x S/\S.length<=1000/\ws.length<=60/\ls.length<=4000/\(dB ws.length S=false->Ep "BadSet")/\(dB ws.length S=true->(bO ws ls S d=true->Ep "BadDeed")/\(bO ws ls S d=false->∀r,e9 ws ls S d r->Q (eN r)))
def al7 (Ep:Str->Prop):aV:=(aJ (bE 3 (jX Ep oZ (a9 (a5 0) (a9 (a5 1) aC))))
 (aJ (bE 4 (aM pE (a9 (a5 2) aC)))
 (aJ (bF (dY (aO (q2 (cQ false) (b6 (a5 4) (qC (.int 0))) (qC (.str "light")))) (aO (q2 (cQ false) (b6 (a5 4) (qC (.int 0))) (qC (.str "douse"))))) (bC (bJ (a9 (a5 0) (a9 (jX Ep vG (a9 (a5 0) (a9 (a5 3) (a9 (a5 4) aC)))) aC)))) bI)
 (aJ (bF (aO (q2 (cQ false) (b6 (a5 4) (qC (.int 0))) (qC (.str "want")))) (bC (bJ (a9 (bJ (a9 (jX Ep vH (a9 (a5 0) (a9 (a5 4) aC))) (a9 (b6 (a5 0) (qC (.int 1))) aC))) (a9 (a5 3) aC)))) bI)
 (bC (bJ (a9 (bJ (a9 (b6 (a5 0) (qC (.int 0))) (a9 (jX Ep vI (a9 (a5 0) (a9 (a5 4) aC))) aC))) (a9 (a5 3) aC))))))))
theorem iE {ws ws':af}{ls:aa}{S:af}:flats [aZ ws ls,.tup (intz S)]=true:=by
 show (flat (aZ ws ls)&&(flat (.tup (intz S))&&true))=true;rw[kS,iB];rfl
theorem F9 (ws:af)(ls:aa):flats [PV.tup (intz ws),.tup (bP ls)]=true:=oY ws ls
theorem bj8:m7 al7 ["web","seeds","deed","chosen","told"] pF:=by
 rintro Ep xs Q ⟨ws,ls,x,S,d,rfl,hx,hS,hw,hl,e1,e2⟩;refine⟨_,rfl,_,rfl,ws,ls,x,S,rfl,hx,hS,λst=>⟨trivial,?_⟩,e1⟩
 obtain⟨e,q⟩:=e2 st
 have sl:=nI st;refine⟨_,rfl,d,rfl,trivial,?_⟩;cases d with
 |light i=>
  refine⟨_,rfl,_,_,_,rfl,rfl,rfl,_,_,rfl,rfl,_,rfl,aU (aU ?_)⟩;refine⟨_,rfl,_,rfl,_,rfl,_,rfl,ws,ls,S,.light i,rfl,by omega,⟨i,.inl rfl⟩,e,λg r k=>⟨dD,iE (ws':=ws),trivial,?_⟩⟩;have k2:r=_:=k;subst k2;exact q g _ k
 |douse i=>
  refine⟨_,rfl,_,_,_,rfl,rfl,rfl,_,_,rfl,rfl,_,rfl,aN ⟨_,rfl,_,_,_,rfl,rfl,rfl,_,_,rfl,rfl,_,rfl,aU ?_⟩⟩;refine⟨_,rfl,_,rfl,_,rfl,_,rfl,ws,ls,S,.douse i,rfl,by omega,⟨i,.inr rfl⟩,e,λg r k=>⟨dD,iE (ws':=ws),trivial,?_⟩⟩;have k2:r=_:=k;subst k2;exact q g _ k
 |want i j=>
  refine⟨_,rfl,_,_,_,rfl,rfl,rfl,_,_,rfl,rfl,_,rfl,aN ⟨_,rfl,_,_,_,rfl,rfl,rfl,_,_,rfl,rfl,_,rfl,aN ?_⟩⟩;refine⟨_,rfl,_,_,_,rfl,rfl,rfl,_,_,rfl,rfl,_,rfl,aU ?_⟩;refine⟨_,rfl,_,rfl,ws,ls,S,i,j,rfl,by omega,e,λg r k=>⟨_,rfl,_,_,_,rfl,rfl,rfl,dD,?_,_,rfl,dD,?_,trivial,?_⟩⟩
  ·exact F9 _ _
  ·exact iE (ws':=ws)
  ·have k2:r=_:=k
   subst k2;exact q g _ k
 |link i j=>
  refine⟨_,rfl,_,_,_,rfl,rfl,rfl,_,_,rfl,rfl,_,rfl,aN ⟨_,rfl,_,_,_,rfl,rfl,rfl,_,_,rfl,rfl,_,rfl,aN ?_⟩⟩;refine⟨_,rfl,_,_,_,rfl,rfl,rfl,_,_,rfl,rfl,_,rfl,aN ?_⟩;refine⟨_,rfl,_,_,_,rfl,rfl,rfl,_,rfl,_,rfl,ws,ls,S,.link i j,rfl,hl,⟨i,j,.inl rfl⟩,e,λg r k=>⟨dD,?_,_,rfl,dD,?_,trivial,?_⟩⟩
  ·exact F9 _ _
  ·exact iE (ws':=ws)
  ·obtain⟨l1,rfl,k2⟩:=k
   exact q g _ ⟨l1,rfl,k2⟩
 |cut i j=>
  refine⟨_,rfl,_,_,_,rfl,rfl,rfl,_,_,rfl,rfl,_,rfl,aN ⟨_,rfl,_,_,_,rfl,rfl,rfl,_,_,rfl,rfl,_,rfl,aN ?_⟩⟩;refine⟨_,rfl,_,_,_,rfl,rfl,rfl,_,_,rfl,rfl,_,rfl,aN ?_⟩;refine⟨_,rfl,_,_,_,rfl,rfl,rfl,_,rfl,_,rfl,ws,ls,S,.cut i j,rfl,hl,⟨i,j,.inr rfl⟩,e,λg r k=>⟨dD,?_,_,rfl,dD,?_,trivial,?_⟩⟩
  ·exact F9 _ _
  ·exact iE (ws':=ws)
  ·have k2:r=_:=k
   subst k2;exact q g _ k
def vJ:cG:=λxs Q=>∃c m:Int,xs = [.int c,.int m]/\0<=m/\m<=100/\∀d,Q (dP d)
def al8:aV:=(aJ (bE 2 (zE (cS (eJ (a5 0) (qC (.int 5))) (gC (a5 1) (qC (.int 2)))) (qC (.int 1))))
 (aJ (bE 3 (zE (cS (gC (eJ (a5 0) (qC (.int 67))) (a5 0)) (gC (a5 1) (qC (.int 2)))) (qC (.int 1))))
 (aJ (bF (aO (fR (cS (a5 0) (qC (.int 41))) (qC (.int 7)))) (bE 3 (gC (a5 1) (cS (eJ (a5 0) (qC (.int 41))) (aQ5 (qC (.int 10)) (qC (.int 30)))))) bI)
 (aJ (bE 4 (b6 (fF (a9 (qC (.str "light")) (a9 (qC (.str "douse")) (a9 (qC (.str "want")) (a9 (qC (.str "link")) (a9 (qC (.str "cut")) aC)))))) (cS (a5 0) (qC (.int 5)))))
 (aJ (bF (dY (aO (q2 (cQ false) (a5 4) (qC (.str "light")))) (aO (q2 (cQ false) (a5 4) (qC (.str "douse"))))) (bC (bJ (a9 (a5 4) (a9 (a5 2) aC)))) bI)
 (aJ (bF (aO (q2 (cQ false) (a5 4) (qC (.str "want")))) (bC (bJ (a9 (a5 4) (a9 (a5 2) (a9 (b6 (fF (a9 (cS (eJ (a5 0) (qC (.int 71))) (qC (.int 4))) (a9 (cS (eJ (a5 0) (qC (.int 71))) (qC (.int 63))) (a9 (oI (qC (.int 1))) (a9 (qC (.int 60)) (a9 (qC (.int 61)) aC)))))) (cS (eJ (a5 0) (qC (.int 7))) (qC (.int 5)))) aC))))) bI)
 (bC (bJ (a9 (a5 4) (a9 (a5 2) (a9 (a5 3) aC)))))))))))
def al9:aV:=(aJ (bE 4 (b6 (fF (a9 (qC (.str "light")) (a9 (qC (.str "douse")) (a9 (qC (.str "want")) (a9 (qC (.str "link")) (a9 (qC (.str "cut")) aC)))))) (cS (a5 0) (qC (.int 5)))))
 (aJ (bF (dY (aO (q2 (cQ false) (a5 4) (qC (.str "light")))) (aO (q2 (cQ false) (a5 4) (qC (.str "douse"))))) (bC (bJ (a9 (a5 4) (a9 (a5 2) aC)))) bI)
 (aJ (bF (aO (q2 (cQ false) (a5 4) (qC (.str "want")))) (bC (bJ (a9 (a5 4) (a9 (a5 2) (a9 (b6 (fF (a9 (cS (eJ (a5 0) (qC (.int 71))) (qC (.int 4))) (a9 (cS (eJ (a5 0) (qC (.int 71))) (qC (.int 63))) (a9 (oI (qC (.int 1))) (a9 (qC (.int 60)) (a9 (qC (.int 61)) aC)))))) (cS (eJ (a5 0) (qC (.int 7))) (qC (.int 5)))) aC))))) bI)
 (bC (bJ (a9 (a5 4) (a9 (a5 2) (a9 (a5 3) aC))))))))
theorem am0 {j:Int}(h0:0<=j)(h1:j<5):j=0∨j=1∨j=2∨j=3∨j=4:=by omega
theorem am1 {c m a b:Int}{s4:Option Slot}{Q:PV->Prop}(q:∀d,Q (dP d)):al9 { nx:=λ_=>Q .non,rt:=Q } [si c,si m,si a,si b,s4]:=by
 have h0:0<=c%5:=bH8 _ (by decide);have h1:c%5<5:=bJ1 _ (by decide)
 have d6:∀w:Str,L2.atI [PV.str "light",.str "douse",.str "want",.str "link",.str "cut"] (c%5)=some (.str w)->(∀ρ,ρ = [si c,si m,si a,si b,some (.sh true (.str w))]->(aJ (bF (dY (aO (q2 (cQ false) (a5 4) (qC (.str "light")))) (aO (q2 (cQ false) (a5 4) (qC (.str "douse"))))) (bC (bJ (a9 (a5 4) (a9 (a5 2) aC)))) bI)
 (aJ (bF (aO (q2 (cQ false) (a5 4) (qC (.str "want")))) (bC (bJ (a9 (a5 4) (a9 (a5 2) (a9 (b6 (fF (a9 (cS (eJ (a5 0) (qC (.int 71))) (qC (.int 4))) (a9 (cS (eJ (a5 0) (qC (.int 71))) (qC (.int 63))) (a9 (oI (qC (.int 1))) (a9 (qC (.int 60)) (a9 (qC (.int 61)) aC)))))) (cS (eJ (a5 0) (qC (.int 7))) (qC (.int 5)))) aC))))) bI)
 (bC (bJ (a9 (a5 4) (a9 (a5 2) (a9 (a5 3) aC))))))) { nx:=λ_=>Q .non,rt:=Q } ρ)->al9 { nx:=λ_=>Q .non,rt:=Q } [si c,si m,si a,si b,s4]:=λw hw k=>
  ⟨by decide,rfl,_,rfl,_,_,rfl,rfl,(by show (0:Int)<5;decide),_,_,_,rfl,rfl,hw,trivial,k _ rfl⟩
 have k0:0<=c/7%5:=bH8 _ (by decide);have k1:c/7%5<5:=bJ1 _ (by decide);rcases am0 h0 h1 with e|e|e|e|e
 ·refine d6 "light" (by rw[e];rfl) ?_
  rintro ρ rfl
  exact⟨_,rfl,_,_,rfl,rfl,_,rfl,aU (aU ⟨_,rfl,_,rfl,dD,rfl,trivial,q (.light a)⟩)⟩
 ·refine d6 "douse" (by rw[e];rfl) ?_
  rintro ρ rfl
  exact⟨_,rfl,_,_,rfl,rfl,_,rfl,aN ⟨_,rfl,_,_,rfl,rfl,_,rfl,aU ⟨_,rfl,_,rfl,dD,rfl,trivial,q (.douse a)⟩⟩⟩
 ·refine d6 "want" (by rw[e];rfl) ?_
  rintro ρ rfl;refine⟨_,rfl,_,_,rfl,rfl,_,rfl,aN ⟨_,rfl,_,_,rfl,rfl,_,rfl,aN ⟨_,rfl,_,_,rfl,rfl,_,rfl,aU ?_⟩⟩⟩
  obtain⟨z,hz⟩:∃z:Int,L2.atI [PV.int (c/71%4),.int (c/71%63),.int (-1),.int 60,.int 61] (c/7%5)=some (.int z):=by
   rcases am0 k0 k1 with e|e|e|e|e<;>rw[e]<;>exact⟨_,rfl⟩
  exact⟨_,rfl,_,rfl,_,rfl,_,_,rfl,rfl,⟨by decide,by decide⟩,_,_,rfl,rfl,(by show (0:Int)<4;decide),_,rfl,_,_,rfl,rfl,⟨by decide,by decide⟩,_,_,rfl,rfl,(by show (0:Int)<63;decide),_,rfl,le5,rfl,_,rfl,_,_,rfl,rfl,⟨by decide,by decide⟩,_,_,rfl,rfl,(by show (0:Int)<5;decide),_,_,_,rfl,rfl,hz,vE,rfl,trivial,q (.want a z)⟩
 ·refine d6 "link" (by rw[e];rfl) ?_
  rintro ρ rfl
  exact⟨_,rfl,_,_,rfl,rfl,_,rfl,aN ⟨_,rfl,_,_,rfl,rfl,_,rfl,aN ⟨_,rfl,_,_,rfl,rfl,_,rfl,aN ⟨_,rfl,_,rfl,_,rfl,vE,rfl,trivial,q (.link a b)⟩⟩⟩⟩
 ·refine d6 "cut" (by rw[e];rfl) ?_
  rintro ρ rfl
  exact⟨_,rfl,_,_,rfl,rfl,_,rfl,aN ⟨_,rfl,_,_,rfl,rfl,_,rfl,aN ⟨_,rfl,_,_,rfl,rfl,_,rfl,aN ⟨_,rfl,_,rfl,_,rfl,vE,rfl,trivial,q (.cut a b)⟩⟩⟩⟩
theorem bj9:e8 al8 ["cell","many","one","other","word"] vJ:=by
 rintro xs Q ⟨c,m,rfl,m0,m1,q⟩;have mp:(0:Int)<m+2:=by omega
 refine⟨_,rfl,_,_,rfl,rfl,⟨by decide,by decide⟩,_,rfl,_,_,rfl,rfl,_,_,rfl,rfl,mp,_,_,rfl,rfl,trivial,?_⟩;refine⟨_,rfl,_,_,rfl,rfl,⟨by decide,by decide⟩,_,rfl,_,_,rfl,rfl,_,rfl,_,_,rfl,rfl,_,_,rfl,rfl,mp,_,_,rfl,rfl,trivial,?_⟩;refine⟨_,rfl,_,_,rfl,rfl,(by show (0:Int)<41;decide),.inl ⟨_,_,rfl,rfl,_,rfl,?_⟩⟩;show if decide (c%41=7)=true then _ else _
 cases decide (c%41=7) with
 |false=>exact aN (am1 q)
 |true=>
  refine aU ⟨_,rfl,_,rfl,_,_,rfl,rfl,⟨by decide,by decide⟩,_,_,rfl,rfl,⟨by decide,by decide,by decide⟩,_,_,rfl,rfl,(by show (0:Int)<10^(30:Int).toNat;decide),_,_,rfl,rfl,trivial,?_⟩;exact am1 q
def vK:cG:=λxs Q=>∃ws ls S d,xs = [aZ ws ls,.tup (intz S),dP d]/\S.length<63/\ws.length<=60/\ls.length<=4000/\(bO ws ls S d=true->Q .non)/\(bO ws ls S d=false->∀r,e9 ws ls S d r->Q (eN r))
def G0:aV:=(aJ (bE 7 (bJ (a9 (aM u6 (a9 (a5 5) (a9 (a5 6) aC))) (a9 (aM qY (a9 (a5 5) (a9 (a5 6) aC))) aC))))
 (aJ (bF (dY (aO (jR (a5 6) (qC (.int 0)))) (dY (aO (rC (a5 6) (aM i8 (a9 (a5 3) aC)))) (dY (aO (fR (a5 6) (a5 5))) (aO (fR (q2 rW (a5 7) (a5 4)) (q2 (cQ false) (b6 (a5 2) (qC (.int 0))) (qC (.str "link")))))))) (bC (qC .non)) bI)
 (aJ (bF (aO (q2 (cQ false) (b6 (a5 2) (qC (.int 0))) (qC (.str "link")))) (bC (bJ (a9 (bJ (a9 (a5 3) (a9 (aM dG (a9 (aM nP (a9 (iC (a5 4) (bJ (a9 (a5 7) aC))) aC)) aC)) aC))) (a9 (a5 1) aC)))) bI)
 (bC (bJ (a9 (bJ (a9 (a5 3) (a9 (aM dG (a9 (gL (eG (a5 4)) [none,some 7] (cH 0) (aO (q2 (iP 2 true) (a5 0) (a5 1))) (a5 0)) aC)) aC))) (a9 (a5 1) aC)))))))
def G1:aV:=(aJ (v4 (lP 3 4) (a5 0))
 (aJ (bE 5 (b6 (a5 2) (qC (.int 1))))
 (aJ (bF (dY (aO (jR (a5 5) (qC (.int 0)))) (aO (rC (a5 5) (aM i8 (a9 (a5 3) aC))))) (bC (qC .non)) bI)
 (aJ (bF (aO (q2 (cQ false) (b6 (a5 2) (qC (.int 0))) (qC (.str "light")))) (bC (pB (aO (q2 (iO false) (a5 5) (a5 1))) (qC .non) (bJ (a9 (a5 0) (a9 (aM dG (a9 (aM rS (a9 (iC (a5 1) (bJ (a9 (a5 5) aC))) aC)) aC)) aC))))) bI)
 (aJ (bF (aO (q2 (cQ false) (b6 (a5 2) (qC (.int 0))) (qC (.str "douse")))) (bC (pB (aO (q2 (iO false) (a5 5) (a5 1))) (bJ (a9 (a5 0) (a9 (aM dG (a9 (gL (eG (a5 1)) [none,some 5] (cH 0) (aO (zF (a5 0) (a5 1))) (a5 0)) aC)) aC))) (qC .non))) bI)
 (aJ (bE 6 (b6 (a5 2) (qC (.int 2))))
 (aJ (bF (aO (q2 (cQ false) (b6 (a5 2) (qC (.int 0))) (qC (.str "want")))) (aJ (bF (dY (aO (jR (a5 6) (qC (.int 0)))) (dY (aO (rB (a5 6) (qC (.int 60)))) (aO (fR (b6 (a5 3) (a5 5)) (a5 6))))) (bC (qC .non)) bI)
  (bC (bJ (a9 (bJ (a9 (iC (iC (jB (a5 3) iQ (iR (a5 5))) (bJ (a9 (a5 6) aC))) (jB (a5 3) (iR (gC (a5 5) (qC (.int 1)))) iQ)) (a9 (a5 4) aC))) (a9 (a5 1) aC))))) bI)
 G0)))))))
section
variable {ws:af}{ls:aa}{S:af}{Q:PV→Prop}{w:Str}{i j:Int}{s7:Option Slot}
theorem bk0 {l p:Int×Int}:eZ 3 (.tup [.int l.1,.int l.2]) (.tup [.int p.1,.int p.2])=true/\cC 3 (.tup [.int l.1,.int l.2]) (.tup [.int p.1,.int p.2])=decide (l∈[p]):=by
 refine⟨rfl,?_⟩;show ((l.1==p.1&&(l.2==p.2&&true))&&true)=decide (l∈[p]);rw[bN2,bN2,bC7,bB4,beq_iff_eq,beq_iff_eq,bz5,by0]
 exact⟨λh=>Prod.ext h.1 h.2,λh=>by rw[h];exact⟨rfl,rfl⟩⟩
theorem am2 (hl:ls.length<=4000)(hi:inB ws.length i=true)(hw:w="link"∨w="cut")(e:(!inB ws.length j||(decide (i=j)||decide (decide (mm i j∈ls)=decide (w="link"))))=true->Q .non)(q1:w="link"->(!inB ws.length j||(decide (i=j)||decide (mm i j∈ls)))=false->∀ls',l9 ls (mm i j) ls'->Q (eN (ws,ls',S)))(q2:w="cut"->(!inB ws.length j||(decide (i=j)||!decide (mm i j∈ls)))=false->Q (eN (ws,ls.filter (λz=>!decide (z∈[mm i j])),S))) :
  G0 { nx:=λ_=>Q .non,rt:=Q } [some (.sh true (aZ ws ls)),some (.sh true (.tup (intz S))),some (.sh true (.tup [.str w,.int i,.int j])),some (.sh true (.tup (intz ws))),some (.sh true (.tup (bP ls))),si i,si j,s7]:=by
 have fl:flats (bP ls)=true:=iV ls;refine⟨_,rfl,_,rfl,_,_,rfl,_,rfl,_,rfl,_,_,rfl,dD,rfl,trivial,?_⟩;refine⟨_,rfl,_,_,rfl,rfl,_,rfl,?_⟩;show if decide (j<0)=true then _ else _
 by_cases j0:j<0
 ·rw[by9 j0]
  have hj:inB ws.length j=false:=by
   cases z:inB ws.length j with
   |false=>rfl
   |true=>have:=(m8.mp z).1;omega
  exact aU (aU ⟨trivial,e (by rw[hj];rfl)⟩)
 rw[by5 j0];refine aN ⟨_,rfl,_,rfl,_,_,rfl,rfl,_,_,rfl,rfl,_,rfl,?_⟩;rw[bM];show if decide ((ws.length:Int)<=j)=true then _ else _
 by_cases j1:(ws.length:Int)<=j
 ·rw[by9 j1]
  have hj:inB ws.length j=false:=by
   cases z:inB ws.length j with
   |false=>rfl
   |true=>have:=(m8.mp z).2;omega
  exact aU (aU ⟨trivial,e (by rw[hj];rfl)⟩)
 rw[by5 j1];have hj:inB ws.length j=true:=m8.mpr ⟨by omega,by omega⟩;rw[hj]at e q1 q2;refine aN ⟨_,rfl,_,rfl,.inl ⟨_,_,rfl,rfl,_,rfl,?_⟩⟩;show if decide (j=i)=true then _ else _
 by_cases ij:i=j
 ·rw[by9 ij.symm]
  exact aU (aU ⟨trivial,e (by rw[by9 ij];rfl)⟩)
 rw[by5 (λz=>ij z.symm)];rw[by5 ij]at e q1 q2;refine aN ⟨_,rfl,_,rfl,two (mm i j),ls.map two,rfl,(by rw[<- nL];rfl),_,rfl,_,_,_,rfl,rfl,rfl,_,_,rfl,rfl,.inr ⟨_,_,rfl,rfl,_,rfl,?_⟩⟩;show if decide (decide (two (mm i j)∈ls.map two)=decide (w="link"))=true then _ else _
 rw[aj8];by_cases h:decide (mm i j∈ls)=decide (w="link")
 ·rw[by9 h]
  exact aU ⟨trivial,e (by rw[by9 h];rfl)⟩
 rw[by5 h];refine aN ⟨_,rfl,_,_,_,rfl,rfl,rfl,_,_,rfl,rfl,_,rfl,?_⟩;show if decide (w="link")=true then _ else _
 rcases hw with rfl|rfl
 ·have h2:decide (mm i j∈ls)=false:=by
   cases z:decide (mm i j∈ls) with
   |false=>rfl
   |true=>exact absurd (by rw[z];rfl) h
  refine aU ⟨_,rfl,_,rfl,_,rfl,jI,rfl,_,_,rfl,rfl,fl,rfl,?_,?_⟩
  ·rw[lZ];show ls.length+1<=16000000;omega
  ·dsimp only[aC]
   exact al5 (p:=mm i j) hl λls' k=>⟨⟨_,_,rfl,rfl,iV ls',dD,oY ws ls',_,rfl,dD,iE (ws':=ws),trivial,q1 rfl (by rw[h2];rfl) ls' k⟩,λns z=>by cases z⟩
 ·have h2:decide (mm i j∈ls)=true:=by
   cases z:decide (mm i j∈ls) with
   |true=>rfl
   |false=>exact absurd (by rw[z];rfl) h
  refine aN ⟨_,rfl,_,rfl,bP ls,rfl,(λz=>by cases z),by rw[lZ];omega,λk acc=>acc=bP ((ls.take k).filter λz=>!decide (z∈[mm i j])),rfl,?_,?_⟩
  ·rintro k z acc hz rfl
   obtain⟨l,rfl,hn⟩:=B8 hz
   have tk:=jF (p:=λz=>!decide (z∈[mm i j])) hn;refine ak0 ?_
   obtain⟨o1,o2⟩:=bk0 (l:=l) (p:=mm i j)
   refine⟨_,rfl,_,rfl,.inl ⟨_,_,rfl,rfl⟩,o1,_,rfl,?_⟩;show if (!cC 3 (.tup [.int l.1,.int l.2]) (.tup [.int (mm i j).1,.int (mm i j).2]))=true then _ else _
   rw[o2];cases h:decide (l∈[mm i j]) with
   |true=>
    rw[h]at tk;refine aN ?_;show _=bP (List.filter _ (List.take (k+1) ls));rw[tk];exact congrArg bP (bA0 _).symm
   |false=>
    rw[h]at tk;refine aU ⟨_,rfl,trivial,?_⟩;show _=bP (List.filter _ (List.take (k+1) ls));rw[tk,rX];rfl
  ·rintro acc rfl
   rw[lZ,bA4]
   exact⟨⟨_,_,rfl,rfl,iV _,dD,oY _ _,_,rfl,dD,iE (ws':=ws),trivial,q2 rfl (by rw[h2];rfl)⟩,λns z=>by cases z⟩
def sD:aV:=(aJ (bF (aO (q2 (cQ false) (b6 (a5 2) (qC (.int 0))) (qC (.str "light")))) (bC (pB (aO (q2 (iO false) (a5 5) (a5 1))) (qC .non) (bJ (a9 (a5 0) (a9 (aM dG (a9 (aM rS (a9 (iC (a5 1) (bJ (a9 (a5 5) aC))) aC)) aC)) aC))))) bI)
 (aJ (bF (aO (q2 (cQ false) (b6 (a5 2) (qC (.int 0))) (qC (.str "douse")))) (bC (pB (aO (q2 (iO false) (a5 5) (a5 1))) (bJ (a9 (a5 0) (a9 (aM dG (a9 (gL (eG (a5 1)) [none,some 5] (cH 0) (aO (zF (a5 0) (a5 1))) (a5 0)) aC)) aC))) (qC .non))) bI)
 (aJ (bE 6 (b6 (a5 2) (qC (.int 2))))
 (aJ (bF (aO (q2 (cQ false) (b6 (a5 2) (qC (.int 0))) (qC (.str "want")))) (aJ (bF (dY (aO (jR (a5 6) (qC (.int 0)))) (dY (aO (rB (a5 6) (qC (.int 60)))) (aO (fR (b6 (a5 3) (a5 5)) (a5 6))))) (bC (qC .non)) bI)
  (bC (bJ (a9 (bJ (a9 (iC (iC (jB (a5 3) iQ (iR (a5 5))) (bJ (a9 (a5 6) aC))) (jB (a5 3) (iR (gC (a5 5) (qC (.int 1)))) iQ)) (a9 (a5 4) aC))) (a9 (a5 1) aC))))) bI)
 G0))))
def sE (ws:af)(ls:aa)(S:af)(x:PV)(i:Int)(s6 s7:Option Slot):b8:=[some (.sh true (aZ ws ls)),some (.sh true (.tup (intz S))),some (.sh true x),some (.sh true (.tup (intz ws))),some (.sh true (.tup (bP ls))),si i,s6,s7]
theorem bk1 {s6:Option Slot}(sl:S.length<63)(hi:inB ws.length i=true)(e:bO ws ls S (.light i)=true->Q .non)(q:bO ws ls S (.light i)=false->∀r,e9 ws ls S (.light i) r->Q (eN r)):sD { nx:=λ_=>Q .non,rt:=Q } (sE ws ls S (dP (.light i)) i s6 s7):=by
 unfold bO at e q;dsimp only at e q;rw[hi]at e q;refine⟨_,rfl,_,_,_,rfl,rfl,rfl,_,_,rfl,rfl,_,rfl,aU ⟨_,rfl,_,rfl,i,S,rfl,rfl,_,rfl,?_⟩⟩;show if decide (i∈S)=true then _ else _
 cases h:decide (i∈S) with
 |true=>exact aU ⟨trivial,e (by rw[h];rfl)⟩
 |false=>
  refine aN ⟨_,rfl,_,rfl,_,rfl,jI,rfl,_,_,rfl,rfl,bV S,rfl,(by rw[bM];show S.length+1<=16000000;omega),_,S++[i],rfl,?_,(by rw[bx8];show S.length+1<64;omega),λms pm so=>⟨⟨_,_,rfl,rfl,bV ms,dD,iE (ws':=ws),trivial,?_⟩,λns z=>by cases z⟩⟩
  ·show some (intz S++[PV.int i])=_
   rw[dR];rfl
  ·rw[E9 pm so]
   exact q (by rw[h];rfl) _ rfl
theorem bk2 {s6:Option Slot}(sl:S.length<63)(hi:inB ws.length i=true)(e:bO ws ls S (.douse i)=true->Q .non)(q:bO ws ls S (.douse i)=false->∀r,e9 ws ls S (.douse i) r->Q (eN r)):sD { nx:=λ_=>Q .non,rt:=Q } (sE ws ls S (dP (.douse i)) i s6 s7):=by
 unfold bO at e q;dsimp only at e q;rw[hi]at e q;refine⟨_,rfl,_,_,_,rfl,rfl,rfl,_,_,rfl,rfl,_,rfl,aN ⟨_,rfl,_,_,_,rfl,rfl,rfl,_,_,rfl,rfl,_,rfl,aU ⟨_,rfl,_,rfl,i,S,rfl,rfl,_,rfl,?_⟩⟩⟩;show if decide (i∈S)=true then _ else _
 cases h:decide (i∈S) with
 |false=>exact aN ⟨trivial,e (by rw[h];rfl)⟩
 |true=>
  refine aU ⟨_,rfl,_,rfl,intz S,rfl,(λz=>by cases z),by rw[bM];omega,λk acc=>acc=intz ((S.take k).filter λz=>!decide (z∈[i])),rfl,?_,?_⟩
  ·rintro k z acc hz rfl
   obtain⟨n,rfl,hn⟩:=oU hz
   have tk:=jF (p:=λz=>!decide (z∈[i])) hn;refine⟨_,rfl,_,rfl,.inl ⟨_,_,rfl,rfl,_,rfl,?_⟩⟩;show if (!decide (n=i))=true then _ else _
   have e2:decide (n∈[i])=decide (n=i):=decide_eq_decide.mpr by0;rw[e2]at tk;cases h:decide (n=i) with
   |true=>
    rw[h]at tk;refine aN ?_;show _=intz (List.filter _ (List.take (k+1) S));rw[tk];exact congrArg intz (bA0 _).symm
   |false=>
    rw[h]at tk;refine aU ⟨_,rfl,trivial,?_⟩;show _=intz (List.filter _ (List.take (k+1) S));rw[tk,dR];rfl
  ·rintro acc rfl
   rw[bM,bA4]
   exact⟨⟨_,_,rfl,rfl,bV _,dD,iE (ws':=ws),trivial,q (by rw[h];rfl) _ rfl⟩,λns z=>by cases z⟩
theorem bk3 {s6:Option Slot}(wl:ws.length<=60)(hi:inB ws.length i=true)(e:bO ws ls S (.want i j)=true->Q .non)(q:bO ws ls S (.want i j)=false->∀r,e9 ws ls S (.want i j) r->Q (eN r)):sD { nx:=λ_=>Q .non,rt:=Q } (sE ws ls S (dP (.want i j)) i s6 s7):=by
 unfold bO at e q;dsimp only at e q;rw[hi]at e q
 obtain⟨i0,i1⟩:=m8.mp hi
 refine⟨_,rfl,_,_,_,rfl,rfl,rfl,_,_,rfl,rfl,_,rfl,aN ⟨_,rfl,_,_,_,rfl,rfl,rfl,_,_,rfl,rfl,_,rfl,aN ⟨_,rfl,_,_,_,rfl,rfl,rfl,trivial,_,rfl,_,_,_,rfl,rfl,rfl,_,_,rfl,rfl,_,rfl,aU ?_⟩⟩⟩;refine⟨_,rfl,_,_,rfl,rfl,_,rfl,?_⟩;show if decide (j<0)=true then _ else _
 cases h2:decide (j<0) with
 |true=>exact aU (aU ⟨trivial,e (by rw[h2];rfl)⟩)
 |false=>
  rw[h2]at e q;refine aN ⟨_,rfl,_,_,rfl,rfl,_,rfl,?_⟩;show if decide (60<j)=true then _ else _
  cases h3:decide (60<j) with
  |true=>exact aU (aU ⟨trivial,e (by rw[h3];rfl)⟩)
  |false=>
   rw[h3]at e q;refine aN ⟨_,rfl,_,rfl,_,_,_,rfl,rfl,oX i0 i1,_,rfl,.inl ⟨_,_,rfl,rfl,_,rfl,?_⟩⟩;show if decide (ws.getD i.toNat 0=j)=true then _ else _
   cases h4:decide (ws.getD i.toNat 0=j) with
   |true=>exact aU ⟨trivial,e (by rw[h4];rfl)⟩
   |false=>
    obtain⟨c1,c2⟩:=al2 (ws:=ws) i0
    have r1:r9 (.tup (intz ws)) (fQ (intz ws) none (some i)) = .tup (intz (ws.take i.toNat)):=by rw[c1];rfl
    have r2:r9 (.tup (intz ws)) (fQ (intz ws) (some (i+1)) none) = .tup (intz (ws.drop (i.toNat+1))):=by rw[c2];rfl
    have ea:intz (ws.take i.toNat)++[PV.int j]++intz (ws.drop (i.toNat+1))=intz (ws.take i.toNat++[j]++ws.drop (i.toNat+1)):=by rw[dR,dR];rfl
    refine aN ⟨_,rfl,_,rfl,_,rfl,intz ws,rfl,bV ws,_,rfl,jI,rfl,_,_,r1,rfl,bV _,rfl,?_,_,rfl,_,rfl,_,_,rfl,rfl,_,rfl,intz ws,rfl,bV ws,_,_,rfl,r2,?_,bV _,?_,_,rfl,dD,?_,_,rfl,dD,?_,trivial,?_⟩
    ·rw[bM,bB5];show min _ _+1<=16000000;omega
    ·show flats (intz (ws.take i.toNat)++intz [j])=true
     rw[<- dR];exact bV _
    ·rw[bx8,bM,bM,bB5,bF9];show min _ _+1+_<=16000000;omega
    ·show flats [PV.tup (intz (ws.take i.toNat)++[PV.int j]++intz (ws.drop (i.toNat+1))),.tup (bP ls)]=true
     rw[ea];exact oY _ _
    ·show flats [PV.tup [PV.tup (intz (ws.take i.toNat)++[PV.int j]++intz (ws.drop (i.toNat+1))),.tup (bP ls)],.tup (intz S)]=true
     rw[ea];exact iE (ws':=ws)
    ·have:=q (by rw[h4];rfl) _ rfl
     unfold eN aZ at this;dsimp only at this;rw[<- ea]at this;exact this
theorem am3 {s6:Option Slot}(hl:ls.length<=4000)(hi:inB ws.length i=true)(d:gF)(hd:d = .link i j∨d = .cut i j)(e:bO ws ls S d=true->Q .non)(q:bO ws ls S d=false->∀r,e9 ws ls S d r->Q (eN r)):sD { nx:=λ_=>Q .non,rt:=Q } (sE ws ls S (dP d) i s6 s7):=by
 rcases hd with rfl|rfl
 ·unfold bO at e q
  dsimp only at e q;rw[hi]at e q;refine⟨_,rfl,_,_,_,rfl,rfl,rfl,_,_,rfl,rfl,_,rfl,aN ⟨_,rfl,_,_,_,rfl,rfl,rfl,_,_,rfl,rfl,_,rfl,aN ⟨_,rfl,_,_,_,rfl,rfl,rfl,trivial,_,rfl,_,_,_,rfl,rfl,rfl,_,_,rfl,rfl,_,rfl,aN ?_⟩⟩⟩;refine am2 (w:="link") hl hi (.inl rfl) (λz=>e ?_) (λ_ z ls' k=>q ?_ _ ⟨ls',rfl,k⟩) λz=>absurd z (by decide)
  ·rw[show decide (decide (mm i j∈ls)=decide (("link":Str)="link"))=decide (mm i j∈ls) by cases decide (mm i j∈ls)<;>rfl]at z
   exact z
  ·exact z
 ·unfold bO at e q
  dsimp only at e q;rw[hi]at e q;refine⟨_,rfl,_,_,_,rfl,rfl,rfl,_,_,rfl,rfl,_,rfl,aN ⟨_,rfl,_,_,_,rfl,rfl,rfl,_,_,rfl,rfl,_,rfl,aN ⟨_,rfl,_,_,_,rfl,rfl,rfl,trivial,_,rfl,_,_,_,rfl,rfl,rfl,_,_,rfl,rfl,_,rfl,aN ?_⟩⟩⟩;refine am2 (w:="cut") hl hi (.inr rfl) (λz=>e ?_) (λz=>absurd z (by decide)) λ_ z=>q ?_ _ rfl
  ·rw[show decide (decide (mm i j∈ls)=decide (("cut":Str)="link")) = !decide (mm i j∈ls) by cases decide (mm i j∈ls)<;>rfl]at z
   exact z
  ·exact z
end
theorem bk4:e8 G1 ["web","seeds","deed","wants","links","one","number","pair"] vK:=by
 rintro xs Q ⟨ws,ls,S,d,rfl,sl,wl,hl,e,q⟩;have key:∀i:Int,(∃w r,dP d = .tup (.str w::.int i::r))->(inB ws.length i=false->bO ws ls S d=true)->(inB ws.length i=true->sD { nx:=λ_=>Q .non,rt:=Q } (sE ws ls S (dP d) i none none))->G1 { nx:=λ_=>Q .non,rt:=Q } (eI ["web","seeds","deed","wants","links","one","number","pair"] [aZ ws ls,.tup (intz S),dP d]):=by
  rintro i ⟨w,r,ed⟩ hb k;have ea:L2.atI (.str w::.int i::r) 1=some (.int i):=qU (show (0:Int)<=1 by decide) rfl;have f1:=kS ws ls;have f2:=iB S;have f3:=ak5 d;have e0:eI ["web","seeds","deed","wants","links","one","number","pair"] [aZ ws ls,.tup (intz S),dP d] = [some (.sh true (aZ ws ls)),some (.sh true (.tup (intz S))),some (.sh true (dP d)),none,none,none,none,none]:=by
   show [some (Slot.sh (flat (aZ ws ls)) (aZ ws ls)),some (.sh (flat (.tup (intz S))) (.tup (intz S))),some (.sh (flat (dP d)) (dP d)),none,none,none,none,none]=_;rw[f1,f2,f3]
  rw[e0];refine⟨_,rfl,trivial,_,_,rfl,?_⟩;refine⟨_,rfl,_,_,_,(by show j9 (dP d)=_;rw[ed];rfl),rfl,ea,trivial,?_⟩;refine⟨_,rfl,_,_,rfl,rfl,_,rfl,?_⟩;show if decide (i<0)=true then _ else _
  by_cases i0:i<0
  ·rw[by9 i0]
   exact aU (aU ⟨trivial,e (hb (by cases z:inB ws.length i with|false=>rfl|true=>have:=(m8.mp z).1;omega))⟩)
  ·rw[by5 i0]
   refine aN ⟨_,rfl,_,rfl,_,_,rfl,rfl,_,_,rfl,rfl,_,rfl,?_⟩;rw[bM];show if decide ((ws.length:Int)<=i)=true then _ else _
   by_cases i1:(ws.length:Int)<=i
   ·rw[by9 i1]
    exact aU ⟨trivial,e (hb (by cases z:inB ws.length i with|false=>rfl|true=>have:=(m8.mp z).2;omega))⟩
   ·rw[by5 i1]
    exact aN (k (m8.mpr ⟨by omega,by omega⟩))
 cases d with
 |light i=>exact key i ⟨_,_,rfl⟩ (λh=>by unfold bO;dsimp only;rw[h];rfl) λhi=>bk1 sl hi e q
 |douse i=>exact key i ⟨_,_,rfl⟩ (λh=>by unfold bO;dsimp only;rw[h];rfl) λhi=>bk2 sl hi e q
 |want i j=>exact key i ⟨_,_,rfl⟩ (λh=>by unfold bO;dsimp only;rw[h];rfl) λhi=>bk3 wl hi e q
 |link i j=>exact key i ⟨_,_,rfl⟩ (λh=>by unfold bO;dsimp only;rw[h];rfl) λhi=>am3 hl hi _ (.inl rfl) e q
 |cut i j=>exact key i ⟨_,_,rfl⟩ (λh=>by unfold bO;dsimp only;rw[h];rfl) λhi=>am3 hl hi _ (.inr rfl) e q
def am4:aV:=(aJ (i7 5 (fF aC))
  (aJ (fG (lO (a5 2)) (cH 6)
   (aJ (iN 5 (cS (a5 4) (qC (.int 5))))
   (bE 4 (eJ (a5 4) (qC (.int 5))))))
  (aJ (fG (lO (a5 2)) (cH 7)
   (fG (yY (gC (a5 7) (qC (.int 1))) (a5 2)) (cH 8)
    (aJ (bF (aO (fR (cS (a5 4) (qC (.int 2))) (qC (.int 1)))) (iN 3 (bJ (a9 (a5 7) (a9 (a5 8) aC)))) bI)
    (bE 4 (eJ (a5 4) (qC (.int 2)))))))
  (bC (bJ (a9 (aM dG (a9 (a5 5) aC)) (a9 (aM dG (a9 (a5 3) aC)) aC)))))))
def am5:aV:=(aJ (bE 5 (aM dG (a9 (gL (lO (a5 2)) [none,some 0,some 1] (cH 0) mX (cS (aM rZ (a9 (a5 1) (a9 (gC (a5 2) (a5 0)) aC))) (qC (.int 4)))) aC)))
 (aJ (fG (lO (rA (qC (.int 2)) (a5 2))) (cH 9)
  (aJ (bE 4 (aM rZ (a9 (a5 0) (a9 (gC (gC (a5 1) (a5 2)) (a5 9)) aC))))
  (aJ (bE 7 (cS (a5 4) (a5 2)))
  (aJ (bE 8 (cS (gC (eJ (a5 4) (a5 2)) (rA (qC (.int 7)) (a5 4))) (a5 2)))
  (aJ (bE 10 (bJ (a9 (aM u6 (a9 (a5 7) (a9 (a5 8) aC))) (a9 (aM qY (a9 (a5 7) (a9 (a5 8) aC))) aC))))
  (bF (qW (aO (zF (a5 7) (a5 8))) (aO (q2 E6 (a5 10) (a5 3)))) (iN 3 (a5 10)) bI))))))
 (bC (bJ (a9 (a5 5) (a9 (aM dG (a9 (aM nP (a9 (a5 3) aC)) aC)) aC))))))
def am6:aV:=(aJ (i7 3 (fF aC))
 (aJ (bE 4 (eJ (aM jH (a9 (a5 0) (a9 (a5 1) aC))) (qC (.int 2))))
 (aJ (bF (qW (aO (fR (cS (aM jH (a9 (a5 0) (a9 (a5 1) aC))) (qC (.int 2))) (qC (.int 1)))) (aO (jR (a5 2) (qC (.int 13))))) am4 bI)
 am5)))
theorem bk5 {P:ay}{w:ba}{t0 u0 t1 u1 t2 u2 t3 u3 t4 u4:Tok}:∃vs,KV (pC vF) vs/\PySem.KeysOf (dO P w) #[⟨hashStr w "light",.str "light" t0,.int 1 u0⟩,⟨hashStr w "douse",.str "douse" t1,.int 1 u1⟩,⟨hashStr w "want",.str "want" t2,.int 2 u2⟩,⟨hashStr w "link",.str "link" t3,.int 2 u3⟩,⟨hashStr w "cut",.str "cut" t4,.int 2 u4⟩]/\
  PySem.Pairs (dO P w) (#[⟨hashStr w "light",.str "light" t0,.int 1 u0⟩,⟨hashStr w "douse",.str "douse" t1,.int 1 u1⟩,⟨hashStr w "want",.str "want" t2,.int 2 u2⟩,⟨hashStr w "link",.str "link" t3,.int 2 u3⟩,⟨hashStr w "cut",.str "cut" t4,.int 2 u4⟩]:Array DictEntry).toList vs/\(vs.map (·.1)).Nodup:=by
 have k:∀x t,(dO P w).is (.inr x) (.str x t)=true:=L0
 refine⟨[(.inr "light",.int 1 u0),(.inr "douse",.int 1 u1),(.inr "want",.int 2 u2),(.inr "link",.int 2 u3),(.inr "cut",.int 2 u4)],?_,?_,.cons (k _ _) rfl (.cons (k _ _) rfl (.cons (k _ _) rfl (.cons (k _ _) rfl (.cons (k _ _) rfl .nil)))),by show List.Nodup [(.inr "light":aG),.inr "douse",.inr "want",.inr "link",.inr "cut"];decide⟩
 ·exact .cons ⟨rfl,_,rfl⟩ (.cons ⟨rfl,_,rfl⟩ (.cons ⟨rfl,_,rfl⟩ (.cons ⟨rfl,_,rfl⟩ (.cons ⟨rfl,_,rfl⟩ .nil))))
 ·intro e he
  simp only[List.mem_toArray,by2,bz2,bC3]at he;rcases he with rfl|rfl|rfl|rfl|rfl<;>exact⟨_,k _ _,rfl⟩
end Core
namespace L2
open PySem PySem.Spec PyProof.Rows
def gO (H:Hp)(as:List ax):Hp:=λb=>if b∈as then none else H b
abbrev Cx.off (X:Cx)(as:List ax):Cx:={ X with H₀:=gO X.H₀ as,ex:=as }
section
variable {X:Cx}{ag:List (ax×Obj)}{σ:St}{H:Hp}{s:aw}{as:List ax}
theorem pG {b:ax}(h:b∈as):gO H as b=none:=by unfold gO;rw[if_pos h]
theorem sF {b:ax}(h:b∉as):gO H as b=H b:=by unfold gO;rw[if_neg h]
theorem vL {b:ax}{o:HO}(h:gO H as b=some o):H b=some o:=by
 unfold gO at h;split at h
 ·cases h
 ·exact h
def pH:HO->Bool
 |.tup _=>false
 |.frz _ _=>false
 |.tbl _=>false
 |_=>true
theorem aA.off (I:aA X ag σ H s)(he:X.ex = [])(ha:∀b∈as,(∃o,X.H₀ b=some o)/\∃o,H b=some o):aA (X.off as) ag σ H s:=by
 have ok:=I.ok;have tr:∀{b},b∈as->X.H₀ b≠none:=λ{b} h z=>by obtain⟨⟨o,e⟩,_⟩:=ha b h;rw[z]at e;cases e
 have out:∀{b},gO X.H₀ as b=none->b∉as->X.H₀ b=none:=λ{b} e n=>by rw[sF n]at e;exact e
 have no:∀{b},X.H₀ b=none->gO X.H₀ as b=none:=λ{b} e=>by
  by_cases z:b∈as
  ·exact pG z
  ·rw[sF z];exact e
 have nex:∀b:ax,b∉X.ex:=λb z=>by rw[he]at z;cases z
 refine⟨⟨ok.mod,ok.kind,ok.glob,ok.blt,ok.above,ok.inj,ok.has,ok.cab,ok.hd,ok.frames,ok.stk,λb hb=>⟨?_,λx c e z=>?_⟩,λb o e=>⟨(ok.bs b o e).1,no (ok.bs b o e).2⟩,ok.bsz,λb o e z=>tr z (ok.bs b o e).2,λb hb z=>tr hb (ok.frf b z),ok.funs,λb hb=>no (ok.frf b hb)⟩,I.os,I.bare,
  ⟨λb o e n hb hx=>I.base.keep b o e (out n hx) hb (nex b),λb o e n hb hx=>I.base.slot b o e (out n hx) hb (nex b),λb o e n hx=>I.base.free b o e (out n hx) (nex b),λb o e _=>I.base.there b o e (nex b),λb xs e=>I.base.tups b xs (vL e),λb o u e=>I.base.frzs b o u (vL e),λb ps e=>I.base.tbls b ps (vL e)⟩,I.loc,I.cell,I.free,I.freeC,I.pin,I.hok,I.len⟩
 ·obtain⟨_,o,e⟩:=ha b hb
  exact λz=>by rw[z,I.free]at e;cases e
 ·obtain⟨_,o,e2⟩:=ha b hb
  rw[<- z,I.freeC x c e]at e2;cases e2
theorem aA.on (ok0:X.Ok)(I:aA (X.off as) ag σ H s)(he:X.ex = [])(ha:∀b∈as,∃o,X.H₀ b=some o/\pH o=true)(hH:∀b∈as,∃o,H b=some o):aA X ag σ H s:=by
 have tr:∀{b},X.H₀ b=none->b∉as:=λ{b} z h=>by obtain⟨o,e,_⟩:=ha b h;rw[z]at e;cases e
 have no:∀{b},X.H₀ b=none->gO X.H₀ as b=none:=λ{b} e=>by rw[sF (tr e)];exact e
 have nt:∀{b o},X.H₀ b=some o->pH o=false->gO X.H₀ as b=some o:=λ{b o} e m=>by
  rw[sF λh=>?_]
  ·exact e
  ·obtain⟨o2,e2,m2⟩:=ha b h
   rw[e]at e2;cases e2;rw[m]at m2;cases m2
 refine⟨ok0,I.os,I.bare,⟨λb o e n hb _=>I.base.keep b o e (no n) hb (tr n),λb o e n hb _=>I.base.slot b o e (no n) hb (tr n),λb o e n _=>I.base.free b o e (no n) (tr n),λb o e _=>?_,λb xs e=>I.base.tups b xs (nt e rfl),λb o u e=>I.base.frzs b o u (nt e rfl),λb ps e=>I.base.tbls b ps (nt e rfl)⟩,I.loc,I.cell,I.free,I.freeC,I.pin,I.hok,I.len⟩;by_cases z:b∈as
 ·obtain⟨u,e2⟩:=hH b z
  exact (I.hok b u e2).at
 ·exact I.base.there b o e z
end
section
variable {X:Cx}{ag:List (ax×Obj)}{σ:St}{H:Hp}{s:aw}{l:ax}{us:List V}
theorem aA.reG {u u':HO}(I:aA X ag σ H s)(h:H l=some u)(n1:∀xs,u≠.tup xs)(n2:∀y,u≠.own y)(n3:∀o v,u≠.frz o v)(n4:∀ps,u≠.tbl ps)(ok:cV X.prog X.w (upd H l u') s.heap l u'):aA X ag σ (upd H l u') s:=by
 have own:∀{c y:ax},H c=some (.own y)->c≠l:=λ{c y} q z=>by rw[z,h]at q;exact n2 y (bz3 q)
 have tp:∀{c:ax}{xs:List V},H c=some (.tup xs)->c≠l:=λ{c xs} q z=>by rw[z,h]at q;exact n1 xs (bz3 q)
 refine I.reH (a:=l) (λb n=>aH n) ⟨_,h⟩ (λxs q=>by rw[h]at q;exact n1 xs (bz3 q)) (λo' v q=>by have:=I.base.frzs l o' v q;rw[h]at this;exact n3 _ _ (bz3 this)) (λps q=>by rw[h]at q;exact n4 _ (bz3 q)) λb v q=>?_
 by_cases hb:b=l
 ·subst hb;rw[aY]at q;cases q;exact ok
 ·rw[aH hb]at q
  exact (I.hok b v q).stay (λ_ _ _ q=>q) (λc q=>by rw[aH (own q)];exact q) λc xs q=>by rw[aH (tp q)];exact q
theorem aA.toK (I:aA X ag σ H s)(h:H l=some (.lst us)):aA X ag σ (upd H l (PP.kL l us)) s:=by
 refine I.reG h (λ_ z=>by cases z) (λ_ z=>by cases z) (λ_ _ z=>by cases z) (λ_ z=>by cases z) ?_
 obtain⟨hl,its,n,r,e⟩:=(show cV X.prog X.w H s.heap l (.lst us) from I.hok l _ h)
 exact⟨⟨hl,its,n,r,e⟩,⟨_,e⟩,λh1 h2 ⟨hl,its,n,r,e⟩ k=>⟨hl,its,n,r,k _ e⟩⟩
theorem aA.ofK (I:aA X ag σ H s)(h:H l=some (PP.kL l us)):aA X ag σ (upd H l (.lst us)) s:=by
 refine I.reG h (λ_ z=>by unfold PP.kL at z;cases z) (λ_ z=>by unfold PP.kL at z;cases z) (λ_ _ z=>by unfold PP.kL at z;cases z) (λ_ z=>by unfold PP.kL at z;cases z) ?_
 obtain⟨⟨hl,its,n,r,e⟩,_⟩:=(show cV X.prog X.w H s.heap l (PP.kL l us) from I.hok l _ h)
 exact⟨hl,its,n,r,e⟩
theorem G2 {H:Hp}{a:ax}{o u:HO}(h:H a=some o):upd (upd H a u) a o=H:=by
 rw[k9]
 funext b
 by_cases e:b=a
 ·subst e;rw[aY,h]
 ·rw[aH e]
abbrev pI (l:ax)(Q:VK):VK:=λv H'=>∃us',H' l=some (.lst us')/\Q v (upd H' l (PP.kL l us'))
theorem vM {Q:VK}{u:av}{s':aw}(h:EP X ag σ (pI l Q) u s'):EP X ag σ Q u s':=by
 obtain⟨v,H',I',r,us',e,q⟩:=h
 exact⟨v,_,I'.toK e,r,q⟩
theorem jO.thawK {id:String}{r:V->List V->Hp->VK->Prop}(h:jO X id r):jO X id (λx xs H Q=>∃l us,H l=some (PP.kL l us)/\r x xs (upd H l (.lst us)) (pI l Q)):=by
 rintro ag s σ H x xs v us Q I rx rv ⟨l,ws,e,q⟩;exact aP (h ag s σ _ x xs v us _ (I.ofK e) rx rv q) λ_ _ z=>vM z
theorem d7.thawK {f:av}{r:List V->Hp->VK->Prop}(h:d7 X f r):d7 X f (λxs H Q=>∃l us,H l=some (PP.kL l us)/\r xs (upd H l (.lst us)) (pI l Q)):=by
 rintro ag s σ H xs us Q I rv ⟨l,ws,e,q⟩;exact aP (h ag s σ _ xs us _ (I.ofK e) rv q) λ_ _ z=>vM z
theorem gR.thawK {r:R2}(h:gR X r):gR X (λx y H Q=>∃l us,H l=some (PP.kL l us)/\r x y (upd H l (.lst us)) (pI l Q)):=by
 rintro value slice ag s σ H x y v u Q I rx ry ⟨l,ws,e,q⟩ hs;exact aP (h value slice ag s σ _ x y v u _ (I.ofK e) rx ry q hs) λ_ _ z=>vM z
def am7 (t:TE):TE:=λσ H Q=>t σ H λv H1=>∃a us,v = .ref a/\H1 a=some (.lst us)/\Q v (upd H1 a (PP.kL a us))
theorem G3 {e:Expr}{t:TE}(h:PE X e t):PE X e (am7 t):=by
 intro ag s σ H Q I hq;refine aP (h ag s σ H _ I hq) λv s1 h1=>?_
 obtain⟨x,H1,I1,r1,a,us,ex,ea,q⟩:=h1
 exact⟨x,_,I1.toK ea,r1,q⟩
end
section
variable {X:Cx}{o e:Expr}{es:List Expr}{to:TE}{t:TA}{name:Str}{id:String}{ah ai:Pos}{r:V→List V→Hp→VK→Prop}
def sG (r:V->List V->Hp->VK->Prop)(to:TE)(t:TA):TE:=λσ H Q=>to σ H λx H1=>(∃l us,x = .ref l/\H1 l=some (PP.kL l us))/\t σ H1 λxs H2=>r x xs H2 Q
theorem am8 (slot:Slot "list" name id)(hty:typeOf (.builtin id)=pure (.type "method_descriptor"))(hm:jO X id r)(ho:PE X o to)(ha:PA X (e::es) t)(hbase:attributeBase o name X.env (eval o X.env)=eval o X.env:=by rfl)(hfew:((backTo ai (starEach (e::es) X.env)).all (λx=>!x.1)&&(backToKw ai (keywordEach [] X.env)).all (λx=>x.1.isSome)
  &&decide ((e::es).length+([]:List Keyword).length+(if ([]:List Keyword).isEmpty then 0 else 1)<30))=true:=by rfl)(hline:(ah.endLine==ai.line)=true:=by rfl)(hs:starEach (e::es) X.env=(false,eval e X.env)::starEach es X.env:=by rfl)(aq:(backTo ai (starEach es X.env)).any (·.1)=false:=by rfl) :
  PE X (.Call (.Attribute o name ah) (e::es) [] ai) (sG r to t):=by
 intro ag s σ H Q I h;refine wpAny_Call_method_late hbase hfew hline rfl (aP (ho ag s σ H _ I h) λv s1 ⟨x,H1,I1,r1,⟨l,us,ex,el⟩,q1⟩=>?_);subst ex
 obtain⟨h1,h2⟩:=xG (I1.ofK el) r1 (o4 (aR.of aY))
 refine⟨"list",id,bH9,slot,hty,h1,h2,?_⟩;have hA:=ha ai ag s1 σ H1 _ I1 q1;rw[hs]at hA ⊢;refine bK3 (by show (false||(backTo ai (starEach es X.env)).any (·.1))=false;rw[aq]<;>rfl) (bM3 ?_);exact aP hA λus s2 ⟨vs,H2,I2,r2,q2⟩=>hm ag s2 σ H2 _ vs v us Q I2 r1 r2 q2
def vN (r:V->List V->Hp->VK->Prop)(to:TE):TE:=λσ H Q=>to σ H λx H1=>(∃l us,x = .ref l/\H1 l=some (PP.kL l us))/\r x [] H1 Q
theorem bk6 (slot:Slot "list" name id)(hty:typeOf (.builtin id)=pure (.type "method_descriptor"))(hm:jO X id r)(ho:PE X o to)(hbase:attributeBase o name X.env (eval o X.env)=eval o X.env:=by rfl)(hline:(ah.endLine==ai.line)=true:=by rfl):PE X (.Call (.Attribute o name ah) [] [] ai) (vN r to):=by
 intro ag s σ H Q I h;refine wpAny_Call_method0_late hbase hline (aP (ho ag s σ H _ I h) λv s1 ⟨x,H1,I1,r1,⟨l,us,ex,el⟩,q1⟩=>?_);subst ex
 obtain⟨h1,h2⟩:=xG (I1.ofK el) r1 (o4 (aR.of aY))
 exact⟨"list",id,bH9,slot,hty,h1,h2,bK3 rfl (PySem.evalArgs_none (hm ag s1 σ H1 _ [] v [] Q I1 r1 .nil q1))⟩
def sH:V->List V->Hp->VK->Prop:=λx vs H Q=>∃l us y,x = .ref l/\vs = [y]/\H l=some (PP.kL l us)/\us.length<sizeLine/\Q .non (upd H l (PP.kL l (us++[y])))
theorem am9:jO X "list.append" sH:=by
 rintro ag s σ H x xs v us Q I rx rv ⟨l,ws,y,rfl,rfl,e,hl,q⟩;refine jO.thawK (r:=xI) qK ag s σ H _ _ v us Q I rx rv ⟨l,ws,e,l,ws,y,rfl,rfl,aY,hl,_,aY,?_⟩;rw[k9,k9];exact q
def vO:V->List V->Hp->VK->Prop:=λx vs H Q=>∃l us y,x = .ref l/\vs = []/\H l=some (PP.kL l us)/\us[us.length-1]? = some y/\Q y (upd H l (PP.kL l us.dropLast))
theorem bk7:jO X "list.pop" vO:=by
 rintro ag s σ H x xs v us Q I rx rv ⟨l,ws,y,rfl,rfl,e,hl,q⟩;refine jO.thawK (r:=R9) aG2 ag s σ H _ _ v us Q I rx rv ⟨l,ws,e,l,ws,y,rfl,rfl,aY,hl,_,aY,?_⟩;rw[k9,k9];exact q
def an0:R2:=λx y H Q=>∃l us i v,x = .ref l/\y = .int i/\H l=some (PP.kL l us)/\atI us i=some v/\Q v H
theorem bk8:gR X an0:=by
 rintro value slice ag s σ H x y v u Q I rx ry ⟨l,us,i,w,rfl,rfl,e,hw,q⟩ hs;refine gR.thawK R3 value slice ag s σ H _ _ v u Q I rx ry ⟨l,us,e,.inl ⟨l,us,i,w,rfl,rfl,aR.of aY,hw,_,aY,?_⟩⟩ hs;rw[G2 e];exact q
def bk9:List V->Hp->VK->Prop:=λxs H Q=>∃l us,xs = [.ref l]/\H l=some (PP.kL l us)/\Q (.int us.length) H
theorem bl0:d7 X (.builtin "len") bk9:=by
 rintro ag s σ H xs us Q I rv ⟨l,ws,rfl,e,q⟩;refine d7.thawK R6 ag s σ H _ us Q I rv ⟨l,ws,e,l,ws,rfl,.inl (aR.of aY),_,aY,?_⟩;rw[G2 e];exact q
theorem bl1 {a:Expr}{ta:TE}(ha:PE X a ta)(he:∀whole,isTrue a X.env whole=(do let v <- whole;standAt a.pos;holding [v] (truthy v))) :
  PT X a (λσ H Q=>ta σ H λx H'=>∃l us,x = .ref l/\H' l=some (PP.kL l us)/\Q (!us.isEmpty) H'):=by
 intro ag s σ H Q I h;refine isTrue_plain (aP (ha ag s σ H _ I h) λv s1 ⟨x,H1,I1,r1,l,us,ex,el,q1⟩=>?_) (he _);subst ex;refine aP (O5 ag s1 σ _ (.ref l) v (λk H'=>H'=upd H1 l (.lst us)/\k = !us.isEmpty) (I1.ofK el) r1 ⟨!us.isEmpty,.inl ⟨us,aR.of aY,rfl⟩,rfl,rfl⟩) λb s2 z=>?_
 obtain⟨H2,I2,rfl,rfl⟩:=z
 have I3:=I2.toK (l:=l) (us:=us) aY;rw[G2 el]at I3
 exact⟨H1,I3,q1⟩
end
end L2
namespace PP
open PySem L2 PyProof.Rows
structure KC (K:ac)(C:ax):Prop where
 ns:PySem.W.nsIn K mainGlobals "Keeper" = some (some (.ref C))
 cls:hZ K C
 n1:lH K C "standing"
 n2:lH K C "undone"
theorem KC.eq {K:ac}{C D:ax}(h:KC K C)(e:PySem.W.nsIn K mainGlobals "Keeper" = some (some (.ref D))):D=C:=by
 have:=e.symm.trans h.ns
 cases this;rfl
def pJ (ρ:b8)(i:Nat)(a:ax)(st un:List PV):Prop:=∃g,ρ[i]? = some (some (.kp g (.ob a) [(a,st,un)]))
theorem PX.kp {K:ac}{H0:Hp}{W:ax->Prop}{σ:L2.St}{ρ:b8}{H:Hp}{i:Nat}{a:ax}{st un:List PV}(px:PX K H0 W σ ρ H)(h:pJ ρ i a st un):σ[i]? = some (some (.ref a))/\dA K (λ_=>none) H a st un:=by
 obtain⟨g,h⟩:=h
 obtain⟨v,ev,⟨r,_⟩,ks,_⟩:=px.sl i _ h
 cases r
 exact⟨ev,(ks _ bz8).any⟩
section
variable {X:Cx}{σ:L2.St}{H:Hp}{D:cB}{Q':VK}{C:ax}{i:Nat}{te tb:aL}{tr:c9}{a b e:Expr}{es:List Expr}{pos p2 p3 ah:Pos}{x m:Str}
theorem vP {K:ac}{M:ax->Prop}{H:Hp}{v:V}{x:PV}(r:aI K (λ_=>False) H v x):aI K M H v x:=r.same (aE.refl _) λ_ z=>z.elim
def vQ (i:Nat)(tb:aL):aL:=λρ Q=>∃a st un,pJ ρ i a st un/\tb ρ λy _=>∃n z,y = .int n/\L2.atI st n=some z/\Q z .fr
theorem bl2 (kc:KC X.K C)(h:LE X (vQ i tb) σ H Q'):nZ an0 (kE X.K (eQ i) "standing") (LE X tb) σ H Q':=by
 obtain⟨W,ρ,Q,px,⟨a,st,un,hk,q⟩,k⟩:=h
 obtain⟨ev,C',dx,l1,l2,us1,us2,h1,h2,h3,h4,h5,h6,h7,r1,r2⟩:=px.kp hk
 obtain rfl:=kc.eq h1;refine⟨_,ev,a,_,dx,_,_,rfl,h5,kc.cls,kc.n1,rfl,W,ρ,_,px,q,?_⟩;rintro v H1 y g s r ⟨n,z,rfl,hz,q⟩;cases r
 obtain⟨w,hw,rw⟩:=(r1.same s λ_ z=>z).atI hz
 exact⟨l1,us1,n,w,rfl,rfl,s _ _ h6,hw,k w H1 z .fr s (vP rw) q⟩
theorem an1 (kc:KC X.K C)(i:Nat)(hb:QE X b tb)(hN:X.N[i]? = some x:=by rfl)(hv:cK X.env.scope x:=by first|exact Or.inl rfl|exact Or.inr (Or.inl rfl)|exact Or.inr (Or.inr rfl))(hd:(x==("__debug__":Str))=false:=by decide)(hcd:(x==("__classdict__":Str))=false:=by decide)(hbs:attributeBase (.Name x p2) "standing" X.env (eval (.Name x p2) X.env)=eval (.Name x p2) X.env:=by rfl)(hs:xB b:=by exact λ_ _=>rfl):QE X (.Subscript (.Attribute (.Name x p2) "standing" p3) b pos) (vQ i tb):=
 cN (o3 bk8 (mM (dI hN hv hd hcd) hbs) hb hs) λ_ _ _=>bl2 kc
def an2 (i:Nat):aL:=λρ Q=>∃a st un,pJ ρ i a st un/\Q (.int st.length) .fr
theorem bl3 (B:Bt X.mg)(kc:KC X.K C)(i:Nat)(hN:X.N[i]? = some x:=by rfl)(hv:cK X.env.scope x:=by first|exact Or.inl rfl|exact Or.inr (Or.inl rfl)|exact Or.inr (Or.inr rfl))(hd:(x==("__debug__":Str))=false:=by decide)(hcd:(x==("__classdict__":Str))=false:=by decide)(hbs:attributeBase (.Name x p2) "standing" X.env (eval (.Name x p2) X.env)=eval (.Name x p2) X.env:=by rfl)(hg:Gl X "len":=by rfl)(he:starEach [.Attribute (.Name x p2) "standing" p3] X.env=(false,eval (.Attribute (.Name x p2) "standing" p3) X.env)::starEach [] X.env:=by rfl)(hpl:(backTo pos (starEach [] X.env)).any (·.1)=false:=by rfl) :
  QE X (.Call (.Name "len" ah) [.Attribute (.Name x p2) "standing" p3] [] pos) (an2 i):=
 cN (t8 bl0 hg B.len PySem.boot_len (eC (mM (dI hN hv hd hcd) hbs) eS he) (he:=he) (hpl:=hpl)) λσ H Q' h=>by
  obtain⟨W,ρ,Q,px,⟨a,st,un,hk,q⟩,k⟩:=h
  obtain⟨ev,C',dx,l1,l2,us1,us2,h1,h2,h3,h4,h5,h6,h7,r1,r2⟩:=px.kp hk
  obtain rfl:=kc.eq h1;refine⟨_,ev,a,_,dx,_,_,rfl,h5,kc.cls,kc.n1,rfl,l1,us1,rfl,h6,?_⟩;rw[r1.length];exact k _ H _ .fr (aE.refl _) (.int _) q
def an3 (i:Nat):cM:=λρ Q=>∃a st un,pJ ρ i a st un/\Q (!un.isEmpty)
theorem bl4 (kc:KC X.K C)(i:Nat)(hN:X.N[i]? = some x:=by rfl)(hv:cK X.env.scope x:=by first|exact Or.inl rfl|exact Or.inr (Or.inl rfl)|exact Or.inr (Or.inr rfl))(hd:(x==("__debug__":Str))=false:=by decide)(hcd:(x==("__classdict__":Str))=false:=by decide)(hbs:attributeBase (.Name x p2) "undone" X.env (eval (.Name x p2) X.env)=eval (.Name x p2) X.env:=by rfl)(he:∀whole,isTrue (.Attribute (.Name x p2) "undone" p3) X.env whole=(do let v <- whole;standAt (Expr.Attribute (.Name x p2) "undone" p3).pos;holding [v] (truthy v)):=by intro _;rfl) :
  QT X (.Attribute (.Name x p2) "undone" p3) (an3 i):=
 mY (bl1 (mM (dI hN hv hd hcd) hbs) he) λσ H Q' h=>by
  obtain⟨W,ρ,Q,px,⟨a,st,un,hk,q⟩,k⟩:=h
  obtain⟨ev,C',dx,l1,l2,us1,us2,h1,h2,h3,h4,h5,h6,h7,r1,r2⟩:=px.kp hk
  obtain rfl:=kc.eq h1;refine⟨_,ev,a,_,dx,_,_,rfl,h5,kc.cls,kc.n2,rfl,l2,us2,rfl,h7,?_⟩;rw[u7 r2.length];exact k _ H (aE.refl _) q
abbrev iF:=List PV->List PV->fA
def G4 (K:ac)(p:iF):Sp:=λvs H Q E=>∃a us xs st un Qp Ep,vs=V.ref a::us/\dA K (λ_=>none) H a st un/\Reps K (λ_=>True) H us xs/\p st un Ep xs Qp/\(∀v H' x,aE H H'->aI K (λa=>H a=none) H' v x->Qp x->Q v H')/\
 ∀n C H',aE H H'->PySem.W.nsIn K mainGlobals n=some (some (.ref C))->Ep n->E (.ref C) none H'
structure cZ (P:ay)(w:ba)(K:ac)(mg:Str->Option av)(base:Heap)(k:Nat)(m:Str)(ps:List Str)(p:iF):Prop where
 ex:∃C f fd,KC K C/\eR K C m f/\bZ P w K mg base (bY P w) k f fd ps (G4 K p)/\dQ K fd ps []
def dS (Ep:Str->Prop)(i:Nat)(p:iF)(t:c9):aL:=λρ Q=>∃a st un,pJ ρ i a st un/\t ρ λxs=>p st un Ep (xs.map (·.1)) λz=>Q z .fr
theorem an4 {p:iF}{Ep:Str->Prop}(kc:KC X.K C)(hl:∀v w:V,([("standing",v),("undone",w)]:List (Str×V)).lookup m=none)(h:LE X (dS Ep i p tr) σ H Q'):x4 C m (G4 X.K p) [] (EX X.K X.H₀ Ep) (eQ i) (LA X tr) σ H Q':=by
 obtain⟨W,ρ,Q,px,⟨a,st,un,hk,q⟩,k⟩:=h
 obtain⟨ev,kp⟩:=px.kp hk
 have kp':=kp
 obtain⟨C',dx,l1,l2,us1,us2,h1,h2,h3,h4,h5,h6,h7,r1,r2⟩:=kp'
 obtain rfl:=kc.eq h1;refine⟨_,ev,a,dx,_,rfl,h5,hl _ _,W,ρ,_,px,q,λvs H1 xs s1 r1 q1=>?_⟩;show G4 X.K p (V.ref a::(vs++[])) H1 Q' (EX X.K X.H₀ Ep);rw[bA0]
 exact⟨a,vs,_,st,un,_,Ep,rfl,kp.keep (.same s1 λ_ z=>z) λ_ _ e _=>s1 _ _ e,r1.any,q1,λv H' x s2 r2 q2=>k v H' x .fr (s1.trans s2) (r2.same (aE.refl _) λ_ z=>s1.free z) q2,λn C H' s2 z1 z2=>⟨rfl,(px.same.trans s1).trans s2,n,C,rfl,z1,z2⟩⟩
theorem dU {X:Cx}:iJ (bY X.prog X.w) X (EX X.K X.H₀ λ_=>False):=λ_ _ _ _ _ _ _ h=>by
 obtain⟨_,_,_,_,_,_,_,_,_,_,_,_,z⟩:=h
 exact z.elim
theorem G5 {Ep:Str->Prop}{k j:Nat}{ps:List Str}{p:iF}(i:Nat)(hX:iJ (bY X.prog X.w) X (EX X.K X.H₀ Ep))(d:cZ X.prog X.w X.K X.mg X.base k m ps p)(hr:bL j X.A)(ha:QA X (e::es) tr)(hkj:k<=j:=by decide)(hl:∀v w:V,([("standing",v),("undone",w)]:List (Str×V)).lookup m=none:=by intro _ _;rfl)(hN:X.N[i]? = some x:=by rfl)(hv:cK X.env.scope x:=by first|exact Or.inl rfl|exact Or.inr (Or.inl rfl)|exact Or.inr (Or.inr rfl))(hd:(x==("__debug__":Str))=false:=by decide)(hcd:(x==("__classdict__":Str))=false:=by decide){pl:Sem Bool}(hst:starEach (e::es) X.env=(false,eval e X.env)::starEach es X.env:=by rfl)(hpl:(backTo pos (starEach es X.env)).any (·.1)=false:=by rfl)(ht:eval (.Call (.Attribute (.Name x p2) m ah) (e::es) [] pos) X.env=(do
   let ov <- eval (.Name x p2) X.env
   standAt ah.atName
   let (f,first) <- holding [ov] (getMethod ov m pl)
   callWith pos f first (backTo pos (starEach (e::es) X.env)) (backToKw pos (keywordEach [] X.env))):=by rfl):QE X (.Call (.Attribute (.Name x p2) m ah) (e::es) [] pos) (dS Ep i p tr):=by
 obtain⟨C,f,fd,kc,M,F,b⟩:=d.ex
 exact cN (P3 (pl:=pl) (dI hN hv hd hcd) kc.cls M F (hr.mono hkj) b .nil hX ha hst hpl ht) λ_ _ _=>an4 kc hl
theorem gG {Ep:Str->Prop}{k j:Nat}{ps:List Str}{p:iF}(i:Nat)(hX:iJ (bY X.prog X.w) X (EX X.K X.H₀ Ep))(d:cZ X.prog X.w X.K X.mg X.base k m ps p)(hr:bL j X.A)(hkj:k<=j:=by decide)(hl:∀v w:V,([("standing",v),("undone",w)]:List (Str×V)).lookup m=none:=by intro _ _;rfl)(hN:X.N[i]? = some x:=by rfl)(hv:cK X.env.scope x:=by first|exact Or.inl rfl|exact Or.inr (Or.inl rfl)|exact Or.inr (Or.inr rfl))(hd:(x==("__debug__":Str))=false:=by decide)(hcd:(x==("__classdict__":Str))=false:=by decide){pl:Sem Bool}(ht:eval (.Call (.Attribute (.Name x p2) m ah) [] [] pos) X.env=(do
   let ov <- eval (.Name x p2) X.env
   standAt ah.atName
   let (f,first) <- holding [ov] (getMethod ov m pl)
   callWith pos f first (backTo pos (starEach [] X.env)) (backToKw pos (keywordEach [] X.env))):=by rfl):QE X (.Call (.Attribute (.Name x p2) m ah) [] [] pos) (dS Ep i p aC):=by
 obtain⟨C,f,fd,kc,M,F,b⟩:=d.ex
 refine cN (aD2 (pl:=pl) (dI hN hv hd hcd) kc.cls M F (hr.mono hkj) b .nil hX ht) λσ H Q' h=>?_
 obtain⟨v,e1,a,dx,fs,e2,e3,e4,q⟩:=an4 kc hl h
 exact⟨v,e1,a,dx,fs,e2,e3,e4,W5 q⟩
end
def m9 (N:List Str)(a:ax)(st un:List PV)(xs:List PV):b8:=some (.kp false (.ob a) [(a,st,un)])::(xs.map (λx=>some (.sh (flat x) x))++List.replicate (N.length-(xs.length+1)) none)
theorem an5 {K:ac}{H:Hp}{N:List Str}{a:ax}{st un:List PV}{us:List V}{xs:List PV}(hk:dA K (λ_=>none) H a st un)(r:Reps K (λ_=>True) H us xs):PX K H (λ_=>False) (L2.g9 N (.ref a::us)) (m9 N a st un xs) H:=by
 have lr:=r.length;have own:∀{i:Nat}{m:Slot},(xs.map (λx=>some (Slot.sh (flat x) x))++List.replicate (N.length-(xs.length+1)) none)[i]? = some (some m)->∃x,xs[i]? = some x/\m = .sh (flat x) x:=λ{i m} h=>by
  by_cases hi:i<xs.length
  ·rw[bD7 (by simpa using hi),bz1]at h
   rw[by1 hi]at h ⊢;cases h
   exact⟨_,rfl,rfl⟩
  ·rw[bG9 (by simpa using hi),List.getElem?_replicate]at h
   split at h<;>cases h
 refine⟨by unfold L2.g9 m9;simp[lr],aE.refl _,λa z=>z.elim,λi m h=>?_,λi j x y a h1=>?_⟩
 ·match i,h with
  |0,h=>cases h;exact⟨_,rfl,⟨.ob,rfl⟩,λk hk'=>by rw[by0.mp hk'];exact hk,bA5 _ _⟩
  |i+1,h=>
   obtain⟨x,hx,rfl⟩:=own h
   obtain⟨v,hv,rx⟩:=r.at hx
   refine⟨v,?_,r6 (g:=false) (rx.same (aE.refl _) λ_ _ z=>z)⟩;have hi:i<us.length:=(by4.mp hv).1;unfold L2.g9;rw[bD7 (by simpa using hi),bz1,bG7,hv];rfl
 ·match i,h1 with
  |0,h1=>cases h1
  |i+1,h1=>
   obtain⟨x,_,e⟩:=own h1
   cases e
theorem cZ.of {P:ay}{w:ba}{K:ac}{mg:Str->Option av}{base:Heap}{k:Nat}{x qual:Str}{C:ax}{ps N:List Str}{p:iF}{st:Stmt}{f:ax}{fd:FuncData}(kc:KC K C)(M:eR K C x f)(F:d8 K x qual st f fd)(S:FnScope N ps (aT st))(hb:∀(kV doc pm:av) (an:Option ax) (cdv ct:av) (us:List av),us.length=ps.length->bindArgs (PySem.W.fnOf x qual (eV st) (cY st) (aT st) .none kV doc pm an cdv ct) ⟨us,[]⟩=pure (ps.zip us))(t:(Str->Prop)->aV)(len:∀st un Ep xs Q,p st un Ep xs Q->xs.length+1=ps.length)(rd:∀a st un Ep xs Q,p st un Ep xs Q->t Ep { nx:=λ_=>Q .non,rt:=Q } (m9 N a st un xs))(body:∀(cdv:av) (A:az) (outer:List Env) (s:aw) (H:Hp) (E:XK) (Ep:Str->Prop),bL k (A.deeper (envOfC qual (aT st) s.heap.objs.size f cdv))->lY (cW (bY P w) P w K mg base N qual (aT st) f cdv A outer s H E) (EX K H Ep)->
   gD (cW (bY P w) P w K mg base N qual (aT st) f cdv A outer s H E) (cY st) (t Ep)):cZ P w K mg base (k+1) x ps p:=by
 refine⟨C,f,fd,kc,M,F.okX S (λvs H Q E h=>?_) (λcdv A outer s H vs Q E hr h=>?_),F.binds hb⟩
 ·obtain⟨a,us,xs,st,un,Qp,Ep,rfl,_,r,q,_⟩:=h
  rw[bA3,r.length];exact len st un Ep xs Qp q
 ·obtain⟨a,us,xs,st,un,Qp,Ep,rfl,hk,r,q,k,ke⟩:=h
  have ht:=body cdv A outer s H E Ep hr (A9 λc d H' z=>?_)
  ·refine⟨_,ht,λ_=>False,m9 N a st un xs,_,an5 hk r,rd a st un Ep xs Qp q,?_,?_,?_,?_⟩
   ·exact λW' σ' H' ρ' e px q=>k _ _ _ px.same .non q
   ·exact λv H' x s r q=>k _ _ _ s r q
   ·exact λW' σ' H' ρ' e px q=>q
   ·exact λW' σ' H' ρ' e px q=>q
  ·obtain⟨rfl,s1,n,C,rfl,z1,z2⟩:=z
   exact ke n C H' s1 z1 z2
def pK (H:Hp)(a b:ax):Prop:=b=a∨∃C dx l1 l2,H a=some (.ins C dx [("standing",.ref l1),("undone",.ref l2)])/\(b=l1∨b=l2)
structure fV (H H':Hp)(a:ax):Prop where
 keep:∀b o,H b=some o->¬pK H a b->H' b=some o
 new:∀b,pK H' a b->pK H a b∨H b=none
 dx:∀C D dx dy fs gs,H a=some (.ins C dx fs)->H' a=some (.ins D dy gs)->dy=dx
 th:∀b o,H b=some o->∃o',H' b=some o'
theorem G6 {H:Hp}{l:ax}{o:HO}:∀b u,H b=some u->∃o',upd H l o b=some o':=λb u e=>by
 by_cases z:b=l
 ·rw[z,aY];exact⟨_,rfl⟩
 ·rw[aH z];exact⟨_,e⟩
section
variable {K:ac}{H0 H H' H'':Hp}{a:ax}{st un st' un':List PV}
theorem dA.spot (h:dA K H0 H a st un):∀b,pK H a b->H0 b=none/\∃o,H b=some o/\o9 o=true:=by
 obtain⟨C,dx,l1,l2,us1,us2,h1,⟨z1,z2,z3,z4⟩,h3,h4,h5,h6,h7,r1,r2⟩:=h
 rintro b (rfl|⟨C',dx',m1,m2,e,hb⟩)
 ·exact⟨z1,_,h5,rfl⟩
 ·rw[h5]at e;cases e
  rcases hb with rfl|rfl
  ·exact⟨z3,_,h6,rfl⟩
  ·exact⟨z4,_,h7,rfl⟩
theorem fV.trans (h:fV H H' a)(k:fV H' H'' a)(z:dA K (λ_=>none) H' a st un):fV H H'' a:=by
 refine⟨λb o e n=>k.keep b o (h.keep b o e n) λz=>?_,λb z=>?_,λC D dx dy fs gs e1 e2=>?_,λb o e=>let ⟨o1,e1⟩:=h.th b o e;k.th b o1 e1⟩
 ·rcases h.new b z with z|z
  ·exact n z
  ·rw[z]at e;cases e
 ·rcases k.new b z with z|z
  ·exact h.new b z
  ·cases e:H b with
   |none=>exact .inr rfl
   |some o=>
    by_cases w:pK H a b
    ·exact .inl w
    ·have:=h.keep b o e w;rw[z]at this;cases this
 ·obtain⟨C',dx',l1,l2,us1,us2,_,_,_,_,h5,_⟩:=z
  rw[k.dx _ _ _ _ _ _ h5 e2,h.dx _ _ _ _ _ _ e1 h5]
theorem fV.same (s:aE H H')(h:dA K H0 H a st un):fV H H' a:=by
 obtain⟨C,dx,l1,l2,us1,us2,h1,_,h3,h4,h5,h6,h7,r1,r2⟩:=h
 refine⟨λb o e _=>s _ _ e,?_,λC D dx dy fs gs e1 e2=>?_,λb o e=>⟨o,s _ _ e⟩⟩
 ·rintro b (rfl|⟨C',dx',m1,m2,e,hb⟩)
  ·exact .inl (.inl rfl)
  ·rw[s _ _ h5]at e;cases e
   exact .inl (.inr ⟨_,_,_,_,h5,hb⟩)
 ·rw[h5]at e1;rw[s _ _ h5]at e2;cases e1;cases e2;rfl
theorem an9 {o:HO}(h:fO o=true):o9 o=false:=by cases o<;>first|rfl|cases h
theorem fV.stay (ev:fV H H' a)(k:dA K (λ_=>none) H a st un){b:ax}{o:HO}(e:H b=some o)(f:o9 o=false):H' b=some o:=ev.keep b o e λz=>by
 obtain⟨_,o',e',f'⟩:=k.spot b z
 rw[e]at e';cases e';rw[f]at f';cases f'
def gH (ρ:b8)(i:Nat):Prop:=∀(j:Nat) (g:Bool) (x:PV) (ks:List (ax×List PV×List PV)),j≠i->ρ[j]?≠some (some (.kp g x ks))
theorem PX.mut {W:ax->Prop}{σ:L2.St}{ρ:b8}{i:Nat}(px:PX K H0 W σ ρ H)(hi:ρ[i]? = some (some (.kp true (.ob a) [(a,st,un)])))(nk:gH ρ i)(ev:fV H H' a)(k':dA K (λ_=>none) H' a st' un') :
  PX K H0 W σ (ρ.set i (some (.kp true (.ob a) [(a,st',un')]))) H'/\Ev W H W H':=by
 obtain⟨v,evv,⟨r,_⟩,ks,_⟩:=px.sl i _ hi
 cases r;have kp:dA K H0 H a st un:=ks _ bz8;have sp0:=kp.spot;have kp0:=kp.any
 obtain⟨C,dx,l1,l2,us1,us2,h1,⟨z1,z2,z3,z4⟩,h3,h4,h5,h6,h7,r1,r2⟩:=kp
 have sty:∀b o,H b=some o->o9 o=false->H' b=some o:=λb o e f=>ev.stay kp0 e f
 have E:Ev W H W H':=λb o e n f=>⟨sty b o e f,n⟩
 have tw:∀a,W a->∃o,H a=some o/\fO o=true:=λa z=>(px.wm a z).2
 have nn:∀b,pK H' a b->H0 b=none:=λb z=>(ev.new b z).elim (λw=>(sp0 b w).1) λw=>px.same.free w
 refine⟨⟨by rw[bE2];exact px.len,λb o e=>ev.keep b o (px.same b o e) λz=>(by rw[(sp0 b z).1]at e;cases e),λb z=>?_,λj m h=>?_,λj k x y b h1 h2 h3 h4=>?_⟩,E⟩
 ·obtain⟨w1,o,w2,w3⟩:=px.wm b z
  exact⟨w1,o,sty b o w2 (an9 w3),w3⟩
 ·rcases eF h with⟨rfl,hl,e⟩|⟨hne,h⟩
  ·cases e
   obtain⟨C',dx',m1,m2,ws1,ws2,g1,_,g3,g4,g5,g6,g7,s1,s2⟩:=k'
   refine⟨_,evv,⟨.ob,rfl⟩,λk hk=>?_,bA5 _ _⟩;rw[by0.mp hk]
   exact⟨C',dx',m1,m2,ws1,ws2,g1,⟨z1,by rw[ev.dx _ _ _ _ _ _ h5 g5];exact z2,nn _ (.inr ⟨_,_,_,_,g5,.inl rfl⟩),nn _ (.inr ⟨_,_,_,_,g5,.inr rfl⟩)⟩,g3,g4,g5,g6,g7,s1,s2⟩
  ·obtain⟨u,e,q⟩:=px.sl j m h
   refine⟨u,e,?_⟩;cases m with
   |sh g x=>exact aI.keep (E.keep tw) q
   |own x=>
    obtain⟨b,e1,e2,q⟩:=q
    refine⟨b,e1,e2,q.keep (E.keep tw) λo z=>?_⟩
    obtain⟨o',w2,w3⟩:=tw b e2
    rw[z]at w2;cases w2;exact sty b o z (an9 w3)
   |kp g x ks=>exact absurd h (nk j g x ks hne)
 ·rcases eF h1 with⟨_,_,e⟩|⟨n1,h1⟩
  ·cases e
  ·rcases eF h2 with⟨_,_,e⟩|⟨n2,h2⟩
   ·cases e
   ·exact px.dis j k x y b h1 h2 h3 h4
end
abbrev fB:=List PV->List PV->(Str->Prop)->List PV->(PV->List PV->List PV->Prop)->Prop
def jJ (K:ac)(p:fB):Sp:=λvs H Q E=>∃a us xs st un Qp Ep,vs=V.ref a::us/\dA K (λ_=>none) H a st un/\(Reps K (λ_=>False) H us xs/\flats xs=true)/\p st un Ep xs Qp/\
 (∀v H' x st' un',fV H H' a->dA K (λ_=>none) H' a st' un'->aI K (λ_=>False) H' v x->flat x=true->Qp x st' un'->Q v H')/\
 ∀n C H',aE H H'->PySem.W.nsIn K mainGlobals n=some (some (.ref C))->Ep n->E (.ref C) none H'
structure jY (P:ay)(w:ba)(K:ac)(mg:Str->Option av)(base:Heap)(k:Nat)(m:Str)(ps:List Str)(p:fB):Prop where
 ex:∃C f fd,KC K C/\eR K C m f/\bZ P w K mg base (bY P w) k f fd ps (jJ K p)/\dQ K fd ps []
structure G7 (P:ay)(w:ba)(K:ac)(mg:Str->Option av)(base:Heap)(k:Nat)(x:Str)(ps:List Str)(p:fB):Prop where
 ex:∃f fd,bZ P w K mg base (bY P w) k f fd ps (jJ K p)/\dQ K fd ps []/\PySem.W.keepIn K (.ref f)=true/\mg x=some (.ref f)
section
variable {K:ac}{H:Hp}{a l1 l2 C dx p:ax}{st un:List PV}{us1 us2 ws:List V}
theorem vR {o:HO}{u:HO}{l:ax}(e:H l=some u)(n1:∀xs,u≠.tup xs)(n2:∀o v,u≠.frz o v):eW (λ_=>False) (λ_=>False) H (upd H l o):=
 ⟨λ_ _ z=>z.elim,λ_ _ z=>z.elim,λ_ _ z=>z.elim,λb xs h=>by rw[aH (λz=>by rw[z,e]at h;exact n1 _ (bz3 h))];exact h,λb o v h _=>by rw[aH (λz=>by rw[z,e]at h;exact n2 _ _ (bz3 h))];exact h⟩
theorem vS {l:ax}{us xs:List V}:kL l us≠.tup xs:=λz=>by unfold kL at z;cases z
theorem vT {l:ax}{us:List V}{o:Obj}{v:HO}:kL l us≠.frz o v:=λz=>by unfold kL at z;cases z
theorem ao0 {l x:ax}{us:List V}:kL l us≠.own x:=λz=>by unfold kL at z;cases z
theorem ao1 {l C dx:ax}{us:List V}{fs:List (Str×V)}:kL l us≠.ins C dx fs:=λz=>by unfold kL at z;cases z
structure eB (K:ac)(H:Hp)(a C dx l1 l2:ax)(us1 us2:List V)(st un:List PV):Prop where
 ns:PySem.W.nsIn K mainGlobals "Keeper" = some (some (.ref C))
 ne:l1≠l2
 od:H dx=some (.own a)
 oa:H a=some (.ins C dx [("standing",.ref l1),("undone",.ref l2)])
 o1:H l1=some (kL l1 us1)
 o2:H l2=some (kL l2 us2)
 r1:Reps K (λ_=>False) H us1 st
 r2:Reps K (λ_=>False) H us2 un
theorem dA.w (h:dA K (λ_=>none) H a st un):∃C dx l1 l2 us1 us2,eB K H a C dx l1 l2 us1 us2 st un:=by
 obtain⟨C,dx,l1,l2,us1,us2,h1,_,h3,h4,h5,h6,h7,r1,r2⟩:=h
 exact⟨C,dx,l1,l2,us1,us2,h1,h3,h4,h5,h6,h7,r1,r2⟩
theorem eB.at (h:eB K H a C dx l1 l2 us1 us2 st un):dA K (λ_=>none) H a st un:=⟨C,dx,l1,l2,us1,us2,h.ns,⟨rfl,rfl,rfl,rfl⟩,h.ne,h.od,h.oa,h.o1,h.o2,h.r1,h.r2⟩
theorem eB.dne (h:eB K H a C dx l1 l2 us1 us2 st un):(dx≠l1/\dx≠l2)/\a≠l1/\a≠l2:=by
 refine⟨⟨λz=>?_,λz=>?_⟩,λz=>?_,λz=>?_⟩
 ·have:=h.od;rw[z,h.o1]at this;exact ao0 (bz3 this)
 ·have:=h.od;rw[z,h.o2]at this;exact ao0 (bz3 this)
 ·have:=h.oa;rw[z,h.o1]at this;exact ao1 (bz3 this)
 ·have:=h.oa;rw[z,h.o2]at this;exact ao1 (bz3 this)
theorem eB.ev1 (h:eB K H a C dx l1 l2 us1 us2 st un){l:ax}(hl:l=l1∨l=l2)(o:HO):fV H (upd H l o) a:=by
 obtain⟨_,n1,n2⟩:=h.dne
 have na:a≠l:=by rcases hl with rfl|rfl<;>assumption
 refine⟨λb u e n=>?_,?_,λC' D dx' dy fs gs e1 e2=>?_,G6⟩
 ·rw[aH (λz=>n (.inr ⟨_,_,_,_,h.oa,by rw[z];exact hl⟩))];exact e
 ·rintro b (rfl|⟨C',dx',m1,m2,e,hb⟩)
  ·exact .inl (.inl rfl)
  ·rw[aH na]at e
   exact .inl (.inr ⟨_,_,_,_,e,hb⟩)
 ·rw[aH na,e1]at e2;cases e2;rfl
theorem eB.put1 (h:eB K H a C dx l1 l2 us1 us2 st un){ys:List PV}(r:Reps K (λ_=>False) H ws ys):eB K (upd H l1 (kL l1 ws)) a C dx l1 l2 ws us2 ys un:=by
 obtain⟨⟨d1,d2⟩,n1,n2⟩:=h.dne
 have k:eW (λ_=>False) (λ_=>False) H (upd H l1 (kL l1 ws)):=vR h.o1 (λ_=>vS) λ_ _=>vT
 exact⟨h.ns,h.ne,by rw[aH d1];exact h.od,by rw[aH n1];exact h.oa,aY,by rw[aH (Ne.symm h.ne)];exact h.o2,r.keep k,h.r2.keep k⟩
theorem eB.put2 (h:eB K H a C dx l1 l2 us1 us2 st un){ys:List PV}(r:Reps K (λ_=>False) H ws ys):eB K (upd H l2 (kL l2 ws)) a C dx l1 l2 us1 ws st ys:=by
 obtain⟨⟨d1,d2⟩,n1,n2⟩:=h.dne
 have k:eW (λ_=>False) (λ_=>False) H (upd H l2 (kL l2 ws)):=vR h.o2 (λ_=>vS) λ_ _=>vT
 exact⟨h.ns,h.ne,by rw[aH d2];exact h.od,by rw[aH n2];exact h.oa,by rw[aH h.ne];exact h.o1,aY,h.r1.keep k,r.keep k⟩
theorem eB.new2 (h:eB K H a C dx l1 l2 us1 us2 st un)(hp:H p=none):eB K (upd (upd H p (kL p [])) a (.ins C dx [("standing",.ref l1),("undone",.ref p)])) a C dx l1 p us1 [] st []/\fV H (upd (upd H p (kL p [])) a (.ins C dx [("standing",.ref l1),("undone",.ref p)])) a:=by
 have np:∀{b:ax}{o:HO},H b=some o->b≠p:=λ{b o} e z=>by rw[z,hp]at e;cases e
 obtain⟨⟨d1,d2⟩,n1,n2⟩:=h.dne
 have da:dx≠a:=λz=>by have:=h.od;rw[z,h.oa]at this;cases this
 have e0:upd H p (kL p []) a=some (.ins C dx [("standing",.ref l1),("undone",.ref l2)]):=by rw[aH (np h.oa)];exact h.oa
 have k:eW (λ_=>False) (λ_=>False) H (upd (upd H p (kL p [])) a (.ins C dx [("standing",.ref l1),("undone",.ref p)])):=by
  refine⟨λ_ _ z=>z.elim,λ_ _ z=>z.elim,λ_ _ z=>z.elim,λb xs e=>?_,λb o v e _=>?_⟩
  ·rw[aH (λz=>by rw[z,h.oa]at e;cases e),aH (np e)];exact e
  ·rw[aH (λz=>by rw[z,h.oa]at e;cases e),aH (np e)];exact e
 refine⟨⟨h.ns,np h.o1,?_,aY,?_,?_,h.r1.keep k,.nil⟩,λb u e n=>?_,?_,λC' D dx' dy fs gs e1 e2=>?_,λb u e=>let ⟨o1,e1⟩:=G6 b u e;G6 b o1 e1⟩
 ·rw[aH da,aH (np h.od)];exact h.od
 ·rw[aH (Ne.symm n1),aH (np h.o1)];exact h.o1
 ·rw[aH (λz=>np h.oa z.symm),aY]
 ·rw[aH (λz=>n (.inl z)),aH (np e)];exact e
 ·rintro b (rfl|⟨C',dx',m1,m2,e,hb⟩)
  ·exact .inl (.inl rfl)
  ·rw[aY]at e;cases e
   rcases hb with rfl|rfl
   ·exact .inl (.inr ⟨_,_,_,_,h.oa,.inl rfl⟩)
   ·exact .inr hp
 ·rw[aY]at e2;rw[h.oa]at e1;cases e1;cases e2;rfl
end
end PP
namespace L2
open PySem PySem.Spec PyProof.Rows
section
variable {X:Cx}{e:Expr}
def ao2 (X:Cx)(te:PP.aL):TE:=λσ H Q=>∃as,(∀b∈as,(∃o,X.H₀ b=some o/\pH o=true)/\∃o,H b=some o)/\PP.LE (X.off as) te σ H λv H'=>(∀b∈as,∃o,H' b=some o)/\Q v H'
theorem G8 {te:PP.aL}(h:∀as,PP.QE (X.off as) e te)(he:X.ex = []:=by rfl):PE X e (ao2 X te):=by
 rintro ag s σ H Q I ⟨as,ha,q⟩;have I1:=I.off he (as:=as) λb z=>let ⟨⟨o,e,_⟩,l⟩:=ha b z;⟨⟨o,e⟩,l⟩
 refine aP (h as ag s σ H _ I1 q) λu s' hq=>?_
 obtain⟨v,H',I2,r,z,q⟩:=hq
 exact⟨v,H',aA.on I.ok I2 he (λb z=>(ha b z).1) z,r,q⟩
end
end L2
namespace PP
open PySem L2 PyProof.Rows
structure gI (X:Cx)(as:List ax)(a:ax)(i:Nat)(σ:L2.St)(ρ:b8)(H:Hp):Prop where
 px:∃W,PX X.K (gO X.H₀ as) W σ ρ H
 ev:fV X.H₀ H a
 k0:∃st un,dA X.K (λ_=>none) X.H₀ a st un
 sm:∀b∈as,(∃o,X.H₀ b=some o/\pH o=true)/\∃o,H b=some o
 kp:∃st un,ρ[i]? = some (some (.kp true (.ob a) [(a,st,un)]))
 nk:gH ρ i
structure sI where
 ad:ax
 nx:b8->Prop
 rt:PV->List PV->List PV->Prop
structure EK (X:Cx)(as:List ax)(i:Nat)(DK:sI)(D:cB):Prop where
 nx:∀σ' H' ρ',gI X as DK.ad i σ' ρ' H'->DK.nx ρ'->D.nx σ' H'
 rt:∀v H' x st un,fV X.H₀ H' DK.ad->dA X.K (λ_=>none) H' DK.ad st un->aI X.K (λ_=>False) H' v x->flat x=true->DK.rt x st un->D.rt v H'
abbrev fI:=sI->b8->Prop
def LK (X:Cx)(i:Nat)(t:fI):TS:=λD σ H=>∃as ρ DK,gI X as DK.ad i σ ρ H/\t DK ρ/\EK X as i DK D
abbrev QK (X:Cx)(i:Nat)(st:Stmt)(t:fI):Prop:=PS X st (LK X i t)
abbrev sJ (X:Cx)(i:Nat)(sts:List Stmt)(t:fI):Prop:=dW X sts (LK X i t)
theorem ao3 {ρ:b8}{i:Nat}{m m':Option Slot}(h:ρ[i]? = some m):(ρ.set i m')[i]? = some m':=bC9 (by4.mp h).1
theorem gH.set {ρ:b8}{i:Nat}{m:Option Slot}(h:gH ρ i):gH (ρ.set i m) i:=λj g x ks n z=>h j g x ks n (by rw[bA1 (Ne.symm n)]at z;exact z)
theorem gH.put {ρ:b8}{i j:Nat}{g:Bool}{x:PV}(h:gH ρ i):gH (ρ.set j (some (.sh g x))) i:=λk g x ks n z=>by
 rcases eF z with⟨_,_,e⟩|⟨_,z⟩
 ·cases e
 ·exact h k g x ks n z
section
variable {X:Cx}{as:List ax}{a:ax}{i:Nat}{σ:L2.St}{ρ:b8}{H H1 H2:Hp}{st un st' un':List PV}
theorem gI.at (k:gI X as a i σ ρ H)(hk:ρ[i]? = some (some (.kp true (.ob a) [(a,st,un)]))):σ[i]? = some (some (.ref a))/\dA X.K (λ_=>none) H a st un:=by
 obtain⟨W,px⟩:=k.px
 exact px.kp ⟨true,hk⟩
theorem gI.mono (k:gI X as a i σ ρ H)(s:aE H H1):gI X as a i σ ρ H1:=by
 obtain⟨W,px⟩:=k.px
 obtain⟨st,un,hk⟩:=k.kp
 have kp:=(k.at hk).2
 exact⟨⟨W,px.mono s⟩,k.ev.trans (fV.same s kp) kp,k.k0,λb hb=>let ⟨h1,o,e⟩:=k.sm b hb;⟨h1,o,s _ _ e⟩,k.kp,k.nk⟩
theorem gI.step (k:gI X as a i σ ρ H)(ev:fV H H2 a)(kp:dA X.K (λ_=>none) H2 a st' un'):gI X as a i σ (ρ.set i (some (.kp true (.ob a) [(a,st',un')]))) H2:=by
 obtain⟨W,px⟩:=k.px
 obtain⟨st,un,hk⟩:=k.kp
 exact⟨⟨W,(px.mut hk k.nk ev kp).1⟩,k.ev.trans ev (k.at hk).2,k.k0,λb hb=>let ⟨h1,o,e⟩:=k.sm b hb;⟨h1,ev.th b o e⟩,⟨_,_,ao3 hk⟩,k.nk.set⟩
theorem gI.set {j:Nat}{v:V}{x:PV}(k:gI X as a i σ ρ H)(ij:j≠i)(r:aI X.K (λ_=>False) H v x):gI X as a i (σ.set j (some v)) (ρ.set j (some (.sh true x))) H:=by
 obtain⟨W,px⟩:=k.px
 obtain⟨st,un,hk⟩:=k.kp
 exact⟨⟨W,px.setSh (vP r)⟩,k.ev,k.k0,k.sm,⟨st,un,by rw[bA1 ij];exact hk⟩,k.nk.put⟩
theorem eB.same {K:ac}{C dx l1 l2:ax}{us1 us2:List V}(h:eB K H a C dx l1 l2 us1 us2 st un)(s:aE H H1):eB K H1 a C dx l1 l2 us1 us2 st un:=
 ⟨h.ns,h.ne,s _ _ h.od,s _ _ h.oa,s _ _ h.o1,s _ _ h.o2,h.r1.same s λ_ z=>z,h.r2.same s λ_ z=>z⟩
theorem bl5 {s s' u u':List PV}{b c:ax}(h:ρ[i]? = some (some (.kp true (.ob b) [(b,s,u)])))(h':ρ[i]? = some (some (.kp true (.ob c) [(c,s',u')]))):s=s'/\u=u':=by
 rw[h]at h';cases h';exact⟨rfl,rfl⟩
end
section
variable {X:Cx}{i:Nat}{σ:L2.St}{H:Hp}{D:cB}{te:aL}{C:ax}{e:Expr}{es:List Expr}{x y m:Str}{pos p2 p3 p4 p5 ah ai:Pos}{st:Stmt}{sts:List Stmt}{t u:fI}
def pL (t u:fI):fI:=λDK ρ=>t { DK with nx:=u DK } ρ
theorem sK (h1:QK X i st t)(h2:sJ X i sts u):sJ X i (st::sts) (pL t u):=by
 refine oJ (mI h1 h2) λD σ H h=>?_
 obtain⟨as,ρ,DK,ks,q,ek⟩:=h
 exact⟨as,ρ,{ DK with nx:=u DK },ks,q,λσ' H' ρ' ks' q'=>⟨as,ρ',DK,ks',q',ek⟩,ek.rt⟩
theorem sL (h1:QK X i st t):sJ X i [st] t:=mJ h1
def G9 (i:Nat)(te:aL):fI:=λDK ρ=>te ρ λx _=>flat x=true/\∃st un,ρ[i]? = some (some (.kp true (.ob DK.ad) [(DK.ad,st,un)]))/\st.length<16000000/\DK.nx (ρ.set i (some (.kp true (.ob DK.ad) [(DK.ad,st++[x],un)])))
theorem bl6 (kc:KC X.K C)(h:LK X i (G9 i te) D σ H):lE (sG sH (kE X.K (eQ i) "standing") (iH (ao2 X te) fZ)) D σ H:=by
 obtain⟨as,ρ,DK,ks,q,ek⟩:=h
 obtain⟨st0,un0,hk⟩:=ks.kp
 obtain⟨ev,kp⟩:=ks.at hk
 obtain⟨C',dx,l1,l2,us1,us2,kw⟩:=kp.w
 obtain rfl:=kc.eq kw.ns
 obtain⟨W,px⟩:=ks.px
 refine⟨_,ev,DK.ad,_,dx,_,_,rfl,kw.oa,kc.cls,kc.n1,rfl,⟨l1,us1,rfl,kw.o1⟩,as,ks.sm,W,ρ,_,px,q,?_⟩;rintro v H1 x g s r ⟨fl,st,un,hk',hl,q⟩
 obtain⟨rfl,rfl⟩:=bl5 hk hk'
 have kw1:=kw.same s;have lr:=kw.r1.length;refine⟨λb hb=>let ⟨_,o,e⟩:=ks.sm b hb;⟨o,s _ _ e⟩,l1,us1,v,rfl,rfl,kw1.o1,iM (by omega),?_⟩;exact ek.nx _ _ _ ((ks.mono s).step (kw1.ev1 (.inl rfl) _) (kw1.put1 (kw1.r1.append (.cons (r.flat fl) .nil))).at) q
theorem bl7 (kc:KC X.K C)(i:Nat)(he:∀as,QE (X.off as) e te)(hex:X.ex = []:=by rfl)(hN:X.N[i]? = some x:=by rfl)(hv:cK X.env.scope x:=by first|exact Or.inl rfl|exact Or.inr (Or.inl rfl)|exact Or.inr (Or.inr rfl))(hd:(x==("__debug__":Str))=false:=by decide)(hcd:(x==("__classdict__":Str))=false:=by decide)(hbs:attributeBase (.Name x p2) "standing" X.env (eval (.Name x p2) X.env)=eval (.Name x p2) X.env:=by rfl)(hbase:attributeBase (.Attribute (.Name x p2) "standing" p3) "append" X.env (eval (.Attribute (.Name x p2) "standing" p3) X.env)=eval (.Attribute (.Name x p2) "standing" p3) X.env:=by rfl)(hfew:((backTo ai (starEach [e] X.env)).all (λx=>!x.1)&&(backToKw ai (keywordEach [] X.env)).all (λx=>x.1.isSome)&&decide (([e]:List Expr).length+([]:List Keyword).length+(if ([]:List Keyword).isEmpty then 0 else 1)<30))=true:=by rfl)(hline:(ah.endLine==ai.line)=true:=by rfl)(hs:starEach [e] X.env=(false,eval e X.env)::starEach [] X.env:=by rfl)(aq:(backTo ai (starEach [] X.env)).any (·.1)=false:=by rfl)(hsw:swapsWith (.Call (.Attribute (.Attribute (.Name x p2) "standing" p3) "append" ah) [e] [] ai) none pos.line X.env=pure false:=by rfl) :
  QK X i (.Expr (.Call (.Attribute (.Attribute (.Name x p2) "standing" p3) "append" ah) [e] [] ai) pos) (G9 i te):=
 dF (lF (am8 bJ5 bJ6 am9 (mM (dI hN hv hd hcd) hbs) (eC (G8 he hex) eS hs) hbase hfew hline hs aq) hsw) λ_ _ _=>bl6 kc
def J0 (i:Nat):fI:=λDK ρ=>∃st un,ρ[i]? = some (some (.kp true (.ob DK.ad) [(DK.ad,st,un)]))/\DK.nx (ρ.set i (some (.kp true (.ob DK.ad) [(DK.ad,st,[])])))
theorem bl8 (kc:KC X.K C)(h:LK X i (J0 i) D σ H):O9 X.K (eQ i) (am7 (wY fZ)) "undone" D σ H:=by
 obtain⟨as,ρ,DK,ks,⟨st,un,hk,q⟩,ek⟩:=h
 obtain⟨ev,kp⟩:=ks.at hk
 obtain⟨C',dx,l1,l2,us1,us2,kw⟩:=kp.w
 obtain rfl:=kc.eq kw.ns;refine⟨bB2 _,λp hp=>⟨p,[],rfl,aY,_,ev,DK.ad,_,dx,[("standing",.ref l1),("undone",.ref l2)],rfl,?_,kc.cls,kc.n2,(by show 2<1000;decide),?_⟩⟩
 ·rw[k9,aH (λz=>by have:=kw.oa;rw[z,hp]at this;cases this)];exact kw.oa
 ·rw[k9]
  obtain⟨kw',ev'⟩:=kw.new2 hp
  exact ek.nx _ _ _ (ks.step ev' kw'.at) q
theorem bl9 (kc:KC X.K C)(i:Nat)(hN:X.N[i]? = some x:=by rfl)(hv:cK X.env.scope x:=by first|exact Or.inl rfl|exact Or.inr (Or.inl rfl)|exact Or.inr (Or.inr rfl))(hd:(x==("__debug__":Str))=false:=by decide)(hcd:(x==("__classdict__":Str))=false:=by decide)(hs:swapsWith (.List [] p5) (some (.Attribute (.Name x p2) "undone" p3)) pos.line X.env=pure false:=by rfl):QK X i (.Assign [.Attribute (.Name x p2) "undone" p3] (.List [] p5) pos) (J0 i):=
 dF (wX (dI hN hv hd hcd) (G3 (t6 eS)) hs) λ_ _ _=>bl8 kc
def J1 (i:Nat):fI:=λDK ρ=>∃st z un,ρ[i]? = some (some (.kp true (.ob DK.ad) [(DK.ad,st++[z],un)]))/\un.length<16000000/\DK.nx (ρ.set i (some (.kp true (.ob DK.ad) [(DK.ad,st,un++[z])])))
def J2 (i:Nat):fI:=λDK ρ=>∃st z un,ρ[i]? = some (some (.kp true (.ob DK.ad) [(DK.ad,st,un++[z])]))/\st.length<16000000/\DK.nx (ρ.set i (some (.kp true (.ob DK.ad) [(DK.ad,st++[z],un)])))
theorem ao4 {α:Type}(l:List α)(z:α):(l++[z])[(l++[z]).length-1]? = some z:=by simp
theorem set_set {ρ:b8}{m m':Option Slot}:(ρ.set i m).set i m'=ρ.set i m':=List.set_set ..
theorem bm0 (kc:KC X.K C)(h:LK X i (J1 i) D σ H):lE (sG sH (kE X.K (eQ i) "undone") (iH (vN vO (kE X.K (eQ i) "standing")) fZ)) D σ H:=by
 obtain⟨as,ρ,DK,ks,⟨st,z,un,hk,hl,q⟩,ek⟩:=h
 obtain⟨ev,kp⟩:=ks.at hk
 obtain⟨C',dx,l1,l2,us1,us2,kw⟩:=kp.w
 obtain rfl:=kc.eq kw.ns
 obtain⟨vs,w,rfl,rv,rw'⟩:=kw.r1.snoc_inv
 have kw1:=kw.put1 rv;have lr:=kw.r2.length;refine⟨_,ev,DK.ad,_,dx,_,_,rfl,kw.oa,kc.cls,kc.n2,rfl,⟨l2,us2,rfl,kw.o2⟩,_,ev,DK.ad,_,dx,_,_,rfl,kw.oa,kc.cls,kc.n1,rfl,⟨l1,_,rfl,kw.o1⟩,l1,_,w,rfl,rfl,kw.o1,ao4 _ _,?_⟩;rw[List.dropLast_concat];refine⟨l2,us2,w,rfl,rfl,kw1.o2,iM (by omega),?_⟩;have k1:=ks.step (kw.ev1 (.inl rfl) (kL l1 vs)) kw1.at;have kk:eW (λ_=>False) (λ_=>False) H (upd H l1 (kL l1 vs)):=vR kw.o1 (λ_=>vS) λ_ _=>vT
 have k2:=k1.step (kw1.ev1 (.inr rfl) (kL l2 (us2++[w]))) (kw1.put2 (kw1.r2.append (.cons (rw'.keep kk) .nil))).at;rw[set_set]at k2;exact ek.nx _ _ _ k2 q
theorem bm1 (kc:KC X.K C)(h:LK X i (J2 i) D σ H):lE (sG sH (kE X.K (eQ i) "standing") (iH (vN vO (kE X.K (eQ i) "undone")) fZ)) D σ H:=by
 obtain⟨as,ρ,DK,ks,⟨st,z,un,hk,hl,q⟩,ek⟩:=h
 obtain⟨ev,kp⟩:=ks.at hk
 obtain⟨C',dx,l1,l2,us1,us2,kw⟩:=kp.w
 obtain rfl:=kc.eq kw.ns
 obtain⟨vs,w,rfl,rv,rw'⟩:=kw.r2.snoc_inv
 have kw1:=kw.put2 rv;have lr:=kw.r1.length;refine⟨_,ev,DK.ad,_,dx,_,_,rfl,kw.oa,kc.cls,kc.n1,rfl,⟨l1,us1,rfl,kw.o1⟩,_,ev,DK.ad,_,dx,_,_,rfl,kw.oa,kc.cls,kc.n2,rfl,⟨l2,_,rfl,kw.o2⟩,l2,_,w,rfl,rfl,kw.o2,ao4 _ _,?_⟩;rw[List.dropLast_concat];refine⟨l1,us1,w,rfl,rfl,kw1.o1,iM (by omega),?_⟩;have k1:=ks.step (kw.ev1 (.inr rfl) (kL l2 vs)) kw1.at;have kk:eW (λ_=>False) (λ_=>False) H (upd H l2 (kL l2 vs)):=vR kw.o2 (λ_=>vS) λ_ _=>vT
 have k2:=k1.step (kw1.ev1 (.inl rfl) (kL l1 (us1++[w]))) (kw1.put1 (kw1.r1.append (.cons (rw'.keep kk) .nil))).at;rw[set_set]at k2;exact ek.nx _ _ _ k2 q
section
variable {f g:Str}
theorem ao5 (i:Nat)(hN:X.N[i]? = some x)(hv:cK X.env.scope x)(hd:(x==("__debug__":Str))=false)(hcd:(x==("__classdict__":Str))=false)(hbs:attributeBase (.Name x p2) f X.env (eval (.Name x p2) X.env)=eval (.Name x p2) X.env)(hbg:attributeBase (.Name x p4) g X.env (eval (.Name x p4) X.env)=eval (.Name x p4) X.env)(hbase:attributeBase (.Attribute (.Name x p2) f p3) "append" X.env (eval (.Attribute (.Name x p2) f p3) X.env)=eval (.Attribute (.Name x p2) f p3) X.env)(hbase2:attributeBase (.Attribute (.Name x p4) g p5) "pop" X.env (eval (.Attribute (.Name x p4) g p5) X.env)=eval (.Attribute (.Name x p4) g p5) X.env){ap2 cp2:Pos}(hfew:((backTo ai (starEach [.Call (.Attribute (.Attribute (.Name x p4) g p5) "pop" ap2) [] [] cp2] X.env)).all (λx=>!x.1)&&(backToKw ai (keywordEach [] X.env)).all (λx=>x.1.isSome)&&decide (([.Call (.Attribute (.Attribute (.Name x p4) g p5) "pop" ap2) [] [] cp2]:List Expr).length+([]:List Keyword).length+(if ([]:List Keyword).isEmpty then 0 else 1)<30))=true)(hline:(ah.endLine==ai.line)=true)(hline2:(ap2.endLine==cp2.line)=true)(hs:starEach [.Call (.Attribute (.Attribute (.Name x p4) g p5) "pop" ap2) [] [] cp2] X.env=(false,eval (.Call (.Attribute (.Attribute (.Name x p4) g p5) "pop" ap2) [] [] cp2) X.env)::starEach [] X.env)(aq:(backTo ai (starEach [] X.env)).any (·.1)=false)(hsw:swapsWith (.Call (.Attribute (.Attribute (.Name x p2) f p3) "append" ah) [.Call (.Attribute (.Attribute (.Name x p4) g p5) "pop" ap2) [] [] cp2] [] ai) none pos.line X.env=pure false) :
  PS X (.Expr (.Call (.Attribute (.Attribute (.Name x p2) f p3) "append" ah) [.Call (.Attribute (.Attribute (.Name x p4) g p5) "pop" ap2) [] [] cp2] [] ai) pos) (lE (sG sH (kE X.K (eQ i) f) (iH (vN vO (kE X.K (eQ i) g)) fZ))):=
 lF (am8 bJ5 bJ6 am9 (mM (dI hN hv hd hcd) hbs) (eC (bk6 PySem.F.slot_list_pop PySem.F.type_list_pop bk7 (mM (dI hN hv hd hcd) hbg) hbase2 hline2) eS hs) hbase hfew hline hs aq) hsw
end
def sM (i:Nat)(te:aL):fI:=λDK ρ=>te ρ λx _=>flat x=true/\∃st un,ρ[i]? = some (some (.kp true (.ob DK.ad) [(DK.ad,st,un)]))/\DK.rt x st un
theorem vU (i:Nat)(he:∀as,QE (X.off as) e te)(hex:X.ex = []:=by rfl):QK X i (.Return (some e) pos) (sM i te):=
 dF (nW (G8 he hex)) λD σ H h=>by
  obtain⟨as,ρ,DK,ks,q,ek⟩:=h
  obtain⟨W,px⟩:=ks.px
  refine⟨as,ks.sm,W,ρ,_,px,q,?_⟩;rintro v H1 x g s r ⟨fl,st,un,hk,q⟩;refine⟨λb hb=>let ⟨_,o,e⟩:=ks.sm b hb;⟨o,s _ _ e⟩,?_⟩;have k1:=ks.mono s;exact ek.rt v H1 x st un k1.ev (k1.at hk).2 (r.flat fl) fl q
def ao6 (i j:Nat)(te:aL):fI:=λDK ρ=>te ρ λx _=>flat x=true/\j≠i/\DK.nx (ρ.set j (some (.sh true x)))
theorem bm2 (i:Nat){j:Nat}(hN:X.N.Nodup)(he:∀as,QE (X.off as) e te)(hex:X.ex = []:=by rfl)(hi:X.N[j]? = some y:=by rfl)(hx:gQ X.env.scope y:=by first|exact Or.inl rfl|exact Or.inr rfl)(hs:swapsWith e (some (.Name y p2)) pos.line X.env=pure false:=by rfl)(hf:X.fn y=true∨X.env.scope.names.lookup y=some .local:=by first|exact .inl rfl|exact .inr rfl) :
  QK X i (.Assign [.Name y p2] e pos) (ao6 i j te):=dF (pZ hN hi hx (G8 he hex) hs hf) λD σ H h=>by
 obtain⟨as,ρ,DK,ks,q,ek⟩:=h
 obtain⟨W,px⟩:=ks.px
 refine⟨as,ks.sm,W,ρ,_,px,q,?_⟩;rintro v H1 x g s r ⟨fl,ij,q⟩;refine⟨λb hb=>let ⟨_,o,e⟩:=ks.sm b hb;⟨o,s _ _ e⟩,?_⟩;exact ek.nx _ _ _ ((ks.mono s).set ij (r.flat fl)) q
end
abbrev iY:=sI->b8->Prop
def LF (X:Cx)(t:iY):TS:=λD σ H=>∃W ρ DK,PX X.K X.H₀ W σ ρ H/\(∃st un,dA X.K (λ_=>none) X.H₀ DK.ad st un)/\t DK ρ/\∀as i,EK X as i { DK with nx:=λ_=>False } D
abbrev vV (X:Cx)(sts:List Stmt)(t:iY):Prop:=dW X sts (LF X t)
def mB (t:aV)(u:iY):iY:=λDK ρ=>t { nx:=u DK,rt:=λ_=>False,bk:=λ_=>False,ct:=λ_=>False } ρ
def sN (i:Nat)(t:fI):iY:=λDK ρ=>∃st un,ρ[i]? = some (some (.kp false (.ob DK.ad) [(DK.ad,st,un)]))/\gH ρ i/\t { DK with nx:=λ_=>False } (ρ.set i (some (.kp true (.ob DK.ad) [(DK.ad,st,un)])))
section
variable {X:Cx}{st:Stmt}{sts:List Stmt}{t:aV}{u:iY}{v:fI}{i:Nat}
theorem nQ (h1:QS X st t)(h2:vV X sts u):vV X (st::sts) (mB t u):=by
 refine oJ (mI h1 h2) λD σ H h=>?_
 obtain⟨W,ρ,DK,px,k0,q,ek⟩:=h
 exact⟨W,ρ,_,px,q,λW' σ' H' ρ' e px' q'=>⟨W',ρ',DK,px',k0,q',ek⟩,λ_ _ _ _ _ z=>z.elim,λ_ _ _ _ _ _ z=>z.elim,λ_ _ _ _ _ _ z=>z.elim⟩
theorem bm3 {K:ac}{H0:Hp}{W:ax->Prop}{σ:L2.St}{ρ:b8}{H:Hp}{as:List ax}{i:Nat}{a C dx l1 l2:ax}{us1 us2:List V}{st un:List PV}(px:PX K H0 W σ ρ H)(hk:ρ[i]? = some (some (.kp false (.ob a) [(a,st,un)])))(nk:gH ρ i)(kw:eB K H a C dx l1 l2 us1 us2 st un)(ha:as = [a,dx,l1,l2]) :
  PX K (gO H0 as) W σ (ρ.set i (some (.kp true (.ob a) [(a,st,un)]))) H:=by
 have no:∀{b:ax},H0 b=none->gO H0 as b=none:=λ{b} e=>by
  by_cases z:b∈as
  ·exact pG z
  ·rw[sF z];exact e
 have ms:∀{g:Bool}{b:ax},Ms H0 W g b->Ms (gO H0 as) W g b:=λ{g b} h=>by
  cases g with
  |true=>exact⟨h.1,no h.2⟩
  |false=>exact h
 refine⟨by rw[bE2];exact px.len,λb o e=>px.same b o (vL e),λb z=>let ⟨h1,h2⟩:=px.wm b z;⟨no h1,h2⟩,λj m h=>?_,λj k x y b h1 h2 h3 h4=>?_⟩
 ·rcases eF h with⟨rfl,hl,e⟩|⟨hne,h⟩
  ·cases e
   obtain⟨v,ev,⟨r,_⟩,_⟩:=px.sl j _ hk
   cases r;refine⟨_,ev,⟨.ob,rfl⟩,λk hk=>?_,bA5 _ _⟩;rw[by0.mp hk]
   exact⟨C,dx,l1,l2,us1,us2,kw.ns,⟨pG (by simp[ha]),pG (by simp[ha]),pG (by simp[ha]),pG (by simp[ha])⟩,kw.ne,kw.od,kw.oa,kw.o1,kw.o2,kw.r1,kw.r2⟩
  ·obtain⟨u,e,q⟩:=px.sl j m h
   refine⟨u,e,?_⟩;cases m with
   |sh g x=>exact aI.same q (aE.refl _) λ_ z=>ms z
   |own x=>
    obtain⟨b,e1,e2,q⟩:=q
    exact⟨b,e1,e2,q.keep (.same (aE.refl _) λ_ z=>ms (g:=true) z) λ_ z=>z⟩
   |kp g x ks=>exact absurd h (nk j g x ks hne)
 ·rcases eF h1 with⟨_,_,e⟩|⟨n1,h1⟩
  ·cases e
  ·rcases eF h2 with⟨_,_,e⟩|⟨n2,h2⟩
   ·cases e
   ·exact px.dis j k x y b h1 h2 h3 h4
theorem vW (h:sJ X i sts v):vV X sts (sN i v):=by
 refine oJ h λD σ H h=>?_
 obtain⟨W,ρ,DK,px,⟨st0,un0,k0⟩,⟨st,un,hk,nk,q⟩,ek⟩:=h
 obtain⟨ev,kp⟩:=px.kp ⟨false,hk⟩
 obtain⟨C,dx,l1,l2,us1,us2,kw⟩:=kp.w
 obtain⟨C',dx',m1,m2,ws1,ws2,kw0⟩:=k0.w
 have ea:=px.same _ _ kw0.oa;rw[kw.oa]at ea;cases ea;refine⟨[DK.ad,dx,l1,l2],_,{ DK with nx:=λ_=>False },⟨⟨W,bm3 px hk nk kw rfl⟩,fV.same px.same k0,⟨_,_,k0⟩,λb hb=>?_,⟨_,_,ao3 hk⟩,nk.set⟩,q,ek _ _⟩;simp only[by2,bz2,bC3]at hb;rcases hb with rfl|rfl|rfl|rfl
 ·exact⟨⟨_,kw0.oa,rfl⟩,_,kw.oa⟩
 ·exact⟨⟨_,kw0.od,rfl⟩,_,kw.od⟩
 ·exact⟨⟨_,kw0.o1,rfl⟩,_,kw.o1⟩
 ·exact⟨⟨_,kw0.o2,rfl⟩,_,kw.o2⟩
end
theorem vX {P:ay}{w:ba}{K:ac}{mg:Str->Option av}{base:Heap}{k:Nat}{x qual:Str}{ps N:List Str}{p:fB}{st:Stmt}{f:ax}{fd:FuncData}(F:d8 K x qual st f fd)(S:FnScope N ps (aT st))(t:(Str->Prop)->iY)(len:∀st un Ep xs Q,p st un Ep xs Q->xs.length+1=ps.length)(rd:∀a st un Ep xs Q,p st un Ep xs Q->flats xs=true->t Ep { ad:=a,nx:=λ_=>False,rt:=Q } (m9 N a st un xs))(body:∀(cdv:av) (A:az) (outer:List Env) (s:aw) (H:Hp) (E:XK) (Ep:Str->Prop),bL k (A.deeper (envOfC qual (aT st) s.heap.objs.size f cdv))->lY (cW (bY P w) P w K mg base N qual (aT st) f cdv A outer s H E) (EX K H Ep)->
   vV (cW (bY P w) P w K mg base N qual (aT st) f cdv A outer s H E) (cY st) (t Ep)):bZ P w K mg base (bY P w) (k+1) f fd ps (jJ K p):=by
 refine F.okX S (λvs H Q E h=>?_) (λcdv A outer s H vs Q E hr h=>?_)
 ·obtain⟨a,us,xs,st,un,Qp,Ep,rfl,_,r,q,_⟩:=h
  rw[bA3,r.1.length];exact len st un Ep xs Qp q
 ·obtain⟨a,us,xs,st,un,Qp,Ep,rfl,hk,⟨r,fl⟩,q,k,ke⟩:=h
  have ht:=body cdv A outer s H E Ep hr (A9 λc d H' z=>?_)
  ·refine⟨_,ht,λ_=>False,m9 N a st un xs,{ ad:=a,nx:=λ_=>False,rt:=Qp },an5 hk (r.flat fl),⟨st,un,hk⟩,rd a st un Ep xs Qp q fl,λas i=>⟨λ_ _ _ _ z=>z.elim,?_⟩⟩
   exact λv H' x st' un' ev kp r fl q=>k v H' x st' un' ev kp r fl q
  ·obtain⟨rfl,s1,n,C,rfl,z1,z2⟩:=z
   exact ke n C H' s1 z1 z2
end PP
namespace L2
open PySem PySem.Spec PyProof.Rows
section
variable {X:Cx}{k:Nat}{f C:ax}{fd:FuncData}{ps:List Str}{sp:Sp}{x z m:Str}{p cp pos zp ah:Pos}{e:Expr}{es:List Expr}{t:TA}{i iv:Nat}{ag:List (ax×Obj)}{s:aw}{σ:St}{H:Hp}{Q:VK}{Ex:XK}
def tM (C:ax)(m:Str)(sp:Sp)(iv:Nat)(t:TA)(Q:VK)(Ex:XK):St->Hp->Prop:=λσ H=>∃a dx fs,σ[iv]? = some (some (.ref a))/\H a=some (.ins C dx fs)/\fs.lookup m=none/\t σ H λvs H1=>sp (.ref a::vs) H1 Q Ex
theorem ao7 (F:bZ X.prog X.w X.K X.mg X.base (bY X.prog X.w) k f fd ps sp)(hr:bL k X.A)(hb:dQ X.K fd ps []){us:List av}{vs:List V}(I:aA X ag σ H s)(r:aX vs us)(q:sp vs H Q Ex) :
  wpAny (model X.prog X.w) X.A (call (.ref f) us) (EP X ag σ Q) (XB X ag σ Ex) s:=by
 have hl:us.length=ps.length:=by rw[<- r.length];exact F.len _ _ _ _ q
 have bd:=hb s us I.kIn (by rw[bA0];exact hl);rw[bA0]at bd;refine wpAny_call (codeAny_mono (F.run X.A X.stack s H ⟨us,[]⟩ us vs _ Ex hr I.env0 bd r q) λrs s' hq=>?_);cases rs with
 |error ev=>exact⟨H,s,I,hq⟩
 |ok fl=>
  cases fl with
  |ret u=>exact I.after hq
  |next=>exact False.elim hq
  |brk=>exact False.elim hq
  |cont=>exact False.elim hq
theorem bm4 {pl:Sem Bool}(c:hZ X.K C)(hm:eR X.K C m f)(F:bZ X.prog X.w X.K X.mg X.base (bY X.prog X.w) k f fd ps sp)(hr:bL k X.A)(hb:dQ X.K fd ps [])(ha:∀E,PA (X.wish E) (e::es) t)(I:aA X ag σ H s)(h:tM C m sp iv t Q Ex σ H)(hN:X.N[iv]? = some x)(hv:cK X.env.scope x)(hd:(x==("__debug__":Str))=false)(hcd:(x==("__classdict__":Str))=false)(hst:starEach (e::es) X.env=(false,eval e X.env)::starEach es X.env)(hpl:(backTo cp (starEach es X.env)).any (·.1)=false)(ht:eval (.Call (.Attribute (.Name x p) m ah) (e::es) [] cp) X.env=(do
   let ov <- eval (.Name x p) X.env
   standAt ah.atName
   let (f,first) <- holding [ov] (getMethod ov m pl)
   callWith cp f first (backTo cp (starEach (e::es) X.env)) (backToKw cp (keywordEach [] X.env)))) :
  wpAny (model X.prog X.w) X.A (eval (.Call (.Attribute (.Name x p) m ah) (e::es) [] cp) X.env) (EP X ag σ Q) (XB X ag σ Ex) s:=by
 obtain⟨a,dx,fs,e1,e2,e3,q⟩:=h
 refine bL2 (pl:=pl) (aP (dI (X:=X.wish (XB X ag σ Ex)) (pos:=p) hN hv hd hcd ag s σ H (λv H'=>v = .ref a/\H'=H) (I.wish _) ⟨_,e1,rfl,rfl⟩) λu s1 ⟨v,H1,I1,rv,ev,eh⟩=>?_) ht;subst ev eh;obtain rfl:u=Value.ref a:=rv;have I1:=I1.unwish;refine qF I1 e2 c hm e3 ?_;refine PySem.W.callWith_K (first:=[.ref a]) (h₀:=X.base) I.ok.mod.kin hm.kp (aP (ha (XB X ag σ Ex) cp ag s1 σ H1 _ (I1.wish _) q) λus s2 h2=>⟨?_,?_⟩) hst hpl
 ·obtain⟨_,_,I2,_⟩:=h2
  exact I2.kIn
 ·obtain⟨vs,H2,I2,r,q2⟩:=h2
  exact ao7 (us:=.ref a::us) (vs:=.ref a::vs) F hr hb I2.unwish (.cons rfl r) q2
theorem bm5 {pl:Sem Bool}(c:hZ X.K C)(hm:eR X.K C m f)(F:bZ X.prog X.w X.K X.mg X.base (bY X.prog X.w) k f fd ps sp)(hr:bL k X.A)(hb:dQ X.K fd ps [])(I:aA X ag σ H s)(h:tM C m sp iv fZ Q Ex σ H)(hN:X.N[iv]? = some x)(hv:cK X.env.scope x)(hd:(x==("__debug__":Str))=false)(hcd:(x==("__classdict__":Str))=false)(ht:eval (.Call (.Attribute (.Name x p) m ah) [] [] cp) X.env=(do
   let ov <- eval (.Name x p) X.env
   standAt ah.atName
   let (f,first) <- holding [ov] (getMethod ov m pl)
   callWith cp f first (backTo cp (starEach [] X.env)) (backToKw cp (keywordEach [] X.env)))) :
  wpAny (model X.prog X.w) X.A (eval (.Call (.Attribute (.Name x p) m ah) [] [] cp) X.env) (EP X ag σ Q) (XB X ag σ Ex) s:=by
 obtain⟨a,dx,fs,e1,e2,e3,q⟩:=h
 refine bL2 (pl:=pl) (aP (dI (X:=X.wish (XB X ag σ Ex)) (pos:=p) hN hv hd hcd ag s σ H (λv H'=>v = .ref a/\H'=H) (I.wish _) ⟨_,e1,rfl,rfl⟩) λu s1 ⟨v,H1,I1,rv,ev,eh⟩=>?_) ht;subst ev eh;obtain rfl:u=Value.ref a:=rv;have I1:=I1.unwish;refine qF I1 e2 c hm e3 ?_;exact PySem.W.callWith_K0 (first:=[.ref a]) I1.kIn hm.kp (ao7 (us:=[.ref a]) (vs:=[.ref a]) F hr hb I1 (.cons rfl .nil) q)
def J3 (X:Cx)(e:Expr)(t:VK->XK->St->Hp->Prop):Prop:=∀(ag:List (ax×Obj)) (s:aw) (σ:St) (H:Hp) (Q:VK) (Ex:XK),aA X ag σ H s->t Q Ex σ H->wpAny (model X.prog X.w) X.A (eval e X.env) (EP X ag σ Q) (XB X ag σ Ex) s
theorem ao8 {t:VK->XK->St->Hp->Prop}(h:J3 X e t)(hN:X.N.Nodup)(hi:X.N[i]? = some z)(hz:X.env.scope.names.lookup z=some .local)(hsw:swapsWith e (some (.Name z zp)) pos.line X.env=pure false) :
  PB X [.Assign [.Name z zp] e pos] (λD Ex σ H=>t (λv H2=>D.nx (σ.set i (some v)) H2) Ex σ H):=by
 intro ag s σ H D Ex I q;refine wpAny_execs_cons (wpAny_Assign_Name (aP (h ag s σ H _ Ex I q) λu s1 h1=>?_) hsw)
 obtain⟨v,H2,I2,rv,q2⟩:=h1
 exact wI I2 hN hi (.inl hz) rv (λs3 I3=>bL4 ⟨_,H2,I3,q2⟩) (.inr hz)
end
end L2
namespace PP
open PySem L2 PyProof.Rows
section
variable {X:Cx}{σ:L2.St}{H:Hp}{D:cB}{Ex:XK}{i j:Nat}{e:Expr}{es:List Expr}{tr:c9}{tc:cM}{c:Expr}{x z m:Str}{p2 cp pos zp ah np hp:Pos}
abbrev lA:=sI->(Str->Prop)->b8->Prop
def LBK (X:Cx)(i:Nat)(t:lA):TB:=λD Ex σ H=>∃as ρ DK Ep,gI X as DK.ad i σ ρ H/\t DK Ep ρ/\EK X as i DK D/\∀n C H',aE H H'->PySem.W.nsIn X.K mainGlobals n=some (some (.ref C))->Ep n->Ex (.ref C) none H'
abbrev pM (X:Cx)(i:Nat)(sts:List Stmt)(t:lA):Prop:=PB X sts (LBK X i t)
def qkM (i:Nat)(p:fB)(t:c9)(ad:ax)(Ep:Str->Prop)(ρ:b8)(Q:PV->b8->Prop):Prop:=∃st un,ρ[i]? = some (some (.kp true (.ob ad) [(ad,st,un)]))/\t ρ λxs=>flats (xs.map (·.1))=true/\p st un Ep (xs.map (·.1)) λx st' un'=>Q x (ρ.set i (some (.kp true (.ob ad) [(ad,st',un')])))
def J4 (X:Cx)(tr:c9):TA:=λσ H Q=>∃as,(∀b∈as,(∃o,X.H₀ b=some o/\pH o=true)/\∃o,H b=some o)/\LA (X.off as) tr σ H λv H'=>(∀b∈as,∃o,H' b=some o)/\Q v H'
theorem bm6 (h:∀as,QA (X.off as) es tr)(he:X.ex = []:=by rfl):PA X es (J4 X tr):=by
 rintro pos ag s σ H Q I ⟨as,ha,q⟩;have I1:=I.off he (as:=as) λb z=>let ⟨⟨o,e,_⟩,l⟩:=ha b z;⟨⟨o,e⟩,l⟩
 refine aP (h as pos ag s σ H _ I1 q) λu s' hq=>?_
 obtain⟨v,H',I2,r,z,q⟩:=hq
 exact⟨v,H',aA.on I.ok I2 he (λb z=>(ha b z).1) z,r,q⟩
def ao9 (X:Cx)(tc:cM):TT:=λσ H Q=>∃as,(∀b∈as,(∃o,X.H₀ b=some o/\pH o=true)/\∃o,H b=some o)/\LT (X.off as) tc σ H λv H'=>(∀b∈as,∃o,H' b=some o)/\Q v H'
theorem bm7 (h:∀as,QT (X.off as) c tc)(he:X.ex = []:=by rfl):PT X c (ao9 X tc):=by
 rintro ag s σ H Q I ⟨as,ha,q⟩;have I1:=I.off he (as:=as) λb z=>let ⟨⟨o,e,_⟩,l⟩:=ha b z;⟨⟨o,e⟩,l⟩
 refine aP (h as ag s σ H _ I1 q) λu s' hq=>?_
 obtain⟨H',I2,z,q⟩:=hq
 exact⟨H',aA.on I.ok I2 he (λb z=>(ha b z).1) z,q⟩
theorem ap0 {p:fB}{as:List ax}{ρ:b8}{DK:sI}{C:ax}{Ep:Str->Prop}{Qp:PV->b8->Prop}{Q:VK}{T:TA}(kc:KC X.K C)(hl:∀v w:V,([("standing",v),("undone",w)]:List (Str×V)).lookup m=none)(ks:gI X as DK.ad i σ ρ H)(q:qkM i p tr DK.ad Ep ρ Qp)(hT:T=J4 X tr∨T=fZ/\tr=aC)(ke:∀n C H',aE H H'->PySem.W.nsIn X.K mainGlobals n=some (some (.ref C))->Ep n->Ex (.ref C) none H')(k:∀v H' x ρ',gI X as DK.ad i σ ρ' H'->aI X.K (λ_=>False) H' v x->flat x=true->Qp x ρ'->Q v H'):tM C m (jJ X.K p) i T Q Ex σ H:=by
 obtain⟨st,un,hk,q⟩:=q
 obtain⟨ev,kp⟩:=ks.at hk
 obtain⟨C',dx,l1,l2,us1,us2,kw⟩:=kp.w
 obtain rfl:=kc.eq kw.ns
 obtain⟨W,px⟩:=ks.px
 have fin:∀vs H1 xs,aE H H1->Reps X.K (λ_=>True) H1 vs xs->(flats xs=true/\p st un Ep xs λx st' un'=>Qp x (ρ.set i (some (.kp true (.ob DK.ad) [(DK.ad,st',un')]))))->jJ X.K p (.ref DK.ad::vs) H1 Q Ex:=λvs H1 xs s1 r q1=>by
  have k1:=ks.mono s1
  exact⟨DK.ad,vs,_,st,un,_,Ep,rfl,(k1.at hk).2,⟨r.flat q1.1,q1.1⟩,q1.2,λv H' x st' un' ev' kp' rv fl q2=>k v H' x _ (k1.step ev' kp') rv fl q2,λn C H' s2 z1 z2=>ke n C H' (s1.trans s2) z1 z2⟩
 refine⟨DK.ad,dx,_,ev,kw.oa,hl _ _,?_⟩;rcases hT with rfl|⟨rfl,rfl⟩
 ·exact⟨as,ks.sm,W,ρ,_,px,q,λvs H1 xs s1 r q1=>⟨λb hb=>let ⟨_,o,e⟩:=ks.sm b hb;⟨o,s1 _ _ e⟩,fin vs H1 _ s1 r.any q1⟩⟩
 ·exact fin [] H [] (aE.refl _) .nil q
theorem bm8 {C f:ax}{fd:FuncData}{k n:Nat}{ps:List Str}{p:fB}{pl:Sem Bool}(kc:KC X.K C)(M:eR X.K C m f)(F:bZ X.prog X.w X.K X.mg X.base (bY X.prog X.w) k f fd ps (jJ X.K p))(hb:dQ X.K fd ps [])(hr:bL n X.A)(hkj:k<=n)(ha:∀E as,QA ((X.wish E).off as) (e::es) tr)(hex:X.ex = [])(hN:X.N[i]? = some x)(hv:cK X.env.scope x)(hd:(x==("__debug__":Str))=false)(hcd:(x==("__classdict__":Str))=false)(hst:starEach (e::es) X.env=(false,eval e X.env)::starEach es X.env)(hpl:(backTo cp (starEach es X.env)).any (·.1)=false)(ht:eval (.Call (.Attribute (.Name x p2) m ah) (e::es) [] cp) X.env=(do
   let ov <- eval (.Name x p2) X.env
   standAt ah.atName
   let (f,first) <- holding [ov] (getMethod ov m pl)
   callWith cp f first (backTo cp (starEach (e::es) X.env)) (backToKw cp (keywordEach [] X.env)))) :
  J3 X (.Call (.Attribute (.Name x p2) m ah) (e::es) [] cp) (λQ Ex=>tM C m (jJ X.K p) i (J4 X tr) Q Ex):=λag s σ H Q Ex I q=>
 bm4 (pl:=pl) kc.cls M F (hr.mono hkj) hb (λE=>bm6 (X:=X.wish E) (λas=>ha E as) hex) I q hN hv hd hcd hst hpl ht
theorem bm9 {C f:ax}{fd:FuncData}{k n:Nat}{ps:List Str}{p:fB}{pl:Sem Bool}(kc:KC X.K C)(M:eR X.K C m f)(F:bZ X.prog X.w X.K X.mg X.base (bY X.prog X.w) k f fd ps (jJ X.K p))(hb:dQ X.K fd ps [])(hr:bL n X.A)(hkj:k<=n)(hN:X.N[i]? = some x)(hv:cK X.env.scope x)(hd:(x==("__debug__":Str))=false)(hcd:(x==("__classdict__":Str))=false)(ht:eval (.Call (.Attribute (.Name x p2) m ah) [] [] cp) X.env=(do
   let ov <- eval (.Name x p2) X.env
   standAt ah.atName
   let (f,first) <- holding [ov] (getMethod ov m pl)
   callWith cp f first (backTo cp (starEach [] X.env)) (backToKw cp (keywordEach [] X.env)))) :
  J3 X (.Call (.Attribute (.Name x p2) m ah) [] [] cp) (λQ Ex=>tM C m (jJ X.K p) i fZ Q Ex):=λag s σ H Q Ex I q=>
 bm5 (pl:=pl) kc.cls M F (hr.mono hkj) hb I q hN hv hd hcd ht
def sO (i j:Nat)(p:fB)(t:c9):lA:=λDK Ep ρ=>j≠i/\qkM i p t DK.ad Ep ρ λx ρ'=>DK.nx (ρ'.set j (some (.sh true x)))
def J5 (c:cM)(t u:lA):lA:=λDK Ep ρ=>c ρ λb=>if b=true then t DK Ep ρ else u DK Ep ρ
section
variable {k n:Nat}{ps:List Str}{p:fB}{pl:Sem Bool}
theorem bn0 (i j:Nat)(d:jY X.prog X.w X.K X.mg X.base k m ps p)(hr:bL n X.A)(hnd:X.N.Nodup)(ha:∀E as,QA ((X.wish E).off as) (e::es) tr)(hkj:k<=n:=by decide)(hex:X.ex = []:=by rfl)(hl:∀v w:V,([("standing",v),("undone",w)]:List (Str×V)).lookup m=none:=by intro _ _;rfl)(hN:X.N[i]? = some x:=by rfl)(hv:cK X.env.scope x:=by first|exact Or.inl rfl|exact Or.inr (Or.inl rfl)|exact Or.inr (Or.inr rfl))(hd:(x==("__debug__":Str))=false:=by decide)(hcd:(x==("__classdict__":Str))=false:=by decide)(hi:X.N[j]? = some z:=by rfl)(hz:X.env.scope.names.lookup z=some .local:=by rfl)(hst:starEach (e::es) X.env=(false,eval e X.env)::starEach es X.env:=by rfl)(hpl:(backTo cp (starEach es X.env)).any (·.1)=false:=by rfl)(hsw:swapsWith (.Call (.Attribute (.Name x p2) m ah) (e::es) [] cp) (some (.Name z zp)) pos.line X.env=pure false:=by rfl)(ht:eval (.Call (.Attribute (.Name x p2) m ah) (e::es) [] cp) X.env=(do
   let ov <- eval (.Name x p2) X.env
   standAt ah.atName
   let (f,first) <- holding [ov] (getMethod ov m pl)
   callWith cp f first (backTo cp (starEach (e::es) X.env)) (backToKw cp (keywordEach [] X.env))):=by rfl):pM X i [.Assign [.Name z zp] (.Call (.Attribute (.Name x p2) m ah) (e::es) [] cp) pos] (sO i j p tr):=by
 obtain⟨C,f,fd,kc,M,F,b⟩:=d.ex
 refine C7 (ao8 (bm8 (pl:=pl) kc M F b hr hkj ha hex hN hv hd hcd hst hpl ht) hnd hi hz hsw) λD Ex σ H h=>?_
 obtain⟨as,ρ,DK,Ep,ks,⟨ij,q⟩,ek,ke⟩:=h
 exact ap0 kc hl ks q (.inl rfl) ke λv H' x ρ' k' r fl q'=>ek.nx _ _ _ (k'.set ij r) q'
theorem ap1 (i j:Nat)(d:jY X.prog X.w X.K X.mg X.base k m ps p)(hr:bL n X.A)(hnd:X.N.Nodup)(hkj:k<=n:=by decide)(hl:∀v w:V,([("standing",v),("undone",w)]:List (Str×V)).lookup m=none:=by intro _ _;rfl)(hN:X.N[i]? = some x:=by rfl)(hv:cK X.env.scope x:=by first|exact Or.inl rfl|exact Or.inr (Or.inl rfl)|exact Or.inr (Or.inr rfl))(hd:(x==("__debug__":Str))=false:=by decide)(hcd:(x==("__classdict__":Str))=false:=by decide)(hi:X.N[j]? = some z:=by rfl)(hz:X.env.scope.names.lookup z=some .local:=by rfl)(hsw:swapsWith (.Call (.Attribute (.Name x p2) m ah) [] [] cp) (some (.Name z zp)) pos.line X.env=pure false:=by rfl)(ht:eval (.Call (.Attribute (.Name x p2) m ah) [] [] cp) X.env=(do
   let ov <- eval (.Name x p2) X.env
   standAt ah.atName
   let (f,first) <- holding [ov] (getMethod ov m pl)
   callWith cp f first (backTo cp (starEach [] X.env)) (backToKw cp (keywordEach [] X.env))):=by rfl):pM X i [.Assign [.Name z zp] (.Call (.Attribute (.Name x p2) m ah) [] [] cp) pos] (sO i j p aC):=by
 obtain⟨C,f,fd,kc,M,F,b⟩:=d.ex
 refine C7 (ao8 (bm9 (pl:=pl) kc M F b hr hkj hN hv hd hcd ht) hnd hi hz hsw) λD Ex σ H h=>?_
 obtain⟨as,ρ,DK,Ep,ks,⟨ij,q⟩,ek,ke⟩:=h
 exact ap0 kc hl ks q (.inr ⟨rfl,rfl⟩) ke λv H' x ρ' k' r fl q'=>ek.nx _ _ _ (k'.set ij r) q'
end
theorem ap3 {sa sb:List Stmt}{tb ub:lA}(hc:∀E as,QT ((X.wish E).off as) c tc)(ha:pM X i sa tb)(hb:pM X i sb ub)(hex:X.ex = []:=by rfl):pM X i [.If c sa sb pos] (J5 tc tb ub):=by
 refine C7 (aV3 (tc:=ao9 X tc) (λE=>bm7 (X:=X.wish E) (λas=>hc E as) hex) ha hb) λD Ex σ H h=>?_
 obtain⟨as,ρ,DK,Ep,ks,q,ek,ke⟩:=h
 obtain⟨W,px⟩:=ks.px
 refine⟨as,ks.sm,W,ρ,_,px,q,λb H1 s1 q1=>⟨λb hb=>let ⟨_,o,e⟩:=ks.sm b hb;⟨o,s1 _ _ e⟩,?_⟩⟩;have ke':∀n C H',aE H1 H'->PySem.W.nsIn X.K mainGlobals n=some (some (.ref C))->Ep n->Ex (.ref C) none H':=λn C H' s2 z1 z2=>ke n C H' (s1.trans s2) z1 z2
 cases b with
 |true=>exact aU ⟨as,ρ,DK,Ep,ks.mono s1,by simpa using q1,ek,ke'⟩
 |false=>exact aN ⟨as,ρ,DK,Ep,ks.mono s1,by simpa using q1,ek,ke'⟩
def J6 (m:Str)(tb:lA)(ts:fI):fI:=λDK ρ=>tb DK (λn=>rV n m=some true/\ts DK ρ) ρ
theorem bn1 {m:Str}{Ch:ax}{tb:lA}{ts:fI}(hs:∀n C,rV n m=some true->PySem.W.nsIn X.K mainGlobals n=some (some (.ref C))->PySem.W.subIn X.K (.ref C) (.ref Ch)=some true)(h:LK X i (J6 m tb ts) D σ H):ak1 X.K Ch (LBK X i tb) (LK X i ts) D σ H:=by
 obtain⟨as,ρ,DK,ks,q,ek⟩:=h
 refine⟨as,ρ,DK,_,ks,q,ek,λn C H' s z1 z2 a C' oe hc na hcl=>?_⟩;cases hc
 exact⟨hs n C z2.1 z1,as,ρ,DK,ks.mono (s.trans (bS na _)),z2.2,ek⟩
theorem bn2 {m:Str}{b₀:Stmt}{suite body:List Stmt}{tb:lA}{ts:fI}(ct:C9 X.K X.mg m)(hb:pM X i body tb)(hs:∀a,sJ (X.suite a) i (b₀::suite) ts)(hstk:X.stack=X.env::X.outer/\X.env.frame=some X.env.locals:=by exact⟨rfl,rfl⟩)(hg:Gl X m:=by rfl)(hd:(m==("__debug__":Str))=false:=by decide):QK X i (.Try body [.ExceptHandler (some (.Name m np)) none (b₀::suite) hp] [] [] pos) (J6 m tb ts):=by
 obtain⟨Ch,hm,c,sub⟩:=ct.ex
 refine dF (bh9 (ts:=LK X i ts) hstk hb hg hm c (λa=>oJ (hs a) λD σ H h=>?_) hd) λ_ _ _=>bn1 sub
 obtain⟨as,ρ,DK,ks,q,ek⟩:=h
 exact⟨as,ρ,DK,⟨ks.px,ks.ev,ks.k0,ks.sm,ks.kp,ks.nk⟩,q,⟨λσ' H' ρ' k' q'=>ek.nx _ _ _ ⟨k'.px,k'.ev,k'.k0,k'.sm,k'.kp,k'.nk⟩ q',ek.rt⟩⟩
end
abbrev sQ (x:PV):PV:=.tup [.non,x,.tup []]
def ap4 (K:ac)(C:ax):Sp:=λvs H Q _=>∃x dx v pv,vs = [V.ref x,v]/\H x=some (.ins C dx [])/\H dx=some (.own x)/\(aI K (λ_=>True) H v pv/\flat pv=true)/\
 ∀H' l1 l2 us1,(∀b o,H b=some o->b≠x->H' b=some o)->H l1=none->H l2=none->eB K H' x C dx l1 l2 us1 [] [sQ pv] []->Q .non H'
structure J7 (P:ay)(w:ba)(K:ac)(mg:Str->Option av)(base:Heap)(k:Nat):Prop where
 ex:∃C f fd,KC K C/\Mk K C f/\bZ P w K mg base (bY P w) k f fd ["self","web"] (ap4 K C)/\dQ K fd ["self","web"] []/\mg "Keeper" = some (.ref C)
def bn3:aL:=fF (a9 (bJ (a9 (qC .non) (a9 (a5 1) (a9 (bJ aC) aC)))) aC)
theorem bn4 {P:ay}{w:ba}{K:ac}{mg:Str->Option av}{base:Heap}{k:Nat}{x qual:Str}{st:Stmt}{f C:ax}{fd:FuncData}{e:Expr}{p1 p2 p3 p4 p5 q1 q2:Pos}(kc:KC K C)(F:d8 K x qual st f fd)(S:FnScope ["self","web"] ["self","web"] (aT st))(eb:cY st = [.Assign [.Attribute (.Name "self" p1) "standing" p2] e q1,.Assign [.Attribute (.Name "self" p3) "undone" p4] (.List [] p5) q2])(he:∀(cdv:av) (A:az) (outer:List Env) (s:aw) (H:Hp) (E:XK),QE (cW (bY P w) P w K mg base ["self","web"] qual (aT st) f cdv A outer s H E) e bn3)(hv:∀(cdv:av) (A:az) (outer:List Env) (s:aw) (H:Hp) (E:XK),cK (cW (bY P w) P w K mg base ["self","web"] qual (aT st) f cdv A outer s H E).env.scope "self")(h1:∀(cdv:av) (A:az) (outer:List Env) (s:aw) (H:Hp) (E:XK),swapsWith e (some (.Attribute (.Name "self" p1) "standing" p2)) q1.line (cW (bY P w) P w K mg base ["self","web"] qual (aT st) f cdv A outer s H E).env=pure false)(h2:∀(cdv:av) (A:az) (outer:List Env) (s:aw) (H:Hp) (E:XK),swapsWith (.List [] p5) (some (.Attribute (.Name "self" p3) "undone" p4)) q2.line (cW (bY P w) P w K mg base ["self","web"] qual (aT st) f cdv A outer s H E).env=pure false) :
  bZ P w K mg base (bY P w) (k+1) f fd ["self","web"] (ap4 K C):=by
 refine F.okX S (λvs H Q E h=>?_) (λcdv A outer s H vs Q E hr h=>?_)
 ·obtain⟨x,dx,v,pv,rfl,_⟩:=h;rfl
 ·obtain⟨x,dx,v,pv,rfl,hx,hdx,⟨r,fl⟩,k⟩:=h
  rw[eb];refine⟨_,mI (wX (dI (i:=0) rfl (hv cdv A outer s H E)) (G3 (he cdv A outer s H E)) (h1 cdv A outer s H E)) (mJ (wX (dI (i:=0) rfl (hv cdv A outer s H E)) (G3 (t6 eS)) (h2 cdv A outer s H E))),?_⟩;have px:PX K H (λ_=>False) (L2.g9 ["self","web"] [.ref x,v]) (eI ["self","web"] [.ob x,pv]) H:=uC (.cons .ob (.cons r .nil));have sv:flat pv=true->(eI ["self","web"] [.ob x,pv])[1]? = some (some (.sh true pv)):=λz=>by
   show some (some (Slot.sh (flat pv) pv))=_;rw[z]
  refine⟨λ_=>False,_,λz g=>z = .lst [sQ pv]/\g = .fr,px,?_,?_⟩
  ·refine⟨_,sv fl,bB2 _,rfl,(by show 3<=1000;decide),?_,(by show 1<=1000;decide),?_,rfl,rfl⟩
   ·show (true&&(flat pv&&(true&&true)))=true
    rw[fl];rfl
   ·show (flat (.tup [.non,pv,.tup []])&&true)=true
    show ((true&&(flat pv&&(true&&true)))&&true)=true;rw[fl];rfl
  ·rintro u H1 z g s1 rz ⟨rfl,rfl⟩
   obtain⟨a,us,rfl,ma,ea,rs⟩:=rz.sqL
   have ma:H a=none:=ma;have xa:x≠a:=λz=>by rw[z,ma]at hx;cases hx
   have fs:flats [sQ pv]=true:=by
    show ((true&&(flat pv&&(true&&true)))&&true)=true;rw[fl];rfl
   refine⟨a,us,rfl,ea,_,rfl,x,C,dx,[],rfl,?_,kc.cls,kc.n1,(by show 0<1000;decide),bB2 _,λp hp=>⟨p,[],rfl,aY,_,rfl,x,C,dx,[("standing",.ref a)],rfl,?_,kc.cls,kc.n2,(by show 1<1000;decide),?_⟩⟩
   ·rw[aH xa];exact s1 _ _ hx
   ·rw[k9,aH (λz=>by rw[<- z,aY]at hp;cases hp)];exact aY
   ·have px':x≠p:=λz=>by rw[<- z,aY]at hp;cases hp
    have pa:a≠p:=λz=>by rw[<- z,aH (Ne.symm xa),aY]at hp;cases hp
    have hp1:H1 p=none:=by rw[aH (Ne.symm px'),aH (Ne.symm pa)]at hp;exact hp
    have hp0:H p=none:=s1.free hp1;rw[k9];have dxx:dx≠x:=λz=>by rw[z,hx]at hdx;cases hdx
    have at_:∀{b:ax},b≠x->b≠p->b≠a->upd (upd (upd (upd H1 a (kL a us)) x (.ins C dx (fC "standing" (.ref a) []))) p (kL p [])) x (.ins C dx (fC "undone" (.ref p) [("standing",.ref a)])) b=H1 b:=λ{b} n1 n2 n3=>by rw[aH n1,aH n2,aH n1,aH n3]
    refine k _ a p us (λb o e n=>?_) ma hp0 ⟨kc.ns,pa,?_,aY,?_,?_,?_,.nil⟩
    ·rw[at_ n (λz=>by rw[z,hp0]at e;cases e) (λz=>by rw[z,ma]at e;cases e)];exact s1 _ _ e
    ·rw[at_ dxx (λz=>by rw[z,hp0]at hdx;cases hdx) (λz=>by rw[z,ma]at hdx;cases hdx)];exact s1 _ _ hdx
    ·rw[aH (Ne.symm xa),aH pa,aH (Ne.symm xa),aY]
    ·rw[aH (Ne.symm px'),aY]
    ·refine (rs.flat (M':=λ_=>False) fs).keep ⟨λ_ _ z=>z.elim,λ_ _ z=>z.elim,λ_ _ z=>z.elim,λb _ e=>?_,λb _ _ e _=>?_⟩
     ·rw[at_ (λz=>by rw[z,s1 _ _ hx]at e;cases e) (λz=>by rw[z,hp1]at e;cases e) (λz=>by rw[z,ea]at e;cases e)];exact e
     ·rw[at_ (λz=>by rw[z,s1 _ _ hx]at e;cases e) (λz=>by rw[z,hp1]at e;cases e) (λz=>by rw[z,ea]at e;cases e)];exact e
theorem PX.setKp {K:ac}{H0:Hp}{W:ax->Prop}{σ:L2.St}{ρ:b8}{H:Hp}{i:Nat}{a:ax}{st un:List PV}(p:PX K H0 W σ ρ H)(r:dA K H0 H a st un):PX K H0 W (σ.set i (some (.ref a))) (ρ.set i (some (.kp true (.ob a) [(a,st,un)]))) H:=by
 refine⟨by rw[bE2,bE2];exact p.len,p.same,p.wm,λj m h=>?_,λj k y z b h1 h2 h3 h4=>?_⟩
 ·rcases eF h with⟨rfl,hl,e⟩|⟨hne,h⟩
  ·cases e
   rw[p.len]at hl
   exact⟨_,bC9 hl,⟨.ob,rfl⟩,λk hk=>by rw[by0.mp hk];exact r,bA5 _ _⟩
  ·obtain⟨u,e,q⟩:=p.sl j m h
   exact⟨u,by rw[bA1 (Ne.symm hne)];exact e,q⟩
 ·rcases eF h1 with⟨_,_,e⟩|⟨n1,h1⟩
  ·cases e
  ·rcases eF h2 with⟨_,_,e⟩|⟨n2,h2⟩
   ·cases e
   ·rw[bA1 (Ne.symm n1)]at h3
    rw[bA1 (Ne.symm n2)]at h4;exact p.dis j k y z b h1 h2 h3 h4
section
variable {X:Cx}{σ:L2.St}{H:Hp}{D:cB}{te:aL}{tr:c9}{e:Expr}{es:List Expr}{x y f:Str}{pos p2 p3 p4 cp:Pos}{i j:Nat}{p:fB}
def J8 (j:Nat)(te:aL):aV:=λD ρ=>te ρ λx _=>flat x=true/\∀a,D.nx (ρ.set j (some (.kp true (.ob a) [(a,[sQ x],[])])))
theorem ap5 (j:Nat){k n:Nat}(d:J7 X.prog X.w X.K X.mg X.base k)(hr:bL n X.A)(hN:X.N.Nodup)(he:QE X e te)(hkj:k+1<=n:=by decide)(hg:Gl X "Keeper":=by rfl)(hi:X.N[j]? = some y:=by rfl)(hx:gQ X.env.scope y:=by first|exact Or.inl rfl|exact Or.inr rfl)(hf:X.fn y=true∨X.env.scope.names.lookup y=some .local:=by first|exact .inl rfl|exact .inr rfl)(hst:starEach [e] X.env=(false,eval e X.env)::starEach [] X.env:=by rfl)(hpl:(backTo cp (starEach [] X.env)).any (·.1)=false:=by rfl)(hs:swapsWith (.Call (.Name "Keeper" p2) [e] [] cp) (some (.Name y p3)) pos.line X.env=pure false:=by rfl) :
  QS X (.Assign [.Name y p3] (.Call (.Name "Keeper" p2) [e] [] cp) pos) (J8 j te):=by
 obtain⟨C,f,fd,kc,M,F,b,m⟩:=d.ex
 refine dF (pZ hN hi hx (aD4 (E:=EX X.K X.H₀ λ_=>False) M F (hr.mono hkj) hg m b .nil dU (eC he eS hst) (by decide) hst hpl) hs hf) λD σ H h=>?_
 obtain⟨W,ρ,D',px,q,k⟩:=h
 refine⟨W,ρ,_,px,q,?_⟩;rintro v H1 pv g s r ⟨fl,q⟩;intro x dx nx ndx ne;have S1:aE H1 (upd (upd H1 dx (.own x)) x (.ins C dx [])):=λb o e=>by
  rw[aH (λz=>by rw[z,nx]at e;cases e),aH (λz=>by rw[z,ndx]at e;cases e)];exact e
 refine⟨x,dx,v,pv,rfl,aY,by rw[aH ne,aY],⟨(r.flat fl).same S1 λ_ z=>z,fl⟩,λH2 l1 l2 us1 kp n1 n2 kw=>⟨rfl,?_⟩⟩;have S2:aE H1 H2:=λb o e=>kp b o (S1 b o e) λz=>by rw[z,nx]at e;cases e
 have px2:=px.mono (s.trans S2);have h0:∀{b:ax},H1 b=none->X.H₀ b=none:=λ{b} e=>(px.same.trans s).free e
 exact k.nx W _ H2 _ (Ev.same (s.trans S2)) (px2.setKp ⟨C,dx,l1,l2,us1,[],kw.ns,⟨h0 nx,h0 ndx,h0 (S1.free n1),h0 (S1.free n2)⟩,kw.ne,kw.od,kw.oa,kw.o1,kw.o2,kw.r1,kw.r2⟩) (q x)
def ap6 (j i:Nat)(p:fB)(tr:c9):aV:=λD ρ=>∃a st un,ρ[i]? = some (some (.kp true (.ob a) [(a,st,un)]))/\gH ρ i/\j≠i/\tr ρ λxs=>flats (xs.map (·.1))=true/\p st un (λ_=>False) (xs.map (·.1)) λx st' un'=>D.nx ((ρ.set i (some (.kp true (.ob a) [(a,st',un')]))).set j (some (.sh true x)))
theorem bn5 (j i:Nat){k n:Nat}{ps:List Str}(d:G7 X.prog X.w X.K X.mg X.base k f ps p)(hr:bL n X.A)(hN:X.N.Nodup)(ha:QA X es tr)(hkj:k<=n:=by decide)(hg:Gl X f:=by rfl)(hdb:(f==("__debug__":Str))=false:=by decide)(hi:X.N[j]? = some y:=by rfl)(hx:gQ X.env.scope y:=by first|exact Or.inl rfl|exact Or.inr rfl)(hf:X.fn y=true∨X.env.scope.names.lookup y=some .local:=by first|exact .inl rfl|exact .inr rfl)(hi2:X.N[i]? = some x:=by rfl)(hv:cK X.env.scope x:=by first|exact Or.inl rfl|exact Or.inr (Or.inl rfl)|exact Or.inr (Or.inr rfl))(hd:(x==("__debug__":Str))=false:=by decide)(hcd:(x==("__classdict__":Str))=false:=by decide)(hst:starEach (.Name x p4::es) X.env=(false,eval (.Name x p4) X.env)::starEach es X.env:=by rfl)(hpl:(backTo cp (starEach es X.env)).any (·.1)=false:=by rfl)(hs:swapsWith (.Call (.Name f p2) (.Name x p4::es) [] cp) (some (.Name y p3)) pos.line X.env=pure false:=by rfl) :
  QS X (.Assign [.Name y p3] (.Call (.Name f p2) (.Name x p4::es) [] cp) pos) (ap6 j i p tr):=by
 obtain⟨fa,fd,F,b,kp,m⟩:=d.ex
 refine dF (pZ hN hi hx (t7 (E:=EX X.K X.H₀ λ_=>False) F (hr.mono hkj) hg m kp b .nil dU (eC (dI hi2 hv hd hcd) ha hst) hdb hst hpl) hs hf) λD σ H h=>?_
 obtain⟨W,ρ,D',px,⟨a,st,un,hk,nk,ij,q⟩,k⟩:=h
 obtain⟨ev,_⟩:=px.kp ⟨true,hk⟩
 refine⟨_,ev,W,ρ,_,px,q,λvs H1 xs s1 r q1=>?_⟩;have px1:=px.mono s1;show jJ X.K p (.ref a::(vs++[])) H1 _ _;rw[bA0];refine⟨a,vs,_,st,un,_,λ_=>False,rfl,(px1.kp ⟨true,hk⟩).2,⟨r.any.flat q1.1,q1.1⟩,q1.2,λv H' x st' un' ev' kp' rv fl q2=>?_,λn C H' s2 z1 z2=>z2.elim⟩
 obtain⟨px2,e2⟩:=px1.mut hk nk ev' kp'
 exact k.nx W _ H' _ ((Ev.same s1).trans e2) (px2.setSh (g:=true) (vP rv)) q2
end
end PP
namespace Core
open PySem L2 PP
def vY:cG:=λxs Q=>∃(ns:af) (t n:Int),xs = [.scr ns,.int t,.int n]/\ns.length<=63/\0<=t/\t<=100/\0<=n/\n<=40/\∀(ws:af) (ls:aa),WL n ws ls->ls.length<=200->Q (aZ ws ls)
theorem ap7 {a b n:Int}(a0:0<=a)(a1:a<n)(b0:0<=b)(b1:b<n)(ne:a≠b):0<=(mm a b).1/\(mm a b).1<(mm a b).2/\(mm a b).2<n:=by
 unfold mm;dsimp only;split<;>split<;>omega
section
variable {ns:af}{n c t:Int}{Q:PV→Prop}{E:lM}
theorem bn6 (n0:0<=n)(n1:n<13)(q:∀(ws:af) (ls:aa),WL n ws ls->ls.length<=200->E.rt (aZ ws ls)) :
  am4 E [some (.sh true (.scr ns)),si t,si n,some (.own (.lst [])),si c,none,none,none,none,none,none]:=by
 refine⟨by decide,rfl,rfl,rfl,?_⟩;refine⟨_,rfl,_,rfl,by omega,by omega,λk ρ=>∃(c:Int) (ws:af) (y6:Option Slot),ρ = [some (.sh true (.scr ns)),si t,si n,some (.own (.lst [])),si c,some (.own (.lst (intz ws))),y6,none,none,none,none]/\ws.length=k/\∀w∈ws,0<=w,⟨c,[],none,rfl,rfl,λ_ z=>nomatch z⟩,?_,?_⟩
 ·rintro k y ρ hy ⟨c,ws,y6,rfl,wl,wp⟩
  obtain⟨rfl,hk⟩:=nG hy
  refine kX ?_;refine⟨_,rfl,_,rfl,_,_,rfl,rfl,(by show (0:Int)<5;decide),trivial,by rw[bM];omega,_,rfl,_,_,rfl,rfl,⟨by decide,by decide⟩,trivial,?_⟩;refine⟨c/5,ws++[c%5],si (0+(k:Int)),?_,by rw[bx8,wl];rfl,λw hw=>(bB3.mp hw).elim (wp w) λz=>by rw[by0.mp z];exact bH8 _ (by decide)⟩;rw[dR];rfl
 rintro ρ ⟨c,ws,y6,rfl,wl,wp⟩;have lr:(gB 0 n.toNat).length=n.toNat:=by unfold gB;rw[bx7,bE4]
 have wl:ws.length=n.toNat:=wl.trans lr;refine⟨_,rfl,_,rfl,by omega,by omega,λk ρ=>∃(c:Int) (ls:aa) (y7 y8:Option Slot),ρ = [some (.sh true (.scr ns)),si t,si n,some (.own (.lst (bP ls))),si c,some (.own (.lst (intz ws))),y6,y7,y8,none,none]/\ls.length<=12*k/\m3 n ls k 0,⟨c,[],none,none,rfl,bB2 _,⟨(λ_ h=>nomatch h),.nil,(λ_ h=>nomatch h)⟩⟩,?_,?_⟩
 ·rintro k y ρ hy ⟨c,ls,y7,y8,rfl,hl,la⟩
  obtain⟨rfl,hk⟩:=nG hy
  refine kX ?_;refine⟨_,rfl,_,_,rfl,rfl,_,rfl,_,_,rfl,rfl,⟨by omega,by omega,by omega,by omega⟩,λj ρ=>∃(c:Int) (ls:aa) (y8:Option Slot),ρ = [some (.sh true (.scr ns)),si t,si n,some (.own (.lst (bP ls))),si c,some (.own (.lst (intz ws))),y6,si (0+(k:Int)),y8,none,none]/\ls.length<=12*k+j/\m3 n ls k (k+1+j),⟨c,ls,y8,rfl,hl,la.mono (.inr ⟨rfl,by omega⟩)⟩,?_,?_⟩
  ·rintro j y ρ hy ⟨c,ls,y8,rfl,hl,la⟩
   obtain⟨rfl,hj⟩:=nG hy
   refine kX ?_;refine⟨_,rfl,_,_,rfl,rfl,(by show (0:Int)<2;decide),.inl ⟨_,_,rfl,rfl,_,rfl,?_⟩⟩;show if decide (c%2=1)=true then _ else _
   cases decide (c%2=1) with
   |true=>
    refine aU ⟨_,rfl,_,rfl,_,rfl,dD,rfl,trivial,by rw[lZ];omega,_,rfl,_,_,rfl,rfl,⟨by decide,by decide⟩,trivial,?_⟩;refine⟨c/2,ls++[(0+(k:Int),0+(k:Int)+1+(j:Int))],si (0+(k:Int)+1+(j:Int)),?_,by rw[bx8,bB6];omega,?_⟩
    ·rw[rX];rfl
    ·have ad:=la.add (a:=(k:Int)) (b:=(k:Int)+1+(j:Int)) (by omega)
     rw[show (0:Int)+(k:Int)=(k:Int) by omega];exact ad.mono (.inr ⟨rfl,by omega⟩)
   |false=>
    exact aN ⟨_,rfl,_,_,rfl,rfl,⟨by decide,by decide⟩,trivial,_,ls,_,rfl,by omega,la.mono (.inr ⟨rfl,by omega⟩)⟩
  ·rintro ρ ⟨c,ls,y8,rfl,hl,la⟩
   have l2:(gB (0+(k:Int)+1) (n-(0+(k:Int)+1)).toNat).length=(n-(0+(k:Int)+1)).toNat:=by unfold gB;rw[bx7,bE4]
   refine⟨c,ls,_,y8,rfl,?_,la.mono (.inl (by omega))⟩;rw[l2]at hl;omega
 ·rintro ρ ⟨c,ls,y7,y8,rfl,hl,la⟩
  rw[lr]at hl;refine⟨_,rfl,⟨_,_,rfl,rfl,bV ws,_,rfl,⟨_,_,rfl,rfl,iV ls,dD,oY ws ls,trivial,?_⟩,λns z=>by cases z⟩,λns z=>by cases z⟩;exact q ws ls ⟨by omega,la.inn,by omega,la.ord,wp⟩ (by omega)
theorem ap8 (hn:ns.length<=63)(t0:0<=t)(t1:t<=100)(n0:0<=n)(n1:n<=40)(q:∀(ws:af) (ls:aa),WL n ws ls->ls.length<=200->E.rt (aZ ws ls)) :
  am5 E [some (.sh true (.scr ns)),si t,si n,some (.own (.lst [])),si c,none,none,none,none,none,none]:=by
 have lr:∀m:Int,(gB 0 m.toNat).length=m.toNat:=λm=>by unfold gB;rw[bx7,bE4]
 refine⟨_,rfl,_,rfl,by omega,by omega,by rw[lr];omega,λk acc=>∃ws:af,acc=intz ws/\ws.length=k/\∀w∈ws,0<=w,⟨[],rfl,rfl,λ_ z=>nomatch z⟩,?_,?_⟩
 ·rintro k y acc hy ⟨ws,rfl,wl,wp⟩
  obtain⟨rfl,hk⟩:=nG hy
  refine kX ?_;refine⟨_,rfl,_,rfl,_,rfl,_,_,rfl,rfl,ns,_,rfl,hn,by omega,by omega,λz=>⟨_,_,rfl,rfl,(by show (0:Int)<4;decide),trivial,ws++[z%4],?_,by rw[bx8,wl];rfl,λw hw=>(bB3.mp hw).elim (wp w) λz=>by rw[by0.mp z];exact bH8 _ (by decide)⟩⟩;rw[dR];rfl
 rintro acc ⟨ws,rfl,wl,wp⟩;have wl:ws.length=n.toNat:=wl.trans (lr n);refine⟨⟨_,_,rfl,rfl,bV ws,trivial,?_⟩,λns z=>by cases z⟩;refine⟨_,rfl,_,_,rfl,rfl,.inl ⟨by decide,by decide⟩,_,rfl,by omega,by omega,λk ρ=>∃(ls:aa) (y4 y7 y8 y9 y10:Option Slot),ρ = [some (.sh true (.scr ns)),si t,si n,some (.own (.lst (bP ls))),y4,some (.sh true (.tup (intz ws))),none,y7,y8,y9,y10]/\ls.length<=k/\ls.Nodup/\∀l∈ls,0<=l.1/\l.1<l.2/\l.2<n,⟨[],_,_,_,_,_,rfl,bB2 _,.nil,λ_ z=>nomatch z⟩,?_,?_⟩
 ·rintro k y ρ hy ⟨ls,y4,y7,y8,y9,y10,rfl,hl,nd,inn⟩
  obtain⟨rfl,hk⟩:=nG hy
  refine kX ?_;refine⟨_,rfl,_,rfl,_,rfl,_,_,rfl,rfl,_,rfl,_,_,rfl,rfl,ns,_,rfl,hn,by omega,by omega,λz=>⟨trivial,?_⟩⟩;have np:(0:Int)<n:=by omega
  have ns':n<1073741824:=by omega
  refine⟨_,rfl,_,rfl,_,_,rfl,rfl,np,trivial,?_⟩;refine⟨_,rfl,_,rfl,_,_,rfl,rfl,⟨np,ns'⟩,_,rfl,_,_,rfl,rfl,.inl ⟨by decide,by decide⟩,_,_,rfl,rfl,_,rfl,_,_,rfl,rfl,np,trivial,?_⟩;dsimp only;have a0:=bH8 z (show n≠0 by omega);have a1:=bJ1 z np;have b0:=bH8 (z/n+7*z) (show n≠0 by omega);have b1:=bJ1 (z/n+7*z) np;generalize z%n=a at a0 a1;generalize (z/n+7*z)%n=b at b0 b1;refine⟨_,rfl,_,rfl,_,_,rfl,_,rfl,_,rfl,_,_,rfl,dD,rfl,trivial,?_⟩;refine⟨_,rfl,_,rfl,.inl ⟨_,_,rfl,rfl,_,rfl,?_⟩⟩;show if (!decide (a=b))=true then _ else _
  cases hab:decide (a=b) with
  |true=>exact aN (aN ⟨ls,_,_,_,_,_,rfl,by omega,nd,inn⟩)
  |false=>
   have hab:=bF5 hab;refine aU ⟨_,rfl,_,rfl,two (mm a b),ls.map two,rfl,(by rw[<- nL];rfl),_,rfl,?_⟩;show if (!decide (two (mm a b)∈ls.map two))=true then _ else _
   cases hin:decide (two (mm a b)∈ls.map two) with
   |true=>exact aN ⟨ls,_,_,_,_,_,rfl,by omega,nd,inn⟩
   |false=>
    have hin:=bF5 hin;refine aU ⟨_,rfl,_,rfl,trivial,by rw[lZ];have:=lr (2*n);omega,ls++[mm a b],si z,si a,si b,si (0+(k:Int)),some (.sh true (.tup [.int (mm a b).1,.int (mm a b).2])),?_,by rw[bx8,bB6];omega,bG6.mpr ⟨nd,bA5 _ _,λx hx y hy e=>hin (bB8.mpr ⟨x,hx,by rw[e,by0.mp hy]⟩)⟩,λl hl=>(bB3.mp hl).elim (inn l) λz=>by rw[by0.mp z];exact ap7 a0 a1 b0 b1 hab⟩;rw[rX];rfl
 ·rintro ρ ⟨ls,y4,y7,y8,y9,y10,rfl,hl,nd,inn⟩
  have hl:ls.length<=(2*n).toNat:=bA9 hl (Nat.le_of_eq (lr _));refine⟨_,rfl,_,rfl,ls.map two,.inl ?_,by rw[bx7];omega,?_,λzs pm so=>?_⟩
  ·show [PV.lst (bP ls)] = [PV.lst ((ls.map two).map λr=>PV.tup (intz r))]
   rw[<- nL]
  ·intro y hy
   obtain⟨l,_,rfl⟩:=bB8.mp hy
   exact λz=>by cases z
  ·obtain⟨ls',rfl,pm2⟩:=af3 pm
   have e:sB (ls'.map two)=bP ls':=(nL ls').symm;rw[e]
   exact⟨⟨_,_,rfl,rfl,iV ls',dD,oY ws ls',trivial,q ws ls' (WL.perm (by omega) inn (by omega) nd wp pm2 so) (by rw[pm2.length_eq];omega)⟩,λns z=>by cases z⟩
end
abbrev bn7:aV:=am6
theorem bn8:e8 am6 ["script","at","many","links","cell","wants","hearth","one","other","k","pair"] vY:=by
 rintro xs Q ⟨ns,t,n,rfl,hn,t0,t1,n0,n1,q⟩;refine⟨by decide,rfl,rfl,rfl,?_⟩;refine⟨_,rfl,_,rfl,_,ns,t,rfl,.inl rfl,t0,_,_,rfl,rfl,⟨by decide,by decide⟩,trivial,?_⟩;refine⟨_,rfl,_,rfl,_,ns,t,rfl,.inl rfl,t0,_,_,rfl,rfl,(by show (0:Int)<2;decide),.inl ⟨_,_,rfl,rfl,_,rfl,?_⟩⟩;dsimp only;generalize ns.getD t.toNat 0=c;show if decide (c%2=1)=true then _ else _
 cases decide (c%2=1) with
 |false=>exact aN (aN (ap8 hn t0 t1 n0 n1 q))
 |true=>
  refine aU ⟨_,rfl,_,_,rfl,rfl,_,rfl,?_⟩;show if decide (n<13)=true then _ else _
  by_cases h:n<13
  ·rw[by9 h]
   exact aU (bn6 n0 h q)
  ·rw[by5 h]
   exact aN (ap8 hn t0 t1 n0 n1 q)
abbrev Fx:Str->Prop:=λ_=>False
abbrev sP (x:PV)(r:bR):PV:=.tup [x,aZ r.1 r.2.1,.tup (intz r.2.2)]
noncomputable def bQ (r:bR):af:=l0 (vC r.1 r.2.1 r.2.2)
def hJ (a b:af):af:=a.filter λz=>!decide (z∈b)
noncomputable def mC (r:bR)(B:af):PV:=.tup [.tup (intz (hJ (bQ r) B)),.tup (intz (hJ B (bQ r)))]
structure cU (r:bR):Prop where
 wl:WL (r.1.length:Int) r.1 r.2.1
 few:r.1.length<=40
 st:dB r.1.length r.2.2=true
theorem cU.wb {r:bR}(h:cU r):Wb r.1 r.2.1:=h.wl.wb (by have:=h.few;omega)
theorem pN {r:bR}(h:cU r):(bQ r).length<=40:=by
 unfold bQ;rw[bf0];exact bA9 (nJ h.st _) h.few
theorem ap9 {r:bR}{ms:af}{m:Nat}(en:cB r.1 r.2.1 r.2.2 m)(p:ms.Perm (b9 r.1 r.2.1 r.2.2 m))(so:ms.Pairwise (· <= ·)):ms=bQ r:=by
 rw[bf9 en]at p;exact E9 p so
theorem aq0 (l:List PV)(z:PV):L2.atI (l++[z]) (-1)=some z:=by
 unfold L2.atI;have e:kG (l++[z]).length (-1)=some l.length:=by
  unfold kG;simp;omega
 rw[e];simp
theorem J9 {x:PV}(h:flat x=true)(r:bR):flat (sP x r)=true:=by
 show (flat x&&(flat (aZ r.1 r.2.1)&&(flat (.tup (intz r.2.2))&&true)))=true;rw[h,kS,iB];rfl
theorem pO (r:bR)(B:af):flat (mC r B)=true:=by
 show (flat (.tup (intz _))&&(flat (.tup (intz _))&&true))=true;rw[iB,iB];rfl
def mD (st:List PV)(r:bR):Prop:=∃pre x,st=pre++[sP x r]
abbrev sR (t:(Str->Prop)->aV)(N:List Str)(p:iF):Prop:=∀a st un Ep xs Q,p st un Ep xs Q->t Ep { nx:=λ_=>Q .non,rt:=Q } (m9 N a st un xs)
abbrev vZ (t:(Str->Prop)->iY)(N:List Str)(p:fB):Prop:=∀a st un Ep xs Q,p st un Ep xs Q->flats xs=true->t Ep { ad:=a,nx:=λ_=>False,rt:=Q } (m9 N a st un xs)
def jZ:iF:=λst _ _ xs Q=>∃r,xs = []/\mD st r/\Q (aZ r.1 r.2.1)
def aq1 (_:Str->Prop):aV:=bC (b6 (vQ 0 (oI (qC (.int 1)))) (qC (.int 1)))
theorem bn9:sR aq1 ["self"] jZ:=by
 rintro a st un Ep xs Q ⟨r,rfl,⟨pre,x,rfl⟩,q⟩
 exact⟨a,_,un,⟨false,rfl⟩,1,rfl,_,_,rfl,aq0 _ _,_,_,_,rfl,rfl,rfl,trivial,q⟩
def lB:iF:=λst _ _ xs Q=>∃r,xs = []/\mD st r/\Q (.tup (intz r.2.2))
def aq2 (_:Str->Prop):aV:=bC (b6 (vQ 0 (oI (qC (.int 1)))) (qC (.int 2)))
theorem bo0:sR aq2 ["self"] lB:=by
 rintro a st un Ep xs Q ⟨r,rfl,⟨pre,x,rfl⟩,q⟩
 exact⟨a,_,un,⟨false,rfl⟩,1,rfl,_,_,rfl,aq0 _ _,_,_,_,rfl,rfl,rfl,trivial,q⟩
def gP:iF:=λst _ _ xs Q=>∃r,xs = []/\mD st r/\cU r/\Q (.tup (intz (bQ r)))
def aq3 (_:Str->Prop):aV:=bC (aM (vB Fx) (a9 (dS Fx 0 jZ aC) (a9 (dS Fx 0 lB aC) aC)))
theorem bo1:sR aq3 ["self"] gP:=by
 rintro a st un Ep xs Q ⟨r,rfl,ls,ok,q⟩
 have:=nI ok.st
 have:=ok.few
 exact⟨a,st,un,⟨false,rfl⟩,r,rfl,ls,a,st,un,⟨false,rfl⟩,r,rfl,ls,_,_,_,_,rfl,ok.wb,.inl rfl,by omega,λ_ ms m en p so=>⟨trivial,by rw[ap9 en p so];exact q⟩,λe=>by rw[ok.st]at e;cases e⟩
def lC:iF:=λst _ _ xs Q=>∃r B,xs = [.tup (intz B)]/\mD st r/\cU r/\B.length<=40/\Q (mC r B)
def aq4 (_:Str->Prop):aV:=(aJ (bE 2 (dS Fx 0 gP aC))
 (bC (bJ (a9 (aM nM (a9 (a5 2) (a9 (a5 1) aC))) (a9 (aM nM (a9 (a5 1) (a9 (a5 2) aC))) aC)))))
theorem bo2:sR aq4 ["self","before","now"] lC:=by
 rintro a st un Ep xs Q ⟨r,B,rfl,ls,ok,bl,q⟩
 have:=pN ok
 refine⟨a,st,un,⟨false,rfl⟩,r,rfl,ls,ok,trivial,?_⟩;refine⟨_,rfl,_,rfl,_,_,_,_,rfl,.inl rfl,.inl rfl,by omega,by omega,_,rfl,_,rfl,_,_,_,_,rfl,.inl rfl,.inl rfl,by omega,by omega,dD,?_,trivial,q⟩;show (flat (.tup (intz _))&&(flat (.tup (intz _))&&true))=true;rw[iB,iB];rfl
theorem cU.done {r r':bR}{d:gF}(ok:cU r)(few:r.2.1.length<1700)(bd:bO r.1 r.2.1 r.2.2 d=false)(h:e9 r.1 r.2.1 r.2.2 d r'):cU r'/\r'.1.length=r.1.length/\r'.2.1.length<=r.2.1.length+1:=by
 obtain⟨k1,k2,k3⟩:=h.keeps ok.st bd
 refine⟨⟨?_,by rw[k1];exact ok.few,k3⟩,k1,k2⟩;cases d with
 |light i=>
  have h:r'=_:=h;subst h;exact ok.wl
 |douse i=>
  have h:r'=_:=h;subst h;exact ok.wl
 |want i j=>
  have h:r'=_:=h;subst h;unfold bO at bd;simp only[Bool.or_eq_false_iff,bC5]at bd;refine⟨rfl,λl hl=>?_,ok.wl.most,ok.wl.ord,λw hw=>?_⟩
  ·have:=ok.wl.inn l hl
   rw[show (((r.1.take i.toNat++[j]++r.1.drop (i.toNat+1),r.2.1,r.2.2):bR).1.length:Int)=r.1.length from congrArg Nat.cast k1];exact this
  ·have hw:w∈r.1.take i.toNat++[j]++r.1.drop (i.toNat+1):=hw
   rcases bB3.mp hw with hw|hw
   ·rcases bB3.mp hw with hw|hw
    ·exact ok.wl.pos w (bM7 hw)
    ·rw[by0.mp hw];omega
   ·exact ok.wl.pos w (List.mem_of_mem_drop hw)
 |link i j=>
  obtain⟨l1,rfl,h⟩:=h
  unfold bO at bd;simp only[Bool.or_eq_false_iff,bC5,Bool.not_eq_false']at bd
  obtain⟨b1,b2,b3,b4⟩:=bd
  unfold inB at b1 b2;simp only[bB4,bz5]at b1 b2;have nd:r.2.1.Nodup:=ok.wl.ord.imp λ{x y} z e=>by unfold kU at z;rw[e]at z;omega
  refine WL.perm (ls:=r.2.1++[mm i j]) rfl (λl hl=>?_) ?_ ?_ ok.wl.pos h.1 h.2
  ·rcases bB3.mp hl with z|z
   ·exact ok.wl.inn l z
   ·rw[by0.mp z];exact ap7 b1.1 b1.2 b2.1 b2.2 b3
  ·rw[bx8,bB6];omega
  ·exact bG6.mpr ⟨nd,bA5 _ _,λx hx y hy e=>b4 (by rw[<- by0.mp hy,<- e];exact hx)⟩
 |cut i j=>
  have h:r'=_:=h;subst h
  exact⟨rfl,λl hl=>ok.wl.inn l (bH6.mp hl).1,bA9 (bG2 _ _) ok.wl.most,ok.wl.ord.sublist List.filter_sublist,ok.wl.pos⟩
def nR:fB:=λst un Ep xs Q=>∃r d,xs = [dP d]/\mD st r/\cU r/\r.2.1.length<1700/\st.length<1000000/\(bO r.1 r.2.1 r.2.2 d=true->Ep "BadDeed")/\(bO r.1 r.2.1 r.2.2 d=false->∀r',e9 r.1 r.2.1 r.2.2 d r'->cU r'->r'.1.length=r.1.length->r'.2.1.length<=r.2.1.length+1->Q (mC r' (bQ r)) (st++[sP (tP d) r']) [])
def aq5 (Ep:Str->Prop):iY:=mB (bE 2 (jX Ep pF (a9 (dS Fx 0 jZ aC) (a9 (dS Fx 0 lB aC) (a9 (a5 1) aC)))))
 (mB (bE 3 (dS Fx 0 gP aC))
 (sN 0 (pL (G9 0 (bJ (a9 (aM pE (a9 (a5 1) aC)) (a9 (b6 (a5 2) (qC (.int 0))) (a9 (b6 (a5 2) (qC (.int 1))) aC)))))
 (pL (J0 0)
 (sM 0 (dS Fx 0 lC (a9 (a5 3) aC)))))))
theorem aq6 {m:Option Slot}{g1 g2 g3:Bool}{x1 x2 x3:PV}:gH [m,some (.sh g1 x1),some (.sh g2 x2),some (.sh g3 x3)] 0:=λj g x ks n z=>by
 match j,z with
 |0,_=>exact n rfl
 |1,z=>cases z
 |2,z=>cases z
 |3,z=>cases z
 |j+4,z=>cases z
theorem aq7 {m:Option Slot}{g1:Bool}{x1:PV}:gH [m,some (.sh g1 x1)] 0:=λj g x ks n z=>by
 match j,z with
 |0,_=>exact n rfl
 |1,z=>cases z
 |j+2,z=>cases z
theorem bo3:vZ aq5 ["self","deed","behind","before"] nR:=by
 rintro a st un Ep xs Q ⟨r,d,rfl,ls,ok,few,sl,qe,q⟩ fl;have sn:=nI ok.st;have wf:=ok.few;refine⟨a,st,un,⟨false,rfl⟩,r,rfl,ls,a,st,un,⟨false,rfl⟩,r,rfl,ls,_,rfl,_,_,_,_,d,rfl,.inl rfl,by omega,by omega,by have:=ok.wl.most;omega,λe=>(by rw[ok.st]at e;cases e),λ_=>⟨qe,λbd r' dn=>⟨trivial,?_⟩⟩⟩
 obtain⟨ok',k1,k2⟩:=ok.done few bd dn
 have q:=q bd r' dn ok' k1 k2;refine⟨a,st,un,⟨false,rfl⟩,r,rfl,ls,ok,trivial,st,un,rfl,aq6,?_⟩;refine⟨_,rfl,d,rfl,_,rfl,_,_,_,rfl,rfl,rfl,_,rfl,_,_,_,rfl,rfl,rfl,vE,?_,J9 (pD d) r',st,un,rfl,by omega,?_⟩
 ·show flats [tP d,aZ r'.1 r'.2.1,.tup (intz r'.2.2)]=true
  show (flat (tP d)&&(flat (aZ r'.1 r'.2.1)&&(flat (.tup (intz r'.2.2))&&true)))=true;rw[pD,kS,iB];rfl
 refine⟨_,_,rfl,?_⟩
 have:=pN ok
 exact⟨a,_,_,⟨true,rfl⟩,_,rfl,r',bQ r,rfl,⟨st,_,rfl⟩,ok',by omega,pO _ _,_,_,rfl,q⟩
def sS:fB:=λst un Ep xs Q=>xs = []/\un.length<1000000/\((∃y,st = [y]/\Ep "NoSuch")∨∃pre x' r' x r,st=pre++[sP x' r']++[sP x r]/\cU r'/\cU r/\Q (mC r' (bQ r)) (pre++[sP x' r']) (un++[sP x r]))
def aq8 (Ep:Str->Prop):iY:=mB (bF (aO (jR (an2 0) (qC (.int 2)))) (iX Ep "NoSuch" (a9 (qC (.str "no deed stands")) aC)) bI)
 (mB (bE 1 (dS Fx 0 gP aC))
 (sN 0 (pL (J1 0)
 (sM 0 (dS Fx 0 lC (a9 (a5 1) aC))))))
theorem bo4:vZ aq8 ["self","before"] sS:=by
 rintro a st un Ep xs Q ⟨rfl,ul,h⟩ fl;rcases h with⟨y,rfl,qe⟩|⟨pre,x',r',x,r,rfl,ok',ok,q⟩
 ·exact⟨a,_,un,⟨false,rfl⟩,_,_,rfl,rfl,_,rfl,aU ⟨jI,qe⟩⟩
 ·refine⟨a,_,un,⟨false,rfl⟩,_,_,rfl,rfl,_,rfl,?_⟩
  rw[by5 (by rw[bx8,bx8,bB6,bB6];omega)];refine aN ?_;refine⟨a,_,un,⟨false,rfl⟩,r,rfl,⟨_,_,rfl⟩,ok,trivial,_,un,rfl,aq7,?_⟩;refine⟨_,_,_,rfl,by omega,?_⟩
  have:=pN ok
  exact⟨a,_,_,⟨true,rfl⟩,_,rfl,r',bQ r,rfl,⟨pre,x',rfl⟩,ok',by omega,pO _ _,_,_,rfl,q⟩
def sT:fB:=λst un Ep xs Q=>xs = []/\st.length<1000000/\((un = []/\Ep "NoSuch")∨∃un' x' r' r,un=un'++[sP x' r']/\mD st r/\cU r'/\cU r/\Q (mC r' (bQ r)) (st++[sP x' r']) un')
def aq9 (Ep:Str->Prop):iY:=mB (bF (lK (an3 0)) (iX Ep "NoSuch" (a9 (qC (.str "no deed was taken back")) aC)) bI)
 (mB (bE 1 (dS Fx 0 gP aC))
 (sN 0 (pL (J2 0)
 (sM 0 (dS Fx 0 lC (a9 (a5 1) aC))))))
theorem bo5:vZ aq9 ["self","before"] sT:=by
 rintro a st un Ep xs Q ⟨rfl,sl,h⟩ fl;rcases h with⟨rfl,qe⟩|⟨un',x',r',r,rfl,ls,ok',ok,q⟩
 ·exact⟨a,st,[],⟨false,rfl⟩,aU ⟨jI,qe⟩⟩
 ·refine⟨a,st,_,⟨false,rfl⟩,?_⟩
  have e:(un'++[sP x' r']).isEmpty=false:=by cases un'<;>rfl
  rw[e];refine aN ?_;refine⟨a,st,_,⟨false,rfl⟩,r,rfl,ls,ok,trivial,st,_,rfl,aq7,?_⟩;refine⟨_,_,_,rfl,by omega,?_⟩
  have:=pN ok
  exact⟨a,_,_,⟨true,rfl⟩,_,rfl,r',bQ r,rfl,⟨st,x',rfl⟩,ok',by omega,pO _ _,_,_,rfl,q⟩
end Core
namespace PP
open PySem L2 PyProof.Rows
section
variable {X:Cx}{C:ax}{x:Str}{pos p2 p3 p4 p5 ah ai ap2 cp2:Pos}
theorem bo6 (kc:KC X.K C)(i:Nat)(hN:X.N[i]? = some x:=by rfl)(hv:cK X.env.scope x:=by first|exact Or.inl rfl|exact Or.inr (Or.inl rfl)|exact Or.inr (Or.inr rfl))(hd:(x==("__debug__":Str))=false:=by decide)(hcd:(x==("__classdict__":Str))=false:=by decide)(hbs:attributeBase (.Name x p2) "undone" X.env (eval (.Name x p2) X.env)=eval (.Name x p2) X.env:=by rfl)(hbg:attributeBase (.Name x p4) "standing" X.env (eval (.Name x p4) X.env)=eval (.Name x p4) X.env:=by rfl)(hbase:attributeBase (.Attribute (.Name x p2) "undone" p3) "append" X.env (eval (.Attribute (.Name x p2) "undone" p3) X.env)=eval (.Attribute (.Name x p2) "undone" p3) X.env:=by rfl)(hbase2:attributeBase (.Attribute (.Name x p4) "standing" p5) "pop" X.env (eval (.Attribute (.Name x p4) "standing" p5) X.env)=eval (.Attribute (.Name x p4) "standing" p5) X.env:=by rfl)(hfew:((backTo ai (starEach [.Call (.Attribute (.Attribute (.Name x p4) "standing" p5) "pop" ap2) [] [] cp2] X.env)).all (λx=>!x.1)&&(backToKw ai (keywordEach [] X.env)).all (λx=>x.1.isSome)&&decide (([.Call (.Attribute (.Attribute (.Name x p4) "standing" p5) "pop" ap2) [] [] cp2]:List Expr).length+([]:List Keyword).length+(if ([]:List Keyword).isEmpty then 0 else 1)<30))=true:=by rfl)(hline:(ah.endLine==ai.line)=true:=by rfl)(hline2:(ap2.endLine==cp2.line)=true:=by rfl)(hs:starEach [.Call (.Attribute (.Attribute (.Name x p4) "standing" p5) "pop" ap2) [] [] cp2] X.env=(false,eval (.Call (.Attribute (.Attribute (.Name x p4) "standing" p5) "pop" ap2) [] [] cp2) X.env)::starEach [] X.env:=by rfl)(aq:(backTo ai (starEach [] X.env)).any (·.1)=false:=by rfl)(hsw:swapsWith (.Call (.Attribute (.Attribute (.Name x p2) "undone" p3) "append" ah) [.Call (.Attribute (.Attribute (.Name x p4) "standing" p5) "pop" ap2) [] [] cp2] [] ai) none pos.line X.env=pure false:=by rfl) :
  QK X i (.Expr (.Call (.Attribute (.Attribute (.Name x p2) "undone" p3) "append" ah) [.Call (.Attribute (.Attribute (.Name x p4) "standing" p5) "pop" ap2) [] [] cp2] [] ai) pos) (J1 i):=
 dF (ao5 i hN hv hd hcd hbs hbg hbase hbase2 hfew hline hline2 hs aq hsw) λ_ _ _=>bm0 kc
theorem bo7 (kc:KC X.K C)(i:Nat)(hN:X.N[i]? = some x:=by rfl)(hv:cK X.env.scope x:=by first|exact Or.inl rfl|exact Or.inr (Or.inl rfl)|exact Or.inr (Or.inr rfl))(hd:(x==("__debug__":Str))=false:=by decide)(hcd:(x==("__classdict__":Str))=false:=by decide)(hbs:attributeBase (.Name x p2) "standing" X.env (eval (.Name x p2) X.env)=eval (.Name x p2) X.env:=by rfl)(hbg:attributeBase (.Name x p4) "undone" X.env (eval (.Name x p4) X.env)=eval (.Name x p4) X.env:=by rfl)(hbase:attributeBase (.Attribute (.Name x p2) "standing" p3) "append" X.env (eval (.Attribute (.Name x p2) "standing" p3) X.env)=eval (.Attribute (.Name x p2) "standing" p3) X.env:=by rfl)(hbase2:attributeBase (.Attribute (.Name x p4) "undone" p5) "pop" X.env (eval (.Attribute (.Name x p4) "undone" p5) X.env)=eval (.Attribute (.Name x p4) "undone" p5) X.env:=by rfl)(hfew:((backTo ai (starEach [.Call (.Attribute (.Attribute (.Name x p4) "undone" p5) "pop" ap2) [] [] cp2] X.env)).all (λx=>!x.1)&&(backToKw ai (keywordEach [] X.env)).all (λx=>x.1.isSome)&&decide (([.Call (.Attribute (.Attribute (.Name x p4) "undone" p5) "pop" ap2) [] [] cp2]:List Expr).length+([]:List Keyword).length+(if ([]:List Keyword).isEmpty then 0 else 1)<30))=true:=by rfl)(hline:(ah.endLine==ai.line)=true:=by rfl)(hline2:(ap2.endLine==cp2.line)=true:=by rfl)(hs:starEach [.Call (.Attribute (.Attribute (.Name x p4) "undone" p5) "pop" ap2) [] [] cp2] X.env=(false,eval (.Call (.Attribute (.Attribute (.Name x p4) "undone" p5) "pop" ap2) [] [] cp2) X.env)::starEach [] X.env:=by rfl)(aq:(backTo ai (starEach [] X.env)).any (·.1)=false:=by rfl)(hsw:swapsWith (.Call (.Attribute (.Attribute (.Name x p2) "standing" p3) "append" ah) [.Call (.Attribute (.Attribute (.Name x p4) "undone" p5) "pop" ap2) [] [] cp2] [] ai) none pos.line X.env=pure false:=by rfl) :
  QK X i (.Expr (.Call (.Attribute (.Attribute (.Name x p2) "standing" p3) "append" ah) [.Call (.Attribute (.Attribute (.Name x p4) "undone" p5) "pop" ap2) [] [] cp2] [] ai) pos) (J2 i):=
 dF (ao5 i hN hv hd hcd hbs hbg hbase hbase2 hfew hline hline2 hs aq hsw) λ_ _ _=>bm1 kc
end
end PP
namespace Core
open PySem L2 PP
def NK (y:Option Slot):Prop:=∀g x ks,y≠some (.kp g x ks)
theorem eO {g:Bool}{x:PV}:NK (some (.sh g x)):=λ_ _ _ z=>by cases z
theorem nS:NK none:=λ_ _ _ z=>by cases z
def w4:cG:=λxs Q=>∃ws ls h,xs = [aZ ws ls,.int h]/\ls.length<=1700/\Q (.lst (intz (bT ls h)))
def ar0:aV:=(aJ (i7 2 (fF aC))
 (aJ (fG (eG (b6 (a5 0) (qC (.int 1)))) (lP 3 4)
  (aJ (bF (aO (fR (a5 3) (a5 1))) (iN 2 (a5 4)) bI)
  (bF (aO (fR (a5 4) (a5 1))) (iN 2 (a5 3)) bI)))
 (lN 2)))
theorem bo8:e8 ar0 ["web","hearth","found","one","other"] w4:=by
 rintro xs Q ⟨ws,ls,h,rfl,ll,q⟩;refine⟨by decide,rfl,rfl,rfl,?_⟩;refine⟨_,rfl,_,_,_,rfl,rfl,rfl,_,rfl,(λ_=>?_),λk ρ=>∃y3 y4,ρ = [some (.sh (flat (aZ ws ls)) (aZ ws ls)),si h,some (.own (.lst (intz (bT (ls.take k) h)))),y3,y4],⟨none,none,rfl⟩,?_,?_⟩
 ·exact iV ls
 ·rintro k y ρ hy ⟨y3,y4,rfl⟩
  rw[bz1]at hy;cases e:ls[k]? with
  |none=>rw[e]at hy;cases hy
  |some l=>
   rw[e]at hy;cases hy;have kl:=(by4.mp e).1;have nl:(bT (ls.take k) h).length<=2*1700:=bA9 (qT _ _) (by rw[bB5];omega);refine bh4 ?_;have tail:∀A:af,A.length<=2*1700+1->bT (ls.take (k+1)) h=A++(if l.2=h then [l.1] else [])->(bF (aO (fR (a5 4) (a5 1))) (iN 2 (a5 3)) bI) { nx:=λρ=>∃y3 y4,ρ = [some (.sh (flat (aZ ws ls)) (aZ ws ls)),si h,some (.own (.lst (intz (bT (ls.take (k+1)) h)))),y3,y4],rt:=Q,bk:=λρ=>False,ct:=λρ=>∃y3 y4,ρ = [some (.sh (flat (aZ ws ls)) (aZ ws ls)),si h,some (.own (.lst (intz (bT (ls.take (k+1)) h)))),y3,y4] } [some (.sh (flat (aZ ws ls)) (aZ ws ls)),si h,some (.own (.lst (intz A))),si l.1,si l.2]:=λA al eA=>by
    refine⟨_,rfl,_,rfl,.inl ⟨_,_,rfl,rfl,_,rfl,?_⟩⟩;show if decide (l.2=h)=true then _ else _
    by_cases z:l.2=h
    ·rw[by9 z]
     refine aU ⟨_,rfl,_,rfl,trivial,by rw[bM];omega,si l.1,si l.2,?_⟩;rw[eA,if_pos z,dR];rfl
    ·rw[by5 z]
     refine aN ⟨si l.1,si l.2,?_⟩;rw[eA,if_neg z,bA0]
   refine⟨_,rfl,_,rfl,.inl ⟨_,_,rfl,rfl,_,rfl,?_⟩⟩;show if decide (l.1=h)=true then _ else _
   by_cases z:l.1=h
   ·rw[by9 z]
    refine aU ⟨_,rfl,_,rfl,trivial,by rw[bM];omega,?_⟩
    have:=tail (bT (ls.take k) h++[l.2]) (by rw[bx8,bB6];omega) (by rw[yC e,if_pos z,bA2])
    rw[dR]at this;exact this
   ·rw[by5 z]
    refine aN ?_;exact tail _ (by omega) (by rw[yC e,if_neg z];rfl)
 ·rintro ρ ⟨y3,y4,rfl⟩
  rw[bx7,bA4]
  exact⟨_,rfl,trivial,q⟩
def w5:cG:=λxs Q=>∃ws ls ns,xs = [aZ ws ls,.tup (intz ns)]/\Wb ws ls/\dB ws.length ns=true/\∀m,cB ws ls ns m->Q (.lst (tups (ns::after ws ls ns m)))
def ar1:aV:=(aJ (bE 7 (aM i8 (a9 (gL (eG (aM w4 (a9 (a5 0) (a9 (a5 6) aC)))) [none,some 2] (cH 0) (aO (q2 (iO false) (a5 0) (a5 1))) (a5 0)) aC)))
   (bF (qW (aO (q2 (iO true) (a5 6) (a5 2))) (aO (rC (a5 7) (b6 (b6 (a5 0) (qC (.int 0))) (a5 6))))) (iN 5 (a5 6)) bI))
def ar2:aV:=(aJ (i7 5 (fF aC))
  (aJ (fG (lO (aM i8 (a9 (b6 (a5 0) (qC (.int 0))) aC))) (cH 6) ar1)
  (aJ (bE 4 (rB (aM i8 (a9 (a5 5) aC)) (qC (.int 0))))
  (aJ (bF (aO (a5 4)) (iN 3 (aM dG (a9 (a5 5) aC))) bI)
  (bE 2 (v3 (a5 2) (a5 5)))))))
def ar3:aV:=(aJ (bE 2 (aM qX (a9 (a5 1) aC)))
 (aJ (i7 3 (fF (a9 (aM dG (a9 (a5 1) aC)) aC)))
 (aJ (bE 4 (qC (.bl true)))
 (aJ (tZ (aO (a5 4)) ar2)
 (lN 3)))))
section
variable {ws:af}{ls:aa}{ns S:af}{T:List PV}{y4 y5 y6 y7:Option Slot}{E:lM}
abbrev mE (ws:af)(ls:aa)(ns S:af)(T:List PV)(y4 y5 y6 y7:Option Slot):b8:=[some (.sh (flat (aZ ws ls)) (aZ ws ls)),some (.sh (flat (.tup (intz ns))) (.tup (intz ns))),some (.sh true (.lst (intz S))),some (.own (.lst T)),y4,y5,y6,y7]
theorem bo9 {k:Nat}{A:af}(kl:k<ws.length)(al:A.length≤40)(ll:ls.length≤1700)(q:∀y7, E.nx (mE ws ls ns S T y4 (some (.own (.lst (intz (A++if kin ws ls S k = true then [(k:Int)] else []))))) (si (k:Int)) y7)) :
    ar1 E (mE ws ls ns S T y4 (some (.own (.lst (intz A)))) (si (k:Int)) y7) := by
  have nl:(bT ls (k:Int)).length≤2*1700 := bA9 (qT _ _) (by omega);refine⟨_, rfl, _, rfl, ws, ls, (k:Int), rfl, ll, _, rfl, (λz => by cases z), by rw[bM];omega, λi acc => acc = intz (((bT ls (k:Int)).take i).filter λx => decide (x∈S)), rfl, ?_, ?_⟩
  · rintro i y acc hy rfl
    rw[bz1]at hy;cases e:(bT ls (k:Int))[i]? with
    |none => rw[e]at hy;cases hy
    |some x =>
      rw[e]at hy;cases hy;refine kX ?_;refine⟨_, rfl, _, rfl, x, S, rfl, rfl, _, rfl, ?_⟩;show if decide (x∈S) = true then _ else _
      by_cases z:x∈S
      · rw[by9 z]
        refine aU ⟨_, rfl, trivial, ?_⟩;show intz (((bT ls (k:Int)).take i).filter λx => decide (x∈S))++[PV.int x] = intz (((bT ls (k:Int)).take (i+1)).filter λx => decide (x∈S));rw[jF e, by9 z, if_pos rfl, dR];rfl
      · rw[by5 z]
        refine aN ?_;show intz (((bT ls (k:Int)).take i).filter λx => decide (x∈S)) = intz (((bT ls (k:Int)).take (i+1)).filter λx => decide (x∈S));rw[jF e, by5 z, if_neg (by decide), bA0]
  · rintro acc rfl
    rw[bM, bA4];refine⟨_, _, rfl, rfl, trivial, ?_⟩;refine⟨_, rfl, _, rfl, (k:Int), S, rfl, rfl, _, rfl, ?_⟩;rw[bM];have hk:kin ws ls S (k:Int) = (!decide ((k:Int)∈S)&&decide (ws.getD ((k:Int)).toNat 0≤(((bT ls (k:Int)).filter λx => decide (x∈S)).length:Int))) := rfl;show if (!decide ((k:Int)∈S)) = true then _ else _
    cases e:(!decide ((k:Int)∈S)) with
    |false =>
      rw[e, Bool.false_and]at hk;have q := q (si (((bT ls (k:Int)).filter λx => decide (x∈S)).length:Int));rw[hk, if_neg (by decide), bA0]at q;exact aN (aN q)
    |true =>
      rw[e, Bool.true_and]at hk;refine aU ⟨_, rfl, _, rfl, _, _, _, rfl, rfl, rfl, _, rfl, _, _, _, rfl, rfl, oX (by omega) (by omega), _, _, rfl, rfl, _, rfl, ?_⟩;have q := q (si (((bT ls (k:Int)).filter λx => decide (x∈S)).length:Int));rw[hk]at q;show if decide (ws.getD ((k:Int)).toNat 0≤(((bT ls (k:Int)).filter λx => decide (x∈S)).length:Int)) = true then _ else _
      cases e2:decide (ws.getD ((k:Int)).toNat 0≤(((bT ls (k:Int)).filter λx => decide (x∈S)).length:Int)) with
      |false =>
        rw[e2, if_neg (by decide), bA0]at q;exact aN q
      |true =>
        rw[e2, if_pos rfl, dR]at q;exact aU ⟨_, rfl, _, rfl, trivial, by rw[bM];omega, q⟩
theorem bp0 (wb:Wb ws ls)(tl:T.length≤60)(sl:S.length≤40)(q0:nextOf ws ls S = []→∀y6 y7, E.nx (mE ws ls ns S T (some (.sh true (.bl false))) (some (.own (.lst []))) y6 y7))(q1:nextOf ws ls S≠[]→∀y6 y7, E.nx (mE ws ls ns (S++nextOf ws ls S) (T++[.tup (intz (nextOf ws ls S))]) (some (.sh true (.bl true))) (some (.own (.lst (intz (nextOf ws ls S))))) y6 y7)) :
    ar2 E (mE ws ls ns S T y4 y5 y6 y7) := by
  have few := wb.few;refine⟨by decide, rfl, rfl, rfl, ?_⟩;refine⟨_, rfl, _, _, _, rfl, rfl, rfl, _, _, rfl, rfl, _, rfl, by rw[bM];omega, by rw[bM];omega, λk ρ => ∃y6 y7, ρ = mE ws ls ns S T y4 (some (.own (.lst (intz (((rng ws.length).take k).filter (kin ws ls S)))))) y6 y7, ⟨y6, y7, rfl⟩, ?_, ?_⟩
  · rintro k y ρ hy ⟨y6, y7, rfl⟩
    obtain⟨rfl, hk⟩ := nG hy
    have kl:k<ws.length := by rw[bM]at hk;omega
    refine kX ?_;rw[show (0:Int)+(k:Int) = (k:Int) by omega];have e:(rng ws.length)[k]? = some (k:Int) := by
      unfold rng;rw[bz1, List.getElem?_range kl];rfl
    have al:(((rng ws.length).take k).filter (kin ws ls S)).length≤40 := by
      have h1 := bG2 (kin ws ls S) ((rng ws.length).take k);rw[bB5]at h1;omega
    refine bo9 kl al wb.most λy7 => ⟨si (k:Int), y7, ?_⟩
    rw[jF e]
  · rintro ρ ⟨y6, y7, rfl⟩
    have lr:(gB 0 ((intz ws).length:Int).toNat).length = (rng ws.length).length := by
      rw[mV, bM];unfold rng;rw[bx7, bE4];rfl
    rw[lr, bA4];have en:(rng ws.length).filter (kin ws ls S) = nextOf ws ls S := rfl;rw[en];have nl:(nextOf ws ls S).length≤40 := by
      rw[← en];have h1 := bG2 (kin ws ls S) (rng ws.length);have h2:(rng ws.length).length = ws.length := by unfold rng;rw[bx7, bE4]
      omega
    generalize nextOf ws ls S = A at q0 q1 nl;refine⟨_, rfl, _, _, rfl, rfl, _, _, rfl, rfl, trivial, ?_⟩;rw[bM];cases A with
    |nil =>
      refine⟨_, rfl, _, rfl, aN ?_⟩;refine⟨_, rfl, _, rfl, intz S, [], rfl, rfl, bV S, rfl, by rw[bM];show S.length+0≤_;omega, trivial, ?_⟩;rw[bA0];exact q0 rfl y6 y7
    |cons x r =>
      have dg:decide ((0:Int)<(((x::r).length:Nat):Int)) = true := by9 (by rw[bA3];omega);have q1 := q1 (by intro z;cases z) y6 y7;show (aJ (bF (aO (a5 4)) (iN 3 (aM dG (a9 (a5 5) aC))) bI) (bE 2 (v3 (a5 2) (a5 5)))) E (mE ws ls ns S T (some (.sh true (.bl (decide ((0:Int)<(((x::r).length:Nat):Int)))))) (some (.own (.lst (intz (x::r))))) y6 y7);rw[dg];refine⟨_, rfl, _, rfl, aU ⟨_, rfl, _, rfl, ⟨_, _, rfl, rfl, bV _, trivial, by omega, ?_⟩, λns z => by cases z⟩⟩;refine⟨_, rfl, _, rfl, intz S, intz (x::r), rfl, rfl, bV S, bV _, by rw[bM, bM];omega, trivial, ?_⟩;rw[← dR];exact q1
end
theorem bp1 (L:ae)(A:af):tups (L++[A])=tups L++[.tup (intz A)]:=by unfold tups;rw[bB7];rfl
theorem bp2:e8 ar3 ["web", "seeds", "burning", "told", "going", "now", "hearth", "lit"] w5 := by
  rintro xs Q ⟨ws, ls, ns, rfl, wb, hs, q⟩;have few := wb.few;have sn := nI hs;refine⟨_, rfl, _, _, rfl, rfl, bV ns, trivial, ?_⟩;refine⟨_, rfl, ⟨_, _, rfl, rfl, bV ns, ⟨by show 1≤1000;decide, ?_, rfl, ?_, ?_⟩⟩, λns z => by cases z⟩
  · show (flat (.tup (intz ns))&&true) = true
    rw[iB];rfl
  · show (flat (.tup (intz ns))&&true) = true
    rw[iB];rfl
  refine⟨trivial, λn ρ => ∃k b y5 y6 y7, ρ = mE ws ls ns (b9 ws ls ns k) (tups (ns::after ws ls ns k)) (some (.sh true (.bl b))) y5 y6 y7∧(∀j<k, nextOf ws ls (b9 ws ls ns j)≠[])∧(b = false→nextOf ws ls (b9 ws ls ns k) = [])∧n = dJ ws (b9 ws ls ns k)+(if b = true then 1 else 0), ⟨_, 0, true, none, none, none, rfl, λ_ z => absurd z (Nat.not_lt_zero _), (λz => by cases z), rfl⟩, ?_⟩;rintro n ρ ⟨k, b, y5, y6, y7, rfl, ne, hb, rfl⟩;refine⟨_, rfl, b, rfl, ?_⟩;cases b with
  |false =>
    refine aN ⟨_, rfl, trivial, ?_⟩;exact q k ⟨ne, hb rfl⟩
  |true =>
    have tl:(tups (ns::after ws ls ns k)).length≤60 := by
      have few2:∀j, j≤k→j≤(b9 ws ls ns j).length := λj => by
        induction j with
        |zero => intro _;exact bB2 _
        |succ j ih =>
          intro hj;have h1 := ih (by omega);have h2:0<(nextOf ws ls (b9 ws ls ns j)).length := List.length_pos_iff.mpr (ne j (by omega));show j+1≤(b9 ws ls ns j++nextOf ws ls (b9 ws ls ns j)).length;rw[bx8];omega
      have := few2 k (bx9 _);have := nJ (ls := ls) hs k;unfold tups;rw[bx7, bA3];unfold after;rw[bx7, bE4];omega
    refine aU (bp0 wb tl (bA9 (nJ hs k) few) (λz y6 y7 => ?_) λz y6 y7 => ?_)
    · exact⟨dJ ws (b9 ws ls ns k), by show dJ ws (b9 ws ls ns k)<dJ ws (b9 ws ls ns k)+1;omega, k, false, _, y6, y7, rfl, ne, λ_ => z, rfl⟩
    · refine⟨dJ ws (b9 ws ls ns (k+1))+1, ?_, k+1, true, some (.own (.lst (intz (nextOf ws ls (b9 ws ls ns k))))), y6, y7, ?_, λj hj => ?_, (λz => by cases z), rfl⟩
      · have c := uT ws ls (b9 ws ls ns k)
        have l1:0<(nextOf ws ls (b9 ws ls ns k)).length := List.length_pos_iff.mpr z;show dJ ws (b9 ws ls ns k++nextOf ws ls (b9 ws ls ns k))+1<dJ ws (b9 ws ls ns k)+1;omega
      · rw[B4, ← List.cons_append, bp1];rfl
      · by_cases e:j = k
        · rw[e];exact z
        · exact ne j (by omega)
def w6:cG:=λxs Q=>∃r:bR,xs = [aZ r.1 r.2.1,.tup (intz r.2.2)]/\cU r/\Q (.tup (intz (bQ r)))
def ar4:aV:=(aJ (i7 2 (fF aC))
 (aJ (fG (eG (aM w5 (a9 (a5 0) (a9 (a5 1) aC)))) (cH 3)
  (yQ 2 (a5 3)))
 (bC (aM dG (a9 (aM u5 (a9 (a5 2) aC)) aC)))))
theorem bp3:e8 ar4 ["web","seeds","every","some"] w6:=by
 rintro xs Q ⟨r,rfl,ok,q⟩;refine⟨by decide,rfl,rfl,rfl,?_⟩;refine⟨_,rfl,_,rfl,r.1,r.2.1,r.2.2,rfl,ok.wb,ok.st,λm en=>?_⟩;have fl:∀L:ae,flats (tups L)=true:=λL=>by
  induction L with
  |nil=>rfl
  |cons a L ih=>
   show (flat (.tup (intz a))&&flats (tups L))=true;rw[iB,ih];rfl
 have tot:∀k,((r.2.2::after r.1 r.2.1 r.2.2 m).take k).flatten.length<=40:=λk=>by
  have h1:=rN r.1 r.2.1 r.2.2 m;have h2:((r.2.2::after r.1 r.2.1 r.2.2 m).take k).flatten.length<=(r.2.2::after r.1 r.2.1 r.2.2 m).flatten.length:=by
   have e:=congrArg List.flatten (bA7 k (r.2.2::after r.1 r.2.1 r.2.2 m));rw[bK2]at e;rw[<- e,bx8];exact bD4 _ _
  rw[h1]at h2
  have:=nJ (ls:=r.2.1) ok.st m
  have:=ok.few
  omega
 generalize eL:(r.2.2::after r.1 r.2.1 r.2.2 m)=L at tot;have fe:L.flatten=b9 r.1 r.2.1 r.2.2 m:=by rw[<- eL];exact rN _ _ _ m
 refine⟨_,rfl,(λz=>by cases z),λk ρ=>∃y3,ρ = [some (.sh (flat (aZ r.1 r.2.1)) (aZ r.1 r.2.1)),some (.sh (flat (.tup (intz r.2.2))) (.tup (intz r.2.2))),some (.own (.lst (intz (L.take k).flatten))),y3],⟨none,rfl⟩,?_,?_⟩
 ·rintro k y ρ hy ⟨y3,rfl⟩
  unfold tups at hy;rw[bz1]at hy;cases e:L[k]? with
  |none=>rw[e]at hy;cases hy
  |some A=>
   rw[e]at hy;cases hy;refine bh7 ?_;have ef:(L.take (k+1)).flatten=(L.take k).flatten++A:=by
    rw[bF2,e,bK2];show _++[A].flatten=_;rw[List.flatten_singleton]
   refine⟨_,rfl,_,rfl,intz A,.inl rfl,.inl trivial,?_,some (.sh true (.tup (intz A))),?_⟩
   ·have:=tot (k+1)
    rw[ef,bx8]at this;rw[bM,bM];omega
   ·rw[ef,dR];rfl
 ·rintro ρ ⟨y3,rfl⟩
  have hl:(tups L).length=L.length:=by unfold tups;rw[bx7]
  have tt:=tot L.length;rw[hl,bA4];rw[bA4]at tt;refine⟨_,rfl,_,rfl,by omega,λms p so=>⟨⟨_,_,rfl,rfl,bV ms,trivial,?_⟩,λns z=>by cases z⟩⟩;rw[fe]at p;rw[ap9 en p so];exact q
end Core
namespace L2
open PySem PySem.Spec PyProof.Rows
section
variable {X:Cx}
def bp4:V->Option Int->Option Int->Hp->VK->Prop:=λx lo hi H Q=>∃l us,x = .ref l/\H l=some (PP.kL l us)/\∀p,H p=none->Q (.ref p) (upd H p (.lst (dX us lo hi)))
theorem bp5:kF X bp4:=by
 rintro ag s σ H x v vl vu lo hi sl Q I rx hs pl pu ⟨l,us,rfl,e,q⟩;have I1:=I.ofK e;have key:∀p,upd H l (.lst us) p=none->pI l Q (.ref p) (upd (upd H l (.lst us)) p (.lst (dX us lo hi))):=λp hp=>by
  have pl:p≠l:=λz=>by rw[z,aY]at hp;cases hp
  rw[aH pl]at hp;refine⟨us,by rw[aH (Ne.symm pl),aY],?_⟩;have e2:upd (upd (upd H l (.lst us)) p (.lst (dX us lo hi))) l (PP.kL l us)=upd H p (.lst (dX us lo hi)):=by
   funext b
   by_cases z:b=l
   ·rw[z,aY,aH (Ne.symm pl),e]
   ·rw[aH z]
    by_cases y:b=p
    ·rw[y,aY,aY]
    ·rw[aH y,aH z,aH y]
  rw[e2];exact q p hp
 obtain⟨T,id,h1,h2,h3⟩:=xE ag s σ _ _ v vl vu lo hi sl (pI l Q) I1 rx hs pl pu ⟨l,us,rfl,aR.of aY,key⟩
 exact⟨T,id,h1,h2,aP h3 λ_ _ z=>vM z⟩
end
end L2
namespace PP
open PySem L2 PyProof.Rows
section
variable {X:Cx}{C:ax}{x y m:Str}{pos p2 p3 sp ah cp:Pos}{lo hi:Option Expr}{tl th:lQ}{a b e:Expr}{es:List Expr}{ta tb te:aL}{tr:c9}{i:Nat}{p:fB}{st:Stmt}{t:aV}
def ar5 (i:Nat)(tl th:lQ):aL:=λρ Q=>∃a st un,pJ ρ i a st un/\tl ρ λlo=>th ρ λhi=>flats st=true/\Q (.lst (fQ st lo hi)) .fr
theorem bp6 (kc:KC X.K C)(i:Nat)(hl:QO X lo tl)(hh:QO X hi th)(hN:X.N[i]? = some x:=by rfl)(hv:cK X.env.scope x:=by first|exact Or.inl rfl|exact Or.inr (Or.inl rfl)|exact Or.inr (Or.inr rfl))(hd:(x==("__debug__":Str))=false:=by decide)(hcd:(x==("__classdict__":Str))=false:=by decide)(hbs:attributeBase (.Name x p2) "standing" X.env (eval (.Name x p2) X.env)=eval (.Name x p2) X.env:=by rfl):QE X (.Subscript (.Attribute (.Name x p2) "standing" p3) (.Slice lo hi none sp) pos) (ar5 i tl th):=
 cN (t9 bp5 (mM (dI hN hv hd hcd) hbs) hl hh) λσ H Q' h=>by
  obtain⟨W,ρ,Q,px,⟨a,st,un,hk,q⟩,k⟩:=h
  obtain⟨ev,C',dx,l1,l2,us1,us2,h1,h2,h3,h4,h5,h6,h7,r1,r2⟩:=px.kp hk
  obtain rfl:=kc.eq h1;refine⟨_,ev,a,_,dx,_,_,rfl,h5,kc.cls,kc.n1,rfl,W,ρ,_,px,q,λlo H1 s1 q1=>⟨W,ρ,_,px.mono s1,q1,?_⟩⟩;rintro hi H2 s2 ⟨fl,q⟩;have S:=s1.trans s2
  exact⟨l1,us1,rfl,S _ _ h6,λp hp=>k _ _ _ .fr (S.trans (bS hp _)) (.lst (S.free hp) aY ((((r1.same S λ_ z=>z).flat fl).cut lo hi).same (bS hp _) λ_ z=>z)) q⟩
theorem ar6 (hu:X.A.units+4<cLine)(ha:QE X a ta)(hb:QE X b tb):QT X (.Compare a [.NotEq] [b] pos) (aO (q2 (iP 3 true) ta tb)):=i9 (aa5 3 hu) zU ha hb (fM _)
def K0:Slot->Bool
 |.kp _ _ _=>true
 |.sh g _=>g
 |.own _=>false
def ar7 (i:Nat)(t:aV):aV:=λD ρ=>∃m,ρ[i]? = some (some m)/\K0 m=true/\t D (ρ.set i (some (.sh true m.val)))
theorem bp7 {K:ac}{H0:Hp}{W:ax->Prop}{σ:L2.St}{ρ:b8}{H:Hp}{m:Slot}(px:PX K H0 W σ ρ H)(h:ρ[i]? = some (some m))(f:K0 m=true):PX K H0 W σ (ρ.set i (some (.sh true m.val))) H:=by
 obtain⟨v,ev,r⟩:=px.sl i m h
 have rv:aI K (Ms H0 W true) H v m.val:=by
  cases m with
  |kp g x ks=>exact vP r.1.1
  |sh g x=>cases g with
   |true=>exact r
   |false=>cases f
  |own x=>cases f
 have:=px.setSh (i:=i) rv
 have e:σ.set i (some v)=σ:=by
  apply List.ext_getElem?;intro j;by_cases z:i=j
  ·rw[<- z,bC9 (by4.mp ev).1,ev]
  ·rw[bA1 z]
 rw[e]at this;exact this
theorem bp8 (i:Nat)(h:QS X st t):QS X st (ar7 i t):=dF h λD σ H h=>by
 obtain⟨W,ρ,D',px,⟨m,hm,f,q⟩,k⟩:=h
 exact⟨W,_,D',bp7 px hm f,q,k⟩
def ar8 (i:Nat)(p:fB)(tr:c9):aV:=λD ρ=>∃a st un,ρ[i]? = some (some (.kp true (.ob a) [(a,st,un)]))/\gH ρ i/\tr ρ λxs=>flats (xs.map (·.1))=true/\p st un (λ_=>False) (xs.map (·.1)) λ_ st' un'=>D.nx (ρ.set i (some (.kp true (.ob a) [(a,st',un')])))
theorem bp9 (i:Nat){k n:Nat}{ps:List Str}{pl:Sem Bool}(d:jY X.prog X.w X.K X.mg X.base k m ps p)(hr:bL n X.A)(ha:QA X (e::es) tr)(hkj:k<=n:=by decide)(hl:∀v w:V,([("standing",v),("undone",w)]:List (Str×V)).lookup m=none:=by intro _ _;rfl)(hN:X.N[i]? = some x:=by rfl)(hv:cK X.env.scope x:=by first|exact Or.inl rfl|exact Or.inr (Or.inl rfl)|exact Or.inr (Or.inr rfl))(hd:(x==("__debug__":Str))=false:=by decide)(hcd:(x==("__classdict__":Str))=false:=by decide)(hst:starEach (e::es) X.env=(false,eval e X.env)::starEach es X.env:=by rfl)(hpl:(backTo cp (starEach es X.env)).any (·.1)=false:=by rfl)(hsw:swapsWith (.Call (.Attribute (.Name x p2) m ah) (e::es) [] cp) none pos.line X.env=pure false:=by rfl)(ht:eval (.Call (.Attribute (.Name x p2) m ah) (e::es) [] cp) X.env=(do
   let ov <- eval (.Name x p2) X.env
   standAt ah.atName
   let (f,first) <- holding [ov] (getMethod ov m pl)
   callWith cp f first (backTo cp (starEach (e::es) X.env)) (backToKw cp (keywordEach [] X.env))):=by rfl):QS X (.Expr (.Call (.Attribute (.Name x p2) m ah) (e::es) [] cp) pos) (ar8 i p tr):=by
 obtain⟨C,f,fd,kc,M,F,b⟩:=d.ex
 refine dF (lF (P3 (pl:=pl) (E:=EX X.K X.H₀ λ_=>False) (dI hN hv hd hcd) kc.cls M F (hr.mono hkj) b .nil dU ha hst hpl ht) hsw) λD σ H h=>?_
 obtain⟨W,ρ,D',px,⟨a,st,un,hk,nk,q⟩,k⟩:=h
 obtain⟨ev,kp⟩:=px.kp ⟨true,hk⟩
 obtain⟨C',dx,l1,l2,us1,us2,kw⟩:=kp.w
 obtain rfl:=kc.eq kw.ns;refine⟨_,ev,a,dx,_,rfl,kw.oa,hl _ _,W,ρ,_,px,q,λvs H1 xs s1 r q1=>?_⟩;have px1:=px.mono s1;show jJ X.K p (.ref a::(vs++[])) H1 _ _;rw[bA0];refine⟨a,vs,_,st,un,_,λ_=>False,rfl,(px1.kp ⟨true,hk⟩).2,⟨r.any.flat q1.1,q1.1⟩,q1.2,λv H' x st' un' ev' kp' rv fl q2=>?_,λn C H' s2 z1 z2=>z2.elim⟩
 obtain⟨px2,e2⟩:=px1.mut hk nk ev' kp'
 exact k.nx W _ H' _ ((Ev.same s1).trans e2) px2 q2
end
end PP
namespace Core
open PySem L2 PP
theorem ar9 {A:az}{k:Nat}(hr:bL k A):A.units+4<cLine:=by have:=hr.units;omega
abbrev dE:=gF×bR
def fP (p:dE):PV:=sP (tP p.1) p.2
def as0 (r:bR)(p:dE):Prop:=bO r.1 r.2.1 r.2.2 p.1=false/\e9 r.1 r.2.1 r.2.2 p.1 p.2/\cU p.2/\p.2.1.length=r.1.length/\p.2.2.1.length<=r.2.1.length+1
def fW:bR->List dE->Prop
 |_,[]=>True
 |r,p::l=>as0 r p/\fW p.2 l
def bB:bR->List dE->bR
 |r,[]=>r
 |_,p::l=>bB p.2 l
theorem as1:∀{r:bR}{a b:List dE},bB r (a++b)=bB (bB r a) b
 |_,[],_=>rfl
 |_,p::a,b=>as1 (r:=p.2) (a:=a)
theorem pP {r:bR}{a:List dE}{p:dE}:bB r (a++[p])=p.2:=as1
theorem iZ:∀{r:bR}{a b:List dE},fW r (a++b)↔fW r a/\fW (bB r a) b
 |_,[],_=>⟨λh=>⟨trivial,h⟩,λh=>h.2⟩
 |_,p::a,b=>⟨λh=>⟨⟨h.1,(iZ.mp h.2).1⟩,(iZ.mp h.2).2⟩,λh=>⟨h.1.1,iZ.mpr ⟨h.1.2,h.2⟩⟩⟩
theorem lD:∀{r:bR}{a:List dE},cU r->fW r a->cU (bB r a)/\(bB r a).1.length=r.1.length/\(bB r a).2.1.length<=r.2.1.length+a.length
 |_,[],ok,_=>⟨ok,rfl,bx9 _⟩
 |r,p::a,ok,h=>by
  obtain⟨h1,h2,h3⟩:=lD (r:=p.2) (a:=a) h.1.2.2.1 h.2
  refine⟨h1,h2.trans h.1.2.2.2.1,?_⟩
  have:=h.1.2.2.2.2
  show (bB p.2 a).2.1.length<=_;rw[bA3];omega
def j4 (r:bR)(ds:List dE):List PV:=sP .non r::ds.map fP
theorem w9 {r:bR}{ds:List dE}{p:dE}:j4 r (ds++[p])=j4 r ds++[fP p]:=by
 unfold j4;rw[bB7];rfl
theorem bq0 {r:bR}{ds:List dE}:(j4 r ds).length=1+ds.length:=by
 unfold j4;rw[bA3,bx7];omega
theorem K1 {α:Type}(l:List α):l = []∨∃a x,l=a++[x]:=by
 rcases List.eq_nil_or_concat l with h|⟨a,x,h⟩
 ·exact .inl h
 ·exact .inr ⟨a,x,h.trans (List.concat_eq_append)⟩
theorem nT {r:bR}{ds:List dE}:mD (j4 r ds) (bB r ds):=by
 rcases K1 ds with rfl|⟨a,p,rfl⟩
 ·exact⟨[],.non,rfl⟩
 ·rw[pP,w9]
  exact⟨_,_,rfl⟩
def sU:fB:=λst un Ep xs Q=>∃(r0:bR) (ds us:List dE) (c n:Int),xs = [.int c,.int n]/\0<=n/\n<=100/\st=j4 r0 ds/\un=us.map fP/\cU r0/\r0.2.1.length<=200/\fW r0 (ds++us.reverse)/\ds.length+us.length<=70/\Q .non st un/\
 ∀ds' us':List dE,fW r0 (ds'++us'.reverse)->ds'.length+us'.length<=ds.length+us.length+1->Q (mC (bB r0 ds') (bQ (bB r0 ds))) (j4 r0 ds') (us'.map fP)
def as2 (Ep:Str->Prop):iY:=(mB (bE 3 (qC .non))
 (sN 0 (pL (J6 "HearthError" (J5 (aO (rB (cS (a5 1) (qC (.int 8))) (qC (.int 5)))) (sO 0 3 sS aC) (J5 (aO (fR (cS (a5 1) (qC (.int 8))) (qC (.int 5)))) (sO 0 3 sT aC) (sO 0 3 nR (a9 (aM vJ (a9 (eJ (a5 1) (qC (.int 8))) (a9 (a5 2) aC))) aC)))) (ao6 0 3 (qC .non)))
 (sM 0 (a5 3)))))
theorem bq1:vZ as2 ["keeper","cell","many","told"] sU:=by
 rintro a st un Ep xs Q ⟨r0,ds,us,c,n,rfl,n0,n1,rfl,rfl,ok0,few0,ch,ln,qn,q⟩ fl;have cd:=(iZ.mp ch).1
 obtain⟨ok,k1,k2⟩:=lD ok0 cd
 have sl:=bq0 (r:=r0) (ds:=ds);refine⟨trivial,_,_,rfl,aq6,?_⟩;refine⟨_,rfl,_,_,rfl,rfl,(by show (0:Int)<8;decide),_,_,rfl,rfl,_,rfl,?_⟩;dsimp only;cases decide (c%8>5) with
 |true=>
  refine aU ⟨(by decide),_,_,rfl,rfl,rfl,by rw[bx7];omega,?_⟩;rcases K1 ds with rfl|⟨b,p,rfl⟩
  ·exact .inl ⟨_,rfl,rfl,rfl,(by decide),_,rfl,rfl,_,_,rfl,qn⟩
  ·have q:=q b (us++[p]) (by rw[List.reverse_append];simpa using ch) (by rw[bx8]at *;simp at *;omega)
   have okb:=(lD ok0 (iZ.mp cd).1).1;rw[pP]at q ok
   obtain⟨pre,x,e⟩:=nT (r:=r0) (ds:=b)
   refine .inr ⟨pre,x,bB r0 b,tP p.1,p.2,?_,okb,ok,?_⟩
   ·rw[w9,e];rfl
   ·refine⟨_,rfl,pO _ _,_,_,rfl,?_⟩
    rw[bB7,e]at q;exact q
 |false=>
  refine aN ⟨_,rfl,_,_,rfl,rfl,(by show (0:Int)<8;decide),.inl ⟨_,_,rfl,rfl,_,rfl,?_⟩⟩;dsimp only;cases decide (c%8=5) with
  |true=>
   refine aU ⟨(by decide),_,_,rfl,rfl,rfl,by rw[sl];omega,?_⟩;rcases K1 us with rfl|⟨b,p,rfl⟩
   ·exact .inl ⟨rfl,rfl,rfl,(by decide),_,rfl,rfl,_,_,rfl,qn⟩
   ·rw[List.reverse_append]at ch
    have ch:fW r0 ((ds++[p])++b.reverse):=by simpa using ch
    have q:=q (ds++[p]) b ch (by rw[bx8]at *;simp at *;omega);rw[pP,w9]at q;have okp:cU p.2:=by
     have:=(lD ok0 (iZ.mp ch).1).1
     rw[pP]at this;exact this
    refine .inr ⟨b.map fP,tP p.1,p.2,bB r0 ds,by rw[bB7];rfl,nT,okp,ok,?_⟩
    exact⟨_,rfl,pO _ _,_,_,rfl,q⟩
  |false=>
   refine aN ⟨(by decide),_,_,rfl,_,rfl,_,_,rfl,rfl,⟨(by decide),(by decide)⟩,_,rfl,_,_,rfl,n0,n1,λd=>?_⟩;refine⟨?_,bB r0 ds,d,rfl,nT,ok,by omega,by rw[sl];omega,λbd=>⟨rfl,rfl,(by decide),_,rfl,rfl,_,_,rfl,qn⟩,λbd r' dn ok' l1 l2=>?_⟩
   ·show (flat (dP d)&&true)=true
    rw[ak5];rfl
   ·have q:=q (ds++[(d,r')]) [] (by rw[List.reverse_nil,bA0];exact iZ.mpr ⟨cd,⟨bd,dn,ok',l1,l2⟩,trivial⟩) (by rw[bx8];simp)
    rw[pP,w9]at q
    exact⟨_,rfl,pO _ _,_,_,rfl,q⟩
theorem as3 (p:dE):flat (fP p)=true:=J9 (pD _) _
theorem as4:∀ds:List dE,flats (ds.map fP)=true
 |[]=>rfl
 |p::ds=>by
  show (flat (fP p)&&flats (ds.map fP))=true;rw[as3,as4 ds];rfl
theorem bq2 (r:bR)(ds:List dE):flats (j4 r ds)=true:=by
 show (flat (sP .non r)&&flats (ds.map fP))=true;rw[J9 rfl,as4];rfl
def fX (ds:List dE):List PV:=ds.map λp=>tP p.1
def pQ:iF:=λst _ _ xs Q=>∃r ds,xs = []/\st=j4 r ds/\ds.length<=1000/\Q (.lst (fX ds))
def as5 (_:Str->Prop):aV:=bC (gL (eG (ar5 0 (iR (qC (.int 1))) iQ)) [none] (cH 0) mX (b6 (a5 0) (qC (.int 0))))
theorem bq3 (xs:List PV):fQ xs (some 1) none=xs.drop 1:=by
 unfold fQ;have e1:HT.bA xs.length 0 (some 1)=min 1 xs.length:=by
  show (if (1:Int)<0 then ((1:Int)+(xs.length:Int)).toNat else min (1:Int).toNat xs.length)=_;rw[if_neg (by decide)];rfl
 rw[e1];show (xs.drop (min 1 xs.length)).take (xs.length-min 1 xs.length)=_;rw[bH2 (by rw[bF9];exact bx9 _)];cases xs with
 |nil=>rfl
 |cons x xs=>rw[bA3,Nat.min_eq_left (by omega)]
theorem bq4:sR as5 ["self"] pQ:=by
 rintro a st un Ep xs Q ⟨r,ds,rfl,rfl,dl,q⟩;refine⟨a,_,un,⟨false,rfl⟩,1,rfl,bq2 r ds,_,rfl,(λz=>by cases z),?_⟩;rw[bq3];show (ds.map fP).length<=16000000/\_;refine⟨by rw[bx7];omega,λi acc=>acc=fX (ds.take i),rfl,?_,?_⟩
 ·rintro i x acc hx rfl
  obtain⟨p,hp,rfl⟩:∃p,ds[i]? = some p/\x=fP p:=by
   have hx:(ds.map fP)[i]? = some x:=hx;rw[bz1]at hx;cases h:ds[i]? with
   |none=>rw[h]at hx;cases hx
   |some p=>rw[h]at hx;exact⟨p,rfl,(bz3 hx).symm⟩
  refine⟨_,rfl,_,_,_,rfl,rfl,rfl,?_,?_⟩
  ·rw[as3];trivial
  ·show fX (ds.take i)++[tP p.1]=fX (ds.take (i+1))
   unfold fX;rw[bF2,hp,bB7];rfl
 ·rintro acc rfl
  show True/\_;refine⟨trivial,?_⟩;have e:ds.take (List.drop 1 (j4 r ds)).length=ds:=by
   show ds.take (ds.map fP).length=ds;rw[bx7,bA4]
  rw[e];exact q
def mF:gF->gF
 |.link i j=>.link (mm i j).1 (mm i j).2
 |.cut i j=>.cut (mm i j).1 (mm i j).2
 |d=>d
theorem K2 (d:gF):tP d=dP (mF d):=by cases d<;>rfl
theorem wA (i j:Int):mm (mm i j).1 (mm i j).2=mm i j:=by
 unfold mm;by_cases h:j<i
 ·simp only[h,if_true,gt_iff_lt]
  rw[if_neg (show ¬i<j by omega),if_neg (by omega),if_pos h]
 ·by_cases h':i<j
  ·simp only[h,h',if_true,bF8,gt_iff_lt]
  ·have:i=j:=by omega
   subst this;simp
theorem as6 (ws:af)(ls:aa)(S:af)(d:gF):bO ws ls S (mF d)=bO ws ls S d:=by
 have key:∀(i j:Int) (b:Bool),(!inB ws.length (mm i j).1||(!inB ws.length (mm i j).2||(decide ((mm i j).1=(mm i j).2)||b)))=(!inB ws.length i||(!inB ws.length j||(decide (i=j)||b))):=λi j b=>by
  have:=al4 ws.length i j
  rw[<- Bool.or_assoc,<- Bool.or_assoc,<- Bool.or_assoc,<- Bool.or_assoc];rw[<- Bool.or_assoc,<- Bool.or_assoc]at this;rw[this]
 cases d with
 |link i j=>
  show (!inB ws.length (mm i j).1||(!inB ws.length (mm i j).2||(decide ((mm i j).1=(mm i j).2)||decide (mm (mm i j).1 (mm i j).2∈ls))))=_;rw[wA,key];rfl
 |cut i j=>
  show (!inB ws.length (mm i j).1||(!inB ws.length (mm i j).2||(decide ((mm i j).1=(mm i j).2)||!decide (mm (mm i j).1 (mm i j).2∈ls))))=_;rw[wA,key];rfl
 |_=>rfl
theorem K3 {ws:af}{ls:aa}{S:af}{d:gF}{r:bR}(h:e9 ws ls S d r):e9 ws ls S (mF d) r:=by
 cases d with
 |link i j=>
  show ∃ls',_/\l9 ls (mm (mm i j).1 (mm i j).2) ls'
  rw[wA];exact h
 |cut i j=>
  show r=(ws,ls.filter λz=>!decide (z∈[mm (mm i j).1 (mm i j).2]),S);rw[wA];exact h
 |_=>exact h
def mG (n:Nat)(x:PV):Prop:=cC n x x=true/\eZ n x x=true
theorem K4 (n:Nat)(a:Int):mG n (.int a):=by
 unfold mG;cases n<;>exact⟨bE1 a,rfl⟩
theorem sV {n:Nat}{xs:List PV}(h:∀x∈xs,mG n x):mG (n+1) (.tup xs):=by
 have k:∀ys:List PV,(∀x∈ys,mG n x)->(ys.zip ys).all (λp=>cC n p.1 p.2)=true/\(ys.zip ys).all (λp=>eZ n p.1 p.2)=true:=λys=>by
  induction ys with
  |nil=>exact λ_=>⟨rfl,rfl⟩
  |cons y ys ih=>
   intro h
   obtain⟨h1,h2⟩:=ih λx hx=>h x (bz9 _ hx)
   obtain⟨g1,g2⟩:=h y bz8
   rw[List.zip_cons_cons,bI1,bI1,h1,h2,g1,g2]
   exact⟨rfl,rfl⟩
 obtain⟨h1,h2⟩:=k xs h
 refine⟨?_,h2⟩;show ((xs.zip xs).all (λp=>cC n p.1 p.2)&&xs.length==xs.length)=true;rw[h1,bE1];rfl
theorem k4 (n:Nat)(A:af):mG (n+1) (.tup (intz A)):=sV λx hx=>by
 obtain⟨a,_,rfl⟩:=bB8.mp hx
 exact K4 n a
theorem K5 (n:Nat)(ws:af)(ls:aa):mG (n+3) (aZ ws ls):=sV λx hx=>by
 rcases by2.mp hx with rfl|hx
 ·exact k4 _ _
 ·rw[by0.mp hx]
  refine sV λx hx=>?_
  obtain⟨l,_,rfl⟩:=bB8.mp hx
  refine sV λx hx=>?_
  rcases by2.mp hx with rfl|hx
  ·exact K4 _ _
  ·rw[by0.mp hx];exact K4 _ _
theorem wB (r:bR):mG 4 (eN r):=sV λx hx=>by
 rcases by2.mp hx with rfl|hx
 ·exact K5 0 _ _
 ·rw[by0.mp hx];exact k4 2 _
theorem as7 {i:Nat}{x:PV}{g:Bool}{ρ:b8}{Q:b8->Prop}(f:flat x=true)(q:Q (ρ.set i (some (.sh true x)))):cH i x g ρ Q:=by
 unfold cH;rw[f,Bool.or_true];exact q
theorem cU.slen {r:bR}(h:cU r):r.2.2.length<=40:=bA9 (nI h.st) h.few
def wC:cG:=λxs Q=>∃(r0:bR) (ds:List dE),xs = [aZ r0.1 r0.2.1,.lst (fX ds)]/\r0.2.2 = []/\cU r0/\r0.2.1.length<=200/\fW r0 ds/\ds.length<=70/\Q (eN (bB r0 ds))
def K6:aV:=(aJ (bE 2 (bJ aC))
 (aJ (bE 3 (bJ (a9 (a5 0) (a9 (bJ aC) aC))))
 (aJ (fG (eG (a5 1)) (cH 4)
  (aJ (bE 5 (aM vK (a9 (a5 0) (a9 (a5 2) (a9 (a5 4) aC)))))
  (aJ (bE 3 (aM (pF λ_=>False) (a9 (b6 (a5 3) (qC (.int 0))) (a9 (b6 (a5 3) (qC (.int 1))) (a9 (a5 4) aC)))))
  (aJ (bF (dY (aO (zG (a5 5) (qC .non))) (aO (q2 (iP 3 true) (a5 3) (a5 5)))) (bC (qC .non)) bI)
  (v4 (lP 0 2) (a5 5))))))
 (bC (bJ (a9 (a5 0) (a9 (a5 2) aC)))))))
theorem as8 {r:bR}{ds:List dE}{k:Nat}{p:dE}(ch:fW r ds)(h:ds[k]? = some p):fW r (ds.take k)/\as0 (bB r (ds.take k)) p/\bB r (ds.take (k+1))=p.2/\ds.take (k+1)=ds.take k++[p]:=by
 have e:ds.take (k+1)=ds.take k++[p]:=by rw[bF2,h];rfl
 have c1:fW r (ds.take (k+1)++ds.drop (k+1)):=by rw[bA7];exact ch
 have c2:=(iZ.mp c1).1;rw[e]at c2;have c3:=iZ.mp c2
 exact⟨c3.1,c3.2.1,by rw[e,pP],e⟩
abbrev bq5 (r:bR)(T:List PV)(y4 y5:Option Slot):b8:=[some (.sh true (aZ r.1 r.2.1)),some (.sh false (.lst T)),some (.sh true (.tup (intz r.2.2))),some (.sh true (eN r)),y4,y5]
theorem as9 {ds:List dE}{k:Nat}{y:PV}(h:(fX ds)[k]? = some y):∃p,ds[k]? = some p/\y=tP p.1:=by
 unfold fX at h;rw[bz1]at h;cases e:ds[k]? with
 |none=>rw[e]at h;cases h
 |some p=>rw[e]at h;exact⟨p,rfl,(bz3 h).symm⟩
theorem bq6:e8 K6 ["web","deeds","seeds","other","deed","state"] wC:=by
 rintro xs Q ⟨⟨ws,ls,S⟩,ds,rfl,e0,ok0,few,ch,dl,q⟩;have e0:S = []:=e0;subst e0;have es:eI ["web","deeds","seeds","other","deed","state"] [aZ ws ls,.lst (fX ds)] = [some (.sh true (aZ ws ls)),some (.sh false (.lst (fX ds))),none,none,none,none]:=by
  show [some (Slot.sh (flat (aZ ws ls)) (aZ ws ls)),some (.sh false (.lst (fX ds))),none,none,none,none]=_;rw[kS]
 show K6 _ (eI ["web","deeds","seeds","other","deed","state"] [aZ ws ls,.lst (fX ds)]);rw[es];refine⟨bB2 _,rfl,trivial,?_⟩;refine⟨_,rfl,bB2 _,rfl,dD,?_,trivial,?_⟩
 ·exact iE (ws':=ws) (S:=[])
 refine⟨_,rfl,_,rfl,(λz=>by cases z),λk ρ=>∃y4 y5,ρ=bq5 (bB (ws,ls,[]) (ds.take k)) (fX ds) y4 y5,⟨none,none,rfl⟩,?_,?_⟩
 ·rintro k y ρ hy ⟨y4,y5,rfl⟩
  obtain⟨p,hp,rfl⟩:=as9 hy
  obtain⟨c1,sk,e1,e2⟩:=as8 ch hp
  obtain⟨okr,l1,l2⟩:=lD ok0 c1
  have kl:k<ds.length:=(by4.mp hp).1;rw[bB5]at l2;have few:ls.length<=200:=few;have l2:(bB (ws,ls,[]) (ds.take k)).2.1.length<=ls.length+min k ds.length:=l2;generalize bB (ws,ls,[]) (ds.take k)=r at *;have sl:=okr.slen;have wl:=okr.few
  obtain⟨bd,dn,okp,_,_⟩:=sk
  have bd':bO r.1 r.2.1 r.2.2 (mF p.1)=false:=by rw[as6];exact bd
  refine as7 (pD _) ?_;refine⟨_,rfl,_,rfl,_,rfl,r.1,r.2.1,r.2.2,mF p.1,by rw[<- K2];rfl,by omega,by omega,by omega,(λz=>by rw[bd']at z;cases z),λ_ r' dn'=>⟨trivial,?_⟩⟩;obtain rfl:=dn'.uniq (K3 dn);refine⟨_,rfl,_,_,_,rfl,rfl,rfl,_,rfl,_,_,_,rfl,rfl,rfl,_,rfl,r.1,r.2.1,_,r.2.2,mF p.1,by rw[<- K2];rfl,.inl rfl,by omega,by omega,by omega,(λz=>by rw[okr.st]at z;cases z),λ_=>⟨(λz=>by rw[bd']at z;cases z),λ_ r' dn'=>⟨trivial,?_⟩⟩⟩;obtain rfl:=dn'.uniq (K3 dn);refine⟨_,rfl,rfl,_,rfl,aN ⟨_,rfl,_,rfl,.inl ⟨_,_,rfl,rfl⟩,(wB p.2).2,_,rfl,?_⟩⟩;show if (!cC 4 (eN p.2) (eN p.2))=true then _ else _
  rw[(wB p.2).1];refine aN ⟨_,rfl,trivial,_,_,rfl,?_⟩;refine⟨some (.sh true (tP p.1)),some (.sh true (eN p.2)),?_⟩;rw[e1];rfl
 ·rintro ρ ⟨y4,y5,rfl⟩
  have e:ds.take (fX ds).length=ds:=by unfold fX;rw[bx7,bA4]
  rw[e];refine⟨_,rfl,_,rfl,dD,iE (ws':=ws),trivial,q⟩
def wD:List (Option Slot)->Prop
 |[]=>True
 |y::l=>NK y/\wD l
theorem K7:∀{l:List (Option Slot)}{j:Nat}{y:Option Slot},wD l->l[j]? = some y->NK y
 |[],_,_,_,h=>by cases h
 |_::_,0,_,h,e=>by cases e;exact h.1
 |_::_,j+1,_,h,e=>K7 h.2 e
theorem at0 {m:Option Slot}(A B:List (Option Slot)){i:Nat}(hi:A.length=i)(hA:wD A)(hB:wD B):gH (A++m::B) i:=λj g x ks n z=>by
 subst hi;rcases bD0 j A.length with h|h
 ·rw[bD7 h]at z
  exact K7 hA z g x ks rfl
 ·rw[bG9 h]at z
  obtain⟨d,e⟩:∃d,j-A.length=d+1:=⟨j-A.length-1,by omega⟩
  rw[e]at z;exact K7 hB (by rw[bG7]at z;exact z) g x ks rfl
theorem at2 {r:bR}(ok:cU r):(bQ r).Nodup:=((pA _).1.nodup_iff).mpr (bg0 ok.st)
theorem bq7 {r r':bR}(ok:cU r)(ok':cU r'):((bQ r).filter (λz=>!decide (z∈hJ (bQ r) (bQ r')))++hJ (bQ r') (bQ r)).Perm (bQ r'):=by
 have n1:=at2 ok;have n2:=at2 ok';generalize bQ r=A at *;generalize bQ r'=B at *;unfold hJ;refine (List.perm_ext_iff_of_nodup ?_ n2).mpr λx=>?_
 ·refine bG6.mpr ⟨n1.filter _,n2.filter _,λx hx y hy e=>?_⟩
  subst e;have h2:=(bH6.mp hy).2;rw[by9 (bH6.mp hx).1]at h2;cases h2
 ·simp only[bB3,bH6,Bool.not_eq_true',bC5,not_and,Classical.not_not]
  constructor
  ·rintro (⟨h1,h2⟩|⟨h1,h2⟩)
   ·exact h2 h1
   ·exact h1
  ·intro h
   by_cases z:x∈A
   ·exact .inl ⟨z,λ_=>h⟩
   ·exact .inr ⟨h,z⟩
def K8:cG:=af5
def at3:aV:=(aJ (ap6 7 4 sU (a9 (a5 6) (a9 (a5 1) aC)))
  (aJ (bE 8 (dS Fx 4 gP aC))
  (aJ (bF (aO (zG (a5 7) (qC .non))) (bF (aO (q2 (iP 2 true) (a5 8) (a5 5))) (bC (qC (.bl false))) bI) (bF (aO (q2 (iP 2 true) (aM dG (a9 (aM u5 (a9 (v3 (gL (eG (a5 5)) [none,some 7] (cH 0) (aO (q2 (iO true) (a5 0) (b6 (a5 1) (qC (.int 1))))) (a5 0)) (aM qX (a9 (b6 (a5 7) (qC (.int 0))) aC))) aC)) aC)) (a5 8))) (bC (qC (.bl false))) bI))
  (bE 5 (a5 8)))))
def at4:aV:=(aJ (J8 10 (a5 3))
 (aJ (fG (eG (dS Fx 4 pQ aC)) (cH 11)
  (ar7 4 (ar8 10 nR (a9 (a5 11) aC))))
 (bC (mT (q2 (iP 2 false) (aM w6 (a9 (b6 (a5 9) (qC (.int 0))) (a9 (b6 (a5 9) (qC (.int 1))) aC))) (a5 5)) (mT (q2 (iP 2 false) (dS Fx 10 gP aC) (a5 5)) (q2 (iP 2 false) (dS Fx 10 jZ aC) (b6 (a5 9) (qC (.int 0)))))))))
def at5:aV:=(aJ (bE 9 (aM wC (a9 (a5 3) (a9 (dS Fx 4 pQ aC) aC))))
 (aJ (bF (dY (aO (zG (a5 9) (qC .non))) (aO (q2 (iP 3 true) (a5 9) (bJ (a9 (dS Fx 4 jZ aC) (a9 (dS Fx 4 lB aC) aC)))))) (bC (qC (.bl false))) bI)
 at4))
def at6:aV:=(aJ (bE 3 (aM vY (a9 (a5 0) (a9 (qC (.int 1)) (a9 (a5 1) aC)))))
 (aJ (J8 4 (a5 3))
 (aJ (bE 5 (dS Fx 4 gP aC))
 (aJ (fG (eG (a5 2)) (cH 6) at3)
 at5))))
def at7:aV:=(aJ (bE 1 (gC (qC (.int 1)) (cS (aM jH (a9 (a5 0) (a9 (qC (.int 0)) aC))) (qC (.int 12)))))
 (aJ (bE 2 (aM qX (a9 (a5 0) aC)))
 (aJ (bF (aO (fR (cS (eJ (aM jH (a9 (a5 0) (a9 (qC (.int 0)) aC))) (qC (.int 12))) (qC (.int 8))) (qC (.int 1)))) (aJ (bE 1 (gC (qC (.int 13)) (cS (eJ (aM jH (a9 (a5 0) (a9 (qC (.int 0)) aC))) (qC (.int 96))) (qC (.int 28)))))
  (bE 2 (jB (a5 2) iQ (iR (qC (.int 12)))))) bI)
 at6)))
section
variable {ns cs:af}{n:Int}{a:ax}{r0:bR}{ds us:List dE}{B:af}{y3 y6 y7 y8 y9 y11:Option Slot}{E:lM}{Q:PV→Prop}
abbrev nU (ns cs:af)(n:Int)(r0:bR)(y4:Option Slot)(B:af)(y6 y7 y8 y9 y10 y11:Option Slot):b8:=[some (.sh true (.scr ns)),si n,some (.sh true (.lst (intz cs))),some (.sh true (aZ r0.1 r0.2.1)),y4,some (.sh true (.tup (intz B))),y6,y7,y8,y9,y10,y11]
abbrev pR (a:ax)(r0:bR)(ds us:List dE):Option Slot:=some (.kp true (.ob a) [(a,j4 r0 ds,us.map fP)])
theorem bq8 {k:Nat}{c:Int}(h7:NK y7)(h8:NK y8)(n0:0<=n)(n1:n<=40)(ok0:cU r0)(few:r0.2.1.length<=200)(ch:fW r0 (ds++us.reverse))(ln:ds.length+us.length<=k)(kl:k<63)(q:∀ds' us' y7 y8,NK y7->NK y8->fW r0 (ds'++us'.reverse)->ds'.length+us'.length<=k+1->E.nx (nU ns cs n r0 (pR a r0 ds' us') (bQ (bB r0 ds')) (si c) y7 y8 none none none)) :
  at3 E (nU ns cs n r0 (pR a r0 ds us) (bQ (bB r0 ds)) (si c) y7 y8 none none none):=by
 have ok:=(lD ok0 (iZ.mp ch).1).1;have key:gH (nU ns cs n r0 (pR a r0 ds us) (bQ (bB r0 ds)) (si c) y7 y8 none none none) 4:=at0 [some (.sh true (.scr ns)),si n,some (.sh true (.lst (intz cs))),some (.sh true (aZ r0.1 r0.2.1))] [some (.sh true (.tup (intz (bQ (bB r0 ds))))),si c,y7,y8,none,none,none] rfl ⟨eO,eO,eO,eO,trivial⟩ ⟨eO,eO,h7,h8,nS,nS,nS,trivial⟩;refine⟨a,_,_,rfl,key,(by decide),_,rfl,_,rfl,rfl,r0,ds,us,c,n,rfl,n0,by omega,rfl,rfl,ok0,few,ch,by omega,?_,λds' us' ch' ln'=>?_⟩
 ·refine⟨a,_,_,⟨true,rfl⟩,bB r0 ds,rfl,nT,ok,trivial,?_⟩
  refine⟨_,rfl,rfl,_,rfl,aU ⟨_,rfl,_,rfl,.inl ⟨_,_,rfl,rfl⟩,(k4 2 _).2,_,rfl,?_⟩⟩;show if (!cC 3 (.tup (intz (bQ (bB r0 ds)))) (.tup (intz (bQ (bB r0 ds)))))=true then _ else _
  rw[(k4 2 _).1];refine aN ⟨_,rfl,trivial,?_⟩;exact q ds us _ _ eO eO ch (by omega)
 ·have ok':=(lD ok0 (iZ.mp ch').1).1
  have l1:=pN ok;have l2:=pN ok';have pm:=bq7 ok ok';have q:=q ds' us' (some (.sh true (mC (bB r0 ds') (bQ (bB r0 ds))))) (some (.sh true (.tup (intz (bQ (bB r0 ds')))))) eO eO ch' (by omega);refine⟨a,_,_,⟨true,rfl⟩,bB r0 ds',rfl,nT,ok',trivial,?_⟩;refine⟨_,rfl,rfl,_,rfl,aN ?_⟩;have el:bQ (bB r0 ds')=bQ (bB r0 ds'):=rfl;have so:(bQ (bB r0 ds')).Pairwise (· <= ·):=(pA _).2;unfold mC at q ⊢;generalize bQ (bB r0 ds)=A at *;generalize bQ (bB r0 ds')=B at *;refine⟨_,rfl,_,rfl,(λz=>by cases z),by rw[bM];omega,λi acc=>acc=intz ((A.take i).filter λz=>!decide (z∈hJ A B)),rfl,?_,?_⟩
  ·rintro i y acc hy rfl
   rw[bz1]at hy;cases e:A[i]? with
   |none=>rw[e]at hy;cases hy
   |some x=>
    rw[e]at hy;cases hy;refine kX ?_;refine⟨_,rfl,_,rfl,_,_,_,rfl,rfl,rfl,x,_,rfl,rfl,_,rfl,?_⟩;show if (!decide (x∈hJ A B))=true then _ else _
    by_cases z:x∈hJ A B
    ·rw[by9 z]
     refine aN ?_;show intz ((A.take i).filter λz=>!decide (z∈hJ A B))=intz ((A.take (i+1)).filter λz=>!decide (z∈hJ A B));rw[jF e,by9 z,if_neg (by decide),bA0]
    ·rw[by5 z]
     refine aU ⟨_,rfl,trivial,?_⟩;show intz ((A.take i).filter λz=>!decide (z∈hJ A B))++[PV.int x]=intz ((A.take (i+1)).filter λz=>!decide (z∈hJ A B));rw[jF e,by5 z,if_pos (show (!false)=true by decide),dR];rfl
  ·rintro acc rfl
   rw[bM,bA4];have pl:=pm.length_eq;rw[bx8]at pl;refine⟨_,rfl,_,_,_,rfl,rfl,rfl,_,_,rfl,rfl,bV _,_,_,rfl,rfl,bV _,bV _,by rw[bM,bM];omega,A.filter (λz=>!decide (z∈hJ A B))++hJ B A,?_,by rw[bx8];omega,λms p so'=>?_⟩
   ·show [PV.lst (intz _++intz _)] = [PV.lst (intz (_++_))]
    rw[dR]
   ·have e:ms=B:=af4 (p.trans pm) so' so
    subst e;refine⟨⟨_,_,rfl,rfl,bV _,_,rfl,.inl ⟨_,_,rfl,rfl⟩,(k4 2 _).2,_,rfl,?_⟩,λns z=>by cases z⟩;show if (!cC 3 (.tup (intz ms)) (.tup (intz ms)))=true then _ else _
    rw[(k4 2 _).1];exact aN ⟨_,rfl,trivial,q⟩
theorem bq9 (h6:NK y6)(h7:NK y7)(h8:NK y8)(e0:r0.2.2 = [])(ok0:cU r0)(few:r0.2.1.length<=200)(ch:fW r0 ds)(ln:ds.length<=63)(q:E.rt (.bl true)) :
  at4 E (nU ns cs n r0 (pR a r0 ds us) (bQ (bB r0 ds)) y6 y7 y8 (some (.sh true (eN (bB r0 ds)))) none none):=by
 have okl:=(lD ok0 ch).1;refine⟨_,rfl,kS _ _,λb=>?_⟩;refine⟨a,_,_,⟨true,rfl⟩,r0,ds,rfl,rfl,by omega,_,rfl,(λz=>by cases z),λk ρ=>∃(m:Slot) (st:List PV) (y11:Option Slot),K0 m=true/\NK y11/\mD st (bB r0 (ds.take k))/\st.length<=1+k/\ρ=nU ns cs n r0 (some m) (bQ (bB r0 ds)) y6 y7 y8 (some (.sh true (eN (bB r0 ds)))) (some (.kp true (.ob b) [(b,st,[])])) y11,⟨_,_,none,rfl,nS,⟨[],.non,?_⟩,bx9 _,rfl⟩,?_,?_⟩
 ·show [sQ (aZ r0.1 r0.2.1)] = []++[sP .non (bB r0 [])]
  show [PV.tup [.non,aZ r0.1 r0.2.1,.tup []]] = [PV.tup [.non,aZ r0.1 r0.2.1,.tup (intz r0.2.2)]];rw[e0];rfl
 ·rintro k y ρ hy ⟨m,st,y11,fm,h11,lst,sl,rfl⟩
  obtain⟨p,hp,rfl⟩:=as9 hy
  obtain⟨c1,sk,e1,e2⟩:=as8 ch hp
  obtain⟨okr,l1,l2⟩:=lD ok0 c1
  have kl:k<ds.length:=(by4.mp hp).1;rw[bB5]at l2;generalize bB r0 (ds.take k)=r at *
  obtain⟨bd,dn,okp,_,_⟩:=sk
  have bd':bO r.1 r.2.1 r.2.2 (mF p.1)=false:=by rw[as6];exact bd
  refine as7 (pD _) ?_;refine⟨m,rfl,fm,b,st,[],rfl,?_,_,rfl,?_,r,mF p.1,?_,lst,okr,by omega,by omega,(λz=>by rw[bd']at z;cases z),λ_ r' dn' ok' k1 k2=>?_⟩
  ·exact at0 [some (.sh true (.scr ns)),si n,some (.sh true (.lst (intz cs))),some (.sh true (aZ r0.1 r0.2.1)),some (.sh true m.val),some (.sh true (.tup (intz (bQ (bB r0 ds))))),y6,y7,y8,some (.sh true (eN (bB r0 ds)))] [some (.sh true (tP p.1))] rfl ⟨eO,eO,eO,eO,eO,eO,h6,h7,h8,eO,trivial⟩ ⟨eO,trivial⟩
  ·show (flat (tP p.1)&&true)=true
   rw[pD];rfl
  ·rw[<- K2];rfl
  ·obtain rfl:=dn'.uniq (K3 dn)
   refine⟨.sh true m.val,_,some (.sh true (tP p.1)),rfl,eO,by rw[e1];exact⟨st,_,rfl⟩,?_,rfl⟩;rw[bx8,bB6];omega
 ·rintro ρ ⟨m,st,y11,fm,h11,lst,sl,rfl⟩
  have e:ds.take (fX ds).length=ds:=by unfold fX;rw[bx7,bA4]
  rw[e]at lst;refine⟨_,rfl,_,_,_,rfl,rfl,rfl,_,rfl,_,_,_,rfl,rfl,rfl,bB r0 ds,rfl,okl,_,rfl,.inl ⟨_,_,rfl,rfl⟩,(k4 2 _).2,?_⟩;refine⟨_,rfl,?_⟩;show if cC 3 (.tup (intz (bQ (bB r0 ds)))) (.tup (intz (bQ (bB r0 ds))))=true then _ else _
  rw[(k4 2 _).1];refine aU ⟨b,_,_,⟨true,rfl⟩,bB r0 ds,rfl,lst,okl,_,rfl,.inl ⟨_,_,rfl,rfl⟩,(k4 2 _).2,_,rfl,?_⟩;show if cC 3 (.tup (intz (bQ (bB r0 ds)))) (.tup (intz (bQ (bB r0 ds))))=true then _ else _
  rw[(k4 2 _).1];refine aU ⟨b,_,_,⟨true,rfl⟩,bB r0 ds,rfl,lst,_,rfl,_,_,_,rfl,rfl,rfl,.inl ⟨_,_,rfl,rfl⟩,(K5 0 _ _).2,trivial,?_⟩;show E.rt (.bl (cC 3 (aZ (bB r0 ds).1 (bB r0 ds).2.1) (aZ (bB r0 ds).1 (bB r0 ds).2.1)));rw[(K5 0 _ _).1];exact q
theorem br0 (h6:NK y6)(h7:NK y7)(h8:NK y8)(e0:r0.2.2 = [])(ok0:cU r0)(few:r0.2.1.length<=200)(ch:fW r0 ds)(ln:ds.length<=63)(q:E.rt (.bl true)) :
  at5 E (nU ns cs n r0 (pR a r0 ds us) (bQ (bB r0 ds)) y6 y7 y8 none none none):=by
 refine⟨_,rfl,a,_,_,⟨true,rfl⟩,r0,ds,rfl,rfl,by omega,r0,ds,rfl,e0,ok0,few,ch,by omega,trivial,?_⟩;refine⟨_,rfl,rfl,_,rfl,aN ⟨_,rfl,a,_,_,⟨true,rfl⟩,bB r0 ds,rfl,nT,a,_,_,⟨true,rfl⟩,bB r0 ds,rfl,nT,dD,iE (ws':=[]),.inl ⟨_,_,rfl,rfl⟩,(wB _).2,_,rfl,?_⟩⟩;show if (!cC 4 (eN (bB r0 ds)) (eN (bB r0 ds)))=true then _ else _
 rw[(wB _).1];exact aN (bq9 h6 h7 h8 e0 ok0 few ch ln q)
theorem at8 (hn:ns.length<=63)(cl:cs.length<=63)(n0:1<=n)(n1:n<=40)(q:E.rt (.bl true)) :
  at6 E [some (.sh true (.scr ns)),si n,some (.sh true (.lst (intz cs))),none,none,none,none,none,none,none,none,none]:=by
 refine⟨_,rfl,_,rfl,ns,1,n,rfl,hn,by decide,by decide,by omega,by omega,λws ls wl fl=>⟨trivial,?_⟩⟩;have ok:cU (ws,ls,[]):=⟨by have:=wl.many;rw[<- this]at wl;exact wl,by have:=wl.many;show ws.length<=40;omega,rfl⟩;refine⟨_,rfl,kS ws ls,λa=>?_⟩;refine⟨a,_,_,⟨true,rfl⟩,(ws,ls,[]),rfl,⟨[],.non,rfl⟩,ok,trivial,?_⟩;refine⟨_,rfl,_,rfl,(λz=>by cases z),λk ρ=>∃(ds us:List dE) (y6 y7 y8:Option Slot),NK y6/\NK y7/\NK y8/\fW (ws,ls,[]) (ds++us.reverse)/\ds.length+us.length<=k/\ρ=nU ns cs n (ws,ls,[]) (pR a (ws,ls,[]) ds us) (bQ (bB (ws,ls,[]) ds)) y6 y7 y8 none none none,⟨[],[],none,none,none,nS,nS,nS,trivial,bx9 _,rfl⟩,?_,?_⟩
 ·rintro k y ρ hy ⟨ds,us,y6,y7,y8,h6,h7,h8,ch,ln,rfl⟩
  have kl:k<63:=by
   have:=(by4.mp hy).1
   rw[bM]at this;omega
  obtain⟨c,rfl⟩:∃c,y = .int c:=by
   have:=bH0 hy
   obtain⟨c,_,e⟩:=bB8.mp this
   exact⟨c,e.symm⟩
  refine kX ?_;exact bq8 h7 h8 (by omega) n1 ok fl ch ln kl λds' us' y7 y8 h7 h8 ch' ln'=>⟨ds',us',si c,y7,y8,eO,h7,h8,ch',ln',rfl⟩
 ·rintro ρ ⟨ds,us,y6,y7,y8,h6,h7,h8,ch,ln,rfl⟩
  rw[bM]at ln;exact br0 h6 h7 h8 rfl ok fl (iZ.mp ch).1 (by omega) q
end
theorem br1:e8 at7 ["script","many","cells","web","keeper","ahead","cell","told","burning","state","other","deed"] K8:=by
 rintro xs Q ⟨ns,rfl,hn,q⟩;refine⟨_,rfl,_,ns,0,rfl,.inl rfl,by decide,_,_,rfl,rfl,(by show (0:Int)<12;decide),_,_,rfl,rfl,trivial,?_⟩;refine⟨_,rfl,_,_,rfl,rfl,bV ns,trivial,?_⟩;refine⟨_,rfl,_,ns,0,rfl,.inl rfl,by decide,_,_,rfl,rfl,⟨by decide,by decide⟩,_,_,rfl,rfl,(by show (0:Int)<8;decide),.inl ⟨_,_,rfl,rfl,_,rfl,?_⟩⟩;dsimp only;generalize ns.getD (0:Int).toNat 0=c;have h12:0<=c%12/\c%12<12:=⟨bH8 _ (by decide),bJ1 _ (by decide)⟩;show if decide (c/12%8=1)=true then _ else _
 cases decide (c/12%8=1) with
 |false=>exact aN (at8 hn hn (by omega) (by omega) q)
 |true=>
  refine aU ⟨_,rfl,_,ns,0,rfl,.inl rfl,by decide,_,_,rfl,rfl,⟨by decide,by decide⟩,_,_,rfl,rfl,(by show (0:Int)<28;decide),_,_,rfl,rfl,trivial,?_⟩;refine⟨_,rfl,_,rfl,_,rfl,bV ns,trivial,?_⟩;dsimp only;generalize ns.getD (0:Int).toNat 0/96=d;have h28:0<=d%28/\d%28<28:=⟨bH8 _ (by decide),bJ1 _ (by decide)⟩
  have:=at8 (ns:=ns) (cs:=ns.take (12:Int).toNat) (n:=13+d%28) (E:={ nx:=λ_=>Q .non,rt:=Q }) hn (by rw[bB5];omega) (by omega) (by omega) q
  rw[<- ag9 (ns:=ns) (w:=12) (by decide)]at this;exact this
end Core
namespace K_k90
open PySem PySem.W L2 PP Core
theorem _root_.L2.FnScope.au {N P:List Str}{s:Scope}(a:s.kind=.function:=by rfl)(b:s.isCoroutine=false:=by rfl)(c:s.isGenerator=false:=by rfl)(d:N.Nodup:=by decide +kernel)(e:N.take P.length=P:=by rfl)(f:∀x∈P,s.names.lookup x=some .local∨s.names.lookup x=some .cell:=by decide +kernel)(g:∀y∈s.names,y.2≠.free:=by decide +kernel):FnScope N P s:=⟨a,b,c,d,e,f,g⟩
def bG (i:Nat):Stmt:=PySem.Challenge.pw_kindleweb_k90_whole_from_the_begin.main.body.getD i (.Pass ⟨0,0,0,0⟩)
def bH (i j:Nat):Stmt:=match bG i with
 |.ClassDef _ _ _ b _ _ _ _ _ _ _=>b.getD j (.Pass ⟨0,0,0,0⟩)
 |_=>.Pass ⟨0,0,0,0⟩
structure FK (K:Frag)(n:Str)(i:Nat)(f:ax)(d:FuncData):Prop where
 a:nsIn K mainGlobals n=some (some (.ref f))
 F:d8 K n n (bG i) f d
structure FM (K:Frag)(mg:Str->Option av)(n:Str)(i:Nat)(f:ax)(d:FuncData):Prop where
 F:d8 K n n (bG i) f d
 m:mg n=some (.ref f)
theorem FK.M {K:Frag}{mg:Str->Option av}{n:Str}{i:Nat}{f:ax}{d:FuncData}{h:Heap}(z:FK K n i f d)(X:K.In h)(G:h.Ns mainGlobals mg):FM K mg n i f d:=⟨z.F,mg_of X G z.a⟩
abbrev Hb (x:Str)(ps:List Str)(i:Nat):Prop:=∀(kV doc pm:av) (an:Option ax) (cdv ct:av) (us:List av),us.length=ps.length->bindArgs (fnOf x x (eV (bG i)) (cY (bG i)) (aT (bG i)) .none kV doc pm an cdv ct) ⟨us,[]⟩=pure (ps.zip us)
theorem wE {A:az}{k:Nat}(hr:bL k A):A.units+3<cLine:=by have:=hr.units;omega
section
variable {P:ay}{w:ba}{K:Frag}{mg:Str→Option av}{base:Heap}{f:ax}{fd:FuncData}{k i:Nat}{x:Str}{ps N:List Str}
theorem Df.au {p:cG}(F:FM K mg x i f fd)(S:FnScope N ps (aT (bG i)))(body:∀(cdv:av) (A:az) (outer:List Env) (s:aw) (H:Hp) (E:XK),bL k (A.deeper (PyProof.Rows.envOfC x (aT (bG i)) s.heap.objs.size f cdv))->∃t,gD (cW fE P w K mg base N x (aT (bG i)) f cdv A outer s H E).nox (cY (bG i)) t/\∀xs Q,p xs Q->t { nx:=λ_=>Q .non,rt:=Q } (eI N xs))(hb:Hb x ps i:=by intro _ _ _ _ _ _ us hl;first|(obtain⟨_,rfl⟩:=us1 hl;rfl)|(obtain⟨_,_,rfl⟩:=us2 hl;rfl)|(obtain⟨_,_,_,rfl⟩:=v8 hl;rfl)|(obtain⟨_,_,_,_,rfl⟩:=us4 hl;rfl)|(obtain⟨_,_,_,_,_,rfl⟩:=us5 hl;rfl))(len:∀xs Q,p xs Q->xs.length=ps.length:=by intro xs Q h;repeat (first|(obtain⟨rfl,_⟩:=h;rfl)|(obtain⟨_,h⟩:=h))):Df P w K mg base (k+1) x ps p:=
 Df.of F.F F.m S hb len body
theorem cI.au {p:fA}(F:FM K mg x i f fd)(S:FnScope N ps (aT (bG i)))(t:(Str->Prop)->aV)(rd:∀Ep xs Q,p Ep xs Q->t Ep { nx:=λ_=>Q .non,rt:=Q } (eI N xs))(body:∀(cdv:av) (A:az) (outer:List Env) (s:aw) (H:Hp) (E:XK) (Ep:Str->Prop),bL k (A.deeper (PyProof.Rows.envOfC x (aT (bG i)) s.heap.objs.size f cdv))->lY (cW (bY P w) P w K mg base N x (aT (bG i)) f cdv A outer s H E) (EX K H Ep)->gD (cW (bY P w) P w K mg base N x (aT (bG i)) f cdv A outer s H E) (cY (bG i)) (t Ep))(hb:Hb x ps i:=by intro _ _ _ _ _ _ us hl;first|(obtain⟨_,rfl⟩:=us1 hl;rfl)|(obtain⟨_,_,rfl⟩:=us2 hl;rfl)|(obtain⟨_,_,_,rfl⟩:=v8 hl;rfl)|(obtain⟨_,_,_,_,rfl⟩:=us4 hl;rfl)|(obtain⟨_,_,_,_,_,rfl⟩:=us5 hl;rfl))(len:∀Ep xs Q,p Ep xs Q->xs.length=ps.length:=by intro Ep xs Q h;repeat (first|(obtain⟨rfl,_⟩:=h;rfl)|(obtain⟨_,h⟩:=h))):cI P w K mg base (k+1) x ps p:=
 cI.of F.F F.m S hb t len rd body
end
section
variable {P:ay}{w:ba}{K:Frag}{mg:Str→Option av}{base:Heap}{f:ax}{fd:FuncData}
theorem nd2:(["ahead","behind"]:List Str).Nodup:=by decide +kernel
abbrev at9:Stmt:=bG 8
theorem scR:FnScope ["things"] ["things"] (aT at9):=.au
theorem K9 {ns:af}{i:Nat}{x y:V}(h1:(ns.map V.int)[i]? = some x)(h2:((ns.map V.int).drop 1)[i]? = some y):∃p q:Int,x = .int p/\y = .int q/\(ns.zip (ns.drop 1))[i]? = some (p,q):=by
 rw[bz1]at h1;rw[<- List.map_drop,bz1]at h2;cases e1:ns[i]? with
 |none=>rw[e1]at h1;cases h1
 |some p=>
  cases e2:(ns.drop 1)[i]? with
  |none=>rw[e2]at h2;cases h2
  |some q=>
   rw[e1]at h1;rw[e2]at h2
   exact⟨p,q,(bz3 h1).symm,(bz3 h2).symm,List.getElem?_zip_eq_some.mpr ⟨e1,e2⟩⟩
theorem br2 (B:Bt mg)(F:d8 K "rises" "rises" at9 f fd):bZ P w K mg base fE 1 f fd ["things"] (ae9 K):=by
 refine F.ok scR (λvs H Q E h=>?_) (λcdv A outer s H vs Q E hr h=>?_)
 ·obtain⟨a,ns,rfl,_⟩:=h
  rfl
 obtain⟨a,ns,rfl,hS,hn,q⟩:=h
 have lz:((ns.map V.int).drop 1).length<=sizeLine:=bE3 (iM (by rw[bF9,bx7];omega));have lz2:((ns.map V.int).drop 1).length<=(ns.map V.int).length:=by rw[bF9];omega
 have lz3:(ns.zip (ns.drop 1)).length=((ns.map V.int).drop 1).length:=by rw[List.length_zip,bF9,bF9,bx7];omega
 rcases hS with hS|hS
 ·refine⟨_,mJ (nW (t8 (yG rfl) rfl B.all PyProof.Rows.boot_all (eC (T9 (N:=["ahead","behind"]) (fr:=[none,none]) rfl (gA.of rfl rfl) (aK4 rfl B.zip (eC (pv 0) (eC (t9 V4 (pv 0) (x9 pT) x8) eS)))
   ⟨λ_ _ _ _=>show PG _ _ (pX K 2 (kC (fJ 0) (kC (fJ 1) pV))) from pY rfl (jM (hU (i:=0) nd2 rfl (Or.inl rfl) (.inr rfl)) (jM (hU (i:=1) nd2 rfl (Or.inl rfl) (.inr rfl)) pW)),λ_ _ _ _=>tN,λ_ _ _ _=>wT t5 (pv 0) (pv 1) (fM _)⟩) eS))),?_⟩
  refine⟨_,rfl,_,rfl,1,rfl,a,_,rfl,hS,λp hp=>?_,λe=>?_⟩
  ·have s1:=bS hp (.tup (dX (ns.map V.int) (some 1) none))
   have hb:aS K (upd H p (.tup (dX (ns.map V.int) (some 1) none))) p ((ns.map V.int).drop 1):=aS.of (by rw[aY,yJ]);refine⟨a,p,_,_,rfl,s1.tup hS,hb,yI (V3 (s1.tup hS) hb lz2) (λi acc _=>acc=((ns.zip (ns.drop 1)).take i).map λ(p:Int×Int)=>V.bl (decide (p.1<p.2))) lz (λ_ _=>rfl) (λ_ _ _ _ _ h=>h) (λi x acc D H' hi hR c hP=>?_) (λD acc H' hD sm hDa aj hP=>?_)⟩
   ·obtain⟨T,x1,y1,rfl,hT,h1,h2⟩:=hR
    obtain⟨m,k,rfl,rfl,hz⟩:=K9 h1 h2
    refine⟨T,_,rfl,aS.of hT,rfl,_,_,rfl,_,_,rfl,rfl,((Wk.refl _).set (i:=0) rfl).set (i:=1) rfl,tR ⟨_,rfl,_,rfl,_,_,rfl,rfl,c.yes (aE.refl _) ?_⟩⟩;rw[uS hz,hP]
   ·refine⟨D,(ns.zip (ns.drop 1)).map λ(p:Int×Int)=>decide (p.1<p.2),rfl,aR.of ?_,q _ (s1.trans sm)⟩
    rw[hDa,hP,<- lz3,bA4,bK4];rfl
  ·have hb:aS K H a ((ns.map V.int).drop 1):=by
    have:(ns.map V.int).drop 1=ns.map V.int:=by rw[<- yJ];exact e
    rw[this];exact hS
   refine⟨a,a,_,_,rfl,hS,hb,yI (V3 hS hb lz2) (λi acc _=>acc=((ns.zip (ns.drop 1)).take i).map λ(p:Int×Int)=>V.bl (decide (p.1<p.2))) lz (λ_ _=>rfl) (λ_ _ _ _ _ h=>h) (λi x acc D H' hi hR c hP=>?_) (λD acc H' hD sm hDa aj hP=>?_)⟩
   ·obtain⟨T,x1,y1,rfl,hT,h1,h2⟩:=hR
    obtain⟨m,k,rfl,rfl,hz⟩:=K9 h1 h2
    refine⟨T,_,rfl,aS.of hT,rfl,_,_,rfl,_,_,rfl,rfl,((Wk.refl _).set (i:=0) rfl).set (i:=1) rfl,tR ⟨_,rfl,_,rfl,_,_,rfl,rfl,c.yes (aE.refl _) ?_⟩⟩;rw[uS hz,hP]
   ·refine⟨D,(ns.zip (ns.drop 1)).map λ(p:Int×Int)=>decide (p.1<p.2),rfl,aR.of ?_,q _ sm⟩
    rw[hDa,hP,<- lz3,bA4,bK4];rfl
 ·refine⟨_,mJ (nW (t8 (yG rfl) rfl B.all PyProof.Rows.boot_all (eC (T9 (N:=["ahead","behind"]) (fr:=[none,none]) rfl (gA.of rfl rfl) (aL0 rfl B.zip (eC (pv 0) (eC (t9 xE (pv 0) (x9 pT) x8) eS)))
   ⟨λ_ _ _ _=>show PG _ _ (pX K 2 (kC (fJ 0) (kC (fJ 1) pV))) from pY rfl (jM (hU (i:=0) nd2 rfl (Or.inl rfl) (.inr rfl)) (jM (hU (i:=1) nd2 rfl (Or.inl rfl) (.inr rfl)) pW)),λ_ _ _ _=>tN,λ_ _ _ _=>wT t5 (pv 0) (pv 1) (fM _)⟩) eS))),?_⟩
  refine⟨_,rfl,_,rfl,1,rfl,a,_,rfl,hS,λp hp=>?_⟩;have s1:=bS hp (.lst (dX (ns.map V.int) (some 1) none));have hb:aR K (upd H p (.lst (dX (ns.map V.int) (some 1) none))) p ((ns.map V.int).drop 1):=aR.of (by rw[aY,yJ]);refine⟨a,p,_,_,rfl,s1.seq hS,hb,yI (aL1 (s1.seq hS) hb lz2) (λi acc _=>acc=((ns.zip (ns.drop 1)).take i).map λ(p:Int×Int)=>V.bl (decide (p.1<p.2))) lz (λ_ _=>rfl) (λ_ _ _ _ _ h=>h) (λi x acc D H' hi hR c hP=>?_) (λD acc H' hD sm hDa aj hP=>?_)⟩
  ·obtain⟨T,x1,y1,rfl,hT,h1,h2⟩:=hR
   obtain⟨m,k,rfl,rfl,hz⟩:=K9 h1 h2
   refine⟨T,_,rfl,aS.of hT,rfl,_,_,rfl,_,_,rfl,rfl,((Wk.refl _).set (i:=0) rfl).set (i:=1) rfl,tR ⟨_,rfl,_,rfl,_,_,rfl,rfl,c.yes (aE.refl _) ?_⟩⟩;rw[uS hz,hP]
  ·refine⟨D,(ns.zip (ns.drop 1)).map λ(p:Int×Int)=>decide (p.1<p.2),rfl,aR.of ?_,q _ (s1.trans sm)⟩
   rw[hDa,hP,<- lz3,bA4,bK4];rfl
abbrev au0:Stmt:=bG 10
theorem wF:FnScope ["web","around","one","other"] ["web"] (aT au0):=.au
theorem br3 (F:d8 K "near_lists" "near_lists" au0 f fd):bZ P w K mg base fE 1 f fd ["web"] af0:=by
 refine F.ok wF (λvs H Q E h=>?_) (λcdv A outer s H vs Q E hr h=>?_)
 ·obtain⟨v,ws,ls,rfl,_⟩:=h
  rfl
 obtain⟨v,ws,ls,rfl,W,hn,hm,hin,q⟩:=h
 refine⟨_,mI (aI7 (i:=1) (N:=["want"]) (fr:=[none]) rfl (gA.of rfl rfl) (M9 (o3 xD (pv 0) pT (λ_ _=>rfl)))
   ⟨λ_ _ _ _=>hU (i:=0) (bA5 _ _) rfl (Or.inl rfl) (.inr rfl),λ_ _ _ _=>tN,λ_ _ _ _=>t6 eS⟩ wF.nd rfl rfl rfl)
  (mI (N4 PassesOwn.never rfl (M9 (o3 xD (pv 0) pT (λ_ _=>rfl))) (pY (n:=2) rfl (jM (hU (i:=2) wF.nd rfl (Or.inl rfl) (.inr rfl)) (jM (hU (i:=3) wF.nd rfl (Or.inl rfl) (.inr rfl)) pW)) )
   (mI (lF (tE bH9 bJ5 bJ6 qK (o3 xC (pv 1) (pv 2) (λ_ _=>rfl)) (eC (pv 3) eS)))
   (mJ (lF (tE bH9 bJ5 bJ6 qK (o3 xC (pv 1) (pv 3) (λ_ _=>rfl)) (eC (pv 2) eS))))))
  (mJ (nW (pv 1)))),?_⟩
 obtain⟨a,p,q',ys,rfl,ha,hp,hq,hL⟩:=W.at_
 have lw:(ws.map V.int).length=ws.length:=bx7 _
 refine⟨_,rfl,a,_,_,_,rfl,rfl,aS.of ha,rfl,p,rfl,⟨_,aS.of hp⟩,aI9 (aI8 (aS.of hp)) (λi acc H'=>∃bs:List ax,acc=bs.map V.ref/\bs.length=i/\bs.Nodup/\∀b∈bs,H b=none/\H' b=some (.lst [])) (by rw[lw];exact bE3 (qO hn))
  (λD hD=>⟨[],rfl,rfl,List.nodup_nil,λ_ z=>nomatch z⟩) (λi x acc D H' hx c hPv=>?_) (λD acc H' hD sm hDa aj hPv=>?_)⟩
 ·obtain⟨bs,rfl,hbl,nd,hb⟩:=hPv
  refine⟨wk0 (n:=none),tR ⟨bB2 _,λr hr'=>?_⟩⟩;have hrD:r≠D:=λz=>by rw[z,c.acc]at hr';cases hr'
  have hrH:H r=none:=c.same.free hr';refine c.yes (bS hr' _) ⟨bs++[r],by simp,by simp[hbl],?_,λb hm=>?_⟩
  ·refine bG6.mpr ⟨nd,bA5 _ _,λb hb1 b' hb2 e=>?_⟩
   rw[by0.mp hb2]at e;rw[e]at hb1;rw[(hb r hb1).2]at hr';cases hr'
  ·rcases bB3.mp hm with hm|hm
   ·have hbD:b≠D:=λz=>by
     rw[z]at hm
     have:=(hb D hm).2
     rw[c.acc]at this
     have:bs.map V.ref = []:=by injection this with e1;injection e1
     have:bs = []:=List.map_eq_nil_iff.mp this
     rw[this]at hm;simp at hm
    refine⟨(hb b hm).1,?_⟩;rw[aH hbD,aH (dH (hb b hm).2 hr')];exact (hb b hm).2
   ·rw[by0.mp hm]
    exact⟨hrH,by rw[aH hrD,aY]⟩
 ·obtain⟨bs,rfl,hbl,nd,hb⟩:=hPv
  rw[lw]at hbl;have R0:kJ H H' D bs (λk=>bT (ls.take 0) k):=by
   refine⟨hD,λb hm=>⟨(hb b hm).1,λz=>?_⟩,nd,hDa,λk b hk=>(hb b (bH0 hk)).2,sm⟩;rw[z]at hm
   have:=(hb D hm).2
   rw[hDa]at this
   have:bs.map V.ref = []:=by injection this with e1;injection e1
   have:bs = []:=List.map_eq_nil_iff.mp this
   rw[this]at hm;simp at hm
  have lL:=hL.length
  refine⟨_,rfl,a,_,_,_,rfl,rfl,aS.of (sm _ _ ha),rfl,q',rfl,⟨_,aS.of (sm _ _ hq)⟩,aA1 (K:=K) (a:=q') (xs:=ys) (λi σ H2=>∃x y:Option V,σ = [some (.ref a),some (.ref D),x,y]/\kJ H H2 D bs (λk=>bT (ls.take i) k))
   ⟨none,none,rfl,R0⟩ (λi σ H2 _ ⟨_,_,_,R⟩=>aS.of (R.same _ _ hq)) ?_ ?_⟩
  ·rintro i y σ H2 hi ⟨x1,x2,rfl,R⟩
   obtain⟨l,b,hl,rfl,hbt⟩:=hL.get hi
   have hlm:l∈ls:=bH0 hl
   obtain⟨⟨h1,h2⟩,h3,h4⟩:=hin l hlm
   have k1:l.1.toNat<bs.length:=by omega
   have k2:l.2.toNat<bs.length:=by omega
   have e1:bs[l.1.toNat]? = some (bs[l.1.toNat]):=by1 k1;have e2:bs[l.2.toNat]? = some (bs[l.2.toNat]):=by1 k2;refine⟨b,_,rfl,aS.of (R.same _ _ hbt),rfl,_,_,rfl,_,_,rfl,rfl,?_⟩;refine⟨_,rfl,_,rfl,D,_,_,.ref bs[l.1.toNat],rfl,rfl,aR.of R.row,qU h1 (by rw[bz1,e1];rfl),o4 (aR.of (R.rows _ _ e1)),_,rfl,_,_,_,rfl,rfl,R.rows _ _ e1,?_,?_⟩
   ·rw[bx7]
    have:=qT (ls.take i) (l.1.toNat:Nat)
    rw[bB5]at this;exact iM (by omega)
   ·have R1:=R.app e1 l.2
    refine⟨_,rfl,_,rfl,D,_,_,.ref bs[l.2.toNat],rfl,rfl,aR.of R1.row,qU h3 (by rw[bz1,e2];rfl),o4 (aR.of (R1.rows _ _ e2)),_,rfl,_,_,_,rfl,rfl,R1.rows _ _ e2,?_,?_⟩
    ·rw[bx7]
     have:=qT (ls.take i) (l.2.toNat:Nat)
     rw[bB5]at this;split
     ·rw[bx8,bB6];exact iM (by omega)
     ·exact iM (by omega)
    ·have R2:=R1.app e2 l.1
     refine⟨_,_,rfl,R2.congr λk hk=>?_⟩;rw[yC hl];have c1:(k=l.1.toNat)↔l.1=(k:Int):=by omega
     have c2:(k=l.2.toNat)↔l.2=(k:Int):=by omega
     by_cases d1:k=l.1.toNat
     ·by_cases d2:k=l.2.toNat
      ·rw[if_pos d2,if_pos d1,if_pos (c1.mp d1),if_pos (c2.mp d2)];simp
      ·rw[if_neg d2,if_pos d1,if_pos (c1.mp d1),if_neg (λz=>d2 (c2.mpr z))];simp
     ·by_cases d2:k=l.2.toNat
      ·rw[if_pos d2,if_neg d1,if_neg (λz=>d1 (c1.mpr z)),if_pos (c2.mp d2)];simp
      ·rw[if_neg d2,if_neg d1,if_neg (λz=>d1 (c1.mpr z)),if_neg (λz=>d2 (c2.mpr z))];simp
  ·
   rintro σ H2 ⟨x1,x2,rfl,R⟩;refine⟨_,rfl,q D bs H2 hbl ?_⟩;rw[lL,bA4]at R;exact R
theorem br4:FnScope ["web"] ["web"] (aT (bG 9)):=.au
theorem br5 (B:Bt mg)(F:FM K mg "hearths_in" 9 f fd) :Df P w K mg base 1 "hearths_in" ["web"] oV:=
 Df.au F br4 (λcdv A outer s H E hr=>by
  exact⟨(ad2),(aW (bN (jD B (aB (bD (qv 0) aF) aD)))),aV9⟩)
theorem wG:FnScope ["hearths","inside","hearth"] ["hearths"] (aT (bG 14)):=.au
theorem br6 (B:Bt mg)(F:FM K mg "marked" 14 f fd) :Df P w K mg base 1 "marked" ["hearths"] nH:=
 Df.au F wG (λcdv A outer s H E hr=>by
  have nd:=wG.nd;have hu:=mQ hr
  exact⟨(ae1),(aQ (jC (i:=1) nd Z5)
   (aQ (iU 2 nd (fU (qv 0))
    (aW (Z8 hu (i:=1) (qv 2) oK)))
   (aW (oN 1)))),aW4⟩)
theorem br7 (B:Bt mg)(F:FM K mg "marked" 14 f fd) :Df P w K mg base 1 "marked" ["hearths"] vD:=
 Df.au F wG (λcdv A outer s H E hr=>by
  have nd:=wG.nd;have hu:=mQ hr
  exact⟨aj6,(aQ (jC (i:=1) nd aR2)
   (aQ (iU 2 nd (fU (qv 0))
    (aW (aR4 hu (i:=1) (qv 2) oK)))
   (aW (oN 1)))),bg8⟩)
theorem br8:FnScope ["hearths","inside"] ["hearths","inside"] (aT (bG 15)):=.au
theorem br9 (B:Bt mg)(F:FM K mg "count_inside" 15 f fd) :Df P w K mg base 1 "count_inside" ["hearths","inside"] uX:=
 Df.au F br8 (λcdv A outer s H E hr=>by
  have hu:=mQ hr
  exact⟨(ae2),(aW (bN (jD B (aB (lW (N:=["hearth","inside"]) (fr:=[none,some 1]) (fU (qv 0)) (λ_ _ _ _=>(aQ9 hu (qv 0) (qv 1))) (λ_ _ _ _=>(qv 0))) aD)))),aW5⟩)
theorem bs0:FnScope ["deed"] ["deed"] (aT (bG 26)):=.au
theorem bs1 (B:Bt mg)(F:FM K mg "told_deed" 26 f fd)(kd_DEED_NUMBERS:KD P w K mg "DEED_NUMBERS" (pC vF)):Df P w K mg base 1 "told_deed" ["deed"] pE:=
 Df.au F bs0 (λcdv A outer s H E hr=>by
  exact⟨(ak7),(aQ (bU (bj1 (bi9 kd_DEED_NUMBERS (bD (qv 0) aF)) (zH (jD B (aB (qv 0) aD)) aF)) (aW aR3) bW)
   (aQ (bU (iA (gN (gZ (bD (qv 0) aF) cO) (jS (gZ (bD (qv 0) aF) cO)))) (aW (bN (cA (aB (bD (qv 0) aF) (aB (bg2 B rfl (aB (lV (qv 0) (kR aF) kQ) aD)) (aB (bg3 B rfl (aB (lV (qv 0) (kR aF) kQ) aD)) aD)))))) bW)
   (aW (bN (eM B (aB (qv 0) aD)))))),bj3⟩)
theorem bs2:FnScope ["self"] ["self"] (aT (bH 30 1)):=.au
theorem bs3 (B:Bt mg){CK:ax}(kc:KC K CK)(M:eR K CK "web_now" f)(F:d8 K "web_now" "Keeper.web_now" (bH 30 1) f fd) :cZ P w K mg base 1 "web_now" ["self"] jZ:=
 cZ.of kc M F bs2 (λ_ _ _ _ _ _ us hl=>by obtain⟨_,rfl⟩:=us1 hl;rfl) aq1 (λst un Ep xs Q h=>by unfold jZ at h;repeat (first|(obtain⟨rfl,_⟩:=h;rfl)|(obtain⟨_,h⟩:=h))) bn9 (λcdv A outer s H E Ep hr hX=>by
  exact (aW (bN (bD (an1 kc 0 (zQ aF)) aF))))
theorem bs4:FnScope ["self"] ["self"] (aT (bH 30 2)):=.au
theorem bs5 (B:Bt mg){CK:ax}(kc:KC K CK)(M:eR K CK "seeds_now" f)(F:d8 K "seeds_now" "Keeper.seeds_now" (bH 30 2) f fd) :cZ P w K mg base 1 "seeds_now" ["self"] lB:=
 cZ.of kc M F bs4 (λ_ _ _ _ _ _ us hl=>by obtain⟨_,rfl⟩:=us1 hl;rfl) aq2 (λst un Ep xs Q h=>by unfold lB at h;repeat (first|(obtain⟨rfl,_⟩:=h;rfl)|(obtain⟨_,h⟩:=h))) bo0 (λcdv A outer s H E Ep hr hX=>by
  exact (aW (bN (bD (an1 kc 0 (zQ aF)) aF))))
theorem bs6:FnScope ["self"] ["self"] (aT (bH 30 5)):=.au
theorem bs7 (B:Bt mg){CK:ax}(kc:KC K CK)(M:eR K CK "deeds" f)(F:d8 K "deeds" "Keeper.deeds" (bH 30 5) f fd) :cZ P w K mg base 1 "deeds" ["self"] pQ:=
 cZ.of kc M F bs6 (λ_ _ _ _ _ _ us hl=>by obtain⟨_,rfl⟩:=us1 hl;rfl) as5 (λst un Ep xs Q h=>by unfold pQ at h;repeat (first|(obtain⟨rfl,_⟩:=h;rfl)|(obtain⟨_,h⟩:=h))) bq4 (λcdv A outer s H E Ep hr hX=>by
  exact (aW (bN (zX (N:=["step"]) (fr:=[none]) (fU (bp6 kc 0 (kR aF) kQ)) (λ_ _ _ _=>(bD (qv 0) aF))))))
theorem bs8:FnScope ["script","k"] ["script","k"] (aT (bG 32)):=.au
theorem bs9 (B:Bt mg)(F:FM K mg "_law_cell" 32 f fd) :Df P w K mg base 1 "_law_cell" ["script","k"] jH:=
 Df.au F bs8 (λcdv A outer s H E hr=>by
  exact⟨(ae6),(aQ (bU (lS (qv 1) (jD B (aB (qv 0) aD))) (aW (bN (bD (qv 0) (qv 1)))) bW)
   (aW (bN aF))),aX1⟩)
theorem au1:FnScope ["web","hearth","found","one","other"] ["web","hearth"] (aT (bG 35)):=.au
theorem bt0 (B:Bt mg)(F:FM K mg "_law_beside" 35 f fd) :Df P w K mg base 1 "_law_beside" ["web","hearth"] w4:=
 Df.au F au1 (λcdv A outer s H E hr=>by
  have nd:=au1.nd
  exact⟨(ar0),(aQ (jC (i:=2) nd (iT aD))
   (aQ (aa6 3 4 nd (fU (bD (qv 0) aF))
    (aQ (bU (gV (qv 3) (qv 1)) (aW (lU 2 (qv 4))) bW)
    (aW (bU (gV (qv 4) (qv 1)) (aW (lU 2 (qv 3))) bW))))
   (aW (oN 2)))),bo8⟩)
theorem au2:FnScope ["cell","many","one","other","word"] ["cell","many"] (aT (bG 38)):=.au
theorem bt1 (B:Bt mg)(F:FM K mg "_law_deed" 38 f fd) :Df P w K mg base 1 "_law_deed" ["cell","many"] vJ:=
 Df.au F au2 (λcdv A outer s H E hr=>by
  have nd:=au2.nd
  exact⟨(al8),(aQ (bK (i:=2) nd (zH (dM (gU (qv 0) aF) (gM (qv 1) aF)) aF))
   (aQ (bK (i:=3) nd (zH (dM (gM (gU (qv 0) aF) (qv 0)) (gM (qv 1) aF)) aF))
   (aQ (bU (gV (dM (qv 0) aF) aF) (aW (bK (i:=3) nd (gM (qv 1) (dM (gU (qv 0) aF) (aQ6 aF aF))))) bW)
   (aQ (bK (i:=4) nd (bD (iT (aB cO (aB cO (aB cO (aB cO (aB cO aD)))))) (dM (qv 0) aF)))
   (aQ (bU (iA (gN (gZ (qv 4) cO) (jS (gZ (qv 4) cO)))) (aW (bN (cA (aB (qv 4) (aB (qv 2) aD))))) bW)
   (aQ (bU (gZ (qv 4) cO) (aW (bN (cA (aB (qv 4) (aB (qv 2) (aB (bD (iT (aB (dM (gU (qv 0) aF) aF) (aB (dM (gU (qv 0) aF) aF) (aB (zQ aF) (aB aF (aB aF aD)))))) (dM (gU (qv 0) aF) aF)) aD)))))) bW)
   (aW (bN (cA (aB (qv 4) (aB (qv 2) (aB (qv 3) aD)))))))))))),bj9⟩)
theorem au3:FnScope ["web","seeds","deed","wants","links","one","number","pair"] ["web","seeds","deed"] (aT (bG 39)):=.au
theorem bt2 (B:Bt mg)(F:FM K mg "_law_done" 39 f fd) :Df P w K mg base 1 "_law_done" ["web","seeds","deed"] vK:=
 Df.au F au3 (λcdv A outer s H E hr=>by
  have nd:=au3.nd;have hu3:=wE hr
  exact⟨(G1),(aQ (ah0 3 4 nd (qv 0))
   (aQ (bK (i:=5) nd (bD (qv 2) aF))
   (aQ (bU (iA (gN (lS (qv 5) aF) (jS (zJ (qv 5) (jD B (aB (qv 3) aD)))))) (aW (bN iS)) bW)
   (aQ (bU (gZ (bD (qv 2) aF) cO) (aW (bN (ak2 (zS (qv 5) (qv 1)) iS (cA (aB (qv 0) (aB (eM B (aB (af7 B (aB (m5 (qv 1) (cA (aB (qv 5) aD))) aD)) aD)) aD)))))) bW)
   (aQ (bU (gZ (bD (qv 2) aF) cO) (aW (bN (ak2 (zS (qv 5) (qv 1)) (cA (aB (qv 0) (aB (eM B (aB (lW (N:=["seed","one"]) (fr:=[none,some 5]) (fU (qv 1)) (λ_ _ _ _=>(Z3 (qv 0) (qv 1))) (λ_ _ _ _=>(qv 0))) aD)) aD))) iS))) bW)
   (aQ (bK (i:=6) nd (bD (qv 2) aF))
   (aQ (bU (gZ (bD (qv 2) aF) cO) (aQ (bU (iA (gN (lS (qv 6) aF) (gN (zI (qv 6) aF) (jS (gV (bD (qv 3) (qv 5)) (qv 6)))))) (aW (bN iS)) bW)
    (aW (bN (cA (aB (cA (aB (m5 (m5 (lV (qv 3) kQ (kR (qv 5))) (cA (aB (qv 6) aD))) (lV (qv 3) (kR (gM (qv 5) aF)) kQ)) (aB (qv 4) aD))) (aB (qv 1) aD)))))) bW)
   (aQ (bK (i:=7) nd (cA (aB (aa1 B rfl (aB (qv 5) (aB (qv 6) aD))) (aB (zP B rfl (aB (qv 5) (aB (qv 6) aD))) aD))))
   (aQ (bU (iA (gN (lS (qv 6) aF) (gN (zJ (qv 6) (jD B (aB (qv 3) aD))) (gN (gV (qv 6) (qv 5)) (jS (gV (ai0 hu3 (qv 7) (qv 4)) (E7 (bD (qv 2) aF) cO))))))) (aW (bN iS)) bW)
   (aQ (bU (gZ (bD (qv 2) aF) cO) (aW (bN (cA (aB (cA (aB (qv 3) (aB (eM B (aB (F3 B (aB (m5 (qv 4) (cA (aB (qv 7) aD))) aD)) aD)) aD))) (aB (qv 1) aD))))) bW)
   (aW (bN (cA (aB (cA (aB (qv 3) (aB (eM B (aB (lW (N:=["link","pair"]) (fr:=[none,some 7]) (fU (qv 4)) (λ_ _ _ _=>(zV hu3 (qv 0) (qv 1))) (λ_ _ _ _=>(qv 0))) aD)) aD))) (aB (qv 1) aD))))))))))))))),bk4⟩)
theorem bt3:FnScope ["web","number"] ["web","number"] (aT (bG 11)):=.au
theorem bt4 (B:Bt mg)(F:FM K mg "is_hearth" 11 f fd)(d_hearths_in:Df P w K mg base 1 "hearths_in" ["web"] oV):Df P w K mg base 2 "is_hearth" ["web","number"] jG:=
 Df.au F bt3 (λcdv A outer s H E hr=>by
  exact⟨(ad3),(aW (bN (rE (Z2 (qv 1) aF) (uB (aQ7 (qv 1) (bX d_hearths_in hr (aB (qv 0) aD))))))),aW0⟩)
theorem wH:FnScope ["hearths","some","gone"] ["hearths","some"] (aT (bG 16)):=.au
theorem bt5 (B:Bt mg)(F:FM K mg "without" 16 f fd)(d_marked:Df P w K mg base 1 "marked" ["hearths"] nH):Df P w K mg base 2 "without" ["hearths","some"] nM:=
 Df.au F wH (λcdv A outer s H E hr=>by
  have nd:=wH.nd;have hu:=mQ hr
  exact⟨(ag5),(aQ (bK (i:=2) nd (bX d_marked hr (aB (qv 1) aD)))
   (aW (bN (eM B (aB (lW (N:=["hearth","gone"]) (fr:=[none,some 2]) (fU (qv 0)) (λ_ _ _ _=>(Z4 hu (qv 0) (qv 1))) (λ_ _ _ _=>(qv 0))) aD))))),bb0⟩)
theorem bt6 (B:Bt mg)(F:FM K mg "without" 16 f fd)(d_marked:Df P w K mg base 1 "marked" ["hearths"] vD):Df P w K mg base 2 "without" ["hearths","some"] sC:=
 Df.au F wH (λcdv A outer s H E hr=>by
  have nd:=wH.nd;have hu:=mQ hr
  exact⟨ak6,(aQ (bK (i:=2) nd (bX d_marked hr (aB (qv 1) aD)))
   (aW (bN (eM B (aB (lW (N:=["hearth","gone"]) (fr:=[none,some 2]) (fU (qv 0)) (λ_ _ _ _=>(Z4 hu (qv 0) (qv 1))) (λ_ _ _ _=>(qv 0))) aD))))),bj2⟩)
theorem bt7:FnScope ["web","around","burning","hearth"] ["web","around","burning","hearth"] (aT (bG 20)):=.au
theorem bt8 (B:Bt mg)(F:FM K mg "can_kindle" 20 f fd)(d_count_inside:Df P w K mg base 1 "count_inside" ["hearths","inside"] uX):Df P w K mg base 2 "can_kindle" ["web","around","burning","hearth"] uY:=
 Df.au F bt7 (λcdv A outer s H E hr=>by
  have hu:=mQ hr
  exact⟨(ae3),(aW (bN (rE (aR0 hu (qv 3) (qv 2)) (uB (Z2 (bX d_count_inside hr (aB (bD (qv 1) (qv 3)) (aB (qv 2) aD))) (bD (bD (qv 0) aF) (qv 3))))))),aW7⟩)
theorem bt9:FnScope ["self","web"] ["self","web"] (aT (bH 30 0)):=.au
theorem bu0 {CK:ax}(kc:KC K CK)(M:Mk K CK f)(F:d8 K "__init__" "Keeper.__init__" (bH 30 0) f fd)(m:mg "Keeper" = some (.ref CK)):J7 P w K mg base 1:=
 ⟨CK,f,fd,kc,M,bn4 kc F bt9 rfl (λcdv A outer s H E=>(iT (aB (cA (aB iS (aB (qv 1) (aB (cA aD) aD)))) aD))) (λ_ _ _ _ _ _=>.inl rfl) (λ_ _ _ _ _ _=>rfl) (λ_ _ _ _ _ _=>rfl),F.binds (λ_ _ _ _ _ _ us hl=>by obtain⟨_,_,rfl⟩:=us2 hl;rfl),m⟩
theorem au4:FnScope ["script","k","stir"] ["script","k"] (aT (bG 33)):=.au
theorem bu1 (B:Bt mg)(F:FM K mg "_law_number" 33 f fd)(d__law_cell:Df P w K mg base 1 "_law_cell" ["script","k"] jH):Df P w K mg base 2 "_law_number" ["script","k"] rZ:=
 Df.au F au4 (λcdv A outer s H E hr=>by
  have nd:=au4.nd
  exact⟨(aj7),(aQ (bU (lS (qv 1) (jD B (aB (qv 0) aD))) (aW (bN (bD (qv 0) (qv 1)))) bW)
   (aQ (bK (i:=2) nd (dM (rD (gM (gM (dM (bX d__law_cell hr (aB (qv 0) (aB (dM (qv 1) (zP B rfl (aB aF (aB (jD B (aB (qv 0) aD)) aD)))) aD))) aF) (rD aF (qv 1))) aF) aF) aF))
   (aW (bN (gU (dM (rD (qv 2) (qv 2)) aF) aF))))),bg9⟩)
theorem au5:FnScope ["web","seeds","burning","told","going","now","hearth","lit"] ["web","seeds"] (aT (bG 36)):=.au
theorem bu2 (B:Bt mg)(F:FM K mg "_law_rounds" 36 f fd)(d__law_beside:Df P w K mg base 1 "_law_beside" ["web","hearth"] w4):Df P w K mg base 2 "_law_rounds" ["web","seeds"] w5:=
 Df.au F au5 (λcdv A outer s H E hr=>by
  have nd:=au5.nd
  exact⟨(ar3),(aQ (bK (i:=2) nd (zO B (aB (qv 1) aD)))
   (aQ (jC (i:=3) nd (iT (aB (eM B (aB (qv 1) aD)) aD)))
   (aQ (bK (i:=4) nd oK)
   (aQ (Z7 PassesOwn.never (lT (qv 4))
    (aQ (jC (i:=5) nd (iT aD))
    (aQ (iU 6 nd (oO rfl B.range (jD B (aB (bD (qv 0) aF) aD)))
     (aQ (bK (i:=7) nd (jD B (aB (lW (N:=["one","burning"]) (fr:=[none,some 2]) (fU (bX d__law_beside hr (aB (qv 0) (aB (qv 6) aD)))) (λ_ _ _ _=>(zS (qv 0) (qv 1))) (λ_ _ _ _=>(qv 0))) aD)))
     (aW (bU (iA (zM (aa4 (qv 6) (qv 2)) (zL (zJ (qv 7) (bD (bD (qv 0) aF) (qv 6)))))) (aW (lU 5 (qv 6))) bW))))
    (aQ (bK (i:=4) nd (aQ8 (jD B (aB (qv 5) aD)) aF))
    (aQ (bU (lT (qv 4)) (aW (lU 3 (eM B (aB (qv 5) aD)))) bW)
    (aW (bK (i:=2) nd (af9 (qv 2) (qv 5)))))))))
   (aW (oN 3)))))),bp2⟩)
theorem bu3:FnScope ["web","numbers"] ["web","numbers"] (aT (bG 12)):=.au
theorem bu4 (B:Bt mg)(F:FM K mg "is_set" 12 f fd)(d_rises:Df P w K mg base 1 "rises" ["things"] B6)(d_is_hearth:Df P w K mg base 2 "is_hearth" ["web","number"] jG):Df P w K mg base 3 "is_set" ["web","numbers"] uV:=
 Df.au F bu3 (λcdv A outer s H E hr=>by
  exact⟨(ad4),(aW (bN (rE (bX d_rises hr (aB (qv 1) aD)) (uB (aR7 B rfl (aB (zX (N:=["number","web"]) (fr:=[none,some 0]) (fU (qv 1)) (λ_ _ _ _=>(bX d_is_hearth hr (aB (qv 1) (aB (qv 0) aD))))) aD)))))),aW1⟩)
theorem bu5:FnScope ["web","around","burning"] ["web","around","burning"] (aT (bG 19)):=.au
theorem bu6 (B:Bt mg)(F:FM K mg "kindling" 19 f fd)(d_hearths_in:Df P w K mg base 1 "hearths_in" ["web"] oV)(d_can_kindle:Df P w K mg base 2 "can_kindle" ["web","around","burning","hearth"] uY):Df P w K mg base 3 "kindling" ["web","around","burning"] rP:=
 Df.au F bu5 (λcdv A outer s H E hr=>by
  exact⟨(ae4),(aW (bN (eM B (aB (lW (N:=["hearth","web","around","burning"]) (fr:=[none,some 0,some 1,some 2]) (oO rfl B.range (bX d_hearths_in hr (aB (qv 0) aD))) (λ_ _ _ _=>(lT (bX d_can_kindle hr (aB (qv 1) (aB (qv 2) (aB (qv 3) (aB (qv 0) aD))))))) (λ_ _ _ _=>(qv 0))) aD)))),aW8⟩)
theorem au6:FnScope ["web","seeds","deed","hearth"] ["web","seeds","deed"] (aT (bG 27)):=.au
theorem bu7 (B:Bt mg)(F:FM K mg "seeds_behind" 27 f fd)(d_is_hearth:Df P w K mg base 2 "is_hearth" ["web","number"] jG)(d_without:Df P w K mg base 2 "without" ["hearths","some"] nM)(x_BadDeed:Xc K mg base "BadDeed"):cI P w K mg base 3 "seeds_behind" ["web","seeds","deed"] vG:=
 cI.au F au6 al0 bj4 (λcdv A outer s H E Ep hr hX=>by
  have nd:=au6.nd
  exact (aQ (bK (i:=3) nd (bD (qv 2) aF))
   (aQ (bU (oM (lT (bX d_is_hearth hr (aB (qv 0) (aB (qv 3) aD))))) (aW (kZ hX x_BadDeed (aB cO aD))) bW)
   (aQ (bU (gV (aR8 (qv 3) (qv 1)) (E7 (bD (qv 2) aF) cO)) (aW (kZ hX x_BadDeed (aB cO aD))) bW)
   (aQ (bU (gZ (bD (qv 2) aF) cO) (aW (bN (eM B (aB (af7 B (aB (m5 (qv 1) (cA (aB (qv 3) aD))) aD)) aD)))) bW)
   (aW (bN (bX d_without hr (aB (qv 1) (aB (iT (aB (qv 3) aD)) aD))))))))))
theorem au7:FnScope ["web","deed","hearth","want"] ["web","deed"] (aT (bG 28)):=.au
theorem bu8 (B:Bt mg)(F:FM K mg "wants_behind" 28 f fd)(d_is_hearth:Df P w K mg base 2 "is_hearth" ["web","number"] jG)(x_BadDeed:Xc K mg base "BadDeed"){u_MOST_WANTED:Nat}(m_MOST_WANTED:mg "MOST_WANTED" = some (.int 60 u_MOST_WANTED)):cI P w K mg base 3 "wants_behind" ["web","deed"] vH:=
 cI.au F au7 al1 bj5 (λcdv A outer s H E Ep hr hX=>by
  have nd:=au7.nd
  exact (aQ (bK (i:=2) nd (bD (qv 1) aF))
   (aQ (bK (i:=3) nd (bD (qv 1) aF))
   (aQ (bU (iA (gN (oM (lT (bX d_is_hearth hr (aB (qv 0) (aB (qv 2) aD))))) (gN (lS (qv 3) aF) (jS (zI (qv 3) (ba3 rfl m_MOST_WANTED)))))) (aW (kZ hX x_BadDeed (aB cO aD))) bW)
   (aQ (bU (gV (bD (bD (qv 0) aF) (qv 2)) (qv 3)) (aW (kZ hX x_BadDeed (aB cO aD))) bW)
   (aW (bN (m5 (m5 (lV (bD (qv 0) aF) kQ (kR (qv 2))) (cA (aB (qv 3) aD))) (lV (bD (qv 0) aF) (kR (gM (qv 2) aF)) kQ)))))))))
theorem au8:FnScope ["web","deed","link"] ["web","deed"] (aT (bG 29)):=.au
theorem bu9 (B:Bt mg)(F:FM K mg "links_behind" 29 f fd)(d_is_hearth:Df P w K mg base 2 "is_hearth" ["web","number"] jG)(d_without:Df P w K mg base 2 "without" ["hearths","some"] sC)(x_BadDeed:Xc K mg base "BadDeed"):cI P w K mg base 3 "links_behind" ["web","deed"] vI:=
 cI.au F au8 al3 bj7 (λcdv A outer s H E Ep hr hX=>by
  have nd:=au8.nd;have hu3:=wE hr
  exact (aQ (bK (i:=2) nd (lV (qv 1) (kR aF) kQ))
   (aQ (bU (iA (gN (oM (lT (bX d_is_hearth hr (aB (qv 0) (aB (bD (qv 2) aF) aD))))) (gN (oM (lT (bX d_is_hearth hr (aB (qv 0) (aB (bD (qv 2) aF) aD))))) (jS (gV (bD (qv 2) aF) (bD (qv 2) aF)))))) (aW (kZ hX x_BadDeed (aB cO aD))) bW)
   (aQ (bU (gV (ai0 hu3 (qv 2) (bD (qv 0) aF)) (E7 (bD (qv 1) aF) cO)) (aW (kZ hX x_BadDeed (aB cO aD))) bW)
   (aQ (bU (gZ (bD (qv 1) aF) cO) (aW (bN (eM B (aB (F3 B (aB (m5 (bD (qv 0) aF) (cA (aB (qv 2) aD))) aD)) aD)))) bW)
   (aW (bN (bX d_without hr (aB (bD (qv 0) aF) (aB (iT (aB (qv 2) aD)) aD))))))))))
theorem au9:FnScope ["script","at","many","links","cell","wants","hearth","one","other","k","pair"] ["script","at","many"] (aT (bG 34)):=.au
theorem bv0 (B:Bt mg)(F:FM K mg "_law_web" 34 f fd)(d__law_cell:Df P w K mg base 1 "_law_cell" ["script","k"] jH)(d__law_number:Df P w K mg base 2 "_law_number" ["script","k"] rZ):Df P w K mg base 3 "_law_web" ["script","at","many"] vY:=
 Df.au F au9 (λcdv A outer s H E hr=>by
  have nd:=au9.nd;have hu3:=wE hr
  exact⟨(bn7),(aQ (jC (i:=3) nd (iT aD))
   (aQ (bK (i:=4) nd (gU (bX d__law_cell hr (aB (qv 0) (aB (qv 1) aD))) aF))
   (aQ (bU (iA (zM (gV (dM (bX d__law_cell hr (aB (qv 0) (aB (qv 1) aD))) aF) aF) (zL (lS (qv 2) aF)))) (aQ (jC (i:=5) nd (iT aD))
    (aQ (iU 6 nd (oO rfl B.range (qv 2))
     (aQ (lU 5 (dM (qv 4) aF))
     (aW (bK (i:=4) nd (gU (qv 4) aF)))))
    (aQ (iU 7 nd (oO rfl B.range (qv 2))
     (aW (iU 8 nd (aR6 rfl B.range (gM (qv 7) aF) (qv 2))
      (aQ (bU (gV (dM (qv 4) aF) aF) (aW (lU 3 (cA (aB (qv 7) (aB (qv 8) aD))))) bW)
      (aW (bK (i:=4) nd (gU (qv 4) aF)))))))
    (aW (bN (cA (aB (eM B (aB (qv 5) aD)) (aB (eM B (aB (qv 3) aD)) aD)))))))) bW)
   (aQ (bK (i:=5) nd (eM B (aB (zX (N:=["k","script","at"]) (fr:=[none,some 0,some 1]) (oO rfl B.range (qv 2)) (λ_ _ _ _=>(dM (bX d__law_number hr (aB (qv 1) (aB (gM (qv 2) (qv 0)) aD))) aF))) aD)))
   (aQ (iU 9 nd (oO rfl B.range (rD aF (qv 2)))
    (aQ (bK (i:=4) nd (bX d__law_number hr (aB (qv 0) (aB (gM (gM (qv 1) (qv 2)) (qv 9)) aD))))
    (aQ (bK (i:=7) nd (dM (qv 4) (qv 2)))
    (aQ (bK (i:=8) nd (dM (gM (gU (qv 4) (qv 2)) (rD aF (qv 4))) (qv 2)))
    (aQ (bK (i:=10) nd (cA (aB (aa1 B rfl (aB (qv 7) (aB (qv 8) aD))) (aB (zP B rfl (aB (qv 7) (aB (qv 8) aD))) aD))))
    (aW (bU (iA (zM (Z3 (qv 7) (qv 8)) (zL (be6 hu3 (qv 10) (qv 3))))) (aW (lU 3 (qv 10))) bW)))))))
   (aW (bN (cA (aB (qv 5) (aB (eM B (aB (F3 B (aB (qv 3) aD)) aD)) aD)))))))))),bn8⟩)
theorem av0:FnScope ["web","seeds","every","some"] ["web","seeds"] (aT (bG 37)):=.au
theorem bv1 (B:Bt mg)(F:FM K mg "_law_burnt" 37 f fd)(d__law_rounds:Df P w K mg base 2 "_law_rounds" ["web","seeds"] w5):Df P w K mg base 3 "_law_burnt" ["web","seeds"] w6:=
 Df.au F av0 (λcdv A outer s H E hr=>by
  have nd:=av0.nd
  exact⟨(ar4),(aQ (jC (i:=2) nd (iT aD))
   (aQ (iU 3 nd (fU (bX d__law_rounds hr (aB (qv 0) (aB (qv 1) aD))))
    (aW (aS2 2 (qv 3))))
   (aW (bN (eM B (aB (aa0 B (aB (qv 2) aD)) aD)))))),bp3⟩)
theorem bv2:FnScope ["web","hearths"] ["web","hearths"] (aT (bG 13)):=.au
theorem bv3 (B:Bt mg)(F:FM K mg "made_set" 13 f fd)(d_is_set:Df P w K mg base 3 "is_set" ["web","numbers"] uV)(x_BadSet:Xc K mg base "BadSet"):cI P w K mg base 4 "made_set" ["web","hearths"] oZ:=
 cI.au F bv2 ah3 bc6 (λcdv A outer s H E Ep hr hX=>by
  exact (aQ (bU (oM (lT (bX d_is_set hr (aB (qv 0) (aB (qv 1) aD))))) (aW (kZ hX x_BadSet (aB cO aD))) bW)
   (aW (bN (eM B (aB (qv 1) aD))))))
theorem av1:FnScope ["web","seeds","told","burning","around","lit"] ["web","seeds"] (aT (bG 18)):=.au
theorem bv4 (B:Bt mg)(F:FM K mg "rounds" 18 f fd)(d_made_set:cI P w K mg base 4 "made_set" ["web","hearths"] oZ)(d_marked:Df P w K mg base 1 "marked" ["hearths"] nH)(d_near_lists:Df P w K mg base 1 "near_lists" ["web"] B7)(d_kindling:Df P w K mg base 3 "kindling" ["web","around","burning"] rP):cI P w K mg base 5 "rounds" ["web","seeds"] v9:=
 cI.au F av1 ah4 bc7 (λcdv A outer s H E Ep hr hX=>by
  have nd:=av1.nd
  exact (aQ (jC (i:=2) nd (iT (aB (m6 hX d_made_set hr (aB (qv 0) (aB (qv 1) aD))) aD)))
   (aQ (jC (i:=3) nd (bX d_marked hr (aB (bD (qv 2) aF) aD)))
   (aQ (bK (i:=4) nd (bX d_near_lists hr (aB (qv 0) aD)))
   (aQ (bK (i:=5) nd (bX d_kindling hr (aB (qv 0) (aB (qv 4) (aB (qv 3) aD)))))
   (aQ (Z7 hX.own (aR1 (qv 5))
    (aQ (lU 2 (qv 5))
    (aQ (aS3 3 (bX d_marked hr (aB (qv 5) aD)))
    (aW (bK (i:=5) nd (bX d_kindling hr (aB (qv 0) (aB (qv 4) (aB (qv 3) aD)))))))))
   (aW (oN 2))))))))
theorem av2:FnScope ["web","seeds","deed","chosen","told"] ["web","seeds","deed"] (aT (bG 25)):=.au
theorem bv5 (B:Bt mg)(F:FM K mg "deed_done" 25 f fd)(d_made_set:cI P w K mg base 4 "made_set" ["web","hearths"] oZ)(d_told_deed:Df P w K mg base 1 "told_deed" ["deed"] pE)(d_seeds_behind:cI P w K mg base 3 "seeds_behind" ["web","seeds","deed"] vG)(d_wants_behind:cI P w K mg base 3 "wants_behind" ["web","deed"] vH)(d_links_behind:cI P w K mg base 3 "links_behind" ["web","deed"] vI):cI P w K mg base 5 "deed_done" ["web","seeds","deed"] pF:=
 cI.au F av2 al7 bj8 (λcdv A outer s H E Ep hr hX=>by
  have nd:=av2.nd
  exact (aQ (bK (i:=3) nd (m6 hX d_made_set hr (aB (qv 0) (aB (qv 1) aD))))
   (aQ (bK (i:=4) nd (bX d_told_deed hr (aB (qv 2) aD)))
   (aQ (bU (iA (gN (gZ (bD (qv 4) aF) cO) (jS (gZ (bD (qv 4) aF) cO)))) (aW (bN (cA (aB (qv 0) (aB (m6 hX d_seeds_behind hr (aB (qv 0) (aB (qv 3) (aB (qv 4) aD)))) aD))))) bW)
   (aQ (bU (gZ (bD (qv 4) aF) cO) (aW (bN (cA (aB (cA (aB (m6 hX d_wants_behind hr (aB (qv 0) (aB (qv 4) aD))) (aB (bD (qv 0) aF) aD))) (aB (qv 3) aD))))) bW)
   (aW (bN (cA (aB (cA (aB (bD (qv 0) aF) (aB (m6 hX d_links_behind hr (aB (qv 0) (aB (qv 4) aD))) aD))) (aB (qv 3) aD))))))))))
theorem av3:FnScope ["web","seeds","ranks","rank","lit","hearth"] ["web","seeds"] (aT (bG 21)):=.au
theorem bv6 (B:Bt mg)(F:FM K mg "ranks_of" 21 f fd)(d_rounds:cI P w K mg base 5 "rounds" ["web","seeds"] v9):cI P w K mg base 6 "ranks_of" ["web","seeds"] vA:=
 cI.au F av3 ah5 bc8 (λcdv A outer s H E Ep hr hX=>by
  have nd:=av3.nd;have hu:=mQ hr
  exact (aQ (jC (i:=2) nd Z5)
   (aQ (aa6 3 4 (hp:=hX.own) nd (ba2 rfl B.enum (m6 hX d_rounds hr (aB (qv 0) (aB (qv 1) aD))))
    (aW (iU 5 (hp:=hX.own) nd (fU (qv 4))
     (aW (Z8 hu (i:=2) (qv 5) (qv 3))))))
   (aW (oN 2)))))
theorem av4:FnScope ["web","deeds","seeds","other","deed","state"] ["web","deeds"] (aT (bG 41)):=.au
theorem bv7 (B:Bt mg)(F:FM K mg "_law_led" 41 f fd)(d__law_done:Df P w K mg base 1 "_law_done" ["web","seeds","deed"] vK)(d_deed_done:cI P w K mg base 5 "deed_done" ["web","seeds","deed"] pF):Df P w K mg base 6 "_law_led" ["web","deeds"] wC:=
 Df.au F av4 (λcdv A outer s H E hr=>by
  have nd:=av4.nd
  exact⟨(K6),(aQ (bK (i:=2) nd (cA aD))
   (aQ (bK (i:=3) nd (cA (aB (qv 0) (aB (cA aD) aD))))
   (aQ (iU 4 nd (fU (qv 1))
    (aQ (bK (i:=5) nd (bX d__law_done hr (aB (qv 0) (aB (qv 2) (aB (qv 4) aD)))))
    (aQ (bK (i:=3) nd (ah2 d_deed_done hr (aB (bD (qv 3) aF) (aB (bD (qv 3) aF) (aB (qv 4) aD)))))
    (aQ (bU (iA (gN (zK (qv 5) iS) (jS (ar6 (ar9 hr) (qv 3) (qv 5))))) (aW (bN iS)) bW)
    (aW (ah0 0 2 nd (qv 5)))))))
   (aW (bN (cA (aB (qv 0) (aB (qv 2) aD)))))))),bq6⟩)
theorem bv8:FnScope ["web","seeds"] ["web","seeds"] (aT (bG 22)):=.au
theorem bv9 (B:Bt mg)(F:FM K mg "burnt" 22 f fd)(d_ranks_of:cI P w K mg base 6 "ranks_of" ["web","seeds"] vA):cI P w K mg base 7 "burnt" ["web","seeds"] vB:=
 cI.au F bv8 ah6 bc9 (λcdv A outer s H E Ep hr hX=>by
  exact (aW (bN (eM B (aB (bb8 B rfl (aB (m6 hX d_ranks_of hr (aB (qv 0) (aB (qv 1) aD))) aD)) aD)))))
theorem bw0:FnScope ["self"] ["self"] (aT (bH 30 3)):=.au
theorem bw1 (B:Bt mg){CK:ax}(kc:KC K CK)(M:eR K CK "burning" f)(F:d8 K "burning" "Keeper.burning" (bH 30 3) f fd)(d_burnt:cI P w K mg base 7 "burnt" ["web","seeds"] vB)(d_Keeper_web_now:cZ P w K mg base 1 "web_now" ["self"] jZ)(d_Keeper_seeds_now:cZ P w K mg base 1 "seeds_now" ["self"] lB):cZ P w K mg base 8 "burning" ["self"] gP:=
 cZ.of kc M F bw0 (λ_ _ _ _ _ _ us hl=>by obtain⟨_,rfl⟩:=us1 hl;rfl) aq3 (λst un Ep xs Q h=>by unfold gP at h;repeat (first|(obtain⟨rfl,_⟩:=h;rfl)|(obtain⟨_,h⟩:=h))) bo1 (λcdv A outer s H E Ep hr hX=>by
  exact (aW (bN (ah2 d_burnt hr (aB (gG 0 dU d_Keeper_web_now hr) (aB (gG 0 dU d_Keeper_seeds_now hr) aD))))))
theorem av5:FnScope ["self","before","now"] ["self","before"] (aT (bH 30 9)):=.au
theorem bw2 (B:Bt mg){CK:ax}(kc:KC K CK)(M:eR K CK "changes_since" f)(F:d8 K "changes_since" "Keeper.changes_since" (bH 30 9) f fd)(d_Keeper_burning:cZ P w K mg base 8 "burning" ["self"] gP)(d_without:Df P w K mg base 2 "without" ["hearths","some"] nM):cZ P w K mg base 9 "changes_since" ["self","before"] lC:=
 cZ.of kc M F av5 (λ_ _ _ _ _ _ us hl=>by obtain⟨_,_,rfl⟩:=us2 hl;rfl) aq4 (λst un Ep xs Q h=>by unfold lC at h;repeat (first|(obtain⟨rfl,_⟩:=h;rfl)|(obtain⟨_,h⟩:=h))) bo2 (λcdv A outer s H E Ep hr hX=>by
  have nd:=av5.nd
  exact (aQ (bK (i:=2) nd (gG 0 dU d_Keeper_burning hr))
   (aW (bN (cA (aB (bX d_without hr (aB (qv 2) (aB (qv 1) aD))) (aB (bX d_without hr (aB (qv 1) (aB (qv 2) aD))) aD)))))))
theorem av6:FnScope ["self","deed","behind","before"] ["self","deed"] (aT (bH 30 6)):=.au
theorem bw3 (B:Bt mg){CK:ax}(kc:KC K CK)(M:eR K CK "do" f)(F:d8 K "do" "Keeper.do" (bH 30 6) f fd)(d_deed_done:cI P w K mg base 5 "deed_done" ["web","seeds","deed"] pF)(d_Keeper_web_now:cZ P w K mg base 1 "web_now" ["self"] jZ)(d_Keeper_seeds_now:cZ P w K mg base 1 "seeds_now" ["self"] lB)(d_Keeper_burning:cZ P w K mg base 8 "burning" ["self"] gP)(d_told_deed:Df P w K mg base 1 "told_deed" ["deed"] pE)(d_Keeper_changes_since:cZ P w K mg base 9 "changes_since" ["self","before"] lC):jY P w K mg base 10 "do" ["self","deed"] nR:=
 ⟨CK,f,fd,kc,M,vX F av6 aq5 (λst un Ep xs Q h=>by unfold nR at h;repeat (first|(obtain⟨rfl,_⟩:=h;rfl)|(obtain⟨_,h⟩:=h))) bo3 (λcdv A outer s H E Ep hr hX=>by
  have nd:=av6.nd
  exact (nQ (bK (i:=2) nd (m6 hX d_deed_done hr (aB (gG 0 dU d_Keeper_web_now hr) (aB (gG 0 dU d_Keeper_seeds_now hr) (aB (qv 1) aD)))))
   (nQ (bK (i:=3) nd (gG 0 dU d_Keeper_burning hr))
   (vW (sK (bl7 kc 0 (λ_=>(cA (aB (bX d_told_deed hr (aB (qv 1) aD)) (aB (bD (qv 2) aF) (aB (bD (qv 2) aF) aD))))))
   (sK (bl9 kc 0)
   (sL (vU 0 (λ_=>(G5 0 dU d_Keeper_changes_since hr (aB (qv 3) aD))))))))))),F.binds (λ_ _ _ _ _ _ us hl=>by obtain⟨_,_,rfl⟩:=us2 hl;rfl)⟩
theorem av7:FnScope ["self","before"] ["self"] (aT (bH 30 7)):=.au
theorem bw4 (B:Bt mg){CK:ax}(kc:KC K CK)(M:eR K CK "back" f)(F:d8 K "back" "Keeper.back" (bH 30 7) f fd)(d_Keeper_burning:cZ P w K mg base 8 "burning" ["self"] gP)(d_Keeper_changes_since:cZ P w K mg base 9 "changes_since" ["self","before"] lC)(x_NoSuch:Xc K mg base "NoSuch"):jY P w K mg base 10 "back" ["self"] sS:=
 ⟨CK,f,fd,kc,M,vX F av7 aq8 (λst un Ep xs Q h=>by unfold sS at h;repeat (first|(obtain⟨rfl,_⟩:=h;rfl)|(obtain⟨_,h⟩:=h))) bo4 (λcdv A outer s H E Ep hr hX=>by
  have nd:=av7.nd
  exact (nQ (bU (lS (bl3 B kc 0) aF) (aW (kZ hX x_NoSuch (aB cO aD))) bW)
   (nQ (bK (i:=1) nd (gG 0 dU d_Keeper_burning hr))
   (vW (sK (bo6 kc 0)
   (sL (vU 0 (λ_=>(G5 0 dU d_Keeper_changes_since hr (aB (qv 1) aD)))))))))),F.binds (λ_ _ _ _ _ _ us hl=>by obtain⟨_,rfl⟩:=us1 hl;rfl)⟩
theorem av8:FnScope ["self","before"] ["self"] (aT (bH 30 8)):=.au
theorem bw5 (B:Bt mg){CK:ax}(kc:KC K CK)(M:eR K CK "again" f)(F:d8 K "again" "Keeper.again" (bH 30 8) f fd)(d_Keeper_burning:cZ P w K mg base 8 "burning" ["self"] gP)(d_Keeper_changes_since:cZ P w K mg base 9 "changes_since" ["self","before"] lC)(x_NoSuch:Xc K mg base "NoSuch"):jY P w K mg base 10 "again" ["self"] sT:=
 ⟨CK,f,fd,kc,M,vX F av8 aq9 (λst un Ep xs Q h=>by unfold sT at h;repeat (first|(obtain⟨rfl,_⟩:=h;rfl)|(obtain⟨_,h⟩:=h))) bo5 (λcdv A outer s H E Ep hr hX=>by
  have nd:=av8.nd
  exact (nQ (bU (oM (bl4 kc 0)) (aW (kZ hX x_NoSuch (aB cO aD))) bW)
   (nQ (bK (i:=1) nd (gG 0 dU d_Keeper_burning hr))
   (vW (sK (bo7 kc 0)
   (sL (vU 0 (λ_=>(G5 0 dU d_Keeper_changes_since hr (aB (qv 1) aD)))))))))),F.binds (λ_ _ _ _ _ _ us hl=>by obtain⟨_,rfl⟩:=us1 hl;rfl)⟩
theorem av9:FnScope ["keeper","cell","many","told"] ["keeper","cell","many"] (aT (bG 40)):=.au
theorem bw6 (B:Bt mg)(F:d8 K "_law_tried" "_law_tried" (bG 40) f fd)(m:mg "_law_tried" = some (.ref f))(d_Keeper_back:jY P w K mg base 10 "back" ["self"] sS)(d_Keeper_again:jY P w K mg base 10 "again" ["self"] sT)(d_Keeper_do:jY P w K mg base 10 "do" ["self","deed"] nR)(d__law_deed:Df P w K mg base 1 "_law_deed" ["cell","many"] vJ)(cat_HearthError:C9 K mg "HearthError"):G7 P w K mg base 11 "_law_tried" ["keeper","cell","many"] sU:=
 ⟨f,fd,vX F av9 as2 (λst un Ep xs Q h=>by unfold sU at h;repeat (first|(obtain⟨rfl,_⟩:=h;rfl)|(obtain⟨_,h⟩:=h))) bq1 (λcdv A outer s H E Ep hr hX=>by
  have nd:=av9.nd
  exact (nQ (bK (i:=3) nd iS)
   (vW (sK (bn2 cat_HearthError (ap3 (λ_ _=>(zI (dM (qv 1) aF) aF)) (ap1 0 3 d_Keeper_back hr nd) (ap3 (λ_ _=>(gV (dM (qv 1) aF) aF)) (ap1 0 3 d_Keeper_again hr nd) (bn0 0 3 d_Keeper_do hr nd (λ_ _=>(aB (bX d__law_deed hr (aB (gU (qv 1) aF) (aB (qv 2) aD))) aD))))) (λ_=>(sL (bm2 0 (j:=3) nd (λ_=>iS)))))
   (sL (vU 0 (λ_=>(qv 3)))))))),F.binds (λ_ _ _ _ _ _ us hl=>by obtain⟨_,_,_,rfl⟩:=v8 hl;rfl),F.kp,m⟩
theorem aw0:FnScope ["script","many","cells","web","keeper","ahead","cell","told","burning","state","other","deed"] ["script"] (aT (bG 42)):=.au
theorem bw7 (B:Bt mg)(F:d8 K "law" "law" (bG 42) f fd)(d__law_cell:Df P w K mg base 1 "_law_cell" ["script","k"] jH)(d__law_web:Df P w K mg base 3 "_law_web" ["script","at","many"] vY)(d_Keeper___init__:J7 P w K mg base 1)(d_Keeper_burning:cZ P w K mg base 8 "burning" ["self"] gP)(d__law_tried:G7 P w K mg base 11 "_law_tried" ["keeper","cell","many"] sU)(d__law_led:Df P w K mg base 6 "_law_led" ["web","deeds"] wC)(d_Keeper_deeds:cZ P w K mg base 1 "deeds" ["self"] pQ)(d_Keeper_web_now:cZ P w K mg base 1 "web_now" ["self"] jZ)(d_Keeper_seeds_now:cZ P w K mg base 1 "seeds_now" ["self"] lB)(d_Keeper_do:jY P w K mg base 10 "do" ["self","deed"] nR)(d__law_burnt:Df P w K mg base 3 "_law_burnt" ["web","seeds"] w6):bZ P w K mg base fE 12 f fd ["script"] (qZ K K8):=
 aX9 F aw0 (λxs Q h=>by unfold K8 at h;repeat (first|(obtain⟨rfl,_⟩:=h;rfl)|(obtain⟨_,h⟩:=h))) (λcdv A outer s H E hr=>by
  have nd:=aw0.nd;have hu3:=wE hr
  exact⟨(at7),(aQ (bK (i:=1) nd (gM aF (dM (bX d__law_cell hr (aB (qv 0) (aB aF aD))) aF)))
   (aQ (bK (i:=2) nd (zO B (aB (qv 0) aD)))
   (aQ (bU (gV (dM (gU (bX d__law_cell hr (aB (qv 0) (aB aF aD))) aF) aF) aF) (aQ (bK (i:=1) nd (gM aF (dM (gU (bX d__law_cell hr (aB (qv 0) (aB aF aD))) aF) aF)))
    (aW (bK (i:=2) nd (lV (qv 2) kQ (kR aF))))) bW)
   (aQ (bK (i:=3) nd (bX d__law_web hr (aB (qv 0) (aB aF (aB (qv 1) aD)))))
   (aQ (ap5 4 d_Keeper___init__ hr nd (qv 3))
   (aQ (bK (i:=5) nd (gG 4 dU d_Keeper_burning hr))
   (aQ (iU 6 nd (fU (qv 2))
    (aQ (bn5 7 4 d__law_tried hr nd (aB (qv 6) (aB (qv 1) aD)))
    (aQ (bK (i:=8) nd (gG 4 dU d_Keeper_burning hr))
    (aQ (bU (zK (qv 7) iS) (aW (bU (zV hu3 (qv 8) (qv 5)) (aW (bN oK)) bW)) (aW (bU (zV hu3 (eM B (aB (aa0 B (aB (af9 (lW (N:=["one","told"]) (fr:=[none,some 7]) (fU (qv 5)) (λ_ _ _ _=>(aa4 (qv 0) (bD (qv 1) aF))) (λ_ _ _ _=>(qv 0))) (zO B (aB (bD (qv 7) aF) aD))) aD)) aD)) (qv 8)) (aW (bN oK)) bW)))
    (aW (bK (i:=5) nd (qv 8)))))))
   (aQ (bK (i:=9) nd (bX d__law_led hr (aB (qv 3) (aB (gG 4 dU d_Keeper_deeds hr) aD))))
   (aQ (bU (iA (gN (zK (qv 9) iS) (jS (ar6 (ar9 hr) (qv 9) (cA (aB (gG 4 dU d_Keeper_web_now hr) (aB (gG 4 dU d_Keeper_seeds_now hr) aD))))))) (aW (bN oK)) bW)
   (aQ (ap5 10 d_Keeper___init__ hr nd (qv 3))
   (aQ (iU 11 nd (fU (gG 4 dU d_Keeper_deeds hr))
    (aW (bp8 4 (bp9 10 d_Keeper_do hr (aB (qv 11) aD)))))
   (aW (bN (rE (zW hu3 (bX d__law_burnt hr (aB (bD (qv 9) aF) (aB (bD (qv 9) aF) aD))) (qv 5)) (rE (zW hu3 (gG 10 dU d_Keeper_burning hr) (qv 5)) (uB (zW hu3 (gG 10 dU d_Keeper_web_now hr) (bD (qv 9) aF)))))))))))))))))),br1⟩)
end
set_option autoImplicit true in
theorem bw8 {l:OpenLaw}{w:ba}{K:Frag}{h:Heap}{mg:Str->Option av}(X:K.In h)(G:h.Ns mainGlobals mg)(hfa:mg "law" = some (.ref fa))(h0:FK K "rises" 8 f0 d0)(h1:FK K "hearths_in" 9 f1 d1)(h2:FK K "near_lists" 10 f2 d2)(h3:FK K "marked" 14 f3 d3)(h4:FK K "count_inside" 15 f4 d4)(h5:FK K "told_deed" 26 f5 d5){CK:ax}(aK:nsIn K mainGlobals "Keeper" = some (some (.ref CK)))(yK1:plainGet K CK Str.empty=true)(yK2:hasDictIn K CK=true)(yK3:plainOver K CK=true)(yK4:findIn K (.ref CK) "__setattr__" = some (some (.builtin "object.__setattr__")))(yK5:findIn K (.ref CK) "standing" = some none)(yK6:findIn K (.ref CK) "undone" = some none)(yK7:makesIn K CK=true)(yK8:keepIn K (.ref CK)=true)(a6:findIn K (.ref CK) "web_now" = some (some (.ref f6)))(n6:isFn K (.ref f6)=true)(l6:K.lookup f6=some ⟨oc6,od6,.func (fnOf "web_now" "Keeper.web_now" (eV (bH 30 1)) (cY (bH 30 1)) (aT (bH 30 1)) .none kV6 dc6 pm6 an6 cd6 ct6),sl6⟩)(c6:codeIn K cd6 "Keeper.web_now" = true)(k6:keepIn K (.ref f6)=true)(a7:findIn K (.ref CK) "seeds_now" = some (some (.ref f7)))(n7:isFn K (.ref f7)=true)(l7:K.lookup f7=some ⟨oc7,od7,.func (fnOf "seeds_now" "Keeper.seeds_now" (eV (bH 30 2)) (cY (bH 30 2)) (aT (bH 30 2)) .none kV7 dc7 pm7 an7 cd7 ct7),sl7⟩)(c7:codeIn K cd7 "Keeper.seeds_now" = true)(k7:keepIn K (.ref f7)=true)(a8:findIn K (.ref CK) "deeds" = some (some (.ref f8)))(n8:isFn K (.ref f8)=true)(l8:K.lookup f8=some ⟨oc8,od8,.func (fnOf "deeds" "Keeper.deeds" (eV (bH 30 5)) (cY (bH 30 5)) (aT (bH 30 5)) .none kV8 dc8 pm8 an8 cd8 ct8),sl8⟩)(c8:codeIn K cd8 "Keeper.deeds" = true)(k8:keepIn K (.ref f8)=true)(h9:FK K "_law_cell" 32 f9 d9)(h10:FK K "_law_beside" 35 f10 d10)(h11:FK K "_law_deed" 38 f11 d11)(h12:FK K "_law_done" 39 f12 d12)(h13:FK K "is_hearth" 11 f13 d13)(h14:FK K "without" 16 f14 d14)(h15:FK K "can_kindle" 20 f15 d15)(a16:findIn K (.ref CK) "__init__" = some (some (.ref f16)))(n16:isFn K (.ref f16)=true)(l16:K.lookup f16=some ⟨oc16,od16,.func (fnOf "__init__" "Keeper.__init__" (eV (bH 30 0)) (cY (bH 30 0)) (aT (bH 30 0)) .none kV16 dc16 pm16 an16 cd16 ct16),sl16⟩)(c16:codeIn K cd16 "Keeper.__init__" = true)(k16:keepIn K (.ref f16)=true)(h17:FK K "_law_number" 33 f17 d17)(h18:FK K "_law_rounds" 36 f18 d18)(h19:FK K "is_set" 12 f19 d19)(h20:FK K "kindling" 19 f20 d20)(h21:FK K "seeds_behind" 27 f21 d21)(h22:FK K "wants_behind" 28 f22 d22)(h23:FK K "links_behind" 29 f23 d23)(h24:FK K "_law_web" 34 f24 d24)(h25:FK K "_law_burnt" 37 f25 d25)(h26:FK K "made_set" 13 f26 d26)(h27:FK K "rounds" 18 f27 d27)(h28:FK K "deed_done" 25 f28 d28)(h29:FK K "ranks_of" 21 f29 d29)(h30:FK K "_law_led" 41 f30 d30)(h31:FK K "burnt" 22 f31 d31)(a32:findIn K (.ref CK) "burning" = some (some (.ref f32)))(n32:isFn K (.ref f32)=true)(l32:K.lookup f32=some ⟨oc32,od32,.func (fnOf "burning" "Keeper.burning" (eV (bH 30 3)) (cY (bH 30 3)) (aT (bH 30 3)) .none kV32 dc32 pm32 an32 cd32 ct32),sl32⟩)(c32:codeIn K cd32 "Keeper.burning" = true)(k32:keepIn K (.ref f32)=true)(a33:findIn K (.ref CK) "changes_since" = some (some (.ref f33)))(n33:isFn K (.ref f33)=true)(l33:K.lookup f33=some ⟨oc33,od33,.func (fnOf "changes_since" "Keeper.changes_since" (eV (bH 30 9)) (cY (bH 30 9)) (aT (bH 30 9)) .none kV33 dc33 pm33 an33 cd33 ct33),sl33⟩)(c33:codeIn K cd33 "Keeper.changes_since" = true)(k33:keepIn K (.ref f33)=true)(a34:findIn K (.ref CK) "do" = some (some (.ref f34)))(n34:isFn K (.ref f34)=true)(l34:K.lookup f34=some ⟨oc34,od34,.func (fnOf "do" "Keeper.do" (eV (bH 30 6)) (cY (bH 30 6)) (aT (bH 30 6)) .none kV34 dc34 pm34 an34 cd34 ct34),sl34⟩)(c34:codeIn K cd34 "Keeper.do" = true)(k34:keepIn K (.ref f34)=true)(a35:findIn K (.ref CK) "back" = some (some (.ref f35)))(n35:isFn K (.ref f35)=true)(l35:K.lookup f35=some ⟨oc35,od35,.func (fnOf "back" "Keeper.back" (eV (bH 30 7)) (cY (bH 30 7)) (aT (bH 30 7)) .none kV35 dc35 pm35 an35 cd35 ct35),sl35⟩)(c35:codeIn K cd35 "Keeper.back" = true)(k35:keepIn K (.ref f35)=true)(a36:findIn K (.ref CK) "again" = some (some (.ref f36)))(n36:isFn K (.ref f36)=true)(l36:K.lookup f36=some ⟨oc36,od36,.func (fnOf "again" "Keeper.again" (eV (bH 30 8)) (cY (bH 30 8)) (aT (bH 30 8)) .none kV36 dc36 pm36 an36 cd36 ct36),sl36⟩)(c36:codeIn K cd36 "Keeper.again" = true)(k36:keepIn K (.ref f36)=true)(h37:FK K "_law_tried" 40 f37 d37)(a38:nsIn K mainGlobals "law" = some (some (.ref f38)))(l38:K.lookup f38=some ⟨oc38,od38,.func (fnOf "law" "law" (eV (bG 42)) (cY (bG 42)) (aT (bG 42)) .none kV38 dc38 pm38 an38 cd38 ct38),sl38⟩)(c38:codeIn K cd38 "law" = true)(k38:keepIn K (.ref f38)=true)(z_len:nsIn K mainGlobals "len" = some none)(z_range:nsIn K mainGlobals "range" = some none)(z_tuple:nsIn K mainGlobals "tuple" = some none)(z_list:nsIn K mainGlobals "list" = some none)(z_sorted:nsIn K mainGlobals "sorted" = some none)(z_all:nsIn K mainGlobals "all" = some none)(z_any:nsIn K mainGlobals "any" = some none)(z_zip:nsIn K mainGlobals "zip" = some none)(z_min:nsIn K mainGlobals "min" = some none)(z_max:nsIn K mainGlobals "max" = some none)(z_sum:nsIn K mainGlobals "sum" = some none)(z_isinstance:nsIn K mainGlobals "isinstance" = some none)(z_int:nsIn K mainGlobals "int" = some none)(z_bool:nsIn K mainGlobals "bool" = some none)(z_enumerate:nsIn K mainGlobals "enumerate" = some none){kA:ax}{epK:Nat}{hK0 hK1 hK2 hK3 hK4:Int}{tK0 uK0 tK1 uK1 tK2 uK2 tK3 uK3 tK4 uK4:Tok}(zk:nsIn K mainGlobals "DEED_NUMBERS" = some (some (.ref kA)))(lkd:K.lookup kA=some ⟨.type "dict",none,.dict #[⟨hK0,.str "light" tK0,.int 1 uK0⟩,⟨hK1,.str "douse" tK1,.int 1 uK1⟩,⟨hK2,.str "want" tK2,.int 2 uK2⟩,⟨hK3,.str "link" tK3,.int 2 uK3⟩,⟨hK4,.str "cut" tK4,.int 2 uK4⟩] epK,#[]⟩)(skd:(kA==sysModules)=false)(hkd0:hK0=hashStr w "light")(hkd1:hK1=hashStr w "douse")(hkd2:hK2=hashStr w "want")(hkd3:hK3=hashStr w "link")(hkd4:hK4=hashStr w "cut"){u_MOST_WANTED:Nat}(z_MOST_WANTEDx:nsIn K mainGlobals "MOST_WANTED" = some (some (.int 60 u_MOST_WANTED))){C_HearthError C_BadSet C_BadDeed C_NoSuch:ax}(aX_HE:nsIn K mainGlobals "HearthError" = some (some (.ref C_HearthError)))(aX_BS:nsIn K mainGlobals "BadSet" = some (some (.ref C_BadSet)))(aX_BD:nsIn K mainGlobals "BadDeed" = some (some (.ref C_BadDeed)))(aX_NS:nsIn K mainGlobals "NoSuch" = some (some (.ref C_NoSuch)))(zX_BW:nsIn K mainGlobals "BadWeb" = some none)(zX_BO:nsIn K mainGlobals "BadOrder" = some none)(zX_BP:nsIn K mainGlobals "BadPrices" = some none)(zX_BB:nsIn K mainGlobals "BadBoard" = some none)(zX_NW:nsIn K mainGlobals "NotWood" = some none)(zX_NP:nsIn K mainGlobals "NoPaper" = some none)(zX_TM:nsIn K mainGlobals "TooMany" = some none)(zX_NT:nsIn K mainGlobals "NoText" = some none)(zX_OR:nsIn K mainGlobals "OddRound" = some none)(y_fg:specialIn K (.builtin "object.__class__") "__get__" = some (some (.builtin "getset_descriptor.__get__")))(y_ft:takesIn K (.builtin "object.__class__")=some true)(z_VE:nsIn K mainGlobals "ValueError" = some none)(y1_HE:isClsIn K C_HearthError=true)(y2_HE:typeIn K (.ref C_HearthError)=some (.type "type"))(y3_HE:findIn K (.ref C_HearthError) "__getattribute__" = some (some (.builtin "BaseException.__getattribute__")))(y4_HE:findIn K (.ref C_HearthError) "__getattr__" = some none)(y5_HE:findIn K (.ref C_HearthError) "__class__" = some (some (.builtin "object.__class__")))(y6_HE:mroIn K C_HearthError (.type "object")=some true)(y7_HE:mroIn K C_HearthError (.type "BaseException")=some true)(y1_BS:isClsIn K C_BadSet=true)(y2_BS:typeIn K (.ref C_BadSet)=some (.type "type"))(y3_BS:findIn K (.ref C_BadSet) "__getattribute__" = some (some (.builtin "BaseException.__getattribute__")))(y4_BS:findIn K (.ref C_BadSet) "__getattr__" = some none)(y5_BS:findIn K (.ref C_BadSet) "__class__" = some (some (.builtin "object.__class__")))(y6_BS:mroIn K C_BadSet (.type "object")=some true)(y7_BS:mroIn K C_BadSet (.type "BaseException")=some true)(y1_BD:isClsIn K C_BadDeed=true)(y2_BD:typeIn K (.ref C_BadDeed)=some (.type "type"))(y3_BD:findIn K (.ref C_BadDeed) "__getattribute__" = some (some (.builtin "BaseException.__getattribute__")))(y4_BD:findIn K (.ref C_BadDeed) "__getattr__" = some none)(y5_BD:findIn K (.ref C_BadDeed) "__class__" = some (some (.builtin "object.__class__")))(y6_BD:mroIn K C_BadDeed (.type "object")=some true)(y7_BD:mroIn K C_BadDeed (.type "BaseException")=some true)(y1_NS:isClsIn K C_NoSuch=true)(y2_NS:typeIn K (.ref C_NoSuch)=some (.type "type"))(y3_NS:findIn K (.ref C_NoSuch) "__getattribute__" = some (some (.builtin "BaseException.__getattribute__")))(y4_NS:findIn K (.ref C_NoSuch) "__getattr__" = some none)(y5_NS:findIn K (.ref C_NoSuch) "__class__" = some (some (.builtin "object.__class__")))(y6_NS:mroIn K C_NoSuch (.type "object")=some true)(y7_NS:mroIn K C_NoSuch (.type "BaseException")=some true)(sB_HE:subIn K (.ref C_HearthError) (.type "BaseException")=some true)(s_BS_HE:subIn K (.ref C_BadSet) (.ref C_HearthError)=some true)(s_BD_HE:subIn K (.ref C_BadDeed) (.ref C_HearthError)=some true)(s_NS_HE:subIn K (.ref C_NoSuch) (.ref C_HearthError)=some true)(q_BD:excIn K C_BadDeed [.type "ValueError",.type "Exception",.type "BaseException",.type "object"] "ValueError.__new__" = true)(q_BS:excIn K C_BadSet [.type "ValueError",.type "Exception",.type "BaseException",.type "object"] "ValueError.__new__" = true)(q_NS:excIn K C_NoSuch [.type "ValueError",.type "Exception",.type "BaseException",.type "object"] "ValueError.__new__" = true)
 :∃fd:FuncData,(∀(s:aw) (v:av),BindsTo s fd ⟨[v],[]⟩ [("script",v)])/\∀base:Heap,K.In base->base.Ns mainGlobals mg->bZ l.prog w K mg base fE 12 fa fd ["script"] (uZ K):=by
 have e:=hfa.symm.trans (mg_of X G a38);cases e;have F6:=jP (st:=bH 30 1) l6 c6 k6;have F7:=jP (st:=bH 30 2) l7 c7 k7;have F8:=jP (st:=bH 30 5) l8 c8 k8;have F16:=jP (st:=bH 30 0) l16 c16 k16;have F32:=jP (st:=bH 30 3) l32 c32 k32;have F33:=jP (st:=bH 30 9) l33 c33 k33;have F34:=jP (st:=bH 30 6) l34 c34 k34;have F35:=jP (st:=bH 30 7) l35 c35 k35;have F36:=jP (st:=bH 30 8) l36 c36 k36;have F38:=jP (st:=bG 42) l38 c38 k38;have m38:=mg_of X G a38;have kc:KC K CK:=⟨aK,⟨yK1,yK2,yK3,yK4⟩,yK5,yK6⟩;have B:Bt mg:=⟨mg_none_of X G z_len,mg_none_of X G z_range,mg_none_of X G z_tuple,mg_none_of X G z_list,mg_none_of X G z_sorted,mg_none_of X G z_all,mg_none_of X G z_any,mg_none_of X G z_zip,mg_none_of X G z_min,mg_none_of X G z_max,mg_none_of X G z_sum,mg_none_of X G z_isinstance,mg_none_of X G z_int,mg_none_of X G z_bool,mg_none_of X G z_enumerate⟩
 have kd_DEED_NUMBERS:KD l.prog w K mg "DEED_NUMBERS" (pC vF):=bi5 (mg_of X G zk) lkd ⟨rfl,rfl,rfl⟩ rfl skd (by
  subst hkd0 hkd1 hkd2 hkd3 hkd4
  exact bk5)
 have m_MOST_WANTED:=mg_of X G z_MOST_WANTEDx;refine⟨fnOf "law" "law" (eV (bG 42)) (cY (bG 42)) (aT (bG 42)) .none kV38 dc38 pm38 an38 cd38 ct38,λs v=>.of_eq rfl,λbase KB _=>?_⟩;have XK_HearthError:v7 K C_HearthError:=⟨y1_HE,y2_HE,y3_HE,y4_HE,y5_HE,y_fg,y_ft,y6_HE,y7_HE⟩;have XK_BadSet:v7 K C_BadSet:=⟨y1_BS,y2_BS,y3_BS,y4_BS,y5_BS,y_fg,y_ft,y6_BS,y7_BS⟩;have XK_BadDeed:v7 K C_BadDeed:=⟨y1_BD,y2_BD,y3_BD,y4_BD,y5_BD,y_fg,y_ft,y6_BD,y7_BD⟩;have XK_NoSuch:v7 K C_NoSuch:=⟨y1_NS,y2_NS,y3_NS,y4_NS,y5_NS,y_fg,y_ft,y6_NS,y7_NS⟩
 have cat_HearthError:C9 K mg "HearthError":=⟨C_HearthError,mg_of X G aX_HE,⟨y1_HE,y2_HE,sB_HE⟩,λn C h2 h1=>by
  obtain⟨hm,hb⟩:=bc5 h2
  simp only[C8,by2,bz2,bC3]at hm;rcases hm with rfl|rfl|rfl|rfl|rfl|rfl|rfl|rfl|rfl|rfl|rfl|rfl
  ·rw[zX_BW]at h1;cases h1
  ·rw[aX_BS]at h1;cases h1;exact s_BS_HE
  ·rw[zX_BO]at h1;cases h1
  ·rw[zX_BP]at h1;cases h1
  ·rw[zX_BB]at h1;cases h1
  ·rw[aX_BD]at h1;cases h1;exact s_BD_HE
  ·rw[zX_NW]at h1;cases h1
  ·rw[zX_NP]at h1;cases h1
  ·rw[aX_NS]at h1;cases h1;exact s_NS_HE
  ·rw[zX_TM]at h1;cases h1
  ·rw[zX_NT]at h1;cases h1
  ·rw[zX_OR]at h1;cases h1⟩
 have x_BadDeed:Xc K mg base "BadDeed":=⟨C_BadDeed,_,_,_,_,E1 KB (mg_of X G aX_BD) q_BD,PySem.F.excBase_ValueError,aX_BD⟩;have x_BadSet:Xc K mg base "BadSet":=⟨C_BadSet,_,_,_,_,E1 KB (mg_of X G aX_BS) q_BS,PySem.F.excBase_ValueError,aX_BS⟩;have x_NoSuch:Xc K mg base "NoSuch":=⟨C_NoSuch,_,_,_,_,E1 KB (mg_of X G aX_NS) q_NS,PySem.F.excBase_ValueError,aX_NS⟩;have D0:=aX3 (br2 (P:=l.prog) (w:=w) (base:=base) B h0.F) (h0.F.binds (ps:=["things"]) λ_ _ _ _ _ _ us hl=>by obtain⟨_,rfl⟩:=us1 hl;rfl) h0.F.kp (mg_of X G h0.a);have D1:=br5 (P:=l.prog) (w:=w) (base:=base) B (h1.M X G);have D2:=aX5 (br3 (P:=l.prog) (w:=w) (mg:=mg) (base:=base) h2.F) (h2.F.binds (ps:=["web"]) λ_ _ _ _ _ _ us hl=>by obtain⟨_,rfl⟩:=us1 hl;rfl) h2.F.kp (mg_of X G h2.a);have D3:=br6 (P:=l.prog) (w:=w) (base:=base) B (h3.M X G);have DD3:=br7 (P:=l.prog) (w:=w) (base:=base) B (h3.M X G);have D4:=br9 (P:=l.prog) (w:=w) (base:=base) B (h4.M X G);have D5:=bs1 (P:=l.prog) (w:=w) (base:=base) B (h5.M X G)  kd_DEED_NUMBERS;have D6:=bs3 (P:=l.prog) (w:=w) (base:=base) B kc ⟨a6,n6,k6⟩ F6;have D7:=bs5 (P:=l.prog) (w:=w) (base:=base) B kc ⟨a7,n7,k7⟩ F7;have D8:=bs7 (P:=l.prog) (w:=w) (base:=base) B kc ⟨a8,n8,k8⟩ F8;have D9:=bs9 (P:=l.prog) (w:=w) (base:=base) B (h9.M X G);have D10:=bt0 (P:=l.prog) (w:=w) (base:=base) B (h10.M X G);have D11:=bt1 (P:=l.prog) (w:=w) (base:=base) B (h11.M X G);have D12:=bt2 (P:=l.prog) (w:=w) (base:=base) B (h12.M X G);have D13:=bt4 (P:=l.prog) (w:=w) (base:=base) B (h13.M X G) D1;have D14:=bt5 (P:=l.prog) (w:=w) (base:=base) B (h14.M X G) D3;have DD14:=bt6 (P:=l.prog) (w:=w) (base:=base) B (h14.M X G) DD3;have D15:=bt8 (P:=l.prog) (w:=w) (base:=base) B (h15.M X G) D4;have D16:=bu0 (P:=l.prog) (w:=w) (base:=base) kc ⟨yK7,a16,n16,yK8⟩ F16 (mg_of X G aK);have D17:=bu1 (P:=l.prog) (w:=w) (base:=base) B (h17.M X G) D9;have D18:=bu2 (P:=l.prog) (w:=w) (base:=base) B (h18.M X G) D10;have D19:=bu4 (P:=l.prog) (w:=w) (base:=base) B (h19.M X G) D0 D13;have D20:=bu6 (P:=l.prog) (w:=w) (base:=base) B (h20.M X G) D1 D15
 have D21:=bu7 (P:=l.prog) (w:=w) (base:=base) B (h21.M X G) D13 D14 x_BadDeed;have D22:=bu8 (P:=l.prog) (w:=w) (base:=base) B (h22.M X G) D13 x_BadDeed m_MOST_WANTED;have D23:=bu9 (P:=l.prog) (w:=w) (base:=base) B (h23.M X G) D13 DD14 x_BadDeed;have D24:=bv0 (P:=l.prog) (w:=w) (base:=base) B (h24.M X G) D9 D17;have D25:=bv1 (P:=l.prog) (w:=w) (base:=base) B (h25.M X G) D18;have D26:=bv3 (P:=l.prog) (w:=w) (base:=base) B (h26.M X G) D19 x_BadSet;have D27:=bv4 (P:=l.prog) (w:=w) (base:=base) B (h27.M X G) D26 D3 D2 D20;have D28:=bv5 (P:=l.prog) (w:=w) (base:=base) B (h28.M X G) D26 D5 D21 D22 D23;have D29:=bv6 (P:=l.prog) (w:=w) (base:=base) B (h29.M X G) D27;have D30:=bv7 (P:=l.prog) (w:=w) (base:=base) B (h30.M X G) D12 D28;have D31:=bv9 (P:=l.prog) (w:=w) (base:=base) B (h31.M X G) D29;have D32:=bw1 (P:=l.prog) (w:=w) (base:=base) B kc ⟨a32,n32,k32⟩ F32 D31 D6 D7;have D33:=bw2 (P:=l.prog) (w:=w) (base:=base) B kc ⟨a33,n33,k33⟩ F33 D32 D14;have D34:=bw3 (P:=l.prog) (w:=w) (base:=base) B kc ⟨a34,n34,k34⟩ F34 D28 D6 D7 D32 D5 D33;have D35:=bw4 (P:=l.prog) (w:=w) (base:=base) B kc ⟨a35,n35,k35⟩ F35 D32 D33 x_NoSuch;have D36:=bw5 (P:=l.prog) (w:=w) (base:=base) B kc ⟨a36,n36,k36⟩ F36 D32 D33 x_NoSuch;have D37:=bw6 (P:=l.prog) (w:=w) (base:=base) B h37.F (mg_of X G h37.a) D35 D36 D34 D11 cat_HearthError;exact aY0 (bw7 B F38 D9 D24 D16 D32 D37 D30 D8 D6 D7 D34 D25)
theorem bw9 {l:OpenLaw}{q:ay}{loose:List Str}{XP:(Str->Option av)->Heap->Prop}{YP:ba->Heap->Prop}{d:DefRec}{K:Params->Frag}(hn:l.most=some 63)(hdf:d.params.defaults = [])(hY:∀(w:ba) (h:Heap),YP w h->(K w.params).In h)(F:∀(w:ba) (mg:Str->Option av) (fa:ax) (h:Heap),(K w.params).In h->h.Ns mainGlobals mg->mg d.name=some (.ref fa)->
   ∃fd:FuncData,(∀(s:aw) (u:av),BindsTo s fd ⟨[u],[]⟩ [("script",u)])/\∀base:Heap,(K w.params).In base->base.Ns mainGlobals mg->bZ l.prog w (K w.params) mg base fE 12 fa fd ["script"] (uZ (K w.params))) :
  WalkO q loose XP YP l.row.toRowW d [] (λf vs=>PySem.call f vs):=
 L2.aH8 (n:=63) (k:=12) (x:="script") (CX:=λ_=>fE) (sp:=λw=>uZ (K w.params)) hn (by decide) hdf ⟨rfl,by decide,by decide⟩ hY F (λ_ _ a ns hl hO hS=>⟨a,ns,rfl,aY1 hO hS,hl,λ_=>rfl⟩) λ_ _ _ _ _ z=>z
end K_k90
open PySem PySem.W PyProof.Rows
theorem PySem.W.Fast.te13052408679150730464 : True := trivial
theorem PySem.W.Fast.te16555476440528808052 : True := trivial
theorem PySem.W.Fast.te5369427470323729400 : True := trivial
set_option maxRecDepth 100000 in
set_option maxHeartbeats 0 in
theorem PySem.Challenge.cw_kindleweb_k90_whole_from_the_begin_holds : PySem.Challenge.rw_kindleweb_k90_whole_from_the_begin.Holds := by
 w_on;o_law;k_head;(case hw => w_witness2)
 k_fill
 refine K_k90.bw9 (l := PySem.Challenge.rw_kindleweb_k90_whole_from_the_begin) rfl rfl (λw h Y => PySem.W.kIn_of Y) ?F
 case F =>
  intro w mg fa h KX G hmg
  refine' K_k90.bw8 KX G hmg ?h0 ?h1 ?h2 ?h3 ?h4 ?h5 ?aK ?yK1 ?yK2 ?yK3 ?yK4 ?yK5 ?yK6 ?yK7 ?yK8 ?n6 ?a6 ?l6 ?c6 ?k6 ?n7 ?a7 ?l7 ?c7 ?k7 ?n8 ?a8 ?l8 ?c8 ?k8 ?h9 ?h10 ?h11 ?h12 ?h13 ?h14 ?h15 ?n16 ?a16 ?l16 ?c16 ?k16 ?h17 ?h18 ?h19 ?h20 ?h21 ?h22 ?h23 ?h24 ?h25 ?h26 ?h27 ?h28 ?h29 ?h30 ?h31 ?n32 ?a32 ?l32 ?c32 ?k32 ?n33 ?a33 ?l33 ?c33 ?k33 ?n34 ?a34 ?l34 ?c34 ?k34 ?n35 ?a35 ?l35 ?c35 ?k35 ?n36 ?a36 ?l36 ?c36 ?k36 ?h37 ?a38 ?l38 ?c38 ?k38 ?z_len ?z_range ?z_tuple ?z_list ?z_sorted ?z_all ?z_any ?z_zip ?z_min ?z_max ?z_sum ?z_isinstance ?z_int ?z_bool ?z_enumerate ?zk ?lkd ?skd ?hkd0 ?hkd1 ?hkd2 ?hkd3 ?hkd4 ?z_MOST_WANTEDx ?aX_HE ?aX_BS ?aX_BD ?aX_NS ?zX_BW ?zX_BO ?zX_BP ?zX_BB ?zX_NW ?zX_NP ?zX_TM ?zX_NT ?zX_OR ?y_fg ?y_ft ?z_VE ?y1_HE ?y2_HE ?y3_HE ?y4_HE ?y5_HE ?y6_HE ?y7_HE ?y1_BS ?y2_BS ?y3_BS ?y4_BS ?y5_BS ?y6_BS ?y7_BS ?y1_BD ?y2_BD ?y3_BD ?y4_BD ?y5_BD ?y6_BD ?y7_BD ?y1_NS ?y2_NS ?y3_NS ?y4_NS ?y5_NS ?y6_NS ?y7_NS ?sB_HE ?s_BS_HE ?s_BD_HE ?s_NS_HE ?q_BD ?q_BS ?q_NS
  (case h0|h1|h2|h3|h4|h5|h9|h10|h11|h12|h13|h14|h15|h17|h18|h19|h20|h21|h22|h23|h24|h25|h26|h27|h28|h29|h30|h31|h37 => exact⟨by k_is, ⟨⟨_, _, _, _, _, _, _, _, _, rfl, by k_is, by k_is⟩, by k_is⟩⟩)
  (case aK|yK1|yK2|yK3|yK4|yK5|yK6|yK7|yK8|n6|a6|l6|c6|k6|n7|a7|l7|c7|k7|n8|a8|l8|c8|k8|n16|a16|l16|c16|k16|n32|a32|l32|c32|k32|n33|a33|l33|c33|k33|n34|a34|l34|c34|k34|n35|a35|l35|c35|k35|n36|a36|l36|c36|k36|a38|l38|c38|k38|z_len|z_range|z_tuple|z_list|z_sorted|z_all|z_any|z_zip|z_min|z_max|z_sum|z_isinstance|z_int|z_bool|z_enumerate|zk|lkd => k_is)
  (case skd => decide)
  (case hkd0 => rfl)
  (case hkd1 => rfl)
  (case hkd2 => rfl)
  (case hkd3 => rfl)
  (case hkd4 => rfl)
  (case z_MOST_WANTEDx|aX_HE|aX_BS|aX_BD|aX_NS|zX_BW|zX_BO|zX_BP|zX_BB|zX_NW|zX_NP|zX_TM|zX_NT|zX_OR|y_fg|y_ft|z_VE|y1_HE|y2_HE|y3_HE|y4_HE|y5_HE|y6_HE|y7_HE|y1_BS|y2_BS|y3_BS|y4_BS|y5_BS|y6_BS|y7_BS|y1_BD|y2_BD|y3_BD|y4_BD|y5_BD|y6_BD|y7_BD|y1_NS|y2_NS|y3_NS|y4_NS|y5_NS|y6_NS|y7_NS|sB_HE|s_BS_HE|s_BD_HE|s_NS_HE => k_is)
  (case q_BD|q_BS|q_NS => k_exc)


